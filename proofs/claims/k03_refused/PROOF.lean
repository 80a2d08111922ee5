import PyProof.Rows.All
import Wide.All
import OpenK.AllK
import Wide.FinOn
import Lean
import PyProof.EqAt
import PyProof.EqKinds
import PyProof.TupleCall
import PyProof.NeKinds
import KE.KTryMore
import KE.KTryDeep
import KE.RegKTryMore
import PyProof.ExcBaseAll.ValueError
import PyProof.ExcClass2
import PyProof.NsDelKeeps
import OpenK.KOwn
import OpenK.KRaise
import OpenK.KMore
import KE.KIsAll
import KE.KIsNot
import PyProof.ExcArgs
import OpenK.KDescr
import PyProof.Rows.EnumRows
import PyProof.EnumMake
import PyProof.ListRange
import KE.RegKIsAll
import PySem.Challenge.RW_ridebook_k03_refused
set_option Elab.async false
set_option linter.all false
set_option maxRecDepth 100000
set_option maxHeartbeats 4000000
/-! THE HAND LAYER, for ints, bools, texts, own classes, LISTS and tuples (index, slices, in, append, pop ..), calls, loops. Paste it whole ahead of your own text; what your proof does not reach may be deleted. -/
namespace L2
open PySem PySem.Spec PyProof.Rows

/-- a key: an int or a str -/
abbrev Key := Sum Int Str
def keyIs : Key → Value → Bool
  | .inl k, v => Value.isInt k v
  | .inr x, v => Value.isStrOf x v
def keyH (w : World) : Key → Int
  | .inl k => hashInt k
  | .inr x => hashStr w x
theorem keyIs_shape : ∀ {k : Key} {v : Value}, keyIs k v = true → (∃ i t, k = Sum.inl i ∧ v = Value.int i t) ∨ (∃ x t, k = Sum.inr x ∧ v = Value.str x t)
  | .inl i, v, h => by
    obtain ⟨t, e⟩ := Value.isInt_shape (k := i) (v := v) h
    exact .inl ⟨i, t, rfl, e⟩
  | .inr x, v, h => by
    obtain ⟨t, e⟩ := Value.isStrOf_shape (x := x) (v := v) h
    exact .inr ⟨x, t, rfl, e⟩
theorem key_ll (a b : Int) : decide ((Sum.inl a : Key) = Sum.inl b) = (a == b) := by
  by_cases e : a = b
  · subst e; simp
  · have h : ¬ (Sum.inl a : Key) = Sum.inl b := fun q => e (Sum.inl.inj q)
    rw [decide_eq_false h]
    exact (beq_eq_false_iff_ne.mpr e).symm
theorem key_rr (a b : Str) : decide ((Sum.inr a : Key) = Sum.inr b) = decide (a = b) := by
  by_cases e : a = b
  · subst e; simp
  · have h : ¬ (Sum.inr a : Key) = Sum.inr b := fun q => e (Sum.inr.inj q)
    rw [decide_eq_false h, decide_eq_false e]
theorem key_lr (a : Int) (b : Str) : decide ((Sum.inl a : Key) = Sum.inr b) = false := decide_eq_false (fun q => nomatch q)
theorem key_rl (a : Str) (b : Int) : decide ((Sum.inr a : Key) = Sum.inl b) = false := decide_eq_false (fun q => nomatch q)

def mixKind (prog : Program) (w : World) : PySem.KeyKind prog w Key where
  is := keyIs
  hash := keyH w
  inj := fun v a b ha hb => by
    rcases keyIs_shape ha with ⟨i, t, rfl, rfl⟩ | ⟨x, t, rfl, rfl⟩
    · rcases keyIs_shape hb with ⟨j, u, rfl, e⟩ | ⟨y, u, rfl, e⟩
      · injection e with e1 _; rw [e1]
      · exact nomatch e
    · rcases keyIs_shape hb with ⟨j, u, rfl, e⟩ | ⟨y, u, rfl, e⟩
      · exact nomatch e
      · injection e with e1 _; rw [e1]
  byValue := fun k v h => by
    rcases keyIs_shape h with ⟨i, t, rfl, rfl⟩ | ⟨x, t, rfl, rfl⟩ <;> rfl
  pyHash := fun hv h => by
    rcases keyIs_shape hv with ⟨i, t, rfl, rfl⟩ | ⟨x, t, rfl, rfl⟩
    · exact wpAny_pyHash_int h
    · exact wpAny_pyHash_str h
  eqBool := fun hu hv h => by
    rcases keyIs_shape hu with ⟨i, t, rfl, rfl⟩ | ⟨x, t, rfl, rfl⟩
    · rcases keyIs_shape hv with ⟨j, u, rfl, rfl⟩ | ⟨y, u, rfl, rfl⟩
      · rw [key_ll] at h; exact wpAny_eqBool_int h
      · rw [key_lr] at h; exact SeqAt.EqAt.int_str i t y u _ _ _ _ h
    · rcases keyIs_shape hv with ⟨j, u, rfl, rfl⟩ | ⟨y, u, rfl, rfl⟩
      · rw [key_rl] at h; exact SeqAt.EqAt.str_int x t j u _ _ _ _ h
      · rw [key_rr] at h; exact wpAny_eqBool_str h
  «strs» := fun k x t v h => by
    rcases keyIs_shape h with ⟨i, u, rfl, e⟩ | ⟨y, u, rfl, e⟩
    · exact nomatch e
    · injection e with e1 _
      subst e1
      cases v <;> rfl

end L2

namespace L2
open PySem PySem.Spec PyProof.Rows

/-- a value, without the heap -/
inductive V where
  | non | bl (b : Bool) | int (i : Int) | str (x : Str) | byt (b : Array UInt8) | flt (b : UInt64) | ref (a : Addr) | ty (n : String)
  deriving DecidableEq

def RelV : V → Value → Prop
  | .non, u => u = Value.none
  | .bl b, u => u = Value.bool b
  | .int i, u => ∃ t, u = Value.int i t
  | .str x, u => ∃ t, u = Value.str x t
  | .byt b, u => ∃ t, u = Value.bytes b t
  | .flt b, u => ∃ t, u = Value.float b t
  | .ref a, u => u = Value.ref a
  | .ty n, u => u = Value.type n

abbrev Vals : List V → List Value → Prop := Paired RelV
theorem Vals.length {xs : List V} {us : List Value} (r : Vals xs us) : xs.length = us.length := Paired.length r
theorem Vals.get : ∀ {xs : List V} {us : List Value} {i : Nat} {x : V}, Vals xs us → xs[i]? = some x → ∃ u, us[i]? = some u ∧ RelV x u
  | _, _, _, _, .nil, e => by simp at e
  | _, _, 0, _, .cons r _, e => by simp at e; subst e; exact ⟨_, rfl, r⟩
  | _, _, i + 1, x, .cons _ t, e => by
    obtain ⟨u, h1, h2⟩ := Vals.get (i := i) (x := x) t (by simpa using e)
    exact ⟨u, by simpa using h1, h2⟩
theorem Vals.set {x : V} {u : Value} (r : RelV x u) : ∀ {xs : List V} {us : List Value} (i : Nat), Vals xs us → Vals (xs.set i x) (us.set i u)
  | _, _, _, .nil => .nil
  | _, _, 0, .cons _ t => .cons r t
  | _, _, i + 1, .cons q t => .cons q (Vals.set r i t)
theorem Vals.append : ∀ {xs ys : List V} {us ws : List Value}, Vals xs us → Vals ys ws → Vals (xs ++ ys) (us ++ ws)
  | _, _, _, _, .nil, s => s
  | _, _, _, _, .cons r t, s => .cons r (Vals.append t s)
theorem Vals.take : ∀ {xs : List V} {us : List Value} (n : Nat), Vals xs us → Vals (xs.take n) (us.take n)
  | _, _, 0, _ => .nil
  | _, _, _ + 1, .nil => .nil
  | _, _, n + 1, .cons r t => .cons r (Vals.take n t)
theorem Vals.drop : ∀ {xs : List V} {us : List Value} (n : Nat), Vals xs us → Vals (xs.drop n) (us.drop n)
  | _, _, 0, r => r
  | _, _, _ + 1, .nil => .nil
  | _, _, n + 1, .cons _ t => Vals.drop n t
def RelO : Option V → Option Value → Prop
  | some v, some u => RelV v u
  | none, none => True
  | _, _ => False
def KV {κ : Type} : List (κ × V) → List (κ × Value) → Prop := Paired fun (p : κ × V) (q : κ × Value) => p.1 = q.1 ∧ RelV p.2 q.2

/-- a key of a dict (00_mix): an int or a text -/
def kV : Key → V
  | .inl i => .int i
  | .inr x => .str x

/-- what stands at a tracked address -/
inductive HO where
  /-- a list -/
  | lst (xs : List V)
  /-- a tuple (never changes) -/
  | tup (xs : List V)
  /-- a dict whose keys are ints and texts; one whose keys are tuples of ints and texts (the empty one is both) -/
  | dK (kvs : List (Key × V)) | dT (kvs : List (List Key × V))
  /-- a set of ints: its members, its size -/
  | set (S : Int → Bool) (n : Nat)
  /-- an instance of the class at C, its dict at dx, its attributes -/
  | ins (C dx : Addr) (fs : List (Str × V))
  /-- the dict of the instance at x -/
  | own (x : Addr)
  /-- the dict of an exception -/
  | xd (fs : List (Str × V))
  /-- a bound method, f of x -/
  | met (f x : Addr)
  /-- a range object lo, lo + 1, .. below hi -/
  | rng (lo hi : Int)
  /-- a thing that is known to the object (the script; a dict while a loop walks it): read, never written while it is so -/
  | frz (o : Obj) (u : HO)
  /-- a code object's table -/
  | tbl (ps : Array Value)
  /-- any other thing, by what is true of its one object (a def of one's own: SetO a S n := HO.ext fun h => ..) -/
  | ext (φ : Heap → Prop)

abbrev Hp := Addr → Option HO
def upd (H : Hp) (a : Addr) (o : HO) : Hp := fun b => if b = a then some o else H b
theorem upd_same {H : Hp} {a : Addr} {o : HO} : upd H a o a = some o := by unfold upd; rw [if_pos rfl]
theorem upd_ne {H : Hp} {a b : Addr} {o : HO} (h : b ≠ a) : upd H a o b = H b := by unfold upd; rw [if_neg h]
/-- two objects of different content stand apart -/
theorem ne_of {H : Hp} {a b : Addr} {o u : HO} (h : H a = some o) (h' : H b = some u) (d : o ≠ u) : a ≠ b := by
  intro e; subst e; rw [h] at h'; exact d (Option.some.inj h')
theorem ne_of_none {H : Hp} {a b : Addr} {o : HO} (h : H a = some o) (h' : H b = none) : a ≠ b := by
  intro e; subst e; rw [h] at h'; cases h'

section
variable (P : Program) (w : World)
def ObjOk (H : Hp) (h : Heap) (a : Addr) : HO → Prop
  | .lst xs => xs.length ≤ sizeLine ∧ ∃ (its : List Value) (n : Nat), Vals xs its ∧ h.get? a = some { cls := .type "list", data := .seq its.toArray n }
  | .tup xs => xs.length ≤ sizeLine ∧ ∃ its : List Value, Vals xs its ∧ IsTup h a its.toArray
  | .dK kvs => kvs.length ≤ sizeLine ∧ (a == sysModules) = false ∧ ∃ vs, KV kvs vs ∧ h.DictOf (mixKind P w) a vs
  | .dT kvs => kvs.length ≤ sizeLine ∧ (a == sysModules) = false ∧ ∃ xs : List (List Key × Addr × Value),
      Paired (fun (p : List Key × V) (q : List Key × Addr × Value) => p.1 = q.1 ∧ H q.2.1 = some (.tup (p.1.map kV)) ∧ RelV p.2 q.2.2) kvs xs ∧
      ∃ o es ep, h.get? a = some o ∧ o.ExactDict ∧ o.data = .dict es ep ∧ es.toList = xs.map (entryOfKey (tupleKind (mixKind P w))) ∧ (xs.map (·.1)).Nodup
  | .set S n => h.SetOf (intKind P w) a S n
  | .ins C dx fs => H dx = some (.own a) ∧ fs.length ≤ 1000 ∧ dx ≠ a ∧ h.get? a = some (PySem.W.instObj C dx) ∧
      ∃ mA, h.Ns1 dx mA ∧ (∀ f, RelO (fs.lookup f) (mA f)) ∧ PySem.Within mA (fs.map (·.1))
  | .own _ => ∃ o, h.get? a = some o
  | .xd fs => ∃ mA, h.Ns1 a mA ∧ ∀ f, RelO (fs.lookup f) (mA f)
  | .rng lo hi => ∃ t u v, h.get? a = some { cls := .type "range", data := .fields #[.int lo t, .int hi u, .int 1 v] }
  | .frz o u => h.get? a = some o ∧ ObjOk H h a u
  | .tbl ps => h.get? a = some { cls := .none, data := .fields ps }
  | .met f x => h.get? a = some (PySem.W.methodObj (.ref f) (.ref x))
  | .ext φ => φ h ∧ (∃ o, h.get? a = some o) ∧ ∀ h1 h2 : Heap, φ h1 → (∀ o, h1.get? a = some o → h2.get? a = some o) → φ h2
/-- the abstract heap is held -/
def HOk (H : Hp) (h : Heap) : Prop := ∀ a o, H a = some o → ObjOk P w H h a o
end

section
variable {P : Program} {w : World} {H H' : Hp} {h h' : Heap} {a : Addr} {o : HO}
theorem ObjOk.lt (x : ObjOk P w H h a o) : a < h.objs.size := by
  cases o with
  | lst xs => obtain ⟨_, _, _, _, e⟩ := x; exact Heap.lt_size e
  | tup xs => obtain ⟨_, _, _, p⟩ := x; exact p.lt
  | dK kvs => obtain ⟨_, _, _, _, o, _, _, e, _⟩ := x; exact Heap.lt_size e
  | dT kvs => obtain ⟨_, _, _, _, o, _, _, e, _⟩ := x; exact Heap.lt_size e
  | set S n => obtain ⟨o, _, _, _, e, _⟩ := x; exact Heap.lt_size e
  | ins C dx fs => obtain ⟨_, _, _, e, _⟩ := x; exact Heap.lt_size e
  | own y => obtain ⟨_, e⟩ := x; exact Heap.lt_size e
  | xd fs => obtain ⟨_, ⟨_, _, _, e, _⟩, _⟩ := x; exact Heap.lt_size e
  | rng lo hi => obtain ⟨_, _, _, e⟩ := x; exact Heap.lt_size e
  | frz ob u => obtain ⟨e, _⟩ := x; exact Heap.lt_size e
  | tbl ps => exact Heap.lt_size (show h.get? a = some _ from x)
  | met f y => exact Heap.lt_size (show h.get? a = some _ from x)
  | ext φ => obtain ⟨_, ⟨_, e⟩, _⟩ := x; exact Heap.lt_size e
theorem Paired.mapP {α β : Type} {F G : α → β → Prop} : ∀ {l₁ : List α} {l₂ : List β}, Paired F l₁ l₂ → (∀ a b, F a b → G a b) → Paired G l₁ l₂
  | _, _, .nil, _ => .nil
  | _, _, .cons r t, f => .cons (f _ _ r) (Paired.mapP t f)
theorem Paired.imp' {α β : Type} {F G : α → β → Prop} (f : ∀ a b, F a b → G a b) {l₁ : List α} {l₂ : List β} (r : Paired F l₁ l₂) : Paired G l₁ l₂ := Paired.mapP r f
/-- what an object's description leans on: its own object, its own dict, the tuples -/
theorem ObjOk.stay (x : ObjOk P w H h a o) (k : ∀ b u, (b = a ∨ H b = some (.own a)) → h.get? b = some u → h'.get? b = some u)
    (ho : ∀ b, H b = some (.own a) → H' b = some (.own a)) (ht : ∀ b xs, H b = some (.tup xs) → H' b = some (.tup xs)) : ObjOk P w H' h' a o := by
  induction o with
  | lst xs => obtain ⟨z, its, n, r, e⟩ := x; exact ⟨z, its, n, r, k _ _ (.inl rfl) e⟩
  | tup xs => obtain ⟨z, its, r, ob, e, c⟩ := x; exact ⟨z, its, r, ob, k _ _ (.inl rfl) e, c⟩
  | dK kvs => obtain ⟨z, y, vs, r, ob, es, ep, e, c⟩ := x; exact ⟨z, y, vs, r, ob, es, ep, k _ _ (.inl rfl) e, c⟩
  | dT kvs =>
    obtain ⟨z, y, xs, r, ob, es, ep, e, c⟩ := x
    exact ⟨z, y, xs, Paired.mapP r fun p q z => ⟨z.1, ht _ _ z.2.1, z.2.2⟩, ob, es, ep, k _ _ (.inl rfl) e, c⟩
  | set S n => obtain ⟨ob, es, ep, t, e, c⟩ := x; exact ⟨ob, es, ep, t, k _ _ (.inl rfl) e, c⟩
  | ins C dx fs =>
    obtain ⟨d, z, ne, e, mA, ⟨od, es, ep, e2, c⟩, r⟩ := x
    exact ⟨ho _ d, z, ne, k _ _ (.inl rfl) e, mA, ⟨od, es, ep, k _ _ (.inr d) e2, c⟩, r⟩
  | own y => obtain ⟨ob, e⟩ := x; exact ⟨ob, k _ _ (.inl rfl) e⟩
  | xd fs => obtain ⟨mA, ⟨od, es, ep, e, c⟩, r⟩ := x; exact ⟨mA, ⟨od, es, ep, k _ _ (.inl rfl) e, c⟩, r⟩
  | rng lo hi => obtain ⟨t, u, v, e⟩ := x; exact ⟨t, u, v, k _ _ (.inl rfl) e⟩
  | frz ob u ih => obtain ⟨e, q⟩ := x; exact ⟨k _ _ (.inl rfl) e, ih q⟩
  | tbl ps =>
    have e : h.get? a = some { cls := .none, data := .fields ps } := x
    show h'.get? a = some { cls := .none, data := .fields ps }
    exact k a _ (.inl rfl) e
  | met f y =>
    have e : h.get? a = some (PySem.W.methodObj (.ref f) (.ref y)) := x
    show h'.get? a = some (PySem.W.methodObj (.ref f) (.ref y))
    exact k a _ (.inl rfl) e
  | ext φ => obtain ⟨p, ⟨o, e⟩, st⟩ := x; exact ⟨st _ _ p fun o q => k _ _ (.inl rfl) q, ⟨o, k _ _ (.inl rfl) e⟩, st⟩
theorem HOk.lt (x : HOk P w H h) (e : H a = some o) : a < h.objs.size := (x a o e).lt
theorem HOk.fresh (x : HOk P w H h) (e : h.objs.size ≤ a) : H a = none := by
  cases q : H a with
  | none => rfl
  | some u => exact absurd (Nat.lt_of_lt_of_le (x.lt q) e) (Nat.lt_irrefl _)
/-- every object of the heap is kept -/
theorem HOk.kept (x : HOk P w H h) (k : ∀ b u, h.get? b = some u → h'.get? b = some u) : HOk P w H h' := fun a o e =>
  (x a o e).stay (fun b u _ q => k b u q) (fun _ q => q) fun _ _ q => q
/-- a new object is laid and tracked -/
theorem HOk.laid (x : HOk P w H h) (k : ∀ b u, h.get? b = some u → h'.get? b = some u) (hp : h.objs.size ≤ a) (new : ObjOk P w (upd H a o) h' a o) : HOk P w (upd H a o) h' := fun b u e => by
  have hn := x.fresh hp
  by_cases hb : b = a
  · subst hb; rw [upd_same] at e; cases e; exact new
  · rw [upd_ne hb] at e
    exact (x b u e).stay (fun c v _ q => k c v q) (fun c q => by rw [upd_ne (ne_of_none q hn)]; exact q) fun c xs q => by rw [upd_ne (ne_of_none q hn)]; exact q
end

/-- what may be read as u: it is u, or a known u -/
def Rd (H : Hp) (a : Addr) (u : HO) : Prop := H a = some u ∨ ∃ o, H a = some (.frz o u)
theorem Rd.of {H : Hp} {a : Addr} {u : HO} (h : H a = some u) : Rd H a u := .inl h
theorem Rd.ok {P : Program} {w : World} {H : Hp} {h : Heap} {a : Addr} {u : HO} (r : Rd H a u) (x : HOk P w H h) : ObjOk P w H h a u := by
  rcases r with r | ⟨o, r⟩
  · exact x a u r
  · obtain ⟨_, q⟩ := x a _ r
    exact q
/-- what may be written -/
def Mut : Option HO → Prop
  | some (.lst _) => True
  | some (.dK _) => True
  | some (.dT _) => True
  | some (.set _ _) => True
  | some (.ins _ _ _) => True
  | some (.ext _) => True
  | _ => False
section
variable {P : Program} {w : World} {H : Hp} {h h' : Heap} {x e : Addr} {o' : HO}
/-- the object at e is changed: x itself, or the dict of the instance x -/
theorem HOk.write (ok : HOk P w H h) (mu : Mut (H x)) (he : e = x ∨ H e = some (.own x)) (k : ∀ b u, b ≠ e → h.get? b = some u → h'.get? b = some u) (heo : ∃ u, h'.get? e = some u)
    (new : ObjOk P w (upd H x o') h' x o') : HOk P w (upd H x o') h' := fun b u q => by
  have nown : ∀ c y, H c = some (.own y) → c ≠ x := fun c y r z => by subst z; rw [r] at mu; exact mu
  have ntup : ∀ c xs, H c = some (.tup xs) → c ≠ x := fun c xs r z => by subst z; rw [r] at mu; exact mu
  by_cases hb : b = x
  · subst hb; rw [upd_same] at q; cases q; exact new
  · rw [upd_ne hb] at q
    by_cases hbe : b = e
    · have q' : H b = some (.own x) := by
        rcases he with z | z
        · exact absurd (hbe.trans z) hb
        · rw [hbe]; exact z
      rw [q] at q'; cases q'
      obtain ⟨v, hv⟩ := heo
      exact ⟨v, by rw [hbe]; exact hv⟩
    · refine (ok b u q).stay (fun c v hc r => k c v ?_ r) (fun c r => by rw [upd_ne (nown c b r)]; exact r) fun c xs r => by rw [upd_ne (ntup c xs r)]; exact r
      rcases hc with rfl | hc
      · exact hbe
      · rintro rfl
        rcases he with z | z
        · exact nown c b hc z
        · rw [hc] at z; cases z; exact hb rfl
end

/-! ### kept unless tracked; of the frames at fs (the callers') the slots may change (an exception that passes writes there); of the records at ex (iterators) nothing is said -/
structure Un (fs ex : List Addr) (H H' : Hp) (h h' : Heap) : Prop where
  keep : ∀ b o, h.get? b = some o → H b = none → b ∉ fs → b ∉ ex → h'.get? b = some o
  slot : ∀ b o, h.get? b = some o → H b = none → b ∈ fs → b ∉ ex → ∃ sl, h'.get? b = some { o with slots := sl }
  free : ∀ b o, h.get? b = some o → H b = none → b ∉ ex → H' b = none
  there : ∀ b o, h.get? b = some o → b ∉ ex → ∃ o', h'.get? b = some o'
  tups : ∀ b xs, H b = some (.tup xs) → H' b = some (.tup xs)
  frzs : ∀ b o u, H b = some (.frz o u) → H' b = some (.frz o u)
  tbls : ∀ b ps, H b = some (.tbl ps) → ∃ more, H' b = some (.tbl (ps ++ more))
section
variable {fs fs' ex ex' : List Addr} {H H1 H2 : Hp} {h h1 h2 h' : Heap} {a x e : Addr} {o : HO}
theorem Un.any (u : Un fs ex H H1 h h1) {b : Addr} {ob : Obj} (q : h.get? b = some ob) (n : H b = none) (hx : b ∉ ex) : ∃ sl, h1.get? b = some { ob with slots := sl } := by
  by_cases hb : b ∈ fs
  · exact u.slot b ob q n hb hx
  · exact ⟨ob.slots, u.keep b ob q n hb hx⟩
theorem Un.trans (a : Un fs ex H H1 h h1) (b : Un fs ex H1 H2 h1 h2) : Un fs ex H H2 h h2 where
  keep := fun c ob q n hc hx => b.keep c ob (a.keep c ob q n hc hx) (a.free c ob q n hx) hc hx
  slot := fun c ob q n hc hx => by
    obtain ⟨sl, e1⟩ := a.slot c ob q n hc hx
    obtain ⟨sl', e2⟩ := b.slot c _ e1 (a.free c ob q n hx) hc hx
    exact ⟨sl', e2⟩
  free := fun c ob q n hx => by
    obtain ⟨o', e1⟩ := a.there c ob q hx
    exact b.free c o' e1 (a.free c ob q n hx) hx
  there := fun c ob q hx => by
    obtain ⟨o', e1⟩ := a.there c ob q hx
    exact b.there c o' e1 hx
  tups := fun c xs q => b.tups c xs (a.tups c xs q)
  frzs := fun c ob xs q => b.frzs c ob xs (a.frzs c ob xs q)
  tbls := fun c ps q => by
    obtain ⟨m1, e1⟩ := a.tbls c ps q
    obtain ⟨m2, e2⟩ := b.tbls c _ e1
    exact ⟨m1 ++ m2, by rw [e2, Array.append_assoc]⟩
theorem Un.kept (k : ∀ b u, h.get? b = some u → h'.get? b = some u) : Un fs ex H H h h' :=
  ⟨fun b ob q _ _ _ => k b ob q, fun b ob q _ _ _ => ⟨ob.slots, k b ob q⟩, fun _ _ _ n _ => n, fun b ob q _ => ⟨ob, k b ob q⟩, fun _ _ q => q, fun _ _ _ q => q, fun _ ps q => ⟨#[], by rw [q]; simp⟩⟩
theorem Un.refl : Un fs ex H H h h := Un.kept fun _ _ q => q
theorem Un.laid (k : ∀ b u, h.get? b = some u → h'.get? b = some u) (hp : h.objs.size ≤ a) (hn : H a = none) : Un fs ex H (upd H a o) h h' where
  keep := fun b u q _ _ _ => k b u q
  slot := fun b u q _ _ _ => ⟨u.slots, k b u q⟩
  free := fun b u q n _ => by rw [upd_ne (Nat.ne_of_lt (Nat.lt_of_lt_of_le (Heap.lt_size q) hp))]; exact n
  there := fun b u q _ => ⟨u, k b u q⟩
  tups := fun b xs q => by rw [upd_ne (ne_of_none q hn)]; exact q
  frzs := fun b u xs q => by rw [upd_ne (ne_of_none q hn)]; exact q
  tbls := fun b ps q => ⟨#[], by rw [upd_ne (ne_of_none q hn), q]; simp⟩
theorem Un.write (mu : Mut (H x)) (he : e = x ∨ H e = some (.own x)) (k : ∀ b u, b ≠ e → h.get? b = some u → h'.get? b = some u) (heo : ∃ u, h'.get? e = some u) : Un fs ex H (upd H x o) h h' := by
  have hx : ∀ b, H b = none → b ≠ x := fun b n z => by subst z; rw [n] at mu; exact mu
  have hb : ∀ b, H b = none → b ≠ e := fun b n z => by
    subst z
    rcases he with r | r
    · exact hx b n r
    · rw [n] at r; cases r
  have hm : ∀ b u, H b = some u → ¬ Mut (some u) → b ≠ x := fun b u q nm z => by subst z; rw [q] at mu; exact nm mu
  refine ⟨fun b u q n _ _ => k b u (hb b n) q, fun b u q n _ _ => ⟨u.slots, k b u (hb b n) q⟩, fun b u q n _ => by rw [upd_ne (hx b n)]; exact n, fun b u q _ => ?_,
    fun b xs q => by rw [upd_ne (hm b _ q fun z => z)]; exact q, fun b u xs q => by rw [upd_ne (hm b _ q fun z => z)]; exact q, fun b ps q => ⟨#[], by rw [upd_ne (hm b _ q fun z => z), q]; simp⟩⟩
  by_cases hbe : b = e
  · subst hbe; exact heo
  · exact ⟨u, k b u hbe q⟩
theorem Un.mono (u : Un fs ex H H1 h h1) (hs : ∀ b ∈ fs, b ∈ fs') (hx : ∀ b ∈ ex, b ∈ ex') : Un fs' ex' H H1 h h1 :=
  ⟨fun b ob q n hb he => u.keep b ob q n (fun z => hb (hs b z)) fun z => he (hx b z), fun _ _ q n _ he => u.any q n fun z => he (hx _ z), fun b ob q n he => u.free b ob q n fun z => he (hx b z), fun b ob q he => u.there b ob q fun z => he (hx b z), u.tups, u.frzs, u.tbls⟩
end

/-! ### the heap without what is tracked -/
def trk (h : Heap) (H : Hp) : List Addr := (List.range h.objs.size).filter fun a => (H a).isSome
def hidT (h : Heap) (H : Hp) : Heap := PySem.W.hideAll h (trk h H)
theorem hidT_size (h : Heap) (H : Hp) : (hidT h H).objs.size = h.objs.size := PySem.W.hideAll_size _ _
theorem hidT_get {h : Heap} {H : Hp} {b : Addr} {o : Obj} (e : h.get? b = some o) (n : H b = none) : (hidT h H).get? b = some o :=
  PySem.W.hideAll_get _ e fun hm => by
    have q : (H b).isSome = true := (List.mem_filter.mp hm).2
    rw [n] at q; simp at q
theorem of_hidT {h : Heap} {H : Hp} {b : Addr} {o : Obj} (e : (hidT h H).get? b = some o) : h.get? b = some o ∧ H b = none := by
  have e' : h.get? b = some o := PySem.W.of_hideAll (trk h H) e
  refine ⟨e', ?_⟩
  cases q : H b with
  | none => rfl
  | some x =>
    have hm : b ∈ trk h H := List.mem_filter.mpr ⟨List.mem_range.mpr (Heap.lt_size e'), by simp [q]⟩
    have z : (hidT h H).get? b = none := PySem.W.hideAll_none (trk h H) hm
    rw [z] at e; cases e

/-! ### OpenK's ledger, filled with every new object but one -/
def allNews (g h : Heap) (L : Addr) : List (Addr × Obj) := (List.range h.objs.size).filterMap fun a => if a = L ∨ (g.get? a).isSome = true then none else (h.get? a).map fun o => (a, o)
def rest (g h : Heap) (L d : Addr) : List (Addr × Obj) := (allNews g h L).filter fun p => decide (p.1 ≠ d)
end L2

namespace L2
open PySem PySem.Spec PyProof.Rows

/-- the module's facts, over the base: the heap at the law's entry without what is tracked there -/
structure Mod (K : PySem.W.Frag) (mg : Str → Option Value) (base : Heap) : Prop where
  kin : K.In base
  glob : base.Ns mainGlobals mg
  blt : ∃ mb, base.Ns builtinsNs mb ∧ ∀ x : Str, x ≠ "__name__" → mb x = bootBuiltins x
  nolimit : base.NoLimit

/-- the context: a def's body (or a comprehension's block) running. base: fixed through the whole law; s₀, H₀: the entry; outer: the frames whose slots others may change (a def's callers); stack: all frames that run;
   ex: iterators that were made ahead of the entry and are walked here (a comprehension's); fn: the names whose cells were made at the entry (a def: all; a comprehension's block: its own); calm: not within an except suite; pn: pins that every state bears; xe: what is wanted of an exception that leaves the code -/
structure Cx where
  prog : Program
  w : World
  K : PySem.W.Frag
  mg : Str → Option Value
  base : Heap
  A : Around
  N : List Str
  s₀ : Shared
  H₀ : Hp
  env : Env
  outer : List Env
  stack : List Env
  ex : List Addr
  fn : Str → Bool
  calm : Bool
  pn : List (Addr × Obj)
  xe : Value → Shared → Prop
/-- the callers' frames -/
def frs (l : List Env) : List Addr := l.filterMap (·.frame)
abbrev Cx.fs (X : Cx) : List Addr := frs X.outer

def Vis (sc : Scope) (x : Str) : Prop := sc.names.lookup x = some .local ∨ sc.names.lookup x = some .cell ∨ sc.names.lookup x = some .free
def Loc (sc : Scope) (x : Str) : Prop := sc.names.lookup x = some .local ∨ sc.names.lookup x = some .cell
def Look (env : Env) (h : Heap) (m : Str → Option Value) (x : Str) (u : Value) : Prop :=
  (env.kindOf x = some .local ∧ m x = some u) ∨ ((env.kindOf x = some .cell ∨ env.kindOf x = some .free) ∧ ∃ c, env.cells.lookup x = some c ∧ h.IsCell c (some u))

structure Cx.Ok (X : Cx) : Prop where
  mod : Mod X.K X.mg X.base
  kind : X.env.scope.kind = .function
  glob : X.env.globals = mainGlobals
  blt : X.env.builtins = builtinsNs
  above : X.s₀.heap.objs.size ≤ X.env.locals
  inj : ∀ x y c, X.env.cells.lookup x = some c → X.env.cells.lookup y = some c → x = y
  has : ∀ x, (X.env.kindOf x = some .cell ∨ X.env.kindOf x = some .free) → ∃ c, X.env.cells.lookup x = some c
  cab : ∀ x c, X.fn x = true → X.env.cells.lookup x = some c → X.s₀.heap.objs.size ≤ c
  hd : X.calm = true → X.A.handled = none
  frames : X.A.frames = some X.stack
  stk : X.stack = X.outer ∨ (X.stack = X.env :: X.outer ∧ X.env.frame = some X.env.locals)
  exf : ∀ b ∈ X.ex, b ≠ X.env.locals ∧ ∀ x c, X.env.cells.lookup x = some c → c ≠ b
  bs : ∀ b o, X.base.get? b = some o → X.s₀.heap.get? b = some o ∧ X.H₀ b = none
  bsz : X.base.objs.size ≤ X.s₀.heap.objs.size
  noex : ∀ b o, X.base.get? b = some o → b ∉ X.ex
  exfs : ∀ b ∈ X.ex, b ∉ X.fs
  funs : X.s₀.heap.FunFrames X.base X.outer
  frf : ∀ b ∈ X.fs, X.H₀ b = none

structure Inv (X : Cx) (pins : List (Addr × Obj)) (σ : List (Option V)) (H : Hp) (s : Shared) : Prop where
  ok : X.Ok
  os : s.os = X.s₀.os
  bare : AllBare s.gens
  base : Un X.fs X.ex X.H₀ H X.s₀.heap s.heap
  loc : ∃ m, s.heap.Ns X.env.locals m ∧ ∀ (i : Nat) (x : Str) (v : V), X.N[i]? = some x → σ[i]? = some (some v) → Vis X.env.scope x → ∃ u, RelV v u ∧ Look X.env s.heap m x u
  cell : ∀ x c, X.env.cells.lookup x = some c → ∃ v, s.heap.IsCell c v
  free : H X.env.locals = none
  freeC : ∀ x c, X.env.cells.lookup x = some c → H c = none
  pin : ∀ p ∈ X.pn ++ pins, s.heap.get? p.1 = some p.2 ∧ H p.1 = none ∧ p.1 ≠ X.env.locals ∧ p.1 ∉ X.fs ∧ ∀ v, p.2.data ≠ .cell v
  hok : HOk X.prog X.w H s.heap
  len : σ.length = X.N.length

section
variable {X : Cx} {pins : List (Addr × Obj)} {σ : List (Option V)} {H H' : Hp} {s : Shared} {h' : Heap}

theorem Cx.Ok.nofr (ok : X.Ok) {b : Addr} {o : Obj} (e : X.base.get? b = some o) : b ∉ X.fs := fun hb => by
  have := (ok.funs.mem hb).1
  rw [e] at this; cases this
theorem Inv.bs (I : Inv X pins σ H s) : ∀ b o, X.base.get? b = some o → s.heap.get? b = some o ∧ H b = none := fun b o e =>
  ⟨I.base.keep b o (I.ok.bs b o e).1 (I.ok.bs b o e).2 (I.ok.nofr e) (I.ok.noex b o e), I.base.free b o (I.ok.bs b o e).1 (I.ok.bs b o e).2 (I.ok.noex b o e)⟩
theorem Inv.bk (I : Inv X pins σ H s) : ∀ b o, X.base.get? b = some o → s.heap.get? b = some o := fun b o e => (I.bs b o e).1
theorem Inv.mod (I : Inv X pins σ H s) : Mod X.K X.mg X.base := I.ok.mod
theorem Inv.kIn (I : Inv X pins σ H s) : X.K.In s.heap := I.ok.mod.kin.keeps I.bk
theorem Inv.nolimit (I : Inv X pins σ H s) : s.heap.NoLimit := I.ok.mod.nolimit.keeps I.bk
/-- the frame over the base: for OpenK's rules (K.In X.base is I.mod.kin) -/
theorem Inv.fr (I : Inv X pins σ H s) : ∃ m, Fr X.base X.env.locals s.heap m :=
  let ⟨m, hn, _⟩ := I.loc
  ⟨m, hn, I.bk, Nat.le_trans I.ok.bsz I.ok.above⟩
theorem Inv.lt (I : Inv X pins σ H s) : X.env.locals < s.heap.objs.size := let ⟨_, hn, _⟩ := I.loc; hn.lt
theorem Inv.sz (I : Inv X pins σ H s) : X.s₀.heap.objs.size ≤ s.heap.objs.size := Nat.le_trans I.ok.above (Nat.le_of_lt I.lt)
theorem Inv.nofs (I : Inv X pins σ H s) {a : Addr} (h : s.heap.objs.size ≤ a) : a ∉ X.fs := fun hb => by
  obtain ⟨_, o, ho, _⟩ := I.ok.funs.mem hb
  exact absurd (Nat.lt_of_lt_of_le (Heap.lt_size ho) (Nat.le_trans I.sz h)) (Nat.lt_irrefl _)
theorem Inv.cne (I : Inv X pins σ H s) : ∀ x c, X.env.cells.lookup x = some c → c ≠ X.env.locals := fun x c e z => by
  obtain ⟨v, o, ho, hd⟩ := I.cell x c e
  obtain ⟨m, ⟨o', es, ep, ho', hd', _⟩, _⟩ := I.loc
  rw [z, ho'] at ho; cases ho; rw [hd'] at hd; cases hd
theorem Inv.funs (I : Inv X pins σ H s) : s.heap.FunFrames X.base X.outer := by
  have all : ∀ (l : List Env), (∀ b ∈ frs l, b ∈ X.fs) → X.s₀.heap.FunFrames X.base l → s.heap.FunFrames X.base l := by
    intro l
    induction l with
    | nil => intro _ _; trivial
    | cons env r ih =>
      intro hs hl
      obtain ⟨hk, ⟨L, o, hf, hn, ho, hd⟩, hr⟩ := hl
      have hL : L ∈ X.fs := hs L (by unfold frs; rw [List.filterMap_cons, hf]; exact List.mem_cons_self)
      obtain ⟨sl, e⟩ := I.base.slot L o ho (I.ok.frf L hL) hL fun z => I.ok.exfs L z hL
      exact ⟨hk, ⟨L, _, hf, hn, e, hd⟩, ih (fun b hb => hs b (by unfold frs; rw [List.filterMap_cons, hf]; exact List.mem_cons_of_mem _ hb)) hr⟩
  exact all X.outer (fun _ hb => hb) I.ok.funs

/-- the frames that run, for a call -/
theorem Inv.stack (I : Inv X pins σ H s) : s.heap.FunFrames X.base X.stack := by
  rcases I.ok.stk with e | ⟨e, hf⟩
  · rw [e]; exact I.funs
  · rw [e]
    obtain ⟨m, hn, _⟩ := I.loc
    refine .cons (by rw [I.ok.kind]; decide) hf hn ?_ I.funs
    exact Heap.get?_none_of_le (Nat.le_trans I.ok.bsz I.ok.above)
theorem Inv.stkSub (I : Inv X pins σ H s) : ∀ b ∈ frs X.stack, b ∈ X.env.locals :: X.fs := fun b hb => by
  rcases I.ok.stk with e | ⟨e, hf⟩
  · rw [e] at hb; exact List.mem_cons_of_mem _ hb
  · rw [e] at hb
    unfold frs at hb
    rw [List.filterMap_cons, hf] at hb
    exact hb
theorem Inv.stkFree (I : Inv X pins σ H s) : ∀ b ∈ frs X.stack, H b = none := fun b hb => by
  rcases List.mem_cons.mp (I.stkSub b hb) with e | hb
  · rw [e]; exact I.free
  · obtain ⟨_, o, ho, _⟩ := I.ok.funs.mem hb
    exact I.base.free b o ho (I.ok.frf b hb) fun z => I.ok.exfs b z hb

/-- THE STEP: the untracked objects but the frame and the records at ch are kept (the callers' frames up to slots), the frame's map is kept, the new abstract heap is held -/
theorem Inv.step {g' : Array GenState} {t' : Nat} {d' : Drawn} {ch : List Addr} (I : Inv X pins σ H s)
    (hch : ∀ b ∈ ch, (b ∈ X.ex ∨ X.s₀.heap.objs.size ≤ b) ∧ b ≠ X.env.locals ∧ (∀ x c, X.env.cells.lookup x = some c → c ≠ b) ∧ ∀ p ∈ X.pn ++ pins, p.1 ≠ b)
    (keep : ∀ b o, b ≠ X.env.locals → b ∉ X.fs → b ∉ ch → s.heap.get? b = some o → H b = none → h'.get? b = some o)
    (slot : ∀ b o, b ≠ X.env.locals → b ∈ X.fs → b ∉ ch → s.heap.get? b = some o → H b = none → ∃ sl, h'.get? b = some { o with slots := sl }) (free : ∀ b o, b ∉ ch → s.heap.get? b = some o → H b = none → H' b = none)
    (there : ∀ b o, b ∉ ch → s.heap.get? b = some o → ∃ o', h'.get? b = some o')
    (tups : ∀ b xs, H b = some (.tup xs) → H' b = some (.tup xs)) (frzs : ∀ b o u, H b = some (.frz o u) → H' b = some (.frz o u)) (tbls : ∀ b ps, H b = some (.tbl ps) → ∃ more, H' b = some (.tbl (ps ++ more)))
    (ns : ∀ m, s.heap.Ns X.env.locals m → h'.Ns X.env.locals m) (hok : HOk X.prog X.w H' h') (hg : AllBare g') :
    Inv X pins σ H' { s with heap := h', gens := g', drawn := d', toks := t' } := by
  have neL : ∀ b o, X.s₀.heap.get? b = some o → b ≠ X.env.locals := fun b o e => Nat.ne_of_lt (Nat.lt_of_lt_of_le (Heap.lt_size e) I.ok.above)
  have neC : ∀ b o, X.s₀.heap.get? b = some o → b ∉ X.ex → b ∉ ch := fun b o e hx hb => by
    rcases (hch b hb).1 with z | z
    · exact hx z
    · exact absurd (Nat.lt_of_lt_of_le (Heap.lt_size e) z) (Nat.lt_irrefl _)
  have cellK : ∀ x c, X.env.cells.lookup x = some c → ∀ v, s.heap.IsCell c v → h'.IsCell c v := fun x c e v ⟨o, ho, hd⟩ => by
    have nch : c ∉ ch := fun z => (hch c z).2.2.1 x c e rfl
    by_cases hc : c ∈ X.fs
    · obtain ⟨sl, q⟩ := slot c o (I.cne x c e) hc nch ho (I.freeC x c e)
      exact ⟨_, q, hd⟩
    · exact ⟨o, keep c o (I.cne x c e) hc nch ho (I.freeC x c e), hd⟩
  refine ⟨I.ok, I.os, hg, ⟨fun b o e n hb hx => ?_, fun b o e n hb hx => ?_, fun b o e n hx => ?_, fun b o e hx => ?_, fun b xs e => tups b xs (I.base.tups b xs e), fun b o xs e => frzs b o xs (I.base.frzs b o xs e), fun b ps e => ?_⟩, ?_, fun x c e => ?_, ?_, fun x c e => ?_, fun p hp => ?_, hok, I.len⟩
  · exact keep b o (neL b o e) hb (neC b o e hx) (I.base.keep b o e n hb hx) (I.base.free b o e n hx)
  · obtain ⟨sl, e1⟩ := I.base.slot b o e n hb hx
    obtain ⟨sl', e2⟩ := slot b _ (neL b o e) hb (neC b o e hx) e1 (I.base.free b o e n hx)
    exact ⟨sl', e2⟩
  · obtain ⟨o', e1⟩ := I.base.there b o e hx
    exact free b o' (neC b o e hx) e1 (I.base.free b o e n hx)
  · obtain ⟨o', e1⟩ := I.base.there b o e hx
    exact there b o' (neC b o e hx) e1
  · obtain ⟨m1, e1⟩ := I.base.tbls b ps e
    obtain ⟨m2, e2⟩ := tbls b _ e1
    exact ⟨m1 ++ m2, by rw [e2, Array.append_assoc]⟩
  · obtain ⟨m, hn, hl⟩ := I.loc
    refine ⟨m, ns m hn, fun i x v e1 e2 e3 => ?_⟩
    obtain ⟨u, r, l⟩ := hl i x v e1 e2 e3
    refine ⟨u, r, ?_⟩
    rcases l with l | ⟨k, c, e, z⟩
    · exact .inl l
    · exact .inr ⟨k, c, e, cellK x c e _ z⟩
  · obtain ⟨v, z⟩ := I.cell x c e
    exact ⟨v, cellK x c e v z⟩
  · obtain ⟨m, ⟨o, _, _, ho, _⟩, _⟩ := I.loc
    exact free _ o (fun z => (hch _ z).2.1 rfl) ho I.free
  · obtain ⟨v, o, ho, hd⟩ := I.cell x c e
    exact free c o (fun z => (hch c z).2.2.1 x c e rfl) ho (I.freeC x c e)
  · obtain ⟨e, n, ne, nf, d⟩ := I.pin p hp
    have nch : p.1 ∉ ch := fun z => (hch p.1 z).2.2.2 p hp rfl
    exact ⟨keep p.1 p.2 ne nf nch e n, free p.1 p.2 nch e n, ne, nf, d⟩
/-- .. where the frame's own object is kept too -/
theorem Inv.un {t' : Nat} (I : Inv X pins σ H s) (u : Un X.fs [] H H' s.heap h') (hok : HOk X.prog X.w H' h') : Inv X pins σ H' { s with heap := h', toks := t' } := by
  obtain ⟨m, ⟨o, es, ep, ho, r⟩, _⟩ := id I.loc
  obtain ⟨sl, hL⟩ := u.any ho I.free (by simp)
  exact I.step (g' := s.gens) (d' := s.drawn) (ch := []) (fun _ z => nomatch z) (fun b o _ hb _ e n => u.keep b o e n hb (by simp)) (fun b o _ hb _ e n => u.slot b o e n hb (by simp)) (fun b o _ e n => u.free b o e n (by simp)) (fun b o _ e => u.there b o e (by simp)) u.tups u.frzs u.tbls (fun m' hm => by
    obtain ⟨o', es', ep', ho', r'⟩ := hm
    rw [ho] at ho'; cases ho'
    exact ⟨_, es', ep', hL, r'⟩) hok I.bare
/-- behind a call (or a comprehension's block): the slots of this frame may have changed too, the records at ch may have turned -/
theorem Inv.call {g' : Array GenState} {t' : Nat} {d' : Drawn} {ch : List Addr} (I : Inv X pins σ H s) (u : Un (frs X.stack) ch H H' s.heap h') (hok : HOk X.prog X.w H' h') (hg : AllBare g')
    (hch : ∀ b ∈ ch, (b ∈ X.ex ∨ X.s₀.heap.objs.size ≤ b) ∧ b ≠ X.env.locals ∧ (∀ x c, X.env.cells.lookup x = some c → c ≠ b) ∧ ∀ p ∈ X.pn ++ pins, p.1 ≠ b) :
    Inv X pins σ H' { s with heap := h', gens := g', drawn := d', toks := t' } := by
  obtain ⟨m, ⟨o, es, ep, ho, r⟩, _⟩ := id I.loc
  obtain ⟨sl, hL⟩ := u.any ho I.free fun z => (hch _ z).2.1 rfl
  exact I.step (ch := ch) hch (fun b o hL hb hc e n => u.keep b o e n (fun z => (List.mem_cons.mp (I.stkSub b z)).elim hL hb) hc) (fun b o _ _ hc e n => u.any e n hc) (fun b o hc e n => u.free b o e n hc) (fun b o hc e => u.there b o e hc) u.tups u.frzs u.tbls (fun m' hm => by
    obtain ⟨o', es', ep', ho', r'⟩ := hm
    rw [ho] at ho'; cases ho'
    exact ⟨_, es', ep', hL, r'⟩) hok hg
/-- an untracked record of ours (an iterator) has turned -/
theorem Inv.turned {t' : Nat} {it : Addr} (I : Inv X pins σ H s) (k : ∀ b o, b ≠ it → s.heap.get? b = some o → h'.get? b = some o) (hn : H it = none) (hL : it ≠ X.env.locals)
    (h1 : it ∈ X.ex ∨ X.s₀.heap.objs.size ≤ it) (h2 : ∀ x c, X.env.cells.lookup x = some c → c ≠ it) (h3 : ∀ p ∈ X.pn ++ pins, p.1 ≠ it) : Inv X pins σ H { s with heap := h', toks := t' } := by
  have nit : ∀ b u, H b = some u → b ≠ it := fun b u e z => by rw [z, hn] at e; cases e
  refine I.step (g' := s.gens) (d' := s.drawn) (ch := [it]) (fun b hb => ?_) (fun b o _ _ hc e _ => k b o (fun z => hc (by simp [z])) e) (fun b o _ _ hc e _ => ⟨o.slots, k b o (fun z => hc (by simp [z])) e⟩) (fun _ _ _ _ n => n)
    (fun b o hc e => ⟨o, k b o (fun z => hc (by simp [z])) e⟩) (fun _ _ e => e) (fun _ _ _ e => e) (fun b ps e => ⟨#[], by rw [e]; simp⟩) (fun m hm => ?_) (fun b u e => ?_) I.bare
  · have e : b = it := by simpa using hb
    subst e
    exact ⟨h1, hL, h2, h3⟩
  · obtain ⟨o, es, ep, ho, r⟩ := hm
    exact ⟨o, es, ep, k _ o (Ne.symm hL) ho, r⟩
  · refine (I.hok b u e).stay (fun c v hc q => k c v ?_ q) (fun _ q => q) fun _ _ q => q
    rcases hc with z | z
    · rw [z]; exact nit b u e
    · exact nit c _ z
theorem Inv.tok (I : Inv X pins σ H s) (t : Nat) : Inv X pins σ H { s with toks := t } := I.un (h' := s.heap) (t' := t) Un.refl I.hok
/-- all objects kept -/
theorem Inv.kept {t' : Nat} (I : Inv X pins σ H s) (k : ∀ b u, s.heap.get? b = some u → h'.get? b = some u) : Inv X pins σ H { s with heap := h', toks := t' } := I.un (Un.kept k) (I.hok.kept k)
/-- a new object laid and tracked -/
theorem Inv.laid {a : Addr} {o : HO} {t' : Nat} (I : Inv X pins σ H s) (k : ∀ b u, s.heap.get? b = some u → h'.get? b = some u) (hp : s.heap.objs.size ≤ a) (new : ObjOk X.prog X.w (upd H a o) h' a o) :
    Inv X pins σ (upd H a o) { s with heap := h', toks := t' } := I.un (Un.laid k hp (I.hok.fresh hp)) (I.hok.laid k hp new)
/-- an object written -/
theorem Inv.write {x e : Addr} {o : HO} {t' : Nat} (I : Inv X pins σ H s) (mu : Mut (H x)) (he : e = x ∨ H e = some (.own x)) (k : ∀ b u, b ≠ e → s.heap.get? b = some u → h'.get? b = some u) (heo : ∃ u, h'.get? e = some u)
    (new : ObjOk X.prog X.w (upd H x o) h' x o) : Inv X pins σ (upd H x o) { s with heap := h', toks := t' } := I.un (Un.write mu he k heo) (I.hok.write mu he k heo new)
/-- forgetting slots, pins -/
theorem Inv.weak {σ' : List (Option V)} (I : Inv X pins σ H s) (hl : σ'.length = σ.length) (w : ∀ (i : Nat) v, σ'[i]? = some (some v) → σ[i]? = some (some v)) : Inv X pins σ' H s :=
  ⟨I.ok, I.os, I.bare, I.base, let ⟨m, hn, hl'⟩ := I.loc; ⟨m, hn, fun i x v e1 e2 e3 => hl' i x v e1 (w i v e2) e3⟩, I.cell, I.free, I.freeC, I.pin, I.hok, hl.trans I.len⟩
theorem Inv.pins_of {pins' : List (Addr × Obj)} (I : Inv X pins σ H s) (h : ∀ p ∈ pins', s.heap.get? p.1 = some p.2 ∧ H p.1 = none ∧ p.1 ≠ X.env.locals ∧ p.1 ∉ X.fs ∧ ∀ v, p.2.data ≠ .cell v) : Inv X pins' σ H s :=
  ⟨I.ok, I.os, I.bare, I.base, I.loc, I.cell, I.free, I.freeC, fun p hp => (List.mem_append.mp hp).elim (fun z => I.pin p (List.mem_append_left _ z)) (h p), I.hok, I.len⟩

theorem nodup_ix {N : List Str} (hN : N.Nodup) {i j : Nat} {x : Str} (a : N[i]? = some x) (b : N[j]? = some x) : i = j := by
  obtain ⟨h1, e1⟩ := List.getElem?_eq_some_iff.mp a
  obtain ⟨h2, e2⟩ := List.getElem?_eq_some_iff.mp b
  exact (List.getElem_inj hN).mp (e1.trans e2.symm)

/-- a name is stored; what changed -/
theorem store_ok2 {M : Model} {A : Around} {E : Value → Shared → Prop} {i : Nat} {x : Str} {v : V} {u : Value} {Q : Unit → Shared → Prop} (I : Inv X pins σ H s) (hN : X.N.Nodup) (hi : X.N[i]? = some x) (hx : Loc X.env.scope x) (r : RelV v u)
    (h : ∀ s', Inv X pins (σ.set i (some v)) H s' → (∃ a, Heap.SameBut a s.heap s'.heap ∧ (a = X.env.locals ∨ X.env.cells.lookup x = some a)) → Q () s') (hf : X.fn x = true ∨ X.env.scope.names.lookup x = some .local := by first | exact .inl rfl | exact .inr rfl | assumption) : wpAny M A (storeName X.env x u) Q E s := by
  obtain ⟨m, hn, hl⟩ := id I.loc
  have hcls : (X.env.scope.kind == .class || (X.env.scope.kind == .module && X.env.locals != X.env.globals)) = false := by rw [I.ok.kind]; rfl
  have hiσ : i < σ.length := by rw [I.len]; exact (List.getElem?_eq_some_iff.mp hi).1
  have cne := I.cne
  have tracked : ∀ {a : Addr} {h' : Heap}, (∃ o, s.heap.get? a = some o ∧ H a = none) → Heap.SameBut a s.heap h' → HOk X.prog X.w H h' := fun {a h'} ha hs b ob e => by
    obtain ⟨_, _, hfree⟩ := ha
    refine (I.hok b ob e).stay (fun c w' hc q => (hs.2 c ?_).trans q) (fun _ q => q) fun _ _ q => q
    rintro rfl
    rcases hc with rfl | hc
    · rw [hfree] at e; cases e
    · rw [hfree] at hc; cases hc
  rcases hx with hk | hk
  · refine wpAny_storeName_local hk hn (fun h' hn' hs => ?_) hcls
    obtain ⟨oL, _, _, hoL, _⟩ := id hn
    refine h _ ⟨I.ok, I.os, I.bare, ⟨fun b o e n hb hx => ?_, fun b o e n hb hx => ?_, I.base.free, fun b o e hx => ?_, I.base.tups, I.base.frzs, I.base.tbls⟩, ⟨_, hn', fun j y v' e1 e2 e3 => ?_⟩, fun y c e => ?_, I.free, I.freeC, fun p hp => ?_, tracked ⟨oL, hoL, I.free⟩ hs, by simpa using I.len⟩ ⟨_, hs, .inl rfl⟩
    · exact (hs.2 b (Nat.ne_of_lt (Nat.lt_of_lt_of_le (Heap.lt_size e) I.ok.above))).trans (I.base.keep b o e n hb hx)
    · obtain ⟨sl, e1⟩ := I.base.slot b o e n hb hx
      exact ⟨sl, (hs.2 b (Nat.ne_of_lt (Nat.lt_of_lt_of_le (Heap.lt_size e) I.ok.above))).trans e1⟩
    · obtain ⟨o', e1⟩ := I.base.there b o e hx
      exact ⟨o', (hs.2 b (Nat.ne_of_lt (Nat.lt_of_lt_of_le (Heap.lt_size e) I.ok.above))).trans e1⟩
    · by_cases hj : j = i
      · subst hj
        rw [hi] at e1; cases e1
        rw [List.getElem?_set_self hiσ] at e2
        cases e2
        exact ⟨u, r, .inl ⟨hk, by simp⟩⟩
      · rw [List.getElem?_set_ne (Ne.symm hj)] at e2
        obtain ⟨u', r', q⟩ := hl j y v' e1 e2 e3
        refine ⟨u', r', ?_⟩
        rcases q with ⟨k, e⟩ | ⟨k, c, e, z⟩
        · refine .inl ⟨k, ?_⟩
          have : y ≠ x := fun e => hj (nodup_ix hN e1 (e ▸ hi))
          simp [this, e]
        · exact .inr ⟨k, c, e, z.sameBut hs (cne y c e)⟩
    · obtain ⟨w', z⟩ := I.cell y c e
      exact ⟨w', z.sameBut hs (cne y c e)⟩
    · obtain ⟨e, n, ne, nf, d⟩ := I.pin p hp
      exact ⟨(hs.2 p.1 ne).trans e, n, ne, nf, d⟩
  · have hfn : X.fn x = true := by
      rcases hf with z | z
      · exact z
      · rw [z] at hk; cases hk
    obtain ⟨c, hc⟩ := I.ok.has x (.inl hk)
    obtain ⟨w', z⟩ := I.cell x c hc
    refine wpAny_storeName_cell I.ok.kind hk hc z (fun h' hc' hs => ?_)
    obtain ⟨oc, hoc, hocd⟩ := id z
    refine h { s with heap := h' } ⟨I.ok, I.os, I.bare, ⟨fun b o e n hb hx => ?_, fun b o e n hb hx => ?_, I.base.free, fun b o e hx => ?_, I.base.tups, I.base.frzs, I.base.tbls⟩, ⟨m, hn.sameBut hs (Ne.symm (cne x c hc)), fun j y v' e1 e2 e3 => ?_⟩, fun y c' e => ?_, I.free, I.freeC, fun p hp => ?_, tracked ⟨oc, hoc, I.freeC x c hc⟩ hs, by simpa using I.len⟩ ⟨c, hs, .inr hc⟩
    · exact (hs.2 b (Nat.ne_of_lt (Nat.lt_of_lt_of_le (Heap.lt_size e) (I.ok.cab x c hfn hc)))).trans (I.base.keep b o e n hb hx)
    · obtain ⟨sl, e1⟩ := I.base.slot b o e n hb hx
      exact ⟨sl, (hs.2 b (Nat.ne_of_lt (Nat.lt_of_lt_of_le (Heap.lt_size e) (I.ok.cab x c hfn hc)))).trans e1⟩
    · obtain ⟨o', e1⟩ := I.base.there b o e hx
      exact ⟨o', (hs.2 b (Nat.ne_of_lt (Nat.lt_of_lt_of_le (Heap.lt_size e) (I.ok.cab x c hfn hc)))).trans e1⟩
    · by_cases hj : j = i
      · subst hj
        rw [hi] at e1; cases e1
        rw [List.getElem?_set_self hiσ] at e2
        cases e2
        exact ⟨u, r, .inr ⟨.inl hk, c, hc, hc'⟩⟩
      · rw [List.getElem?_set_ne (Ne.symm hj)] at e2
        obtain ⟨u', r', q⟩ := hl j y v' e1 e2 e3
        refine ⟨u', r', ?_⟩
        rcases q with q | ⟨k, c', e, z'⟩
        · exact .inl q
        · refine .inr ⟨k, c', e, z'.sameBut hs ?_⟩
          rintro rfl
          exact hj (nodup_ix hN e1 (I.ok.inj _ _ _ e hc ▸ hi))
    · by_cases hcc : c' = c
      · subst hcc; exact ⟨_, hc'⟩
      · obtain ⟨w2, z2⟩ := I.cell y c' e
        exact ⟨w2, z2.sameBut hs hcc⟩
    · obtain ⟨e, n, ne, nf, d⟩ := I.pin p hp
      refine ⟨(hs.2 p.1 ?_).trans e, n, ne, nf, d⟩
      intro q
      rw [q, hoc] at e
      have q' : oc = p.2 := Option.some.inj e
      exact d w' (by rw [← q']; exact hocd)
theorem store_ok {M : Model} {A : Around} {E : Value → Shared → Prop} {i : Nat} {x : Str} {v : V} {u : Value} {Q : Unit → Shared → Prop} (I : Inv X pins σ H s) (hN : X.N.Nodup) (hi : X.N[i]? = some x) (hx : Loc X.env.scope x) (r : RelV v u)
    (h : ∀ s', Inv X pins (σ.set i (some v)) H s' → Q () s') (hf : X.fn x = true ∨ X.env.scope.names.lookup x = some .local := by first | exact .inl rfl | exact .inr rfl | assumption) : wpAny M A (storeName X.env x u) Q E s :=
  store_ok2 I hN hi hx r (fun s' I' _ => h s' I') hf
/-- behind a call or a block, the state as it is -/
theorem Inv.call' {s' : Shared} {ch : List Addr} (I : Inv X pins σ H s) (ho : s'.os = s.os) (u : Un (frs X.stack) ch H H' s.heap s'.heap) (hok : HOk X.prog X.w H' s'.heap) (hg : AllBare s'.gens)
    (hch : ∀ b ∈ ch, (b ∈ X.ex ∨ X.s₀.heap.objs.size ≤ b) ∧ b ≠ X.env.locals ∧ (∀ x c, X.env.cells.lookup x = some c → c ≠ b) ∧ ∀ p ∈ X.pn ++ pins, p.1 ≠ b) : Inv X pins σ H' s' := by
  obtain ⟨h', g', d', t', o'⟩ := s'
  have e : o' = s.os := ho
  subst e
  exact I.call (g' := g') (t' := t') (d' := d') u hok hg hch
end

/-! ### the judgements -/
/-- an exception: its class, its own dict's address (where it has one), the abstract heap behind it -/
abbrev XK := Value → Option Addr → Hp → Prop
abbrev St := List (Option V)
abbrev VK := V → Hp → Prop
/-- an expression's reading; a test's; an argument list's -/
abbrev TE := St → Hp → VK → Prop
abbrev TT := St → Hp → (Bool → Hp → Prop) → Prop
abbrev TA := St → Hp → (List V → Hp → Prop) → Prop
/-- what is wanted behind a statement -/
structure Ends where
  nx : St → Hp → Prop
  rt : VK
  bk : St → Hp → Prop := fun _ _ => False
  ct : St → Hp → Prop := fun _ _ => False
abbrev TS := Ends → St → Hp → Prop

def EP (X : Cx) (pins : List (Addr × Obj)) (σ : St) (Q : VK) (u : Value) (s' : Shared) : Prop := ∃ v H', Inv X pins σ H' s' ∧ RelV v u ∧ Q v H'
def TP (X : Cx) (pins : List (Addr × Obj)) (σ : St) (Q : Bool → Hp → Prop) (b : Bool) (s' : Shared) : Prop := ∃ H', Inv X pins σ H' s' ∧ Q b H'
def AP (X : Cx) (pins : List (Addr × Obj)) (σ : St) (Q : List V → Hp → Prop) (us : List Value) (s' : Shared) : Prop := ∃ vs H', Inv X pins σ H' s' ∧ Vals vs us ∧ Q vs H'
def SP (X : Cx) (pins : List (Addr × Obj)) (D : Ends) (f : Flow) (s' : Shared) : Prop :=
  match f with
  | .next => ∃ σ' H', Inv X pins σ' H' s' ∧ D.nx σ' H'
  | .brk => ∃ σ' H', Inv X pins σ' H' s' ∧ D.bk σ' H'
  | .cont => ∃ σ' H', Inv X pins σ' H' s' ∧ D.ct σ' H'
  | .ret u => ∃ v σ' H', Inv X pins σ' H' s' ∧ RelV v u ∧ D.rt v H'

def PE (X : Cx) (e : Expr) (t : TE) : Prop :=
  ∀ (pins : List (Addr × Obj)) (s : Shared) (σ : St) (H : Hp) (Q : VK), Inv X pins σ H s → t σ H Q → wpAny (model X.prog X.w) X.A (eval e X.env) (EP X pins σ Q) X.xe s
def PT (X : Cx) (e : Expr) (t : TT) : Prop :=
  ∀ (pins : List (Addr × Obj)) (s : Shared) (σ : St) (H : Hp) (Q : Bool → Hp → Prop), Inv X pins σ H s → t σ H Q → wpAny (model X.prog X.w) X.A (isTrue e X.env (eval e X.env)) (TP X pins σ Q) X.xe s
/-- a test whatever its 'whole' is (and, or) -/
def PW (X : Cx) (e : Expr) (t : TT) : Prop :=
  ∀ (whole : Sem Value) (pins : List (Addr × Obj)) (s : Shared) (σ : St) (H : Hp) (Q : Bool → Hp → Prop), Inv X pins σ H s → t σ H Q → wpAny (model X.prog X.w) X.A (isTrue e X.env whole) (TP X pins σ Q) X.xe s
theorem PW.pt {X : Cx} {e : Expr} {t : TT} (h : PW X e t) : PT X e t := h _
/-- an argument list (no star), from the left -/
def PA (X : Cx) (es : List Expr) (t : TA) : Prop :=
  ∀ (pos : Pos) (pins : List (Addr × Obj)) (s : Shared) (σ : St) (H : Hp) (Q : List V → Hp → Prop), Inv X pins σ H s → t σ H Q → wpAny (model X.prog X.w) X.A (spliced (backTo pos (starEach es X.env))) (AP X pins σ Q) X.xe s
def PS (X : Cx) (st : Stmt) (t : TS) : Prop :=
  ∀ (pins : List (Addr × Obj)) (s : Shared) (σ : St) (H : Hp) (D : Ends), Inv X pins σ H s → t D σ H → wpAny (model X.prog X.w) X.A (exec st X.env) (SP X pins D) X.xe s
def PSs (X : Cx) (st : List Stmt) (t : TS) : Prop :=
  ∀ (pins : List (Addr × Obj)) (s : Shared) (σ : St) (H : Hp) (D : Ends), Inv X pins σ H s → t D σ H → wpAny (model X.prog X.w) X.A (execs st X.env) (SP X pins D) X.xe s
/-- weaken the end -/
theorem thn {α : Type} {t : Sem α} {Q Q' : α → Shared → Prop} {M : Model} {A : Around} {E : Value → Shared → Prop} {s : Shared} (h : wpAny M A t Q E s) (hQ : ∀ a s, Q a s → Q' a s) : wpAny M A t Q' E s := wpAny_mono h hQ fun _ _ x => x
end L2

namespace L2
open PySem PySem.Spec PyProof.Rows
section
variable {X : Cx}

/-! ### names and constants -/
def tVar (i : Nat) : TE := fun σ H Q => ∃ v, σ[i]? = some (some v) ∧ Q v H
def tC (v : V) : TE := fun _ H Q => Q v H
theorem pe_var {i : Nat} {x : Str} {pos : Pos} (hN : X.N[i]? = some x) (hv : Vis X.env.scope x) (hd : (x == ("__debug__" : Str)) = false := by decide) (hcd : (x == ("__classdict__" : Str)) = false := by decide) : PE X (.Name x pos) (tVar i) := by
  intro pins s σ H Q I h
  obtain ⟨v, e, h⟩ := h
  obtain ⟨m, hn, hl⟩ := I.loc
  obtain ⟨u, r, l⟩ := hl i x v hN e hv
  have fin : EP X pins σ Q u s := ⟨v, H, I, r, h⟩
  rcases l with ⟨hk, hm⟩ | ⟨hk, c, hc, hcell⟩
  · exact wpAny_Name (wpAny_loadName_local I.ok.kind hk hn hm fin) hd
  · rcases hk with hk | hk
    · exact wpAny_Name (wpAny_loadName_cell I.ok.kind hk hc hcell fin) hd
    · exact wpAny_Name (wpAny_loadName_free I.ok.kind hk hc hcell fin hcd) hd
theorem pe_int {i j pos} : PE X (.Constant (.int i) j pos) (tC (.int i)) := fun _ _ _ H _ I h => wpAny_Constant_int ⟨.int i, H, I.tok _, ⟨_, rfl⟩, h⟩
theorem pe_bl {b j pos} : PE X (.Constant (.bool b) j pos) (tC (.bl b)) := fun _ _ _ H _ I h => Constant_bool ⟨.bl b, H, I, rfl, h⟩
theorem pe_non {j pos} : PE X (.Constant .none j pos) (tC .non) := fun _ _ _ H _ I h => Constant_none ⟨.non, H, I, rfl, h⟩
theorem pe_str {x j pos} : PE X (.Constant (.str x) j pos) (tC (.str x)) := fun _ _ _ H _ I h => Calls.Constant_str ⟨.str x, H, I.tok _, ⟨_, rfl⟩, h⟩

/-- a global name of the def -/
def Gl (X : Cx) (x : Str) : Prop := X.env.kindOf x = some .globalImplicit
theorem ld_glob {E : Value → Shared → Prop} {pins : List (Addr × Obj)} {s : Shared} {σ : St} {H : Hp} {x : Str} {u : Value} {pos : Pos} {Q : Value → Shared → Prop} (I : Inv X pins σ H s) (hg : Gl X x) (hm : X.mg x = some u) (h : Q u s)
    (hd : (x == ("__debug__" : Str)) = false := by decide) : wpAny (model X.prog X.w) X.A (eval (.Name x pos) X.env) Q E s :=
  Calls.Name_function_global I.ok.kind hg (Calls.loadGlobal_global (by rw [I.ok.glob]; exact I.mod.glob.keeps I.bk) hm h) hd
theorem ld_blt {E : Value → Shared → Prop} {pins : List (Addr × Obj)} {s : Shared} {σ : St} {H : Hp} {x : Str} {u : Value} {pos : Pos} {Q : Value → Shared → Prop} (I : Inv X pins σ H s) (hg : Gl X x) (hm : X.mg x = none) (hv : bootBuiltins x = some u) (h : Q u s)
    (hn : x ≠ "__name__" := by decide) (hd : (x == ("__debug__" : Str)) = false := by decide) : wpAny (model X.prog X.w) X.A (eval (.Name x pos) X.env) Q E s := by
  obtain ⟨mb, h1, h2⟩ := I.mod.blt
  exact Calls.Name_function_global I.ok.kind hg (Calls.loadGlobal_builtin (by rw [I.ok.glob]; exact I.mod.glob.keeps I.bk) hm (by rw [I.ok.blt]; exact h1.keeps I.bk) ((h2 x hn).trans hv) h) hd
/-- a module's constant, a class, a function, as a value -/
theorem pe_glob {x : Str} {v : V} {u : Value} {pos : Pos} (hg : Gl X x) (hm : X.mg x = some u) (r : RelV v u) (hd : (x == ("__debug__" : Str)) = false := by decide) : PE X (.Name x pos) (tC v) :=
  fun _ _ _ H _ I h => ld_glob I hg hm ⟨v, H, I, r, h⟩ hd
theorem pe_bltn {x : Str} {v : V} {u : Value} {pos : Pos} (hg : Gl X x) (hm : X.mg x = none) (hv : bootBuiltins x = some u) (r : RelV v u) (hn : x ≠ "__name__" := by decide) (hd : (x == ("__debug__" : Str)) = false := by decide) : PE X (.Name x pos) (tC v) :=
  fun _ _ _ H _ I h => ld_blt I hg hm hv ⟨v, H, I, r, h⟩ hn hd

/-! ### arithmetic -/
/-- two ints -/
def t2I (ta tb : TE) (k : Int → Int → Hp → Prop) : St → Hp → Prop := fun σ H => ta σ H fun x H1 => tb σ H1 fun y H2 => ∃ i j, x = .int i ∧ y = .int j ∧ k i j H2
def tAdd (ta tb : TE) : TE := fun σ H Q => t2I ta tb (fun i j H2 => Q (.int (i + j)) H2) σ H
def tSub (ta tb : TE) : TE := fun σ H Q => t2I ta tb (fun i j H2 => Q (.int (i - j)) H2) σ H
/-- the left factor below 2^64 -/
def tMul (ta tb : TE) : TE := fun σ H Q => t2I ta tb (fun i j H2 => (-(2 ^ 64) < i ∧ i < 2 ^ 64) ∧ Q (.int (i * j)) H2) σ H
variable {a b : Expr} {ta tb : TE} {pos : Pos}
/-! ### comparisons -/
def PC (X : Cx) (op : CmpOp) (a b : Expr) (t : TE) : Prop :=
  ∀ (pins : List (Addr × Obj)) (s : Shared) (σ : St) (H : Hp) (Q : VK), Inv X pins σ H s → t σ H Q →
    wpAny (model X.prog X.w) X.A (eval a X.env) (fun v s₁ => wpAny (model X.prog X.w) X.A (eval b X.env) (fun u s₂ => wpAny (model X.prog X.w) X.A (compareOp op v u) (EP X pins σ Q) X.xe s₂) X.xe s₁) X.xe s
def tCmp (p : Int → Int → Bool) (ta tb : TE) : TE := fun σ H Q => t2I ta tb (fun i j H2 => Q (.bl (p i j)) H2) σ H
abbrev tLt : TE → TE → TE := tCmp fun i j => decide (i < j)
abbrev tLe : TE → TE → TE := tCmp fun i j => decide (i ≤ j)
abbrev tGt : TE → TE → TE := tCmp fun i j => decide (j < i)
abbrev tGe : TE → TE → TE := tCmp fun i j => decide (j ≤ i)
abbrev tEqI : TE → TE → TE := tCmp fun i j => decide (i = j)
abbrev tNeI : TE → TE → TE := tCmp fun i j => !decide (i = j)
/-- is None -/
def tIsN (ta : TE) : TE := fun σ H Q => ta σ H fun x H1 => Q (.bl (decide (x = .non))) H1
def tNotN (ta : TE) : TE := fun σ H Q => ta σ H fun x H1 => Q (.bl (!decide (x = .non))) H1
/-- a comparison as a value, as a test -/
def tB (t : TE) : TT := fun σ H Q => t σ H fun x H1 => ∃ c, x = .bl c ∧ Q c H1
/-- an expression whose value is a bool, as a test -/
theorem pt_val {e : Expr} {t : TE} (h : PE X e t) (he : ∀ whole, isTrue e X.env whole = (do let v ← whole; standAt e.pos; holding [v] (truthy v)) := by intro _; rfl) : PT X e (tB t) := by
  intro pins s σ H Q I hw
  refine isTrue_plain (thn (h pins s σ H _ I hw) fun v s1 ⟨x, H1, I1, r1, q1⟩ => ?_) (he _)
  obtain ⟨d, rfl, q⟩ := q1
  cases r1
  exact wpAny_truthy_bool ⟨H1, I1, q⟩

/-! ### and, or, not -/
variable {tA tB' : TT} {rest : List Expr}
def tAnd (t u : TT) : TT := fun σ H Q => t σ H fun c H1 => if c = true then u σ H1 Q else Q false H1
def tOr (t u : TT) : TT := fun σ H Q => t σ H fun c H1 => if c = true then Q true H1 else u σ H1 Q
def tNot (t : TT) : TT := fun σ H Q => t σ H fun c H1 => Q (!c) H1
theorem pw_and1 (ha : PT X a tA) : PW X (.BoolOp .And [a] pos) tA := by
  intro wh pins s σ H Q I h
  refine isTrue_and (thn (ha pins s σ H Q I h) fun c s1 e => ?_)
  cases c with
  | true => exact isTrue_and_nil e
  | false => exact e
theorem pw_or1 (ha : PT X a tA) : PW X (.BoolOp .Or [a] pos) tA := by
  intro wh pins s σ H Q I h
  refine isTrue_or (thn (ha pins s σ H Q I h) fun c s1 e => ?_)
  cases c with
  | false => exact isTrue_or_nil e
  | true => exact e
theorem pw_and (ha : PT X a tA) (hb : PW X (.BoolOp .And (b :: rest) pos) tB') : PW X (.BoolOp .And (a :: b :: rest) pos) (tAnd tA tB') := by
  intro wh pins s σ H Q I h
  refine isTrue_and (thn (ha pins s σ H _ I h) fun c s1 ⟨H1, I1, q1⟩ => ?_)
  cases c with
  | true => exact hb wh pins s1 σ H1 Q I1 q1
  | false => exact ⟨H1, I1, q1⟩
theorem pw_or (ha : PT X a tA) (hb : PW X (.BoolOp .Or (b :: rest) pos) tB') : PW X (.BoolOp .Or (a :: b :: rest) pos) (tOr tA tB') := by
  intro wh pins s σ H Q I h
  refine isTrue_or (thn (ha pins s σ H _ I h) fun c s1 ⟨H1, I1, q1⟩ => ?_)
  cases c with
  | true => exact ⟨H1, I1, q1⟩
  | false => exact hb wh pins s1 σ H1 Q I1 q1
theorem pt_not (ha : PT X a tA) : PT X (.UnaryOp .Not a pos) (tNot tA) := by
  intro pins s σ H Q I h
  exact isTrue_not (ha pins s σ H (fun c H1 => Q (!c) H1) I h)
/-- .. as values (bools) -/
def tAndV (ta tb : TE) : TE := fun σ H Q => ta σ H fun x H1 => ∃ c, x = .bl c ∧ if c = true then tb σ H1 Q else Q (.bl false) H1
def tOrV (ta tb : TE) : TE := fun σ H Q => ta σ H fun x H1 => ∃ c, x = .bl c ∧ if c = true then Q (.bl true) H1 else tb σ H1 Q
def tNotV (ta : TE) : TE := fun σ H Q => ta σ H fun x H1 => ∃ c, x = .bl c ∧ Q (.bl (!c)) H1
/-- a if t else b -/
def tIf (t : TT) (ta tb : TE) : TE := fun σ H Q => t σ H fun c H1 => if c = true then ta σ H1 Q else tb σ H1 Q
theorem pe_ifExp {c : Expr} (hc : PT X c tA) (ha : PE X a ta) (hb : PE X b tb) : PE X (.IfExp c a b pos) (tIf tA ta tb) := by
  intro pins s σ H Q I h
  refine wpAny_IfExp (thn (hc pins s σ H _ I h) fun d s1 ⟨H1, I1, q1⟩ => ?_)
  cases d with
  | true => exact ha pins s1 σ H1 Q I1 q1
  | false => exact hb pins s1 σ H1 Q I1 q1
end
end L2

namespace L2
open PySem PySem.Spec PyProof.Rows

/-! ### a list, a tuple that is read: tracked, frozen, or an object of the module -/
def SqL (K : PySem.W.Frag) (H : Hp) (a : Addr) (xs : List V) : Prop :=
  Rd H a (.lst xs) ∨
    ∃ (o : Obj) (its : Array Value) (n : Nat), K.lookup a = some o ∧ o.cls = .type "list" ∧ o.dict = none ∧ o.data = .seq its n ∧ its.size ≤ sizeLine ∧ Vals xs its.toList
def SqT (K : PySem.W.Frag) (H : Hp) (a : Addr) (xs : List V) : Prop :=
  Rd H a (.tup xs) ∨
    ∃ (o : Obj) (its : Array Value) (n : Nat), K.lookup a = some o ∧ o.cls = .type "tuple" ∧ o.data = .seq its n ∧ its.size ≤ sizeLine ∧ Vals xs its.toList
def absV : Value → Option V
  | .none => some .non
  | .bool b => some (.bl b)
  | .int i _ => some (.int i)
  | .str x _ => some (.str x)
  | .bytes b _ => some (.byt b)
  | .float b _ => some (.flt b)
  | .ref a => some (.ref a)
  | .type n => some (.ty n)
  | _ => none
theorem RelV.abs {x : V} {u : Value} (r : RelV x u) : absV u = some x := by
  cases x with
  | non => cases r; rfl
  | bl _ => cases r; rfl
  | int _ => obtain ⟨t, rfl⟩ := r; rfl
  | str _ => obtain ⟨t, rfl⟩ := r; rfl
  | byt _ => obtain ⟨t, rfl⟩ := r; rfl
  | flt _ => obtain ⟨t, rfl⟩ := r; rfl
  | ref _ => cases r; rfl
  | ty _ => cases r; rfl
theorem RelV.inj {x y : V} {u : Value} (r : RelV x u) (q : RelV y u) : x = y := Option.some.inj (r.abs.symm.trans q.abs)
theorem Vals.inj : ∀ {xs ys : List V} {us : List Value}, Vals xs us → Vals ys us → xs = ys
  | _, _, _, .nil, .nil => rfl
  | _, _, _, .cons r t, .cons r' t' => by rw [r.inj r', Vals.inj t t']
section
variable {X : Cx} {pins : List (Addr × Obj)} {σ : St} {H : Hp} {s : Shared} {a : Addr} {xs ys : List V}
theorem SqL.of {K : PySem.W.Frag} (h : H a = some (.lst xs)) : SqL K H a xs := .inl (.inl h)
theorem SqT.of {K : PySem.W.Frag} (h : H a = some (.tup xs)) : SqT K H a xs := .inl (.inl h)
theorem Inv.list (I : Inv X pins σ H s) (h : SqL X.K H a xs) : ∃ its : List Value, Vals xs its ∧ PlainL s.heap a its.toArray ∧ xs.length ≤ sizeLine := by
  rcases h with h | ⟨o, its, n, hk, hc, hd, hs, hz, r⟩
  · obtain ⟨z, its, n, r, e⟩ := h.ok I.hok
    exact ⟨its, r, ⟨_, n, e, rfl, rfl, rfl⟩, z⟩
  · refine ⟨its.toList, r, ⟨o, n, I.kIn a o hk, hc, hd, by simpa using hs⟩, ?_⟩
    have e := r.length
    simp only [Array.length_toList] at e
    omega
theorem Inv.tuple (I : Inv X pins σ H s) (h : SqT X.K H a xs) : ∃ its : List Value, Vals xs its ∧ IsTup s.heap a its.toArray ∧ xs.length ≤ sizeLine := by
  rcases h with h | ⟨o, its, n, hk, hc, hs, hz, r⟩
  · obtain ⟨z, its, r, p⟩ := h.ok I.hok
    exact ⟨its, r, p, z⟩
  · refine ⟨its.toList, r, ⟨o, I.kIn a o hk, hc, n, by simpa using hs⟩, ?_⟩
    have e := r.length
    simp only [Array.length_toList] at e
    omega
theorem Inv.list_inj (I : Inv X pins σ H s) (h : SqL X.K H a xs) (h' : SqL X.K H a ys) : xs = ys := by
  obtain ⟨its, r, ⟨o, n, e, _, _, d⟩, _⟩ := I.list h
  obtain ⟨its', r', ⟨o', n', e', _, _, d'⟩, _⟩ := I.list h'
  rw [e] at e'; cases e'
  rw [d] at d'
  injection d' with d1 _
  have : its = its' := by simpa using congrArg Array.toList d1
  subst this
  exact r.inj r'
end

/-! ### another wish about exceptions -/
abbrev Cx.wish (X : Cx) (E : Value → Shared → Prop) : Cx := { X with xe := E }
/-- no exception leaves -/
abbrev Cx.nox (X : Cx) : Cx := X.wish fun _ _ => False
theorem Cx.Ok.wish {X : Cx} (ok : X.Ok) (E : Value → Shared → Prop) : (X.wish E).Ok :=
  ⟨ok.mod, ok.kind, ok.glob, ok.blt, ok.above, ok.inj, ok.has, ok.cab, ok.hd, ok.frames, ok.stk, ok.exf, ok.bs, ok.bsz, ok.noex, ok.exfs, ok.funs, ok.frf⟩
theorem Cx.Ok.unwish {X : Cx} {E : Value → Shared → Prop} (ok : (X.wish E).Ok) : X.Ok :=
  ⟨ok.mod, ok.kind, ok.glob, ok.blt, ok.above, ok.inj, ok.has, ok.cab, ok.hd, ok.frames, ok.stk, ok.exf, ok.bs, ok.bsz, ok.noex, ok.exfs, ok.funs, ok.frf⟩
section
variable {X : Cx} {pins : List (Addr × Obj)} {σ : St} {H : Hp} {s : Shared} {E : Value → Shared → Prop}
theorem Inv.wish (I : Inv X pins σ H s) (E : Value → Shared → Prop) : Inv (X.wish E) pins σ H s := ⟨I.ok.wish E, I.os, I.bare, I.base, I.loc, I.cell, I.free, I.freeC, I.pin, I.hok, I.len⟩
theorem Inv.unwish (I : Inv (X.wish E) pins σ H s) : Inv X pins σ H s := ⟨I.ok.unwish, I.os, I.bare, I.base, I.loc, I.cell, I.free, I.freeC, I.pin, I.hok, I.len⟩
theorem SP.unwish {D : Ends} {f : Flow} {s' : Shared} (h : SP (X.wish E) pins D f s') : SP X pins D f s' := by
  cases f with
  | next => obtain ⟨σ', H', I, q⟩ := h; exact ⟨σ', H', I.unwish, q⟩
  | brk => obtain ⟨σ', H', I, q⟩ := h; exact ⟨σ', H', I.unwish, q⟩
  | cont => obtain ⟨σ', H', I, q⟩ := h; exact ⟨σ', H', I.unwish, q⟩
  | ret u => obtain ⟨v, σ', H', I, r, q⟩ := h; exact ⟨v, σ', H', I.unwish, r, q⟩
theorem PE.nox {e : Expr} {t : TE} (h : PE X.nox e t) : PE X e t := fun pins s σ H Q I hw =>
  wpAny_mono (h pins s σ H Q (I.wish _) hw) (fun _ _ ⟨v, H', I', r, q⟩ => ⟨v, H', I'.unwish, r, q⟩) fun _ _ z => False.elim z
theorem PT.nox {e : Expr} {t : TT} (h : PT X.nox e t) : PT X e t := fun pins s σ H Q I hw =>
  wpAny_mono (h pins s σ H Q (I.wish _) hw) (fun _ _ ⟨H', I', q⟩ => ⟨H', I'.unwish, q⟩) fun _ _ z => False.elim z
theorem PSs.nox {st : List Stmt} {t : TS} (h : PSs X.nox st t) : PSs X st t := fun pins s σ H D I hw =>
  wpAny_mono (h pins s σ H D (I.wish _) hw) (fun _ _ q => q.unwish) fun _ _ z => False.elim z
end

/-! ### blocks and small statements -/
section
variable {X : Cx} {st : Stmt} {rest : List Stmt} {t u : TS} {e : Expr} {te : TE} {pos : Pos}
def tNext : TS := fun D σ H => D.nx σ H
def tSeq (t u : TS) : TS := fun D σ H => t { D with nx := u D } σ H
theorem pss_nil : PSs X [] tNext := fun _ _ σ H _ I h => wpAny_execs_nil ⟨σ, H, I, h⟩
theorem pss_cons (h1 : PS X st t) (h2 : PSs X rest u) : PSs X (st :: rest) (tSeq t u) := by
  intro pins s σ H D I h
  refine wpAny_execs_cons (thn (h1 pins s σ H { D with nx := u D } I h) fun f s1 q => ?_)
  cases f with
  | next =>
    obtain ⟨σ', H', I', q⟩ := q
    exact h2 pins s1 σ' H' D I' q
  | ret v => exact q
  | brk => exact q
  | cont => exact q
theorem pss_one (h1 : PS X st t) : PSs X [st] t := by
  intro pins s σ H D I h
  refine wpAny_execs_cons (thn (h1 pins s σ H D I h) fun f s1 q => ?_)
  cases f with
  | next => exact wpAny_execs_nil q
  | ret v => exact q
  | brk => exact q
  | cont => exact q
def tBreak : TS := fun D σ H => D.bk σ H
def tCont : TS := fun D σ H => D.ct σ H
/-- in a def's body nothing is shown -/
theorem Inv.quiet {pins : List (Addr × Obj)} {σ : St} {H : Hp} {s : Shared} (I : Inv X pins σ H s) : interactive X.env = false := by simp [interactive, I.ok.kind]
/-- an expression whose value is dropped -/
def tDrop (te : TE) : TS := fun D σ H => te σ H fun _ H1 => D.nx σ H1
theorem ps_expr (he : PE X e te) (hs : swapsWith e none pos.line X.env = pure false := by rfl) : PS X (.Expr e pos) (tDrop te) := by
  intro pins s σ H D I h
  exact wpAny_Expr_any (thn (he pins s σ H _ I h) fun v s1 ⟨x, H1, I1, r1, q1⟩ => ⟨σ, H1, I1, q1⟩) I.quiet hs
def tRet (te : TE) : TS := fun D σ H => te σ H D.rt
theorem ps_ret (he : PE X e te) : PS X (.Return (some e) pos) (tRet te) := by
  intro pins s σ H D I h
  exact wpAny_Return_some (thn (he pins s σ H _ I h) fun v s1 ⟨x, H1, I1, r1, q1⟩ => ⟨x, σ, H1, I1, r1, q1⟩)
def tRetN : TS := fun D _ H => D.rt .non H
def tIfS (c : TT) (t u : TS) : TS := fun D σ H => c σ H fun b H1 => if b = true then t D σ H1 else u D σ H1
theorem ps_if {c : Expr} {a b : List Stmt} {tc : TT} (hc : PT X c tc) (ha : PSs X a t) (hb : PSs X b u) : PS X (.If c a b pos) (tIfS tc t u) := by
  intro pins s σ H D I h
  refine wpAny_If (thn (hc pins s σ H _ I h) fun d s1 ⟨H1, I1, q1⟩ => ?_)
  cases d with
  | true => exact ha pins s1 σ H1 D I1 q1
  | false => exact hb pins s1 σ H1 D I1 q1
/-- code that the proof never comes to -/
def tNever : TS := fun _ _ _ => False
end

/-! ### targets -/
abbrev TG := V → St → Hp → (St → Hp → Prop) → Prop
abbrev TGs := List V → St → Hp → (St → Hp → Prop) → Prop
def PG (X : Cx) (target : Expr) (t : TG) : Prop :=
  ∀ (pins : List (Addr × Obj)) (s : Shared) (σ : St) (H : Hp) (v : V) (u : Value) (Q : St → Hp → Prop), Inv X pins σ H s → RelV v u → t v σ H Q →
    wpAny (model X.prog X.w) X.A (assign target X.env u) (fun _ s' => ∃ σ' H', Inv X pins σ' H' s' ∧ Q σ' H') X.xe s
/-- several targets, one after another -/
def PGs (X : Cx) (ts : List Expr) (t : TGs) : Prop :=
  ∀ (pins : List (Addr × Obj)) (s : Shared) (σ : St) (H : Hp) (vs : List V) (us : List Value) (Q : St → Hp → Prop), Inv X pins σ H s → Vals vs us → t vs σ H Q →
    wpAny (model X.prog X.w) X.A (assignInOrder ((assignEach ts X.env).map (·.2)) us) (fun _ s' => ∃ σ' H', Inv X pins σ' H' s' ∧ Q σ' H') X.xe s
/-- o[i] = v, by values -/
abbrev TSet := V → V → V → Hp → (Hp → Prop) → Prop
def PSet (X : Cx) (t : TSet) : Prop :=
  ∀ (pins : List (Addr × Obj)) (s : Shared) (σ : St) (H : Hp) (o i v : V) (ov iv u : Value) (Q : Hp → Prop), Inv X pins σ H s → RelV o ov → RelV i iv → RelV v u → t o i v H Q →
    wpAny (model X.prog X.w) X.A (setItem ov iv u) (fun _ s' => ∃ H', Inv X pins σ H' s' ∧ Q H') X.xe s
/-- a op= b, by values -/
abbrev TIp := V → V → Hp → VK → Prop
def PIp (X : Cx) (op : Operator) (t : TIp) : Prop :=
  ∀ (pins : List (Addr × Obj)) (s : Shared) (σ : St) (H : Hp) (x y : V) (v u : Value) (Q : VK), Inv X pins σ H s → RelV x v → RelV y u → t x y H Q →
    wpAny (model X.prog X.w) X.A (inplaceOp op v u) (EP X pins σ Q) X.xe s
section
variable {X : Cx} {pos : Pos}
def gName (i : Nat) : TG := fun v σ H Q => Q (σ.set i (some v)) H
theorem pg_name {i : Nat} {x : Str} (hN : X.N.Nodup) (hi : X.N[i]? = some x) (hx : Loc X.env.scope x) (hf : X.fn x = true ∨ X.env.scope.names.lookup x = some .local := by first | exact .inl rfl | exact .inr rfl | assumption) : PG X (.Name x pos) (gName i) := by
  intro pins s σ H v u Q I r h
  exact wpAny_assign_Name (store_ok I hN hi hx r (fun s' I' => ⟨_, H, I', h⟩) hf)
def gNil : TGs := fun vs σ H Q => vs = [] ∧ Q σ H
def gCons (t : TG) (u : TGs) : TGs := fun vs σ H Q => ∃ v r, vs = v :: r ∧ t v σ H fun σ' H' => u r σ' H' Q
theorem pgs_nil : PGs X [] gNil := by
  intro pins s σ H vs us Q I r h
  obtain ⟨e, h⟩ := h
  subst e
  cases r
  exact assignInOrder_nil ⟨σ, H, I, h⟩
theorem pgs_cons {e : Expr} {es : List Expr} {t : TG} {u : TGs} (h1 : PG X e t) (h2 : PGs X es u)
    (hs : (assignEach (e :: es) X.env).map (·.2) = assign e X.env :: (assignEach es X.env).map (·.2) := by rfl) : PGs X (e :: es) (gCons t u) := by
  intro pins s σ H vs us Q I r h
  obtain ⟨v, vr, e1, h⟩ := h
  subst e1
  cases r with
  | cons r rr =>
    rw [hs]
    refine assignInOrder_cons (thn (h1 pins s σ H _ _ _ I r h) fun _ s1 ⟨σ1, H1, I1, q1⟩ => ?_)
    exact h2 pins s1 σ1 H1 _ _ Q I1 rr q1
/-- (a, b, ..) = a tuple of that length -/
def gTup (K : PySem.W.Frag) (n : Nat) (t : TGs) : TG := fun v σ H Q => ∃ a xs, v = .ref a ∧ SqT K H a xs ∧ xs.length = n ∧ t xs σ H Q
theorem pg_tup {es : List Expr} {k : Nat} {t : TGs} {n : Nat} (hc : X.calm = true) (h : PGs X es t)
    (hn : (assignEach es X.env).length = n := by rfl) (hst : (assignEach es X.env).findIdx? (·.1) = none := by rfl) : PG X (.Tuple es k pos) (gTup X.K n t) := by
  intro pins s σ H v u Q I r hw
  obtain ⟨a, xs, e1, hq, hl, hw⟩ := hw
  subst e1
  cases r
  obtain ⟨its, rv, ht, hz⟩ := I.tuple hq
  refine assign_Tuple_tuple (I.ok.hd hc) ht (by simp [hn, ← hl, rv.length]) hst fun h' hx => ?_
  have I1 : Inv X pins σ H { s with heap := h' } := I.kept (t' := s.toks) fun b o e => hx b o (Nat.ne_of_lt (Heap.lt_size e)) e
  exact h pins _ σ H xs _ Q I1 (by simpa using rv) hw
/-- o[i] = .. -/
def gSub (to ti : TE) (t : TSet) : TG := fun v σ H Q => to σ H fun o H1 => ti σ H1 fun i H2 => t o i v H2 fun H3 => Q σ H3
theorem pg_sub {o i : Expr} {to ti : TE} {t : TSet} (ho : PE X o to) (hi : PE X i ti) (hs : PSet X t)
    (ha : ∀ v, assign (.Subscript o i pos) X.env v = (do
      let ov ← holding [v] (eval o X.env)
      let iv ← holding [v, ov] (eval i X.env)
      standAt pos
      holding [v, ov, iv] (setItem ov iv v)
      release [v, ov, iv] []) := by intro _; rfl) : PG X (.Subscript o i pos) (gSub to ti t) := by
  intro pins s σ H v u Q I r h
  rw [ha]
  refine wpAny_bind (wpAny_holding (thn (ho pins s σ H _ I h) fun ov s1 ⟨x, H1, I1, r1, q1⟩ => ?_))
  refine wpAny_bind (wpAny_holding (thn (hi pins s1 σ H1 _ I1 q1) fun iv s2 ⟨y, H2, I2, r2, q2⟩ => ?_))
  refine wpAny_bind (wpAny_standAt (wpAny_bind (wpAny_holding (thn (hs pins s2 σ H2 x y v ov iv u _ I2 r1 r2 r q2) fun _ s3 ⟨H3, I3, q3⟩ => ?_))))
  exact wpAny_release ⟨σ, H3, I3, q3⟩
/-- target = value -/
def tAsg (te : TE) (g : TG) : TS := fun D σ H => te σ H fun x H1 => g x σ H1 D.nx
theorem ps_asg {tg e : Expr} {te : TE} {g : TG} (he : PE X e te) (hg : PG X tg g) (hs : swapsWithSole [tg] e pos.line X.env = pure false := by rfl) (hw : swappedStores [tg] e X.env = pure none := by rfl)
    (h1 : (assignEach [tg] X.env).map (·.2) = [assign tg X.env] := by rfl) : PS X (.Assign [tg] e pos) (tAsg te g) := by
  intro pins s σ H D I h
  refine wpAny_Assign_stores (thn (he pins s σ H _ I h) fun v s1 ⟨x, H1, I1, r1, q1⟩ => ?_) hs hw
  rw [h1]
  exact thn (hg pins s1 σ H1 x v _ I1 r1 q1) fun _ s2 q => q
/-- name = value -/
theorem ps_set {i : Nat} {x : Str} {e : Expr} {te : TE} {pos' : Pos} (hN : X.N.Nodup) (hi : X.N[i]? = some x) (hx : Loc X.env.scope x) (he : PE X e te) (hs : swapsWith e (some (.Name x pos')) pos.line X.env = pure false := by rfl) (hf : X.fn x = true ∨ X.env.scope.names.lookup x = some .local := by first | exact .inl rfl | exact .inr rfl | assumption) :
    PS X (.Assign [.Name x pos'] e pos) (tAsg te (gName i)) := by
  intro pins s σ H D I h
  refine wpAny_Assign_Name (thn (he pins s σ H _ I h) fun v s1 ⟨y, H1, I1, r1, q1⟩ => ?_) hs
  exact store_ok I1 hN hi hx r1 (fun s2 I2 => ⟨_, H1, I2, q1⟩) hf
/-- a, b = x, y with plain local names: stored from the right; the pair itself is not tracked (the opening rows as in PyProof/Rows/TupAssign.lean:23) -/
def tPar (i j : Nat) (ta : TA) : TS := fun D σ H => ta σ H fun vs H1 => ∃ v w, vs = [v, w] ∧ D.nx ((σ.set i (some v)).set j (some w)) H1
/-- name op= e -/
def tAug (i : Nat) (te : TE) (ti : TIp) : TS := fun D σ H => ∃ x, σ[i]? = some (some x) ∧ te σ H fun y H1 => ti x y H1 fun z H2 => D.nx (σ.set i (some z)) H2
/-- o[i] op= e -/
def tAugS (to ti te : TE) (tget : V → V → Hp → VK → Prop) (tip : TIp) (tset : TSet) : TS := fun D σ H => to σ H fun o H1 => ti σ H1 fun i H2 => tget o i H2 fun x H3 => te σ H3 fun y H4 => tip x y H4 fun z H5 => tset o i z H5 fun H6 => D.nx σ H6
/-- o[i], by values -/
def PGet (X : Cx) (t : V → V → Hp → VK → Prop) : Prop :=
  ∀ (pins : List (Addr × Obj)) (s : Shared) (σ : St) (H : Hp) (o i : V) (ov iv : Value) (Q : VK), Inv X pins σ H s → RelV o ov → RelV i iv → t o i H Q →
    wpAny (model X.prog X.w) X.A (getItem ov iv) (EP X pins σ Q) X.xe s
/-- ints -/
def ipI (f : Int → Int → Int) : TIp := fun x y H Q => ∃ i j, x = .int i ∧ y = .int j ∧ Q (.int (f i j)) H
end

/-! ### while -/
section
variable {X : Cx} {pos : Pos}
/-- the invariant W with its measure -/
def tWhile (c : TT) (tb : TS) : TS := fun D σ H => ∃ W : Nat → St → Hp → Prop, (∃ m, W m σ H) ∧ ∀ m σ H, W m σ H →
  c σ H fun b H1 => if b = true then ∃ N : St → Hp → Prop, (∀ σ' H', N σ' H' → ∃ m', m' < m ∧ W m' σ' H') ∧ tb { D with nx := N, ct := N, bk := D.nx } σ H1 else D.nx σ H1
theorem ps_while {c : Expr} {body : List Stmt} {tc : TT} {tb : TS} (hp : PassesOwn (model X.prog X.w) X.A X.env X.xe) (hc : PT X c tc) (hb : PSs X body tb) : PS X (.While c body [] pos) (tWhile tc tb) := by
  intro pins s σ H D I h
  obtain ⟨W, ⟨m0, w0⟩, turn⟩ := h
  refine wpAny_While (codeAny_whileLoop (fun n s' => ∃ σ' H', Inv X pins σ' H' s' ∧ W n σ' H') ?_ m0 ⟨σ, H, I, w0⟩)
  rintro n s1 ⟨σ1, H1, I1, w1⟩
  refine wpAny_passesOwn hp (thn (hc pins s1 σ1 H1 _ I1 (turn n σ1 H1 w1)) fun b s2 ⟨H2, I2, q2⟩ => ?_)
  cases b with
  | true =>
    obtain ⟨N, hN, q2⟩ := q2
    rw [if_pos rfl]
    refine wpAny_passesOwn hp (thn (hb pins s2 σ1 H2 _ I2 q2) fun f s3 q3 => ?_)
    cases f with
    | next =>
      obtain ⟨σ3, H3, I3, n3⟩ := q3
      obtain ⟨m', hm, w3⟩ := hN σ3 H3 n3
      exact ⟨m', hm, σ3, H3, I3, w3⟩
    | cont =>
      obtain ⟨σ3, H3, I3, n3⟩ := q3
      obtain ⟨m', hm, w3⟩ := hN σ3 H3 n3
      exact ⟨m', hm, σ3, H3, I3, w3⟩
    | brk => exact q3
    | ret v => exact q3
  | false =>
    rw [if_neg Bool.false_ne_true]
    exact wpAny_execs_nil ⟨σ1, H2, I2, q2⟩
end

/-! ### what a loop or a comprehension walks -/
/-- at turn i: it yields x (the heap may grow), or it stops -/
structure It where
  go : Nat → Hp → Prop
  yld : Nat → Hp → V → Hp → Prop
  stop : Nat → Hp → Prop
/-- the iterator's own objects may turn: they are not the frame's, not pinned, younger than the entry (or a comprehension's own) -/
def FpOk (X : Cx) (pins : List (Addr × Obj)) (H : Hp) (b : Addr) : Prop :=
  H b = none ∧ b ≠ X.env.locals ∧ b ∉ X.fs ∧ (b ∈ X.ex ∨ X.s₀.heap.objs.size ≤ b) ∧ (∀ x c, X.env.cells.lookup x = some c → c ≠ b) ∧ ∀ p ∈ X.pn ++ pins, p.1 ≠ b
theorem Inv.fpOk {X : Cx} {pins : List (Addr × Obj)} {σ : St} {H H' : Hp} {s : Shared} {b : Addr} (I : Inv X pins σ H s) (hb : s.heap.objs.size ≤ b) (hn : H' b = none) : FpOk X pins H' b := by
  refine ⟨hn, Nat.ne_of_gt (Nat.lt_of_lt_of_le I.lt hb), I.nofs hb, .inr (Nat.le_trans I.sz hb), fun x c e z => ?_, fun p hp z => ?_⟩
  · obtain ⟨v, q⟩ := I.cell x c e
    exact absurd (Nat.lt_of_lt_of_le q.lt (by rw [z]; exact hb)) (Nat.lt_irrefl _)
  · exact absurd (Nat.lt_of_lt_of_le (Heap.lt_size (I.pin p hp).1) (by rw [z]; exact hb)) (Nat.lt_irrefl _)
structure Turn (P : Program) (w : World) (K : PySem.W.Frag) (tg : Expr) (J : It) (fp : List Addr) (it : Addr) (tn : Nat → Heap → Prop) : Prop where
  mem : it ∈ fp
  obj : ∀ i h, tn i h → ∀ b ∈ fp, ∃ o, h.get? b = some o ∧ ∀ v, o.data ≠ .cell v
  keep : ∀ i h h', tn i h → (∀ b ∈ fp, ∀ o, h.get? b = some o → h'.get? b = some o) → tn i h'
  item : ∀ (X : Cx), X.prog = P → X.w = w → X.K = K → X.calm = true → ∀ (i : Nat) (pins : List (Addr × Obj)) (s : Shared) (σ : St) (H : Hp) (E : Value → Shared → Prop), Inv X pins σ H s → (∀ b ∈ fp, FpOk X pins H b) → tn i s.heap → J.go i H →
    wpAny (model P w) X.A (pyNext (.ref it)) (fun r s1 => ∃ u, r = some u ∧
      wpAny (model P w) X.A (letOwnedTupleGo tg (.ref it) u) (fun _ s2 => ∃ x H', Inv X pins σ H' s2 ∧ RelV x u ∧ J.yld i H x H' ∧ tn (i + 1) s2.heap ∧ ∀ b ∈ fp, H' b = none) E s1) E s
  done : ∀ (X : Cx), X.prog = P → X.w = w → X.K = K → X.calm = true → ∀ (i : Nat) (pins : List (Addr × Obj)) (s : Shared) (σ : St) (H : Hp) (E : Value → Shared → Prop), Inv X pins σ H s → (∀ b ∈ fp, FpOk X pins H b) → tn i s.heap → J.stop i H →
    wpAny (model P w) X.A (pyNext (.ref it)) (fun r s1 => r = none ∧ Inv X pins σ H s1) E s
  self : ∀ (A : Around) (i : Nat) (s : Shared) (Q : Value → Shared → Prop) (E : Value → Shared → Prop), tn i s.heap → Q (.ref it) s → wpAny (model P w) A (pyIter (.ref it)) Q E s
abbrev TI := St → Hp → (It → Hp → Prop) → Prop
/-- an iterator has come -/
def PIE (X : Cx) (pins : List (Addr × Obj)) (σ : St) (tg : Expr) (R : It → Hp → Prop) (itv : Value) (s2 : Shared) : Prop :=
  ∃ (it : Addr) (fp : List Addr) (tn : Nat → Heap → Prop) (J : It) (H' : Hp), itv = .ref it ∧ Inv X pins σ H' s2 ∧ Turn X.prog X.w X.K tg J fp it tn ∧ tn 0 s2.heap ∧ (∀ b ∈ fp, FpOk X pins H' b) ∧ R J H'
def PI (X : Cx) (tg iter : Expr) (wi : TI) : Prop :=
  ∀ (pins : List (Addr × Obj)) (s : Shared) (σ : St) (H : Hp) (R : It → Hp → Prop), Inv X pins σ H s → wi σ H R →
    wpAny (model X.prog X.w) X.A (eval iter X.env) (fun v s1 => wpAny (model X.prog X.w) X.A (pyIter v) (PIE X pins σ tg R) X.xe s1) X.xe s

/-- the step ahead of the store is nothing for an iterator that keeps no tuple -/
theorem go_of {M : Model} {A : Around} {E : Value → Shared → Prop} {s : Shared} {tg : Expr} {it : Addr} {u : Value} {o : Obj} {n : String} {vs : Array Value} {Q : Unit → Shared → Prop} (ho : s.heap.get? it = some o) (hc : o.cls = .type n) (hd : o.data = .fields vs)
    (hn : ["enumerate", "zip", "dict_itemiterator", "dict_reverseitemiterator", "odict_iterator", "itertools.zip_longest", "itertools.pairwise"].contains n = false) (hQ : Q () s) : wpAny M A (letOwnedTupleGo tg (.ref it) u) Q E s := by
  unfold letOwnedTupleGo
  cases tg <;> first
    | exact wpAny_pure hQ
    | (cases u <;> first
        | exact wpAny_pure hQ
        | (refine wpAny_bind (wpAny_load ho ?_)
           rw [hc, hd]
           show wpAny M A (if (["enumerate", "zip", "dict_itemiterator", "dict_reverseitemiterator", "odict_iterator", "itertools.zip_longest", "itertools.pairwise"].contains n && vs[0]? == some (rawInt _)) = true then _ else _) Q E s
           rw [if_neg (by intro h; rw [hn, Bool.false_and] at h; cases h)]
           exact wpAny_pure hQ))

/-- the list at a, as it stands at each turn (a loop may append to it) -/
def Itl (K : PySem.W.Frag) (a : Addr) : It :=
  ⟨fun i H => ∃ xs x, SqL K H a xs ∧ xs[i]? = some x, fun i H x H' => H' = H ∧ ∀ xs, SqL K H a xs → xs[i]? = some x, fun i H => ∃ xs, SqL K H a xs ∧ xs.length ≤ i⟩
def Itt (K : PySem.W.Frag) (a : Addr) : It :=
  ⟨fun i H => ∃ xs x, SqT K H a xs ∧ xs[i]? = some x, fun i H x H' => H' = H ∧ ∀ xs, SqT K H a xs → xs[i]? = some x, fun i H => ∃ xs, SqT K H a xs ∧ xs.length ≤ i⟩
/-- lo, lo + 1, .. (n of them) -/
def Itr (lo : Int) (n : Nat) : It := ⟨fun i _ => i < n, fun i H x H' => H' = H ∧ x = .int (lo + i), fun i _ => n ≤ i⟩
theorem turn_list {P : Program} {w : World} {K : PySem.W.Frag} {tg : Expr} (a it : Addr) : Turn P w K tg (Itl K a) [it] it (fun i h => h.IsListIter it a i) where
  mem := by simp
  obj := fun i h st b hb => by
    have e : b = it := by simpa using hb
    subst e
    obtain ⟨o, e, c, d⟩ := st
    exact ⟨o, e, fun v z => by rw [d] at z; cases z⟩
  keep := fun i h h' st k => st.at fun o e => k it (by simp) o e
  item := by
    intro X hP hw hK hc i pins s σ H E I hf st hg
    subst hP hw hK
    obtain ⟨xs, x, hq, hx⟩ := hg
    obtain ⟨its, rv, p, hz⟩ := I.list hq
    obtain ⟨u, hu, ru⟩ := rv.get hx
    obtain ⟨f0, f1, f2, f3, f4, f5⟩ := hf it (by simp)
    refine wpAny_pyNext_list_item st p.isList (x := u) (by simpa using hu) fun h' st' sb => ?_
    have I1 : Inv X pins σ H { s with heap := h' } := I.turned (t' := s.toks) (fun b o hb e => (sb.2 b hb).trans e) f0 f1 f3 f4 f5
    obtain ⟨o, e, c, d⟩ := id st'
    exact ⟨u, rfl, go_of (s := { s with heap := h' }) e c d (by decide) ⟨x, H, I1, ru, ⟨rfl, fun ys hy => by rw [I.list_inj hy hq]; exact hx⟩, st', fun b hb => (hf b hb).1⟩⟩
  done := by
    intro X hP hw hK hc i pins s σ H E I hf st hg
    subst hP hw hK
    obtain ⟨xs, hq, hx⟩ := hg
    obtain ⟨its, rv, p, hz⟩ := I.list hq
    obtain ⟨f0, f1, f2, f3, f4, f5⟩ := hf it (by simp)
    have hl := rv.length
    exact wpAny_pyNext_list_end (I.ok.hd hc) st p.isList (by simp; omega) fun h' eb => ⟨rfl, I.turned (t' := s.toks) (fun b o hb e => eb b o hb e) f0 f1 f3 f4 f5⟩
  self := fun _ _ _ _ _ st h => wpAny_pyIter_listiter st h
theorem turn_range {P : Program} {w : World} {K : PySem.W.Frag} {tg : Expr} (it : Addr) (lo : Int) (n : Nat) : Turn P w K tg (Itr lo n) [it] it (fun i h => IsRangeIter h it (lo + (i : Nat) * 1) ((n : Int) - (i : Nat)) 1) where
  mem := by simp
  obj := fun i h st b hb => by
    have e : b = it := by simpa using hb
    subst e
    exact ⟨_, st, fun v z => by
      have z' : Data.fields _ = Data.cell v := z
      cases z'⟩
  keep := fun i h h' st k => k it (by simp) _ st
  item := by
    intro X hP hw hK hc i pins s σ H E I hf st hg
    subst hP hw hK
    obtain ⟨f0, f1, f2, f3, f4, f5⟩ := hf it (by simp)
    have W := Walks.range (prog := X.prog) (w := X.w) (I.ok.hd hc) it lo 1 n
    refine W.item i s _ _ hg st fun v h' tk hv st' kk => ?_
    obtain ⟨t, rfl⟩ := hv
    have I1 : Inv X pins σ H { s with heap := h', toks := tk } := I.turned (fun b o hb e => kk b o (by simpa using hb) e) f0 f1 f3 f4 f5
    refine ⟨_, rfl, go_of (s := { s with heap := h', toks := tk }) (n := "range_iterator") st' rfl rfl (by decide) ⟨.int (lo + i), H, I1, ⟨t, ?_⟩, ⟨rfl, rfl⟩, st', fun b hb => (hf b hb).1⟩⟩
    rw [Int.mul_one]
  done := by
    intro X hP hw hK hc i pins s σ H E I hf st hg
    subst hP hw hK
    obtain ⟨f0, f1, f2, f3, f4, f5⟩ := hf it (by simp)
    exact wpAny_pyNext_range_end (I.ok.hd hc) st (by have : n ≤ i := hg; omega) fun h' eb => ⟨rfl, I.turned (t' := s.toks) (fun b o hb e => eb b o hb e) f0 f1 f3 f4 f5⟩
  self := fun _ _ _ _ _ st h => wpAny_pyIter_rangeiter st h
end L2

namespace L2
open PySem PySem.Spec PyProof.Rows
section
variable {X : Cx} {tg : Expr}
def iList (K : PySem.W.Frag) (tl : TE) : TI := fun σ H R => tl σ H fun x H1 => ∃ a, x = .ref a ∧ (∃ xs, SqL K H1 a xs) ∧ R (Itl K a) H1
def iTup (K : PySem.W.Frag) (tl : TE) : TI := fun σ H R => tl σ H fun x H1 => ∃ a, x = .ref a ∧ (∃ xs, SqT K H1 a xs) ∧ R (Itt K a) H1
theorem pi_list {l : Expr} {tl : TE} (hl : PE X l tl) : PI X tg l (iList X.K tl) := by
  intro pins s σ H R I h
  refine thn (hl pins s σ H _ I h) fun v s1 ⟨x, H1, I1, r1, q1⟩ => ?_
  obtain ⟨a, e, ⟨xs, hq⟩, q⟩ := q1
  subst e
  cases r1
  obtain ⟨its, rv, p, hz⟩ := I1.list hq
  refine wpAny_pyIter_list p.isList ?_
  refine ⟨s1.heap.objs.size, [s1.heap.objs.size], _, _, H1, rfl, I1.kept (t' := s1.toks) fun b o e => Heap.get?_push_of_some _ e, turn_list a _, ⟨_, Heap.get?_push_size _ rfl, rfl, rfl⟩, fun b hb => ?_, q⟩
  have e : b = s1.heap.objs.size := by simpa using hb
  subst e
  exact I1.fpOk (Nat.le_refl _) (I1.hok.fresh (Nat.le_refl _))
/-- a range object just made, walked -/
theorem range_it {pins : List (Addr × Obj)} {σ : St} {H : Hp} {s : Shared} {R : It → Hp → Prop} {E : Value → Shared → Prop} {lo hi : Int} {t u v : Tok} {tk : Nat} (I : Inv X pins σ H s) (h1 : -(2 ^ 62) ≤ lo) (h2 : lo < 2 ^ 62) (h3 : -(2 ^ 62) ≤ hi) (h4 : hi < 2 ^ 62)
    (q : R (Itr lo (hi - lo).toNat) H) : wpAny (model X.prog X.w) X.A (pyIter (.ref s.heap.objs.size)) (PIE X pins σ tg R) E { s with heap := s.heap.push { cls := .type "range", data := .fields #[.int lo t, .int hi u, .int 1 v] }, toks := tk } := by
  refine wpAny_pyIter_range (IsRange.new ..) (small_one h1 h2 h3 h4) ?_
  have I1 : Inv X pins σ H { s with heap := s.heap.push { cls := .type "range", data := .fields #[.int lo t, .int hi u, .int 1 v] }, toks := tk } := I.kept fun b o e => Heap.get?_push_of_some _ e
  refine ⟨(s.heap.push { cls := .type "range", data := .fields #[.int lo t, .int hi u, .int 1 v] }).objs.size, [(s.heap.push { cls := .type "range", data := .fields #[.int lo t, .int hi u, .int 1 v] }).objs.size], _, _, H, rfl,
    I1.kept (t' := tk) fun b o e => Heap.get?_push_of_some _ e, turn_range _ lo (hi - lo).toNat, ?_, fun b hb => ?_, q⟩
  · have e1 : lo + ((0 : Nat) : Int) * 1 = lo := by simp
    have e2 : (((hi - lo).toNat : Nat) : Int) - ((0 : Nat) : Int) = Builtin.Range.rangeSize lo hi 1 := by rw [rangeSize_one]; split <;> omega
    show IsRangeIter _ _ (lo + ((0 : Nat) : Int) * 1) ((((hi - lo).toNat : Nat) : Int) - ((0 : Nat) : Int)) 1
    rw [e1, e2]
    exact Heap.get?_push_size _ rfl
  · have e : b = (s.heap.push { cls := .type "range", data := .fields #[.int lo t, .int hi u, .int 1 v] }).objs.size := by simpa using hb
    subst e
    exact I1.fpOk (Nat.le_refl _) (I1.hok.fresh (Nat.le_refl _))
def iRng1 (ta : TA) : TI := fun σ H R => ta σ H fun vs H1 => ∃ j : Int, vs = [.int j] ∧ -(2 ^ 62) ≤ j ∧ j < 2 ^ 62 ∧ R (Itr 0 j.toNat) H1
def iRng2 (ta : TA) : TI := fun σ H R => ta σ H fun vs H1 => ∃ i j : Int, vs = [.int i, .int j] ∧ (-(2 ^ 62) ≤ i ∧ i < 2 ^ 62 ∧ -(2 ^ 62) ≤ j ∧ j < 2 ^ 62) ∧ R (Itr i (j - i).toNat) H1
theorem pi_range1 {a : Expr} {ta : TA} {p pos : Pos} (hg : Gl X "range") (hm : X.mg "range" = none) (ha : PA X [a] ta) (hs : starEach [a] X.env = [(false, eval a X.env)] := by rfl) : PI X tg (.Call (.Name "range" p) [a] [] pos) (iRng1 ta) := by
  intro pins s σ H R I h
  refine Call_ (ld_blt I hg hm boot_range (PyProof.Rows.callWith_type1 (thn (ha pos pins s σ H _ I h) fun us s1 ⟨vs, H1, I1, r1, q1⟩ => ?_) hs rfl))
  obtain ⟨j, e, q1, q2, q⟩ := q1
  subst e
  cases r1 with
  | cons r rr =>
    cases rr
    obtain ⟨t, rfl⟩ := r
    exact call_range_1 (range_it I1 (by omega) (by omega) q1 q2 (by simpa using q))
theorem pi_range2 {a b : Expr} {ta : TA} {p pos : Pos} (hg : Gl X "range") (hm : X.mg "range" = none) (ha : PA X [a, b] ta) (hs : starEach [a, b] X.env = [(false, eval a X.env), (false, eval b X.env)] := by rfl) (hs2 : starEach [b] X.env = [(false, eval b X.env)] := by rfl) :
    PI X tg (.Call (.Name "range" p) [a, b] [] pos) (iRng2 ta) := by
  intro pins s σ H R I h
  refine Call_ (ld_blt I hg hm boot_range (PyProof.Rows.callWith_type1 (thn (ha pos pins s σ H _ I h) fun us s1 ⟨vs, H1, I1, r1, q1⟩ => ?_) (by rw [hs, hs2]) (by rw [hs2]; rfl)))
  obtain ⟨i, j, e, ⟨q1, q2, q3, q4⟩, q⟩ := q1
  subst e
  cases r1 with
  | cons r rr =>
    cases rr with
    | cons r' rr =>
      cases rr
      obtain ⟨t, rfl⟩ := r
      obtain ⟨t', rfl⟩ := r'
      exact call_range_2 (range_it I1 q1 q2 q3 q4 q)

/-! ### for -/
/-- W: the invariant by the turn and a measure; N: what the body is to reach -/
def tFor (wi : TI) (g : TG) (tb : TS) : TS := fun D σ H => wi σ H fun J H1 => ∃ W : Nat → Nat → St → Hp → Prop, (∃ m, W 0 m σ H1) ∧ ∀ i m σ H, W i m σ H →
  (J.stop i H ∧ D.nx σ H) ∨ (J.go i H ∧ ∃ N : St → Hp → Prop, (∀ σ' H', N σ' H' → ∃ m', m' < m ∧ W (i + 1) m' σ' H') ∧ ∀ x H', J.yld i H x H' → g x σ H' fun σ2 H2 => tb { D with nx := N, ct := N, bk := D.nx } σ2 H2)
/-- the records at fp as they stand -/
def pinsAt (fp : List Addr) (h : Heap) : List (Addr × Obj) := fp.filterMap fun b => (h.get? b).map fun o => (b, o)
theorem mem_pinsAt {fp : List Addr} {h : Heap} {b : Addr} {o : Obj} (hb : b ∈ fp) (e : h.get? b = some o) : (b, o) ∈ pinsAt fp h := List.mem_filterMap.mpr ⟨b, hb, by rw [e]; rfl⟩
theorem of_pinsAt {fp : List Addr} {h : Heap} {p : Addr × Obj} (hp : p ∈ pinsAt fp h) : p.1 ∈ fp ∧ h.get? p.1 = some p.2 := by
  obtain ⟨b, hb, e⟩ := List.mem_filterMap.mp hp
  cases q : h.get? b with
  | none => rw [q] at e; cases e
  | some o =>
    rw [q] at e
    have e' : (b, o) = p := Option.some.inj e
    subst e'
    exact ⟨hb, q⟩
theorem Inv.pinned {pins : List (Addr × Obj)} {σ : St} {H : Hp} {s : Shared} {fp : List Addr} (I : Inv X pins σ H s) (hf : ∀ b ∈ fp, FpOk X pins H b) (ho : ∀ b ∈ fp, ∃ o, s.heap.get? b = some o ∧ ∀ v, o.data ≠ .cell v) : Inv X (pins ++ pinsAt fp s.heap) σ H s :=
  I.pins_of fun p hp => (List.mem_append.mp hp).elim (fun z => I.pin p (List.mem_append_right _ z)) fun z => by
    obtain ⟨hb, e⟩ := of_pinsAt z
    obtain ⟨f0, f1, f2, _⟩ := hf p.1 hb
    obtain ⟨o, e', d⟩ := ho p.1 hb
    rw [e] at e'; cases e'
    exact ⟨e, f0, f1, f2, d⟩
theorem Inv.unpinned {pins pl : List (Addr × Obj)} {σ : St} {H : Hp} {s : Shared} (I : Inv X (pins ++ pl) σ H s) : Inv X pins σ H s := I.pins_of fun p hp => I.pin p (List.mem_append_right _ (List.mem_append_left _ hp))
theorem ps_for {iter : Expr} {body : List Stmt} {wi : TI} {g : TG} {tb : TS} {pos : Pos} (hp : PassesOwn (model X.prog X.w) X.A X.env X.xe) (hc : X.calm = true) (hi : PI X tg iter wi) (hg : PG X tg g) (hb : PSs X body tb)
    (hs : ∀ x, foldedSetIterable iter X.env x = pure x := by intro _; rfl) : PS X (.For tg iter body [] pos) (tFor wi g tb) := by
  intro pins s σ H D I h
  refine wpAny_For (thn (hi pins s σ H _ I h) fun v s1 h1 => thn h1 fun itv s2 h2 => ?_) hs
  obtain ⟨it, fp, tn, J, H2, e, I2, T, st2, f2, W, ⟨m0, w0⟩, turn⟩ := h2
  subst e
  -- what stays true of the iterator's objects through the loop
  have stat : ∀ {H' : Hp}, (∀ b ∈ fp, H' b = none) → ∀ b ∈ fp, FpOk X pins H' b := fun hn b hb => ⟨hn b hb, (f2 b hb).2⟩
  refine codeAny_forLoop_any (fun n s' => ∃ i σ' H', Inv X pins σ' H' s' ∧ tn i s'.heap ∧ (∀ b ∈ fp, H' b = none) ∧ W i n σ' H') ?_ m0 ⟨0, σ, H2, I2, st2, fun b hb => (f2 b hb).1, w0⟩
  rintro n s3 ⟨i, σ3, H3, I3, st3, fr3, w3⟩
  rcases turn i n σ3 H3 w3 with ⟨stop, qn⟩ | ⟨go, N, hN, step⟩
  · refine wpAny_passesOwn hp (thn (T.done X rfl rfl rfl hc i pins s3 σ3 H3 X.xe I3 (stat fr3) st3 stop) fun r s4 ⟨hr, I4⟩ => ?_)
    subst hr
    exact wpAny_execs_nil ⟨σ3, H3, I4, qn⟩
  · refine wpAny_passesOwn hp (thn (T.item X rfl rfl rfl hc i pins s3 σ3 H3 X.xe I3 (stat fr3) st3 go) fun r s4 ⟨u, hr, h4⟩ => ?_)
    subst hr
    refine wpAny_passesOwn hp (thn h4 fun _ s5 ⟨x, H5, I5, r5, y5, st5, fr5⟩ => ?_)
    have I5' := I5.pinned (stat fr5) (T.obj _ _ st5)
    refine wpAny_passesOwn hp (thn (hg _ s5 σ3 H5 x u _ I5' r5 (step x H5 y5)) fun _ s6 ⟨σ6, H6, I6, q6⟩ => ?_)
    refine wpAny_passesOwn hp (thn (hb _ s6 σ6 H6 _ I6 q6) fun f s7 q7 => ?_)
    have again : ∀ {σ7 : St} {H7 : Hp}, Inv X (pins ++ pinsAt fp s5.heap) σ7 H7 s7 → N σ7 H7 → ∃ m, m < n ∧ ∃ i σ' H', Inv X pins σ' H' s7 ∧ tn i s7.heap ∧ (∀ b ∈ fp, H' b = none) ∧ W i m σ' H' := fun {σ7 H7} I7 n7 => by
      obtain ⟨m', hm, w7⟩ := hN σ7 H7 n7
      refine ⟨m', hm, i + 1, σ7, H7, I7.unpinned, T.keep _ _ _ st5 fun b hb o e => (I7.pin (b, o) (List.mem_append_right _ (List.mem_append_right _ (mem_pinsAt hb e)))).1, fun b hb => ?_, w7⟩
      obtain ⟨o, e, d⟩ := T.obj _ _ st5 b hb
      exact (I7.pin (b, o) (List.mem_append_right _ (List.mem_append_right _ (mem_pinsAt hb e)))).2.1
    cases f with
    | next => obtain ⟨σ7, H7, I7, n7⟩ := q7; exact again I7 n7
    | cont => obtain ⟨σ7, H7, I7, n7⟩ := q7; exact again I7 n7
    | brk => obtain ⟨σ7, H7, I7, q7⟩ := q7; exact ⟨σ7, H7, I7.unpinned, q7⟩
    | ret v => obtain ⟨x7, σ7, H7, I7, r7, q7⟩ := q7; exact ⟨x7, σ7, H7, I7.unpinned, r7, q7⟩
end

/-! ### the forms one uses -/
/-- over a list that the body leaves as it is -/
theorem for_list {K : PySem.W.Frag} {a : Addr} {xs : List V} {g : TG} {tb : TS} {D : Ends} {σ : St} {H : Hp} (Pv : Nat → St → Hp → Prop) (h0 : Pv 0 σ H) (hl : ∀ i σ H, i ≤ xs.length → Pv i σ H → SqL K H a xs)
    (hs : ∀ i x σ H, xs[i]? = some x → Pv i σ H → g x σ H fun σ2 H2 => tb { D with nx := Pv (i + 1), ct := Pv (i + 1), bk := D.nx } σ2 H2) (hd : ∀ σ H, Pv xs.length σ H → D.nx σ H) :
    ∃ W : Nat → Nat → St → Hp → Prop, (∃ m, W 0 m σ H) ∧ ∀ i m σ H, W i m σ H →
      ((Itl K a).stop i H ∧ D.nx σ H) ∨ ((Itl K a).go i H ∧ ∃ N : St → Hp → Prop, (∀ σ' H', N σ' H' → ∃ m', m' < m ∧ W (i + 1) m' σ' H') ∧ ∀ x H', (Itl K a).yld i H x H' → g x σ H' fun σ2 H2 => tb { D with nx := N, ct := N, bk := D.nx } σ2 H2) := by
  refine ⟨fun i m σ H => m = xs.length - i ∧ i ≤ xs.length ∧ Pv i σ H, ⟨xs.length, by simp, Nat.zero_le _, h0⟩, ?_⟩
  rintro i m σ H ⟨rfl, hi, p⟩
  have q := hl i σ H hi p
  by_cases hlt : i < xs.length
  · refine .inr ⟨⟨xs, xs[i], q, by simp [hlt]⟩, Pv (i + 1), fun σ' H' p' => ⟨xs.length - (i + 1), by omega, rfl, hlt, p'⟩, fun x H' y => ?_⟩
    obtain ⟨e, y⟩ := y
    subst e
    exact hs i x σ _ (y xs q) p
  · have e : i = xs.length := by omega
    subst e
    exact .inl ⟨⟨xs, q, Nat.le_refl _⟩, hd σ H p⟩
theorem for_range {lo : Int} {n : Nat} {g : TG} {tb : TS} {D : Ends} {σ : St} {H : Hp} (Pv : Nat → St → Hp → Prop) (h0 : Pv 0 σ H)
    (hs : ∀ i σ H, i < n → Pv i σ H → g (.int (lo + i)) σ H fun σ2 H2 => tb { D with nx := Pv (i + 1), ct := Pv (i + 1), bk := D.nx } σ2 H2) (hd : ∀ σ H, Pv n σ H → D.nx σ H) :
    ∃ W : Nat → Nat → St → Hp → Prop, (∃ m, W 0 m σ H) ∧ ∀ i m σ H, W i m σ H →
      ((Itr lo n).stop i H ∧ D.nx σ H) ∨ ((Itr lo n).go i H ∧ ∃ N : St → Hp → Prop, (∀ σ' H', N σ' H' → ∃ m', m' < m ∧ W (i + 1) m' σ' H') ∧ ∀ x H', (Itr lo n).yld i H x H' → g x σ H' fun σ2 H2 => tb { D with nx := N, ct := N, bk := D.nx } σ2 H2) := by
  refine ⟨fun i m σ H => m = n - i ∧ i ≤ n ∧ Pv i σ H, ⟨n, by simp, Nat.zero_le _, h0⟩, ?_⟩
  rintro i m σ H ⟨rfl, hi, p⟩
  by_cases hlt : i < n
  · refine .inr ⟨hlt, Pv (i + 1), fun σ' H' p' => ⟨n - (i + 1), by omega, rfl, hlt, p'⟩, fun x H' y => ?_⟩
    obtain ⟨e, y⟩ := y
    subst e y
    exact hs i σ _ hlt p
  · have e : i = n := by omega
    subst e
    exact .inl ⟨Nat.le_refl _, hd σ H p⟩
end L2

namespace L2
open PySem PySem.Spec PyProof.Rows

abbrev R2 := V → V → Hp → VK → Prop
/-- a two-place operation on values: f is binaryOp op, inplaceOp op or compareOp op -/
def OpR (X : Cx) (f : Value → Value → Sem Value) (r : R2) : Prop :=
  ∀ (pins : List (Addr × Obj)) (s : Shared) (σ : St) (H : Hp) (x y : V) (v u : Value) (Q : VK), Inv X pins σ H s → RelV x v → RelV y u → r x y H Q →
    wpAny (model X.prog X.w) X.A (f v u) (EP X pins σ Q) X.xe s
/-- a one-place operation -/
def UnR (X : Cx) (f : Value → Sem Value) (r : V → Hp → VK → Prop) : Prop :=
  ∀ (pins : List (Addr × Obj)) (s : Shared) (σ : St) (H : Hp) (x : V) (v : Value) (Q : VK), Inv X pins σ H s → RelV x v → r x H Q →
    wpAny (model X.prog X.w) X.A (f v) (EP X pins σ Q) X.xe s
/-- a call of a value that is known (a builtin, a type) with values -/
def CallR (X : Cx) (f : Value) (r : List V → Hp → VK → Prop) : Prop :=
  ∀ (pins : List (Addr × Obj)) (s : Shared) (σ : St) (H : Hp) (xs : List V) (us : List Value) (Q : VK), Inv X pins σ H s → Vals xs us → r xs H Q →
    wpAny (model X.prog X.w) X.A (call f us) (EP X pins σ Q) X.xe s
/-- a value's truth -/
def TruR (X : Cx) (r : V → Hp → (Bool → Hp → Prop) → Prop) : Prop :=
  ∀ (pins : List (Addr × Obj)) (s : Shared) (σ : St) (H : Hp) (x : V) (v : Value) (Q : Bool → Hp → Prop), Inv X pins σ H s → RelV x v → r x H Q →
    wpAny (model X.prog X.w) X.A (truthy v) (TP X pins σ Q) X.xe s

def tOp (r : R2) (ta tb : TE) : TE := fun σ H Q => ta σ H fun x H1 => tb σ H1 fun y H2 => r x y H2 Q
def tUn (r : V → Hp → VK → Prop) (ta : TE) : TE := fun σ H Q => ta σ H fun x H1 => r x H1 Q
/-- ints in, under C, and a value out -/
def rI (C : Int → Int → Prop) (g : Int → Int → V) : R2 := fun x y H Q => ∃ i j, x = .int i ∧ y = .int j ∧ C i j ∧ Q (g i j) H
def rI0 (g : Int → Int → V) : R2 := fun x y H Q => ∃ i j, x = .int i ∧ y = .int j ∧ Q (g i j) H
def rU (g : Int → V) : V → Hp → VK → Prop := fun x H Q => ∃ i, x = .int i ∧ Q (g i) H

section
variable {X : Cx} {a b c : Expr} {ta tb tc : TE} {pos : Pos}

theorem binT (ha : PE X a ta) (hb : PE X b tb) {pins : List (Addr × Obj)} {s : Shared} {σ : St} {H : Hp} {R : V → V → Hp → Prop} (I : Inv X pins σ H s)
    (h : ta σ H fun x H1 => tb σ H1 fun y H2 => R x y H2) {Q : Value → Shared → Prop} {f : Value → Value → Sem Value}
    (hf : ∀ v u s2 x y H2, Inv X pins σ H2 s2 → RelV x v → RelV y u → R x y H2 → wpAny (model X.prog X.w) X.A (f v u) Q X.xe s2) :
    wpAny (model X.prog X.w) X.A (eval a X.env) (fun v s₁ => wpAny (model X.prog X.w) X.A (eval b X.env) (fun u s₂ => wpAny (model X.prog X.w) X.A (f v u) Q X.xe s₂) X.xe s₁) X.xe s := by
  refine thn (ha pins s σ H _ I h) fun v s1 ⟨x, H1, I1, r1, q1⟩ => ?_
  refine thn (hb pins s1 σ H1 _ I1 q1) fun u s2 ⟨y, H2, I2, r2, q2⟩ => ?_
  exact hf v u s2 x y H2 I2 r1 r2 q2

theorem pe_op {op : Operator} {r : R2} (ho : OpR X (binaryOp op) r) (ha : PE X a ta) (hb : PE X b tb) : PE X (.BinOp a op b pos) (tOp r ta tb) := by
  intro pins s σ H Q I h
  exact wpAny_BinOp (binT ha hb I h fun v u s2 x y H2 I2 rx ry q => ho pins s2 σ H2 x y v u Q I2 rx ry q)
theorem pe_un {op : UnaryOp} {r : V → Hp → VK → Prop} (ho : UnR X (unaryOp op) r) (ha : PE X a ta) : PE X (.UnaryOp op a pos) (tUn r ta) := by
  intro pins s σ H Q I h
  exact UnaryOp_ (thn (ha pins s σ H _ I h) fun v s1 ⟨x, H1, I1, r1, q1⟩ => ho pins s1 σ H1 x v Q I1 r1 q1)
/-! ### ints -/
theorem opI {f : Value → Value → Sem Value} {C : Int → Int → Prop} {g : Int → Int → Int}
    (rule : ∀ (i j : Int) (t u : Tok) (s : Shared) (Q : Value → Shared → Prop) (E : Value → Shared → Prop), C i j → Q (.int (g i j) s.toks) { s with toks := s.toks + 1 } → wpAny (model X.prog X.w) X.A (f (.int i t) (.int j u)) Q E s) :
    OpR X f (rI C fun i j => .int (g i j)) := by
  intro pins s σ H x y v u Q I rx ry h
  obtain ⟨i, j, rfl, rfl, hc, q⟩ := h
  obtain ⟨t, rfl⟩ := rx
  obtain ⟨t', rfl⟩ := ry
  exact rule i j t t' s _ _ hc ⟨.int (g i j), H, I.tok _, ⟨_, rfl⟩, q⟩
theorem opI0 {f : Value → Value → Sem Value} {g : Int → Int → Int}
    (rule : ∀ (i j : Int) (t u : Tok) (s : Shared) (Q : Value → Shared → Prop) (E : Value → Shared → Prop), Q (.int (g i j) s.toks) { s with toks := s.toks + 1 } → wpAny (model X.prog X.w) X.A (f (.int i t) (.int j u)) Q E s) :
    OpR X f (rI0 fun i j => .int (g i j)) := by
  intro pins s σ H x y v u Q I rx ry h
  obtain ⟨i, j, rfl, rfl, q⟩ := h
  obtain ⟨t, rfl⟩ := rx
  obtain ⟨t', rfl⟩ := ry
  exact rule i j t t' s _ _ ⟨.int (g i j), H, I.tok _, ⟨_, rfl⟩, q⟩
theorem opB0 {f : Value → Value → Sem Value} {g : Int → Int → Bool}
    (rule : ∀ (i j : Int) (t u : Tok) (s : Shared) (Q : Value → Shared → Prop) (E : Value → Shared → Prop), Q (.bool (g i j)) s → wpAny (model X.prog X.w) X.A (f (.int i t) (.int j u)) Q E s) :
    OpR X f (rI0 fun i j => .bl (g i j)) := by
  intro pins s σ H x y v u Q I rx ry h
  obtain ⟨i, j, rfl, rfl, q⟩ := h
  obtain ⟨t, rfl⟩ := rx
  obtain ⟨t', rfl⟩ := ry
  exact rule i j t t' s _ _ ⟨.bl (g i j), H, I, rfl, q⟩

def CDiv (i j : Int) : Prop := 0 < j ∧ j < 1073741824
def CDivN (i j : Int) : Prop := j ≠ 0 ∧ j.natAbs < 1073741824
def CPow (i j : Int) : Prop := 0 ≤ j ∧ j ≤ 1000000 ∧ i.natAbs < 2 ^ 64
def CMul (i j : Int) : Prop := (-(2 ^ 64) < i ∧ i < 2 ^ 64) ∨ (-(2 ^ 64) < j ∧ j < 2 ^ 64)
theorem CMul.ok {i j : Int} (h : CMul i j) : IntMulOk i j := by
  rcases h with ⟨h1, h2⟩ | ⟨h1, h2⟩
  · exact .of_left (intBits_le_64 h1 h2)
  · exact .of_right (intBits_le_64 h1 h2)
theorem op_add : OpR X (binaryOp .Add) (rI0 fun i j => .int (i + j)) := opI0 fun _ _ _ _ _ _ _ q => add_int q
theorem op_sub : OpR X (binaryOp .Sub) (rI0 fun i j => .int (i - j)) := opI0 fun _ _ _ _ _ _ _ q => sub_int q
theorem op_mul : OpR X (binaryOp .Mult) (rI CMul fun i j => .int (i * j)) := opI fun _ _ _ _ _ _ _ hc q => mul_int q hc.ok
/-- // by a positive divisor -/
theorem op_fdiv : OpR X (binaryOp .FloorDiv) (rI CDiv fun i j => .int (i / j)) := opI fun i j _ _ _ _ _ hc q => by
  have h1 : (0 : Int) < j := hc.1
  have h2 : j < 1073741824 := hc.2
  exact floordiv_int (by omega) (by rw [Int.fdiv_eq_ediv_of_nonneg i (by omega)]; exact q) (.inl (PyProof.noPylong_small (by omega)))
/-- % by a positive divisor of any size -/
theorem op_mod : OpR X (binaryOp .Mod) (rI (fun _ j => 0 < j) fun i j => .int (i % j)) := opI fun i j _ _ _ _ _ hc q => by
  have h1 : (0 : Int) < j := hc
  exact mod_int' (by omega) (by rw [Int.fmod_eq_emod_of_nonneg i (by omega)]; exact q)
theorem op_pow : OpR X (binaryOp .Pow) (rI CPow fun i j => .int (i ^ j.toNat)) := opI fun _ _ _ _ _ _ _ hc q => pow_int_small hc.1 hc.2.1 hc.2.2 q
theorem unI {f : Value → Sem Value} {g : Int → Int}
    (rule : ∀ (i : Int) (t : Tok) (s : Shared) (Q : Value → Shared → Prop) (E : Value → Shared → Prop), Q (.int (g i) s.toks) { s with toks := s.toks + 1 } → wpAny (model X.prog X.w) X.A (f (.int i t)) Q E s) :
    UnR X f (rU fun i => .int (g i)) := by
  intro pins s σ H x v Q I rx h
  obtain ⟨i, rfl, q⟩ := h
  obtain ⟨t, rfl⟩ := rx
  exact rule i t s _ _ ⟨.int (g i), H, I.tok _, ⟨_, rfl⟩, q⟩
theorem un_neg : UnR X (unaryOp .USub) (rU fun i => .int (-i)) := unI fun _ _ _ _ _ q => neg_int q
/-! ### bools among ints: n += (a < b) -/
end

/-! ### comparisons -/
/-- the scalars that == tells apart as data does -/
def scal : V → V → Bool
  | .non, .non => true | .non, .int _ => true | .int _, .non => true | .non, .bl _ => true | .bl _, .non => true | .non, .str _ => true | .str _, .non => true
  | .int _, .int _ => true | .bl _, .bl _ => true | .str _, .str _ => true | .byt _, .byt _ => true
  | .int _, .str _ => true | .str _, .int _ => true | .bl _, .str _ => true | .str _, .bl _ => true
  | _, _ => false
def rEq : R2 := fun x y H Q => scal x y = true ∧ Q (.bl (decide (x = y))) H
def rNe : R2 := fun x y H Q => scal x y = true ∧ Q (.bl (!decide (x = y))) H

theorem dec_int {i j : Int} : decide (V.int i = V.int j) = (i == j) := by
  rw [Bool.eq_iff_iff]
  simp
theorem dec_bl {i j : Bool} : decide (V.bl i = V.bl j) = (i == j) := by
  rw [Bool.eq_iff_iff]
  simp
theorem dec_str {i j : Str} : decide (V.str i = V.str j) = (i == j) := by
  rw [Bool.eq_iff_iff]
  simp
theorem dec_byt {i j : Array UInt8} : decide (V.byt i = V.byt j) = (i.toList == j.toList) := by
  rw [Bool.eq_iff_iff]
  cases i
  cases j
  simp

section
variable {X : Cx} {a b c : Expr} {ta tb tc : TE} {pos : Pos}
theorem fin_bl {pins : List (Addr × Obj)} {σ : St} {H : Hp} {s : Shared} {Q : VK} {k k' : Bool} (I : Inv X pins σ H s) (q : Q (.bl k) H) (e : k = k') : EP X pins σ Q (.bool k') s := by
  subst e
  exact ⟨.bl k, H, I, rfl, q⟩
theorem op_eq : OpR X (compareOp .Eq) rEq := by
  intro pins s σ H x y v u Q I rx ry h
  obtain ⟨hs, q⟩ := h
  cases x with
  | non =>
    cases rx
    cases y with
    | non => cases ry; exact PySem.EqNone.eq_none_none (fin_bl I q (by simp))
    | bl j => cases ry; exact PySem.EqNone.eq_none_bool (fin_bl I q (by simp))
    | int j => obtain ⟨t', rfl⟩ := ry; exact PySem.EqNone.eq_none_int (fin_bl I q (by simp))
    | str j => obtain ⟨t', rfl⟩ := ry; exact PySem.EqNone.eq_none_str (fin_bl I q (by simp))
    | _ => exact absurd (show false = true from hs) Bool.false_ne_true
  | bl i =>
    cases rx
    cases y with
    | non => cases ry; exact PySem.EqNone.eq_bool_none (fin_bl I q (by simp))
    | bl j => cases ry; exact eq_bool (fin_bl I q dec_bl)
    | str j => obtain ⟨t', rfl⟩ := ry; exact PySem.EqMixed.eq_bool_str (fin_bl I q (by simp))
    | _ => exact absurd (show false = true from hs) Bool.false_ne_true
  | int i =>
    obtain ⟨t, rfl⟩ := rx
    cases y with
    | non => cases ry; exact PySem.EqNone.eq_int_none (fin_bl I q (by simp))
    | int j => obtain ⟨t', rfl⟩ := ry; exact eq_int (fin_bl I q dec_int)
    | str j => obtain ⟨t', rfl⟩ := ry; exact PySem.EqMixed.eq_int_str (fin_bl I q (by simp))
    | _ => exact absurd (show false = true from hs) Bool.false_ne_true
  | str i =>
    obtain ⟨t, rfl⟩ := rx
    cases y with
    | non => cases ry; exact PySem.EqNone.eq_str_none (fin_bl I q (by simp))
    | bl j => cases ry; exact PySem.EqMixed.eq_str_bool (fin_bl I q (by simp))
    | int j => obtain ⟨t', rfl⟩ := ry; exact PySem.EqMixed.eq_str_int (fin_bl I q (by simp))
    | str j => obtain ⟨t', rfl⟩ := ry; exact eq_str (fin_bl I q dec_str)
    | _ => exact absurd (show false = true from hs) Bool.false_ne_true
  | byt i =>
    obtain ⟨t, rfl⟩ := rx
    cases y with
    | byt j => obtain ⟨t', rfl⟩ := ry; exact PySem.W.eq_bytes (fin_bl I q dec_byt)
    | _ => exact absurd (show false = true from hs) Bool.false_ne_true
  | _ => cases y <;> exact absurd (show false = true from hs) Bool.false_ne_true
theorem op_ne : OpR X (compareOp .NotEq) rNe := by
  intro pins s σ H x y v u Q I rx ry h
  obtain ⟨hs, q⟩ := h
  cases x with
  | non =>
    cases rx
    cases y with
    | non => cases ry; exact PySem.EqNone.ne_none_none (fin_bl I q (by simp))
    | bl j => cases ry; exact PySem.EqNone.ne_none_bool (fin_bl I q (by simp))
    | int j => obtain ⟨t', rfl⟩ := ry; exact PySem.EqNone.ne_none_int (fin_bl I q (by simp))
    | str j => obtain ⟨t', rfl⟩ := ry; exact PySem.EqNone.ne_none_str (fin_bl I q (by simp))
    | _ => exact absurd (show false = true from hs) Bool.false_ne_true
  | bl i =>
    cases rx
    cases y with
    | non => cases ry; exact PySem.EqNone.ne_bool_none (fin_bl I q (by simp))
    | bl j => cases ry; exact ne_bool (fin_bl I q (congrArg not dec_bl))
    | str j => obtain ⟨t', rfl⟩ := ry; exact PySem.EqMixed.ne_bool_str (fin_bl I q (by simp))
    | _ => exact absurd (show false = true from hs) Bool.false_ne_true
  | int i =>
    obtain ⟨t, rfl⟩ := rx
    cases y with
    | non => cases ry; exact PySem.EqNone.ne_int_none (fin_bl I q (by simp))
    | int j => obtain ⟨t', rfl⟩ := ry; exact ne_int (fin_bl I q (congrArg not dec_int))
    | str j => obtain ⟨t', rfl⟩ := ry; exact PySem.EqMixed.ne_int_str (fin_bl I q (by simp))
    | _ => exact absurd (show false = true from hs) Bool.false_ne_true
  | str i =>
    obtain ⟨t, rfl⟩ := rx
    cases y with
    | non => cases ry; exact PySem.EqNone.ne_str_none (fin_bl I q (by simp))
    | bl j => cases ry; exact PySem.EqMixed.ne_str_bool (fin_bl I q (by simp))
    | int j => obtain ⟨t', rfl⟩ := ry; exact PySem.EqMixed.ne_str_int (fin_bl I q (by simp))
    | str j => obtain ⟨t', rfl⟩ := ry; exact ne_str (fin_bl I q (congrArg not dec_str))
    | _ => exact absurd (show false = true from hs) Bool.false_ne_true
  | byt i =>
    obtain ⟨t, rfl⟩ := rx
    cases y with
    | byt j => obtain ⟨t', rfl⟩ := ry; exact PySem.W.ne_bytes (fin_bl I q (congrArg not dec_byt))
    | _ => exact absurd (show false = true from hs) Bool.false_ne_true
  | _ => cases y <;> exact absurd (show false = true from hs) Bool.false_ne_true

theorem op_lt : OpR X (compareOp .Lt) (rI0 fun i j => .bl (decide (i < j))) := opB0 fun _ _ _ _ _ _ _ q => lt_int q
theorem op_le : OpR X (compareOp .LtE) (rI0 fun i j => .bl (decide (i ≤ j))) := opB0 fun _ _ _ _ _ _ _ q => le_int q
theorem op_gt : OpR X (compareOp .Gt) (rI0 fun i j => .bl (decide (j < i))) := opB0 fun _ _ _ _ _ _ _ q => gt_int q
theorem op_ge : OpR X (compareOp .GtE) (rI0 fun i j => .bl (decide (j ≤ i))) := opB0 fun _ _ _ _ _ _ _ q => ge_int q
/-- is None, is not None: the right side a value none -/
theorem op_isN : OpR X (compareOp .Is) (fun x y H Q => y = .non ∧ Q (.bl (decide (x = .non))) H) := by
  intro pins s σ H x y v u Q I rx ry h
  obtain ⟨rfl, q⟩ := h
  cases ry
  refine is_none_gen (fin_bl I q ?_)
  cases x <;> first
    | (cases rx; rfl)
    | (obtain ⟨t, rfl⟩ := rx; rfl)
theorem op_notN : OpR X (compareOp .IsNot) (fun x y H Q => y = .non ∧ Q (.bl (!decide (x = .non))) H) := by
  intro pins s σ H x y v u Q I rx ry h
  obtain ⟨rfl, q⟩ := h
  cases ry
  refine isnot_none_gen (fin_bl I q ?_)
  cases x <;> first
    | (cases rx; rfl)
    | (obtain ⟨t, rfl⟩ := rx; rfl)

/-- is, is not of two objects that are tracked lists or instances -/
def isObj : HO → Bool
  | .lst _ => true
  | .ins _ _ _ => true
  | _ => false
/-- two rules for one operation: by cases -/
theorem OpR.or {f : Value → Value → Sem Value} {r r' : R2} (h : OpR X f r) (h' : OpR X f r') : OpR X f (fun x y H Q => r x y H Q ∨ r' x y H Q) := by
  intro pins s σ H x y v u Q I rx ry q
  rcases q with q | q
  · exact h pins s σ H x y v u Q I rx ry q
  · exact h' pins s σ H x y v u Q I rx ry q

theorem nomark (b : Expr) {op : CmpOp} (h : op ≠ .In := by decide) (h2 : op ≠ .NotIn := by decide) : behindInMarks op b = false := by
  have e1 : (op == CmpOp.In) = false := by cases op <;> first | rfl | exact absurd rfl h
  have e2 : (op == CmpOp.NotIn) = false := by cases op <;> first | rfl | exact absurd rfl h2
  cases b <;> simp [behindInMarks, e1, e2]
/-- a comparison as a value; hm: nomark b, or (for in, not in) by with_unfolding_all rfl -/
theorem pe_cmpR {op : CmpOp} {r : R2} (ho : OpR X (compareOp op) r) (ha : PE X a ta) (hb : PE X b tb) (hm : behindInMarks op b = false) : PE X (.Compare a [op] [b] pos) (tOp r ta tb) := by
  intro pins s σ H Q I h
  exact wpAny_Compare1 (binT ha hb I h fun v u s2 x y H2 I2 rx ry q => ho pins s2 σ H2 x y v u Q I2 rx ry q) hm
/-- a reading of a value as a test -/
def tTest (t : TE) : TT := fun σ H Q => t σ H fun x H' => ∃ k, x = .bl k ∧ Q k H'
theorem pt_cmpR {op : CmpOp} {r : R2} (ho : OpR X (compareOp op) r) (ha : PE X a ta) (hb : PE X b tb) (hm : behindInMarks op b = false) : PT X (.Compare a [op] [b] pos) (tTest (tOp r ta tb)) := by
  intro pins s σ H Q I h
  refine wpAny_isTrue_Compare1 (thn (ha pins s σ H _ I h) fun v s1 ⟨x, H1, I1, r1, q1⟩ => thn (hb pins s1 σ H1 _ I1 q1) fun u s2 ⟨y, H2, I2, r2, q2⟩ =>
    thn (ho pins s2 σ H2 x y v u _ I2 r1 r2 q2) fun c s3 ⟨z, H3, I3, r3, k, e, q3⟩ => ?_) hm
  subst e
  cases r3
  exact wpAny_truthy_bool ⟨H3, I3, q3⟩
/-- a op1 b op2 c -/
def tChain (r r' : R2) (ta tb tc : TE) : TE := fun σ H Q => ta σ H fun x H1 => tb σ H1 fun y H2 => r x y H2 fun z H3 => ∃ k, z = .bl k ∧
  (if k = true then tc σ H3 fun w' H4 => r' y w' H4 Q else Q (.bl false) H3)
theorem pe_chain {op op' : CmpOp} {r r' : R2} (ho : OpR X (compareOp op) r) (ho' : OpR X (compareOp op') r') (ha : PE X a ta) (hb : PE X b tb) (hc : PE X c tc)
    (hm : lastMarks [op, op'] [b, c] = false := by with_unfolding_all rfl) : PE X (.Compare a [op, op'] [b, c] pos) (tChain r r' ta tb tc) := by
  intro pins s σ H Q I h
  refine Compare_chain (thn (ha pins s σ H _ I h) fun v s1 ⟨x, H1, I1, r1, q1⟩ => chain_link (thn (hb pins s1 σ H1 _ I1 q1) fun u s2 ⟨y, H2, I2, r2, q2⟩ =>
    thn (ho pins s2 σ H2 x y v u _ I2 r1 r2 q2) fun d s3 ⟨z, H3, I3, r3, k, e, q3⟩ => ?_)) hm
  subst e
  cases r3
  refine wpAny_truthy_bool ?_
  cases k with
  | false => exact ite_ff ⟨.bl false, H3, I3, rfl, q3⟩
  | true => exact ite_tt (chain_last (thn (hc pins s3 σ H3 _ I3 q3) fun w' s4 ⟨z', H4, I4, r4, q4⟩ => ho' pins s4 σ H4 y z' u w' Q I4 r2 r4 q4))
/-! ### truth -/
/-- a value's truth by the abstract heap -/
def TruV (K : PySem.W.Frag) (x : V) (H : Hp) (k : Bool) : Prop :=
  match x with
  | .non => k = false
  | .bl b => k = b
  | .int i => k = (i != 0)
  | .str y => y.length ≤ sizeLine ∧ k = ((y.length : Int) != 0)
  | .byt y => y.size ≤ sizeLine ∧ k = ((y.size : Int) != 0)
  | .ref p => (∃ xs, SqL K H p xs ∧ k = !xs.isEmpty) ∨ (∃ xs, SqT K H p xs ∧ k = !xs.isEmpty) ∨ ∃ kvs, H p = some (.dK kvs) ∧ k = !kvs.isEmpty
  | _ => False
theorem line63 : (sizeLine : Nat) < 2 ^ 63 := by rw [sizeLine_eq]; decide
/-! ### strs and bytes -/
def PlainIxT (b : Expr) : Prop := ∀ o i, subscripted b false o i = operate [o, i] (getItem o i)
/-! ### scalar builtins, by CallR -/
theorem vals1 {x : V} {us : List Value} (r : Vals [x] us) : ∃ u, us = [u] ∧ RelV x u := by
  cases r with
  | cons r1 r2 => cases r2; exact ⟨_, rfl, r1⟩
theorem vals2 {x y : V} {us : List Value} (r : Vals [x, y] us) : ∃ u w', us = [u, w'] ∧ RelV x u ∧ RelV y w' := by
  cases r with
  | cons r1 r2 =>
    cases r2 with
    | cons r3 r4 => cases r4; exact ⟨_, _, rfl, r1, r3⟩
theorem call_int1 : CallR X (.type "int") (fun xs H Q => (∃ i, xs = [.int i] ∧ Q (.int i) H) ∨ ∃ k, xs = [.bl k] ∧ Q (.int (if k then 1 else 0)) H) := by
  intro pins s σ H xs us Q I r h
  rcases h with ⟨i, rfl, q⟩ | ⟨k, rfl, q⟩
  · obtain ⟨u, rfl, t, rfl⟩ := vals1 r
    exact call_int_int ⟨.int i, H, I, ⟨_, rfl⟩, q⟩
  · obtain ⟨u, rfl, r1⟩ := vals1 r
    cases r1
    exact call_int_bool ⟨.int (if k then 1 else 0), H, I.tok _, ⟨_, rfl⟩, q⟩
/-- len of a str, a bytes, a list, a tuple -/
def LenV (K : PySem.W.Frag) (x : V) (H : Hp) (n : Nat) : Prop :=
  match x with
  | .str y => y.length ≤ sizeLine ∧ n = y.length
  | .byt y => y.size ≤ sizeLine ∧ n = y.size
  | .ref p => (∃ xs, SqL K H p xs ∧ n = xs.length) ∨ ∃ xs, SqT K H p xs ∧ n = xs.length
  | _ => False
end
end L2

namespace L2
open PySem PySem.Spec PyProof.Rows

/-! ### an instance, its attributes a map -/
structure ObjM (h : Heap) (x dx C : Addr) (mA : Str → Option Value) : Prop where
  obj : h.get? x = some (PySem.W.instObj C dx)
  ns : h.Ns1 dx mA
  ne : dx ≠ x

section
variable {prog : Program} {w : World} {A : Around} {E : Value → Shared → Prop} {s : Shared} {K : PySem.W.Frag} {x dx C f : Addr} {mA : Str → Option Value} {name : Str} {v : Value}

end

/-! ### the attributes as a list of pairs -/
def putF (f : Str) (v : V) : List (Str × V) → List (Str × V)
  | [] => [(f, v)]
  | (g, x) :: r => if g = f then (g, v) :: r else (g, x) :: putF f v r
section
variable {P : Program} {w : World} {H H' : Hp} {h h' : Heap} {a C dx : Addr} {fs fs' : List (Str × V)}
end

/-! ### what of the text a class must have -/
structure Cls (K : PySem.W.Frag) (C : Addr) : Prop where
  pg : PySem.W.plainGet K C Str.empty = true
  hd : PySem.W.hasDictIn K C = true
  po : PySem.W.plainOver K C = true
  sa : PySem.W.findIn K (.ref C) "__setattr__" = some (some (.builtin "object.__setattr__"))
theorem Cls.get {K : PySem.W.Frag} {C : Addr} (c : Cls K C) (f : Str) : PySem.W.plainGet K C f = true := c.pg
/-- no class of it has the name -/
def NoAttr (K : PySem.W.Frag) (C : Addr) (f : Str) : Prop := PySem.W.findIn K (.ref C) f = some none
/-- a constant of the class -/
structure Con (K : PySem.W.Frag) (C : Addr) (f : Str) (v : V) (u : Value) : Prop where
  at_ : PySem.W.findIn K (.ref C) f = some (some u)
  rel : RelV v u
  get : PySem.W.specialIn K u "__get__" = some none
  cp : PySem.W.copiedNames.contains f = false
/-- a method: a plain def of the class or of one above it -/
structure Meth (K : PySem.W.Frag) (C : Addr) (m : Str) (f : Addr) : Prop where
  at_ : PySem.W.findIn K (.ref C) m = some (some (.ref f))
  fn : PySem.W.isFn K (.ref f) = true
  kp : PySem.W.keepIn K (.ref f) = true

section
variable {X : Cx} {pins : List (Addr × Obj)} {σ : St} {H : Hp} {s : Shared} {a C dx : Addr} {fs : List (Str × V)} {f : Str} {v : V} {A : Around} {E : Value → Shared → Prop}

/-- a new instance, tracked, without attributes -/
theorem Inv.made (I : Inv X pins σ H s) : Inv X pins σ (upd (upd H s.heap.objs.size (.own (s.heap.objs.size + 1))) (s.heap.objs.size + 1) (.ins C s.heap.objs.size []))
    { s with heap := (s.heap.push PySem.W.emptyDict).push (PySem.W.instObj C s.heap.objs.size) } := by
  have e1 : (s.heap.push PySem.W.emptyDict).get? s.heap.objs.size = some PySem.W.emptyDict := Heap.get?_push_size s.heap rfl
  have e2 : ((s.heap.push PySem.W.emptyDict).push (PySem.W.instObj C s.heap.objs.size)).get? (s.heap.objs.size + 1) = some (PySem.W.instObj C s.heap.objs.size) := by
    have := Heap.get?_push_size (s.heap.push PySem.W.emptyDict) (o := PySem.W.instObj C s.heap.objs.size) rfl
    rwa [Heap.size_push] at this
  have e3 : (s.heap.push PySem.W.emptyDict).Ns s.heap.objs.size (fun _ => none) := ⟨PySem.W.emptyDict, #[], _, e1, rfl, (fun e he => absurd he (by simp)), fun _ => rfl⟩
  have I1 := I.laid (a := s.heap.objs.size) (o := .own (s.heap.objs.size + 1)) (h' := s.heap.push PySem.W.emptyDict) (t' := s.toks) (fun b u q => Heap.get?_push_of_some _ q) (Nat.le_refl _) ⟨_, e1⟩
  refine I1.laid (a := s.heap.objs.size + 1) (o := .ins C s.heap.objs.size []) (t' := s.toks) (fun b u q => Heap.get?_push_of_some _ q) (Nat.le_of_eq (Heap.size_push _ _)) ?_
  have ne : s.heap.objs.size ≠ s.heap.objs.size + 1 := Nat.ne_of_lt (Nat.lt_succ_self _)
  refine ⟨by rw [upd_ne ne, upd_same], Nat.zero_le _, ne, e2, fun _ => none, (Heap.Ns1.of_empty e3).at fun o q => Heap.get?_push_of_some _ q, fun _ => True.intro, fun y hy => absurd rfl hy⟩

end

/-! ### readings and rules -/
/-- e.f, an attribute of the instance -/
def tFld (K : PySem.W.Frag) (ta : TE) (f : Str) : TE := fun σ H Q => ta σ H fun x H1 => ∃ a C dx fs v, x = .ref a ∧ H1 a = some (.ins C dx fs) ∧ Cls K C ∧ NoAttr K C f ∧ fs.lookup f = some v ∧ Q v H1
/-- e.f, a constant of the class -/
def tCon (K : PySem.W.Frag) (ta : TE) (f : Str) : TE := fun σ H Q => ta σ H fun x H1 => ∃ a C dx fs v u, x = .ref a ∧ H1 a = some (.ins C dx fs) ∧ Cls K C ∧ Con K C f v u ∧ fs.lookup f = none ∧ Q v H1
/-- e.f = value -/
def sFld (K : PySem.W.Frag) (ta tv : TE) (f : Str) : TS := fun D σ H => tv σ H fun y H1 => ta σ H1 fun x H2 => ∃ a C dx fs, x = .ref a ∧ H2 a = some (.ins C dx fs) ∧ Cls K C ∧ NoAttr K C f ∧ fs.length < 1000 ∧
  D.nx σ (upd H2 a (.ins C dx (putF f y fs)))
/-- an augmented operator on two values -/
def InOp (X : Cx) (op : Operator) (rd : V → V → Hp → VK → Prop) : Prop :=
  ∀ (pins : List (Addr × Obj)) (s : Shared) (σ : St) (H : Hp) (x y : V) (u v : Value) (Q : VK), Inv X pins σ H s → RelV x u → RelV y v → rd x y H Q → wpAny (model X.prog X.w) X.A (inplaceOp op u v) (EP X pins σ Q) X.xe s
/-- e.f op= value -/
def sFldAug (K : PySem.W.Frag) (ta tv : TE) (rd : V → V → Hp → VK → Prop) (f : Str) : TS := fun D σ H => ta σ H fun x H1 => ∃ a C dx fs v, x = .ref a ∧ H1 a = some (.ins C dx fs) ∧ Cls K C ∧ NoAttr K C f ∧ fs.lookup f = some v ∧
  tv σ H1 fun y H2 => rd v y H2 fun z H3 => ∃ dx' fs', H3 a = some (.ins C dx' fs') ∧ fs'.length < 1000 ∧ D.nx σ (upd H3 a (.ins C dx' (putF f z fs')))

section
variable {X : Cx} {o e value : Expr} {f : Str} {pos pos' tpos : Pos} {ta tv : TE}
def rAdd : V → V → Hp → VK → Prop := fun x y H Q => ∃ i j, x = .int i ∧ y = .int j ∧ Q (.int (i + j)) H
def rSub : V → V → Hp → VK → Prop := fun x y H Q => ∃ i j, x = .int i ∧ y = .int j ∧ Q (.int (i - j)) H
end

/-! ### isinstance -/
section
variable {X : Cx} {pins : List (Addr × Obj)} {σ : St} {H : Hp} {s : Shared} {A : Around} {E : Value → Shared → Prop} {Q : Value → Shared → Prop} {c : Value} {b : Bool}
/-- the type of a value, as the fragment's deciders take it; for an instance its class -/
inductive TyOf (K : PySem.W.Frag) (H : Hp) : V → Value → Prop where
  | non : TyOf K H .non (.type "NoneType")
  | bl (x : Bool) : TyOf K H (.bl x) (.type "bool")
  | int (i : Int) : TyOf K H (.int i) (.type "int")
  | str (x : Str) : TyOf K H (.str x) (.type "str")
  | flt (x : UInt64) : TyOf K H (.flt x) (.type "float")
  | lst {a : Addr} {xs : List V} (e : H a = some (.lst xs)) : TyOf K H (.ref a) (.type "list")
  | frz {a : Addr} {o : Obj} {xs : List V} (e : H a = some (.frz o (.lst xs))) : TyOf K H (.ref a) (.type "list")
  | tup {a : Addr} {xs : List V} (e : H a = some (.tup xs)) : TyOf K H (.ref a) (.type "tuple")
  | dK {a : Addr} {kvs : List (Key × V)} (e : H a = some (.dK kvs)) : TyOf K H (.ref a) (.type "dict")
  | dT {a : Addr} {kvs : List (List Key × V)} (e : H a = some (.dT kvs)) : TyOf K H (.ref a) (.type "dict")
  | ins {a C dx : Addr} {fs : List (Str × V)} (e : H a = some (.ins C dx fs)) (cl : Cls K C) (ha : PySem.W.findIn K (.ref C) "__class__" = some (some (.builtin "object.__class__")))
      (hn : PySem.W.specialIn K (.builtin "object.__class__") "__get__" = some (some (.builtin "getset_descriptor.__get__"))) (htk : PySem.W.takesIn K (.builtin "object.__class__") = some true)
      (hm : PySem.W.mroIn K C (.type "object") = some true) : TyOf K H (.ref a) (.ref C)
end
end L2

namespace L2
open PySem PySem.Spec PyProof.Rows

/-! ### room -/
structure Room (k : Nat) (A : Around) : Prop where
  hd : A.handled = none
  dp : A.depth + 3 * k + 5 < recursionLimit
  un : A.units + 16 * k + 200 < cLine
theorem Room.mono {j k : Nat} {A : Around} (r : Room k A) (h : j ≤ k) : Room j A := ⟨r.hd, by have := r.dp; omega, by have := r.un; omega⟩
theorem Room.deeper {k : Nat} {A : Around} (r : Room (k + 1) A) (env : Env) : Room k (A.deeper env) :=
  ⟨r.hd, by have := r.dp; show A.depth + 1 + 3 * k + 5 < _; omega, by have := r.un; show A.units + 3 + 16 * k + 200 < _; omega⟩
theorem Room.depth {k : Nat} {A : Around} (r : Room k A) : A.depth < recursionLimit := by have := r.dp; omega
theorem Room.units {k : Nat} {A : Around} (r : Room k A) : A.units + 64 < cLine := by have := r.un; omega
theorem Room.units0 {k : Nat} {A : Around} (r : Room k A) : A.units < cLine := by have := r.un; omega

/-! ### argument lists and displays -/
def tNil : TA := fun _ H Q => Q [] H
def tCons (ta : TE) (tr : TA) : TA := fun σ H Q => ta σ H fun x H1 => tr σ H1 fun xs H2 => Q (x :: xs) H2
section
variable {X : Cx} {e : Expr} {es : List Expr} {te : TE} {t : TA} {pos : Pos}
theorem pa_nil : PA X [] tNil := fun _ _ _ _ H Q I h => Calls.spliced_nil ⟨[], H, I, .nil, h⟩
theorem pa_cons (ha : PE X e te) (hr : PA X es t) (hs : starEach (e :: es) X.env = (false, eval e X.env) :: starEach es X.env := by rfl) : PA X (e :: es) (tCons te t) := by
  intro pos pins s σ H Q I h
  rw [hs]
  show wpAny _ _ (spliced ((false, eval e X.env) :: backTo pos (starEach es X.env))) _ _ s
  refine Calls.spliced_cons (thn (ha pins s σ H _ I h) fun u s1 ⟨x, H1, I1, r1, q1⟩ => ?_)
  exact thn (hr pos pins s1 σ H1 _ I1 q1) fun us s2 ⟨xs, H2, I2, r2, q2⟩ => ⟨x :: xs, H2, I2, .cons r1 r2, q2⟩

/-- a tuple, a list of written items -/
def tTup (t : TA) : TE := fun σ H Q => t σ H fun xs H1 => xs.length ≤ sizeLine ∧ ∀ p, H1 p = none → Q (.ref p) (upd H1 p (.tup xs))
def tLst (t : TA) : TE := fun σ H Q => t σ H fun xs H1 => xs.length ≤ sizeLine ∧ ∀ p, H1 p = none → Q (.ref p) (upd H1 p (.lst xs))
theorem pe_tup {x1} (h : PA X es t) : PE X (.Tuple es x1 pos) (tTup t) := by
  intro pins s σ H Q I hq
  refine wpAny_Tuple_spliced (thn (h pos pins s σ H _ I hq) fun us s1 ⟨xs, H1, I1, r, z, q⟩ => ⟨by rw [← r.length]; exact z, ?_⟩)
  have hf : H1 s1.heap.objs.size = none := I1.hok.fresh (Nat.le_refl _)
  refine ⟨.ref s1.heap.objs.size, upd H1 s1.heap.objs.size (.tup xs), I1.laid (t' := s1.toks) (fun b u e => Heap.get?_push_of_some _ e) (Nat.le_refl _) ?_, rfl, q _ hf⟩
  exact ⟨z, us, r, ⟨_, Heap.get?_push_size _ rfl, rfl, _, rfl⟩⟩
theorem pe_lst (h : PA X es t) : PE X (.List es pos) (tLst t) := by
  intro pins s σ H Q I hq
  refine wpAny_List_spliced (thn (h pos pins s σ H _ I hq) fun us s1 ⟨xs, H1, I1, r, z, q⟩ => ⟨by rw [← r.length]; exact z, ?_⟩)
  have hf : H1 s1.heap.objs.size = none := I1.hok.fresh (Nat.le_refl _)
  refine ⟨.ref s1.heap.objs.size, upd H1 s1.heap.objs.size (.lst xs), I1.laid (t' := s1.toks) (fun b u e => Heap.get?_push_of_some _ e) (Nat.le_refl _) ?_, rfl, q _ hf⟩
  exact ⟨z, us, 0, r, Heap.get?_push_size _ rfl⟩
end

/-! ### what a def promises -/
/-- a def's promise: the bound arguments in the parameters' order, the heap, the wanted end, the wanted exception -/
abbrev Sp := List V → Hp → VK → XK → Prop
/-- how an exception lies behind a call (file 08 gives it): the callers' frames, abstract heap and state ahead of the call, the wish, the exception, the state -/
abbrev CXT := List Env → Hp → Shared → XK → Value → Shared → Prop

/-- the state at a call -/
structure Env0 (P : Program) (w : World) (K : PySem.W.Frag) (mg : Str → Option Value) (base : Heap) (A : Around) (outer : List Env) (s : Shared) (H : Hp) : Prop where
  frames : A.frames = some outer
  mod : Mod K mg base
  bs : ∀ b o, base.get? b = some o → s.heap.get? b = some o ∧ H b = none
  bsz : base.objs.size ≤ s.heap.objs.size
  funs : s.heap.FunFrames base outer
  frf : ∀ b ∈ frs outer, H b = none
  hok : HOk P w H s.heap
  bare : AllBare s.gens
/-- a call's end -/
def CE (outer : List Env) (P : Program) (w : World) (H : Hp) (s : Shared) (Q : VK) (u : Value) (s' : Shared) : Prop :=
  ∃ v H', s'.os = s.os ∧ AllBare s'.gens ∧ Un (frs outer) [] H H' s.heap s'.heap ∧ HOk P w H' s'.heap ∧ RelV v u ∧ Q v H'
def CR (CX : CXT) (outer : List Env) (P : Program) (w : World) (H : Hp) (s : Shared) (Q : VK) (E : XK) (r : Result) (s' : Shared) : Prop :=
  match r with
  | .ok (.ret u) => CE outer P w H s Q u s'
  | .ok _ => False
  | .error e => CX outer H s E e s'
structure FnOk (P : Program) (w : World) (K : PySem.W.Frag) (mg : Str → Option Value) (base : Heap) (CX : CXT) (k : Nat) (f : Addr) (fd : FuncData) (ps : List Str) (sp : Sp) : Prop where
  len : ∀ vs H Q E, sp vs H Q E → vs.length = ps.length
  run : ∀ (A : Around) (outer : List Env) (s : Shared) (H : Hp) (args : Args) (us : List Value) (vs : List V) (Q : VK) (E : XK), Room k A → Env0 P w K mg base A outer s H → BindsTo s fd args (ps.zip us) → Vals vs us → sp vs H Q E →
    codeAny (model P w) A (.call (.ref f) args) (CR CX outer P w H s Q E) s
theorem FnOk.mono {P : Program} {w : World} {K : PySem.W.Frag} {mg : Str → Option Value} {base : Heap} {CX : CXT} {j k : Nat} {f : Addr} {fd : FuncData} {ps : List Str} {sp : Sp} (F : FnOk P w K mg base CX j f fd ps sp) (h : j ≤ k) :
    FnOk P w K mg base CX k f fd ps sp := ⟨F.len, fun A outer s H args us vs Q E hr => F.run A outer s H args us vs Q E (hr.mono h)⟩
/-- a weaker promise -/
theorem FnOk.imp {P : Program} {w : World} {K : PySem.W.Frag} {mg : Str → Option Value} {base : Heap} {CX : CXT} {k : Nat} {f : Addr} {fd : FuncData} {ps : List Str} {sp sp' : Sp} (F : FnOk P w K mg base CX k f fd ps sp)
    (h : ∀ vs H Q E, sp' vs H Q E → sp vs H Q E) : FnOk P w K mg base CX k f fd ps sp' :=
  ⟨fun vs H Q E q => F.len vs H Q E (h _ _ _ _ q), fun A outer s H args us vs Q E hr he hb hv hs => F.run A outer s H args us vs Q E hr he hb hv (h _ _ _ _ hs)⟩

section
variable {X : Cx} {pins : List (Addr × Obj)} {σ : St} {H : Hp} {s s' : Shared}
/-- from a body: what a callee wants -/
theorem Inv.env0 (I : Inv X pins σ H s) : Env0 X.prog X.w X.K X.mg X.base X.A X.stack s H :=
  ⟨I.ok.frames, I.ok.mod, I.bs, Nat.le_trans I.ok.bsz I.sz, I.stack, I.stkFree, I.hok, I.bare⟩
/-- behind a call -/
theorem Inv.after {Q : VK} {u : Value} (I : Inv X pins σ H s) (h : CE X.stack X.prog X.w H s Q u s') : EP X pins σ Q u s' := by
  obtain ⟨v, H', os, bare, un, hok, r, q⟩ := h
  obtain ⟨hh, g, d, t, os'⟩ := s'
  obtain rfl : os' = s.os := os
  exact ⟨v, H', I.call (h' := hh) (g' := g) (d' := d) (t' := t) (ch := []) un hok bare (fun b z => absurd z (by simp)), r, q⟩
end

/-! ### calls -/
/-- f(..): the written arguments, then the defaults dvs; E: what is wanted of an exception -/
def tCall (sp : Sp) (dvs : List V) (E : XK) (t : TA) : TE := fun σ H Q => t σ H fun vs H1 => sp (vs ++ dvs) H1 Q E
/-- o.m(..) of an instance of the class at C -/
def tMeth (C : Addr) (m : Str) (sp : Sp) (dvs : List V) (E : XK) (ta : TE) (t : TA) : TE := fun σ H Q => ta σ H fun x H1 => ∃ a dx fs, x = .ref a ∧ H1 a = some (.ins C dx fs) ∧ fs.lookup m = none ∧
  t σ H1 fun vs H2 => sp (x :: (vs ++ dvs)) H2 Q E
/-- C(..): a new instance and its dict, then __init__ -/
def tMake (C : Addr) (sp : Sp) (dvs : List V) (E : XK) (t : TA) : TE := fun σ H Q => t σ H fun vs H1 => ∀ x dx, H1 x = none → H1 dx = none → dx ≠ x →
  sp (.ref x :: (vs ++ dvs)) (upd (upd H1 dx (.own x)) x (.ins C dx [])) (fun v H2 => v = .non ∧ Q (.ref x) H2) E

/-- how the parameters are bound: us the positional arguments, kw the keywords' values by name, ds the defaults that fill up -/
def Binds (K : PySem.W.Frag) (fd : FuncData) (ps : List Str) (ds : List Value) : Prop :=
  ∀ (s : Shared) (us : List Value), K.In s.heap → (us ++ ds).length = ps.length → BindsTo s fd ⟨us, []⟩ (ps.zip (us ++ ds))
/-- every parameter is given -/
theorem Binds.all {K : PySem.W.Frag} {fd : FuncData} {ps : List Str} (h : ∀ us : List Value, us.length = ps.length → bindArgs fd ⟨us, []⟩ = pure (ps.zip us)) : Binds K fd ps [] := fun s us _ hl => by
  rw [List.append_nil] at hl ⊢
  exact .of_eq (h us hl)

/-- an exception of a callee reaches what this body wants of exceptions -/
def Passes (CX : CXT) (X : Cx) (E : XK) : Prop := ∀ (pins : List (Addr × Obj)) (σ : St) (H : Hp) (s : Shared) (e : Value) (s' : Shared), Inv X pins σ H s → CX X.stack H s E e s' → X.xe e s'

section
variable {X : Cx} {CX : CXT} {k : Nat} {f C : Addr} {fd : FuncData} {ps : List Str} {sp : Sp} {dvs : List V} {ds : List Value} {E : XK} {x m : Str} {p pos apos : Pos} {e o : Expr} {es : List Expr} {ta : TE} {t : TA}

/-- the callee runs -/
theorem run_fn {pins : List (Addr × Obj)} {σ : St} {H : Hp} {s : Shared} {Q : VK} {us : List Value} {vs : List V} (F : FnOk X.prog X.w X.K X.mg X.base CX k f fd ps sp) (hr : Room k X.A) (hb : Binds X.K fd ps ds) (hd : Vals dvs ds) (hx : Passes CX X E)
    (I : Inv X pins σ H s) (r : Vals vs us) (h : sp (vs ++ dvs) H Q E) : wpAny (model X.prog X.w) X.A (call (.ref f) us) (EP X pins σ Q) X.xe s := by
  have r2 : Vals (vs ++ dvs) (us ++ ds) := r.append hd
  have hl : (us ++ ds).length = ps.length := by rw [← r2.length]; exact F.len _ _ _ _ h
  refine wpAny_call (codeAny_mono (F.run X.A X.stack s H ⟨us, []⟩ (us ++ ds) (vs ++ dvs) Q E hr I.env0 (hb s us I.kIn hl) r2 h) fun r s' hq => ?_)
  cases r with
  | error e => exact hx pins σ H s e s' I hq
  | ok fl =>
    cases fl with
    | ret u => exact I.after hq
    | next => exact False.elim hq
    | brk => exact False.elim hq
    | cont => exact False.elim hq

theorem pe_call (F : FnOk X.prog X.w X.K X.mg X.base CX k f fd ps sp) (hr : Room k X.A) (hg : Gl X x) (hm : X.mg x = some (.ref f)) (hk : PySem.W.keepIn X.K (.ref f) = true) (hb : Binds X.K fd ps ds) (hd : Vals dvs ds) (hx : Passes CX X E)
    (ha : PA X (e :: es) t) (hdb : (x == ("__debug__" : Str)) = false := by decide) (he : starEach (e :: es) X.env = (false, eval e X.env) :: starEach es X.env := by rfl) (hpl : (backTo pos (starEach es X.env)).any (·.1) = false := by rfl) :
    PE X (.Call (.Name x p) (e :: es) [] pos) (tCall sp dvs E t) := by
  intro pins s σ H Q I h
  refine wpAny_Call_Name_kw (ld_glob I hg hm ?_ hdb)
  refine PySem.W.callWith_K (h₀ := X.base) I.ok.mod.kin hk (thn (ha pos pins s σ H _ I h) fun us s1 ⟨vs, H1, I1, r, q⟩ => ⟨I1.kIn, ?_⟩) he hpl
  exact run_fn F hr hb hd hx I1 r q
/-- what a class must have to be made -/
structure Mk (K : PySem.W.Frag) (C f : Addr) : Prop where
  makes : PySem.W.makesIn K C = true
  init : PySem.W.findIn K (.ref C) "__init__" = some (some (.ref f))
  fn : PySem.W.isFn K (.ref f) = true
  kp : PySem.W.keepIn K (.ref C) = true

end

/-! ### keywords -/
/-- the values of the keywords, from the left -/
def PK (X : Cx) (kws : List Keyword) (t : TA) : Prop :=
  ∀ (pos : Pos) (pins : List (Addr × Obj)) (s : Shared) (σ : St) (H : Hp) (Q : List V → Hp → Prop), Inv X pins σ H s → t σ H Q → wpAny (model X.prog X.w) X.A (evalAll ((backToKw pos (keywordEach kws X.env)).map (·.2))) (AP X pins σ Q) X.xe s
section
variable {X : Cx} {CX : CXT} {k : Nat} {f C : Addr} {fd : FuncData} {ps ks : List Str} {sp : Sp} {E : XK} {x m : Str} {p pos apos kpos : Pos} {e o : Expr} {es : List Expr} {kws : List Keyword} {te ta : TE} {t tk : TA} {nm : Option Str}
/-- how a call with keywords binds: g puts the positional values us and the keywords' values ws (names ks) in the parameters' order, defaults among them -/
structure KBinds (K : PySem.W.Frag) (fd : FuncData) (ps ks : List Str) (g : List Value → List Value → List Value) (gV : List V → List V → List V) : Prop where
  to : ∀ (s : Shared) (us ws : List Value), K.In s.heap → (g us ws).length = ps.length → BindsTo s fd ⟨us, ks.zip ws⟩ (ps.zip (g us ws))
  rel : ∀ {vs : List V} {us : List Value} {zs : List V} {ws : List Value}, Vals vs us → Vals zs ws → Vals (gV vs zs) (g us ws)
def tCallK (sp : Sp) (gV : List V → List V → List V) (E : XK) (t tk : TA) : TE := fun σ H Q => t σ H fun vs H1 => tk σ H1 fun zs H2 => sp (gV vs zs) H2 Q E
variable {g : List Value → List Value → List Value} {gV : List V → List V → List V}
end

/-! ### a def's body keeps its promise -/
/-- names: the parameters first -/
structure FnScope (N P : List Str) (sc : Scope) : Prop where
  kind : sc.kind = .function
  co : sc.isCoroutine = false
  gen : sc.isGenerator = false
  nd : N.Nodup
  pre : N.take P.length = P
  par : ∀ x ∈ P, sc.names.lookup x = some .local ∨ sc.names.lookup x = some .cell
  nofree : ∀ y ∈ sc.names, y.2 ≠ .free

theorem bindL_out {kindOf : Str → Option NameKind} {x : Str} : ∀ {binds : List (Str × Value)} {m : Str → Option Value}, (∀ v, (x, v) ∉ binds) → bindL kindOf binds m x = m x
  | [], _, _ => rfl
  | (n, v) :: r, m, h => by
    unfold bindL
    rw [bindL_out fun w hw => h w (List.mem_cons_of_mem _ hw)]
    split
    · have : x ≠ n := by rintro rfl; exact h v List.mem_cons_self
      simp [this]
    · rfl
theorem bindC_out {kindOf : Str → Option NameKind} {x : Str} : ∀ {binds : List (Str × Value)} {m : Str → Option Value}, (∀ v, (x, v) ∉ binds) → bindC kindOf binds m x = m x
  | [], _, _ => rfl
  | (n, v) :: r, m, h => by
    unfold bindC
    rw [bindC_out fun w hw => h w (List.mem_cons_of_mem _ hw)]
    split
    · rfl
    · have : x ≠ n := by rintro rfl; exact h v List.mem_cons_self
      simp [this]
theorem bindL_get {kindOf : Str → Option NameKind} {x : Str} {v : Value} : ∀ {P : List Str} {vs : List Value} {i : Nat} {m : Str → Option Value}, P.Nodup → P[i]? = some x → vs[i]? = some v → kindOf x = some .local →
    bindL kindOf (P.zip vs) m x = some v
  | [], _, _, _, _, h, _, _ => by simp at h
  | _ :: _, [], _, _, _, _, h, _ => by simp at h
  | p :: P, w :: vs, 0, m, nd, h1, h2, hk => by
    simp at h1 h2; subst h1; subst h2
    show bindL kindOf ((p, w) :: P.zip vs) m p = _
    unfold bindL
    rw [bindL_out fun v hv => (List.nodup_cons.mp nd).1 (List.of_mem_zip hv).1, if_pos hk]
    simp
  | p :: P, w :: vs, i + 1, m, nd, h1, h2, hk => by
    show bindL kindOf ((p, w) :: P.zip vs) m x = _
    unfold bindL
    exact bindL_get (i := i) (List.nodup_cons.mp nd).2 (by simpa using h1) (by simpa using h2) hk
theorem bindC_get {kindOf : Str → Option NameKind} {x : Str} {v : Value} : ∀ {P : List Str} {vs : List Value} {i : Nat} {m : Str → Option Value}, P.Nodup → P[i]? = some x → vs[i]? = some v → kindOf x ≠ some .local →
    bindC kindOf (P.zip vs) m x = some v
  | [], _, _, _, _, h, _, _ => by simp at h
  | _ :: _, [], _, _, _, _, h, _ => by simp at h
  | p :: P, w :: vs, 0, m, nd, h1, h2, hk => by
    simp at h1 h2; subst h1; subst h2
    show bindC kindOf ((p, w) :: P.zip vs) m p = _
    unfold bindC
    rw [bindC_out fun v hv => (List.nodup_cons.mp nd).1 (List.of_mem_zip hv).1, if_neg hk]
    simp
  | p :: P, w :: vs, i + 1, m, nd, h1, h2, hk => by
    show bindC kindOf ((p, w) :: P.zip vs) m x = _
    unfold bindC
    exact bindC_get (i := i) (List.nodup_cons.mp nd).2 (by simpa using h1) (by simpa using h2) hk

/-- the names' values at the entry -/
def start (N : List Str) (vs : List V) : St := vs.map some ++ List.replicate (N.length - vs.length) none

/-- the context of a def's body, at its entry; an exception leaves the frame, then lies as CX says -/
def cxOf (CX : CXT) (P : Program) (w : World) (K : PySem.W.Frag) (mg : Str → Option Value) (base : Heap) (N : List Str) (qual : Str) (scope : Scope) (f : Addr) (cd : Value) (A : Around) (outer : List Env) (s : Shared) (H : Hp) (E : XK) : Cx where
  prog := P
  w := w
  K := K
  mg := mg
  base := base
  A := A.deeper (envOfC qual scope s.heap.objs.size f cd)
  N := N
  s₀ := s
  H₀ := H
  env := envOfC qual scope s.heap.objs.size f cd
  outer := outer
  stack := envOfC qual scope s.heap.objs.size f cd :: outer
  ex := []
  calm := true
  fn := fun _ => true
  pn := []
  xe := fun e s' => wpAny (model P w) (A.deeper (envOfC qual scope s.heap.objs.size f cd)) (leaving (envOfC qual scope s.heap.objs.size f cd) e) (fun _ s'' => CX outer H s E e s'') (fun e' s'' => CX outer H s E e' s'') s'

theorem cell_has {sc : Scope} {n : Nat} {x : Str} (h : sc.names.lookup x = some .cell) : ∃ c, (cellsFrom n sc.names []).lookup x = some c := by
  have q := PySem.W.cellsFrom_some sc.names n [] (.inl h)
  exact Option.isSome_iff_exists.mp q

theorem inv_start {CX : CXT} {P : Program} {w : World} {K : PySem.W.Frag} {mg : Str → Option Value} {base : Heap} {N ps : List Str} {qual : Str} {scope : Scope} {f : Addr} {cd : Value} {A : Around} {outer : List Env} {s s1 : Shared} {H : Hp} {E : XK} {us : List Value} {vs : List V}
    (S : FnScope N ps scope) (hd : A.handled = none) (e0 : Env0 P w K mg base A outer s H) (hl : vs.length = ps.length) (r : Vals vs us)
    (x : InCallC s s.heap.objs.size (bindL (envOfC qual scope s.heap.objs.size f cd).kindOf (ps.zip us) fun _ => none) (cellsFrom (s.heap.objs.size + 1) scope.names []) (bindC (envOfC qual scope s.heap.objs.size f cd).kindOf (ps.zip us) fun _ => none) s1) :
    Inv (cxOf CX P w K mg base N qual scope f cd A outer s H E) [] (start N vs) H s1 := by
  have hpl : ps.length ≤ N.length := by have := congrArg List.length S.pre; rw [List.length_take] at this; omega
  obtain ⟨h1, tk, rfl, hk⟩ := x.done
  have noA : ∀ b : Addr, b ∉ (cxOf CX P w K mg base N qual scope f cd A outer s H E).ex := fun b z => absurd (show b ∈ ([] : List Addr) from z) (by simp)
  refine ⟨⟨e0.mod, S.kind, rfl, rfl, Nat.le_refl _, fun y z c h1 h2 => ?_, fun y hy => ?_, fun y c _ h => ?_, fun _ => hd, Around.frames_deeper e0.frames, .inr ⟨rfl, rfl⟩, fun b z => absurd z (noA b), e0.bs, e0.bsz, fun b _ _ => noA b, fun b z => absurd z (noA b), e0.funs, e0.frf⟩,
    rfl, e0.bare, Un.kept hk, ⟨_, x.toInCall.ns, fun i y v h1 h2 h3 => ?_⟩, fun y c h => ⟨_, x.cell y c h⟩, e0.hok.fresh (Nat.le_refl _), fun y c h => ?_, fun p hp => absurd (show p ∈ ([] : List (Addr × Obj)) from hp) (by simp), e0.hok.kept hk, ?_⟩
  · exact name_of_addr x.apart (PySem.mem_of_lookup h1) (PySem.mem_of_lookup h2)
  · have hy : scope.names.lookup y = some .cell ∨ scope.names.lookup y = some .free := hy
    rcases hy with hy | hy
    · exact cell_has hy
    · exact absurd rfl (S.nofree _ (PySem.mem_of_lookup hy))
  · exact Nat.le_of_lt (x.above y c (PySem.mem_of_lookup h))
  · have hi : i < vs.length := by
      unfold start at h2
      by_cases hi : i < vs.length
      · exact hi
      · rw [List.getElem?_append_right (by simpa using hi)] at h2
        rw [List.getElem?_replicate] at h2
        split at h2 <;> cases h2
    have ha : vs[i]? = some v := by
      unfold start at h2
      rw [List.getElem?_append_left (by simpa using hi), List.getElem?_map] at h2
      cases e : vs[i]? with
      | none => rw [e] at h2; cases h2
      | some a => rw [e] at h2; cases h2; rfl
    obtain ⟨u, hu, rv⟩ := r.get ha
    have hp : ps[i]? = some y := by
      rw [← S.pre, List.getElem?_take_of_lt (by omega)]; exact h1
    have ndP : ps.Nodup := by rw [← S.pre]; exact S.nd.sublist (List.take_sublist _ _)
    refine ⟨u, rv, ?_⟩
    rcases S.par y (List.mem_of_getElem? hp) with k | k
    · exact .inl ⟨k, bindL_get ndP hp hu k⟩
    · obtain ⟨c, e⟩ := cell_has (n := s.heap.objs.size + 1) k
      refine .inr ⟨.inl k, c, e, ?_⟩
      have q := x.cell y c e
      rw [bindC_get ndP hp hu (by show scope.names.lookup y ≠ _; rw [k]; decide)] at q
      exact q
  · exact e0.hok.fresh (Nat.le_of_lt (x.above y c (PySem.mem_of_lookup h)))
  · unfold start
    show _ = N.length
    rw [List.length_append, List.length_map, List.length_replicate]
    omega

/-- THE RULE: a def (or a method) of the text, by its body. The body's reading t is chosen for each entry; it is run at the parameters' values -/
theorem fn_of {CX : CXT} {P : Program} {w : World} {K : PySem.W.Frag} {mg : Str → Option Value} {base : Heap} {k : Nat} {f : Addr} {name qual : Str} {params : Arguments} {body : List Stmt} {scope : Scope} {dV kV doc pm cdv ct oc : Value} {an od : Option Addr}
    {osl : Array (Option Value)} {N ps : List Str} {sp : Sp} (lk : K.lookup f = some ⟨oc, od, .func (PySem.W.fnOf name qual params body scope dV kV doc pm an cdv ct), osl⟩) (hcd : PySem.W.codeIn K cdv qual = true) (S : FnScope N ps scope)
    (len : ∀ vs H Q E, sp vs H Q E → vs.length = ps.length)
    (hbody : ∀ (A : Around) (outer : List Env) (s : Shared) (H : Hp) (vs : List V) (Q : VK) (E : XK), Room k (A.deeper (envOfC qual scope s.heap.objs.size f cdv)) → sp vs H Q E →
      ∃ t, PSs (cxOf CX P w K mg base N qual scope f cdv A outer s H E) body t ∧ t { nx := fun _ H' => Q .non H', rt := Q } (start N vs) H) :
    FnOk P w K mg base CX (k + 1) f (PySem.W.fnOf name qual params body scope dV kV doc pm an cdv ct) ps sp := by
  refine ⟨len, fun A outer s H args us vs Q E hr e0 hb r hsp => ?_⟩
  have hl := len _ _ _ _ hsp
  have KX : K.In s.heap := e0.mod.kin.keeps fun b o e => (e0.bs b o e).1
  have lim : s.heap.NoLimit := e0.mod.nolimit.keeps fun b o e => (e0.bs b o e).1
  have hkind : ∀ y ∈ ps.zip us, scope.names.lookup y.1 = some .local ∨ (scope.names.lookup y.1 = some .cell ∧ ((cellsFrom (s.heap.objs.size + 1) scope.names []).lookup y.1).isSome = true) := fun ⟨n, v⟩ hy => by
    rcases S.par n (List.of_mem_zip hy).1 with q | q
    · exact .inl q
    · exact .inr ⟨q, PySem.W.cellsFrom_some _ _ _ (.inl q)⟩
  refine codeAny_call_function hr.depth (KX _ _ lk) rfl S.co S.gen rfl (PySem.W.codeRec_of KX hcd) (hb _ _ _ _ ?_)
  refine wpAny_newFunctionEnv_cells S.kind hkind fun env he s1 x => ?_
  subst he
  refine ⟨lim.keeps x.toInCall.keep, codeAny_func ?_⟩
  obtain ⟨t, ht, hq⟩ := hbody A outer s H vs Q E (hr.deeper _) hsp
  have I : Inv (cxOf CX P w K mg base N qual scope f cdv A outer s H E) [] (start N vs) H s1 := inv_start S hr.hd e0 hl r x
  refine wpAny_mono (ht [] s1 (start N vs) H _ I hq) (fun fl s' hs => ?_) fun e s' hs => hs
  have fin : ∀ {σ' : St} {H' : Hp} {v : V} {u : Value}, Inv (cxOf CX P w K mg base N qual scope f cdv A outer s H E) [] σ' H' s' → RelV v u → Q v H' → CE outer P w H s Q u s' :=
    fun {σ' H' v u} J rv q => ⟨v, H', J.os, J.bare, J.base, J.hok, rv, q⟩
  cases fl with
  | ret u =>
    obtain ⟨v, σ', H', J, rv, q⟩ := hs
    exact fin J rv q
  | next =>
    obtain ⟨σ', H', J, q⟩ := hs
    exact fin (v := V.non) (u := Value.none) J rfl q
  | brk =>
    obtain ⟨_, _, _, q⟩ := hs
    exact False.elim q
  | cont =>
    obtain ⟨_, _, _, q⟩ := hs
    exact False.elim q
end L2

namespace L2
open PySem PySem.Spec PyProof.Rows
section
variable {X : Cx} {x : Str} {p pos : Pos} {e : Expr} {es : List Expr} {t : TA} {id T : String} {r : List V → Hp → VK → Prop}

def tCB (r : List V → Hp → VK → Prop) (t : TA) : TE := fun σ H Q => t σ H fun vs H1 => r vs H1 Q
/-- f(e, ..), f a built-in function -/
theorem pe_callB (hc : CallR X (.builtin id) r) (hg : Gl X x) (hm : X.mg x = none) (hv : bootBuiltins x = some (.builtin id)) (ha : PA X (e :: es) t) (hn : x ≠ "__name__" := by decide) (hdb : (x == ("__debug__" : Str)) = false := by decide)
    (he : starEach (e :: es) X.env = (false, eval e X.env) :: starEach es X.env := by rfl) (hpl : (backTo pos (starEach es X.env)).any (·.1) = false := by rfl) : PE X (.Call (.Name x p) (e :: es) [] pos) (tCB r t) := by
  intro pins s σ H Q I h
  refine wpAny_Call_Name_kw (ld_blt I hg hm hv ?_ hn hdb)
  exact PyProof.Rows.callWith_builtin1 (thn (ha pos pins s σ H _ I h) fun us s1 ⟨vs, H1, I1, r1, q1⟩ => hc pins s1 σ H1 vs us Q I1 r1 q1) he hpl
/-- T(e, ..), T a built-in type -/
theorem pe_callTy (hc : CallR X (.type T) r) (hg : Gl X x) (hm : X.mg x = none) (hv : bootBuiltins x = some (.type T)) (ha : PA X (e :: es) t) (hn : x ≠ "__name__" := by decide) (hdb : (x == ("__debug__" : Str)) = false := by decide)
    (he : starEach (e :: es) X.env = (false, eval e X.env) :: starEach es X.env := by rfl) (hpl : (backTo pos (starEach es X.env)).any (·.1) = false := by rfl) : PE X (.Call (.Name x p) (e :: es) [] pos) (tCB r t) := by
  intro pins s σ H Q I h
  refine wpAny_Call_Name_kw (ld_blt I hg hm hv ?_ hn hdb)
  exact PyProof.Rows.callWith_type1 (thn (ha pos pins s σ H _ I h) fun us s1 ⟨vs, H1, I1, r1, q1⟩ => hc pins s1 σ H1 vs us Q I1 r1 q1) he hpl
end
end L2

namespace HT
open PySem PyProof.Rows

/-- t < u of tuples of ints -/
def lexLt : List Int → List Int → Bool
  | [], [] => false
  | [], _ :: _ => true
  | _ :: _, [] => false
  | x :: xs, y :: ys => if x = y then lexLt xs ys else decide (x < y)
section
open PySem.SeqAt
open PySem.AutoSeq1 (wpAny_loadPart')
open PySem.MeetsSeq PySem.MeetsSeq2 PySem.MeetsSeq3

end

section
variable {prog : Program} {w : World} {A : Around} {E : Value → Shared → Prop} {s : Shared}

/-! ### t[a:b], not the whole -/
/-- a slice's bound as a place among n (d where it is left out) -/
def sIx (n d : Nat) : Option Int → Nat
  | none => d
  | some v => if v < 0 then (v + (n : Int)).toNat else min v.toNat n
theorem sIx_none (n d : Nat) : sIx n d none = d := rfl
theorem sIx_nat (n d k : Nat) : sIx n d (some (k : Int)) = min k n := by
  show (if (k : Int) < 0 then ((k : Int) + (n : Int)).toNat else min (k : Int).toNat n) = min k n
  rw [if_neg (by omega), Int.toNat_natCast]
end
end HT

namespace L2
open PySem PySem.Spec PyProof.Rows

/-! ### the parts of a slice -/
abbrev TO := St → Hp → (Option Int → Hp → Prop) → Prop
/-- a slice's part (left out, or an int) -/
def PO (X : Cx) (e : Option Expr) (t : TO) : Prop :=
  ∀ (pins : List (Addr × Obj)) (s : Shared) (σ : St) (H : Hp) (Q : Option Int → Hp → Prop), Inv X pins σ H s → t σ H Q →
    wpAny (model X.prog X.w) X.A (evalPart e X.env) (fun u s' => ∃ o H', Inv X pins σ H' s' ∧ IsPart u o ∧ Q o H') X.xe s
def tNoPart : TO := fun _ H Q => Q none H
def tPart (t : TE) : TO := fun σ H Q => t σ H fun x H1 => ∃ i, x = .int i ∧ Q (some i) H1

section
variable {X : Cx} {e : Expr} {te : TE} {lo hi : Option Expr} {tl th : TO} {pos p2 : Pos}

theorem po_none : PO X none tNoPart := by
  intro pins s σ H Q I h
  rw [evalPart_none]
  exact wpAny_pure ⟨none, H, I, .none, h⟩
theorem po_some (h : PE X e te) : PO X (some e) (tPart te) := by
  intro pins s σ H Q I hw
  rw [evalPart_some]
  refine thn (h pins s σ H _ I hw) fun u s1 ⟨x, H1, I1, r1, q1⟩ => ?_
  obtain ⟨i, rfl, q⟩ := q1
  obtain ⟨t, rfl⟩ := r1
  exact ⟨some i, H1, I1, .int i t, q⟩

/-- what a slice of a value is, by values: the slice object stands at sl -/
def SlR (X : Cx) (r : V → Option Int → Option Int → Hp → VK → Prop) : Prop :=
  ∀ (pins : List (Addr × Obj)) (s : Shared) (σ : St) (H : Hp) (x : V) (v vl vu : Value) (lo hi : Option Int) (sl : Addr) (Q : VK), Inv X pins σ H s → RelV x v → s.heap.IsSliceOf sl vl vu .none → IsPart vl lo → IsPart vu hi → r x lo hi H Q →
    ∃ T id, typeLookup (.type T) "__getitem__" = pure (some (.builtin id)) ∧ s.TypeIs v T ∧ wpAny (model X.prog X.w) X.A (getItem v (.ref sl)) (EP X pins σ Q) X.xe s
theorem SlR.or {r r' : V → Option Int → Option Int → Hp → VK → Prop} (h : SlR X r) (h' : SlR X r') : SlR X (fun x lo hi H Q => r x lo hi H Q ∨ r' x lo hi H Q) := by
  intro pins s σ H x v vl vu lo hi sl Q I rx hs pl pu q
  rcases q with q | q
  · exact h pins s σ H x v vl vu lo hi sl Q I rx hs pl pu q
  · exact h' pins s σ H x v vl vu lo hi sl Q I rx hs pl pu q
def tSl (r : V → Option Int → Option Int → Hp → VK → Prop) (te : TE) (tl th : TO) : TE := fun σ H Q => te σ H fun x H1 => tl σ H1 fun l H2 => th σ H2 fun u H3 => r x l u H3 Q
/-- a[lo:hi], any a -/
theorem pe_slice {r : V → Option Int → Option Int → Hp → VK → Prop} (hr : SlR X r) (he : PE X e te) (hl : PO X lo tl) (hu : PO X hi th) : PE X (.Subscript e (.Slice lo hi none p2) pos) (tSl r te tl th) := by
  intro pins s σ H Q I h
  refine Subscript_ (thn (he pins s σ H _ I h) fun v s1 ⟨x, H1, I1, r1, q1⟩ => ?_)
  refine wpAny_Slice (thn (hl pins s1 σ H1 _ I1 q1) fun vl s2 ⟨l, H2, I2, pl, q2⟩ => thn (hu pins s2 σ H2 _ I2 q2) fun vu s3 ⟨u, H3, I3, pu, q3⟩ => ?_)
  rw [evalPart_none]
  refine wpAny_pure ?_
  have I4 : Inv X pins σ H3 { s3 with heap := s3.heap.push { cls := .type "slice", data := .fields #[vl, vu, .none] } } := I3.kept (t' := s3.toks) fun b ob q => Heap.get?_push_of_some _ q
  obtain ⟨T, id, hT, ht, hg⟩ := hr pins { s3 with heap := s3.heap.push { cls := .type "slice", data := .fields #[vl, vu, .none] } } σ H3 x v vl vu l u s3.heap.objs.size Q I4 r1 (Heap.IsSliceOf.new ..) pl pu q3
  show wpAny (model X.prog X.w) X.A (subscriptTail e (.Slice lo hi none p2) v (.ref s3.heap.objs.size)) (EP X pins σ Q) X.xe { s3 with heap := s3.heap.push { cls := .type "slice", data := .fields #[vl, vu, .none] } }
  exact tail_any (ops := [.ref s3.heap.objs.size, v]) ht hT hg (by with_unfolding_all rfl)

/-- the items of xs[lo:hi] -/
def cutV (xs : List V) (lo hi : Option Int) : List V := (xs.drop (HT.sIx xs.length 0 lo)).take (HT.sIx xs.length xs.length hi - HT.sIx xs.length 0 lo)
theorem cutV_length (xs : List V) (lo hi : Option Int) : (cutV xs lo hi).length ≤ xs.length := by
  unfold cutV
  rw [List.length_take, List.length_drop]
  omega
/-- t[lo:hi], not the whole of it (the whole would be t itself) -/
def rSlT (K : PySem.W.Frag) : V → Option Int → Option Int → Hp → VK → Prop := fun x lo hi H Q => ∃ a xs, x = .ref a ∧ SqT K H a xs ∧
  ¬ (HT.sIx xs.length 0 lo = 0 ∧ HT.sIx xs.length xs.length hi = xs.length) ∧ ∀ p, H p = none → Q (.ref p) (upd H p (.tup (cutV xs lo hi)))
/-! ### t < u, t + u -/
def rLtT (K : PySem.W.Frag) : R2 := fun x y H Q => ∃ a b ns ms, x = .ref a ∧ y = .ref b ∧ SqT K H a (ns.map V.int) ∧ SqT K H b (ms.map V.int) ∧ Q (.bl (HT.lexLt ns ms)) H
/-- t + u, t not empty: u empty gives t itself -/
def rCatT (K : PySem.W.Frag) : R2 := fun x y H Q => ∃ a b xs ys, x = .ref a ∧ y = .ref b ∧ SqT K H a xs ∧ SqT K H b ys ∧ xs ≠ [] ∧ xs.length + ys.length ≤ sizeLine ∧
  (ys = [] → Q (.ref a) H) ∧ (ys ≠ [] → ∀ p, H p = none → Q (.ref p) (upd H p (.tup (xs ++ ys))))
end
end L2

namespace L2
open PySem PySem.Spec PyProof.Rows

/-! ### places -/
/-- the place that an index of any sign means -/
def ixN (n : Nat) (i : Int) : Option Nat := if 0 ≤ i then (if i < n then some i.toNat else none) else if -(n : Int) ≤ i then some (i + n).toNat else none
def atI {α : Type} (xs : List α) (i : Int) : Option α := (ixN xs.length i).bind fun j => xs[j]?
theorem ixN_seq {n : Nat} {i : Int} {j : Nat} (h : ixN n i = some j) : seqIndex? i n = some j ∧ j < n ∧ -(n : Int) ≤ i ∧ i < n := by
  unfold ixN at h
  by_cases h0 : 0 ≤ i
  · rw [if_pos h0] at h
    by_cases h1 : i < n
    · rw [if_pos h1] at h
      have e : i.toNat = j := Option.some.inj h
      exact ⟨by rw [seqIndex_of h0 h1, e], by omega, by omega, h1⟩
    · rw [if_neg h1] at h; cases h
  · rw [if_neg h0] at h
    by_cases h1 : -(n : Int) ≤ i
    · rw [if_pos h1] at h
      have e : (i + n).toNat = j := Option.some.inj h
      exact ⟨by rw [seqIndex_neg (by omega) h1, e], by omega, h1, by omega⟩
    · rw [if_neg h1] at h; cases h
theorem atI_get {α : Type} {xs : List α} {i : Int} {v : α} (h : atI xs i = some v) : ∃ j, seqIndex? i xs.length = some j ∧ xs[j]? = some v ∧ j < xs.length ∧ -(xs.length : Int) ≤ i ∧ i < xs.length := by
  unfold atI at h
  cases e : ixN xs.length i with
  | none => rw [e] at h; cases h
  | some j =>
    rw [e] at h
    obtain ⟨h1, h2, h3, h4⟩ := ixN_seq e
    exact ⟨j, h1, h, h2, h3, h4⟩
theorem atI_nat {α : Type} {xs : List α} {j : Nat} {v : α} (h : xs[j]? = some v) : atI xs (j : Int) = some v := by
  have hj : j < xs.length := (List.getElem?_eq_some_iff.mp h).1
  have e : ixN xs.length (j : Int) = some j := by
    unfold ixN
    rw [if_pos (by omega), if_pos (by omega)]; simp
  unfold atI; rw [e]; exact h
theorem atI_last {α : Type} (xs : List α) (v : α) : atI (xs ++ [v]) (-1) = some v := by
  have hl : (xs ++ [v]).length = xs.length + 1 := by simp
  have e : ixN (xs ++ [v]).length (-1) = some xs.length := by
    unfold ixN
    rw [hl, if_neg (by decide), if_pos (by omega)]
    congr 1
    omega
  unfold atI
  rw [e]
  show (xs ++ [v])[xs.length]? = some v
  simp

/-! ### what may be subscripted -/
/-- what stands as an index of a plain subscript -/
def PlainIx (b : Expr) : Prop := ∀ o i, subscripted b false o i = operate [o, i] (getItem o i)
/-- a subscript by values -/
def IxR (X : Cx) (r : R2) : Prop :=
  ∀ (value slice : Expr) (pins : List (Addr × Obj)) (s : Shared) (σ : St) (H : Hp) (x y : V) (v u : Value) (Q : VK), Inv X pins σ H s → RelV x v → RelV y u → r x y H Q →
    subscripted slice false v u = operate [v, u] (getItem v u) → wpAny (model X.prog X.w) X.A (subscriptTail value slice v u) (EP X pins σ Q) X.xe s
/-- a call of a builtin's method by values: the receiver, the arguments -/
def MtR (X : Cx) (id : String) (r : V → List V → Hp → VK → Prop) : Prop :=
  ∀ (pins : List (Addr × Obj)) (s : Shared) (σ : St) (H : Hp) (x : V) (xs : List V) (v : Value) (us : List Value) (Q : VK), Inv X pins σ H s → RelV x v → Vals xs us → r x xs H Q →
    wpAny (model X.prog X.w) X.A (call (.builtin id) (v :: us)) (EP X pins σ Q) X.xe s
section
variable {X : Cx} {a b : Expr} {ta tb : TE} {pos : Pos}
theorem IxR.or {r r' : R2} (h : IxR X r) (h' : IxR X r') : IxR X (fun x y H Q => r x y H Q ∨ r' x y H Q) := by
  intro value slice pins s σ H x y v u Q I rx ry q hs
  rcases q with q | q
  · exact h value slice pins s σ H x y v u Q I rx ry q hs
  · exact h' value slice pins s σ H x y v u Q I rx ry q hs
theorem MtR.or {id : String} {r r' : V → List V → Hp → VK → Prop} (h : MtR X id r) (h' : MtR X id r') : MtR X id (fun x xs H Q => r x xs H Q ∨ r' x xs H Q) := by
  intro pins s σ H x xs v us Q I rx rs q
  rcases q with q | q
  · exact h pins s σ H x xs v us Q I rx rs q
  · exact h' pins s σ H x xs v us Q I rx rs q
/-- a[b] -/
theorem pe_ix {r : R2} (hr : IxR X r) (ha : PE X a ta) (hb : PE X b tb) (hs : PlainIx b) : PE X (.Subscript a b pos) (tOp r ta tb) := by
  intro pins s σ H Q I h
  exact Subscript_ (binT ha hb I h fun v u s2 x y H2 I2 rx ry q => hr a b pins s2 σ H2 x y v u Q I2 rx ry q (hs _ _))

def rIxL (K : PySem.W.Frag) : R2 := fun x y H Q => ∃ p xs i v, x = .ref p ∧ y = .int i ∧ SqL K H p xs ∧ atI xs i = some v ∧ Q v H
def rIxT (K : PySem.W.Frag) : R2 := fun x y H Q => ∃ p xs i v, x = .ref p ∧ y = .int i ∧ SqT K H p xs ∧ atI xs i = some v ∧ Q v H
def rIxS : R2 := fun x y H Q => ∃ z i c, x = .str z ∧ y = .int i ∧ z.length ≤ sizeLine ∧ atI z.cps.toList i = some c ∧ Q (.str ⟨#[c]⟩) H
theorem ix_list : IxR X (rIxL X.K) := by
  intro value slice pins s σ H x y v u Q I rx ry h hs
  obtain ⟨p, xs, i, z, rfl, rfl, hq, he, q⟩ := h
  cases rx
  obtain ⟨t, rfl⟩ := ry
  obtain ⟨its, r, pl, hz⟩ := I.list hq
  obtain ⟨j, h1, h2, h3, h4, h5⟩ := atI_get he
  obtain ⟨w, ew, rw'⟩ := r.get h2
  have hl := r.length
  have hn := line63
  have fin : EP X pins σ Q w s := ⟨z, H, I, rw', q⟩
  by_cases h0 : 0 ≤ i
  · have hj : i.toNat = j := by
      rw [seqIndex_of h0 h5] at h1
      exact Option.some.inj h1
    exact item_listR pl.isList h0 (by omega) (by rw [hj]; simpa using ew) fin hs
  · have hj : (i + (its.toArray.size : Int)).toNat = j := by
      rw [seqIndex_neg (by omega) h4] at h1
      rw [List.size_toArray, ← hl]
      exact Option.some.inj h1
    exact subscriptTail_builtinR (x := w) pl.isList.typeIs slot_list_getitem.lookup
      (wpAny_getItem_list_neg (Q := fun r s' => r = w ∧ EP X pins σ Q r s') pl.isList (by omega) (by rw [List.size_toArray] <;> omega) (by omega) (by rw [hj]; simpa using ew) ⟨rfl, fin⟩) hs
theorem ix_tup : IxR X (rIxT X.K) := by
  intro value slice pins s σ H x y v u Q I rx ry h hs
  obtain ⟨p, xs, i, z, rfl, rfl, hq, he, q⟩ := h
  cases rx
  obtain ⟨t, rfl⟩ := ry
  obtain ⟨its, r, pl, hz⟩ := I.tuple hq
  obtain ⟨j, h1, h2, h3, h4, h5⟩ := atI_get he
  obtain ⟨w, ew, rw'⟩ := r.get h2
  have hl := r.length
  have hn := line63
  have fin : EP X pins σ Q w s := ⟨z, H, I, rw', q⟩
  exact subscriptTail_builtinR (x := w) pl.typeIs slot_tuple_getitem.lookup
    (getItem_tuple (j := j) (Q := fun r s' => r = w ∧ EP X pins σ Q r s') pl (by omega) (by omega) (by rw [List.size_toArray, ← hl]; exact h1) (by simpa using ew) ⟨rfl, fin⟩) hs
/-- list, tuple or str -/
def rIx (K : PySem.W.Frag) : R2 := fun x y H Q => rIxL K x y H Q ∨ rIxT K x y H Q ∨ rIxS x y H Q
/-! ### xs[i] = v, any sign -/
/-- the list's object behind a store -/
theorem mapSeq_set (its : List Value) (n j : Nat) (u : Value) : Obj.mapSeq (·.setIfInBounds j u) { cls := .type "list", data := .seq its.toArray n } = { cls := .type "list", data := .seq (its.set j u).toArray n } := by
  simp [Obj.mapSeq]
theorem Inv.lst {pins : List (Addr × Obj)} {σ : St} {H : Hp} {s : Shared} {p : Addr} {xs : List V} (I : Inv X pins σ H s) (h : H p = some (.lst xs)) :
    ∃ (its : List Value) (n : Nat), Vals xs its ∧ s.heap.get? p = some { cls := .type "list", data := .seq its.toArray n } ∧ xs.length ≤ sizeLine := by
  obtain ⟨z, its, n, r, e⟩ := I.hok p _ h
  exact ⟨its, n, r, e, z⟩
/-- the list at p is written by an update of its object -/
theorem Inv.lstUpd {pins : List (Addr × Obj)} {σ : St} {H : Hp} {s : Shared} {p : Addr} {xs ys : List V} {its its' : List Value} {n n' : Nat} {f : Obj → Obj} (I : Inv X pins σ H s) (h : H p = some (.lst xs))
    (ho : s.heap.get? p = some { cls := .type "list", data := .seq its.toArray n }) (hf : f { cls := .type "list", data := .seq its.toArray n } = { cls := .type "list", data := .seq its'.toArray n' }) (r : Vals ys its') (hz : ys.length ≤ sizeLine) (t : Nat) :
    Inv X pins σ (upd H p (.lst ys)) { s with heap := s.heap.update p f, toks := t } := by
  have e : (s.heap.update p f).get? p = some { cls := .type "list", data := .seq its'.toArray n' } := by
    rw [Heap.get?_update_self f ho (by rw [hf] <;> rfl), hf]
  refine I.write (x := p) (e := p) (by rw [h]; trivial) (.inl rfl) (fun b u hb q => (Heap.get?_update_other _ _ (Ne.symm hb)).trans q) ⟨_, e⟩ ?_
  exact ⟨hz, its', n', r, e⟩
def rSetL : V → V → V → Hp → (Hp → Prop) → Prop := fun o i v H Q => ∃ p xs k j, o = .ref p ∧ i = .int k ∧ H p = some (.lst xs) ∧ ixN xs.length k = some j ∧ Q (upd H p (.lst (xs.set j v)))
theorem set_list : PSet X rSetL := by
  intro pins s σ H o i v ov iv u Q I ro ri rv h
  obtain ⟨p, xs, k, j, rfl, rfl, hp, hj, q⟩ := h
  cases ro
  obtain ⟨t, rfl⟩ := ri
  obtain ⟨its, n, r, ho, hz⟩ := I.lst hp
  obtain ⟨h1, h2, h3, h4⟩ := ixN_seq hj
  have hl := r.length
  have hn := line63
  have I' : Inv X pins σ (upd H p (.lst (xs.set j v))) { s with heap := s.heap.update p (Obj.mapSeq (·.setIfInBounds j u)) } :=
    I.lstUpd hp ho (mapSeq_set its n j u) (r.set rv j) (by rw [List.length_set]; exact hz) s.toks
  by_cases h0 : 0 ≤ k
  · have hk : k.toNat = j := by
      rw [seqIndex_of h0 h4] at h1
      exact Option.some.inj h1
    exact PySem.W.ki_setAt ho h0 (by omega) (by rw [List.size_toArray, ← hl]; exact h4) (by rw [hk]; exact ⟨_, I', q⟩)
  · have hk : (k + (its.toArray.size : Int)).toNat = j := by
      rw [seqIndex_neg (by omega) h3] at h1
      rw [List.size_toArray, ← hl]
      exact Option.some.inj h1
    exact PySem.W.ki_setBack ho (by omega) (by rw [List.size_toArray, ← hl]; exact h3) (by omega) (by rw [hk]; exact ⟨_, I', q⟩)

/-! ### slices -/
theorem slice_bounds (lo hi : Option Int) (n : Nat) : (sliceBounds lo hi none n).1 = ((HT.sIx n 0 lo : Nat) : Int) ∧ (sliceBounds lo hi none n).2.1 = ((HT.sIx n n hi : Nat) : Int) ∧ (sliceBounds lo hi none n).2.2 = 1 := by
  refine ⟨?_, ?_, rfl⟩
  · cases lo with
    | none => simp [sliceBounds, HT.sIx]
    | some i =>
      simp only [sliceBounds, HT.sIx, Option.getD_none, show (1 : Int) > 0 by decide, if_true]
      by_cases h : i < 0
      · simp only [h, if_true] <;> omega
      · simp only [h, if_false] <;> omega
  · cases hi with
    | none => simp [sliceBounds, HT.sIx]
    | some i =>
      simp only [sliceBounds, HT.sIx, Option.getD_none, show (1 : Int) > 0 by decide, if_true]
      by_cases h : i < 0
      · simp only [h, if_true] <;> omega
      · simp only [h, if_false] <;> omega
theorem slicePick_cut (its : List Value) (lo hi : Option Int) : slicePick its.toArray lo hi none = ((its.drop (HT.sIx its.length 0 lo)).take (HT.sIx its.length its.length hi - HT.sIx its.length 0 lo)).toArray := by
  obtain ⟨h1, h2, h3⟩ := slice_bounds lo hi its.toArray.size
  unfold slicePick
  rw [h1, h2, h3]
  simp only [sliceRange_one, pick_run, List.size_toArray] <;> rfl
/-- xs[lo:hi] of a list: a new list -/
def rSlL (K : PySem.W.Frag) : V → Option Int → Option Int → Hp → VK → Prop := fun x lo hi H Q => ∃ a xs, x = .ref a ∧ SqL K H a xs ∧ ∀ p, H p = none → Q (.ref p) (upd H p (.lst (cutV xs lo hi)))
theorem sl_list : SlR X (rSlL X.K) := by
  intro pins s σ H x v vl vu lo hi sl Q I rx hs pl pu h
  obtain ⟨a, xs, rfl, hx, q⟩ := h
  cases rx
  obtain ⟨its, r, ht, hz⟩ := I.list hx
  have hlen := r.length
  refine ⟨"list", _, slot_list_getitem.lookup, ht.isList.typeIs, ?_⟩
  refine wpAny_getItem_list_slice ht.isList hs pl pu .none (by simp) ?_ (by rw [List.size_toArray] <;> omega)
  rw [slicePick_cut, ← hlen]
  refine ⟨.ref s.heap.objs.size, _, I.laid (t' := s.toks) (o := .lst (cutV xs lo hi)) (fun b ob q => Heap.get?_push_of_some _ q) (Nat.le_refl _) ?_, rfl, q _ (I.hok.fresh (Nat.le_refl _))⟩
  exact ⟨Nat.le_trans (cutV_length xs lo hi) hz, _, 0, (r.drop (HT.sIx xs.length 0 lo)).take (HT.sIx xs.length xs.length hi - HT.sIx xs.length 0 lo), Heap.get?_push_size _ rfl⟩

/-! ### in, not in: flat items -/
def flatV : V → Bool
  | .non => true
  | .bl _ => true
  | .int _ => true
  | .str _ => true
  | _ => false
/-- == of flat values -/
def eqV : V → V → Bool
  | .non, .non => true
  | .bl a, .bl b => a == b
  | .bl a, .int b => (if a then 1 else 0) == b
  | .int a, .bl b => a == (if b then 1 else 0)
  | .int a, .int b => a == b
  | .str a, .str b => a == b
  | _, _ => false
theorem eqAt_V {A : Around} {s : Shared} {y x : V} {u v : Value} (ry : RelV y u) (rx : RelV x v) (fy : flatV y = true) (fx : flatV x = true) : SeqAt.EqAt A s u v (eqV y x) := by
  cases y with
  | non =>
    cases ry
    cases x with
    | non => cases rx; exact SeqAt.EqAt.same _
    | bl b => cases rx; exact SeqAt.EqAt.none_bool b
    | int b => obtain ⟨t, rfl⟩ := rx; exact SeqAt.EqAt.none_int b t
    | str b => obtain ⟨t, rfl⟩ := rx; exact SeqAt.EqAt.none_str b t
    | _ => exact absurd (show false = true from fx) Bool.false_ne_true
  | bl a =>
    cases ry
    cases x with
    | non => cases rx; exact SeqAt.EqAt.bool_none a
    | bl b => cases rx; exact SeqAt.EqAt.bool_bool a b
    | int b => obtain ⟨t, rfl⟩ := rx; exact SeqAt.EqAt.bool_int a b t
    | str b => obtain ⟨t, rfl⟩ := rx; exact SeqAt.EqAt.bool_str a b t
    | _ => exact absurd (show false = true from fx) Bool.false_ne_true
  | int a =>
    obtain ⟨t', rfl⟩ := ry
    cases x with
    | non => cases rx; exact SeqAt.EqAt.int_none a t'
    | bl b => cases rx; exact SeqAt.EqAt.int_bool a t' b
    | int b => obtain ⟨t, rfl⟩ := rx; exact SeqAt.EqAt.int_int a t' b t
    | str b => obtain ⟨t, rfl⟩ := rx; exact SeqAt.EqAt.int_str a t' b t
    | _ => exact absurd (show false = true from fx) Bool.false_ne_true
  | str a =>
    obtain ⟨t', rfl⟩ := ry
    cases x with
    | non => cases rx; exact SeqAt.EqAt.str_none a t'
    | bl b => cases rx; exact SeqAt.EqAt.str_bool a t' b
    | int b => obtain ⟨t, rfl⟩ := rx; exact SeqAt.EqAt.str_int a t' b t
    | str b => obtain ⟨t, rfl⟩ := rx; exact SeqAt.EqAt.str_str a t' b t
    | _ => exact absurd (show false = true from fx) Bool.false_ne_true
  | _ => exact absurd (show false = true from fy) Bool.false_ne_true
/-- the items' answers, read off the values (a value's own answer does not lean on its token) -/
def eqU (x : V) (u : Value) : Bool := match u with
  | .none => eqV .non x
  | .bool b => eqV (.bl b) x
  | .int i _ => eqV (.int i) x
  | .str z _ => eqV (.str z) x
  | _ => false
theorem eqU_of {x y : V} {u : Value} (r : RelV y u) (f : flatV y = true) : eqU x u = eqV y x := by
  cases y with
  | non => cases r; rfl
  | bl b => cases r; rfl
  | int i => obtain ⟨t, rfl⟩ := r; rfl
  | str z => obtain ⟨t, rfl⟩ := r; rfl
  | _ => exact absurd (show false = true from f) Bool.false_ne_true
theorem any_eqU {x : V} : ∀ {xs : List V} {us : List Value}, Vals xs us → xs.all flatV = true → us.any (eqU x) = xs.any fun y => eqV y x
  | _, _, .nil, _ => rfl
  | y :: xs, u :: us, .cons r t, f => by
    rw [List.all_cons, Bool.and_eq_true] at f
    rw [List.any_cons, List.any_cons, eqU_of r f.1, any_eqU t f.2]
theorem mem_eqAt {A : Around} {s : Shared} {x : V} {v : Value} (rx : RelV x v) (fx : flatV x = true) : ∀ {xs : List V} {us : List Value}, Vals xs us → xs.all flatV = true → ∀ u ∈ us, SeqAt.EqAt A s u v (eqU x u)
  | _, _, .nil, _ => fun u hu => by cases hu
  | y :: xs, u :: us, .cons r t, f => fun u' hu => by
    rw [List.all_cons, Bool.and_eq_true] at f
    rcases List.mem_cons.mp hu with rfl | hu
    · rw [eqU_of r f.1]; exact eqAt_V r rx f.1 fx
    · exact mem_eqAt rx fx t f.2 u' hu
def inV (x : V) (xs : List V) : Bool := xs.any fun y => eqV y x
/-- x in a list or tuple of flat items -/
def rIn (K : PySem.W.Frag) (neg : Bool) : R2 := fun x y H Q => ∃ p xs, y = .ref p ∧ (SqL K H p xs ∨ SqT K H p xs) ∧ flatV x = true ∧ xs.all flatV = true ∧ Q (.bl (if neg then !inV x xs else inV x xs)) H
theorem op_in_seq : OpR X (compareOp .In) (rIn X.K false) := by
  intro pins s σ H x y v u Q I rx ry h
  obtain ⟨p, xs, rfl, hq, fx, fs, q⟩ := h
  cases ry
  rcases hq with hq | hq
  · obtain ⟨its, r, pl, hz⟩ := I.list hq
    refine SeqAt.in_listAt (eqU x) pl.isList (fun w hw => mem_eqAt rx fx r fs w (by simpa using hw)) ⟨.bl _, H, I, rfl, ?_⟩
    rw [show its.toArray.any (eqU x) = its.any (eqU x) by simp, any_eqU r fs]
    exact q
  · obtain ⟨its, r, pl, hz⟩ := I.tuple hq
    refine SeqAt.in_tupleAt (eqU x) pl (fun w hw => mem_eqAt rx fx r fs w (by simpa using hw)) ⟨.bl _, H, I, rfl, ?_⟩
    rw [show its.toArray.any (eqU x) = its.any (eqU x) by simp, any_eqU r fs]
    exact q
/-! ### len, list(x), tuple(x) of any list or tuple that is read -/
theorem call_len_seq : CallR X (.builtin "len") (fun xs H Q => ∃ p ys, xs = [.ref p] ∧ (SqL X.K H p ys ∨ SqT X.K H p ys) ∧ Q (.int ys.length) H) := by
  intro pins s σ H xs us Q I r h
  obtain ⟨p, ys, rfl, hq, q⟩ := h
  obtain ⟨u, rfl, rx⟩ := vals1 r
  cases rx
  have hn := line63
  rcases hq with hq | hq
  · obtain ⟨its, r', pl, hz⟩ := I.list hq
    have hlen := r'.length
    exact Calls.call_len_list pl.isList (by simp only [List.size_toArray] <;> omega) ⟨.int ys.length, H, I.tok _, ⟨s.toks + 1, by rw [List.size_toArray, hlen]⟩, q⟩
  · obtain ⟨its, r', pl, hz⟩ := I.tuple hq
    have hlen := r'.length
    exact len_tuple pl (by simp only [List.size_toArray] <;> omega) ⟨.int ys.length, H, I.tok _, ⟨s.toks + 1, by rw [List.size_toArray, hlen]⟩, q⟩
theorem CallR.or {f : Value} {r r' : List V → Hp → VK → Prop} (h : CallR X f r) (h' : CallR X f r') : CallR X f (fun xs H Q => r xs H Q ∨ r' xs H Q) := by
  intro pins s σ H xs us Q I rs q
  rcases q with q | q
  · exact h pins s σ H xs us Q I rs q
  · exact h' pins s σ H xs us Q I rs q
theorem call_list_of : CallR X (.type "list") (fun xs H Q => ∃ p ys, xs = [.ref p] ∧ (SqL X.K H p ys ∨ SqT X.K H p ys) ∧ ∀ l, H l = none → Q (.ref l) (upd H l (.lst ys))) := by
  intro pins s σ H xs us Q I r h
  obtain ⟨p, ys, rfl, hq, q⟩ := h
  obtain ⟨u, rfl, rx⟩ := vals1 r
  cases rx
  have fin : ∀ (its : List Value), Vals ys its → ys.length ≤ sizeLine → ∀ (h' : Heap) (c' : Nat), (∀ b o', s.heap.get? b = some o' → h'.get? b = some o') →
      h'.get? s.heap.objs.size = some { cls := .type "list", dict := none, data := .seq its.toArray c', slots := #[] } → EP X pins σ Q (.ref s.heap.objs.size) { s with heap := h' } := fun its r' hz h' c' kp e =>
    ⟨.ref s.heap.objs.size, _, I.laid (t' := s.toks) kp (Nat.le_refl _) (show ObjOk X.prog X.w _ h' _ (.lst ys) from ⟨hz, its, c', r', e⟩), rfl, q _ (I.hok.fresh (Nat.le_refl _))⟩
  rcases hq with hq | hq
  · obtain ⟨its, r', pl, hz⟩ := I.list hq
    have hlen := r'.length
    obtain ⟨o, ho, hc, n, hd⟩ := pl.isList
    exact call_list_seq p (.inl rfl) ho hc hd (fun h' c' kp e => fin its r' hz h' c' kp e) (by simp only [List.size_toArray] <;> omega)
  · obtain ⟨its, r', pl, hz⟩ := I.tuple hq
    have hlen := r'.length
    obtain ⟨o, ho, hc, n, hd⟩ := pl
    exact call_list_seq p (.inr rfl) ho hc hd (fun h' c' kp e => fin its r' hz h' c' kp e) (by simp only [List.size_toArray] <;> omega)
/-! ### the call of a builtin's method: o.m(..) -/
/-- the value is of that builtin type -/
def tyV (K : PySem.W.Frag) (T : String) (x : V) (H : Hp) : Prop := match x with
  | .str _ => T = "str"
  | .int _ => T = "int"
  | .ref p => (T = "list" ∧ ∃ xs, SqL K H p xs) ∨ (T = "tuple" ∧ ∃ o, K.lookup p = some o ∧ o.cls = .type "tuple" ∧ o.dict = none) ∨
      (T = "dict" ∧ ((∃ kvs, H p = some (.dK kvs)) ∨ ∃ kvs, H p = some (.dT kvs))) ∨ (T = "set" ∧ ∃ S n, H p = some (.set S n))
  | _ => False
theorem tyV_is {pins : List (Addr × Obj)} {σ : St} {H : Hp} {s : Shared} {T : String} {x : V} {v : Value} (I : Inv X pins σ H s) (r : RelV x v) (ty : tyV X.K T x H) :
    s.TypeIs v T ∧ ∀ a, v = .ref a → ∃ ob, s.heap.get? a = some ob ∧ ob.dict = none := by
  cases x with
  | str z =>
    obtain ⟨t, rfl⟩ := r
    cases (show T = "str" from ty)
    exact ⟨typeIs_str s z t, fun _ e => nomatch e⟩
  | int i =>
    obtain ⟨t, rfl⟩ := r
    cases (show T = "int" from ty)
    exact ⟨typeIs_int s i t, fun _ e => nomatch e⟩
  | ref p =>
    cases r
    rcases ty with ⟨rfl, xs, hq⟩ | ⟨rfl, o, hk, hc, hd⟩ | ⟨rfl, hk⟩ | ⟨rfl, S, n, hk⟩
    · obtain ⟨its, _, pl, _⟩ := I.list hq
      refine ⟨pl.isList.typeIs, fun a e => ?_⟩
      cases e
      obtain ⟨o, n, e, c, hd, _⟩ := pl
      exact ⟨o, e, hd⟩
    · refine ⟨⟨o, I.kIn p o hk, hc⟩, fun a e => ?_⟩
      cases e
      exact ⟨o, I.kIn _ o hk, hd⟩
    · have z : ∃ o, s.heap.get? p = some o ∧ o.ExactDict := by
        rcases hk with ⟨kvs, hk⟩ | ⟨kvs, hk⟩
        · obtain ⟨_, _, _, _, o, _, _, e, ex, _⟩ := I.hok p _ hk
          exact ⟨o, e, ex⟩
        · obtain ⟨_, _, _, _, o, _, _, e, ex, _⟩ := I.hok p _ hk
          exact ⟨o, e, ex⟩
      obtain ⟨o, e, ex⟩ := z
      refine ⟨⟨o, e, ex.1⟩, fun a e2 => ?_⟩
      cases e2
      exact ⟨o, e, ex.2.1⟩
    · obtain ⟨o, _, _, _, e, ex, _⟩ := I.hok p _ hk
      refine ⟨⟨o, e, ex.1⟩, fun a e2 => ?_⟩
      cases e2
      exact ⟨o, e, ex.2.1⟩
  | _ => exact False.elim ty
def tBM0 (K : PySem.W.Frag) (T : String) (r : V → List V → Hp → VK → Prop) (to : TE) : TE := fun σ H Q => to σ H fun x H1 => tyV K T x H1 ∧ r x [] H1 Q
def tBM (K : PySem.W.Frag) (T : String) (r : V → List V → Hp → VK → Prop) (to : TE) (t : TA) : TE := fun σ H Q => to σ H fun x H1 => tyV K T x H1 ∧ t σ H1 fun xs H2 => r x xs H2 Q
variable {o e : Expr} {es : List Expr} {to : TE} {t : TA} {name : Str} {apos cpos : Pos} {T id : String} {r : V → List V → Hp → VK → Prop}
theorem pe_bm (pa : PlainAttrs T) (slot : Slot T name id) (hty : typeOf (.builtin id) = pure (.type "method_descriptor")) (hm : MtR X id r) (ho : PE X o to) (ha : PA X (e :: es) t)
    (hbase : attributeBase o name X.env (eval o X.env) = eval o X.env := by rfl)
    (hfew : ((backTo cpos (starEach (e :: es) X.env)).all (fun x => !x.1) && (backToKw cpos (keywordEach [] X.env)).all (fun x => x.1.isSome)
      && decide ((e :: es).length + ([] : List Keyword).length + (if ([] : List Keyword).isEmpty then 0 else 1) < 30)) = true := by rfl)
    (hline : (apos.endLine == cpos.line) = true := by rfl) (hs : starEach (e :: es) X.env = (false, eval e X.env) :: starEach es X.env := by rfl) (hplain : (backTo cpos (starEach es X.env)).any (·.1) = false := by rfl) :
    PE X (.Call (.Attribute o name apos) (e :: es) [] cpos) (tBM X.K T r to t) := by
  intro pins s σ H Q I h
  refine wpAny_Call_method_late hbase hfew hline rfl (thn (ho pins s σ H _ I h) fun v s1 ⟨x, H1, I1, r1, ty, q1⟩ => ?_)
  obtain ⟨h1, h2⟩ := tyV_is I1 r1 ty
  refine ⟨T, id, pa, slot, hty, h1, h2, ?_⟩
  have hA := ha cpos pins s1 σ H1 _ I1 q1
  rw [hs] at hA ⊢
  refine Calls.callWith_builtin (by show (false || (backTo cpos (starEach es X.env)).any (·.1)) = false; rw [hplain] <;> rfl) (Calls.evalArgs_plain ?_)
  exact thn hA fun us s2 ⟨vs, H2, I2, r2, q2⟩ => hm pins s2 σ H2 x vs v us Q I2 r1 r2 q2
/- xs.append(e), list.index on a module's tuple .. are MtR facts of 06m -/
end
end L2

namespace L2
open PySem PySem.Spec PyProof.Rows

def MtM (X : Cx) (id : String) (r : V → List V → Hp → VK → Prop) : Prop :=
  ∀ (pins : List (Addr × Obj)) (s : Shared) (σ : St) (H : Hp) (x : V) (xs : List V) (v : Value) (us : List Value) (Q : VK), Inv X pins σ H s → RelV x v → Vals xs us → r x xs H Q →
    wpAny (model X.prog X.w) X.A (call (.builtin id) (v :: us)) (EP X pins σ Q) X.xe s

/-! ### lists of values -/
theorem Vals.one : ∀ {x : V} {us : List Value}, Vals [x] us → ∃ u, us = [u] ∧ RelV x u
  | _, _, .cons r .nil => ⟨_, rfl, r⟩
theorem Vals.two : ∀ {x y : V} {us : List Value}, Vals [x, y] us → ∃ u v, us = [u, v] ∧ RelV x u ∧ RelV y v
  | _, _, _, .cons r (.cons q .nil) => ⟨_, _, rfl, r, q⟩
theorem Vals.zero : ∀ {us : List Value}, Vals [] us → us = []
  | _, .nil => rfl
theorem Vals.dropLast {xs : List V} {us : List Value} (h : Vals xs us) : Vals xs.dropLast us.dropLast := by
  induction h with
  | nil => exact .nil
  | cons r t ih =>
    cases t with
    | nil => exact .nil
    | cons q t' => exact .cons r ih
theorem Vals.eraseIdx : ∀ {xs : List V} {us : List Value} (i : Nat), Vals xs us → Vals (xs.eraseIdx i) (us.eraseIdx i)
  | _, _, _, .nil => .nil
  | _, _, 0, .cons _ t => t
  | _, _, i + 1, .cons r t => .cons r (Vals.eraseIdx i t)
theorem Vals.reverse {xs : List V} {us : List Value} (h : Vals xs us) : Vals xs.reverse us.reverse := by
  induction h with
  | nil => exact .nil
  | cons r t ih => rw [List.reverse_cons, List.reverse_cons]; exact Vals.append ih (.cons r .nil)
theorem Vals.rep {xs : List V} {us : List Value} (h : Vals xs us) : ∀ k : Nat, Vals (List.replicate k xs).flatten (List.replicate k us).flatten
  | 0 => .nil
  | k + 1 => by
    rw [List.replicate_succ, List.replicate_succ, List.flatten_cons, List.flatten_cons]
    exact Vals.append h (Vals.rep h k)
section
variable {X : Cx} {pins : List (Addr × Obj)} {σ : St} {H : Hp} {s : Shared} {l b : Addr} {xs ys zs : List V}

/-! ### the two steps: a tracked list is rewritten, a new list is laid -/
theorem Inv.lset {its its' : List Value} {n : Nat} {f : Array Value → Array Value} {t' : Nat} (I : Inv X pins σ H s) (hH : H l = some (.lst xs))
    (e : s.heap.get? l = some { cls := .type "list", data := .seq its.toArray n }) (hf : f its.toArray = its'.toArray) (hv : Vals ys its') (hz : ys.length ≤ sizeLine) :
    Inv X pins σ (upd H l (.lst ys)) { s with heap := s.heap.update l (Obj.mapSeq f), toks := t' } := by
  have q := PySem.IsL.update e f
  rw [hf] at q
  refine I.write (x := l) (e := l) (by rw [hH]; exact trivial) (.inl rfl) (fun b' u hb hu => (Heap.get?_update_other s.heap (Obj.mapSeq f) (Ne.symm hb)).trans hu) ⟨_, q⟩ ?_
  exact ⟨hz, its', _, hv, q⟩
theorem Inv.lnew {its : List Value} {t' : Nat} (I : Inv X pins σ H s) (hv : Vals ys its) (hz : ys.length ≤ sizeLine) :
    Inv X pins σ (upd H s.heap.objs.size (.lst ys)) { s with heap := s.heap.push { cls := .type "list", data := .seq its.toArray }, toks := t' } :=
  I.laid (fun _ _ q => Heap.get?_push_of_some _ q) (Nat.le_refl _) ⟨hz, its, 0, hv, Heap.get?_push_size _ rfl⟩
theorem Inv.fresh (I : Inv X pins σ H s) : H s.heap.objs.size = none := I.hok.fresh (Nat.le_refl _)
theorem Inv.lstM (I : Inv X pins σ H s) (hH : H l = some (.lst xs)) : xs.length ≤ sizeLine ∧ ∃ (its : List Value) (n : Nat), Vals xs its ∧ xs.length = its.length ∧ s.heap.get? l = some { cls := .type "list", data := .seq its.toArray n } := by
  obtain ⟨z, its, n, r, e⟩ := I.hok l _ hH
  exact ⟨z, its, n, r, r.length, e⟩

end

section
variable {X : Cx}

/-! ### methods -/
def rAppend : V → List V → Hp → VK → Prop := fun x vs H Q => ∃ l xs y, x = .ref l ∧ vs = [y] ∧ H l = some (.lst xs) ∧ xs.length < sizeLine ∧ Q .non (upd H l (.lst (xs ++ [y])))
theorem mt_append : MtM X "list.append" rAppend := by
  intro pins s σ H x vs v us Q I rx rv h
  obtain ⟨l, xs, y, rfl, rfl, hH, hz, q⟩ := h
  cases rx
  obtain ⟨u, rfl, ru⟩ := rv.one
  obtain ⟨z, its, n, r, hl, e⟩ := I.lstM hH
  refine call_meets F.slot_list_append ⟨_, e, rfl⟩ F.entry_list_append (F.args_list_append_2 _ _) (PySem.list_append l its.toArray n u (by rw [List.size_toArray]; omega)) ⟨e, ?_⟩
  refine ⟨.non, _, I.lset (its' := its ++ [u]) hH e (by simp) (r.append (.cons ru .nil)) ?_, rfl, q⟩
  rw [List.length_append, List.length_singleton]
  omega

def rExtend : V → List V → Hp → VK → Prop := fun x vs H Q => ∃ l b xs zs, x = .ref l ∧ vs = [.ref b] ∧ H l = some (.lst xs) ∧ H b = some (.lst zs) ∧ xs.length + zs.length ≤ sizeLine ∧ Q .non (upd H l (.lst (xs ++ zs)))
def rPop : V → List V → Hp → VK → Prop := fun x vs H Q => ∃ l xs y, x = .ref l ∧ vs = [] ∧ H l = some (.lst xs) ∧ xs[xs.length - 1]? = some y ∧ Q y (upd H l (.lst xs.dropLast))
def rPopAt : V → List V → Hp → VK → Prop := fun x vs H Q => ∃ l xs i k y, x = .ref l ∧ vs = [.int i] ∧ H l = some (.lst xs) ∧ -(2 ^ 63) ≤ i ∧ i < 2 ^ 63 ∧ seqIndex? i xs.length = some k ∧ xs[k]? = some y ∧ Q y (upd H l (.lst (xs.eraseIdx k)))
def rReverse : V → List V → Hp → VK → Prop := fun x vs H Q => ∃ l xs, x = .ref l ∧ vs = [] ∧ H l = some (.lst xs) ∧ Q .non (upd H l (.lst xs.reverse))
def rClear : V → List V → Hp → VK → Prop := fun x vs H Q => ∃ l xs, x = .ref l ∧ vs = [] ∧ H l = some (.lst xs) ∧ Q .non (upd H l (.lst []))
/-! ### list + list, list += list, list * int -/
def rCat : R2 := fun x y H Q => ∃ l b xs zs, x = .ref l ∧ y = .ref b ∧ H l = some (.lst xs) ∧ H b = some (.lst zs) ∧ xs.length + zs.length ≤ sizeLine ∧ ∀ p, H p = none → Q (.ref p) (upd H p (.lst (xs ++ zs)))
theorem op_cat : OpR X (binaryOp .Add) rCat := by
  intro pins s σ H x y v u Q I rx ry h
  obtain ⟨l, b, xs, zs, rfl, rfl, hH, hB, hz, q⟩ := h
  cases rx
  cases ry
  obtain ⟨z, its, n, r, hl, e⟩ := I.lstM hH
  obtain ⟨z2, its2, n2, r2, hl2, e2⟩ := I.lstM hB
  refine PySem.P.add_list e e2 ?_ (by rw [List.size_toArray, List.size_toArray]; omega)
  have ea : its.toArray ++ its2.toArray = (its ++ its2).toArray := by simp
  rw [ea]
  exact ⟨.ref _, _, I.lnew (t' := s.toks) (r.append r2) (by rw [List.length_append]; omega), rfl, q _ I.fresh⟩
/-- a list times an int (a negative one is nothing) -/
def rRep : R2 := fun x y H Q => ∃ l k xs, x = .ref l ∧ y = .int k ∧ H l = some (.lst xs) ∧ -(2 ^ 63) ≤ k ∧ k < 2 ^ 63 ∧ xs.length * k.toNat ≤ sizeLine ∧
  ∀ p, H p = none → Q (.ref p) (upd H p (.lst (List.replicate k.toNat xs).flatten))
/-! ### del xs[i] -/
end

/-! ### xs[a:b] = ys -/
section
variable {prog : Program} {w : World} {A : Around} {E : Value → Shared → Prop} {s : Shared}
end

section
variable {X : Cx}
end
end L2

namespace Att
open PySem PySem.W PySem.Calls PyProof.Rows

/-! ### the script -/
theorem ints_of_wellAll {P : Params} {h : Heap} : ∀ (ns : List Int) (vs : List Value), WellAll P h vs (ns.map WData.int) → IntsAre vs ns := by
  intro ns
  induction ns with
  | nil =>
    intro vs w
    rw [List.map_nil] at w
    cases w
    exact .nil
  | cons n ns ih =>
    intro vs w
    rw [List.map_cons] at w
    cases w with
    | cons a b =>
      cases a
      exact .cons _ _ (ih _ b)

theorem script_of {l : OpenLaw} {n : Nat} (hn : l.most = some n) {P : Params} {h : Heap} {args : List WData} {vals : List Value}
    (hpre : l.row.toRowW.claim.pre args = true) (hwl : WellAll P h vals args) :
    ∃ a vs ns, vals = [Value.ref a] ∧ args = [WData.list (ns.map WData.int)] ∧ h.get? a = some { cls := .type "list", data := .seq vs.toArray } ∧ IntsAre vs ns ∧ ns.length ≤ n := by
  have hsh : WShape.hasAll [] args [.list .int] = true := (pre_splitW hpre).1
  have hc : l.pre.holds [] { args := args } = true := (pre_splitW hpre).2
  obtain ⟨d, r, rfl, h1, h2⟩ := hasAllW_cons hsh
  obtain rfl := hasAllW_nil h2
  obtain ⟨xs, rfl, h3⟩ := hasW_list h1
  obtain ⟨ns, rfl⟩ := items_int h3
  have hlen : ns.length ≤ n := by
    unfold OpenLaw.pre at hc
    have h4 : (WTm.not (.lt (.lit (.int (n : Int))) (.len (.arg 0)))).holds [] { args := [.list (ns.map .int)] } = true := by
      have h4 := (holds_andW hc).1
      rw [hn] at h4
      exact h4
    have h5 := condW_of h4 (w_not (w_lt w_lit (w_len_list (w_arg rfl))))
    rw [List.length_map] at h5
    refine Nat.le_of_not_lt fun q => ?_
    have q' : (n : Int) < ((ns.length : Nat) : Int) := by omega
    first
      | (rw [decide_eq_true q'] at h5; exact absurd h5 (by decide))
      | (simp at h5; omega)
  cases hwl with
  | cons w1 w2 =>
    cases w2
    cases w1 with
    | list ho hall => exact ⟨_, _, ns, rfl, rfl, ho, ints_of_wellAll ns _ hall, hlen⟩

theorem post_true (l : OpenLaw) (args : List WData) : l.row.toRowW.claim.post args (.bool true) args = true :=
  postW_of (r := l.row.toRowW) (X := (true == true))
    (show WShape.has [] (.bool true) .bool = true by first | rfl | decide | simp [WShape.has, WShape.arms, WShape.armsAll])
    (show (WTm.eq .res (.lit (.bool true))).value [] { args := args, res := some (.bool true), after := args } = some (.bool (true == true)) from w_eq_bool (w_res rfl) w_lit) rfl

/-! ### the attachment: holds_open's last premise (the goal 'hc' behind k_head) from a wpAny of the law's body -/
/-- the same from a codeAny of the CALL (for a layer whose function contracts speak of calls) -/
theorem attach_call {l : OpenLaw} {n : Nat} {q : Program} {loose : List Str} {XP : (Str → Option Value) → Heap → Prop} {YP : World → Heap → Prop} {d : DefRec}
    (hn : l.most = some n) (hdf : d.params.defaults = [])
    (call : ∀ (w : World) (s₀ s₁ : Shared) (mg mb : Str → Option Value) (fa : Addr) (o : Obj) (pm cd doc : Value) (a : Addr) (vs : List Value) (ns : List Int),
      Ground q loose [] XP w s₀ mg mb s₁.heap → YP w s₁.heap →
      s₁.heap.get? fa = some o → o.data = .func (docDef d.name d.params d.body d.scope pm cd doc) → s₁.heap.CodeRec cd d.name → mg d.name = some (.ref fa) →
      s₁.heap.get? a = some { cls := .type "list", data := .seq vs.toArray } → IntsAre vs ns → ns.length ≤ n → s₁.gens = #[] →
      codeAny (model l.prog w) callerA (.call (.ref fa) ⟨[.ref a], []⟩) (fun r s' => r = .ok (.ret (.bool true)) ∧ OldK s₁.heap s'.heap ∧ s'.os = s₁.os ∧ AllBare s'.gens) s₁) :
    WalkO q loose XP YP l.row.toRowW d [] (fun f vs => PySem.call f vs) := by
  intro w s₀ s₁ mg mb G Y fa o pm cd doc dV kV ho hd hcd hD hmg hg args vals as hpre hlay hrd hwl hlo
  obtain rfl : dV = .none := Dflts.none hD hdf
  obtain rfl : kV = .none := Dflts.noKw hD
  obtain ⟨a, vs, ns, rfl, rfl, hobj, hints, hlen⟩ := script_of hn hpre hwl
  refine enter_call (codeAny_mono (call w s₀ s₁ mg mb fa o pm cd doc a vs ns G Y ho (fd_plain hd) hcd hmg hobj hints hlen hg) fun r s' hq => ?_)
  obtain ⟨rfl, h2, h3, h4⟩ := hq
  exact ⟨.inl ⟨.bool true, .bool true, [], rfl, fun _ => rfl, .bool true, post_true l _, fun _ => ⟨List.Pairwise.nil, fun _ hm => (nomatch hm)⟩⟩, h2, h3, h4⟩

/-! ### rules over ANY heap (no ledger) from facts about the written part K: the library's own take a ledger (News) for what they write -/
section
variable {prog : Program} {w : World} {A : Around} {E : Value → Shared → Prop} {s : Shared} {K : Frag}

/-! the whole heap as the ledger: makes every rule that writes through a ledger a rule over any heap -/
def noObjs (h : Heap) : Heap := { h with objs := #[] }
def ledger (h : Heap) (L d : Addr) : List (Addr × Obj) := (List.range h.objs.size).filterMap fun a => if a = L ∨ a = d then none else (h.get? a).map fun o => (a, o)
end
end Att

namespace L2
open PySem PySem.Spec PyProof.Rows

theorem vals_ints : ∀ {vs : List Value} {ns : List Int}, IntsAre vs ns → Vals (ns.map V.int) vs
  | _, _, .nil => .nil
  | _, _, .cons n t h => .cons ⟨t, rfl⟩ (vals_ints h)

/-- nothing is tracked but the script, known to the object (or it is an object of the module) -/
def Only (H : Hp) : Prop := ∀ b, H b = none ∨ ∃ o xs, H b = some (.frz o (.lst xs))

/-- THE HEAD: the law's promise, at the heap behind the top. F, the promise of the law's def, may use that base is part of the heap (so K.In base, base.Ns mainGlobals mg stand in Mod) -/
theorem law_call {P : Program} {w : World} {K : PySem.W.Frag} {mg mb : Str → Option Value} {CX : CXT} {k : Nat} {fa a : Addr} {fd : FuncData} {x : Str} {sp : Sp} {s₁ : Shared} {vs : List Value} {ns : List Int}
    (KX : K.In s₁.heap) (hns : s₁.heap.Ns mainGlobals mg) (hb : s₁.heap.Ns builtinsNs mb) (hbb : ∀ x : Str, x ≠ "__name__" → mb x = bootBuiltins x) (hlim : s₁.heap.NoLimit) (hg : s₁.gens = #[])
    (ha : s₁.heap.get? a = some { cls := .type "list", data := .seq vs.toArray }) (hi : IntsAre vs ns) (hl : ns.length ≤ sizeLine) (hr : Room k callerA)
    (F : ∀ base : Heap, K.In base → base.Ns mainGlobals mg → FnOk P w K mg base CX k fa fd [x] sp) (hbind : ∀ (s : Shared) (u : Value), BindsTo s fd ⟨[u], []⟩ [(x, u)])
    (hsp : ∀ H : Hp, Only H → SqL K H a (ns.map V.int) → sp [.ref a] H (fun v _ => v = .bl true) fun _ _ _ => False)
    (hCX : ∀ H e s', CX [] H s₁ (fun _ _ _ => False) e s' → False) :
    codeAny (model P w) callerA (.call (.ref fa) ⟨[.ref a], []⟩) (fun r s' => r = .ok (.ret (.bool true)) ∧ OldK s₁.heap s'.heap ∧ s'.os = s₁.os ∧ AllBare s'.gens) s₁ := by
  have rv := vals_ints hi
  have lenV := hi.length
  -- from an abstract heap in which nothing but the script may be tracked
  have core : ∀ H : Hp, Only H → SqL K H a (ns.map V.int) → HOk P w H s₁.heap → (∀ b, H b ≠ none → b = a) → (H a ≠ none → K.lookup a = none) →
      codeAny (model P w) callerA (.call (.ref fa) ⟨[.ref a], []⟩) (fun r s' => r = .ok (.ret (.bool true)) ∧ OldK s₁.heap s'.heap ∧ s'.os = s₁.os ∧ AllBare s'.gens) s₁ := by
    intro H hO hS hok hA hK
    have base_of : ∀ {b : Addr} {o : Obj}, s₁.heap.get? b = some o → H b = none → (hidT s₁.heap H).get? b = some o := fun e n => hidT_get e n
    have noA : ∀ {b : Addr} {o : Obj} {es : Array DictEntry} {ep : Nat}, s₁.heap.get? b = some o → o.data = .dict es ep → H b = none := fun {b o es ep} e d => by
      cases q : H b with
      | none => rfl
      | some u =>
        have e' : b = a := hA b (by rw [q]; simp)
        subst e'
        rw [ha] at e; cases e
        have d' : Data.seq vs.toArray _ = Data.dict es ep := d
        cases d'
    have nsK : ∀ {b : Addr} {m : Str → Option Value}, s₁.heap.Ns b m → (hidT s₁.heap H).Ns b m := fun {b m} ⟨o, es, ep, e, d, r⟩ => ⟨o, es, ep, base_of e (noA e d), d, r⟩
    have hKb : K.In (hidT s₁.heap H) := fun b o e => base_of (KX b o e) (by
      cases q : H b with
      | none => rfl
      | some u =>
        have e' : b = a := hA b (by rw [q]; simp)
        subst e'
        rw [hK (by rw [q]; simp)] at e; cases e)
    have hM : Mod K mg (hidT s₁.heap H) := ⟨hKb, nsK hns, ⟨mb, nsK hb, hbb⟩, let ⟨mc, h1, h2⟩ := hlim; ⟨mc, nsK h1, h2⟩⟩
    have e0 : Env0 P w K mg (hidT s₁.heap H) callerA [] s₁ H := ⟨rfl, hM, fun b o e => of_hidT e, Nat.le_of_eq (hidT_size _ _), trivial, fun b hb => absurd (show b ∈ ([] : List Addr) from hb) (by simp), hok, .of_eq hg⟩
    refine codeAny_mono ((F _ hKb (nsK hns)).run callerA [] s₁ H ⟨[.ref a], []⟩ [.ref a] [.ref a] _ _ hr e0 (hbind s₁ (.ref a)) (.cons rfl .nil) (hsp H hO hS)) fun r s' h => ?_
    cases r with
    | error e => exact (hCX H e s' h).elim
    | ok fl =>
      cases fl with
      | next => exact False.elim h
      | brk => exact False.elim h
      | cont => exact False.elim h
      | ret u =>
        obtain ⟨v, H', os, bare, un, hok', r', q⟩ := h
        have q' : v = .bl true := q
        subst q'
        obtain rfl : u = Value.bool true := r'
        refine ⟨rfl, OldK.of_keep fun b o e => ?_, os, bare⟩
        cases q : H b with
        | none => exact un.keep b o e q (by intro z; exact absurd (show b ∈ ([] : List Addr) from z) (by simp)) (by simp)
        | some u =>
          rcases hO b with z | ⟨ob, xs, z⟩
          · rw [q] at z; cases z
          · have z2 := un.frzs b ob _ z
            obtain ⟨e1, _⟩ := hok b _ z
            obtain ⟨e2, _⟩ := hok' b _ z2
            rw [e] at e1; cases e1
            exact e2
  cases hk : K.lookup a with
  | some o =>
    -- the script is one of the module's own objects
    have e := KX a o hk
    rw [ha] at e
    cases e
    refine core (fun _ => none) (fun _ => .inl rfl) (.inr ⟨_, vs.toArray, _, hk, rfl, rfl, rfl, by rw [List.size_toArray, lenV]; exact hl, by simpa using rv⟩) (fun b u z => by have z' : (none : Option HO) = some u := z; cases z') (fun b z => absurd rfl z) fun z => absurd rfl z
  | none =>
    refine core (fun b => if b = a then some (.frz { cls := .type "list", data := .seq vs.toArray } (.lst (ns.map V.int))) else none) (fun b => ?_) (.inl (.inr ⟨{ cls := .type "list", data := .seq vs.toArray }, if_pos rfl⟩)) (fun b u z => ?_) (fun b z => ?_) fun _ => hk
    · by_cases hb : b = a
      · exact .inr ⟨_, _, if_pos hb⟩
      · exact .inl (if_neg hb)
    · by_cases hb : b = a
      · have z' := (if_pos hb).symm.trans z
        cases z'
        subst hb
        exact ⟨ha, by rw [List.length_map]; exact hl, vs, _, rv, ha⟩
      · have z' := (if_neg hb).symm.trans z
        cases z'
    · by_cases hb : b = a
      · exact hb
      · exact absurd (if_neg hb) z
end L2

namespace L2
open PySem PySem.Spec PyProof.Rows

abbrev KOf {K : PySem.W.Frag} {h : Heap} (_ : K.In h) : PySem.W.Frag := K

/-- the goal that k_head leaves (case hc), from the law's promise. F gives the function object fd (K's own) once, then the promise over every base -/
theorem walk_of {l : PySem.W.OpenLaw} {n k : Nat} {q : Program} {loose : List Str} {XP : (Str → Option Value) → Heap → Prop} {YP : World → Heap → Prop} {d : DefRec} {K : Params → PySem.W.Frag} {CX : World → CXT} {sp : World → Sp} {x : Str}
    (hn : l.most = some n) (hn2 : n ≤ sizeLine) (hdf : d.params.defaults = []) (hr : Room k callerA)
    (hY : ∀ (w : World) (h : Heap), YP w h → (K w.params).In h)
    (F : ∀ (w : World) (mg : Str → Option Value) (fa : Addr) (h : Heap), (K w.params).In h → h.Ns mainGlobals mg → mg d.name = some (.ref fa) →
      ∃ fd : FuncData, (∀ (s : Shared) (u : Value), BindsTo s fd ⟨[u], []⟩ [(x, u)]) ∧
        ∀ base : Heap, (K w.params).In base → base.Ns mainGlobals mg → FnOk l.prog w (K w.params) mg base (CX w) k fa fd [x] (sp w))
    (hsp : ∀ (w : World) (H : Hp) (a : Addr) (ns : List Int), ns.length ≤ n → Only H → SqL (K w.params) H a (ns.map V.int) → sp w [.ref a] H (fun v _ => v = .bl true) fun _ _ _ => False)
    (hCX : ∀ (w : World) (H : Hp) (s : Shared) (e : Value) (s' : Shared), CX w [] H s (fun _ _ _ => False) e s' → False) :
    PySem.W.WalkO q loose XP YP l.row.toRowW d [] (fun f vs => PySem.call f vs) := by
  refine Att.attach_call hn hdf fun w s₀ s₁ mg mb fa o pm cd doc a vs ns G Y ho hd hcd hmg hobj hints hlen hg => ?_
  have KX := hY w _ Y
  obtain ⟨fd, hb, hF⟩ := F w mg fa _ KX G.T.g hmg
  exact law_call KX G.T.g G.T.b G.T.builtins G.T.nolimit hg hobj hints (Nat.le_trans hlen hn2) hr hF hb (fun H hO hS => hsp w H a ns hlen hO hS) fun H e s' => hCX w H s₁ e s'
end L2

/- THE LAST THEOREM (shape; LID, My.* are yours):
   My.Adr: a structure of the addresses that your layer names (classes, functions); My.Txt K t: a structure (Prop) of the equations over K;
   My.txt_mk : {K} {implicit addresses ..} (e1 : nsIn K mainGlobals "law" = some (some (.ref f))) (e2 : K.lookup f = some ⟨oc, od, .func (fnOf "law" "law" params body scope dV kV doc pm an cdv ct), sl⟩) (e3 : codeIn K cdv "law" = true) .. : ∃ t, My.Txt K t

set_option maxRecDepth 100000 in
set_option maxHeartbeats 0 in
theorem PySem.Challenge.cw_LID_holds : PySem.Challenge.rw_LID.Holds := by
  w_on; o_law; k_head; (case hw => w_witness2)
  k_fill
  refine L2.walk_of (l := PySem.Challenge.rw_LID) (n := 63) (k := 40) (x := "script") (CX := fun w => ..) (sp := fun _ => My.sp_law) rfl (by decide) rfl ⟨rfl, by decide, by decide⟩ (fun w h Y => PySem.W.kIn_of Y) ?F ?S ?C
  case F =>
    intro w mg fa h KX G hmg
    have T : ∃ t, My.Txt (L2.KOf KX) t := by
      dsimp only [L2.KOf]                          -- K must stand as «<heap const> w.params» for k_is
      refine' My.txt_mk ?e1 ?e2 ?e3 ..
      (case e1 => PySem.W.k_is)                    -- in the order: a name -> its address -> its object -> its parts
      (case e2 => PySem.W.k_is)
      ..
    obtain ⟨t, T⟩ := T
    have e0 := hmg.symm.trans (PySem.W.mg_of KX G T.law)
    cases e0                                       -- fa is the law's own address
    exact ⟨_, fun s u => .of_eq rfl, fun base kb nb => My.law_fn T kb nb⟩     -- if «.of_eq rfl» comes too early: refine' ⟨_, ?b, fun base kb nb => My.law_fn T kb nb⟩; exact fun s u => .of_eq rfl
  case S => exact fun w H a ns hl hO hS => ..
  case C => exact ..
(the tactic k_is has no namespace: write k_is) -/

/-! SHORT WORDS over the layer: a def of the text, its body, what a loop and a test want. -/
namespace L2
open PySem PySem.Spec PyProof.Rows

/-! ### the text by places -/
/-- the j-th statement of a class's body -/
def inClass (s : Stmt) (j : Nat) : Stmt := match s with
  | .ClassDef _ _ _ body _ _ _ _ _ _ _ => body.getD j (.Pass ⟨0, 0, 0, 0⟩)
  | _ => .Pass ⟨0, 0, 0, 0⟩
def defArgs (s : Stmt) : Arguments := match s with
  | .FunctionDef _ a _ _ _ _ _ _ _ _ => a
  | _ => { posonlyargs := [], args := [], vararg := none, kwonlyargs := [], kw_defaults := [], kwarg := none, defaults := [] }
def defBody (s : Stmt) : List Stmt := match s with
  | .FunctionDef _ _ b _ _ _ _ _ _ _ => b
  | _ => []
def defScope (s : Stmt) : Scope := match s with
  | .FunctionDef _ _ _ _ _ _ sc _ _ _ => sc
  | _ => { kind := .function, names := [], isGenerator := false, isCoroutine := false }

/-! ### no exception leaves a def -/
abbrev CX0 : CXT := fun _ _ _ _ _ _ => False
abbrev E0 : XK := fun _ _ _ => False
theorem pass0 {X : Cx} : Passes CX0 X E0 := fun _ _ _ _ _ _ _ h => h.elim

/-! ### a def (or method) of the text as it stands behind the top -/
structure Fun (K : PySem.W.Frag) (x qual : Str) (st : Stmt) (f : Addr) (fd : FuncData) : Prop where
  ex : ∃ (oc : Value) (od : Option Addr) (kV doc pm : Value) (an : Option Addr) (cdv ct : Value) (osl : Array (Option Value)),
    fd = PySem.W.fnOf x qual (defArgs st) (defBody st) (defScope st) .none kV doc pm an cdv ct ∧ K.lookup f = some ⟨oc, od, .func fd, osl⟩ ∧ PySem.W.codeIn K cdv qual = true
  kp : PySem.W.keepIn K (.ref f) = true
section
variable {P : Program} {w : World} {K : PySem.W.Frag} {mg : Str → Option Value} {base : Heap}
/-- THE RULE for a def: its body as a term of rules, and the reading of that term -/
theorem Fun.ok {x qual : Str} {st : Stmt} {f : Addr} {fd : FuncData} {N ps : List Str} {k : Nat} {sp : Sp} (F : Fun K x qual st f fd) (S : FnScope N ps (defScope st)) (len : ∀ vs H Q E, sp vs H Q E → vs.length = ps.length)
    (hbody : ∀ (cdv : Value) (A : Around) (outer : List Env) (s : Shared) (H : Hp) (vs : List V) (Q : VK) (E : XK), Room k (A.deeper (envOfC qual (defScope st) s.heap.objs.size f cdv)) → sp vs H Q E →
      ∃ t, PSs (cxOf CX0 P w K mg base N qual (defScope st) f cdv A outer s H E).nox (defBody st) t ∧ t { nx := fun _ H' => Q .non H', rt := Q } (start N vs) H) : FnOk P w K mg base CX0 (k + 1) f fd ps sp := by
  obtain ⟨oc, od, kV, doc, pm, an, cdv, ct, osl, rfl, lk, hcd⟩ := F.ex
  refine fn_of lk hcd S len fun A outer s H vs Q E hr hsp => ?_
  obtain ⟨t, h, q⟩ := hbody cdv A outer s H vs Q E hr hsp
  exact ⟨t, h.nox, q⟩
/-- how its arguments bind (no defaults): h is «fun _ _ _ _ _ _ us hl => match us, hl with | [_, _], _ => rfl», one _ a parameter -/
theorem Fun.binds {x qual : Str} {st : Stmt} {f : Addr} {fd : FuncData} {ps : List Str} (F : Fun K x qual st f fd)
    (h : ∀ (kV doc pm : Value) (an : Option Addr) (cdv ct : Value) (us : List Value), us.length = ps.length → bindArgs (PySem.W.fnOf x qual (defArgs st) (defBody st) (defScope st) .none kV doc pm an cdv ct) ⟨us, []⟩ = pure (ps.zip us)) : Binds K fd ps [] := by
  obtain ⟨oc, od, kV, doc, pm, an, cdv, ct, osl, rfl, lk, hcd⟩ := F.ex
  exact .all (h kV doc pm an cdv ct)
theorem fun_mk {x qual : Str} {st : Stmt} {f : Addr} {oc : Value} {od an : Option Addr} {osl : Array (Option Value)} {kV doc pm cdv ct : Value} (l : K.lookup f = some ⟨oc, od, .func (PySem.W.fnOf x qual (defArgs st) (defBody st) (defScope st) .none kV doc pm an cdv ct), osl⟩)
    (c : PySem.W.codeIn K cdv qual = true) (k : PySem.W.keepIn K (.ref f) = true) : Fun K x qual st f (PySem.W.fnOf x qual (defArgs st) (defBody st) (defScope st) .none kV doc pm an cdv ct) := ⟨⟨oc, od, kV, doc, pm, an, cdv, ct, osl, rfl, l, c⟩, k⟩
end
/-! ### expressions in short: the name that stands in the i-th slot -/
section
variable {X : Cx}
theorem pv (i : Nat) {x : Str} {pos : Pos} (hN : X.N[i]? = some x := by rfl) (hv : Vis X.env.scope x := by first | exact Or.inl rfl | exact Or.inr (Or.inl rfl) | exact Or.inr (Or.inr rfl)) (hd : (x == ("__debug__" : Str)) = false := by decide)
    (hcd : (x == ("__classdict__" : Str)) = false := by decide) : PE X (.Name x pos) (tVar i) := pe_var hN hv hd hcd
end

/-! ### tests -/
theorem iteF {A B : Prop} (h : B) : if false = true then A else B := by
  rw [if_neg Bool.false_ne_true]
  exact h
theorem iteT {A B : Prop} (h : A) : if true = true then A else B := by
  rw [if_pos rfl]
  exact h
theorem ite2 {c A B : Prop} [Decidable c] (h1 : c → A) (h2 : ¬ c → B) : if c then A else B := by
  by_cases h : c
  · rw [if_pos h]
    exact h1 h
  · rw [if_neg h]
    exact h2 h
/-! ### heaps -/
/-- all that was tracked is as it was -/
def Same (H H' : Hp) : Prop := ∀ b o, H b = some o → H' b = some o
theorem Same.refl (H : Hp) : Same H H := fun _ _ h => h
theorem Same.trans {H H1 H2 : Hp} (a : Same H H1) (b : Same H1 H2) : Same H H2 := fun c o h => b c o (a c o h)
theorem Same.free {H H' : Hp} (e : Same H H') {l : Addr} (h : H' l = Option.none) : H l = Option.none := by
  cases q : H l with
  | none => rfl
  | some o =>
    rw [e l o q] at h
    cases h
theorem Same.seq {K : PySem.W.Frag} {H H' : Hp} {a : Addr} {xs : List V} (e : Same H H') (h : SqL K H a xs) : SqL K H' a xs := by
  rcases h with (h | ⟨o, h⟩) | h
  · exact .inl (.inl (e _ _ h))
  · exact .inl (.inr ⟨o, e _ _ h⟩)
  · exact .inr h

end L2
namespace L2
open PySem PySem.Spec PyProof.Rows

/-! ### comprehensions -/
def cxLC (X : Cx) (N : List Str) (scope : Scope) (cl : List (Str × Addr)) (C : Addr) (s : Shared) (H : Hp) (ex : List Addr) (pn : List (Addr × Obj)) : Cx where
  prog := X.prog
  w := X.w
  K := X.K
  mg := X.mg
  base := X.base
  A := X.A
  N := N
  s₀ := s
  H₀ := H
  env := compEnvC scope cl C X.env
  outer := X.stack
  stack := X.stack
  ex := ex
  fn := fun _ => false
  calm := X.calm
  pn := pn
  xe := fun _ _ => False

/-- the tests of a clause -/
def PF (X : Cx) (ifs : List Expr) (t : TT) : Prop :=
  ∀ (pins : List (Addr × Obj)) (s : Shared) (σ : St) (H : Hp) (Q : Bool → Hp → Prop), Inv X pins σ H s → t σ H Q →
    wpAny (model X.prog X.w) X.A (forIn ifs true fun c r => if r = true then do let ok ← isTrue c X.env (eval c X.env); pure (ForInStep.yield ok) else pure (ForInStep.yield r)) (TP X pins σ Q) X.xe s
def tYes : TT := fun _ H Q => Q true H
theorem pf_nil {X : Cx} : PF X [] tYes := fun _ _ _ H _ I h => wpAny_tests_nil ⟨H, I, h⟩
theorem compLoop_any {prog : Program} {w : World} {A : Around} {R : Result → Shared → Prop} {s : Shared} {elt target iter : Expr} {ifs : List Expr} {scope : Scope} {pos : Pos} {it acc : Value} {env : Env} (I : Nat → Shared → Prop)
    (turn : ∀ n s, I n s → wpAny (model prog w) A (pyNext it) (fun r s₁ => match r with
      | none => R (.ok .next) s₁
      | some v => wpAny (model prog w) A (letOwnedTupleGo target it v) (fun _ s₁' => wpAny (model prog w) A (assign target env v) (fun _ s₂ =>
          wpAny (model prog w) A (forIn ifs true fun c r => if r = true then do let ok ← isTrue c env (eval c env); pure (ForInStep.yield ok) else pure (ForInStep.yield r)) (fun ok s₃ =>
            if ok = true then wpAny (model prog w) A (eval elt env) (fun x s₄ =>
              wpAny (model prog w) A (call (.builtin "list.append") [acc, x]) (fun _ s₅ => ∃ m, m < n ∧ I m s₅) (fun _ _ => False) s₄) (fun _ _ => False) s₃
            else ∃ m, m < n ∧ I m s₃) (fun _ _ => False) s₂) (fun _ _ => False) s₁') (fun _ _ => False) s₁) (fun _ _ => False) s)
    (n : Nat) (h : I n s) : codeAny (model prog w) A (.compLoop (.ListComp elt [⟨target, iter, ifs, 0⟩] scope pos) 0 it acc env) R s := by
  refine codeAny_loop rfl I (fun n s hI => ?_) n h
  show wpAny _ A ((compTurn (.ListComp elt [⟨target, iter, ifs, 0⟩] scope pos) 0 it acc env).onRaise (fun x => do noteFrame x env; theTreesLotGoes x)) _ _ s
  refine wpAny_noted (wpAny_mono (E := fun _ _ => False) ?_ (fun _ _ q => q) fun _ _ z => False.elim z)
  rw [compTurn_list]
  refine wpAny_bind (wpAny_standAt (wpAny_bind (wpAny_mono (turn n s hI) (fun r s₁ h₁ => ?_) fun _ _ h' => h')))
  cases r with
  | none => exact wpAny_pure h₁
  | some v =>
    refine wpAny_bind (wpAny_mono h₁ (fun _ s₁' h₁' => ?_) fun _ _ h' => h')
    refine wpAny_bind (wpAny_mono h₁' (fun _ s₂ h₂ => wpAny_bind (wpAny_mono h₂ (fun ok s₃ h₃ => ?_) fun _ _ h' => h')) fun _ _ h' => h')
    cases ok with
    | false => exact wpAny_pure ⟨rfl, h₃⟩
    | true =>
      exact wpAny_bind (wpAny_bind (wpAny_mono h₃ (fun x s₄ h₄ => wpAny_bind (wpAny_mono h₄ (fun _ s₅ h₅ => wpAny_pure (wpAny_pure ⟨rfl, h₅⟩)) fun _ _ h' => h')) fun _ _ h' => h'))

/-- captured names: their places around, their names -/
inductive Capt (X : Cx) (E' : Env) : List Nat → List Str → Prop where
  | nil : Capt X E' [] []
  | cons {i : Nat} {x : Str} {fr : List Nat} {ns : List Str} (h1 : X.N[i]? = some x) (h2 : X.env.kindOf x = some .cell) (h3 : E'.kindOf x = some .cell)
      (h4 : E'.cells.lookup x = X.env.cells.lookup x) (t : Capt X E' fr ns) : Capt X E' (i :: fr) (x :: ns)
theorem Capt.length {X : Cx} {E' : Env} : ∀ {fr : List Nat} {ns : List Str}, Capt X E' fr ns → fr.length = ns.length
  | _, _, .nil => rfl
  | _, _, .cons _ _ _ _ t => by simp [t.length]
theorem Capt.get {X : Cx} {E' : Env} : ∀ {fr : List Nat} {ns : List Str} {j : Nat} {x : Str}, Capt X E' fr ns → ns[j]? = some x →
    ∃ i, fr[j]? = some i ∧ X.N[i]? = some x ∧ X.env.kindOf x = some .cell ∧ E'.kindOf x = some .cell ∧ E'.cells.lookup x = X.env.cells.lookup x
  | _, _, _, _, .nil, e => by simp at e
  | _, _, 0, _, .cons h1 h2 h3 h4 _, e => by simp at e; subst e; exact ⟨_, rfl, h1, h2, h3, h4⟩
  | _, _, j + 1, x, .cons _ _ _ _ t, e => by
    obtain ⟨i, a, b⟩ := Capt.get (j := j) (x := x) t (by simpa using e)
    exact ⟨i, by simpa using a, b⟩

/-- the names' values at a turn's start: its own unset, the captured ones as around -/
def stLC (own : Nat) (fr : List Nat) (σ : St) : St := List.replicate own none ++ fr.map fun i => (σ[i]?).getD none
theorem stLC_length (own : Nat) (fr : List Nat) (σ : St) : (stLC own fr σ).length = own + fr.length := by simp [stLC]
/-- what was set stays set -/
def Kp (σ σ' : St) : Prop := ∀ (i : Nat) (v : V), σ[i]? = some (some v) → σ'[i]? = some (some v)
theorem Kp.refl (σ : St) : Kp σ σ := fun _ _ h => h
theorem Kp.none {n : Nat} {σ : St} {σ' : St} : Kp (stLC n [] σ) σ' := fun i v h => by
  simp only [stLC, List.map_nil, List.append_nil, List.getElem?_replicate] at h
  split at h <;> simp at h
theorem Kp.set {σ σ' : St} {i : Nat} {v : Option V} (k : Kp σ σ') (h : σ[i]? = some Option.none) : Kp σ (σ'.set i v) := fun j u e => by
  have hj : j ≠ i := fun z => by subst z; rw [h] at e; cases e
  rw [List.getElem?_set_ne (Ne.symm hj)]
  exact k j u e

/-- [elt for target in iter if tests]: wi what it walks, g the target, tc the tests, te the element; own: how many names of its own; fr: the captured names' places around -/
def tLCk (own : Nat) (fr : List Nat) (g : TG) (tc : TT) (te : TE) (σ : St) (Q : VK) (J : It) (H1 : Hp) : Prop := ∀ D, H1 D = none → ∃ W : Nat → Nat → Hp → Prop, (∃ m, W 0 m (upd H1 D (.lst []))) ∧ ∀ i m H, W i m H →
  (J.stop i H ∧ Q (.ref D) H) ∨ (J.go i H ∧ ∀ x H', J.yld i H x H' → g x (stLC own fr σ) H' fun σ2 H2 => Kp (stLC own fr σ) σ2 ∧ tc σ2 H2 fun b H3 =>
    if b = true then te σ2 H3 fun y H4 => ∃ ys, H4 D = some (.lst ys) ∧ ys.length < sizeLine ∧ ∃ m', m' < m ∧ W (i + 1) m' (upd H4 D (.lst (ys ++ [y])))
    else ∃ m', m' < m ∧ W (i + 1) m' H3)
def tLC (own : Nat) (fr : List Nat) (wi : TI) (g : TG) (tc : TT) (te : TE) : TE := fun σ H Q => wi σ H (tLCk own fr g tc te σ Q)

/-- what the outer frame needs to know of a comprehension's scope -/
structure LcOk (X : Cx) (scope : Scope) (cl : List (Str × Addr)) (fr : List Nat) (frN : List Str) : Prop where
  clos : closureFor scope X.env = pure cl
  nocell : ∀ y ∈ scope.names, y.2 ≠ .cell
  kind : scope.kind = .function
  nms : ∀ y ∈ scope.names, y.2 = .local → scope.names.lookup y.1 = some .local
  capt : ∀ C, Capt X (compEnvC scope cl C X.env) fr frN
  sub : ∀ x c, cl.lookup x = some c → X.env.cells.lookup x = some c
  has : ((relabel scope X.env).names.all fun y => (y.2 != .cell && y.2 != .free) || (cl.lookup y.1).isSome) = true

theorem LcOk.plain {X : Cx} {scope : Scope} (hf : ∀ y ∈ scope.names, y.2 ≠ .free) (hc : ∀ y ∈ scope.names, y.2 ≠ .cell) (hk : scope.kind = .function)
    (hn : ∀ y ∈ scope.names, y.2 = .local → scope.names.lookup y.1 = some .local) : LcOk X scope [] [] [] where
  clos := closureFor_none hf
  nocell := hc
  kind := hk
  nms := hn
  capt := fun _ => .nil
  sub := fun _ _ h => by simp at h
  has := by
    rw [List.all_eq_true]
    intro y hy
    simp only [relabel, List.mem_map] at hy
    obtain ⟨⟨n, k⟩, hm, e⟩ := hy
    have h1 : (k == NameKind.free) = false := by simpa using hf _ hm
    simp only [h1, Bool.false_and, Bool.false_eq_true, if_false] at e
    subst e
    have h2 := hc _ hm
    have h3 := hf _ hm
    simp only [Bool.or_eq_true, Bool.and_eq_true, bne_iff_ne]
    exact .inl ⟨h2, h3⟩

theorem lookup_all {p : Str × NameKind → Bool} : ∀ {l : List (Str × NameKind)} {x : Str} {k : NameKind}, l.all p = true → l.lookup x = some k → p (x, k) = true
  | [], _, _, _, h => by simp at h
  | (n, k') :: r, x, k, ha, h => by
    rw [List.all_cons, Bool.and_eq_true] at ha
    rw [List.lookup_cons] at h
    split at h
    · rename_i e
      have e' : x = n := by simpa using e
      cases h
      subst e'
      exact ha.1
    · exact lookup_all ha.2 h

theorem lc_core {X : Cx} {elt target iter : Expr} {ifs : List Expr} {scope : Scope} {pos : Pos} {cl : List (Str × Addr)} {ownN frN : List Str} {fr : List Nat} {g : TG} {tc : TT} {te : TE} {pins : List (Addr × Obj)} {σ : St} {H2 : Hp} {s2 : Shared}
    {Q : VK} {E : Value → Shared → Prop} {RR : Value → Addr → Result → Shared → Prop} {it : Addr} {fp : List Addr} {tn : Nat → Heap → Prop} {J : It}
    (hc : X.calm = true) (L : LcOk X scope cl fr frN)
    (hb : ∀ (C : Addr) (s : Shared) (H : Hp) (ex : List Addr) (pn : List (Addr × Obj)), PG (cxLC X (ownN ++ frN) scope cl C s H ex pn) target g ∧ PF (cxLC X (ownN ++ frN) scope cl C s H ex pn) ifs tc ∧ PE (cxLC X (ownN ++ frN) scope cl C s H ex pn) elt te)
    (I2 : Inv X pins σ H2 s2) (T : Turn X.prog X.w X.K target J fp it tn) (st2 : tn 0 s2.heap) (f2 : ∀ b ∈ fp, FpOk X pins H2 b)
    (rest : ∀ D, H2 D = none → ∃ W : Nat → Nat → Hp → Prop, (∃ m, W 0 m (upd H2 D (.lst []))) ∧ ∀ i m H, W i m H →
      (J.stop i H ∧ Q (.ref D) H) ∨ (J.go i H ∧ ∀ x H', J.yld i H x H' → g x (stLC ownN.length fr σ) H' fun σ2 H2 => Kp (stLC ownN.length fr σ) σ2 ∧ tc σ2 H2 fun b H3 =>
        if b = true then te σ2 H3 fun y H4 => ∃ ys, H4 D = some (.lst ys) ∧ ys.length < sizeLine ∧ ∃ m', m' < m ∧ W (i + 1) m' (upd H4 D (.lst (ys ++ [y])))
        else ∃ m', m' < m ∧ W (i + 1) m' H3))
    (hRR : ∀ (D C : Addr) (s' : Shared) (H' : Hp) (m : Str → Option Value), Inv X pins σ H' s' → s'.heap.Ns C m → FpOk X pins H' C → Q (.ref D) H' → RR (.ref D) C (.ok .next) s') :
    wpAny (model X.prog X.w) X.A (newList []) (fun acc s₃ => wpAny (model X.prog X.w) X.A (newFunctionEnv scope X.env.globals cl [] X.env.qual none .none (some X.env)) (fun cenv s₄ =>
      codeAny (model X.prog X.w) X.A (.compStart (.ListComp elt [⟨target, iter, ifs, 0⟩] scope pos) 0 (.ref it) acc { cenv with scope := relabel scope X.env }) (RR acc cenv.locals) s₄) E s₃) E s2 := by
  have hfp : ∀ b ∈ fp, b < s2.heap.objs.size := fun b hb' => by
    obtain ⟨o, e, _⟩ := T.obj 0 _ st2 b hb'
    exact Heap.lt_size e
  refine wpAny_newObj_type (wpAny_newFunctionEnv L.nocell (by intro y hy; simp at hy) (fun h₁ hns₁ hsb₁ => ?_) L.kind) (by show 0 ≤ sizeLine; exact Nat.zero_le _)
  have hD0 : H2 s2.heap.objs.size = none := I2.hok.fresh (Nat.le_refl _)
  obtain ⟨W, ⟨m0, w0⟩, turn⟩ := rest s2.heap.objs.size hD0
  have hlt0 : ∀ {b : Addr} {o : Obj}, s2.heap.get? b = some o → b ≠ s2.heap.objs.size := fun e => Nat.ne_of_lt (Heap.lt_size e)
  have I3 : Inv X pins σ (upd H2 s2.heap.objs.size (.lst [])) { s2 with heap := s2.heap.push { cls := .type "list", dict := none, data := .seq ([] : List Value).toArray } } :=
    I2.laid (t' := s2.toks) (fun b u e => Heap.get?_push_of_some _ e) (Nat.le_refl _) ⟨Nat.zero_le _, [], 0, .nil, Heap.get?_push_size _ rfl⟩
  dsimp only at hns₁ hsb₁ ⊢
  generalize hH3 : s2.heap.push { cls := .type "list", dict := none, data := .seq ([] : List Value).toArray } = h3 at hns₁ hsb₁ I3 ⊢
  generalize hs3 : ({ s2 with heap := h3 } : Shared) = s3 at I3
  have e3 : s3.heap = h3 := by rw [← hs3]
  have sz3 : h3.objs.size = s2.heap.objs.size + 1 := by rw [← hH3, Heap.size_push]
  generalize hHD : upd H2 s2.heap.objs.size (.lst []) = H3 at I3 w0
  have old : ∀ b o, h3.get? b = some o → h₁.get? b = some o := fun b o e => hsb₁.extBut b o (Nat.ne_of_lt (Heap.lt_size e)) (Heap.get?_push_of_some _ e)
  have old3 : ∀ b o, s3.heap.get? b = some o → h₁.get? b = some o := fun b o e => old b o (by rw [← e3]; exact e)
  have old2 : ∀ b o, s2.heap.get? b = some o → h3.get? b = some o := fun b o e => hH3 ▸ Heap.get?_push_of_some _ e
  have ltC : ∀ {b : Addr} {o : Obj}, s3.heap.get? b = some o → b ≠ h3.objs.size := fun {b o} e => Nat.ne_of_lt (by rw [← e3]; exact Heap.lt_size e)
  have hCn : H3 h3.objs.size = none := I3.hok.fresh (by rw [e3]; exact Nat.le_refl _)
  have stk : ∀ b ∈ frs X.stack, b = X.env.locals ∨ b ∈ X.fs := fun b hb' => List.mem_cons.mp (I3.stkSub b hb')
  have cellOld : ∀ x c, cl.lookup x = some c → ∃ v, s3.heap.IsCell c v := fun x c e => I3.cell x c (L.sub x c e)
  let X' := cxLC X (ownN ++ frN) scope cl h3.objs.size s3 H3 fp (X.pn ++ pins)
  have fC : FpOk X pins H3 h3.objs.size := I3.fpOk (by rw [e3]; exact Nat.le_refl _) hCn
  have okX : X'.Ok := by
    refine ⟨I3.ok.mod, ?_, I3.ok.glob, I3.ok.blt, ?_, fun x y c h1 h2 => I3.ok.inj x y c (L.sub _ _ h1) (L.sub _ _ h2), fun x hx => ?_, fun x c h _ => ?_, I3.ok.hd, I3.ok.frames, .inl rfl, fun b hb' => ?_, fun b o e => I3.bs b o e, ?_, fun b o e hb' => ?_, fun b hb' hf => ?_, I3.stack, fun b hb' => I3.stkFree b hb'⟩
    · show (relabel scope X.env).kind = .function
      exact L.kind
    · show s3.heap.objs.size ≤ h3.objs.size
      rw [e3]; exact Nat.le_refl _
    · have hx' : (relabel scope X.env).names.lookup x = some .cell ∨ (relabel scope X.env).names.lookup x = some .free := hx
      show ∃ c, cl.lookup x = some c
      rcases hx' with z | z
      · have q := lookup_all L.has z
        simp only [Bool.or_eq_true, Bool.and_eq_true, bne_iff_ne, ne_eq, not_true_eq_false, false_and, false_or] at q
        exact Option.isSome_iff_exists.mp q
      · have q := lookup_all L.has z
        simp only [Bool.or_eq_true, Bool.and_eq_true, bne_iff_ne, ne_eq, not_true_eq_false, and_false, false_or] at q
        exact Option.isSome_iff_exists.mp q
    · exact absurd (show false = true from h) Bool.false_ne_true
    · refine ⟨Nat.ne_of_lt (by show b < h3.objs.size; rw [sz3]; exact Nat.lt_succ_of_lt (hfp b hb')), fun x c e z => ?_⟩
      exact (f2 b hb').2.2.2.2.1 x c (L.sub x c e) z
    · show X.base.objs.size ≤ s3.heap.objs.size
      exact Nat.le_trans I3.ok.bsz I3.sz
    · have q := I2.bs b o e
      rcases (f2 b hb').2.2.2.1 with z | z
      · exact I2.ok.noex b o e z
      · exact absurd (Nat.lt_of_lt_of_le (Heap.lt_size e) (Nat.le_trans I2.ok.bsz z)) (Nat.lt_irrefl _)
    · rcases stk b hf with z | z
      · exact (f2 b hb').2.1 z
      · exact (f2 b hb').2.2.1 z
  have I4 : Inv X' [] (stLC ownN.length fr σ) H3 { s2 with heap := h₁, toks := s2.toks + ([] : List (Str × Value)).length } := by
    refine ⟨okX, ?_, ?_, Un.kept old3, ⟨_, hns₁, fun i x v h1 h2 h3' => ?_⟩, fun x c e => ?_, hCn, fun x c e => I3.freeC x c (L.sub x c e), fun p hp => ?_, I3.hok.kept old3, ?_⟩
    · show s2.os = s3.os
      rw [← hs3]
    · have b3 := I3.bare
      rw [← hs3] at b3
      exact b3
    · have hlen : (List.replicate ownN.length (none : Option V)).length = ownN.length := List.length_replicate
      by_cases hi : i < ownN.length
      · rw [stLC, List.getElem?_append_left (by rw [hlen]; exact hi), List.getElem?_replicate, if_pos hi] at h2
        cases h2
      · rw [stLC, List.getElem?_append_right (by rw [hlen]; omega), hlen] at h2
        have h1' : (ownN ++ frN)[i]? = some x := h1
        rw [List.getElem?_append_right (by omega)] at h1'
        obtain ⟨j, hj, hNj, hk, hk', hl⟩ := (L.capt h3.objs.size).get h1'
        rw [List.getElem?_map, hj] at h2
        have h2' : (σ[j]?).getD none = some v := by simpa using h2
        have hσ : σ[j]? = some (some v) := by
          cases q : σ[j]? with
          | none => rw [q] at h2'; cases h2'
          | some z => rw [q] at h2'; exact congrArg some h2'
        obtain ⟨m3, hn3, hl3⟩ := I3.loc
        obtain ⟨u, r, lk⟩ := hl3 j x v hNj hσ (.inr (.inl hk))
        refine ⟨u, r, ?_⟩
        rcases lk with ⟨k1, _⟩ | ⟨_, c, hc1, hc2⟩
        · rw [hk] at k1; cases k1
        · refine .inr ⟨.inl hk', c, hl.trans hc1, ?_⟩
          obtain ⟨oc, hoc, hd⟩ := hc2
          exact ⟨oc, old3 c oc hoc, hd⟩
    · obtain ⟨v, oc, hoc, hd⟩ := cellOld x c e
      exact ⟨v, oc, old3 c oc hoc, hd⟩
    · have hp' : p ∈ X.pn ++ pins := by
        rcases List.mem_append.mp hp with z | z
        · exact z
        · exact absurd z (by simp)
      obtain ⟨e, n, ne, nf, d⟩ := I3.pin p hp'
      refine ⟨old3 _ _ e, n, ltC e, fun z => ?_, d⟩
      rcases stk _ z with q | q
      · exact ne q
      · exact nf q
    · show (stLC ownN.length fr σ).length = (ownN ++ frN).length
      rw [stLC_length, List.length_append, (L.capt 0).length]
  have st4 : tn 0 h₁ := T.keep 0 _ _ st2 fun b _ o e => old b o (old2 b o e)
  have fr4 : ∀ b ∈ fp, H3 b = none := fun b hb' => by
    rw [← hHD, upd_ne (Nat.ne_of_lt (hfp b hb'))]
    exact (f2 b hb').1
  have stat : ∀ {H' : Hp}, (∀ b ∈ fp, H' b = none) → ∀ b ∈ fp, FpOk X' [] H' b := fun {H'} hn b hb' => by
    refine ⟨hn b hb', (okX.exf b hb').1, okX.exfs b hb', .inl hb', (okX.exf b hb').2, fun p hp => ?_⟩
    have hp' : p ∈ X.pn ++ pins := by
      rcases List.mem_append.mp hp with z | z
      · exact z
      · exact absurd z (by simp)
    exact (f2 b hb').2.2.2.2.2 p hp'
  have finish : ∀ {s' : Shared} {H' : Hp}, Inv X' [] (stLC ownN.length fr σ) H' s' → Q (.ref s2.heap.objs.size) H' → RR (.ref s2.heap.objs.size) h3.objs.size (.ok .next) s' := fun {s' H'} I' q => by
    obtain ⟨m, hn, _⟩ := id I'.loc
    have I5 : Inv X pins σ H' s' := I3.call' (ch := fp) I'.os I'.base I'.hok I'.bare fun b hb' => ⟨(f2 b hb').2.2.2.1, (f2 b hb').2.1, (f2 b hb').2.2.2.2.1, (f2 b hb').2.2.2.2.2⟩
    exact hRR _ _ s' H' m I5 hn ⟨I'.free, fC.2⟩ q
  have loop : ∀ s₄ : Shared, s₄ = { s2 with heap := h₁, toks := s2.toks + ([] : List (Str × Value)).length } →
      codeAny (model X.prog X.w) X.A (.compLoop (.ListComp elt [⟨target, iter, ifs, 0⟩] scope pos) 0 (.ref it) (.ref s2.heap.objs.size) (compEnvC scope cl h3.objs.size X.env)) (RR (.ref s2.heap.objs.size) h3.objs.size) s₄ := by
    rintro s₄ rfl
    refine compLoop_any (fun n s' => ∃ i H', Inv X' [] (stLC ownN.length fr σ) H' s' ∧ tn i s'.heap ∧ (∀ b ∈ fp, H' b = none) ∧ W i n H') ?_ m0 ⟨0, H3, I4, st4, fr4, w0⟩
    rintro n s5 ⟨i, H5, I5, st5, fr5, w5⟩
    rcases turn i n H5 w5 with ⟨stop, qn⟩ | ⟨go, step⟩
    · refine thn (T.done X' rfl rfl rfl hc i [] s5 _ H5 _ I5 (stat fr5) st5 stop) fun r s6 ⟨hr, I6⟩ => ?_
      subst hr
      exact finish I6 qn
    · refine thn (T.item X' rfl rfl rfl hc i [] s5 _ H5 _ I5 (stat fr5) st5 go) fun r s6 ⟨u, hr, h6⟩ => ?_
      subst hr
      refine thn h6 fun _ s7 ⟨x, H7, I7, r7, y7, st7, fr7⟩ => ?_
      have I7' := I7.pinned (stat fr7) (T.obj _ _ st7)
      obtain ⟨hG, hF, hE⟩ := hb h3.objs.size s3 H3 fp (X.pn ++ pins)
      refine thn (hG _ s7 _ H7 x u _ I7' r7 (step x H7 y7)) fun _ s8 ⟨σ8, H8, I8, kp8, q8⟩ => ?_
      have again : ∀ {s9 : Shared} {H9 : Hp} {m' : Nat}, Inv X' ([] ++ pinsAt fp s7.heap) σ8 H9 s9 → m' < n → W (i + 1) m' H9 → ∃ m, m < n ∧ ∃ i H', Inv X' [] (stLC ownN.length fr σ) H' s9 ∧ tn i s9.heap ∧ (∀ b ∈ fp, H' b = none) ∧ W i m H' := fun {s9 H9 m'} I9 hm w9 => by
        have J9 : Inv X' [] (stLC ownN.length fr σ) H9 s9 := I9.unpinned.weak (by rw [I9.len, I7.len]) kp8
        refine ⟨m', hm, i + 1, H9, J9, T.keep _ _ _ st7 fun b hb' o e => (I9.pin (b, o) (List.mem_append_right _ (List.mem_append_right _ (mem_pinsAt hb' e)))).1, fun b hb' => ?_, w9⟩
        obtain ⟨o, e, d⟩ := T.obj _ _ st7 b hb'
        exact (I9.pin (b, o) (List.mem_append_right _ (List.mem_append_right _ (mem_pinsAt hb' e)))).2.1
      refine thn (hF _ s8 σ8 H8 _ I8 q8) fun ok s9 ⟨H9, I9, q9⟩ => ?_
      cases ok with
      | false =>
        rw [if_neg Bool.false_ne_true] at q9 ⊢
        obtain ⟨m', hm, w9⟩ := q9
        exact again I9 hm w9
      | true =>
        rw [if_pos rfl] at q9 ⊢
        refine thn (hE _ s9 σ8 H9 _ I9 q9) fun v s10 ⟨y, H10, I10, r10, ys, e10, z10, m', hm, w10⟩ => ?_
        refine thn (mt_append _ s10 σ8 H10 (.ref s2.heap.objs.size) [y] (.ref s2.heap.objs.size) [v] (fun _ Hn => Hn = upd H10 s2.heap.objs.size (.lst (ys ++ [y]))) I10 rfl (.cons r10 .nil) ⟨_, ys, y, rfl, rfl, e10, z10, rfl⟩) fun _ s11 ⟨_, H11, I11, _, e11⟩ => ?_
        subst e11
        exact again I11 hm w10
  exact codeAny_compStart_list (loop _ rfl) (T.self _ 0 _ _ _ st4 (loop _ rfl))

theorem pe_lc {X : Cx} {elt target iter : Expr} {ifs : List Expr} {scope : Scope} {pos : Pos} {cl : List (Str × Addr)} (ownN : List Str) {frN : List Str} {fr : List Nat} {wi : TI} {g : TG} {tc : TT} {te : TE}
    (hc : X.calm = true) (L : LcOk X scope cl fr frN) (hi : PI X target iter wi)
    (hb : ∀ (C : Addr) (s : Shared) (H : Hp) (ex : List Addr) (pn : List (Addr × Obj)), PG (cxLC X (ownN ++ frN) scope cl C s H ex pn) target g ∧ PF (cxLC X (ownN ++ frN) scope cl C s H ex pn) ifs tc ∧ PE (cxLC X (ownN ++ frN) scope cl C s H ex pn) elt te)
    (hs : ∀ x, foldedSetIterable iter X.env x = pure x := by intro _; rfl) :
    PE X (.ListComp elt [⟨target, iter, ifs, 0⟩] scope pos) (tLC ownN.length fr wi g tc te) := by
  intro pins s σ H Q I h
  rw [eval_ListComp]
  refine wpAny_comprehension_free (use := none) rfl hs L.clos L.kind L.nms (thn (hi pins s σ H _ I h) fun v s1 h1 => thn h1 fun itv s2 h2 => ?_)
  obtain ⟨it, fp, tn, J, H2, e, I2, T, st2, f2, rest⟩ := h2
  subst e
  refine lc_core hc L hb I2 T st2 f2 rest ?_
  intro D C s' H' m I' hn fC q
  refine ⟨m, hn, fun h' hs' => ⟨.ref D, H', ?_, rfl, q⟩⟩
  obtain ⟨f0, f1, _, f3, f4, f5⟩ := fC
  exact I'.turned (t' := s'.toks) (fun b o hb' e => (hs'.2 b hb').trans e) f0 f1 f3 f4 f5

/-- name = [..] on one line, the name not one of the comprehension's own -/
theorem ps_setLC {X : Cx} {i : Nat} {x : Str} {elt target iter : Expr} {ifs : List Expr} {scope : Scope} {pos pos' spos : Pos} {cl : List (Str × Addr)} (ownN : List Str) {frN : List Str} {fr : List Nat} {wi : TI} {g : TG} {tc : TT} {te : TE}
    (hN : X.N.Nodup) (hiN : X.N[i]? = some x) (hx : Loc X.env.scope x) (hc : X.calm = true) (L : LcOk X scope cl fr frN) (hi : PI X target iter wi)
    (hb : ∀ (C : Addr) (s : Shared) (H : Hp) (ex : List Addr) (pn : List (Addr × Obj)), PG (cxLC X (ownN ++ frN) scope cl C s H ex pn) target g ∧ PF (cxLC X (ownN ++ frN) scope cl C s H ex pn) ifs tc ∧ PE (cxLC X (ownN ++ frN) scope cl C s H ex pn) elt te)
    (hsw : swapsWith (.ListComp elt [⟨target, iter, ifs, 0⟩] scope pos) (some (.Name x pos')) spos.line X.env = pure true := by rfl)
    (hs : ∀ x, foldedSetIterable iter X.env x = pure x := by intro _; rfl) (hf : X.fn x = true ∨ X.env.scope.names.lookup x = some .local := by first | exact .inl rfl | exact .inr rfl | assumption) :
    PS X (.Assign [.Name x pos'] (.ListComp elt [⟨target, iter, ifs, 0⟩] scope pos) spos) (tAsg (tLC ownN.length fr wi g tc te) (gName i)) := by
  intro pins s σ H D I h
  rw [exec_Assign_Name_used _ _ _ _ hsw]
  refine wpAny_bind (wpAny_standAt (wpAny_bind ?_))
  show wpAny _ X.A (do let _ ← comprehension (.ListComp elt [⟨target, iter, ifs, 0⟩] scope pos) scope X.env _ (newList []) false (eval iter X.env) (some (assign (.Name x pos') X.env))) _ _ s
  refine wpAny_bind (wpAny_mono (wpAny_comprehension_free (use := some (assign (.Name x pos') X.env)) (Q := fun _ s' => SP X pins D .next s') rfl hs L.clos L.kind L.nms
    (thn (hi pins s σ H _ I h) fun v s1 h1 => thn h1 fun itv s2 h2 => ?_)) (fun _ s' hq => wpAny_pure (wpAny_pure hq)) fun _ _ e => e)
  obtain ⟨it, fp, tn, J, H2, e, I2, T, st2, f2, rest⟩ := h2
  subst e
  refine lc_core (Q := fun v H => D.nx (σ.set i (some v)) H) hc L hb I2 T st2 f2 rest ?_
  intro Dl C s' H' m I' hn fC q
  obtain ⟨f0, f1, _, f3, f4, f5⟩ := fC
  refine wpAny_assign_Name (store_ok2 I' hN hiN hx (v := .ref Dl) rfl (fun s3 I3 ⟨a, sb, ha⟩ => ?_) hf)
  have hCa : C ≠ a := by
    rcases ha with z | z
    · rw [z]; exact f1
    · exact fun w' => f4 x a z w'.symm
  refine ⟨m, hn.sameBut sb hCa, fun h' hs' => ⟨_, H', I3.turned (t' := s3.toks) (fun b o hb' e => (hs'.2 b hb').trans e) f0 f1 f3 f4 f5, q⟩⟩
end L2
namespace L2
open PySem PySem.Spec PyProof.Rows

/-! ### reversed(xs) -/
/-- the list at a, from the last item to the first -/
def Itv (K : PySem.W.Frag) (a : Addr) (xs : List V) : It :=
  ⟨fun i H => i < xs.length ∧ SqL K H a xs, fun i H x H' => H' = H ∧ xs.reverse[i]? = some x, fun i _ => i = xs.length⟩
theorem turn_rev {P : Program} {w : World} {K : PySem.W.Frag} {tg : Expr} (a it : Addr) (xs : List V) : Turn P w K tg (Itv K a xs) [it] it (fun i h => h.IsRevIter it a ((xs.length : Int) - 1 - (i : Int))) where
  mem := by simp
  obj := fun i h st b hb => by
    have e : b = it := by simpa using hb
    subst e
    obtain ⟨o, e, c, d⟩ := st
    exact ⟨o, e, fun v z => by rw [d] at z; cases z⟩
  keep := fun i h h' st k => st.at fun o e => k it (by simp) o e
  item := by
    intro X hP hw hK hc i pins s σ H E I hf st hg
    subst hP hw hK
    obtain ⟨hi, hq⟩ := hg
    obtain ⟨its, rv, p, hz⟩ := I.list hq
    have hl := rv.length
    have hx : xs.reverse[i]? = some (xs.reverse[i]'(by rw [List.length_reverse]; exact hi)) := List.getElem?_eq_getElem _
    obtain ⟨u, hu, ru⟩ := (rv.reverse).get hx
    have e0 : (xs.length : Int) - 1 - (i : Int) = ((xs.length - 1 - i : Nat) : Int) := by omega
    have hu' : its.toArray[xs.length - 1 - i]? = some u := by
      rw [List.getElem?_reverse (by omega)] at hu
      rw [hl]
      simpa using hu
    obtain ⟨f0, f1, f2, f3, f4, f5⟩ := hf it (by simp)
    have st0 : s.heap.IsRevIter it a ((xs.length - 1 - i : Nat) : Int) := by rw [← e0]; exact st
    refine wpAny_pyNext_rev_item st0 p.isList (x := u) hu' fun h' st' sb => ?_
    have I1 : Inv X pins σ H { s with heap := h' } := I.turned (t' := s.toks) (fun b o hb e => (sb.2 b hb).trans e) f0 f1 f3 f4 f5
    have e2 : ((xs.length - 1 - i : Nat) : Int) - 1 = (xs.length : Int) - 1 - ((i + 1 : Nat) : Int) := by omega
    rw [e2] at st'
    obtain ⟨o, e, c, d⟩ := id st'
    exact ⟨u, rfl, go_of (s := { s with heap := h' }) e c d (by decide) ⟨_, H, I1, ru, ⟨rfl, hx⟩, st', fun b hb => (hf b hb).1⟩⟩
  done := by
    intro X hP hw hK hc i pins s σ H E I hf st hg
    subst hP hw hK
    have hi : i = xs.length := hg
    obtain ⟨f0, f1, f2, f3, f4, f5⟩ := hf it (by simp)
    have e0 : (xs.length : Int) - 1 - (i : Int) = -1 := by omega
    have st0 : s.heap.IsRevIter it a (-1) := by rw [← e0]; exact st
    exact wpAny_pyNext_rev_end (I.ok.hd hc) st0 fun h' eb => ⟨rfl, I.turned (t' := s.toks) (fun b o hb e => eb b o hb e) f0 f1 f3 f4 f5⟩
  self := fun _ _ _ _ _ st h => wpAny_pyIter_revIter st h

def iRev (K : PySem.W.Frag) (ta : TA) : TI := fun σ H R => ta σ H fun vs H1 => ∃ a xs, vs = [.ref a] ∧ SqL K H1 a xs ∧ R (Itv K a xs) H1
theorem pi_rev {X : Cx} {tg : Expr} {a : Expr} {ta : TA} {p pos : Pos} (hg : Gl X "reversed") (hm : X.mg "reversed" = none) (ha : PA X [a] ta) (hs : starEach [a] X.env = [(false, eval a X.env)] := by rfl) : PI X tg (.Call (.Name "reversed" p) [a] [] pos) (iRev X.K ta) := by
  intro pins s σ H R I h
  refine Call_ (ld_blt I hg hm boot_reversed (PyProof.Rows.callWith_type1 (thn (ha pos pins s σ H _ I h) fun us s1 ⟨vs, H1, I1, r1, q1⟩ => ?_) hs rfl))
  obtain ⟨b, xs, e, hq, q⟩ := q1
  subst e
  obtain ⟨u, rfl, ru⟩ := vals1 r1
  cases ru
  obtain ⟨its, rv, pl, hz⟩ := I1.list hq
  refine call_reversed_list pl.isList ?_
  have hlen : its.toArray.size = xs.length := by rw [List.size_toArray]; exact rv.length.symm
  have st : (s1.heap.push (revObj b ((its.toArray.size : Int) - 1))).IsRevIter s1.heap.objs.size b ((xs.length : Int) - 1 - ((0 : Nat) : Int)) := ⟨_, Heap.get?_push_size _ rfl, rfl, by
    show (revObj b ((its.toArray.size : Int) - 1)).data = _
    rw [hlen]
    simp [revObj]⟩
  refine wpAny_pyIter_revIter st ?_
  refine ⟨s1.heap.objs.size, [s1.heap.objs.size], _, _, H1, rfl, I1.kept (t' := s1.toks) fun b o e => Heap.get?_push_of_some _ e, turn_rev b _ xs, st, fun b' hb => ?_, q⟩
  have e : b' = s1.heap.objs.size := by simpa using hb
  subst e
  exact I1.fpOk (Nat.le_refl _) (I1.hok.fresh (Nat.le_refl _))

/-! ### xs[::-1] -/
def rRevL (K : PySem.W.Frag) : V → Hp → VK → Prop := fun x H Q => ∃ a xs, x = .ref a ∧ SqL K H a xs ∧ ∀ p, H p = none → Q (.ref p) (upd H p (.lst xs.reverse))
/-! ### xs == [], xs != [] -/
def rNil (K : PySem.W.Frag) (neg : Bool) : R2 := fun x y H Q => ∃ a b xs, x = .ref a ∧ y = .ref b ∧ SqL K H a xs ∧ SqL K H b [] ∧ Q (.bl (if neg then !xs.isEmpty else xs.isEmpty)) H
theorem op_eqNil {X : Cx} (hu : X.A.units < cLine) : OpR X (compareOp .Eq) (rNil X.K false) := by
  intro pins s σ H x y v u Q I rx ry h
  obtain ⟨a, b, xs, rfl, rfl, ha, hb, q⟩ := h
  cases rx
  cases ry
  obtain ⟨its, r, pl, _⟩ := I.list ha
  obtain ⟨its2, r2, pl2, _⟩ := I.list hb
  cases r2
  cases xs with
  | nil =>
    cases r
    exact SeqAt.eq_listAt (e := fun _ => true) pl.isList pl2.isList rfl hu (fun j h1 _ => absurd h1 (by simp)) ⟨.bl true, H, I, rfl, q⟩
  | cons z xs =>
    have hl := r.length
    exact SeqAt.eq_list_lengthsAt pl.isList pl2.isList (by
      have : its.length ≠ 0 := by rw [← hl]; simp
      simpa using this) hu ⟨.bl false, H, I, rfl, q⟩
/-! ### isinstance -/
/-- isinstance(x, C), C a built-in type -/
def rIsT (K : PySem.W.Frag) : List V → Hp → VK → Prop := fun xs H Q => ∃ x c t b, xs = [x, .ty c] ∧ TyOf K H x t ∧ PySem.W.kitOne K t (.type c) = some b ∧ Q (.bl b) H
/-- isinstance(x, (C, ..)) -/
def rIsTs (K : PySem.W.Frag) : List V → Hp → VK → Prop := fun xs H Q => ∃ (x : V) (p : Addr) (cs : List String) (t : Value) (b : Bool), xs = [x, .ref p] ∧ H p = some (.tup (cs.map V.ty)) ∧ TyOf K H x t ∧ PySem.W.kitAny K t (cs.map Value.type) = some b ∧ Q (.bl b) H
end L2
namespace L2
open PySem PySem.Spec PyProof.Rows

/-! ### data -/
inductive D where
  | non | int (i : Int) | lst (xs : List D) | tup (xs : List D)
mutual
def D.size : D → Nat
  | .non => 1
  | .int _ => 1
  | .lst ds => 1 + D.sizes ds
  | .tup ds => 1 + D.sizes ds
def D.sizes : List D → Nat
  | [] => 0
  | d :: ds => d.size + D.sizes ds
end
mutual
/-- the heap bears d at v, its lists at addresses of P -/
def Rep (P : Addr → Prop) (H : Hp) : D → V → Prop
  | .non, v => v = .non
  | .int i, v => v = .int i
  | .lst ds, v => ∃ a xs, v = .ref a ∧ P a ∧ H a = some (.lst xs) ∧ RepL P H ds xs
  | .tup ds, v => ∃ a xs, v = .ref a ∧ H a = some (.tup xs) ∧ RepL P H ds xs
def RepL (P : Addr → Prop) (H : Hp) : List D → List V → Prop
  | [], xs => xs = []
  | d :: ds, xs => ∃ x r, xs = x :: r ∧ Rep P H d x ∧ RepL P H ds r
end
mutual
theorem Rep.move {P P' : Addr → Prop} {H H' : Hp} (hP : ∀ a, P a → P' a) (hl : ∀ a xs, P a → H a = some (.lst xs) → H' a = some (.lst xs)) (ht : ∀ a xs, H a = some (.tup xs) → H' a = some (.tup xs)) : ∀ {d : D} {v : V}, Rep P H d v → Rep P' H' d v
  | .non, _, r => by simpa [Rep] using r
  | .int _, _, r => by simpa [Rep] using r
  | .lst ds, v, r => by
    simp only [Rep] at r ⊢
    obtain ⟨a, xs, e, hp, ha, q⟩ := r
    exact ⟨a, xs, e, hP a hp, hl _ _ hp ha, RepL.move hP hl ht q⟩
  | .tup ds, v, r => by
    simp only [Rep] at r ⊢
    obtain ⟨a, xs, e, ha, q⟩ := r
    exact ⟨a, xs, e, ht _ _ ha, RepL.move hP hl ht q⟩
theorem RepL.move {P P' : Addr → Prop} {H H' : Hp} (hP : ∀ a, P a → P' a) (hl : ∀ a xs, P a → H a = some (.lst xs) → H' a = some (.lst xs)) (ht : ∀ a xs, H a = some (.tup xs) → H' a = some (.tup xs)) : ∀ {ds : List D} {xs : List V}, RepL P H ds xs → RepL P' H' ds xs
  | [], _, r => by simpa [RepL] using r
  | d :: ds, xs, r => by
    simp only [RepL] at r ⊢
    obtain ⟨x, t, e, h1, h2⟩ := r
    exact ⟨x, t, e, Rep.move hP hl ht h1, RepL.move hP hl ht h2⟩
end
section
variable {P P' : Addr → Prop} {H H' : Hp}
theorem Rep.mono {d : D} {v : V} (h : Same H H') (r : Rep P H d v) : Rep P H' d v := r.move (fun _ p => p) (fun a xs _ e => h a _ e) fun a xs e => h a _ e
theorem RepL.mono {ds : List D} {xs : List V} (h : Same H H') (r : RepL P H ds xs) : RepL P H' ds xs := r.move (fun _ p => p) (fun a xs _ e => h a _ e) fun a xs e => h a _ e
theorem Rep.weak {d : D} {v : V} (hP : ∀ a, P a → P' a) (r : Rep P H d v) : Rep P' H d v := r.move hP (fun _ _ _ e => e) fun _ _ e => e
theorem RepL.weak {ds : List D} {xs : List V} (hP : ∀ a, P a → P' a) (r : RepL P H ds xs) : RepL P' H ds xs := r.move hP (fun _ _ _ e => e) fun _ _ e => e
/-- a list that is none of its own is written -/
theorem Rep.write {d : D} {v : V} {p : Addr} {ys : List V} {o : HO} (hp : ¬ P p) (e : H p = some (.lst ys)) (r : Rep P H d v) : Rep P (upd H p o) d v :=
  r.move (fun _ z => z) (fun a xs pa ea => by rw [upd_ne (fun z : a = p => hp (z ▸ pa))]; exact ea) fun a xs ea => by rw [upd_ne (ne_of ea e (by simp))]; exact ea
theorem RepL.write {ds : List D} {xs : List V} {p : Addr} {ys : List V} {o : HO} (hp : ¬ P p) (e : H p = some (.lst ys)) (r : RepL P H ds xs) : RepL P (upd H p o) ds xs :=
  r.move (fun _ z => z) (fun a xs pa ea => by rw [upd_ne (fun z : a = p => hp (z ▸ pa))]; exact ea) fun a xs ea => by rw [upd_ne (ne_of ea e (by simp))]; exact ea
theorem Rep.lstI {a : Addr} {xs : List V} {ds : List D} (p : P a) (h : H a = some (.lst xs)) (r : RepL P H ds xs) : Rep P H (.lst ds) (.ref a) := by
  simp only [Rep]; exact ⟨a, xs, rfl, p, h, r⟩
theorem Rep.tupI {a : Addr} {xs : List V} {ds : List D} (h : H a = some (.tup xs)) (r : RepL P H ds xs) : Rep P H (.tup ds) (.ref a) := by
  simp only [Rep]; exact ⟨a, xs, rfl, h, r⟩
theorem Rep.intI (i : Int) : Rep P H (.int i) (.int i) := by simp [Rep]
theorem Rep.nonI : Rep P H .non .non := by simp [Rep]
theorem Rep.lstE {v : V} {ds : List D} (r : Rep P H (.lst ds) v) : ∃ a xs, v = .ref a ∧ P a ∧ H a = some (.lst xs) ∧ RepL P H ds xs := by simpa only [Rep] using r
theorem Rep.tupE {v : V} {ds : List D} (r : Rep P H (.tup ds) v) : ∃ a xs, v = .ref a ∧ H a = some (.tup xs) ∧ RepL P H ds xs := by simpa only [Rep] using r
theorem Rep.intE {v : V} {i : Int} (r : Rep P H (.int i) v) : v = .int i := by simpa only [Rep] using r
theorem Rep.nonE {v : V} (r : Rep P H .non v) : v = .non := by simpa only [Rep] using r
theorem RepL.nilI : RepL P H [] [] := by simp [RepL]
theorem RepL.consI {d : D} {ds : List D} {x : V} {xs : List V} (h : Rep P H d x) (t : RepL P H ds xs) : RepL P H (d :: ds) (x :: xs) := by
  simp only [RepL]; exact ⟨x, xs, rfl, h, t⟩
theorem RepL.nilE {xs : List V} (r : RepL P H [] xs) : xs = [] := by simpa only [RepL] using r
theorem RepL.consE {d : D} {ds : List D} {xs : List V} (r : RepL P H (d :: ds) xs) : ∃ x t, xs = x :: t ∧ Rep P H d x ∧ RepL P H ds t := by simpa only [RepL] using r
theorem RepL.length : ∀ {ds : List D} {xs : List V}, RepL P H ds xs → xs.length = ds.length
  | [], _, r => by rw [r.nilE]; rfl
  | _ :: _, _, r => by
    obtain ⟨x, t, rfl, _, q⟩ := r.consE
    simp [q.length]
theorem RepL.get : ∀ {ds : List D} {xs : List V} {i : Nat} {d : D}, RepL P H ds xs → ds[i]? = some d → ∃ x, xs[i]? = some x ∧ Rep P H d x
  | [], _, _, _, _, e => by simp at e
  | _ :: _, _, 0, _, r, e => by
    obtain ⟨x, t, rfl, h, q⟩ := r.consE
    simp at e; subst e
    exact ⟨x, rfl, h⟩
  | _ :: _, _, i + 1, d, r, e => by
    obtain ⟨x, t, rfl, h, q⟩ := r.consE
    obtain ⟨y, e1, e2⟩ := q.get (i := i) (d := d) (by simpa using e)
    exact ⟨y, by simpa using e1, e2⟩
theorem RepL.getV {ds : List D} {xs : List V} {i : Nat} {x : V} (r : RepL P H ds xs) (e : xs[i]? = some x) : ∃ d, ds[i]? = some d ∧ Rep P H d x := by
  have hi : i < ds.length := by rw [← r.length]; exact (List.getElem?_eq_some_iff.mp e).1
  obtain ⟨y, e1, e2⟩ := r.get (List.getElem?_eq_getElem hi)
  rw [e] at e1; cases e1
  exact ⟨_, List.getElem?_eq_getElem hi, e2⟩
theorem RepL.append : ∀ {ds es : List D} {xs ys : List V}, RepL P H ds xs → RepL P H es ys → RepL P H (ds ++ es) (xs ++ ys)
  | [], _, _, _, r, q => by rw [r.nilE]; exact q
  | _ :: _, _, _, _, r, q => by
    obtain ⟨x, t, rfl, h, r'⟩ := r.consE
    exact .consI h (r'.append q)
theorem RepL.snoc {ds : List D} {d : D} {xs : List V} {x : V} (r : RepL P H ds xs) (h : Rep P H d x) : RepL P H (ds ++ [d]) (xs ++ [x]) := r.append (.consI h .nilI)
theorem RepL.split : ∀ {ds es : List D} {zs : List V}, RepL P H (ds ++ es) zs → ∃ xs ys, zs = xs ++ ys ∧ RepL P H ds xs ∧ RepL P H es ys
  | [], _, zs, r => ⟨[], zs, rfl, .nilI, r⟩
  | _ :: _, _, _, r => by
    obtain ⟨x, t, rfl, h, q⟩ := RepL.consE r
    obtain ⟨xs, ys, rfl, q1, q2⟩ := q.split
    exact ⟨x :: xs, ys, rfl, .consI h q1, q2⟩
theorem RepL.reverse : ∀ {ds : List D} {xs : List V}, RepL P H ds xs → RepL P H ds.reverse xs.reverse
  | [], _, r => by rw [r.nilE]; exact .nilI
  | _ :: _, _, r => by
    obtain ⟨x, t, rfl, h, q⟩ := r.consE
    rw [List.reverse_cons, List.reverse_cons]
    exact q.reverse.snoc h
theorem RepL.ints : ∀ (ns : List Int), RepL P H (ns.map D.int) (ns.map V.int)
  | [] => .nilI
  | n :: ns => .consI (.intI n) (.ints ns)
theorem RepL.take : ∀ (n : Nat) {ds : List D} {xs : List V}, RepL P H ds xs → RepL P H (ds.take n) (xs.take n)
  | 0, _, _, _ => by simpa using RepL.nilI
  | _ + 1, [], _, r => by rw [r.nilE]; simpa using RepL.nilI
  | n + 1, _ :: _, _, r => by
    obtain ⟨x, t, rfl, h, q⟩ := r.consE
    exact .consI h (RepL.take n q)
theorem RepL.drop : ∀ (n : Nat) {ds : List D} {xs : List V}, RepL P H ds xs → RepL P H (ds.drop n) (xs.drop n)
  | 0, _, _, r => r
  | _ + 1, [], _, r => by rw [r.nilE]; simpa using RepL.nilI
  | n + 1, _ :: _, _, r => by
    obtain ⟨x, t, rfl, h, q⟩ := r.consE
    exact RepL.drop n q
end
/-- addresses that a heap does not know; any address -/
def New (H : Hp) : Addr → Prop := fun a => H a = none
def Al : Addr → Prop := fun _ => True
theorem New.ne {H : Hp} {a b : Addr} {o : HO} (h : New H a) (e : H b = some o) : a ≠ b := fun z => by subst z; rw [show H a = none from h] at e; cases e
theorem New.back {H H' : Hp} (g : Same H H') : ∀ a, New H' a → New H a := fun _ h => g.free h
/-- a fresh object laid on -/
theorem Same.new {H : Hp} {p : Addr} (h : H p = none) (o : HO) : Same H (upd H p o) := fun b u q => by rw [upd_ne (ne_of_none q h)]; exact q
/-- an object that the old heap does not know is written -/
theorem Same.upd {H H' : Hp} {p : Addr} {o : HO} (g : Same H H') (h : H p = none) : Same H (upd H' p o) := fun b u q => by rw [upd_ne (ne_of_none q h)]; exact g b u q
theorem small {n : Nat} (h : n ≤ 1000000) : n ≤ sizeLine := Nat.le_trans h (by rw [sizeLine_eq]; decide)
theorem smaller {n : Nat} (h : n ≤ 1000000) : n < sizeLine := Nat.lt_of_le_of_lt h (by rw [sizeLine_eq]; decide)

/-! ### what a def is, what a call promises -/
structure Blt (mg : Str → Option Value) : Prop where
  len : mg "len" = none
  range : mg "range" = none
  int : mg "int" = none
  lst : mg "list" = none
  tuple : mg "tuple" = none
  bool : mg "bool" = none
  str : mg "str" = none
  isinstance : mg "isinstance" = none
  reversed : mg "reversed" = none
  enumerate : mg "enumerate" = none
  all : mg "all" = none
  min : mg "min" = none
theorem bt_len : bootBuiltins "len" = some (.builtin "len") := by decide +kernel
theorem bt_isinstance : bootBuiltins "isinstance" = some (.builtin "isinstance") := by decide +kernel
theorem bt_int : bootBuiltins "int" = some (.type "int") := by decide +kernel
theorem bt_list : bootBuiltins "list" = some (.type "list") := by decide +kernel
/-- a def of the text's top, at its name -/
structure DefOk (K : PySem.W.Frag) (mg : Str → Option Value) (x : Str) (st : Stmt) (ps : List Str) : Prop where
  ex : ∃ f fd, Fun K x x st f fd ∧ Binds K fd ps [] ∧ mg x = some (.ref f)
/-- what may be called by a name -/
structure Cal (P : Program) (w : World) (K : PySem.W.Frag) (mg : Str → Option Value) (base : Heap) (k : Nat) (x : Str) (ps : List Str) (sp : Sp) : Prop where
  ex : ∃ f fd, FnOk P w K mg base CX0 k f fd ps sp ∧ Binds K fd ps [] ∧ PySem.W.keepIn K (.ref f) = true ∧ mg x = some (.ref f) ∧ ∃ oc od osl, K.lookup f = some ⟨oc, od, .func fd, osl⟩
section
variable {P : Program} {w : World} {K : PySem.W.Frag} {mg : Str → Option Value} {base : Heap} {k j : Nat} {x : Str} {ps N : List Str} {sp : Sp} {st : Stmt}
theorem Cal.mono (c : Cal P w K mg base j x ps sp) (h : j ≤ k) : Cal P w K mg base k x ps sp :=
  let ⟨f, fd, F, b, kp, m, lk⟩ := c.ex
  ⟨f, fd, F.mono h, b, kp, m, lk⟩
theorem DefOk.cal (d : DefOk K mg x st ps) (S : FnScope N ps (defScope st)) (len : ∀ vs H Q E, sp vs H Q E → vs.length = ps.length)
    (hbody : ∀ (f : Addr) (cdv : Value) (A : Around) (outer : List Env) (s : Shared) (H : Hp) (vs : List V) (Q : VK) (E : XK), Room k (A.deeper (envOfC x (defScope st) s.heap.objs.size f cdv)) → sp vs H Q E →
      ∃ t, PSs (cxOf CX0 P w K mg base N x (defScope st) f cdv A outer s H E).nox (defBody st) t ∧ t { nx := fun _ H' => Q .non H', rt := Q } (start N vs) H) : Cal P w K mg base (k + 1) x ps sp := by
  obtain ⟨f, fd, F, b, m⟩ := d.ex
  obtain ⟨oc, od, _, _, _, _, _, _, osl, _, lk, _⟩ := id F.ex
  exact ⟨f, fd, F.ok S len fun cdv A outer s H vs Q E hr hs => hbody f cdv A outer s H vs Q E hr hs, b, F.kp, m, oc, od, osl, lk⟩
end
theorem pe_callC {X : Cx} {k : Nat} {x : Str} {ps : List Str} {sp : Sp} {p pos : Pos} {e : Expr} {es : List Expr} {t : TA} (c : Cal X.prog X.w X.K X.mg X.base k x ps sp) (hr : Room k X.A) (hg : Gl X x) (ha : PA X (e :: es) t)
    (hdb : (x == ("__debug__" : Str)) = false := by decide) (he : starEach (e :: es) X.env = (false, eval e X.env) :: starEach es X.env := by rfl) (hpl : (backTo pos (starEach es X.env)).any (·.1) = false := by rfl) :
    PE X (.Call (.Name x p) (e :: es) [] pos) (tCall sp [] E0 t) := by
  obtain ⟨f, fd, F, b, kp, m, _⟩ := c.ex
  exact pe_call F hr hg m kp b .nil pass0 ha hdb he hpl

/-! ### the rules with the written part as a letter (within a comprehension the context hangs on the turn) -/
section
variable {X : Cx} {K : PySem.W.Frag} {pos : Pos}
theorem ix_listK (hK : X.K = K) : IxR X (rIxL K) := by subst hK; exact ix_list
theorem ix_tupK (hK : X.K = K) : IxR X (rIxT K) := by subst hK; exact ix_tup
def rLen (K : PySem.W.Frag) : List V → Hp → VK → Prop := fun xs H Q => ∃ p ys, xs = [.ref p] ∧ (SqL K H p ys ∨ SqT K H p ys) ∧ Q (.int ys.length) H
theorem call_lenK (hK : X.K = K) : CallR X (.builtin "len") (rLen K) := by subst hK; exact call_len_seq
def rListOf (K : PySem.W.Frag) : List V → Hp → VK → Prop := fun xs H Q => ∃ p ys, xs = [.ref p] ∧ (SqL K H p ys ∨ SqT K H p ys) ∧ ∀ l, H l = none → Q (.ref l) (upd H l (.lst ys))
theorem call_listK (hK : X.K = K) : CallR X (.type "list") (rListOf K) := by subst hK; exact call_list_of
theorem op_eqNilK (hK : X.K = K) (hu : X.A.units < cLine) : OpR X (compareOp .Eq) (rNil K false) := by subst hK; exact op_eqNil hu
theorem pg_tupK {es : List Expr} {k : Nat} {t : TGs} {n : Nat} (hK : X.K = K) (hc : X.calm = true) (h : PGs X es t)
    (hn : (assignEach es X.env).length = n := by rfl) (hst : (assignEach es X.env).findIdx? (·.1) = none := by rfl) : PG X (.Tuple es k pos) (gTup K n t) := by subst hK; exact pg_tup hc h hn hst
theorem pi_listK {tg l : Expr} {tl : TE} (hK : X.K = K) (hl : PE X l tl) : PI X tg l (iList K tl) := by subst hK; exact pi_list hl
theorem pi_revK {tg a : Expr} {ta : TA} {p : Pos} (hK : X.K = K) (hg : Gl X "reversed") (hm : X.mg "reversed" = none) (ha : PA X [a] ta) (hs : starEach [a] X.env = [(false, eval a X.env)] := by rfl) : PI X tg (.Call (.Name "reversed" p) [a] [] pos) (iRev K ta) := by
  subst hK; exact pi_rev hg hm ha hs
theorem sl_listK (hK : X.K = K) : SlR X (rSlL K) := by subst hK; exact sl_list
def tRevSl (K : PySem.W.Frag) (te ts : TE) : TE := fun σ H Q => te σ H fun x H1 => ts σ H1 fun y H2 => y = .int (-1) ∧ rRevL K x H2 Q
theorem pe_bmK {o e : Expr} {es : List Expr} {to : TE} {t : TA} {name : Str} {apos cpos : Pos} {T id : String} {r : V → List V → Hp → VK → Prop} (hK : X.K = K) (pa : PlainAttrs T) (slot : Slot T name id) (hty : typeOf (.builtin id) = pure (.type "method_descriptor")) (hm : MtR X id r) (ho : PE X o to) (ha : PA X (e :: es) t)
    (hbase : attributeBase o name X.env (eval o X.env) = eval o X.env := by rfl)
    (hfew : ((backTo cpos (starEach (e :: es) X.env)).all (fun x => !x.1) && (backToKw cpos (keywordEach [] X.env)).all (fun x => x.1.isSome)
      && decide ((e :: es).length + ([] : List Keyword).length + (if ([] : List Keyword).isEmpty then 0 else 1) < 30)) = true := by rfl)
    (hline : (apos.endLine == cpos.line) = true := by rfl) (hs : starEach (e :: es) X.env = (false, eval e X.env) :: starEach es X.env := by rfl) (hplain : (backTo cpos (starEach es X.env)).any (·.1) = false := by rfl) :
    PE X (.Call (.Attribute o name apos) (e :: es) [] cpos) (tBM K T r to t) := by
  subst hK; exact pe_bm pa slot hty hm ho ha hbase hfew hline hs hplain
def tTruth (K : PySem.W.Frag) (ta : TE) : TT := fun σ H Q => ta σ H fun x H' => ∃ k, TruV K x H' k ∧ Q k H'
end
/-! ### a cut between two statements -/
def tCut (t u : TS) : TS := fun D σ H => ∃ N : St → Hp → Prop, t { D with nx := N } σ H ∧ ∀ σ' H', N σ' H' → u D σ' H'
theorem pss_cut {X : Cx} {st : Stmt} {rest : List Stmt} {t u : TS} (h1 : PS X st t) (h2 : PSs X rest u) : PSs X (st :: rest) (tCut t u) := by
  intro pins s σ H D I ⟨N, h, hN⟩
  refine wpAny_execs_cons (thn (h1 pins s σ H { D with nx := N } I h) fun f s1 q => ?_)
  cases f with
  | next =>
    obtain ⟨σ', H', I', q⟩ := q
    exact h2 pins s1 σ' H' D I' (hN σ' H' q)
  | ret v => exact q
  | brk => exact q
  | cont => exact q

/-- a test, and what is known behind it -/
def tMid (t : TT) : TT := fun σ H Q => ∃ N : Bool → Hp → Prop, t σ H N ∧ ∀ b H', N b H' → Q b H'
theorem pt_mid {X : Cx} {c : Expr} {t : TT} (h : PT X c t) : PT X c (tMid t) := by
  intro pins s σ H Q I ⟨N, h1, h2⟩
  exact thn (h pins s σ H N I h1) fun b s' ⟨H', I', q⟩ => ⟨H', I', h2 b H' q⟩

/-! ### a comprehension without tests, item by item -/
theorem lc_map {J : It} {own : Nat} {fr : List Nat} {σ : St} {g : TG} {te : TE} {H1 : Hp} {Q : VK} (Pr : Addr → Prop) (es : List D) (hsz : es.length ≤ 1000000)
    (hstop : ∀ H, Same H1 H → J.stop es.length H) (hgo : ∀ i H, i < es.length → Same H1 H → J.go i H)
    (turn : ∀ (D : Addr) (i : Nat) (H : Hp) (x : V) (H' : Hp) (d : L2.D) (R : V → Hp → Prop), es[i]? = some d → Same H1 H → H1 D = none → (∃ ys, H D = some (.lst ys)) → J.yld i H x H' →
      (∀ y H4, Same H H4 → Rep (fun a => a ≠ D ∧ Pr a) H4 d y → R y H4) → g x (stLC own fr σ) H' fun σ2 H2 => Kp (stLC own fr σ) σ2 ∧ te σ2 H2 R)
    (fin : ∀ (D : Addr) (H : Hp), Same H1 H → H1 D = none → ∀ ys, H D = some (.lst ys) → RepL (fun a => a ≠ D ∧ Pr a) H es ys → Q (.ref D) H) :
    tLCk own fr g tYes te σ Q J H1 := by
  intro D hD
  refine ⟨fun i m H => m = es.length - i ∧ i ≤ es.length ∧ Same H1 H ∧ ∃ ys, H D = some (.lst ys) ∧ RepL (fun a => a ≠ D ∧ Pr a) H (es.take i) ys, ⟨_, rfl, Nat.zero_le _, Same.new hD _, [], upd_same, ?_⟩, ?_⟩
  · simpa using RepL.nilI
  rintro i m H ⟨rfl, hi, hS, ys, hys, hr⟩
  by_cases hlt : i < es.length
  · refine .inr ⟨hgo i H hlt hS, fun x H' hy => ?_⟩
    obtain ⟨d, hd⟩ : ∃ d, es[i]? = some d := ⟨_, List.getElem?_eq_getElem hlt⟩
    refine turn D i H x H' d _ hd hS hD ⟨ys, hys⟩ hy fun y H4 h4 r4 => ?_
    have e4 : H4 D = some (.lst ys) := h4 _ _ hys
    have hl : ys.length = i := by rw [hr.length, List.length_take]; omega
    refine ⟨ys, e4, smaller (by omega), es.length - (i + 1), by omega, rfl, hlt, (hS.trans h4).upd hD, ys ++ [y], upd_same, ?_⟩
    have hr4 : RepL (fun a => a ≠ D ∧ Pr a) H4 (es.take i ++ [d]) (ys ++ [y]) := (hr.mono h4).snoc r4
    have et : es.take (i + 1) = es.take i ++ [d] := by rw [List.take_add_one, hd]; rfl
    rw [et]
    exact hr4.write (fun z => z.1 rfl) e4
  · have e : i = es.length := by omega
    subst e
    rw [List.take_length] at hr
    exact .inl ⟨hstop H hS, fin D H hS hD ys hys hr⟩
end L2
namespace L2
open PySem PySem.Spec PyProof.Rows
section
variable {X : Cx} {a b c d : Expr} {ta tb tc td : TE} {pos : Pos}
/-- a op1 b op2 c op3 d -/
def tChain3 (r r' r'' : R2) (ta tb tc td : TE) : TE := fun σ H Q => ta σ H fun x H1 => tb σ H1 fun y H2 => r x y H2 fun z H3 => ∃ k, z = .bl k ∧
  (if k = true then tc σ H3 fun u H4 => r' y u H4 fun z' H5 => ∃ k', z' = .bl k' ∧ (if k' = true then td σ H5 fun v H6 => r'' u v H6 Q else Q (.bl false) H5) else Q (.bl false) H3)
end
end L2
namespace L2
open PySem PySem.Spec PyProof.Rows

/-! ### errors of the text's own: raised, passed on, caught -/
abbrev bmV : List Value := [.type "ValueError", .type "Exception", .type "BaseException", .type "object"]
/-- an own error class under ValueError, in whatever many steps -/
abbrev IsErr (K : PySem.W.Frag) (C : Addr) : Prop := PySem.W.excIn K C bmV "ValueError.__new__" = true
theorem err_obj {K : PySem.W.Frag} {h : Heap} {C : Addr} (X : K.In h) (q : IsErr K C) : ∃ bm N nm qn bs hdct sn sub ab col dd k0 k1 k2 k3 k5 mN,
    h.get? C = some (excClassObj nm qn C N bs bm hdct sn sub ab col dd k0 k1 k2 k3 k5 "ValueError.__new__") ∧ h.Ns N mN ∧ mN "__init__" = none ∧ OwnTail h bmV bm := by
  unfold IsErr PySem.W.excIn at q
  split at q
  · rename_i dd cd sl ho
    split at q
    · rename_i C' bm k0 k1 k2 k3 n k5 hm hs
      simp only [Bool.and_eq_true, beq_iff_eq,
        Bool.not_eq_true'] at q
      obtain ⟨⟨⟨⟨⟨e1, e2⟩, e3⟩, e4⟩, e5⟩, e6⟩ := q
      subst e1 e2
      obtain ⟨nm, bs, mro, ns, qn, hd, sn, sub, ab, col, del⟩ := cd
      dsimp only at hm e3 e5 e6
      subst hm e3
      have e7 : sl = #[k0, k1, k2, k3, some (.builtin "ValueError.__new__"), k5] := by
        cases sl
        exact congrArg Array.mk hs
      subst e7
      exact ⟨bm, ns, nm, qn, bs, hd, sn, sub, ab, col, dd, k0, k1, k2, k3, k5, _, X _ _ ho,
        .of_isNs (PySem.W.isNs_of_in X e5), PySem.W.nsMap_none_of_in X e5 e6, PySem.W.tail_of_in X e4⟩
    · cases q
  · cases q

theorem ObjOk.there {P : Program} {w : World} {H : Hp} {h : Heap} {a : Addr} {o : HO} (x : ObjOk P w H h a o) : ∃ u, h.get? a = some u := by
  cases o with
  | lst xs => obtain ⟨_, _, _, _, e⟩ := x; exact ⟨_, e⟩
  | tup xs => obtain ⟨_, _, _, ob, e, _⟩ := x; exact ⟨_, e⟩
  | dK kvs => obtain ⟨_, _, _, _, o, _, _, e, _⟩ := x; exact ⟨_, e⟩
  | dT kvs => obtain ⟨_, _, _, _, o, _, _, e, _⟩ := x; exact ⟨_, e⟩
  | set S n => obtain ⟨o, _, _, _, e, _⟩ := x; exact ⟨_, e⟩
  | ins C dx fs => obtain ⟨_, _, _, e, _⟩ := x; exact ⟨_, e⟩
  | own y => exact x
  | xd fs => obtain ⟨_, ⟨_, _, _, e, _⟩, _⟩ := x; exact ⟨_, e⟩
  | rng lo hi => obtain ⟨_, _, _, e⟩ := x; exact ⟨_, e⟩
  | frz ob u => obtain ⟨e, _⟩ := x; exact ⟨_, e⟩
  | tbl ps => exact ⟨_, (show h.get? a = some _ from x)⟩
  | met f y => exact ⟨_, (show h.get? a = some _ from x)⟩
  | ext φ => obtain ⟨_, e, _⟩ := x; exact e
/-- how an own error lies behind a call: B is the heap where it was raised, without the frames; all of B stands as it stood -/
def CX1 (P : Program) (w : World) : CXT := fun outer H s E e s' => ∃ (ea C : Addr) (a0 : Value) (B : Heap) (H' : Hp), e = .ref ea ∧ s'.os = s.os ∧ AllBare s'.gens ∧ Un (frs outer) [] H H' s.heap s'.heap ∧ HOk P w H' B ∧
  (∀ b o, s.heap.get? b = some o → H b = none → b ∉ frs outer → B.get? b = some o) ∧ (∀ b o, s.heap.get? b = some o → b ∉ frs outer → ∃ o', B.get? b = some o') ∧
  Heap.FlyingW B outer ea (.ref C) a0 s'.heap ∧ H' ea = none ∧ E (.ref C) none H'

theorem frs_mem {l : List Env} {env : Env} {a : Addr} (he : env ∈ l) (ha : env.frame = some a) : a ∈ frs l := List.mem_filterMap.mpr ⟨env, he, ha⟩
/-- what an error that flies on leaves as it was -/
theorem Un.fly {l : List Env} {H H' : Hp} {h h1 h2 B : Heap} (u : Un (frs l) [] H H' h h1) (hB : ∀ b o, h.get? b = some o → H b = none → b ∉ frs l → B.get? b = some o)
    (tB : ∀ b o, h.get? b = some o → b ∉ frs l → ∃ o', B.get? b = some o') (ff : h1.FunFrames B l) (st : B.StaysIn h2) (up : h1.UpToSlots h2) : Un (frs l) [] H H' h h2 where
  keep := fun b o e n hb _ => st b o (hB b o e n hb)
  slot := fun b o e n hb _ => by
    obtain ⟨sl, e1⟩ := u.slot b o e n hb (by simp)
    obtain ⟨_, o', e2, nf⟩ := ff.mem hb
    rw [e1] at e2
    cases e2
    obtain ⟨sl', e3⟩ := up b _ e1 nf
    exact ⟨sl', e3⟩
  free := fun b o e n _ => u.free b o e n (by simp)
  there := fun b o e _ => by
    by_cases hb : b ∈ frs l
    · obtain ⟨_, o', e2, nf⟩ := ff.mem hb
      obtain ⟨sl', e3⟩ := up b _ e2 nf
      exact ⟨_, e3⟩
    · obtain ⟨o', e1⟩ := tB b o e hb
      exact ⟨o', st b o' e1⟩
  tups := u.tups
  frzs := u.frzs
  tbls := u.tbls
/-- behind a frame that is younger than the heap ahead -/
theorem Un.past {fs fs' : List Addr} {L : Addr} {H H1 H2 : Hp} {h h1 h2 : Heap} (a : Un fs [] H H1 h h1) (b : Un fs' [] H1 H2 h1 h2) (hs : ∀ c ∈ fs', c = L ∨ c ∈ fs) (hs2 : ∀ c ∈ fs, c ∈ fs') (hL : ∀ o, h.get? L ≠ some o) : Un fs [] H H2 h h2 where
  keep := fun c o e n hc _ => b.keep c o (a.keep c o e n hc (by simp)) (a.free c o e n (by simp)) (fun z => (hs c z).elim (fun z' => hL o (z' ▸ e)) hc) (by simp)
  slot := fun c o e n hc _ => by
    obtain ⟨sl, e1⟩ := a.slot c o e n hc (by simp)
    obtain ⟨sl', e2⟩ := b.slot c _ e1 (a.free c o e n (by simp)) (hs2 c hc) (by simp)
    exact ⟨sl', e2⟩
  free := fun c o e n _ => by
    obtain ⟨o', e1⟩ := a.there c o e (by simp)
    exact b.free c o' e1 (a.free c o e n (by simp)) (by simp)
  there := fun c o e _ => by
    obtain ⟨o', e1⟩ := a.there c o e (by simp)
    exact b.there c o' e1 (by simp)
  tups := fun c xs q => b.tups c xs (a.tups c xs q)
  frzs := fun c o u q => b.frzs c o u (a.frzs c o u q)
  tbls := fun c ps q => by
    obtain ⟨m1, e1⟩ := a.tbls c ps q
    obtain ⟨m2, e2⟩ := b.tbls c _ e1
    exact ⟨m1 ++ m2, by rw [e2, Array.append_assoc]⟩

/-- an error that is made here reaches what this body wants of errors -/
def Raises (X : Cx) (E : XK) : Prop := ∀ (pins : List (Addr × Obj)) (σ : St) (H : Hp) (s : Shared) (h' : Heap) (e C : Addr) (vs : List Value), Inv X pins σ H s → Heap.MadeExcOf s.heap h' e (.ref C) vs → E (.ref C) none H → X.xe (.ref e) { s with heap := h' }

def tRaise (C : Addr) (E : XK) (t : TA) : TS := fun _ σ H => t σ H fun vs H1 => vs.length ≤ sizeLine ∧ E (.ref C) none H1
theorem ps_raise {X : Cx} {C : Addr} {x : Str} {np cpos pos : Pos} {e₀ : Expr} {rest : List Expr} {t : TA} {E : XK} (hc : X.calm = true) (hg : Gl X x) (hm : X.mg x = some (.ref C)) (q : IsErr X.K C) (hr : Raises X E) (ha : PA X (e₀ :: rest) t)
    (hdb : (x == ("__debug__" : Str)) = false := by decide) (he : starEach (e₀ :: rest) X.env = (false, eval e₀ X.env) :: starEach rest X.env := by rfl) (hpl : (backTo cpos (starEach rest X.env)).any (·.1) = false := by rfl) :
    PS X (.Raise (some (.Call (.Name x np) (e₀ :: rest) [] cpos)) none pos) (tRaise C E t) := by
  intro pins s σ H D I h
  obtain ⟨bm, N, nm, qn, bs, hdct, sn, sub, ab, col, dd, k0, k1, k2, k3, k5, mN, hC, hN, hni, T⟩ := err_obj I.mod.kin q
  refine wpAny_Raise_call_subT (bm := bm) (mN := mN) (nm := nm) (q := qn) (N := N) (bs := bs) (hdct := hdct) (sn := sn) (sub := sub) (ab := ab) (col := col) (dd := dd) (k0 := k0) (k1 := k1) (k2 := k2) (k3 := k3) (k5 := k5) (C := C) PySem.F.excBase_ValueError (T.hasType (by rfl)) (I.ok.hd hc)
    (by rw [he]; show (false || (backTo cpos (starEach rest X.env)).any (·.1)) = false; rw [hpl]; rfl) hni (ld_glob I hg hm ⟨rfl, ?_⟩ hdb)
  have hA := ha cpos pins s σ H _ I h
  rw [he] at hA ⊢
  refine Calls.evalArgs_plain (thn hA fun us s2 ⟨vs, H2, I2, r2, z, q2⟩ => ?_)
  exact ⟨rfl, by rw [← r2.length]; exact z, I2.bk _ _ hC, hN.keeps I2.bk, T.keeps I2.bk, fun h' e hx => hr pins σ H2 s2 h' e C us I2 hx q2⟩

section
variable {P : Program} {w : World} {K : PySem.W.Frag} {mg : Str → Option Value} {base : Heap} {N : List Str} {qual : Str} {scope : Scope} {f : Addr} {cdv : Value} {A : Around} {outer : List Env} {s : Shared} {H : Hp} {E : XK}
theorem raises_of : Raises (cxOf (CX1 P w) P w K mg base N qual scope f cdv A outer s H E) E := by
  intro pins σ H1 s1 h' e C vs I hx hE
  have hin : ∀ env ∈ envOfC qual scope s.heap.objs.size f cdv :: outer, ∀ a, env.frame = some a → a ∈ frs (envOfC qual scope s.heap.objs.size f cdv :: outer) := fun env he a ha => frs_mem he ha
  have stk : s1.heap.FunFrames base (envOfC qual scope s.heap.objs.size f cdv :: outer) := I.stack
  have notf : ∀ b o, s.heap.get? b = some o → b ∉ frs outer → b ∉ frs (envOfC qual scope s.heap.objs.size f cdv :: outer) := fun b o e hb z => by
    rcases List.mem_cons.mp (I.stkSub b z) with q | q
    · exact absurd (Heap.lt_size e) (by rw [q]; exact Nat.lt_irrefl _)
    · exact hb q
  refine wpAny_leaves_madeW (base := PySem.W.hideAll s1.heap (frs (envOfC qual scope s.heap.objs.size f cdv :: outer))) (h := s1.heap) I.ok.frames rfl (fun b o q => PySem.W.of_hideAll _ q) (PySem.W.funFrames_hide stk hin) hx fun h2 t hfl _ _ hup => ?_
  have inB : ∀ b o, s.heap.get? b = some o → H b = none → b ∉ frs outer → (PySem.W.hideAll s1.heap (frs (envOfC qual scope s.heap.objs.size f cdv :: outer))).get? b = some o := fun b o e n hb =>
    PySem.W.hideAll_get _ (I.base.keep b o e n hb (fun z => absurd (show b ∈ ([] : List Addr) from z) (by simp))) (notf b o e hb)
  have thB : ∀ b o, s.heap.get? b = some o → b ∉ frs outer → ∃ o', (PySem.W.hideAll s1.heap (frs (envOfC qual scope s.heap.objs.size f cdv :: outer))).get? b = some o' := fun b o e hb => by
    obtain ⟨o', e1⟩ := I.base.there b o e (fun z => absurd (show b ∈ ([] : List Addr) from z) (by simp))
    exact ⟨o', PySem.W.hideAll_get _ e1 (notf b o e hb)⟩
  have hokB : HOk P w H1 (PySem.W.hideAll s1.heap (frs (envOfC qual scope s.heap.objs.size f cdv :: outer))) := fun a o ea => by
    refine (I.hok a o ea).stay (fun b u hb e => PySem.W.hideAll_get _ e fun z => ?_) (fun _ q => q) fun _ _ q => q
    have n := I.stkFree b z
    rcases hb with rfl | hb
    · rw [ea] at n; cases n
    · rw [hb] at n; cases n
  have un1 : Un (frs outer) [] H H1 s.heap s1.heap := I.base
  have keeps : s1.heap.UpToSlots h2 := (Heap.UpToSlots.of_keeps hx.keeps).trans hup
  refine ⟨e, C, .ref t, _, H1, rfl, I.os, I.bare, un1.fly inB thB (PySem.W.funFrames_hide stk hin).2.2 hfl.1 keeps, hokB, inB, thB, hfl, ?_, hE⟩
  cases q : H1 e with
  | none => rfl
  | some o =>
    obtain ⟨u, eu⟩ := (I.hok e o q).there
    have z := hx.new
    rw [eu] at z
    cases z
theorem passes_of : Passes (CX1 P w) (cxOf (CX1 P w) P w K mg base N qual scope f cdv A outer s H E) E := by
  intro pins σ H1 s1 e s' I hx
  obtain ⟨ea, C, a0, B, H2, rfl, os', bare', un', hokB, inB, thB, hfl, hea, hE⟩ := hx
  have notf : ∀ b o, s.heap.get? b = some o → b ∉ frs outer → b ∉ frs (envOfC qual scope s.heap.objs.size f cdv :: outer) := fun b o e hb z => by
    rcases List.mem_cons.mp (I.stkSub b z) with q | q
    · exact absurd (Heap.lt_size e) (by rw [q]; exact Nat.lt_irrefl _)
    · exact hb q
  have un1 : Un (frs outer) [] H H1 s.heap s1.heap := I.base
  refine wpAny_leaves_onW (env := envOfC qual scope s.heap.objs.size f cdv) (outer := outer) I.ok.frames rfl hfl fun h2 hfl2 hup => ?_
  have un2 := un'.fly inB thB hfl.2.2.1 hfl2.1 hup
  have inB2 : ∀ b o, s.heap.get? b = some o → H b = none → b ∉ frs outer → B.get? b = some o := fun b o e n hb => inB b o (un1.keep b o e n hb (by simp)) (un1.free b o e n (by simp)) (notf b o e hb)
  have thB2 : ∀ b o, s.heap.get? b = some o → b ∉ frs outer → ∃ o', B.get? b = some o' := fun b o e hb => by
    obtain ⟨o', e1⟩ := un1.there b o e (by simp)
    exact thB b o' e1 (notf b o e hb)
  refine ⟨ea, C, a0, B, H2, rfl, os'.trans I.os, bare', un1.past (L := s.heap.objs.size) un2 (fun c hc => List.mem_cons.mp (I.stkSub c hc)) (fun c hc => ?_) (fun o z => absurd (Heap.lt_size z) (Nat.lt_irrefl _)), hokB, inB2, thB2, hfl2, hea, hE⟩
  obtain ⟨env, he, ha⟩ := List.mem_filterMap.mp hc
  exact frs_mem (List.mem_cons_of_mem _ he) ha
end

/-! ### try .. except R as n -/
/-- within the try: an error that was passed on here -/
def cxTry (X : Cx) (pl : List (Addr × Obj)) (E : XK) : Cx := { X with pn := X.pn ++ pl, xe := fun e s' => ∃ σ' H0 s0, Inv X pl σ' H0 s0 ∧ CX1 X.prog X.w X.stack H0 s0 E e s' }
/-- within the handler -/
def cxHand (X : Cx) (ea : Addr) : Cx := { X with A := X.A.mark (some (.ref ea)), calm := false, xe := fun _ _ => False }
/-- the error object's class -/
def IsA (ea C : Addr) : Heap → Prop := fun h => ∃ o, h.get? ea = some o ∧ o.cls = .ref C
section
variable {X : Cx} {pl pins : List (Addr × Obj)} {σ : St} {H : Hp} {s : Shared} {E : XK} {ea C : Addr}
theorem Inv.toTry (I : Inv X pl σ H s) : Inv (cxTry X pl E) [] σ H s :=
  ⟨⟨I.ok.mod, I.ok.kind, I.ok.glob, I.ok.blt, I.ok.above, I.ok.inj, I.ok.has, I.ok.cab, I.ok.hd, I.ok.frames, I.ok.stk, I.ok.exf, I.ok.bs, I.ok.bsz, I.ok.noex, I.ok.exfs, I.ok.funs, I.ok.frf⟩, I.os, I.bare, I.base, I.loc, I.cell, I.free, I.freeC,
    fun p hp => I.pin p ((List.mem_append.mp hp).elim id fun z => absurd z (by simp)), I.hok, I.len⟩
theorem Inv.ofTry (I : Inv (cxTry X pl E) pins σ H s) : Inv X pl σ H s :=
  ⟨⟨I.ok.mod, I.ok.kind, I.ok.glob, I.ok.blt, I.ok.above, I.ok.inj, I.ok.has, I.ok.cab, I.ok.hd, I.ok.frames, I.ok.stk, I.ok.exf, I.ok.bs, I.ok.bsz, I.ok.noex, I.ok.exfs, I.ok.funs, I.ok.frf⟩, I.os, I.bare, I.base, I.loc, I.cell, I.free, I.freeC,
    fun p hp => I.pin p (List.mem_append_left _ hp), I.hok, I.len⟩
theorem pass_try : Passes (CX1 X.prog X.w) (cxTry X pl E) E := fun _ σ H s _ _ I hx => ⟨σ, H, s, I.ofTry, hx⟩
theorem Inv.toHand (I : Inv X pins σ H s) : Inv (cxHand X ea) pins σ H s :=
  ⟨⟨I.ok.mod, I.ok.kind, I.ok.glob, I.ok.blt, I.ok.above, I.ok.inj, I.ok.has, I.ok.cab, fun z => absurd (show false = true from z) (by decide), I.ok.frames, I.ok.stk, I.ok.exf, I.ok.bs, I.ok.bsz, I.ok.noex, I.ok.exfs, I.ok.funs, I.ok.frf⟩, I.os, I.bare, I.base, I.loc, I.cell, I.free, I.freeC,
    I.pin, I.hok, I.len⟩
theorem Inv.ofHand (ok : X.Ok) (I : Inv (cxHand X ea) pins σ H s) : Inv X pins σ H s :=
  ⟨ok, I.os, I.bare, I.base, I.loc, I.cell, I.free, I.freeC, I.pin, I.hok, I.len⟩
theorem Inv.track (I : Inv X pins σ H s) (hn : H ea = none) (hx : IsA ea C s.heap) (h0 : ∀ o, X.s₀.heap.get? ea ≠ some o) (hL : X.env.locals ≠ ea) (hc : ∀ x c, X.env.cells.lookup x = some c → c ≠ ea) (hp : ∀ p ∈ X.pn ++ pins, p.1 ≠ ea) :
    Inv X pins σ (upd H ea (.ext (IsA ea C))) s := by
  have ne : ∀ b u, H b = some u → b ≠ ea := fun b u e z => by rw [z, hn] at e; cases e
  refine ⟨I.ok, I.os, I.bare, ⟨I.base.keep, I.base.slot, fun b o e n hb => ?_, I.base.there, fun b xs e => ?_, fun b o u e => ?_, fun b ps e => ?_⟩, I.loc, I.cell, ?_, fun x c e => ?_, fun p hq => ?_, fun b u e => ?_, I.len⟩
  · rw [upd_ne (show b ≠ ea from fun z => h0 o (by rw [← z]; exact e))]; exact I.base.free b o e n hb
  · have := I.base.tups b xs e
    rw [upd_ne (ne _ _ this)]; exact this
  · have := I.base.frzs b o u e
    rw [upd_ne (ne _ _ this)]; exact this
  · obtain ⟨m1, this⟩ := I.base.tbls b ps e
    exact ⟨m1, by rw [upd_ne (ne _ _ this)]; exact this⟩
  · rw [upd_ne hL]; exact I.free
  · rw [upd_ne (hc x c e)]; exact I.freeC x c e
  · obtain ⟨e1, e2, e3⟩ := I.pin p hq
    exact ⟨e1, by rw [upd_ne (hp p hq)]; exact e2, e3⟩
  · by_cases hb : b = ea
    · subst hb
      rw [upd_same] at e
      cases e
      obtain ⟨o, ho, hcl⟩ := hx
      exact ⟨⟨o, ho, hcl⟩, ⟨o, ho⟩, fun h1 h2 ⟨o1, e1, c1⟩ k => ⟨o1, k _ e1, c1⟩⟩
    · rw [upd_ne hb] at e
      refine (I.hok b u e).stay (fun _ _ _ q => q) (fun c q => ?_) fun c xs q => ?_
      · rw [upd_ne (ne _ _ q)]; exact q
      · rw [upd_ne (ne _ _ q)]; exact q
/-- behind the handler's suite its name goes -/
theorem goes_ok {M : Model} {A : Around} {W : Value → Shared → Prop} {i : Nat} {x : Str} {pos : Pos} {Q : Unit → Shared → Prop} (I : Inv X pins σ H s) (hN : X.N.Nodup) (hi : X.N[i]? = some x) (hk : X.env.scope.names.lookup x = some .local)
    (h : ∀ s', Inv X pins (σ.set i none) H s' → Q () s') : wpAny M A (do bindName X.env x .none; unbindBehindTheSuite X.env x pos) Q W s := by
  obtain ⟨m, hn, hl⟩ := id I.loc
  have hcls : (X.env.scope.kind == .class || (X.env.scope.kind == .module && X.env.locals != X.env.globals)) = false := by rw [I.ok.kind]; rfl
  have hiσ : i < σ.length := by rw [I.len]; exact (List.getElem?_eq_some_iff.mp hi).1
  have cne := I.cne
  refine wpAny_nameGoes_keeps hk hn hcls fun h' v0 hn' hs => ?_
  have hokH : HOk X.prog X.w H h' := fun b ob e => by
    refine (I.hok b ob e).stay (fun c w' hc q => (hs.2 c ?_).trans q) (fun _ q => q) fun _ _ q => q
    rintro rfl
    rcases hc with rfl | hc
    · rw [I.free] at e; cases e
    · rw [I.free] at hc; cases hc
  refine h _ ⟨I.ok, I.os, I.bare, ⟨fun b o e n hb hx => ?_, fun b o e n hb hx => ?_, I.base.free, fun b o e hx => ?_, I.base.tups, I.base.frzs, I.base.tbls⟩, ⟨_, hn', fun j y v' e1 e2 e3 => ?_⟩, fun y c e => ?_, I.free, I.freeC, fun p hp => ?_, hokH, by simpa using I.len⟩
  · exact (hs.2 b (Nat.ne_of_lt (Nat.lt_of_lt_of_le (Heap.lt_size e) I.ok.above))).trans (I.base.keep b o e n hb hx)
  · obtain ⟨sl, e1⟩ := I.base.slot b o e n hb hx
    exact ⟨sl, (hs.2 b (Nat.ne_of_lt (Nat.lt_of_lt_of_le (Heap.lt_size e) I.ok.above))).trans e1⟩
  · obtain ⟨o', e1⟩ := I.base.there b o e hx
    exact ⟨o', (hs.2 b (Nat.ne_of_lt (Nat.lt_of_lt_of_le (Heap.lt_size e) I.ok.above))).trans e1⟩
  · by_cases hj : j = i
    · subst hj
      rw [List.getElem?_set_self hiσ] at e2
      cases e2
    · rw [List.getElem?_set_ne (Ne.symm hj)] at e2
      obtain ⟨u', r', q⟩ := hl j y v' e1 e2 e3
      refine ⟨u', r', ?_⟩
      rcases q with ⟨k, e⟩ | ⟨k, c, e, z⟩
      · refine .inl ⟨k, ?_⟩
        have : y ≠ x := fun e => hj (nodup_ix hN e1 (e ▸ hi))
        simp [this, e]
      · exact .inr ⟨k, c, e, z.sameBut hs (cne y c e)⟩
  · obtain ⟨w', z⟩ := I.cell y c e
    exact ⟨w', z.sameBut hs (cne y c e)⟩
  · obtain ⟨e, n, ne, nf, d⟩ := I.pin p hp
    exact ⟨(hs.2 p.1 ne).trans e, n, ne, nf, d⟩
end

def tTry (K : PySem.W.Frag) (i : Nat) (E : XK) (R : Addr) (tb th : TS) : TS := fun D σ H => tb D σ H ∧ ∀ (C : Addr) (H' : Hp) (ea : Addr), E (.ref C) none H' → H' ea = none → PySem.W.exmOne K (.ref C) (.ref R) = some true ∧
  th { nx := fun σ2 H2 => D.nx (σ2.set i none) H2, rt := D.rt, bk := fun σ2 H2 => D.bk (σ2.set i none) H2, ct := fun σ2 H2 => D.ct (σ2.set i none) H2 } ((List.replicate σ.length none).set i (some (.ref ea))) (upd H' ea (.ext (IsA ea C)))
theorem ps_try {X : Cx} {E : XK} {R : Addr} {rx n : Str} {i : Nat} {np hpos pos : Pos} {body : List Stmt} {b₀ : Stmt} {hb : List Stmt} {tb th : TS} (hxe : X.ex = []) (hst : X.stack = X.env :: X.outer) (hf : X.env.frame = some X.env.locals) (hN : X.N.Nodup) (hi : X.N[i]? = some n)
    (hx : X.env.scope.names.lookup n = some .local) (hg : Gl X rx) (hm : X.mg rx = some (.ref R)) (hbody : ∀ pl, PSs (cxTry X pl E) body tb) (hh : ∀ ea, PSs (cxHand X ea) (b₀ :: hb) th) (hdb : (rx == ("__debug__" : Str)) = false := by decide) :
    PS X (.Try body [.ExceptHandler (some (.Name rx np)) (some n) (b₀ :: hb) hpos] [] [] pos) (tTry X.K i E R tb th) := by
  intro pins s σ H D I ⟨h1, h2⟩
  refine wpAny_Try_except (wpAny_mono (hbody pins [] s σ H D I.toTry h1) (fun f s1 hs => ?_) fun e s1 hx1 => ?_)
  · cases f with
    | next => obtain ⟨σ', H', I', q⟩ := hs; exact wpAny_execs_nil ⟨σ', H', I'.ofTry, q⟩
    | brk => obtain ⟨σ', H', I', q⟩ := hs; exact ⟨σ', H', I'.ofTry, q⟩
    | cont => obtain ⟨σ', H', I', q⟩ := hs; exact ⟨σ', H', I'.ofTry, q⟩
    | ret u => obtain ⟨v, σ', H', I', r, q⟩ := hs; exact ⟨v, σ', H', I'.ofTry, r, q⟩
  obtain ⟨σ0, H0, s0, I0, ea, C, a0, B, H', rfl, os', bare', un', hokB, inB, thB, hfl, hea, hE⟩ := hx1
  have hfr : X.A.frames = some (X.env :: X.outer) := I0.ok.frames.trans (by rw [hst])
  have hfl' : Heap.FlyingW B (X.env :: X.outer) ea (.ref C) a0 s1.heap := hst ▸ hfl
  refine wpAny_looks_onW hfr hf hfl' fun g2 hh2 up2 => ?_
  refine wpAny_landsW hh2 fun g3 hfl3 up3 => ?_
  have J : ∀ g4, Heap.FlyingW B (X.env :: X.outer) ea (.ref C) a0 g4 → s1.heap.UpToSlots g4 → Inv X pins σ0 H' { s1 with heap := g4 } := fun g4 f4 u4 =>
    I0.call' (s' := { s1 with heap := g4 }) os' (un'.fly inB thB hfl.2.2.1 f4.1 u4) (hokB.kept f4.1) bare' (fun b z => absurd z (by simp))
  have I3 := J g3 hfl3 (up2.trans up3)
  obtain ⟨hex, hth⟩ := h2 C H' ea hE hea
  obtain ⟨ob, hob, hcl⟩ := hfl3.there
  have LT : ∀ M : Model, PySem.W.Looks M g3 (typeOf (.ref ea)) (.ref C) := fun M => by
    obtain ⟨oc, od, odt, osl⟩ := ob
    cases (show oc = Value.ref C from hcl)
    exact (PySem.W.Looks.ld hob).andThen .now
  refine wpAny_handleBy_cons (codeAny_handlers_test ?_) (by intro q; cases q)
  refine ld_glob (X := cxHand X ea) I3.toHand hg hm ?_ hdb
  refine (PySem.W.exm_one I3.kIn (LT _) hex).here ?_
  simp only [if_true]
  refine codeAny_handlers_suite_as (lands_againW hfl3 fun g4 hfl4 up4 => ?_)
  have I4 := J g4 hfl4 ((up2.trans up3).trans up4)
  obtain ⟨vs0, T0, hd0, ob4, hob4, hcl4⟩ : ∃ vs0 T0, ∃ (_ : T0 = ea), ∃ ob4, g4.get? ea = some ob4 ∧ ob4.cls = .ref C ∧ ob4.data = .fields vs0 := by
    obtain ⟨_, _, _, oe, vs, T, oT, ts, he, hc, hd, _⟩ := hfl4
    exact ⟨vs, ea, rfl, oe, he, hc.1, hd⟩
  have nostk : ea ∉ frs X.stack := fun z => by
    obtain ⟨_, o', e2, nf⟩ := I4.stack.mem z
    rw [show ({ s1 with heap := g4 } : Shared).heap = g4 from rfl, hob4] at e2
    cases e2
    exact nf _ hcl4.2
  have ns0 : ∀ o, s0.heap.get? ea ≠ some o := fun o z => by
    obtain ⟨o', e⟩ := thB ea o z nostk
    rw [hfl.2.1] at e
    cases e
  have nL : X.env.locals ≠ ea := fun z => by
    obtain ⟨m, ⟨o, _, _, e, _⟩, _⟩ := I0.loc
    exact ns0 o (by rw [← z]; exact e)
  have nC : ∀ x c, X.env.cells.lookup x = some c → c ≠ ea := fun x c e z => by
    obtain ⟨v, o, e', _⟩ := I0.cell x c e
    exact ns0 o (by rw [← z]; exact e')
  have nP : ∀ p ∈ X.pn ++ pins, p.1 ≠ ea := fun p hp z => ns0 p.2 (by rw [← z]; exact (I0.pin p hp).1)
  have n0 : ∀ o, X.s₀.heap.get? ea ≠ some o := fun o z => by
    obtain ⟨o', e⟩ := I0.base.there ea o z (by rw [hxe]; simp)
    exact ns0 o' e
  have I5 := I4.track (ea := ea) (C := C) hea ⟨ob4, hob4, hcl4.1⟩ n0 nL nC nP
  refine store_ok (X := cxHand X ea) (i := i) (v := .ref ea) (I5.weak (σ' := List.replicate σ.length none) (by rw [List.length_replicate, I.len, I0.len]) fun j v q => ?_).toHand hN hi (.inl hx) rfl (fun s5 I6 => ?_) (.inr hx)
  · rw [List.getElem?_replicate] at q
    split at q <;> cases q
  refine wpAny_mono (hh ea pins s5 _ _ _ I6 hth) (fun f s6 h6 => ?_) fun _ _ z => False.elim z
  cases f with
  | next => obtain ⟨σ', H', I', q⟩ := h6; exact goes_ok (I'.ofHand I0.ok) hN hi hx fun s' I'' => ⟨_, _, I'', q⟩
  | brk => obtain ⟨σ', H', I', q⟩ := h6; exact goes_ok (I'.ofHand I0.ok) hN hi hx fun s' I'' => ⟨_, _, I'', q⟩
  | cont => obtain ⟨σ', H', I', q⟩ := h6; exact goes_ok (I'.ofHand I0.ok) hN hi hx fun s' I'' => ⟨_, _, I'', q⟩
  | ret u => obtain ⟨v, σ', H', I', r, q⟩ := h6; exact goes_ok (I'.ofHand I0.ok) hN hi hx fun s' I'' => ⟨v, _, _, I'', r, q⟩

/-- isinstance(e, C) of an error whose class is C or stands under it -/
def rIsE (K : PySem.W.Frag) : List V → Hp → VK → Prop := fun xs H Q => ∃ ea C D, xs = [.ref ea, .ref D] ∧ H ea = some (.ext (IsA ea C)) ∧ PySem.W.isIn K (.ref C) D = true ∧ Q (.bl true) H
/-- an own error at its name -/
structure Err (K : PySem.W.Frag) (mg : Str → Option Value) (x : Str) (C : Addr) : Prop where
  at_ : mg x = some (.ref C)
  is : IsErr K C
/-! ### defs that may raise -/
structure CalX (P : Program) (w : World) (K : PySem.W.Frag) (mg : Str → Option Value) (base : Heap) (k : Nat) (x : Str) (ps : List Str) (sp : Sp) : Prop where
  ex : ∃ f fd, FnOk P w K mg base (CX1 P w) k f fd ps sp ∧ Binds K fd ps [] ∧ PySem.W.keepIn K (.ref f) = true ∧ mg x = some (.ref f)
section
variable {P : Program} {w : World} {K : PySem.W.Frag} {mg : Str → Option Value} {base : Heap} {k j : Nat} {x : Str} {ps N : List Str} {sp : Sp} {st : Stmt}
theorem CalX.mono (c : CalX P w K mg base j x ps sp) (h : j ≤ k) : CalX P w K mg base k x ps sp :=
  let ⟨f, fd, F, b, kp, m⟩ := c.ex
  ⟨f, fd, F.mono h, b, kp, m⟩
theorem DefOk.calX (d : DefOk K mg x st ps) (S : FnScope N ps (defScope st)) (len : ∀ vs H Q E, sp vs H Q E → vs.length = ps.length)
    (hbody : ∀ (f : Addr) (cdv : Value) (A : Around) (outer : List Env) (s : Shared) (H : Hp) (vs : List V) (Q : VK) (E : XK), Room k (A.deeper (envOfC x (defScope st) s.heap.objs.size f cdv)) → sp vs H Q E →
      ∃ t, PSs (cxOf (CX1 P w) P w K mg base N x (defScope st) f cdv A outer s H E) (defBody st) t ∧ t { nx := fun _ H' => Q .non H', rt := Q } (start N vs) H) : CalX P w K mg base (k + 1) x ps sp := by
  obtain ⟨f, fd, F, b, m⟩ := d.ex
  obtain ⟨oc, od, kV, doc, pm, an, cdv, ct, osl, rfl, lk, hcd⟩ := F.ex
  exact ⟨f, _, fn_of lk hcd S len fun A outer s H vs Q E hr hsp => hbody f cdv A outer s H vs Q E hr hsp, b, F.kp, m⟩
end
theorem pe_callX {X : Cx} {k : Nat} {x : Str} {ps : List Str} {sp : Sp} {p pos : Pos} {e : Expr} {es : List Expr} {t : TA} {E : XK} (c : CalX X.prog X.w X.K X.mg X.base k x ps sp) (hr : Room k X.A) (hg : Gl X x) (hp : Passes (CX1 X.prog X.w) X E) (ha : PA X (e :: es) t)
    (hdb : (x == ("__debug__" : Str)) = false := by decide) (he : starEach (e :: es) X.env = (false, eval e X.env) :: starEach es X.env := by rfl) (hpl : (backTo pos (starEach es X.env)).any (·.1) = false := by rfl) :
    PE X (.Call (.Name x p) (e :: es) [] pos) (tCall sp [] E t) := by
  obtain ⟨f, fd, F, b, kp, m⟩ := c.ex
  exact pe_call F hr hg m kp b .nil hp ha hdb he hpl
end L2
namespace L2
open PySem PySem.Spec PyProof.Rows

/-! ### two lists of flat items, == and != -/
def eqJ (xs ys : List V) (j : Nat) : Bool := eqV ((xs[j]?).getD .non) ((ys[j]?).getD .non)
def eqL (xs ys : List V) : Bool := decide (xs.length = ys.length) && (List.range xs.length).all (eqJ xs ys)
def rSeq (K : PySem.W.Frag) (neg : Bool) : R2 := fun x y H Q => ∃ a b xs ys, x = .ref a ∧ y = .ref b ∧ SqL K H a xs ∧ SqL K H b ys ∧ xs.all flatV = true ∧ ys.all flatV = true ∧ Q (.bl (if neg then !eqL xs ys else eqL xs ys)) H
theorem flat_at {A : Around} {s : Shared} {xs ys : List V} {us vs : List Value} (r : Vals xs us) (r' : Vals ys vs) (fx : xs.all flatV = true) (fy : ys.all flatV = true) (j : Nat) (h1 : j < us.toArray.size) (h2 : j < vs.toArray.size) :
    SeqAt.EqAt A s us.toArray[j] vs.toArray[j] (eqJ xs ys j) := by
  have h1' : j < us.length := by simpa using h1
  have h2' : j < vs.length := by simpa using h2
  have hx : j < xs.length := by rw [r.length]; exact h1'
  have hy : j < ys.length := by rw [r'.length]; exact h2'
  obtain ⟨u, hu, ru⟩ := r.get (List.getElem?_eq_getElem hx)
  obtain ⟨v, hv, rv⟩ := r'.get (List.getElem?_eq_getElem hy)
  have eu : us.toArray[j] = u := by
    rw [List.getElem_toArray]
    exact (List.getElem?_eq_some_iff.mp hu).2
  have ev : vs.toArray[j] = v := by
    rw [List.getElem_toArray]
    exact (List.getElem?_eq_some_iff.mp hv).2
  rw [eu, ev]
  unfold eqJ
  rw [List.getElem?_eq_getElem hx, List.getElem?_eq_getElem hy]
  exact eqAt_V ru rv (List.all_eq_true.mp fx _ (List.getElem_mem hx)) (List.all_eq_true.mp fy _ (List.getElem_mem hy))
theorem op_neSeq {X : Cx} (hu : X.A.units < cLine) : OpR X (compareOp .NotEq) (rSeq X.K true) := by
  intro pins s σ H x y v u Q I rx ry h
  obtain ⟨a, b, xs, ys, rfl, rfl, ha, hb, fx, fy, q⟩ := h
  cases rx
  cases ry
  obtain ⟨its, r, pl, _⟩ := I.list ha
  obtain ⟨its2, r2, pl2, _⟩ := I.list hb
  have hl := r.length
  have hl2 := r2.length
  have q' : Q (.bl (!eqL xs ys)) H := q
  show wpAny (model X.prog X.w) X.A (richCompare .NotEq (.ref a) (.ref b)) _ _ _
  by_cases e : xs.length = ys.length
  · have ee : eqL xs ys = (List.range its.toArray.size).all (eqJ xs ys) := by
      unfold eqL
      rw [decide_eq_true e, Bool.true_and, hl]
      simp
    rw [ee] at q'
    exact SeqAt.RcNeAt.lists (e := eqJ xs ys) pl.isList pl2.isList (by simp; omega) hu (fun j h1 h2 => flat_at r r2 fx fy j h1 h2) _ _ _ _ ⟨.bl _, H, I, rfl, q'⟩
  · have ee : eqL xs ys = false := by
      unfold eqL
      rw [decide_eq_false e, Bool.false_and]
    rw [ee] at q'
    exact SeqAt.RcNeAt.lists_lengths pl.isList pl2.isList (by simp; omega) hu _ _ _ _ ⟨.bl _, H, I, rfl, q'⟩
theorem op_neSeqK {X : Cx} {K : PySem.W.Frag} (hK : X.K = K) (hu : X.A.units < cLine) : OpR X (compareOp .NotEq) (rSeq K true) := by subst hK; exact op_neSeq hu
/-- a number or None -/
def oV : Option Int → V
  | none => .non
  | some i => .int i
def oD : Option Int → D
  | none => .non
  | some i => .int i
theorem oV_flat (xs : List (Option Int)) : (xs.map oV).all flatV = true := by
  rw [List.all_eq_true]
  intro v hv
  obtain ⟨o, _, rfl⟩ := List.mem_map.mp hv
  cases o <;> rfl
theorem eqV_oV (a b : Option Int) : eqV (oV a) (oV b) = decide (a = b) := by
  cases a <;> cases b <;> simp [oV, eqV]
  rw [Bool.eq_iff_iff]; simp
theorem eqL_oV (xs ys : List (Option Int)) : eqL (xs.map oV) (ys.map oV) = decide (xs = ys) := by
  rw [Bool.eq_iff_iff]
  unfold eqL
  rw [Bool.and_eq_true, decide_eq_true_eq, List.all_eq_true, decide_eq_true_eq, List.length_map, List.length_map]
  constructor
  · rintro ⟨hl, h⟩
    refine List.ext_getElem hl fun j h1 h2 => ?_
    have := h j (List.mem_range.mpr h1)
    unfold eqJ at this
    rw [List.getElem?_map, List.getElem?_map, List.getElem?_eq_getElem h1, List.getElem?_eq_getElem h2] at this
    have e : eqV (oV xs[j]) (oV ys[j]) = true := this
    rw [eqV_oV] at e
    exact of_decide_eq_true e
  · rintro rfl
    refine ⟨rfl, fun j hj => ?_⟩
    have hj' := List.mem_range.mp hj
    unfold eqJ
    rw [List.getElem?_map, List.getElem?_eq_getElem hj']
    show eqV (oV xs[j]) (oV xs[j]) = true
    rw [eqV_oV]
    exact decide_eq_true rfl
theorem repL_oV {P : Addr → Prop} {H : Hp} : ∀ (xs : List (Option Int)), RepL P H (xs.map oD) (xs.map oV)
  | [] => .nilI
  | none :: xs => .consI .nonI (repL_oV xs)
  | some _ :: xs => .consI (.intI _) (repL_oV xs)
end L2
namespace L2
open PySem PySem.Spec PySem.W PyProof.Rows PySem.Builtin PySem.Builtin.ObjectAttr PySem.Builtin.Getset_descriptor

/-! ### an error's class, asked for by name: isinstance that says no -/
section
variable {prog : Program} {w : World} {A : Around} {E : Value → Shared → Prop} {s : Shared} {K : PySem.W.Frag} {x C : Addr} {R : Result → Shared → Prop}
theorem err_class_get {tp : Value} (X : K.In s.heap) (L : ∀ M, Looks M s.heap (typeOf (.ref x)) (.ref C)) (hm : mroIn K C (.type "object") = some true)
    (h : R (.ok (.ret (.ref C))) s) : codeAny (model prog w) A (.call (.builtin "getset_descriptor.__get__") ⟨[.builtin "object.__class__", .ref x, tp], []⟩) R s := by
  obtain ⟨hh, g, dr, t, os⟩ := s
  have L0 := L (model prog w)
  have L1 := looks_mroIn (M := model prog w) X hm
  refine codeAny_call_builtin KF.slot_gs.plain KF.entry_gs (KF.slot_gs.check _ _ _ _ _ _ _ _ KF.type_class (KF.args_gs _ _ _) ?_)
  unfold Builtin.«getset_descriptor.__get__» descrGet
  rw [dga_obj]
  refine wpAny_bind (wpAny_pure ?_)
  unfold descrGetter descrCheckInstance descrNameAndClass isInstance
  simp only [KF.owner_class]
  repeat lk
  refine ⟨Code.quiet_builtin _ (by decide +kernel), codeAny_builtin KF.entry_class ?_⟩
  unfold Builtin.«object.__class__» shownTypeOf
  repeat lk
  exact h
theorem looks_find_data {M : Model} {h : Heap} {name : Str} {a g : Value} (X : K.In h) (ha : findIn K (.ref C) name = some (some a)) (hn : specialIn K a "__get__" = some (some g)) (htk : takesIn K a = some true) :
    Looks M h (find (.ref x) (.ref C) name) (.bind g a) := by
  have L1 := looks_findIn (M := M) X ha
  have L2 : Looks M h (getOf (some a)) (some g) := looks_specialIn X hn
  have L3 := looks_takesIn (M := M) X htk
  exact L1.andThen (L2.andThen ((show Looks M h (dataDescriptor? (some a) (some g)) (some (g, a)) from L3.andThen .now).andThen (Looks.tag .now)))
theorem err_check {nameV : Value} {Q : Unit → Shared → Prop} (L : Looks (model prog w) s.heap (isInstance (.ref x) (.type "BaseException")) true) (hq : Q () s) : wpAny (model prog w) A (checkBuiltinCall "BaseException.__getattribute__" ⟨[.ref x, nameV], []⟩) Q E s := by
  obtain ⟨hh, g, d, t, os⟩ := s
  have hk : builtinKind "BaseException.__getattribute__" = some .slot := by decide +kernel
  have hsplit : splitId "BaseException.__getattribute__" = some ("BaseException", "__getattribute__") := by decide +kernel
  have ha := F.args_bexc_ga (.ref x) nameV
  simp only [checkBuiltinCall, hk, hsplit]
  refine wpAny_bind (L.at ?_)
  repeat wp_step
  exact hq
theorem err_class {Q : Option Value → Shared → Prop} (X : K.In s.heap) (L : ∀ M, Looks M s.heap (typeOf (.ref x)) (.ref C)) (hga : findIn K (.ref C) "__getattribute__" = some (some (.builtin "BaseException.__getattribute__")))
    (hgt : findIn K (.ref C) "__getattr__" = some none) (ha : findIn K (.ref C) "__class__" = some (some (.builtin "object.__class__"))) (hn : specialIn K (.builtin "object.__class__") "__get__" = some (some (.builtin "getset_descriptor.__get__")))
    (htk : takesIn K (.builtin "object.__class__") = some true) (hm : mroIn K C (.type "object") = some true) (hmb : mroIn K C (.type "BaseException") = some true) (h : Q (some (.ref C)) { s with toks := s.toks + 1 }) :
    wpAny (model prog w) A (getAttr? (.ref x) "__class__") Q E s := by
  obtain ⟨hh, g, d, t, os⟩ := s
  have L0 := L (model prog w)
  have L1 := looks_findIn (M := model prog w) X hga
  have L2 := looks_findIn (M := model prog w) X hgt
  have L3 := looks_mroIn (M := model prog w) X hmb
  have LF := looks_find_data (M := model prog w) (x := x) X ha hn htk
  unfold getAttr? getAttrBy? getAttrBy
  refine wpAny_bind (wpAny_mkText (wpAny_bind (wpAny_attempt (wpAny_holding (wpAny_bind (L0.at (wpAny_bind (L1.at ?_))))))))
  have hx2 : (Value.builtin "BaseException.__getattribute__" == Value.builtin "object.__getattribute__") = false := by decide +kernel
  dsimp only
  rw [hx2, Bool.and_false, if_neg Bool.false_ne_true]
  unfold getAttrByItsOwn hookBefore
  refine wpAny_bind ?_
  rw [if_pos (show onTheHeap (Value.ref C) = true from rfl)]
  refine L2.at ?_
  refine wpAny_bind (wpAny_attempt (wpAny_holding ?_))
  unfold callGetattribute boundAndCalled
  rw [Bool.false_and, if_neg Bool.false_ne_true]
  rw [F.excAttr_ValueError.ga.bind (.ref x)]
  refine wpAny_bind (wpAny_pure ?_)
  refine wpAny_call (codeAny_call_builtin F.excAttr_ValueError.ga.plain F.entry_bexc_ga ?_)
  refine err_check (L0.andThen L3) ?_
  unfold Builtin.«object.__getattribute__»
  refine wpAny_bind (wpAny_pure ?_)
  refine wpAny_bind (wpAny_pure ?_)
  refine wpAny_bind (L0.at ?_)
  refine wpAny_bind (LF.at ?_)
  show wpAny _ _ (holding [Value.builtin "object.__class__"] (call (.builtin "getset_descriptor.__get__") [.builtin "object.__class__", .ref x, .ref C]) >>= ret) _ _ _
  refine wpAny_bind (wpAny_holding (wpAny_call (err_class_get (C := C) X L hm ?_)))
  refine wpAny_pure ?_
  refine handed_on rfl ?_
  exact wpAny_pure h
end

/-- what the written part must tell of an error's class -/
structure ErrCls (K : PySem.W.Frag) (C : Addr) : Prop where
  cl : (clsIn K C).isSome = true
  ga : findIn K (.ref C) "__getattribute__" = some (some (.builtin "BaseException.__getattribute__"))
  gt : findIn K (.ref C) "__getattr__" = some none
  ca : findIn K (.ref C) "__class__" = some (some (.builtin "object.__class__"))
  ge : specialIn K (.builtin "object.__class__") "__get__" = some (some (.builtin "getset_descriptor.__get__"))
  tk : takesIn K (.builtin "object.__class__") = some true
  mo : mroIn K C (.type "object") = some true
  mb : mroIn K C (.type "BaseException") = some true
theorem isA_type {M : Model} {h : Heap} {x C : Addr} (p : IsA x C h) : Looks M h (typeOf (.ref x)) (.ref C) := by
  obtain ⟨⟨oc, od, odt, osl⟩, hob, hcl⟩ := p
  cases (show oc = Value.ref C from hcl)
  exact (Looks.ld hob).andThen .now
theorem kitx_err {K : PySem.W.Frag} {x C : Addr} (c : ErrCls K C) : KitX K (.ref x) (.ref C) (IsA x C) where
  ty := fun _ _ _ p => isA_type p
  it := fun _ _ X _ => by
    obtain ⟨cdD, hcD⟩ := Option.isSome_iff_exists.mp c.cl
    unfold clsIn at hcD
    split at hcD
    · rename_i c' d' cd' sl' ho
      intro A' Q' E' s' k q
      unfold isType loadHead
      exact wpAny_bind (wpAny_loadPart (k _ _ (X _ _ ho)) (wpAny_pure q))
    · cases hcD
  ne := fun h tp dd its n sl X htp => by
    obtain ⟨cdD, hcD⟩ := Option.isSome_iff_exists.mp c.cl
    refine Bool.eq_false_iff.mpr fun q => ?_
    have e : C = tp := Value.ref.inj (beq_iff_eq.mp q)
    subst e
    unfold clsIn at hcD
    split at hcD
    · rename_i c' d' cd' sl' ho
      have z := (X _ _ ho).symm.trans htp
      cases z
    · cases hcD
  ca := fun X p k => err_class X (fun _ => isA_type p) c.ga c.gt c.ca c.ge c.tk c.mo c.mb k
/-- isinstance(e, D) of an error, D an own class or a built-in one: what kitOne says -/
def rIsX (K : PySem.W.Frag) : List V → Hp → VK → Prop := fun xs H Q => ∃ ea C d u b, xs = [.ref ea, d] ∧ H ea = some (.ext (IsA ea C)) ∧ ErrCls K C ∧ RelV d u ∧ (d = .ref (match u with | .ref a => a | _ => 0) ∨ ∃ n, d = .ty n) ∧ kitOne K (.ref C) u = some b ∧ Q (.bl b) H
theorem call_isX {X : Cx} : CallR X (.builtin "isinstance") (rIsX X.K) := by
  intro pins s σ H xs us Q I r h
  obtain ⟨ea, C, d, u0, b, rfl, he, hc, hr, hd, hk, q⟩ := h
  obtain ⟨u, w', rfl, rx, rc⟩ := vals2 r
  cases rx
  have e : w' = u0 := by
    rcases hd with hd | ⟨n, hd⟩
    · rw [hd] at rc hr
      exact (show w' = _ from rc).trans (show u0 = _ from hr).symm
    · rw [hd] at rc hr
      exact (show w' = _ from rc).trans (show u0 = _ from hr).symm
  subst e
  obtain ⟨p, _⟩ := (show ObjOk X.prog X.w H s.heap ea (.ext (IsA ea C)) from I.hok ea _ he)
  exact kia_one (kitx_err hc) I.kIn p hk (fun z => nomatch z) fun tk => ⟨.bl b, H, I.tok _, rfl, q⟩
theorem call_isXK {X : Cx} {K : PySem.W.Frag} (hK : X.K = K) : CallR X (.builtin "isinstance") (rIsX K) := by subst hK; exact call_isX
end L2
namespace L2
open PySem PySem.Spec PyProof.Rows PySem.MeetsSeq PySem.MeetsSeq2 PySem.MeetsSeq3

/-! ### a tuple's whole slice is the tuple -/
section
variable {prog : Program} {w : World} {A : Around} {E : Value → Shared → Prop} {s : Shared}
end
/-- t[:], the tuple itself -/
def rSlAll (K : PySem.W.Frag) : V → Option Int → Option Int → Hp → VK → Prop := fun x lo hi H Q => ∃ a xs, x = .ref a ∧ SqT K H a xs ∧ lo = none ∧ hi = none ∧ Q (.ref a) H
/-! ### two tuples of flat items, == and != -/
def rTup (K : PySem.W.Frag) (neg : Bool) : R2 := fun x y H Q => ∃ a b xs ys, x = .ref a ∧ y = .ref b ∧ SqT K H a xs ∧ SqT K H b ys ∧ xs.length = ys.length ∧ xs.all flatV = true ∧ ys.all flatV = true ∧ Q (.bl (if neg then !eqL xs ys else eqL xs ys)) H
end L2
namespace L2
open PySem PySem.Spec PyProof.Rows

/-! ### enumerate(xs) -/
/-- the list at a, each item with its place: a new tuple a turn -/
def Itn (K : PySem.W.Frag) (a : Addr) : It :=
  ⟨fun i H => ∃ xs x, SqL K H a xs ∧ xs[i]? = some x,
   fun i H v H' => ∃ (T : Addr) (x : V), H T = none ∧ v = .ref T ∧ H' = upd H T (.tup [.int (i : Int), x]) ∧ ∀ xs, SqL K H a xs → xs[i]? = some x,
   fun i H => ∃ xs, SqL K H a xs ∧ xs.length ≤ i⟩
/-- two records of ours have turned, a tuple is new -/
theorem Inv.enumed {X : Cx} {pins : List (Addr × Obj)} {σ : St} {H : Hp} {s : Shared} {h' : Heap} {t' : Nat} {e it T : Addr} {xs : List V} (I : Inv X pins σ H s) (k : ∀ b o, b ≠ e → b ≠ it → s.heap.get? b = some o → h'.get? b = some o)
    (fe : FpOk X pins H e) (fi : FpOk X pins H it) (hT : s.heap.objs.size ≤ T) (new : ObjOk X.prog X.w (upd H T (.tup xs)) h' T (.tup xs)) : Inv X pins σ (upd H T (.tup xs)) { s with heap := h', toks := t' } := by
  have hn : H T = none := I.hok.fresh hT
  obtain ⟨e0, e1, e2, e3, e4, e5⟩ := fe
  obtain ⟨i0, i1, i2, i3, i4, i5⟩ := fi
  have tr : ∀ b u, H b = some u → b ≠ e ∧ b ≠ it := fun b u q => ⟨fun z => (by rw [z, e0] at q; cases q), fun z => (by rw [z, i0] at q; cases q)⟩
  have kc : ∀ b o, b ∉ [e, it] → s.heap.get? b = some o → h'.get? b = some o := fun b o hc q => k b o (fun z => hc (by simp [z])) (fun z => hc (by simp [z])) q
  refine I.step (g' := s.gens) (d' := s.drawn) (ch := [e, it]) (fun b hb => ?_) (fun b o _ _ hc q _ => kc b o hc q) (fun b o _ _ hc q _ => ⟨o.slots, kc b o hc q⟩) (fun b o _ q n => ?_)
    (fun b o hc q => ⟨o, kc b o hc q⟩) (fun b ys q => by rw [upd_ne (ne_of_none q hn)]; exact q) (fun b o u q => by rw [upd_ne (ne_of_none q hn)]; exact q) (fun b qs q => ⟨#[], by rw [upd_ne (ne_of_none q hn), q]; simp⟩) (fun m hm => ?_) (fun b u q => ?_) I.bare
  · rcases List.mem_cons.mp hb with z | hb
    · rw [z]; exact ⟨e3, e1, e4, e5⟩
    · have z : b = it := by simpa using hb
      rw [z]; exact ⟨i3, i1, i4, i5⟩
  · have : b ≠ T := fun z => by
      rw [z] at q
      exact Nat.not_lt.mpr hT (Heap.lt_size q)
    rw [upd_ne this]
    exact n
  · obtain ⟨o, es, ep, ho, r⟩ := hm
    exact ⟨o, es, ep, k _ o (Ne.symm e1) (Ne.symm i1) ho, r⟩
  · by_cases hb : b = T
    · subst hb
      rw [upd_same] at q
      cases q
      exact new
    · rw [upd_ne hb] at q
      refine (I.hok b u q).stay (fun c v hc z => ?_) (fun c z => by rw [upd_ne (ne_of_none z hn)]; exact z) fun c ys z => by rw [upd_ne (ne_of_none z hn)]; exact z
      rcases hc with y | y
      · rw [y] at z ⊢
        exact k _ _ (tr b u q).1 (tr b u q).2 z
      · exact k c v (tr c _ y).1 (tr c _ y).2 z
theorem turn_enum {P : Program} {w : World} {K : PySem.W.Frag} {es : List Expr} {x1 : Nat} {pt : Pos} (a e it : Addr) (hne : e ≠ it) :
    Turn P w K (.Tuple es x1 pt) (Itn K a) [e, it] e (fun i h => (∃ old, IsEnum h e it ((i : Nat) : Int) old) ∧ h.IsListIter it a i) where
  mem := by simp
  obj := fun i h st b hb => by
    obtain ⟨⟨old, he⟩, o, ho, c, d⟩ := st
    rcases List.mem_cons.mp hb with z | hb
    · subst z
      exact ⟨_, he, fun v z => by
        have z' : Data.fields _ = Data.cell v := z
        cases z'⟩
    · have z : b = it := by simpa using hb
      subst z
      exact ⟨o, ho, fun v z => by rw [d] at z; cases z⟩
  keep := fun i h h' st k => by
    obtain ⟨⟨old, he⟩, hit⟩ := st
    exact ⟨⟨old, k e (by simp) _ he⟩, hit.at fun o q => k it (by simp) o q⟩
  item := by
    intro X hP hw hK hc i pins s σ H E I hf st hg
    subst hP hw hK
    obtain ⟨xs, x, hq, hx⟩ := hg
    obtain ⟨its, rv, p, hz⟩ := I.list hq
    obtain ⟨u, hu, ru⟩ := rv.get hx
    have fe := hf e (by simp)
    have fi := hf it (by simp)
    obtain ⟨⟨old, he⟩, hit⟩ := st
    have helt : e < s.heap.objs.size := Heap.lt_size he
    have hilt : it < s.heap.objs.size := by
      obtain ⟨o, ho, _⟩ := id hit
      exact Heap.lt_size ho
    refine wpAny_pyNext_enum_item he hit p.isList (x := u) (by simpa using hu) hne fun h1 ho hit1 hT hsz hk => ?_
    refine ⟨_, rfl, wpAny_letOwnedTupleGo_enum (s := { s with heap := h1, toks := s.toks + 1 }) ho fun h2 he2 hs2 => ?_⟩
    have hs2' : Heap.SameBut e h1 h2 := hs2
    have kk : ∀ b o, b ≠ e → b ≠ it → s.heap.get? b = some o → h2.get? b = some o := fun b o b1 b2 q => (hs2'.2 b b1).trans (hk b o b1 b2 q)
    have hT2 := (hs2'.2 s.heap.objs.size (Nat.ne_of_gt helt)).trans hT
    have hn := I.hok.fresh (Nat.le_refl s.heap.objs.size)
    refine ⟨.ref s.heap.objs.size, upd H s.heap.objs.size (.tup [.int (i : Int), x]), I.enumed (t' := s.toks + 1) kk fe fi (Nat.le_refl _) ⟨small (by simp), [.int i s.toks, u], .cons ⟨_, rfl⟩ (.cons ru .nil), ⟨_, hT2, rfl, _, rfl⟩⟩, rfl,
      ⟨_, x, hn, rfl, rfl, fun ys hy => by rw [I.list_inj hy hq]; exact hx⟩, ⟨⟨_, by simpa using he2⟩, ?_⟩, fun b hb => ?_⟩
    · exact hit1.at fun o q => (hs2'.2 it (Ne.symm hne)).trans q
    · rcases List.mem_cons.mp hb with z | hb
      · rw [z, upd_ne (Nat.ne_of_lt helt)]; exact fe.1
      · have z : b = it := by simpa using hb
        rw [z, upd_ne (Nat.ne_of_lt hilt)]; exact fi.1
  done := by
    intro X hP hw hK hc i pins s σ H E I hf st hg
    subst hP hw hK
    obtain ⟨xs, hq, hx⟩ := hg
    obtain ⟨its, rv, p, hz⟩ := I.list hq
    obtain ⟨⟨old, he⟩, hit⟩ := st
    obtain ⟨f0, f1, f2, f3, f4, f5⟩ := hf it (by simp)
    have hl := rv.length
    exact wpAny_pyNext_enum_end (I.ok.hd hc) he hit p.isList (by simp; omega) fun h' eb => ⟨rfl, I.turned (t' := s.toks) (fun b o hb e => eb b o hb e) f0 f1 f3 f4 f5⟩
  self := fun _ _ _ _ _ st h => by
    obtain ⟨⟨old, he⟩, _⟩ := st
    exact wpAny_pyIter_enum he h
def iEnum (K : PySem.W.Frag) (ta : TA) : TI := fun σ H R => ta σ H fun vs H1 => ∃ a, vs = [.ref a] ∧ (∃ xs, SqL K H1 a xs) ∧ R (Itn K a) H1
theorem pi_enum {X : Cx} {es : List Expr} {x1 : Nat} {pt : Pos} {a : Expr} {ta : TA} {p pos : Pos} (hg : Gl X "enumerate") (hm : X.mg "enumerate" = none) (ha : PA X [a] ta) (hs : starEach [a] X.env = [(false, eval a X.env)] := by rfl) : PI X (.Tuple es x1 pt) (.Call (.Name "enumerate" p) [a] [] pos) (iEnum X.K ta) := by
  intro pins s σ H R I h
  refine Call_ (ld_blt I hg hm boot_enumerate (PyProof.Rows.callWith_type1 (thn (ha pos pins s σ H _ I h) fun us s1 ⟨vs, H1, I1, r1, q1⟩ => ?_) hs rfl))
  obtain ⟨b, e, ⟨xs, hq⟩, q⟩ := q1
  subst e
  obtain ⟨u, rfl, ru⟩ := vals1 r1
  cases ru
  obtain ⟨its, rv, pl, hz⟩ := I1.list hq
  refine call_enumerate_list pl.isList fun h' he hit hsz hk => ?_
  refine wpAny_pyIter_enum (s := { s1 with heap := h' }) he ?_
  refine ⟨s1.heap.objs.size + 1, [s1.heap.objs.size + 1, s1.heap.objs.size], _, _, H1, rfl, I1.kept (t' := s1.toks) hk, turn_enum b _ _ (Nat.succ_ne_self _), ⟨⟨_, he⟩, hit⟩, fun b' hb => ?_, q⟩
  rcases List.mem_cons.mp hb with z | hb
  · rw [z]
    exact I1.fpOk (Nat.le_succ _) (I1.hok.fresh (Nat.le_succ _))
  · have z : b' = s1.heap.objs.size := by simpa using hb
    rw [z]
    exact I1.fpOk (Nat.le_refl _) (I1.hok.fresh (Nat.le_refl _))
theorem pi_enumK {X : Cx} {K : PySem.W.Frag} {es : List Expr} {x1 : Nat} {pt : Pos} {a : Expr} {ta : TA} {p pos : Pos} (hK : X.K = K) (hg : Gl X "enumerate") (hm : X.mg "enumerate" = none) (ha : PA X [a] ta) (hs : starEach [a] X.env = [(false, eval a X.env)] := by rfl) : PI X (.Tuple es x1 pt) (.Call (.Name "enumerate" p) [a] [] pos) (iEnum K ta) := by
  subst hK; exact pi_enum hg hm ha hs
/-- over the places and items of a list that the body leaves as it is -/
theorem for_enum {K : PySem.W.Frag} {a : Addr} {xs : List V} {g : TG} {tb : TS} {D : Ends} {σ : St} {H : Hp} (Pv : Nat → St → Hp → Prop) (h0 : Pv 0 σ H) (hl : ∀ i σ H, i ≤ xs.length → Pv i σ H → SqL K H a xs)
    (hs : ∀ i x σ H T, xs[i]? = some x → Pv i σ H → H T = none → g (.ref T) σ (upd H T (.tup [.int (i : Int), x])) fun σ2 H2 => tb { D with nx := Pv (i + 1), ct := Pv (i + 1), bk := D.nx } σ2 H2) (hd : ∀ σ H, Pv xs.length σ H → D.nx σ H) :
    ∃ W : Nat → Nat → St → Hp → Prop, (∃ m, W 0 m σ H) ∧ ∀ i m σ H, W i m σ H →
      ((Itn K a).stop i H ∧ D.nx σ H) ∨ ((Itn K a).go i H ∧ ∃ N : St → Hp → Prop, (∀ σ' H', N σ' H' → ∃ m', m' < m ∧ W (i + 1) m' σ' H') ∧ ∀ x H', (Itn K a).yld i H x H' → g x σ H' fun σ2 H2 => tb { D with nx := N, ct := N, bk := D.nx } σ2 H2) := by
  refine ⟨fun i m σ H => m = xs.length - i ∧ i ≤ xs.length ∧ Pv i σ H, ⟨xs.length, by simp, Nat.zero_le _, h0⟩, ?_⟩
  rintro i m σ H ⟨rfl, hi, p⟩
  have q := hl i σ H hi p
  by_cases hlt : i < xs.length
  · refine .inr ⟨⟨xs, xs[i], q, by simp [hlt]⟩, Pv (i + 1), fun σ' H' p' => ⟨xs.length - (i + 1), by omega, rfl, hlt, p'⟩, fun x H' y => ?_⟩
    obtain ⟨T, x', hT, e1, e2, y⟩ := y
    subst e1 e2
    exact hs i x' σ _ T (y xs q) p hT
  · have e : i = xs.length := by omega
    subst e
    exact .inl ⟨⟨xs, q, Nat.le_refl _⟩, hd σ H p⟩
/-- over a list from the last item to the first -/
theorem for_rev {K : PySem.W.Frag} {a : Addr} {xs : List V} {g : TG} {tb : TS} {D : Ends} {σ : St} {H : Hp} (Pv : Nat → St → Hp → Prop) (h0 : Pv 0 σ H) (hl : ∀ i σ H, i ≤ xs.length → Pv i σ H → SqL K H a xs)
    (hs : ∀ i x σ H, xs.reverse[i]? = some x → Pv i σ H → g x σ H fun σ2 H2 => tb { D with nx := Pv (i + 1), ct := Pv (i + 1), bk := D.nx } σ2 H2) (hd : ∀ σ H, Pv xs.length σ H → D.nx σ H) :
    ∃ W : Nat → Nat → St → Hp → Prop, (∃ m, W 0 m σ H) ∧ ∀ i m σ H, W i m σ H →
      ((Itv K a xs).stop i H ∧ D.nx σ H) ∨ ((Itv K a xs).go i H ∧ ∃ N : St → Hp → Prop, (∀ σ' H', N σ' H' → ∃ m', m' < m ∧ W (i + 1) m' σ' H') ∧ ∀ x H', (Itv K a xs).yld i H x H' → g x σ H' fun σ2 H2 => tb { D with nx := N, ct := N, bk := D.nx } σ2 H2) := by
  refine ⟨fun i m σ H => m = xs.length - i ∧ i ≤ xs.length ∧ Pv i σ H, ⟨xs.length, by simp, Nat.zero_le _, h0⟩, ?_⟩
  rintro i m σ H ⟨rfl, hi, p⟩
  have q := hl i σ H hi p
  by_cases hlt : i < xs.length
  · refine .inr ⟨⟨hlt, q⟩, Pv (i + 1), fun σ' H' p' => ⟨xs.length - (i + 1), by omega, rfl, hlt, p'⟩, fun x H' y => ?_⟩
    obtain ⟨e, y⟩ := y
    subst e
    exact hs i x σ _ y p
  · have e : i = xs.length := by omega
    subst e
    exact .inl ⟨rfl, hd σ H p⟩
end L2
namespace L2
open PySem PySem.Spec PyProof.Rows

/-! ### list(range(i, j)) -/
def rngV (i : Int) (n : Nat) : List V := (List.range n).map fun (k : Nat) => .int (i + (k : Int))
def rListRng : List V → Hp → VK → Prop := fun xs H Q => ∃ r i j, xs = [.ref r] ∧ H r = some (.rng i j) ∧ (-(2 ^ 62) ≤ i ∧ i < 2 ^ 62 ∧ -(2 ^ 62) ≤ j ∧ j < 2 ^ 62) ∧ (j - i).toNat ≤ 1000000 ∧ ∀ l, H l = none → Q (.ref l) (upd H l (.lst (rngV i (j - i).toNat)))
end L2
namespace L2
open PySem PySem.Spec PyProof.Rows

/-! ### xs.count(y), xs.insert(k, y), x in xs -/
theorem count_eqU {x : V} : ∀ {xs : List V} {us : List Value}, Vals xs us → xs.all flatV = true → us.countP (eqU x) = xs.countP fun y => eqV y x
  | _, _, .nil, _ => rfl
  | y :: xs, u :: us, .cons r t, f => by
    rw [List.all_cons, Bool.and_eq_true] at f
    rw [List.countP_cons, List.countP_cons, eqU_of r f.1, count_eqU t f.2]
def rCount : V → List V → Hp → VK → Prop := fun x vs H Q => ∃ l xs y, x = .ref l ∧ vs = [y] ∧ H l = some (.lst xs) ∧ flatV y = true ∧ xs.all flatV = true ∧ Q (.int ((xs.countP fun z => eqV z y : Nat) : Int)) H
theorem mt_count {X : Cx} : MtM X "list.count" rCount := by
  intro pins s σ H x vs v us Q I rx rv h
  obtain ⟨l, xs, y, rfl, rfl, hH, fy, fs, q⟩ := h
  cases rx
  obtain ⟨u, rfl, ru⟩ := rv.one
  obtain ⟨z, its, n, r, hl, e⟩ := I.lstM hH
  refine call_meets F.slot_list_count ⟨_, e, rfl⟩ F.entry_list_count (F.args_list_count_2 _ _) (SeqAt.list_countAt l its.toArray n none #[] u (eqU y)) ⟨e, fun w hw => mem_eqAt ru fy r fs w (by simpa using hw), ?_⟩
  refine ⟨.int ((xs.countP fun z => eqV z y : Nat) : Int), H, I.tok _, ⟨s.toks, ?_⟩, q⟩
  rw [show its.toArray.toList = its from rfl, count_eqU r fs]
theorem pair_take {α β : Type} {F : α → β → Prop} : ∀ (n : Nat) {as : List α} {bs : List β}, Paired F as bs → Paired F (as.take n) (bs.take n)
  | 0, _, _, _ => by simpa using Paired.nil
  | _ + 1, _, _, .nil => .nil
  | n + 1, _, _, .cons r t => .cons r (pair_take n t)
theorem pair_drop {α β : Type} {F : α → β → Prop} : ∀ (n : Nat) {as : List α} {bs : List β}, Paired F as bs → Paired F (as.drop n) (bs.drop n)
  | 0, _, _, t => t
  | _ + 1, _, _, .nil => .nil
  | n + 1, _, _, .cons _ t => pair_drop n t
def rInsert : V → List V → Hp → VK → Prop := fun x vs H Q => ∃ l xs y, ∃ k : Nat, x = .ref l ∧ vs = [.int (k : Int), y] ∧ H l = some (.lst xs) ∧ k ≤ xs.length ∧ xs.length ≤ 100000 ∧ Q .non (upd H l (.lst (xs.take k ++ y :: xs.drop k)))
theorem mt_insert {X : Cx} : MtM X "list.insert" rInsert := by
  intro pins s σ H x vs v us Q I rx rv h
  obtain ⟨l, xs, y, k, rfl, rfl, hH, hk, hz, q⟩ := h
  cases rx
  obtain ⟨u1, u2, rfl, r1, r2⟩ := vals2 rv
  obtain ⟨t, rfl⟩ := r1
  obtain ⟨z, its, n, r, hl, e⟩ := I.lstM hH
  have hfit : ¬ (!Builtin.List.listFitsIndex ((k : Nat) : Int)) = true := by
    have h1 : Builtin.List.listFitsIndex ((k : Nat) : Int) = true := fitsIndex_both (by omega) (by omega)
    rw [h1]
    exact Bool.false_ne_true
  have hsz : its.toArray.size ≤ sizeLine := small (by rw [List.size_toArray]; omega)
  generalize hkk : ((k : Nat) : Int) = kk at hfit
  have M := AutoSeq1.list_insert_list_int_val_1 l its.toArray n kk t u2 hfit hsz
  refine call_meets F.slot_list_insert ⟨_, e, rfl⟩ F.entry_list_insert (F.args_list_insert_3 _ _ _) M ⟨e, ?_⟩
  subst hkk
  refine ⟨.non, _, I.lset (its' := its.take k ++ u2 :: its.drop k) hH e ?_ (Vals.append (show Vals (xs.take k) (its.take k) from pair_take k r) (show Vals (y :: xs.drop k) (u2 :: its.drop k) from .cons r2 (pair_drop k r))) (small ?_), rfl, q⟩
  · show (its.toArray.extract 0 (if ((k : Nat) : Int) < 0 then _ else min ((k : Nat) : Int).toNat its.toArray.size)).push u2 ++ its.toArray.extract (if ((k : Nat) : Int) < 0 then _ else min ((k : Nat) : Int).toNat its.toArray.size) = _
    rw [if_neg (by omega), Int.toNat_natCast, List.size_toArray, Nat.min_eq_left (by omega)]
    apply Array.ext'
    simp
    exact List.take_of_length_le (by rw [List.length_drop]; omega)
  · rw [List.length_append, List.length_cons, List.length_take, List.length_drop]
    omega
theorem op_inK {X : Cx} {K : PySem.W.Frag} (hK : X.K = K) : OpR X (compareOp .In) (rIn K false) := by subst hK; exact op_in_seq
end L2
namespace Mine
open PySem L2
def top (i : Nat) : Stmt := PySem.Challenge.pw_ridebook_k03_refused.main.body.getD i (.Pass ⟨0, 0, 0, 0⟩)
abbrev s_is_stop : Stmt := top 7
abbrev s_keeps_time : Stmt := top 8
abbrev s_check_ride : Stmt := top 9
abbrev s_check_rides : Stmt := top 10
abbrev s_check_stop : Stmt := top 11
abbrev s_check_ask : Stmt := top 12
abbrev s_turned_ride : Stmt := top 14
abbrev s_turned : Stmt := top 15
abbrev s_ready_time : Stmt := top 17
abbrev s_ready_times : Stmt := top 18
abbrev s_first_on : Stmt := top 19
abbrev s_next_round : Stmt := top 20
abbrev s_all_rounds : Stmt := top 21
abbrev s_parts_needed : Stmt := top 22
abbrev s_rounds : Stmt := top 23
abbrev s_first_coming : Stmt := top 25
abbrev s_last_start : Stmt := top 26
abbrev s_earliest : Stmt := top 27
abbrev s_latest : Stmt := top 28
abbrev s_fewest : Stmt := top 29
abbrev s_choices : Stmt := top 30
abbrev s_part_into : Stmt := top 32
abbrev s_trip_back : Stmt := top 33
abbrev s_trip_for : Stmt := top 34
abbrev s_is_part : Stmt := top 36
abbrev s_can_leave : Stmt := top 37
abbrev s_coming_of : Stmt := top 38
abbrev s_law_room : Stmt := top 40
abbrev s_law_at : Stmt := top 41
abbrev s_law_drawn : Stmt := top 42
abbrev s_law_slow : Stmt := top 43
abbrev s_law_copy : Stmt := top 44
abbrev s_law_tried : Stmt := top 45
abbrev s_law_spoilt : Stmt := top 46
abbrev s_law_good : Stmt := top 47
abbrev s_law : Stmt := top 48
/-! ### the law's own helpers -/
abbrev Stop := Int × Int × Int
def callD (c : Stop) : D := .tup [.int c.1, .int c.2.1, .int c.2.2]
def rideD (r : List Stop) : D := .lst (r.map callD)
def ridesD (rs : List (List Stop)) : D := .lst (rs.map rideD)
def total (rs : List (List Stop)) : Nat := (rs.map List.length).sum
theorem sizes_calls : ∀ r : List Stop, D.sizes (r.map callD) = 4 * r.length
  | [] => rfl
  | c :: r => by
    simp only [List.map_cons, D.sizes, sizes_calls r, callD, D.size, List.length_cons]
    omega
theorem sizes_rides : ∀ rs : List (List Stop), D.sizes (rs.map rideD) = rs.length + 4 * total rs
  | [] => rfl
  | r :: rs => by
    simp only [List.map_cons, D.sizes, sizes_rides rs, rideD, D.size, sizes_calls, List.length_cons, total, List.sum_cons]
    omega
theorem size_rides (rs : List (List Stop)) : (ridesD rs).size = 1 + rs.length + 4 * total rs := by
  simp only [ridesD, D.size, sizes_rides]; omega
theorem rep_call {P P' : Addr → Prop} {H : Hp} {c : Stop} {v : V} (r : Rep P H (callD c) v) : ∃ t, v = .ref t ∧ H t = some (.tup [.int c.1, .int c.2.1, .int c.2.2]) ∧ Rep P' H (callD c) v := by
  obtain ⟨t, xs, rfl, h, q⟩ := r.tupE
  obtain ⟨x1, r1, e1, q1, qa⟩ := q.consE
  obtain ⟨x2, r2, e2, q2, qb⟩ := qa.consE
  obtain ⟨x3, r3, e3, q3, qc⟩ := qb.consE
  rw [q1.intE] at e1; rw [q2.intE] at e2; rw [q3.intE, qc.nilE] at e3
  subst e3; subst e2; subst e1
  exact ⟨t, rfl, h, .tupI h (.consI (.intI _) (.consI (.intI _) (.consI (.intI _) .nilI)))⟩
theorem rep_callI {P : Addr → Prop} {H : Hp} {c : Stop} {t : Addr} (h : H t = some (.tup [.int c.1, .int c.2.1, .int c.2.2])) : Rep P H (callD c) (.ref t) :=
  .tupI h (.consI (.intI _) (.consI (.intI _) (.consI (.intI _) .nilI)))
theorem rep_calls {P P' : Addr → Prop} {H : Hp} : ∀ {r : List Stop} {xs : List V}, RepL P H (r.map callD) xs → RepL P' H (r.map callD) xs
  | [], _, q => by rw [q.nilE]; exact .nilI
  | _ :: _, _, q => by
    obtain ⟨x, t, rfl, h, q⟩ := RepL.consE q
    obtain ⟨_, _, _, h'⟩ := rep_call (P' := P') h
    exact .consI h' (rep_calls q)

def spRoom (K : PySem.W.Frag) : Sp := fun vs H Q _ => ∃ (a : Addr) (xs : List V) (m b : Int), vs = [.ref a, .int m, .int b] ∧ SqL K H a xs ∧ xs.length ≤ 63 ∧ Q (.int m) H
def spWhole : Sp := fun vs H Q _ => ∃ i, vs = [.int i] ∧ Q (.bl true) H
def spAt (K : PySem.W.Frag) : Sp := fun vs H Q _ => ∃ (a : Addr) (ns : List Int) (k : Int), vs = [.ref a, .int k] ∧ SqL K H a (ns.map V.int) ∧ 0 ≤ k ∧ Q (.int (ns.getD k.toNat 0)) H
def spCopy : Sp := fun vs H Q _ => ∃ v rs, vs = [v] ∧ Rep Al H (ridesD rs) v ∧ (ridesD rs).size ≤ 100000 ∧ ∀ v' H', Same H H' → Rep (New H) H' (ridesD rs) v' → Q v' H'
def spSame : Sp := fun vs H Q _ => ∃ x y d, vs = [x, y] ∧ Rep Al H d x ∧ Rep Al H d y ∧ d.size ≤ 100000 ∧ ∀ H', Same H H' → Q (.bl true) H'

section
variable {P : Program} {w : World} {K : PySem.W.Frag} {mg : Str → Option Value} {base : Heap} {k : Nat}
theorem sc_law_room : FnScope ["_law_script", "_law_most", "_law_bound"] ["_law_script", "_law_most", "_law_bound"] (defScope s_law_room) := ⟨rfl, rfl, rfl, by decide +kernel, rfl, by decide +kernel, by decide +kernel⟩
theorem ok_law_room (d : DefOk K mg "_law_room" s_law_room ["_law_script", "_law_most", "_law_bound"]) (B : Blt mg) : Cal P w K mg base (k + 1) "_law_room" ["_law_script", "_law_most", "_law_bound"] (spRoom K) := by
  refine d.cal sc_law_room (fun vs H Q E h => ?_) (fun f cdv A outer s H vs Q E hr h => ?_)
  · obtain ⟨a, xs, m, b, rfl, _⟩ := h
    rfl
  obtain ⟨a, xs, m, b, rfl, hS, h63, q⟩ := h
  refine ⟨_, (pss_cons (ps_if (pt_cmpR op_gt (pe_callB (call_lenK (K := K) rfl) rfl B.len bt_len (pa_cons (pv 0) pa_nil)) pe_int (nomark _)) (pss_one (ps_ret (pv 2))) pss_nil)
    (pss_one (ps_ret (pv 1)))), ?_⟩
  refine ⟨_, rfl, a, xs, rfl, .inl hS, _, _, rfl, rfl, _, rfl, ?_⟩
  refine ite2 (fun c => ?_) (fun c => ?_)
  · have c' : (63 : Int) < (xs.length : Int) := of_decide_eq_true c
    omega
  · exact ⟨_, rfl, q⟩

theorem sc_law_at : FnScope ["_law_script", "_law_k"] ["_law_script", "_law_k"] (defScope s_law_at) := ⟨rfl, rfl, rfl, by decide +kernel, rfl, by decide +kernel, by decide +kernel⟩
theorem ok_law_at (d : DefOk K mg "_law_at" s_law_at ["_law_script", "_law_k"]) (B : Blt mg) : Cal P w K mg base (k + 1) "_law_at" ["_law_script", "_law_k"] (spAt K) := by
  refine d.cal sc_law_at (fun vs H Q E h => ?_) (fun f cdv A outer s H vs Q E hr h => ?_)
  · obtain ⟨a, ns, i, rfl, _⟩ := h
    rfl
  obtain ⟨a, ns, i, rfl, hS, h0, q⟩ := h
  refine ⟨_, (pss_cons (ps_if (pt_cmpR op_lt (pv 1) (pe_callB (call_lenK (K := K) rfl) rfl B.len bt_len (pa_cons (pv 0) pa_nil)) (nomark _)) (pss_one (ps_ret (pe_ix (ix_listK (K := K) rfl) (pv 0) (pv 1) (fun _ _ => rfl)))) pss_nil)
    (pss_one (ps_ret pe_int))), ?_⟩
  have hl : (ns.map V.int).length = ns.length := List.length_map _
  refine ⟨_, rfl, _, rfl, a, _, rfl, .inl hS, _, _, rfl, rfl, _, rfl, ?_⟩
  refine ite2 (fun c => ?_) (fun c => ?_)
  · have c' : i < (((ns.map V.int).length : Nat) : Int) := of_decide_eq_true c
    rw [hl] at c'
    have hi : i.toNat < ns.length := by omega
    have ei : i = ((i.toNat : Nat) : Int) := by omega
    have g : ns[i.toNat]? = some (ns.getD i.toNat 0) := by rw [List.getD_eq_getElem?_getD, List.getElem?_eq_getElem hi]; rfl
    have hx : atI (ns.map V.int) ((i.toNat : Nat) : Int) = some (.int (ns.getD i.toNat 0)) := atI_nat (by rw [List.getElem?_map, g] <;> rfl)
    rw [← ei] at hx
    exact ⟨_, rfl, _, rfl, a, _, _, _, rfl, rfl, hS, hx, q⟩
  · have c' : ¬ i < (((ns.map V.int).length : Nat) : Int) := of_decide_eq_false (Bool.eq_false_iff.mpr c)
    rw [hl] at c'
    have g : ns.getD i.toNat 0 = 0 := by rw [List.getD_eq_getElem?_getD, List.getElem?_eq_none (by omega)]; rfl
    rw [g] at q
    exact q

theorem sc_law_copy : FnScope ["_law_rides"] ["_law_rides"] (defScope s_law_copy) := ⟨rfl, rfl, rfl, by decide +kernel, rfl, by decide +kernel, by decide +kernel⟩
theorem ok_law_copy (d : DefOk K mg "_law_copy" s_law_copy ["_law_rides"]) (B : Blt mg) : Cal P w K mg base (k + 1) "_law_copy" ["_law_rides"] spCopy := by
  refine d.cal sc_law_copy (fun vs H Q E h => ?_) (fun f cdv A outer s H vs Q E hr h => ?_)
  · obtain ⟨v, rs, rfl, _⟩ := h
    rfl
  obtain ⟨v, rs, rfl, hR, hz, q⟩ := h
  rw [size_rides] at hz
  refine ⟨_, (pss_one (ps_ret (pe_lc ["_law_ride"] rfl (LcOk.plain (by decide +kernel) (by decide +kernel) rfl (by decide +kernel)) (pi_listK (K := K) rfl (pv 0)) (fun _ _ _ _ _ => ⟨(pg_name (i := 0) (show ((["_law_ride"] : List Str) ++ ([] : List Str)).Nodup by decide +kernel) rfl (Or.inl rfl)), pf_nil, (pe_callTy (call_listK (K := K) rfl) rfl B.lst bt_list (pa_cons (pv 0) pa_nil))⟩)))), ?_⟩
  obtain ⟨a, xs, rfl, _, ha, hx⟩ := hR.lstE
  have hlx : xs.length = rs.length := by rw [hx.length, List.length_map]
  refine ⟨_, rfl, a, rfl, ⟨xs, SqL.of ha⟩, ?_⟩
  refine lc_map (New H) (rs.map rideD) (by rw [List.length_map]; omega) (fun H' hS => ⟨xs, SqL.of (hS _ _ ha), by rw [List.length_map]; omega⟩) (fun i H' hi hS => ?_) (fun Dl i H1 x H2 e R he hS hD hys hy hRR => ?_) (fun Dl H' hS hD ys hys hr => ?_)
  · rw [List.length_map] at hi
    exact ⟨xs, xs[i], SqL.of (hS _ _ ha), List.getElem?_eq_getElem (by omega)⟩
  · obtain ⟨rfl, hy⟩ := hy
    have hxi := hy xs (SqL.of (hS _ _ ha))
    obtain ⟨e', he', hrep⟩ := hx.getV hxi
    rw [he] at he'
    cases he'
    rw [List.getElem?_map] at he
    obtain ⟨r, hr1, rfl⟩ := Option.map_eq_some_iff.mp he
    obtain ⟨b, zs, rfl, _, hb, hzs⟩ := hrep.lstE
    refine ⟨Kp.none, _, rfl, b, zs, rfl, .inl (SqL.of (hS _ _ hb)), fun l hl => ?_⟩
    refine hRR _ _ (Same.new hl _) (.lstI ⟨?_, hS.free hl⟩ upd_same ?_)
    · obtain ⟨ys, hys⟩ := hys
      exact fun z => by rw [z, hys] at hl; cases hl
    · exact (rep_calls hzs).mono (hS.trans (Same.new hl _))
  · exact q _ H' hS (.lstI hD hys (hr.weak fun _ z => z.2))
end
section
variable {P : Program} {w : World} {K : PySem.W.Frag} {mg : Str → Option Value} {base : Heap} {k : Nat}
/-- the pairs that are still to be held against each other -/
abbrev TodoL (H0 H : Hp) : List D → List Addr → Prop := Paired fun d p => ∃ x y, H p = some (.tup [x, y]) ∧ Rep Al H0 d x ∧ Rep Al H0 d y
theorem TodoL.mono {H0 H H' : Hp} {ds : List D} {ps : List Addr} (g : ∀ p xs, H p = some (.tup xs) → H' p = some (.tup xs)) (t : TodoL H0 H ds ps) : TodoL H0 H' ds ps :=
  Paired.imp' (fun _ _ ⟨x, y, h, r⟩ => ⟨x, y, g _ _ h, r⟩) t
theorem paired_snoc {α β : Type} {F : α → β → Prop} : ∀ {as : List α} {bs : List β}, Paired F as bs → as = [] ∧ bs = [] ∨ ∃ as' a bs' b, as = as' ++ [a] ∧ bs = bs' ++ [b] ∧ Paired F as' bs' ∧ F a b
  | _, _, .nil => .inl ⟨rfl, rfl⟩
  | _, _, .cons (a := a) (b := b) r t => by
    rcases paired_snoc t with ⟨rfl, rfl⟩ | ⟨as', a', bs', b', rfl, rfl, p, q⟩
    · exact .inr ⟨[], a, [], b, rfl, rfl, .nil, r⟩
    · exact .inr ⟨a :: as', a', b :: bs', b', rfl, rfl, .cons r p, q⟩
theorem upd_tup {H : Hp} {l p : Addr} {ys xs : List V} {o : HO} (e : H l = some (.lst ys)) (h : H p = some (.tup xs)) : upd H l o p = some (.tup xs) := by
  rw [upd_ne (ne_of h e (by simp))]; exact h
theorem new_tup {H : Hp} {l p : Addr} {xs : List V} {o : HO} (e : H l = none) (h : H p = some (.tup xs)) : upd H l o p = some (.tup xs) := by
  rw [upd_ne (ne_of_none h e)]; exact h
end
section
variable {P : Program} {w : World} {K : PySem.W.Frag} {mg : Str → Option Value} {base : Heap} {k : Nat}
/-- a ride as the document tells, at stops below n -/
structure OkRide (n : Int) (r : List Stop) : Prop where
  some : r ≠ []
  each : ∀ c ∈ r, 0 ≤ c.1 ∧ c.1 < n ∧ c.2.1 ≤ c.2.2
  rise : r.Pairwise fun c d => c.2.2 < d.2.1
def spDrawn (K : PySem.W.Frag) : Sp := fun vs H Q _ => ∃ (a : Addr) (ns : List Int) (n : Int), vs = [.ref a, .int n] ∧ SqL K H a (ns.map V.int) ∧ ns.length ≤ 1000 ∧ 0 < n ∧
  ∀ v H' rs, Same H H' → Rep (New H) H' (ridesD rs) v → (∀ r ∈ rs, OkRide n r) → total rs = ns.length → Q v H'
theorem at_cell {ns : List Int} {j : Int} (h0 : 0 ≤ j) (h1 : j < (ns.length : Int)) : ∃ z, atI (ns.map V.int) j = some (.int z) := by
  have hj : j.toNat < ns.length := by omega
  have ej : j = ((j.toNat : Nat) : Int) := by omega
  refine ⟨ns[j.toNat], ?_⟩
  have q : atI (ns.map V.int) ((j.toNat : Nat) : Int) = some (.int ns[j.toNat]) := atI_nat (by rw [List.getElem?_map, List.getElem?_eq_getElem hj] <;> rfl)
  rw [← ej] at q
  exact q
theorem total_snoc (rs : List (List Stop)) (r : List Stop) : total (rs ++ [r]) = total rs + r.length := by simp [total]
theorem le_total {rs : List (List Stop)} {r : List Stop} (h : r ∈ rs) : r.length ≤ total rs := by
  induction rs with
  | nil => cases h
  | cons a rs ih =>
    simp only [total, List.map_cons, List.sum_cons]
    rcases List.mem_cons.mp h with rfl | h
    · omega
    · have := ih h
      simp only [total] at this
      omega
theorem rides_le : ∀ {rs : List (List Stop)} {n : Int}, (∀ r ∈ rs, OkRide n r) → rs.length ≤ total rs
  | [], _, _ => Nat.le_refl _
  | r :: rs, n, h => by
    have h1 := (h r List.mem_cons_self).some
    have h2 := rides_le (rs := rs) (n := n) fun r' hr' => h r' (List.mem_cons_of_mem _ hr')
    have h3 : 0 < r.length := List.length_pos_iff.mpr h1
    simp only [total, List.map_cons, List.sum_cons, List.length_cons] at h2 ⊢
    omega
/-- the rides under the pen: their lists, all new -/
abbrev PenL (H0 H : Hp) : List (List Stop) → List Addr → Prop := Paired fun r a => H0 a = none ∧ ∃ ts, H a = some (.lst ts) ∧ RepL Al H (r.map callD) ts
theorem PenL.move {H0 H H' : Hp} {rs : List (List Stop)} {as : List Addr} (g : ∀ a ∈ as, ∀ ts, H a = some (.lst ts) → H' a = some (.lst ts)) (ht : ∀ p xs, H p = some (.tup xs) → H' p = some (.tup xs)) (t : PenL H0 H rs as) : PenL H0 H' rs as := by
  induction t with
  | nil => exact .nil
  | cons r _ ih =>
    obtain ⟨h0, ts, ha, q⟩ := r
    refine .cons ⟨h0, ts, g _ List.mem_cons_self ts ha, ?_⟩ (ih fun a ha' => g a (List.mem_cons_of_mem _ ha'))
    exact (rep_calls (P' := fun _ => False) q).move (fun _ _ => trivial) (fun _ _ z => z.elim) ht
theorem PenL.rep {H0 H : Hp} {rs : List (List Stop)} {as : List Addr} (t : PenL H0 H rs as) : RepL (New H0) H (rs.map rideD) (as.map V.ref) := by
  induction t with
  | nil => exact .nilI
  | cons r _ ih =>
    obtain ⟨h0, ts, ha, q⟩ := r
    exact .consI (.lstI h0 ha (rep_calls q)) ih
theorem PenL.old {H0 H : Hp} {rs : List (List Stop)} {as : List Addr} (t : PenL H0 H rs as) : ∀ a ∈ as, H0 a = none ∧ ∃ ts, H a = some (.lst ts) := by
  induction t with
  | nil => intro a h; cases h
  | cons r _ ih =>
    intro a h
    rcases List.mem_cons.mp h with rfl | h
    · obtain ⟨h0, ts, ha, _⟩ := r
      exact ⟨h0, ts, ha⟩
    · exact ih a h
theorem paired_split {α β : Type} {F : α → β → Prop} : ∀ {as : List α} {a : α} {bs : List β}, Paired F (as ++ [a]) bs → ∃ bs' b, bs = bs' ++ [b] ∧ Paired F as bs' ∧ F a b
  | [], _, _, .cons r .nil => ⟨[], _, rfl, .nil, r⟩
  | _ :: _, _, _, .cons r t => by
    obtain ⟨bs', b, rfl, p, q⟩ := paired_split t
    exact ⟨_ :: bs', b, rfl, .cons r p, q⟩
theorem pairwise_snoc {α : Type} {R : α → α → Prop} {l : List α} {x : α} (h : l.Pairwise R) (g : ∀ y ∈ l, R y x) : (l ++ [x]).Pairwise R := by
  rw [List.pairwise_append]
  exact ⟨h, List.pairwise_singleton _ _, fun a ha b hb => by rw [List.mem_singleton.mp hb]; exact g a ha⟩

theorem sc_law_drawn : FnScope ["_law_cells", "_law_count", "_law_rides", "_law_now", "_law_k", "_law_near", "_law_far", "_law_gap", "_law_leave"] ["_law_cells", "_law_count"] (defScope s_law_drawn) := ⟨rfl, rfl, rfl, by decide +kernel, rfl, by decide +kernel, by decide +kernel⟩
theorem ok_law_drawn (d : DefOk K mg "_law_drawn" s_law_drawn ["_law_cells", "_law_count"]) (B : Blt mg) : Cal P w K mg base (k + 1) "_law_drawn" ["_law_cells", "_law_count"] (spDrawn K) := by
  refine d.cal sc_law_drawn (fun vs H Q E h => ?_) (fun f cdv A outer s H vs Q E hr h => ?_)
  · obtain ⟨a, ns, n, rfl, _⟩ := h
    rfl
  obtain ⟨a, ns, n, rfl, hS, hz, hn, q⟩ := h
  refine ⟨_, (pss_cons (ps_set (i := 2) sc_law_drawn.nd rfl (Or.inl rfl) (pe_lst pa_nil))
    (pss_cons (ps_set (i := 3) sc_law_drawn.nd rfl (Or.inl rfl) pe_int)
    (pss_cons (ps_for PassesOwn.never rfl (pi_range1 rfl B.range (pa_cons (pe_callB (call_lenK (K := K) rfl) rfl B.len bt_len (pa_cons (pv 0) pa_nil)) pa_nil)) (pg_name (i := 4) sc_law_drawn.nd rfl (Or.inl rfl)) (pss_cons (ps_set (i := 5) sc_law_drawn.nd rfl (Or.inl rfl) (pe_ix (ix_listK (K := K) rfl) (pv 0) (pe_op op_mod (pe_op op_add (pv 4) pe_int) (pe_callB (call_lenK (K := K) rfl) rfl B.len bt_len (pa_cons (pv 0) pa_nil))) (fun _ _ => rfl)))
    (pss_cons (ps_set (i := 6) sc_law_drawn.nd rfl (Or.inl rfl) (pe_ix (ix_listK (K := K) rfl) (pv 0) (pe_op op_mod (pe_op op_add (pv 4) pe_int) (pe_callB (call_lenK (K := K) rfl) rfl B.len bt_len (pa_cons (pv 0) pa_nil))) (fun _ _ => rfl)))
    (pss_cons (ps_set (i := 7) sc_law_drawn.nd rfl (Or.inl rfl) (pe_op op_add (pe_op op_add pe_int (pe_op op_mod (pv 5) pe_int)) (pe_op op_mul (pe_op op_pow pe_int pe_int) (pe_callTy call_int1 rfl B.int bt_int (pa_cons (pe_cmpR op_eq (pe_op op_mod (pe_ix (ix_listK (K := K) rfl) (pv 0) (pv 4) (fun _ _ => rfl)) pe_int) pe_int (nomark _)) pa_nil)))))
    (pss_cut (ps_if (pt_cmpR op_eq (pe_op op_mod (pe_ix (ix_listK (K := K) rfl) (pv 0) (pv 4) (fun _ _ => rfl)) pe_int) pe_int (nomark _)) (pss_one (ps_set (i := 7) sc_law_drawn.nd rfl (Or.inl rfl) (pe_op op_add pe_int (pe_op op_mod (pv 5) (pe_op op_pow pe_int pe_int))))) pss_nil)
    (pss_cut (ps_if (pt_mid (PW.pt (pw_or (pt_cmpR op_eq (pe_op op_mod (pe_ix (ix_listK (K := K) rfl) (pv 0) (pv 4) (fun _ _ => rfl)) pe_int) pe_int (nomark _)) (pw_or1 (pt_cmpR (op_eqNilK (K := K) rfl hr.units0) (pv 2) (pe_lst pa_nil) (nomark _)))))) (pss_cons (ps_set (i := 3) sc_law_drawn.nd rfl (Or.inl rfl) (pe_op op_sub (pe_op op_mod (pe_op op_add (pe_op op_fdiv (pv 5) pe_int) (pe_op op_mul pe_int (pv 4))) pe_int) pe_int))
    (pss_cut (ps_if (pt_cmpR op_eq (pe_op op_mod (pe_ix (ix_listK (K := K) rfl) (pv 0) (pv 4) (fun _ _ => rfl)) pe_int) pe_int (nomark _)) (pss_one (ps_set (i := 3) sc_law_drawn.nd rfl (Or.inl rfl) (pe_op op_sub (pe_op op_mod (pv 5) pe_int) pe_int))) pss_nil)
    (pss_one (ps_expr (pe_bmK (K := K) rfl PySem.F.plainAttrs_list PySem.F.slot_list_append PySem.F.type_list_append mt_append (pv 2) (pa_cons (pe_lst pa_nil) pa_nil)))))) (pss_one (ps_set (i := 3) sc_law_drawn.nd rfl (Or.inl rfl) (pe_op op_add (pv 3) (pv 7)))))
    (pss_cons (ps_set (i := 8) sc_law_drawn.nd rfl (Or.inl rfl) (pe_op op_add (pv 3) (pe_ix (ix_listK (K := K) rfl) (pe_lst (pa_cons (pe_op op_mod (pe_op op_fdiv (pe_ix (ix_listK (K := K) rfl) (pv 0) (pv 4) (fun _ _ => rfl)) pe_int) pe_int) (pa_cons (pe_op op_mod (pv 5) pe_int) pa_nil))) (pe_callTy call_int1 rfl B.int bt_int (pa_cons (pe_cmpR op_eq (pe_op op_mod (pe_ix (ix_listK (K := K) rfl) (pv 0) (pv 4) (fun _ _ => rfl)) pe_int) pe_int (nomark _)) pa_nil)) (fun _ _ => rfl))))
    (pss_cons (ps_expr (pe_bmK (K := K) rfl PySem.F.plainAttrs_list PySem.F.slot_list_append PySem.F.type_list_append mt_append (pe_ix (ix_listK (K := K) rfl) (pv 2) (pe_un un_neg pe_int) (fun _ _ => rfl)) (pa_cons (pe_tup (pa_cons (pe_op op_mod (pe_op op_add (pv 6) (pv 4)) (pv 1)) (pa_cons (pv 3) (pa_cons (pv 8) pa_nil)))) pa_nil)))
    (pss_one (ps_set (i := 3) sc_law_drawn.nd rfl (Or.inl rfl) (pv 8)))))))))))
    (pss_one (ps_ret (pv 2)))))), ?_⟩
  have hlen : (ns.map V.int).length = ns.length := List.length_map _
  refine ⟨small (by simp), fun R hR => ?_⟩
  have hS0 : SqL K (upd H R (.lst [])) a (ns.map V.int) := (Same.new hR _).seq hS
  refine ⟨_, rfl, a, _, rfl, .inl hS0, _, rfl, by omega, by rw [hlen]; omega, ?_⟩
  refine for_range (lo := 0) (n := (((ns.map V.int).length : Nat) : Int).toNat) (fun i σ H' => ∃ now o4 o5 o6 o7 o8 rs as, σ = [some (.ref a), some (.int n), some (.ref R), some (.int now), o4, o5, o6, o7, o8] ∧ Same H H' ∧ H' R = some (.lst (as.map V.ref)) ∧ PenL H H' rs as ∧ as.Nodup ∧ R ∉ as ∧
    (∀ r ∈ rs, OkRide n r) ∧ (∀ rs' r, rs = rs' ++ [r] → ∀ c ∈ r, c.2.2 ≤ now) ∧ total rs = i) ⟨0, _, _, _, _, _, [], [], rfl, Same.new hR _, upd_same, .nil, List.nodup_nil, by simp, by simp, by simp, rfl⟩ ?_ ?_
  · rintro i σ H1 hi ⟨now, o4, o5, o6, o7, o8, rs, as, rfl, hS1, hR1, hp, hnd, hRas, hok, hlast, htot⟩
    rw [hlen] at hi
    have hi' : i < ns.length := by omega
    have hA : SqL K H1 a (ns.map V.int) := hS1.seq hS
    have hpos : (0 : Int) < (((ns.map V.int).length : Nat) : Int) := by rw [hlen]; omega
    have m1 := Int.emod_nonneg (0 + (i : Int) + 1) (Int.ne_of_gt hpos)
    have m2 := Int.emod_lt_of_pos (0 + (i : Int) + 1) hpos
    have m3 := Int.emod_nonneg (0 + (i : Int) + 2) (Int.ne_of_gt hpos)
    have m4 := Int.emod_lt_of_pos (0 + (i : Int) + 2) hpos
    obtain ⟨near, hnear⟩ := at_cell (ns := ns) m1 (by rw [hlen] at m2 ⊢; exact m2)
    obtain ⟨far, hfar⟩ := at_cell (ns := ns) m3 (by rw [hlen] at m4 ⊢; exact m4)
    obtain ⟨cell, hcell⟩ := at_cell (ns := ns) (j := 0 + (i : Int)) (by omega) (by omega)
    -- near, far
    refine ⟨_, rfl, _, rfl, _, _, rfl, rfl, _, rfl, a, _, rfl, .inl hA, _, _, rfl, rfl, hpos, a, _, _, _, rfl, rfl, hA, hnear, ?_⟩
    refine ⟨_, rfl, _, rfl, _, _, rfl, rfl, _, rfl, a, _, rfl, .inl hA, _, _, rfl, rfl, hpos, a, _, _, _, rfl, rfl, hA, hfar, ?_⟩
    -- gap
    refine ⟨_, rfl, _, _, rfl, rfl, (by decide : (0 : Int) < 4), _, _, rfl, rfl, _, _, rfl, rfl, ⟨by decide, by decide, by decide⟩, _, rfl, _, rfl, a, _, _, _, rfl, rfl, hA, hcell, _, _, rfl, rfl, (by decide : (0 : Int) < 41), rfl, .inr ⟨_, rfl, _, _, rfl, rfl, ?_, _, _, rfl, rfl, ?_⟩⟩
    · refine .inl ⟨?_, ?_⟩ <;> decide
    have n4 := Int.emod_nonneg near (show (4 : Int) ≠ 0 by decide)
    have n60 := Int.emod_nonneg near (show (10 : Int) ^ (60 : Int).toNat ≠ 0 by decide)
    -- the gap is one at least
    refine ⟨fun σ' H' => ∃ gap, 1 ≤ gap ∧ σ' = [some (.ref a), some (.int n), some (.ref R), some (.int now), some (.int (0 + (i : Int))), some (.int near), some (.int far), some (.int gap), o8] ∧ H' = H1, ?_, ?_⟩
    · refine ⟨_, rfl, _, rfl, a, _, _, _, rfl, rfl, hA, hcell, _, _, rfl, rfl, (by decide : (0 : Int) < 41), rfl, _, rfl, ite2 (fun c => ?_) (fun c => ?_)⟩
      · refine ⟨_, rfl, _, _, rfl, rfl, ⟨by decide, by decide, by decide⟩, _, _, rfl, rfl, ?_, _, _, rfl, rfl, _, ?_, rfl, rfl⟩
        · exact (by decide : (0 : Int) < 10 ^ (60 : Int).toNat)
        · omega
      · refine ⟨_, ?_, rfl, rfl⟩
        split <;> simp <;> omega
    rintro _ _ ⟨gap, hgap, rfl, rfl⟩
    -- the ride that the call goes to, all of it left ahead of now
    refine ⟨fun σ' H' => ∃ now' rs' r as' b, σ' = [some (.ref a), some (.int n), some (.ref R), some (.int now'), some (.int (0 + (i : Int))), some (.int near), some (.int far), some (.int gap), o8] ∧ Same H H' ∧ H' R = some (.lst ((as' ++ [b]).map V.ref)) ∧
      PenL H H' (rs' ++ [r]) (as' ++ [b]) ∧ (as' ++ [b]).Nodup ∧ R ∉ as' ++ [b] ∧ (∀ r ∈ rs', OkRide n r) ∧ (∀ c ∈ r, 0 ≤ c.1 ∧ c.1 < n ∧ c.2.1 ≤ c.2.2) ∧ (r.Pairwise fun c d => c.2.2 < d.2.1) ∧ (∀ c ∈ r, c.2.2 < now') ∧ total (rs' ++ [r]) = i, ?_, ?_⟩
    · have fresh : ∀ (now' : Int) (H2 : Hp), Same H H2 → H2 R = some (.lst (as.map V.ref)) → PenL H H2 rs as → ∀ p, H2 p = none →
          ∃ now'' rs' r as' b, ([some (.ref a), some (.int n), some (.ref R), some (.int now'), some (.int (0 + (i : Int))), some (.int near), some (.int far), some (.int gap), o8] : St) = [some (.ref a), some (.int n), some (.ref R), some (.int now''), some (.int (0 + (i : Int))), some (.int near), some (.int far), some (.int gap), o8] ∧ Same H (upd (upd H2 p (.lst [])) R (.lst (as.map V.ref ++ [.ref p]))) ∧ upd (upd H2 p (.lst [])) R (.lst (as.map V.ref ++ [.ref p])) R = some (.lst ((as' ++ [b]).map V.ref)) ∧
            PenL H (upd (upd H2 p (.lst [])) R (.lst (as.map V.ref ++ [.ref p]))) (rs' ++ [r]) (as' ++ [b]) ∧ (as' ++ [b]).Nodup ∧ R ∉ as' ++ [b] ∧ (∀ r ∈ rs', OkRide n r) ∧ (∀ c ∈ r, 0 ≤ c.1 ∧ c.1 < n ∧ c.2.1 ≤ c.2.2) ∧ (r.Pairwise fun c d => c.2.2 < d.2.1) ∧ (∀ c ∈ r, c.2.2 < now'') ∧ total (rs' ++ [r]) = i := by
        intro now' H2 g1 g2 g3 p hp2
        have hpR : p ≠ R := Ne.symm (ne_of_none g2 hp2)
        have hRp : upd H2 p (.lst []) R = some (.lst (as.map V.ref)) := by rw [upd_ne (Ne.symm hpR)]; exact g2
        have pas : p ∉ as := fun z => by
          obtain ⟨_, ts, e⟩ := g3.old p z
          rw [hp2] at e; cases e
        refine ⟨now', rs, [], as, p, rfl, (g1.trans (Same.new hp2 _)).upd hR, by rw [upd_same, List.map_append]; rfl, ?_, ?_, ?_, hok, by simp, List.Pairwise.nil, by simp, by rw [total_snoc, htot]; rfl⟩
        · refine Paired.snoc (PenL.move (fun b hb ts e => ?_) (fun t xs e => ?_) g3) ⟨g1.free hp2, [], ?_, .nilI⟩
          · rw [upd_ne (fun z : b = R => hRas (z ▸ hb)), upd_ne (ne_of_none e hp2)]; exact e
          · rw [upd_ne (ne_of e g2 (by simp)), upd_ne (ne_of_none e hp2)]; exact e
          · rw [upd_ne hpR, upd_same]
        · rw [List.nodup_append]
          exact ⟨hnd, by simp, fun x hx y hy => by rw [List.mem_singleton.mp hy]; exact fun z => pas (z ▸ hx)⟩
        · intro z
          rcases List.mem_append.mp z with z | z
          · exact hRas z
          · exact hpR (List.mem_singleton.mp z).symm
      have asl : as.length = rs.length := hp.length.symm
      have hrl : rs.length ≤ total rs := rides_le hok
      refine ⟨fun b H' => Same H H' ∧ H' R = some (.lst (as.map V.ref)) ∧ PenL H H' rs as ∧ (b = false → as ≠ []), ?_, ?_⟩
      · refine ⟨_, rfl, _, rfl, a, _, _, _, rfl, rfl, hA, hcell, _, _, rfl, rfl, (by decide : (0 : Int) < 5), rfl, _, rfl, ite2 (fun c => ⟨hS1, hR1, hp, fun z => by cases z⟩) (fun c => ?_)⟩
        refine ⟨_, rfl, small (by simp), fun e he => ⟨R, e, _, rfl, rfl, SqL.of (by rw [upd_ne (ne_of_none hR1 he)]; exact hR1), SqL.of upd_same, _, rfl, ?_⟩⟩
        refine ⟨hS1.trans (Same.new he _), by rw [upd_ne (ne_of_none hR1 he)]; exact hR1, PenL.move (fun b _ ts h => by rw [upd_ne (ne_of_none h he)]; exact h) (fun b xs h => new_tup he h) hp, fun z e => ?_⟩
        rw [e] at z
        exact absurd z (by decide)
      rintro bb H2 ⟨g1, g2, g3, gne⟩
      have hA2 : SqL K H2 a (ns.map V.int) := g1.seq hS
      refine ite2 (fun c => ?_) (fun c => ?_)
      · refine ⟨_, rfl, _, _, rfl, rfl, ⟨by decide, by decide⟩, _, rfl, _, _, rfl, rfl, .inl ⟨by decide, by decide⟩, _, _, rfl, rfl, _, _, rfl, rfl, (by decide : (0 : Int) < 14), _, _, rfl, rfl, ?_⟩
        refine ⟨fun σ' H' => ∃ now', σ' = [some (.ref a), some (.int n), some (.ref R), some (.int now'), some (.int (0 + (i : Int))), some (.int near), some (.int far), some (.int gap), o8] ∧ H' = H2, ?_, ?_⟩
        · refine ⟨_, rfl, _, rfl, a, _, _, _, rfl, rfl, hA2, hcell, _, _, rfl, rfl, (by decide : (0 : Int) < 17), rfl, _, rfl, ite2 (fun c => ?_) (fun c => ?_)⟩
          · exact ⟨_, rfl, _, _, rfl, rfl, (by decide : (0 : Int) < 2001), _, _, rfl, rfl, _, rfl, rfl⟩
          · exact ⟨_, rfl, rfl⟩
        rintro _ _ ⟨now', rfl, rfl⟩
        refine ⟨_, rfl, .inl ⟨rfl, _, SqL.of g2⟩, small (by simp), fun p hp2 => ⟨R, as.map V.ref, _, rfl, rfl, ?_, ?_, ?_⟩⟩
        · rw [upd_ne (ne_of_none g2 hp2)]; exact g2
        · rw [List.length_map]; exact smaller (by omega)
        · exact fresh now' _ g1 g2 g3 p hp2
      · have hbb : bb = false := by cases bb <;> simp_all
        refine ⟨_, rfl, _, rfl, _, _, rfl, rfl, ?_⟩
        rcases paired_snoc g3 with ⟨_, z⟩ | ⟨rs', r, as', b, rfl, rfl, _, _⟩
        · exact absurd z (gne hbb)
        have hr := hok r (List.mem_append_right _ List.mem_cons_self)
        refine ⟨now + gap, rs', r, as', b, rfl, g1, g2, g3, hnd, hRas, fun r' hr' => hok r' (List.mem_append_left _ hr'), hr.each, hr.rise, fun c' hc' => ?_, htot⟩
        have := hlast rs' r rfl c' hc'
        omega
    rintro _ H2 ⟨now', rs', r, as', b, rfl, g1, g2, g3, g4, g5, g6, g7, g8, g9, g10⟩
    have hA2 : SqL K H2 a (ns.map V.int) := g1.seq hS
    -- leave
    have l3 := Int.emod_nonneg (cell / 5) (show (3 : Int) ≠ 0 by decide)
    have l90 := Int.emod_nonneg near (show (90 : Int) ≠ 0 by decide)
    refine ⟨_, rfl, _, rfl, _, rfl, a, _, _, _, rfl, rfl, hA2, hcell, _, _, rfl, rfl, ⟨by decide, by decide⟩, _, _, rfl, rfl, (by decide : (0 : Int) < 3), _, rfl, _, _, rfl, rfl, (by decide : (0 : Int) < 90), small (by simp), fun t ht => ?_⟩
    have hA3 : SqL K (upd H2 t (.lst [.int (cell / 5 % 3), .int (near % 90)])) a (ns.map V.int) := (Same.new ht _).seq hA2
    refine ⟨_, rfl, _, rfl, a, _, _, _, rfl, rfl, hA3, hcell, _, _, rfl, rfl, (by decide : (0 : Int) < 19), rfl, .inr ⟨_, rfl, ?_⟩⟩
    have hpick : ∃ z, 0 ≤ z ∧ atI ([.int (cell / 5 % 3), .int (near % 90)] : List V) (if decide (V.int (cell % 19) = V.int 6) then 1 else 0) = some (.int z) := by
      by_cases c : V.int (cell % 19) = V.int 6
      · rw [decide_eq_true c]; exact ⟨near % 90, l90, rfl⟩
      · rw [decide_eq_false c]; exact ⟨cell / 5 % 3, l3, rfl⟩
    obtain ⟨z, hz0, hpick⟩ := hpick
    refine ⟨t, _, _, _, rfl, rfl, SqL.of upd_same, hpick, _, _, rfl, rfl, ?_⟩
    -- the call is put to the last ride
    have e2 : upd H2 t (.lst [.int (cell / 5 % 3), .int (near % 90)]) R = some (.lst ((as' ++ [b]).map V.ref)) := by rw [upd_ne (ne_of_none g2 ht)]; exact g2
    have s3 : Same H (upd H2 t (.lst [.int (cell / 5 % 3), .int (near % 90)])) := g1.trans (Same.new ht _)
    have p3 : PenL H (upd H2 t (.lst [.int (cell / 5 % 3), .int (near % 90)])) (rs' ++ [r]) (as' ++ [b]) := PenL.move (fun b _ ts h => by rw [upd_ne (ne_of_none h ht)]; exact h) (fun b xs h => new_tup ht h) g3
    generalize upd H2 t (.lst [.int (cell / 5 % 3), .int (near % 90)]) = H3 at e2 s3 p3
    obtain ⟨bs', b', eb, p4, h0b, ts, hb, hts⟩ := paired_split p3
    obtain ⟨rfl, eb'⟩ := List.append_inj' eb rfl
    cases eb'
    have hlastR : atI ((as' ++ [b]).map V.ref) (-1) = some (.ref b) := by rw [List.map_append]; exact atI_last _ _
    refine ⟨_, rfl, _, rfl, R, _, _, _, rfl, rfl, SqL.of e2, hlastR, .inl ⟨rfl, _, SqL.of hb⟩, ?_⟩
    refine ⟨_, rfl, _, rfl, _, _, rfl, rfl, _, rfl, _, _, rfl, rfl, hn, _, rfl, _, rfl, small (by simp), fun u hu => ?_⟩
    have hb3 : upd H3 u (.tup [.int ((far + (0 + (i : Int))) % n), .int now', .int (now' + z)]) b = some (.lst ts) := by rw [upd_ne (ne_of_none hb hu)]; exact hb
    have htl : ts.length ≤ 1000 := by
      have := hts.length
      rw [List.length_map] at this
      rw [total_snoc] at g10
      omega
    refine ⟨b, ts, _, rfl, rfl, hb3, smaller (by omega), ?_⟩
    have hbR : b ≠ R := fun z => g5 (z ▸ List.mem_append_right _ List.mem_cons_self)
    have hbas : b ∉ as' := fun z => by
      rw [List.nodup_append] at g4
      exact g4.2.2 b z b List.mem_cons_self rfl
    refine ⟨_, rfl, now' + z, _, _, _, _, _, rs' ++ [r ++ [((far + (0 + (i : Int))) % n, now', now' + z)]], as' ++ [b], rfl, (s3.trans (Same.new hu _)).upd h0b, ?_, ?_, g4, g5, ?_, ?_, ?_⟩
    · rw [upd_ne (Ne.symm hbR), upd_ne (ne_of_none e2 hu)]; exact e2
    · refine Paired.snoc (PenL.move (fun c hc ts' e => ?_) (fun p xs e => upd_tup hb3 (new_tup hu e)) p4) ⟨h0b, ts ++ [.ref u], upd_same, ?_⟩
      · rw [upd_ne (fun z : c = b => hbas (z ▸ hc)), upd_ne (ne_of_none e hu)]; exact e
      · rw [List.map_append]
        refine RepL.snoc ((rep_calls (P' := fun _ => False) hts).move (fun _ _ => trivial) (fun _ _ z => z.elim) fun p xs e => upd_tup hb3 (new_tup hu e)) ?_
        exact rep_callI (upd_tup hb3 upd_same)
    · intro r' hr'
      rcases List.mem_append.mp hr' with hr' | hr'
      · exact g6 r' hr'
      · rw [List.mem_singleton.mp hr']
        refine ⟨by simp, fun c hc => ?_, pairwise_snoc g8 fun y hy => g9 y hy⟩
        rcases List.mem_append.mp hc with hc | hc
        · exact g7 c hc
        · rw [List.mem_singleton.mp hc]
          exact ⟨Int.emod_nonneg _ (Int.ne_of_gt hn), Int.emod_lt_of_pos _ hn, by show now' ≤ now' + z; omega⟩
    · intro rs2 r2 e2 c hc
      obtain ⟨_, er⟩ := List.append_inj' e2 rfl
      cases er
      rcases List.mem_append.mp hc with hc | hc
      · have := g9 c hc
        omega
      · rw [List.mem_singleton.mp hc]
        exact Int.le_refl _
    · rw [total_snoc] at g10 ⊢
      rw [List.length_append]
      simp only [List.length_singleton]
      omega
  · rintro σ H1 ⟨now, o4, o5, o6, o7, o8, rs, as, rfl, hS1, hR1, hp, hnd, hRas, hok, hlast, htot⟩
    refine ⟨_, rfl, q _ H1 rs hS1 (.lstI hR hR1 hp.rep) hok ?_⟩
    rw [htot, hlen]; simp
end
/-! ### small helpers -/
theorem cutV_take (xs : List V) (n : Nat) (h : n ≤ xs.length) : cutV xs none (some (n : Int)) = xs.take n := by
  unfold cutV
  rw [HT.sIx_none, HT.sIx_nat, Nat.min_eq_left h]
  simp
theorem cutV_drop (xs : List V) (n : Nat) (h : n ≤ xs.length) : cutV xs (some (n : Int)) none = xs.drop n := by
  unfold cutV
  rw [HT.sIx_none, HT.sIx_nat, Nat.min_eq_left h]
  exact List.take_of_length_le (by rw [List.length_drop]; omega)
theorem ixN_nat {n j : Nat} (h : j < n) : ixN n (j : Int) = some j := by
  unfold ixN
  rw [if_pos (by omega), if_pos (by omega)]; simp
theorem RepL.set {P : Addr → Prop} {H : Hp} : ∀ (n : Nat) {ds : List D} {xs : List V} {d : D} {x : V}, RepL P H ds xs → Rep P H d x → RepL P H (ds.set n d) (xs.set n x)
  | _, [], _, _, _, r, _ => by rw [r.nilE]; exact .nilI
  | 0, _ :: _, _, _, _, r, h => by
    obtain ⟨y, t, rfl, _, q⟩ := r.consE
    exact .consI h q
  | n + 1, _ :: _, _, _, _, r, h => by
    obtain ⟨y, t, rfl, h1, q⟩ := r.consE
    exact .consI h1 (RepL.set n q h)
theorem atI_natE {α : Type} {xs : List α} {k : Int} {j : Nat} {v : α} (h : xs[j]? = some v) (e : k = (j : Int)) : atI xs k = some v := by subst e; exact atI_nat h
theorem ixN_natE {n j : Nat} {k : Int} (h : j < n) (e : k = (j : Int)) : ixN n k = some j := by subst e; exact ixN_nat h
theorem PenL.set {H0 H : Hp} {rs : List (List Stop)} {as : List Addr} (t : PenL H0 H rs as) : ∀ {n : Nat} {b : Addr} {r' : List Stop} {ts' : List V}, as.Nodup → as[n]? = some b → RepL Al (upd H b (.lst ts')) (r'.map callD) ts' → PenL H0 (upd H b (.lst ts')) (rs.set n r') as := by
  induction t with
  | nil => intro n b r' ts' _ e; simp at e
  | @cons r a rs as h t ih =>
    intro n b r' ts' nd e q
    have nd2 := List.nodup_cons.mp nd
    have isl : ∃ us, H b = some (.lst us) := by
      obtain ⟨_, us, hus⟩ := PenL.old (.cons h t) b (List.mem_of_getElem? e)
      exact ⟨us, hus⟩
    obtain ⟨us, hus⟩ := isl
    have tups : ∀ p xs, H p = some (.tup xs) → upd H b (.lst ts') p = some (.tup xs) := fun p xs z => by rw [upd_ne (ne_of z hus (by simp))]; exact z
    cases n with
    | zero =>
      simp at e
      subst e
      obtain ⟨h0, _⟩ := h
      exact .cons ⟨h0, ts', upd_same, q⟩ (PenL.move (fun c hc ts z => by rw [upd_ne (show c ≠ a from fun y => nd2.1 (y ▸ hc))]; exact z) tups t)
    | succ n =>
      have e' : as[n]? = some b := by simpa using e
      obtain ⟨h0, ts, hts, hq⟩ := h
      have ne : a ≠ b := fun y => nd2.1 (y ▸ List.mem_of_getElem? e')
      exact .cons ⟨h0, ts, by rw [upd_ne ne]; exact hts, (rep_calls (P' := fun _ => False) hq).move (fun _ _ => trivial) (fun _ _ z => z.elim) tups⟩ (ih nd2.2 e' q)
theorem PenL.get {H0 H : Hp} {rs : List (List Stop)} {as : List Addr} (t : PenL H0 H rs as) : ∀ {n : Nat} {r : List Stop}, rs[n]? = some r → ∃ a, as[n]? = some a ∧ H0 a = none ∧ ∃ ts, H a = some (.lst ts) ∧ RepL Al H (r.map callD) ts := by
  induction t with
  | nil => intro n r e; simp at e
  | cons h _ ih =>
    intro n r e
    cases n with
    | zero => simp at e; subst e; exact ⟨_, rfl, h⟩
    | succ n =>
      obtain ⟨a, e1, e2⟩ := ih (n := n) (r := r) (by simpa using e)
      exact ⟨a, by simpa using e1, e2⟩
section
variable {P : Program} {w : World} {K : PySem.W.Frag} {mg : Str → Option Value} {base : Heap} {k : Nat}
def intsD (ns : List Int) : D := .lst (ns.map D.int)
def spSlow (K : PySem.W.Frag) : Sp := fun vs H Q _ => ∃ (a : Addr) (ns : List Int) (n : Int), vs = [.ref a, .int n] ∧ SqL K H a (ns.map V.int) ∧ 0 ≤ n ∧ n ≤ 1000 ∧
  ∀ (p : Addr) (H' : Hp) (ps : List Int), Same H H' → H p = none → H' p = some (.lst (ps.map V.int)) → (ps.length : Int) = n → (∀ z ∈ ps, 0 ≤ z) → Q (.ref p) H'
theorem sc_law_slow : FnScope ["_law_script", "_law_count", "_law_made", "_law_j", "_law_cell", "_law_pick"] ["_law_script", "_law_count"] (defScope s_law_slow) := ⟨rfl, rfl, rfl, by decide +kernel, rfl, by decide +kernel, by decide +kernel⟩
theorem ok_law_slow (d : DefOk K mg "_law_slow" s_law_slow ["_law_script", "_law_count"]) (B : Blt mg) (c_law_at : Cal P w K mg base k "_law_at" ["_law_script", "_law_k"] (spAt K)) : Cal P w K mg base (k + 1) "_law_slow" ["_law_script", "_law_count"] (spSlow K) := by
  refine d.cal sc_law_slow (fun vs H Q E h => ?_) (fun f cdv A outer s H vs Q E hr h => ?_)
  · obtain ⟨a, ns, n, rfl, _⟩ := h
    rfl
  obtain ⟨a, ns, n, rfl, hS, hn0, hn1, q⟩ := h
  refine ⟨_, (pss_cons (ps_set (i := 2) sc_law_slow.nd rfl (Or.inl rfl) (pe_lst pa_nil))
    (pss_cons (ps_for PassesOwn.never rfl (pi_range1 rfl B.range (pa_cons (pv 1) pa_nil)) (pg_name (i := 3) sc_law_slow.nd rfl (Or.inl rfl)) (pss_cons (ps_set (i := 4) sc_law_slow.nd rfl (Or.inl rfl) (pe_callC c_law_at hr rfl (pa_cons (pv 0) (pa_cons (pe_op op_add pe_int (pv 3)) pa_nil))))
    (pss_cons (ps_set (i := 5) sc_law_slow.nd rfl (Or.inl rfl) (pe_op op_add (pe_callTy call_int1 rfl B.int bt_int (pa_cons (pe_cmpR op_eq (pe_op op_mod (pe_op op_add (pv 4) (pv 3)) pe_int) pe_int (nomark _)) pa_nil)) (pe_callTy call_int1 rfl B.int bt_int (pa_cons (pe_cmpR op_eq (pe_op op_mod (pe_op op_add (pv 4) (pv 3)) pe_int) pe_int (nomark _)) pa_nil))))
    (pss_one (ps_expr (pe_bmK (K := K) rfl PySem.F.plainAttrs_list PySem.F.slot_list_append PySem.F.type_list_append mt_append (pv 2) (pa_cons (pe_ix (ix_listK (K := K) rfl) (pe_lst (pa_cons (pe_op op_mod (pe_op op_add (pe_op op_fdiv (pv 4) pe_int) (pv 3)) pe_int) (pa_cons (pe_op op_mod (pv 4) pe_int) (pa_cons (pe_op op_mod (pv 4) (pe_op op_pow pe_int pe_int)) pa_nil)))) (pv 5) (fun _ _ => rfl)) pa_nil)))))))
    (pss_one (ps_ret (pv 2))))), ?_⟩
  refine ⟨small (by simp), fun R hR => ?_⟩
  refine ⟨_, rfl, _, rfl, by omega, by omega, ?_⟩
  refine for_range (lo := 0) (n := n.toNat) (fun i σ H' => ∃ o3 o4 o5 ps, σ = [some (.ref a), some (.int n), some (.ref R), o3, o4, o5] ∧ Same H H' ∧ H' R = some (.lst (ps.map V.int)) ∧ ps.length = i ∧ ∀ z ∈ ps, 0 ≤ z) ⟨_, _, _, [], rfl, Same.new hR _, upd_same, rfl, by simp⟩ ?_ ?_
  · rintro i σ H1 hi ⟨o3, o4, o5, ps, rfl, hS1, hR1, hl, hnn⟩
    have hA : SqL K H1 a (ns.map V.int) := hS1.seq hS
    refine ⟨_, rfl, _, rfl, _, _, rfl, rfl, a, ns, _, rfl, hA, by omega, ?_⟩
    generalize ns.getD (2 + (0 + (i : Int))).toNat 0 = cell
    refine ⟨_, rfl, _, rfl, _, _, rfl, rfl, _, _, rfl, rfl, (by decide : (0 : Int) < 13), rfl, .inr ⟨_, rfl, _, rfl, _, rfl, _, _, rfl, rfl, _, _, rfl, rfl, (by decide : (0 : Int) < 39), rfl, .inr ⟨_, rfl, _, _, rfl, rfl, ?_⟩⟩⟩
    refine ⟨_, rfl, .inl ⟨rfl, _, SqL.of hR1⟩, ?_⟩
    refine ⟨_, rfl, _, _, rfl, rfl, ⟨by decide, by decide⟩, _, rfl, _, _, rfl, rfl, _, _, rfl, rfl, (by decide : (0 : Int) < 3), _, rfl, _, _, rfl, rfl, (by decide : (0 : Int) < 60), _, rfl, _, _, rfl, rfl, ⟨by decide, by decide, by decide⟩, _, _, rfl, rfl, (by decide : (0 : Int) < 10 ^ (60 : Int).toNat), small (by simp), fun t ht => ?_⟩
    have l3 := Int.emod_nonneg (cell / 3 + (0 + (i : Int))) (show (3 : Int) ≠ 0 by decide)
    have l60 := Int.emod_nonneg cell (show (60 : Int) ≠ 0 by decide)
    have lbig := Int.emod_nonneg cell (show (10 : Int) ^ (60 : Int).toNat ≠ 0 by decide)
    obtain ⟨z, hz0, hpick⟩ : ∃ z : Int, 0 ≤ z ∧ atI ([.int ((cell / 3 + (0 + (i : Int))) % 3), .int (cell % 60), .int (cell % 10 ^ (60 : Int).toNat)] : List V) ((if decide (V.int ((cell + (0 + (i : Int))) % 13) = V.int 4) then 1 else 0) + (if decide (V.int ((cell + (0 + (i : Int))) % 39) = V.int 17) then 1 else 0)) = some (.int z) := by
      cases decide (V.int ((cell + (0 + (i : Int))) % 13) = V.int 4) <;> cases decide (V.int ((cell + (0 + (i : Int))) % 39) = V.int 17)
      · exact ⟨_, l3, rfl⟩
      · exact ⟨_, l60, rfl⟩
      · exact ⟨_, l60, rfl⟩
      · exact ⟨_, lbig, rfl⟩
    refine ⟨_, rfl, t, _, _, _, rfl, rfl, SqL.of upd_same, hpick, ?_⟩
    have e1 : upd H1 t (.lst [.int ((cell / 3 + (0 + (i : Int))) % 3), .int (cell % 60), .int (cell % 10 ^ (60 : Int).toNat)]) R = some (.lst (ps.map V.int)) := by rw [upd_ne (ne_of_none hR1 ht)]; exact hR1
    refine ⟨R, _, _, rfl, rfl, e1, smaller (by rw [List.length_map]; omega), _, _, _, ps ++ [z], rfl, (hS1.trans (Same.new ht _)).upd hR, by rw [upd_same, List.map_append]; rfl, by simp [hl], fun y hy => ?_⟩
    rcases List.mem_append.mp hy with hy | hy
    · exact hnn y hy
    · rw [List.mem_singleton.mp hy]; exact hz0
  · rintro σ H1 ⟨o3, o4, o5, ps, rfl, hS1, hR1, hl, hnn⟩
    exact ⟨_, rfl, q R H1 ps hS1 hR hR1 (by omega) hnn⟩
end
/-! ### rides read by their places; the checks -/
section
variable {P : Program} {w : World} {K : PySem.W.Frag} {mg : Str → Option Value} {base : Heap} {k : Nat}
def rideN (rs : List (List Stop)) (i : Int) : List Stop := rs.getD i.toNat []
def stopN (r : List Stop) (j : Int) : Stop := r.getD j.toNat (0, 0, 0)
def callN (rs : List (List Stop)) (i j : Int) : Stop := stopN (rideN rs i) j
theorem of_dec {c : Prop} [Decidable c] (h : ¬ decide c = true) : ¬ c := of_decide_eq_false (Bool.eq_false_iff.mpr h)

def spIsStop (K : PySem.W.Frag) : Sp := fun vs H Q _ => ∃ (p : Addr) (xs : List V) (s : Int), vs = [.ref p, .int s] ∧ SqL K H p xs ∧ Q (.bl (decide (0 ≤ s) && decide (s < (xs.length : Int)))) H
/-- times as they must be -/
def Keeps (r : List Stop) : Prop := (∀ c ∈ r, c.2.1 ≤ c.2.2) ∧ r.Pairwise fun c d => c.2.2 < d.2.1
def spKeeps : Sp := fun vs H Q _ => ∃ (v : V) (r : List Stop), vs = [v] ∧ Rep Al H (rideD r) v ∧ (Keeps r → Q (.bl true) H) ∧ (¬ Keeps r → Q (.bl false) H)
def spCheckRide (K : PySem.W.Frag) : Sp := fun vs H Q _ => ∃ (p : Addr) (xs : List V) (v : V) (r : List Stop), vs = [.ref p, v] ∧ SqL K H p xs ∧ Rep Al H (rideD r) v ∧ OkRide xs.length r ∧ Q .non H
def spCheckRides (K : PySem.W.Frag) : Sp := fun vs H Q _ => ∃ (p : Addr) (xs : List V) (v : V) (rs : List (List Stop)), vs = [.ref p, v] ∧ SqL K H p xs ∧ Rep Al H (ridesD rs) v ∧ (∀ r ∈ rs, OkRide xs.length r) ∧ Q .non H
def spCheckStop (K : PySem.W.Frag) : Sp := fun vs H Q _ => ∃ (p : Addr) (xs : List V) (s : Int), vs = [.ref p, .int s] ∧ SqL K H p xs ∧ 0 ≤ s ∧ s < (xs.length : Int) ∧ Q .non H
def spCheckAsk (K : PySem.W.Frag) : Sp := fun vs H Q _ => ∃ (p : Addr) (xs : List V) (v : V) (rs : List (List Stop)) (s g : Int), vs = [.ref p, v, .int s, .int g] ∧ SqL K H p xs ∧ Rep Al H (ridesD rs) v ∧ (∀ r ∈ rs, OkRide xs.length r) ∧ (0 ≤ s ∧ s < (xs.length : Int)) ∧ (0 ≤ g ∧ g < (xs.length : Int)) ∧ Q .non H

theorem sc_is_stop : FnScope ["pauses", "stop"] ["pauses", "stop"] (defScope s_is_stop) := ⟨rfl, rfl, rfl, by decide +kernel, rfl, by decide +kernel, by decide +kernel⟩
theorem ok_is_stop (d : DefOk K mg "is_stop" s_is_stop ["pauses", "stop"]) (B : Blt mg) : Cal P w K mg base (k + 1) "is_stop" ["pauses", "stop"] (spIsStop K) := by
  refine d.cal sc_is_stop (fun vs H Q E h => ?_) (fun f cdv A outer s H vs Q E hr h => ?_)
  · obtain ⟨p, xs, s, rfl, _⟩ := h
    rfl
  obtain ⟨p, xs, s, rfl, hS, q⟩ := h
  refine ⟨_, (pss_one (ps_ret (pe_chain op_le op_lt pe_int (pv 1) (pe_callB (call_lenK (K := K) rfl) rfl B.len bt_len (pa_cons (pv 0) pa_nil))))), ?_⟩
  refine ⟨_, rfl, _, _, rfl, rfl, _, rfl, ite2 (fun c => ?_) (fun c => ?_)⟩
  · refine ⟨_, rfl, p, xs, rfl, .inl hS, _, _, rfl, rfl, ?_⟩
    rw [c, Bool.true_and] at q
    exact q
  · rw [Bool.eq_false_iff.mpr c, Bool.false_and] at q
    exact q

theorem sc_keeps_time : FnScope ["ride", "left", "stop", "come", "leave"] ["ride"] (defScope s_keeps_time) := ⟨rfl, rfl, rfl, by decide +kernel, rfl, by decide +kernel, by decide +kernel⟩
theorem ok_keeps_time (d : DefOk K mg "keeps_time" s_keeps_time ["ride"]) (B : Blt mg) : Cal P w K mg base (k + 1) "keeps_time" ["ride"] spKeeps := by
  refine d.cal sc_keeps_time (fun vs H Q E h => ?_) (fun f cdv A outer s H vs Q E hr h => ?_)
  · obtain ⟨v, r, rfl, _⟩ := h
    rfl
  obtain ⟨v, r, rfl, hR, qt, qf⟩ := h
  refine ⟨_, (pss_cons (ps_set (i := 1) sc_keeps_time.nd rfl (Or.inl rfl) pe_non)
    (pss_cons (ps_for PassesOwn.never rfl (pi_listK (K := K) rfl (pv 0)) (pg_tupK (K := K) (n := 3) rfl rfl (pgs_cons (pg_name (i := 2) sc_keeps_time.nd rfl (Or.inl rfl)) (pgs_cons (pg_name (i := 3) sc_keeps_time.nd rfl (Or.inl rfl)) (pgs_cons (pg_name (i := 4) sc_keeps_time.nd rfl (Or.inl rfl)) pgs_nil)))) (pss_cons (ps_if (PW.pt (pw_or (pt_cmpR op_lt (pv 4) (pv 3) (nomark _)) (pw_or1 (PW.pt (pw_and (pt_cmpR op_notN (pv 1) pe_non (nomark _)) (pw_and1 (pt_cmpR op_le (pv 3) (pv 1) (nomark _)))))))) (pss_one (ps_ret pe_bl)) pss_nil)
    (pss_one (ps_set (i := 1) sc_keeps_time.nd rfl (Or.inl rfl) (pv 4)))))
    (pss_one (ps_ret pe_bl)))), ?_⟩
  obtain ⟨a, zs, rfl, _, ha, hz⟩ := hR.lstE
  have hlz : zs.length = r.length := by rw [hz.length, List.length_map]
  refine ⟨_, rfl, a, rfl, ⟨zs, SqL.of ha⟩, ?_⟩
  refine for_list (xs := zs) (fun i σ H' => H' = H ∧ ∃ lf o2 o3 o4, σ = [some (.ref a), some lf, o2, o3, o4] ∧ (∀ c ∈ r.take i, c.2.1 ≤ c.2.2) ∧ ((r.take i).Pairwise fun c d => c.2.2 < d.2.1) ∧
    ((i = 0 ∧ lf = .non) ∨ ∃ L, lf = .int L ∧ (∀ c ∈ r.take i, c.2.2 ≤ L) ∧ ∃ j c, r[j]? = some c ∧ j < i ∧ c.2.2 = L)) ⟨rfl, _, _, _, _, rfl, by simp, by simp, .inl ⟨rfl, rfl⟩⟩ ?_ ?_ ?_
  · rintro i σ H' _ ⟨rfl, _⟩
    exact SqL.of ha
  · rintro i x σ H' hxi ⟨rfl, lf, o2, o3, o4, rfl, hea, hpw, hlf⟩
    obtain ⟨e', he', hrep⟩ := hz.getV hxi
    rw [List.getElem?_map] at he'
    obtain ⟨c, hc, rfl⟩ := Option.map_eq_some_iff.mp he'
    obtain ⟨t, rfl, ht, _⟩ := rep_call (P' := Al) hrep
    have et : r.take (i + 1) = r.take i ++ [c] := by rw [List.take_add_one, hc]; rfl
    refine ⟨t, _, rfl, SqT.of ht, rfl, _, _, rfl, _, _, rfl, _, _, rfl, rfl, ?_⟩
    refine ⟨_, rfl, _, rfl, _, _, rfl, rfl, _, rfl, ite2 (fun c1 => iteT ?_) (fun c1 => ?_)⟩
    · have c1' := of_decide_eq_true c1
      exact qf fun z => by have := z.1 c (List.mem_of_getElem? hc); omega
    have gc : ¬ c.2.2 < c.2.1 := of_dec c1
    have hea' : ∀ c' ∈ r.take (i + 1), c'.2.1 ≤ c'.2.2 := fun c' h' => by
      rw [et] at h'
      rcases List.mem_append.mp h' with h' | h'
      · exact hea c' h'
      · rw [List.mem_singleton.mp h']; omega
    rcases hlf with ⟨rfl, rfl⟩ | ⟨L, rfl, hL, j, c0, hc0, hj, hcL⟩
    · refine ⟨_, rfl, rfl, _, rfl, iteF (iteF ?_)⟩
      refine ⟨_, rfl, rfl, _, _, _, _, rfl, hea', ?_, .inr ⟨_, rfl, ?_, 0, c, hc, by omega, rfl⟩⟩
      · rw [et]; simp
      · rw [et]
        intro c' h'
        rw [show c' = c by simpa using h']
        exact Int.le_refl _
    · refine ⟨_, rfl, rfl, _, rfl, iteT ⟨_, rfl, _, rfl, _, _, rfl, rfl, _, rfl, ite2 (fun c' => ?_) (fun c' => ?_)⟩⟩
      · have z := of_decide_eq_true c'
        refine qf fun o => ?_
        have hlt := List.pairwise_iff_getElem.mp o.2 j i (List.getElem?_eq_some_iff.mp hc0).1 (List.getElem?_eq_some_iff.mp hc).1 hj
        rw [(List.getElem?_eq_some_iff.mp hc0).2, (List.getElem?_eq_some_iff.mp hc).2] at hlt
        omega
      · have z : ¬ c.2.1 ≤ L := of_dec c'
        refine ⟨_, rfl, rfl, _, _, _, _, rfl, hea', ?_, .inr ⟨_, rfl, ?_, i, c, hc, by omega, rfl⟩⟩
        · rw [et]
          exact pairwise_snoc hpw fun d hd => by have := hL d hd; omega
        · rw [et]
          intro d hd
          rcases List.mem_append.mp hd with hd | hd
          · have := hL d hd; omega
          · rw [List.mem_singleton.mp hd]; exact Int.le_refl _
  · rintro σ H' ⟨rfl, lf, _, _, _, _, hea, hpw, _⟩
    rw [hlz, List.take_length] at hea hpw
    exact qt ⟨hea, hpw⟩

end
/-! ### the checks, with what they refuse -/
section
variable {P : Program} {w : World} {K : PySem.W.Frag} {mg : Str → Option Value} {base : Heap} {k : Nat} {cNoRide cNoStop : Addr}
def spCheckRideX (K : PySem.W.Frag) (cNoRide : Addr) : Sp := fun vs H Q E => ∃ (p : Addr) (xs : List V) (v : V) (r : List Stop), vs = [.ref p, v] ∧ SqL K H p xs ∧ Rep Al H (rideD r) v ∧ (OkRide xs.length r → Q .non H) ∧ (¬ OkRide xs.length r → E (.ref cNoRide) none H)
def spCheckRidesX (K : PySem.W.Frag) (cNoRide : Addr) : Sp := fun vs H Q E => ∃ (p : Addr) (xs : List V) (v : V) (rs : List (List Stop)), vs = [.ref p, v] ∧ SqL K H p xs ∧ Rep Al H (ridesD rs) v ∧ ((∀ r ∈ rs, OkRide xs.length r) → Q .non H) ∧ (¬ (∀ r ∈ rs, OkRide xs.length r) → E (.ref cNoRide) none H)
def spCheckStopX (K : PySem.W.Frag) (cNoStop : Addr) : Sp := fun vs H Q E => ∃ (p : Addr) (xs : List V) (s : Int), vs = [.ref p, .int s] ∧ SqL K H p xs ∧ (0 ≤ s ∧ s < (xs.length : Int) → Q .non H) ∧ (¬ (0 ≤ s ∧ s < (xs.length : Int)) → E (.ref cNoStop) none H)
def StOk (n : Nat) (s : Int) : Prop := 0 ≤ s ∧ s < (n : Int)
def spCheckAskX (K : PySem.W.Frag) (cNoRide cNoStop : Addr) : Sp := fun vs H Q E => ∃ (p : Addr) (xs : List V) (v : V) (rs : List (List Stop)) (s g : Int), vs = [.ref p, v, .int s, .int g] ∧ SqL K H p xs ∧ Rep Al H (ridesD rs) v ∧ ((∀ r ∈ rs, OkRide xs.length r) → StOk xs.length s → StOk xs.length g → Q .non H) ∧
  (¬ (∀ r ∈ rs, OkRide xs.length r) → E (.ref cNoRide) none H) ∧ ((∀ r ∈ rs, OkRide xs.length r) → ¬ (StOk xs.length s ∧ StOk xs.length g) → E (.ref cNoStop) none H)
theorem sc_check_ride : FnScope ["pauses", "ride", "stop", "come", "leave"] ["pauses", "ride"] (defScope s_check_ride) := ⟨rfl, rfl, rfl, by decide +kernel, rfl, by decide +kernel, by decide +kernel⟩
theorem ok_check_rideX (d : DefOk K mg "check_ride" s_check_ride ["pauses", "ride"]) (B : Blt mg) (eNoRide : Err K mg "NoRide" cNoRide) (c_keeps_time : Cal P w K mg base k "keeps_time" ["ride"] spKeeps) (c_is_stop : Cal P w K mg base k "is_stop" ["pauses", "stop"] (spIsStop K)) :
    CalX P w K mg base (k + 1) "check_ride" ["pauses", "ride"] (spCheckRideX K cNoRide) := by
  refine d.calX sc_check_ride (fun vs H Q E h => ?_) (fun f cdv A outer s H vs Q E hr h => ?_)
  · obtain ⟨p, xs, v, r, rfl, _⟩ := h
    rfl
  obtain ⟨p, xs, v, r, rfl, hS, hR, q, qe⟩ := h
  refine ⟨_, (pss_cons (ps_if (pt_cmpR op_eq (pe_callB (call_lenK (K := K) rfl) rfl B.len bt_len (pa_cons (pv 1) pa_nil)) pe_int (nomark _)) (pss_one (ps_raise rfl rfl eNoRide.at_ eNoRide.is raises_of (pa_cons pe_str pa_nil))) pss_nil)
    (pss_cons (ps_if (pt_not (pt_val (pe_callC c_keeps_time hr rfl (pa_cons (pv 1) pa_nil)))) (pss_one (ps_raise rfl rfl eNoRide.at_ eNoRide.is raises_of (pa_cons pe_str pa_nil))) pss_nil)
    (pss_one (ps_for PassesOwn.leaving rfl (pi_listK (K := K) rfl (pv 1)) (pg_tupK (K := K) (n := 3) rfl rfl (pgs_cons (pg_name (i := 2) sc_check_ride.nd rfl (Or.inl rfl)) (pgs_cons (pg_name (i := 3) sc_check_ride.nd rfl (Or.inl rfl)) (pgs_cons (pg_name (i := 4) sc_check_ride.nd rfl (Or.inl rfl)) pgs_nil)))) (pss_one (ps_if (pt_not (pt_val (pe_callC c_is_stop hr rfl (pa_cons (pv 0) (pa_cons (pv 2) pa_nil))))) (pss_one (ps_raise rfl rfl eNoRide.at_ eNoRide.is raises_of (pa_cons pe_str pa_nil))) pss_nil)))))), ?_⟩
  obtain ⟨a, zs, rfl, _, ha, hz⟩ := hR.lstE
  have hlz : zs.length = r.length := by rw [hz.length, List.length_map]
  refine ⟨_, rfl, a, zs, rfl, .inl (SqL.of ha), rfl, _, rfl, ite2 (fun c' => ?_) (fun c' => ?_)⟩
  · have e := of_decide_eq_true c'
    injection e with e
    exact ⟨small (by simp), qe fun z => z.some (List.length_eq_zero_iff.mp (by omega))⟩
  have hne : r ≠ [] := fun z => c' (decide_eq_true (by rw [hlz, z]; rfl))
  refine ⟨_, rfl, _, r, rfl, hR, fun hk => ⟨_, rfl, iteF ?_⟩, fun hnk => ⟨_, rfl, iteT ⟨small (by simp), qe fun z => hnk ⟨fun c hc => (z.each c hc).2.2, z.rise⟩⟩⟩⟩
  refine ⟨_, rfl, a, rfl, ⟨zs, SqL.of ha⟩, ?_⟩
  refine for_list (xs := zs) (fun i σ H' => H' = H ∧ ∃ o2 o3 o4, σ = [some (.ref p), some (.ref a), o2, o3, o4] ∧ ∀ c ∈ r.take i, 0 ≤ c.1 ∧ c.1 < (xs.length : Int)) ⟨rfl, _, _, _, rfl, by simp⟩ ?_ ?_ ?_
  · rintro i σ H' _ ⟨rfl, _⟩
    exact SqL.of ha
  · rintro i x σ H' hxi ⟨rfl, o2, o3, o4, rfl, hea⟩
    obtain ⟨e', he', hrep⟩ := hz.getV hxi
    rw [List.getElem?_map] at he'
    obtain ⟨c, hc, rfl⟩ := Option.map_eq_some_iff.mp he'
    obtain ⟨t, rfl, ht, _⟩ := rep_call (P' := Al) hrep
    have et : r.take (i + 1) = r.take i ++ [c] := by rw [List.take_add_one, hc]; rfl
    refine ⟨t, _, rfl, SqT.of ht, rfl, _, _, rfl, _, _, rfl, _, _, rfl, rfl, ?_⟩
    refine ⟨_, rfl, _, rfl, p, xs, _, rfl, hS, _, rfl, ite2 (fun c1 => ?_) (fun c1 => ?_)⟩
    · refine ⟨small (by simp), qe fun z => ?_⟩
      have := z.each c (List.mem_of_getElem? hc)
      rw [decide_eq_true this.1, decide_eq_true this.2.1] at c1
      cases c1
    · have c1' : 0 ≤ c.1 ∧ c.1 < (xs.length : Int) := by simpa using c1
      refine ⟨rfl, _, _, _, rfl, fun c2 h2 => ?_⟩
      rw [et] at h2
      rcases List.mem_append.mp h2 with h2 | h2
      · exact hea c2 h2
      · rw [List.mem_singleton.mp h2]; exact c1'
  · rintro σ H' ⟨rfl, _, _, _, _, hea⟩
    rw [hlz, List.take_length] at hea
    exact q ⟨hne, fun c hc => ⟨(hea c hc).1, (hea c hc).2, hk.1 c hc⟩, hk.2⟩
theorem sc_check_stop : FnScope ["pauses", "stop"] ["pauses", "stop"] (defScope s_check_stop) := ⟨rfl, rfl, rfl, by decide +kernel, rfl, by decide +kernel, by decide +kernel⟩
theorem ok_check_stopX (d : DefOk K mg "check_stop" s_check_stop ["pauses", "stop"]) (B : Blt mg) (eNoStop : Err K mg "NoStop" cNoStop) (c_is_stop : Cal P w K mg base k "is_stop" ["pauses", "stop"] (spIsStop K)) :
    CalX P w K mg base (k + 1) "check_stop" ["pauses", "stop"] (spCheckStopX K cNoStop) := by
  refine d.calX sc_check_stop (fun vs H Q E h => ?_) (fun f cdv A outer s H vs Q E hr h => ?_)
  · obtain ⟨p, xs, s, rfl, _⟩ := h
    rfl
  obtain ⟨p, xs, s, rfl, hS, q, qe⟩ := h
  refine ⟨_, (pss_one (ps_if (pt_not (pt_val (pe_callC c_is_stop hr rfl (pa_cons (pv 0) (pa_cons (pv 1) pa_nil))))) (pss_one (ps_raise rfl rfl eNoStop.at_ eNoStop.is raises_of (pa_cons pe_str pa_nil))) pss_nil)), ?_⟩
  refine ⟨_, rfl, _, rfl, p, xs, s, rfl, hS, _, rfl, ?_⟩
  refine ite2 (fun c1 => ?_) (fun c1 => ?_)
  · refine ⟨small (by simp), qe fun z => ?_⟩
    rw [decide_eq_true z.1, decide_eq_true z.2] at c1
    cases c1
  · exact q (by simpa using c1)
theorem sc_check_rides : FnScope ["pauses", "rides", "ride"] ["pauses", "rides"] (defScope s_check_rides) := ⟨rfl, rfl, rfl, by decide +kernel, rfl, by decide +kernel, by decide +kernel⟩
theorem ok_check_ridesX (d : DefOk K mg "check_rides" s_check_rides ["pauses", "rides"]) (B : Blt mg) (c_check_ride : CalX P w K mg base k "check_ride" ["pauses", "ride"] (spCheckRideX K cNoRide)) :
    CalX P w K mg base (k + 1) "check_rides" ["pauses", "rides"] (spCheckRidesX K cNoRide) := by
  refine d.calX sc_check_rides (fun vs H Q E h => ?_) (fun f cdv A outer s H vs Q E hr h => ?_)
  · obtain ⟨p, xs, v, rs, rfl, _⟩ := h
    rfl
  obtain ⟨p, xs, v, rs, rfl, hS, hR, q, qe⟩ := h
  refine ⟨_, (pss_one (ps_for PassesOwn.leaving rfl (pi_listK (K := K) rfl (pv 1)) (pg_name (i := 2) sc_check_rides.nd rfl (Or.inl rfl)) (pss_one (ps_expr (pe_callX c_check_ride hr rfl passes_of (pa_cons (pv 0) (pa_cons (pv 2) pa_nil))))))), ?_⟩
  obtain ⟨a, zs, rfl, _, ha, hz⟩ := hR.lstE
  have hlz : zs.length = rs.length := by rw [hz.length, List.length_map]
  refine ⟨_, rfl, a, rfl, ⟨zs, SqL.of ha⟩, ?_⟩
  refine for_list (xs := zs) (fun i σ H' => H' = H ∧ (∀ r ∈ rs.take i, OkRide xs.length r) ∧ ∃ o2, σ = [some (.ref p), some (.ref a), o2]) ⟨rfl, by simp, _, rfl⟩ ?_ ?_ ?_
  · rintro i σ H' _ ⟨rfl, _⟩
    exact SqL.of ha
  · rintro i x σ H' hxi ⟨rfl, hok, o2, rfl⟩
    obtain ⟨e', he', hrep⟩ := hz.getV hxi
    rw [List.getElem?_map] at he'
    obtain ⟨r, hr1, rfl⟩ := Option.map_eq_some_iff.mp he'
    refine ⟨_, rfl, _, rfl, p, xs, x, r, rfl, hS, hrep, fun o => ⟨rfl, fun r' h' => ?_, _, rfl⟩, fun no => qe fun z => no (z r (List.mem_of_getElem? hr1))⟩
    rw [List.take_add_one, hr1] at h'
    rcases List.mem_append.mp h' with h' | h'
    · exact hok r' h'
    · rw [show r' = r by simpa using h']; exact o
  · rintro σ H' ⟨rfl, hok, _⟩
    rw [hlz, List.take_length] at hok
    exact q hok
theorem sc_check_ask : FnScope ["pauses", "rides", "start", "goal"] ["pauses", "rides", "start", "goal"] (defScope s_check_ask) := ⟨rfl, rfl, rfl, by decide +kernel, rfl, by decide +kernel, by decide +kernel⟩
theorem ok_check_askX (d : DefOk K mg "check_ask" s_check_ask ["pauses", "rides", "start", "goal"]) (B : Blt mg) (c_check_rides : CalX P w K mg base k "check_rides" ["pauses", "rides"] (spCheckRidesX K cNoRide)) (c_check_stop : CalX P w K mg base k "check_stop" ["pauses", "stop"] (spCheckStopX K cNoStop)) :
    CalX P w K mg base (k + 1) "check_ask" ["pauses", "rides", "start", "goal"] (spCheckAskX K cNoRide cNoStop) := by
  refine d.calX sc_check_ask (fun vs H Q E h => ?_) (fun f cdv A outer s H vs Q E hr h => ?_)
  · obtain ⟨p, xs, v, rs, s, g, rfl, _⟩ := h
    rfl
  obtain ⟨p, xs, v, rs, s, g, rfl, hS, hR, q, qe, qs⟩ := h
  refine ⟨_, (pss_cons (ps_expr (pe_callX c_check_rides hr rfl passes_of (pa_cons (pv 0) (pa_cons (pv 1) pa_nil))))
    (pss_cons (ps_expr (pe_callX c_check_stop hr rfl passes_of (pa_cons (pv 0) (pa_cons (pv 2) pa_nil))))
    (pss_one (ps_expr (pe_callX c_check_stop hr rfl passes_of (pa_cons (pv 0) (pa_cons (pv 3) pa_nil))))))), ?_⟩
  refine ⟨_, rfl, _, rfl, p, xs, v, rs, rfl, hS, hR, fun ok => ?_, qe⟩
  refine ⟨_, rfl, _, rfl, p, xs, s, rfl, hS, fun h1 => ?_, fun h1 => qs ok fun z => h1 z.1⟩
  exact ⟨_, rfl, _, rfl, p, xs, g, rfl, hS, fun h2 => q ok h1 h2, fun h2 => qs ok fun z => h2 z.2⟩
end
/-! ### rides looked through -/
section
variable {P : Program} {w : World} {K : PySem.W.Frag} {mg : Str → Option Value} {base : Heap} {k : Nat}
def spGood : Sp := fun vs H Q _ => ∃ v rs n, vs = [v, .int ((n : Nat) : Int)] ∧ Rep Al H (ridesD rs) v ∧ ∀ H', Same H H' → ((∀ r ∈ rs, OkRide (n : Int) r) → Q (.bl true) H') ∧ (¬ (∀ r ∈ rs, OkRide (n : Int) r) → Q (.bl false) H')
theorem sc_law_good : FnScope ["_law_rides", "_law_count", "_law_ride", "_law_last", "_law_stop", "_law_come", "_law_leave"] ["_law_rides", "_law_count"] (defScope s_law_good) := ⟨rfl, rfl, rfl, by decide +kernel, rfl, by decide +kernel, by decide +kernel⟩
theorem ok_law_good (d : DefOk K mg "_law_good" s_law_good ["_law_rides", "_law_count"]) (B : Blt mg) : Cal P w K mg base (k + 1) "_law_good" ["_law_rides", "_law_count"] spGood := by
  refine d.cal sc_law_good (fun vs H Q E h => ?_) (fun f cdv A outer s H vs Q E hr h => ?_)
  · obtain ⟨v, rs, n, rfl, _⟩ := h
    rfl
  obtain ⟨v, rs, n, rfl, hR, q⟩ := h
  refine ⟨_, (pss_cons (ps_for PassesOwn.never rfl (pi_listK (K := K) rfl (pv 0)) (pg_name (i := 2) sc_law_good.nd rfl (Or.inl rfl)) (pss_cons (ps_set (i := 3) sc_law_good.nd rfl (Or.inl rfl) pe_non)
    (pss_cons (ps_if (pt_cmpR (op_eqNilK (K := K) rfl hr.units0) (pv 2) (pe_lst pa_nil) (nomark _)) (pss_one (ps_ret pe_bl)) pss_nil)
    (pss_one (ps_for PassesOwn.never rfl (pi_listK (K := K) rfl (pv 2)) (pg_tupK (K := K) (n := 3) rfl rfl (pgs_cons (pg_name (i := 4) sc_law_good.nd rfl (Or.inl rfl)) (pgs_cons (pg_name (i := 5) sc_law_good.nd rfl (Or.inl rfl)) (pgs_cons (pg_name (i := 6) sc_law_good.nd rfl (Or.inl rfl)) pgs_nil)))) (pss_cons (ps_if (pt_mid (PW.pt (pw_or (pt_cmpR op_lt (pv 4) pe_int (nomark _)) (pw_or (pt_cmpR op_ge (pv 4) (pv 1) (nomark _)) (pw_or1 (pt_cmpR op_lt (pv 6) (pv 5) (nomark _))))))) (pss_one (ps_ret pe_bl)) pss_nil)
    (pss_cons (ps_if (pt_mid (PW.pt (pw_and (pt_cmpR op_notN (pv 3) pe_non (nomark _)) (pw_and1 (pt_cmpR op_le (pv 5) (pv 3) (nomark _)))))) (pss_one (ps_ret pe_bl)) pss_nil)
    (pss_one (ps_set (i := 3) sc_law_good.nd rfl (Or.inl rfl) (pv 6))))))))))
    (pss_one (ps_ret pe_bl))), ?_⟩
  obtain ⟨a, xs, rfl, _, ha, hx⟩ := hR.lstE
  have hlx : xs.length = rs.length := by rw [hx.length, List.length_map]
  refine ⟨_, rfl, a, rfl, ⟨xs, SqL.of ha⟩, ?_⟩
  refine for_list (xs := xs) (fun i σ H' => Same H H' ∧ (∀ r ∈ rs.take i, OkRide (n : Int) r) ∧ ∃ o2 o3 o4 o5 o6, σ = [some (.ref a), some (.int ((n : Nat) : Int)), o2, o3, o4, o5, o6]) ⟨fun _ _ z => z, by simp, _, _, _, _, _, rfl⟩ ?_ ?_ ?_
  · rintro i σ H' _ ⟨g, _⟩
    exact SqL.of (g _ _ ha)
  · rintro i x σ H1 hxi ⟨g1, hok, o2, o3, o4, o5, o6, rfl⟩
    obtain ⟨e', he', hrep⟩ := hx.getV hxi
    rw [List.getElem?_map] at he'
    obtain ⟨r, hr1, rfl⟩ := Option.map_eq_some_iff.mp he'
    have hrm := List.mem_of_getElem? hr1
    obtain ⟨rb, zs, rfl, _, hrb, hz⟩ := hrep.lstE
    have hlz : zs.length = r.length := by rw [hz.length, List.length_map]
    have bad : ∀ H', Same H H' → ¬ OkRide (n : Int) r → Q (.bl false) H' := fun H' g no => (q H' g).2 fun z => no (z r hrm)
    refine ⟨_, rfl, small (by simp), fun e he => ⟨rb, e, zs, rfl, rfl, SqL.of (Same.new he _ _ _ (g1 _ _ hrb)), SqL.of upd_same, _, rfl, ite2 (fun c => ?_) (fun c => ?_)⟩⟩
    · refine bad _ (g1.trans (Same.new he _)) fun o => o.some ?_
      have : zs = [] := by simpa using c
      exact List.length_eq_zero_iff.mp (by rw [← hlz, this]; rfl)
    have hne : r ≠ [] := fun z => c (by
      have : zs = [] := List.length_eq_zero_iff.mp (by rw [hlz, z]; rfl)
      rw [this]; rfl)
    have g2 := g1.trans (Same.new he (.lst []))
    obtain ⟨H2, hH2⟩ : ∃ H2, upd H1 e (.lst []) = H2 := ⟨_, rfl⟩
    rw [hH2] at g2
    dsimp only
    rw [hH2]
    refine ⟨_, rfl, rb, rfl, ⟨zs, SqL.of (g2 _ _ hrb)⟩, ?_⟩
    refine for_list (xs := zs) (fun i σ H' => H' = H2 ∧ ∃ lf o4 o5 o6, σ = [some (.ref a), some (.int ((n : Nat) : Int)), some (.ref rb), some lf, o4, o5, o6] ∧ (∀ c ∈ r.take i, 0 ≤ c.1 ∧ c.1 < (n : Int) ∧ c.2.1 ≤ c.2.2) ∧ ((r.take i).Pairwise fun c d => c.2.2 < d.2.1) ∧
      ((i = 0 ∧ lf = .non) ∨ ∃ L, lf = .int L ∧ (∀ c ∈ r.take i, c.2.2 ≤ L) ∧ ∃ j c, r[j]? = some c ∧ j < i ∧ c.2.2 = L)) ⟨rfl, _, _, _, _, rfl, by simp, by simp, .inl ⟨rfl, rfl⟩⟩ ?_ ?_ ?_
    · rintro i σ H' _ ⟨rfl, _⟩
      exact SqL.of (g2 _ _ hrb)
    · rintro i x σ H' hxi ⟨rfl, lf, o4, o5, o6, rfl, hea, hpw, hlf⟩
      obtain ⟨e', he', hrep⟩ := hz.getV hxi
      rw [List.getElem?_map] at he'
      obtain ⟨c, hc, rfl⟩ := Option.map_eq_some_iff.mp he'
      obtain ⟨t, rfl, ht, _⟩ := rep_call (P' := Al) hrep
      have et : r.take (i + 1) = r.take i ++ [c] := by rw [List.take_add_one, hc]; rfl
      refine ⟨t, _, rfl, SqT.of (g2 _ _ ht), rfl, _, _, rfl, _, _, rfl, _, _, rfl, rfl, ?_⟩
      refine ⟨fun bb H'' => bb = !decide (0 ≤ c.1 ∧ c.1 < (n : Int) ∧ c.2.1 ≤ c.2.2) ∧ H'' = H', ?_, ?_⟩
      · refine ⟨_, rfl, _, _, rfl, rfl, _, rfl, ite2 (fun z => ⟨?_, rfl⟩) (fun z => ?_)⟩
        · have := of_decide_eq_true z
          exact (by simp; omega)
        have z1 : ¬ c.1 < 0 := of_decide_eq_false (Bool.eq_false_iff.mpr z)
        refine ⟨_, rfl, _, rfl, _, _, rfl, rfl, _, rfl, ite2 (fun z => ⟨?_, rfl⟩) (fun z => ?_)⟩
        · have := of_decide_eq_true z
          exact (by simp; omega)
        have z2 : ¬ (n : Int) ≤ c.1 := of_decide_eq_false (Bool.eq_false_iff.mpr z)
        refine ⟨_, rfl, _, rfl, _, _, rfl, rfl, _, rfl, ?_, rfl⟩
        show decide (c.2.2 < c.2.1) = _
        by_cases y : c.2.2 < c.2.1
        · rw [decide_eq_true y, decide_eq_false (by omega)]; rfl
        · rw [decide_eq_false y, decide_eq_true (by omega)]; rfl
      rintro _ H' ⟨rfl, rfl⟩
      refine ite2 (fun z => ?_) (fun z => ?_)
      · have z' : ¬ (0 ≤ c.1 ∧ c.1 < (n : Int) ∧ c.2.1 ≤ c.2.2) := by
          intro y
          rw [decide_eq_true y] at z
          cases z
        exact bad _ g2 fun o => z' (o.each c (List.mem_of_getElem? hc))
      have gc : 0 ≤ c.1 ∧ c.1 < (n : Int) ∧ c.2.1 ≤ c.2.2 := by
        cases y : decide (0 ≤ c.1 ∧ c.1 < (n : Int) ∧ c.2.1 ≤ c.2.2) with
        | true => exact of_decide_eq_true y
        | false => rw [y] at z; exact absurd rfl z
      have hea' : ∀ c' ∈ r.take (i + 1), 0 ≤ c'.1 ∧ c'.1 < (n : Int) ∧ c'.2.1 ≤ c'.2.2 := fun c' h' => by
        rw [et] at h'
        rcases List.mem_append.mp h' with h' | h'
        · exact hea c' h'
        · rw [List.mem_singleton.mp h']; exact gc
      rcases hlf with ⟨rfl, rfl⟩ | ⟨L, rfl, hL, j, c0, hc0, hj, hcL⟩
      · refine ⟨fun bb H'' => bb = false ∧ H'' = H', ⟨_, rfl, rfl, _, rfl, iteF ⟨rfl, rfl⟩⟩, ?_⟩
        rintro _ H' ⟨rfl, rfl⟩
        refine iteF ⟨_, rfl, rfl, _, _, _, _, rfl, hea', ?_, .inr ⟨_, rfl, ?_, 0, c, hc, by omega, rfl⟩⟩
        · rw [et]; simp
        · rw [et]
          intro c' h'
          rw [show c' = c by simpa using h']
          exact Int.le_refl _
      · refine ⟨fun bb H'' => bb = decide (c.2.1 ≤ L) ∧ H'' = H', ⟨_, rfl, rfl, _, rfl, iteT ⟨_, rfl, _, rfl, _, _, rfl, rfl, _, rfl, rfl, rfl⟩⟩, ?_⟩
        rintro _ H' ⟨rfl, rfl⟩
        refine ite2 (fun c' => ?_) (fun c' => ?_)
        · have z := of_decide_eq_true c'
          refine bad _ g2 fun o => ?_
          have hlt := List.pairwise_iff_getElem.mp o.rise j i (List.getElem?_eq_some_iff.mp hc0).1 (List.getElem?_eq_some_iff.mp hc).1 hj
          rw [(List.getElem?_eq_some_iff.mp hc0).2, (List.getElem?_eq_some_iff.mp hc).2] at hlt
          omega
        · have z : ¬ c.2.1 ≤ L := of_decide_eq_false (Bool.eq_false_iff.mpr c')
          have gc3 : c.2.1 ≤ c.2.2 := gc.2.2
          refine ⟨_, rfl, rfl, _, _, _, _, rfl, hea', ?_, .inr ⟨_, rfl, ?_, i, c, hc, by omega, rfl⟩⟩
          · rw [et]
            exact pairwise_snoc hpw fun d hd => by have := hL d hd; omega
          · rw [et]
            intro d hd
            rcases List.mem_append.mp hd with hd | hd
            · have := hL d hd; omega
            · rw [List.mem_singleton.mp hd]; exact Int.le_refl _
    · rintro σ H' ⟨rfl, lf, o4, o5, o6, rfl, hea, hpw, _⟩
      rw [hlz, List.take_length] at hea hpw
      refine ⟨g2, fun r' h' => ?_, _, _, _, _, _, rfl⟩
      rw [List.take_add_one, hr1] at h'
      rcases List.mem_append.mp h' with h' | h'
      · exact hok r' h'
      · rw [show r' = r by simpa using h']
        exact ⟨hne, hea, hpw⟩
  · rintro σ H' ⟨g, hok, _⟩
    rw [hlx, List.take_length] at hok
    exact (q H' g).1 hok
end
/-! ### the earliest comings, a round further -/
abbrev OL := List (Option Int)
def impB (af : OL) (c : Stop) : Bool := match af.getD c.1.toNat none with
  | none => true
  | some x => decide (c.2.1 < x)
def imp (af : OL) (c : Stop) : OL := if impB af c = true then af.set c.1.toNat (some c.2.1) else af
def ready (ps : List Int) (st tm : Int) (bf : OL) (c : Stop) : Option Int := if c.1 = st then some tm else (bf.getD c.1.toNat none).map fun x => x + ps.getD c.1.toNat 0
def board (ps : List Int) (st tm : Int) (bf : OL) (c : Stop) : Bool := match ready ps st tm bf c with
  | none => false
  | some x => decide (x ≤ c.2.2)
def furR (ps : List Int) (st tm : Int) (bf : OL) (r : List Stop) : Nat → OL → OL
  | 0, af => af
  | i + 1, af => match r[i]? with
    | none => furR ps st tm bf r i af
    | some c => if board ps st tm bf c = true then (r.drop (i + 1)).foldl imp (furR ps st tm bf r i af) else furR ps st tm bf r i af
def further (ps : List Int) (rs : List (List Stop)) (st tm : Int) (bf : OL) : OL := rs.foldl (fun af r => furR ps st tm bf r r.length af) bf
theorem imp_length (af : OL) (c : Stop) : (imp af c).length = af.length := by
  unfold imp; split <;> simp
theorem imps_length : ∀ (cs : List Stop) (af : OL), (cs.foldl imp af).length = af.length
  | [], _ => rfl
  | c :: cs, af => by rw [List.foldl_cons, imps_length cs, imp_length]
theorem furR_length {ps : List Int} {st tm : Int} {bf : OL} {r : List Stop} : ∀ (i : Nat) (af : OL), (furR ps st tm bf r i af).length = af.length
  | 0, _ => rfl
  | i + 1, af => by
    unfold furR
    split
    · exact furR_length i af
    · split
      · rw [imps_length, furR_length i af]
      · exact furR_length i af
theorem furs_length {ps : List Int} {st tm : Int} {bf : OL} : ∀ (rs : List (List Stop)) (af : OL), (rs.foldl (fun af r => furR ps st tm bf r r.length af) af).length = af.length
  | [], _ => rfl
  | r :: rs, af => by rw [List.foldl_cons, furs_length rs, furR_length]
theorem further_length {ps : List Int} {rs : List (List Stop)} {st tm : Int} {bf : OL} : (further ps rs st tm bf).length = bf.length := furs_length rs bf
theorem foldl_take {α β : Type} (f : β → α → β) (l : List α) (b : β) {i : Nat} {x : α} (h : l[i]? = some x) : (l.take (i + 1)).foldl f b = f ((l.take i).foldl f b) x := by
  rw [List.take_add_one, h, List.foldl_append]; rfl
theorem atO {af : OL} {k : Int} (h0 : 0 ≤ k) (h1 : k < (af.length : Int)) : atI (af.map oV) k = some (oV (af.getD k.toNat none)) := by
  have hk : k.toNat < af.length := by omega
  refine atI_natE (j := k.toNat) ?_ (by omega)
  rw [List.getElem?_map, List.getD_eq_getElem?_getD, List.getElem?_eq_getElem hk]; rfl
theorem atP {ps : List Int} {k : Int} (h0 : 0 ≤ k) (h1 : k < (ps.length : Int)) : atI (ps.map V.int) k = some (.int (ps.getD k.toNat 0)) := by
  have hk : k.toNat < ps.length := by omega
  refine atI_natE (j := k.toNat) ?_ (by omega)
  rw [List.getElem?_map, List.getD_eq_getElem?_getD, List.getElem?_eq_getElem hk]; rfl
/-- every call at a stop that is there -/
def InSt (n : Nat) (rs : List (List Stop)) : Prop := ∀ r ∈ rs, ∀ c ∈ r, 0 ≤ c.1 ∧ c.1 < (n : Int)
/-! ### all rounds -/
def itr (f : OL → OL) (x : OL) : Nat → OL
  | 0 => x
  | n + 1 => f (itr f x n)
structure Stab (f : OL → OL) (x : OL) (n : Nat) : Prop where
  new : ∀ i < n, itr f x (i + 1) ≠ itr f x i
  fin : itr f x (n + 1) = itr f x n
def cnt (V : List Int) : Option Int → Nat
  | none => V.length + 1
  | some x => (V.filter fun v => decide (v < x)).length
def meas (V : List Int) (o : OL) : Nat := (o.map (cnt V)).sum
def comes (rs : List (List Stop)) : List Int := rs.flatMap fun r => r.map fun c => c.2.1
theorem sum_set_lt : ∀ {l : List Nat} {i a x : Nat}, l[i]? = some x → a < x → (l.set i a).sum < l.sum
  | [], _, _, _, e, _ => by simp at e
  | y :: l, 0, a, x, e, h => by
    simp at e; subst e
    simp only [List.set_cons_zero, List.sum_cons]; omega
  | y :: l, i + 1, a, x, e, h => by
    have := sum_set_lt (l := l) (i := i) (a := a) (x := x) (by simpa using e) h
    simp only [List.set_cons_succ, List.sum_cons]; omega
theorem filter_lt {V : List Int} {a b : Int} (h : a ∈ V) (hab : a < b) : (V.filter fun v => decide (v < a)).length < (V.filter fun v => decide (v < b)).length := by
  induction V with
  | nil => cases h
  | cons v V ih =>
    have le : (V.filter fun v => decide (v < a)).length ≤ (V.filter fun v => decide (v < b)).length := by
      rw [← List.countP_eq_length_filter, ← List.countP_eq_length_filter]
      refine List.countP_mono_left fun x _ hx => ?_
      have hx' : x < a := of_decide_eq_true hx
      exact decide_eq_true (by omega)
    rcases List.mem_cons.mp h with rfl | h
    · rw [List.filter_cons, List.filter_cons, if_neg (by simp), if_pos (by simpa using hab)]
      simp only [List.length_cons]; omega
    · have := ih h
      rw [List.filter_cons, List.filter_cons]
      by_cases h1 : v < a
      · rw [if_pos (by simpa using h1), if_pos (by simp; omega)]
        simp only [List.length_cons]; omega
      · rw [if_neg (by simpa using h1)]
        split
        · simp only [List.length_cons]; omega
        · exact this
/-- it stays, or its measure falls -/
def Falls (V : List Int) (a b : OL) : Prop := b = a ∨ meas V b < meas V a
theorem Falls.trans {V : List Int} {a b c : OL} (h : Falls V a b) (g : Falls V b c) : Falls V a c := by
  rcases h with rfl | h
  · exact g
  · rcases g with rfl | g
    · exact .inr h
    · exact .inr (Nat.lt_trans g h)
theorem imp_falls {V : List Int} {af : OL} {c : Stop} (h : c.2.1 ∈ V) : Falls V af (imp af c) := by
  unfold imp
  split
  · rename_i hb
    by_cases hi : c.1.toNat < af.length
    · refine .inr ?_
      unfold meas
      rw [List.map_set]
      have hg : af[c.1.toNat]? = some (af.getD c.1.toNat none) := by rw [List.getD_eq_getElem?_getD, List.getElem?_eq_getElem hi]; rfl
      refine sum_set_lt (x := cnt V (af.getD c.1.toNat none)) (by rw [List.getElem?_map, hg]; rfl) ?_
      unfold impB at hb
      split at hb
      · rename_i e
        rw [e]
        exact Nat.lt_succ_of_le (List.length_filter_le _ _)
      · rename_i x e
        rw [e]
        exact filter_lt h (of_decide_eq_true hb)
    · exact .inl (List.set_eq_of_length_le (by omega))
  · exact .inl rfl
theorem imps_falls {V : List Int} : ∀ {cs : List Stop} {af : OL}, (∀ c ∈ cs, c.2.1 ∈ V) → Falls V af (cs.foldl imp af)
  | [], _, _ => .inl rfl
  | c :: cs, af, h => (imp_falls (h c List.mem_cons_self)).trans (imps_falls fun c' hc' => h c' (List.mem_cons_of_mem _ hc'))
theorem furR_falls {V : List Int} {ps : List Int} {st tm : Int} {bf : OL} {r : List Stop} (h : ∀ c ∈ r, c.2.1 ∈ V) : ∀ (i : Nat) {af : OL}, Falls V af (furR ps st tm bf r i af)
  | 0, _ => .inl rfl
  | i + 1, af => by
    unfold furR
    split
    · exact furR_falls h i
    · split
      · exact (furR_falls h i).trans (imps_falls fun c hc => h c (List.mem_of_mem_drop hc))
      · exact furR_falls h i
theorem furs_falls {V : List Int} {ps : List Int} {st tm : Int} {bf : OL} : ∀ {rs : List (List Stop)} {af : OL}, (∀ r ∈ rs, ∀ c ∈ r, c.2.1 ∈ V) → Falls V af (rs.foldl (fun af r => furR ps st tm bf r r.length af) af)
  | [], _, _ => .inl rfl
  | r :: rs, af, h => (furR_falls (h r List.mem_cons_self) r.length).trans (furs_falls fun r' hr' => h r' (List.mem_cons_of_mem _ hr'))
theorem further_falls {ps : List Int} {rs : List (List Stop)} {st tm : Int} {bf : OL} : Falls (comes rs) bf (further ps rs st tm bf) :=
  furs_falls fun r hr c hc => List.mem_flatMap.mpr ⟨r, hr, List.mem_map.mpr ⟨c, hc, rfl⟩⟩
theorem comes_length : ∀ (rs : List (List Stop)), (comes rs).length = total rs
  | [] => rfl
  | r :: rs => by
    have := comes_length rs
    simp only [comes, List.flatMap_cons, List.length_append, List.length_map, total, List.map_cons, List.sum_cons] at this ⊢
    rw [this]
theorem cnt_le (V : List Int) (o : Option Int) : cnt V o ≤ V.length + 1 := by
  cases o with
  | none => exact Nat.le_refl _
  | some x => exact Nat.le_succ_of_le (List.length_filter_le _ _)
theorem meas_le (V : List Int) : ∀ (o : OL), meas V o ≤ o.length * (V.length + 1)
  | [] => Nat.zero_le _
  | a :: o => by
    have h1 := meas_le V o
    have h2 := cnt_le V a
    simp only [meas, List.map_cons, List.sum_cons, List.length_cons] at h1 ⊢
    rw [Nat.add_mul]
    omega
def olD (o : OL) : D := .lst (o.map oD)
theorem repL_oVE {P : Addr → Prop} {H : Hp} : ∀ {o : OL} {xs : List V}, RepL P H (o.map oD) xs → xs = o.map oV
  | [], _, r => r.nilE
  | none :: o, _, r => by
    obtain ⟨x, t, rfl, h, q⟩ := r.consE
    rw [show x = .non from h.nonE, repL_oVE q]; rfl
  | some i :: o, _, r => by
    obtain ⟨x, t, rfl, h, q⟩ := r.consE
    rw [show x = .int i from h.intE, repL_oVE q]; rfl
theorem rep_ol {P : Addr → Prop} {H : Hp} {o : OL} {v : V} (r : Rep P H (olD o) v) : ∃ b, v = .ref b ∧ P b ∧ H b = some (.lst (o.map oV)) := by
  obtain ⟨b, xs, rfl, hb, h, q⟩ := r.lstE
  rw [repL_oVE q] at h
  exact ⟨b, rfl, hb, h⟩
theorem rep_olI {P : Addr → Prop} {H : Hp} {o : OL} {b : Addr} (hb : P b) (h : H b = some (.lst (o.map oV))) : Rep P H (olD o) (.ref b) := .lstI hb h (repL_oV o)
def init (n : Nat) (st tm : Int) : OL := (List.replicate n none).set st.toNat (some tm)
theorem init_length (n : Nat) (st tm : Int) : (init n st tm).length = n := by simp [init]
def roundsD (f : OL → OL) (x : OL) (n : Nat) : D := .lst ((List.range (n + 1)).map fun i => olD (itr f x i))
theorem atI_lastE {xs : List V} {x : V} {n : Nat} (hl : xs.length = n + 1) (h : xs[n]? = some x) : atI xs (-1) = some x := by
  have e : ixN xs.length (-1) = some n := by
    unfold ixN
    rw [hl]
    simp
    omega
  unfold atI; rw [e]; exact h
/-! ### chains of rides: what the rounds and the going back tell -/
def Leg (rs : List (List Stop)) (c d : Stop) : Prop := ∃ r ∈ rs, ∃ i j : Nat, i < j ∧ r[i]? = some c ∧ r[j]? = some d
/-- from a stop, left at y, to a stop, come at x -/
inductive Ch (ps : List Int) (rs : List (List Stop)) : Int → Int → Int → Int → Prop where
  | one {c d : Stop} : Leg rs c d → Ch ps rs c.1 c.2.2 d.1 d.2.1
  | cons {c d : Stop} {y g x : Int} : Leg rs c d → d.2.1 + ps.getD d.1.toNat 0 ≤ y → Ch ps rs d.1 y g x → Ch ps rs c.1 c.2.2 g x
theorem Ch.snoc {ps : List Int} {rs : List (List Stop)} {s y m x0 : Int} (h : Ch ps rs s y m x0) : ∀ {c d : Stop}, Leg rs c d → c.1 = m → x0 + ps.getD m.toNat 0 ≤ c.2.2 → Ch ps rs s y d.1 d.2.1 := by
  induction h with
  | one l =>
    intro c d l' e h
    refine .cons l h ?_
    rw [← e]
    exact .one l'
  | cons l h1 _ ih =>
    intro c d l' e h
    exact .cons l h1 (ih l' e h)
theorem leg_lt {n : Int} {rs : List (List Stop)} (ok : ∀ r ∈ rs, OkRide n r) {c d : Stop} (l : Leg rs c d) : c.2.2 < d.2.1 ∧ (0 ≤ c.1 ∧ c.1 < n) ∧ (0 ≤ d.1 ∧ d.1 < n) ∧ c.2.1 ≤ c.2.2 ∧ d.2.1 ≤ d.2.2 := by
  obtain ⟨r, hr, i, j, hij, hi, hj⟩ := l
  have o := ok r hr
  have hi' := (List.getElem?_eq_some_iff.mp hi)
  have hj' := (List.getElem?_eq_some_iff.mp hj)
  obtain ⟨hi1, hi2⟩ := hi'
  obtain ⟨hj1, hj2⟩ := hj'
  have := List.pairwise_iff_getElem.mp o.rise i j hi1 hj1 hij
  rw [hi2, hj2] at this
  have ec := o.each c (List.mem_of_getElem? hi)
  have ed := o.each d (List.mem_of_getElem? hj)
  exact ⟨this, ⟨ec.1, ec.2.1⟩, ⟨ed.1, ed.2.1⟩, ec.2.2, ed.2.2⟩
theorem Ch.lt {n : Int} {ps : List Int} {rs : List (List Stop)} (ok : ∀ r ∈ rs, OkRide n r) (pz : ∀ z ∈ ps, 0 ≤ z) {s y g x : Int} (h : Ch ps rs s y g x) : y < x := by
  induction h with
  | one l => exact (leg_lt ok l).1
  | @cons c d y g x l h1 _ ih =>
    have h2 := (leg_lt ok l).1
    have : 0 ≤ ps.getD d.1.toNat 0 := by
      rw [List.getD_eq_getElem?_getD]
      cases e : ps[d.1.toNat]? with
      | none => exact Int.le_refl _
      | some z => exact pz z (List.mem_of_getElem? e)
    omega
theorem getD_set {α : Type} {l : List α} {i k : Nat} {v d : α} : (l.set i v).getD k d = if i = k ∧ k < l.length then v else l.getD k d := by
  rw [List.getD_eq_getElem?_getD, List.getD_eq_getElem?_getD, List.getElem?_set]
  by_cases h : i = k
  · subst h
    by_cases h2 : i < l.length
    · rw [if_pos rfl, if_pos h2, if_pos ⟨rfl, h2⟩]; rfl
    · rw [if_pos rfl, if_neg h2, if_neg (fun z => h2 z.2), List.getElem?_eq_none (by omega)]
  · rw [if_neg h, if_neg (fun z => h z.1)]
/-- at least as early -/
def Ole (a b : Option Int) : Prop := ∀ y, b = some y → ∃ x, a = some x ∧ x ≤ y
theorem Ole.refl (a : Option Int) : Ole a a := fun y h => ⟨y, h, Int.le_refl _⟩
theorem Ole.trans {a b c : Option Int} (h : Ole a b) (g : Ole b c) : Ole a c := fun z hz => by
  obtain ⟨y, hy, h1⟩ := g z hz
  obtain ⟨x, hx, h2⟩ := h y hy
  exact ⟨x, hx, by omega⟩
def Olel (a b : OL) : Prop := ∀ k, Ole (a.getD k none) (b.getD k none)
theorem Olel.trans {a b c : OL} (h : Olel a b) (g : Olel b c) : Olel a c := fun k => (h k).trans (g k)
theorem imp_le (af : OL) (c : Stop) : Olel (imp af c) af := fun k => by
  unfold imp
  split
  · rename_i hb
    rw [getD_set]
    split
    · rename_i h
      intro y hy
      unfold impB at hb
      rw [h.1, hy] at hb
      exact ⟨_, rfl, Int.le_of_lt (of_decide_eq_true hb)⟩
    · exact Ole.refl _
  · exact Ole.refl _
theorem imp_at {af : OL} {c : Stop} (h : c.1.toNat < af.length) : Ole ((imp af c).getD c.1.toNat none) (some c.2.1) := fun y hy => by
  cases hy
  unfold imp
  split
  · rw [getD_set, if_pos ⟨rfl, h⟩]
    exact ⟨_, rfl, Int.le_refl _⟩
  · rename_i hb
    unfold impB at hb
    split at hb
    · exact absurd rfl hb
    · rename_i x e
      rw [e]
      refine ⟨x, rfl, ?_⟩
      have : ¬ c.2.1 < x := fun z => hb (decide_eq_true z)
      omega
theorem imps_le : ∀ (cs : List Stop) (af : OL), Olel (cs.foldl imp af) af
  | [], af => fun k => Ole.refl _
  | c :: cs, af => (imps_le cs (imp af c)).trans (imp_le af c)
theorem imps_at : ∀ {cs : List Stop} {af : OL} {d : Stop}, d ∈ cs → d.1.toNat < af.length → Ole ((cs.foldl imp af).getD d.1.toNat none) (some d.2.1)
  | [], _, _, h, _ => by cases h
  | c :: cs, af, d, h, hl => by
    rcases List.mem_cons.mp h with rfl | h
    · exact (imps_le cs (imp af d) _).trans (imp_at hl)
    · exact imps_at (af := imp af c) h (by rw [imp_length]; exact hl)
section
variable {ps : List Int} {st tm : Int} {bf : OL}
theorem furR_step (r : List Stop) (i : Nat) (af : OL) : Olel (furR ps st tm bf r (i + 1) af) (furR ps st tm bf r i af) := fun k => by
  show Ole ((match r[i]? with | none => _ | some c => _ : OL).getD k none) _
  split
  · exact Ole.refl _
  · split
    · exact imps_le _ _ k
    · exact Ole.refl _
theorem furR_le (r : List Stop) : ∀ (n i : Nat) (af : OL), Olel (furR ps st tm bf r (i + n) af) (furR ps st tm bf r i af)
  | 0, i, af => fun k => Ole.refl _
  | n + 1, i, af => (furR_step r (i + n) af).trans (furR_le r n i af)
theorem furR_at {r : List Stop} {i j : Nat} {c d : Stop} {af : OL} (hij : i < j) (hi : r[i]? = some c) (hj : r[j]? = some d) (hb : board ps st tm bf c = true) (hl : d.1.toNat < af.length) :
    Ole ((furR ps st tm bf r r.length af).getD d.1.toNat none) (some d.2.1) := by
  have hjl : j < r.length := (List.getElem?_eq_some_iff.mp hj).1
  have e : r.length = (i + 1) + (r.length - (i + 1)) := by omega
  have h1 : Ole ((furR ps st tm bf r (i + 1) af).getD d.1.toNat none) (some d.2.1) := by
    show Ole ((match r[i]? with | none => _ | some c => _ : OL).getD _ none) _
    rw [hi]
    show Ole ((if board ps st tm bf c = true then _ else _ : OL).getD _ none) _
    rw [if_pos hb]
    refine imps_at (List.mem_of_getElem? (i := j - (i + 1)) ?_) (by rw [furR_length]; exact hl)
    rw [List.getElem?_drop, show i + 1 + (j - (i + 1)) = j by omega]
    exact hj
  rw [e]
  exact (furR_le r _ _ af _).trans h1
theorem furs_le : ∀ (rs : List (List Stop)) (af : OL), Olel (rs.foldl (fun af r => furR ps st tm bf r r.length af) af) af
  | [], af => fun k => Ole.refl _
  | r :: rs, af => (furs_le rs _).trans (by
      have := furR_le (ps := ps) (st := st) (tm := tm) (bf := bf) r r.length 0 af
      rw [Nat.zero_add] at this
      exact this)
theorem furs_at : ∀ {rs : List (List Stop)} {af : OL} {c d : Stop}, Leg rs c d → board ps st tm bf c = true → d.1.toNat < af.length → Ole ((rs.foldl (fun af r => furR ps st tm bf r r.length af) af).getD d.1.toNat none) (some d.2.1)
  | [], _, _, _, ⟨_, h, _⟩, _, _ => by cases h
  | r :: rs, af, c, d, ⟨r', h, i, j, hij, hi, hj⟩, hb, hl => by
    rcases List.mem_cons.mp h with rfl | h
    · exact (furs_le rs _ _).trans (furR_at hij hi hj hb hl)
    · exact furs_at (rs := rs) (af := furR ps st tm bf r r.length af) ⟨r', h, i, j, hij, hi, hj⟩ hb (by rw [furR_length]; exact hl)
theorem further_at {rs : List (List Stop)} {c d : Stop} (l : Leg rs c d) (hb : board ps st tm bf c = true) (hl : d.1.toNat < bf.length) : Ole ((further ps rs st tm bf).getD d.1.toNat none) (some d.2.1) := furs_at l hb hl
theorem further_le {rs : List (List Stop)} : Olel (further ps rs st tm bf) bf := furs_le rs bf
end
/-- what a coming rests on -/
def Snd (ps : List Int) (rs : List (List Stop)) (st tm : Int) (k : Nat) (x : Int) : Prop := (k = st.toNat ∧ x = tm) ∨ ∃ y, tm ≤ y ∧ Ch ps rs st y (k : Int) x
def Sndl (ps : List Int) (rs : List (List Stop)) (st tm : Int) (o : OL) : Prop := ∀ k x, o.getD k none = some x → Snd ps rs st tm k x
section
variable {ps : List Int} {rs : List (List Stop)} {st tm : Int}
theorem imp_snd {af : OL} {d : Stop} (h : Sndl ps rs st tm af) (hd : Snd ps rs st tm d.1.toNat d.2.1) : Sndl ps rs st tm (imp af d) := fun k x hk => by
  unfold imp at hk
  split at hk
  · rw [getD_set] at hk
    split at hk
    · rename_i e
      cases hk
      rw [← e.1]
      exact hd
    · exact h k x hk
  · exact h k x hk
theorem imps_snd : ∀ {cs : List Stop} {af : OL}, Sndl ps rs st tm af → (∀ d ∈ cs, Snd ps rs st tm d.1.toNat d.2.1) → Sndl ps rs st tm (cs.foldl imp af)
  | [], _, h, _ => h
  | c :: cs, af, h, g => imps_snd (cs := cs) (imp_snd h (g c List.mem_cons_self)) fun d hd => g d (List.mem_cons_of_mem _ hd)
theorem board_snd {bf : OL} {n : Int} (hs : 0 ≤ st) (ok : ∀ r ∈ rs, OkRide n r) (h : Sndl ps rs st tm bf) {c d : Stop} (l : Leg rs c d) (hb : board ps st tm bf c = true) : Snd ps rs st tm d.1.toNat d.2.1 := by
  have lt := leg_lt ok l
  have ed : ((d.1.toNat : Nat) : Int) = d.1 := by omega
  have ec : ((c.1.toNat : Nat) : Int) = c.1 := by omega
  unfold board ready at hb
  split at hb
  · cases hb
  · rename_i y e
    have hb := of_decide_eq_true hb
    split at e
    · rename_i es
      cases e
      refine .inr ⟨c.2.2, hb, ?_⟩
      rw [ed, ← es]
      exact .one l
    · rename_i ne
      cases hbf : bf.getD c.1.toNat none with
      | none => rw [hbf] at e; cases e
      | some x0 =>
        rw [hbf] at e
        cases e
        rcases h _ _ hbf with ⟨e1, e2⟩ | ⟨y, hy, ch⟩
        · exact absurd (show c.1 = st by omega) ne
        · refine .inr ⟨y, hy, ?_⟩
          rw [ed]
          rw [ec] at ch
          exact ch.snoc l rfl hb
theorem furR_snd {bf : OL} {n : Int} (hs : 0 ≤ st) (ok : ∀ r ∈ rs, OkRide n r) (h : Sndl ps rs st tm bf) {r : List Stop} (hr : r ∈ rs) : ∀ (i : Nat) {af : OL}, Sndl ps rs st tm af → Sndl ps rs st tm (furR ps st tm bf r i af)
  | 0, _, g => g
  | i + 1, af, g => by
    unfold furR
    split
    · exact furR_snd hs ok h hr i g
    · rename_i c hc
      split
      · rename_i hb
        refine imps_snd (furR_snd hs ok h hr i g) fun d hd => ?_
        obtain ⟨j, hj⟩ := List.mem_iff_getElem?.mp hd
        rw [List.getElem?_drop] at hj
        exact board_snd hs ok h ⟨r, hr, i, i + 1 + j, by omega, hc, hj⟩ hb
      · exact furR_snd hs ok h hr i g
theorem furs_snd {bf : OL} {n : Int} (hs : 0 ≤ st) (ok : ∀ r ∈ rs, OkRide n r) (h : Sndl ps rs st tm bf) : ∀ {rs' : List (List Stop)} {af : OL}, (∀ r ∈ rs', r ∈ rs) → Sndl ps rs st tm af → Sndl ps rs st tm (rs'.foldl (fun af r => furR ps st tm bf r r.length af) af)
  | [], _, _, g => g
  | r :: rs', af, hr, g => furs_snd (rs' := rs') (af := furR ps st tm bf r r.length af) hs ok h (fun r' h' => hr r' (List.mem_cons_of_mem _ h')) (furR_snd hs ok h (hr r List.mem_cons_self) _ g)
theorem further_snd {bf : OL} {n : Int} (hs : 0 ≤ st) (ok : ∀ r ∈ rs, OkRide n r) (h : Sndl ps rs st tm bf) : Sndl ps rs st tm (further ps rs st tm bf) := furs_snd hs ok h (fun _ z => z) h
theorem init_getD {n : Nat} {s tm : Int} {k : Nat} : (init n s tm).getD k none = if s.toNat = k ∧ k < n then some tm else none := by
  unfold init
  rw [getD_set, List.length_replicate]
  split
  · rfl
  · rw [List.getD_eq_getElem?_getD, List.getElem?_replicate]
    split <;> rfl
theorem itr_snd {n : Int} {N : Nat} (hs : 0 ≤ st) (ok : ∀ r ∈ rs, OkRide n r) : ∀ i, Sndl ps rs st tm (itr (further ps rs st tm) (init N st tm) i)
  | 0 => fun k x h => by
    have h : (init N st tm).getD k none = some x := h
    rw [init_getD] at h
    split at h
    · rename_i e
      cases h
      exact .inl ⟨e.1.symm, rfl⟩
    · cases h
  | i + 1 => further_snd hs ok (itr_snd hs ok i)
/-- from the start on no coming is ahead of the time -/
theorem snd_ge {n : Int} (ok : ∀ r ∈ rs, OkRide n r) (pz : ∀ z ∈ ps, 0 ≤ z) {k : Nat} {x : Int} (h : Snd ps rs st tm k x) : tm ≤ x := by
  rcases h with ⟨_, rfl⟩ | ⟨y, hy, ch⟩
  · exact Int.le_refl _
  · have := ch.lt ok pz
    omega
/-- a fixed point knows every chain -/
theorem fix_ch {n : Nat} {o : OL} (ok : ∀ r ∈ rs, OkRide (n : Int) r) (pz : ∀ z ∈ ps, 0 ≤ z) (hl : o.length = n) (hf : further ps rs st tm o = o) (hsn : Sndl ps rs st tm o) {s y g x : Int} (h : Ch ps rs s y g x) :
    (∃ z, ready ps st tm o (s, 0, 0) = some z ∧ z ≤ y) → Ole (o.getD g.toNat none) (some x) := by
  induction h with
  | @one c d l =>
    rintro ⟨z, hz, hle⟩
    have lt := leg_lt ok l
    have hb : board ps st tm o c = true := by
      unfold board
      rw [show ready ps st tm o c = some z from hz]
      exact decide_eq_true hle
    have := further_at (rs := rs) l hb (by rw [hl]; omega)
    rw [hf] at this
    exact this
  | @cons c d y g x l h1 ch ih =>
    rintro ⟨z, hz, hle⟩
    have lt := leg_lt ok l
    have hb : board ps st tm o c = true := by
      unfold board
      rw [show ready ps st tm o c = some z from hz]
      exact decide_eq_true hle
    have := further_at (rs := rs) l hb (by rw [hl]; omega)
    rw [hf] at this
    obtain ⟨x', hx', hle'⟩ := this _ rfl
    have pz' : 0 ≤ ps.getD d.1.toNat 0 := by
      rw [List.getD_eq_getElem?_getD]
      cases e : ps[d.1.toNat]? with
      | none => exact Int.le_refl _
      | some z => exact pz z (List.mem_of_getElem? e)
    refine ih ?_
    unfold ready
    split
    · have := snd_ge ok pz (hsn _ _ hx')
      exact ⟨tm, rfl, by omega⟩
    · refine ⟨x' + ps.getD d.1.toNat 0, ?_, by omega⟩
      show (o.getD d.1.toNat none).map _ = _
      rw [hx']; rfl
end
/-- the end of the rounds: the earliest coming of all -/
theorem rounds_best {n : Nat} {ps : List Int} {rs : List (List Stop)} {st tm : Int} (ok : ∀ r ∈ rs, OkRide (n : Int) r) (pz : ∀ z ∈ ps, 0 ≤ z) (hs : 0 ≤ st) (hsn : st < (n : Int)) {m : Nat} (sb : Stab (further ps rs st tm) (init n st tm) m)
    {g : Int} (hg : 0 ≤ g) : (∀ x, (itr (further ps rs st tm) (init n st tm) m).getD g.toNat none = some x → (g = st ∧ x = tm) ∨ ∃ y, tm ≤ y ∧ Ch ps rs st y g x) ∧
    (∀ y x, tm ≤ y → Ch ps rs st y g x → Ole ((itr (further ps rs st tm) (init n st tm) m).getD g.toNat none) (some x)) ∧ (itr (further ps rs st tm) (init n st tm) m).getD st.toNat none = some tm := by
  have eg : ((g.toNat : Nat) : Int) = g := by omega
  have sn := itr_snd (ps := ps) (tm := tm) (N := n) hs ok m
  have len : ∀ i, (itr (further ps rs st tm) (init n st tm) i).length = n := fun i => by
    induction i with
    | zero => exact init_length _ _ _
    | succ i ih => exact further_length.trans ih
  refine ⟨fun x hx => ?_, fun y x hy ch => ?_, ?_⟩
  · rcases sn _ _ hx with ⟨e1, e2⟩ | ⟨y, hy, ch⟩
    · exact .inl ⟨by omega, e2⟩
    · rw [eg] at ch
      exact .inr ⟨y, hy, ch⟩
  · refine fix_ch ok pz (len m) sb.fin sn ch ⟨tm, ?_, hy⟩
    unfold ready
    rw [if_pos rfl]
  · have le : ∀ i, Olel (itr (further ps rs st tm) (init n st tm) i) (init n st tm) := fun i => by
      induction i with
      | zero => exact fun k => Ole.refl _
      | succ i ih => exact further_le.trans ih
    have h0 : (init n st tm).getD st.toNat none = some tm := by rw [init_getD, if_pos ⟨rfl, by omega⟩]
    obtain ⟨x, hx, hle⟩ := le m st.toNat tm h0
    have := snd_ge ok pz (sn _ _ hx)
    rw [hx, show x = tm by omega]
/-! ### the program's rounds, pure -/
def rdy (ps : List Int) (st : Int) (bf : OL) : OL := (List.range bf.length).map fun k => (bf.getD k none).map fun x => if (k : Int) = st then x else x + ps.getD k 0
def canOn (rd : OL) (c : Stop) : Bool := match rd.getD c.1.toNat none with
  | none => false
  | some x => decide (x ≤ c.2.2)
def firstOn (rd : OL) (r : List Stop) : Nat := r.findIdx (canOn rd)
def nextR (rs : List (List Stop)) (rd bf : OL) : OL := rs.foldl (fun af r => (r.drop (firstOn rd r + 1)).foldl imp af) bf
theorem rdy_length (ps : List Int) (st : Int) (bf : OL) : (rdy ps st bf).length = bf.length := by simp [rdy]
theorem rdy_getD {ps : List Int} {st : Int} {bf : OL} {k : Nat} (h : k < bf.length) : (rdy ps st bf).getD k none = (bf.getD k none).map fun x => if (k : Int) = st then x else x + ps.getD k 0 := by
  unfold rdy
  rw [List.getD_eq_getElem?_getD, List.getElem?_map, List.getElem?_range h]
  rfl
theorem canOn_board {ps : List Int} {st tm : Int} {bf : OL} {c : Stop} (h0 : 0 ≤ c.1) (h1 : c.1.toNat < bf.length) (hs : bf.getD st.toNat none = some tm) : canOn (rdy ps st bf) c = board ps st tm bf c := by
  unfold canOn board ready
  rw [rdy_getD h1]
  have e0 : ((c.1.toNat : Nat) : Int) = c.1 := by omega
  by_cases e : c.1 = st
  · rw [if_pos e, e, hs]
    show (match (some (if ((st.toNat : Nat) : Int) = st then tm else tm + ps.getD st.toNat 0) : Option Int) with | none => false | some x => decide (x ≤ c.2.2)) = _
    rw [if_pos (by omega)]
  · rw [if_neg e]
    congr 1
    cases bf.getD c.1.toNat none with
    | none => rfl
    | some x =>
      show some (if ((c.1.toNat : Nat) : Int) = st then x else _) = _
      rw [if_neg (by omega)]
      rfl
theorem imps_same : ∀ {cs : List Stop} {X : OL}, (∀ d ∈ cs, Ole (X.getD d.1.toNat none) (some d.2.1)) → cs.foldl imp X = X
  | [], _, _ => rfl
  | c :: cs, X, h => by
    have e : imp X c = X := by
      unfold imp impB
      obtain ⟨x, hx, hle⟩ := h c List.mem_cons_self _ rfl
      rw [hx]
      exact if_neg (by simp; omega)
    rw [List.foldl_cons, e]
    exact imps_same fun d hd => h d (List.mem_cons_of_mem _ hd)
theorem furR_first {ps : List Int} {st tm : Int} {bf af : OL} {r : List Stop} (hin : ∀ c ∈ r, c.1.toNat < af.length) : ∀ i, i ≤ r.length → furR ps st tm bf r i af = if r.findIdx (board ps st tm bf) < i then (r.drop (r.findIdx (board ps st tm bf) + 1)).foldl imp af else af
  | 0, _ => by rw [if_neg (by omega)]; rfl
  | i + 1, hi => by
    have ih := furR_first (ps := ps) (st := st) (tm := tm) (bf := bf) hin i (by omega)
    have hc : r[i]? = some r[i] := List.getElem?_eq_getElem _
    show (match r[i]? with | none => _ | some c => _) = _
    rw [hc]
    show (if board ps st tm bf r[i] = true then _ else _) = _
    by_cases hlt : r.findIdx (board ps st tm bf) < i
    · rw [ih, if_pos hlt, if_pos (show _ < i + 1 by omega)]
      split
      · refine imps_same fun d hd => ?_
        refine imps_at ?_ (hin d (List.mem_of_mem_drop hd))
        obtain ⟨j, hj⟩ := List.mem_iff_getElem?.mp hd
        rw [List.getElem?_drop] at hj
        refine List.mem_of_getElem? (i := i + 1 + j - (r.findIdx (board ps st tm bf) + 1)) ?_
        rw [List.getElem?_drop, ← hj]
        congr 1
        omega
      · rfl
    · rw [ih, if_neg hlt]
      by_cases hb : board ps st tm bf r[i] = true
      · have e : r.findIdx (board ps st tm bf) = i := by
          have h1 : ¬ i < r.findIdx (board ps st tm bf) := fun z => by
            have := List.not_of_lt_findIdx z
            rw [hb] at this
            cases this
          omega
        rw [if_pos hb, e, if_pos (by omega)]
      · have e : ¬ r.findIdx (board ps st tm bf) < i + 1 := fun z => by
          have e : r.findIdx (board ps st tm bf) = i := by omega
          have := List.findIdx_getElem (p := board ps st tm bf) (xs := r) (w := by omega)
          simp only [e] at this
          exact hb this
        rw [if_neg hb, if_neg e]
theorem furs_next {ps : List Int} {st tm : Int} {bf rd : OL} : ∀ {rs : List (List Stop)} {af : OL}, (∀ r ∈ rs, ∀ c ∈ r, canOn rd c = board ps st tm bf c ∧ c.1.toNat < af.length) → rs.foldl (fun af r => furR ps st tm bf r r.length af) af = rs.foldl (fun af r => (r.drop (firstOn rd r + 1)).foldl imp af) af
  | [], _, _ => rfl
  | r :: rs, af, h => by
    rw [List.foldl_cons, List.foldl_cons]
    have hr := h r List.mem_cons_self
    have e1 : r.findIdx (board ps st tm bf) = firstOn rd r := by
      unfold firstOn
      have : ∀ (l : List Stop), (∀ c ∈ l, canOn rd c = board ps st tm bf c) → l.findIdx (board ps st tm bf) = l.findIdx (canOn rd) := fun l => by
        induction l with
        | nil => intro _; rfl
        | cons a l ih =>
          intro g
          rw [List.findIdx_cons, List.findIdx_cons, g a List.mem_cons_self, ih fun c hc => g c (List.mem_cons_of_mem _ hc)]
      exact this r fun c hc => (hr c hc).1
    have e : furR ps st tm bf r r.length af = (r.drop (firstOn rd r + 1)).foldl imp af := by
      rw [furR_first (fun c hc => (hr c hc).2) r.length (Nat.le_refl _), e1]
      split
      · rfl
      · rw [List.drop_eq_nil_of_le (by omega)]
        rfl
    rw [e]
    exact furs_next fun r' hr' c hc => ⟨(h r' (List.mem_cons_of_mem _ hr') c hc).1, by rw [imps_length]; exact (h r' (List.mem_cons_of_mem _ hr') c hc).2⟩
/-- the program's round is the law's -/
theorem next_is_further {ps : List Int} {rs : List (List Stop)} {st tm : Int} {bf : OL} (hin : ∀ r ∈ rs, ∀ c ∈ r, 0 ≤ c.1 ∧ c.1 < (bf.length : Int)) (hs : bf.getD st.toNat none = some tm) : nextR rs (rdy ps st bf) bf = further ps rs st tm bf :=
  (furs_next fun r hr c hc => by
    have := hin r hr c hc
    exact ⟨canOn_board this.1 (by omega) hs, by omega⟩).symm
theorem itr_length {ps : List Int} {rs : List (List Stop)} {st tm : Int} {n : Nat} (i : Nat) : (itr (further ps rs st tm) (init n st tm) i).length = n := by
  induction i with
  | zero => exact init_length _ _ _
  | succ i ih => exact further_length.trans ih
theorem itr_le_init {ps : List Int} {rs : List (List Stop)} {st tm : Int} {n : Nat} (i : Nat) : Olel (itr (further ps rs st tm) (init n st tm) i) (init n st tm) := by
  induction i with
  | zero => exact fun k => Ole.refl _
  | succ i ih => exact further_le.trans ih
theorem itr_start {n : Nat} {ps : List Int} {rs : List (List Stop)} {st tm : Int} (ok : ∀ r ∈ rs, OkRide (n : Int) r) (pz : ∀ z ∈ ps, 0 ≤ z) (hs : 0 ≤ st) (hsn : st < (n : Int)) (i : Nat) : (itr (further ps rs st tm) (init n st tm) i).getD st.toNat none = some tm := by
  have h0 : (init n st tm).getD st.toNat none = some tm := by rw [init_getD, if_pos ⟨rfl, by omega⟩]
  obtain ⟨x, hx, hle⟩ := itr_le_init (ps := ps) (rs := rs) (st := st) (tm := tm) (n := n) i st.toNat tm h0
  have := snd_ge ok pz (itr_snd (ps := ps) (tm := tm) (N := n) hs ok i _ _ hx)
  rw [hx, show x = tm by omega]
theorem init_is {n : Nat} {st tm : Int} (hs : 0 ≤ st) : (List.range n).map (fun k => if ((k : Nat) : Int) = st then some tm else (none : Option Int)) = init n st tm := by
  apply List.ext_getElem?
  intro k
  unfold init
  rw [List.getElem?_map, List.getElem?_set, List.length_replicate, List.getElem?_replicate]
  by_cases hk : k < n
  · rw [List.getElem?_range hk, if_pos hk]
    show some (if (k : Int) = st then _ else _) = _
    by_cases e : (k : Int) = st
    · rw [if_pos e, if_pos (by omega), if_pos (by omega)]
    · rw [if_neg e, if_neg (by omega)]
  · rw [List.getElem?_eq_none (by simpa using hk), if_neg hk]
    split
    · rw [if_neg (by omega)]; rfl
    · rfl
/-! the parts that are needed -/
def inTime (e : Int) : Option Int → Bool
  | none => false
  | some x => decide (x ≤ e)
def need (f : Nat → Option Int) (e : Int) : Nat → Option Nat
  | 0 => none
  | n + 1 => match need f e n with
    | some i => some i
    | none => if inTime e (f n) = true then some n else none
theorem need_spec {f : Nat → Option Int} {e : Int} : ∀ {n i : Nat}, need f e n = some i → i < n ∧ inTime e (f i) = true ∧ ∀ j < i, inTime e (f j) = false
  | 0, _, h => by cases h
  | n + 1, i, h => by
    unfold need at h
    split at h
    · rename_i i' e'
      cases h
      have := need_spec e'
      exact ⟨by omega, this.2⟩
    · rename_i e'
      split at h
      · rename_i hb
        cases h
        refine ⟨by omega, hb, fun j hj => ?_⟩
        have : ∀ m, need f e m = none → ∀ j < m, inTime e (f j) = false := fun m => by
          induction m with
          | zero => intro _ j hj; omega
          | succ m ih =>
            intro hm j hj
            unfold need at hm
            split at hm
            · cases hm
            · rename_i e2
              split at hm
              · cases hm
              · rename_i hb2
                by_cases hjm : j < m
                · exact ih e2 j hjm
                · rw [show j = m by omega]; exact Bool.eq_false_iff.mpr hb2
        exact this _ e' j hj
      · cases h
theorem need_none {f : Nat → Option Int} {e : Int} : ∀ {n : Nat}, need f e n = none → ∀ j < n, inTime e (f j) = false
  | 0, _, j, hj => by omega
  | n + 1, h, j, hj => by
    unfold need at h
    split at h
    · cases h
    · rename_i e2
      split at h
      · cases h
      · rename_i hb2
        by_cases hjm : j < n
        · exact need_none e2 j hjm
        · rw [show j = n by omega]; exact Bool.eq_false_iff.mpr hb2
/-! ### parts, pure -/
def partOk (rs : List (List Stop)) (a b c : Int) : Bool := decide (0 ≤ a) && (decide (a < (rs.length : Int)) && (decide (0 ≤ b) && (decide (b < c) && decide (c < ((rideN rs a).length : Int)))))
def optV : Option Int → V
  | none => .non
  | some i => .int i
/-- the parts walked one by one: where one is, from when one can leave, when one came -/
def fit (ps : List Int) (rs : List (List Stop)) : Int → Int → Int → List Stop → Option (Int × Int)
  | here, _, now, [] => some (here, now)
  | here, ready, now, c :: t =>
    if partOk rs c.1 c.2.1 c.2.2 = true ∧ (callN rs c.1 c.2.1).1 = here ∧ ready ≤ (callN rs c.1 c.2.1).2.2 then
      fit ps rs (callN rs c.1 c.2.2).1 ((callN rs c.1 c.2.2).2.1 + ps.getD (callN rs c.1 c.2.2).1.toNat 0) (callN rs c.1 c.2.2).2.1 t
    else none
theorem fit_cons (ps : List Int) (rs : List (List Stop)) (here ready now : Int) (c : Stop) (t : List Stop) : fit ps rs here ready now (c :: t) =
    if partOk rs c.1 c.2.1 c.2.2 = true ∧ (callN rs c.1 c.2.1).1 = here ∧ ready ≤ (callN rs c.1 c.2.1).2.2 then
      fit ps rs (callN rs c.1 c.2.2).1 ((callN rs c.1 c.2.2).2.1 + ps.getD (callN rs c.1 c.2.2).1.toNat 0) (callN rs c.1 c.2.2).2.1 t
    else none := rfl
def comeOf (ps : List Int) (rs : List (List Stop)) (s g t : Int) (parts : List Stop) : Option Int :=
  match fit ps rs s t t parts with
  | some (h, n) => if h = g then some n else none
  | none => none
theorem partOk_iff {rs : List (List Stop)} {a b c : Int} : partOk rs a b c = true ↔ 0 ≤ a ∧ a < (rs.length : Int) ∧ 0 ≤ b ∧ b < c ∧ c < ((rideN rs a).length : Int) := by
  unfold partOk
  simp only [Bool.and_eq_true, decide_eq_true_eq]
/-! ### the trip back, pure -/
theorem imps_new : ∀ {cs : List Stop} {af : OL} {k : Nat} {x : Int}, (cs.foldl imp af).getD k none = some x → af.getD k none = some x ∨ ∃ (j : Nat) (c : Stop), cs[j]? = some c ∧ c.1.toNat = k ∧ c.2.1 = x
  | [], _, _, _, h => .inl h
  | c :: cs, af, k, x, h => by
    rcases imps_new (cs := cs) (af := imp af c) h with h' | ⟨j, d, hj, h'⟩
    · unfold imp at h'
      split at h'
      · rw [getD_set] at h'
        split at h'
        · rename_i e
          cases h'
          exact .inr ⟨0, c, rfl, e.1, rfl⟩
        · exact .inl h'
      · exact .inl h'
    · exact .inr ⟨j + 1, d, by simpa using hj, h'⟩
theorem nextR_new {rd : OL} : ∀ {rs : List (List Stop)} {af : OL} {k : Nat} {x : Int}, (rs.foldl (fun af r => (r.drop (firstOn rd r + 1)).foldl imp af) af).getD k none = some x → af.getD k none = some x ∨ ∃ (i : Nat) (r : List Stop) (off : Nat) (c : Stop), rs[i]? = some r ∧ firstOn rd r < off ∧ r[off]? = some c ∧ c.1.toNat = k ∧ c.2.1 = x
  | [], _, _, _, h => .inl h
  | r :: rs, af, k, x, h => by
    rcases nextR_new (rs := rs) (af := (r.drop (firstOn rd r + 1)).foldl imp af) h with h' | ⟨i, r', off, c, h'⟩
    · rcases imps_new h' with h'' | ⟨j, c, hj, h''⟩
      · exact .inl h''
      · rw [List.getElem?_drop] at hj
        exact .inr ⟨0, r, firstOn rd r + 1 + j, c, rfl, by omega, hj, h''⟩
    · exact .inr ⟨i + 1, r', off, c, by simpa using h'⟩
section
variable {n : Nat} {ps : List Int} {rs : List (List Stop)} {st tm : Int}
theorem itr_mono (i : Nat) : ∀ j, Olel (itr (further ps rs st tm) (init n st tm) (i + j)) (itr (further ps rs st tm) (init n st tm) i)
  | 0 => fun k => Ole.refl _
  | j + 1 => further_le.trans (itr_mono i j)
def rdAt (ps : List Int) (tm : Int) (k : Nat) (s x : Int) : Int := if k = 0 then tm else x + ps.getD s.toNat 0
theorem trip_there (ok : ∀ r ∈ rs, OkRide (n : Int) r) (pz : ∀ z ∈ ps, 0 ≤ z) (hs : 0 ≤ st) (hsn : st < (n : Int)) {k : Nat} {stop come : Int} (h0 : 0 ≤ stop)
    (hx : (itr (further ps rs st tm) (init n st tm) (k + 1)).getD stop.toNat none = some come) (hn : ¬ Ole ((itr (further ps rs st tm) (init n st tm) k).getD stop.toNat none) (some come)) :
    ∃ (i : Nat) (r : List Stop) (off : Nat) (c : Stop), rs[i]? = some r ∧ firstOn (rdy ps st (itr (further ps rs st tm) (init n st tm) k)) r < off ∧ r[off]? = some c ∧ c.1 = stop ∧ c.2.1 = come := by
  have e : itr (further ps rs st tm) (init n st tm) (k + 1) = nextR rs (rdy ps st (itr (further ps rs st tm) (init n st tm) k)) (itr (further ps rs st tm) (init n st tm) k) := by
    refine (next_is_further (fun r hr c hc => ?_) (itr_start ok pz hs hsn k)).symm
    rw [itr_length]
    have := (ok r hr).each c hc
    exact ⟨this.1, this.2.1⟩
  rw [e] at hx
  rcases nextR_new hx with h | ⟨i, r, off, c, h1, h2, h3, h4, h5⟩
  · exact absurd (fun y hy => ⟨come, h, by cases hy; exact Int.le_refl _⟩) hn
  · refine ⟨i, r, off, c, h1, h2, h3, ?_, h5⟩
    have := (ok r (List.mem_of_getElem? h1)).each c (List.mem_of_getElem? h3)
    omega
theorem trip_step (ok : ∀ r ∈ rs, OkRide (n : Int) r) (pz : ∀ z ∈ ps, 0 ≤ z) (hs : 0 ≤ st) (hsn : st < (n : Int)) {k : Nat} {stop come : Int}
    (hn : ¬ Ole ((itr (further ps rs st tm) (init n st tm) k).getD stop.toNat none) (some come))
    {i : Nat} {r : List Stop} {off : Nat} {c : Stop} (h1 : rs[i]? = some r) (h2 : firstOn (rdy ps st (itr (further ps rs st tm) (init n st tm) k)) r < off) (h3 : r[off]? = some c) (h4 : c.1 = stop) (h5 : c.2.1 = come) :
    ∃ (c0 : Stop) (x : Int), r[firstOn (rdy ps st (itr (further ps rs st tm) (init n st tm) k)) r]? = some c0 ∧ (itr (further ps rs st tm) (init n st tm) k).getD c0.1.toNat none = some x ∧ 0 ≤ c0.1 ∧ c0.1 < (n : Int) ∧ (k = 0 → c0.1 = st ∧ x = tm) ∧
      (∀ k', k = k' + 1 → ¬ Ole ((itr (further ps rs st tm) (init n st tm) k').getD c0.1.toNat none) (some x)) ∧ rdAt ps tm k c0.1 x ≤ c0.2.2 := by
  obtain ⟨X, hX⟩ : ∃ X, itr (further ps rs st tm) (init n st tm) k = X := ⟨_, rfl⟩
  have hlen : X.length = n := by rw [← hX, itr_length]
  have hst : X.getD st.toNat none = some tm := by rw [← hX]; exact itr_start ok pz hs hsn k
  rw [hX] at hn h2 ⊢
  have hol : off < r.length := (List.getElem?_eq_some_iff.mp h3).1
  have hlt : firstOn (rdy ps st X) r < r.length := by omega
  obtain ⟨c0, hc0⟩ : ∃ c0, r[firstOn (rdy ps st X) r]? = some c0 := ⟨_, List.getElem?_eq_getElem hlt⟩
  have hr := List.mem_of_getElem? h1
  have hc0in := (ok r hr).each c0 (List.mem_of_getElem? hc0)
  have hcan : canOn (rdy ps st X) c0 = true := by
    have := List.findIdx_getElem (p := canOn (rdy ps st X)) (xs := r) (w := hlt)
    have e : r[r.findIdx (canOn (rdy ps st X))]'hlt = c0 := (List.getElem?_eq_some_iff.mp hc0).2
    exact e ▸ this
  have hb : board ps st tm X c0 = true := by rw [← canOn_board hc0in.1 (by omega) hst]; exact hcan
  have leg : Leg rs c0 c := ⟨r, hr, _, off, h2, hc0, h3⟩
  have lg := leg_lt ok leg
  -- the stop's coming
  unfold canOn at hcan
  rw [rdy_getD (by omega)] at hcan
  cases hx : X.getD c0.1.toNat none with
  | none => rw [hx] at hcan; cases hcan
  | some x =>
    rw [hx] at hcan
    have hcan : (if ((c0.1.toNat : Nat) : Int) = st then x else x + ps.getD c0.1.toNat 0) ≤ c0.2.2 := of_decide_eq_true hcan
    have e0 : ((c0.1.toNat : Nat) : Int) = c0.1 := by omega
    rw [e0] at hcan
    have hnew : ∀ k', k = k' + 1 → ¬ Ole ((itr (further ps rs st tm) (init n st tm) k').getD c0.1.toNat none) (some x) := fun k' ek ho => by
      obtain ⟨x2, hx2, hle⟩ := ho _ rfl
      have hXk : X = further ps rs st tm (itr (further ps rs st tm) (init n st tm) k') := by rw [← hX, ek]; rfl
      obtain ⟨x3, hx3, hle3⟩ := further_le (ps := ps) (rs := rs) (st := st) (tm := tm) (bf := itr (further ps rs st tm) (init n st tm) k') c0.1.toNat x2 hx2
      rw [← hXk, hx] at hx3
      cases hx3
      have ex : x2 = x := by omega
      have hb' : board ps st tm (itr (further ps rs st tm) (init n st tm) k') c0 = true := by
        unfold board ready at hb ⊢
        rw [hx2, ex]
        rw [hx] at hb
        exact hb
      have := further_at (ps := ps) (st := st) (tm := tm) leg hb' (by rw [itr_length]; omega)
      rw [← hXk, h4, h5] at this
      exact hn this
    refine ⟨c0, x, hc0, hx, hc0in.1, hc0in.2.1, fun ek => ?_, hnew, ?_⟩
    · rw [← hX, ek, show itr (further ps rs st tm) (init n st tm) 0 = init n st tm from rfl, init_getD] at hx
      split at hx
      · rename_i e
        cases hx
        exact ⟨by omega, rfl⟩
      · cases hx
    · unfold rdAt
      cases k with
      | zero =>
        rw [if_pos rfl]
        rw [← hX, show itr (further ps rs st tm) (init n st tm) 0 = init n st tm from rfl, init_getD] at hx
        split at hx
        · rename_i e
          cases hx
          rw [if_pos (by omega)] at hcan
          exact hcan
        · cases hx
      | succ k' =>
        rw [if_neg (by omega)]
        by_cases es : c0.1 = st
        · exfalso
          have := itr_start (ps := ps) (rs := rs) (tm := tm) ok pz hs hsn k'
          refine hnew k' rfl ?_
          rw [es] at hx ⊢
          rw [hst] at hx
          cases hx
          rw [this]
          exact Ole.refl _
        · rw [if_neg es] at hcan
          exact hcan
/-- what is told of the first round in time for the earliest coming -/
theorem need_first (hg : 0 ≤ st) {N : Nat} {g : Nat} {z : Int} (hz : (itr (further ps rs st tm) (init n st tm) N).getD g none = some z) :
    ∃ c, need (fun i => (itr (further ps rs st tm) (init n st tm) i).getD g none) z (N + 1) = some c ∧ c ≤ N ∧ (itr (further ps rs st tm) (init n st tm) c).getD g none = some z ∧ ∀ k, c = k + 1 → ¬ Ole ((itr (further ps rs st tm) (init n st tm) k).getD g none) (some z) := by
  cases hc : need (fun i => (itr (further ps rs st tm) (init n st tm) i).getD g none) z (N + 1) with
  | none =>
    have := need_none hc N (by omega)
    rw [hz] at this
    exact absurd (of_decide_eq_false this) (by omega)
  | some c =>
    obtain ⟨h1, h2, h3⟩ := need_spec hc
    refine ⟨c, rfl, by omega, ?_, fun k ek ho => ?_⟩
    · cases hx : (itr (further ps rs st tm) (init n st tm) c).getD g none with
      | none => rw [hx] at h2; cases h2
      | some x =>
        rw [hx] at h2
        have h2 : x ≤ z := of_decide_eq_true h2
        obtain ⟨y, hy, hle⟩ := itr_mono (n := n) (ps := ps) (rs := rs) (st := st) (tm := tm) c (N - c) g x hx
        rw [show c + (N - c) = N by omega, hz] at hy
        cases hy
        rw [show x = z by omega]
    · obtain ⟨y, hy, hle⟩ := ho _ rfl
      have := h3 k (by omega)
      rw [hy] at this
      exact absurd (of_decide_eq_false this) (by omega)
end
section
variable {P : Program} {w : World} {K : PySem.W.Frag} {mg : Str → Option Value} {base : Heap} {k : Nat}
def turnS (c : Stop) : Stop := (c.1, -c.2.2, -c.2.1)
def turnR (r : List Stop) : List Stop := (r.map turnS).reverse
def turnA (rs : List (List Stop)) : List (List Stop) := rs.map turnR
theorem turnS_turnS (c : Stop) : turnS (turnS c) = c := by
  obtain ⟨a, b, c⟩ := c
  simp [turnS]
theorem turnR_turnR (r : List Stop) : turnR (turnR r) = r := by
  unfold turnR
  rw [List.map_reverse, List.reverse_reverse, List.map_map]
  exact (List.map_congr_left fun c _ => turnS_turnS c).trans (List.map_id _)
theorem turnA_turnA (rs : List (List Stop)) : turnA (turnA rs) = rs := by
  unfold turnA
  rw [List.map_map]
  exact (List.map_congr_left fun c _ => turnR_turnR c).trans (List.map_id _)
theorem turnR_length (r : List Stop) : (turnR r).length = r.length := by simp [turnR]
theorem total_turn (rs : List (List Stop)) : total (turnA rs) = total rs := by
  unfold total turnA
  rw [List.map_map]
  congr 1
  exact List.map_congr_left fun r _ => turnR_length r
def spTR : Sp := fun vs H Q _ => ∃ v r, vs = [v] ∧ Rep Al H (rideD r) v ∧ r.length ≤ 100000 ∧ ∀ v' H', Same H H' → Rep (New H) H' (rideD (turnR r)) v' → Q v' H'
def spT : Sp := fun vs H Q _ => ∃ v rs, vs = [v] ∧ Rep Al H (ridesD rs) v ∧ (ridesD rs).size ≤ 100000 ∧ ∀ v' H', Same H H' → Rep (New H) H' (ridesD (turnA rs)) v' → Q v' H'

theorem sc_turned_ride : FnScope ["ride"] ["ride"] (defScope s_turned_ride) := ⟨rfl, rfl, rfl, by decide +kernel, rfl, by decide +kernel, by decide +kernel⟩
theorem ok_turned_ride (d : DefOk K mg "turned_ride" s_turned_ride ["ride"]) (B : Blt mg) : Cal P w K mg base (k + 1) "turned_ride" ["ride"] spTR := by
  refine d.cal sc_turned_ride (fun vs H Q E h => ?_) (fun f cdv A outer s H vs Q E hr h => ?_)
  · obtain ⟨v, r, rfl, _⟩ := h
    rfl
  obtain ⟨v, r, rfl, hR, hz, q⟩ := h
  refine ⟨_, (pss_one (ps_ret (pe_lc ["stop", "come", "leave"] rfl (LcOk.plain (by decide +kernel) (by decide +kernel) rfl (by decide +kernel)) (pi_revK (K := K) rfl rfl B.reversed (pa_cons (pv 0) pa_nil)) (fun _ _ _ _ _ => ⟨(pg_tupK (K := K) (n := 3) rfl rfl (pgs_cons (pg_name (i := 0) (show ((["stop", "come", "leave"] : List Str) ++ ([] : List Str)).Nodup by decide +kernel) rfl (Or.inl rfl)) (pgs_cons (pg_name (i := 1) (show ((["stop", "come", "leave"] : List Str) ++ ([] : List Str)).Nodup by decide +kernel) rfl (Or.inl rfl)) (pgs_cons (pg_name (i := 2) (show ((["stop", "come", "leave"] : List Str) ++ ([] : List Str)).Nodup by decide +kernel) rfl (Or.inl rfl)) pgs_nil)))), pf_nil, (pe_tup (pa_cons (pv 0) (pa_cons (pe_un un_neg (pv 2)) (pa_cons (pe_un un_neg (pv 1)) pa_nil))))⟩)))), ?_⟩
  obtain ⟨a, xs, rfl, _, ha, hx⟩ := hR.lstE
  have hlx : xs.length = r.length := by rw [hx.length, List.length_map]
  refine ⟨_, rfl, a, xs, rfl, SqL.of ha, ?_⟩
  refine lc_map (New H) ((turnR r).map callD) (by rw [List.length_map, turnR_length]; omega) (fun H' hS => ?_) (fun i H' hi hS => ?_) (fun Dl i H1 x H2 e R he hS hD hys hy hRR => ?_) (fun Dl H' hS hD ys hys hr => ?_)
  · show ((turnR r).map callD).length = xs.length
    rw [List.length_map, turnR_length, hlx]
  · rw [List.length_map, turnR_length] at hi
    exact ⟨by omega, SqL.of (hS _ _ ha)⟩
  · obtain ⟨rfl, hy⟩ := hy
    obtain ⟨e', he', hrep⟩ := hx.reverse.getV hy
    rw [← List.map_reverse, List.getElem?_map] at he'
    obtain ⟨c, hc, rfl⟩ := Option.map_eq_some_iff.mp he'
    have he2 : e = callD (turnS c) := by
      have z : (turnR r)[i]? = some (turnS c) := by
        unfold turnR
        rw [← List.map_reverse, List.getElem?_map, hc]; rfl
      rw [List.getElem?_map, z] at he
      exact (Option.some.inj he).symm
    subst he2
    obtain ⟨t, rfl, ht, _⟩ := rep_call (P' := Al) hrep
    refine ⟨t, _, rfl, SqT.of (hS _ _ ht), rfl, _, _, rfl, _, _, rfl, _, _, rfl, rfl, Kp.none, ?_⟩
    refine ⟨_, rfl, _, rfl, _, rfl, _, rfl, _, rfl, small (by simp), fun p hp => ?_⟩
    exact hRR _ _ (Same.new hp _) (rep_callI (c := turnS c) upd_same)
  · exact q _ H' hS (.lstI hD hys (hr.weak fun _ z => z.2))

theorem sc_turned : FnScope ["rides"] ["rides"] (defScope s_turned) := ⟨rfl, rfl, rfl, by decide +kernel, rfl, by decide +kernel, by decide +kernel⟩
theorem ok_turned (d : DefOk K mg "turned" s_turned ["rides"]) (B : Blt mg) (c_turned_ride : Cal P w K mg base k "turned_ride" ["ride"] spTR) : Cal P w K mg base (k + 1) "turned" ["rides"] spT := by
  refine d.cal sc_turned (fun vs H Q E h => ?_) (fun f cdv A outer s H vs Q E hr h => ?_)
  · obtain ⟨v, rs, rfl, _⟩ := h
    rfl
  obtain ⟨v, rs, rfl, hR, hz, q⟩ := h
  rw [size_rides] at hz
  refine ⟨_, (pss_one (ps_ret (pe_lc ["ride"] rfl (LcOk.plain (by decide +kernel) (by decide +kernel) rfl (by decide +kernel)) (pi_listK (K := K) rfl (pv 0)) (fun _ _ _ _ _ => ⟨(pg_name (i := 0) (show ((["ride"] : List Str) ++ ([] : List Str)).Nodup by decide +kernel) rfl (Or.inl rfl)), pf_nil, (pe_callC c_turned_ride hr rfl (pa_cons (pv 0) pa_nil))⟩)))), ?_⟩
  obtain ⟨a, xs, rfl, _, ha, hx⟩ := hR.lstE
  have hlx : xs.length = rs.length := by rw [hx.length, List.length_map]
  have hlt : ((turnA rs).map rideD).length = rs.length := by simp [turnA]
  refine ⟨_, rfl, a, rfl, ⟨xs, SqL.of ha⟩, ?_⟩
  refine lc_map (New H) ((turnA rs).map rideD) (by rw [hlt]; omega) (fun H' hS => ⟨xs, SqL.of (hS _ _ ha), by rw [hlt]; omega⟩) (fun i H' hi hS => ?_) (fun Dl i H1 x H2 e R he hS hD hys hy hRR => ?_) (fun Dl H' hS hD ys hys hr => ?_)
  · rw [hlt] at hi
    exact ⟨xs, xs[i], SqL.of (hS _ _ ha), List.getElem?_eq_getElem (by omega)⟩
  · obtain ⟨rfl, hy⟩ := hy
    have hxi := hy xs (SqL.of (hS _ _ ha))
    obtain ⟨e', he', hrep⟩ := hx.getV hxi
    rw [List.getElem?_map] at he'
    obtain ⟨r, hr1, rfl⟩ := Option.map_eq_some_iff.mp he'
    have he2 : e = rideD (turnR r) := by
      have z : (turnA rs)[i]? = some (turnR r) := by
        unfold turnA
        rw [List.getElem?_map, hr1]; rfl
      rw [List.getElem?_map, z] at he
      exact (Option.some.inj he).symm
    subst he2
    have hrl : r.length ≤ total rs := by
      exact le_total (List.mem_of_getElem? hr1)
    refine ⟨Kp.none, _, rfl, _, r, rfl, hrep.mono hS, by omega, fun v' H' g rv => ?_⟩
    refine hRR _ _ g (rv.weak fun b hb => ⟨?_, New.back hS b hb⟩)
    obtain ⟨ys, hys⟩ := hys
    exact New.ne hb hys
  · exact q _ H' hS (.lstI hD hys (hr.weak fun _ z => z.2))
end
/-! ### turned rides -/
theorem turnR_get {r : List Stop} {i : Nat} {c : Stop} (h : r[i]? = some c) : (turnR r)[r.length - 1 - i]? = some (turnS c) := by
  have hi : i < r.length := (List.getElem?_eq_some_iff.mp h).1
  unfold turnR
  rw [List.getElem?_reverse (by rw [List.length_map]; omega), List.length_map, List.getElem?_map, show r.length - 1 - (r.length - 1 - i) = i by omega, h]
  rfl
theorem leg_turn {rs : List (List Stop)} {c d : Stop} (l : Leg rs c d) : Leg (turnA rs) (turnS d) (turnS c) := by
  obtain ⟨r, hr, i, j, hij, hi, hj⟩ := l
  have hjl : j < r.length := (List.getElem?_eq_some_iff.mp hj).1
  exact ⟨turnR r, List.mem_map.mpr ⟨r, hr, rfl⟩, r.length - 1 - j, r.length - 1 - i, by omega, turnR_get hj, turnR_get hi⟩
theorem ch_turn {ps : List Int} {rs : List (List Stop)} {s y g x : Int} (h : Ch ps rs s y g x) : Ch ps (turnA rs) g (-x) s (-y) := by
  induction h with
  | one l => exact .one (leg_turn l)
  | cons l h1 _ ih => exact ih.snoc (leg_turn l) rfl (by show _ ≤ -_; omega)
theorem ch_turned {ps : List Int} {rs : List (List Stop)} {s y g x : Int} (h : Ch ps (turnA rs) s y g x) : Ch ps rs g (-x) s (-y) := by
  have := ch_turn h
  rw [turnA_turnA] at this
  exact this
theorem ok_turn {n : Int} {r : List Stop} (o : OkRide n r) : OkRide n (turnR r) where
  some := fun z => o.some (by
    have := turnR_length r
    rw [z] at this
    exact List.length_eq_zero_iff.mp this.symm)
  each := fun c hc => by
    unfold turnR at hc
    rw [List.mem_reverse] at hc
    obtain ⟨d, hd, rfl⟩ := List.mem_map.mp hc
    have := o.each d hd
    exact ⟨this.1, this.2.1, by show -d.2.2 ≤ -d.2.1; omega⟩
  rise := by
    unfold turnR
    rw [List.pairwise_reverse, List.pairwise_map]
    exact o.rise.imp fun {c d} h => by show -d.2.1 < -c.2.2; omega
/-! ### choices, pure -/
section
variable {ps : List Int} {rs : List (List Stop)} {st go : Int}
/-- the earliest coming from t on; the latest start by x -/
def EarS (ps : List Int) (rs : List (List Stop)) (st go t : Int) (o : Option Int) : Prop := (∀ x, o = some x → ∃ y, t ≤ y ∧ Ch ps rs st y go x) ∧ ∀ y x, t ≤ y → Ch ps rs st y go x → Ole o (some x)
def LatS (ps : List Int) (rs : List (List Stop)) (st go x : Int) (o : Option Int) : Prop := (∀ y, o = some y → ∃ x', x' ≤ x ∧ Ch ps rs st y go x') ∧ ∀ y x', Ch ps rs st y go x' → x' ≤ x → ∃ z, o = some z ∧ y ≤ z
/-- by the earliest coming there is a start, no earlier -/
theorem lat_of_ear {t c : Int} {o : Option Int} (e : EarS ps rs st go t (some c)) (l : LatS ps rs st go c o) : ∃ b, o = some b ∧ t ≤ b := by
  obtain ⟨y, hy, ch⟩ := e.1 c rfl
  obtain ⟨z, hz, hle⟩ := l.2 y c ch (Int.le_refl _)
  exact ⟨z, hz, by omega⟩
inductive Run (ps : List Int) (rs : List (List Stop)) (st go last t0 : Int) : List (Int × Int) → Int → Prop where
  | nil : Run ps rs st go last t0 [] t0
  | snoc {told : List (Int × Int)} {t b c : Int} : Run ps rs st go last t0 told t → EarS ps rs st go t (some c) → LatS ps rs st go c (some b) → b ≤ last → Run ps rs st go last t0 (told ++ [(b, c)]) (b + 1)
variable {last t0 : Int}
theorem Run.le {told : List (Int × Int)} {t : Int} (h : Run ps rs st go last t0 told t) : t0 ≤ t ∧ (∀ p ∈ told, t0 ≤ p.1 ∧ p.1 ≤ last ∧ p.1 < t ∧ LatS ps rs st go p.2 (some p.1)) := by
  induction h with
  | nil => exact ⟨Int.le_refl _, fun _ h => by cases h⟩
  | @snoc told t b c _ e l hb ih =>
    obtain ⟨b', hb', hle⟩ := lat_of_ear e l
    cases hb'
    refine ⟨by omega, fun p hp => ?_⟩
    rcases List.mem_append.mp hp with hp | hp
    · have := ih.2 p hp
      exact ⟨this.1, this.2.1, by omega, this.2.2.2⟩
    · rw [List.mem_singleton.mp hp]
      exact ⟨by show t0 ≤ b; omega, hb, by show b < b + 1; omega, l⟩
theorem Run.rise {told : List (Int × Int)} {t : Int} (h : Run ps rs st go last t0 told t) : told.Pairwise fun p q => p.1 < q.1 ∧ p.2 < q.2 := by
  induction h with
  | nil => exact .nil
  | @snoc told t b c r e l hb ih =>
    rw [List.pairwise_append]
    refine ⟨ih, List.pairwise_singleton _ _, fun p hp q hq => ?_⟩
    rw [List.mem_singleton.mp hq]
    obtain ⟨_, _, h3, h4⟩ := r.le.2 p hp
    obtain ⟨y, hy, ch⟩ := e.1 c rfl
    obtain ⟨b', hb', hle⟩ := lat_of_ear e l
    cases hb'
    refine ⟨by show p.1 < b; omega, ?_⟩
    show p.2 < c
    apply Int.lt_of_not_ge
    intro hge
    obtain ⟨z, hz, hyz⟩ := h4.2 y c ch hge
    cases hz
    omega
end
/-! ### the program's rounds -/
section
variable {P : Program} {w : World} {K : PySem.W.Frag} {mg : Str → Option Value} {base : Heap} {k : Nat}
def rdyV (ps : List Int) (st : Int) (n : Nat) (o : Option Int) : Option Int := o.map fun x => if (n : Int) = st then x else x + ps.getD n 0
def spReady : Sp := fun vs H Q _ => ∃ (p : Addr) (ps : List Int) (st : Int) (n : Nat) (o : Option Int), vs = [.ref p, .int st, .int (n : Int), oV o] ∧ H p = some (.lst (ps.map V.int)) ∧ n < ps.length ∧ Q (oV (rdyV ps st n o)) H
def spReadys : Sp := fun vs H Q _ => ∃ (p : Addr) (ps : List Int) (st : Int) (b : Addr) (bf : OL), vs = [.ref p, .int st, .ref b] ∧ H p = some (.lst (ps.map V.int)) ∧ H b = some (.lst (bf.map oV)) ∧ bf.length = ps.length ∧ ps.length ≤ 100000 ∧
  ∀ A H', Same H H' → H A = none → H' A = some (.lst ((rdy ps st bf).map oV)) → Q (.ref A) H'
def spFirstOn : Sp := fun vs H Q _ => ∃ (v : V) (r : List Stop) (b : Addr) (rd : OL), vs = [v, .ref b] ∧ Rep Al H (rideD r) v ∧ H b = some (.lst (rd.map oV)) ∧ (∀ c ∈ r, 0 ≤ c.1 ∧ c.1 < (rd.length : Int)) ∧
  ∀ H', Same H H' → Q (.int ((firstOn rd r : Nat) : Int)) H'
def spNext : Sp := fun vs H Q _ => ∃ (p : Addr) (ps : List Int) (v : V) (rs : List (List Stop)) (st : Int) (b : Addr) (bf : OL), vs = [.ref p, v, .int st, .ref b] ∧ H p = some (.lst (ps.map V.int)) ∧ Rep Al H (ridesD rs) v ∧ H b = some (.lst (bf.map oV)) ∧ InSt ps.length rs ∧ bf.length = ps.length ∧ ps.length ≤ 100000 ∧
  ∀ A H', Same H H' → H A = none → H' A = some (.lst ((nextR rs (rdy ps st bf) bf).map oV)) → Q (.ref A) H'

theorem sc_ready_time : FnScope ["pauses", "start", "stop", "come"] ["pauses", "start", "stop", "come"] (defScope s_ready_time) := ⟨rfl, rfl, rfl, by decide +kernel, rfl, by decide +kernel, by decide +kernel⟩
theorem ok_ready_time (d : DefOk K mg "ready_time" s_ready_time ["pauses", "start", "stop", "come"]) (B : Blt mg) : Cal P w K mg base (k + 1) "ready_time" ["pauses", "start", "stop", "come"] spReady := by
  refine d.cal sc_ready_time (fun vs H Q E h => ?_) (fun f cdv A outer s H vs Q E hr h => ?_)
  · obtain ⟨p, ps, st, n, o, rfl, _⟩ := h
    rfl
  obtain ⟨p, ps, st, n, o, rfl, hp, hn, q⟩ := h
  refine ⟨_, (pss_cons (ps_if (pt_cmpR op_isN (pv 3) pe_non (nomark _)) (pss_one (ps_ret pe_non)) pss_nil)
    (pss_one (ps_ret (pe_ifExp (pt_cmpR op_eq (pv 2) (pv 1) (nomark _)) (pv 3) (pe_op op_add (pv 3) (pe_ix (ix_listK (K := K) rfl) (pv 0) (pv 2) (fun _ _ => rfl))))))), ?_⟩
  cases o with
  | none => exact ⟨_, rfl, rfl, _, rfl, iteT q⟩
  | some x =>
    refine ⟨_, rfl, rfl, _, rfl, iteF ?_⟩
    refine ⟨_, rfl, _, rfl, rfl, _, rfl, ite2 (fun e => ?_) (fun e => ?_)⟩
    · have e' : (n : Int) = st := by simpa using e
      refine ⟨_, rfl, ?_⟩
      have z : rdyV ps st n (some x) = some x := by simp [rdyV, e']
      rw [z] at q
      exact q
    · have e' : ¬ (n : Int) = st := by simpa using e
      refine ⟨_, rfl, _, rfl, _, rfl, p, _, _, _, rfl, rfl, SqL.of hp, atP (by omega) (by omega), _, _, rfl, rfl, ?_⟩
      have z : rdyV ps st n (some x) = some (x + ps.getD n 0) := by simp [rdyV, e']
      rw [z] at q
      rw [Int.toNat_natCast]
      exact q

theorem rep_oV {P : Addr → Prop} {H : Hp} (o : Option Int) : Rep P H (oD o) (oV o) := by
  cases o with
  | none => exact .nonI
  | some i => exact .intI i
theorem rdy_get {ps : List Int} {st : Int} {bf : OL} {i : Nat} {o : Option Int} (h : bf[i]? = some o) : (rdy ps st bf)[i]? = some (rdyV ps st i o) := by
  have hi := (List.getElem?_eq_some_iff.mp h).1
  unfold rdy
  rw [List.getElem?_map, List.getElem?_range hi]
  show some (rdyV ps st i (bf.getD i none)) = _
  rw [List.getD_eq_getElem?_getD, h]
  rfl
theorem sc_ready_times : FnScope ["pauses", "start", "comings"] ["pauses", "start", "comings"] (defScope s_ready_times) := ⟨rfl, rfl, rfl, by decide +kernel, rfl, by decide +kernel, by decide +kernel⟩
theorem ok_ready_times (d : DefOk K mg "ready_times" s_ready_times ["pauses", "start", "comings"]) (B : Blt mg) (c_ready_time : Cal P w K mg base k "ready_time" ["pauses", "start", "stop", "come"] spReady) : Cal P w K mg base (k + 1) "ready_times" ["pauses", "start", "comings"] spReadys := by
  refine d.cal sc_ready_times (fun vs H Q E h => ?_) (fun f cdv A outer s H vs Q E hr h => ?_)
  · obtain ⟨p, ps, st, b, bf, rfl, _⟩ := h
    rfl
  obtain ⟨p, ps, st, b, bf, rfl, hp, hb, hbl, hpl, q⟩ := h
  refine ⟨_, (pss_one (ps_ret (pe_lc ["stop", "come"] rfl (LcOk.mk (cl := [("start", s.heap.objs.size + 1 + 1), ("pauses", s.heap.objs.size + 1)]) (fr := [0, 1]) (frN := ["pauses", "start"]) (by rfl) (by decide +kernel) rfl (by decide +kernel) (fun _ => .cons rfl rfl rfl rfl (.cons rfl rfl rfl rfl .nil)) (fun _ _ h => h) (by rfl)) (pi_enumK (K := K) rfl rfl B.enumerate (pa_cons (pv 2) pa_nil)) (fun _ _ _ _ _ => ⟨(pg_tupK (K := K) (n := 2) rfl rfl (pgs_cons (pg_name (i := 0) (show ((["stop", "come"] : List Str) ++ (["pauses", "start"] : List Str)).Nodup by decide +kernel) rfl (Or.inl rfl)) (pgs_cons (pg_name (i := 1) (show ((["stop", "come"] : List Str) ++ (["pauses", "start"] : List Str)).Nodup by decide +kernel) rfl (Or.inl rfl)) pgs_nil))), pf_nil, (pe_callC c_ready_time hr rfl (pa_cons (pv 2) (pa_cons (pv 3) (pa_cons (pv 0) (pa_cons (pv 1) pa_nil)))))⟩)))), ?_⟩
  have hlen : ((rdy ps st bf).map oD).length = bf.length := by rw [List.length_map, rdy_length]
  refine ⟨_, rfl, b, rfl, ⟨_, SqL.of hb⟩, ?_⟩
  refine lc_map Al ((rdy ps st bf).map oD) (by rw [hlen]; omega) (fun H' hS => ⟨_, SqL.of (hS _ _ hb), by rw [hlen, List.length_map]; exact Nat.le_refl _⟩) (fun i H' hi hS => ?_) (fun Dl i H1 x H2 e R he hS hD hys hy hRR => ?_) (fun Dl H' hS hD ys hys hr' => ?_)
  · rw [hlen] at hi
    exact ⟨bf.map oV, (bf.map oV)[i]'(by rw [List.length_map]; exact hi), SqL.of (hS _ _ hb), List.getElem?_eq_getElem _⟩
  · obtain ⟨T, x', hT, rfl, rfl, hy⟩ := hy
    have hxi := hy _ (SqL.of (hS _ _ hb))
    rw [List.getElem?_map] at hxi
    obtain ⟨o, ho, rfl⟩ := Option.map_eq_some_iff.mp hxi
    have hi := (List.getElem?_eq_some_iff.mp ho).1
    rw [List.getElem?_map, rdy_get ho] at he
    cases he
    have g1 := Same.new hT (.tup [.int (i : Int), oV o])
    refine ⟨T, _, rfl, SqT.of upd_same, rfl, _, _, rfl, _, _, rfl, rfl, ((Kp.refl _).set rfl).set rfl, ?_⟩
    refine ⟨_, rfl, _, rfl, _, rfl, _, rfl, p, ps, st, i, o, rfl, g1 _ _ (hS _ _ hp), by omega, ?_⟩
    exact hRR _ _ g1 (rep_oV _)
  · refine q _ H' hS hD ?_
    rw [hys, repL_oVE hr']

theorem sc_first_on : FnScope ["ride", "ready", "number", "call"] ["ride", "ready"] (defScope s_first_on) := ⟨rfl, rfl, rfl, by decide +kernel, rfl, by decide +kernel, by decide +kernel⟩
theorem ok_first_on (d : DefOk K mg "first_on" s_first_on ["ride", "ready"]) (B : Blt mg) : Cal P w K mg base (k + 1) "first_on" ["ride", "ready"] spFirstOn := by
  refine d.cal sc_first_on (fun vs H Q E h => ?_) (fun f cdv A outer s H vs Q E hr h => ?_)
  · obtain ⟨v, r, b, rd, rfl, _⟩ := h
    rfl
  obtain ⟨v, r, b, rd, rfl, hR, hb, hin, q⟩ := h
  refine ⟨_, (pss_cons (ps_for PassesOwn.never rfl (pi_enumK (K := K) rfl rfl B.enumerate (pa_cons (pv 0) pa_nil)) (pg_tupK (K := K) (n := 2) rfl rfl (pgs_cons (pg_name (i := 2) sc_first_on.nd rfl (Or.inl rfl)) (pgs_cons (pg_name (i := 3) sc_first_on.nd rfl (Or.inl rfl)) pgs_nil))) (pss_one (ps_if (PW.pt (pw_and (pt_cmpR op_notN (pe_ix (ix_listK (K := K) rfl) (pv 1) (pe_ix (ix_tupK (K := K) rfl) (pv 3) pe_int (fun _ _ => rfl)) (fun _ _ => rfl)) pe_non (nomark _)) (pw_and1 (pt_cmpR op_le (pe_ix (ix_listK (K := K) rfl) (pv 1) (pe_ix (ix_tupK (K := K) rfl) (pv 3) pe_int (fun _ _ => rfl)) (fun _ _ => rfl)) (pe_ix (ix_tupK (K := K) rfl) (pv 3) pe_int (fun _ _ => rfl)) (nomark _))))) (pss_one (ps_ret (pv 2))) pss_nil)))
    (pss_one (ps_ret (pe_callB (call_lenK (K := K) rfl) rfl B.len bt_len (pa_cons (pv 0) pa_nil))))), ?_⟩
  obtain ⟨a, zs, rfl, _, ha, hz⟩ := hR.lstE
  have hlz : zs.length = r.length := by rw [hz.length, List.length_map]
  refine ⟨_, rfl, a, rfl, ⟨zs, SqL.of ha⟩, ?_⟩
  refine for_enum (xs := zs) (fun i σ H' => Same H H' ∧ i ≤ firstOn rd r ∧ ∃ o2 o3, σ = [some (.ref a), some (.ref b), o2, o3]) ⟨Same.refl _, Nat.zero_le _, _, _, rfl⟩ ?_ ?_ ?_
  · rintro i σ H' _ ⟨g, _⟩
    exact SqL.of (g _ _ ha)
  · rintro i x σ H' T hxi ⟨g, hi, o2, o3, rfl⟩ hT
    obtain ⟨e', he', hrep⟩ := hz.getV hxi
    rw [List.getElem?_map] at he'
    obtain ⟨c, hc, rfl⟩ := Option.map_eq_some_iff.mp he'
    obtain ⟨t, rfl, ht, _⟩ := rep_call (P' := Al) hrep
    have g1 := g.trans (Same.new hT (.tup [.int (i : Int), .ref t]))
    have hcin := hin c (List.mem_of_getElem? hc)
    have ht1 := g1 _ _ ht
    have hb1 := g1 _ _ hb
    have hat : atI (rd.map oV) c.1 = some (oV (rd.getD c.1.toNat none)) := atO hcin.1 hcin.2
    refine ⟨T, _, rfl, SqT.of upd_same, rfl, _, _, rfl, _, _, rfl, rfl, ?_⟩
    refine ⟨_, rfl, _, rfl, t, _, _, _, rfl, rfl, SqT.of ht1, rfl, b, _, _, _, rfl, rfl, SqL.of hb1, hat, rfl, _, rfl, ?_⟩
    have hlt : i < r.length := (List.getElem?_eq_some_iff.mp hc).1
    have next : canOn rd c = false → i + 1 ≤ firstOn rd r := fun hno => by
      rcases Nat.lt_or_ge i (firstOn rd r) with h | h
      · exact h
      · exfalso
        have e : r.findIdx (canOn rd) = i := by unfold firstOn at hi h; omega
        have := List.findIdx_getElem (p := canOn rd) (xs := r) (w := by rw [e]; exact hlt)
        simp only [e, (List.getElem?_eq_some_iff.mp hc).2, hno] at this
        cases this
    cases hco : rd.getD c.1.toNat none with
    | none => exact iteF (iteF ⟨g1, next (by unfold canOn; rw [hco]), _, _, rfl⟩)
    | some y =>
      rw [hco] at hat
      refine iteT ⟨_, rfl, _, rfl, t, _, _, _, rfl, rfl, SqT.of ht1, rfl, b, _, _, _, rfl, rfl, SqL.of hb1, hat, _, rfl, t, _, _, _, rfl, rfl, SqT.of ht1, rfl, _, _, rfl, rfl, _, rfl, ite2 (fun c1 => ?_) (fun c1 => ?_)⟩
      · have e : firstOn rd r = i := by
          have h1 : ¬ i < r.findIdx (canOn rd) := fun z => by
            have := List.not_of_lt_findIdx z
            simp only [(List.getElem?_eq_some_iff.mp hc).2] at this
            unfold canOn at this
            rw [hco] at this
            have this : decide (y ≤ c.2.2) = false := this
            rw [c1] at this
            cases this
          unfold firstOn at hi ⊢
          omega
        have := q _ g1
        rw [e] at this
        exact ⟨_, rfl, this⟩
      · exact ⟨g1, next (by unfold canOn; rw [hco]; exact Bool.eq_false_iff.mpr c1), _, _, rfl⟩
  · rintro σ H' ⟨g, hi, o2, o3, rfl⟩
    refine ⟨_, rfl, a, zs, rfl, .inl (SqL.of (g _ _ ha)), ?_⟩
    have e : firstOn rd r = zs.length := by
      have : r.findIdx (canOn rd) ≤ r.length := List.findIdx_le_length
      unfold firstOn at hi ⊢
      omega
    have := q _ g
    rw [e] at this
    exact this

theorem sc_next_round : FnScope ["pauses", "rides", "start", "ahead", "ready", "comings", "ride", "stop", "come", "leave"] ["pauses", "rides", "start", "ahead"] (defScope s_next_round) := ⟨rfl, rfl, rfl, by decide +kernel, rfl, by decide +kernel, by decide +kernel⟩
theorem ok_next_round (d : DefOk K mg "next_round" s_next_round ["pauses", "rides", "start", "ahead"]) (B : Blt mg) (c_ready_times : Cal P w K mg base k "ready_times" ["pauses", "start", "comings"] spReadys) (c_first_on : Cal P w K mg base k "first_on" ["ride", "ready"] spFirstOn) :
    Cal P w K mg base (k + 1) "next_round" ["pauses", "rides", "start", "ahead"] spNext := by
  refine d.cal sc_next_round (fun vs H Q E h => ?_) (fun f cdv A outer s H vs Q E hr h => ?_)
  · obtain ⟨p, ps, v, rs, st, b, bf, rfl, _⟩ := h
    rfl
  obtain ⟨p, ps, v, rs, st, b, bf, rfl, hp, hR, hb, hin, hbl, hpl, q⟩ := h
  refine ⟨_, (pss_cons (ps_set (i := 4) sc_next_round.nd rfl (Or.inl rfl) (pe_callC c_ready_times hr rfl (pa_cons (pv 0) (pa_cons (pv 2) (pa_cons (pv 3) pa_nil)))))
    (pss_cons (ps_set (i := 5) sc_next_round.nd rfl (Or.inl rfl) (pe_callTy (call_listK (K := K) rfl) rfl B.lst bt_list (pa_cons (pv 3) pa_nil)))
    (pss_cons (ps_for PassesOwn.never rfl (pi_listK (K := K) rfl (pv 1)) (pg_name (i := 6) sc_next_round.nd rfl (Or.inl rfl)) (pss_one (ps_for PassesOwn.never rfl (pi_listK (K := K) rfl (pe_slice (sl_listK (K := K) rfl) (pv 6) (po_some (pe_op op_add (pe_callC c_first_on hr rfl (pa_cons (pv 6) (pa_cons (pv 4) pa_nil))) pe_int)) po_none)) (pg_tupK (K := K) (n := 3) rfl rfl (pgs_cons (pg_name (i := 7) sc_next_round.nd rfl (Or.inl rfl)) (pgs_cons (pg_name (i := 8) sc_next_round.nd rfl (Or.inl rfl)) (pgs_cons (pg_name (i := 9) sc_next_round.nd rfl (Or.inl rfl)) pgs_nil)))) (pss_one (ps_if (PW.pt (pw_or (pt_cmpR op_isN (pe_ix (ix_listK (K := K) rfl) (pv 5) (pv 7) (fun _ _ => rfl)) pe_non (nomark _)) (pw_or1 (pt_cmpR op_lt (pv 8) (pe_ix (ix_listK (K := K) rfl) (pv 5) (pv 7) (fun _ _ => rfl)) (nomark _))))) (pss_one (ps_asg (pv 8) (pg_sub (pv 5) (pv 7) set_list))) pss_nil)))))
    (pss_one (ps_ret (pv 5)))))), ?_⟩
  obtain ⟨a, xs, rfl, _, ha, hx⟩ := hR.lstE
  have hlx : xs.length = rs.length := by rw [hx.length, List.length_map]
  refine ⟨_, rfl, _, rfl, _, rfl, p, ps, st, b, bf, rfl, hp, hb, hbl, hpl, fun Rd H1 g1 hRd0 hRd => ?_⟩
  refine ⟨_, rfl, b, _, rfl, .inl (SqL.of (g1 _ _ hb)), fun F hF => ?_⟩
  have g2 := g1.trans (Same.new hF (.lst (bf.map oV)))
  have hF0 : H F = none := g1.free hF
  have hRdF : Rd ≠ F := ne_of_none hRd hF
  obtain ⟨rd, hrd⟩ : ∃ rd, rdy ps st bf = rd := ⟨_, rfl⟩
  have hrdl : rd.length = ps.length := by rw [← hrd, rdy_length, hbl]
  rw [hrd] at hRd q
  refine ⟨_, rfl, a, rfl, ⟨xs, SqL.of (g2 _ _ ha)⟩, ?_⟩
  refine for_list (xs := xs) (fun i σ H' => ∃ o6 o7 o8 o9, σ = [some (.ref p), some (.ref a), some (.int st), some (.ref b), some (.ref Rd), some (.ref F), o6, o7, o8, o9] ∧ Same H H' ∧ H' Rd = some (.lst (rd.map oV)) ∧
    H' F = some (.lst (((rs.take i).foldl (fun af r => (r.drop (firstOn rd r + 1)).foldl imp af) bf).map oV))) ⟨_, _, _, _, rfl, g2, Same.new hF _ _ _ hRd, upd_same⟩ ?_ ?_ ?_
  · rintro i σ H' _ ⟨_, _, _, _, rfl, g, _⟩
    exact SqL.of (g _ _ ha)
  · rintro i x σ H2 hxi ⟨o6, o7, o8, o9, rfl, g3, hRd3, hF3⟩
    obtain ⟨e', he', hrep⟩ := hx.getV hxi
    rw [List.getElem?_map] at he'
    obtain ⟨r, hr1, rfl⟩ := Option.map_eq_some_iff.mp he'
    rw [foldl_take _ _ _ hr1]
    obtain ⟨cur, hcur⟩ : ∃ cur, (rs.take i).foldl (fun af r => (r.drop (firstOn rd r + 1)).foldl imp af) bf = cur := ⟨_, rfl⟩
    rw [hcur] at hF3 ⊢
    have fl : ∀ (l : List (List Stop)) (af : OL), (l.foldl (fun af r => (r.drop (firstOn rd r + 1)).foldl imp af) af).length = af.length := fun l => by
      induction l with
      | nil => intro af; rfl
      | cons y l ih => intro af; rw [List.foldl_cons, ih, imps_length]
    have hcl : cur.length = ps.length := by rw [← hcur, fl, hbl]
    have hrin := hin r (List.mem_of_getElem? hr1)
    obtain ⟨rb, zs, rfl, _, hrb, hzs⟩ := hrep.lstE
    have hlz : zs.length = r.length := by rw [hzs.length, List.length_map]
    refine ⟨_, rfl, _, rfl, _, rfl, _, r, Rd, rd, rfl, .lstI trivial (g3 _ _ hrb) (hzs.mono g3), hRd3, by rw [hrdl]; exact hrin, fun H4 g4 => ?_⟩
    have g34 := g3.trans g4
    refine ⟨_, _, rfl, rfl, _, rfl, rb, zs, rfl, SqL.of (g34 _ _ hrb), fun pl hpl0 => ?_⟩
    have hfl : firstOn rd r ≤ r.length := List.findIdx_le_length
    have e1 : cutV zs (some (((firstOn rd r : Nat) : Int) + 1)) none = zs.drop (firstOn rd r + 1) := by
      by_cases hle : firstOn rd r + 1 ≤ zs.length
      · rw [show (((firstOn rd r : Nat) : Int) + 1) = ((firstOn rd r + 1 : Nat) : Int) by omega]
        exact cutV_drop zs (firstOn rd r + 1) hle
      · unfold cutV
        rw [HT.sIx_none, show (((firstOn rd r : Nat) : Int) + 1) = ((firstOn rd r + 1 : Nat) : Int) by omega, HT.sIx_nat, List.drop_eq_nil_of_le (by omega), List.drop_eq_nil_of_le (by omega)]
        simp
    rw [e1]
    have g5 := Same.new hpl0 (.lst (zs.drop (firstOn rd r + 1)))
    have hplH : H pl = none := g34.free hpl0
    have hF4 := g4 _ _ hF3
    have hRd4 := g4 _ _ hRd3
    have hpF : F ≠ pl := ne_of_none hF4 hpl0
    have hpR : Rd ≠ pl := ne_of_none hRd4 hpl0
    refine ⟨pl, rfl, ⟨_, SqL.of upd_same⟩, ?_⟩
    refine for_list (xs := zs.drop (firstOn rd r + 1)) (fun m σ H' => ∃ o7 o8 o9, σ = [some (.ref p), some (.ref a), some (.int st), some (.ref b), some (.ref Rd), some (.ref F), some (.ref rb), o7, o8, o9] ∧ Same H H' ∧ H' pl = some (.lst (zs.drop (firstOn rd r + 1))) ∧ H' Rd = some (.lst (rd.map oV)) ∧
      H' F = some (.lst ((((r.drop (firstOn rd r + 1)).take m).foldl imp cur).map oV))) ⟨_, _, _, rfl, g34.trans g5, upd_same, g5 _ _ hRd4, g5 _ _ hF4⟩ ?_ ?_ ?_
    · rintro m σ H' _ ⟨_, _, _, rfl, _, h4, _⟩
      exact SqL.of h4
    · rintro m x σ H5 hxm ⟨o7', o8', o9', rfl, g6, hpl5, hRd5, hF5⟩
      obtain ⟨e5, he5, hrep5⟩ := (hzs.drop (firstOn rd r + 1)).getV hxm
      rw [← List.map_drop, List.getElem?_map] at he5
      obtain ⟨c5, hc5, rfl⟩ := Option.map_eq_some_iff.mp he5
      obtain ⟨t5, rfl, ht5, _⟩ := rep_call (P' := Al) hrep5
      have ht55 := g6 _ _ ht5
      have hc5in := hrin c5 (List.mem_of_mem_drop (List.mem_of_getElem? hc5))
      rw [foldl_take _ _ _ hc5]
      obtain ⟨cm, hcm⟩ : ∃ cm, ((r.drop (firstOn rd r + 1)).take m).foldl imp cur = cm := ⟨_, rfl⟩
      rw [hcm] at hF5 ⊢
      have hcml : cm.length = ps.length := by rw [← hcm, imps_length, hcl]
      have hat : atI (cm.map oV) c5.1 = some (oV (cm.getD c5.1.toNat none)) := atO hc5in.1 (by omega)
      refine ⟨t5, _, rfl, SqT.of ht55, rfl, _, _, rfl, _, _, rfl, _, _, rfl, rfl, ?_⟩
      have yes : impB cm c5 = true → ∃ o7 o8 o9, ([some (.ref p), some (.ref a), some (.int st), some (.ref b), some (.ref Rd), some (.ref F), some (.ref rb), some (.int c5.1), some (.int c5.2.1), some (.int c5.2.2)] : St) = [some (.ref p), some (.ref a), some (.int st), some (.ref b), some (.ref Rd), some (.ref F), some (.ref rb), o7, o8, o9] ∧ Same H (upd H5 F (.lst ((cm.map oV).set c5.1.toNat (.int c5.2.1)))) ∧ upd H5 F (.lst ((cm.map oV).set c5.1.toNat (.int c5.2.1))) pl = some (.lst (zs.drop (firstOn rd r + 1))) ∧ upd H5 F (.lst ((cm.map oV).set c5.1.toNat (.int c5.2.1))) Rd = some (.lst (rd.map oV)) ∧
          upd H5 F (.lst ((cm.map oV).set c5.1.toNat (.int c5.2.1))) F = some (.lst ((imp cm c5).map oV)) := fun e6 => by
        refine ⟨_, _, _, rfl, g6.upd hF0, by rw [upd_ne (Ne.symm hpF)]; exact hpl5, by rw [upd_ne hRdF]; exact hRd5, ?_⟩
        rw [upd_same]
        unfold imp
        rw [if_pos e6, List.map_set]
        rfl
      have ixn : ixN (cm.map oV).length c5.1 = some c5.1.toNat := ixN_natE (by rw [List.length_map]; omega) (by omega)
      refine ⟨_, rfl, _, rfl, F, _, _, _, rfl, rfl, SqL.of hF5, hat, rfl, _, rfl, ?_⟩
      cases hco : cm.getD c5.1.toNat none with
      | none =>
        refine iteT (iteT ?_)
        refine ⟨_, rfl, _, rfl, _, rfl, F, _, _, c5.1.toNat, rfl, rfl, hF5, ixn, ?_⟩
        exact yes (by simp only [impB, hco])
      | some y =>
        rw [hco] at hat
        refine iteF ⟨_, rfl, _, rfl, _, rfl, F, _, _, _, rfl, rfl, SqL.of hF5, hat, _, _, rfl, rfl, _, rfl, ite2 (fun e6 => ?_) (fun e6 => ?_)⟩
        · refine ⟨_, rfl, _, rfl, _, rfl, F, _, _, c5.1.toNat, rfl, rfl, hF5, ixn, ?_⟩
          exact yes (by simp only [impB, hco]; exact e6)
        · refine ⟨_, _, _, rfl, g6, hpl5, hRd5, ?_⟩
          unfold imp
          rw [if_neg (by simp only [impB, hco]; exact e6)]
          exact hF5
    · rintro σ H5 ⟨o7', o8', o9', rfl, g6, _, hRd5, hF5⟩
      refine ⟨_, _, _, _, rfl, g6, hRd5, ?_⟩
      rw [hF5, List.take_of_length_le (by rw [List.length_drop, List.length_drop]; omega)]
  · rintro σ H2 ⟨_, _, _, _, rfl, g3, _, hF3⟩
    rw [hlx, List.take_length] at hF3
    exact ⟨_, rfl, q F H2 g3 hF0 hF3⟩
end
/-! ### all rounds, as the program tells them -/
section
variable {P : Program} {w : World} {K : PySem.W.Frag} {mg : Str → Option Value} {base : Heap} {k : Nat}
def spAllR : Sp := fun vs H Q _ => ∃ p ps v rs st tm, vs = [.ref p, v, .int st, .int tm] ∧ H p = some (.lst (List.map V.int ps)) ∧ Rep Al H (ridesD rs) v ∧ (∀ r ∈ rs, OkRide ps.length r) ∧ (∀ z ∈ ps, 0 ≤ z) ∧ 0 ≤ st ∧ st < (ps.length : Int) ∧ ps.length ≤ 100 ∧
  (ridesD rs).size ≤ 4000 ∧ ∀ M H' n, Same H H' → Rep (New H) H' (roundsD (further ps rs st tm) (init ps.length st tm) n) (.ref M) → Stab (further ps rs st tm) (init ps.length st tm) n → n ≤ ps.length * (total rs + 1) → Q (.ref M) H'
theorem ok_in {n : Nat} {rs : List (List Stop)} (ok : ∀ r ∈ rs, OkRide (n : Int) r) : InSt n rs := fun r hr c hc => ⟨((ok r hr).each c hc).1, ((ok r hr).each c hc).2.1⟩
theorem sc_all_rounds : FnScope ["pauses", "rides", "start", "time", "comings", "told", "further"] ["pauses", "rides", "start", "time"] (defScope s_all_rounds) := ⟨rfl, rfl, rfl, by decide +kernel, rfl, by decide +kernel, by decide +kernel⟩
theorem ok_all_rounds (d : DefOk K mg "all_rounds" s_all_rounds ["pauses", "rides", "start", "time"]) (B : Blt mg) (c_next_round : Cal P w K mg base k "next_round" ["pauses", "rides", "start", "ahead"] spNext) :
    Cal P w K mg base (k + 1) "all_rounds" ["pauses", "rides", "start", "time"] spAllR := by
  refine d.cal sc_all_rounds (fun vs H Q E h => ?_) (fun f cdv A outer s H vs Q E hr h => ?_)
  · obtain ⟨p, ps, v, rs, st, tm, rfl, _⟩ := h
    rfl
  obtain ⟨p, ps, v, rs, st, tm, rfl, hp, hR, hok, hpz, hs0, hs1, hpl, hz, q⟩ := h
  have hz' := hz
  rw [size_rides] at hz
  have hin := ok_in hok
  refine ⟨_, (pss_cons (ps_setLC (i := 4) ["stop"] sc_all_rounds.nd rfl (Or.inl rfl) rfl (LcOk.mk (cl := [("time", s.heap.objs.size + 1 + 1), ("start", s.heap.objs.size + 1)]) (fr := [3, 2]) (frN := ["time", "start"]) (by rfl) (by decide +kernel) rfl (by decide +kernel) (fun _ => .cons rfl rfl rfl rfl (.cons rfl rfl rfl rfl .nil)) (fun _ _ h => h) (by rfl)) (pi_range1 rfl B.range (pa_cons (pe_callB (call_lenK (K := K) rfl) rfl B.len bt_len (pa_cons (pv 0) pa_nil)) pa_nil)) (fun _ _ _ _ _ => ⟨(pg_name (i := 0) (show ((["stop"] : List Str) ++ (["time", "start"] : List Str)).Nodup by decide +kernel) rfl (Or.inl rfl)), pf_nil, (pe_ifExp (pt_cmpR op_eq (pv 0) (pv 2) (nomark _)) (pv 1) pe_non)⟩))
    (pss_cons (ps_set (i := 5) sc_all_rounds.nd rfl (Or.inl rfl) (pe_lst (pa_cons (pv 4) pa_nil)))
    (pss_cons (ps_set (i := 6) sc_all_rounds.nd rfl (Or.inl rfl) (pe_callC c_next_round hr rfl (pa_cons (pv 0) (pa_cons (pv 1) (pa_cons (pv 2) (pa_cons (pv 4) pa_nil))))))
    (pss_cons (ps_while PassesOwn.never (pt_cmpR (op_neSeqK (K := K) rfl hr.units0) (pv 6) (pv 4) (nomark _)) (pss_cons (ps_expr (pe_bmK (K := K) rfl PySem.F.plainAttrs_list PySem.F.slot_list_append PySem.F.type_list_append mt_append (pv 5) (pa_cons (pv 6) pa_nil)))
    (pss_cons (ps_set (i := 4) sc_all_rounds.nd rfl (Or.inl rfl) (pv 6))
    (pss_one (ps_set (i := 6) sc_all_rounds.nd rfl (Or.inl rfl) (pe_callC c_next_round hr rfl (pa_cons (pv 0) (pa_cons (pv 1) (pa_cons (pv 2) (pa_cons (pv 4) pa_nil))))))))))
    (pss_one (ps_ret (pv 5))))))), ?_⟩
  have hlp : (ps.map V.int).length = ps.length := List.length_map _
  refine ⟨_, rfl, p, _, rfl, .inl (SqL.of hp), _, rfl, by omega, by omega, ?_⟩
  have hlen : (((init ps.length st tm)).map oD).length = ps.length := by rw [List.length_map, init_length]
  refine lc_map Al ((init ps.length st tm).map oD) (by rw [hlen]; omega) (fun H' hS => ?_) (fun i H' hi hS => ?_) (fun Dl i H1 x H2 e R he hS hD hys hy hRR => ?_) (fun h0 H1 k0 hh00 ys hys hr' => ?_)
  · show ((((ps.map V.int).length : Nat) : Int)).toNat ≤ _
    rw [hlen]; omega
  · rw [hlen] at hi
    show i < ((((ps.map V.int).length : Nat) : Int)).toNat
    omega
  · obtain ⟨rfl, rfl⟩ := hy
    have hi : i < ps.length := by
      have := (List.getElem?_eq_some_iff.mp he).1
      rw [hlen] at this
      exact this
    rw [← init_is hs0, List.getElem?_map, List.getElem?_map, List.getElem?_range hi] at he
    cases he
    refine ⟨(Kp.refl _).set rfl, ?_⟩
    refine ⟨_, rfl, _, rfl, rfl, _, rfl, ite2 (fun e => ?_) (fun e => ?_)⟩
    · have e' : (i : Int) = st := by simpa using e
      refine ⟨_, rfl, hRR _ _ (Same.refl _) ?_⟩
      dsimp only
      rw [if_pos e']
      exact .intI _
    · have e' : ¬ (i : Int) = st := by simpa using e
      refine hRR _ _ (Same.refl _) ?_
      dsimp only
      rw [if_neg e']
      exact .nonI
  have hh0 : H1 h0 = some (.lst ((init ps.length st tm).map oV)) := by rw [hys, repL_oVE hr']
  refine ⟨_, rfl, small (by simp), fun M hM => ?_⟩
  have k3 := k0.trans (Same.new hM (.lst [.ref h0]))
  have hM0 : H M = none := k0.free hM
  have hhM : h0 ≠ M := ne_of_none hh0 hM
  have nx : ∀ i, nextR rs (rdy ps st (itr (further ps rs st tm) (init ps.length st tm) i)) (itr (further ps rs st tm) (init ps.length st tm) i) = itr (further ps rs st tm) (init ps.length st tm) (i + 1) := fun i =>
    next_is_further (by rw [itr_length]; exact hin) (itr_start hok hpz hs0 hs1 i)
  refine ⟨_, rfl, _, rfl, _, rfl, _, rfl, p, ps, v, rs, st, h0, init ps.length st tm, rfl, k3 _ _ hp, hR.mono k3, Same.new hM _ _ _ hh0, hin, init_length _ _ _, by omega, fun L H4 g4 hL hL4 => ?_⟩
  have nx0 := nx 0
  rw [show itr (further ps rs st tm) (init ps.length st tm) 0 = init ps.length st tm from rfl] at nx0
  rw [nx0] at hL4
  -- the rounds
  refine ⟨fun m σ H' => ∃ n C L vs, σ = [some (.ref p), some v, some (.int st), some (.int tm), some (.ref C), some (.ref M), some (.ref L)] ∧ Same H H' ∧ H L = none ∧ L ≠ M ∧ C ≠ M ∧ H' M = some (.lst vs) ∧
    RepL (fun z => z ≠ M ∧ New H z) H' ((List.range (n + 1)).map fun i => olD (itr (further ps rs st tm) (init ps.length st tm) i)) vs ∧ H' C = some (.lst ((itr (further ps rs st tm) (init ps.length st tm) n).map oV)) ∧ H' L = some (.lst ((itr (further ps rs st tm) (init ps.length st tm) (n + 1)).map oV)) ∧
    (∀ i < n, itr (further ps rs st tm) (init ps.length st tm) (i + 1) ≠ itr (further ps rs st tm) (init ps.length st tm) i) ∧
    m = meas (comes rs) (itr (further ps rs st tm) (init ps.length st tm) n) ∧ m + n ≤ ps.length * (total rs + 1), ⟨_, 0, h0, L, _, rfl, k3.trans g4, k3.free hL, ?_, hhM, g4 _ _ upd_same, ?_, g4 _ _ (Same.new hM _ _ _ hh0), hL4, fun i hi => absurd hi (by omega), rfl, ?_⟩, ?_⟩
  · exact fun z => by rw [z, upd_same] at hL; cases hL
  · exact .consI (rep_olI ⟨hhM, hh00⟩ (g4 _ _ (Same.new hM _ _ _ hh0))) .nilI
  · have := meas_le (comes rs) (init ps.length st tm)
    rw [init_length, comes_length] at this
    exact this
  rintro m σ H5 ⟨n, C, L', vs, rfl, g5, hL0, hLM, hCM, hM5, hr5, hC5, hL5, hnew, rfl, hmn⟩
  have hlen2 : ∀ i, (itr (further ps rs st tm) (init ps.length st tm) i).length = ps.length := fun i => itr_length i
  obtain ⟨F, hF⟩ : ∃ F, further ps rs st tm = F := ⟨_, rfl⟩
  obtain ⟨x0, hx0⟩ : ∃ x, init ps.length st tm = x := ⟨_, rfl⟩
  rw [hF, hx0] at hr5 hC5 hL5 hnew hmn hlen2 ⊢
  have hlv : vs.length = n + 1 := by rw [hr5.length, List.length_map, List.length_range]
  refine ⟨_, rfl, _, rfl, L', C, _, _, rfl, rfl, SqL.of hL5, SqL.of hC5, oV_flat _, oV_flat _, _, rfl, ?_⟩
  rw [eqL_oV]
  refine ite2 (fun e => ?_) (fun e => ?_)
  · have hne : itr F x0 (n + 1) ≠ itr F x0 n := by simpa using e
    have hfall : meas (comes rs) (itr F x0 (n + 1)) < meas (comes rs) (itr F x0 n) := by
      have := further_falls (ps := ps) (rs := rs) (st := st) (tm := tm) (bf := itr F x0 n)
      rw [hF] at this
      rcases this with z | z
      · exact absurd z hne
      · exact z
    refine ⟨fun σ' H' => ∃ C L vs, σ' = [some (.ref p), some v, some (.int st), some (.int tm), some (.ref C), some (.ref M), some (.ref L)] ∧ Same H H' ∧ H L = none ∧ L ≠ M ∧ C ≠ M ∧ H' M = some (.lst vs) ∧
      RepL (fun z => z ≠ M ∧ New H z) H' ((List.range (n + 1 + 1)).map fun i => olD (itr F x0 i)) vs ∧ H' C = some (.lst ((itr F x0 (n + 1)).map oV)) ∧ H' L = some (.lst ((itr F x0 (n + 1 + 1)).map oV)), fun σ' H' ⟨C, L, vs, e1, e2, e3, e4, e4', e5, e6, e6', e7⟩ => ⟨_, hfall, n + 1, C, L, vs, e1, e2, e3, e4, e4', e5, e6, e6', e7, fun i hi => ?_, rfl, by omega⟩, ?_⟩
    · by_cases hi' : i < n
      · exact hnew i hi'
      · rw [show i = n by omega]; exact hne
    have hn100 : n ≤ 500000 := by
      have : ps.length * (total rs + 1) ≤ 100 * (4000 + 1) := Nat.mul_le_mul hpl (by omega)
      omega
    refine ⟨_, rfl, .inl ⟨rfl, _, SqL.of hM5⟩, _, rfl, M, vs, _, rfl, rfl, hM5, smaller (by omega), ?_⟩
    have g6 : Same H (upd H5 M (.lst (vs ++ [.ref L']))) := g5.upd hM0
    have hL6 : upd H5 M (.lst (vs ++ [.ref L'])) L' = some (.lst ((itr F x0 (n + 1)).map oV)) := by rw [upd_ne hLM]; exact hL5
    refine ⟨_, rfl, _, rfl, _, rfl, _, rfl, _, rfl, p, ps, v, rs, st, L', _, rfl, g6 _ _ hp, hR.mono g6, hL6, hin, hlen2 _, by omega, fun L7 H7 g7 hL7 hL77 => ?_⟩
    have nx' := nx (n + 1)
    rw [hF, hx0] at nx'
    rw [nx'] at hL77
    refine ⟨L', L7, _, rfl, g6.trans g7, g6.free hL7, fun z => ?_, hLM, g7 _ _ upd_same, ?_, g7 _ _ hL6, hL77⟩
    · rw [z, upd_same] at hL7; cases hL7
    · rw [List.range_succ, List.map_append]
      have r6 := (hr5.snoc (rep_olI (P := fun z => z ≠ M ∧ New H z) (b := L') ⟨hLM, hL0⟩ hL5)).write (o := .lst (vs ++ [.ref L'])) (fun z => z.1 rfl) hM5
      exact r6.mono g7
  · have heq : itr F x0 (n + 1) = itr F x0 n := by simpa using e
    refine ⟨_, rfl, ?_⟩
    rw [hF, hx0] at q
    exact q M H5 n g5 (.lstI hM0 hM5 (hr5.weak fun _ z => z.2)) ⟨hnew, heq⟩ (by omega)
end
/-! ### the parts that are needed -/
section
variable {P : Program} {w : World} {K : PySem.W.Frag} {mg : Str → Option Value} {base : Heap} {k : Nat}
def tolds (X : Nat → OL) (N : Nat) : D := .lst ((List.range N).map fun i => olD (X i))
def spNeeded : Sp := fun vs H Q _ => ∃ (v : V) (X : Nat → OL) (N : Nat) (g e : Int), vs = [v, .int g, .int e] ∧ Rep Al H (tolds X N) v ∧ 0 ≤ g ∧ (∀ i < N, g < ((X i).length : Int)) ∧
  ∀ H', Same H H' → Q (oV ((need (fun i => (X i).getD g.toNat none) e N).map fun c => ((c : Nat) : Int))) H'
theorem need_mono {f : Nat → Option Int} {e : Int} {n c : Nat} (h : need f e n = some c) : ∀ m, need f e (n + m) = some c
  | 0 => h
  | m + 1 => by
    show (match need f e (n + m) with | some i => some i | none => _) = _
    rw [need_mono h m]
theorem sc_parts_needed : FnScope ["told", "goal", "end", "number", "comings"] ["told", "goal", "end"] (defScope s_parts_needed) := ⟨rfl, rfl, rfl, by decide +kernel, rfl, by decide +kernel, by decide +kernel⟩
theorem ok_parts_needed (d : DefOk K mg "parts_needed" s_parts_needed ["told", "goal", "end"]) (B : Blt mg) : Cal P w K mg base (k + 1) "parts_needed" ["told", "goal", "end"] spNeeded := by
  refine d.cal sc_parts_needed (fun vs H Q E h => ?_) (fun f cdv A outer s H vs Q E hr h => ?_)
  · obtain ⟨v, X, N, g, e, rfl, _⟩ := h
    rfl
  obtain ⟨v, X, N, g, e, rfl, hR, hg0, hg1, q⟩ := h
  refine ⟨_, (pss_cons (ps_for PassesOwn.never rfl (pi_enumK (K := K) rfl rfl B.enumerate (pa_cons (pv 0) pa_nil)) (pg_tupK (K := K) (n := 2) rfl rfl (pgs_cons (pg_name (i := 3) sc_parts_needed.nd rfl (Or.inl rfl)) (pgs_cons (pg_name (i := 4) sc_parts_needed.nd rfl (Or.inl rfl)) pgs_nil))) (pss_one (ps_if (PW.pt (pw_and (pt_cmpR op_notN (pe_ix (ix_listK (K := K) rfl) (pv 4) (pv 1) (fun _ _ => rfl)) pe_non (nomark _)) (pw_and1 (pt_cmpR op_le (pe_ix (ix_listK (K := K) rfl) (pv 4) (pv 1) (fun _ _ => rfl)) (pv 2) (nomark _))))) (pss_one (ps_ret (pv 3))) pss_nil)))
    (pss_one (ps_ret pe_non))), ?_⟩
  obtain ⟨a, zs, rfl, _, ha, hz⟩ := hR.lstE
  have hlz : zs.length = N := by rw [hz.length, List.length_map, List.length_range]
  refine ⟨_, rfl, a, rfl, ⟨zs, SqL.of ha⟩, ?_⟩
  refine for_enum (xs := zs) (fun i σ H' => Same H H' ∧ need (fun i => (X i).getD g.toNat none) e i = none ∧ ∃ o3 o4, σ = [some (.ref a), some (.int g), some (.int e), o3, o4]) ⟨Same.refl _, rfl, _, _, rfl⟩ ?_ ?_ ?_
  · rintro i σ H' _ ⟨g1, _⟩
    exact SqL.of (g1 _ _ ha)
  · rintro i x σ H' T hxi ⟨g1, hno, o3, o4, rfl⟩ hT
    have hi : i < N := by
      have := (List.getElem?_eq_some_iff.mp hxi).1
      omega
    obtain ⟨e', he', hrep⟩ := hz.getV hxi
    rw [List.getElem?_map, List.getElem?_range hi] at he'
    cases he'
    obtain ⟨b, rfl, _, hb⟩ := rep_ol hrep
    have g2 := g1.trans (Same.new hT (.tup [.int (i : Int), .ref b]))
    have hb2 := g2 _ _ hb
    have hat : atI ((X i).map oV) g = some (oV ((X i).getD g.toNat none)) := atO hg0 (hg1 i hi)
    refine ⟨T, _, rfl, SqT.of upd_same, rfl, _, _, rfl, _, _, rfl, rfl, ?_⟩
    refine ⟨_, rfl, _, rfl, b, _, _, _, rfl, rfl, SqL.of hb2, hat, rfl, _, rfl, ?_⟩
    have step : need (fun i => (X i).getD g.toNat none) e (i + 1) = if inTime e ((X i).getD g.toNat none) = true then some i else none := by
      show (match need (fun i => (X i).getD g.toNat none) e i with | some i => some i | none => _) = _
      rw [hno]
    cases hco : (X i).getD g.toNat none with
    | none =>
      refine iteF (iteF ⟨g2, ?_, _, _, rfl⟩)
      rw [step, hco]
      rfl
    | some y =>
      rw [hco] at hat step
      refine iteT ⟨_, rfl, _, rfl, b, _, _, _, rfl, rfl, SqL.of hb2, hat, _, rfl, _, _, rfl, rfl, _, rfl, ite2 (fun c1 => ?_) (fun c1 => ?_)⟩
      · refine ⟨_, rfl, ?_⟩
        have z : need (fun i => (X i).getD g.toNat none) e (i + 1) = some i := by rw [step]; exact if_pos c1
        have := q _ g2
        rw [show N = i + 1 + (N - (i + 1)) by omega, need_mono z] at this
        exact this
      · refine ⟨g2, ?_, _, _, rfl⟩
        rw [step]
        exact if_neg c1
  · rintro σ H' ⟨g1, hno, o3, o4, rfl⟩
    rw [hlz] at hno
    have := q _ g1
    rw [hno] at this
    exact this
end
/-! ### the first coming, the earliest -/
section
variable {P : Program} {w : World} {K : PySem.W.Frag} {mg : Str → Option Value} {base : Heap} {k : Nat}
def spFC : Sp := fun vs H Q _ => ∃ p ps v rs st go tm, vs = [.ref p, v, .int st, .int go, .int tm] ∧ H p = some (.lst (List.map V.int ps)) ∧ Rep Al H (ridesD rs) v ∧ (∀ r ∈ rs, OkRide ps.length r) ∧ (∀ z ∈ ps, 0 ≤ z) ∧ 0 ≤ st ∧ st < (ps.length : Int) ∧ 0 ≤ go ∧ go < (ps.length : Int) ∧ ps.length ≤ 100 ∧
  (ridesD rs).size ≤ 4000 ∧ ∀ H' n, Same H H' → Stab (further ps rs st tm) (init ps.length st tm) n → Q (oV ((itr (further ps rs st tm) (init ps.length st tm) n).getD go.toNat none)) H'
theorem sc_first_coming : FnScope ["pauses", "rides", "start", "goal", "time"] ["pauses", "rides", "start", "goal", "time"] (defScope s_first_coming) := ⟨rfl, rfl, rfl, by decide +kernel, rfl, by decide +kernel, by decide +kernel⟩
theorem ok_first_coming (d : DefOk K mg "first_coming" s_first_coming ["pauses", "rides", "start", "goal", "time"]) (B : Blt mg) (c_all_rounds : Cal P w K mg base k "all_rounds" ["pauses", "rides", "start", "time"] spAllR) :
    Cal P w K mg base (k + 1) "first_coming" ["pauses", "rides", "start", "goal", "time"] spFC := by
  refine d.cal sc_first_coming (fun vs H Q E h => ?_) (fun f cdv A outer s H vs Q E hr h => ?_)
  · obtain ⟨p, ps, v, rs, st, go, tm, rfl, _⟩ := h
    rfl
  obtain ⟨p, ps, v, rs, st, go, tm, rfl, hp, hR, hok, hpz, hs0, hs1, hg0, hg1, hpl, hz, q⟩ := h
  refine ⟨_, (pss_one (ps_ret (pe_ix (ix_listK (K := K) rfl) (pe_ix (ix_listK (K := K) rfl) (pe_callC c_all_rounds hr rfl (pa_cons (pv 0) (pa_cons (pv 1) (pa_cons (pv 2) (pa_cons (pv 4) pa_nil))))) (pe_un un_neg pe_int) (fun _ _ => rfl)) (pv 3) (fun _ _ => rfl)))), ?_⟩
  refine ⟨_, rfl, _, rfl, _, rfl, _, rfl, p, ps, v, rs, st, tm, rfl, hp, hR, hok, hpz, hs0, hs1, hpl, hz, fun M H1 n g1 r1 sb _ => ?_⟩
  obtain ⟨M', zs, eM, _, hM, hzs⟩ := r1.lstE
  cases eM
  have hlv : zs.length = n + 1 := by rw [hzs.length, List.length_map, List.length_range]
  obtain ⟨xn, hxn, hrepn⟩ := hzs.get (i := n) (d := olD (itr (further ps rs st tm) (init ps.length st tm) n)) (by rw [List.getElem?_map, List.getElem?_range (by omega)]; rfl)
  obtain ⟨bn, rfl, _, hbn⟩ := rep_ol hrepn
  exact ⟨_, rfl, M, _, _, _, rfl, rfl, SqL.of hM, atI_lastE hlv hxn, _, rfl, bn, _, _, _, rfl, rfl, SqL.of hbn, atO hg0 (by rw [itr_length]; exact hg1), q H1 n g1 sb⟩
end
/-! ### the latest start -/
section
variable {P : Program} {w : World} {K : PySem.W.Frag} {mg : Str → Option Value} {base : Heap} {k : Nat}
def spLS : Sp := fun vs H Q _ => ∃ p ps v rb st go tm, vs = [.ref p, v, .int st, .int go, .int tm] ∧ H p = some (.lst (List.map V.int ps)) ∧ Rep Al H (ridesD rb) v ∧ (∀ r ∈ rb, OkRide ps.length r) ∧ (∀ z ∈ ps, 0 ≤ z) ∧ 0 ≤ st ∧ st < (ps.length : Int) ∧ 0 ≤ go ∧ go < (ps.length : Int) ∧ ps.length ≤ 100 ∧
  (ridesD rb).size ≤ 4000 ∧ ∀ H' n, Same H H' → Stab (further ps rb go (-tm)) (init ps.length go (-tm)) n → Q (oV (((itr (further ps rb go (-tm)) (init ps.length go (-tm)) n).getD st.toNat none).map fun y => -y)) H'
theorem sc_last_start : FnScope ["pauses", "backward", "start", "goal", "time", "come"] ["pauses", "backward", "start", "goal", "time"] (defScope s_last_start) := ⟨rfl, rfl, rfl, by decide +kernel, rfl, by decide +kernel, by decide +kernel⟩
theorem ok_last_start (d : DefOk K mg "last_start" s_last_start ["pauses", "backward", "start", "goal", "time"]) (B : Blt mg) (c_first_coming : Cal P w K mg base k "first_coming" ["pauses", "rides", "start", "goal", "time"] spFC) :
    Cal P w K mg base (k + 1) "last_start" ["pauses", "backward", "start", "goal", "time"] spLS := by
  refine d.cal sc_last_start (fun vs H Q E h => ?_) (fun f cdv A outer s H vs Q E hr h => ?_)
  · obtain ⟨p, ps, v, rb, st, go, tm, rfl, _⟩ := h
    rfl
  obtain ⟨p, ps, v, rb, st, go, tm, rfl, hp, hR, hok, hpz, hs0, hs1, hg0, hg1, hpl, hz, q⟩ := h
  refine ⟨_, (pss_cons (ps_set (i := 5) sc_last_start.nd rfl (Or.inl rfl) (pe_callC c_first_coming hr rfl (pa_cons (pv 0) (pa_cons (pv 1) (pa_cons (pv 3) (pa_cons (pv 2) (pa_cons (pe_un un_neg (pv 4)) pa_nil)))))))
    (pss_one (ps_ret (pe_ifExp (pt_cmpR op_isN (pv 5) pe_non (nomark _)) pe_non (pe_un un_neg (pv 5)))))), ?_⟩
  refine ⟨_, rfl, _, rfl, _, rfl, _, rfl, _, rfl, _, rfl, p, ps, v, rb, go, st, -tm, rfl, hp, hR, hok, hpz, hg0, hg1, hs0, hs1, hpl, hz, fun H1 n g1 sb => ?_⟩
  have q1 := q H1 n g1 sb
  cases hX : (itr (further ps rb go (-tm)) (init ps.length go (-tm)) n).getD st.toNat none with
  | none =>
    rw [hX] at q1
    exact ⟨_, rfl, rfl, _, rfl, iteT q1⟩
  | some y =>
    rw [hX] at q1
    exact ⟨_, rfl, rfl, _, rfl, iteF ⟨_, rfl, _, rfl, q1⟩⟩
theorem turnA_length (rs : List (List Stop)) : (turnA rs).length = rs.length := by simp [turnA]
theorem size_turn (rs : List (List Stop)) : (ridesD (turnA rs)).size = (ridesD rs).size := by rw [size_rides, size_rides, total_turn, turnA_length]
theorem oks_turn {n : Int} {rs : List (List Stop)} (ok : ∀ r ∈ rs, OkRide n r) : ∀ r ∈ turnA rs, OkRide n r := fun r hr => by
  obtain ⟨r', hr', rfl⟩ := List.mem_map.mp hr
  exact ok_turn (ok r' hr')
end
/-! ### trips -/
section
variable {P : Program} {w : World} {K : PySem.W.Frag} {mg : Str → Option Value} {base : Heap} {k : Nat} {cNoWay : Addr}
/-- a part that comes to the stop at that time -/
def Into (rs : List (List Stop)) (rd : OL) (stop come : Int) (i : Nat) (r : List Stop) (off : Nat) : Prop := rs[i]? = some r ∧ firstOn rd r < off ∧ ∃ c, r[off]? = some c ∧ c.1 = stop ∧ c.2.1 = come
def spInto : Sp := fun vs H Q _ => ∃ (v : V) (rs : List (List Stop)) (b : Addr) (rd : OL) (stop come : Int), vs = [v, .ref b, .int stop, .int come] ∧ Rep Al H (ridesD rs) v ∧ H b = some (.lst (rd.map oV)) ∧ (∀ r ∈ rs, ∀ c ∈ r, 0 ≤ c.1 ∧ c.1 < (rd.length : Int)) ∧ (ridesD rs).size ≤ 4000 ∧
  (∃ i r off, Into rs rd stop come i r off) ∧ ∀ i r off, Into rs rd stop come i r off → ∀ t H', Same H H' → H' t = some (.tup [.int ((i : Nat) : Int), .int ((firstOn rd r : Nat) : Int), .int ((off : Nat) : Int)]) → Q (.ref t) H'
theorem sc_part_into : FnScope ["rides", "ready", "stop", "come", "number", "ride", "on", "off"] ["rides", "ready", "stop", "come"] (defScope s_part_into) := ⟨rfl, rfl, rfl, by decide +kernel, rfl, by decide +kernel, by decide +kernel⟩
theorem ok_part_into (d : DefOk K mg "part_into" s_part_into ["rides", "ready", "stop", "come"]) (B : Blt mg) (c_first_on : Cal P w K mg base k "first_on" ["ride", "ready"] spFirstOn) : Cal P w K mg base (k + 1) "part_into" ["rides", "ready", "stop", "come"] spInto := by
  refine d.cal sc_part_into (fun vs H Q E h => ?_) (fun f cdv A outer s H vs Q E hr h => ?_)
  · obtain ⟨v, rs, b, rd, stop, come, rfl, _⟩ := h
    rfl
  obtain ⟨v, rs, b, rd, stop, come, rfl, hR, hb, hin, hz, hex, q⟩ := h
  rw [size_rides] at hz
  refine ⟨_, (pss_cons (ps_for PassesOwn.never rfl (pi_enumK (K := K) rfl rfl B.enumerate (pa_cons (pv 0) pa_nil)) (pg_tupK (K := K) (n := 2) rfl rfl (pgs_cons (pg_name (i := 4) sc_part_into.nd rfl (Or.inl rfl)) (pgs_cons (pg_name (i := 5) sc_part_into.nd rfl (Or.inl rfl)) pgs_nil))) (pss_cons (ps_set (i := 6) sc_part_into.nd rfl (Or.inl rfl) (pe_callC c_first_on hr rfl (pa_cons (pv 5) (pa_cons (pv 1) pa_nil))))
    (pss_one (ps_for PassesOwn.never rfl (pi_range2 rfl B.range (pa_cons (pe_op op_add (pv 6) pe_int) (pa_cons (pe_callB (call_lenK (K := K) rfl) rfl B.len bt_len (pa_cons (pv 5) pa_nil)) pa_nil))) (pg_name (i := 7) sc_part_into.nd rfl (Or.inl rfl)) (pss_one (ps_if (PW.pt (pw_and (pt_cmpR op_eq (pe_ix (ix_tupK (K := K) rfl) (pe_ix (ix_listK (K := K) rfl) (pv 5) (pv 7) (fun _ _ => rfl)) pe_int (fun _ _ => rfl)) (pv 2) (nomark _)) (pw_and1 (pt_cmpR op_eq (pe_ix (ix_tupK (K := K) rfl) (pe_ix (ix_listK (K := K) rfl) (pv 5) (pv 7) (fun _ _ => rfl)) pe_int (fun _ _ => rfl)) (pv 3) (nomark _))))) (pss_one (ps_ret (pe_tup (pa_cons (pv 4) (pa_cons (pv 6) (pa_cons (pv 7) pa_nil)))))) pss_nil))))))
    (pss_one (ps_ret pe_non))), ?_⟩
  obtain ⟨a, xs, rfl, _, ha, hx⟩ := hR.lstE
  have hlx : xs.length = rs.length := by rw [hx.length, List.length_map]
  refine ⟨_, rfl, a, rfl, ⟨xs, SqL.of ha⟩, ?_⟩
  refine for_enum (xs := xs) (fun i σ H' => Same H H' ∧ (∀ i' r off, i' < i → ¬ Into rs rd stop come i' r off) ∧ ∃ o4 o5 o6 o7, σ = [some (.ref a), some (.ref b), some (.int stop), some (.int come), o4, o5, o6, o7]) ⟨Same.refl _, fun _ _ _ h => absurd h (by omega), _, _, _, _, rfl⟩ ?_ ?_ ?_
  · rintro i σ H' _ ⟨g, _⟩
    exact SqL.of (g _ _ ha)
  · rintro i x σ H1 T hxi ⟨g1, hno, o4, o5, o6, o7, rfl⟩ hT
    obtain ⟨e', he', hrep⟩ := hx.getV hxi
    rw [List.getElem?_map] at he'
    obtain ⟨r, hr1, rfl⟩ := Option.map_eq_some_iff.mp he'
    have hrm := List.mem_of_getElem? hr1
    have hrl := le_total hrm
    obtain ⟨rb, zs, rfl, _, hrb, hzs⟩ := hrep.lstE
    have hlz : zs.length = r.length := by rw [hzs.length, List.length_map]
    have g2 := g1.trans (Same.new hT (.tup [.int (i : Int), .ref rb]))
    refine ⟨T, _, rfl, SqT.of upd_same, rfl, _, _, rfl, _, _, rfl, rfl, ?_⟩
    refine ⟨_, rfl, _, rfl, _, r, b, rd, rfl, .lstI trivial (g2 _ _ hrb) (hzs.mono g2), g2 _ _ hb, hin r hrm, fun H3 g3 => ?_⟩
    have g23 := g2.trans g3
    have hfl : firstOn rd r ≤ r.length := List.findIdx_le_length
    refine ⟨_, rfl, _, _, rfl, rfl, _, rfl, rb, zs, rfl, .inl (SqL.of (g23 _ _ hrb)), _, _, rfl, ⟨by omega, by omega, by omega, by omega⟩, ?_⟩
    refine for_range (lo := ((firstOn rd r : Nat) : Int) + 1) (n := (((zs.length : Nat) : Int) - (((firstOn rd r : Nat) : Int) + 1)).toNat) (fun j σ H' => H' = H3 ∧ (∀ off, off < firstOn rd r + 1 + j → ¬ Into rs rd stop come i r off) ∧ ∃ o7, σ = [some (.ref a), some (.ref b), some (.int stop), some (.int come), some (.int (i : Int)), some (.ref rb), some (.int ((firstOn rd r : Nat) : Int)), o7]) ⟨rfl, fun off h1 h2 => by have := h2.2.1; omega, _, rfl⟩ ?_ ?_
    · rintro j σ _ hj ⟨rfl, hnj, o7', rfl⟩
      have hjl : firstOn rd r + 1 + j < r.length := by omega
      obtain ⟨c, hc⟩ : ∃ c, r[firstOn rd r + 1 + j]? = some c := ⟨_, List.getElem?_eq_getElem hjl⟩
      obtain ⟨t0, ht0, hrt0⟩ := hzs.get (i := firstOn rd r + 1 + j) (d := callD c) (by rw [List.getElem?_map, hc]; rfl)
      obtain ⟨t, rfl, ht, _⟩ := rep_call (P' := Al) hrt0
      have ht3 := g23 _ _ ht
      have hrb3 := g23 _ _ hrb
      have hat : atI zs (((firstOn rd r : Nat) : Int) + 1 + (j : Int)) = some (.ref t) := atI_natE ht0 (by omega)
      have no : ¬ (c.1 = stop ∧ c.2.1 = come) → ∀ off, off < firstOn rd r + 1 + (j + 1) → ¬ Into rs rd stop come i r off := fun hn off ho h => by
        by_cases hoj : off < firstOn rd r + 1 + j
        · exact hnj off hoj h
        · obtain ⟨_, _, c', hc', h'⟩ := h
          rw [show off = firstOn rd r + 1 + j by omega, hc] at hc'
          cases hc'
          exact hn h'
      refine ⟨_, rfl, _, rfl, rb, _, _, _, rfl, rfl, SqL.of hrb3, hat, t, _, _, _, rfl, rfl, SqT.of ht3, rfl, _, rfl, rfl, _, rfl, ite2 (fun c1 => ?_) (fun c1 => ?_)⟩
      · have e1 : c.1 = stop := by simpa using c1
        refine ⟨_, rfl, _, rfl, rb, _, _, _, rfl, rfl, SqL.of hrb3, hat, t, _, _, _, rfl, rfl, SqT.of ht3, rfl, _, rfl, rfl, _, rfl, ite2 (fun c2 => ?_) (fun c2 => ?_)⟩
        · have e2 : c.2.1 = come := by simpa using c2
          refine ⟨_, rfl, _, rfl, _, rfl, small (by simp), fun tt htt => ?_⟩
          refine q i r (firstOn rd r + 1 + j) ⟨hr1, by omega, c, hc, e1, e2⟩ tt _ (g23.trans (Same.new htt _)) ?_
          rw [upd_same, show (((firstOn rd r : Nat) : Int) + 1 + (j : Int)) = (((firstOn rd r + 1 + j : Nat)) : Int) by omega]
        · have e2 : ¬ c.2.1 = come := by simpa using c2
          exact ⟨rfl, no fun z => e2 z.2, _, rfl⟩
      · have e1 : ¬ c.1 = stop := by simpa using c1
        exact iteF ⟨rfl, no fun z => e1 z.1, _, rfl⟩
    · rintro σ _ ⟨rfl, hnj, o7', rfl⟩
      refine ⟨g23, fun i' r' off hi' h => ?_, _, _, _, _, rfl⟩
      by_cases hii : i' < i
      · exact hno i' r' off hii h
      · have ei : i' = i := by omega
        subst ei
        have er : r' = r := by
          have := h.1
          rw [hr1] at this
          exact (Option.some.inj this).symm
        subst er
        obtain ⟨_, h2, c, hc, _⟩ := id h
        have := (List.getElem?_eq_some_iff.mp hc).1
        exact hnj off (by omega) h
  · rintro σ H1 ⟨g1, hno, _⟩
    obtain ⟨i, r, off, h⟩ := hex
    have := (List.getElem?_eq_some_iff.mp h.1).1
    exact absurd h (hno i r off (by omega))

theorem cutV_init {xs : List V} {c : Nat} (h : xs.length = c + 1) : cutV xs none (some (-1)) = xs.take c := by
  unfold cutV
  rw [HT.sIx_none]
  have e : HT.sIx xs.length xs.length (some (-1)) = c := by
    unfold HT.sIx
    rw [h]
    simp
    omega
  rw [e]
  simp
def spBackTrip : Sp := fun vs H Q _ => ∃ p ps v rs st go tm u c z, vs = [.ref p, v, .int st, .int go, u] ∧ H p = some (.lst (List.map V.int ps)) ∧ Rep Al H (ridesD rs) v ∧ (∀ r ∈ rs, OkRide ps.length r) ∧ (∀ z ∈ ps, 0 ≤ z) ∧ 0 ≤ st ∧ st < (ps.length : Int) ∧ 0 ≤ go ∧ go < (ps.length : Int) ∧ ps.length ≤ 100 ∧
  (ridesD rs).size ≤ 4000 ∧ c ≤ 500000 ∧ Rep Al H (tolds (itr (further ps rs st tm) (init ps.length st tm)) (c + 1)) u ∧ (itr (further ps rs st tm) (init ps.length st tm) c).getD go.toNat none = some z ∧ (∀ k, c = k + 1 → ¬ Ole ((itr (further ps rs st tm) (init ps.length st tm) k).getD go.toNat none) (some z)) ∧
  ∀ pv H' qs, Same H H' → Rep Al H' (rideD qs) pv → qs.length = c → fit ps rs st tm tm qs = some (go, z) → Q pv H'
theorem sc_trip_back : FnScope ["pauses", "rides", "start", "goal", "told", "stop", "come", "parts", "ahead", "part"] ["pauses", "rides", "start", "goal", "told"] (defScope s_trip_back) := ⟨rfl, rfl, rfl, by decide +kernel, rfl, by decide +kernel, by decide +kernel⟩
theorem ok_trip_back (d : DefOk K mg "trip_back" s_trip_back ["pauses", "rides", "start", "goal", "told"]) (B : Blt mg) (c_ready_times : Cal P w K mg base k "ready_times" ["pauses", "start", "comings"] spReadys) (c_part_into : Cal P w K mg base k "part_into" ["rides", "ready", "stop", "come"] spInto) :
    Cal P w K mg base (k + 1) "trip_back" ["pauses", "rides", "start", "goal", "told"] spBackTrip := by
  refine d.cal sc_trip_back (fun vs H Q E h => ?_) (fun f cdv A outer s H vs Q E hr h => ?_)
  · obtain ⟨p, ps, v, rs, st, go, tm, u, c, z, rfl, _⟩ := h
    rfl
  obtain ⟨p, ps, v, rs, st, go, tm, u, c, z, rfl, hp, hR, hok, hpz, hs0, hs1, hg0, hg1, hpl, hz, hc5, hU, hcz, hnew, q⟩ := h
  refine ⟨_, (pss_cons (ps_set (i := 5) sc_trip_back.nd rfl (Or.inl rfl) (pv 3))
    (pss_cons (ps_set (i := 6) sc_trip_back.nd rfl (Or.inl rfl) (pe_ix (ix_listK (K := K) rfl) (pe_ix (ix_listK (K := K) rfl) (pv 4) (pe_un un_neg pe_int) (fun _ _ => rfl)) (pv 3) (fun _ _ => rfl)))
    (pss_cons (ps_set (i := 7) sc_trip_back.nd rfl (Or.inl rfl) (pe_lst pa_nil))
    (pss_cons (ps_for PassesOwn.never rfl (pi_revK (K := K) rfl rfl B.reversed (pa_cons (pe_slice (sl_listK (K := K) rfl) (pv 4) po_none (po_some (pe_un un_neg pe_int))) pa_nil)) (pg_name (i := 8) sc_trip_back.nd rfl (Or.inl rfl)) (pss_cons (ps_set (i := 9) sc_trip_back.nd rfl (Or.inl rfl) (pe_callC c_part_into hr rfl (pa_cons (pv 1) (pa_cons (pe_callC c_ready_times hr rfl (pa_cons (pv 0) (pa_cons (pv 2) (pa_cons (pv 8) pa_nil)))) (pa_cons (pv 5) (pa_cons (pv 6) pa_nil))))))
    (pss_cons (ps_set (i := 7) sc_trip_back.nd rfl (Or.inl rfl) (pe_op op_cat (pe_lst (pa_cons (pv 9) pa_nil)) (pv 7)))
    (pss_cons (ps_set (i := 5) sc_trip_back.nd rfl (Or.inl rfl) (pe_ix (ix_tupK (K := K) rfl) (pe_ix (ix_listK (K := K) rfl) (pe_ix (ix_listK (K := K) rfl) (pv 1) (pe_ix (ix_tupK (K := K) rfl) (pv 9) pe_int (fun _ _ => rfl)) (fun _ _ => rfl)) (pe_ix (ix_tupK (K := K) rfl) (pv 9) pe_int (fun _ _ => rfl)) (fun _ _ => rfl)) pe_int (fun _ _ => rfl)))
    (pss_one (ps_set (i := 6) sc_trip_back.nd rfl (Or.inl rfl) (pe_ix (ix_listK (K := K) rfl) (pv 8) (pv 5) (fun _ _ => rfl))))))))
    (pss_one (ps_ret (pv 7))))))), ?_⟩
  obtain ⟨ua, zs, rfl, _, hua, hzs⟩ := hU.lstE
  obtain ⟨ra, xs, rfl, _, hra, hx⟩ := hR.lstE
  obtain ⟨X, hX⟩ : ∃ X, itr (further ps rs st tm) (init ps.length st tm) = X := ⟨_, rfl⟩
  rw [hX] at hzs hcz hnew
  have hXl : ∀ i, (X i).length = ps.length := fun i => by rw [← hX]; exact itr_length i
  have hlz : zs.length = c + 1 := by rw [hzs.length, List.length_map, List.length_range]
  obtain ⟨xn, hxn, hrepn⟩ := hzs.get (i := c) (d := olD (X c)) (by rw [List.getElem?_map, List.getElem?_range (by omega)]; rfl)
  obtain ⟨bn, rfl, _, hbn⟩ := rep_ol hrepn
  have hat : atI ((X c).map oV) go = some (.int z) := by
    have := atO (af := X c) hg0 (by rw [hXl]; exact hg1)
    rw [hcz] at this
    exact this
  refine ⟨_, rfl, _, rfl, _, rfl, ua, _, _, _, rfl, rfl, SqL.of hua, atI_lastE hlz hxn, _, rfl, bn, _, _, _, rfl, rfl, SqL.of hbn, hat, ?_⟩
  refine ⟨small (by simp), fun pa hpa => ?_⟩
  have g1 := Same.new hpa (.lst [])
  refine ⟨_, rfl, _, rfl, _, rfl, ua, zs, rfl, SqL.of (g1 _ _ hua), fun sl hsl => ?_⟩
  rw [cutV_init hlz]
  have g2 := g1.trans (Same.new hsl (.lst (zs.take c)))
  refine ⟨sl, zs.take c, rfl, SqL.of upd_same, ?_⟩
  have hlt : (zs.take c).length = c := by rw [List.length_take]; omega
  refine for_rev (xs := zs.take c) (fun j σ H' => Same H H' ∧ H' sl = some (.lst (zs.take c)) ∧ ∃ stop come qs pa ws o8 o9, σ = [some (.ref p), some (.ref ra), some (.int st), some (.int go), some (.ref ua), some (.int stop), some (.int come), some (.ref pa), o8, o9] ∧
    0 ≤ stop ∧ stop < (ps.length : Int) ∧ (X (c - j)).getD stop.toNat none = some come ∧ (∀ k, c - j = k + 1 → ¬ Ole ((X k).getD stop.toNat none) (some come)) ∧ fit ps rs stop (rdAt ps tm (c - j) stop come) come qs = some (go, z) ∧ qs.length = j ∧ H' pa = some (.lst ws) ∧ RepL Al H' (qs.map callD) ws)
    ⟨g2, upd_same, go, z, [], pa, [], _, _, rfl, hg0, hg1, hcz, hnew, rfl, rfl, Same.new hsl _ _ _ upd_same, .nilI⟩ ?_ ?_ ?_
  · rintro j σ H' _ ⟨_, h, _⟩
    exact SqL.of h
  · rintro j x σ H3 hxj ⟨g3, hsl3, stop, come, qs, pa3, ws, o8, o9, rfl, hst0, hst1, hXc, hnw, hfit, hql, hpa3, hws⟩
    have hj : j < c := by
      have := (List.getElem?_eq_some_iff.mp hxj).1
      rw [List.length_reverse] at this
      omega
    obtain ⟨kk, hkk⟩ : ∃ kk, c - j = kk + 1 := ⟨c - j - 1, by omega⟩
    have hkj : c - (j + 1) = kk := by omega
    rw [hkk] at hXc hnw hfit
    rw [hkj]
    have hnw' := hnw kk rfl
    have hxz : zs[kk]? = some x := by
      rw [List.getElem?_reverse (by omega), hlt, List.getElem?_take_of_lt (by omega), show c - 1 - j = kk by omega] at hxj
      exact hxj
    obtain ⟨e', he', hrep⟩ := hzs.getV hxz
    rw [List.getElem?_map, List.getElem?_range (by omega)] at he'
    cases he'
    obtain ⟨b, rfl, _, hb⟩ := rep_ol hrep
    have hb3 := g3 _ _ hb
    refine ⟨_, rfl, _, rfl, _, rfl, _, rfl, p, ps, st, b, X kk, rfl, g3 _ _ hp, hb3, hXl kk, by omega, fun Rd H4 g4 hRd0 hRd => ?_⟩
    have g34 := g3.trans g4
    have there := trip_there (n := ps.length) (tm := tm) hok hpz hs0 hs1 (k := kk) (stop := stop) (come := come) hst0 (by rw [hX]; exact hXc) (by rw [hX]; exact hnw')
    rw [hX] at there
    refine ⟨_, rfl, _, rfl, _, rs, Rd, rdy ps st (X kk), stop, come, rfl, .lstI trivial (g34 _ _ hra) (hx.mono g34), hRd, by rw [rdy_length, hXl]; exact ok_in hok, hz, ?_, fun i r off hI t H5 g5 ht => ?_⟩
    · obtain ⟨i, r, off, cc, h1, h2, h3, h4, h5⟩ := there
      exact ⟨i, r, off, h1, h2, cc, h3, h4, h5⟩
    obtain ⟨hr1, hlt2, cc, hcc, hcs, hcc2⟩ := hI
    have stp := trip_step (n := ps.length) (tm := tm) hok hpz hs0 hs1 (k := kk) (stop := stop) (come := come) (by rw [hX]; exact hnw') hr1 (by rw [hX]; exact hlt2) hcc hcs hcc2
    rw [hX] at stp
    obtain ⟨c0, x0, hc0, hx0, hc00, hc01, hk0, hkn, hrd⟩ := stp
    have g45 := g34.trans g5
    have hpa5 : H5 pa3 = some (.lst ws) := g5 _ _ (g4 _ _ hpa3)
    -- [part] + parts
    refine ⟨_, rfl, small (by simp), fun l1 hl1 => ⟨_, rfl, ?_⟩⟩
    have s6 := Same.new hl1 (.lst [.ref t])
    have hql' : ws.length = j := by rw [hws.length, List.length_map, hql]
    refine ⟨l1, pa3, _, _, rfl, rfl, upd_same, s6 _ _ hpa5, small (by simp; omega), fun l2 hl2 => ?_⟩
    have s7 := Same.new hl2 (.lst ([.ref t] ++ ws))
    have g47 : Same H _ := g45.trans (s6.trans s7)
    -- stop, come
    obtain ⟨y, hy, hyr⟩ := hx.get (i := i) (d := rideD r) (by rw [List.getElem?_map, hr1]; rfl)
    obtain ⟨rb, ys, rfl, _, hrb, hys⟩ := hyr.lstE
    obtain ⟨y2, hy2, hyr2⟩ := hys.get (i := firstOn (rdy ps st (X kk)) r) (d := callD c0) (by rw [List.getElem?_map, hc0]; rfl)
    obtain ⟨t2, rfl, ht2, _⟩ := rep_call (P' := Al) hyr2
    have htA := s7 _ _ (s6 _ _ ht)
    refine ⟨_, rfl, _, rfl, t, _, _, _, rfl, rfl, SqT.of htA, rfl, ra, _, _, _, rfl, rfl, SqL.of (g47 _ _ hra), atI_natE hy rfl, _, rfl, t, _, _, _, rfl, rfl, SqT.of htA, rfl, rb, _, _, _, rfl, rfl, SqL.of (g47 _ _ hrb), atI_natE hy2 rfl, t2, _, _, _, rfl, rfl, SqT.of (g47 _ _ ht2), rfl, ?_⟩
    have hat2 : atI ((X kk).map oV) c0.1 = some (.int x0) := by
      have := atO (af := X kk) hc00 (by rw [hXl]; exact hc01)
      rw [hx0] at this
      exact this
    refine ⟨_, rfl, _, rfl, b, _, _, _, rfl, rfl, SqL.of (g47 _ _ hb), hat2, ?_⟩
    refine ⟨g47, s7 _ _ (s6 _ _ (g5 _ _ (g4 _ _ hsl3))), c0.1, x0, (((i : Nat) : Int), ((firstOn (rdy ps st (X kk)) r : Nat) : Int), ((off : Nat) : Int)) :: qs, l2, _, _, _, rfl, hc00, hc01, hx0, hkn, ?_, by simp [hql], upd_same, ?_⟩
    · have hil := (List.getElem?_eq_some_iff.mp hr1).1
      have hol := (List.getElem?_eq_some_iff.mp hcc).1
      have eR : rideN rs ((i : Nat) : Int) = r := by unfold rideN; rw [Int.toNat_natCast, List.getD_eq_getElem?_getD, hr1]; rfl
      have eOn : callN rs ((i : Nat) : Int) ((firstOn (rdy ps st (X kk)) r : Nat) : Int) = c0 := by unfold callN stopN; rw [eR, Int.toNat_natCast, List.getD_eq_getElem?_getD, hc0]; rfl
      have eOff : callN rs ((i : Nat) : Int) ((off : Nat) : Int) = cc := by unfold callN stopN; rw [eR, Int.toNat_natCast, List.getD_eq_getElem?_getD, hcc]; rfl
      rw [fit_cons]
      show (if partOk rs ((i : Nat) : Int) ((firstOn (rdy ps st (X kk)) r : Nat) : Int) ((off : Nat) : Int) = true ∧ (callN rs ((i : Nat) : Int) ((firstOn (rdy ps st (X kk)) r : Nat) : Int)).1 = c0.1 ∧ rdAt ps tm kk c0.1 x0 ≤ (callN rs ((i : Nat) : Int) ((firstOn (rdy ps st (X kk)) r : Nat) : Int)).2.2 then
        fit ps rs (callN rs ((i : Nat) : Int) ((off : Nat) : Int)).1 ((callN rs ((i : Nat) : Int) ((off : Nat) : Int)).2.1 + ps.getD (callN rs ((i : Nat) : Int) ((off : Nat) : Int)).1.toNat 0) (callN rs ((i : Nat) : Int) ((off : Nat) : Int)).2.1 qs else none) = _
      rw [eOn, eOff, if_pos ⟨partOk_iff.mpr ⟨by omega, by omega, by omega, by omega, by rw [eR]; omega⟩, rfl, hrd⟩, hcs, hcc2]
      exact hfit
    · show RepL Al _ (callD _ :: qs.map callD) _
      exact .consI (rep_callI htA) (((hws.mono (g4.trans g5)).mono s6).mono s7)
  · rintro σ H3 ⟨g3, hsl3, stop, come, qs, pa3, ws, o8, o9, rfl, hst0, hst1, hXc, hnw, hfit, hql, hpa3, hws⟩
    rw [hlt, Nat.sub_self] at hXc hfit
    rw [hlt] at hql
    rw [← hX, show itr (further ps rs st tm) (init ps.length st tm) 0 = init ps.length st tm from rfl, init_getD] at hXc
    split at hXc
    · rename_i e
      cases hXc
      have es : stop = st := by omega
      subst es
      refine ⟨_, rfl, q _ H3 qs g3 (.lstI trivial hpa3 hws) hql ?_⟩
      unfold rdAt at hfit
      rw [if_pos rfl] at hfit
      exact hfit
    · cases hXc
end
/-! ### the rounds and the going back, as choices want them -/
theorem ear_of {n : Nat} {ps : List Int} {rs : List (List Stop)} {st go tm : Int} (ok : ∀ r ∈ rs, OkRide (n : Int) r) (pz : ∀ z ∈ ps, 0 ≤ z) (hs : 0 ≤ st) (hsn : st < (n : Int)) (hg : 0 ≤ go) (hne : st ≠ go) {m : Nat} (sb : Stab (further ps rs st tm) (init n st tm) m) :
    EarS ps rs st go tm ((itr (further ps rs st tm) (init n st tm) m).getD go.toNat none) := by
  obtain ⟨f1, f2, _⟩ := rounds_best (g := go) ok pz hs hsn sb hg
  refine ⟨fun x hx => ?_, f2⟩
  rcases f1 x hx with ⟨z, _⟩ | h
  · exact absurd z.symm hne
  · exact h
theorem lat_of {n : Nat} {ps : List Int} {rs : List (List Stop)} {st go x : Int} (ok : ∀ r ∈ rs, OkRide (n : Int) r) (pz : ∀ z ∈ ps, 0 ≤ z) (hs : 0 ≤ st) (hg : 0 ≤ go) (hgn : go < (n : Int)) (hne : st ≠ go) {m : Nat} (sb : Stab (further ps (turnA rs) go (-x)) (init n go (-x)) m) :
    LatS ps rs st go x (((itr (further ps (turnA rs) go (-x)) (init n go (-x)) m).getD st.toNat none).map fun y => -y) := by
  obtain ⟨f1, f2, _⟩ := rounds_best (g := st) (oks_turn ok) pz hg hgn sb hs
  refine ⟨fun y hy => ?_, fun y x' ch hx' => ?_⟩
  · cases ho : (itr (further ps (turnA rs) go (-x)) (init n go (-x)) m).getD st.toNat none with
    | none => rw [ho] at hy; cases hy
    | some w =>
      rw [ho] at hy
      cases hy
      rcases f1 w ho with ⟨z, _⟩ | ⟨y', hy', ch⟩
      · exact absurd z hne
      · exact ⟨-y', by omega, ch_turned ch⟩
  · obtain ⟨z, hz, hle⟩ := f2 _ _ (show -x ≤ -x' by omega) (ch_turn ch) _ rfl
    rw [hz]
    exact ⟨-z, rfl, by omega⟩
section
variable {P : Program} {w : World} {K : PySem.W.Frag} {mg : Str → Option Value} {base : Heap} {k : Nat}
/-- a def that is not called -/
def spNever : Sp := fun _ _ _ _ => False
theorem sc_is_part : FnScope ["rides", "ride", "on", "off"] ["rides", "ride", "on", "off"] (defScope s_is_part) := ⟨rfl, rfl, rfl, by decide +kernel, rfl, by decide +kernel, by decide +kernel⟩
theorem ok_is_partN (d : DefOk K mg "is_part" s_is_part ["rides", "ride", "on", "off"]) : Cal P w K mg base (k + 1) "is_part" ["rides", "ride", "on", "off"] spNever := d.cal sc_is_part (fun _ _ _ _ h => h.elim) (fun _ _ _ _ _ _ _ _ _ _ h => h.elim)
theorem sc_can_leave : FnScope ["call", "stop", "ready"] ["call", "stop", "ready"] (defScope s_can_leave) := ⟨rfl, rfl, rfl, by decide +kernel, rfl, by decide +kernel, by decide +kernel⟩
theorem ok_can_leaveN (d : DefOk K mg "can_leave" s_can_leave ["call", "stop", "ready"]) : Cal P w K mg base (k + 1) "can_leave" ["call", "stop", "ready"] spNever := d.cal sc_can_leave (fun _ _ _ _ h => h.elim) (fun _ _ _ _ _ _ _ _ _ _ h => h.elim)
end
/-! ### all that is asked, with what is refused -/
section
variable {P : Program} {w : World} {K : PySem.W.Frag} {mg : Str → Option Value} {base : Heap} {k : Nat} {cNoRide cNoStop cNoWay : Addr}
/-- what every ask stands on -/
structure Asked (H : Hp) (p : Addr) (ps : List Int) (v : V) (rs : List (List Stop)) : Prop where
  ps_at : H p = some (.lst (List.map V.int ps))
  rep : Rep Al H (ridesD rs) v
  nn : ∀ z ∈ ps, 0 ≤ z
  few : ps.length ≤ 100
  size : (ridesD rs).size ≤ 4000
def AllOk (ps : List Int) (rs : List (List Stop)) : Prop := ∀ r ∈ rs, OkRide ps.length r
/-- what is told: an answer, or a refusal -/
def Told (cNoRide cNoStop : Addr) (H : Hp) (Q : VK) (E : XK) (ps : List Int) (rs : List (List Stop)) (stops : Prop) : Prop :=
  (AllOk ps rs → stops → ∀ v H', Same H H' → Q v H') ∧ (¬ AllOk ps rs → ∀ H', Same H H' → E (.ref cNoRide) none H') ∧ (AllOk ps rs → ¬ stops → ∀ H', Same H H' → E (.ref cNoStop) none H')
def spRoundsX (cNoRide cNoStop : Addr) : Sp := fun vs H Q E => ∃ p ps v rs st tm, vs = [.ref p, v, .int st, .int tm] ∧ Asked H p ps v rs ∧ Told cNoRide cNoStop H Q E ps rs (StOk ps.length st)
def spEarX (cNoRide cNoStop : Addr) : Sp := fun vs H Q E => ∃ p ps v rs st go tm, vs = [.ref p, v, .int st, .int go, .int tm] ∧ Asked H p ps v rs ∧ Told cNoRide cNoStop H Q E ps rs (StOk ps.length st ∧ StOk ps.length go)
def spTripX (cNoRide cNoStop cNoWay : Addr) : Sp := fun vs H Q E => ∃ p ps v rs st go tm, vs = [.ref p, v, .int st, .int go, .int tm] ∧ Asked H p ps v rs ∧ Told cNoRide cNoStop H Q E ps rs (StOk ps.length st ∧ StOk ps.length go) ∧ (AllOk ps rs → StOk ps.length st ∧ StOk ps.length go → ∀ H', Same H H' → E (.ref cNoWay) none H')
def spFewX (cNoRide cNoStop : Addr) : Sp := fun vs H Q E => ∃ p ps v rs st go tm en, vs = [.ref p, v, .int st, .int go, .int tm, .int en] ∧ Asked H p ps v rs ∧ Told cNoRide cNoStop H Q E ps rs (StOk ps.length st ∧ StOk ps.length go)
def spChoX (cNoRide cNoStop cNoWay : Addr) : Sp := fun vs H Q E => ∃ p ps v rs st go first last, vs = [.ref p, v, .int st, .int go, .int first, .int last] ∧ Asked H p ps v rs ∧ last ≤ first + 1000 ∧ (st ≠ go → AllOk ps rs → StOk ps.length st ∧ StOk ps.length go → ∀ v H', Same H H' → Q v H') ∧
  (¬ AllOk ps rs → ∀ H', Same H H' → E (.ref cNoRide) none H') ∧ (AllOk ps rs → ¬ (StOk ps.length st ∧ StOk ps.length go) → ∀ H', Same H H' → E (.ref cNoStop) none H') ∧ (st = go → AllOk ps rs → StOk ps.length st ∧ StOk ps.length go → ∀ H', Same H H' → E (.ref cNoWay) none H')
def spComX (cNoRide cNoStop : Addr) : Sp := fun vs H Q E => ∃ p ps v rs st go tm u, vs = [.ref p, v, .int st, .int go, .int tm, .ref u] ∧ H u = some (.lst []) ∧ Asked H p ps v rs ∧ Told cNoRide cNoStop H Q E ps rs (StOk ps.length st ∧ StOk ps.length go)

theorem sc_rounds : FnScope ["pauses", "rides", "start", "time"] ["pauses", "rides", "start", "time"] (defScope s_rounds) := ⟨rfl, rfl, rfl, by decide +kernel, rfl, by decide +kernel, by decide +kernel⟩
theorem ok_roundsX (d : DefOk K mg "rounds" s_rounds ["pauses", "rides", "start", "time"]) (B : Blt mg) (c_check_rides : CalX P w K mg base k "check_rides" ["pauses", "rides"] (spCheckRidesX K cNoRide)) (c_check_stop : CalX P w K mg base k "check_stop" ["pauses", "stop"] (spCheckStopX K cNoStop)) (c_all_rounds : Cal P w K mg base k "all_rounds" ["pauses", "rides", "start", "time"] spAllR) :
    CalX P w K mg base (k + 1) "rounds" ["pauses", "rides", "start", "time"] (spRoundsX cNoRide cNoStop) := by
  refine d.calX sc_rounds (fun vs H Q E h => ?_) (fun f cdv A outer s H vs Q E hr h => ?_)
  · obtain ⟨p, ps, v, rs, st, tm, rfl, _⟩ := h
    rfl
  obtain ⟨p, ps, v, rs, st, tm, rfl, ⟨hp, hR, hpz, hpl, hz⟩, q, qr, qs⟩ := h
  refine ⟨_, (pss_cons (ps_expr (pe_callX c_check_rides hr rfl passes_of (pa_cons (pv 0) (pa_cons (pv 1) pa_nil))))
    (pss_cons (ps_expr (pe_callX c_check_stop hr rfl passes_of (pa_cons (pv 0) (pa_cons (pv 2) pa_nil))))
    (pss_one (ps_ret (pe_callC c_all_rounds hr rfl (pa_cons (pv 0) (pa_cons (pv 1) (pa_cons (pv 2) (pa_cons (pv 3) pa_nil))))))))), ?_⟩
  have hlp : (ps.map V.int).length = ps.length := List.length_map _
  refine ⟨_, rfl, _, rfl, p, _, v, rs, rfl, SqL.of hp, hR, fun ok => ?_, fun nok => qr (by rw [hlp] at nok; exact nok) H (Same.refl _)⟩
  rw [hlp] at ok
  refine ⟨_, rfl, _, rfl, p, _, st, rfl, SqL.of hp, fun h1 => ?_, fun h1 => qs ok (by rw [hlp] at h1; exact h1) H (Same.refl _)⟩
  rw [hlp] at h1
  exact ⟨_, rfl, _, rfl, _, rfl, _, rfl, p, ps, v, rs, st, tm, rfl, hp, hR, ok, hpz, h1.1, h1.2, hpl, hz, fun M H' n g _ _ _ => q ok h1 _ H' g⟩

theorem sc_earliest : FnScope ["pauses", "rides", "start", "goal", "time"] ["pauses", "rides", "start", "goal", "time"] (defScope s_earliest) := ⟨rfl, rfl, rfl, by decide +kernel, rfl, by decide +kernel, by decide +kernel⟩
theorem ok_earliestX (d : DefOk K mg "earliest" s_earliest ["pauses", "rides", "start", "goal", "time"]) (B : Blt mg) (c_check_ask : CalX P w K mg base k "check_ask" ["pauses", "rides", "start", "goal"] (spCheckAskX K cNoRide cNoStop)) (c_first_coming : Cal P w K mg base k "first_coming" ["pauses", "rides", "start", "goal", "time"] spFC) :
    CalX P w K mg base (k + 1) "earliest" ["pauses", "rides", "start", "goal", "time"] (spEarX cNoRide cNoStop) := by
  refine d.calX sc_earliest (fun vs H Q E h => ?_) (fun f cdv A outer s H vs Q E hr h => ?_)
  · obtain ⟨p, ps, v, rs, st, go, tm, rfl, _⟩ := h
    rfl
  obtain ⟨p, ps, v, rs, st, go, tm, rfl, ⟨hp, hR, hpz, hpl, hz⟩, q, qr, qs⟩ := h
  refine ⟨_, (pss_cons (ps_expr (pe_callX c_check_ask hr rfl passes_of (pa_cons (pv 0) (pa_cons (pv 1) (pa_cons (pv 2) (pa_cons (pv 3) pa_nil))))))
    (pss_one (ps_ret (pe_callC c_first_coming hr rfl (pa_cons (pv 0) (pa_cons (pv 1) (pa_cons (pv 2) (pa_cons (pv 3) (pa_cons (pv 4) pa_nil))))))))), ?_⟩
  have hlp : (ps.map V.int).length = ps.length := List.length_map _
  refine ⟨_, rfl, _, rfl, _, rfl, _, rfl, p, _, v, rs, st, go, rfl, SqL.of hp, hR, fun ok h1 h2 => ?_, fun nok => qr (by rw [hlp] at nok; exact nok) H (Same.refl _), fun ok h1 => qs (by rw [hlp] at ok; exact ok) (by rw [hlp] at h1; exact h1) H (Same.refl _)⟩
  rw [hlp] at ok h1 h2
  exact ⟨_, rfl, _, rfl, _, rfl, _, rfl, _, rfl, p, ps, v, rs, st, go, tm, rfl, hp, hR, ok, hpz, h1.1, h1.2, h2.1, h2.2, hpl, hz, fun H' n g _ => q ok ⟨h1, h2⟩ _ H' g⟩

theorem sc_latest : FnScope ["pauses", "rides", "start", "goal", "time"] ["pauses", "rides", "start", "goal", "time"] (defScope s_latest) := ⟨rfl, rfl, rfl, by decide +kernel, rfl, by decide +kernel, by decide +kernel⟩
theorem ok_latestX (d : DefOk K mg "latest" s_latest ["pauses", "rides", "start", "goal", "time"]) (B : Blt mg) (c_check_ask : CalX P w K mg base k "check_ask" ["pauses", "rides", "start", "goal"] (spCheckAskX K cNoRide cNoStop)) (c_turned : Cal P w K mg base k "turned" ["rides"] spT) (c_last_start : Cal P w K mg base k "last_start" ["pauses", "backward", "start", "goal", "time"] spLS) :
    CalX P w K mg base (k + 1) "latest" ["pauses", "rides", "start", "goal", "time"] (spEarX cNoRide cNoStop) := by
  refine d.calX sc_latest (fun vs H Q E h => ?_) (fun f cdv A outer s H vs Q E hr h => ?_)
  · obtain ⟨p, ps, v, rs, st, go, tm, rfl, _⟩ := h
    rfl
  obtain ⟨p, ps, v, rs, st, go, tm, rfl, ⟨hp, hR, hpz, hpl, hz⟩, q, qr, qs⟩ := h
  refine ⟨_, (pss_cons (ps_expr (pe_callX c_check_ask hr rfl passes_of (pa_cons (pv 0) (pa_cons (pv 1) (pa_cons (pv 2) (pa_cons (pv 3) pa_nil))))))
    (pss_one (ps_ret (pe_callC c_last_start hr rfl (pa_cons (pv 0) (pa_cons (pe_callC c_turned hr rfl (pa_cons (pv 1) pa_nil)) (pa_cons (pv 2) (pa_cons (pv 3) (pa_cons (pv 4) pa_nil))))))))), ?_⟩
  have hlp : (ps.map V.int).length = ps.length := List.length_map _
  refine ⟨_, rfl, _, rfl, _, rfl, _, rfl, p, _, v, rs, st, go, rfl, SqL.of hp, hR, fun ok h1 h2 => ?_, fun nok => qr (by rw [hlp] at nok; exact nok) H (Same.refl _), fun ok h1 => qs (by rw [hlp] at ok; exact ok) (by rw [hlp] at h1; exact h1) H (Same.refl _)⟩
  rw [hlp] at ok h1 h2
  refine ⟨_, rfl, _, rfl, v, rs, rfl, hR, by omega, fun v' H1 g1 r1 => ?_⟩
  exact ⟨_, rfl, _, rfl, _, rfl, p, ps, v', turnA rs, st, go, tm, rfl, g1 _ _ hp, r1.weak fun _ _ => trivial, oks_turn ok, hpz, h1.1, h1.2, h2.1, h2.2, hpl, by rw [size_turn]; exact hz, fun H2 n g2 sb => q ok ⟨h1, h2⟩ _ H2 (g1.trans g2)⟩

theorem sc_fewest : FnScope ["pauses", "rides", "start", "goal", "time", "end"] ["pauses", "rides", "start", "goal", "time", "end"] (defScope s_fewest) := ⟨rfl, rfl, rfl, by decide +kernel, rfl, by decide +kernel, by decide +kernel⟩
theorem ok_fewestX (d : DefOk K mg "fewest" s_fewest ["pauses", "rides", "start", "goal", "time", "end"]) (B : Blt mg) (c_check_ask : CalX P w K mg base k "check_ask" ["pauses", "rides", "start", "goal"] (spCheckAskX K cNoRide cNoStop)) (c_all_rounds : Cal P w K mg base k "all_rounds" ["pauses", "rides", "start", "time"] spAllR)
    (c_parts_needed : Cal P w K mg base k "parts_needed" ["told", "goal", "end"] spNeeded) : CalX P w K mg base (k + 1) "fewest" ["pauses", "rides", "start", "goal", "time", "end"] (spFewX cNoRide cNoStop) := by
  refine d.calX sc_fewest (fun vs H Q E h => ?_) (fun f cdv A outer s H vs Q E hr h => ?_)
  · obtain ⟨p, ps, v, rs, st, go, tm, en, rfl, _⟩ := h
    rfl
  obtain ⟨p, ps, v, rs, st, go, tm, en, rfl, ⟨hp, hR, hpz, hpl, hz⟩, q, qr, qs⟩ := h
  refine ⟨_, (pss_cons (ps_expr (pe_callX c_check_ask hr rfl passes_of (pa_cons (pv 0) (pa_cons (pv 1) (pa_cons (pv 2) (pa_cons (pv 3) pa_nil))))))
    (pss_one (ps_ret (pe_callC c_parts_needed hr rfl (pa_cons (pe_callC c_all_rounds hr rfl (pa_cons (pv 0) (pa_cons (pv 1) (pa_cons (pv 2) (pa_cons (pv 4) pa_nil))))) (pa_cons (pv 3) (pa_cons (pv 5) pa_nil))))))), ?_⟩
  have hlp : (ps.map V.int).length = ps.length := List.length_map _
  refine ⟨_, rfl, _, rfl, _, rfl, _, rfl, p, _, v, rs, st, go, rfl, SqL.of hp, hR, fun ok h1 h2 => ?_, fun nok => qr (by rw [hlp] at nok; exact nok) H (Same.refl _), fun ok h1 => qs (by rw [hlp] at ok; exact ok) (by rw [hlp] at h1; exact h1) H (Same.refl _)⟩
  rw [hlp] at ok h1 h2
  refine ⟨_, rfl, _, rfl, _, rfl, _, rfl, p, ps, v, rs, st, tm, rfl, hp, hR, ok, hpz, h1.1, h1.2, hpl, hz, fun M H1 n g1 r1 sb _ => ?_⟩
  exact ⟨_, rfl, _, rfl, _, _, n + 1, go, en, rfl, r1.weak fun _ _ => trivial, h2.1, fun i _ => by rw [itr_length]; exact h2.2, fun H2 g2 => q ok ⟨h1, h2⟩ _ H2 (g1.trans g2)⟩

theorem sc_coming_of : FnScope ["pauses", "rides", "start", "goal", "time", "parts", "stop", "come", "ready", "ride", "on", "off"] ["pauses", "rides", "start", "goal", "time", "parts"] (defScope s_coming_of) := ⟨rfl, rfl, rfl, by decide +kernel, rfl, by decide +kernel, by decide +kernel⟩
theorem ok_coming_ofX (d : DefOk K mg "coming_of" s_coming_of ["pauses", "rides", "start", "goal", "time", "parts"]) (B : Blt mg) (c_check_ask : CalX P w K mg base k "check_ask" ["pauses", "rides", "start", "goal"] (spCheckAskX K cNoRide cNoStop))
    (c_is_part : Cal P w K mg base k "is_part" ["rides", "ride", "on", "off"] spNever) (c_can_leave : Cal P w K mg base k "can_leave" ["call", "stop", "ready"] spNever) : CalX P w K mg base (k + 1) "coming_of" ["pauses", "rides", "start", "goal", "time", "parts"] (spComX cNoRide cNoStop) := by
  refine d.calX sc_coming_of (fun vs H Q E h => ?_) (fun f cdv A outer s H vs Q E hr h => ?_)
  · obtain ⟨p, ps, v, rs, st, go, tm, u, rfl, _⟩ := h
    rfl
  obtain ⟨p, ps, v, rs, st, go, tm, u, rfl, hu, ⟨hp, hR, hpz, hpl, hz⟩, q, qr, qs⟩ := h
  refine ⟨_, (pss_cons (ps_expr (pe_callX c_check_ask hr rfl passes_of (pa_cons (pv 0) (pa_cons (pv 1) (pa_cons (pv 2) (pa_cons (pv 3) pa_nil))))))
    (pss_cons (ps_set (i := 6) sc_coming_of.nd rfl (Or.inl rfl) (pv 2))
    (pss_cons (ps_set (i := 7) sc_coming_of.nd rfl (Or.inl rfl) (pv 4))
    (pss_cons (ps_set (i := 8) sc_coming_of.nd rfl (Or.inl rfl) (pv 4))
    (pss_cons (ps_for PassesOwn.leaving rfl (pi_listK (K := K) rfl (pv 5)) (pg_tupK (K := K) (n := 3) rfl rfl (pgs_cons (pg_name (i := 9) sc_coming_of.nd rfl (Or.inl rfl)) (pgs_cons (pg_name (i := 10) sc_coming_of.nd rfl (Or.inl rfl)) (pgs_cons (pg_name (i := 11) sc_coming_of.nd rfl (Or.inl rfl)) pgs_nil)))) (pss_cons (ps_if (PW.pt (pw_or (pt_not (pt_val (pe_callC c_is_part hr rfl (pa_cons (pv 1) (pa_cons (pv 9) (pa_cons (pv 10) (pa_cons (pv 11) pa_nil))))))) (pw_or1 (pt_not (pt_val (pe_callC c_can_leave hr rfl (pa_cons (pe_ix (ix_listK (K := K) rfl) (pe_ix (ix_listK (K := K) rfl) (pv 1) (pv 9) (fun _ _ => rfl)) (pv 10) (fun _ _ => rfl)) (pa_cons (pv 6) (pa_cons (pv 8) pa_nil))))))))) (pss_one (ps_ret pe_non)) pss_nil)
    (pss_cons (ps_set (i := 6) sc_coming_of.nd rfl (Or.inl rfl) (pe_ix (ix_tupK (K := K) rfl) (pe_ix (ix_listK (K := K) rfl) (pe_ix (ix_listK (K := K) rfl) (pv 1) (pv 9) (fun _ _ => rfl)) (pv 11) (fun _ _ => rfl)) pe_int (fun _ _ => rfl)))
    (pss_cons (ps_set (i := 7) sc_coming_of.nd rfl (Or.inl rfl) (pe_ix (ix_tupK (K := K) rfl) (pe_ix (ix_listK (K := K) rfl) (pe_ix (ix_listK (K := K) rfl) (pv 1) (pv 9) (fun _ _ => rfl)) (pv 11) (fun _ _ => rfl)) pe_int (fun _ _ => rfl)))
    (pss_one (ps_set (i := 8) sc_coming_of.nd rfl (Or.inl rfl) (pe_op op_add (pv 7) (pe_ix (ix_listK (K := K) rfl) (pv 0) (pv 6) (fun _ _ => rfl)))))))))
    (pss_one (ps_ret (pe_ifExp (pt_cmpR op_eq (pv 6) (pv 3) (nomark _)) (pv 7) pe_non)))))))), ?_⟩
  have hlp : (ps.map V.int).length = ps.length := List.length_map _
  refine ⟨_, rfl, _, rfl, _, rfl, _, rfl, p, _, v, rs, st, go, rfl, SqL.of hp, hR, fun ok h1 h2 => ?_, fun nok => qr (by rw [hlp] at nok; exact nok) H (Same.refl _), fun ok h1 => qs (by rw [hlp] at ok; exact ok) (by rw [hlp] at h1; exact h1) H (Same.refl _)⟩
  rw [hlp] at ok h1 h2
  refine ⟨_, rfl, _, rfl, _, rfl, _, rfl, u, rfl, ⟨[], SqL.of hu⟩, ?_⟩
  refine for_list (xs := []) (fun i σ H' => H' = H ∧ ∃ o9 o10 o11, σ = [some (.ref p), some v, some (.int st), some (.int go), some (.int tm), some (.ref u), some (.int st), some (.int tm), some (.int tm), o9, o10, o11]) ⟨rfl, _, _, _, rfl⟩ ?_ ?_ ?_
  · rintro i σ H' _ ⟨rfl, _⟩
    exact SqL.of hu
  · intro i x σ H' hxi
    simp at hxi
  · rintro σ H' ⟨rfl, o9, o10, o11, rfl⟩
    refine ⟨_, rfl, _, rfl, rfl, _, rfl, ite2 (fun _ => ?_) (fun _ => ?_)⟩
    · exact ⟨_, rfl, q ok ⟨h1, h2⟩ _ H' (Same.refl _)⟩
    · exact q ok ⟨h1, h2⟩ _ H' (Same.refl _)
end
/-! ### a trip -/
section
variable {P : Program} {w : World} {K : PySem.W.Frag} {mg : Str → Option Value} {base : Heap} {k : Nat} {cNoRide cNoStop cNoWay cRideError : Addr}
/-- parts that come at the earliest, as few as can be -/
structure Best (ps : List Int) (rs : List (List Stop)) (st go tm : Int) (n : Nat) (z : Int) (qs : List Stop) : Prop where
  stab : Stab (further ps rs st tm) (init ps.length st tm) n
  come : (itr (further ps rs st tm) (init ps.length st tm) n).getD go.toNat none = some z
  few : qs.length ≤ n
  here : (itr (further ps rs st tm) (init ps.length st tm) qs.length).getD go.toNat none = some z
  new : ∀ k, qs.length = k + 1 → ¬ Ole ((itr (further ps rs st tm) (init ps.length st tm) k).getD go.toNat none) (some z)
  fits : fit ps rs st tm tm qs = some (go, z)
def NoTrip (ps : List Int) (rs : List (List Stop)) (st go tm : Int) : Prop := ∃ n, Stab (further ps rs st tm) (init ps.length st tm) n ∧ (itr (further ps rs st tm) (init ps.length st tm) n).getD go.toNat none = none
theorem sc_trip_for : FnScope ["pauses", "rides", "start", "goal", "time", "told", "come", "count"] ["pauses", "rides", "start", "goal", "time"] (defScope s_trip_for) := ⟨rfl, rfl, rfl, by decide +kernel, rfl, by decide +kernel, by decide +kernel⟩
theorem ok_trip_forX (d : DefOk K mg "trip_for" s_trip_for ["pauses", "rides", "start", "goal", "time"]) (B : Blt mg) (eNoWay : Err K mg "NoWay" cNoWay) (c_check_ask : CalX P w K mg base k "check_ask" ["pauses", "rides", "start", "goal"] (spCheckAskX K cNoRide cNoStop)) (c_all_rounds : Cal P w K mg base k "all_rounds" ["pauses", "rides", "start", "time"] spAllR)
    (c_parts_needed : Cal P w K mg base k "parts_needed" ["told", "goal", "end"] spNeeded) (c_trip_back : Cal P w K mg base k "trip_back" ["pauses", "rides", "start", "goal", "told"] spBackTrip) : CalX P w K mg base (k + 1) "trip_for" ["pauses", "rides", "start", "goal", "time"] (spTripX cNoRide cNoStop cNoWay) := by
  refine d.calX sc_trip_for (fun vs H Q E h => ?_) (fun f cdv A outer s H vs Q E hr h => ?_)
  · obtain ⟨p, ps, v, rs, st, go, tm, rfl, _⟩ := h
    rfl
  obtain ⟨p, ps, v, rs, st, go, tm, rfl, ⟨hp, hR, hpz, hpl, hz⟩, ⟨q0, qr, qs⟩, qw⟩ := h
  have hz' := hz
  rw [size_rides] at hz'
  refine ⟨_, (pss_cons (ps_expr (pe_callX c_check_ask hr rfl passes_of (pa_cons (pv 0) (pa_cons (pv 1) (pa_cons (pv 2) (pa_cons (pv 3) pa_nil))))))
    (pss_cons (ps_set (i := 5) sc_trip_for.nd rfl (Or.inl rfl) (pe_callC c_all_rounds hr rfl (pa_cons (pv 0) (pa_cons (pv 1) (pa_cons (pv 2) (pa_cons (pv 4) pa_nil))))))
    (pss_cons (ps_set (i := 6) sc_trip_for.nd rfl (Or.inl rfl) (pe_ix (ix_listK (K := K) rfl) (pe_ix (ix_listK (K := K) rfl) (pv 5) (pe_un un_neg pe_int) (fun _ _ => rfl)) (pv 3) (fun _ _ => rfl)))
    (pss_cons (ps_if (pt_cmpR op_isN (pv 6) pe_non (nomark _)) (pss_one (ps_raise rfl rfl eNoWay.at_ eNoWay.is raises_of (pa_cons pe_str pa_nil))) pss_nil)
    (pss_cons (ps_set (i := 7) sc_trip_for.nd rfl (Or.inl rfl) (pe_callC c_parts_needed hr rfl (pa_cons (pv 5) (pa_cons (pv 3) (pa_cons (pv 6) pa_nil)))))
    (pss_one (ps_ret (pe_callC c_trip_back hr rfl (pa_cons (pv 0) (pa_cons (pv 1) (pa_cons (pv 2) (pa_cons (pv 3) (pa_cons (pe_slice (sl_listK (K := K) rfl) (pv 5) po_none (po_some (pe_op op_add (pv 7) pe_int))) pa_nil))))))))))))), ?_⟩
  have hlp : (ps.map V.int).length = ps.length := List.length_map _
  refine ⟨_, rfl, _, rfl, _, rfl, _, rfl, p, _, v, rs, st, go, rfl, SqL.of hp, hR, fun hok h1 h2 => ?_, fun nok => qr (by rw [hlp] at nok; exact nok) H (Same.refl _), fun ok h1 => qs (by rw [hlp] at ok; exact ok) (by rw [hlp] at h1; exact h1) H (Same.refl _)⟩
  rw [hlp] at hok h1 h2
  obtain ⟨hs0, hs1⟩ := id h1
  obtain ⟨hg0, hg1⟩ := id h2
  have qe : ∀ H', Same H H' → NoTrip ps rs st go tm → E (.ref cNoWay) none H' := fun H' g _ => qw hok ⟨h1, h2⟩ H' g
  have q : ∀ (pv : V) (H' : Hp) (qs : List Stop) (n : Nat) (z : Int), Same H H' → Rep Al H' (rideD qs) pv → Best ps rs st go tm n z qs → Q pv H' := fun pv H' _ _ _ g _ _ => q0 hok ⟨h1, h2⟩ pv H' g
  refine ⟨_, rfl, _, rfl, _, rfl, _, rfl, p, ps, v, rs, st, tm, rfl, hp, hR, hok, hpz, hs0, hs1, hpl, hz, fun M H1 n g1 r1 sb hn => ?_⟩
  obtain ⟨M', zs, eM, _, hM, hzs⟩ := r1.lstE
  cases eM
  have hlv : zs.length = n + 1 := by rw [hzs.length, List.length_map, List.length_range]
  obtain ⟨xn, hxn, hrepn⟩ := hzs.get (i := n) (d := olD (itr (further ps rs st tm) (init ps.length st tm) n)) (by rw [List.getElem?_map, List.getElem?_range (by omega)]; rfl)
  obtain ⟨bn, rfl, _, hbn⟩ := rep_ol hrepn
  have hat : atI ((itr (further ps rs st tm) (init ps.length st tm) n).map oV) go = some (oV ((itr (further ps rs st tm) (init ps.length st tm) n).getD go.toNat none)) := atO hg0 (by rw [itr_length]; exact hg1)
  refine ⟨_, rfl, _, rfl, M, _, _, _, rfl, rfl, SqL.of hM, atI_lastE hlv hxn, _, rfl, bn, _, _, _, rfl, rfl, SqL.of hbn, hat, ?_⟩
  cases hX : (itr (further ps rs st tm) (init ps.length st tm) n).getD go.toNat none with
  | none => exact ⟨_, rfl, rfl, _, rfl, iteT ⟨small (by simp), qe H1 g1 ⟨n, sb, hX⟩⟩⟩
  | some z =>
    refine ⟨_, rfl, rfl, _, rfl, iteF ?_⟩
    obtain ⟨c, hc, hcn, hcz, hcw⟩ := need_first (n := ps.length) (ps := ps) (rs := rs) (tm := tm) hs0 hX
    refine ⟨_, rfl, _, rfl, _, rfl, _, itr (further ps rs st tm) (init ps.length st tm), n + 1, go, z, rfl, .lstI trivial hM (hzs.weak fun _ _ => trivial), hg0, fun i _ => by rw [itr_length]; exact hg1, fun H2 g2 => ?_⟩
    rw [hc]
    have hn5 : n ≤ 500000 := by
      have : ps.length * (total rs + 1) ≤ 100 * (4000 + 1) := Nat.mul_le_mul hpl (by omega)
      omega
    have g12 := g1.trans g2
    refine ⟨_, rfl, _, rfl, _, rfl, _, rfl, _, rfl, _, rfl, _, _, rfl, rfl, _, rfl, M, zs, rfl, SqL.of (g2 _ _ hM), fun sl hsl => ?_⟩
    have s3 := Same.new hsl (.lst (cutV zs none (some (((c : Nat) : Int) + 1))))
    have e1 : cutV zs none (some (((c : Nat) : Int) + 1)) = zs.take (c + 1) := by
      rw [show (((c : Nat) : Int) + 1) = ((c + 1 : Nat) : Int) by omega]
      exact cutV_take zs (c + 1) (by omega)
    have g13 := g12.trans s3
    refine ⟨p, ps, v, rs, st, go, tm, _, c, z, rfl, g13 _ _ hp, hR.mono g13, hok, hpz, hs0, hs1, hg0, hg1, hpl, hz, by omega, ?_, hcz, hcw, fun pv' H' qs g' r' hql hfit => ?_⟩
    · refine .lstI trivial upd_same ?_
      rw [e1]
      have := ((hzs.take (c + 1)).weak (fun _ _ => trivial : ∀ a, New H a → Al a)).mono (g2.trans s3)
      rw [← List.map_take, List.take_range, Nat.min_eq_left (by omega)] at this
      rw [e1] at this
      exact this
    · exact q pv' H' qs n z (g13.trans g') r' ⟨sb, hX, by omega, by rw [hql]; exact hcz, by rw [hql]; exact hcw, hfit⟩
end
/-! ### choices -/
section
variable {P : Program} {w : World} {K : PySem.W.Frag} {mg : Str → Option Value} {base : Heap} {k : Nat} {cNoRide cNoStop cNoWay : Addr}
mutual
theorem rep_live {Pr : Addr → Prop} {H : Hp} : ∀ {d : D} {v : V}, Rep Pr H d v → Rep (fun a => Pr a ∧ ∃ o, H a = some o) H d v
  | .non, _, r => by simpa [Rep] using r
  | .int _, _, r => by simpa [Rep] using r
  | .lst ds, v, r => by
    simp only [Rep] at r ⊢
    obtain ⟨a, xs, e, hp, ha, q⟩ := r
    exact ⟨a, xs, e, ⟨hp, _, ha⟩, ha, repL_live q⟩
  | .tup ds, v, r => by
    simp only [Rep] at r ⊢
    obtain ⟨a, xs, e, ha, q⟩ := r
    exact ⟨a, xs, e, ha, repL_live q⟩
theorem repL_live {Pr : Addr → Prop} {H : Hp} : ∀ {ds : List D} {xs : List V}, RepL Pr H ds xs → RepL (fun a => Pr a ∧ ∃ o, H a = some o) H ds xs
  | [], _, r => by simpa [RepL] using r
  | d :: ds, xs, r => by
    simp only [RepL] at r ⊢
    obtain ⟨x, t, e, h1, h2⟩ := r
    exact ⟨x, t, e, rep_live h1, repL_live h2⟩
end
def pairD (p : Int × Int) : D := .tup [.int p.1, .int p.2]
def choD (told : List (Int × Int)) : D := .lst (told.map pairD)
theorem rep_pairI {Pr : Addr → Prop} {H : Hp} {c : Int × Int} {t : Addr} (h : H t = some (.tup [.int c.1, .int c.2])) : Rep Pr H (pairD c) (.ref t) := .tupI h (.consI (.intI _) (.consI (.intI _) .nilI))
def CEnd (ps : List Int) (rs : List (List Stop)) (st go last t : Int) : Prop := EarS ps rs st go t none ∨ ∃ c b, EarS ps rs st go t (some c) ∧ LatS ps rs st go c (some b) ∧ last < b
theorem sc_choices : FnScope ["pauses", "rides", "start", "goal", "first", "last", "backward", "told", "come", "begin"] ["pauses", "rides", "start", "goal", "first", "last"] (defScope s_choices) := ⟨rfl, rfl, rfl, by decide +kernel, rfl, by decide +kernel, by decide +kernel⟩
theorem ok_choicesX (d : DefOk K mg "choices" s_choices ["pauses", "rides", "start", "goal", "first", "last"]) (B : Blt mg) (eNoWay : Err K mg "NoWay" cNoWay) (c_check_ask : CalX P w K mg base k "check_ask" ["pauses", "rides", "start", "goal"] (spCheckAskX K cNoRide cNoStop)) (c_turned : Cal P w K mg base k "turned" ["rides"] spT) (c_first_coming : Cal P w K mg base k "first_coming" ["pauses", "rides", "start", "goal", "time"] spFC)
    (c_last_start : Cal P w K mg base k "last_start" ["pauses", "backward", "start", "goal", "time"] spLS) : CalX P w K mg base (k + 1) "choices" ["pauses", "rides", "start", "goal", "first", "last"] (spChoX cNoRide cNoStop cNoWay) := by
  refine d.calX sc_choices (fun vs H Q E h => ?_) (fun f cdv A outer s H vs Q E hr h => ?_)
  · obtain ⟨p, ps, v, rs, st, go, first, last, rfl, _⟩ := h
    rfl
  obtain ⟨p, ps, v, rs, st, go, first, last, rfl, ⟨hp, hR, hpz, hpl, hz⟩, hfl, q0, qr, qs, qw⟩ := h
  refine ⟨_, (pss_cons (ps_expr (pe_callX c_check_ask hr rfl passes_of (pa_cons (pv 0) (pa_cons (pv 1) (pa_cons (pv 2) (pa_cons (pv 3) pa_nil))))))
    (pss_cons (ps_if (pt_cmpR op_eq (pv 2) (pv 3) (nomark _)) (pss_one (ps_raise rfl rfl eNoWay.at_ eNoWay.is raises_of (pa_cons pe_str pa_nil))) pss_nil)
    (pss_cons (ps_set (i := 6) sc_choices.nd rfl (Or.inl rfl) (pe_callC c_turned hr rfl (pa_cons (pv 1) pa_nil)))
    (pss_cons (ps_set (i := 7) sc_choices.nd rfl (Or.inl rfl) (pe_lst pa_nil))
    (pss_cons (ps_set (i := 8) sc_choices.nd rfl (Or.inl rfl) (pe_callC c_first_coming hr rfl (pa_cons (pv 0) (pa_cons (pv 1) (pa_cons (pv 2) (pa_cons (pv 3) (pa_cons (pv 4) pa_nil)))))))
    (pss_cons (ps_while PassesOwn.leaving (pt_cmpR op_notN (pv 8) pe_non (nomark _)) (pss_cons (ps_set (i := 9) sc_choices.nd rfl (Or.inl rfl) (pe_callC c_last_start hr rfl (pa_cons (pv 0) (pa_cons (pv 6) (pa_cons (pv 2) (pa_cons (pv 3) (pa_cons (pv 8) pa_nil)))))))
    (pss_cons (ps_if (pt_cmpR op_gt (pv 9) (pv 5) (nomark _)) (pss_one (ps_ret (pv 7))) pss_nil)
    (pss_cons (ps_expr (pe_bmK (K := K) rfl PySem.F.plainAttrs_list PySem.F.slot_list_append PySem.F.type_list_append mt_append (pv 7) (pa_cons (pe_tup (pa_cons (pv 9) (pa_cons (pv 8) pa_nil))) pa_nil)))
    (pss_one (ps_set (i := 8) sc_choices.nd rfl (Or.inl rfl) (pe_callC c_first_coming hr rfl (pa_cons (pv 0) (pa_cons (pv 1) (pa_cons (pv 2) (pa_cons (pv 3) (pa_cons (pe_op op_add (pv 9) pe_int) pa_nil))))))))))))
    (pss_one (ps_ret (pv 7))))))))), ?_⟩
  have hlp : (ps.map V.int).length = ps.length := List.length_map _
  refine ⟨_, rfl, _, rfl, _, rfl, _, rfl, p, _, v, rs, st, go, rfl, SqL.of hp, hR, fun hok h1 h2 => ?_, fun nok => qr (by rw [hlp] at nok; exact nok) H (Same.refl _), fun ok h1 => qs (by rw [hlp] at ok; exact ok) (by rw [hlp] at h1; exact h1) H (Same.refl _)⟩
  rw [hlp] at hok h1 h2
  obtain ⟨hs0, hs1⟩ := id h1
  obtain ⟨hg0, hg1⟩ := id h2
  refine ⟨_, rfl, _, rfl, rfl, _, rfl, ite2 (fun c1 => ⟨small (by simp), qw (by simpa using c1) hok ⟨h1, h2⟩ H (Same.refl _)⟩) (fun c1 => ?_)⟩
  have hne : st ≠ go := by simpa using c1
  have q : ∀ (v' : V) (H' : Hp) (told : List (Int × Int)) (t : Int), Same H H' → Rep (New H) H' (choD told) v' → Run ps rs st go last first told t → CEnd ps rs st go last t → told.length ≤ 1001 → Q v' H' := fun v' H' _ _ g _ _ _ _ => q0 hne hok ⟨h1, h2⟩ v' H' g
  refine ⟨_, rfl, v, rs, rfl, hR, by omega, fun bw H1 g1 r1 => ?_⟩
  refine ⟨small (by simp), fun T hT => ?_⟩
  have g2 := g1.trans (Same.new hT (.lst []))
  have hT0 : H T = none := g1.free hT
  have rb1 : Rep (fun a => a ≠ T) H1 (ridesD (turnA rs)) bw := (rep_live r1).weak fun a ⟨_, o, ho⟩ z => by
    rw [z, hT] at ho
    cases ho
  have rb2 := rb1.mono (Same.new hT (.lst []))
  refine ⟨_, rfl, _, rfl, _, rfl, _, rfl, _, rfl, p, ps, v, rs, st, go, first, rfl, g2 _ _ hp, hR.mono g2, hok, hpz, hs0, hs1, hg0, hg1, hpl, hz, fun H3 n g3 sb => ?_⟩
  refine ⟨fun m σ H' => ∃ told t cm ws o9, σ = [some (.ref p), some v, some (.int st), some (.int go), some (.int first), some (.int last), some bw, some (.ref T), some (oV cm), o9] ∧ Same H H' ∧ Rep (fun a => a ≠ T) H' (ridesD (turnA rs)) bw ∧ H' T = some (.lst ws) ∧ RepL (fun z => z ≠ T ∧ New H z) H' (told.map pairD) ws ∧
    Run ps rs st go last first told t ∧ EarS ps rs st go t cm ∧ m = (last + 1 - t).toNat ∧ told.length + m ≤ (last + 1 - first).toNat, ⟨_, [], first, _, [], _, rfl, g2.trans g3, rb2.mono g3, g3 _ _ upd_same, .nilI, .nil, ear_of hok hpz hs0 hs1 hg0 hne sb, rfl, by simp⟩, ?_⟩
  rintro m σ H4 ⟨told, t, cm, ws, o9, rfl, g4, rb4, hT4, hws, hrun, hear, rfl, hlen⟩
  have hwl : ws.length = told.length := by rw [hws.length, List.length_map]
  have rep4 : Rep (New H) H4 (choD told) (.ref T) := .lstI hT0 hT4 (hws.weak fun _ z => z.2)
  cases cm with
  | none => exact ⟨_, rfl, rfl, _, rfl, iteF ⟨_, rfl, q _ H4 told t g4 rep4 hrun (.inl hear) (by omega)⟩⟩
  | some c =>
    refine ⟨_, rfl, rfl, _, rfl, iteT ?_⟩
    refine ⟨fun σ' H' => ∃ told t' cm ws o9, σ' = [some (.ref p), some v, some (.int st), some (.int go), some (.int first), some (.int last), some bw, some (.ref T), some (oV cm), o9] ∧ Same H H' ∧ Rep (fun a => a ≠ T) H' (ridesD (turnA rs)) bw ∧ H' T = some (.lst ws) ∧ RepL (fun z => z ≠ T ∧ New H z) H' (told.map pairD) ws ∧
      Run ps rs st go last first told t' ∧ EarS ps rs st go t' cm ∧ (last + 1 - t').toNat < (last + 1 - t).toNat ∧ told.length + (last + 1 - t').toNat ≤ (last + 1 - first).toNat, fun σ' H' ⟨told', t', cm', ws', o9', e1, e2, e3, e4, e5, e6, e7, e8, e9⟩ => ⟨_, e8, told', t', cm', ws', o9', e1, e2, e3, e4, e5, e6, e7, rfl, e9⟩, ?_⟩
    refine ⟨_, rfl, _, rfl, _, rfl, _, rfl, _, rfl, p, ps, bw, turnA rs, st, go, c, rfl, g4 _ _ hp, rb4.weak fun _ _ => trivial, oks_turn hok, hpz, hs0, hs1, hg0, hg1, hpl, by rw [size_turn]; exact hz, fun H5 n5 g5 sb5 => ?_⟩
    have hlat := lat_of hok hpz hs0 hg0 hg1 hne sb5
    obtain ⟨b, hb, htb⟩ := lat_of_ear hear hlat
    rw [hb] at hlat ⊢
    have g45 := g4.trans g5
    refine ⟨_, rfl, _, rfl, _, _, rfl, rfl, _, rfl, ite2 (fun c1 => ?_) (fun c1 => ?_)⟩
    · have hlb : last < b := of_decide_eq_true c1
      exact ⟨_, rfl, q _ H5 told t g45 (.lstI hT0 (g5 _ _ hT4) ((hws.mono g5).weak fun _ z => z.2)) hrun (.inr ⟨c, b, hear, hlat, hlb⟩) (by omega)⟩
    · have hlb : ¬ last < b := of_decide_eq_false (Bool.eq_false_iff.mpr c1)
      refine ⟨_, rfl, .inl ⟨rfl, _, SqL.of (g5 _ _ hT4)⟩, _, rfl, _, rfl, small (by simp), fun tt htt => ?_⟩
      have s6 := Same.new htt (.tup [.int b, .int c])
      have hT6 := s6 _ _ (g5 _ _ hT4)
      have ttT : tt ≠ T := fun z => by rw [z, g5 _ _ hT4] at htt; cases htt
      refine ⟨T, ws, _, rfl, rfl, hT6, smaller (by omega), ?_⟩
      have g56 : Same H (upd (upd H5 tt (.tup [.int b, .int c])) T (.lst (ws ++ [.ref tt]))) := (g45.trans s6).upd hT0
      have htt0 : H tt = none := g45.free htt
      have rep6 : RepL (fun z => z ≠ T ∧ New H z) (upd (upd H5 tt (.tup [.int b, .int c])) T (.lst (ws ++ [.ref tt]))) ((told ++ [(b, c)]).map pairD) (ws ++ [.ref tt]) := by
        rw [List.map_append]
        exact (((hws.mono g5).mono s6).snoc (rep_pairI (c := (b, c)) upd_same)).write (fun z => z.1 rfl) hT6
      have rb6 : Rep (fun a => a ≠ T) (upd (upd H5 tt (.tup [.int b, .int c])) T (.lst (ws ++ [.ref tt]))) (ridesD (turnA rs)) bw := ((rb4.mono g5).mono s6).write (fun z => z rfl) hT6
      refine ⟨_, rfl, _, rfl, _, rfl, _, rfl, _, rfl, _, _, rfl, rfl, p, ps, v, rs, st, go, b + 1, rfl, g56 _ _ hp, hR.mono g56, hok, hpz, hs0, hs1, hg0, hg1, hpl, hz, fun H7 n7 g7 sb7 => ?_⟩
      refine ⟨told ++ [(b, c)], b + 1, _, ws ++ [V.ref tt], _, rfl, g56.trans g7, rb6.mono g7, g7 _ _ upd_same, rep6.mono g7, .snoc hrun hear hlat (by omega), ear_of hok hpz hs0 hs1 hg0 hne sb7, by omega, ?_⟩
      rw [List.length_append]
      simp only [List.length_cons, List.length_nil]
      have := hrun.le.1
      omega
end
/-! ### spoilt rides -/
section
variable {P : Program} {w : World} {K : PySem.W.Frag} {mg : Str → Option Value} {base : Heap} {k : Nat}
/-- one of the lists is written: they are rides still -/
theorem rides_write {H : Hp} {b : Addr} {r' : List Stop} {ts ts' : List V} (hb : H b = some (.lst ts)) (hr : RepL Al (upd H b (.lst ts')) (r'.map callD) ts') : ∀ {rs : List (List Stop)} {xs : List V}, RepL Al H (rs.map rideD) xs → (∀ r ∈ rs, r.length ≤ 12) → r'.length ≤ 12 →
    ∃ rs', RepL Al (upd H b (.lst ts')) (List.map rideD rs') xs ∧ rs'.length = rs.length ∧ ∀ r ∈ rs', r.length ≤ 12
  | [], xs, q, _, _ => ⟨[], by rw [q.nilE]; exact .nilI, rfl, by simp⟩
  | r :: rs, _, q, h12, hr12 => by
    obtain ⟨x, t, rfl, h, q'⟩ := RepL.consE q
    obtain ⟨rs', h1, h2, h3⟩ := rides_write hb hr q' (fun r hr => h12 r (List.mem_cons_of_mem _ hr)) hr12
    obtain ⟨a, zs, rfl, _, ha, hz⟩ := h.lstE
    by_cases e : a = b
    · subst e
      exact ⟨r' :: rs', .consI (.lstI trivial upd_same hr) h1, by simp [h2], fun r hr => by
        rcases List.mem_cons.mp hr with rfl | hr
        · exact hr12
        · exact h3 r hr⟩
    · refine ⟨r :: rs', .consI (.lstI trivial (by rw [upd_ne e]; exact ha) ?_) h1, by simp [h2], fun r2 hr => ?_⟩
      · exact (rep_calls (P' := fun _ => False) hz).move (fun _ _ => trivial) (fun _ _ z => z.elim) fun p xs z => by rw [upd_ne (ne_of z hb (by simp))]; exact z
      · rcases List.mem_cons.mp hr with rfl | hr
        · exact h12 _ List.mem_cons_self
        · exact h3 r2 hr
theorem total_le12 : ∀ {rs : List (List Stop)}, (∀ r ∈ rs, r.length ≤ 12) → total rs ≤ 12 * rs.length
  | [], _ => Nat.le_refl _
  | r :: rs, h => by
    have h1 := h r List.mem_cons_self
    have h2 := total_le12 (rs := rs) fun r' hr' => h r' (List.mem_cons_of_mem _ hr')
    simp only [total, List.map_cons, List.sum_cons, List.length_cons] at h2 ⊢
    omega
def spSpoilt : Sp := fun vs H Q _ => ∃ (v : V) (rs : List (List Stop)) (way seed n : Int), vs = [v, .int way, .int seed, .int n] ∧ Rep Al H (ridesD rs) v ∧ (∀ r ∈ rs, r ≠ [] ∧ r.length ≤ 7) ∧ rs.length ≤ 7 ∧
  ∀ v' H' rs', Same H H' → Rep Al H' (ridesD rs') v' → rs'.length ≤ 8 → (∀ r ∈ rs', r.length ≤ 12) → Q v' H'
theorem sc_law_spoilt : FnScope ["_law_rides", "_law_way", "_law_seed", "_law_count", "_law_made", "_law_ride", "_law_spot", "_law_stop", "_law_come", "_law_leave"] ["_law_rides", "_law_way", "_law_seed", "_law_count"] (defScope s_law_spoilt) := ⟨rfl, rfl, rfl, by decide +kernel, rfl, by decide +kernel, by decide +kernel⟩
theorem ok_law_spoilt (d : DefOk K mg "_law_spoilt" s_law_spoilt ["_law_rides", "_law_way", "_law_seed", "_law_count"]) (B : Blt mg) (c_law_copy : Cal P w K mg base k "_law_copy" ["_law_rides"] spCopy) : Cal P w K mg base (k + 1) "_law_spoilt" ["_law_rides", "_law_way", "_law_seed", "_law_count"] spSpoilt := by
  refine d.cal sc_law_spoilt (fun vs H Q E h => ?_) (fun f cdv A outer s H vs Q E hr h => ?_)
  · obtain ⟨v, rs, way, seed, n, rfl, _⟩ := h
    rfl
  obtain ⟨v, rs, way, seed, n, rfl, hR, h7, hl7, q⟩ := h
  refine ⟨_, (pss_cons (ps_if (pt_cmpR op_eq (pv 1) pe_int (nomark _)) (pss_one (ps_ret (pv 0))) pss_nil)
    (pss_cons (ps_if (pt_cmpR op_eq (pv 1) pe_int (nomark _)) (pss_one (ps_ret (pe_op op_cat (pv 0) (pe_lst (pa_cons (pe_lst pa_nil) pa_nil))))) pss_nil)
    (pss_cons (ps_set (i := 4) sc_law_spoilt.nd rfl (Or.inl rfl) (pe_op op_cat (pe_callC c_law_copy hr rfl (pa_cons (pv 0) pa_nil)) (pe_lst (pa_cons (pe_lst (pa_cons (pe_tup (pa_cons pe_int (pa_cons pe_int (pa_cons pe_int pa_nil)))) (pa_cons (pe_tup (pa_cons pe_int (pa_cons pe_int (pa_cons pe_int pa_nil)))) pa_nil))) pa_nil))))
    (pss_cons (ps_set (i := 5) sc_law_spoilt.nd rfl (Or.inl rfl) (pe_ix (ix_listK (K := K) rfl) (pv 4) (pe_op op_mod (pv 2) (pe_callB (call_lenK (K := K) rfl) rfl B.len bt_len (pa_cons (pv 4) pa_nil))) (fun _ _ => rfl)))
    (pss_cons (ps_set (i := 6) sc_law_spoilt.nd rfl (Or.inl rfl) (pe_op op_mod (pe_op op_fdiv (pv 2) pe_int) (pe_callB (call_lenK (K := K) rfl) rfl B.len bt_len (pa_cons (pv 5) pa_nil))))
    (pss_cons (ps_asg (pe_ix (ix_listK (K := K) rfl) (pv 5) (pv 6) (fun _ _ => rfl)) (pg_tupK (K := K) (n := 3) rfl rfl (pgs_cons (pg_name (i := 7) sc_law_spoilt.nd rfl (Or.inl rfl)) (pgs_cons (pg_name (i := 8) sc_law_spoilt.nd rfl (Or.inl rfl)) (pgs_cons (pg_name (i := 9) sc_law_spoilt.nd rfl (Or.inl rfl)) pgs_nil)))))
    (pss_cut (ps_if (pt_cmpR op_eq (pv 1) pe_int (nomark _)) (pss_one (ps_asg (pe_tup (pa_cons (pv 7) (pa_cons (pe_op op_add (pe_op op_add (pv 9) pe_int) (pe_op op_mod (pv 2) pe_int)) (pa_cons (pv 9) pa_nil)))) (pg_sub (pv 5) (pv 6) set_list))) (pss_one (ps_if (pt_cmpR op_eq (pv 1) pe_int (nomark _)) (pss_one (ps_expr (pe_bmK (K := K) rfl PySem.F.plainAttrs_list PySem.F.slot_list_insert PySem.F.type_list_insert mt_insert (pv 5) (pa_cons (pv 6) (pa_cons (pe_tup (pa_cons (pv 7) (pa_cons (pv 8) (pa_cons (pe_op op_add (pv 9) (pe_op op_mod (pv 2) pe_int)) pa_nil)))) pa_nil))))) (pss_cons (ps_set (i := 7) sc_law_spoilt.nd rfl (Or.inl rfl) (pe_ix (ix_listK (K := K) rfl) (pe_lst (pa_cons (pe_un un_neg pe_int) (pa_cons (pv 3) (pa_cons (pe_op op_pow pe_int pe_int) (pa_cons (pe_op op_sub (pe_un un_neg pe_int) (pe_op op_mod (pv 2) (pe_op op_pow pe_int pe_int))) (pa_cons (pe_op op_add (pv 3) (pe_op op_mod (pv 2) (pe_op op_pow pe_int pe_int))) pa_nil)))))) (pe_op op_mod (pv 2) pe_int) (fun _ _ => rfl)))
    (pss_one (ps_asg (pe_tup (pa_cons (pv 7) (pa_cons (pv 8) (pa_cons (pv 9) pa_nil)))) (pg_sub (pv 5) (pv 6) set_list)))))))
    (pss_one (ps_ret (pv 4)))))))))), ?_⟩
  have h12 : ∀ r ∈ rs, r.length ≤ 12 := fun r hr => by have := (h7 r hr).2; omega
  have htot : total rs ≤ 12 * rs.length := total_le12 h12
  refine ⟨_, rfl, rfl, _, rfl, ite2 (fun _ => ⟨_, rfl, q _ H rs (Same.refl _) hR (by omega) h12⟩) (fun _ => ?_)⟩
  refine ⟨_, rfl, rfl, _, rfl, ite2 (fun _ => ?_) (fun _ => ?_)⟩
  · obtain ⟨a, xs, rfl, _, ha, hx⟩ := hR.lstE
    have hlx : xs.length = rs.length := by rw [hx.length, List.length_map]
    refine ⟨_, rfl, small (by simp), fun e he => ⟨small (by simp), fun o ho => ?_⟩⟩
    have s1 := Same.new he (.lst [])
    have s2 := Same.new ho (.lst [.ref e])
    refine ⟨a, o, _, _, rfl, rfl, s2 _ _ (s1 _ _ ha), upd_same, small (by simp; omega), fun L hL => ?_⟩
    have s3 := Same.new hL (.lst (xs ++ [.ref e]))
    refine q _ _ (rs ++ [[]]) (s1.trans (s2.trans s3)) ?_ (by simp; omega) fun r hr => ?_
    · unfold ridesD
      rw [List.map_append]
      exact .lstI trivial upd_same ((((hx.mono s1).mono s2).mono s3).append (.consI (.lstI trivial (s3 _ _ (s2 _ _ upd_same)) .nilI) .nilI))
    · rcases List.mem_append.mp hr with hr | hr
      · exact h12 r hr
      · rw [List.mem_singleton.mp hr]; simp
  -- a copy and one ride more
  refine ⟨_, rfl, v, rs, rfl, hR, by rw [size_rides]; omega, fun vc H1 g1 r1 => ?_⟩
  obtain ⟨ca, xs, rfl, _, hca, hx⟩ := r1.lstE
  have hlx : xs.length = rs.length := by rw [hx.length, List.length_map]
  refine ⟨small (by simp), fun t1 ht1 => ⟨small (by simp), fun t2 ht2 => ⟨small (by simp), fun rl hrl => ⟨small (by simp), fun o ho => ?_⟩⟩⟩⟩
  have s1 := Same.new ht1 (.tup [.int 0, .int 1, .int 2])
  have s2 := Same.new ht2 (.tup [.int 1, .int 3, .int 4])
  have s3 := Same.new hrl (.lst [.ref t1, .ref t2])
  have s4 := Same.new ho (.lst [.ref rl])
  have g4 := s1.trans (s2.trans (s3.trans s4))
  refine ⟨ca, o, _, _, rfl, rfl, g4 _ _ hca, upd_same, small (by simp; omega), fun M hM => ?_⟩
  have s5 := Same.new hM (.lst (xs ++ [.ref rl]))
  have g5 := g4.trans s5
  have g15 : Same H _ := g1.trans g5
  have hrl0 : H rl = none := g1.free (s1.free (s2.free hrl))
  have nw : RepL (New H) (upd (upd (upd (upd (upd H1 t1 (.tup [.int 0, .int 1, .int 2])) t2 (.tup [.int 1, .int 3, .int 4])) rl (.lst [.ref t1, .ref t2])) o (.lst [.ref rl])) M (.lst (xs ++ [.ref rl]))) ((rs ++ [[(0, 1, 2), (1, 3, 4)]]).map rideD) (xs ++ [.ref rl]) := by
    rw [List.map_append]
    refine (hx.mono g5).append (.consI (.lstI hrl0 (s5 _ _ (s4 _ _ upd_same)) ?_) .nilI)
    exact .consI (rep_callI (c := (0, 1, 2)) ((s2.trans (s3.trans (s4.trans s5))) _ _ upd_same)) (.consI (rep_callI (c := (1, 3, 4)) ((s3.trans (s4.trans s5)) _ _ upd_same)) .nilI)
  have hMM : upd (upd (upd (upd (upd H1 t1 (.tup [.int 0, .int 1, .int 2])) t2 (.tup [.int 1, .int 3, .int 4])) rl (.lst [.ref t1, .ref t2])) o (.lst [.ref rl])) M (.lst (xs ++ [.ref rl])) M = some (.lst (xs ++ [.ref rl])) := upd_same
  have hM0 : H M = none := g1.free (g4.free hM)
  generalize upd (upd (upd (upd (upd H1 t1 (.tup [.int 0, .int 1, .int 2])) t2 (.tup [.int 1, .int 3, .int 4])) rl (.lst [.ref t1, .ref t2])) o (.lst [.ref rl])) M (.lst (xs ++ [.ref rl])) = H2 at g15 nw hMM
  obtain ⟨rs2, hrs2⟩ : ∃ rs2, rs ++ [[(0, 1, 2), (1, 3, 4)]] = rs2 := ⟨_, rfl⟩
  have hl2 : rs2.length = rs.length + 1 := by rw [← hrs2]; simp
  have h72 : ∀ r ∈ rs2, r ≠ [] ∧ r.length ≤ 7 := fun r hr => by
    rw [← hrs2] at hr
    rcases List.mem_append.mp hr with hr | hr
    · exact h7 r hr
    · rw [List.mem_singleton.mp hr]; simp
  rw [hrs2] at nw
  obtain ⟨ys, hys⟩ : ∃ ys, xs ++ [V.ref rl] = ys := ⟨_, rfl⟩
  rw [hys] at nw hMM
  have hly : ys.length = rs2.length := by rw [nw.length, List.length_map]
  have hpos : (0 : Int) < ((ys.length : Nat) : Int) := by omega
  -- the ride
  have m0 := Int.emod_nonneg seed (Int.ne_of_gt hpos)
  have m1 := Int.emod_lt_of_pos seed hpos
  obtain ⟨rd, hrd⟩ : ∃ rd, rs2[(seed % ((ys.length : Nat) : Int)).toNat]? = some rd := ⟨_, List.getElem?_eq_getElem (by omega)⟩
  obtain ⟨y, hy, hyr⟩ := nw.get (i := (seed % ((ys.length : Nat) : Int)).toNat) (d := rideD rd) (by rw [List.getElem?_map, hrd]; rfl)
  obtain ⟨b, zs, rfl, hbN, hb, hz⟩ := hyr.lstE
  have hrd7 := h72 rd (List.mem_of_getElem? hrd)
  have hlz : zs.length = rd.length := by rw [hz.length, List.length_map]
  have hzpos : 0 < zs.length := by rw [hlz]; exact List.length_pos_iff.mpr hrd7.1
  refine ⟨_, rfl, _, rfl, _, rfl, M, ys, rfl, .inl (SqL.of hMM), _, _, rfl, rfl, hpos, M, ys, _, _, rfl, rfl, SqL.of hMM, atI_natE hy (by omega), ?_⟩
  -- the spot
  have hzi : (0 : Int) < ((zs.length : Nat) : Int) := by omega
  have n0 := Int.emod_nonneg (seed / 3) (Int.ne_of_gt hzi)
  have n1 := Int.emod_lt_of_pos (seed / 3) hzi
  refine ⟨_, rfl, _, _, rfl, rfl, ⟨by decide, by decide⟩, _, rfl, b, zs, rfl, .inl (SqL.of hb), _, _, rfl, rfl, hzi, ?_⟩
  obtain ⟨sp, hsp⟩ : ∃ sp : Nat, seed / 3 % ((zs.length : Nat) : Int) = (sp : Int) := ⟨(seed / 3 % ((zs.length : Nat) : Int)).toNat, by omega⟩
  dsimp only
  rw [hsp] at n1 ⊢
  have hspl : sp < rd.length := by omega
  obtain ⟨c, hc⟩ : ∃ c, rd[sp]? = some c := ⟨_, List.getElem?_eq_getElem hspl⟩
  obtain ⟨t0, ht0, hrt0⟩ := hz.get (i := sp) (d := callD c) (by rw [List.getElem?_map, hc]; rfl)
  obtain ⟨tc, rfl, htc, _⟩ := rep_call (P' := Al) hrt0
  refine ⟨_, rfl, _, rfl, b, zs, _, _, rfl, rfl, SqL.of hb, atI_natE ht0 rfl, tc, _, rfl, SqT.of htc, rfl, _, _, rfl, _, _, rfl, _, _, rfl, rfl, ?_⟩
  have nwA : RepL Al H2 (rs2.map rideD) ys := nw.weak fun _ _ => trivial
  have h122 : ∀ r ∈ rs2, r.length ≤ 12 := fun r hr => by have := (h72 r hr).2; omega
  -- a new call, and the ride written
  have fin : ∀ (HB : Hp) (t : Addr) (c' : Stop) (ts' : List V) (r' : List Stop), Same H2 HB → HB t = none → r'.length ≤ 12 → RepL Al (upd (upd HB t (.tup [.int c'.1, .int c'.2.1, .int c'.2.2])) b (.lst ts')) (r'.map callD) ts' →
      Same H (upd (upd HB t (.tup [.int c'.1, .int c'.2.1, .int c'.2.2])) b (.lst ts')) ∧ ∃ rs', Rep Al (upd (upd HB t (.tup [.int c'.1, .int c'.2.1, .int c'.2.2])) b (.lst ts')) (ridesD rs') (.ref M) ∧ rs'.length ≤ 8 ∧ ∀ r ∈ rs', r.length ≤ 12 := fun HB t c' ts' r' gB ht hr12 hrep => by
    have s6 := gB.trans (Same.new ht (.tup [.int c'.1, .int c'.2.1, .int c'.2.2]))
    refine ⟨(g15.trans s6).upd hbN, ?_⟩
    obtain ⟨rs', q1, q2, q3⟩ := rides_write (s6 _ _ hb) hrep (nwA.mono s6) h122 hr12
    by_cases e : M = b
    · exfalso
      subst e
      rw [hMM] at hb
      cases hb
      have e1 : (rs2.map rideD)[0]? = some (rideD rs2[0]) := by rw [List.getElem?_map, List.getElem?_eq_getElem (by omega)]; rfl
      obtain ⟨x0, hx0, hr0⟩ := nwA.get e1
      obtain ⟨a0, _, rfl, _, ha0, _⟩ := hr0.lstE
      obtain ⟨d0, hd0, hrd0⟩ := hz.getV hx0
      rw [List.getElem?_map] at hd0
      obtain ⟨c0, _, rfl⟩ := Option.map_eq_some_iff.mp hd0
      obtain ⟨t0', e0, ht0', _⟩ := rep_call (P' := Al) hrd0
      cases e0
      rw [ha0] at ht0'
      cases ht0'
    · exact ⟨rs', .lstI trivial (by rw [upd_ne e]; exact s6 _ _ hMM) q1, by omega, q3⟩
  have setR : ∀ (HB : Hp) (t : Addr) (c' : Stop), Same H2 HB → HB t = none → RepL Al (upd (upd HB t (.tup [.int c'.1, .int c'.2.1, .int c'.2.2])) b (.lst (zs.set sp (.ref t)))) ((rd.set sp c').map callD) (zs.set sp (.ref t)) := fun HB t c' gB ht => by
    have s6 := gB.trans (Same.new ht (.tup [.int c'.1, .int c'.2.1, .int c'.2.2]))
    have e1 : (rd.set sp c').map callD = (rd.map callD).set sp (callD c') := by rw [List.map_set]
    have tups : ∀ p xs, upd HB t (.tup [.int c'.1, .int c'.2.1, .int c'.2.2]) p = some (.tup xs) → upd (upd HB t (.tup [.int c'.1, .int c'.2.1, .int c'.2.2])) b (.lst (zs.set sp (.ref t))) p = some (.tup xs) := fun p xs z => by rw [upd_ne (ne_of z (s6 _ _ hb) (by simp))]; exact z
    rw [e1]
    refine RepL.set sp ?_ (rep_callI (tups _ _ upd_same))
    exact (rep_calls (P' := fun _ => False) (hz.mono s6)).move (fun _ _ => trivial) (fun _ _ z => z.elim) tups
  refine ⟨fun σ' H' => σ'[4]? = some (some (.ref M)) ∧ Same H H' ∧ ∃ rs', Rep Al H' (ridesD rs') (.ref M) ∧ rs'.length ≤ 8 ∧ ∀ r ∈ rs', r.length ≤ 12, ?_, ?_⟩
  · refine ⟨_, rfl, rfl, _, rfl, ite2 (fun _ => ?_) (fun _ => ?_)⟩
    · refine ⟨_, rfl, _, rfl, _, _, rfl, rfl, _, rfl, _, _, rfl, rfl, (by decide : (0 : Int) < 2), _, _, rfl, rfl, _, rfl, small (by simp), fun t ht => ?_⟩
      refine ⟨_, rfl, _, rfl, b, zs, _, sp, rfl, rfl, Same.new ht _ _ _ hb, ixN_natE (by omega) rfl, ?_⟩
      have := fin H2 t (c.1, c.2.2 + 1 + seed % 2, c.2.2) _ _ (Same.refl _) ht (by simp; omega) (setR H2 t (c.1, c.2.2 + 1 + seed % 2, c.2.2) (Same.refl _) ht)
      exact ⟨rfl, this⟩
    · refine ⟨_, rfl, rfl, _, rfl, ite2 (fun _ => ?_) (fun _ => ?_)⟩
      · refine ⟨_, rfl, .inl ⟨rfl, _, SqL.of hb⟩, _, rfl, _, rfl, _, rfl, _, rfl, _, rfl, _, _, rfl, rfl, (by decide : (0 : Int) < 2), _, _, rfl, rfl, small (by simp), fun t ht => ?_⟩
        have s6 := Same.new ht (.tup [.int c.1, .int c.2.1, .int (c.2.2 + seed % 2)])
        refine ⟨b, zs, _, sp, rfl, rfl, s6 _ _ hb, by omega, by omega, ?_⟩
        have tups : ∀ p xs, upd H2 t (.tup [.int c.1, .int c.2.1, .int (c.2.2 + seed % 2)]) p = some (.tup xs) → upd (upd H2 t (.tup [.int c.1, .int c.2.1, .int (c.2.2 + seed % 2)])) b (.lst (zs.take sp ++ .ref t :: zs.drop sp)) p = some (.tup xs) := fun p xs z => by rw [upd_ne (ne_of z (s6 _ _ hb) (by simp))]; exact z
        have := fin H2 t (c.1, c.2.1, c.2.2 + seed % 2) (zs.take sp ++ .ref t :: zs.drop sp) (rd.take sp ++ (c.1, c.2.1, c.2.2 + seed % 2) :: rd.drop sp) (Same.refl _) ht (by simp; omega) (by
          rw [List.map_append, List.map_cons, List.map_take, List.map_drop]
          have hz' : RepL Al (upd (upd H2 t (.tup [.int c.1, .int c.2.1, .int (c.2.2 + seed % 2)])) b (.lst (zs.take sp ++ .ref t :: zs.drop sp))) (rd.map callD) zs := (rep_calls (P' := fun _ => False) (hz.mono s6)).move (fun _ _ => trivial) (fun _ _ z => z.elim) tups
          exact (hz'.take sp).append (.consI (rep_callI (c := (c.1, c.2.1, c.2.2 + seed % 2)) (tups _ _ upd_same)) (hz'.drop sp)))
        exact ⟨rfl, this⟩
      · refine ⟨_, rfl, _, rfl, _, _, rfl, rfl, ⟨by decide, by decide, by decide⟩, _, rfl, _, rfl, _, _, rfl, rfl, ⟨by decide, by decide, by decide⟩, _, _, rfl, rfl, (by decide : (0 : Int) < 10 ^ (60 : Int).toNat), _, _, rfl, rfl, _, rfl, _, rfl, _, _, rfl, rfl, ⟨by decide, by decide, by decide⟩, _, _, rfl, rfl, (by decide : (0 : Int) < 10 ^ (60 : Int).toNat), _, _, rfl, rfl, small (by simp), fun l hl => ?_⟩
        have s6 := Same.new hl (.lst [.int (-1), .int n, .int (10 ^ (9 : Int).toNat), .int (-2 - seed % 10 ^ (60 : Int).toNat), .int (n + seed % 10 ^ (60 : Int).toNat)])
        have p0 := Int.emod_nonneg seed (show (5 : Int) ≠ 0 by decide)
        have p1 := Int.emod_lt_of_pos seed (show (0 : Int) < 5 by decide)
        obtain ⟨sn, hsn⟩ : ∃ sn : Int, atI ([.int (-1), .int n, .int (10 ^ (9 : Int).toNat), .int (-2 - seed % 10 ^ (60 : Int).toNat), .int (n + seed % 10 ^ (60 : Int).toNat)] : List V) (seed % 5) = some (.int sn) := by
          generalize seed % 5 = z at p0 p1
          rcases (show z = 0 ∨ z = 1 ∨ z = 2 ∨ z = 3 ∨ z = 4 by omega) with rfl | rfl | rfl | rfl | rfl <;> exact ⟨_, rfl⟩
        refine ⟨_, rfl, _, _, rfl, rfl, (by decide : (0 : Int) < 5), l, _, _, _, rfl, rfl, SqL.of upd_same, hsn, ?_⟩
        refine ⟨_, rfl, _, rfl, _, rfl, small (by simp), fun t ht => ?_⟩
        refine ⟨_, rfl, _, rfl, b, zs, _, sp, rfl, rfl, (s6.trans (Same.new ht _)) _ _ hb, ixN_natE (by omega) rfl, ?_⟩
        have := fin _ t (sn, c.2.1, c.2.2) _ _ s6 ht (by simp; omega) (setR _ t (sn, c.2.1, c.2.2) s6 ht)
        exact ⟨rfl, this⟩
  rintro σ' H' ⟨h4, g, rs', r', h8, h12'⟩
  exact ⟨_, h4, q _ H' rs' g r' h8 h12'⟩
end
/-! ### what is refused, tried -/
section
variable {P : Program} {w : World} {K : PySem.W.Frag} {mg : Str → Option Value} {base : Heap} {k : Nat} {cNoRide cNoStop cNoLine cNoWay cRideError : Addr}
theorem bt_VE : bootBuiltins "ValueError" = some (.type "ValueError") := by decide +kernel
def StopsOk (ps : List Int) (wh st go : Int) : Prop := StOk ps.length st ∧ (wh = 0 ∨ StOk ps.length go)
/-- what isinstance says of the three errors -/
structure Kits (K : PySem.W.Frag) (cNoRide cNoStop cNoLine cNoWay : Addr) : Prop where
  ecR : ErrCls K cNoRide
  ecS : ErrCls K cNoStop
  ecW : ErrCls K cNoWay
  rr : PySem.W.kitOne K (.ref cNoRide) (.ref cNoRide) = some true
  rs : PySem.W.kitOne K (.ref cNoRide) (.ref cNoStop) = some false
  rw_ : PySem.W.kitOne K (.ref cNoRide) (.ref cNoWay) = some false
  rl : PySem.W.kitOne K (.ref cNoRide) (.ref cNoLine) = some false
  sr : PySem.W.kitOne K (.ref cNoStop) (.ref cNoRide) = some false
  ss : PySem.W.kitOne K (.ref cNoStop) (.ref cNoStop) = some true
  sw : PySem.W.kitOne K (.ref cNoStop) (.ref cNoWay) = some false
  sl : PySem.W.kitOne K (.ref cNoStop) (.ref cNoLine) = some false
  wr : PySem.W.kitOne K (.ref cNoWay) (.ref cNoRide) = some false
  ws : PySem.W.kitOne K (.ref cNoWay) (.ref cNoStop) = some false
  ww : PySem.W.kitOne K (.ref cNoWay) (.ref cNoWay) = some true
  wl : PySem.W.kitOne K (.ref cNoWay) (.ref cNoLine) = some false
  rv : PySem.W.kitOne K (.ref cNoRide) (.type "ValueError") = some true
  sv : PySem.W.kitOne K (.ref cNoStop) (.type "ValueError") = some true
  wv : PySem.W.kitOne K (.ref cNoWay) (.type "ValueError") = some true
  xr : PySem.W.exmOne K (.ref cNoRide) (.ref cRideError) = some true
  xs : PySem.W.exmOne K (.ref cNoStop) (.ref cRideError) = some true
  xw : PySem.W.exmOne K (.ref cNoWay) (.ref cRideError) = some true
def spTried3 : Sp := fun vs H Q _ => ∃ wh p ps v rs st go, vs = [.int wh, .ref p, v, .int st, .int go] ∧ Asked H p ps v rs ∧ 0 ≤ wh ∧ wh < 7 ∧ ∀ (wd : Str) H', Same H H' → (¬ AllOk ps rs → wd = "no ride") → (AllOk ps rs → ¬ StopsOk ps wh st go → wd = "no stop") →
  (AllOk ps rs → StopsOk ps wh st go → (wd = "done" ∧ ¬ (wh = 5 ∧ st = go)) ∨ (wd = "no way" ∧ (wh = 1 ∨ (wh = 5 ∧ st = go)))) → Q (.str wd) H'
theorem sc_law_tried : FnScope ["_law_which", "_law_pauses", "_law_rides", "_law_start", "_law_goal", "_law_word", "e", "_law_kinds"] ["_law_which", "_law_pauses", "_law_rides", "_law_start", "_law_goal"] (defScope s_law_tried) := ⟨rfl, rfl, rfl, by decide +kernel, rfl, by decide +kernel, by decide +kernel⟩
theorem ok_law_tried (d : DefOk K mg "_law_tried" s_law_tried ["_law_which", "_law_pauses", "_law_rides", "_law_start", "_law_goal"]) (B : Blt mg) (eNoRide : Err K mg "NoRide" cNoRide) (eNoStop : Err K mg "NoStop" cNoStop) (eNoLine : Err K mg "NoLine" cNoLine) (eNoWay : Err K mg "NoWay" cNoWay) (eRideError : Err K mg "RideError" cRideError)
    (kk : Kits (cRideError := cRideError) K cNoRide cNoStop cNoLine cNoWay) (hVE : mg "ValueError" = none)
    (c_rounds : CalX P w K mg base k "rounds" ["pauses", "rides", "start", "time"] (spRoundsX cNoRide cNoStop)) (c_trip_for : CalX P w K mg base k "trip_for" ["pauses", "rides", "start", "goal", "time"] (spTripX cNoRide cNoStop cNoWay)) (c_earliest : CalX P w K mg base k "earliest" ["pauses", "rides", "start", "goal", "time"] (spEarX cNoRide cNoStop))
    (c_latest : CalX P w K mg base k "latest" ["pauses", "rides", "start", "goal", "time"] (spEarX cNoRide cNoStop)) (c_fewest : CalX P w K mg base k "fewest" ["pauses", "rides", "start", "goal", "time", "end"] (spFewX cNoRide cNoStop)) (c_choices : CalX P w K mg base k "choices" ["pauses", "rides", "start", "goal", "first", "last"] (spChoX cNoRide cNoStop cNoWay))
    (c_coming_of : CalX P w K mg base k "coming_of" ["pauses", "rides", "start", "goal", "time", "parts"] (spComX cNoRide cNoStop)) : Cal P w K mg base (k + 1) "_law_tried" ["_law_which", "_law_pauses", "_law_rides", "_law_start", "_law_goal"] spTried3 := by
  refine d.cal sc_law_tried (fun vs H Q E h => ?_) (fun f cdv A outer s H vs Q E hr h => ?_)
  · obtain ⟨wh, p, ps, v, rs, st, go, rfl, _⟩ := h
    rfl
  obtain ⟨wh, p, ps, v, rs, st, go, rfl, hask, hw0, hw7, q⟩ := h
  refine ⟨_, (pss_cons (ps_set (i := 5) sc_law_tried.nd rfl (Or.inl rfl) pe_str)
    (pss_cons (ps_try (E := fun c _ H' => Same H H' ∧ ((c = .ref cNoRide ∧ ¬ AllOk ps rs) ∨ (c = .ref cNoStop ∧ AllOk ps rs ∧ ¬ StopsOk ps wh st go) ∨ (c = .ref cNoWay ∧ AllOk ps rs ∧ StopsOk ps wh st go ∧ (wh = 1 ∨ (wh = 5 ∧ st = go))))) (i := 6) rfl rfl rfl sc_law_tried.nd rfl rfl rfl eRideError.at_ (fun _ => (pss_one (ps_if (pt_cmpR op_eq (pv 0) pe_int (nomark _)) (pss_one (ps_expr (pe_callX c_rounds hr rfl pass_try (pa_cons (pv 1) (pa_cons (pv 2) (pa_cons (pv 3) (pa_cons pe_int pa_nil))))))) (pss_one (ps_if (pt_cmpR op_eq (pv 0) pe_int (nomark _)) (pss_one (ps_expr (pe_callX c_trip_for hr rfl pass_try (pa_cons (pv 1) (pa_cons (pv 2) (pa_cons (pv 3) (pa_cons (pv 4) (pa_cons pe_int pa_nil)))))))) (pss_one (ps_if (pt_cmpR op_eq (pv 0) pe_int (nomark _)) (pss_one (ps_expr (pe_callX c_earliest hr rfl pass_try (pa_cons (pv 1) (pa_cons (pv 2) (pa_cons (pv 3) (pa_cons (pv 4) (pa_cons pe_int pa_nil)))))))) (pss_one (ps_if (pt_cmpR op_eq (pv 0) pe_int (nomark _)) (pss_one (ps_expr (pe_callX c_latest hr rfl pass_try (pa_cons (pv 1) (pa_cons (pv 2) (pa_cons (pv 3) (pa_cons (pv 4) (pa_cons pe_int pa_nil)))))))) (pss_one (ps_if (pt_cmpR op_eq (pv 0) pe_int (nomark _)) (pss_one (ps_expr (pe_callX c_fewest hr rfl pass_try (pa_cons (pv 1) (pa_cons (pv 2) (pa_cons (pv 3) (pa_cons (pv 4) (pa_cons pe_int (pa_cons pe_int pa_nil))))))))) (pss_one (ps_if (pt_cmpR op_eq (pv 0) pe_int (nomark _)) (pss_one (ps_expr (pe_callX c_choices hr rfl pass_try (pa_cons (pv 1) (pa_cons (pv 2) (pa_cons (pv 3) (pa_cons (pv 4) (pa_cons pe_int (pa_cons pe_int pa_nil))))))))) (pss_one (ps_expr (pe_callX c_coming_of hr rfl pass_try (pa_cons (pv 1) (pa_cons (pv 2) (pa_cons (pv 3) (pa_cons (pv 4) (pa_cons pe_int (pa_cons (pe_lst pa_nil) pa_nil)))))))))))))))))))))) (fun _ => (pss_cons (ps_set (i := 5) sc_law_tried.nd rfl (Or.inl rfl) pe_str)
    (pss_cut (ps_if (pt_val (pe_callB (call_isXK (K := K) rfl) rfl B.isinstance bt_isinstance (pa_cons (pv 6) (pa_cons (pe_glob (v := .ref cNoRide) rfl eNoRide.at_ rfl) pa_nil)))) (pss_one (ps_set (i := 5) sc_law_tried.nd rfl (Or.inl rfl) pe_str)) pss_nil)
    (pss_cut (ps_if (pt_val (pe_callB (call_isXK (K := K) rfl) rfl B.isinstance bt_isinstance (pa_cons (pv 6) (pa_cons (pe_glob (v := .ref cNoStop) rfl eNoStop.at_ rfl) pa_nil)))) (pss_one (ps_set (i := 5) sc_law_tried.nd rfl (Or.inl rfl) pe_str)) pss_nil)
    (pss_cut (ps_if (pt_val (pe_callB (call_isXK (K := K) rfl) rfl B.isinstance bt_isinstance (pa_cons (pv 6) (pa_cons (pe_glob (v := .ref cNoWay) rfl eNoWay.at_ rfl) pa_nil)))) (pss_one (ps_set (i := 5) sc_law_tried.nd rfl (Or.inl rfl) pe_str)) pss_nil)
    (pss_cons (ps_set (i := 7) sc_law_tried.nd rfl (Or.inl rfl) (pe_lst (pa_cons (pe_callB (call_isXK (K := K) rfl) rfl B.isinstance bt_isinstance (pa_cons (pv 6) (pa_cons (pe_glob (v := .ref cNoRide) rfl eNoRide.at_ rfl) pa_nil))) (pa_cons (pe_callB (call_isXK (K := K) rfl) rfl B.isinstance bt_isinstance (pa_cons (pv 6) (pa_cons (pe_glob (v := .ref cNoStop) rfl eNoStop.at_ rfl) pa_nil))) (pa_cons (pe_callB (call_isXK (K := K) rfl) rfl B.isinstance bt_isinstance (pa_cons (pv 6) (pa_cons (pe_glob (v := .ref cNoWay) rfl eNoWay.at_ rfl) pa_nil))) pa_nil)))))
    (pss_cons (ps_set (i := 7) sc_law_tried.nd rfl (Or.inl rfl) (pe_op op_cat (pv 7) (pe_lst (pa_cons (pe_callB (call_isXK (K := K) rfl) rfl B.isinstance bt_isinstance (pa_cons (pv 6) (pa_cons (pe_glob (v := .ref cNoLine) rfl eNoLine.at_ rfl) pa_nil))) pa_nil))))
    (pss_one (ps_if (PW.pt (pw_or (pt_cmpR op_ne (pe_bmK (K := K) rfl PySem.F.plainAttrs_list PySem.F.slot_list_count PySem.F.type_list_count mt_count (pv 7) (pa_cons pe_bl pa_nil)) pe_int (nomark _)) (pw_or1 (pt_not (pt_val (pe_callB (call_isXK (K := K) rfl) rfl B.isinstance bt_isinstance (pa_cons (pv 6) (pa_cons (pe_bltn (v := .ty "ValueError") rfl hVE bt_VE rfl) pa_nil)))))))) (pss_one (ps_set (i := 5) sc_law_tried.nd rfl (Or.inl rfl) pe_str)) pss_nil))))))))))
    (pss_one (ps_ret (pv 5))))), ?_⟩
  have qd : ∀ H', Same H H' → AllOk ps rs → StopsOk ps wh st go → ¬ (wh = 5 ∧ st = go) → Q (.str "done") H' := fun H' g ok stp no => q "done" H' g (fun z => absurd ok z) (fun _ z => absurd stp z) fun _ _ => .inl ⟨rfl, no⟩
  refine ⟨?_, ?_⟩
  · -- the body
    refine ⟨_, rfl, rfl, _, rfl, ite2 (fun c => ?_) (fun c => ?_)⟩
    · have e : wh = 0 := by simpa using c
      subst e
      exact ⟨_, rfl, _, rfl, _, rfl, p, ps, v, rs, st, 3, rfl, hask, fun ok stp v' H' g => ⟨_, rfl, qd H' g ok ⟨stp, .inl rfl⟩ (by omega)⟩, fun nok H' g => ⟨g, .inl ⟨rfl, nok⟩⟩, fun ok nst H' g => ⟨g, .inr (.inl ⟨rfl, ok, fun z => nst z.1⟩)⟩⟩
    have e0 : wh ≠ 0 := by simpa using c
    have stp2 : StOk ps.length st ∧ StOk ps.length go → StopsOk ps wh st go := fun z => ⟨z.1, .inr z.2⟩
    have nst2 : ¬ (StOk ps.length st ∧ StOk ps.length go) → ¬ StopsOk ps wh st go := fun n z => n ⟨z.1, z.2.resolve_left e0⟩
    refine ⟨_, rfl, rfl, _, rfl, ite2 (fun c => ?_) (fun c1 => ?_)⟩
    · have e : wh = 1 := by simpa using c
      exact ⟨_, rfl, _, rfl, _, rfl, _, rfl, p, ps, v, rs, st, go, 3, rfl, hask, ⟨fun ok stp v' H' g => ⟨_, rfl, qd H' g ok (stp2 stp) (by omega)⟩, fun nok H' g => ⟨g, .inl ⟨rfl, nok⟩⟩, fun ok nst H' g => ⟨g, .inr (.inl ⟨rfl, ok, nst2 nst⟩)⟩⟩, fun ok stp H' g => ⟨g, .inr (.inr ⟨rfl, ok, stp2 stp, .inl e⟩)⟩⟩
    have e1 : wh ≠ 1 := by simpa using c1
    refine ⟨_, rfl, rfl, _, rfl, ite2 (fun c => ?_) (fun c2 => ?_)⟩
    · have e : wh = 2 := by simpa using c
      exact ⟨_, rfl, _, rfl, _, rfl, _, rfl, p, ps, v, rs, st, go, 3, rfl, hask, fun ok stp v' H' g => ⟨_, rfl, qd H' g ok (stp2 stp) (by omega)⟩, fun nok H' g => ⟨g, .inl ⟨rfl, nok⟩⟩, fun ok nst H' g => ⟨g, .inr (.inl ⟨rfl, ok, nst2 nst⟩)⟩⟩
    have e2 : wh ≠ 2 := by simpa using c2
    refine ⟨_, rfl, rfl, _, rfl, ite2 (fun c => ?_) (fun c3 => ?_)⟩
    · have e : wh = 3 := by simpa using c
      exact ⟨_, rfl, _, rfl, _, rfl, _, rfl, p, ps, v, rs, st, go, 3, rfl, hask, fun ok stp v' H' g => ⟨_, rfl, qd H' g ok (stp2 stp) (by omega)⟩, fun nok H' g => ⟨g, .inl ⟨rfl, nok⟩⟩, fun ok nst H' g => ⟨g, .inr (.inl ⟨rfl, ok, nst2 nst⟩)⟩⟩
    have e3 : wh ≠ 3 := by simpa using c3
    refine ⟨_, rfl, rfl, _, rfl, ite2 (fun c => ?_) (fun c4 => ?_)⟩
    · have e : wh = 4 := by simpa using c
      exact ⟨_, rfl, _, rfl, _, rfl, _, rfl, p, ps, v, rs, st, go, 3, 9, rfl, hask, fun ok stp v' H' g => ⟨_, rfl, qd H' g ok (stp2 stp) (by omega)⟩, fun nok H' g => ⟨g, .inl ⟨rfl, nok⟩⟩, fun ok nst H' g => ⟨g, .inr (.inl ⟨rfl, ok, nst2 nst⟩)⟩⟩
    have e4 : wh ≠ 4 := by simpa using c4
    refine ⟨_, rfl, rfl, _, rfl, ite2 (fun c => ?_) (fun c5 => ?_)⟩
    · have e : wh = 5 := by simpa using c
      exact ⟨_, rfl, _, rfl, _, rfl, _, rfl, p, ps, v, rs, st, go, 0, 4, rfl, hask, by decide, fun ne ok stp v' H' g => ⟨_, rfl, qd H' g ok (stp2 stp) fun z => ne z.2⟩, fun nok H' g => ⟨g, .inl ⟨rfl, nok⟩⟩, fun ok nst H' g => ⟨g, .inr (.inl ⟨rfl, ok, nst2 nst⟩)⟩, fun eq ok stp H' g => ⟨g, .inr (.inr ⟨rfl, ok, stp2 stp, .inr ⟨e, eq⟩⟩)⟩⟩
    have e5 : wh ≠ 5 := by simpa using c5
    refine ⟨_, rfl, _, rfl, _, rfl, _, rfl, small (by simp), fun u hu => ?_⟩
    have su := Same.new hu (.lst [])
    exact ⟨p, ps, v, rs, st, go, 3, u, rfl, upd_same, ⟨su _ _ hask.ps_at, hask.rep.mono su, hask.nn, hask.few, hask.size⟩, fun ok stp v' H' g => ⟨_, rfl, qd H' (su.trans g) ok (stp2 stp) (by omega)⟩, fun nok H' g => ⟨su.trans g, .inl ⟨rfl, nok⟩⟩, fun ok nst H' g => ⟨su.trans g, .inr (.inl ⟨rfl, ok, nst2 nst⟩)⟩⟩
  · -- the handler
    rintro C H' ea ⟨g, hcase⟩ hea
    rcases hcase with ⟨hC, nok⟩ | ⟨hC, ok, nst⟩ | ⟨hC, ok, stp, hwy⟩
    · cases hC
      refine ⟨kk.xr, ?_⟩
      have he : upd H' ea (.ext (IsA ea cNoRide)) ea = some (.ext (IsA ea cNoRide)) := upd_same
      have ge := g.trans (Same.new hea (.ext (IsA ea cNoRide)))
      refine ⟨fun σ' H'' => σ' = [none, none, none, none, none, some (.str "no ride"), some (.ref ea), none] ∧ H'' = upd H' ea (.ext (IsA ea cNoRide)), ⟨_, rfl, ea, cNoRide, .ref cNoRide, .ref cNoRide, true, rfl, he, kk.ecR, rfl, .inl rfl, kk.rr, _, rfl, iteT ⟨rfl, rfl⟩⟩, ?_⟩
      rintro _ _ ⟨rfl, rfl⟩
      refine ⟨fun σ' H'' => σ' = [none, none, none, none, none, some (.str "no ride"), some (.ref ea), none] ∧ H'' = upd H' ea (.ext (IsA ea cNoRide)), ⟨_, rfl, ea, cNoRide, .ref cNoStop, .ref cNoStop, false, rfl, he, kk.ecR, rfl, .inl rfl, kk.rs, _, rfl, iteF ⟨rfl, rfl⟩⟩, ?_⟩
      rintro _ _ ⟨rfl, rfl⟩
      refine ⟨fun σ' H'' => σ' = [none, none, none, none, none, some (.str "no ride"), some (.ref ea), none] ∧ H'' = upd H' ea (.ext (IsA ea cNoRide)), ⟨_, rfl, ea, cNoRide, .ref cNoWay, .ref cNoWay, false, rfl, he, kk.ecR, rfl, .inl rfl, kk.rw_, _, rfl, iteF ⟨rfl, rfl⟩⟩, ?_⟩
      rintro _ _ ⟨rfl, rfl⟩
      refine ⟨_, rfl, ea, cNoRide, .ref cNoRide, .ref cNoRide, true, rfl, he, kk.ecR, rfl, .inl rfl, kk.rr, _, rfl, ea, cNoRide, .ref cNoStop, .ref cNoStop, false, rfl, he, kk.ecR, rfl, .inl rfl, kk.rs, _, rfl, ea, cNoRide, .ref cNoWay, .ref cNoWay, false, rfl, he, kk.ecR, rfl, .inl rfl, kk.rw_, small (by simp), fun k1 hk1 => ?_⟩
      have s1 := Same.new hk1 (.lst [.bl true, .bl false, .bl false])
      refine ⟨_, rfl, _, rfl, ea, cNoRide, .ref cNoLine, .ref cNoLine, false, rfl, (s1 _ _ he), kk.ecR, rfl, .inl rfl, kk.rl, small (by simp), fun k2 hk2 => ?_⟩
      have s2 := Same.new hk2 (.lst [.bl false])
      refine ⟨k1, k2, _, _, rfl, rfl, s2 _ _ upd_same, upd_same, small (by simp), fun k3 hk3 => ?_⟩
      have s3 := Same.new hk3 (.lst ([.bl true, .bl false, .bl false] ++ [.bl false]))
      refine ⟨_, rfl, .inl ⟨rfl, _, SqL.of upd_same⟩, k3, _, _, rfl, rfl, upd_same, rfl, rfl, rfl, _, rfl, iteF ⟨_, rfl, ea, cNoRide, .ty "ValueError", .type "ValueError", true, rfl, s3 _ _ (s2 _ _ (s1 _ _ he)), kk.ecR, rfl, .inr ⟨_, rfl⟩, kk.rv, _, rfl, iteF ⟨_, rfl, ?_⟩⟩⟩
      exact q "no ride" _ (ge.trans (s1.trans (s2.trans s3))) (fun _ => rfl) (fun z => absurd z nok) (fun z => absurd z nok)
    · cases hC
      refine ⟨kk.xs, ?_⟩
      have he : upd H' ea (.ext (IsA ea cNoStop)) ea = some (.ext (IsA ea cNoStop)) := upd_same
      have ge := g.trans (Same.new hea (.ext (IsA ea cNoStop)))
      refine ⟨fun σ' H'' => σ' = [none, none, none, none, none, some (.str "other"), some (.ref ea), none] ∧ H'' = upd H' ea (.ext (IsA ea cNoStop)), ⟨_, rfl, ea, cNoStop, .ref cNoRide, .ref cNoRide, false, rfl, he, kk.ecS, rfl, .inl rfl, kk.sr, _, rfl, iteF ⟨rfl, rfl⟩⟩, ?_⟩
      rintro _ _ ⟨rfl, rfl⟩
      refine ⟨fun σ' H'' => σ' = [none, none, none, none, none, some (.str "no stop"), some (.ref ea), none] ∧ H'' = upd H' ea (.ext (IsA ea cNoStop)), ⟨_, rfl, ea, cNoStop, .ref cNoStop, .ref cNoStop, true, rfl, he, kk.ecS, rfl, .inl rfl, kk.ss, _, rfl, iteT ⟨rfl, rfl⟩⟩, ?_⟩
      rintro _ _ ⟨rfl, rfl⟩
      refine ⟨fun σ' H'' => σ' = [none, none, none, none, none, some (.str "no stop"), some (.ref ea), none] ∧ H'' = upd H' ea (.ext (IsA ea cNoStop)), ⟨_, rfl, ea, cNoStop, .ref cNoWay, .ref cNoWay, false, rfl, he, kk.ecS, rfl, .inl rfl, kk.sw, _, rfl, iteF ⟨rfl, rfl⟩⟩, ?_⟩
      rintro _ _ ⟨rfl, rfl⟩
      refine ⟨_, rfl, ea, cNoStop, .ref cNoRide, .ref cNoRide, false, rfl, he, kk.ecS, rfl, .inl rfl, kk.sr, _, rfl, ea, cNoStop, .ref cNoStop, .ref cNoStop, true, rfl, he, kk.ecS, rfl, .inl rfl, kk.ss, _, rfl, ea, cNoStop, .ref cNoWay, .ref cNoWay, false, rfl, he, kk.ecS, rfl, .inl rfl, kk.sw, small (by simp), fun k1 hk1 => ?_⟩
      have s1 := Same.new hk1 (.lst [.bl false, .bl true, .bl false])
      refine ⟨_, rfl, _, rfl, ea, cNoStop, .ref cNoLine, .ref cNoLine, false, rfl, (s1 _ _ he), kk.ecS, rfl, .inl rfl, kk.sl, small (by simp), fun k2 hk2 => ?_⟩
      have s2 := Same.new hk2 (.lst [.bl false])
      refine ⟨k1, k2, _, _, rfl, rfl, s2 _ _ upd_same, upd_same, small (by simp), fun k3 hk3 => ?_⟩
      have s3 := Same.new hk3 (.lst ([.bl false, .bl true, .bl false] ++ [.bl false]))
      refine ⟨_, rfl, .inl ⟨rfl, _, SqL.of upd_same⟩, k3, _, _, rfl, rfl, upd_same, rfl, rfl, rfl, _, rfl, iteF ⟨_, rfl, ea, cNoStop, .ty "ValueError", .type "ValueError", true, rfl, s3 _ _ (s2 _ _ (s1 _ _ he)), kk.ecS, rfl, .inr ⟨_, rfl⟩, kk.sv, _, rfl, iteF ⟨_, rfl, ?_⟩⟩⟩
      exact q "no stop" _ (ge.trans (s1.trans (s2.trans s3))) (fun z => absurd ok z) (fun _ _ => rfl) (fun _ z => absurd z nst)
    · cases hC
      refine ⟨kk.xw, ?_⟩
      have he : upd H' ea (.ext (IsA ea cNoWay)) ea = some (.ext (IsA ea cNoWay)) := upd_same
      have ge := g.trans (Same.new hea (.ext (IsA ea cNoWay)))
      refine ⟨fun σ' H'' => σ' = [none, none, none, none, none, some (.str "other"), some (.ref ea), none] ∧ H'' = upd H' ea (.ext (IsA ea cNoWay)), ⟨_, rfl, ea, cNoWay, .ref cNoRide, .ref cNoRide, false, rfl, he, kk.ecW, rfl, .inl rfl, kk.wr, _, rfl, iteF ⟨rfl, rfl⟩⟩, ?_⟩
      rintro _ _ ⟨rfl, rfl⟩
      refine ⟨fun σ' H'' => σ' = [none, none, none, none, none, some (.str "other"), some (.ref ea), none] ∧ H'' = upd H' ea (.ext (IsA ea cNoWay)), ⟨_, rfl, ea, cNoWay, .ref cNoStop, .ref cNoStop, false, rfl, he, kk.ecW, rfl, .inl rfl, kk.ws, _, rfl, iteF ⟨rfl, rfl⟩⟩, ?_⟩
      rintro _ _ ⟨rfl, rfl⟩
      refine ⟨fun σ' H'' => σ' = [none, none, none, none, none, some (.str "no way"), some (.ref ea), none] ∧ H'' = upd H' ea (.ext (IsA ea cNoWay)), ⟨_, rfl, ea, cNoWay, .ref cNoWay, .ref cNoWay, true, rfl, he, kk.ecW, rfl, .inl rfl, kk.ww, _, rfl, iteT ⟨rfl, rfl⟩⟩, ?_⟩
      rintro _ _ ⟨rfl, rfl⟩
      refine ⟨_, rfl, ea, cNoWay, .ref cNoRide, .ref cNoRide, false, rfl, he, kk.ecW, rfl, .inl rfl, kk.wr, _, rfl, ea, cNoWay, .ref cNoStop, .ref cNoStop, false, rfl, he, kk.ecW, rfl, .inl rfl, kk.ws, _, rfl, ea, cNoWay, .ref cNoWay, .ref cNoWay, true, rfl, he, kk.ecW, rfl, .inl rfl, kk.ww, small (by simp), fun k1 hk1 => ?_⟩
      have s1 := Same.new hk1 (.lst [.bl false, .bl false, .bl true])
      refine ⟨_, rfl, _, rfl, ea, cNoWay, .ref cNoLine, .ref cNoLine, false, rfl, (s1 _ _ he), kk.ecW, rfl, .inl rfl, kk.wl, small (by simp), fun k2 hk2 => ?_⟩
      have s2 := Same.new hk2 (.lst [.bl false])
      refine ⟨k1, k2, _, _, rfl, rfl, s2 _ _ upd_same, upd_same, small (by simp), fun k3 hk3 => ?_⟩
      have s3 := Same.new hk3 (.lst ([.bl false, .bl false, .bl true] ++ [.bl false]))
      refine ⟨_, rfl, .inl ⟨rfl, _, SqL.of upd_same⟩, k3, _, _, rfl, rfl, upd_same, rfl, rfl, rfl, _, rfl, iteF ⟨_, rfl, ea, cNoWay, .ty "ValueError", .type "ValueError", true, rfl, s3 _ _ (s2 _ _ (s1 _ _ he)), kk.ecW, rfl, .inr ⟨_, rfl⟩, kk.wv, _, rfl, iteF ⟨_, rfl, ?_⟩⟩⟩
      exact q "no way" _ (ge.trans (s1.trans (s2.trans s3))) (fun z => absurd ok z) (fun _ z => absurd stp z) (fun _ _ => .inr ⟨rfl, hwy⟩)
end
/-! ### the law of the refusals -/
section
variable {P : Program} {w : World} {K : PySem.W.Frag} {mg : Str → Option Value} {base : Heap} {k : Nat} {cNoRide cNoStop cNoLine cNoWay cRideError : Addr}
def spLaw (K : PySem.W.Frag) : Sp := fun vs H Q _ => ∃ (a : Addr) (ns : List Int), vs = [.ref a] ∧ SqL K H a (ns.map V.int) ∧ ns.length ≤ 63 ∧ ∀ H', Q (.bl true) H'
theorem cut_seven (ns : List Int) : ∃ cs : List Int, cutV (ns.map V.int) (some 3) (some 10) = cs.map V.int ∧ cs.length ≤ 7 := by
  unfold cutV
  refine ⟨(ns.drop (HT.sIx (ns.map V.int).length 0 (some 3))).take (HT.sIx (ns.map V.int).length (ns.map V.int).length (some 10) - HT.sIx (ns.map V.int).length 0 (some 3)), by rw [List.map_take, List.map_drop], ?_⟩
  rw [List.length_take, List.length_drop]
  have e1 := HT.sIx_nat (ns.map V.int).length 0 3
  have e2 := HT.sIx_nat (ns.map V.int).length (ns.map V.int).length 10
  have e1' : HT.sIx (ns.map V.int).length 0 (some 3) = min 3 (ns.map V.int).length := e1
  have e2' : HT.sIx (ns.map V.int).length (ns.map V.int).length (some 10) = min 10 (ns.map V.int).length := e2
  rw [e1', e2']
  omega
theorem sc_law : FnScope ["_law_script", "_law_count", "_law_pauses", "_law_rides", "_law_seed", "_law_odd", "_law_stops", "_law_start", "_law_goal", "_law_which", "_law_due", "_law_found"] ["_law_script"] (defScope s_law) := ⟨rfl, rfl, rfl, by decide +kernel, rfl, by decide +kernel, by decide +kernel⟩
theorem ok_law (d : DefOk K mg "law" s_law ["_law_script"]) (B : Blt mg) (c_law_at : Cal P w K mg base k "_law_at" ["_law_script", "_law_k"] (spAt K)) (c_law_room : Cal P w K mg base k "_law_room" ["_law_script", "_law_most", "_law_bound"] (spRoom K))
    (c_law_slow : Cal P w K mg base k "_law_slow" ["_law_script", "_law_count"] (spSlow K)) (c_law_drawn : Cal P w K mg base k "_law_drawn" ["_law_cells", "_law_count"] (spDrawn K)) (c_law_spoilt : Cal P w K mg base k "_law_spoilt" ["_law_rides", "_law_way", "_law_seed", "_law_count"] spSpoilt)
    (c_law_good : Cal P w K mg base k "_law_good" ["_law_rides", "_law_count"] spGood) (c_law_copy : Cal P w K mg base k "_law_copy" ["_law_rides"] spCopy) (c_law_tried : Cal P w K mg base k "_law_tried" ["_law_which", "_law_pauses", "_law_rides", "_law_start", "_law_goal"] spTried3) : Cal P w K mg base (k + 1) "law" ["_law_script"] (spLaw K) := by
  refine d.cal sc_law (fun vs H Q E h => ?_) (fun f cdv A outer sh H vs Q E hr h => ?_)
  · obtain ⟨a, ns, rfl, _⟩ := h
    rfl
  obtain ⟨a, ns, rfl, hS, h63, q⟩ := h
  refine ⟨_, (pss_cons (ps_set (i := 1) sc_law.nd rfl (Or.inl rfl) (pe_op op_add pe_int (pe_op op_mod (pe_callC c_law_at hr rfl (pa_cons (pv 0) (pa_cons pe_int pa_nil))) pe_int)))
    (pss_cut (ps_if (pt_cmpR op_gt (pe_op op_mod (pe_callC c_law_at hr rfl (pa_cons (pv 0) (pa_cons pe_int pa_nil))) pe_int) pe_int (nomark _)) (pss_one (ps_set (i := 1) sc_law.nd rfl (Or.inl rfl) (pe_op op_add pe_int (pe_op op_mod (pe_op op_fdiv (pe_callC c_law_at hr rfl (pa_cons (pv 0) (pa_cons pe_int pa_nil))) pe_int) (pe_callC c_law_room hr rfl (pa_cons (pv 0) (pa_cons pe_int (pa_cons pe_int pa_nil)))))))) pss_nil)
    (pss_cons (ps_set (i := 2) sc_law.nd rfl (Or.inl rfl) (pe_callC c_law_slow hr rfl (pa_cons (pv 0) (pa_cons (pv 1) pa_nil))))
    (pss_cons (ps_set (i := 3) sc_law.nd rfl (Or.inl rfl) (pe_callC c_law_drawn hr rfl (pa_cons (pe_slice (sl_listK (K := K) rfl) (pv 0) (po_some pe_int) (po_some pe_int)) (pa_cons (pv 1) pa_nil))))
    (pss_cons (ps_set (i := 4) sc_law.nd rfl (Or.inl rfl) (pe_callC c_law_at hr rfl (pa_cons (pv 0) (pa_cons pe_int pa_nil))))
    (pss_cons (ps_set (i := 3) sc_law.nd rfl (Or.inl rfl) (pe_callC c_law_spoilt hr rfl (pa_cons (pv 3) (pa_cons (pe_op op_mod (pv 4) pe_int) (pa_cons (pe_op op_add (pe_callC c_law_at hr rfl (pa_cons (pv 0) (pa_cons pe_int pa_nil))) (pv 4)) (pa_cons (pv 1) pa_nil))))))
    (pss_cons (ps_set (i := 5) sc_law.nd rfl (Or.inl rfl) (pe_lst (pa_cons (pe_un un_neg pe_int) (pa_cons (pv 1) (pa_cons (pe_op op_pow pe_int pe_int) (pa_cons (pe_op op_sub (pe_un un_neg pe_int) (pe_op op_mod (pv 4) (pe_op op_pow pe_int pe_int))) (pa_cons (pe_op op_add (pv 1) (pe_op op_mod (pv 4) (pe_op op_pow pe_int pe_int))) pa_nil)))))))
    (pss_cons (ps_set (i := 6) sc_law.nd rfl (Or.inl rfl) (pe_lst (pa_cons (pe_op op_mod (pv 4) (pv 1)) (pa_cons (pe_ix (ix_listK (K := K) rfl) (pv 5) (pe_op op_mod (pe_op op_fdiv (pe_callC c_law_at hr rfl (pa_cons (pv 0) (pa_cons pe_int pa_nil))) pe_int) pe_int) (fun _ _ => rfl)) (pa_cons (pe_op op_mod (pe_op op_add (pv 4) pe_int) (pv 1)) pa_nil)))))
    (pss_cons (ps_for PassesOwn.never rfl (pi_listK (K := K) rfl (pe_slice (sl_listK (K := K) rfl) (pv 6) po_none (po_some pe_int))) (pg_name (i := 7) sc_law.nd rfl (Or.inl rfl)) (pss_one (ps_for PassesOwn.never rfl (pi_listK (K := K) rfl (pe_op op_cat (pe_slice (sl_listK (K := K) rfl) (pv 6) (po_some pe_int) po_none) (pe_lst (pa_cons (pv 7) pa_nil)))) (pg_name (i := 8) sc_law.nd rfl (Or.inl rfl)) (pss_one (ps_for PassesOwn.never rfl (pi_range1 rfl B.range (pa_cons pe_int pa_nil)) (pg_name (i := 9) sc_law.nd rfl (Or.inl rfl)) (pss_cons (ps_set (i := 10) sc_law.nd rfl (Or.inl rfl) pe_str)
    (pss_cut (ps_if (PW.pt (pw_or (pt_cmpR (op_inK (K := K) rfl) (pv 7) (pv 5) (by with_unfolding_all rfl)) (pw_or1 (PW.pt (pw_and (pt_cmpR (op_inK (K := K) rfl) (pv 8) (pv 5) (by with_unfolding_all rfl)) (pw_and1 (pt_cmpR op_gt (pv 9) pe_int (nomark _)))))))) (pss_one (ps_set (i := 10) sc_law.nd rfl (Or.inl rfl) pe_str)) (pss_one (ps_if (PW.pt (pw_and (pt_cmpR op_eq (pv 9) pe_int (nomark _)) (pw_and1 (pt_cmpR op_eq (pv 7) (pv 8) (nomark _))))) (pss_one (ps_set (i := 10) sc_law.nd rfl (Or.inl rfl) pe_str)) pss_nil)))
    (pss_cut (ps_if (pt_not (pt_val (pe_callC c_law_good hr rfl (pa_cons (pv 3) (pa_cons (pv 1) pa_nil))))) (pss_one (ps_set (i := 10) sc_law.nd rfl (Or.inl rfl) pe_str)) pss_nil)
    (pss_cons (ps_set (i := 11) sc_law.nd rfl (Or.inl rfl) (pe_callC c_law_tried hr rfl (pa_cons (pv 9) (pa_cons (pe_callTy (call_listK (K := K) rfl) rfl B.lst bt_list (pa_cons (pv 2) pa_nil)) (pa_cons (pe_callC c_law_copy hr rfl (pa_cons (pv 3) pa_nil)) (pa_cons (pv 7) (pa_cons (pv 8) pa_nil)))))))
    (pss_one (ps_if (PW.pt (pw_and (pt_cmpR op_ne (pv 11) (pv 10) (nomark _)) (pw_and1 (PW.pt (pw_or (pt_cmpR op_ne (pv 9) pe_int (nomark _)) (pw_or (pt_cmpR op_ne (pv 10) pe_str (nomark _)) (pw_or1 (pt_cmpR op_ne (pv 11) pe_str (nomark _))))))))) (pss_one (ps_ret pe_bl)) pss_nil)))))))))))
    (pss_one (ps_ret pe_bl))))))))))), ?_⟩
  have hlen : (ns.map V.int).length = ns.length := List.length_map _
  have hl63 : (ns.map V.int).length ≤ 63 := by rw [hlen]; exact h63
  -- the count
  refine ⟨_, rfl, a, ns, 0, rfl, hS, Int.le_refl 0, _, _, rfl, rfl, (by decide : (0 : Int) < 5), _, _, rfl, rfl, ?_⟩
  refine ⟨fun σ' H' => H' = H ∧ ∃ n : Int, 1 ≤ n ∧ n ≤ 11 ∧ σ' = [some (.ref a), some (.int n), none, none, none, none, none, none, none, none, none, none], ?_, ?_⟩
  · refine ⟨_, rfl, a, ns, 0, rfl, hS, Int.le_refl 0, _, _, rfl, rfl, (by decide : (0 : Int) < 35), _, _, rfl, rfl, _, rfl, ite2 (fun _ => ?_) (fun _ => ?_)⟩
    · refine ⟨_, rfl, a, ns, 0, rfl, hS, Int.le_refl 0, _, _, rfl, rfl, ⟨by decide, by decide⟩, _, rfl, a, _, 6, 35, rfl, hS, hl63, _, _, rfl, rfl, (by decide : (0 : Int) < 6), _, _, rfl, rfl, rfl, _, ?_, ?_, rfl⟩
      · have := Int.emod_nonneg (ns.getD (0 : Int).toNat 0 / 35) (show (6 : Int) ≠ 0 by decide)
        omega
      · have := Int.emod_lt_of_pos (ns.getD (0 : Int).toNat 0 / 35) (show (0 : Int) < 6 by decide)
        omega
    · refine ⟨rfl, _, ?_, ?_, rfl⟩
      · have := Int.emod_nonneg (ns.getD (0 : Int).toNat 0) (show (5 : Int) ≠ 0 by decide)
        omega
      · have := Int.emod_lt_of_pos (ns.getD (0 : Int).toNat 0) (show (0 : Int) < 5 by decide)
        omega
  rintro _ _ ⟨rfl, n, hn1, hn2, rfl⟩
  have hn0 : (0 : Int) < n := by omega
  -- pauses, rides
  refine ⟨_, rfl, _, rfl, a, ns, n, rfl, hS, by omega, by omega, fun p H1 ps g1 hp0 hp hlp hnn => ?_⟩
  refine ⟨_, rfl, _, rfl, _, rfl, a, _, rfl, g1.seq hS, fun c hc => ?_⟩
  obtain ⟨cs, hcs, hcl⟩ := cut_seven ns
  have sc := Same.new hc (.lst (cutV (ns.map V.int) (some 3) (some 10)))
  refine ⟨_, rfl, c, cs, n, rfl, SqL.of (by rw [upd_same]; exact congrArg (fun z => some (HO.lst z)) hcs), by omega, hn0, fun v0 H2 rs0 g2 r2 hok0 htot0 => ?_⟩
  have g12 : Same _ H2 := g1.trans (sc.trans g2)
  have hp2 := (sc.trans g2) _ _ hp
  have hrl0 := rides_le hok0
  -- seed, spoilt
  refine ⟨_, rfl, a, ns, 1, rfl, g12.seq hS, by decide, ?_⟩
  generalize ns.getD (1 : Int).toNat 0 = seed
  refine ⟨_, rfl, _, rfl, _, _, rfl, rfl, (by decide : (0 : Int) < 6), _, rfl, a, ns, 2, rfl, g12.seq hS, by decide, _, rfl, _, _, rfl, rfl, _, rfl, v0, rs0, _, _, n, rfl, r2.weak fun _ _ => trivial, fun r hr => ⟨(hok0 r hr).some, by have := le_total hr; omega⟩, by omega, fun v1 H3 rs g3 r3 h8 h12 => ?_⟩
  have g13 := g12.trans g3
  have hp3 := g3 _ _ hp2
  have htot := total_le12 h12
  have hsz : (ridesD rs).size ≤ 4000 := by rw [size_rides]; omega
  -- odd
  refine ⟨_, rfl, _, rfl, _, _, rfl, rfl, ⟨by decide, by decide, by decide⟩, _, rfl, _, rfl, _, _, rfl, rfl, ⟨by decide, by decide, by decide⟩, _, _, rfl, rfl, (by decide : (0 : Int) < 10 ^ (9 : Int).toNat), _, _, rfl, rfl, _, rfl, _, rfl, _, _, rfl, rfl, ⟨by decide, by decide, by decide⟩, _, _, rfl, rfl, (by decide : (0 : Int) < 10 ^ (9 : Int).toNat), _, _, rfl, rfl, small (by simp), fun od hod => ?_⟩
  have mm := Int.emod_nonneg seed (show (10 : Int) ^ (9 : Int).toNat ≠ 0 by decide)
  have big : (11 : Int) < 10 ^ (9 : Int).toNat := by decide
  obtain ⟨o3, ho3⟩ : ∃ o3 : Int, 10 ^ (9 : Int).toNat = o3 := ⟨_, rfl⟩
  obtain ⟨o4, ho4⟩ : ∃ o4 : Int, -2 - seed % 10 ^ (9 : Int).toNat = o4 := ⟨_, rfl⟩
  obtain ⟨o5, ho5⟩ : ∃ o5 : Int, n + seed % 10 ^ (9 : Int).toNat = o5 := ⟨_, rfl⟩
  have hd3 : n ≤ o3 := by omega
  have hd4 : o4 < 0 := by omega
  have hd5 : n ≤ o5 := by omega
  have hodE : upd H3 od (.lst [.int (-1), .int n, .int (10 ^ (9 : Int).toNat), .int (-2 - seed % 10 ^ (9 : Int).toNat), .int (n + seed % 10 ^ (9 : Int).toNat)]) od = some (.lst [.int (-1), .int n, .int o3, .int o4, .int o5]) := by rw [upd_same, ho4, ho5, ho3]
  have s4 := Same.new hod (.lst [.int (-1), .int n, .int (10 ^ (9 : Int).toNat), .int (-2 - seed % 10 ^ (9 : Int).toNat), .int (n + seed % 10 ^ (9 : Int).toNat)])
  dsimp only
  generalize upd H3 od (.lst [.int (-1), .int n, .int (10 ^ (9 : Int).toNat), .int (-2 - seed % 10 ^ (9 : Int).toNat), .int (n + seed % 10 ^ (9 : Int).toNat)]) = H4 at hodE s4
  have g14 := g13.trans s4
  -- stops
  have p0 := Int.emod_nonneg (ns.getD (0 : Int).toNat 0 / 4) (show (5 : Int) ≠ 0 by decide)
  have p1 := Int.emod_lt_of_pos (ns.getD (0 : Int).toNat 0 / 4) (show (0 : Int) < 5 by decide)
  have inI : ∀ z : Int, inV (.int z) [.int (-1), .int n, .int o3, .int o4, .int o5] = true ↔ (z = -1 ∨ z = n ∨ z = o3 ∨ z = o4 ∨ z = o5) := fun z => by
    simp only [inV, List.any_cons, List.any_nil, eqV, Bool.or_eq_true, beq_iff_eq, Bool.or_false]
    constructor <;> (intro h; omega)
  obtain ⟨y, hy, hyi⟩ : ∃ y : Int, atI ([.int (-1), .int n, .int o3, .int o4, .int o5] : List V) (ns.getD (0 : Int).toNat 0 / 4 % 5) = some (.int y) ∧ (y = -1 ∨ y = n ∨ y = o3 ∨ y = o4 ∨ y = o5) := by
    generalize ns.getD (0 : Int).toNat 0 / 4 % 5 = z at p0 p1
    rcases (show z = 0 ∨ z = 1 ∨ z = 2 ∨ z = 3 ∨ z = 4 by omega) with rfl | rfl | rfl | rfl | rfl
    · exact ⟨_, rfl, .inl rfl⟩
    · exact ⟨_, rfl, .inr (.inl rfl)⟩
    · exact ⟨_, rfl, .inr (.inr (.inl rfl))⟩
    · exact ⟨_, rfl, .inr (.inr (.inr (.inl rfl)))⟩
    · exact ⟨_, rfl, .inr (.inr (.inr (.inr rfl)))⟩
  refine ⟨_, rfl, _, rfl, _, _, rfl, rfl, hn0, _, rfl, _, rfl, a, ns, 0, rfl, g14.seq hS, Int.le_refl 0, _, _, rfl, rfl, ⟨by decide, by decide⟩, _, _, rfl, rfl, (by decide : (0 : Int) < 5), od, _, _, _, rfl, rfl, SqL.of hodE, hy, _, rfl, _, _, rfl, rfl, _, rfl, _, _, rfl, rfl, hn0, small (by simp), fun sp hsp => ?_⟩
  have x0 := Int.emod_nonneg seed (Int.ne_of_gt hn0)
  have x1 := Int.emod_lt_of_pos seed hn0
  have w0 := Int.emod_nonneg (seed + 1) (Int.ne_of_gt hn0)
  have w1 := Int.emod_lt_of_pos (seed + 1) hn0
  obtain ⟨x, hx⟩ : ∃ x, seed % n = x := ⟨_, rfl⟩
  obtain ⟨wv, hwv⟩ : ∃ wv, (seed + 1) % n = wv := ⟨_, rfl⟩
  dsimp only
  rw [hx] at x0 x1
  rw [hwv] at w0 w1
  rw [hx, hwv]
  have s5 := Same.new hsp (.lst [.int x, .int y, .int wv])
  have hsp5 : upd H4 sp (.lst [.int x, .int y, .int wv]) sp = some (.lst [.int x, .int y, .int wv]) := upd_same
  generalize upd H4 sp (.lst [.int x, .int y, .int wv]) = H5 at s5 hsp5
  -- which stops are there
  have cls : ∀ z : Int, (z = x ∨ z = y ∨ z = wv) → (StOk ps.length z ∧ inV (.int z) [.int (-1), .int n, .int o3, .int o4, .int o5] = false) ∨ (¬ StOk ps.length z ∧ inV (.int z) [.int (-1), .int n, .int o3, .int o4, .int o5] = true) := fun z hz => by
    unfold StOk
    rw [hlp]
    by_cases hv : 0 ≤ z ∧ z < n
    · refine .inl ⟨hv, Bool.eq_false_iff.mpr fun e => ?_⟩
      rcases (inI z).mp e with e | e | e | e | e <;> omega
    · refine .inr ⟨hv, (inI z).mpr ?_⟩
      rcases hz with rfl | rfl | rfl
      · exact absurd ⟨x0, x1⟩ hv
      · exact hyi
      · exact absurd ⟨w0, w1⟩ hv
  refine ⟨_, rfl, _, rfl, sp, _, rfl, SqL.of hsp5, fun s2 hs2 => ?_⟩
  have ec2 : cutV ([.int x, .int y, .int wv] : List V) none (some 2) = [.int x, .int y] := cutV_take [.int x, .int y, .int wv] 2 (by simp)
  rw [ec2]
  have s6 := Same.new hs2 (.lst [.int x, .int y])
  refine ⟨s2, rfl, ⟨_, SqL.of upd_same⟩, ?_⟩
  refine for_list (xs := [.int x, .int y]) (fun i σ H' => Same H5 H' ∧ H' s2 = some (.lst [.int x, .int y]) ∧ ∃ o7 o8 o9 o10 o11, σ = [some (.ref a), some (.int n), some (.ref p), some v1, some (.int seed), some (.ref od), some (.ref sp), o7, o8, o9, o10, o11]) ⟨s6, upd_same, _, _, _, _, _, rfl⟩ ?_ ?_ ?_
  · rintro i σ H' _ ⟨_, h, _⟩
    exact SqL.of h
  · rintro i xv σ H6 hxi ⟨g6, hs26, o7, o8, o9, o10, o11, rfl⟩
    obtain ⟨st, rfl, hst⟩ : ∃ st : Int, xv = .int st ∧ (st = x ∨ st = y) := by
      rcases i with _ | _ | i
      · cases hxi; exact ⟨_, rfl, .inl rfl⟩
      · cases hxi; exact ⟨_, rfl, .inr rfl⟩
      · simp at hxi
    have hst3 : st = x ∨ st = y ∨ st = wv := by rcases hst with h | h; exact .inl h; exact .inr (.inl h)
    -- goals
    refine ⟨_, rfl, _, rfl, sp, _, rfl, SqL.of (g6 _ _ hsp5), fun s3 hs3 => ?_⟩
    have ec3 : cutV ([.int x, .int y, .int wv] : List V) (some 1) none = [.int y, .int wv] := cutV_drop [.int x, .int y, .int wv] 1 (by simp)
    rw [ec3]
    have t3 := Same.new hs3 (.lst [.int y, .int wv])
    refine ⟨_, rfl, small (by simp), fun s4' hs4 => ?_⟩
    have t4 := Same.new hs4 (.lst [.int st])
    refine ⟨s3, s4', _, _, rfl, rfl, t4 _ _ upd_same, upd_same, small (by simp), fun s5' hs5 => ?_⟩
    have t5 := Same.new hs5 (.lst [.int y, .int wv, .int st])
    refine ⟨s5', rfl, ⟨_, SqL.of upd_same⟩, ?_⟩
    refine for_list (xs := [.int y, .int wv, .int st]) (fun i σ H' => Same H6 H' ∧ H' s5' = some (.lst [.int y, .int wv, .int st]) ∧ ∃ o8 o9 o10 o11, σ = [some (.ref a), some (.int n), some (.ref p), some v1, some (.int seed), some (.ref od), some (.ref sp), some (.int st), o8, o9, o10, o11]) ⟨t3.trans (t4.trans t5), upd_same, _, _, _, _, rfl⟩ ?_ ?_ ?_
    · rintro i σ H' _ ⟨_, h, _⟩
      exact SqL.of h
    · rintro i' xv σ H7 hxi' ⟨g7, hs57, o8', o9', o10', o11', rfl⟩
      obtain ⟨go, rfl, hgo3⟩ : ∃ go : Int, xv = .int go ∧ (go = x ∨ go = y ∨ go = wv) := by
        rcases i' with _ | _ | _ | i'
        · cases hxi'; exact ⟨_, rfl, .inr (.inl rfl)⟩
        · cases hxi'; exact ⟨_, rfl, .inr (.inr rfl)⟩
        · cases hxi'; exact ⟨_, rfl, hst3⟩
        · simp at hxi'
      refine ⟨7, rfl, by decide, by decide, ?_⟩
      refine for_range (lo := 0) (n := (7 : Int).toNat) (fun j σ H' => Same H7 H' ∧ ∃ o9 o10 o11, σ = [some (.ref a), some (.int n), some (.ref p), some v1, some (.int seed), some (.ref od), some (.ref sp), some (.int st), some (.int go), o9, o10, o11]) ⟨Same.refl _, _, _, _, rfl⟩ ?_ ?_
      · rintro j σ H8 hj ⟨g8, o9, o10, o11, rfl⟩
        have hj7 : j < 7 := hj
        have g58 := g6.trans (g7.trans g8)
        have g38 := s4.trans (s5.trans g58)
        obtain ⟨wh, hwh⟩ : ∃ wh : Int, 0 + (j : Int) = wh := ⟨_, rfl⟩
        have hw07 : 0 ≤ wh ∧ wh < 7 := by omega
        rw [hwh]
        have hod8 := (s5.trans g58) _ _ hodE
        -- due
        refine ⟨fun σ' H' => H' = H8 ∧ ∃ dd, σ' = [some (.ref a), some (.int n), some (.ref p), some v1, some (.int seed), some (.ref od), some (.ref sp), some (.int st), some (.int go), some (.int wh), some (.str dd), o11] ∧ (¬ StopsOk ps wh st go → dd = "no stop") ∧ (StopsOk ps wh st go → (wh = 5 ∧ st = go) → dd = "no way") ∧ (StopsOk ps wh st go → ¬ (wh = 5 ∧ st = go) → dd = "done"), ?_, ?_⟩
        · have noS : ¬ StopsOk ps wh st go → ∃ dd, ([some (.ref a), some (.int n), some (.ref p), some v1, some (.int seed), some (.ref od), some (.ref sp), some (.int st), some (.int go), some (.int wh), some (.str "no stop"), o11] : St) = [some (.ref a), some (.int n), some (.ref p), some v1, some (.int seed), some (.ref od), some (.ref sp), some (.int st), some (.int go), some (.int wh), some (.str dd), o11] ∧ (¬ StopsOk ps wh st go → dd = "no stop") ∧ (StopsOk ps wh st go → (wh = 5 ∧ st = go) → dd = "no way") ∧ (StopsOk ps wh st go → ¬ (wh = 5 ∧ st = go) → dd = "done") := fun ns => ⟨_, rfl, fun _ => rfl, fun z => absurd z ns, fun z => absurd z ns⟩
          have yesS : StopsOk ps wh st go → ¬ (wh = 5 ∧ st = go) → ∃ dd, ([some (.ref a), some (.int n), some (.ref p), some v1, some (.int seed), some (.ref od), some (.ref sp), some (.int st), some (.int go), some (.int wh), some (.str "done"), o11] : St) = [some (.ref a), some (.int n), some (.ref p), some v1, some (.int seed), some (.ref od), some (.ref sp), some (.int st), some (.int go), some (.int wh), some (.str dd), o11] ∧ (¬ StopsOk ps wh st go → dd = "no stop") ∧ (StopsOk ps wh st go → (wh = 5 ∧ st = go) → dd = "no way") ∧ (StopsOk ps wh st go → ¬ (wh = 5 ∧ st = go) → dd = "done") := fun ss ne => ⟨_, rfl, fun z => absurd ss z, fun _ z => absurd z ne, fun _ _ => rfl⟩
          have wayS : StopsOk ps wh st go → (wh = 5 ∧ st = go) → ∃ dd, ([some (.ref a), some (.int n), some (.ref p), some v1, some (.int seed), some (.ref od), some (.ref sp), some (.int st), some (.int go), some (.int wh), some (.str "no way"), o11] : St) = [some (.ref a), some (.int n), some (.ref p), some v1, some (.int seed), some (.ref od), some (.ref sp), some (.int st), some (.int go), some (.int wh), some (.str dd), o11] ∧ (¬ StopsOk ps wh st go → dd = "no stop") ∧ (StopsOk ps wh st go → (wh = 5 ∧ st = go) → dd = "no way") ∧ (StopsOk ps wh st go → ¬ (wh = 5 ∧ st = go) → dd = "done") := fun ss ne => ⟨_, rfl, fun z => absurd ss z, fun _ _ => rfl, fun _ z => absurd ne z⟩
          have tail : StopsOk ps wh st go → ∀ Pq : Prop, Pq → Pq := fun _ _ z => z
          refine ⟨_, rfl, _, rfl, od, _, rfl, .inl (SqL.of hod8), rfl, rfl, _, rfl, ?_⟩
          rcases cls st hst3 with ⟨hsk, hsi⟩ | ⟨hsn, hsi⟩
          · refine ite2 (fun z => absurd (hsi.symm.trans z) Bool.false_ne_true) (fun _ => ?_)
            refine ⟨_, rfl, _, rfl, od, _, rfl, .inl (SqL.of hod8), rfl, rfl, _, rfl, ?_⟩
            rcases cls go hgo3 with ⟨hgk, hgi⟩ | ⟨hgn, hgi⟩
            · have ss : StopsOk ps wh st go := ⟨hsk, .inr hgk⟩
              refine ite2 (fun z => absurd (hgi.symm.trans z) Bool.false_ne_true) (fun _ => iteF ?_)
              refine ⟨_, rfl, rfl, _, rfl, ite2 (fun c5 => ?_) (fun c5 => iteF ⟨rfl, yesS ss fun z => ?_⟩)⟩
              · have e5 : wh = 5 := by simpa using c5
                refine ⟨_, rfl, _, rfl, rfl, _, rfl, ite2 (fun ce => ⟨rfl, wayS ss ⟨e5, by simpa using ce⟩⟩) (fun ce => ⟨rfl, yesS ss fun z => ?_⟩)⟩
                have : st ≠ go := by simpa using ce
                exact this z.2
              · have : wh ≠ 5 := by simpa using c5
                exact this z.1
            · refine ite2 (fun _ => ?_) (fun z => absurd hgi z)
              refine ⟨_, rfl, _, _, rfl, rfl, _, rfl, ite2 (fun c1 => ⟨rfl, noS fun z => ?_⟩) (fun c1 => ?_)⟩
              · have := of_decide_eq_true c1
                rcases z.2 with z | z
                · omega
                · exact hgn z
              · have e0 : wh = 0 := by
                  have := of_dec c1
                  omega
                have ss : StopsOk ps wh st go := ⟨hsk, .inl e0⟩
                refine ⟨_, rfl, rfl, _, rfl, ite2 (fun c5 => ?_) (fun c5 => iteF ⟨rfl, yesS ss fun z => by omega⟩)⟩
                have e5 : wh = 5 := by simpa using c5
                omega
          · refine ite2 (fun _ => iteT ⟨rfl, noS fun z => hsn z.1⟩) (fun z => absurd hsi z)
        rintro _ H8 ⟨rfl, dd, rfl, d1, d2, d3⟩
        -- good
        have r8 := r3.mono g38
        refine ⟨fun σ' H' => Same H8 H' ∧ ∃ dd, σ' = [some (.ref a), some (.int n), some (.ref p), some v1, some (.int seed), some (.ref od), some (.ref sp), some (.int st), some (.int go), some (.int wh), some (.str dd), o11] ∧ (¬ AllOk ps rs → dd = "no ride") ∧ (AllOk ps rs → ¬ StopsOk ps wh st go → dd = "no stop") ∧ (AllOk ps rs → StopsOk ps wh st go → (wh = 5 ∧ st = go) → dd = "no way") ∧ (AllOk ps rs → StopsOk ps wh st go → ¬ (wh = 5 ∧ st = go) → dd = "done"), ?_, ?_⟩
        · refine ⟨_, rfl, _, rfl, v1, rs, ps.length, by rw [hlp]; rfl, r8, fun H9 g9 => ⟨fun ok => ⟨_, rfl, iteF ⟨g9, dd, rfl, fun z => absurd ok z, fun _ => d1, fun _ => d2, fun _ => d3⟩⟩, fun nok => ⟨_, rfl, iteT ⟨g9, _, rfl, fun _ => rfl, fun z => absurd z nok, fun z => absurd z nok, fun z => absurd z nok⟩⟩⟩⟩
        rintro _ H9 ⟨g9, dd, rfl, d0, d1, d2, d3⟩
        have g39 := g38.trans g9
        have hp9 := g39 _ _ hp3
        -- found
        refine ⟨_, rfl, _, rfl, p, _, rfl, .inl (SqL.of hp9), fun l1 hl1 => ?_⟩
        have u1 := Same.new hl1 (.lst (ps.map V.int))
        refine ⟨_, rfl, v1, rs, rfl, (r3.mono g39).mono u1, by omega, fun v2 H10 g10 r10 => ?_⟩
        refine ⟨_, rfl, _, rfl, wh, l1, ps, v2, rs, st, go, rfl, ⟨g10 _ _ upd_same, r10.weak fun _ _ => trivial, hnn, by omega, hsz⟩, hw07.1, hw07.2, fun wd H11 g11 h1 h2 h3 => ?_⟩
        have gAll : Same H8 H11 := g9.trans (u1.trans (g10.trans g11))
        have fin : Same H7 H11 := g8.trans gAll
        have same : wd = dd ∨ (wd = "no way" ∧ dd = "done" ∧ wh = 1) := by
          by_cases ok : AllOk ps rs
          · by_cases ss : StopsOk ps wh st go
            · rcases h3 ok ss with ⟨e, ne⟩ | ⟨e, hw⟩
              · exact .inl (e.trans (d3 ok ss ne).symm)
              · rcases hw with hw | hw
                · exact .inr ⟨e, d3 ok ss (by omega), hw⟩
                · exact .inl (e.trans (d2 ok ss hw).symm)
            · exact .inl ((h2 ok ss).trans (d1 ok ss).symm)
          · exact .inl ((h1 ok).trans (d0 ok).symm)
        rcases same with rfl | ⟨rfl, rfl, rfl⟩
        · refine ⟨_, rfl, _, rfl, rfl, _, rfl, ite2 (fun z => ?_) (fun _ => iteF ⟨fin, _, _, _, rfl⟩)⟩
          have z' : (!decide (V.str wd = V.str wd)) = true := z
          simp at z'
        · refine ⟨_, rfl, _, rfl, rfl, _, rfl, ite2 (fun _ => ?_) (fun z => absurd rfl z)⟩
          refine ⟨_, rfl, rfl, _, rfl, iteF ⟨_, rfl, rfl, _, rfl, iteF ⟨_, rfl, rfl, _, rfl, iteF ⟨fin, _, _, _, rfl⟩⟩⟩⟩
      · rintro σ H8 ⟨g8, o9, o10, o11, rfl⟩
        exact ⟨g7.trans g8, g8 _ _ hs57, _, _, _, _, rfl⟩
    · rintro σ H7 ⟨g7, hs57, o8', o9', o10', o11', rfl⟩
      exact ⟨g6.trans g7, g7 _ _ hs26, _, _, _, _, _, rfl⟩
  · rintro σ H6 _
    exact q H6
theorem allCal (B : Blt mg) (D_is_stop : DefOk K mg "is_stop" s_is_stop ["pauses", "stop"]) (D_keeps_time : DefOk K mg "keeps_time" s_keeps_time ["ride"]) (D_check_ride : DefOk K mg "check_ride" s_check_ride ["pauses", "ride"]) (D_check_rides : DefOk K mg "check_rides" s_check_rides ["pauses", "rides"]) (D_check_stop : DefOk K mg "check_stop" s_check_stop ["pauses", "stop"]) (D_check_ask : DefOk K mg "check_ask" s_check_ask ["pauses", "rides", "start", "goal"]) (D_turned_ride : DefOk K mg "turned_ride" s_turned_ride ["ride"]) (D_turned : DefOk K mg "turned" s_turned ["rides"]) (D_ready_time : DefOk K mg "ready_time" s_ready_time ["pauses", "start", "stop", "come"]) (D_ready_times : DefOk K mg "ready_times" s_ready_times ["pauses", "start", "comings"]) (D_first_on : DefOk K mg "first_on" s_first_on ["ride", "ready"]) (D_next_round : DefOk K mg "next_round" s_next_round ["pauses", "rides", "start", "ahead"]) (D_all_rounds : DefOk K mg "all_rounds" s_all_rounds ["pauses", "rides", "start", "time"]) (D_parts_needed : DefOk K mg "parts_needed" s_parts_needed ["told", "goal", "end"]) (D_rounds : DefOk K mg "rounds" s_rounds ["pauses", "rides", "start", "time"]) (D_first_coming : DefOk K mg "first_coming" s_first_coming ["pauses", "rides", "start", "goal", "time"]) (D_last_start : DefOk K mg "last_start" s_last_start ["pauses", "backward", "start", "goal", "time"]) (D_earliest : DefOk K mg "earliest" s_earliest ["pauses", "rides", "start", "goal", "time"]) (D_latest : DefOk K mg "latest" s_latest ["pauses", "rides", "start", "goal", "time"]) (D_fewest : DefOk K mg "fewest" s_fewest ["pauses", "rides", "start", "goal", "time", "end"]) (D_choices : DefOk K mg "choices" s_choices ["pauses", "rides", "start", "goal", "first", "last"]) (D_part_into : DefOk K mg "part_into" s_part_into ["rides", "ready", "stop", "come"]) (D_trip_back : DefOk K mg "trip_back" s_trip_back ["pauses", "rides", "start", "goal", "told"]) (D_trip_for : DefOk K mg "trip_for" s_trip_for ["pauses", "rides", "start", "goal", "time"]) (D_is_part : DefOk K mg "is_part" s_is_part ["rides", "ride", "on", "off"]) (D_can_leave : DefOk K mg "can_leave" s_can_leave ["call", "stop", "ready"]) (D_coming_of : DefOk K mg "coming_of" s_coming_of ["pauses", "rides", "start", "goal", "time", "parts"]) (D_law_room : DefOk K mg "_law_room" s_law_room ["_law_script", "_law_most", "_law_bound"]) (D_law_at : DefOk K mg "_law_at" s_law_at ["_law_script", "_law_k"]) (D_law_drawn : DefOk K mg "_law_drawn" s_law_drawn ["_law_cells", "_law_count"]) (D_law_slow : DefOk K mg "_law_slow" s_law_slow ["_law_script", "_law_count"]) (D_law_copy : DefOk K mg "_law_copy" s_law_copy ["_law_rides"]) (D_law_tried : DefOk K mg "_law_tried" s_law_tried ["_law_which", "_law_pauses", "_law_rides", "_law_start", "_law_goal"]) (D_law_spoilt : DefOk K mg "_law_spoilt" s_law_spoilt ["_law_rides", "_law_way", "_law_seed", "_law_count"]) (D_law_good : DefOk K mg "_law_good" s_law_good ["_law_rides", "_law_count"]) (D_law : DefOk K mg "law" s_law ["_law_script"]) (E_NoRide : Err K mg "NoRide" cNoRide) (E_NoStop : Err K mg "NoStop" cNoStop) (E_NoLine : Err K mg "NoLine" cNoLine) (E_NoWay : Err K mg "NoWay" cNoWay) (E_RideError : Err K mg "RideError" cRideError)
    (x1 : PySem.W.exmOne K (.ref cNoRide) (.ref cRideError) = some true) (x2 : PySem.W.exmOne K (.ref cNoStop) (.ref cRideError) = some true) (x3 : PySem.W.exmOne K (.ref cNoWay) (.ref cRideError) = some true)
    (ec1 : ErrCls K cNoRide) (ec2 : ErrCls K cNoStop) (ec3 : ErrCls K cNoWay)
    (k1 : PySem.W.kitOne K (.ref cNoRide) (.ref cNoRide) = some true) (k2 : PySem.W.kitOne K (.ref cNoRide) (.ref cNoStop) = some false) (k3 : PySem.W.kitOne K (.ref cNoRide) (.ref cNoWay) = some false) (k4 : PySem.W.kitOne K (.ref cNoRide) (.ref cNoLine) = some false)
    (k5 : PySem.W.kitOne K (.ref cNoStop) (.ref cNoRide) = some false) (k6 : PySem.W.kitOne K (.ref cNoStop) (.ref cNoStop) = some true) (k7 : PySem.W.kitOne K (.ref cNoStop) (.ref cNoWay) = some false) (k8 : PySem.W.kitOne K (.ref cNoStop) (.ref cNoLine) = some false)
    (k9 : PySem.W.kitOne K (.ref cNoWay) (.ref cNoRide) = some false) (k10 : PySem.W.kitOne K (.ref cNoWay) (.ref cNoStop) = some false) (k11 : PySem.W.kitOne K (.ref cNoWay) (.ref cNoWay) = some true) (k12 : PySem.W.kitOne K (.ref cNoWay) (.ref cNoLine) = some false)
    (k13 : PySem.W.kitOne K (.ref cNoRide) (.type "ValueError") = some true) (k14 : PySem.W.kitOne K (.ref cNoStop) (.type "ValueError") = some true) (k15 : PySem.W.kitOne K (.ref cNoWay) (.type "ValueError") = some true) (hVE : mg "ValueError" = none) : Cal P w K mg base 10 "law" ["_law_script"] (spLaw K) := by
  have kk : Kits (cRideError := cRideError) K cNoRide cNoStop cNoLine cNoWay := ⟨ec1, ec2, ec3, k1, k2, k3, k4, k5, k6, k7, k8, k9, k10, k11, k12, k13, k14, k15, x1, x2, x3⟩
  have c1 := ok_is_stop (P := P) (w := w) (base := base) (k := 0) D_is_stop B
  have c2 := ok_keeps_time (P := P) (w := w) (base := base) (k := 0) D_keeps_time B
  have c3 := ok_check_rideX (P := P) (w := w) (base := base) (k := 1) D_check_ride B E_NoRide c2 c1
  have c4 := ok_check_ridesX (P := P) (w := w) (base := base) (k := 2) D_check_rides B c3
  have c5 := ok_check_stopX (P := P) (w := w) (base := base) (k := 1) D_check_stop B E_NoStop c1
  have ca := ok_check_askX (P := P) (w := w) (base := base) (k := 3) D_check_ask B c4 (c5.mono (by decide))
  have r1 := ok_ready_time (P := P) (w := w) (base := base) (k := 0) D_ready_time B
  have r2 := ok_ready_times (P := P) (w := w) (base := base) (k := 1) D_ready_times B r1
  have r3 := ok_first_on (P := P) (w := w) (base := base) (k := 1) D_first_on B
  have r4 := ok_next_round (P := P) (w := w) (base := base) (k := 2) D_next_round B r2 r3
  have r5 := ok_all_rounds (P := P) (w := w) (base := base) (k := 3) D_all_rounds B r4
  have r6 := ok_parts_needed (P := P) (w := w) (base := base) (k := 0) D_parts_needed B
  have t1 := ok_part_into (P := P) (w := w) (base := base) (k := 2) D_part_into B r3
  have t2 := ok_trip_back (P := P) (w := w) (base := base) (k := 3) D_trip_back B (r2.mono (by decide)) t1
  have f3 := ok_first_coming (P := P) (w := w) (base := base) (k := 4) D_first_coming B r5
  have u1 := ok_turned_ride (P := P) (w := w) (base := base) (k := 0) D_turned_ride B
  have u2 := ok_turned (P := P) (w := w) (base := base) (k := 1) D_turned B u1
  have f5 := ok_last_start (P := P) (w := w) (base := base) (k := 5) D_last_start B f3
  have a0 := ok_roundsX (P := P) (w := w) (base := base) (k := 6) D_rounds B (c4.mono (by decide)) (c5.mono (by decide)) (r5.mono (by decide))
  have a1 := ok_trip_forX (P := P) (w := w) (base := base) (k := 6) D_trip_for B E_NoWay (ca.mono (by decide)) (r5.mono (by decide)) (r6.mono (by decide)) (t2.mono (by decide))
  have a2 := ok_earliestX (P := P) (w := w) (base := base) (k := 6) D_earliest B (ca.mono (by decide)) (f3.mono (by decide))
  have a3 := ok_latestX (P := P) (w := w) (base := base) (k := 6) D_latest B (ca.mono (by decide)) (u2.mono (by decide)) f5
  have a4 := ok_fewestX (P := P) (w := w) (base := base) (k := 6) D_fewest B (ca.mono (by decide)) (r5.mono (by decide)) (r6.mono (by decide))
  have a5 := ok_choicesX (P := P) (w := w) (base := base) (k := 6) D_choices B E_NoWay (ca.mono (by decide)) (u2.mono (by decide)) (f3.mono (by decide)) f5
  have a6 := ok_coming_ofX (P := P) (w := w) (base := base) (k := 6) D_coming_of B (ca.mono (by decide)) ((ok_is_partN (k := 0) D_is_part).mono (by decide)) ((ok_can_leaveN (k := 0) D_can_leave).mono (by decide))
  have tr := ok_law_tried (P := P) (w := w) (base := base) (k := 7) D_law_tried B E_NoRide E_NoStop E_NoLine E_NoWay E_RideError kk hVE a0 a1 a2 a3 a4 a5 a6
  have h3 := ok_law_at (P := P) (w := w) (base := base) (k := 0) D_law_at B
  have h4 := ok_law_slow (P := P) (w := w) (base := base) (k := 1) D_law_slow B h3
  have h5 := ok_law_copy (P := P) (w := w) (base := base) (k := 0) D_law_copy B
  have h6 := ok_law_spoilt (P := P) (w := w) (base := base) (k := 1) D_law_spoilt B h5
  exact ok_law (k := 9) D_law B (h3.mono (by decide)) ((ok_law_room (k := 0) D_law_room B).mono (by decide)) (h4.mono (by decide)) ((ok_law_drawn (k := 0) D_law_drawn B).mono (by decide)) (h6.mono (by decide)) ((ok_law_good (k := 0) D_law_good B).mono (by decide)) (h5.mono (by decide)) (tr.mono (by decide))
end
theorem len1 {fd : FuncData} {ps : List Str} : ∀ (us : List Value), us.length = 1 → (∀ a0, bindArgs fd { pos := [a0] } = pure (ps.zip [a0])) → bindArgs fd { pos := us } = pure (ps.zip us)
  | [a0], _, h => h a0
theorem len2 {fd : FuncData} {ps : List Str} : ∀ (us : List Value), us.length = 2 → (∀ a0 a1, bindArgs fd { pos := [a0, a1] } = pure (ps.zip [a0, a1])) → bindArgs fd { pos := us } = pure (ps.zip us)
  | [a0, a1], _, h => h a0 a1
theorem len3 {fd : FuncData} {ps : List Str} : ∀ (us : List Value), us.length = 3 → (∀ a0 a1 a2, bindArgs fd { pos := [a0, a1, a2] } = pure (ps.zip [a0, a1, a2])) → bindArgs fd { pos := us } = pure (ps.zip us)
  | [a0, a1, a2], _, h => h a0 a1 a2
theorem len4 {fd : FuncData} {ps : List Str} : ∀ (us : List Value), us.length = 4 → (∀ a0 a1 a2 a3, bindArgs fd { pos := [a0, a1, a2, a3] } = pure (ps.zip [a0, a1, a2, a3])) → bindArgs fd { pos := us } = pure (ps.zip us)
  | [a0, a1, a2, a3], _, h => h a0 a1 a2 a3
theorem len5 {fd : FuncData} {ps : List Str} : ∀ (us : List Value), us.length = 5 → (∀ a0 a1 a2 a3 a4, bindArgs fd { pos := [a0, a1, a2, a3, a4] } = pure (ps.zip [a0, a1, a2, a3, a4])) → bindArgs fd { pos := us } = pure (ps.zip us)
  | [a0, a1, a2, a3, a4], _, h => h a0 a1 a2 a3 a4
theorem len6 {fd : FuncData} {ps : List Str} : ∀ (us : List Value), us.length = 6 → (∀ a0 a1 a2 a3 a4 a5, bindArgs fd { pos := [a0, a1, a2, a3, a4, a5] } = pure (ps.zip [a0, a1, a2, a3, a4, a5])) → bindArgs fd { pos := us } = pure (ps.zip us)
  | [a0, a1, a2, a3, a4, a5], _, h => h a0 a1 a2 a3 a4 a5

/-! ### the program's top -/
theorem all_mk {l : PySem.W.OpenLaw} {w : World} {K : PySem.W.Frag} {h : Heap} {mg : Str → Option Value} {fa f0 f1 f2 f3 f4 f5 f6 f7 f8 f9 f10 f11 f12 f13 f14 f15 f16 f17 f18 f19 f20 f21 f22 f23 f24 f25 f26 f27 f28 f29 f30 f31 f32 f33 f34 f35 : Addr} {od0 an0 od1 an1 od2 an2 od3 an3 od4 an4 od5 an5 od6 an6 od7 an7 od8 an8 od9 an9 od10 an10 od11 an11 od12 an12 od13 an13 od14 an14 od15 an15 od16 an16 od17 an17 od18 an18 od19 an19 od20 an20 od21 an21 od22 an22 od23 an23 od24 an24 od25 an25 od26 an26 od27 an27 od28 an28 od29 an29 od30 an30 od31 an31 od32 an32 od33 an33 od34 an34 od35 an35 : Option Addr} {sl0 sl1 sl2 sl3 sl4 sl5 sl6 sl7 sl8 sl9 sl10 sl11 sl12 sl13 sl14 sl15 sl16 sl17 sl18 sl19 sl20 sl21 sl22 sl23 sl24 sl25 sl26 sl27 sl28 sl29 sl30 sl31 sl32 sl33 sl34 sl35 : Array (Option Value)} {oc0 kV0 dc0 pm0 cd0 ct0 oc1 kV1 dc1 pm1 cd1 ct1 oc2 kV2 dc2 pm2 cd2 ct2 oc3 kV3 dc3 pm3 cd3 ct3 oc4 kV4 dc4 pm4 cd4 ct4 oc5 kV5 dc5 pm5 cd5 ct5 oc6 kV6 dc6 pm6 cd6 ct6 oc7 kV7 dc7 pm7 cd7 ct7 oc8 kV8 dc8 pm8 cd8 ct8 oc9 kV9 dc9 pm9 cd9 ct9 oc10 kV10 dc10 pm10 cd10 ct10 oc11 kV11 dc11 pm11 cd11 ct11 oc12 kV12 dc12 pm12 cd12 ct12 oc13 kV13 dc13 pm13 cd13 ct13 oc14 kV14 dc14 pm14 cd14 ct14 oc15 kV15 dc15 pm15 cd15 ct15 oc16 kV16 dc16 pm16 cd16 ct16 oc17 kV17 dc17 pm17 cd17 ct17 oc18 kV18 dc18 pm18 cd18 ct18 oc19 kV19 dc19 pm19 cd19 ct19 oc20 kV20 dc20 pm20 cd20 ct20 oc21 kV21 dc21 pm21 cd21 ct21 oc22 kV22 dc22 pm22 cd22 ct22 oc23 kV23 dc23 pm23 cd23 ct23 oc24 kV24 dc24 pm24 cd24 ct24 oc25 kV25 dc25 pm25 cd25 ct25 oc26 kV26 dc26 pm26 cd26 ct26 oc27 kV27 dc27 pm27 cd27 ct27 oc28 kV28 dc28 pm28 cd28 ct28 oc29 kV29 dc29 pm29 cd29 ct29 oc30 kV30 dc30 pm30 cd30 ct30 oc31 kV31 dc31 pm31 cd31 ct31 oc32 kV32 dc32 pm32 cd32 ct32 oc33 kV33 dc33 pm33 cd33 ct33 oc34 kV34 dc34 pm34 cd34 ct34 oc35 kV35 dc35 pm35 cd35 ct35 : Value} {q0 q1 q2 q3 q4 : Addr} (X : K.In h) (G : h.Ns mainGlobals mg) (hfa : mg "law" = some (.ref fa))
    (a0 : PySem.W.nsIn K mainGlobals "is_stop" = some (some (.ref f0))) (l0 : K.lookup f0 = some ⟨oc0, od0, .func (PySem.W.fnOf "is_stop" "is_stop" (defArgs s_is_stop) (defBody s_is_stop) (defScope s_is_stop) .none kV0 dc0 pm0 an0 cd0 ct0), sl0⟩) (c0 : PySem.W.codeIn K cd0 "is_stop" = true) (k0 : PySem.W.keepIn K (.ref f0) = true)
    (a1 : PySem.W.nsIn K mainGlobals "keeps_time" = some (some (.ref f1))) (l1 : K.lookup f1 = some ⟨oc1, od1, .func (PySem.W.fnOf "keeps_time" "keeps_time" (defArgs s_keeps_time) (defBody s_keeps_time) (defScope s_keeps_time) .none kV1 dc1 pm1 an1 cd1 ct1), sl1⟩) (c1 : PySem.W.codeIn K cd1 "keeps_time" = true) (k1 : PySem.W.keepIn K (.ref f1) = true)
    (a2 : PySem.W.nsIn K mainGlobals "check_ride" = some (some (.ref f2))) (l2 : K.lookup f2 = some ⟨oc2, od2, .func (PySem.W.fnOf "check_ride" "check_ride" (defArgs s_check_ride) (defBody s_check_ride) (defScope s_check_ride) .none kV2 dc2 pm2 an2 cd2 ct2), sl2⟩) (c2 : PySem.W.codeIn K cd2 "check_ride" = true) (k2 : PySem.W.keepIn K (.ref f2) = true)
    (a3 : PySem.W.nsIn K mainGlobals "check_rides" = some (some (.ref f3))) (l3 : K.lookup f3 = some ⟨oc3, od3, .func (PySem.W.fnOf "check_rides" "check_rides" (defArgs s_check_rides) (defBody s_check_rides) (defScope s_check_rides) .none kV3 dc3 pm3 an3 cd3 ct3), sl3⟩) (c3 : PySem.W.codeIn K cd3 "check_rides" = true) (k3 : PySem.W.keepIn K (.ref f3) = true)
    (a4 : PySem.W.nsIn K mainGlobals "check_stop" = some (some (.ref f4))) (l4 : K.lookup f4 = some ⟨oc4, od4, .func (PySem.W.fnOf "check_stop" "check_stop" (defArgs s_check_stop) (defBody s_check_stop) (defScope s_check_stop) .none kV4 dc4 pm4 an4 cd4 ct4), sl4⟩) (c4 : PySem.W.codeIn K cd4 "check_stop" = true) (k4 : PySem.W.keepIn K (.ref f4) = true)
    (a5 : PySem.W.nsIn K mainGlobals "check_ask" = some (some (.ref f5))) (l5 : K.lookup f5 = some ⟨oc5, od5, .func (PySem.W.fnOf "check_ask" "check_ask" (defArgs s_check_ask) (defBody s_check_ask) (defScope s_check_ask) .none kV5 dc5 pm5 an5 cd5 ct5), sl5⟩) (c5 : PySem.W.codeIn K cd5 "check_ask" = true) (k5 : PySem.W.keepIn K (.ref f5) = true)
    (a6 : PySem.W.nsIn K mainGlobals "turned_ride" = some (some (.ref f6))) (l6 : K.lookup f6 = some ⟨oc6, od6, .func (PySem.W.fnOf "turned_ride" "turned_ride" (defArgs s_turned_ride) (defBody s_turned_ride) (defScope s_turned_ride) .none kV6 dc6 pm6 an6 cd6 ct6), sl6⟩) (c6 : PySem.W.codeIn K cd6 "turned_ride" = true) (k6 : PySem.W.keepIn K (.ref f6) = true)
    (a7 : PySem.W.nsIn K mainGlobals "turned" = some (some (.ref f7))) (l7 : K.lookup f7 = some ⟨oc7, od7, .func (PySem.W.fnOf "turned" "turned" (defArgs s_turned) (defBody s_turned) (defScope s_turned) .none kV7 dc7 pm7 an7 cd7 ct7), sl7⟩) (c7 : PySem.W.codeIn K cd7 "turned" = true) (k7 : PySem.W.keepIn K (.ref f7) = true)
    (a8 : PySem.W.nsIn K mainGlobals "ready_time" = some (some (.ref f8))) (l8 : K.lookup f8 = some ⟨oc8, od8, .func (PySem.W.fnOf "ready_time" "ready_time" (defArgs s_ready_time) (defBody s_ready_time) (defScope s_ready_time) .none kV8 dc8 pm8 an8 cd8 ct8), sl8⟩) (c8 : PySem.W.codeIn K cd8 "ready_time" = true) (k8 : PySem.W.keepIn K (.ref f8) = true)
    (a9 : PySem.W.nsIn K mainGlobals "ready_times" = some (some (.ref f9))) (l9 : K.lookup f9 = some ⟨oc9, od9, .func (PySem.W.fnOf "ready_times" "ready_times" (defArgs s_ready_times) (defBody s_ready_times) (defScope s_ready_times) .none kV9 dc9 pm9 an9 cd9 ct9), sl9⟩) (c9 : PySem.W.codeIn K cd9 "ready_times" = true) (k9 : PySem.W.keepIn K (.ref f9) = true)
    (a10 : PySem.W.nsIn K mainGlobals "first_on" = some (some (.ref f10))) (l10 : K.lookup f10 = some ⟨oc10, od10, .func (PySem.W.fnOf "first_on" "first_on" (defArgs s_first_on) (defBody s_first_on) (defScope s_first_on) .none kV10 dc10 pm10 an10 cd10 ct10), sl10⟩) (c10 : PySem.W.codeIn K cd10 "first_on" = true) (k10 : PySem.W.keepIn K (.ref f10) = true)
    (a11 : PySem.W.nsIn K mainGlobals "next_round" = some (some (.ref f11))) (l11 : K.lookup f11 = some ⟨oc11, od11, .func (PySem.W.fnOf "next_round" "next_round" (defArgs s_next_round) (defBody s_next_round) (defScope s_next_round) .none kV11 dc11 pm11 an11 cd11 ct11), sl11⟩) (c11 : PySem.W.codeIn K cd11 "next_round" = true) (k11 : PySem.W.keepIn K (.ref f11) = true)
    (a12 : PySem.W.nsIn K mainGlobals "all_rounds" = some (some (.ref f12))) (l12 : K.lookup f12 = some ⟨oc12, od12, .func (PySem.W.fnOf "all_rounds" "all_rounds" (defArgs s_all_rounds) (defBody s_all_rounds) (defScope s_all_rounds) .none kV12 dc12 pm12 an12 cd12 ct12), sl12⟩) (c12 : PySem.W.codeIn K cd12 "all_rounds" = true) (k12 : PySem.W.keepIn K (.ref f12) = true)
    (a13 : PySem.W.nsIn K mainGlobals "parts_needed" = some (some (.ref f13))) (l13 : K.lookup f13 = some ⟨oc13, od13, .func (PySem.W.fnOf "parts_needed" "parts_needed" (defArgs s_parts_needed) (defBody s_parts_needed) (defScope s_parts_needed) .none kV13 dc13 pm13 an13 cd13 ct13), sl13⟩) (c13 : PySem.W.codeIn K cd13 "parts_needed" = true) (k13 : PySem.W.keepIn K (.ref f13) = true)
    (a14 : PySem.W.nsIn K mainGlobals "rounds" = some (some (.ref f14))) (l14 : K.lookup f14 = some ⟨oc14, od14, .func (PySem.W.fnOf "rounds" "rounds" (defArgs s_rounds) (defBody s_rounds) (defScope s_rounds) .none kV14 dc14 pm14 an14 cd14 ct14), sl14⟩) (c14 : PySem.W.codeIn K cd14 "rounds" = true) (k14 : PySem.W.keepIn K (.ref f14) = true)
    (a15 : PySem.W.nsIn K mainGlobals "first_coming" = some (some (.ref f15))) (l15 : K.lookup f15 = some ⟨oc15, od15, .func (PySem.W.fnOf "first_coming" "first_coming" (defArgs s_first_coming) (defBody s_first_coming) (defScope s_first_coming) .none kV15 dc15 pm15 an15 cd15 ct15), sl15⟩) (c15 : PySem.W.codeIn K cd15 "first_coming" = true) (k15 : PySem.W.keepIn K (.ref f15) = true)
    (a16 : PySem.W.nsIn K mainGlobals "last_start" = some (some (.ref f16))) (l16 : K.lookup f16 = some ⟨oc16, od16, .func (PySem.W.fnOf "last_start" "last_start" (defArgs s_last_start) (defBody s_last_start) (defScope s_last_start) .none kV16 dc16 pm16 an16 cd16 ct16), sl16⟩) (c16 : PySem.W.codeIn K cd16 "last_start" = true) (k16 : PySem.W.keepIn K (.ref f16) = true)
    (a17 : PySem.W.nsIn K mainGlobals "earliest" = some (some (.ref f17))) (l17 : K.lookup f17 = some ⟨oc17, od17, .func (PySem.W.fnOf "earliest" "earliest" (defArgs s_earliest) (defBody s_earliest) (defScope s_earliest) .none kV17 dc17 pm17 an17 cd17 ct17), sl17⟩) (c17 : PySem.W.codeIn K cd17 "earliest" = true) (k17 : PySem.W.keepIn K (.ref f17) = true)
    (a18 : PySem.W.nsIn K mainGlobals "latest" = some (some (.ref f18))) (l18 : K.lookup f18 = some ⟨oc18, od18, .func (PySem.W.fnOf "latest" "latest" (defArgs s_latest) (defBody s_latest) (defScope s_latest) .none kV18 dc18 pm18 an18 cd18 ct18), sl18⟩) (c18 : PySem.W.codeIn K cd18 "latest" = true) (k18 : PySem.W.keepIn K (.ref f18) = true)
    (a19 : PySem.W.nsIn K mainGlobals "fewest" = some (some (.ref f19))) (l19 : K.lookup f19 = some ⟨oc19, od19, .func (PySem.W.fnOf "fewest" "fewest" (defArgs s_fewest) (defBody s_fewest) (defScope s_fewest) .none kV19 dc19 pm19 an19 cd19 ct19), sl19⟩) (c19 : PySem.W.codeIn K cd19 "fewest" = true) (k19 : PySem.W.keepIn K (.ref f19) = true)
    (a20 : PySem.W.nsIn K mainGlobals "choices" = some (some (.ref f20))) (l20 : K.lookup f20 = some ⟨oc20, od20, .func (PySem.W.fnOf "choices" "choices" (defArgs s_choices) (defBody s_choices) (defScope s_choices) .none kV20 dc20 pm20 an20 cd20 ct20), sl20⟩) (c20 : PySem.W.codeIn K cd20 "choices" = true) (k20 : PySem.W.keepIn K (.ref f20) = true)
    (a21 : PySem.W.nsIn K mainGlobals "part_into" = some (some (.ref f21))) (l21 : K.lookup f21 = some ⟨oc21, od21, .func (PySem.W.fnOf "part_into" "part_into" (defArgs s_part_into) (defBody s_part_into) (defScope s_part_into) .none kV21 dc21 pm21 an21 cd21 ct21), sl21⟩) (c21 : PySem.W.codeIn K cd21 "part_into" = true) (k21 : PySem.W.keepIn K (.ref f21) = true)
    (a22 : PySem.W.nsIn K mainGlobals "trip_back" = some (some (.ref f22))) (l22 : K.lookup f22 = some ⟨oc22, od22, .func (PySem.W.fnOf "trip_back" "trip_back" (defArgs s_trip_back) (defBody s_trip_back) (defScope s_trip_back) .none kV22 dc22 pm22 an22 cd22 ct22), sl22⟩) (c22 : PySem.W.codeIn K cd22 "trip_back" = true) (k22 : PySem.W.keepIn K (.ref f22) = true)
    (a23 : PySem.W.nsIn K mainGlobals "trip_for" = some (some (.ref f23))) (l23 : K.lookup f23 = some ⟨oc23, od23, .func (PySem.W.fnOf "trip_for" "trip_for" (defArgs s_trip_for) (defBody s_trip_for) (defScope s_trip_for) .none kV23 dc23 pm23 an23 cd23 ct23), sl23⟩) (c23 : PySem.W.codeIn K cd23 "trip_for" = true) (k23 : PySem.W.keepIn K (.ref f23) = true)
    (a24 : PySem.W.nsIn K mainGlobals "is_part" = some (some (.ref f24))) (l24 : K.lookup f24 = some ⟨oc24, od24, .func (PySem.W.fnOf "is_part" "is_part" (defArgs s_is_part) (defBody s_is_part) (defScope s_is_part) .none kV24 dc24 pm24 an24 cd24 ct24), sl24⟩) (c24 : PySem.W.codeIn K cd24 "is_part" = true) (k24 : PySem.W.keepIn K (.ref f24) = true)
    (a25 : PySem.W.nsIn K mainGlobals "can_leave" = some (some (.ref f25))) (l25 : K.lookup f25 = some ⟨oc25, od25, .func (PySem.W.fnOf "can_leave" "can_leave" (defArgs s_can_leave) (defBody s_can_leave) (defScope s_can_leave) .none kV25 dc25 pm25 an25 cd25 ct25), sl25⟩) (c25 : PySem.W.codeIn K cd25 "can_leave" = true) (k25 : PySem.W.keepIn K (.ref f25) = true)
    (a26 : PySem.W.nsIn K mainGlobals "coming_of" = some (some (.ref f26))) (l26 : K.lookup f26 = some ⟨oc26, od26, .func (PySem.W.fnOf "coming_of" "coming_of" (defArgs s_coming_of) (defBody s_coming_of) (defScope s_coming_of) .none kV26 dc26 pm26 an26 cd26 ct26), sl26⟩) (c26 : PySem.W.codeIn K cd26 "coming_of" = true) (k26 : PySem.W.keepIn K (.ref f26) = true)
    (a27 : PySem.W.nsIn K mainGlobals "_law_room" = some (some (.ref f27))) (l27 : K.lookup f27 = some ⟨oc27, od27, .func (PySem.W.fnOf "_law_room" "_law_room" (defArgs s_law_room) (defBody s_law_room) (defScope s_law_room) .none kV27 dc27 pm27 an27 cd27 ct27), sl27⟩) (c27 : PySem.W.codeIn K cd27 "_law_room" = true) (k27 : PySem.W.keepIn K (.ref f27) = true)
    (a28 : PySem.W.nsIn K mainGlobals "_law_at" = some (some (.ref f28))) (l28 : K.lookup f28 = some ⟨oc28, od28, .func (PySem.W.fnOf "_law_at" "_law_at" (defArgs s_law_at) (defBody s_law_at) (defScope s_law_at) .none kV28 dc28 pm28 an28 cd28 ct28), sl28⟩) (c28 : PySem.W.codeIn K cd28 "_law_at" = true) (k28 : PySem.W.keepIn K (.ref f28) = true)
    (a29 : PySem.W.nsIn K mainGlobals "_law_drawn" = some (some (.ref f29))) (l29 : K.lookup f29 = some ⟨oc29, od29, .func (PySem.W.fnOf "_law_drawn" "_law_drawn" (defArgs s_law_drawn) (defBody s_law_drawn) (defScope s_law_drawn) .none kV29 dc29 pm29 an29 cd29 ct29), sl29⟩) (c29 : PySem.W.codeIn K cd29 "_law_drawn" = true) (k29 : PySem.W.keepIn K (.ref f29) = true)
    (a30 : PySem.W.nsIn K mainGlobals "_law_slow" = some (some (.ref f30))) (l30 : K.lookup f30 = some ⟨oc30, od30, .func (PySem.W.fnOf "_law_slow" "_law_slow" (defArgs s_law_slow) (defBody s_law_slow) (defScope s_law_slow) .none kV30 dc30 pm30 an30 cd30 ct30), sl30⟩) (c30 : PySem.W.codeIn K cd30 "_law_slow" = true) (k30 : PySem.W.keepIn K (.ref f30) = true)
    (a31 : PySem.W.nsIn K mainGlobals "_law_copy" = some (some (.ref f31))) (l31 : K.lookup f31 = some ⟨oc31, od31, .func (PySem.W.fnOf "_law_copy" "_law_copy" (defArgs s_law_copy) (defBody s_law_copy) (defScope s_law_copy) .none kV31 dc31 pm31 an31 cd31 ct31), sl31⟩) (c31 : PySem.W.codeIn K cd31 "_law_copy" = true) (k31 : PySem.W.keepIn K (.ref f31) = true)
    (a32 : PySem.W.nsIn K mainGlobals "_law_tried" = some (some (.ref f32))) (l32 : K.lookup f32 = some ⟨oc32, od32, .func (PySem.W.fnOf "_law_tried" "_law_tried" (defArgs s_law_tried) (defBody s_law_tried) (defScope s_law_tried) .none kV32 dc32 pm32 an32 cd32 ct32), sl32⟩) (c32 : PySem.W.codeIn K cd32 "_law_tried" = true) (k32 : PySem.W.keepIn K (.ref f32) = true)
    (a33 : PySem.W.nsIn K mainGlobals "_law_spoilt" = some (some (.ref f33))) (l33 : K.lookup f33 = some ⟨oc33, od33, .func (PySem.W.fnOf "_law_spoilt" "_law_spoilt" (defArgs s_law_spoilt) (defBody s_law_spoilt) (defScope s_law_spoilt) .none kV33 dc33 pm33 an33 cd33 ct33), sl33⟩) (c33 : PySem.W.codeIn K cd33 "_law_spoilt" = true) (k33 : PySem.W.keepIn K (.ref f33) = true)
    (a34 : PySem.W.nsIn K mainGlobals "_law_good" = some (some (.ref f34))) (l34 : K.lookup f34 = some ⟨oc34, od34, .func (PySem.W.fnOf "_law_good" "_law_good" (defArgs s_law_good) (defBody s_law_good) (defScope s_law_good) .none kV34 dc34 pm34 an34 cd34 ct34), sl34⟩) (c34 : PySem.W.codeIn K cd34 "_law_good" = true) (k34 : PySem.W.keepIn K (.ref f34) = true)
    (a35 : PySem.W.nsIn K mainGlobals "law" = some (some (.ref f35))) (l35 : K.lookup f35 = some ⟨oc35, od35, .func (PySem.W.fnOf "law" "law" (defArgs s_law) (defBody s_law) (defScope s_law) .none kV35 dc35 pm35 an35 cd35 ct35), sl35⟩) (c35 : PySem.W.codeIn K cd35 "law" = true) (k35 : PySem.W.keepIn K (.ref f35) = true)
    (z0 : PySem.W.nsIn K mainGlobals "len" = some none) (z1 : PySem.W.nsIn K mainGlobals "range" = some none) (z2 : PySem.W.nsIn K mainGlobals "int" = some none) (z3 : PySem.W.nsIn K mainGlobals "list" = some none) (z4 : PySem.W.nsIn K mainGlobals "tuple" = some none) (z5 : PySem.W.nsIn K mainGlobals "bool" = some none) (z6 : PySem.W.nsIn K mainGlobals "str" = some none) (z7 : PySem.W.nsIn K mainGlobals "isinstance" = some none) (z8 : PySem.W.nsIn K mainGlobals "reversed" = some none) (z9 : PySem.W.nsIn K mainGlobals "enumerate" = some none) (z10 : PySem.W.nsIn K mainGlobals "all" = some none) (z11 : PySem.W.nsIn K mainGlobals "min" = some none)
    (y0 : PySem.W.nsIn K mainGlobals "NoRide" = some (some (.ref q0))) (x0 : PySem.W.excIn K q0 [.type "ValueError", .type "Exception", .type "BaseException", .type "object"] "ValueError.__new__" = true) (y1 : PySem.W.nsIn K mainGlobals "NoStop" = some (some (.ref q1))) (x1 : PySem.W.excIn K q1 [.type "ValueError", .type "Exception", .type "BaseException", .type "object"] "ValueError.__new__" = true) (y2 : PySem.W.nsIn K mainGlobals "NoLine" = some (some (.ref q2))) (x2 : PySem.W.excIn K q2 [.type "ValueError", .type "Exception", .type "BaseException", .type "object"] "ValueError.__new__" = true) (y3 : PySem.W.nsIn K mainGlobals "NoWay" = some (some (.ref q3))) (x3 : PySem.W.excIn K q3 [.type "ValueError", .type "Exception", .type "BaseException", .type "object"] "ValueError.__new__" = true) (y4 : PySem.W.nsIn K mainGlobals "RideError" = some (some (.ref q4))) (x4 : PySem.W.excIn K q4 [.type "ValueError", .type "Exception", .type "BaseException", .type "object"] "ValueError.__new__" = true) (w0 : PySem.W.exmOne K (.ref q0) (.ref q4) = some true) (w1 : PySem.W.exmOne K (.ref q1) (.ref q4) = some true) (w2 : PySem.W.exmOne K (.ref q3) (.ref q4) = some true)
    (ec0 : ErrCls K q0) (ec1 : ErrCls K q1) (ec2 : ErrCls K q3)
    (kt0 : PySem.W.kitOne K (.ref q0) (.ref q0) = some true) (kt1 : PySem.W.kitOne K (.ref q0) (.ref q1) = some false) (kt2 : PySem.W.kitOne K (.ref q0) (.ref q3) = some false) (kt3 : PySem.W.kitOne K (.ref q0) (.ref q2) = some false) (kt4 : PySem.W.kitOne K (.ref q1) (.ref q0) = some false) (kt5 : PySem.W.kitOne K (.ref q1) (.ref q1) = some true) (kt6 : PySem.W.kitOne K (.ref q1) (.ref q3) = some false) (kt7 : PySem.W.kitOne K (.ref q1) (.ref q2) = some false) (kt8 : PySem.W.kitOne K (.ref q3) (.ref q0) = some false) (kt9 : PySem.W.kitOne K (.ref q3) (.ref q1) = some false) (kt10 : PySem.W.kitOne K (.ref q3) (.ref q3) = some true) (kt11 : PySem.W.kitOne K (.ref q3) (.ref q2) = some false) (kt12 : PySem.W.kitOne K (.ref q0) (.type "ValueError") = some true) (kt13 : PySem.W.kitOne K (.ref q1) (.type "ValueError") = some true) (kt14 : PySem.W.kitOne K (.ref q3) (.type "ValueError") = some true)
    (zx0 : PySem.W.nsIn K mainGlobals "ValueError" = some none) :
    ∃ fd : FuncData, (∀ (s : Shared) (v : Value), BindsTo s fd ⟨[v], []⟩ [("_law_script", v)]) ∧ ∀ base : Heap, K.In base → base.Ns mainGlobals mg → FnOk l.prog w K mg base CX0 40 fa fd ["_law_script"] (spLaw K) := by
  have e0 : fa = f35 := by
    have e := hfa.symm.trans (PySem.W.mg_of X G a35)
    cases e
    rfl
  have ENoRide : Err K mg "NoRide" q0 := ⟨PySem.W.mg_of X G y0, x0⟩
  have ENoStop : Err K mg "NoStop" q1 := ⟨PySem.W.mg_of X G y1, x1⟩
  have ENoLine : Err K mg "NoLine" q2 := ⟨PySem.W.mg_of X G y2, x2⟩
  have ENoWay : Err K mg "NoWay" q3 := ⟨PySem.W.mg_of X G y3, x3⟩
  have ERideError : Err K mg "RideError" q4 := ⟨PySem.W.mg_of X G y4, x4⟩
  have D_is_stop : DefOk K mg "is_stop" s_is_stop ["pauses", "stop"] := ⟨f0, _, fun_mk (st := s_is_stop) l0 c0 k0, (fun_mk (st := s_is_stop) l0 c0 k0).binds (ps := ["pauses", "stop"]) fun _ _ _ _ _ _ us hl => len2 us hl fun _ _ => rfl, PySem.W.mg_of X G a0⟩
  have D_keeps_time : DefOk K mg "keeps_time" s_keeps_time ["ride"] := ⟨f1, _, fun_mk (st := s_keeps_time) l1 c1 k1, (fun_mk (st := s_keeps_time) l1 c1 k1).binds (ps := ["ride"]) fun _ _ _ _ _ _ us hl => len1 us hl fun _ => rfl, PySem.W.mg_of X G a1⟩
  have D_check_ride : DefOk K mg "check_ride" s_check_ride ["pauses", "ride"] := ⟨f2, _, fun_mk (st := s_check_ride) l2 c2 k2, (fun_mk (st := s_check_ride) l2 c2 k2).binds (ps := ["pauses", "ride"]) fun _ _ _ _ _ _ us hl => len2 us hl fun _ _ => rfl, PySem.W.mg_of X G a2⟩
  have D_check_rides : DefOk K mg "check_rides" s_check_rides ["pauses", "rides"] := ⟨f3, _, fun_mk (st := s_check_rides) l3 c3 k3, (fun_mk (st := s_check_rides) l3 c3 k3).binds (ps := ["pauses", "rides"]) fun _ _ _ _ _ _ us hl => len2 us hl fun _ _ => rfl, PySem.W.mg_of X G a3⟩
  have D_check_stop : DefOk K mg "check_stop" s_check_stop ["pauses", "stop"] := ⟨f4, _, fun_mk (st := s_check_stop) l4 c4 k4, (fun_mk (st := s_check_stop) l4 c4 k4).binds (ps := ["pauses", "stop"]) fun _ _ _ _ _ _ us hl => len2 us hl fun _ _ => rfl, PySem.W.mg_of X G a4⟩
  have D_check_ask : DefOk K mg "check_ask" s_check_ask ["pauses", "rides", "start", "goal"] := ⟨f5, _, fun_mk (st := s_check_ask) l5 c5 k5, (fun_mk (st := s_check_ask) l5 c5 k5).binds (ps := ["pauses", "rides", "start", "goal"]) fun _ _ _ _ _ _ us hl => len4 us hl fun _ _ _ _ => rfl, PySem.W.mg_of X G a5⟩
  have D_turned_ride : DefOk K mg "turned_ride" s_turned_ride ["ride"] := ⟨f6, _, fun_mk (st := s_turned_ride) l6 c6 k6, (fun_mk (st := s_turned_ride) l6 c6 k6).binds (ps := ["ride"]) fun _ _ _ _ _ _ us hl => len1 us hl fun _ => rfl, PySem.W.mg_of X G a6⟩
  have D_turned : DefOk K mg "turned" s_turned ["rides"] := ⟨f7, _, fun_mk (st := s_turned) l7 c7 k7, (fun_mk (st := s_turned) l7 c7 k7).binds (ps := ["rides"]) fun _ _ _ _ _ _ us hl => len1 us hl fun _ => rfl, PySem.W.mg_of X G a7⟩
  have D_ready_time : DefOk K mg "ready_time" s_ready_time ["pauses", "start", "stop", "come"] := ⟨f8, _, fun_mk (st := s_ready_time) l8 c8 k8, (fun_mk (st := s_ready_time) l8 c8 k8).binds (ps := ["pauses", "start", "stop", "come"]) fun _ _ _ _ _ _ us hl => len4 us hl fun _ _ _ _ => rfl, PySem.W.mg_of X G a8⟩
  have D_ready_times : DefOk K mg "ready_times" s_ready_times ["pauses", "start", "comings"] := ⟨f9, _, fun_mk (st := s_ready_times) l9 c9 k9, (fun_mk (st := s_ready_times) l9 c9 k9).binds (ps := ["pauses", "start", "comings"]) fun _ _ _ _ _ _ us hl => len3 us hl fun _ _ _ => rfl, PySem.W.mg_of X G a9⟩
  have D_first_on : DefOk K mg "first_on" s_first_on ["ride", "ready"] := ⟨f10, _, fun_mk (st := s_first_on) l10 c10 k10, (fun_mk (st := s_first_on) l10 c10 k10).binds (ps := ["ride", "ready"]) fun _ _ _ _ _ _ us hl => len2 us hl fun _ _ => rfl, PySem.W.mg_of X G a10⟩
  have D_next_round : DefOk K mg "next_round" s_next_round ["pauses", "rides", "start", "ahead"] := ⟨f11, _, fun_mk (st := s_next_round) l11 c11 k11, (fun_mk (st := s_next_round) l11 c11 k11).binds (ps := ["pauses", "rides", "start", "ahead"]) fun _ _ _ _ _ _ us hl => len4 us hl fun _ _ _ _ => rfl, PySem.W.mg_of X G a11⟩
  have D_all_rounds : DefOk K mg "all_rounds" s_all_rounds ["pauses", "rides", "start", "time"] := ⟨f12, _, fun_mk (st := s_all_rounds) l12 c12 k12, (fun_mk (st := s_all_rounds) l12 c12 k12).binds (ps := ["pauses", "rides", "start", "time"]) fun _ _ _ _ _ _ us hl => len4 us hl fun _ _ _ _ => rfl, PySem.W.mg_of X G a12⟩
  have D_parts_needed : DefOk K mg "parts_needed" s_parts_needed ["told", "goal", "end"] := ⟨f13, _, fun_mk (st := s_parts_needed) l13 c13 k13, (fun_mk (st := s_parts_needed) l13 c13 k13).binds (ps := ["told", "goal", "end"]) fun _ _ _ _ _ _ us hl => len3 us hl fun _ _ _ => rfl, PySem.W.mg_of X G a13⟩
  have D_rounds : DefOk K mg "rounds" s_rounds ["pauses", "rides", "start", "time"] := ⟨f14, _, fun_mk (st := s_rounds) l14 c14 k14, (fun_mk (st := s_rounds) l14 c14 k14).binds (ps := ["pauses", "rides", "start", "time"]) fun _ _ _ _ _ _ us hl => len4 us hl fun _ _ _ _ => rfl, PySem.W.mg_of X G a14⟩
  have D_first_coming : DefOk K mg "first_coming" s_first_coming ["pauses", "rides", "start", "goal", "time"] := ⟨f15, _, fun_mk (st := s_first_coming) l15 c15 k15, (fun_mk (st := s_first_coming) l15 c15 k15).binds (ps := ["pauses", "rides", "start", "goal", "time"]) fun _ _ _ _ _ _ us hl => len5 us hl fun _ _ _ _ _ => rfl, PySem.W.mg_of X G a15⟩
  have D_last_start : DefOk K mg "last_start" s_last_start ["pauses", "backward", "start", "goal", "time"] := ⟨f16, _, fun_mk (st := s_last_start) l16 c16 k16, (fun_mk (st := s_last_start) l16 c16 k16).binds (ps := ["pauses", "backward", "start", "goal", "time"]) fun _ _ _ _ _ _ us hl => len5 us hl fun _ _ _ _ _ => rfl, PySem.W.mg_of X G a16⟩
  have D_earliest : DefOk K mg "earliest" s_earliest ["pauses", "rides", "start", "goal", "time"] := ⟨f17, _, fun_mk (st := s_earliest) l17 c17 k17, (fun_mk (st := s_earliest) l17 c17 k17).binds (ps := ["pauses", "rides", "start", "goal", "time"]) fun _ _ _ _ _ _ us hl => len5 us hl fun _ _ _ _ _ => rfl, PySem.W.mg_of X G a17⟩
  have D_latest : DefOk K mg "latest" s_latest ["pauses", "rides", "start", "goal", "time"] := ⟨f18, _, fun_mk (st := s_latest) l18 c18 k18, (fun_mk (st := s_latest) l18 c18 k18).binds (ps := ["pauses", "rides", "start", "goal", "time"]) fun _ _ _ _ _ _ us hl => len5 us hl fun _ _ _ _ _ => rfl, PySem.W.mg_of X G a18⟩
  have D_fewest : DefOk K mg "fewest" s_fewest ["pauses", "rides", "start", "goal", "time", "end"] := ⟨f19, _, fun_mk (st := s_fewest) l19 c19 k19, (fun_mk (st := s_fewest) l19 c19 k19).binds (ps := ["pauses", "rides", "start", "goal", "time", "end"]) fun _ _ _ _ _ _ us hl => len6 us hl fun _ _ _ _ _ _ => rfl, PySem.W.mg_of X G a19⟩
  have D_choices : DefOk K mg "choices" s_choices ["pauses", "rides", "start", "goal", "first", "last"] := ⟨f20, _, fun_mk (st := s_choices) l20 c20 k20, (fun_mk (st := s_choices) l20 c20 k20).binds (ps := ["pauses", "rides", "start", "goal", "first", "last"]) fun _ _ _ _ _ _ us hl => len6 us hl fun _ _ _ _ _ _ => rfl, PySem.W.mg_of X G a20⟩
  have D_part_into : DefOk K mg "part_into" s_part_into ["rides", "ready", "stop", "come"] := ⟨f21, _, fun_mk (st := s_part_into) l21 c21 k21, (fun_mk (st := s_part_into) l21 c21 k21).binds (ps := ["rides", "ready", "stop", "come"]) fun _ _ _ _ _ _ us hl => len4 us hl fun _ _ _ _ => rfl, PySem.W.mg_of X G a21⟩
  have D_trip_back : DefOk K mg "trip_back" s_trip_back ["pauses", "rides", "start", "goal", "told"] := ⟨f22, _, fun_mk (st := s_trip_back) l22 c22 k22, (fun_mk (st := s_trip_back) l22 c22 k22).binds (ps := ["pauses", "rides", "start", "goal", "told"]) fun _ _ _ _ _ _ us hl => len5 us hl fun _ _ _ _ _ => rfl, PySem.W.mg_of X G a22⟩
  have D_trip_for : DefOk K mg "trip_for" s_trip_for ["pauses", "rides", "start", "goal", "time"] := ⟨f23, _, fun_mk (st := s_trip_for) l23 c23 k23, (fun_mk (st := s_trip_for) l23 c23 k23).binds (ps := ["pauses", "rides", "start", "goal", "time"]) fun _ _ _ _ _ _ us hl => len5 us hl fun _ _ _ _ _ => rfl, PySem.W.mg_of X G a23⟩
  have D_is_part : DefOk K mg "is_part" s_is_part ["rides", "ride", "on", "off"] := ⟨f24, _, fun_mk (st := s_is_part) l24 c24 k24, (fun_mk (st := s_is_part) l24 c24 k24).binds (ps := ["rides", "ride", "on", "off"]) fun _ _ _ _ _ _ us hl => len4 us hl fun _ _ _ _ => rfl, PySem.W.mg_of X G a24⟩
  have D_can_leave : DefOk K mg "can_leave" s_can_leave ["call", "stop", "ready"] := ⟨f25, _, fun_mk (st := s_can_leave) l25 c25 k25, (fun_mk (st := s_can_leave) l25 c25 k25).binds (ps := ["call", "stop", "ready"]) fun _ _ _ _ _ _ us hl => len3 us hl fun _ _ _ => rfl, PySem.W.mg_of X G a25⟩
  have D_coming_of : DefOk K mg "coming_of" s_coming_of ["pauses", "rides", "start", "goal", "time", "parts"] := ⟨f26, _, fun_mk (st := s_coming_of) l26 c26 k26, (fun_mk (st := s_coming_of) l26 c26 k26).binds (ps := ["pauses", "rides", "start", "goal", "time", "parts"]) fun _ _ _ _ _ _ us hl => len6 us hl fun _ _ _ _ _ _ => rfl, PySem.W.mg_of X G a26⟩
  have D_law_room : DefOk K mg "_law_room" s_law_room ["_law_script", "_law_most", "_law_bound"] := ⟨f27, _, fun_mk (st := s_law_room) l27 c27 k27, (fun_mk (st := s_law_room) l27 c27 k27).binds (ps := ["_law_script", "_law_most", "_law_bound"]) fun _ _ _ _ _ _ us hl => len3 us hl fun _ _ _ => rfl, PySem.W.mg_of X G a27⟩
  have D_law_at : DefOk K mg "_law_at" s_law_at ["_law_script", "_law_k"] := ⟨f28, _, fun_mk (st := s_law_at) l28 c28 k28, (fun_mk (st := s_law_at) l28 c28 k28).binds (ps := ["_law_script", "_law_k"]) fun _ _ _ _ _ _ us hl => len2 us hl fun _ _ => rfl, PySem.W.mg_of X G a28⟩
  have D_law_drawn : DefOk K mg "_law_drawn" s_law_drawn ["_law_cells", "_law_count"] := ⟨f29, _, fun_mk (st := s_law_drawn) l29 c29 k29, (fun_mk (st := s_law_drawn) l29 c29 k29).binds (ps := ["_law_cells", "_law_count"]) fun _ _ _ _ _ _ us hl => len2 us hl fun _ _ => rfl, PySem.W.mg_of X G a29⟩
  have D_law_slow : DefOk K mg "_law_slow" s_law_slow ["_law_script", "_law_count"] := ⟨f30, _, fun_mk (st := s_law_slow) l30 c30 k30, (fun_mk (st := s_law_slow) l30 c30 k30).binds (ps := ["_law_script", "_law_count"]) fun _ _ _ _ _ _ us hl => len2 us hl fun _ _ => rfl, PySem.W.mg_of X G a30⟩
  have D_law_copy : DefOk K mg "_law_copy" s_law_copy ["_law_rides"] := ⟨f31, _, fun_mk (st := s_law_copy) l31 c31 k31, (fun_mk (st := s_law_copy) l31 c31 k31).binds (ps := ["_law_rides"]) fun _ _ _ _ _ _ us hl => len1 us hl fun _ => rfl, PySem.W.mg_of X G a31⟩
  have D_law_tried : DefOk K mg "_law_tried" s_law_tried ["_law_which", "_law_pauses", "_law_rides", "_law_start", "_law_goal"] := ⟨f32, _, fun_mk (st := s_law_tried) l32 c32 k32, (fun_mk (st := s_law_tried) l32 c32 k32).binds (ps := ["_law_which", "_law_pauses", "_law_rides", "_law_start", "_law_goal"]) fun _ _ _ _ _ _ us hl => len5 us hl fun _ _ _ _ _ => rfl, PySem.W.mg_of X G a32⟩
  have D_law_spoilt : DefOk K mg "_law_spoilt" s_law_spoilt ["_law_rides", "_law_way", "_law_seed", "_law_count"] := ⟨f33, _, fun_mk (st := s_law_spoilt) l33 c33 k33, (fun_mk (st := s_law_spoilt) l33 c33 k33).binds (ps := ["_law_rides", "_law_way", "_law_seed", "_law_count"]) fun _ _ _ _ _ _ us hl => len4 us hl fun _ _ _ _ => rfl, PySem.W.mg_of X G a33⟩
  have D_law_good : DefOk K mg "_law_good" s_law_good ["_law_rides", "_law_count"] := ⟨f34, _, fun_mk (st := s_law_good) l34 c34 k34, (fun_mk (st := s_law_good) l34 c34 k34).binds (ps := ["_law_rides", "_law_count"]) fun _ _ _ _ _ _ us hl => len2 us hl fun _ _ => rfl, PySem.W.mg_of X G a34⟩
  have D_law : DefOk K mg "law" s_law ["_law_script"] := ⟨f35, _, fun_mk (st := s_law) l35 c35 k35, (fun_mk (st := s_law) l35 c35 k35).binds (ps := ["_law_script"]) fun _ _ _ _ _ _ us hl => len1 us hl fun _ => rfl, PySem.W.mg_of X G a35⟩
  have B : Blt mg := ⟨PySem.W.mg_none_of X G z0, PySem.W.mg_none_of X G z1, PySem.W.mg_none_of X G z2, PySem.W.mg_none_of X G z3, PySem.W.mg_none_of X G z4, PySem.W.mg_none_of X G z5, PySem.W.mg_none_of X G z6, PySem.W.mg_none_of X G z7, PySem.W.mg_none_of X G z8, PySem.W.mg_none_of X G z9, PySem.W.mg_none_of X G z10, PySem.W.mg_none_of X G z11⟩
  rw [e0]
  refine ⟨PySem.W.fnOf "law" "law" (defArgs s_law) (defBody s_law) (defScope s_law) .none kV35 dc35 pm35 an35 cd35 ct35, fun s v => .of_eq rfl, fun base _ _ => ?_⟩
  have C := (allCal (P := l.prog) (w := w) (base := base) B D_is_stop D_keeps_time D_check_ride D_check_rides D_check_stop D_check_ask D_turned_ride D_turned D_ready_time D_ready_times D_first_on D_next_round D_all_rounds D_parts_needed D_rounds D_first_coming D_last_start D_earliest D_latest D_fewest D_choices D_part_into D_trip_back D_trip_for D_is_part D_can_leave D_coming_of D_law_room D_law_at D_law_drawn D_law_slow D_law_copy D_law_tried D_law_spoilt D_law_good D_law ENoRide ENoStop ENoLine ENoWay ERideError w0 w1 w2 ec0 ec1 ec2 kt0 kt1 kt2 kt3 kt4 kt5 kt6 kt7 kt8 kt9 kt10 kt11 kt12 kt13 kt14 (PySem.W.mg_none_of X G zx0)).mono (k := 40) (by decide)
  obtain ⟨f', fd', F', _, _, m', oc', od', osl', lk'⟩ := C.ex
  have e1 := m'.symm.trans (PySem.W.mg_of X G a35)
  cases e1
  have e2 := lk'.symm.trans l35
  cases e2
  exact F'
theorem walk {l : PySem.W.OpenLaw} {q : Program} {loose : List Str} {XP : (Str → Option Value) → Heap → Prop} {YP : World → Heap → Prop} {d : DefRec} {K : Params → PySem.W.Frag} (hn : l.most = some 63) (hdf : d.params.defaults = [])
    (hY : ∀ (w : World) (h : Heap), YP w h → (K w.params).In h)
    (F : ∀ (w : World) (mg : Str → Option Value) (fa : Addr) (h : Heap), (K w.params).In h → h.Ns mainGlobals mg → mg d.name = some (.ref fa) →
      ∃ fd : FuncData, (∀ (s : Shared) (u : Value), BindsTo s fd ⟨[u], []⟩ [("_law_script", u)]) ∧ ∀ base : Heap, (K w.params).In base → base.Ns mainGlobals mg → FnOk l.prog w (K w.params) mg base CX0 40 fa fd ["_law_script"] (spLaw (K w.params))) :
    PySem.W.WalkO q loose XP YP l.row.toRowW d [] (fun f vs => PySem.call f vs) :=
  L2.walk_of (n := 63) (k := 40) (x := "_law_script") (CX := fun _ => CX0) (sp := fun w => spLaw (K w.params)) hn (by decide) hdf ⟨rfl, by decide, by decide⟩ hY F (fun _ _ a ns hl _ hS => ⟨a, ns, rfl, hS, hl, fun _ => rfl⟩) fun _ _ _ _ _ z => z
end Mine
open PySem PySem.W PyProof.Rows
theorem isSome_of {α : Type} {o : Option α} {a : α} (h : o = some a) : o.isSome = true := by rw [h]; rfl
set_option maxRecDepth 100000 in
set_option maxHeartbeats 0 in
theorem PySem.Challenge.cw_ridebook_k03_refused_holds : PySem.Challenge.rw_ridebook_k03_refused.Holds := by
  w_on; o_law; k_head; (case hw => w_witness2)
  k_fill
  refine Mine.walk (l := PySem.Challenge.rw_ridebook_k03_refused) rfl rfl (fun w h Y => PySem.W.kIn_of Y) ?F
  case F =>
    intro w mg fa h KX G hmg
    refine' Mine.all_mk KX G hmg ?a0 ?l0 ?c0 ?k0 ?a1 ?l1 ?c1 ?k1 ?a2 ?l2 ?c2 ?k2 ?a3 ?l3 ?c3 ?k3 ?a4 ?l4 ?c4 ?k4 ?a5 ?l5 ?c5 ?k5 ?a6 ?l6 ?c6 ?k6 ?a7 ?l7 ?c7 ?k7 ?a8 ?l8 ?c8 ?k8 ?a9 ?l9 ?c9 ?k9 ?a10 ?l10 ?c10 ?k10 ?a11 ?l11 ?c11 ?k11 ?a12 ?l12 ?c12 ?k12 ?a13 ?l13 ?c13 ?k13 ?a14 ?l14 ?c14 ?k14 ?a15 ?l15 ?c15 ?k15 ?a16 ?l16 ?c16 ?k16 ?a17 ?l17 ?c17 ?k17 ?a18 ?l18 ?c18 ?k18 ?a19 ?l19 ?c19 ?k19 ?a20 ?l20 ?c20 ?k20 ?a21 ?l21 ?c21 ?k21 ?a22 ?l22 ?c22 ?k22 ?a23 ?l23 ?c23 ?k23 ?a24 ?l24 ?c24 ?k24 ?a25 ?l25 ?c25 ?k25 ?a26 ?l26 ?c26 ?k26 ?a27 ?l27 ?c27 ?k27 ?a28 ?l28 ?c28 ?k28 ?a29 ?l29 ?c29 ?k29 ?a30 ?l30 ?c30 ?k30 ?a31 ?l31 ?c31 ?k31 ?a32 ?l32 ?c32 ?k32 ?a33 ?l33 ?c33 ?k33 ?a34 ?l34 ?c34 ?k34 ?a35 ?l35 ?c35 ?k35 ?z0 ?z1 ?z2 ?z3 ?z4 ?z5 ?z6 ?z7 ?z8 ?z9 ?z10 ?z11 ?y0 ?x0 ?y1 ?x1 ?y2 ?x2 ?y3 ?x3 ?y4 ?x4 ?w0 ?w1 ?w2 ?ec0 ?ec1 ?ec2 ?kt0 ?kt1 ?kt2 ?kt3 ?kt4 ?kt5 ?kt6 ?kt7 ?kt8 ?kt9 ?kt10 ?kt11 ?kt12 ?kt13 ?kt14 ?zx0
    (case a0 => k_is); (case l0 => k_is); (case c0 => k_is); (case k0 => k_is)
    (case a1 => k_is); (case l1 => k_is); (case c1 => k_is); (case k1 => k_is)
    (case a2 => k_is); (case l2 => k_is); (case c2 => k_is); (case k2 => k_is)
    (case a3 => k_is); (case l3 => k_is); (case c3 => k_is); (case k3 => k_is)
    (case a4 => k_is); (case l4 => k_is); (case c4 => k_is); (case k4 => k_is)
    (case a5 => k_is); (case l5 => k_is); (case c5 => k_is); (case k5 => k_is)
    (case a6 => k_is); (case l6 => k_is); (case c6 => k_is); (case k6 => k_is)
    (case a7 => k_is); (case l7 => k_is); (case c7 => k_is); (case k7 => k_is)
    (case a8 => k_is); (case l8 => k_is); (case c8 => k_is); (case k8 => k_is)
    (case a9 => k_is); (case l9 => k_is); (case c9 => k_is); (case k9 => k_is)
    (case a10 => k_is); (case l10 => k_is); (case c10 => k_is); (case k10 => k_is)
    (case a11 => k_is); (case l11 => k_is); (case c11 => k_is); (case k11 => k_is)
    (case a12 => k_is); (case l12 => k_is); (case c12 => k_is); (case k12 => k_is)
    (case a13 => k_is); (case l13 => k_is); (case c13 => k_is); (case k13 => k_is)
    (case a14 => k_is); (case l14 => k_is); (case c14 => k_is); (case k14 => k_is)
    (case a15 => k_is); (case l15 => k_is); (case c15 => k_is); (case k15 => k_is)
    (case a16 => k_is); (case l16 => k_is); (case c16 => k_is); (case k16 => k_is)
    (case a17 => k_is); (case l17 => k_is); (case c17 => k_is); (case k17 => k_is)
    (case a18 => k_is); (case l18 => k_is); (case c18 => k_is); (case k18 => k_is)
    (case a19 => k_is); (case l19 => k_is); (case c19 => k_is); (case k19 => k_is)
    (case a20 => k_is); (case l20 => k_is); (case c20 => k_is); (case k20 => k_is)
    (case a21 => k_is); (case l21 => k_is); (case c21 => k_is); (case k21 => k_is)
    (case a22 => k_is); (case l22 => k_is); (case c22 => k_is); (case k22 => k_is)
    (case a23 => k_is); (case l23 => k_is); (case c23 => k_is); (case k23 => k_is)
    (case a24 => k_is); (case l24 => k_is); (case c24 => k_is); (case k24 => k_is)
    (case a25 => k_is); (case l25 => k_is); (case c25 => k_is); (case k25 => k_is)
    (case a26 => k_is); (case l26 => k_is); (case c26 => k_is); (case k26 => k_is)
    (case a27 => k_is); (case l27 => k_is); (case c27 => k_is); (case k27 => k_is)
    (case a28 => k_is); (case l28 => k_is); (case c28 => k_is); (case k28 => k_is)
    (case a29 => k_is); (case l29 => k_is); (case c29 => k_is); (case k29 => k_is)
    (case a30 => k_is); (case l30 => k_is); (case c30 => k_is); (case k30 => k_is)
    (case a31 => k_is); (case l31 => k_is); (case c31 => k_is); (case k31 => k_is)
    (case a32 => k_is); (case l32 => k_is); (case c32 => k_is); (case k32 => k_is)
    (case a33 => k_is); (case l33 => k_is); (case c33 => k_is); (case k33 => k_is)
    (case a34 => k_is); (case l34 => k_is); (case c34 => k_is); (case k34 => k_is)
    (case a35 => k_is); (case l35 => k_is); (case c35 => k_is); (case k35 => k_is)
    (case z0 => k_is); (case z1 => k_is); (case z2 => k_is); (case z3 => k_is); (case z4 => k_is); (case z5 => k_is); (case z6 => k_is); (case z7 => k_is); (case z8 => k_is); (case z9 => k_is); (case z10 => k_is); (case z11 => k_is); (case y0 => k_is); (case x0 => k_exc); (case y1 => k_is); (case x1 => k_exc); (case y2 => k_is); (case x2 => k_exc); (case y3 => k_is); (case x3 => k_exc); (case y4 => k_is); (case x4 => k_exc); (case w0 => kts_exm); (case w1 => kts_exm); (case w2 => kts_exm); (case ec0 => (refine ⟨?_, ?_, ?_, ?_, ?_, ?_, ?_, ?_⟩; (exact isSome_of (by k_is)); all_goals k_is)); (case ec1 => (refine ⟨?_, ?_, ?_, ?_, ?_, ?_, ?_, ?_⟩; (exact isSome_of (by k_is)); all_goals k_is)); (case ec2 => (refine ⟨?_, ?_, ?_, ?_, ?_, ?_, ?_, ?_⟩; (exact isSome_of (by k_is)); all_goals k_is)); (case kt0 => kit_is); (case kt1 => kit_is); (case kt2 => kit_is); (case kt3 => kit_is); (case kt4 => kit_is); (case kt5 => kit_is); (case kt6 => kit_is); (case kt7 => kit_is); (case kt8 => kit_is); (case kt9 => kit_is); (case kt10 => kit_is); (case kt11 => kit_is); (case kt12 => kit_is); (case kt13 => kit_is); (case kt14 => kit_is); (case zx0 => k_is)
