import PyProof.Rows.All
import Wide.All
import OpenK.AllK
import Wide.FinOn
import Lean
import PyProof.EqAt
import PyProof.EqKinds
import PyProof.TupleCall
import PyProof.NeKinds
import KE.KTryMore
import KE.KTryDeep
import KE.RegKTryMore
import PyProof.ExcBaseAll.ValueError
import PyProof.ExcClass2
import PyProof.NsDelKeeps
import OpenK.KOwn
import OpenK.KRaise
import OpenK.KMore
import KE.KIsAll
import KE.KIsNot
import PyProof.ExcArgs
import OpenK.KDescr
import PyProof.Rows.EnumRows
import PyProof.EnumMake
import PyProof.ListRange
import KE.RegKIsAll
import PyProof.StrLawsTight
import PyProof.Rows.StrItems
import PyProof.Rows.StrJoin2
import KE.KIntText
import PyProof.FString
import PyProof.ConsumeWalk
import PyProof.StrWalks
import PyProof.Rows.RegStrFacts
import PyProof.SliceStr2
import KE.IntTextLaws
import KE.KTryOn
import PyProof.Rows.Range3
import PyProof.Rows.ChunkEnd
import PyProof.WalksMore
import KE.IntTextText
import PyProof.StrOps2
import PySem.Challenge.RW_ridebook_k11_lines_refused
set_option Elab.async false
set_option linter.all false
set_option maxRecDepth 100000
set_option maxHeartbeats 4000000
/-! THE HAND LAYER, for ints, bools, texts, own classes, LISTS and tuples (index, slices, in, append, pop ..), calls, loops. Paste it whole ahead of your own text; what your proof does not reach may be deleted. -/
namespace L2
open PySem PySem.Spec PyProof.Rows

/-- a key: an int or a str -/
abbrev Key := Sum Int Str
def keyIs : Key → Value → Bool
  | .inl k, v => Value.isInt k v
  | .inr x, v => Value.isStrOf x v
def keyH (w : World) : Key → Int
  | .inl k => hashInt k
  | .inr x => hashStr w x
theorem keyIs_shape : ∀ {k : Key} {v : Value}, keyIs k v = true → (∃ i t, k = Sum.inl i ∧ v = Value.int i t) ∨ (∃ x t, k = Sum.inr x ∧ v = Value.str x t)
  | .inl i, v, h => by
    obtain ⟨t, e⟩ := Value.isInt_shape (k := i) (v := v) h
    exact .inl ⟨i, t, rfl, e⟩
  | .inr x, v, h => by
    obtain ⟨t, e⟩ := Value.isStrOf_shape (x := x) (v := v) h
    exact .inr ⟨x, t, rfl, e⟩
theorem key_ll (a b : Int) : decide ((Sum.inl a : Key) = Sum.inl b) = (a == b) := by
  by_cases e : a = b
  · subst e; simp
  · have h : ¬ (Sum.inl a : Key) = Sum.inl b := fun q => e (Sum.inl.inj q)
    rw [decide_eq_false h]
    exact (beq_eq_false_iff_ne.mpr e).symm
theorem key_rr (a b : Str) : decide ((Sum.inr a : Key) = Sum.inr b) = decide (a = b) := by
  by_cases e : a = b
  · subst e; simp
  · have h : ¬ (Sum.inr a : Key) = Sum.inr b := fun q => e (Sum.inr.inj q)
    rw [decide_eq_false h, decide_eq_false e]
theorem key_lr (a : Int) (b : Str) : decide ((Sum.inl a : Key) = Sum.inr b) = false := decide_eq_false (fun q => nomatch q)
theorem key_rl (a : Str) (b : Int) : decide ((Sum.inr a : Key) = Sum.inl b) = false := decide_eq_false (fun q => nomatch q)

def mixKind (prog : Program) (w : World) : PySem.KeyKind prog w Key where
  is := keyIs
  hash := keyH w
  inj := fun v a b ha hb => by
    rcases keyIs_shape ha with ⟨i, t, rfl, rfl⟩ | ⟨x, t, rfl, rfl⟩
    · rcases keyIs_shape hb with ⟨j, u, rfl, e⟩ | ⟨y, u, rfl, e⟩
      · injection e with e1 _; rw [e1]
      · exact nomatch e
    · rcases keyIs_shape hb with ⟨j, u, rfl, e⟩ | ⟨y, u, rfl, e⟩
      · exact nomatch e
      · injection e with e1 _; rw [e1]
  byValue := fun k v h => by
    rcases keyIs_shape h with ⟨i, t, rfl, rfl⟩ | ⟨x, t, rfl, rfl⟩ <;> rfl
  pyHash := fun hv h => by
    rcases keyIs_shape hv with ⟨i, t, rfl, rfl⟩ | ⟨x, t, rfl, rfl⟩
    · exact wpAny_pyHash_int h
    · exact wpAny_pyHash_str h
  eqBool := fun hu hv h => by
    rcases keyIs_shape hu with ⟨i, t, rfl, rfl⟩ | ⟨x, t, rfl, rfl⟩
    · rcases keyIs_shape hv with ⟨j, u, rfl, rfl⟩ | ⟨y, u, rfl, rfl⟩
      · rw [key_ll] at h; exact wpAny_eqBool_int h
      · rw [key_lr] at h; exact SeqAt.EqAt.int_str i t y u _ _ _ _ h
    · rcases keyIs_shape hv with ⟨j, u, rfl, rfl⟩ | ⟨y, u, rfl, rfl⟩
      · rw [key_rl] at h; exact SeqAt.EqAt.str_int x t j u _ _ _ _ h
      · rw [key_rr] at h; exact wpAny_eqBool_str h
  «strs» := fun k x t v h => by
    rcases keyIs_shape h with ⟨i, u, rfl, e⟩ | ⟨y, u, rfl, e⟩
    · exact nomatch e
    · injection e with e1 _
      subst e1
      cases v <;> rfl

end L2

namespace L2
open PySem PySem.Spec PyProof.Rows

/-- a value, without the heap -/
inductive V where
  | non | bl (b : Bool) | int (i : Int) | str (x : Str) | byt (b : Array UInt8) | flt (b : UInt64) | ref (a : Addr) | ty (n : String)
  deriving DecidableEq

def RelV : V → Value → Prop
  | .non, u => u = Value.none
  | .bl b, u => u = Value.bool b
  | .int i, u => ∃ t, u = Value.int i t
  | .str x, u => ∃ t, u = Value.str x t
  | .byt b, u => ∃ t, u = Value.bytes b t
  | .flt b, u => ∃ t, u = Value.float b t
  | .ref a, u => u = Value.ref a
  | .ty n, u => u = Value.type n

abbrev Vals : List V → List Value → Prop := Paired RelV
theorem Vals.length {xs : List V} {us : List Value} (r : Vals xs us) : xs.length = us.length := Paired.length r
theorem Vals.get : ∀ {xs : List V} {us : List Value} {i : Nat} {x : V}, Vals xs us → xs[i]? = some x → ∃ u, us[i]? = some u ∧ RelV x u
  | _, _, _, _, .nil, e => by simp at e
  | _, _, 0, _, .cons r _, e => by simp at e; subst e; exact ⟨_, rfl, r⟩
  | _, _, i + 1, x, .cons _ t, e => by
    obtain ⟨u, h1, h2⟩ := Vals.get (i := i) (x := x) t (by simpa using e)
    exact ⟨u, by simpa using h1, h2⟩
theorem Vals.set {x : V} {u : Value} (r : RelV x u) : ∀ {xs : List V} {us : List Value} (i : Nat), Vals xs us → Vals (xs.set i x) (us.set i u)
  | _, _, _, .nil => .nil
  | _, _, 0, .cons _ t => .cons r t
  | _, _, i + 1, .cons q t => .cons q (Vals.set r i t)
theorem Vals.append : ∀ {xs ys : List V} {us ws : List Value}, Vals xs us → Vals ys ws → Vals (xs ++ ys) (us ++ ws)
  | _, _, _, _, .nil, s => s
  | _, _, _, _, .cons r t, s => .cons r (Vals.append t s)
theorem Vals.take : ∀ {xs : List V} {us : List Value} (n : Nat), Vals xs us → Vals (xs.take n) (us.take n)
  | _, _, 0, _ => .nil
  | _, _, _ + 1, .nil => .nil
  | _, _, n + 1, .cons r t => .cons r (Vals.take n t)
theorem Vals.drop : ∀ {xs : List V} {us : List Value} (n : Nat), Vals xs us → Vals (xs.drop n) (us.drop n)
  | _, _, 0, r => r
  | _, _, _ + 1, .nil => .nil
  | _, _, n + 1, .cons _ t => Vals.drop n t
def RelO : Option V → Option Value → Prop
  | some v, some u => RelV v u
  | none, none => True
  | _, _ => False
def KV {κ : Type} : List (κ × V) → List (κ × Value) → Prop := Paired fun (p : κ × V) (q : κ × Value) => p.1 = q.1 ∧ RelV p.2 q.2

/-- a key of a dict (00_mix): an int or a text -/
def kV : Key → V
  | .inl i => .int i
  | .inr x => .str x

/-- what stands at a tracked address -/
inductive HO where
  /-- a list -/
  | lst (xs : List V)
  /-- a tuple (never changes) -/
  | tup (xs : List V)
  /-- a dict whose keys are ints and texts; one whose keys are tuples of ints and texts (the empty one is both) -/
  | dK (kvs : List (Key × V)) | dT (kvs : List (List Key × V))
  /-- a set of ints: its members, its size -/
  | set (S : Int → Bool) (n : Nat)
  /-- an instance of the class at C, its dict at dx, its attributes -/
  | ins (C dx : Addr) (fs : List (Str × V))
  /-- the dict of the instance at x -/
  | own (x : Addr)
  /-- the dict of an exception -/
  | xd (fs : List (Str × V))
  /-- a bound method, f of x -/
  | met (f x : Addr)
  /-- a range object lo, lo + 1, .. below hi -/
  | rng (lo hi : Int)
  /-- a thing that is known to the object (the script; a dict while a loop walks it): read, never written while it is so -/
  | frz (o : Obj) (u : HO)
  /-- a code object's table -/
  | tbl (ps : Array Value)
  /-- any other thing, by what is true of its one object (a def of one's own: SetO a S n := HO.ext fun h => ..) -/
  | ext (φ : Heap → Prop)

abbrev Hp := Addr → Option HO
def upd (H : Hp) (a : Addr) (o : HO) : Hp := fun b => if b = a then some o else H b
theorem upd_same {H : Hp} {a : Addr} {o : HO} : upd H a o a = some o := by unfold upd; rw [if_pos rfl]
theorem upd_ne {H : Hp} {a b : Addr} {o : HO} (h : b ≠ a) : upd H a o b = H b := by unfold upd; rw [if_neg h]
/-- two objects of different content stand apart -/
theorem ne_of {H : Hp} {a b : Addr} {o u : HO} (h : H a = some o) (h' : H b = some u) (d : o ≠ u) : a ≠ b := by
  intro e; subst e; rw [h] at h'; exact d (Option.some.inj h')
theorem ne_of_none {H : Hp} {a b : Addr} {o : HO} (h : H a = some o) (h' : H b = none) : a ≠ b := by
  intro e; subst e; rw [h] at h'; cases h'

section
variable (P : Program) (w : World)
def ObjOk (H : Hp) (h : Heap) (a : Addr) : HO → Prop
  | .lst xs => xs.length ≤ sizeLine ∧ ∃ (its : List Value) (n : Nat), Vals xs its ∧ h.get? a = some { cls := .type "list", data := .seq its.toArray n }
  | .tup xs => xs.length ≤ sizeLine ∧ ∃ its : List Value, Vals xs its ∧ IsTup h a its.toArray
  | .dK kvs => kvs.length ≤ sizeLine ∧ (a == sysModules) = false ∧ ∃ vs, KV kvs vs ∧ h.DictOf (mixKind P w) a vs
  | .dT kvs => kvs.length ≤ sizeLine ∧ (a == sysModules) = false ∧ ∃ xs : List (List Key × Addr × Value),
      Paired (fun (p : List Key × V) (q : List Key × Addr × Value) => p.1 = q.1 ∧ H q.2.1 = some (.tup (p.1.map kV)) ∧ RelV p.2 q.2.2) kvs xs ∧
      ∃ o es ep, h.get? a = some o ∧ o.ExactDict ∧ o.data = .dict es ep ∧ es.toList = xs.map (entryOfKey (tupleKind (mixKind P w))) ∧ (xs.map (·.1)).Nodup
  | .set S n => h.SetOf (intKind P w) a S n
  | .ins C dx fs => H dx = some (.own a) ∧ fs.length ≤ 1000 ∧ dx ≠ a ∧ h.get? a = some (PySem.W.instObj C dx) ∧
      ∃ mA, h.Ns1 dx mA ∧ (∀ f, RelO (fs.lookup f) (mA f)) ∧ PySem.Within mA (fs.map (·.1))
  | .own _ => ∃ o, h.get? a = some o
  | .xd fs => ∃ mA, h.Ns1 a mA ∧ ∀ f, RelO (fs.lookup f) (mA f)
  | .rng lo hi => ∃ t u v, h.get? a = some { cls := .type "range", data := .fields #[.int lo t, .int hi u, .int 1 v] }
  | .frz o u => h.get? a = some o ∧ ObjOk H h a u
  | .tbl ps => h.get? a = some { cls := .none, data := .fields ps }
  | .met f x => h.get? a = some (PySem.W.methodObj (.ref f) (.ref x))
  | .ext φ => φ h ∧ (∃ o, h.get? a = some o) ∧ ∀ h1 h2 : Heap, φ h1 → (∀ o, h1.get? a = some o → h2.get? a = some o) → φ h2
/-- the abstract heap is held -/
def HOk (H : Hp) (h : Heap) : Prop := ∀ a o, H a = some o → ObjOk P w H h a o
end

section
variable {P : Program} {w : World} {H H' : Hp} {h h' : Heap} {a : Addr} {o : HO}
theorem ObjOk.lt (x : ObjOk P w H h a o) : a < h.objs.size := by
  cases o with
  | lst xs => obtain ⟨_, _, _, _, e⟩ := x; exact Heap.lt_size e
  | tup xs => obtain ⟨_, _, _, p⟩ := x; exact p.lt
  | dK kvs => obtain ⟨_, _, _, _, o, _, _, e, _⟩ := x; exact Heap.lt_size e
  | dT kvs => obtain ⟨_, _, _, _, o, _, _, e, _⟩ := x; exact Heap.lt_size e
  | set S n => obtain ⟨o, _, _, _, e, _⟩ := x; exact Heap.lt_size e
  | ins C dx fs => obtain ⟨_, _, _, e, _⟩ := x; exact Heap.lt_size e
  | own y => obtain ⟨_, e⟩ := x; exact Heap.lt_size e
  | xd fs => obtain ⟨_, ⟨_, _, _, e, _⟩, _⟩ := x; exact Heap.lt_size e
  | rng lo hi => obtain ⟨_, _, _, e⟩ := x; exact Heap.lt_size e
  | frz ob u => obtain ⟨e, _⟩ := x; exact Heap.lt_size e
  | tbl ps => exact Heap.lt_size (show h.get? a = some _ from x)
  | met f y => exact Heap.lt_size (show h.get? a = some _ from x)
  | ext φ => obtain ⟨_, ⟨_, e⟩, _⟩ := x; exact Heap.lt_size e
theorem Paired.mapP {α β : Type} {F G : α → β → Prop} : ∀ {l₁ : List α} {l₂ : List β}, Paired F l₁ l₂ → (∀ a b, F a b → G a b) → Paired G l₁ l₂
  | _, _, .nil, _ => .nil
  | _, _, .cons r t, f => .cons (f _ _ r) (Paired.mapP t f)
theorem Paired.imp' {α β : Type} {F G : α → β → Prop} (f : ∀ a b, F a b → G a b) {l₁ : List α} {l₂ : List β} (r : Paired F l₁ l₂) : Paired G l₁ l₂ := Paired.mapP r f
/-- what an object's description leans on: its own object, its own dict, the tuples -/
theorem ObjOk.stay (x : ObjOk P w H h a o) (k : ∀ b u, (b = a ∨ H b = some (.own a)) → h.get? b = some u → h'.get? b = some u)
    (ho : ∀ b, H b = some (.own a) → H' b = some (.own a)) (ht : ∀ b xs, H b = some (.tup xs) → H' b = some (.tup xs)) : ObjOk P w H' h' a o := by
  induction o with
  | lst xs => obtain ⟨z, its, n, r, e⟩ := x; exact ⟨z, its, n, r, k _ _ (.inl rfl) e⟩
  | tup xs => obtain ⟨z, its, r, ob, e, c⟩ := x; exact ⟨z, its, r, ob, k _ _ (.inl rfl) e, c⟩
  | dK kvs => obtain ⟨z, y, vs, r, ob, es, ep, e, c⟩ := x; exact ⟨z, y, vs, r, ob, es, ep, k _ _ (.inl rfl) e, c⟩
  | dT kvs =>
    obtain ⟨z, y, xs, r, ob, es, ep, e, c⟩ := x
    exact ⟨z, y, xs, Paired.mapP r fun p q z => ⟨z.1, ht _ _ z.2.1, z.2.2⟩, ob, es, ep, k _ _ (.inl rfl) e, c⟩
  | set S n => obtain ⟨ob, es, ep, t, e, c⟩ := x; exact ⟨ob, es, ep, t, k _ _ (.inl rfl) e, c⟩
  | ins C dx fs =>
    obtain ⟨d, z, ne, e, mA, ⟨od, es, ep, e2, c⟩, r⟩ := x
    exact ⟨ho _ d, z, ne, k _ _ (.inl rfl) e, mA, ⟨od, es, ep, k _ _ (.inr d) e2, c⟩, r⟩
  | own y => obtain ⟨ob, e⟩ := x; exact ⟨ob, k _ _ (.inl rfl) e⟩
  | xd fs => obtain ⟨mA, ⟨od, es, ep, e, c⟩, r⟩ := x; exact ⟨mA, ⟨od, es, ep, k _ _ (.inl rfl) e, c⟩, r⟩
  | rng lo hi => obtain ⟨t, u, v, e⟩ := x; exact ⟨t, u, v, k _ _ (.inl rfl) e⟩
  | frz ob u ih => obtain ⟨e, q⟩ := x; exact ⟨k _ _ (.inl rfl) e, ih q⟩
  | tbl ps =>
    have e : h.get? a = some { cls := .none, data := .fields ps } := x
    show h'.get? a = some { cls := .none, data := .fields ps }
    exact k a _ (.inl rfl) e
  | met f y =>
    have e : h.get? a = some (PySem.W.methodObj (.ref f) (.ref y)) := x
    show h'.get? a = some (PySem.W.methodObj (.ref f) (.ref y))
    exact k a _ (.inl rfl) e
  | ext φ => obtain ⟨p, ⟨o, e⟩, st⟩ := x; exact ⟨st _ _ p fun o q => k _ _ (.inl rfl) q, ⟨o, k _ _ (.inl rfl) e⟩, st⟩
theorem HOk.lt (x : HOk P w H h) (e : H a = some o) : a < h.objs.size := (x a o e).lt
theorem HOk.fresh (x : HOk P w H h) (e : h.objs.size ≤ a) : H a = none := by
  cases q : H a with
  | none => rfl
  | some u => exact absurd (Nat.lt_of_lt_of_le (x.lt q) e) (Nat.lt_irrefl _)
/-- every object of the heap is kept -/
theorem HOk.kept (x : HOk P w H h) (k : ∀ b u, h.get? b = some u → h'.get? b = some u) : HOk P w H h' := fun a o e =>
  (x a o e).stay (fun b u _ q => k b u q) (fun _ q => q) fun _ _ q => q
/-- a new object is laid and tracked -/
theorem HOk.laid (x : HOk P w H h) (k : ∀ b u, h.get? b = some u → h'.get? b = some u) (hp : h.objs.size ≤ a) (new : ObjOk P w (upd H a o) h' a o) : HOk P w (upd H a o) h' := fun b u e => by
  have hn := x.fresh hp
  by_cases hb : b = a
  · subst hb; rw [upd_same] at e; cases e; exact new
  · rw [upd_ne hb] at e
    exact (x b u e).stay (fun c v _ q => k c v q) (fun c q => by rw [upd_ne (ne_of_none q hn)]; exact q) fun c xs q => by rw [upd_ne (ne_of_none q hn)]; exact q
end

/-- what may be read as u: it is u, or a known u -/
def Rd (H : Hp) (a : Addr) (u : HO) : Prop := H a = some u ∨ ∃ o, H a = some (.frz o u)
theorem Rd.of {H : Hp} {a : Addr} {u : HO} (h : H a = some u) : Rd H a u := .inl h
theorem Rd.ok {P : Program} {w : World} {H : Hp} {h : Heap} {a : Addr} {u : HO} (r : Rd H a u) (x : HOk P w H h) : ObjOk P w H h a u := by
  rcases r with r | ⟨o, r⟩
  · exact x a u r
  · obtain ⟨_, q⟩ := x a _ r
    exact q
/-- what may be written -/
def Mut : Option HO → Prop
  | some (.lst _) => True
  | some (.dK _) => True
  | some (.dT _) => True
  | some (.set _ _) => True
  | some (.ins _ _ _) => True
  | some (.ext _) => True
  | _ => False
section
variable {P : Program} {w : World} {H : Hp} {h h' : Heap} {x e : Addr} {o' : HO}
/-- the object at e is changed: x itself, or the dict of the instance x -/
theorem HOk.write (ok : HOk P w H h) (mu : Mut (H x)) (he : e = x ∨ H e = some (.own x)) (k : ∀ b u, b ≠ e → h.get? b = some u → h'.get? b = some u) (heo : ∃ u, h'.get? e = some u)
    (new : ObjOk P w (upd H x o') h' x o') : HOk P w (upd H x o') h' := fun b u q => by
  have nown : ∀ c y, H c = some (.own y) → c ≠ x := fun c y r z => by subst z; rw [r] at mu; exact mu
  have ntup : ∀ c xs, H c = some (.tup xs) → c ≠ x := fun c xs r z => by subst z; rw [r] at mu; exact mu
  by_cases hb : b = x
  · subst hb; rw [upd_same] at q; cases q; exact new
  · rw [upd_ne hb] at q
    by_cases hbe : b = e
    · have q' : H b = some (.own x) := by
        rcases he with z | z
        · exact absurd (hbe.trans z) hb
        · rw [hbe]; exact z
      rw [q] at q'; cases q'
      obtain ⟨v, hv⟩ := heo
      exact ⟨v, by rw [hbe]; exact hv⟩
    · refine (ok b u q).stay (fun c v hc r => k c v ?_ r) (fun c r => by rw [upd_ne (nown c b r)]; exact r) fun c xs r => by rw [upd_ne (ntup c xs r)]; exact r
      rcases hc with rfl | hc
      · exact hbe
      · rintro rfl
        rcases he with z | z
        · exact nown c b hc z
        · rw [hc] at z; cases z; exact hb rfl
end

/-! ### kept unless tracked; of the frames at fs (the callers') the slots may change (an exception that passes writes there); of the records at ex (iterators) nothing is said -/
structure Un (fs ex : List Addr) (H H' : Hp) (h h' : Heap) : Prop where
  keep : ∀ b o, h.get? b = some o → H b = none → b ∉ fs → b ∉ ex → h'.get? b = some o
  slot : ∀ b o, h.get? b = some o → H b = none → b ∈ fs → b ∉ ex → ∃ sl, h'.get? b = some { o with slots := sl }
  free : ∀ b o, h.get? b = some o → H b = none → b ∉ ex → H' b = none
  there : ∀ b o, h.get? b = some o → b ∉ ex → ∃ o', h'.get? b = some o'
  tups : ∀ b xs, H b = some (.tup xs) → H' b = some (.tup xs)
  frzs : ∀ b o u, H b = some (.frz o u) → H' b = some (.frz o u)
  tbls : ∀ b ps, H b = some (.tbl ps) → ∃ more, H' b = some (.tbl (ps ++ more))
section
variable {fs fs' ex ex' : List Addr} {H H1 H2 : Hp} {h h1 h2 h' : Heap} {a x e : Addr} {o : HO}
theorem Un.any (u : Un fs ex H H1 h h1) {b : Addr} {ob : Obj} (q : h.get? b = some ob) (n : H b = none) (hx : b ∉ ex) : ∃ sl, h1.get? b = some { ob with slots := sl } := by
  by_cases hb : b ∈ fs
  · exact u.slot b ob q n hb hx
  · exact ⟨ob.slots, u.keep b ob q n hb hx⟩
theorem Un.trans (a : Un fs ex H H1 h h1) (b : Un fs ex H1 H2 h1 h2) : Un fs ex H H2 h h2 where
  keep := fun c ob q n hc hx => b.keep c ob (a.keep c ob q n hc hx) (a.free c ob q n hx) hc hx
  slot := fun c ob q n hc hx => by
    obtain ⟨sl, e1⟩ := a.slot c ob q n hc hx
    obtain ⟨sl', e2⟩ := b.slot c _ e1 (a.free c ob q n hx) hc hx
    exact ⟨sl', e2⟩
  free := fun c ob q n hx => by
    obtain ⟨o', e1⟩ := a.there c ob q hx
    exact b.free c o' e1 (a.free c ob q n hx) hx
  there := fun c ob q hx => by
    obtain ⟨o', e1⟩ := a.there c ob q hx
    exact b.there c o' e1 hx
  tups := fun c xs q => b.tups c xs (a.tups c xs q)
  frzs := fun c ob xs q => b.frzs c ob xs (a.frzs c ob xs q)
  tbls := fun c ps q => by
    obtain ⟨m1, e1⟩ := a.tbls c ps q
    obtain ⟨m2, e2⟩ := b.tbls c _ e1
    exact ⟨m1 ++ m2, by rw [e2, Array.append_assoc]⟩
theorem Un.kept (k : ∀ b u, h.get? b = some u → h'.get? b = some u) : Un fs ex H H h h' :=
  ⟨fun b ob q _ _ _ => k b ob q, fun b ob q _ _ _ => ⟨ob.slots, k b ob q⟩, fun _ _ _ n _ => n, fun b ob q _ => ⟨ob, k b ob q⟩, fun _ _ q => q, fun _ _ _ q => q, fun _ ps q => ⟨#[], by rw [q]; simp⟩⟩
theorem Un.refl : Un fs ex H H h h := Un.kept fun _ _ q => q
theorem Un.laid (k : ∀ b u, h.get? b = some u → h'.get? b = some u) (hp : h.objs.size ≤ a) (hn : H a = none) : Un fs ex H (upd H a o) h h' where
  keep := fun b u q _ _ _ => k b u q
  slot := fun b u q _ _ _ => ⟨u.slots, k b u q⟩
  free := fun b u q n _ => by rw [upd_ne (Nat.ne_of_lt (Nat.lt_of_lt_of_le (Heap.lt_size q) hp))]; exact n
  there := fun b u q _ => ⟨u, k b u q⟩
  tups := fun b xs q => by rw [upd_ne (ne_of_none q hn)]; exact q
  frzs := fun b u xs q => by rw [upd_ne (ne_of_none q hn)]; exact q
  tbls := fun b ps q => ⟨#[], by rw [upd_ne (ne_of_none q hn), q]; simp⟩
theorem Un.write (mu : Mut (H x)) (he : e = x ∨ H e = some (.own x)) (k : ∀ b u, b ≠ e → h.get? b = some u → h'.get? b = some u) (heo : ∃ u, h'.get? e = some u) : Un fs ex H (upd H x o) h h' := by
  have hx : ∀ b, H b = none → b ≠ x := fun b n z => by subst z; rw [n] at mu; exact mu
  have hb : ∀ b, H b = none → b ≠ e := fun b n z => by
    subst z
    rcases he with r | r
    · exact hx b n r
    · rw [n] at r; cases r
  have hm : ∀ b u, H b = some u → ¬ Mut (some u) → b ≠ x := fun b u q nm z => by subst z; rw [q] at mu; exact nm mu
  refine ⟨fun b u q n _ _ => k b u (hb b n) q, fun b u q n _ _ => ⟨u.slots, k b u (hb b n) q⟩, fun b u q n _ => by rw [upd_ne (hx b n)]; exact n, fun b u q _ => ?_,
    fun b xs q => by rw [upd_ne (hm b _ q fun z => z)]; exact q, fun b u xs q => by rw [upd_ne (hm b _ q fun z => z)]; exact q, fun b ps q => ⟨#[], by rw [upd_ne (hm b _ q fun z => z), q]; simp⟩⟩
  by_cases hbe : b = e
  · subst hbe; exact heo
  · exact ⟨u, k b u hbe q⟩
theorem Un.mono (u : Un fs ex H H1 h h1) (hs : ∀ b ∈ fs, b ∈ fs') (hx : ∀ b ∈ ex, b ∈ ex') : Un fs' ex' H H1 h h1 :=
  ⟨fun b ob q n hb he => u.keep b ob q n (fun z => hb (hs b z)) fun z => he (hx b z), fun _ _ q n _ he => u.any q n fun z => he (hx _ z), fun b ob q n he => u.free b ob q n fun z => he (hx b z), fun b ob q he => u.there b ob q fun z => he (hx b z), u.tups, u.frzs, u.tbls⟩
end

/-! ### the heap without what is tracked -/
def trk (h : Heap) (H : Hp) : List Addr := (List.range h.objs.size).filter fun a => (H a).isSome
def hidT (h : Heap) (H : Hp) : Heap := PySem.W.hideAll h (trk h H)
theorem hidT_size (h : Heap) (H : Hp) : (hidT h H).objs.size = h.objs.size := PySem.W.hideAll_size _ _
theorem hidT_get {h : Heap} {H : Hp} {b : Addr} {o : Obj} (e : h.get? b = some o) (n : H b = none) : (hidT h H).get? b = some o :=
  PySem.W.hideAll_get _ e fun hm => by
    have q : (H b).isSome = true := (List.mem_filter.mp hm).2
    rw [n] at q; simp at q
theorem of_hidT {h : Heap} {H : Hp} {b : Addr} {o : Obj} (e : (hidT h H).get? b = some o) : h.get? b = some o ∧ H b = none := by
  have e' : h.get? b = some o := PySem.W.of_hideAll (trk h H) e
  refine ⟨e', ?_⟩
  cases q : H b with
  | none => rfl
  | some x =>
    have hm : b ∈ trk h H := List.mem_filter.mpr ⟨List.mem_range.mpr (Heap.lt_size e'), by simp [q]⟩
    have z : (hidT h H).get? b = none := PySem.W.hideAll_none (trk h H) hm
    rw [z] at e; cases e

/-! ### OpenK's ledger, filled with every new object but one -/
def allNews (g h : Heap) (L : Addr) : List (Addr × Obj) := (List.range h.objs.size).filterMap fun a => if a = L ∨ (g.get? a).isSome = true then none else (h.get? a).map fun o => (a, o)
def rest (g h : Heap) (L d : Addr) : List (Addr × Obj) := (allNews g h L).filter fun p => decide (p.1 ≠ d)
end L2

namespace L2
open PySem PySem.Spec PyProof.Rows

/-- the module's facts, over the base: the heap at the law's entry without what is tracked there -/
structure Mod (K : PySem.W.Frag) (mg : Str → Option Value) (base : Heap) : Prop where
  kin : K.In base
  glob : base.Ns mainGlobals mg
  blt : ∃ mb, base.Ns builtinsNs mb ∧ ∀ x : Str, x ≠ "__name__" → mb x = bootBuiltins x
  nolimit : base.NoLimit

/-- the context: a def's body (or a comprehension's block) running. base: fixed through the whole law; s₀, H₀: the entry; outer: the frames whose slots others may change (a def's callers); stack: all frames that run;
   ex: iterators that were made ahead of the entry and are walked here (a comprehension's); fn: the names whose cells were made at the entry (a def: all; a comprehension's block: its own); calm: not within an except suite; pn: pins that every state bears; xe: what is wanted of an exception that leaves the code -/
structure Cx where
  prog : Program
  w : World
  K : PySem.W.Frag
  mg : Str → Option Value
  base : Heap
  A : Around
  N : List Str
  s₀ : Shared
  H₀ : Hp
  env : Env
  outer : List Env
  stack : List Env
  ex : List Addr
  fn : Str → Bool
  calm : Bool
  pn : List (Addr × Obj)
  xe : Value → Shared → Prop
/-- the callers' frames -/
def frs (l : List Env) : List Addr := l.filterMap (·.frame)
abbrev Cx.fs (X : Cx) : List Addr := frs X.outer

def Vis (sc : Scope) (x : Str) : Prop := sc.names.lookup x = some .local ∨ sc.names.lookup x = some .cell ∨ sc.names.lookup x = some .free
def Loc (sc : Scope) (x : Str) : Prop := sc.names.lookup x = some .local ∨ sc.names.lookup x = some .cell
def Look (env : Env) (h : Heap) (m : Str → Option Value) (x : Str) (u : Value) : Prop :=
  (env.kindOf x = some .local ∧ m x = some u) ∨ ((env.kindOf x = some .cell ∨ env.kindOf x = some .free) ∧ ∃ c, env.cells.lookup x = some c ∧ h.IsCell c (some u))

structure Cx.Ok (X : Cx) : Prop where
  mod : Mod X.K X.mg X.base
  kind : X.env.scope.kind = .function
  glob : X.env.globals = mainGlobals
  blt : X.env.builtins = builtinsNs
  above : X.s₀.heap.objs.size ≤ X.env.locals
  inj : ∀ x y c, X.env.cells.lookup x = some c → X.env.cells.lookup y = some c → x = y
  has : ∀ x, (X.env.kindOf x = some .cell ∨ X.env.kindOf x = some .free) → ∃ c, X.env.cells.lookup x = some c
  cab : ∀ x c, X.fn x = true → X.env.cells.lookup x = some c → X.s₀.heap.objs.size ≤ c
  hd : X.calm = true → X.A.handled = none
  frames : X.A.frames = some X.stack
  stk : X.stack = X.outer ∨ (X.stack = X.env :: X.outer ∧ X.env.frame = some X.env.locals)
  exf : ∀ b ∈ X.ex, b ≠ X.env.locals ∧ ∀ x c, X.env.cells.lookup x = some c → c ≠ b
  bs : ∀ b o, X.base.get? b = some o → X.s₀.heap.get? b = some o ∧ X.H₀ b = none
  bsz : X.base.objs.size ≤ X.s₀.heap.objs.size
  noex : ∀ b o, X.base.get? b = some o → b ∉ X.ex
  exfs : ∀ b ∈ X.ex, b ∉ X.fs
  funs : X.s₀.heap.FunFrames X.base X.outer
  frf : ∀ b ∈ X.fs, X.H₀ b = none

structure Inv (X : Cx) (pins : List (Addr × Obj)) (σ : List (Option V)) (H : Hp) (s : Shared) : Prop where
  ok : X.Ok
  os : s.os = X.s₀.os
  bare : AllBare s.gens
  base : Un X.fs X.ex X.H₀ H X.s₀.heap s.heap
  loc : ∃ m, s.heap.Ns X.env.locals m ∧ ∀ (i : Nat) (x : Str) (v : V), X.N[i]? = some x → σ[i]? = some (some v) → Vis X.env.scope x → ∃ u, RelV v u ∧ Look X.env s.heap m x u
  cell : ∀ x c, X.env.cells.lookup x = some c → ∃ v, s.heap.IsCell c v
  free : H X.env.locals = none
  freeC : ∀ x c, X.env.cells.lookup x = some c → H c = none
  pin : ∀ p ∈ X.pn ++ pins, s.heap.get? p.1 = some p.2 ∧ H p.1 = none ∧ p.1 ≠ X.env.locals ∧ p.1 ∉ X.fs ∧ ∀ v, p.2.data ≠ .cell v
  hok : HOk X.prog X.w H s.heap
  len : σ.length = X.N.length

section
variable {X : Cx} {pins : List (Addr × Obj)} {σ : List (Option V)} {H H' : Hp} {s : Shared} {h' : Heap}

theorem Cx.Ok.nofr (ok : X.Ok) {b : Addr} {o : Obj} (e : X.base.get? b = some o) : b ∉ X.fs := fun hb => by
  have := (ok.funs.mem hb).1
  rw [e] at this; cases this
theorem Inv.bs (I : Inv X pins σ H s) : ∀ b o, X.base.get? b = some o → s.heap.get? b = some o ∧ H b = none := fun b o e =>
  ⟨I.base.keep b o (I.ok.bs b o e).1 (I.ok.bs b o e).2 (I.ok.nofr e) (I.ok.noex b o e), I.base.free b o (I.ok.bs b o e).1 (I.ok.bs b o e).2 (I.ok.noex b o e)⟩
theorem Inv.bk (I : Inv X pins σ H s) : ∀ b o, X.base.get? b = some o → s.heap.get? b = some o := fun b o e => (I.bs b o e).1
theorem Inv.mod (I : Inv X pins σ H s) : Mod X.K X.mg X.base := I.ok.mod
theorem Inv.kIn (I : Inv X pins σ H s) : X.K.In s.heap := I.ok.mod.kin.keeps I.bk
theorem Inv.nolimit (I : Inv X pins σ H s) : s.heap.NoLimit := I.ok.mod.nolimit.keeps I.bk
/-- the frame over the base: for OpenK's rules (K.In X.base is I.mod.kin) -/
theorem Inv.fr (I : Inv X pins σ H s) : ∃ m, Fr X.base X.env.locals s.heap m :=
  let ⟨m, hn, _⟩ := I.loc
  ⟨m, hn, I.bk, Nat.le_trans I.ok.bsz I.ok.above⟩
theorem Inv.lt (I : Inv X pins σ H s) : X.env.locals < s.heap.objs.size := let ⟨_, hn, _⟩ := I.loc; hn.lt
theorem Inv.sz (I : Inv X pins σ H s) : X.s₀.heap.objs.size ≤ s.heap.objs.size := Nat.le_trans I.ok.above (Nat.le_of_lt I.lt)
theorem Inv.nofs (I : Inv X pins σ H s) {a : Addr} (h : s.heap.objs.size ≤ a) : a ∉ X.fs := fun hb => by
  obtain ⟨_, o, ho, _⟩ := I.ok.funs.mem hb
  exact absurd (Nat.lt_of_lt_of_le (Heap.lt_size ho) (Nat.le_trans I.sz h)) (Nat.lt_irrefl _)
theorem Inv.cne (I : Inv X pins σ H s) : ∀ x c, X.env.cells.lookup x = some c → c ≠ X.env.locals := fun x c e z => by
  obtain ⟨v, o, ho, hd⟩ := I.cell x c e
  obtain ⟨m, ⟨o', es, ep, ho', hd', _⟩, _⟩ := I.loc
  rw [z, ho'] at ho; cases ho; rw [hd'] at hd; cases hd
theorem Inv.funs (I : Inv X pins σ H s) : s.heap.FunFrames X.base X.outer := by
  have all : ∀ (l : List Env), (∀ b ∈ frs l, b ∈ X.fs) → X.s₀.heap.FunFrames X.base l → s.heap.FunFrames X.base l := by
    intro l
    induction l with
    | nil => intro _ _; trivial
    | cons env r ih =>
      intro hs hl
      obtain ⟨hk, ⟨L, o, hf, hn, ho, hd⟩, hr⟩ := hl
      have hL : L ∈ X.fs := hs L (by unfold frs; rw [List.filterMap_cons, hf]; exact List.mem_cons_self)
      obtain ⟨sl, e⟩ := I.base.slot L o ho (I.ok.frf L hL) hL fun z => I.ok.exfs L z hL
      exact ⟨hk, ⟨L, _, hf, hn, e, hd⟩, ih (fun b hb => hs b (by unfold frs; rw [List.filterMap_cons, hf]; exact List.mem_cons_of_mem _ hb)) hr⟩
  exact all X.outer (fun _ hb => hb) I.ok.funs

/-- the frames that run, for a call -/
theorem Inv.stack (I : Inv X pins σ H s) : s.heap.FunFrames X.base X.stack := by
  rcases I.ok.stk with e | ⟨e, hf⟩
  · rw [e]; exact I.funs
  · rw [e]
    obtain ⟨m, hn, _⟩ := I.loc
    refine .cons (by rw [I.ok.kind]; decide) hf hn ?_ I.funs
    exact Heap.get?_none_of_le (Nat.le_trans I.ok.bsz I.ok.above)
theorem Inv.stkSub (I : Inv X pins σ H s) : ∀ b ∈ frs X.stack, b ∈ X.env.locals :: X.fs := fun b hb => by
  rcases I.ok.stk with e | ⟨e, hf⟩
  · rw [e] at hb; exact List.mem_cons_of_mem _ hb
  · rw [e] at hb
    unfold frs at hb
    rw [List.filterMap_cons, hf] at hb
    exact hb
theorem Inv.stkFree (I : Inv X pins σ H s) : ∀ b ∈ frs X.stack, H b = none := fun b hb => by
  rcases List.mem_cons.mp (I.stkSub b hb) with e | hb
  · rw [e]; exact I.free
  · obtain ⟨_, o, ho, _⟩ := I.ok.funs.mem hb
    exact I.base.free b o ho (I.ok.frf b hb) fun z => I.ok.exfs b z hb

/-- THE STEP: the untracked objects but the frame and the records at ch are kept (the callers' frames up to slots), the frame's map is kept, the new abstract heap is held -/
theorem Inv.step {g' : Array GenState} {t' : Nat} {d' : Drawn} {ch : List Addr} (I : Inv X pins σ H s)
    (hch : ∀ b ∈ ch, (b ∈ X.ex ∨ X.s₀.heap.objs.size ≤ b) ∧ b ≠ X.env.locals ∧ (∀ x c, X.env.cells.lookup x = some c → c ≠ b) ∧ ∀ p ∈ X.pn ++ pins, p.1 ≠ b)
    (keep : ∀ b o, b ≠ X.env.locals → b ∉ X.fs → b ∉ ch → s.heap.get? b = some o → H b = none → h'.get? b = some o)
    (slot : ∀ b o, b ≠ X.env.locals → b ∈ X.fs → b ∉ ch → s.heap.get? b = some o → H b = none → ∃ sl, h'.get? b = some { o with slots := sl }) (free : ∀ b o, b ∉ ch → s.heap.get? b = some o → H b = none → H' b = none)
    (there : ∀ b o, b ∉ ch → s.heap.get? b = some o → ∃ o', h'.get? b = some o')
    (tups : ∀ b xs, H b = some (.tup xs) → H' b = some (.tup xs)) (frzs : ∀ b o u, H b = some (.frz o u) → H' b = some (.frz o u)) (tbls : ∀ b ps, H b = some (.tbl ps) → ∃ more, H' b = some (.tbl (ps ++ more)))
    (ns : ∀ m, s.heap.Ns X.env.locals m → h'.Ns X.env.locals m) (hok : HOk X.prog X.w H' h') (hg : AllBare g') :
    Inv X pins σ H' { s with heap := h', gens := g', drawn := d', toks := t' } := by
  have neL : ∀ b o, X.s₀.heap.get? b = some o → b ≠ X.env.locals := fun b o e => Nat.ne_of_lt (Nat.lt_of_lt_of_le (Heap.lt_size e) I.ok.above)
  have neC : ∀ b o, X.s₀.heap.get? b = some o → b ∉ X.ex → b ∉ ch := fun b o e hx hb => by
    rcases (hch b hb).1 with z | z
    · exact hx z
    · exact absurd (Nat.lt_of_lt_of_le (Heap.lt_size e) z) (Nat.lt_irrefl _)
  have cellK : ∀ x c, X.env.cells.lookup x = some c → ∀ v, s.heap.IsCell c v → h'.IsCell c v := fun x c e v ⟨o, ho, hd⟩ => by
    have nch : c ∉ ch := fun z => (hch c z).2.2.1 x c e rfl
    by_cases hc : c ∈ X.fs
    · obtain ⟨sl, q⟩ := slot c o (I.cne x c e) hc nch ho (I.freeC x c e)
      exact ⟨_, q, hd⟩
    · exact ⟨o, keep c o (I.cne x c e) hc nch ho (I.freeC x c e), hd⟩
  refine ⟨I.ok, I.os, hg, ⟨fun b o e n hb hx => ?_, fun b o e n hb hx => ?_, fun b o e n hx => ?_, fun b o e hx => ?_, fun b xs e => tups b xs (I.base.tups b xs e), fun b o xs e => frzs b o xs (I.base.frzs b o xs e), fun b ps e => ?_⟩, ?_, fun x c e => ?_, ?_, fun x c e => ?_, fun p hp => ?_, hok, I.len⟩
  · exact keep b o (neL b o e) hb (neC b o e hx) (I.base.keep b o e n hb hx) (I.base.free b o e n hx)
  · obtain ⟨sl, e1⟩ := I.base.slot b o e n hb hx
    obtain ⟨sl', e2⟩ := slot b _ (neL b o e) hb (neC b o e hx) e1 (I.base.free b o e n hx)
    exact ⟨sl', e2⟩
  · obtain ⟨o', e1⟩ := I.base.there b o e hx
    exact free b o' (neC b o e hx) e1 (I.base.free b o e n hx)
  · obtain ⟨o', e1⟩ := I.base.there b o e hx
    exact there b o' (neC b o e hx) e1
  · obtain ⟨m1, e1⟩ := I.base.tbls b ps e
    obtain ⟨m2, e2⟩ := tbls b _ e1
    exact ⟨m1 ++ m2, by rw [e2, Array.append_assoc]⟩
  · obtain ⟨m, hn, hl⟩ := I.loc
    refine ⟨m, ns m hn, fun i x v e1 e2 e3 => ?_⟩
    obtain ⟨u, r, l⟩ := hl i x v e1 e2 e3
    refine ⟨u, r, ?_⟩
    rcases l with l | ⟨k, c, e, z⟩
    · exact .inl l
    · exact .inr ⟨k, c, e, cellK x c e _ z⟩
  · obtain ⟨v, z⟩ := I.cell x c e
    exact ⟨v, cellK x c e v z⟩
  · obtain ⟨m, ⟨o, _, _, ho, _⟩, _⟩ := I.loc
    exact free _ o (fun z => (hch _ z).2.1 rfl) ho I.free
  · obtain ⟨v, o, ho, hd⟩ := I.cell x c e
    exact free c o (fun z => (hch c z).2.2.1 x c e rfl) ho (I.freeC x c e)
  · obtain ⟨e, n, ne, nf, d⟩ := I.pin p hp
    have nch : p.1 ∉ ch := fun z => (hch p.1 z).2.2.2 p hp rfl
    exact ⟨keep p.1 p.2 ne nf nch e n, free p.1 p.2 nch e n, ne, nf, d⟩
/-- .. where the frame's own object is kept too -/
theorem Inv.un {t' : Nat} (I : Inv X pins σ H s) (u : Un X.fs [] H H' s.heap h') (hok : HOk X.prog X.w H' h') : Inv X pins σ H' { s with heap := h', toks := t' } := by
  obtain ⟨m, ⟨o, es, ep, ho, r⟩, _⟩ := id I.loc
  obtain ⟨sl, hL⟩ := u.any ho I.free (by simp)
  exact I.step (g' := s.gens) (d' := s.drawn) (ch := []) (fun _ z => nomatch z) (fun b o _ hb _ e n => u.keep b o e n hb (by simp)) (fun b o _ hb _ e n => u.slot b o e n hb (by simp)) (fun b o _ e n => u.free b o e n (by simp)) (fun b o _ e => u.there b o e (by simp)) u.tups u.frzs u.tbls (fun m' hm => by
    obtain ⟨o', es', ep', ho', r'⟩ := hm
    rw [ho] at ho'; cases ho'
    exact ⟨_, es', ep', hL, r'⟩) hok I.bare
/-- behind a call (or a comprehension's block): the slots of this frame may have changed too, the records at ch may have turned -/
theorem Inv.call {g' : Array GenState} {t' : Nat} {d' : Drawn} {ch : List Addr} (I : Inv X pins σ H s) (u : Un (frs X.stack) ch H H' s.heap h') (hok : HOk X.prog X.w H' h') (hg : AllBare g')
    (hch : ∀ b ∈ ch, (b ∈ X.ex ∨ X.s₀.heap.objs.size ≤ b) ∧ b ≠ X.env.locals ∧ (∀ x c, X.env.cells.lookup x = some c → c ≠ b) ∧ ∀ p ∈ X.pn ++ pins, p.1 ≠ b) :
    Inv X pins σ H' { s with heap := h', gens := g', drawn := d', toks := t' } := by
  obtain ⟨m, ⟨o, es, ep, ho, r⟩, _⟩ := id I.loc
  obtain ⟨sl, hL⟩ := u.any ho I.free fun z => (hch _ z).2.1 rfl
  exact I.step (ch := ch) hch (fun b o hL hb hc e n => u.keep b o e n (fun z => (List.mem_cons.mp (I.stkSub b z)).elim hL hb) hc) (fun b o _ _ hc e n => u.any e n hc) (fun b o hc e n => u.free b o e n hc) (fun b o hc e => u.there b o e hc) u.tups u.frzs u.tbls (fun m' hm => by
    obtain ⟨o', es', ep', ho', r'⟩ := hm
    rw [ho] at ho'; cases ho'
    exact ⟨_, es', ep', hL, r'⟩) hok hg
/-- an untracked record of ours (an iterator) has turned -/
theorem Inv.turned {t' : Nat} {it : Addr} (I : Inv X pins σ H s) (k : ∀ b o, b ≠ it → s.heap.get? b = some o → h'.get? b = some o) (hn : H it = none) (hL : it ≠ X.env.locals)
    (h1 : it ∈ X.ex ∨ X.s₀.heap.objs.size ≤ it) (h2 : ∀ x c, X.env.cells.lookup x = some c → c ≠ it) (h3 : ∀ p ∈ X.pn ++ pins, p.1 ≠ it) : Inv X pins σ H { s with heap := h', toks := t' } := by
  have nit : ∀ b u, H b = some u → b ≠ it := fun b u e z => by rw [z, hn] at e; cases e
  refine I.step (g' := s.gens) (d' := s.drawn) (ch := [it]) (fun b hb => ?_) (fun b o _ _ hc e _ => k b o (fun z => hc (by simp [z])) e) (fun b o _ _ hc e _ => ⟨o.slots, k b o (fun z => hc (by simp [z])) e⟩) (fun _ _ _ _ n => n)
    (fun b o hc e => ⟨o, k b o (fun z => hc (by simp [z])) e⟩) (fun _ _ e => e) (fun _ _ _ e => e) (fun b ps e => ⟨#[], by rw [e]; simp⟩) (fun m hm => ?_) (fun b u e => ?_) I.bare
  · have e : b = it := by simpa using hb
    subst e
    exact ⟨h1, hL, h2, h3⟩
  · obtain ⟨o, es, ep, ho, r⟩ := hm
    exact ⟨o, es, ep, k _ o (Ne.symm hL) ho, r⟩
  · refine (I.hok b u e).stay (fun c v hc q => k c v ?_ q) (fun _ q => q) fun _ _ q => q
    rcases hc with z | z
    · rw [z]; exact nit b u e
    · exact nit c _ z
theorem Inv.tok (I : Inv X pins σ H s) (t : Nat) : Inv X pins σ H { s with toks := t } := I.un (h' := s.heap) (t' := t) Un.refl I.hok
/-- all objects kept -/
theorem Inv.kept {t' : Nat} (I : Inv X pins σ H s) (k : ∀ b u, s.heap.get? b = some u → h'.get? b = some u) : Inv X pins σ H { s with heap := h', toks := t' } := I.un (Un.kept k) (I.hok.kept k)
/-- a new object laid and tracked -/
theorem Inv.laid {a : Addr} {o : HO} {t' : Nat} (I : Inv X pins σ H s) (k : ∀ b u, s.heap.get? b = some u → h'.get? b = some u) (hp : s.heap.objs.size ≤ a) (new : ObjOk X.prog X.w (upd H a o) h' a o) :
    Inv X pins σ (upd H a o) { s with heap := h', toks := t' } := I.un (Un.laid k hp (I.hok.fresh hp)) (I.hok.laid k hp new)
/-- an object written -/
theorem Inv.write {x e : Addr} {o : HO} {t' : Nat} (I : Inv X pins σ H s) (mu : Mut (H x)) (he : e = x ∨ H e = some (.own x)) (k : ∀ b u, b ≠ e → s.heap.get? b = some u → h'.get? b = some u) (heo : ∃ u, h'.get? e = some u)
    (new : ObjOk X.prog X.w (upd H x o) h' x o) : Inv X pins σ (upd H x o) { s with heap := h', toks := t' } := I.un (Un.write mu he k heo) (I.hok.write mu he k heo new)
/-- forgetting slots, pins -/
theorem Inv.weak {σ' : List (Option V)} (I : Inv X pins σ H s) (hl : σ'.length = σ.length) (w : ∀ (i : Nat) v, σ'[i]? = some (some v) → σ[i]? = some (some v)) : Inv X pins σ' H s :=
  ⟨I.ok, I.os, I.bare, I.base, let ⟨m, hn, hl'⟩ := I.loc; ⟨m, hn, fun i x v e1 e2 e3 => hl' i x v e1 (w i v e2) e3⟩, I.cell, I.free, I.freeC, I.pin, I.hok, hl.trans I.len⟩
theorem Inv.pins_of {pins' : List (Addr × Obj)} (I : Inv X pins σ H s) (h : ∀ p ∈ pins', s.heap.get? p.1 = some p.2 ∧ H p.1 = none ∧ p.1 ≠ X.env.locals ∧ p.1 ∉ X.fs ∧ ∀ v, p.2.data ≠ .cell v) : Inv X pins' σ H s :=
  ⟨I.ok, I.os, I.bare, I.base, I.loc, I.cell, I.free, I.freeC, fun p hp => (List.mem_append.mp hp).elim (fun z => I.pin p (List.mem_append_left _ z)) (h p), I.hok, I.len⟩

theorem nodup_ix {N : List Str} (hN : N.Nodup) {i j : Nat} {x : Str} (a : N[i]? = some x) (b : N[j]? = some x) : i = j := by
  obtain ⟨h1, e1⟩ := List.getElem?_eq_some_iff.mp a
  obtain ⟨h2, e2⟩ := List.getElem?_eq_some_iff.mp b
  exact (List.getElem_inj hN).mp (e1.trans e2.symm)

/-- a name is stored; what changed -/
theorem store_ok2 {M : Model} {A : Around} {E : Value → Shared → Prop} {i : Nat} {x : Str} {v : V} {u : Value} {Q : Unit → Shared → Prop} (I : Inv X pins σ H s) (hN : X.N.Nodup) (hi : X.N[i]? = some x) (hx : Loc X.env.scope x) (r : RelV v u)
    (h : ∀ s', Inv X pins (σ.set i (some v)) H s' → (∃ a, Heap.SameBut a s.heap s'.heap ∧ (a = X.env.locals ∨ X.env.cells.lookup x = some a)) → Q () s') (hf : X.fn x = true ∨ X.env.scope.names.lookup x = some .local := by first | exact .inl rfl | exact .inr rfl | assumption) : wpAny M A (storeName X.env x u) Q E s := by
  obtain ⟨m, hn, hl⟩ := id I.loc
  have hcls : (X.env.scope.kind == .class || (X.env.scope.kind == .module && X.env.locals != X.env.globals)) = false := by rw [I.ok.kind]; rfl
  have hiσ : i < σ.length := by rw [I.len]; exact (List.getElem?_eq_some_iff.mp hi).1
  have cne := I.cne
  have tracked : ∀ {a : Addr} {h' : Heap}, (∃ o, s.heap.get? a = some o ∧ H a = none) → Heap.SameBut a s.heap h' → HOk X.prog X.w H h' := fun {a h'} ha hs b ob e => by
    obtain ⟨_, _, hfree⟩ := ha
    refine (I.hok b ob e).stay (fun c w' hc q => (hs.2 c ?_).trans q) (fun _ q => q) fun _ _ q => q
    rintro rfl
    rcases hc with rfl | hc
    · rw [hfree] at e; cases e
    · rw [hfree] at hc; cases hc
  rcases hx with hk | hk
  · refine wpAny_storeName_local hk hn (fun h' hn' hs => ?_) hcls
    obtain ⟨oL, _, _, hoL, _⟩ := id hn
    refine h _ ⟨I.ok, I.os, I.bare, ⟨fun b o e n hb hx => ?_, fun b o e n hb hx => ?_, I.base.free, fun b o e hx => ?_, I.base.tups, I.base.frzs, I.base.tbls⟩, ⟨_, hn', fun j y v' e1 e2 e3 => ?_⟩, fun y c e => ?_, I.free, I.freeC, fun p hp => ?_, tracked ⟨oL, hoL, I.free⟩ hs, by simpa using I.len⟩ ⟨_, hs, .inl rfl⟩
    · exact (hs.2 b (Nat.ne_of_lt (Nat.lt_of_lt_of_le (Heap.lt_size e) I.ok.above))).trans (I.base.keep b o e n hb hx)
    · obtain ⟨sl, e1⟩ := I.base.slot b o e n hb hx
      exact ⟨sl, (hs.2 b (Nat.ne_of_lt (Nat.lt_of_lt_of_le (Heap.lt_size e) I.ok.above))).trans e1⟩
    · obtain ⟨o', e1⟩ := I.base.there b o e hx
      exact ⟨o', (hs.2 b (Nat.ne_of_lt (Nat.lt_of_lt_of_le (Heap.lt_size e) I.ok.above))).trans e1⟩
    · by_cases hj : j = i
      · subst hj
        rw [hi] at e1; cases e1
        rw [List.getElem?_set_self hiσ] at e2
        cases e2
        exact ⟨u, r, .inl ⟨hk, by simp⟩⟩
      · rw [List.getElem?_set_ne (Ne.symm hj)] at e2
        obtain ⟨u', r', q⟩ := hl j y v' e1 e2 e3
        refine ⟨u', r', ?_⟩
        rcases q with ⟨k, e⟩ | ⟨k, c, e, z⟩
        · refine .inl ⟨k, ?_⟩
          have : y ≠ x := fun e => hj (nodup_ix hN e1 (e ▸ hi))
          simp [this, e]
        · exact .inr ⟨k, c, e, z.sameBut hs (cne y c e)⟩
    · obtain ⟨w', z⟩ := I.cell y c e
      exact ⟨w', z.sameBut hs (cne y c e)⟩
    · obtain ⟨e, n, ne, nf, d⟩ := I.pin p hp
      exact ⟨(hs.2 p.1 ne).trans e, n, ne, nf, d⟩
  · have hfn : X.fn x = true := by
      rcases hf with z | z
      · exact z
      · rw [z] at hk; cases hk
    obtain ⟨c, hc⟩ := I.ok.has x (.inl hk)
    obtain ⟨w', z⟩ := I.cell x c hc
    refine wpAny_storeName_cell I.ok.kind hk hc z (fun h' hc' hs => ?_)
    obtain ⟨oc, hoc, hocd⟩ := id z
    refine h { s with heap := h' } ⟨I.ok, I.os, I.bare, ⟨fun b o e n hb hx => ?_, fun b o e n hb hx => ?_, I.base.free, fun b o e hx => ?_, I.base.tups, I.base.frzs, I.base.tbls⟩, ⟨m, hn.sameBut hs (Ne.symm (cne x c hc)), fun j y v' e1 e2 e3 => ?_⟩, fun y c' e => ?_, I.free, I.freeC, fun p hp => ?_, tracked ⟨oc, hoc, I.freeC x c hc⟩ hs, by simpa using I.len⟩ ⟨c, hs, .inr hc⟩
    · exact (hs.2 b (Nat.ne_of_lt (Nat.lt_of_lt_of_le (Heap.lt_size e) (I.ok.cab x c hfn hc)))).trans (I.base.keep b o e n hb hx)
    · obtain ⟨sl, e1⟩ := I.base.slot b o e n hb hx
      exact ⟨sl, (hs.2 b (Nat.ne_of_lt (Nat.lt_of_lt_of_le (Heap.lt_size e) (I.ok.cab x c hfn hc)))).trans e1⟩
    · obtain ⟨o', e1⟩ := I.base.there b o e hx
      exact ⟨o', (hs.2 b (Nat.ne_of_lt (Nat.lt_of_lt_of_le (Heap.lt_size e) (I.ok.cab x c hfn hc)))).trans e1⟩
    · by_cases hj : j = i
      · subst hj
        rw [hi] at e1; cases e1
        rw [List.getElem?_set_self hiσ] at e2
        cases e2
        exact ⟨u, r, .inr ⟨.inl hk, c, hc, hc'⟩⟩
      · rw [List.getElem?_set_ne (Ne.symm hj)] at e2
        obtain ⟨u', r', q⟩ := hl j y v' e1 e2 e3
        refine ⟨u', r', ?_⟩
        rcases q with q | ⟨k, c', e, z'⟩
        · exact .inl q
        · refine .inr ⟨k, c', e, z'.sameBut hs ?_⟩
          rintro rfl
          exact hj (nodup_ix hN e1 (I.ok.inj _ _ _ e hc ▸ hi))
    · by_cases hcc : c' = c
      · subst hcc; exact ⟨_, hc'⟩
      · obtain ⟨w2, z2⟩ := I.cell y c' e
        exact ⟨w2, z2.sameBut hs hcc⟩
    · obtain ⟨e, n, ne, nf, d⟩ := I.pin p hp
      refine ⟨(hs.2 p.1 ?_).trans e, n, ne, nf, d⟩
      intro q
      rw [q, hoc] at e
      have q' : oc = p.2 := Option.some.inj e
      exact d w' (by rw [← q']; exact hocd)
theorem store_ok {M : Model} {A : Around} {E : Value → Shared → Prop} {i : Nat} {x : Str} {v : V} {u : Value} {Q : Unit → Shared → Prop} (I : Inv X pins σ H s) (hN : X.N.Nodup) (hi : X.N[i]? = some x) (hx : Loc X.env.scope x) (r : RelV v u)
    (h : ∀ s', Inv X pins (σ.set i (some v)) H s' → Q () s') (hf : X.fn x = true ∨ X.env.scope.names.lookup x = some .local := by first | exact .inl rfl | exact .inr rfl | assumption) : wpAny M A (storeName X.env x u) Q E s :=
  store_ok2 I hN hi hx r (fun s' I' _ => h s' I') hf
/-- behind a call or a block, the state as it is -/
theorem Inv.call' {s' : Shared} {ch : List Addr} (I : Inv X pins σ H s) (ho : s'.os = s.os) (u : Un (frs X.stack) ch H H' s.heap s'.heap) (hok : HOk X.prog X.w H' s'.heap) (hg : AllBare s'.gens)
    (hch : ∀ b ∈ ch, (b ∈ X.ex ∨ X.s₀.heap.objs.size ≤ b) ∧ b ≠ X.env.locals ∧ (∀ x c, X.env.cells.lookup x = some c → c ≠ b) ∧ ∀ p ∈ X.pn ++ pins, p.1 ≠ b) : Inv X pins σ H' s' := by
  obtain ⟨h', g', d', t', o'⟩ := s'
  have e : o' = s.os := ho
  subst e
  exact I.call (g' := g') (t' := t') (d' := d') u hok hg hch
end

/-! ### the judgements -/
/-- an exception: its class, its own dict's address (where it has one), the abstract heap behind it -/
abbrev XK := Value → Option Addr → Hp → Prop
abbrev St := List (Option V)
abbrev VK := V → Hp → Prop
/-- an expression's reading; a test's; an argument list's -/
abbrev TE := St → Hp → VK → Prop
abbrev TT := St → Hp → (Bool → Hp → Prop) → Prop
abbrev TA := St → Hp → (List V → Hp → Prop) → Prop
/-- what is wanted behind a statement -/
structure Ends where
  nx : St → Hp → Prop
  rt : VK
  bk : St → Hp → Prop := fun _ _ => False
  ct : St → Hp → Prop := fun _ _ => False
abbrev TS := Ends → St → Hp → Prop

def EP (X : Cx) (pins : List (Addr × Obj)) (σ : St) (Q : VK) (u : Value) (s' : Shared) : Prop := ∃ v H', Inv X pins σ H' s' ∧ RelV v u ∧ Q v H'
def TP (X : Cx) (pins : List (Addr × Obj)) (σ : St) (Q : Bool → Hp → Prop) (b : Bool) (s' : Shared) : Prop := ∃ H', Inv X pins σ H' s' ∧ Q b H'
def AP (X : Cx) (pins : List (Addr × Obj)) (σ : St) (Q : List V → Hp → Prop) (us : List Value) (s' : Shared) : Prop := ∃ vs H', Inv X pins σ H' s' ∧ Vals vs us ∧ Q vs H'
def SP (X : Cx) (pins : List (Addr × Obj)) (D : Ends) (f : Flow) (s' : Shared) : Prop :=
  match f with
  | .next => ∃ σ' H', Inv X pins σ' H' s' ∧ D.nx σ' H'
  | .brk => ∃ σ' H', Inv X pins σ' H' s' ∧ D.bk σ' H'
  | .cont => ∃ σ' H', Inv X pins σ' H' s' ∧ D.ct σ' H'
  | .ret u => ∃ v σ' H', Inv X pins σ' H' s' ∧ RelV v u ∧ D.rt v H'

def PE (X : Cx) (e : Expr) (t : TE) : Prop :=
  ∀ (pins : List (Addr × Obj)) (s : Shared) (σ : St) (H : Hp) (Q : VK), Inv X pins σ H s → t σ H Q → wpAny (model X.prog X.w) X.A (eval e X.env) (EP X pins σ Q) X.xe s
def PT (X : Cx) (e : Expr) (t : TT) : Prop :=
  ∀ (pins : List (Addr × Obj)) (s : Shared) (σ : St) (H : Hp) (Q : Bool → Hp → Prop), Inv X pins σ H s → t σ H Q → wpAny (model X.prog X.w) X.A (isTrue e X.env (eval e X.env)) (TP X pins σ Q) X.xe s
/-- a test whatever its 'whole' is (and, or) -/
def PW (X : Cx) (e : Expr) (t : TT) : Prop :=
  ∀ (whole : Sem Value) (pins : List (Addr × Obj)) (s : Shared) (σ : St) (H : Hp) (Q : Bool → Hp → Prop), Inv X pins σ H s → t σ H Q → wpAny (model X.prog X.w) X.A (isTrue e X.env whole) (TP X pins σ Q) X.xe s
theorem PW.pt {X : Cx} {e : Expr} {t : TT} (h : PW X e t) : PT X e t := h _
/-- an argument list (no star), from the left -/
def PA (X : Cx) (es : List Expr) (t : TA) : Prop :=
  ∀ (pos : Pos) (pins : List (Addr × Obj)) (s : Shared) (σ : St) (H : Hp) (Q : List V → Hp → Prop), Inv X pins σ H s → t σ H Q → wpAny (model X.prog X.w) X.A (spliced (backTo pos (starEach es X.env))) (AP X pins σ Q) X.xe s
def PS (X : Cx) (st : Stmt) (t : TS) : Prop :=
  ∀ (pins : List (Addr × Obj)) (s : Shared) (σ : St) (H : Hp) (D : Ends), Inv X pins σ H s → t D σ H → wpAny (model X.prog X.w) X.A (exec st X.env) (SP X pins D) X.xe s
def PSs (X : Cx) (st : List Stmt) (t : TS) : Prop :=
  ∀ (pins : List (Addr × Obj)) (s : Shared) (σ : St) (H : Hp) (D : Ends), Inv X pins σ H s → t D σ H → wpAny (model X.prog X.w) X.A (execs st X.env) (SP X pins D) X.xe s
/-- weaken the end -/
theorem thn {α : Type} {t : Sem α} {Q Q' : α → Shared → Prop} {M : Model} {A : Around} {E : Value → Shared → Prop} {s : Shared} (h : wpAny M A t Q E s) (hQ : ∀ a s, Q a s → Q' a s) : wpAny M A t Q' E s := wpAny_mono h hQ fun _ _ x => x
end L2

namespace L2
open PySem PySem.Spec PyProof.Rows
section
variable {X : Cx}

/-! ### names and constants -/
def tVar (i : Nat) : TE := fun σ H Q => ∃ v, σ[i]? = some (some v) ∧ Q v H
def tC (v : V) : TE := fun _ H Q => Q v H
theorem pe_var {i : Nat} {x : Str} {pos : Pos} (hN : X.N[i]? = some x) (hv : Vis X.env.scope x) (hd : (x == ("__debug__" : Str)) = false := by decide) (hcd : (x == ("__classdict__" : Str)) = false := by decide) : PE X (.Name x pos) (tVar i) := by
  intro pins s σ H Q I h
  obtain ⟨v, e, h⟩ := h
  obtain ⟨m, hn, hl⟩ := I.loc
  obtain ⟨u, r, l⟩ := hl i x v hN e hv
  have fin : EP X pins σ Q u s := ⟨v, H, I, r, h⟩
  rcases l with ⟨hk, hm⟩ | ⟨hk, c, hc, hcell⟩
  · exact wpAny_Name (wpAny_loadName_local I.ok.kind hk hn hm fin) hd
  · rcases hk with hk | hk
    · exact wpAny_Name (wpAny_loadName_cell I.ok.kind hk hc hcell fin) hd
    · exact wpAny_Name (wpAny_loadName_free I.ok.kind hk hc hcell fin hcd) hd
theorem pe_int {i j pos} : PE X (.Constant (.int i) j pos) (tC (.int i)) := fun _ _ _ H _ I h => wpAny_Constant_int ⟨.int i, H, I.tok _, ⟨_, rfl⟩, h⟩
theorem pe_bl {b j pos} : PE X (.Constant (.bool b) j pos) (tC (.bl b)) := fun _ _ _ H _ I h => Constant_bool ⟨.bl b, H, I, rfl, h⟩
theorem pe_non {j pos} : PE X (.Constant .none j pos) (tC .non) := fun _ _ _ H _ I h => Constant_none ⟨.non, H, I, rfl, h⟩
theorem pe_str {x j pos} : PE X (.Constant (.str x) j pos) (tC (.str x)) := fun _ _ _ H _ I h => Calls.Constant_str ⟨.str x, H, I.tok _, ⟨_, rfl⟩, h⟩

/-- a global name of the def -/
def Gl (X : Cx) (x : Str) : Prop := X.env.kindOf x = some .globalImplicit
theorem ld_glob {E : Value → Shared → Prop} {pins : List (Addr × Obj)} {s : Shared} {σ : St} {H : Hp} {x : Str} {u : Value} {pos : Pos} {Q : Value → Shared → Prop} (I : Inv X pins σ H s) (hg : Gl X x) (hm : X.mg x = some u) (h : Q u s)
    (hd : (x == ("__debug__" : Str)) = false := by decide) : wpAny (model X.prog X.w) X.A (eval (.Name x pos) X.env) Q E s :=
  Calls.Name_function_global I.ok.kind hg (Calls.loadGlobal_global (by rw [I.ok.glob]; exact I.mod.glob.keeps I.bk) hm h) hd
theorem ld_blt {E : Value → Shared → Prop} {pins : List (Addr × Obj)} {s : Shared} {σ : St} {H : Hp} {x : Str} {u : Value} {pos : Pos} {Q : Value → Shared → Prop} (I : Inv X pins σ H s) (hg : Gl X x) (hm : X.mg x = none) (hv : bootBuiltins x = some u) (h : Q u s)
    (hn : x ≠ "__name__" := by decide) (hd : (x == ("__debug__" : Str)) = false := by decide) : wpAny (model X.prog X.w) X.A (eval (.Name x pos) X.env) Q E s := by
  obtain ⟨mb, h1, h2⟩ := I.mod.blt
  exact Calls.Name_function_global I.ok.kind hg (Calls.loadGlobal_builtin (by rw [I.ok.glob]; exact I.mod.glob.keeps I.bk) hm (by rw [I.ok.blt]; exact h1.keeps I.bk) ((h2 x hn).trans hv) h) hd
/-- a module's constant, a class, a function, as a value -/
theorem pe_glob {x : Str} {v : V} {u : Value} {pos : Pos} (hg : Gl X x) (hm : X.mg x = some u) (r : RelV v u) (hd : (x == ("__debug__" : Str)) = false := by decide) : PE X (.Name x pos) (tC v) :=
  fun _ _ _ H _ I h => ld_glob I hg hm ⟨v, H, I, r, h⟩ hd
theorem pe_bltn {x : Str} {v : V} {u : Value} {pos : Pos} (hg : Gl X x) (hm : X.mg x = none) (hv : bootBuiltins x = some u) (r : RelV v u) (hn : x ≠ "__name__" := by decide) (hd : (x == ("__debug__" : Str)) = false := by decide) : PE X (.Name x pos) (tC v) :=
  fun _ _ _ H _ I h => ld_blt I hg hm hv ⟨v, H, I, r, h⟩ hn hd

/-! ### arithmetic -/
/-- two ints -/
def t2I (ta tb : TE) (k : Int → Int → Hp → Prop) : St → Hp → Prop := fun σ H => ta σ H fun x H1 => tb σ H1 fun y H2 => ∃ i j, x = .int i ∧ y = .int j ∧ k i j H2
def tAdd (ta tb : TE) : TE := fun σ H Q => t2I ta tb (fun i j H2 => Q (.int (i + j)) H2) σ H
def tSub (ta tb : TE) : TE := fun σ H Q => t2I ta tb (fun i j H2 => Q (.int (i - j)) H2) σ H
/-- the left factor below 2^64 -/
def tMul (ta tb : TE) : TE := fun σ H Q => t2I ta tb (fun i j H2 => (-(2 ^ 64) < i ∧ i < 2 ^ 64) ∧ Q (.int (i * j)) H2) σ H
variable {a b : Expr} {ta tb : TE} {pos : Pos}
/-! ### comparisons -/
def PC (X : Cx) (op : CmpOp) (a b : Expr) (t : TE) : Prop :=
  ∀ (pins : List (Addr × Obj)) (s : Shared) (σ : St) (H : Hp) (Q : VK), Inv X pins σ H s → t σ H Q →
    wpAny (model X.prog X.w) X.A (eval a X.env) (fun v s₁ => wpAny (model X.prog X.w) X.A (eval b X.env) (fun u s₂ => wpAny (model X.prog X.w) X.A (compareOp op v u) (EP X pins σ Q) X.xe s₂) X.xe s₁) X.xe s
def tCmp (p : Int → Int → Bool) (ta tb : TE) : TE := fun σ H Q => t2I ta tb (fun i j H2 => Q (.bl (p i j)) H2) σ H
abbrev tLt : TE → TE → TE := tCmp fun i j => decide (i < j)
abbrev tLe : TE → TE → TE := tCmp fun i j => decide (i ≤ j)
abbrev tGt : TE → TE → TE := tCmp fun i j => decide (j < i)
abbrev tGe : TE → TE → TE := tCmp fun i j => decide (j ≤ i)
abbrev tEqI : TE → TE → TE := tCmp fun i j => decide (i = j)
abbrev tNeI : TE → TE → TE := tCmp fun i j => !decide (i = j)
/-- is None -/
def tIsN (ta : TE) : TE := fun σ H Q => ta σ H fun x H1 => Q (.bl (decide (x = .non))) H1
def tNotN (ta : TE) : TE := fun σ H Q => ta σ H fun x H1 => Q (.bl (!decide (x = .non))) H1
/-- a comparison as a value, as a test -/
def tB (t : TE) : TT := fun σ H Q => t σ H fun x H1 => ∃ c, x = .bl c ∧ Q c H1
/-- an expression whose value is a bool, as a test -/
theorem pt_val {e : Expr} {t : TE} (h : PE X e t) (he : ∀ whole, isTrue e X.env whole = (do let v ← whole; standAt e.pos; holding [v] (truthy v)) := by intro _; rfl) : PT X e (tB t) := by
  intro pins s σ H Q I hw
  refine isTrue_plain (thn (h pins s σ H _ I hw) fun v s1 ⟨x, H1, I1, r1, q1⟩ => ?_) (he _)
  obtain ⟨d, rfl, q⟩ := q1
  cases r1
  exact wpAny_truthy_bool ⟨H1, I1, q⟩

/-! ### and, or, not -/
variable {tA tB' : TT} {rest : List Expr}
def tAnd (t u : TT) : TT := fun σ H Q => t σ H fun c H1 => if c = true then u σ H1 Q else Q false H1
def tOr (t u : TT) : TT := fun σ H Q => t σ H fun c H1 => if c = true then Q true H1 else u σ H1 Q
def tNot (t : TT) : TT := fun σ H Q => t σ H fun c H1 => Q (!c) H1
theorem pw_and1 (ha : PT X a tA) : PW X (.BoolOp .And [a] pos) tA := by
  intro wh pins s σ H Q I h
  refine isTrue_and (thn (ha pins s σ H Q I h) fun c s1 e => ?_)
  cases c with
  | true => exact isTrue_and_nil e
  | false => exact e
theorem pw_or1 (ha : PT X a tA) : PW X (.BoolOp .Or [a] pos) tA := by
  intro wh pins s σ H Q I h
  refine isTrue_or (thn (ha pins s σ H Q I h) fun c s1 e => ?_)
  cases c with
  | false => exact isTrue_or_nil e
  | true => exact e
theorem pw_and (ha : PT X a tA) (hb : PW X (.BoolOp .And (b :: rest) pos) tB') : PW X (.BoolOp .And (a :: b :: rest) pos) (tAnd tA tB') := by
  intro wh pins s σ H Q I h
  refine isTrue_and (thn (ha pins s σ H _ I h) fun c s1 ⟨H1, I1, q1⟩ => ?_)
  cases c with
  | true => exact hb wh pins s1 σ H1 Q I1 q1
  | false => exact ⟨H1, I1, q1⟩
theorem pw_or (ha : PT X a tA) (hb : PW X (.BoolOp .Or (b :: rest) pos) tB') : PW X (.BoolOp .Or (a :: b :: rest) pos) (tOr tA tB') := by
  intro wh pins s σ H Q I h
  refine isTrue_or (thn (ha pins s σ H _ I h) fun c s1 ⟨H1, I1, q1⟩ => ?_)
  cases c with
  | true => exact ⟨H1, I1, q1⟩
  | false => exact hb wh pins s1 σ H1 Q I1 q1
theorem pt_not (ha : PT X a tA) : PT X (.UnaryOp .Not a pos) (tNot tA) := by
  intro pins s σ H Q I h
  exact isTrue_not (ha pins s σ H (fun c H1 => Q (!c) H1) I h)
/-- .. as values (bools) -/
def tAndV (ta tb : TE) : TE := fun σ H Q => ta σ H fun x H1 => ∃ c, x = .bl c ∧ if c = true then tb σ H1 Q else Q (.bl false) H1
def tOrV (ta tb : TE) : TE := fun σ H Q => ta σ H fun x H1 => ∃ c, x = .bl c ∧ if c = true then Q (.bl true) H1 else tb σ H1 Q
def tNotV (ta : TE) : TE := fun σ H Q => ta σ H fun x H1 => ∃ c, x = .bl c ∧ Q (.bl (!c)) H1
theorem pe_one {op} {t : TE} (h : PE X a t) : PE X (.BoolOp op [a] pos) t := fun pins s σ H Q I hw => BoolOp_one (h pins s σ H Q I hw)
theorem pe_and (ha : PE X a ta) (hb : PE X (.BoolOp .And (b :: rest) pos) tb) : PE X (.BoolOp .And (a :: b :: rest) pos) (tAndV ta tb) := by
  intro pins s σ H Q I h
  refine BoolOp_and (thn (ha pins s σ H _ I h) fun v s1 ⟨x, H1, I1, r1, q1⟩ => ?_)
  obtain ⟨c, rfl, q1⟩ := q1
  cases r1
  refine wpAny_truthy_bool ?_
  cases c with
  | true => exact hb pins s1 σ H1 Q I1 q1
  | false => exact ⟨.bl false, H1, I1, rfl, q1⟩
theorem pe_not (ha : PE X a ta) : PE X (.UnaryOp .Not a pos) (tNotV ta) := by
  intro pins s σ H Q I h
  refine UnaryOp_ (thn (ha pins s σ H _ I h) fun v s1 ⟨x, H1, I1, r1, q1⟩ => ?_)
  obtain ⟨c, rfl, q1⟩ := q1
  cases r1
  exact not_of (wpAny_truthy_bool ⟨.bl (!c), H1, I1, rfl, q1⟩)
/-- a if t else b -/
def tIf (t : TT) (ta tb : TE) : TE := fun σ H Q => t σ H fun c H1 => if c = true then ta σ H1 Q else tb σ H1 Q
theorem pe_ifExp {c : Expr} (hc : PT X c tA) (ha : PE X a ta) (hb : PE X b tb) : PE X (.IfExp c a b pos) (tIf tA ta tb) := by
  intro pins s σ H Q I h
  refine wpAny_IfExp (thn (hc pins s σ H _ I h) fun d s1 ⟨H1, I1, q1⟩ => ?_)
  cases d with
  | true => exact ha pins s1 σ H1 Q I1 q1
  | false => exact hb pins s1 σ H1 Q I1 q1
end
end L2

namespace L2
open PySem PySem.Spec PyProof.Rows

/-! ### a list, a tuple that is read: tracked, frozen, or an object of the module -/
def SqL (K : PySem.W.Frag) (H : Hp) (a : Addr) (xs : List V) : Prop :=
  Rd H a (.lst xs) ∨
    ∃ (o : Obj) (its : Array Value) (n : Nat), K.lookup a = some o ∧ o.cls = .type "list" ∧ o.dict = none ∧ o.data = .seq its n ∧ its.size ≤ sizeLine ∧ Vals xs its.toList
def SqT (K : PySem.W.Frag) (H : Hp) (a : Addr) (xs : List V) : Prop :=
  Rd H a (.tup xs) ∨
    ∃ (o : Obj) (its : Array Value) (n : Nat), K.lookup a = some o ∧ o.cls = .type "tuple" ∧ o.data = .seq its n ∧ its.size ≤ sizeLine ∧ Vals xs its.toList
def absV : Value → Option V
  | .none => some .non
  | .bool b => some (.bl b)
  | .int i _ => some (.int i)
  | .str x _ => some (.str x)
  | .bytes b _ => some (.byt b)
  | .float b _ => some (.flt b)
  | .ref a => some (.ref a)
  | .type n => some (.ty n)
  | _ => none
theorem RelV.abs {x : V} {u : Value} (r : RelV x u) : absV u = some x := by
  cases x with
  | non => cases r; rfl
  | bl _ => cases r; rfl
  | int _ => obtain ⟨t, rfl⟩ := r; rfl
  | str _ => obtain ⟨t, rfl⟩ := r; rfl
  | byt _ => obtain ⟨t, rfl⟩ := r; rfl
  | flt _ => obtain ⟨t, rfl⟩ := r; rfl
  | ref _ => cases r; rfl
  | ty _ => cases r; rfl
theorem RelV.inj {x y : V} {u : Value} (r : RelV x u) (q : RelV y u) : x = y := Option.some.inj (r.abs.symm.trans q.abs)
theorem Vals.inj : ∀ {xs ys : List V} {us : List Value}, Vals xs us → Vals ys us → xs = ys
  | _, _, _, .nil, .nil => rfl
  | _, _, _, .cons r t, .cons r' t' => by rw [r.inj r', Vals.inj t t']
section
variable {X : Cx} {pins : List (Addr × Obj)} {σ : St} {H : Hp} {s : Shared} {a : Addr} {xs ys : List V}
theorem SqL.of {K : PySem.W.Frag} (h : H a = some (.lst xs)) : SqL K H a xs := .inl (.inl h)
theorem SqT.of {K : PySem.W.Frag} (h : H a = some (.tup xs)) : SqT K H a xs := .inl (.inl h)
theorem Inv.list (I : Inv X pins σ H s) (h : SqL X.K H a xs) : ∃ its : List Value, Vals xs its ∧ PlainL s.heap a its.toArray ∧ xs.length ≤ sizeLine := by
  rcases h with h | ⟨o, its, n, hk, hc, hd, hs, hz, r⟩
  · obtain ⟨z, its, n, r, e⟩ := h.ok I.hok
    exact ⟨its, r, ⟨_, n, e, rfl, rfl, rfl⟩, z⟩
  · refine ⟨its.toList, r, ⟨o, n, I.kIn a o hk, hc, hd, by simpa using hs⟩, ?_⟩
    have e := r.length
    simp only [Array.length_toList] at e
    omega
theorem Inv.tuple (I : Inv X pins σ H s) (h : SqT X.K H a xs) : ∃ its : List Value, Vals xs its ∧ IsTup s.heap a its.toArray ∧ xs.length ≤ sizeLine := by
  rcases h with h | ⟨o, its, n, hk, hc, hs, hz, r⟩
  · obtain ⟨z, its, r, p⟩ := h.ok I.hok
    exact ⟨its, r, p, z⟩
  · refine ⟨its.toList, r, ⟨o, I.kIn a o hk, hc, n, by simpa using hs⟩, ?_⟩
    have e := r.length
    simp only [Array.length_toList] at e
    omega
theorem Inv.list_inj (I : Inv X pins σ H s) (h : SqL X.K H a xs) (h' : SqL X.K H a ys) : xs = ys := by
  obtain ⟨its, r, ⟨o, n, e, _, _, d⟩, _⟩ := I.list h
  obtain ⟨its', r', ⟨o', n', e', _, _, d'⟩, _⟩ := I.list h'
  rw [e] at e'; cases e'
  rw [d] at d'
  injection d' with d1 _
  have : its = its' := by simpa using congrArg Array.toList d1
  subst this
  exact r.inj r'
theorem Inv.tuple_inj (I : Inv X pins σ H s) (h : SqT X.K H a xs) (h' : SqT X.K H a ys) : xs = ys := by
  obtain ⟨its, r, ⟨o, e, _, n, d⟩, _⟩ := I.tuple h
  obtain ⟨its', r', ⟨o', e', _, n', d'⟩, _⟩ := I.tuple h'
  rw [e] at e'; cases e'
  rw [d] at d'
  injection d' with d1 _
  have : its = its' := by simpa using congrArg Array.toList d1
  subst this
  exact r.inj r'
end

/-! ### another wish about exceptions -/
abbrev Cx.wish (X : Cx) (E : Value → Shared → Prop) : Cx := { X with xe := E }
/-- no exception leaves -/
abbrev Cx.nox (X : Cx) : Cx := X.wish fun _ _ => False
theorem Cx.Ok.wish {X : Cx} (ok : X.Ok) (E : Value → Shared → Prop) : (X.wish E).Ok :=
  ⟨ok.mod, ok.kind, ok.glob, ok.blt, ok.above, ok.inj, ok.has, ok.cab, ok.hd, ok.frames, ok.stk, ok.exf, ok.bs, ok.bsz, ok.noex, ok.exfs, ok.funs, ok.frf⟩
theorem Cx.Ok.unwish {X : Cx} {E : Value → Shared → Prop} (ok : (X.wish E).Ok) : X.Ok :=
  ⟨ok.mod, ok.kind, ok.glob, ok.blt, ok.above, ok.inj, ok.has, ok.cab, ok.hd, ok.frames, ok.stk, ok.exf, ok.bs, ok.bsz, ok.noex, ok.exfs, ok.funs, ok.frf⟩
section
variable {X : Cx} {pins : List (Addr × Obj)} {σ : St} {H : Hp} {s : Shared} {E : Value → Shared → Prop}
theorem Inv.wish (I : Inv X pins σ H s) (E : Value → Shared → Prop) : Inv (X.wish E) pins σ H s := ⟨I.ok.wish E, I.os, I.bare, I.base, I.loc, I.cell, I.free, I.freeC, I.pin, I.hok, I.len⟩
theorem Inv.unwish (I : Inv (X.wish E) pins σ H s) : Inv X pins σ H s := ⟨I.ok.unwish, I.os, I.bare, I.base, I.loc, I.cell, I.free, I.freeC, I.pin, I.hok, I.len⟩
theorem SP.unwish {D : Ends} {f : Flow} {s' : Shared} (h : SP (X.wish E) pins D f s') : SP X pins D f s' := by
  cases f with
  | next => obtain ⟨σ', H', I, q⟩ := h; exact ⟨σ', H', I.unwish, q⟩
  | brk => obtain ⟨σ', H', I, q⟩ := h; exact ⟨σ', H', I.unwish, q⟩
  | cont => obtain ⟨σ', H', I, q⟩ := h; exact ⟨σ', H', I.unwish, q⟩
  | ret u => obtain ⟨v, σ', H', I, r, q⟩ := h; exact ⟨v, σ', H', I.unwish, r, q⟩
theorem PE.nox {e : Expr} {t : TE} (h : PE X.nox e t) : PE X e t := fun pins s σ H Q I hw =>
  wpAny_mono (h pins s σ H Q (I.wish _) hw) (fun _ _ ⟨v, H', I', r, q⟩ => ⟨v, H', I'.unwish, r, q⟩) fun _ _ z => False.elim z
theorem PT.nox {e : Expr} {t : TT} (h : PT X.nox e t) : PT X e t := fun pins s σ H Q I hw =>
  wpAny_mono (h pins s σ H Q (I.wish _) hw) (fun _ _ ⟨H', I', q⟩ => ⟨H', I'.unwish, q⟩) fun _ _ z => False.elim z
theorem PSs.nox {st : List Stmt} {t : TS} (h : PSs X.nox st t) : PSs X st t := fun pins s σ H D I hw =>
  wpAny_mono (h pins s σ H D (I.wish _) hw) (fun _ _ q => q.unwish) fun _ _ z => False.elim z
end

/-! ### blocks and small statements -/
section
variable {X : Cx} {st : Stmt} {rest : List Stmt} {t u : TS} {e : Expr} {te : TE} {pos : Pos}
def tNext : TS := fun D σ H => D.nx σ H
def tSeq (t u : TS) : TS := fun D σ H => t { D with nx := u D } σ H
theorem pss_nil : PSs X [] tNext := fun _ _ σ H _ I h => wpAny_execs_nil ⟨σ, H, I, h⟩
theorem pss_cons (h1 : PS X st t) (h2 : PSs X rest u) : PSs X (st :: rest) (tSeq t u) := by
  intro pins s σ H D I h
  refine wpAny_execs_cons (thn (h1 pins s σ H { D with nx := u D } I h) fun f s1 q => ?_)
  cases f with
  | next =>
    obtain ⟨σ', H', I', q⟩ := q
    exact h2 pins s1 σ' H' D I' q
  | ret v => exact q
  | brk => exact q
  | cont => exact q
theorem pss_one (h1 : PS X st t) : PSs X [st] t := by
  intro pins s σ H D I h
  refine wpAny_execs_cons (thn (h1 pins s σ H D I h) fun f s1 q => ?_)
  cases f with
  | next => exact wpAny_execs_nil q
  | ret v => exact q
  | brk => exact q
  | cont => exact q
def tBreak : TS := fun D σ H => D.bk σ H
def tCont : TS := fun D σ H => D.ct σ H
/-- in a def's body nothing is shown -/
theorem Inv.quiet {pins : List (Addr × Obj)} {σ : St} {H : Hp} {s : Shared} (I : Inv X pins σ H s) : interactive X.env = false := by simp [interactive, I.ok.kind]
/-- an expression whose value is dropped -/
def tDrop (te : TE) : TS := fun D σ H => te σ H fun _ H1 => D.nx σ H1
theorem ps_expr (he : PE X e te) (hs : swapsWith e none pos.line X.env = pure false := by rfl) : PS X (.Expr e pos) (tDrop te) := by
  intro pins s σ H D I h
  exact wpAny_Expr_any (thn (he pins s σ H _ I h) fun v s1 ⟨x, H1, I1, r1, q1⟩ => ⟨σ, H1, I1, q1⟩) I.quiet hs
def tRet (te : TE) : TS := fun D σ H => te σ H D.rt
theorem ps_ret (he : PE X e te) : PS X (.Return (some e) pos) (tRet te) := by
  intro pins s σ H D I h
  exact wpAny_Return_some (thn (he pins s σ H _ I h) fun v s1 ⟨x, H1, I1, r1, q1⟩ => ⟨x, σ, H1, I1, r1, q1⟩)
def tRetN : TS := fun D _ H => D.rt .non H
def tIfS (c : TT) (t u : TS) : TS := fun D σ H => c σ H fun b H1 => if b = true then t D σ H1 else u D σ H1
theorem ps_if {c : Expr} {a b : List Stmt} {tc : TT} (hc : PT X c tc) (ha : PSs X a t) (hb : PSs X b u) : PS X (.If c a b pos) (tIfS tc t u) := by
  intro pins s σ H D I h
  refine wpAny_If (thn (hc pins s σ H _ I h) fun d s1 ⟨H1, I1, q1⟩ => ?_)
  cases d with
  | true => exact ha pins s1 σ H1 D I1 q1
  | false => exact hb pins s1 σ H1 D I1 q1
/-- code that the proof never comes to -/
def tNever : TS := fun _ _ _ => False
end

/-! ### targets -/
abbrev TG := V → St → Hp → (St → Hp → Prop) → Prop
abbrev TGs := List V → St → Hp → (St → Hp → Prop) → Prop
def PG (X : Cx) (target : Expr) (t : TG) : Prop :=
  ∀ (pins : List (Addr × Obj)) (s : Shared) (σ : St) (H : Hp) (v : V) (u : Value) (Q : St → Hp → Prop), Inv X pins σ H s → RelV v u → t v σ H Q →
    wpAny (model X.prog X.w) X.A (assign target X.env u) (fun _ s' => ∃ σ' H', Inv X pins σ' H' s' ∧ Q σ' H') X.xe s
/-- several targets, one after another -/
def PGs (X : Cx) (ts : List Expr) (t : TGs) : Prop :=
  ∀ (pins : List (Addr × Obj)) (s : Shared) (σ : St) (H : Hp) (vs : List V) (us : List Value) (Q : St → Hp → Prop), Inv X pins σ H s → Vals vs us → t vs σ H Q →
    wpAny (model X.prog X.w) X.A (assignInOrder ((assignEach ts X.env).map (·.2)) us) (fun _ s' => ∃ σ' H', Inv X pins σ' H' s' ∧ Q σ' H') X.xe s
/-- o[i] = v, by values -/
abbrev TSet := V → V → V → Hp → (Hp → Prop) → Prop
def PSet (X : Cx) (t : TSet) : Prop :=
  ∀ (pins : List (Addr × Obj)) (s : Shared) (σ : St) (H : Hp) (o i v : V) (ov iv u : Value) (Q : Hp → Prop), Inv X pins σ H s → RelV o ov → RelV i iv → RelV v u → t o i v H Q →
    wpAny (model X.prog X.w) X.A (setItem ov iv u) (fun _ s' => ∃ H', Inv X pins σ H' s' ∧ Q H') X.xe s
/-- a op= b, by values -/
abbrev TIp := V → V → Hp → VK → Prop
def PIp (X : Cx) (op : Operator) (t : TIp) : Prop :=
  ∀ (pins : List (Addr × Obj)) (s : Shared) (σ : St) (H : Hp) (x y : V) (v u : Value) (Q : VK), Inv X pins σ H s → RelV x v → RelV y u → t x y H Q →
    wpAny (model X.prog X.w) X.A (inplaceOp op v u) (EP X pins σ Q) X.xe s
section
variable {X : Cx} {pos : Pos}
def gName (i : Nat) : TG := fun v σ H Q => Q (σ.set i (some v)) H
theorem pg_name {i : Nat} {x : Str} (hN : X.N.Nodup) (hi : X.N[i]? = some x) (hx : Loc X.env.scope x) (hf : X.fn x = true ∨ X.env.scope.names.lookup x = some .local := by first | exact .inl rfl | exact .inr rfl | assumption) : PG X (.Name x pos) (gName i) := by
  intro pins s σ H v u Q I r h
  exact wpAny_assign_Name (store_ok I hN hi hx r (fun s' I' => ⟨_, H, I', h⟩) hf)
def gNil : TGs := fun vs σ H Q => vs = [] ∧ Q σ H
def gCons (t : TG) (u : TGs) : TGs := fun vs σ H Q => ∃ v r, vs = v :: r ∧ t v σ H fun σ' H' => u r σ' H' Q
theorem pgs_nil : PGs X [] gNil := by
  intro pins s σ H vs us Q I r h
  obtain ⟨e, h⟩ := h
  subst e
  cases r
  exact assignInOrder_nil ⟨σ, H, I, h⟩
theorem pgs_cons {e : Expr} {es : List Expr} {t : TG} {u : TGs} (h1 : PG X e t) (h2 : PGs X es u)
    (hs : (assignEach (e :: es) X.env).map (·.2) = assign e X.env :: (assignEach es X.env).map (·.2) := by rfl) : PGs X (e :: es) (gCons t u) := by
  intro pins s σ H vs us Q I r h
  obtain ⟨v, vr, e1, h⟩ := h
  subst e1
  cases r with
  | cons r rr =>
    rw [hs]
    refine assignInOrder_cons (thn (h1 pins s σ H _ _ _ I r h) fun _ s1 ⟨σ1, H1, I1, q1⟩ => ?_)
    exact h2 pins s1 σ1 H1 _ _ Q I1 rr q1
/-- (a, b, ..) = a tuple of that length -/
def gTup (K : PySem.W.Frag) (n : Nat) (t : TGs) : TG := fun v σ H Q => ∃ a xs, v = .ref a ∧ SqT K H a xs ∧ xs.length = n ∧ t xs σ H Q
theorem pg_tup {es : List Expr} {k : Nat} {t : TGs} {n : Nat} (hc : X.calm = true) (h : PGs X es t)
    (hn : (assignEach es X.env).length = n := by rfl) (hst : (assignEach es X.env).findIdx? (·.1) = none := by rfl) : PG X (.Tuple es k pos) (gTup X.K n t) := by
  intro pins s σ H v u Q I r hw
  obtain ⟨a, xs, e1, hq, hl, hw⟩ := hw
  subst e1
  cases r
  obtain ⟨its, rv, ht, hz⟩ := I.tuple hq
  refine assign_Tuple_tuple (I.ok.hd hc) ht (by simp [hn, ← hl, rv.length]) hst fun h' hx => ?_
  have I1 : Inv X pins σ H { s with heap := h' } := I.kept (t' := s.toks) fun b o e => hx b o (Nat.ne_of_lt (Heap.lt_size e)) e
  exact h pins _ σ H xs _ Q I1 (by simpa using rv) hw
/-- o[i] = .. -/
def gSub (to ti : TE) (t : TSet) : TG := fun v σ H Q => to σ H fun o H1 => ti σ H1 fun i H2 => t o i v H2 fun H3 => Q σ H3
/-- target = value -/
def tAsg (te : TE) (g : TG) : TS := fun D σ H => te σ H fun x H1 => g x σ H1 D.nx
theorem ps_asg {tg e : Expr} {te : TE} {g : TG} (he : PE X e te) (hg : PG X tg g) (hs : swapsWithSole [tg] e pos.line X.env = pure false := by rfl) (hw : swappedStores [tg] e X.env = pure none := by rfl)
    (h1 : (assignEach [tg] X.env).map (·.2) = [assign tg X.env] := by rfl) : PS X (.Assign [tg] e pos) (tAsg te g) := by
  intro pins s σ H D I h
  refine wpAny_Assign_stores (thn (he pins s σ H _ I h) fun v s1 ⟨x, H1, I1, r1, q1⟩ => ?_) hs hw
  rw [h1]
  exact thn (hg pins s1 σ H1 x v _ I1 r1 q1) fun _ s2 q => q
/-- name = value -/
theorem ps_set {i : Nat} {x : Str} {e : Expr} {te : TE} {pos' : Pos} (hN : X.N.Nodup) (hi : X.N[i]? = some x) (hx : Loc X.env.scope x) (he : PE X e te) (hs : swapsWith e (some (.Name x pos')) pos.line X.env = pure false := by rfl) (hf : X.fn x = true ∨ X.env.scope.names.lookup x = some .local := by first | exact .inl rfl | exact .inr rfl | assumption) :
    PS X (.Assign [.Name x pos'] e pos) (tAsg te (gName i)) := by
  intro pins s σ H D I h
  refine wpAny_Assign_Name (thn (he pins s σ H _ I h) fun v s1 ⟨y, H1, I1, r1, q1⟩ => ?_) hs
  exact store_ok I1 hN hi hx r1 (fun s2 I2 => ⟨_, H1, I2, q1⟩) hf
/-- a, b = x, y with plain local names: stored from the right; the pair itself is not tracked (the opening rows as in PyProof/Rows/TupAssign.lean:23) -/
def tPar (i j : Nat) (ta : TA) : TS := fun D σ H => ta σ H fun vs H1 => ∃ v w, vs = [v, w] ∧ D.nx ((σ.set i (some v)).set j (some w)) H1
/-- name op= e -/
def tAug (i : Nat) (te : TE) (ti : TIp) : TS := fun D σ H => ∃ x, σ[i]? = some (some x) ∧ te σ H fun y H1 => ti x y H1 fun z H2 => D.nx (σ.set i (some z)) H2
/-- o[i] op= e -/
def tAugS (to ti te : TE) (tget : V → V → Hp → VK → Prop) (tip : TIp) (tset : TSet) : TS := fun D σ H => to σ H fun o H1 => ti σ H1 fun i H2 => tget o i H2 fun x H3 => te σ H3 fun y H4 => tip x y H4 fun z H5 => tset o i z H5 fun H6 => D.nx σ H6
/-- o[i], by values -/
def PGet (X : Cx) (t : V → V → Hp → VK → Prop) : Prop :=
  ∀ (pins : List (Addr × Obj)) (s : Shared) (σ : St) (H : Hp) (o i : V) (ov iv : Value) (Q : VK), Inv X pins σ H s → RelV o ov → RelV i iv → t o i H Q →
    wpAny (model X.prog X.w) X.A (getItem ov iv) (EP X pins σ Q) X.xe s
/-- ints -/
def ipI (f : Int → Int → Int) : TIp := fun x y H Q => ∃ i j, x = .int i ∧ y = .int j ∧ Q (.int (f i j)) H
end

/-! ### while -/
section
variable {X : Cx} {pos : Pos}
/-- the invariant W with its measure -/
def tWhile (c : TT) (tb : TS) : TS := fun D σ H => ∃ W : Nat → St → Hp → Prop, (∃ m, W m σ H) ∧ ∀ m σ H, W m σ H →
  c σ H fun b H1 => if b = true then ∃ N : St → Hp → Prop, (∀ σ' H', N σ' H' → ∃ m', m' < m ∧ W m' σ' H') ∧ tb { D with nx := N, ct := N, bk := D.nx } σ H1 else D.nx σ H1
theorem ps_while {c : Expr} {body : List Stmt} {tc : TT} {tb : TS} (hp : PassesOwn (model X.prog X.w) X.A X.env X.xe) (hc : PT X c tc) (hb : PSs X body tb) : PS X (.While c body [] pos) (tWhile tc tb) := by
  intro pins s σ H D I h
  obtain ⟨W, ⟨m0, w0⟩, turn⟩ := h
  refine wpAny_While (codeAny_whileLoop (fun n s' => ∃ σ' H', Inv X pins σ' H' s' ∧ W n σ' H') ?_ m0 ⟨σ, H, I, w0⟩)
  rintro n s1 ⟨σ1, H1, I1, w1⟩
  refine wpAny_passesOwn hp (thn (hc pins s1 σ1 H1 _ I1 (turn n σ1 H1 w1)) fun b s2 ⟨H2, I2, q2⟩ => ?_)
  cases b with
  | true =>
    obtain ⟨N, hN, q2⟩ := q2
    rw [if_pos rfl]
    refine wpAny_passesOwn hp (thn (hb pins s2 σ1 H2 _ I2 q2) fun f s3 q3 => ?_)
    cases f with
    | next =>
      obtain ⟨σ3, H3, I3, n3⟩ := q3
      obtain ⟨m', hm, w3⟩ := hN σ3 H3 n3
      exact ⟨m', hm, σ3, H3, I3, w3⟩
    | cont =>
      obtain ⟨σ3, H3, I3, n3⟩ := q3
      obtain ⟨m', hm, w3⟩ := hN σ3 H3 n3
      exact ⟨m', hm, σ3, H3, I3, w3⟩
    | brk => exact q3
    | ret v => exact q3
  | false =>
    rw [if_neg Bool.false_ne_true]
    exact wpAny_execs_nil ⟨σ1, H2, I2, q2⟩
end

/-! ### what a loop or a comprehension walks -/
/-- at turn i: it yields x (the heap may grow), or it stops -/
structure It where
  go : Nat → Hp → Prop
  yld : Nat → Hp → V → Hp → Prop
  stop : Nat → Hp → Prop
/-- the iterator's own objects may turn: they are not the frame's, not pinned, younger than the entry (or a comprehension's own) -/
def FpOk (X : Cx) (pins : List (Addr × Obj)) (H : Hp) (b : Addr) : Prop :=
  H b = none ∧ b ≠ X.env.locals ∧ b ∉ X.fs ∧ (b ∈ X.ex ∨ X.s₀.heap.objs.size ≤ b) ∧ (∀ x c, X.env.cells.lookup x = some c → c ≠ b) ∧ ∀ p ∈ X.pn ++ pins, p.1 ≠ b
theorem Inv.fpOk {X : Cx} {pins : List (Addr × Obj)} {σ : St} {H H' : Hp} {s : Shared} {b : Addr} (I : Inv X pins σ H s) (hb : s.heap.objs.size ≤ b) (hn : H' b = none) : FpOk X pins H' b := by
  refine ⟨hn, Nat.ne_of_gt (Nat.lt_of_lt_of_le I.lt hb), I.nofs hb, .inr (Nat.le_trans I.sz hb), fun x c e z => ?_, fun p hp z => ?_⟩
  · obtain ⟨v, q⟩ := I.cell x c e
    exact absurd (Nat.lt_of_lt_of_le q.lt (by rw [z]; exact hb)) (Nat.lt_irrefl _)
  · exact absurd (Nat.lt_of_lt_of_le (Heap.lt_size (I.pin p hp).1) (by rw [z]; exact hb)) (Nat.lt_irrefl _)
structure Turn (P : Program) (w : World) (K : PySem.W.Frag) (tg : Expr) (J : It) (fp : List Addr) (it : Addr) (tn : Nat → Heap → Prop) : Prop where
  mem : it ∈ fp
  obj : ∀ i h, tn i h → ∀ b ∈ fp, ∃ o, h.get? b = some o ∧ ∀ v, o.data ≠ .cell v
  keep : ∀ i h h', tn i h → (∀ b ∈ fp, ∀ o, h.get? b = some o → h'.get? b = some o) → tn i h'
  item : ∀ (X : Cx), X.prog = P → X.w = w → X.K = K → X.calm = true → ∀ (i : Nat) (pins : List (Addr × Obj)) (s : Shared) (σ : St) (H : Hp) (E : Value → Shared → Prop), Inv X pins σ H s → (∀ b ∈ fp, FpOk X pins H b) → tn i s.heap → J.go i H →
    wpAny (model P w) X.A (pyNext (.ref it)) (fun r s1 => ∃ u, r = some u ∧
      wpAny (model P w) X.A (letOwnedTupleGo tg (.ref it) u) (fun _ s2 => ∃ x H', Inv X pins σ H' s2 ∧ RelV x u ∧ J.yld i H x H' ∧ tn (i + 1) s2.heap ∧ ∀ b ∈ fp, H' b = none) E s1) E s
  done : ∀ (X : Cx), X.prog = P → X.w = w → X.K = K → X.calm = true → ∀ (i : Nat) (pins : List (Addr × Obj)) (s : Shared) (σ : St) (H : Hp) (E : Value → Shared → Prop), Inv X pins σ H s → (∀ b ∈ fp, FpOk X pins H b) → tn i s.heap → J.stop i H →
    wpAny (model P w) X.A (pyNext (.ref it)) (fun r s1 => r = none ∧ Inv X pins σ H s1) E s
  self : ∀ (A : Around) (i : Nat) (s : Shared) (Q : Value → Shared → Prop) (E : Value → Shared → Prop), tn i s.heap → Q (.ref it) s → wpAny (model P w) A (pyIter (.ref it)) Q E s
abbrev TI := St → Hp → (It → Hp → Prop) → Prop
/-- an iterator has come -/
def PIE (X : Cx) (pins : List (Addr × Obj)) (σ : St) (tg : Expr) (R : It → Hp → Prop) (itv : Value) (s2 : Shared) : Prop :=
  ∃ (it : Addr) (fp : List Addr) (tn : Nat → Heap → Prop) (J : It) (H' : Hp), itv = .ref it ∧ Inv X pins σ H' s2 ∧ Turn X.prog X.w X.K tg J fp it tn ∧ tn 0 s2.heap ∧ (∀ b ∈ fp, FpOk X pins H' b) ∧ R J H'
def PI (X : Cx) (tg iter : Expr) (wi : TI) : Prop :=
  ∀ (pins : List (Addr × Obj)) (s : Shared) (σ : St) (H : Hp) (R : It → Hp → Prop), Inv X pins σ H s → wi σ H R →
    wpAny (model X.prog X.w) X.A (eval iter X.env) (fun v s1 => wpAny (model X.prog X.w) X.A (pyIter v) (PIE X pins σ tg R) X.xe s1) X.xe s

/-- the step ahead of the store is nothing for an iterator that keeps no tuple -/
theorem go_of {M : Model} {A : Around} {E : Value → Shared → Prop} {s : Shared} {tg : Expr} {it : Addr} {u : Value} {o : Obj} {n : String} {vs : Array Value} {Q : Unit → Shared → Prop} (ho : s.heap.get? it = some o) (hc : o.cls = .type n) (hd : o.data = .fields vs)
    (hn : ["enumerate", "zip", "dict_itemiterator", "dict_reverseitemiterator", "odict_iterator", "itertools.zip_longest", "itertools.pairwise"].contains n = false) (hQ : Q () s) : wpAny M A (letOwnedTupleGo tg (.ref it) u) Q E s := by
  unfold letOwnedTupleGo
  cases tg <;> first
    | exact wpAny_pure hQ
    | (cases u <;> first
        | exact wpAny_pure hQ
        | (refine wpAny_bind (wpAny_load ho ?_)
           rw [hc, hd]
           show wpAny M A (if (["enumerate", "zip", "dict_itemiterator", "dict_reverseitemiterator", "odict_iterator", "itertools.zip_longest", "itertools.pairwise"].contains n && vs[0]? == some (rawInt _)) = true then _ else _) Q E s
           rw [if_neg (by intro h; rw [hn, Bool.false_and] at h; cases h)]
           exact wpAny_pure hQ))

/-- the list at a, as it stands at each turn (a loop may append to it) -/
def Itl (K : PySem.W.Frag) (a : Addr) : It :=
  ⟨fun i H => ∃ xs x, SqL K H a xs ∧ xs[i]? = some x, fun i H x H' => H' = H ∧ ∀ xs, SqL K H a xs → xs[i]? = some x, fun i H => ∃ xs, SqL K H a xs ∧ xs.length ≤ i⟩
def Itt (K : PySem.W.Frag) (a : Addr) : It :=
  ⟨fun i H => ∃ xs x, SqT K H a xs ∧ xs[i]? = some x, fun i H x H' => H' = H ∧ ∀ xs, SqT K H a xs → xs[i]? = some x, fun i H => ∃ xs, SqT K H a xs ∧ xs.length ≤ i⟩
/-- lo, lo + 1, .. (n of them) -/
def Itr (lo : Int) (n : Nat) : It := ⟨fun i _ => i < n, fun i H x H' => H' = H ∧ x = .int (lo + i), fun i _ => n ≤ i⟩
theorem turn_list {P : Program} {w : World} {K : PySem.W.Frag} {tg : Expr} (a it : Addr) : Turn P w K tg (Itl K a) [it] it (fun i h => h.IsListIter it a i) where
  mem := by simp
  obj := fun i h st b hb => by
    have e : b = it := by simpa using hb
    subst e
    obtain ⟨o, e, c, d⟩ := st
    exact ⟨o, e, fun v z => by rw [d] at z; cases z⟩
  keep := fun i h h' st k => st.at fun o e => k it (by simp) o e
  item := by
    intro X hP hw hK hc i pins s σ H E I hf st hg
    subst hP hw hK
    obtain ⟨xs, x, hq, hx⟩ := hg
    obtain ⟨its, rv, p, hz⟩ := I.list hq
    obtain ⟨u, hu, ru⟩ := rv.get hx
    obtain ⟨f0, f1, f2, f3, f4, f5⟩ := hf it (by simp)
    refine wpAny_pyNext_list_item st p.isList (x := u) (by simpa using hu) fun h' st' sb => ?_
    have I1 : Inv X pins σ H { s with heap := h' } := I.turned (t' := s.toks) (fun b o hb e => (sb.2 b hb).trans e) f0 f1 f3 f4 f5
    obtain ⟨o, e, c, d⟩ := id st'
    exact ⟨u, rfl, go_of (s := { s with heap := h' }) e c d (by decide) ⟨x, H, I1, ru, ⟨rfl, fun ys hy => by rw [I.list_inj hy hq]; exact hx⟩, st', fun b hb => (hf b hb).1⟩⟩
  done := by
    intro X hP hw hK hc i pins s σ H E I hf st hg
    subst hP hw hK
    obtain ⟨xs, hq, hx⟩ := hg
    obtain ⟨its, rv, p, hz⟩ := I.list hq
    obtain ⟨f0, f1, f2, f3, f4, f5⟩ := hf it (by simp)
    have hl := rv.length
    exact wpAny_pyNext_list_end (I.ok.hd hc) st p.isList (by simp; omega) fun h' eb => ⟨rfl, I.turned (t' := s.toks) (fun b o hb e => eb b o hb e) f0 f1 f3 f4 f5⟩
  self := fun _ _ _ _ _ st h => wpAny_pyIter_listiter st h
theorem turn_tuple {P : Program} {w : World} {K : PySem.W.Frag} {tg : Expr} (a it : Addr) : Turn P w K tg (Itt K a) [it] it (fun i h => h.IsTupleIter it a i) where
  mem := by simp
  obj := fun i h st b hb => by
    have e : b = it := by simpa using hb
    subst e
    obtain ⟨o, e, c, d⟩ := st
    exact ⟨o, e, fun v z => by rw [d] at z; cases z⟩
  keep := fun i h h' st k => st.at fun o e => k it (by simp) o e
  item := by
    intro X hP hw hK hc i pins s σ H E I hf st hg
    subst hP hw hK
    obtain ⟨xs, x, hq, hx⟩ := hg
    obtain ⟨its, rv, p, hz⟩ := I.tuple hq
    obtain ⟨u, hu, ru⟩ := rv.get hx
    obtain ⟨f0, f1, f2, f3, f4, f5⟩ := hf it (by simp)
    refine wpAny_pyNext_tuple_item st (show s.heap.IsTuple a its.toArray from p) (x := u) (by simpa using hu) fun h' st' sb => ?_
    have I1 : Inv X pins σ H { s with heap := h' } := I.turned (t' := s.toks) (fun b o hb e => (sb.2 b hb).trans e) f0 f1 f3 f4 f5
    obtain ⟨o, e, c, d⟩ := id st'
    exact ⟨u, rfl, go_of (s := { s with heap := h' }) e c d (by decide) ⟨x, H, I1, ru, ⟨rfl, fun ys hy => by rw [I.tuple_inj hy hq]; exact hx⟩, st', fun b hb => (hf b hb).1⟩⟩
  done := by
    intro X hP hw hK hc i pins s σ H E I hf st hg
    subst hP hw hK
    obtain ⟨xs, hq, hx⟩ := hg
    obtain ⟨its, rv, p, hz⟩ := I.tuple hq
    obtain ⟨f0, f1, f2, f3, f4, f5⟩ := hf it (by simp)
    have hl := rv.length
    exact wpAny_pyNext_tuple_end (I.ok.hd hc) st (show s.heap.IsTuple a its.toArray from p) (by simp; omega) fun h' eb => ⟨rfl, I.turned (t' := s.toks) (fun b o hb e => eb b o hb e) f0 f1 f3 f4 f5⟩
  self := fun _ _ _ _ _ st h => wpAny_pyIter_tupleiter st h
theorem turn_range {P : Program} {w : World} {K : PySem.W.Frag} {tg : Expr} (it : Addr) (lo : Int) (n : Nat) : Turn P w K tg (Itr lo n) [it] it (fun i h => IsRangeIter h it (lo + (i : Nat) * 1) ((n : Int) - (i : Nat)) 1) where
  mem := by simp
  obj := fun i h st b hb => by
    have e : b = it := by simpa using hb
    subst e
    exact ⟨_, st, fun v z => by
      have z' : Data.fields _ = Data.cell v := z
      cases z'⟩
  keep := fun i h h' st k => k it (by simp) _ st
  item := by
    intro X hP hw hK hc i pins s σ H E I hf st hg
    subst hP hw hK
    obtain ⟨f0, f1, f2, f3, f4, f5⟩ := hf it (by simp)
    have W := Walks.range (prog := X.prog) (w := X.w) (I.ok.hd hc) it lo 1 n
    refine W.item i s _ _ hg st fun v h' tk hv st' kk => ?_
    obtain ⟨t, rfl⟩ := hv
    have I1 : Inv X pins σ H { s with heap := h', toks := tk } := I.turned (fun b o hb e => kk b o (by simpa using hb) e) f0 f1 f3 f4 f5
    refine ⟨_, rfl, go_of (s := { s with heap := h', toks := tk }) (n := "range_iterator") st' rfl rfl (by decide) ⟨.int (lo + i), H, I1, ⟨t, ?_⟩, ⟨rfl, rfl⟩, st', fun b hb => (hf b hb).1⟩⟩
    rw [Int.mul_one]
  done := by
    intro X hP hw hK hc i pins s σ H E I hf st hg
    subst hP hw hK
    obtain ⟨f0, f1, f2, f3, f4, f5⟩ := hf it (by simp)
    exact wpAny_pyNext_range_end (I.ok.hd hc) st (by have : n ≤ i := hg; omega) fun h' eb => ⟨rfl, I.turned (t' := s.toks) (fun b o hb e => eb b o hb e) f0 f1 f3 f4 f5⟩
  self := fun _ _ _ _ _ st h => wpAny_pyIter_rangeiter st h
end L2

namespace L2
open PySem PySem.Spec PyProof.Rows
section
variable {X : Cx} {tg : Expr}
def iList (K : PySem.W.Frag) (tl : TE) : TI := fun σ H R => tl σ H fun x H1 => ∃ a, x = .ref a ∧ (∃ xs, SqL K H1 a xs) ∧ R (Itl K a) H1
def iTup (K : PySem.W.Frag) (tl : TE) : TI := fun σ H R => tl σ H fun x H1 => ∃ a, x = .ref a ∧ (∃ xs, SqT K H1 a xs) ∧ R (Itt K a) H1
theorem pi_list {l : Expr} {tl : TE} (hl : PE X l tl) : PI X tg l (iList X.K tl) := by
  intro pins s σ H R I h
  refine thn (hl pins s σ H _ I h) fun v s1 ⟨x, H1, I1, r1, q1⟩ => ?_
  obtain ⟨a, e, ⟨xs, hq⟩, q⟩ := q1
  subst e
  cases r1
  obtain ⟨its, rv, p, hz⟩ := I1.list hq
  refine wpAny_pyIter_list p.isList ?_
  refine ⟨s1.heap.objs.size, [s1.heap.objs.size], _, _, H1, rfl, I1.kept (t' := s1.toks) fun b o e => Heap.get?_push_of_some _ e, turn_list a _, ⟨_, Heap.get?_push_size _ rfl, rfl, rfl⟩, fun b hb => ?_, q⟩
  have e : b = s1.heap.objs.size := by simpa using hb
  subst e
  exact I1.fpOk (Nat.le_refl _) (I1.hok.fresh (Nat.le_refl _))
theorem pi_tup {l : Expr} {tl : TE} (hl : PE X l tl) : PI X tg l (iTup X.K tl) := by
  intro pins s σ H R I h
  refine thn (hl pins s σ H _ I h) fun v s1 ⟨x, H1, I1, r1, q1⟩ => ?_
  obtain ⟨a, e, ⟨xs, hq⟩, q⟩ := q1
  subst e
  cases r1
  obtain ⟨its, rv, p, hz⟩ := I1.tuple hq
  refine wpAny_pyIter_tuple (show s1.heap.IsTuple a its.toArray from p) ?_
  refine ⟨s1.heap.objs.size, [s1.heap.objs.size], _, _, H1, rfl, I1.kept (t' := s1.toks) fun b o e => Heap.get?_push_of_some _ e, turn_tuple a _, ⟨_, Heap.get?_push_size _ rfl, rfl, rfl⟩, fun b hb => ?_, q⟩
  have e : b = s1.heap.objs.size := by simpa using hb
  subst e
  exact I1.fpOk (Nat.le_refl _) (I1.hok.fresh (Nat.le_refl _))
/-- a range object just made, walked -/
theorem range_it {pins : List (Addr × Obj)} {σ : St} {H : Hp} {s : Shared} {R : It → Hp → Prop} {E : Value → Shared → Prop} {lo hi : Int} {t u v : Tok} {tk : Nat} (I : Inv X pins σ H s) (h1 : -(2 ^ 62) ≤ lo) (h2 : lo < 2 ^ 62) (h3 : -(2 ^ 62) ≤ hi) (h4 : hi < 2 ^ 62)
    (q : R (Itr lo (hi - lo).toNat) H) : wpAny (model X.prog X.w) X.A (pyIter (.ref s.heap.objs.size)) (PIE X pins σ tg R) E { s with heap := s.heap.push { cls := .type "range", data := .fields #[.int lo t, .int hi u, .int 1 v] }, toks := tk } := by
  refine wpAny_pyIter_range (IsRange.new ..) (small_one h1 h2 h3 h4) ?_
  have I1 : Inv X pins σ H { s with heap := s.heap.push { cls := .type "range", data := .fields #[.int lo t, .int hi u, .int 1 v] }, toks := tk } := I.kept fun b o e => Heap.get?_push_of_some _ e
  refine ⟨(s.heap.push { cls := .type "range", data := .fields #[.int lo t, .int hi u, .int 1 v] }).objs.size, [(s.heap.push { cls := .type "range", data := .fields #[.int lo t, .int hi u, .int 1 v] }).objs.size], _, _, H, rfl,
    I1.kept (t' := tk) fun b o e => Heap.get?_push_of_some _ e, turn_range _ lo (hi - lo).toNat, ?_, fun b hb => ?_, q⟩
  · have e1 : lo + ((0 : Nat) : Int) * 1 = lo := by simp
    have e2 : (((hi - lo).toNat : Nat) : Int) - ((0 : Nat) : Int) = Builtin.Range.rangeSize lo hi 1 := by rw [rangeSize_one]; split <;> omega
    show IsRangeIter _ _ (lo + ((0 : Nat) : Int) * 1) ((((hi - lo).toNat : Nat) : Int) - ((0 : Nat) : Int)) 1
    rw [e1, e2]
    exact Heap.get?_push_size _ rfl
  · have e : b = (s.heap.push { cls := .type "range", data := .fields #[.int lo t, .int hi u, .int 1 v] }).objs.size := by simpa using hb
    subst e
    exact I1.fpOk (Nat.le_refl _) (I1.hok.fresh (Nat.le_refl _))
def iRng1 (ta : TA) : TI := fun σ H R => ta σ H fun vs H1 => ∃ j : Int, vs = [.int j] ∧ -(2 ^ 62) ≤ j ∧ j < 2 ^ 62 ∧ R (Itr 0 j.toNat) H1
def iRng2 (ta : TA) : TI := fun σ H R => ta σ H fun vs H1 => ∃ i j : Int, vs = [.int i, .int j] ∧ (-(2 ^ 62) ≤ i ∧ i < 2 ^ 62 ∧ -(2 ^ 62) ≤ j ∧ j < 2 ^ 62) ∧ R (Itr i (j - i).toNat) H1
theorem pi_range1 {a : Expr} {ta : TA} {p pos : Pos} (hg : Gl X "range") (hm : X.mg "range" = none) (ha : PA X [a] ta) (hs : starEach [a] X.env = [(false, eval a X.env)] := by rfl) : PI X tg (.Call (.Name "range" p) [a] [] pos) (iRng1 ta) := by
  intro pins s σ H R I h
  refine Call_ (ld_blt I hg hm boot_range (PyProof.Rows.callWith_type1 (thn (ha pos pins s σ H _ I h) fun us s1 ⟨vs, H1, I1, r1, q1⟩ => ?_) hs rfl))
  obtain ⟨j, e, q1, q2, q⟩ := q1
  subst e
  cases r1 with
  | cons r rr =>
    cases rr
    obtain ⟨t, rfl⟩ := r
    exact call_range_1 (range_it I1 (by omega) (by omega) q1 q2 (by simpa using q))
/-! ### for -/
/-- W: the invariant by the turn and a measure; N: what the body is to reach -/
def tFor (wi : TI) (g : TG) (tb : TS) : TS := fun D σ H => wi σ H fun J H1 => ∃ W : Nat → Nat → St → Hp → Prop, (∃ m, W 0 m σ H1) ∧ ∀ i m σ H, W i m σ H →
  (J.stop i H ∧ D.nx σ H) ∨ (J.go i H ∧ ∃ N : St → Hp → Prop, (∀ σ' H', N σ' H' → ∃ m', m' < m ∧ W (i + 1) m' σ' H') ∧ ∀ x H', J.yld i H x H' → g x σ H' fun σ2 H2 => tb { D with nx := N, ct := N, bk := D.nx } σ2 H2)
/-- the records at fp as they stand -/
def pinsAt (fp : List Addr) (h : Heap) : List (Addr × Obj) := fp.filterMap fun b => (h.get? b).map fun o => (b, o)
theorem mem_pinsAt {fp : List Addr} {h : Heap} {b : Addr} {o : Obj} (hb : b ∈ fp) (e : h.get? b = some o) : (b, o) ∈ pinsAt fp h := List.mem_filterMap.mpr ⟨b, hb, by rw [e]; rfl⟩
theorem of_pinsAt {fp : List Addr} {h : Heap} {p : Addr × Obj} (hp : p ∈ pinsAt fp h) : p.1 ∈ fp ∧ h.get? p.1 = some p.2 := by
  obtain ⟨b, hb, e⟩ := List.mem_filterMap.mp hp
  cases q : h.get? b with
  | none => rw [q] at e; cases e
  | some o =>
    rw [q] at e
    have e' : (b, o) = p := Option.some.inj e
    subst e'
    exact ⟨hb, q⟩
theorem Inv.pinned {pins : List (Addr × Obj)} {σ : St} {H : Hp} {s : Shared} {fp : List Addr} (I : Inv X pins σ H s) (hf : ∀ b ∈ fp, FpOk X pins H b) (ho : ∀ b ∈ fp, ∃ o, s.heap.get? b = some o ∧ ∀ v, o.data ≠ .cell v) : Inv X (pins ++ pinsAt fp s.heap) σ H s :=
  I.pins_of fun p hp => (List.mem_append.mp hp).elim (fun z => I.pin p (List.mem_append_right _ z)) fun z => by
    obtain ⟨hb, e⟩ := of_pinsAt z
    obtain ⟨f0, f1, f2, _⟩ := hf p.1 hb
    obtain ⟨o, e', d⟩ := ho p.1 hb
    rw [e] at e'; cases e'
    exact ⟨e, f0, f1, f2, d⟩
theorem Inv.unpinned {pins pl : List (Addr × Obj)} {σ : St} {H : Hp} {s : Shared} (I : Inv X (pins ++ pl) σ H s) : Inv X pins σ H s := I.pins_of fun p hp => I.pin p (List.mem_append_right _ (List.mem_append_left _ hp))
theorem ps_for {iter : Expr} {body : List Stmt} {wi : TI} {g : TG} {tb : TS} {pos : Pos} (hp : PassesOwn (model X.prog X.w) X.A X.env X.xe) (hc : X.calm = true) (hi : PI X tg iter wi) (hg : PG X tg g) (hb : PSs X body tb)
    (hs : ∀ x, foldedSetIterable iter X.env x = pure x := by intro _; rfl) : PS X (.For tg iter body [] pos) (tFor wi g tb) := by
  intro pins s σ H D I h
  refine wpAny_For (thn (hi pins s σ H _ I h) fun v s1 h1 => thn h1 fun itv s2 h2 => ?_) hs
  obtain ⟨it, fp, tn, J, H2, e, I2, T, st2, f2, W, ⟨m0, w0⟩, turn⟩ := h2
  subst e
  -- what stays true of the iterator's objects through the loop
  have stat : ∀ {H' : Hp}, (∀ b ∈ fp, H' b = none) → ∀ b ∈ fp, FpOk X pins H' b := fun hn b hb => ⟨hn b hb, (f2 b hb).2⟩
  refine codeAny_forLoop_any (fun n s' => ∃ i σ' H', Inv X pins σ' H' s' ∧ tn i s'.heap ∧ (∀ b ∈ fp, H' b = none) ∧ W i n σ' H') ?_ m0 ⟨0, σ, H2, I2, st2, fun b hb => (f2 b hb).1, w0⟩
  rintro n s3 ⟨i, σ3, H3, I3, st3, fr3, w3⟩
  rcases turn i n σ3 H3 w3 with ⟨stop, qn⟩ | ⟨go, N, hN, step⟩
  · refine wpAny_passesOwn hp (thn (T.done X rfl rfl rfl hc i pins s3 σ3 H3 X.xe I3 (stat fr3) st3 stop) fun r s4 ⟨hr, I4⟩ => ?_)
    subst hr
    exact wpAny_execs_nil ⟨σ3, H3, I4, qn⟩
  · refine wpAny_passesOwn hp (thn (T.item X rfl rfl rfl hc i pins s3 σ3 H3 X.xe I3 (stat fr3) st3 go) fun r s4 ⟨u, hr, h4⟩ => ?_)
    subst hr
    refine wpAny_passesOwn hp (thn h4 fun _ s5 ⟨x, H5, I5, r5, y5, st5, fr5⟩ => ?_)
    have I5' := I5.pinned (stat fr5) (T.obj _ _ st5)
    refine wpAny_passesOwn hp (thn (hg _ s5 σ3 H5 x u _ I5' r5 (step x H5 y5)) fun _ s6 ⟨σ6, H6, I6, q6⟩ => ?_)
    refine wpAny_passesOwn hp (thn (hb _ s6 σ6 H6 _ I6 q6) fun f s7 q7 => ?_)
    have again : ∀ {σ7 : St} {H7 : Hp}, Inv X (pins ++ pinsAt fp s5.heap) σ7 H7 s7 → N σ7 H7 → ∃ m, m < n ∧ ∃ i σ' H', Inv X pins σ' H' s7 ∧ tn i s7.heap ∧ (∀ b ∈ fp, H' b = none) ∧ W i m σ' H' := fun {σ7 H7} I7 n7 => by
      obtain ⟨m', hm, w7⟩ := hN σ7 H7 n7
      refine ⟨m', hm, i + 1, σ7, H7, I7.unpinned, T.keep _ _ _ st5 fun b hb o e => (I7.pin (b, o) (List.mem_append_right _ (List.mem_append_right _ (mem_pinsAt hb e)))).1, fun b hb => ?_, w7⟩
      obtain ⟨o, e, d⟩ := T.obj _ _ st5 b hb
      exact (I7.pin (b, o) (List.mem_append_right _ (List.mem_append_right _ (mem_pinsAt hb e)))).2.1
    cases f with
    | next => obtain ⟨σ7, H7, I7, n7⟩ := q7; exact again I7 n7
    | cont => obtain ⟨σ7, H7, I7, n7⟩ := q7; exact again I7 n7
    | brk => obtain ⟨σ7, H7, I7, q7⟩ := q7; exact ⟨σ7, H7, I7.unpinned, q7⟩
    | ret v => obtain ⟨x7, σ7, H7, I7, r7, q7⟩ := q7; exact ⟨x7, σ7, H7, I7.unpinned, r7, q7⟩
end

/-! ### the forms one uses -/
/-- over a list that the body leaves as it is -/
theorem for_list {K : PySem.W.Frag} {a : Addr} {xs : List V} {g : TG} {tb : TS} {D : Ends} {σ : St} {H : Hp} (Pv : Nat → St → Hp → Prop) (h0 : Pv 0 σ H) (hl : ∀ i σ H, i ≤ xs.length → Pv i σ H → SqL K H a xs)
    (hs : ∀ i x σ H, xs[i]? = some x → Pv i σ H → g x σ H fun σ2 H2 => tb { D with nx := Pv (i + 1), ct := Pv (i + 1), bk := D.nx } σ2 H2) (hd : ∀ σ H, Pv xs.length σ H → D.nx σ H) :
    ∃ W : Nat → Nat → St → Hp → Prop, (∃ m, W 0 m σ H) ∧ ∀ i m σ H, W i m σ H →
      ((Itl K a).stop i H ∧ D.nx σ H) ∨ ((Itl K a).go i H ∧ ∃ N : St → Hp → Prop, (∀ σ' H', N σ' H' → ∃ m', m' < m ∧ W (i + 1) m' σ' H') ∧ ∀ x H', (Itl K a).yld i H x H' → g x σ H' fun σ2 H2 => tb { D with nx := N, ct := N, bk := D.nx } σ2 H2) := by
  refine ⟨fun i m σ H => m = xs.length - i ∧ i ≤ xs.length ∧ Pv i σ H, ⟨xs.length, by simp, Nat.zero_le _, h0⟩, ?_⟩
  rintro i m σ H ⟨rfl, hi, p⟩
  have q := hl i σ H hi p
  by_cases hlt : i < xs.length
  · refine .inr ⟨⟨xs, xs[i], q, by simp [hlt]⟩, Pv (i + 1), fun σ' H' p' => ⟨xs.length - (i + 1), by omega, rfl, hlt, p'⟩, fun x H' y => ?_⟩
    obtain ⟨e, y⟩ := y
    subst e
    exact hs i x σ _ (y xs q) p
  · have e : i = xs.length := by omega
    subst e
    exact .inl ⟨⟨xs, q, Nat.le_refl _⟩, hd σ H p⟩
theorem for_range {lo : Int} {n : Nat} {g : TG} {tb : TS} {D : Ends} {σ : St} {H : Hp} (Pv : Nat → St → Hp → Prop) (h0 : Pv 0 σ H)
    (hs : ∀ i σ H, i < n → Pv i σ H → g (.int (lo + i)) σ H fun σ2 H2 => tb { D with nx := Pv (i + 1), ct := Pv (i + 1), bk := D.nx } σ2 H2) (hd : ∀ σ H, Pv n σ H → D.nx σ H) :
    ∃ W : Nat → Nat → St → Hp → Prop, (∃ m, W 0 m σ H) ∧ ∀ i m σ H, W i m σ H →
      ((Itr lo n).stop i H ∧ D.nx σ H) ∨ ((Itr lo n).go i H ∧ ∃ N : St → Hp → Prop, (∀ σ' H', N σ' H' → ∃ m', m' < m ∧ W (i + 1) m' σ' H') ∧ ∀ x H', (Itr lo n).yld i H x H' → g x σ H' fun σ2 H2 => tb { D with nx := N, ct := N, bk := D.nx } σ2 H2) := by
  refine ⟨fun i m σ H => m = n - i ∧ i ≤ n ∧ Pv i σ H, ⟨n, by simp, Nat.zero_le _, h0⟩, ?_⟩
  rintro i m σ H ⟨rfl, hi, p⟩
  by_cases hlt : i < n
  · refine .inr ⟨hlt, Pv (i + 1), fun σ' H' p' => ⟨n - (i + 1), by omega, rfl, hlt, p'⟩, fun x H' y => ?_⟩
    obtain ⟨e, y⟩ := y
    subst e y
    exact hs i σ _ hlt p
  · have e : i = n := by omega
    subst e
    exact .inl ⟨Nat.le_refl _, hd σ H p⟩
end L2

namespace L2
open PySem PySem.Spec PyProof.Rows

abbrev R2 := V → V → Hp → VK → Prop
/-- a two-place operation on values: f is binaryOp op, inplaceOp op or compareOp op -/
def OpR (X : Cx) (f : Value → Value → Sem Value) (r : R2) : Prop :=
  ∀ (pins : List (Addr × Obj)) (s : Shared) (σ : St) (H : Hp) (x y : V) (v u : Value) (Q : VK), Inv X pins σ H s → RelV x v → RelV y u → r x y H Q →
    wpAny (model X.prog X.w) X.A (f v u) (EP X pins σ Q) X.xe s
/-- a one-place operation -/
def UnR (X : Cx) (f : Value → Sem Value) (r : V → Hp → VK → Prop) : Prop :=
  ∀ (pins : List (Addr × Obj)) (s : Shared) (σ : St) (H : Hp) (x : V) (v : Value) (Q : VK), Inv X pins σ H s → RelV x v → r x H Q →
    wpAny (model X.prog X.w) X.A (f v) (EP X pins σ Q) X.xe s
/-- a call of a value that is known (a builtin, a type) with values -/
def CallR (X : Cx) (f : Value) (r : List V → Hp → VK → Prop) : Prop :=
  ∀ (pins : List (Addr × Obj)) (s : Shared) (σ : St) (H : Hp) (xs : List V) (us : List Value) (Q : VK), Inv X pins σ H s → Vals xs us → r xs H Q →
    wpAny (model X.prog X.w) X.A (call f us) (EP X pins σ Q) X.xe s
/-- a value's truth -/
def TruR (X : Cx) (r : V → Hp → (Bool → Hp → Prop) → Prop) : Prop :=
  ∀ (pins : List (Addr × Obj)) (s : Shared) (σ : St) (H : Hp) (x : V) (v : Value) (Q : Bool → Hp → Prop), Inv X pins σ H s → RelV x v → r x H Q →
    wpAny (model X.prog X.w) X.A (truthy v) (TP X pins σ Q) X.xe s

def tOp (r : R2) (ta tb : TE) : TE := fun σ H Q => ta σ H fun x H1 => tb σ H1 fun y H2 => r x y H2 Q
def tUn (r : V → Hp → VK → Prop) (ta : TE) : TE := fun σ H Q => ta σ H fun x H1 => r x H1 Q
/-- ints in, under C, and a value out -/
def rI (C : Int → Int → Prop) (g : Int → Int → V) : R2 := fun x y H Q => ∃ i j, x = .int i ∧ y = .int j ∧ C i j ∧ Q (g i j) H
def rI0 (g : Int → Int → V) : R2 := fun x y H Q => ∃ i j, x = .int i ∧ y = .int j ∧ Q (g i j) H
def rU (g : Int → V) : V → Hp → VK → Prop := fun x H Q => ∃ i, x = .int i ∧ Q (g i) H

section
variable {X : Cx} {a b c : Expr} {ta tb tc : TE} {pos : Pos}

theorem binT (ha : PE X a ta) (hb : PE X b tb) {pins : List (Addr × Obj)} {s : Shared} {σ : St} {H : Hp} {R : V → V → Hp → Prop} (I : Inv X pins σ H s)
    (h : ta σ H fun x H1 => tb σ H1 fun y H2 => R x y H2) {Q : Value → Shared → Prop} {f : Value → Value → Sem Value}
    (hf : ∀ v u s2 x y H2, Inv X pins σ H2 s2 → RelV x v → RelV y u → R x y H2 → wpAny (model X.prog X.w) X.A (f v u) Q X.xe s2) :
    wpAny (model X.prog X.w) X.A (eval a X.env) (fun v s₁ => wpAny (model X.prog X.w) X.A (eval b X.env) (fun u s₂ => wpAny (model X.prog X.w) X.A (f v u) Q X.xe s₂) X.xe s₁) X.xe s := by
  refine thn (ha pins s σ H _ I h) fun v s1 ⟨x, H1, I1, r1, q1⟩ => ?_
  refine thn (hb pins s1 σ H1 _ I1 q1) fun u s2 ⟨y, H2, I2, r2, q2⟩ => ?_
  exact hf v u s2 x y H2 I2 r1 r2 q2

theorem pe_op {op : Operator} {r : R2} (ho : OpR X (binaryOp op) r) (ha : PE X a ta) (hb : PE X b tb) : PE X (.BinOp a op b pos) (tOp r ta tb) := by
  intro pins s σ H Q I h
  exact wpAny_BinOp (binT ha hb I h fun v u s2 x y H2 I2 rx ry q => ho pins s2 σ H2 x y v u Q I2 rx ry q)
theorem pe_un {op : UnaryOp} {r : V → Hp → VK → Prop} (ho : UnR X (unaryOp op) r) (ha : PE X a ta) : PE X (.UnaryOp op a pos) (tUn r ta) := by
  intro pins s σ H Q I h
  exact UnaryOp_ (thn (ha pins s σ H _ I h) fun v s1 ⟨x, H1, I1, r1, q1⟩ => ho pins s1 σ H1 x v Q I1 r1 q1)
/-! ### ints -/
theorem opI {f : Value → Value → Sem Value} {C : Int → Int → Prop} {g : Int → Int → Int}
    (rule : ∀ (i j : Int) (t u : Tok) (s : Shared) (Q : Value → Shared → Prop) (E : Value → Shared → Prop), C i j → Q (.int (g i j) s.toks) { s with toks := s.toks + 1 } → wpAny (model X.prog X.w) X.A (f (.int i t) (.int j u)) Q E s) :
    OpR X f (rI C fun i j => .int (g i j)) := by
  intro pins s σ H x y v u Q I rx ry h
  obtain ⟨i, j, rfl, rfl, hc, q⟩ := h
  obtain ⟨t, rfl⟩ := rx
  obtain ⟨t', rfl⟩ := ry
  exact rule i j t t' s _ _ hc ⟨.int (g i j), H, I.tok _, ⟨_, rfl⟩, q⟩
theorem opI0 {f : Value → Value → Sem Value} {g : Int → Int → Int}
    (rule : ∀ (i j : Int) (t u : Tok) (s : Shared) (Q : Value → Shared → Prop) (E : Value → Shared → Prop), Q (.int (g i j) s.toks) { s with toks := s.toks + 1 } → wpAny (model X.prog X.w) X.A (f (.int i t) (.int j u)) Q E s) :
    OpR X f (rI0 fun i j => .int (g i j)) := by
  intro pins s σ H x y v u Q I rx ry h
  obtain ⟨i, j, rfl, rfl, q⟩ := h
  obtain ⟨t, rfl⟩ := rx
  obtain ⟨t', rfl⟩ := ry
  exact rule i j t t' s _ _ ⟨.int (g i j), H, I.tok _, ⟨_, rfl⟩, q⟩
theorem opB0 {f : Value → Value → Sem Value} {g : Int → Int → Bool}
    (rule : ∀ (i j : Int) (t u : Tok) (s : Shared) (Q : Value → Shared → Prop) (E : Value → Shared → Prop), Q (.bool (g i j)) s → wpAny (model X.prog X.w) X.A (f (.int i t) (.int j u)) Q E s) :
    OpR X f (rI0 fun i j => .bl (g i j)) := by
  intro pins s σ H x y v u Q I rx ry h
  obtain ⟨i, j, rfl, rfl, q⟩ := h
  obtain ⟨t, rfl⟩ := rx
  obtain ⟨t', rfl⟩ := ry
  exact rule i j t t' s _ _ ⟨.bl (g i j), H, I, rfl, q⟩

def CDiv (i j : Int) : Prop := 0 < j ∧ j < 1073741824
def CDivN (i j : Int) : Prop := j ≠ 0 ∧ j.natAbs < 1073741824
def CPow (i j : Int) : Prop := 0 ≤ j ∧ j ≤ 1000000 ∧ i.natAbs < 2 ^ 64
def CMul (i j : Int) : Prop := (-(2 ^ 64) < i ∧ i < 2 ^ 64) ∨ (-(2 ^ 64) < j ∧ j < 2 ^ 64)
theorem CMul.ok {i j : Int} (h : CMul i j) : IntMulOk i j := by
  rcases h with ⟨h1, h2⟩ | ⟨h1, h2⟩
  · exact .of_left (intBits_le_64 h1 h2)
  · exact .of_right (intBits_le_64 h1 h2)
theorem op_add : OpR X (binaryOp .Add) (rI0 fun i j => .int (i + j)) := opI0 fun _ _ _ _ _ _ _ q => add_int q
theorem op_sub : OpR X (binaryOp .Sub) (rI0 fun i j => .int (i - j)) := opI0 fun _ _ _ _ _ _ _ q => sub_int q
theorem op_mul : OpR X (binaryOp .Mult) (rI CMul fun i j => .int (i * j)) := opI fun _ _ _ _ _ _ _ hc q => mul_int q hc.ok
/-- // by a positive divisor -/
theorem op_fdiv : OpR X (binaryOp .FloorDiv) (rI CDiv fun i j => .int (i / j)) := opI fun i j _ _ _ _ _ hc q => by
  have h1 : (0 : Int) < j := hc.1
  have h2 : j < 1073741824 := hc.2
  exact floordiv_int (by omega) (by rw [Int.fdiv_eq_ediv_of_nonneg i (by omega)]; exact q) (.inl (PyProof.noPylong_small (by omega)))
/-- % by a positive divisor of any size -/
theorem op_mod : OpR X (binaryOp .Mod) (rI (fun _ j => 0 < j) fun i j => .int (i % j)) := opI fun i j _ _ _ _ _ hc q => by
  have h1 : (0 : Int) < j := hc
  exact mod_int' (by omega) (by rw [Int.fmod_eq_emod_of_nonneg i (by omega)]; exact q)
theorem op_pow : OpR X (binaryOp .Pow) (rI CPow fun i j => .int (i ^ j.toNat)) := opI fun _ _ _ _ _ _ _ hc q => pow_int_small hc.1 hc.2.1 hc.2.2 q
theorem unI {f : Value → Sem Value} {g : Int → Int}
    (rule : ∀ (i : Int) (t : Tok) (s : Shared) (Q : Value → Shared → Prop) (E : Value → Shared → Prop), Q (.int (g i) s.toks) { s with toks := s.toks + 1 } → wpAny (model X.prog X.w) X.A (f (.int i t)) Q E s) :
    UnR X f (rU fun i => .int (g i)) := by
  intro pins s σ H x v Q I rx h
  obtain ⟨i, rfl, q⟩ := h
  obtain ⟨t, rfl⟩ := rx
  exact rule i t s _ _ ⟨.int (g i), H, I.tok _, ⟨_, rfl⟩, q⟩
theorem un_neg : UnR X (unaryOp .USub) (rU fun i => .int (-i)) := unI fun _ _ _ _ _ q => neg_int q
/-! ### bools among ints: n += (a < b) -/
end

/-! ### comparisons -/
/-- the scalars that == tells apart as data does -/
def scal : V → V → Bool
  | .non, .non => true | .non, .int _ => true | .int _, .non => true | .non, .bl _ => true | .bl _, .non => true | .non, .str _ => true | .str _, .non => true
  | .int _, .int _ => true | .bl _, .bl _ => true | .str _, .str _ => true | .byt _, .byt _ => true
  | .int _, .str _ => true | .str _, .int _ => true | .bl _, .str _ => true | .str _, .bl _ => true
  | _, _ => false
def rEq : R2 := fun x y H Q => scal x y = true ∧ Q (.bl (decide (x = y))) H
def rNe : R2 := fun x y H Q => scal x y = true ∧ Q (.bl (!decide (x = y))) H

theorem dec_int {i j : Int} : decide (V.int i = V.int j) = (i == j) := by
  rw [Bool.eq_iff_iff]
  simp
theorem dec_bl {i j : Bool} : decide (V.bl i = V.bl j) = (i == j) := by
  rw [Bool.eq_iff_iff]
  simp
theorem dec_str {i j : Str} : decide (V.str i = V.str j) = (i == j) := by
  rw [Bool.eq_iff_iff]
  simp
theorem dec_byt {i j : Array UInt8} : decide (V.byt i = V.byt j) = (i.toList == j.toList) := by
  rw [Bool.eq_iff_iff]
  cases i
  cases j
  simp

section
variable {X : Cx} {a b c : Expr} {ta tb tc : TE} {pos : Pos}
theorem fin_bl {pins : List (Addr × Obj)} {σ : St} {H : Hp} {s : Shared} {Q : VK} {k k' : Bool} (I : Inv X pins σ H s) (q : Q (.bl k) H) (e : k = k') : EP X pins σ Q (.bool k') s := by
  subst e
  exact ⟨.bl k, H, I, rfl, q⟩
theorem op_eq : OpR X (compareOp .Eq) rEq := by
  intro pins s σ H x y v u Q I rx ry h
  obtain ⟨hs, q⟩ := h
  cases x with
  | non =>
    cases rx
    cases y with
    | non => cases ry; exact PySem.EqNone.eq_none_none (fin_bl I q (by simp))
    | bl j => cases ry; exact PySem.EqNone.eq_none_bool (fin_bl I q (by simp))
    | int j => obtain ⟨t', rfl⟩ := ry; exact PySem.EqNone.eq_none_int (fin_bl I q (by simp))
    | str j => obtain ⟨t', rfl⟩ := ry; exact PySem.EqNone.eq_none_str (fin_bl I q (by simp))
    | _ => exact absurd (show false = true from hs) Bool.false_ne_true
  | bl i =>
    cases rx
    cases y with
    | non => cases ry; exact PySem.EqNone.eq_bool_none (fin_bl I q (by simp))
    | bl j => cases ry; exact eq_bool (fin_bl I q dec_bl)
    | str j => obtain ⟨t', rfl⟩ := ry; exact PySem.EqMixed.eq_bool_str (fin_bl I q (by simp))
    | _ => exact absurd (show false = true from hs) Bool.false_ne_true
  | int i =>
    obtain ⟨t, rfl⟩ := rx
    cases y with
    | non => cases ry; exact PySem.EqNone.eq_int_none (fin_bl I q (by simp))
    | int j => obtain ⟨t', rfl⟩ := ry; exact eq_int (fin_bl I q dec_int)
    | str j => obtain ⟨t', rfl⟩ := ry; exact PySem.EqMixed.eq_int_str (fin_bl I q (by simp))
    | _ => exact absurd (show false = true from hs) Bool.false_ne_true
  | str i =>
    obtain ⟨t, rfl⟩ := rx
    cases y with
    | non => cases ry; exact PySem.EqNone.eq_str_none (fin_bl I q (by simp))
    | bl j => cases ry; exact PySem.EqMixed.eq_str_bool (fin_bl I q (by simp))
    | int j => obtain ⟨t', rfl⟩ := ry; exact PySem.EqMixed.eq_str_int (fin_bl I q (by simp))
    | str j => obtain ⟨t', rfl⟩ := ry; exact eq_str (fin_bl I q dec_str)
    | _ => exact absurd (show false = true from hs) Bool.false_ne_true
  | byt i =>
    obtain ⟨t, rfl⟩ := rx
    cases y with
    | byt j => obtain ⟨t', rfl⟩ := ry; exact PySem.W.eq_bytes (fin_bl I q dec_byt)
    | _ => exact absurd (show false = true from hs) Bool.false_ne_true
  | _ => cases y <;> exact absurd (show false = true from hs) Bool.false_ne_true
theorem op_ne : OpR X (compareOp .NotEq) rNe := by
  intro pins s σ H x y v u Q I rx ry h
  obtain ⟨hs, q⟩ := h
  cases x with
  | non =>
    cases rx
    cases y with
    | non => cases ry; exact PySem.EqNone.ne_none_none (fin_bl I q (by simp))
    | bl j => cases ry; exact PySem.EqNone.ne_none_bool (fin_bl I q (by simp))
    | int j => obtain ⟨t', rfl⟩ := ry; exact PySem.EqNone.ne_none_int (fin_bl I q (by simp))
    | str j => obtain ⟨t', rfl⟩ := ry; exact PySem.EqNone.ne_none_str (fin_bl I q (by simp))
    | _ => exact absurd (show false = true from hs) Bool.false_ne_true
  | bl i =>
    cases rx
    cases y with
    | non => cases ry; exact PySem.EqNone.ne_bool_none (fin_bl I q (by simp))
    | bl j => cases ry; exact ne_bool (fin_bl I q (congrArg not dec_bl))
    | str j => obtain ⟨t', rfl⟩ := ry; exact PySem.EqMixed.ne_bool_str (fin_bl I q (by simp))
    | _ => exact absurd (show false = true from hs) Bool.false_ne_true
  | int i =>
    obtain ⟨t, rfl⟩ := rx
    cases y with
    | non => cases ry; exact PySem.EqNone.ne_int_none (fin_bl I q (by simp))
    | int j => obtain ⟨t', rfl⟩ := ry; exact ne_int (fin_bl I q (congrArg not dec_int))
    | str j => obtain ⟨t', rfl⟩ := ry; exact PySem.EqMixed.ne_int_str (fin_bl I q (by simp))
    | _ => exact absurd (show false = true from hs) Bool.false_ne_true
  | str i =>
    obtain ⟨t, rfl⟩ := rx
    cases y with
    | non => cases ry; exact PySem.EqNone.ne_str_none (fin_bl I q (by simp))
    | bl j => cases ry; exact PySem.EqMixed.ne_str_bool (fin_bl I q (by simp))
    | int j => obtain ⟨t', rfl⟩ := ry; exact PySem.EqMixed.ne_str_int (fin_bl I q (by simp))
    | str j => obtain ⟨t', rfl⟩ := ry; exact ne_str (fin_bl I q (congrArg not dec_str))
    | _ => exact absurd (show false = true from hs) Bool.false_ne_true
  | byt i =>
    obtain ⟨t, rfl⟩ := rx
    cases y with
    | byt j => obtain ⟨t', rfl⟩ := ry; exact PySem.W.ne_bytes (fin_bl I q (congrArg not dec_byt))
    | _ => exact absurd (show false = true from hs) Bool.false_ne_true
  | _ => cases y <;> exact absurd (show false = true from hs) Bool.false_ne_true

theorem op_lt : OpR X (compareOp .Lt) (rI0 fun i j => .bl (decide (i < j))) := opB0 fun _ _ _ _ _ _ _ q => lt_int q
theorem op_le : OpR X (compareOp .LtE) (rI0 fun i j => .bl (decide (i ≤ j))) := opB0 fun _ _ _ _ _ _ _ q => le_int q
theorem op_gt : OpR X (compareOp .Gt) (rI0 fun i j => .bl (decide (j < i))) := opB0 fun _ _ _ _ _ _ _ q => gt_int q
/-- the one string within the other -/
theorem op_in_str : OpR X (compareOp .In) (fun x y H Q => ∃ i j, x = .str i ∧ y = .str j ∧ Q (.bl (!(Builtin.Str.occurrences j i 0 j.length 1).isEmpty)) H) := by
  intro pins s σ H x y v u Q I rx ry h
  obtain ⟨i, j, rfl, rfl, q⟩ := h
  obtain ⟨t, rfl⟩ := rx
  obtain ⟨t', rfl⟩ := ry
  exact in_str (fin_bl I q rfl)

/-- is None, is not None: the right side a value none -/
theorem op_isN : OpR X (compareOp .Is) (fun x y H Q => y = .non ∧ Q (.bl (decide (x = .non))) H) := by
  intro pins s σ H x y v u Q I rx ry h
  obtain ⟨rfl, q⟩ := h
  cases ry
  refine is_none_gen (fin_bl I q ?_)
  cases x <;> first
    | (cases rx; rfl)
    | (obtain ⟨t, rfl⟩ := rx; rfl)
theorem op_notN : OpR X (compareOp .IsNot) (fun x y H Q => y = .non ∧ Q (.bl (!decide (x = .non))) H) := by
  intro pins s σ H x y v u Q I rx ry h
  obtain ⟨rfl, q⟩ := h
  cases ry
  refine isnot_none_gen (fin_bl I q ?_)
  cases x <;> first
    | (cases rx; rfl)
    | (obtain ⟨t, rfl⟩ := rx; rfl)

theorem op_notin_str : OpR X (compareOp .NotIn) (fun x y H Q => ∃ i j, x = .str i ∧ y = .str j ∧ Q (.bl (!(!(Builtin.Str.occurrences j i 0 j.length 1).isEmpty))) H) := by
  intro pins s σ H x y v u Q I rx ry h
  obtain ⟨i, j, rfl, rfl, q⟩ := h
  obtain ⟨t, rfl⟩ := rx
  obtain ⟨t', rfl⟩ := ry
  exact notIn_str (fin_bl I q rfl)
/-- is, is not of two objects that are tracked lists or instances -/
def isObj : HO → Bool
  | .lst _ => true
  | .ins _ _ _ => true
  | _ => false
/-- two rules for one operation: by cases -/
theorem OpR.or {f : Value → Value → Sem Value} {r r' : R2} (h : OpR X f r) (h' : OpR X f r') : OpR X f (fun x y H Q => r x y H Q ∨ r' x y H Q) := by
  intro pins s σ H x y v u Q I rx ry q
  rcases q with q | q
  · exact h pins s σ H x y v u Q I rx ry q
  · exact h' pins s σ H x y v u Q I rx ry q

theorem nomark (b : Expr) {op : CmpOp} (h : op ≠ .In := by decide) (h2 : op ≠ .NotIn := by decide) : behindInMarks op b = false := by
  have e1 : (op == CmpOp.In) = false := by cases op <;> first | rfl | exact absurd rfl h
  have e2 : (op == CmpOp.NotIn) = false := by cases op <;> first | rfl | exact absurd rfl h2
  cases b <;> simp [behindInMarks, e1, e2]
/-- a comparison as a value; hm: nomark b, or (for in, not in) by with_unfolding_all rfl -/
theorem pe_cmpR {op : CmpOp} {r : R2} (ho : OpR X (compareOp op) r) (ha : PE X a ta) (hb : PE X b tb) (hm : behindInMarks op b = false) : PE X (.Compare a [op] [b] pos) (tOp r ta tb) := by
  intro pins s σ H Q I h
  exact wpAny_Compare1 (binT ha hb I h fun v u s2 x y H2 I2 rx ry q => ho pins s2 σ H2 x y v u Q I2 rx ry q) hm
/-- a reading of a value as a test -/
def tTest (t : TE) : TT := fun σ H Q => t σ H fun x H' => ∃ k, x = .bl k ∧ Q k H'
theorem pt_cmpR {op : CmpOp} {r : R2} (ho : OpR X (compareOp op) r) (ha : PE X a ta) (hb : PE X b tb) (hm : behindInMarks op b = false) : PT X (.Compare a [op] [b] pos) (tTest (tOp r ta tb)) := by
  intro pins s σ H Q I h
  refine wpAny_isTrue_Compare1 (thn (ha pins s σ H _ I h) fun v s1 ⟨x, H1, I1, r1, q1⟩ => thn (hb pins s1 σ H1 _ I1 q1) fun u s2 ⟨y, H2, I2, r2, q2⟩ =>
    thn (ho pins s2 σ H2 x y v u _ I2 r1 r2 q2) fun c s3 ⟨z, H3, I3, r3, k, e, q3⟩ => ?_) hm
  subst e
  cases r3
  exact wpAny_truthy_bool ⟨H3, I3, q3⟩
/-- a op1 b op2 c -/
def tChain (r r' : R2) (ta tb tc : TE) : TE := fun σ H Q => ta σ H fun x H1 => tb σ H1 fun y H2 => r x y H2 fun z H3 => ∃ k, z = .bl k ∧
  (if k = true then tc σ H3 fun w' H4 => r' y w' H4 Q else Q (.bl false) H3)
/-! ### truth -/
/-- a value's truth by the abstract heap -/
def TruV (K : PySem.W.Frag) (x : V) (H : Hp) (k : Bool) : Prop :=
  match x with
  | .non => k = false
  | .bl b => k = b
  | .int i => k = (i != 0)
  | .str y => y.length ≤ sizeLine ∧ k = ((y.length : Int) != 0)
  | .byt y => y.size ≤ sizeLine ∧ k = ((y.size : Int) != 0)
  | .ref p => (∃ xs, SqL K H p xs ∧ k = !xs.isEmpty) ∨ (∃ xs, SqT K H p xs ∧ k = !xs.isEmpty) ∨ ∃ kvs, H p = some (.dK kvs) ∧ k = !kvs.isEmpty
  | _ => False
theorem line63 : (sizeLine : Nat) < 2 ^ 63 := by rw [sizeLine_eq]; decide
/-! ### strs and bytes -/
def PlainIxT (b : Expr) : Prop := ∀ o i, subscripted b false o i = operate [o, i] (getItem o i)
/-! ### scalar builtins, by CallR -/
theorem vals1 {x : V} {us : List Value} (r : Vals [x] us) : ∃ u, us = [u] ∧ RelV x u := by
  cases r with
  | cons r1 r2 => cases r2; exact ⟨_, rfl, r1⟩
theorem vals2 {x y : V} {us : List Value} (r : Vals [x, y] us) : ∃ u w', us = [u, w'] ∧ RelV x u ∧ RelV y w' := by
  cases r with
  | cons r1 r2 =>
    cases r2 with
    | cons r3 r4 => cases r4; exact ⟨_, _, rfl, r1, r3⟩
theorem call_int1 : CallR X (.type "int") (fun xs H Q => (∃ i, xs = [.int i] ∧ Q (.int i) H) ∨ ∃ k, xs = [.bl k] ∧ Q (.int (if k then 1 else 0)) H) := by
  intro pins s σ H xs us Q I r h
  rcases h with ⟨i, rfl, q⟩ | ⟨k, rfl, q⟩
  · obtain ⟨u, rfl, t, rfl⟩ := vals1 r
    exact call_int_int ⟨.int i, H, I, ⟨_, rfl⟩, q⟩
  · obtain ⟨u, rfl, r1⟩ := vals1 r
    cases r1
    exact call_int_bool ⟨.int (if k then 1 else 0), H, I.tok _, ⟨_, rfl⟩, q⟩
theorem call_str_int : CallR X (.type "str") (fun xs H Q => ∃ i, xs = [.int i] ∧ i.natAbs.log2 < 1920 ∧ Q (.str (toString i)) H) := by
  intro pins s σ H xs us Q I r h
  obtain ⟨i, rfl, hz, q⟩ := h
  obtain ⟨u, rfl, t, rfl⟩ := vals1 r
  exact PySem.P.str_of_int hz ⟨.str _, H, I.tok _, ⟨_, rfl⟩, q⟩
/-- len of a str, a bytes, a list, a tuple -/
def LenV (K : PySem.W.Frag) (x : V) (H : Hp) (n : Nat) : Prop :=
  match x with
  | .str y => y.length ≤ sizeLine ∧ n = y.length
  | .byt y => y.size ≤ sizeLine ∧ n = y.size
  | .ref p => (∃ xs, SqL K H p xs ∧ n = xs.length) ∨ ∃ xs, SqT K H p xs ∧ n = xs.length
  | _ => False
end
end L2

namespace L2
open PySem PySem.Spec PyProof.Rows

/-! ### an instance, its attributes a map -/
structure ObjM (h : Heap) (x dx C : Addr) (mA : Str → Option Value) : Prop where
  obj : h.get? x = some (PySem.W.instObj C dx)
  ns : h.Ns1 dx mA
  ne : dx ≠ x

theorem lookIn_ns {h : Heap} {dx : Addr} {mA : Str → Option Value} (n : h.Ns1 dx mA) : ∃ od, h.get? dx = some od ∧ ∀ name, PySem.W.lookIn name od = some (mA name) := by
  obtain ⟨o, es, ep, ho, hd, hk, _, hm⟩ := n
  refine ⟨o, ho, fun name => ?_⟩
  have e := hm name
  unfold nsFind findBy at e
  rw [← Array.find?_toList] at e
  unfold PySem.W.lookIn
  rw [hd]
  dsimp only
  split
  · rename_i y q
    rw [q] at e
    exact congrArg some e
  · rename_i q
    rw [q] at e
    have a : es.toList.any (·.refKey) = false := by
      rw [List.any_eq_false]
      intro y hy
      obtain ⟨z, t, hkey⟩ := hk y (Array.mem_toList_iff.mp hy)
      simp [DictEntry.refKey, hkey]
    have a' : ¬ es.toList.any (·.refKey) = true := by rw [a]; exact Bool.false_ne_true
    rw [if_neg a']
    exact congrArg some e

theorem ObjM.look {h : Heap} {x dx C : Addr} {mA : Str → Option Value} (I : ObjM h x dx C mA) : ∃ od, PySem.W.InstAt h x (PySem.W.instObj C dx) C (some od) ∧ ∀ name, PySem.W.lookIn name od = some (mA name) :=
  let ⟨od, ho, hl⟩ := lookIn_ns I.ns
  ⟨od, ⟨I.obj, rfl, rfl, ho⟩, hl⟩

section
variable {prog : Program} {w : World} {A : Around} {E : Value → Shared → Prop} {s : Shared} {K : PySem.W.Frag} {x dx C f : Addr} {mA : Str → Option Value} {name : Str} {v : Value}

end

/-! ### the attributes as a list of pairs -/
def putF (f : Str) (v : V) : List (Str × V) → List (Str × V)
  | [] => [(f, v)]
  | (g, x) :: r => if g = f then (g, v) :: r else (g, x) :: putF f v r
section
variable {P : Program} {w : World} {H H' : Hp} {h h' : Heap} {a C dx : Addr} {fs fs' : List (Str × V)}
theorem ins_get (hok : HOk P w H h) (e : H a = some (.ins C dx fs)) : ∃ mA, ObjM h a dx C mA ∧ (∀ f, RelO (fs.lookup f) (mA f)) ∧ PySem.Within mA (fs.map (·.1)) ∧ fs.length ≤ 1000 ∧ H dx = some (.own a) := by
  obtain ⟨d, z, ne, ob, mA, n, r, q⟩ := (show ObjOk P w H h a (.ins C dx fs) from hok a _ e)
  exact ⟨mA, ⟨ob, n, ne⟩, r, q, z, d⟩
end

/-! ### what of the text a class must have -/
structure Cls (K : PySem.W.Frag) (C : Addr) : Prop where
  pg : PySem.W.plainGet K C Str.empty = true
  hd : PySem.W.hasDictIn K C = true
  po : PySem.W.plainOver K C = true
  sa : PySem.W.findIn K (.ref C) "__setattr__" = some (some (.builtin "object.__setattr__"))
theorem Cls.get {K : PySem.W.Frag} {C : Addr} (c : Cls K C) (f : Str) : PySem.W.plainGet K C f = true := c.pg
/-- no class of it has the name -/
def NoAttr (K : PySem.W.Frag) (C : Addr) (f : Str) : Prop := PySem.W.findIn K (.ref C) f = some none
/-- a constant of the class -/
structure Con (K : PySem.W.Frag) (C : Addr) (f : Str) (v : V) (u : Value) : Prop where
  at_ : PySem.W.findIn K (.ref C) f = some (some u)
  rel : RelV v u
  get : PySem.W.specialIn K u "__get__" = some none
  cp : PySem.W.copiedNames.contains f = false
/-- a method: a plain def of the class or of one above it -/
structure Meth (K : PySem.W.Frag) (C : Addr) (m : Str) (f : Addr) : Prop where
  at_ : PySem.W.findIn K (.ref C) m = some (some (.ref f))
  fn : PySem.W.isFn K (.ref f) = true
  kp : PySem.W.keepIn K (.ref f) = true

section
variable {X : Cx} {pins : List (Addr × Obj)} {σ : St} {H : Hp} {s : Shared} {a C dx : Addr} {fs : List (Str × V)} {f : Str} {v : V} {A : Around} {E : Value → Shared → Prop}

/-- a new instance, tracked, without attributes -/
theorem Inv.made (I : Inv X pins σ H s) : Inv X pins σ (upd (upd H s.heap.objs.size (.own (s.heap.objs.size + 1))) (s.heap.objs.size + 1) (.ins C s.heap.objs.size []))
    { s with heap := (s.heap.push PySem.W.emptyDict).push (PySem.W.instObj C s.heap.objs.size) } := by
  have e1 : (s.heap.push PySem.W.emptyDict).get? s.heap.objs.size = some PySem.W.emptyDict := Heap.get?_push_size s.heap rfl
  have e2 : ((s.heap.push PySem.W.emptyDict).push (PySem.W.instObj C s.heap.objs.size)).get? (s.heap.objs.size + 1) = some (PySem.W.instObj C s.heap.objs.size) := by
    have := Heap.get?_push_size (s.heap.push PySem.W.emptyDict) (o := PySem.W.instObj C s.heap.objs.size) rfl
    rwa [Heap.size_push] at this
  have e3 : (s.heap.push PySem.W.emptyDict).Ns s.heap.objs.size (fun _ => none) := ⟨PySem.W.emptyDict, #[], _, e1, rfl, (fun e he => absurd he (by simp)), fun _ => rfl⟩
  have I1 := I.laid (a := s.heap.objs.size) (o := .own (s.heap.objs.size + 1)) (h' := s.heap.push PySem.W.emptyDict) (t' := s.toks) (fun b u q => Heap.get?_push_of_some _ q) (Nat.le_refl _) ⟨_, e1⟩
  refine I1.laid (a := s.heap.objs.size + 1) (o := .ins C s.heap.objs.size []) (t' := s.toks) (fun b u q => Heap.get?_push_of_some _ q) (Nat.le_of_eq (Heap.size_push _ _)) ?_
  have ne : s.heap.objs.size ≠ s.heap.objs.size + 1 := Nat.ne_of_lt (Nat.lt_succ_self _)
  refine ⟨by rw [upd_ne ne, upd_same], Nat.zero_le _, ne, e2, fun _ => none, (Heap.Ns1.of_empty e3).at fun o q => Heap.get?_push_of_some _ q, fun _ => True.intro, fun y hy => absurd rfl hy⟩

end

/-! ### readings and rules -/
/-- e.f, an attribute of the instance -/
def tFld (K : PySem.W.Frag) (ta : TE) (f : Str) : TE := fun σ H Q => ta σ H fun x H1 => ∃ a C dx fs v, x = .ref a ∧ H1 a = some (.ins C dx fs) ∧ Cls K C ∧ NoAttr K C f ∧ fs.lookup f = some v ∧ Q v H1
/-- e.f, a constant of the class -/
def tCon (K : PySem.W.Frag) (ta : TE) (f : Str) : TE := fun σ H Q => ta σ H fun x H1 => ∃ a C dx fs v u, x = .ref a ∧ H1 a = some (.ins C dx fs) ∧ Cls K C ∧ Con K C f v u ∧ fs.lookup f = none ∧ Q v H1
/-- e.f = value -/
def sFld (K : PySem.W.Frag) (ta tv : TE) (f : Str) : TS := fun D σ H => tv σ H fun y H1 => ta σ H1 fun x H2 => ∃ a C dx fs, x = .ref a ∧ H2 a = some (.ins C dx fs) ∧ Cls K C ∧ NoAttr K C f ∧ fs.length < 1000 ∧
  D.nx σ (upd H2 a (.ins C dx (putF f y fs)))
/-- an augmented operator on two values -/
def InOp (X : Cx) (op : Operator) (rd : V → V → Hp → VK → Prop) : Prop :=
  ∀ (pins : List (Addr × Obj)) (s : Shared) (σ : St) (H : Hp) (x y : V) (u v : Value) (Q : VK), Inv X pins σ H s → RelV x u → RelV y v → rd x y H Q → wpAny (model X.prog X.w) X.A (inplaceOp op u v) (EP X pins σ Q) X.xe s
/-- e.f op= value -/
def sFldAug (K : PySem.W.Frag) (ta tv : TE) (rd : V → V → Hp → VK → Prop) (f : Str) : TS := fun D σ H => ta σ H fun x H1 => ∃ a C dx fs v, x = .ref a ∧ H1 a = some (.ins C dx fs) ∧ Cls K C ∧ NoAttr K C f ∧ fs.lookup f = some v ∧
  tv σ H1 fun y H2 => rd v y H2 fun z H3 => ∃ dx' fs', H3 a = some (.ins C dx' fs') ∧ fs'.length < 1000 ∧ D.nx σ (upd H3 a (.ins C dx' (putF f z fs')))

section
variable {X : Cx} {o e value : Expr} {f : Str} {pos pos' tpos : Pos} {ta tv : TE}
def rAdd : V → V → Hp → VK → Prop := fun x y H Q => ∃ i j, x = .int i ∧ y = .int j ∧ Q (.int (i + j)) H
def rSub : V → V → Hp → VK → Prop := fun x y H Q => ∃ i j, x = .int i ∧ y = .int j ∧ Q (.int (i - j)) H
end

/-! ### isinstance -/
section
variable {X : Cx} {pins : List (Addr × Obj)} {σ : St} {H : Hp} {s : Shared} {A : Around} {E : Value → Shared → Prop} {Q : Value → Shared → Prop} {c : Value} {b : Bool}
/-- the type of a value, as the fragment's deciders take it; for an instance its class -/
inductive TyOf (K : PySem.W.Frag) (H : Hp) : V → Value → Prop where
  | non : TyOf K H .non (.type "NoneType")
  | bl (x : Bool) : TyOf K H (.bl x) (.type "bool")
  | int (i : Int) : TyOf K H (.int i) (.type "int")
  | str (x : Str) : TyOf K H (.str x) (.type "str")
  | flt (x : UInt64) : TyOf K H (.flt x) (.type "float")
  | lst {a : Addr} {xs : List V} (e : H a = some (.lst xs)) : TyOf K H (.ref a) (.type "list")
  | frz {a : Addr} {o : Obj} {xs : List V} (e : H a = some (.frz o (.lst xs))) : TyOf K H (.ref a) (.type "list")
  | tup {a : Addr} {xs : List V} (e : H a = some (.tup xs)) : TyOf K H (.ref a) (.type "tuple")
  | dK {a : Addr} {kvs : List (Key × V)} (e : H a = some (.dK kvs)) : TyOf K H (.ref a) (.type "dict")
  | dT {a : Addr} {kvs : List (List Key × V)} (e : H a = some (.dT kvs)) : TyOf K H (.ref a) (.type "dict")
  | ins {a C dx : Addr} {fs : List (Str × V)} (e : H a = some (.ins C dx fs)) (cl : Cls K C) (ha : PySem.W.findIn K (.ref C) "__class__" = some (some (.builtin "object.__class__")))
      (hn : PySem.W.specialIn K (.builtin "object.__class__") "__get__" = some (some (.builtin "getset_descriptor.__get__"))) (htk : PySem.W.takesIn K (.builtin "object.__class__") = some true)
      (hm : PySem.W.mroIn K C (.type "object") = some true) : TyOf K H (.ref a) (.ref C)
/-- isinstance(x, c) for one class c, a built-in or an own one: kitOne's answer -/
theorem isinst_ok {x : V} {u t : Value} (I : Inv X pins σ H s) (rx : RelV x u) (ty : TyOf X.K H x t) (e : PySem.W.kitOne X.K t c = some b) (h : ∀ tk, Q (.bool b) { s with toks := tk }) :
    wpAny (model X.prog X.w) A (call (.builtin "isinstance") [u, c]) Q E s := by
  cases ty with
  | non => cases (show u = Value.none from rx); exact PySem.W.kia_one PySem.W.kitx_none I.kIn True.intro e (fun z => nomatch z) h
  | bl y => cases (show u = Value.bool y from rx); exact PySem.W.kia_one PySem.W.kitx_bool I.kIn True.intro e (fun z => nomatch z) h
  | int i => obtain ⟨t, q⟩ := (show ∃ t, u = Value.int i t from rx); cases q; exact PySem.W.kia_one PySem.W.kitx_int I.kIn True.intro e (fun z => nomatch z) h
  | str y => obtain ⟨t, q⟩ := (show ∃ t, u = Value.str y t from rx); cases q; exact PySem.W.kia_one PySem.W.kitx_str I.kIn True.intro e (fun z => nomatch z) h
  | flt y => obtain ⟨t, q⟩ := (show ∃ t, u = Value.float y t from rx); cases q; exact PySem.W.kia_one PySem.W.kitx_float I.kIn True.intro e (fun z => nomatch z) h
  | @lst a xs ea =>
    cases (show u = Value.ref a from rx)
    obtain ⟨_, _, n, _, h1⟩ := (show ObjOk X.prog X.w H s.heap a (.lst xs) from I.hok a _ ea)
    exact PySem.W.kia_one PySem.W.kitx_list I.kIn ⟨_, h1, rfl⟩ e (fun z => nomatch z) h
  | @frz a ob xs ea =>
    cases (show u = Value.ref a from rx)
    obtain ⟨_, _, _, n, _, h1⟩ := (show ObjOk X.prog X.w H s.heap a (.frz ob (.lst xs)) from I.hok a _ ea)
    exact PySem.W.kia_one PySem.W.kitx_list I.kIn ⟨_, h1, rfl⟩ e (fun z => nomatch z) h
  | @tup a xs ea =>
    cases (show u = Value.ref a from rx)
    obtain ⟨_, _, _, p⟩ := (show ObjOk X.prog X.w H s.heap a (.tup xs) from I.hok a _ ea)
    obtain ⟨o, h1, h2, _⟩ := p
    exact PySem.W.kia_one PySem.W.kitx_tuple I.kIn ⟨o, h1, h2⟩ e (fun z => nomatch z) h
  | @dK a kvs ea =>
    cases (show u = Value.ref a from rx)
    obtain ⟨_, _, vs, _, p⟩ := (show ObjOk X.prog X.w H s.heap a (.dK kvs) from I.hok a _ ea)
    obtain ⟨o, es, ep, h1, h2, _⟩ := p
    exact PySem.W.kia_one PySem.W.kitx_dict I.kIn ⟨o, h1, h2.1⟩ e (fun z => nomatch z) h
  | @dT a kvs ea =>
    cases (show u = Value.ref a from rx)
    obtain ⟨_, _, xs, _, o, es, ep, h1, h2, _⟩ := (show ObjOk X.prog X.w H s.heap a (.dT kvs) from I.hok a _ ea)
    exact PySem.W.kia_one PySem.W.kitx_dict I.kIn ⟨o, h1, h2.1⟩ e (fun z => nomatch z) h
  | @ins a C dx fs ea cl ha hn htk hm =>
    cases (show u = Value.ref a from rx)
    obtain ⟨mA, O, _⟩ := ins_get I.hok ea
    obtain ⟨od, J, _⟩ := O.look
    exact PySem.W.kia_one (PySem.W.kitx_own (cl.get _) cl.hd ha hn htk hm) I.kIn J e (fun z => nomatch z) h
end
end L2

namespace L2
open PySem PySem.Spec PyProof.Rows

/-! ### room -/
structure Room (k : Nat) (A : Around) : Prop where
  hd : A.handled = none
  dp : A.depth + 3 * k + 5 < recursionLimit
  un : A.units + 16 * k + 200 < cLine
theorem Room.mono {j k : Nat} {A : Around} (r : Room k A) (h : j ≤ k) : Room j A := ⟨r.hd, by have := r.dp; omega, by have := r.un; omega⟩
theorem Room.deeper {k : Nat} {A : Around} (r : Room (k + 1) A) (env : Env) : Room k (A.deeper env) :=
  ⟨r.hd, by have := r.dp; show A.depth + 1 + 3 * k + 5 < _; omega, by have := r.un; show A.units + 3 + 16 * k + 200 < _; omega⟩
theorem Room.in1 {k : Nat} {A : Around} (r : Room (k + 1) A) : Room k A.in1 :=
  ⟨r.hd, by have := r.dp; show A.depth + 3 * k + 5 < _; omega, by have := r.un; show A.units + 1 + 16 * k + 200 < _; omega⟩
theorem Room.depth {k : Nat} {A : Around} (r : Room k A) : A.depth < recursionLimit := by have := r.dp; omega
theorem Room.units {k : Nat} {A : Around} (r : Room k A) : A.units + 64 < cLine := by have := r.un; omega
theorem Room.units0 {k : Nat} {A : Around} (r : Room k A) : A.units < cLine := by have := r.un; omega

/-! ### argument lists and displays -/
def tNil : TA := fun _ H Q => Q [] H
def tCons (ta : TE) (tr : TA) : TA := fun σ H Q => ta σ H fun x H1 => tr σ H1 fun xs H2 => Q (x :: xs) H2
section
variable {X : Cx} {e : Expr} {es : List Expr} {te : TE} {t : TA} {pos : Pos}
theorem pa_nil : PA X [] tNil := fun _ _ _ _ H Q I h => Calls.spliced_nil ⟨[], H, I, .nil, h⟩
theorem pa_cons (ha : PE X e te) (hr : PA X es t) (hs : starEach (e :: es) X.env = (false, eval e X.env) :: starEach es X.env := by rfl) : PA X (e :: es) (tCons te t) := by
  intro pos pins s σ H Q I h
  rw [hs]
  show wpAny _ _ (spliced ((false, eval e X.env) :: backTo pos (starEach es X.env))) _ _ s
  refine Calls.spliced_cons (thn (ha pins s σ H _ I h) fun u s1 ⟨x, H1, I1, r1, q1⟩ => ?_)
  exact thn (hr pos pins s1 σ H1 _ I1 q1) fun us s2 ⟨xs, H2, I2, r2, q2⟩ => ⟨x :: xs, H2, I2, .cons r1 r2, q2⟩

/-- a tuple, a list of written items -/
def tTup (t : TA) : TE := fun σ H Q => t σ H fun xs H1 => xs.length ≤ sizeLine ∧ ∀ p, H1 p = none → Q (.ref p) (upd H1 p (.tup xs))
def tLst (t : TA) : TE := fun σ H Q => t σ H fun xs H1 => xs.length ≤ sizeLine ∧ ∀ p, H1 p = none → Q (.ref p) (upd H1 p (.lst xs))
theorem pe_tup {x1} (h : PA X es t) : PE X (.Tuple es x1 pos) (tTup t) := by
  intro pins s σ H Q I hq
  refine wpAny_Tuple_spliced (thn (h pos pins s σ H _ I hq) fun us s1 ⟨xs, H1, I1, r, z, q⟩ => ⟨by rw [← r.length]; exact z, ?_⟩)
  have hf : H1 s1.heap.objs.size = none := I1.hok.fresh (Nat.le_refl _)
  refine ⟨.ref s1.heap.objs.size, upd H1 s1.heap.objs.size (.tup xs), I1.laid (t' := s1.toks) (fun b u e => Heap.get?_push_of_some _ e) (Nat.le_refl _) ?_, rfl, q _ hf⟩
  exact ⟨z, us, r, ⟨_, Heap.get?_push_size _ rfl, rfl, _, rfl⟩⟩
theorem pe_lst (h : PA X es t) : PE X (.List es pos) (tLst t) := by
  intro pins s σ H Q I hq
  refine wpAny_List_spliced (thn (h pos pins s σ H _ I hq) fun us s1 ⟨xs, H1, I1, r, z, q⟩ => ⟨by rw [← r.length]; exact z, ?_⟩)
  have hf : H1 s1.heap.objs.size = none := I1.hok.fresh (Nat.le_refl _)
  refine ⟨.ref s1.heap.objs.size, upd H1 s1.heap.objs.size (.lst xs), I1.laid (t' := s1.toks) (fun b u e => Heap.get?_push_of_some _ e) (Nat.le_refl _) ?_, rfl, q _ hf⟩
  exact ⟨z, us, 0, r, Heap.get?_push_size _ rfl⟩
end

/-! ### what a def promises -/
/-- a def's promise: the bound arguments in the parameters' order, the heap, the wanted end, the wanted exception -/
abbrev Sp := List V → Hp → VK → XK → Prop
/-- how an exception lies behind a call (file 08 gives it): the callers' frames, abstract heap and state ahead of the call, the wish, the exception, the state -/
abbrev CXT := List Env → Hp → Shared → XK → Value → Shared → Prop

/-- the state at a call -/
structure Env0 (P : Program) (w : World) (K : PySem.W.Frag) (mg : Str → Option Value) (base : Heap) (A : Around) (outer : List Env) (s : Shared) (H : Hp) : Prop where
  frames : A.frames = some outer
  mod : Mod K mg base
  bs : ∀ b o, base.get? b = some o → s.heap.get? b = some o ∧ H b = none
  bsz : base.objs.size ≤ s.heap.objs.size
  funs : s.heap.FunFrames base outer
  frf : ∀ b ∈ frs outer, H b = none
  hok : HOk P w H s.heap
  bare : AllBare s.gens
/-- a call's end -/
def CE (outer : List Env) (P : Program) (w : World) (H : Hp) (s : Shared) (Q : VK) (u : Value) (s' : Shared) : Prop :=
  ∃ v H', s'.os = s.os ∧ AllBare s'.gens ∧ Un (frs outer) [] H H' s.heap s'.heap ∧ HOk P w H' s'.heap ∧ RelV v u ∧ Q v H'
def CR (CX : CXT) (outer : List Env) (P : Program) (w : World) (H : Hp) (s : Shared) (Q : VK) (E : XK) (r : Result) (s' : Shared) : Prop :=
  match r with
  | .ok (.ret u) => CE outer P w H s Q u s'
  | .ok _ => False
  | .error e => CX outer H s E e s'
structure FnOk (P : Program) (w : World) (K : PySem.W.Frag) (mg : Str → Option Value) (base : Heap) (CX : CXT) (k : Nat) (f : Addr) (fd : FuncData) (ps : List Str) (sp : Sp) : Prop where
  len : ∀ vs H Q E, sp vs H Q E → vs.length = ps.length
  run : ∀ (A : Around) (outer : List Env) (s : Shared) (H : Hp) (args : Args) (us : List Value) (vs : List V) (Q : VK) (E : XK), Room k A → Env0 P w K mg base A outer s H → BindsTo s fd args (ps.zip us) → Vals vs us → sp vs H Q E →
    codeAny (model P w) A (.call (.ref f) args) (CR CX outer P w H s Q E) s
theorem FnOk.mono {P : Program} {w : World} {K : PySem.W.Frag} {mg : Str → Option Value} {base : Heap} {CX : CXT} {j k : Nat} {f : Addr} {fd : FuncData} {ps : List Str} {sp : Sp} (F : FnOk P w K mg base CX j f fd ps sp) (h : j ≤ k) :
    FnOk P w K mg base CX k f fd ps sp := ⟨F.len, fun A outer s H args us vs Q E hr => F.run A outer s H args us vs Q E (hr.mono h)⟩
theorem Env0.in1 {P : Program} {w : World} {K : PySem.W.Frag} {mg : Str → Option Value} {base : Heap} {A : Around} {outer : List Env} {s : Shared} {H : Hp} (e : Env0 P w K mg base A outer s H) :
    Env0 P w K mg base A.in1 outer s H := ⟨e.frames, e.mod, e.bs, e.bsz, e.funs, e.frf, e.hok, e.bare⟩

section
variable {X : Cx} {pins : List (Addr × Obj)} {σ : St} {H : Hp} {s s' : Shared}
/-- from a body: what a callee wants -/
theorem Inv.env0 (I : Inv X pins σ H s) : Env0 X.prog X.w X.K X.mg X.base X.A X.stack s H :=
  ⟨I.ok.frames, I.ok.mod, I.bs, Nat.le_trans I.ok.bsz I.sz, I.stack, I.stkFree, I.hok, I.bare⟩
/-- behind a call -/
theorem Inv.after {Q : VK} {u : Value} (I : Inv X pins σ H s) (h : CE X.stack X.prog X.w H s Q u s') : EP X pins σ Q u s' := by
  obtain ⟨v, H', os, bare, un, hok, r, q⟩ := h
  obtain ⟨hh, g, d, t, os'⟩ := s'
  obtain rfl : os' = s.os := os
  exact ⟨v, H', I.call (h' := hh) (g' := g) (d' := d) (t' := t) (ch := []) un hok bare (fun b z => absurd z (by simp)), r, q⟩
end

/-! ### calls -/
/-- f(..): the written arguments, then the defaults dvs; E: what is wanted of an exception -/
def tCall (sp : Sp) (dvs : List V) (E : XK) (t : TA) : TE := fun σ H Q => t σ H fun vs H1 => sp (vs ++ dvs) H1 Q E
/-- o.m(..) of an instance of the class at C -/
def tMeth (C : Addr) (m : Str) (sp : Sp) (dvs : List V) (E : XK) (ta : TE) (t : TA) : TE := fun σ H Q => ta σ H fun x H1 => ∃ a dx fs, x = .ref a ∧ H1 a = some (.ins C dx fs) ∧ fs.lookup m = none ∧
  t σ H1 fun vs H2 => sp (x :: (vs ++ dvs)) H2 Q E
/-- C(..): a new instance and its dict, then __init__ -/
def tMake (C : Addr) (sp : Sp) (dvs : List V) (E : XK) (t : TA) : TE := fun σ H Q => t σ H fun vs H1 => ∀ x dx, H1 x = none → H1 dx = none → dx ≠ x →
  sp (.ref x :: (vs ++ dvs)) (upd (upd H1 dx (.own x)) x (.ins C dx [])) (fun v H2 => v = .non ∧ Q (.ref x) H2) E

/-- how the parameters are bound: us the positional arguments, kw the keywords' values by name, ds the defaults that fill up -/
def Binds (K : PySem.W.Frag) (fd : FuncData) (ps : List Str) (ds : List Value) : Prop :=
  ∀ (s : Shared) (us : List Value), K.In s.heap → (us ++ ds).length = ps.length → BindsTo s fd ⟨us, []⟩ (ps.zip (us ++ ds))
/-- every parameter is given -/
theorem Binds.all {K : PySem.W.Frag} {fd : FuncData} {ps : List Str} (h : ∀ us : List Value, us.length = ps.length → bindArgs fd ⟨us, []⟩ = pure (ps.zip us)) : Binds K fd ps [] := fun s us _ hl => by
  rw [List.append_nil] at hl ⊢
  exact .of_eq (h us hl)

/-- an exception of a callee reaches what this body wants of exceptions -/
def Passes (CX : CXT) (X : Cx) (E : XK) : Prop := ∀ (pins : List (Addr × Obj)) (σ : St) (H : Hp) (s : Shared) (e : Value) (s' : Shared), Inv X pins σ H s → CX X.stack H s E e s' → X.xe e s'

section
variable {X : Cx} {CX : CXT} {k : Nat} {f C : Addr} {fd : FuncData} {ps : List Str} {sp : Sp} {dvs : List V} {ds : List Value} {E : XK} {x m : Str} {p pos apos : Pos} {e o : Expr} {es : List Expr} {ta : TE} {t : TA}

/-- the callee runs -/
theorem run_fn {pins : List (Addr × Obj)} {σ : St} {H : Hp} {s : Shared} {Q : VK} {us : List Value} {vs : List V} (F : FnOk X.prog X.w X.K X.mg X.base CX k f fd ps sp) (hr : Room k X.A) (hb : Binds X.K fd ps ds) (hd : Vals dvs ds) (hx : Passes CX X E)
    (I : Inv X pins σ H s) (r : Vals vs us) (h : sp (vs ++ dvs) H Q E) : wpAny (model X.prog X.w) X.A (call (.ref f) us) (EP X pins σ Q) X.xe s := by
  have r2 : Vals (vs ++ dvs) (us ++ ds) := r.append hd
  have hl : (us ++ ds).length = ps.length := by rw [← r2.length]; exact F.len _ _ _ _ h
  refine wpAny_call (codeAny_mono (F.run X.A X.stack s H ⟨us, []⟩ (us ++ ds) (vs ++ dvs) Q E hr I.env0 (hb s us I.kIn hl) r2 h) fun r s' hq => ?_)
  cases r with
  | error e => exact hx pins σ H s e s' I hq
  | ok fl =>
    cases fl with
    | ret u => exact I.after hq
    | next => exact False.elim hq
    | brk => exact False.elim hq
    | cont => exact False.elim hq

theorem pe_call (F : FnOk X.prog X.w X.K X.mg X.base CX k f fd ps sp) (hr : Room k X.A) (hg : Gl X x) (hm : X.mg x = some (.ref f)) (hk : PySem.W.keepIn X.K (.ref f) = true) (hb : Binds X.K fd ps ds) (hd : Vals dvs ds) (hx : Passes CX X E)
    (ha : PA X (e :: es) t) (hdb : (x == ("__debug__" : Str)) = false := by decide) (he : starEach (e :: es) X.env = (false, eval e X.env) :: starEach es X.env := by rfl) (hpl : (backTo pos (starEach es X.env)).any (·.1) = false := by rfl) :
    PE X (.Call (.Name x p) (e :: es) [] pos) (tCall sp dvs E t) := by
  intro pins s σ H Q I h
  refine wpAny_Call_Name_kw (ld_glob I hg hm ?_ hdb)
  refine PySem.W.callWith_K (h₀ := X.base) I.ok.mod.kin hk (thn (ha pos pins s σ H _ I h) fun us s1 ⟨vs, H1, I1, r, q⟩ => ⟨I1.kIn, ?_⟩) he hpl
  exact run_fn F hr hb hd hx I1 r q
/-- what a class must have to be made -/
structure Mk (K : PySem.W.Frag) (C f : Addr) : Prop where
  makes : PySem.W.makesIn K C = true
  init : PySem.W.findIn K (.ref C) "__init__" = some (some (.ref f))
  fn : PySem.W.isFn K (.ref f) = true
  kp : PySem.W.keepIn K (.ref C) = true

end

/-! ### keywords -/
/-- the values of the keywords, from the left -/
def PK (X : Cx) (kws : List Keyword) (t : TA) : Prop :=
  ∀ (pos : Pos) (pins : List (Addr × Obj)) (s : Shared) (σ : St) (H : Hp) (Q : List V → Hp → Prop), Inv X pins σ H s → t σ H Q → wpAny (model X.prog X.w) X.A (evalAll ((backToKw pos (keywordEach kws X.env)).map (·.2))) (AP X pins σ Q) X.xe s
section
variable {X : Cx} {CX : CXT} {k : Nat} {f C : Addr} {fd : FuncData} {ps ks : List Str} {sp : Sp} {E : XK} {x m : Str} {p pos apos kpos : Pos} {e o : Expr} {es : List Expr} {kws : List Keyword} {te ta : TE} {t tk : TA} {nm : Option Str}
/-- how a call with keywords binds: g puts the positional values us and the keywords' values ws (names ks) in the parameters' order, defaults among them -/
structure KBinds (K : PySem.W.Frag) (fd : FuncData) (ps ks : List Str) (g : List Value → List Value → List Value) (gV : List V → List V → List V) : Prop where
  to : ∀ (s : Shared) (us ws : List Value), K.In s.heap → (g us ws).length = ps.length → BindsTo s fd ⟨us, ks.zip ws⟩ (ps.zip (g us ws))
  rel : ∀ {vs : List V} {us : List Value} {zs : List V} {ws : List Value}, Vals vs us → Vals zs ws → Vals (gV vs zs) (g us ws)
def tCallK (sp : Sp) (gV : List V → List V → List V) (E : XK) (t tk : TA) : TE := fun σ H Q => t σ H fun vs H1 => tk σ H1 fun zs H2 => sp (gV vs zs) H2 Q E
variable {g : List Value → List Value → List Value} {gV : List V → List V → List V}
end

/-! ### a def's body keeps its promise -/
/-- names: the parameters first -/
structure FnScope (N P : List Str) (sc : Scope) : Prop where
  kind : sc.kind = .function
  co : sc.isCoroutine = false
  gen : sc.isGenerator = false
  nd : N.Nodup
  pre : N.take P.length = P
  par : ∀ x ∈ P, sc.names.lookup x = some .local ∨ sc.names.lookup x = some .cell
  nofree : ∀ y ∈ sc.names, y.2 ≠ .free

theorem bindL_out {kindOf : Str → Option NameKind} {x : Str} : ∀ {binds : List (Str × Value)} {m : Str → Option Value}, (∀ v, (x, v) ∉ binds) → bindL kindOf binds m x = m x
  | [], _, _ => rfl
  | (n, v) :: r, m, h => by
    unfold bindL
    rw [bindL_out fun w hw => h w (List.mem_cons_of_mem _ hw)]
    split
    · have : x ≠ n := by rintro rfl; exact h v List.mem_cons_self
      simp [this]
    · rfl
theorem bindC_out {kindOf : Str → Option NameKind} {x : Str} : ∀ {binds : List (Str × Value)} {m : Str → Option Value}, (∀ v, (x, v) ∉ binds) → bindC kindOf binds m x = m x
  | [], _, _ => rfl
  | (n, v) :: r, m, h => by
    unfold bindC
    rw [bindC_out fun w hw => h w (List.mem_cons_of_mem _ hw)]
    split
    · rfl
    · have : x ≠ n := by rintro rfl; exact h v List.mem_cons_self
      simp [this]
theorem bindL_get {kindOf : Str → Option NameKind} {x : Str} {v : Value} : ∀ {P : List Str} {vs : List Value} {i : Nat} {m : Str → Option Value}, P.Nodup → P[i]? = some x → vs[i]? = some v → kindOf x = some .local →
    bindL kindOf (P.zip vs) m x = some v
  | [], _, _, _, _, h, _, _ => by simp at h
  | _ :: _, [], _, _, _, _, h, _ => by simp at h
  | p :: P, w :: vs, 0, m, nd, h1, h2, hk => by
    simp at h1 h2; subst h1; subst h2
    show bindL kindOf ((p, w) :: P.zip vs) m p = _
    unfold bindL
    rw [bindL_out fun v hv => (List.nodup_cons.mp nd).1 (List.of_mem_zip hv).1, if_pos hk]
    simp
  | p :: P, w :: vs, i + 1, m, nd, h1, h2, hk => by
    show bindL kindOf ((p, w) :: P.zip vs) m x = _
    unfold bindL
    exact bindL_get (i := i) (List.nodup_cons.mp nd).2 (by simpa using h1) (by simpa using h2) hk
theorem bindC_get {kindOf : Str → Option NameKind} {x : Str} {v : Value} : ∀ {P : List Str} {vs : List Value} {i : Nat} {m : Str → Option Value}, P.Nodup → P[i]? = some x → vs[i]? = some v → kindOf x ≠ some .local →
    bindC kindOf (P.zip vs) m x = some v
  | [], _, _, _, _, h, _, _ => by simp at h
  | _ :: _, [], _, _, _, _, h, _ => by simp at h
  | p :: P, w :: vs, 0, m, nd, h1, h2, hk => by
    simp at h1 h2; subst h1; subst h2
    show bindC kindOf ((p, w) :: P.zip vs) m p = _
    unfold bindC
    rw [bindC_out fun v hv => (List.nodup_cons.mp nd).1 (List.of_mem_zip hv).1, if_neg hk]
    simp
  | p :: P, w :: vs, i + 1, m, nd, h1, h2, hk => by
    show bindC kindOf ((p, w) :: P.zip vs) m x = _
    unfold bindC
    exact bindC_get (i := i) (List.nodup_cons.mp nd).2 (by simpa using h1) (by simpa using h2) hk

/-- the names' values at the entry -/
def start (N : List Str) (vs : List V) : St := vs.map some ++ List.replicate (N.length - vs.length) none

/-- the context of a def's body, at its entry; an exception leaves the frame, then lies as CX says -/
def cxOf (CX : CXT) (P : Program) (w : World) (K : PySem.W.Frag) (mg : Str → Option Value) (base : Heap) (N : List Str) (qual : Str) (scope : Scope) (f : Addr) (cd : Value) (A : Around) (outer : List Env) (s : Shared) (H : Hp) (E : XK) : Cx where
  prog := P
  w := w
  K := K
  mg := mg
  base := base
  A := A.deeper (envOfC qual scope s.heap.objs.size f cd)
  N := N
  s₀ := s
  H₀ := H
  env := envOfC qual scope s.heap.objs.size f cd
  outer := outer
  stack := envOfC qual scope s.heap.objs.size f cd :: outer
  ex := []
  calm := true
  fn := fun _ => true
  pn := []
  xe := fun e s' => wpAny (model P w) (A.deeper (envOfC qual scope s.heap.objs.size f cd)) (leaving (envOfC qual scope s.heap.objs.size f cd) e) (fun _ s'' => CX outer H s E e s'') (fun e' s'' => CX outer H s E e' s'') s'

theorem cell_has {sc : Scope} {n : Nat} {x : Str} (h : sc.names.lookup x = some .cell) : ∃ c, (cellsFrom n sc.names []).lookup x = some c := by
  have q := PySem.W.cellsFrom_some sc.names n [] (.inl h)
  exact Option.isSome_iff_exists.mp q

theorem inv_start {CX : CXT} {P : Program} {w : World} {K : PySem.W.Frag} {mg : Str → Option Value} {base : Heap} {N ps : List Str} {qual : Str} {scope : Scope} {f : Addr} {cd : Value} {A : Around} {outer : List Env} {s s1 : Shared} {H : Hp} {E : XK} {us : List Value} {vs : List V}
    (S : FnScope N ps scope) (hd : A.handled = none) (e0 : Env0 P w K mg base A outer s H) (hl : vs.length = ps.length) (r : Vals vs us)
    (x : InCallC s s.heap.objs.size (bindL (envOfC qual scope s.heap.objs.size f cd).kindOf (ps.zip us) fun _ => none) (cellsFrom (s.heap.objs.size + 1) scope.names []) (bindC (envOfC qual scope s.heap.objs.size f cd).kindOf (ps.zip us) fun _ => none) s1) :
    Inv (cxOf CX P w K mg base N qual scope f cd A outer s H E) [] (start N vs) H s1 := by
  have hpl : ps.length ≤ N.length := by have := congrArg List.length S.pre; rw [List.length_take] at this; omega
  obtain ⟨h1, tk, rfl, hk⟩ := x.done
  have noA : ∀ b : Addr, b ∉ (cxOf CX P w K mg base N qual scope f cd A outer s H E).ex := fun b z => absurd (show b ∈ ([] : List Addr) from z) (by simp)
  refine ⟨⟨e0.mod, S.kind, rfl, rfl, Nat.le_refl _, fun y z c h1 h2 => ?_, fun y hy => ?_, fun y c _ h => ?_, fun _ => hd, Around.frames_deeper e0.frames, .inr ⟨rfl, rfl⟩, fun b z => absurd z (noA b), e0.bs, e0.bsz, fun b _ _ => noA b, fun b z => absurd z (noA b), e0.funs, e0.frf⟩,
    rfl, e0.bare, Un.kept hk, ⟨_, x.toInCall.ns, fun i y v h1 h2 h3 => ?_⟩, fun y c h => ⟨_, x.cell y c h⟩, e0.hok.fresh (Nat.le_refl _), fun y c h => ?_, fun p hp => absurd (show p ∈ ([] : List (Addr × Obj)) from hp) (by simp), e0.hok.kept hk, ?_⟩
  · exact name_of_addr x.apart (PySem.mem_of_lookup h1) (PySem.mem_of_lookup h2)
  · have hy : scope.names.lookup y = some .cell ∨ scope.names.lookup y = some .free := hy
    rcases hy with hy | hy
    · exact cell_has hy
    · exact absurd rfl (S.nofree _ (PySem.mem_of_lookup hy))
  · exact Nat.le_of_lt (x.above y c (PySem.mem_of_lookup h))
  · have hi : i < vs.length := by
      unfold start at h2
      by_cases hi : i < vs.length
      · exact hi
      · rw [List.getElem?_append_right (by simpa using hi)] at h2
        rw [List.getElem?_replicate] at h2
        split at h2 <;> cases h2
    have ha : vs[i]? = some v := by
      unfold start at h2
      rw [List.getElem?_append_left (by simpa using hi), List.getElem?_map] at h2
      cases e : vs[i]? with
      | none => rw [e] at h2; cases h2
      | some a => rw [e] at h2; cases h2; rfl
    obtain ⟨u, hu, rv⟩ := r.get ha
    have hp : ps[i]? = some y := by
      rw [← S.pre, List.getElem?_take_of_lt (by omega)]; exact h1
    have ndP : ps.Nodup := by rw [← S.pre]; exact S.nd.sublist (List.take_sublist _ _)
    refine ⟨u, rv, ?_⟩
    rcases S.par y (List.mem_of_getElem? hp) with k | k
    · exact .inl ⟨k, bindL_get ndP hp hu k⟩
    · obtain ⟨c, e⟩ := cell_has (n := s.heap.objs.size + 1) k
      refine .inr ⟨.inl k, c, e, ?_⟩
      have q := x.cell y c e
      rw [bindC_get ndP hp hu (by show scope.names.lookup y ≠ _; rw [k]; decide)] at q
      exact q
  · exact e0.hok.fresh (Nat.le_of_lt (x.above y c (PySem.mem_of_lookup h)))
  · unfold start
    show _ = N.length
    rw [List.length_append, List.length_map, List.length_replicate]
    omega

/-- THE RULE: a def (or a method) of the text, by its body. The body's reading t is chosen for each entry; it is run at the parameters' values -/
theorem fn_of {CX : CXT} {P : Program} {w : World} {K : PySem.W.Frag} {mg : Str → Option Value} {base : Heap} {k : Nat} {f : Addr} {name qual : Str} {params : Arguments} {body : List Stmt} {scope : Scope} {dV kV doc pm cdv ct oc : Value} {an od : Option Addr}
    {osl : Array (Option Value)} {N ps : List Str} {sp : Sp} (lk : K.lookup f = some ⟨oc, od, .func (PySem.W.fnOf name qual params body scope dV kV doc pm an cdv ct), osl⟩) (hcd : PySem.W.codeIn K cdv qual = true) (S : FnScope N ps scope)
    (len : ∀ vs H Q E, sp vs H Q E → vs.length = ps.length)
    (hbody : ∀ (A : Around) (outer : List Env) (s : Shared) (H : Hp) (vs : List V) (Q : VK) (E : XK), Room k (A.deeper (envOfC qual scope s.heap.objs.size f cdv)) → sp vs H Q E →
      ∃ t, PSs (cxOf CX P w K mg base N qual scope f cdv A outer s H E) body t ∧ t { nx := fun _ H' => Q .non H', rt := Q } (start N vs) H) :
    FnOk P w K mg base CX (k + 1) f (PySem.W.fnOf name qual params body scope dV kV doc pm an cdv ct) ps sp := by
  refine ⟨len, fun A outer s H args us vs Q E hr e0 hb r hsp => ?_⟩
  have hl := len _ _ _ _ hsp
  have KX : K.In s.heap := e0.mod.kin.keeps fun b o e => (e0.bs b o e).1
  have lim : s.heap.NoLimit := e0.mod.nolimit.keeps fun b o e => (e0.bs b o e).1
  have hkind : ∀ y ∈ ps.zip us, scope.names.lookup y.1 = some .local ∨ (scope.names.lookup y.1 = some .cell ∧ ((cellsFrom (s.heap.objs.size + 1) scope.names []).lookup y.1).isSome = true) := fun ⟨n, v⟩ hy => by
    rcases S.par n (List.of_mem_zip hy).1 with q | q
    · exact .inl q
    · exact .inr ⟨q, PySem.W.cellsFrom_some _ _ _ (.inl q)⟩
  refine codeAny_call_function hr.depth (KX _ _ lk) rfl S.co S.gen rfl (PySem.W.codeRec_of KX hcd) (hb _ _ _ _ ?_)
  refine wpAny_newFunctionEnv_cells S.kind hkind fun env he s1 x => ?_
  subst he
  refine ⟨lim.keeps x.toInCall.keep, codeAny_func ?_⟩
  obtain ⟨t, ht, hq⟩ := hbody A outer s H vs Q E (hr.deeper _) hsp
  have I : Inv (cxOf CX P w K mg base N qual scope f cdv A outer s H E) [] (start N vs) H s1 := inv_start S hr.hd e0 hl r x
  refine wpAny_mono (ht [] s1 (start N vs) H _ I hq) (fun fl s' hs => ?_) fun e s' hs => hs
  have fin : ∀ {σ' : St} {H' : Hp} {v : V} {u : Value}, Inv (cxOf CX P w K mg base N qual scope f cdv A outer s H E) [] σ' H' s' → RelV v u → Q v H' → CE outer P w H s Q u s' :=
    fun {σ' H' v u} J rv q => ⟨v, H', J.os, J.bare, J.base, J.hok, rv, q⟩
  cases fl with
  | ret u =>
    obtain ⟨v, σ', H', J, rv, q⟩ := hs
    exact fin J rv q
  | next =>
    obtain ⟨σ', H', J, q⟩ := hs
    exact fin (v := V.non) (u := Value.none) J rfl q
  | brk =>
    obtain ⟨_, _, _, q⟩ := hs
    exact False.elim q
  | cont =>
    obtain ⟨_, _, _, q⟩ := hs
    exact False.elim q
end L2

namespace L2
open PySem PySem.Spec PyProof.Rows
section
variable {X : Cx} {x : Str} {p pos : Pos} {e : Expr} {es : List Expr} {t : TA} {id T : String} {r : List V → Hp → VK → Prop}

def tCB (r : List V → Hp → VK → Prop) (t : TA) : TE := fun σ H Q => t σ H fun vs H1 => r vs H1 Q
/-- f(e, ..), f a built-in function -/
theorem pe_callB (hc : CallR X (.builtin id) r) (hg : Gl X x) (hm : X.mg x = none) (hv : bootBuiltins x = some (.builtin id)) (ha : PA X (e :: es) t) (hn : x ≠ "__name__" := by decide) (hdb : (x == ("__debug__" : Str)) = false := by decide)
    (he : starEach (e :: es) X.env = (false, eval e X.env) :: starEach es X.env := by rfl) (hpl : (backTo pos (starEach es X.env)).any (·.1) = false := by rfl) : PE X (.Call (.Name x p) (e :: es) [] pos) (tCB r t) := by
  intro pins s σ H Q I h
  refine wpAny_Call_Name_kw (ld_blt I hg hm hv ?_ hn hdb)
  exact PyProof.Rows.callWith_builtin1 (thn (ha pos pins s σ H _ I h) fun us s1 ⟨vs, H1, I1, r1, q1⟩ => hc pins s1 σ H1 vs us Q I1 r1 q1) he hpl
/-- T(e, ..), T a built-in type -/
theorem pe_callTy (hc : CallR X (.type T) r) (hg : Gl X x) (hm : X.mg x = none) (hv : bootBuiltins x = some (.type T)) (ha : PA X (e :: es) t) (hn : x ≠ "__name__" := by decide) (hdb : (x == ("__debug__" : Str)) = false := by decide)
    (he : starEach (e :: es) X.env = (false, eval e X.env) :: starEach es X.env := by rfl) (hpl : (backTo pos (starEach es X.env)).any (·.1) = false := by rfl) : PE X (.Call (.Name x p) (e :: es) [] pos) (tCB r t) := by
  intro pins s σ H Q I h
  refine wpAny_Call_Name_kw (ld_blt I hg hm hv ?_ hn hdb)
  exact PyProof.Rows.callWith_type1 (thn (ha pos pins s σ H _ I h) fun us s1 ⟨vs, H1, I1, r1, q1⟩ => hc pins s1 σ H1 vs us Q I1 r1 q1) he hpl
end
end L2

namespace HT
open PySem PyProof.Rows

/-- t < u of tuples of ints -/
def lexLt : List Int → List Int → Bool
  | [], [] => false
  | [], _ :: _ => true
  | _ :: _, [] => false
  | x :: xs, y :: ys => if x = y then lexLt xs ys else decide (x < y)
section
open PySem.SeqAt
open PySem.AutoSeq1 (wpAny_loadPart')
open PySem.MeetsSeq PySem.MeetsSeq2 PySem.MeetsSeq3

end

section
variable {prog : Program} {w : World} {A : Around} {E : Value → Shared → Prop} {s : Shared}

/-! ### t[a:b], not the whole -/
/-- a slice's bound as a place among n (d where it is left out) -/
def sIx (n d : Nat) : Option Int → Nat
  | none => d
  | some v => if v < 0 then (v + (n : Int)).toNat else min v.toNat n
end
end HT

namespace L2
open PySem PySem.Spec PyProof.Rows

/-! ### the parts of a slice -/
abbrev TO := St → Hp → (Option Int → Hp → Prop) → Prop
/-- a slice's part (left out, or an int) -/
def PO (X : Cx) (e : Option Expr) (t : TO) : Prop :=
  ∀ (pins : List (Addr × Obj)) (s : Shared) (σ : St) (H : Hp) (Q : Option Int → Hp → Prop), Inv X pins σ H s → t σ H Q →
    wpAny (model X.prog X.w) X.A (evalPart e X.env) (fun u s' => ∃ o H', Inv X pins σ H' s' ∧ IsPart u o ∧ Q o H') X.xe s
def tNoPart : TO := fun _ H Q => Q none H
def tPart (t : TE) : TO := fun σ H Q => t σ H fun x H1 => ∃ i, x = .int i ∧ Q (some i) H1

section
variable {X : Cx} {e : Expr} {te : TE} {lo hi : Option Expr} {tl th : TO} {pos p2 : Pos}

theorem po_none : PO X none tNoPart := by
  intro pins s σ H Q I h
  rw [evalPart_none]
  exact wpAny_pure ⟨none, H, I, .none, h⟩
theorem po_some (h : PE X e te) : PO X (some e) (tPart te) := by
  intro pins s σ H Q I hw
  rw [evalPart_some]
  refine thn (h pins s σ H _ I hw) fun u s1 ⟨x, H1, I1, r1, q1⟩ => ?_
  obtain ⟨i, rfl, q⟩ := q1
  obtain ⟨t, rfl⟩ := r1
  exact ⟨some i, H1, I1, .int i t, q⟩

/-- what a slice of a value is, by values: the slice object stands at sl -/
def SlR (X : Cx) (r : V → Option Int → Option Int → Hp → VK → Prop) : Prop :=
  ∀ (pins : List (Addr × Obj)) (s : Shared) (σ : St) (H : Hp) (x : V) (v vl vu : Value) (lo hi : Option Int) (sl : Addr) (Q : VK), Inv X pins σ H s → RelV x v → s.heap.IsSliceOf sl vl vu .none → IsPart vl lo → IsPart vu hi → r x lo hi H Q →
    ∃ T id, typeLookup (.type T) "__getitem__" = pure (some (.builtin id)) ∧ s.TypeIs v T ∧ wpAny (model X.prog X.w) X.A (getItem v (.ref sl)) (EP X pins σ Q) X.xe s
theorem SlR.or {r r' : V → Option Int → Option Int → Hp → VK → Prop} (h : SlR X r) (h' : SlR X r') : SlR X (fun x lo hi H Q => r x lo hi H Q ∨ r' x lo hi H Q) := by
  intro pins s σ H x v vl vu lo hi sl Q I rx hs pl pu q
  rcases q with q | q
  · exact h pins s σ H x v vl vu lo hi sl Q I rx hs pl pu q
  · exact h' pins s σ H x v vl vu lo hi sl Q I rx hs pl pu q
def tSl (r : V → Option Int → Option Int → Hp → VK → Prop) (te : TE) (tl th : TO) : TE := fun σ H Q => te σ H fun x H1 => tl σ H1 fun l H2 => th σ H2 fun u H3 => r x l u H3 Q
/-- a[lo:hi], any a -/
theorem pe_slice {r : V → Option Int → Option Int → Hp → VK → Prop} (hr : SlR X r) (he : PE X e te) (hl : PO X lo tl) (hu : PO X hi th) : PE X (.Subscript e (.Slice lo hi none p2) pos) (tSl r te tl th) := by
  intro pins s σ H Q I h
  refine Subscript_ (thn (he pins s σ H _ I h) fun v s1 ⟨x, H1, I1, r1, q1⟩ => ?_)
  refine wpAny_Slice (thn (hl pins s1 σ H1 _ I1 q1) fun vl s2 ⟨l, H2, I2, pl, q2⟩ => thn (hu pins s2 σ H2 _ I2 q2) fun vu s3 ⟨u, H3, I3, pu, q3⟩ => ?_)
  rw [evalPart_none]
  refine wpAny_pure ?_
  have I4 : Inv X pins σ H3 { s3 with heap := s3.heap.push { cls := .type "slice", data := .fields #[vl, vu, .none] } } := I3.kept (t' := s3.toks) fun b ob q => Heap.get?_push_of_some _ q
  obtain ⟨T, id, hT, ht, hg⟩ := hr pins { s3 with heap := s3.heap.push { cls := .type "slice", data := .fields #[vl, vu, .none] } } σ H3 x v vl vu l u s3.heap.objs.size Q I4 r1 (Heap.IsSliceOf.new ..) pl pu q3
  show wpAny (model X.prog X.w) X.A (subscriptTail e (.Slice lo hi none p2) v (.ref s3.heap.objs.size)) (EP X pins σ Q) X.xe { s3 with heap := s3.heap.push { cls := .type "slice", data := .fields #[vl, vu, .none] } }
  exact tail_any (ops := [.ref s3.heap.objs.size, v]) ht hT hg (by with_unfolding_all rfl)

/-- the items of xs[lo:hi] -/
def cutV (xs : List V) (lo hi : Option Int) : List V := (xs.drop (HT.sIx xs.length 0 lo)).take (HT.sIx xs.length xs.length hi - HT.sIx xs.length 0 lo)
theorem cutV_length (xs : List V) (lo hi : Option Int) : (cutV xs lo hi).length ≤ xs.length := by
  unfold cutV
  rw [List.length_take, List.length_drop]
  omega
/-- t[lo:hi], not the whole of it (the whole would be t itself) -/
def rSlT (K : PySem.W.Frag) : V → Option Int → Option Int → Hp → VK → Prop := fun x lo hi H Q => ∃ a xs, x = .ref a ∧ SqT K H a xs ∧
  ¬ (HT.sIx xs.length 0 lo = 0 ∧ HT.sIx xs.length xs.length hi = xs.length) ∧ ∀ p, H p = none → Q (.ref p) (upd H p (.tup (cutV xs lo hi)))
/-! ### t < u, t + u -/
def rLtT (K : PySem.W.Frag) : R2 := fun x y H Q => ∃ a b ns ms, x = .ref a ∧ y = .ref b ∧ SqT K H a (ns.map V.int) ∧ SqT K H b (ms.map V.int) ∧ Q (.bl (HT.lexLt ns ms)) H
/-- t + u, t not empty: u empty gives t itself -/
def rCatT (K : PySem.W.Frag) : R2 := fun x y H Q => ∃ a b xs ys, x = .ref a ∧ y = .ref b ∧ SqT K H a xs ∧ SqT K H b ys ∧ xs ≠ [] ∧ xs.length + ys.length ≤ sizeLine ∧
  (ys = [] → Q (.ref a) H) ∧ (ys ≠ [] → ∀ p, H p = none → Q (.ref p) (upd H p (.tup (xs ++ ys))))
end
end L2

namespace L2
open PySem PySem.Spec PyProof.Rows

/-! ### places -/
/-- the place that an index of any sign means -/
def ixN (n : Nat) (i : Int) : Option Nat := if 0 ≤ i then (if i < n then some i.toNat else none) else if -(n : Int) ≤ i then some (i + n).toNat else none
def atI {α : Type} (xs : List α) (i : Int) : Option α := (ixN xs.length i).bind fun j => xs[j]?
theorem ixN_seq {n : Nat} {i : Int} {j : Nat} (h : ixN n i = some j) : seqIndex? i n = some j ∧ j < n ∧ -(n : Int) ≤ i ∧ i < n := by
  unfold ixN at h
  by_cases h0 : 0 ≤ i
  · rw [if_pos h0] at h
    by_cases h1 : i < n
    · rw [if_pos h1] at h
      have e : i.toNat = j := Option.some.inj h
      exact ⟨by rw [seqIndex_of h0 h1, e], by omega, by omega, h1⟩
    · rw [if_neg h1] at h; cases h
  · rw [if_neg h0] at h
    by_cases h1 : -(n : Int) ≤ i
    · rw [if_pos h1] at h
      have e : (i + n).toNat = j := Option.some.inj h
      exact ⟨by rw [seqIndex_neg (by omega) h1, e], by omega, h1, by omega⟩
    · rw [if_neg h1] at h; cases h
theorem atI_get {α : Type} {xs : List α} {i : Int} {v : α} (h : atI xs i = some v) : ∃ j, seqIndex? i xs.length = some j ∧ xs[j]? = some v ∧ j < xs.length ∧ -(xs.length : Int) ≤ i ∧ i < xs.length := by
  unfold atI at h
  cases e : ixN xs.length i with
  | none => rw [e] at h; cases h
  | some j =>
    rw [e] at h
    obtain ⟨h1, h2, h3, h4⟩ := ixN_seq e
    exact ⟨j, h1, h, h2, h3, h4⟩
theorem atI_nat {α : Type} {xs : List α} {j : Nat} {v : α} (h : xs[j]? = some v) : atI xs (j : Int) = some v := by
  have hj : j < xs.length := (List.getElem?_eq_some_iff.mp h).1
  have e : ixN xs.length (j : Int) = some j := by
    unfold ixN
    rw [if_pos (by omega), if_pos (by omega)]; simp
  unfold atI; rw [e]; exact h
theorem atI_last {α : Type} (xs : List α) (v : α) : atI (xs ++ [v]) (-1) = some v := by
  have hl : (xs ++ [v]).length = xs.length + 1 := by simp
  have e : ixN (xs ++ [v]).length (-1) = some xs.length := by
    unfold ixN
    rw [hl, if_neg (by decide), if_pos (by omega)]
    congr 1
    omega
  unfold atI
  rw [e]
  show (xs ++ [v])[xs.length]? = some v
  simp

/-! ### what may be subscripted -/
/-- what stands as an index of a plain subscript -/
def PlainIx (b : Expr) : Prop := ∀ o i, subscripted b false o i = operate [o, i] (getItem o i)
/-- a subscript by values -/
def IxR (X : Cx) (r : R2) : Prop :=
  ∀ (value slice : Expr) (pins : List (Addr × Obj)) (s : Shared) (σ : St) (H : Hp) (x y : V) (v u : Value) (Q : VK), Inv X pins σ H s → RelV x v → RelV y u → r x y H Q →
    subscripted slice false v u = operate [v, u] (getItem v u) → wpAny (model X.prog X.w) X.A (subscriptTail value slice v u) (EP X pins σ Q) X.xe s
/-- a call of a builtin's method by values: the receiver, the arguments -/
def MtR (X : Cx) (id : String) (r : V → List V → Hp → VK → Prop) : Prop :=
  ∀ (pins : List (Addr × Obj)) (s : Shared) (σ : St) (H : Hp) (x : V) (xs : List V) (v : Value) (us : List Value) (Q : VK), Inv X pins σ H s → RelV x v → Vals xs us → r x xs H Q →
    wpAny (model X.prog X.w) X.A (call (.builtin id) (v :: us)) (EP X pins σ Q) X.xe s
section
variable {X : Cx} {a b : Expr} {ta tb : TE} {pos : Pos}
theorem IxR.or {r r' : R2} (h : IxR X r) (h' : IxR X r') : IxR X (fun x y H Q => r x y H Q ∨ r' x y H Q) := by
  intro value slice pins s σ H x y v u Q I rx ry q hs
  rcases q with q | q
  · exact h value slice pins s σ H x y v u Q I rx ry q hs
  · exact h' value slice pins s σ H x y v u Q I rx ry q hs
theorem MtR.or {id : String} {r r' : V → List V → Hp → VK → Prop} (h : MtR X id r) (h' : MtR X id r') : MtR X id (fun x xs H Q => r x xs H Q ∨ r' x xs H Q) := by
  intro pins s σ H x xs v us Q I rx rs q
  rcases q with q | q
  · exact h pins s σ H x xs v us Q I rx rs q
  · exact h' pins s σ H x xs v us Q I rx rs q
/-- a[b] -/
theorem pe_ix {r : R2} (hr : IxR X r) (ha : PE X a ta) (hb : PE X b tb) (hs : PlainIx b) : PE X (.Subscript a b pos) (tOp r ta tb) := by
  intro pins s σ H Q I h
  exact Subscript_ (binT ha hb I h fun v u s2 x y H2 I2 rx ry q => hr a b pins s2 σ H2 x y v u Q I2 rx ry q (hs _ _))

def rIxL (K : PySem.W.Frag) : R2 := fun x y H Q => ∃ p xs i v, x = .ref p ∧ y = .int i ∧ SqL K H p xs ∧ atI xs i = some v ∧ Q v H
def rIxT (K : PySem.W.Frag) : R2 := fun x y H Q => ∃ p xs i v, x = .ref p ∧ y = .int i ∧ SqT K H p xs ∧ atI xs i = some v ∧ Q v H
def rIxS : R2 := fun x y H Q => ∃ z i c, x = .str z ∧ y = .int i ∧ z.length ≤ sizeLine ∧ atI z.cps.toList i = some c ∧ Q (.str ⟨#[c]⟩) H
theorem ix_list : IxR X (rIxL X.K) := by
  intro value slice pins s σ H x y v u Q I rx ry h hs
  obtain ⟨p, xs, i, z, rfl, rfl, hq, he, q⟩ := h
  cases rx
  obtain ⟨t, rfl⟩ := ry
  obtain ⟨its, r, pl, hz⟩ := I.list hq
  obtain ⟨j, h1, h2, h3, h4, h5⟩ := atI_get he
  obtain ⟨w, ew, rw'⟩ := r.get h2
  have hl := r.length
  have hn := line63
  have fin : EP X pins σ Q w s := ⟨z, H, I, rw', q⟩
  by_cases h0 : 0 ≤ i
  · have hj : i.toNat = j := by
      rw [seqIndex_of h0 h5] at h1
      exact Option.some.inj h1
    exact item_listR pl.isList h0 (by omega) (by rw [hj]; simpa using ew) fin hs
  · have hj : (i + (its.toArray.size : Int)).toNat = j := by
      rw [seqIndex_neg (by omega) h4] at h1
      rw [List.size_toArray, ← hl]
      exact Option.some.inj h1
    exact subscriptTail_builtinR (x := w) pl.isList.typeIs slot_list_getitem.lookup
      (wpAny_getItem_list_neg (Q := fun r s' => r = w ∧ EP X pins σ Q r s') pl.isList (by omega) (by rw [List.size_toArray] <;> omega) (by omega) (by rw [hj]; simpa using ew) ⟨rfl, fin⟩) hs
theorem ix_tup : IxR X (rIxT X.K) := by
  intro value slice pins s σ H x y v u Q I rx ry h hs
  obtain ⟨p, xs, i, z, rfl, rfl, hq, he, q⟩ := h
  cases rx
  obtain ⟨t, rfl⟩ := ry
  obtain ⟨its, r, pl, hz⟩ := I.tuple hq
  obtain ⟨j, h1, h2, h3, h4, h5⟩ := atI_get he
  obtain ⟨w, ew, rw'⟩ := r.get h2
  have hl := r.length
  have hn := line63
  have fin : EP X pins σ Q w s := ⟨z, H, I, rw', q⟩
  exact subscriptTail_builtinR (x := w) pl.typeIs slot_tuple_getitem.lookup
    (getItem_tuple (j := j) (Q := fun r s' => r = w ∧ EP X pins σ Q r s') pl (by omega) (by omega) (by rw [List.size_toArray, ← hl]; exact h1) (by simpa using ew) ⟨rfl, fin⟩) hs
theorem ix_str : IxR X rIxS := by
  intro value slice pins s σ H x y v u Q I rx ry h hs
  obtain ⟨z, i, c, rfl, rfl, hz, he, q⟩ := h
  obtain ⟨t, rfl⟩ := rx
  obtain ⟨t', rfl⟩ := ry
  obtain ⟨j, h1, h2, h3, h4, h5⟩ := atI_get he
  have hl : z.cps.toList.length = z.length := by simp [Str.length]
  rw [hl] at h1 h4 h5
  have hn := line63
  exact tail_any (typeIs_str s z t) slot_str_getitem.lookup (getItem_str (c := c) (by
    have e1 : decide (i < -(2 ^ 63 : Int)) = false := decide_eq_false (by omega)
    have e2 : decide (i ≥ 2 ^ 63) = false := decide_eq_false (by omega)
    rw [e1, e2, Bool.or_false]) (by rw [h1]; simpa using h2) ⟨.str ⟨#[c]⟩, H, I.tok _, ⟨_, rfl⟩, q⟩) hs
/-- list, tuple or str -/
def rIx (K : PySem.W.Frag) : R2 := fun x y H Q => rIxL K x y H Q ∨ rIxT K x y H Q ∨ rIxS x y H Q
/-! ### xs[i] = v, any sign -/
theorem Inv.lst {pins : List (Addr × Obj)} {σ : St} {H : Hp} {s : Shared} {p : Addr} {xs : List V} (I : Inv X pins σ H s) (h : H p = some (.lst xs)) :
    ∃ (its : List Value) (n : Nat), Vals xs its ∧ s.heap.get? p = some { cls := .type "list", data := .seq its.toArray n } ∧ xs.length ≤ sizeLine := by
  obtain ⟨z, its, n, r, e⟩ := I.hok p _ h
  exact ⟨its, n, r, e, z⟩
def rSetL : V → V → V → Hp → (Hp → Prop) → Prop := fun o i v H Q => ∃ p xs k j, o = .ref p ∧ i = .int k ∧ H p = some (.lst xs) ∧ ixN xs.length k = some j ∧ Q (upd H p (.lst (xs.set j v)))
/-! ### slices -/
theorem slice_bounds (lo hi : Option Int) (n : Nat) : (sliceBounds lo hi none n).1 = ((HT.sIx n 0 lo : Nat) : Int) ∧ (sliceBounds lo hi none n).2.1 = ((HT.sIx n n hi : Nat) : Int) ∧ (sliceBounds lo hi none n).2.2 = 1 := by
  refine ⟨?_, ?_, rfl⟩
  · cases lo with
    | none => simp [sliceBounds, HT.sIx]
    | some i =>
      simp only [sliceBounds, HT.sIx, Option.getD_none, show (1 : Int) > 0 by decide, if_true]
      by_cases h : i < 0
      · simp only [h, if_true] <;> omega
      · simp only [h, if_false] <;> omega
  · cases hi with
    | none => simp [sliceBounds, HT.sIx]
    | some i =>
      simp only [sliceBounds, HT.sIx, Option.getD_none, show (1 : Int) > 0 by decide, if_true]
      by_cases h : i < 0
      · simp only [h, if_true] <;> omega
      · simp only [h, if_false] <;> omega
theorem slicePick_cut (its : List Value) (lo hi : Option Int) : slicePick its.toArray lo hi none = ((its.drop (HT.sIx its.length 0 lo)).take (HT.sIx its.length its.length hi - HT.sIx its.length 0 lo)).toArray := by
  obtain ⟨h1, h2, h3⟩ := slice_bounds lo hi its.toArray.size
  unfold slicePick
  rw [h1, h2, h3]
  simp only [sliceRange_one, pick_run, List.size_toArray] <;> rfl
/-- xs[lo:hi] of a list: a new list -/
def rSlL (K : PySem.W.Frag) : V → Option Int → Option Int → Hp → VK → Prop := fun x lo hi H Q => ∃ a xs, x = .ref a ∧ SqL K H a xs ∧ ∀ p, H p = none → Q (.ref p) (upd H p (.lst (cutV xs lo hi)))
theorem sl_list : SlR X (rSlL X.K) := by
  intro pins s σ H x v vl vu lo hi sl Q I rx hs pl pu h
  obtain ⟨a, xs, rfl, hx, q⟩ := h
  cases rx
  obtain ⟨its, r, ht, hz⟩ := I.list hx
  have hlen := r.length
  refine ⟨"list", _, slot_list_getitem.lookup, ht.isList.typeIs, ?_⟩
  refine wpAny_getItem_list_slice ht.isList hs pl pu .none (by simp) ?_ (by rw [List.size_toArray] <;> omega)
  rw [slicePick_cut, ← hlen]
  refine ⟨.ref s.heap.objs.size, _, I.laid (t' := s.toks) (o := .lst (cutV xs lo hi)) (fun b ob q => Heap.get?_push_of_some _ q) (Nat.le_refl _) ?_, rfl, q _ (I.hok.fresh (Nat.le_refl _))⟩
  exact ⟨Nat.le_trans (cutV_length xs lo hi) hz, _, 0, (r.drop (HT.sIx xs.length 0 lo)).take (HT.sIx xs.length xs.length hi - HT.sIx xs.length 0 lo), Heap.get?_push_size _ rfl⟩

/-! ### in, not in: flat items -/
def flatV : V → Bool
  | .non => true
  | .bl _ => true
  | .int _ => true
  | .str _ => true
  | _ => false
/-- == of flat values -/
def eqV : V → V → Bool
  | .non, .non => true
  | .bl a, .bl b => a == b
  | .bl a, .int b => (if a then 1 else 0) == b
  | .int a, .bl b => a == (if b then 1 else 0)
  | .int a, .int b => a == b
  | .str a, .str b => a == b
  | _, _ => false
theorem eqAt_V {A : Around} {s : Shared} {y x : V} {u v : Value} (ry : RelV y u) (rx : RelV x v) (fy : flatV y = true) (fx : flatV x = true) : SeqAt.EqAt A s u v (eqV y x) := by
  cases y with
  | non =>
    cases ry
    cases x with
    | non => cases rx; exact SeqAt.EqAt.same _
    | bl b => cases rx; exact SeqAt.EqAt.none_bool b
    | int b => obtain ⟨t, rfl⟩ := rx; exact SeqAt.EqAt.none_int b t
    | str b => obtain ⟨t, rfl⟩ := rx; exact SeqAt.EqAt.none_str b t
    | _ => exact absurd (show false = true from fx) Bool.false_ne_true
  | bl a =>
    cases ry
    cases x with
    | non => cases rx; exact SeqAt.EqAt.bool_none a
    | bl b => cases rx; exact SeqAt.EqAt.bool_bool a b
    | int b => obtain ⟨t, rfl⟩ := rx; exact SeqAt.EqAt.bool_int a b t
    | str b => obtain ⟨t, rfl⟩ := rx; exact SeqAt.EqAt.bool_str a b t
    | _ => exact absurd (show false = true from fx) Bool.false_ne_true
  | int a =>
    obtain ⟨t', rfl⟩ := ry
    cases x with
    | non => cases rx; exact SeqAt.EqAt.int_none a t'
    | bl b => cases rx; exact SeqAt.EqAt.int_bool a t' b
    | int b => obtain ⟨t, rfl⟩ := rx; exact SeqAt.EqAt.int_int a t' b t
    | str b => obtain ⟨t, rfl⟩ := rx; exact SeqAt.EqAt.int_str a t' b t
    | _ => exact absurd (show false = true from fx) Bool.false_ne_true
  | str a =>
    obtain ⟨t', rfl⟩ := ry
    cases x with
    | non => cases rx; exact SeqAt.EqAt.str_none a t'
    | bl b => cases rx; exact SeqAt.EqAt.str_bool a t' b
    | int b => obtain ⟨t, rfl⟩ := rx; exact SeqAt.EqAt.str_int a t' b t
    | str b => obtain ⟨t, rfl⟩ := rx; exact SeqAt.EqAt.str_str a t' b t
    | _ => exact absurd (show false = true from fx) Bool.false_ne_true
  | _ => exact absurd (show false = true from fy) Bool.false_ne_true
/-- the items' answers, read off the values (a value's own answer does not lean on its token) -/
def eqU (x : V) (u : Value) : Bool := match u with
  | .none => eqV .non x
  | .bool b => eqV (.bl b) x
  | .int i _ => eqV (.int i) x
  | .str z _ => eqV (.str z) x
  | _ => false
theorem eqU_of {x y : V} {u : Value} (r : RelV y u) (f : flatV y = true) : eqU x u = eqV y x := by
  cases y with
  | non => cases r; rfl
  | bl b => cases r; rfl
  | int i => obtain ⟨t, rfl⟩ := r; rfl
  | str z => obtain ⟨t, rfl⟩ := r; rfl
  | _ => exact absurd (show false = true from f) Bool.false_ne_true
theorem any_eqU {x : V} : ∀ {xs : List V} {us : List Value}, Vals xs us → xs.all flatV = true → us.any (eqU x) = xs.any fun y => eqV y x
  | _, _, .nil, _ => rfl
  | y :: xs, u :: us, .cons r t, f => by
    rw [List.all_cons, Bool.and_eq_true] at f
    rw [List.any_cons, List.any_cons, eqU_of r f.1, any_eqU t f.2]
theorem mem_eqAt {A : Around} {s : Shared} {x : V} {v : Value} (rx : RelV x v) (fx : flatV x = true) : ∀ {xs : List V} {us : List Value}, Vals xs us → xs.all flatV = true → ∀ u ∈ us, SeqAt.EqAt A s u v (eqU x u)
  | _, _, .nil, _ => fun u hu => by cases hu
  | y :: xs, u :: us, .cons r t, f => fun u' hu => by
    rw [List.all_cons, Bool.and_eq_true] at f
    rcases List.mem_cons.mp hu with rfl | hu
    · rw [eqU_of r f.1]; exact eqAt_V r rx f.1 fx
    · exact mem_eqAt rx fx t f.2 u' hu
def inV (x : V) (xs : List V) : Bool := xs.any fun y => eqV y x
/-- x in a list or tuple of flat items -/
def rIn (K : PySem.W.Frag) (neg : Bool) : R2 := fun x y H Q => ∃ p xs, y = .ref p ∧ (SqL K H p xs ∨ SqT K H p xs) ∧ flatV x = true ∧ xs.all flatV = true ∧ Q (.bl (if neg then !inV x xs else inV x xs)) H
theorem op_in_seq : OpR X (compareOp .In) (rIn X.K false) := by
  intro pins s σ H x y v u Q I rx ry h
  obtain ⟨p, xs, rfl, hq, fx, fs, q⟩ := h
  cases ry
  rcases hq with hq | hq
  · obtain ⟨its, r, pl, hz⟩ := I.list hq
    refine SeqAt.in_listAt (eqU x) pl.isList (fun w hw => mem_eqAt rx fx r fs w (by simpa using hw)) ⟨.bl _, H, I, rfl, ?_⟩
    rw [show its.toArray.any (eqU x) = its.any (eqU x) by simp, any_eqU r fs]
    exact q
  · obtain ⟨its, r, pl, hz⟩ := I.tuple hq
    refine SeqAt.in_tupleAt (eqU x) pl (fun w hw => mem_eqAt rx fx r fs w (by simpa using hw)) ⟨.bl _, H, I, rfl, ?_⟩
    rw [show its.toArray.any (eqU x) = its.any (eqU x) by simp, any_eqU r fs]
    exact q
/-! ### len, list(x), tuple(x) of any list or tuple that is read -/
theorem call_len_seq : CallR X (.builtin "len") (fun xs H Q => ∃ p ys, xs = [.ref p] ∧ (SqL X.K H p ys ∨ SqT X.K H p ys) ∧ Q (.int ys.length) H) := by
  intro pins s σ H xs us Q I r h
  obtain ⟨p, ys, rfl, hq, q⟩ := h
  obtain ⟨u, rfl, rx⟩ := vals1 r
  cases rx
  have hn := line63
  rcases hq with hq | hq
  · obtain ⟨its, r', pl, hz⟩ := I.list hq
    have hlen := r'.length
    exact Calls.call_len_list pl.isList (by simp only [List.size_toArray] <;> omega) ⟨.int ys.length, H, I.tok _, ⟨s.toks + 1, by rw [List.size_toArray, hlen]⟩, q⟩
  · obtain ⟨its, r', pl, hz⟩ := I.tuple hq
    have hlen := r'.length
    exact len_tuple pl (by simp only [List.size_toArray] <;> omega) ⟨.int ys.length, H, I.tok _, ⟨s.toks + 1, by rw [List.size_toArray, hlen]⟩, q⟩
theorem CallR.or {f : Value} {r r' : List V → Hp → VK → Prop} (h : CallR X f r) (h' : CallR X f r') : CallR X f (fun xs H Q => r xs H Q ∨ r' xs H Q) := by
  intro pins s σ H xs us Q I rs q
  rcases q with q | q
  · exact h pins s σ H xs us Q I rs q
  · exact h' pins s σ H xs us Q I rs q
/-! ### the call of a builtin's method: o.m(..) -/
/-- the value is of that builtin type -/
def tyV (K : PySem.W.Frag) (T : String) (x : V) (H : Hp) : Prop := match x with
  | .str _ => T = "str"
  | .int _ => T = "int"
  | .ref p => (T = "list" ∧ ∃ xs, SqL K H p xs) ∨ (T = "tuple" ∧ ∃ o, K.lookup p = some o ∧ o.cls = .type "tuple" ∧ o.dict = none) ∨
      (T = "dict" ∧ ((∃ kvs, H p = some (.dK kvs)) ∨ ∃ kvs, H p = some (.dT kvs))) ∨ (T = "set" ∧ ∃ S n, H p = some (.set S n))
  | _ => False
theorem tyV_is {pins : List (Addr × Obj)} {σ : St} {H : Hp} {s : Shared} {T : String} {x : V} {v : Value} (I : Inv X pins σ H s) (r : RelV x v) (ty : tyV X.K T x H) :
    s.TypeIs v T ∧ ∀ a, v = .ref a → ∃ ob, s.heap.get? a = some ob ∧ ob.dict = none := by
  cases x with
  | str z =>
    obtain ⟨t, rfl⟩ := r
    cases (show T = "str" from ty)
    exact ⟨typeIs_str s z t, fun _ e => nomatch e⟩
  | int i =>
    obtain ⟨t, rfl⟩ := r
    cases (show T = "int" from ty)
    exact ⟨typeIs_int s i t, fun _ e => nomatch e⟩
  | ref p =>
    cases r
    rcases ty with ⟨rfl, xs, hq⟩ | ⟨rfl, o, hk, hc, hd⟩ | ⟨rfl, hk⟩ | ⟨rfl, S, n, hk⟩
    · obtain ⟨its, _, pl, _⟩ := I.list hq
      refine ⟨pl.isList.typeIs, fun a e => ?_⟩
      cases e
      obtain ⟨o, n, e, c, hd, _⟩ := pl
      exact ⟨o, e, hd⟩
    · refine ⟨⟨o, I.kIn p o hk, hc⟩, fun a e => ?_⟩
      cases e
      exact ⟨o, I.kIn _ o hk, hd⟩
    · have z : ∃ o, s.heap.get? p = some o ∧ o.ExactDict := by
        rcases hk with ⟨kvs, hk⟩ | ⟨kvs, hk⟩
        · obtain ⟨_, _, _, _, o, _, _, e, ex, _⟩ := I.hok p _ hk
          exact ⟨o, e, ex⟩
        · obtain ⟨_, _, _, _, o, _, _, e, ex, _⟩ := I.hok p _ hk
          exact ⟨o, e, ex⟩
      obtain ⟨o, e, ex⟩ := z
      refine ⟨⟨o, e, ex.1⟩, fun a e2 => ?_⟩
      cases e2
      exact ⟨o, e, ex.2.1⟩
    · obtain ⟨o, _, _, _, e, ex, _⟩ := I.hok p _ hk
      refine ⟨⟨o, e, ex.1⟩, fun a e2 => ?_⟩
      cases e2
      exact ⟨o, e, ex.2.1⟩
  | _ => exact False.elim ty
def tBM0 (K : PySem.W.Frag) (T : String) (r : V → List V → Hp → VK → Prop) (to : TE) : TE := fun σ H Q => to σ H fun x H1 => tyV K T x H1 ∧ r x [] H1 Q
def tBM (K : PySem.W.Frag) (T : String) (r : V → List V → Hp → VK → Prop) (to : TE) (t : TA) : TE := fun σ H Q => to σ H fun x H1 => tyV K T x H1 ∧ t σ H1 fun xs H2 => r x xs H2 Q
variable {o e : Expr} {es : List Expr} {to : TE} {t : TA} {name : Str} {apos cpos : Pos} {T id : String} {r : V → List V → Hp → VK → Prop}
theorem pe_bm0 (pa : PlainAttrs T) (slot : Slot T name id) (hty : typeOf (.builtin id) = pure (.type "method_descriptor")) (hm : MtR X id r) (ho : PE X o to)
    (hbase : attributeBase o name X.env (eval o X.env) = eval o X.env := by rfl) (hline : (apos.endLine == cpos.line) = true := by rfl) : PE X (.Call (.Attribute o name apos) [] [] cpos) (tBM0 X.K T r to) := by
  intro pins s σ H Q I h
  refine wpAny_Call_method0_late hbase hline (thn (ho pins s σ H _ I h) fun v s1 ⟨x, H1, I1, r1, ty, q1⟩ => ?_)
  obtain ⟨h1, h2⟩ := tyV_is I1 r1 ty
  exact ⟨T, id, pa, slot, hty, h1, h2, Calls.callWith_builtin rfl (PySem.evalArgs_none (hm pins s1 σ H1 x [] v [] Q I1 r1 .nil q1))⟩
theorem pe_bm (pa : PlainAttrs T) (slot : Slot T name id) (hty : typeOf (.builtin id) = pure (.type "method_descriptor")) (hm : MtR X id r) (ho : PE X o to) (ha : PA X (e :: es) t)
    (hbase : attributeBase o name X.env (eval o X.env) = eval o X.env := by rfl)
    (hfew : ((backTo cpos (starEach (e :: es) X.env)).all (fun x => !x.1) && (backToKw cpos (keywordEach [] X.env)).all (fun x => x.1.isSome)
      && decide ((e :: es).length + ([] : List Keyword).length + (if ([] : List Keyword).isEmpty then 0 else 1) < 30)) = true := by rfl)
    (hline : (apos.endLine == cpos.line) = true := by rfl) (hs : starEach (e :: es) X.env = (false, eval e X.env) :: starEach es X.env := by rfl) (hplain : (backTo cpos (starEach es X.env)).any (·.1) = false := by rfl) :
    PE X (.Call (.Attribute o name apos) (e :: es) [] cpos) (tBM X.K T r to t) := by
  intro pins s σ H Q I h
  refine wpAny_Call_method_late hbase hfew hline rfl (thn (ho pins s σ H _ I h) fun v s1 ⟨x, H1, I1, r1, ty, q1⟩ => ?_)
  obtain ⟨h1, h2⟩ := tyV_is I1 r1 ty
  refine ⟨T, id, pa, slot, hty, h1, h2, ?_⟩
  have hA := ha cpos pins s1 σ H1 _ I1 q1
  rw [hs] at hA ⊢
  refine Calls.callWith_builtin (by show (false || (backTo cpos (starEach es X.env)).any (·.1)) = false; rw [hplain] <;> rfl) (Calls.evalArgs_plain ?_)
  exact thn hA fun us s2 ⟨vs, H2, I2, r2, q2⟩ => hm pins s2 σ H2 x vs v us Q I2 r1 r2 q2
/- xs.append(e), list.index on a module's tuple .. are MtR facts of 06m -/
end
end L2

namespace L2
open PySem PySem.Spec PyProof.Rows

def MtM (X : Cx) (id : String) (r : V → List V → Hp → VK → Prop) : Prop :=
  ∀ (pins : List (Addr × Obj)) (s : Shared) (σ : St) (H : Hp) (x : V) (xs : List V) (v : Value) (us : List Value) (Q : VK), Inv X pins σ H s → RelV x v → Vals xs us → r x xs H Q →
    wpAny (model X.prog X.w) X.A (call (.builtin id) (v :: us)) (EP X pins σ Q) X.xe s

/-! ### lists of values -/
theorem Vals.one : ∀ {x : V} {us : List Value}, Vals [x] us → ∃ u, us = [u] ∧ RelV x u
  | _, _, .cons r .nil => ⟨_, rfl, r⟩
theorem Vals.two : ∀ {x y : V} {us : List Value}, Vals [x, y] us → ∃ u v, us = [u, v] ∧ RelV x u ∧ RelV y v
  | _, _, _, .cons r (.cons q .nil) => ⟨_, _, rfl, r, q⟩
theorem Vals.zero : ∀ {us : List Value}, Vals [] us → us = []
  | _, .nil => rfl
theorem Vals.dropLast {xs : List V} {us : List Value} (h : Vals xs us) : Vals xs.dropLast us.dropLast := by
  induction h with
  | nil => exact .nil
  | cons r t ih =>
    cases t with
    | nil => exact .nil
    | cons q t' => exact .cons r ih
theorem Vals.eraseIdx : ∀ {xs : List V} {us : List Value} (i : Nat), Vals xs us → Vals (xs.eraseIdx i) (us.eraseIdx i)
  | _, _, _, .nil => .nil
  | _, _, 0, .cons _ t => t
  | _, _, i + 1, .cons r t => .cons r (Vals.eraseIdx i t)
theorem Vals.reverse {xs : List V} {us : List Value} (h : Vals xs us) : Vals xs.reverse us.reverse := by
  induction h with
  | nil => exact .nil
  | cons r t ih => rw [List.reverse_cons, List.reverse_cons]; exact Vals.append ih (.cons r .nil)
theorem Vals.rep {xs : List V} {us : List Value} (h : Vals xs us) : ∀ k : Nat, Vals (List.replicate k xs).flatten (List.replicate k us).flatten
  | 0 => .nil
  | k + 1 => by
    rw [List.replicate_succ, List.replicate_succ, List.flatten_cons, List.flatten_cons]
    exact Vals.append h (Vals.rep h k)
theorem erase_last {α : Type} (l : List α) : l.eraseIdx (l.length - 1) = l.dropLast := by
  induction l with
  | nil => rfl
  | cons a r ih =>
    cases r with
    | nil => rfl
    | cons b r =>
      have e : (a :: b :: r).length - 1 = ((b :: r).length - 1) + 1 := by
        have h1 : (a :: b :: r).length = r.length + 2 := rfl
        have h2 : (b :: r).length = r.length + 1 := rfl
        omega
      rw [e, List.eraseIdx_cons_succ, ih]
      all_goals rfl
theorem foldl_rep (its : List Value) : ∀ (k : Nat) (acc : List Value),
    List.foldl (fun x1 x2 => x1 ++ x2) acc.toArray (List.replicate k its.toArray) = (acc ++ (List.replicate k its).flatten).toArray
  | 0, acc => by simp
  | k + 1, acc => by
    have e : acc.toArray ++ its.toArray = (acc ++ its).toArray := by simp
    have e2 : (acc ++ its) ++ (List.replicate k its).flatten = acc ++ (List.replicate (k + 1) its).flatten := by
      rw [List.replicate_succ, List.flatten_cons, List.append_assoc]
    rw [← e2, ← foldl_rep its k (acc ++ its), ← e, List.replicate_succ, List.foldl_cons]

section
variable {X : Cx} {pins : List (Addr × Obj)} {σ : St} {H : Hp} {s : Shared} {l b : Addr} {xs ys zs : List V}

/-! ### the two steps: a tracked list is rewritten, a new list is laid -/
theorem Inv.lset {its its' : List Value} {n : Nat} {f : Array Value → Array Value} {t' : Nat} (I : Inv X pins σ H s) (hH : H l = some (.lst xs))
    (e : s.heap.get? l = some { cls := .type "list", data := .seq its.toArray n }) (hf : f its.toArray = its'.toArray) (hv : Vals ys its') (hz : ys.length ≤ sizeLine) :
    Inv X pins σ (upd H l (.lst ys)) { s with heap := s.heap.update l (Obj.mapSeq f), toks := t' } := by
  have q := PySem.IsL.update e f
  rw [hf] at q
  refine I.write (x := l) (e := l) (by rw [hH]; exact trivial) (.inl rfl) (fun b' u hb hu => (Heap.get?_update_other s.heap (Obj.mapSeq f) (Ne.symm hb)).trans hu) ⟨_, q⟩ ?_
  exact ⟨hz, its', _, hv, q⟩
theorem Inv.lnew {its : List Value} {t' : Nat} (I : Inv X pins σ H s) (hv : Vals ys its) (hz : ys.length ≤ sizeLine) :
    Inv X pins σ (upd H s.heap.objs.size (.lst ys)) { s with heap := s.heap.push { cls := .type "list", data := .seq its.toArray }, toks := t' } :=
  I.laid (fun _ _ q => Heap.get?_push_of_some _ q) (Nat.le_refl _) ⟨hz, its, 0, hv, Heap.get?_push_size _ rfl⟩
theorem Inv.fresh (I : Inv X pins σ H s) : H s.heap.objs.size = none := I.hok.fresh (Nat.le_refl _)
theorem Inv.lstM (I : Inv X pins σ H s) (hH : H l = some (.lst xs)) : xs.length ≤ sizeLine ∧ ∃ (its : List Value) (n : Nat), Vals xs its ∧ xs.length = its.length ∧ s.heap.get? l = some { cls := .type "list", data := .seq its.toArray n } := by
  obtain ⟨z, its, n, r, e⟩ := I.hok l _ hH
  exact ⟨z, its, n, r, r.length, e⟩

theorem notLongL {n : Nat} (h : n ≤ sizeLine) : Builtin.List.listTooLong n = false := by
  unfold Builtin.List.listTooLong
  exact decide_eq_false (by omega)
end

section
variable {X : Cx}

/-! ### methods -/
def rAppend : V → List V → Hp → VK → Prop := fun x vs H Q => ∃ l xs y, x = .ref l ∧ vs = [y] ∧ H l = some (.lst xs) ∧ xs.length < sizeLine ∧ Q .non (upd H l (.lst (xs ++ [y])))
theorem mt_append : MtM X "list.append" rAppend := by
  intro pins s σ H x vs v us Q I rx rv h
  obtain ⟨l, xs, y, rfl, rfl, hH, hz, q⟩ := h
  cases rx
  obtain ⟨u, rfl, ru⟩ := rv.one
  obtain ⟨z, its, n, r, hl, e⟩ := I.lstM hH
  refine call_meets F.slot_list_append ⟨_, e, rfl⟩ F.entry_list_append (F.args_list_append_2 _ _) (PySem.list_append l its.toArray n u (by rw [List.size_toArray]; omega)) ⟨e, ?_⟩
  refine ⟨.non, _, I.lset (its' := its ++ [u]) hH e (by simp) (r.append (.cons ru .nil)) ?_, rfl, q⟩
  rw [List.length_append, List.length_singleton]
  omega

def rExtend : V → List V → Hp → VK → Prop := fun x vs H Q => ∃ l b xs zs, x = .ref l ∧ vs = [.ref b] ∧ H l = some (.lst xs) ∧ H b = some (.lst zs) ∧ xs.length + zs.length ≤ sizeLine ∧ Q .non (upd H l (.lst (xs ++ zs)))
def rPop : V → List V → Hp → VK → Prop := fun x vs H Q => ∃ l xs y, x = .ref l ∧ vs = [] ∧ H l = some (.lst xs) ∧ xs[xs.length - 1]? = some y ∧ Q y (upd H l (.lst xs.dropLast))
theorem mt_pop : MtM X "list.pop" rPop := by
  intro pins s σ H x vs v us Q I rx rv h
  obtain ⟨l, xs, y, rfl, rfl, hH, hy, q⟩ := h
  cases rx
  have hus := rv.zero
  subst hus
  obtain ⟨z, its, n, r, hl, e⟩ := I.lstM hH
  obtain ⟨u, hu, ru⟩ := r.get hy
  have hy' : its.toArray[its.toArray.size - 1]? = some u := by
    show its.toArray[its.length - 1]? = some u
    rw [← Array.getElem?_toList, ← hl]
    exact hu
  refine call_meets F.slot_list_pop ⟨_, e, rfl⟩ F.entry_list_pop (F.args_list_pop_1 _) (MeetsSeq.list_pop_last l its.toArray n u hy' (by rw [List.size_toArray]; omega)) ⟨e, ?_⟩
  refine ⟨y, _, I.lset (its' := its.dropLast) hH e ?_ r.dropLast ?_, ru, q⟩
  · show its.toArray.eraseIdxIfInBounds (its.toArray.size - 1) = its.dropLast.toArray
    rw [List.size_toArray, List.eraseIdxIfInBounds_toArray, erase_last]
  · rw [List.length_dropLast]
    omega

def rPopAt : V → List V → Hp → VK → Prop := fun x vs H Q => ∃ l xs i k y, x = .ref l ∧ vs = [.int i] ∧ H l = some (.lst xs) ∧ -(2 ^ 63) ≤ i ∧ i < 2 ^ 63 ∧ seqIndex? i xs.length = some k ∧ xs[k]? = some y ∧ Q y (upd H l (.lst (xs.eraseIdx k)))
def rReverse : V → List V → Hp → VK → Prop := fun x vs H Q => ∃ l xs, x = .ref l ∧ vs = [] ∧ H l = some (.lst xs) ∧ Q .non (upd H l (.lst xs.reverse))
def rClear : V → List V → Hp → VK → Prop := fun x vs H Q => ∃ l xs, x = .ref l ∧ vs = [] ∧ H l = some (.lst xs) ∧ Q .non (upd H l (.lst []))
/-! ### list + list, list += list, list * int -/
def rCat : R2 := fun x y H Q => ∃ l b xs zs, x = .ref l ∧ y = .ref b ∧ H l = some (.lst xs) ∧ H b = some (.lst zs) ∧ xs.length + zs.length ≤ sizeLine ∧ ∀ p, H p = none → Q (.ref p) (upd H p (.lst (xs ++ zs)))
theorem op_cat : OpR X (binaryOp .Add) rCat := by
  intro pins s σ H x y v u Q I rx ry h
  obtain ⟨l, b, xs, zs, rfl, rfl, hH, hB, hz, q⟩ := h
  cases rx
  cases ry
  obtain ⟨z, its, n, r, hl, e⟩ := I.lstM hH
  obtain ⟨z2, its2, n2, r2, hl2, e2⟩ := I.lstM hB
  refine PySem.P.add_list e e2 ?_ (by rw [List.size_toArray, List.size_toArray]; omega)
  have ea : its.toArray ++ its2.toArray = (its ++ its2).toArray := by simp
  rw [ea]
  exact ⟨.ref _, _, I.lnew (t' := s.toks) (r.append r2) (by rw [List.length_append]; omega), rfl, q _ I.fresh⟩
/-- a list times an int (a negative one is nothing) -/
def rRep : R2 := fun x y H Q => ∃ l k xs, x = .ref l ∧ y = .int k ∧ H l = some (.lst xs) ∧ -(2 ^ 63) ≤ k ∧ k < 2 ^ 63 ∧ xs.length * k.toNat ≤ sizeLine ∧
  ∀ p, H p = none → Q (.ref p) (upd H p (.lst (List.replicate k.toNat xs).flatten))
theorem len_rep {α : Type} (xs : List α) (k : Nat) : (List.replicate k xs).flatten.length = k * xs.length := by
  induction k with
  | zero => simp
  | succ k ih => rw [List.replicate_succ, List.flatten_cons, List.length_append, ih, Nat.succ_mul, Nat.add_comm]
theorem op_rep : OpR X (binaryOp .Mult) rRep := by
  intro pins s σ H x y v u Q I rx ry h
  obtain ⟨l, k, xs, rfl, rfl, hH, h1, h2, hz, q⟩ := h
  cases rx
  obtain ⟨t, rfl⟩ := ry
  obtain ⟨z, its, n, r, hl, e⟩ := I.lstM hH
  have hlen : its.toArray.size * k.toNat ≤ sizeLine := by rw [List.size_toArray, ← hl]; exact hz
  have hcap : ¬ its.toArray.size * k.toNat > (2 ^ 63 - 1) / 8 := by
    have : (sizeLine : Nat) ≤ (2 ^ 63 - 1) / 8 := by decide
    omega
  have hfit : ¬ (!Builtin.List.listFitsIndex k) = true := by
    rw [fitsIndex_both h1 h2]
    exact Bool.false_ne_true
  have hlong : ¬ Builtin.List.listTooLong (its.toArray.size * k.toNat) = true := by
    rw [notLongL hlen]
    exact Bool.false_ne_true
  have hnew : List.foldl (fun x1 x2 => x1 ++ x2) #[] (List.replicate (if its.toArray.isEmpty = true then 0 else k.toNat) its.toArray) = (List.replicate k.toNat its).flatten.toArray := by
    have f0 : ∀ m : Nat, List.foldl (fun x1 x2 => x1 ++ x2) #[] (List.replicate m its.toArray) = (List.replicate m its).flatten.toArray := fun m => by
      have := foldl_rep its m []
      rw [List.nil_append] at this
      exact this
    rw [f0]
    cases its with
    | nil => simp
    | cons a r' => rw [if_neg (by simp)]
  refine wpAny_binaryOp_repeat_ref (T := "list") (U := "int") (by decide) ⟨_, e, rfl⟩ (fun s' => typeIs_int s' k t) noFill_list_mul F.fills_int_mul F.slot_int_rmul repeat_list F.slot_int_index.lookup
    (call_meets F.slot_int_rmul (typeIs_int s k t) F.entry_int_rmul (F.args_int_rmul_2 _ _) (int___rmul___int_list k t l its.toArray n)
      ⟨e, rfl, ⟨_, e, rfl⟩, call_meets F.slot_list_mul ⟨_, e, rfl⟩ F.entry_list_mul (F.args_list_mul_2 _ _) (AutoListH.list___mul___list_int_3 l its.toArray n k t hfit hcap hlong) ⟨e, ?_⟩⟩)
  rw [hnew]
  exact ⟨.ref _, _, I.lnew (t' := s.toks) (r.rep k.toNat) (by rw [len_rep, Nat.mul_comm]; exact hz), rfl, q _ I.fresh⟩

/-! ### del xs[i] -/
end

/-! ### xs[a:b] = ys -/
section
variable {prog : Program} {w : World} {A : Around} {E : Value → Shared → Prop} {s : Shared}
end

section
variable {X : Cx}
end
end L2

namespace Att
open PySem PySem.W PySem.Calls PyProof.Rows

/-! ### the script -/
theorem ints_of_wellAll {P : Params} {h : Heap} : ∀ (ns : List Int) (vs : List Value), WellAll P h vs (ns.map WData.int) → IntsAre vs ns := by
  intro ns
  induction ns with
  | nil =>
    intro vs w
    rw [List.map_nil] at w
    cases w
    exact .nil
  | cons n ns ih =>
    intro vs w
    rw [List.map_cons] at w
    cases w with
    | cons a b =>
      cases a
      exact .cons _ _ (ih _ b)

theorem script_of {l : OpenLaw} {n : Nat} (hn : l.most = some n) {P : Params} {h : Heap} {args : List WData} {vals : List Value}
    (hpre : l.row.toRowW.claim.pre args = true) (hwl : WellAll P h vals args) :
    ∃ a vs ns, vals = [Value.ref a] ∧ args = [WData.list (ns.map WData.int)] ∧ h.get? a = some { cls := .type "list", data := .seq vs.toArray } ∧ IntsAre vs ns ∧ ns.length ≤ n := by
  have hsh : WShape.hasAll [] args [.list .int] = true := (pre_splitW hpre).1
  have hc : l.pre.holds [] { args := args } = true := (pre_splitW hpre).2
  obtain ⟨d, r, rfl, h1, h2⟩ := hasAllW_cons hsh
  obtain rfl := hasAllW_nil h2
  obtain ⟨xs, rfl, h3⟩ := hasW_list h1
  obtain ⟨ns, rfl⟩ := items_int h3
  have hlen : ns.length ≤ n := by
    unfold OpenLaw.pre at hc
    have h4 : (WTm.not (.lt (.lit (.int (n : Int))) (.len (.arg 0)))).holds [] { args := [.list (ns.map .int)] } = true := by
      have h4 := (holds_andW hc).1
      rw [hn] at h4
      exact h4
    have h5 := condW_of h4 (w_not (w_lt w_lit (w_len_list (w_arg rfl))))
    rw [List.length_map] at h5
    refine Nat.le_of_not_lt fun q => ?_
    have q' : (n : Int) < ((ns.length : Nat) : Int) := by omega
    first
      | (rw [decide_eq_true q'] at h5; exact absurd h5 (by decide))
      | (simp at h5; omega)
  cases hwl with
  | cons w1 w2 =>
    cases w2
    cases w1 with
    | list ho hall => exact ⟨_, _, ns, rfl, rfl, ho, ints_of_wellAll ns _ hall, hlen⟩

theorem post_true (l : OpenLaw) (args : List WData) : l.row.toRowW.claim.post args (.bool true) args = true :=
  postW_of (r := l.row.toRowW) (X := (true == true))
    (show WShape.has [] (.bool true) .bool = true by first | rfl | decide | simp [WShape.has, WShape.arms, WShape.armsAll])
    (show (WTm.eq .res (.lit (.bool true))).value [] { args := args, res := some (.bool true), after := args } = some (.bool (true == true)) from w_eq_bool (w_res rfl) w_lit) rfl

/-! ### the attachment: holds_open's last premise (the goal 'hc' behind k_head) from a wpAny of the law's body -/
/-- the same from a codeAny of the CALL (for a layer whose function contracts speak of calls) -/
theorem attach_call {l : OpenLaw} {n : Nat} {q : Program} {loose : List Str} {XP : (Str → Option Value) → Heap → Prop} {YP : World → Heap → Prop} {d : DefRec}
    (hn : l.most = some n) (hdf : d.params.defaults = [])
    (call : ∀ (w : World) (s₀ s₁ : Shared) (mg mb : Str → Option Value) (fa : Addr) (o : Obj) (pm cd doc : Value) (a : Addr) (vs : List Value) (ns : List Int),
      Ground q loose [] XP w s₀ mg mb s₁.heap → YP w s₁.heap →
      s₁.heap.get? fa = some o → o.data = .func (docDef d.name d.params d.body d.scope pm cd doc) → s₁.heap.CodeRec cd d.name → mg d.name = some (.ref fa) →
      s₁.heap.get? a = some { cls := .type "list", data := .seq vs.toArray } → IntsAre vs ns → ns.length ≤ n → s₁.gens = #[] →
      codeAny (model l.prog w) callerA (.call (.ref fa) ⟨[.ref a], []⟩) (fun r s' => r = .ok (.ret (.bool true)) ∧ OldK s₁.heap s'.heap ∧ s'.os = s₁.os ∧ AllBare s'.gens) s₁) :
    WalkO q loose XP YP l.row.toRowW d [] (fun f vs => PySem.call f vs) := by
  intro w s₀ s₁ mg mb G Y fa o pm cd doc dV kV ho hd hcd hD hmg hg args vals as hpre hlay hrd hwl hlo
  obtain rfl : dV = .none := Dflts.none hD hdf
  obtain rfl : kV = .none := Dflts.noKw hD
  obtain ⟨a, vs, ns, rfl, rfl, hobj, hints, hlen⟩ := script_of hn hpre hwl
  refine enter_call (codeAny_mono (call w s₀ s₁ mg mb fa o pm cd doc a vs ns G Y ho (fd_plain hd) hcd hmg hobj hints hlen hg) fun r s' hq => ?_)
  obtain ⟨rfl, h2, h3, h4⟩ := hq
  exact ⟨.inl ⟨.bool true, .bool true, [], rfl, fun _ => rfl, .bool true, post_true l _, fun _ => ⟨List.Pairwise.nil, fun _ hm => (nomatch hm)⟩⟩, h2, h3, h4⟩

/-! ### rules over ANY heap (no ledger) from facts about the written part K: the library's own take a ledger (News) for what they write -/
section
variable {prog : Program} {w : World} {A : Around} {E : Value → Shared → Prop} {s : Shared} {K : Frag}

/-! the whole heap as the ledger: makes every rule that writes through a ledger a rule over any heap -/
def noObjs (h : Heap) : Heap := { h with objs := #[] }
def ledger (h : Heap) (L d : Addr) : List (Addr × Obj) := (List.range h.objs.size).filterMap fun a => if a = L ∨ a = d then none else (h.get? a).map fun o => (a, o)
end
end Att

namespace L2
open PySem PySem.Spec PyProof.Rows

theorem vals_ints : ∀ {vs : List Value} {ns : List Int}, IntsAre vs ns → Vals (ns.map V.int) vs
  | _, _, .nil => .nil
  | _, _, .cons n t h => .cons ⟨t, rfl⟩ (vals_ints h)

/-- nothing is tracked but the script, known to the object (or it is an object of the module) -/
def Only (H : Hp) : Prop := ∀ b, H b = none ∨ ∃ o xs, H b = some (.frz o (.lst xs))

/-- THE HEAD: the law's promise, at the heap behind the top. F, the promise of the law's def, may use that base is part of the heap (so K.In base, base.Ns mainGlobals mg stand in Mod) -/
theorem law_call {P : Program} {w : World} {K : PySem.W.Frag} {mg mb : Str → Option Value} {CX : CXT} {k : Nat} {fa a : Addr} {fd : FuncData} {x : Str} {sp : Sp} {s₁ : Shared} {vs : List Value} {ns : List Int}
    (KX : K.In s₁.heap) (hns : s₁.heap.Ns mainGlobals mg) (hb : s₁.heap.Ns builtinsNs mb) (hbb : ∀ x : Str, x ≠ "__name__" → mb x = bootBuiltins x) (hlim : s₁.heap.NoLimit) (hg : s₁.gens = #[])
    (ha : s₁.heap.get? a = some { cls := .type "list", data := .seq vs.toArray }) (hi : IntsAre vs ns) (hl : ns.length ≤ sizeLine) (hr : Room k callerA)
    (F : ∀ base : Heap, K.In base → base.Ns mainGlobals mg → FnOk P w K mg base CX k fa fd [x] sp) (hbind : ∀ (s : Shared) (u : Value), BindsTo s fd ⟨[u], []⟩ [(x, u)])
    (hsp : ∀ H : Hp, Only H → SqL K H a (ns.map V.int) → sp [.ref a] H (fun v _ => v = .bl true) fun _ _ _ => False)
    (hCX : ∀ H e s', CX [] H s₁ (fun _ _ _ => False) e s' → False) :
    codeAny (model P w) callerA (.call (.ref fa) ⟨[.ref a], []⟩) (fun r s' => r = .ok (.ret (.bool true)) ∧ OldK s₁.heap s'.heap ∧ s'.os = s₁.os ∧ AllBare s'.gens) s₁ := by
  have rv := vals_ints hi
  have lenV := hi.length
  -- from an abstract heap in which nothing but the script may be tracked
  have core : ∀ H : Hp, Only H → SqL K H a (ns.map V.int) → HOk P w H s₁.heap → (∀ b, H b ≠ none → b = a) → (H a ≠ none → K.lookup a = none) →
      codeAny (model P w) callerA (.call (.ref fa) ⟨[.ref a], []⟩) (fun r s' => r = .ok (.ret (.bool true)) ∧ OldK s₁.heap s'.heap ∧ s'.os = s₁.os ∧ AllBare s'.gens) s₁ := by
    intro H hO hS hok hA hK
    have base_of : ∀ {b : Addr} {o : Obj}, s₁.heap.get? b = some o → H b = none → (hidT s₁.heap H).get? b = some o := fun e n => hidT_get e n
    have noA : ∀ {b : Addr} {o : Obj} {es : Array DictEntry} {ep : Nat}, s₁.heap.get? b = some o → o.data = .dict es ep → H b = none := fun {b o es ep} e d => by
      cases q : H b with
      | none => rfl
      | some u =>
        have e' : b = a := hA b (by rw [q]; simp)
        subst e'
        rw [ha] at e; cases e
        have d' : Data.seq vs.toArray _ = Data.dict es ep := d
        cases d'
    have nsK : ∀ {b : Addr} {m : Str → Option Value}, s₁.heap.Ns b m → (hidT s₁.heap H).Ns b m := fun {b m} ⟨o, es, ep, e, d, r⟩ => ⟨o, es, ep, base_of e (noA e d), d, r⟩
    have hKb : K.In (hidT s₁.heap H) := fun b o e => base_of (KX b o e) (by
      cases q : H b with
      | none => rfl
      | some u =>
        have e' : b = a := hA b (by rw [q]; simp)
        subst e'
        rw [hK (by rw [q]; simp)] at e; cases e)
    have hM : Mod K mg (hidT s₁.heap H) := ⟨hKb, nsK hns, ⟨mb, nsK hb, hbb⟩, let ⟨mc, h1, h2⟩ := hlim; ⟨mc, nsK h1, h2⟩⟩
    have e0 : Env0 P w K mg (hidT s₁.heap H) callerA [] s₁ H := ⟨rfl, hM, fun b o e => of_hidT e, Nat.le_of_eq (hidT_size _ _), trivial, fun b hb => absurd (show b ∈ ([] : List Addr) from hb) (by simp), hok, .of_eq hg⟩
    refine codeAny_mono ((F _ hKb (nsK hns)).run callerA [] s₁ H ⟨[.ref a], []⟩ [.ref a] [.ref a] _ _ hr e0 (hbind s₁ (.ref a)) (.cons rfl .nil) (hsp H hO hS)) fun r s' h => ?_
    cases r with
    | error e => exact (hCX H e s' h).elim
    | ok fl =>
      cases fl with
      | next => exact False.elim h
      | brk => exact False.elim h
      | cont => exact False.elim h
      | ret u =>
        obtain ⟨v, H', os, bare, un, hok', r', q⟩ := h
        have q' : v = .bl true := q
        subst q'
        obtain rfl : u = Value.bool true := r'
        refine ⟨rfl, OldK.of_keep fun b o e => ?_, os, bare⟩
        cases q : H b with
        | none => exact un.keep b o e q (by intro z; exact absurd (show b ∈ ([] : List Addr) from z) (by simp)) (by simp)
        | some u =>
          rcases hO b with z | ⟨ob, xs, z⟩
          · rw [q] at z; cases z
          · have z2 := un.frzs b ob _ z
            obtain ⟨e1, _⟩ := hok b _ z
            obtain ⟨e2, _⟩ := hok' b _ z2
            rw [e] at e1; cases e1
            exact e2
  cases hk : K.lookup a with
  | some o =>
    -- the script is one of the module's own objects
    have e := KX a o hk
    rw [ha] at e
    cases e
    refine core (fun _ => none) (fun _ => .inl rfl) (.inr ⟨_, vs.toArray, _, hk, rfl, rfl, rfl, by rw [List.size_toArray, lenV]; exact hl, by simpa using rv⟩) (fun b u z => by have z' : (none : Option HO) = some u := z; cases z') (fun b z => absurd rfl z) fun z => absurd rfl z
  | none =>
    refine core (fun b => if b = a then some (.frz { cls := .type "list", data := .seq vs.toArray } (.lst (ns.map V.int))) else none) (fun b => ?_) (.inl (.inr ⟨{ cls := .type "list", data := .seq vs.toArray }, if_pos rfl⟩)) (fun b u z => ?_) (fun b z => ?_) fun _ => hk
    · by_cases hb : b = a
      · exact .inr ⟨_, _, if_pos hb⟩
      · exact .inl (if_neg hb)
    · by_cases hb : b = a
      · have z' := (if_pos hb).symm.trans z
        cases z'
        subst hb
        exact ⟨ha, by rw [List.length_map]; exact hl, vs, _, rv, ha⟩
      · have z' := (if_neg hb).symm.trans z
        cases z'
    · by_cases hb : b = a
      · exact hb
      · exact absurd (if_neg hb) z
end L2

namespace L2
open PySem PySem.Spec PyProof.Rows

abbrev KOf {K : PySem.W.Frag} {h : Heap} (_ : K.In h) : PySem.W.Frag := K

/-- the goal that k_head leaves (case hc), from the law's promise. F gives the function object fd (K's own) once, then the promise over every base -/
theorem walk_of {l : PySem.W.OpenLaw} {n k : Nat} {q : Program} {loose : List Str} {XP : (Str → Option Value) → Heap → Prop} {YP : World → Heap → Prop} {d : DefRec} {K : Params → PySem.W.Frag} {CX : World → CXT} {sp : World → Sp} {x : Str}
    (hn : l.most = some n) (hn2 : n ≤ sizeLine) (hdf : d.params.defaults = []) (hr : Room k callerA)
    (hY : ∀ (w : World) (h : Heap), YP w h → (K w.params).In h)
    (F : ∀ (w : World) (mg : Str → Option Value) (fa : Addr) (h : Heap), (K w.params).In h → h.Ns mainGlobals mg → mg d.name = some (.ref fa) →
      ∃ fd : FuncData, (∀ (s : Shared) (u : Value), BindsTo s fd ⟨[u], []⟩ [(x, u)]) ∧
        ∀ base : Heap, (K w.params).In base → base.Ns mainGlobals mg → FnOk l.prog w (K w.params) mg base (CX w) k fa fd [x] (sp w))
    (hsp : ∀ (w : World) (H : Hp) (a : Addr) (ns : List Int), ns.length ≤ n → Only H → SqL (K w.params) H a (ns.map V.int) → sp w [.ref a] H (fun v _ => v = .bl true) fun _ _ _ => False)
    (hCX : ∀ (w : World) (H : Hp) (s : Shared) (e : Value) (s' : Shared), CX w [] H s (fun _ _ _ => False) e s' → False) :
    PySem.W.WalkO q loose XP YP l.row.toRowW d [] (fun f vs => PySem.call f vs) := by
  refine Att.attach_call hn hdf fun w s₀ s₁ mg mb fa o pm cd doc a vs ns G Y ho hd hcd hmg hobj hints hlen hg => ?_
  have KX := hY w _ Y
  obtain ⟨fd, hb, hF⟩ := F w mg fa _ KX G.T.g hmg
  exact law_call KX G.T.g G.T.b G.T.builtins G.T.nolimit hg hobj hints (Nat.le_trans hlen hn2) hr hF hb (fun H hO hS => hsp w H a ns hlen hO hS) fun H e s' => hCX w H s₁ e s'
end L2

/- THE LAST THEOREM (shape; LID, My.* are yours):
   My.Adr: a structure of the addresses that your layer names (classes, functions); My.Txt K t: a structure (Prop) of the equations over K;
   My.txt_mk : {K} {implicit addresses ..} (e1 : nsIn K mainGlobals "law" = some (some (.ref f))) (e2 : K.lookup f = some ⟨oc, od, .func (fnOf "law" "law" params body scope dV kV doc pm an cdv ct), sl⟩) (e3 : codeIn K cdv "law" = true) .. : ∃ t, My.Txt K t

set_option maxRecDepth 100000 in
set_option maxHeartbeats 0 in
theorem PySem.Challenge.cw_LID_holds : PySem.Challenge.rw_LID.Holds := by
  w_on; o_law; k_head; (case hw => w_witness2)
  k_fill
  refine L2.walk_of (l := PySem.Challenge.rw_LID) (n := 63) (k := 40) (x := "script") (CX := fun w => ..) (sp := fun _ => My.sp_law) rfl (by decide) rfl ⟨rfl, by decide, by decide⟩ (fun w h Y => PySem.W.kIn_of Y) ?F ?S ?C
  case F =>
    intro w mg fa h KX G hmg
    have T : ∃ t, My.Txt (L2.KOf KX) t := by
      dsimp only [L2.KOf]                          -- K must stand as «<heap const> w.params» for k_is
      refine' My.txt_mk ?e1 ?e2 ?e3 ..
      (case e1 => PySem.W.k_is)                    -- in the order: a name -> its address -> its object -> its parts
      (case e2 => PySem.W.k_is)
      ..
    obtain ⟨t, T⟩ := T
    have e0 := hmg.symm.trans (PySem.W.mg_of KX G T.law)
    cases e0                                       -- fa is the law's own address
    exact ⟨_, fun s u => .of_eq rfl, fun base kb nb => My.law_fn T kb nb⟩     -- if «.of_eq rfl» comes too early: refine' ⟨_, ?b, fun base kb nb => My.law_fn T kb nb⟩; exact fun s u => .of_eq rfl
  case S => exact fun w H a ns hl hO hS => ..
  case C => exact ..
(the tactic k_is has no namespace: write k_is) -/

/-! SHORT WORDS over the layer: a def of the text, its body, what a loop and a test want. -/
namespace L2
open PySem PySem.Spec PyProof.Rows

/-! ### the text by places -/
/-- the j-th statement of a class's body -/
def inClass (s : Stmt) (j : Nat) : Stmt := match s with
  | .ClassDef _ _ _ body _ _ _ _ _ _ _ => body.getD j (.Pass ⟨0, 0, 0, 0⟩)
  | _ => .Pass ⟨0, 0, 0, 0⟩
def defArgs (s : Stmt) : Arguments := match s with
  | .FunctionDef _ a _ _ _ _ _ _ _ _ => a
  | _ => { posonlyargs := [], args := [], vararg := none, kwonlyargs := [], kw_defaults := [], kwarg := none, defaults := [] }
def defBody (s : Stmt) : List Stmt := match s with
  | .FunctionDef _ _ b _ _ _ _ _ _ _ => b
  | _ => []
def defScope (s : Stmt) : Scope := match s with
  | .FunctionDef _ _ _ _ _ _ sc _ _ _ => sc
  | _ => { kind := .function, names := [], isGenerator := false, isCoroutine := false }

/-! ### no exception leaves a def -/
abbrev CX0 : CXT := fun _ _ _ _ _ _ => False
abbrev E0 : XK := fun _ _ _ => False
theorem pass0 {X : Cx} : Passes CX0 X E0 := fun _ _ _ _ _ _ _ h => h.elim

/-! ### a def (or method) of the text as it stands behind the top -/
structure Fun (K : PySem.W.Frag) (x qual : Str) (st : Stmt) (f : Addr) (fd : FuncData) : Prop where
  ex : ∃ (oc : Value) (od : Option Addr) (kV doc pm : Value) (an : Option Addr) (cdv ct : Value) (osl : Array (Option Value)),
    fd = PySem.W.fnOf x qual (defArgs st) (defBody st) (defScope st) .none kV doc pm an cdv ct ∧ K.lookup f = some ⟨oc, od, .func fd, osl⟩ ∧ PySem.W.codeIn K cdv qual = true
  kp : PySem.W.keepIn K (.ref f) = true
section
variable {P : Program} {w : World} {K : PySem.W.Frag} {mg : Str → Option Value} {base : Heap}
/-- THE RULE for a def: its body as a term of rules, and the reading of that term -/
theorem Fun.ok {x qual : Str} {st : Stmt} {f : Addr} {fd : FuncData} {N ps : List Str} {k : Nat} {sp : Sp} (F : Fun K x qual st f fd) (S : FnScope N ps (defScope st)) (len : ∀ vs H Q E, sp vs H Q E → vs.length = ps.length)
    (hbody : ∀ (cdv : Value) (A : Around) (outer : List Env) (s : Shared) (H : Hp) (vs : List V) (Q : VK) (E : XK), Room k (A.deeper (envOfC qual (defScope st) s.heap.objs.size f cdv)) → sp vs H Q E →
      ∃ t, PSs (cxOf CX0 P w K mg base N qual (defScope st) f cdv A outer s H E).nox (defBody st) t ∧ t { nx := fun _ H' => Q .non H', rt := Q } (start N vs) H) : FnOk P w K mg base CX0 (k + 1) f fd ps sp := by
  obtain ⟨oc, od, kV, doc, pm, an, cdv, ct, osl, rfl, lk, hcd⟩ := F.ex
  refine fn_of lk hcd S len fun A outer s H vs Q E hr hsp => ?_
  obtain ⟨t, h, q⟩ := hbody cdv A outer s H vs Q E hr hsp
  exact ⟨t, h.nox, q⟩
/-- how its arguments bind (no defaults): h is «fun _ _ _ _ _ _ us hl => match us, hl with | [_, _], _ => rfl», one _ a parameter -/
theorem Fun.binds {x qual : Str} {st : Stmt} {f : Addr} {fd : FuncData} {ps : List Str} (F : Fun K x qual st f fd)
    (h : ∀ (kV doc pm : Value) (an : Option Addr) (cdv ct : Value) (us : List Value), us.length = ps.length → bindArgs (PySem.W.fnOf x qual (defArgs st) (defBody st) (defScope st) .none kV doc pm an cdv ct) ⟨us, []⟩ = pure (ps.zip us)) : Binds K fd ps [] := by
  obtain ⟨oc, od, kV, doc, pm, an, cdv, ct, osl, rfl, lk, hcd⟩ := F.ex
  exact .all (h kV doc pm an cdv ct)
theorem fun_mk {x qual : Str} {st : Stmt} {f : Addr} {oc : Value} {od an : Option Addr} {osl : Array (Option Value)} {kV doc pm cdv ct : Value} (l : K.lookup f = some ⟨oc, od, .func (PySem.W.fnOf x qual (defArgs st) (defBody st) (defScope st) .none kV doc pm an cdv ct), osl⟩)
    (c : PySem.W.codeIn K cdv qual = true) (k : PySem.W.keepIn K (.ref f) = true) : Fun K x qual st f (PySem.W.fnOf x qual (defArgs st) (defBody st) (defScope st) .none kV doc pm an cdv ct) := ⟨⟨oc, od, kV, doc, pm, an, cdv, ct, osl, rfl, l, c⟩, k⟩
end
/-! ### expressions in short: the name that stands in the i-th slot -/
section
variable {X : Cx}
theorem pv (i : Nat) {x : Str} {pos : Pos} (hN : X.N[i]? = some x := by rfl) (hv : Vis X.env.scope x := by first | exact Or.inl rfl | exact Or.inr (Or.inl rfl) | exact Or.inr (Or.inr rfl)) (hd : (x == ("__debug__" : Str)) = false := by decide)
    (hcd : (x == ("__classdict__" : Str)) = false := by decide) : PE X (.Name x pos) (tVar i) := pe_var hN hv hd hcd
end

/-! ### tests -/
theorem iteF {A B : Prop} (h : B) : if false = true then A else B := by
  rw [if_neg Bool.false_ne_true]
  exact h
theorem iteT {A B : Prop} (h : A) : if true = true then A else B := by
  rw [if_pos rfl]
  exact h
theorem ite2 {c A B : Prop} [Decidable c] (h1 : c → A) (h2 : ¬ c → B) : if c then A else B := by
  by_cases h : c
  · rw [if_pos h]
    exact h1 h
  · rw [if_neg h]
    exact h2 h
theorem iteNS {c A B : Prop} [Decidable c] (hc : c) (h : B) : if (!decide c) = true then A else B := by
  rw [decide_eq_true hc]
  exact iteF h

/-! ### heaps -/
/-- all that was tracked is as it was -/
def Same (H H' : Hp) : Prop := ∀ b o, H b = some o → H' b = some o
theorem Same.refl (H : Hp) : Same H H := fun _ _ h => h
theorem Same.trans {H H1 H2 : Hp} (a : Same H H1) (b : Same H1 H2) : Same H H2 := fun c o h => b c o (a c o h)
theorem Same.free {H H' : Hp} (e : Same H H') {l : Addr} (h : H' l = Option.none) : H l = Option.none := by
  cases q : H l with
  | none => rfl
  | some o =>
    rw [e l o q] at h
    cases h
theorem Same.seq {K : PySem.W.Frag} {H H' : Hp} {a : Addr} {xs : List V} (e : Same H H') (h : SqL K H a xs) : SqL K H' a xs := by
  rcases h with (h | ⟨o, h⟩) | h
  · exact .inl (.inl (e _ _ h))
  · exact .inl (.inr ⟨o, e _ _ h⟩)
  · exact .inr h

end L2
namespace L2
open PySem PySem.Spec PyProof.Rows

/-! ### comprehensions -/
def cxLC (X : Cx) (N : List Str) (scope : Scope) (cl : List (Str × Addr)) (C : Addr) (s : Shared) (H : Hp) (ex : List Addr) (pn : List (Addr × Obj)) : Cx where
  prog := X.prog
  w := X.w
  K := X.K
  mg := X.mg
  base := X.base
  A := X.A
  N := N
  s₀ := s
  H₀ := H
  env := compEnvC scope cl C X.env
  outer := X.stack
  stack := X.stack
  ex := ex
  fn := fun _ => false
  calm := X.calm
  pn := pn
  xe := fun _ _ => False

/-- the tests of a clause -/
def PF (X : Cx) (ifs : List Expr) (t : TT) : Prop :=
  ∀ (pins : List (Addr × Obj)) (s : Shared) (σ : St) (H : Hp) (Q : Bool → Hp → Prop), Inv X pins σ H s → t σ H Q →
    wpAny (model X.prog X.w) X.A (forIn ifs true fun c r => if r = true then do let ok ← isTrue c X.env (eval c X.env); pure (ForInStep.yield ok) else pure (ForInStep.yield r)) (TP X pins σ Q) X.xe s
def tYes : TT := fun _ H Q => Q true H
theorem pf_nil {X : Cx} : PF X [] tYes := fun _ _ _ H _ I h => wpAny_tests_nil ⟨H, I, h⟩
theorem compLoop_any {prog : Program} {w : World} {A : Around} {R : Result → Shared → Prop} {s : Shared} {elt target iter : Expr} {ifs : List Expr} {scope : Scope} {pos : Pos} {it acc : Value} {env : Env} (I : Nat → Shared → Prop)
    (turn : ∀ n s, I n s → wpAny (model prog w) A (pyNext it) (fun r s₁ => match r with
      | none => R (.ok .next) s₁
      | some v => wpAny (model prog w) A (letOwnedTupleGo target it v) (fun _ s₁' => wpAny (model prog w) A (assign target env v) (fun _ s₂ =>
          wpAny (model prog w) A (forIn ifs true fun c r => if r = true then do let ok ← isTrue c env (eval c env); pure (ForInStep.yield ok) else pure (ForInStep.yield r)) (fun ok s₃ =>
            if ok = true then wpAny (model prog w) A (eval elt env) (fun x s₄ =>
              wpAny (model prog w) A (call (.builtin "list.append") [acc, x]) (fun _ s₅ => ∃ m, m < n ∧ I m s₅) (fun _ _ => False) s₄) (fun _ _ => False) s₃
            else ∃ m, m < n ∧ I m s₃) (fun _ _ => False) s₂) (fun _ _ => False) s₁') (fun _ _ => False) s₁) (fun _ _ => False) s)
    (n : Nat) (h : I n s) : codeAny (model prog w) A (.compLoop (.ListComp elt [⟨target, iter, ifs, 0⟩] scope pos) 0 it acc env) R s := by
  refine codeAny_loop rfl I (fun n s hI => ?_) n h
  show wpAny _ A ((compTurn (.ListComp elt [⟨target, iter, ifs, 0⟩] scope pos) 0 it acc env).onRaise (fun x => do noteFrame x env; theTreesLotGoes x)) _ _ s
  refine wpAny_noted (wpAny_mono (E := fun _ _ => False) ?_ (fun _ _ q => q) fun _ _ z => False.elim z)
  rw [compTurn_list]
  refine wpAny_bind (wpAny_standAt (wpAny_bind (wpAny_mono (turn n s hI) (fun r s₁ h₁ => ?_) fun _ _ h' => h')))
  cases r with
  | none => exact wpAny_pure h₁
  | some v =>
    refine wpAny_bind (wpAny_mono h₁ (fun _ s₁' h₁' => ?_) fun _ _ h' => h')
    refine wpAny_bind (wpAny_mono h₁' (fun _ s₂ h₂ => wpAny_bind (wpAny_mono h₂ (fun ok s₃ h₃ => ?_) fun _ _ h' => h')) fun _ _ h' => h')
    cases ok with
    | false => exact wpAny_pure ⟨rfl, h₃⟩
    | true =>
      exact wpAny_bind (wpAny_bind (wpAny_mono h₃ (fun x s₄ h₄ => wpAny_bind (wpAny_mono h₄ (fun _ s₅ h₅ => wpAny_pure (wpAny_pure ⟨rfl, h₅⟩)) fun _ _ h' => h')) fun _ _ h' => h'))

/-- captured names: their places around, their names -/
inductive Capt (X : Cx) (E' : Env) : List Nat → List Str → Prop where
  | nil : Capt X E' [] []
  | cons {i : Nat} {x : Str} {fr : List Nat} {ns : List Str} (h1 : X.N[i]? = some x) (h2 : X.env.kindOf x = some .cell) (h3 : E'.kindOf x = some .cell)
      (h4 : E'.cells.lookup x = X.env.cells.lookup x) (t : Capt X E' fr ns) : Capt X E' (i :: fr) (x :: ns)
theorem Capt.length {X : Cx} {E' : Env} : ∀ {fr : List Nat} {ns : List Str}, Capt X E' fr ns → fr.length = ns.length
  | _, _, .nil => rfl
  | _, _, .cons _ _ _ _ t => by simp [t.length]
theorem Capt.get {X : Cx} {E' : Env} : ∀ {fr : List Nat} {ns : List Str} {j : Nat} {x : Str}, Capt X E' fr ns → ns[j]? = some x →
    ∃ i, fr[j]? = some i ∧ X.N[i]? = some x ∧ X.env.kindOf x = some .cell ∧ E'.kindOf x = some .cell ∧ E'.cells.lookup x = X.env.cells.lookup x
  | _, _, _, _, .nil, e => by simp at e
  | _, _, 0, _, .cons h1 h2 h3 h4 _, e => by simp at e; subst e; exact ⟨_, rfl, h1, h2, h3, h4⟩
  | _, _, j + 1, x, .cons _ _ _ _ t, e => by
    obtain ⟨i, a, b⟩ := Capt.get (j := j) (x := x) t (by simpa using e)
    exact ⟨i, by simpa using a, b⟩

/-- the names' values at a turn's start: its own unset, the captured ones as around -/
def stLC (own : Nat) (fr : List Nat) (σ : St) : St := List.replicate own none ++ fr.map fun i => (σ[i]?).getD none
theorem stLC_length (own : Nat) (fr : List Nat) (σ : St) : (stLC own fr σ).length = own + fr.length := by simp [stLC]
/-- what was set stays set -/
def Kp (σ σ' : St) : Prop := ∀ (i : Nat) (v : V), σ[i]? = some (some v) → σ'[i]? = some (some v)
theorem Kp.refl (σ : St) : Kp σ σ := fun _ _ h => h
theorem Kp.none {n : Nat} {σ : St} {σ' : St} : Kp (stLC n [] σ) σ' := fun i v h => by
  simp only [stLC, List.map_nil, List.append_nil, List.getElem?_replicate] at h
  split at h <;> simp at h
theorem Kp.set {σ σ' : St} {i : Nat} {v : Option V} (k : Kp σ σ') (h : σ[i]? = some Option.none) : Kp σ (σ'.set i v) := fun j u e => by
  have hj : j ≠ i := fun z => by subst z; rw [h] at e; cases e
  rw [List.getElem?_set_ne (Ne.symm hj)]
  exact k j u e

/-- [elt for target in iter if tests]: wi what it walks, g the target, tc the tests, te the element; own: how many names of its own; fr: the captured names' places around -/
def tLCk (own : Nat) (fr : List Nat) (g : TG) (tc : TT) (te : TE) (σ : St) (Q : VK) (J : It) (H1 : Hp) : Prop := ∀ D, H1 D = none → ∃ W : Nat → Nat → Hp → Prop, (∃ m, W 0 m (upd H1 D (.lst []))) ∧ ∀ i m H, W i m H →
  (J.stop i H ∧ Q (.ref D) H) ∨ (J.go i H ∧ ∀ x H', J.yld i H x H' → g x (stLC own fr σ) H' fun σ2 H2 => Kp (stLC own fr σ) σ2 ∧ tc σ2 H2 fun b H3 =>
    if b = true then te σ2 H3 fun y H4 => ∃ ys, H4 D = some (.lst ys) ∧ ys.length < sizeLine ∧ ∃ m', m' < m ∧ W (i + 1) m' (upd H4 D (.lst (ys ++ [y])))
    else ∃ m', m' < m ∧ W (i + 1) m' H3)
def tLC (own : Nat) (fr : List Nat) (wi : TI) (g : TG) (tc : TT) (te : TE) : TE := fun σ H Q => wi σ H (tLCk own fr g tc te σ Q)

/-- what the outer frame needs to know of a comprehension's scope -/
structure LcOk (X : Cx) (scope : Scope) (cl : List (Str × Addr)) (fr : List Nat) (frN : List Str) : Prop where
  clos : closureFor scope X.env = pure cl
  nocell : ∀ y ∈ scope.names, y.2 ≠ .cell
  kind : scope.kind = .function
  nms : ∀ y ∈ scope.names, y.2 = .local → scope.names.lookup y.1 = some .local
  capt : ∀ C, Capt X (compEnvC scope cl C X.env) fr frN
  sub : ∀ x c, cl.lookup x = some c → X.env.cells.lookup x = some c
  has : ((relabel scope X.env).names.all fun y => (y.2 != .cell && y.2 != .free) || (cl.lookup y.1).isSome) = true

theorem LcOk.plain {X : Cx} {scope : Scope} (hf : ∀ y ∈ scope.names, y.2 ≠ .free) (hc : ∀ y ∈ scope.names, y.2 ≠ .cell) (hk : scope.kind = .function)
    (hn : ∀ y ∈ scope.names, y.2 = .local → scope.names.lookup y.1 = some .local) : LcOk X scope [] [] [] where
  clos := closureFor_none hf
  nocell := hc
  kind := hk
  nms := hn
  capt := fun _ => .nil
  sub := fun _ _ h => by simp at h
  has := by
    rw [List.all_eq_true]
    intro y hy
    simp only [relabel, List.mem_map] at hy
    obtain ⟨⟨n, k⟩, hm, e⟩ := hy
    have h1 : (k == NameKind.free) = false := by simpa using hf _ hm
    simp only [h1, Bool.false_and, Bool.false_eq_true, if_false] at e
    subst e
    have h2 := hc _ hm
    have h3 := hf _ hm
    simp only [Bool.or_eq_true, Bool.and_eq_true, bne_iff_ne]
    exact .inl ⟨h2, h3⟩

theorem lookup_all {p : Str × NameKind → Bool} : ∀ {l : List (Str × NameKind)} {x : Str} {k : NameKind}, l.all p = true → l.lookup x = some k → p (x, k) = true
  | [], _, _, _, h => by simp at h
  | (n, k') :: r, x, k, ha, h => by
    rw [List.all_cons, Bool.and_eq_true] at ha
    rw [List.lookup_cons] at h
    split at h
    · rename_i e
      have e' : x = n := by simpa using e
      cases h
      subst e'
      exact ha.1
    · exact lookup_all ha.2 h

theorem lc_core {X : Cx} {elt target iter : Expr} {ifs : List Expr} {scope : Scope} {pos : Pos} {cl : List (Str × Addr)} {ownN frN : List Str} {fr : List Nat} {g : TG} {tc : TT} {te : TE} {pins : List (Addr × Obj)} {σ : St} {H2 : Hp} {s2 : Shared}
    {Q : VK} {E : Value → Shared → Prop} {RR : Value → Addr → Result → Shared → Prop} {it : Addr} {fp : List Addr} {tn : Nat → Heap → Prop} {J : It}
    (hc : X.calm = true) (L : LcOk X scope cl fr frN)
    (hb : ∀ (C : Addr) (s : Shared) (H : Hp) (ex : List Addr) (pn : List (Addr × Obj)), PG (cxLC X (ownN ++ frN) scope cl C s H ex pn) target g ∧ PF (cxLC X (ownN ++ frN) scope cl C s H ex pn) ifs tc ∧ PE (cxLC X (ownN ++ frN) scope cl C s H ex pn) elt te)
    (I2 : Inv X pins σ H2 s2) (T : Turn X.prog X.w X.K target J fp it tn) (st2 : tn 0 s2.heap) (f2 : ∀ b ∈ fp, FpOk X pins H2 b)
    (rest : ∀ D, H2 D = none → ∃ W : Nat → Nat → Hp → Prop, (∃ m, W 0 m (upd H2 D (.lst []))) ∧ ∀ i m H, W i m H →
      (J.stop i H ∧ Q (.ref D) H) ∨ (J.go i H ∧ ∀ x H', J.yld i H x H' → g x (stLC ownN.length fr σ) H' fun σ2 H2 => Kp (stLC ownN.length fr σ) σ2 ∧ tc σ2 H2 fun b H3 =>
        if b = true then te σ2 H3 fun y H4 => ∃ ys, H4 D = some (.lst ys) ∧ ys.length < sizeLine ∧ ∃ m', m' < m ∧ W (i + 1) m' (upd H4 D (.lst (ys ++ [y])))
        else ∃ m', m' < m ∧ W (i + 1) m' H3))
    (hRR : ∀ (D C : Addr) (s' : Shared) (H' : Hp) (m : Str → Option Value), Inv X pins σ H' s' → s'.heap.Ns C m → FpOk X pins H' C → Q (.ref D) H' → RR (.ref D) C (.ok .next) s') :
    wpAny (model X.prog X.w) X.A (newList []) (fun acc s₃ => wpAny (model X.prog X.w) X.A (newFunctionEnv scope X.env.globals cl [] X.env.qual none .none (some X.env)) (fun cenv s₄ =>
      codeAny (model X.prog X.w) X.A (.compStart (.ListComp elt [⟨target, iter, ifs, 0⟩] scope pos) 0 (.ref it) acc { cenv with scope := relabel scope X.env }) (RR acc cenv.locals) s₄) E s₃) E s2 := by
  have hfp : ∀ b ∈ fp, b < s2.heap.objs.size := fun b hb' => by
    obtain ⟨o, e, _⟩ := T.obj 0 _ st2 b hb'
    exact Heap.lt_size e
  refine wpAny_newObj_type (wpAny_newFunctionEnv L.nocell (by intro y hy; simp at hy) (fun h₁ hns₁ hsb₁ => ?_) L.kind) (by show 0 ≤ sizeLine; exact Nat.zero_le _)
  have hD0 : H2 s2.heap.objs.size = none := I2.hok.fresh (Nat.le_refl _)
  obtain ⟨W, ⟨m0, w0⟩, turn⟩ := rest s2.heap.objs.size hD0
  have hlt0 : ∀ {b : Addr} {o : Obj}, s2.heap.get? b = some o → b ≠ s2.heap.objs.size := fun e => Nat.ne_of_lt (Heap.lt_size e)
  have I3 : Inv X pins σ (upd H2 s2.heap.objs.size (.lst [])) { s2 with heap := s2.heap.push { cls := .type "list", dict := none, data := .seq ([] : List Value).toArray } } :=
    I2.laid (t' := s2.toks) (fun b u e => Heap.get?_push_of_some _ e) (Nat.le_refl _) ⟨Nat.zero_le _, [], 0, .nil, Heap.get?_push_size _ rfl⟩
  dsimp only at hns₁ hsb₁ ⊢
  generalize hH3 : s2.heap.push { cls := .type "list", dict := none, data := .seq ([] : List Value).toArray } = h3 at hns₁ hsb₁ I3 ⊢
  generalize hs3 : ({ s2 with heap := h3 } : Shared) = s3 at I3
  have e3 : s3.heap = h3 := by rw [← hs3]
  have sz3 : h3.objs.size = s2.heap.objs.size + 1 := by rw [← hH3, Heap.size_push]
  generalize hHD : upd H2 s2.heap.objs.size (.lst []) = H3 at I3 w0
  have old : ∀ b o, h3.get? b = some o → h₁.get? b = some o := fun b o e => hsb₁.extBut b o (Nat.ne_of_lt (Heap.lt_size e)) (Heap.get?_push_of_some _ e)
  have old3 : ∀ b o, s3.heap.get? b = some o → h₁.get? b = some o := fun b o e => old b o (by rw [← e3]; exact e)
  have old2 : ∀ b o, s2.heap.get? b = some o → h3.get? b = some o := fun b o e => hH3 ▸ Heap.get?_push_of_some _ e
  have ltC : ∀ {b : Addr} {o : Obj}, s3.heap.get? b = some o → b ≠ h3.objs.size := fun {b o} e => Nat.ne_of_lt (by rw [← e3]; exact Heap.lt_size e)
  have hCn : H3 h3.objs.size = none := I3.hok.fresh (by rw [e3]; exact Nat.le_refl _)
  have stk : ∀ b ∈ frs X.stack, b = X.env.locals ∨ b ∈ X.fs := fun b hb' => List.mem_cons.mp (I3.stkSub b hb')
  have cellOld : ∀ x c, cl.lookup x = some c → ∃ v, s3.heap.IsCell c v := fun x c e => I3.cell x c (L.sub x c e)
  let X' := cxLC X (ownN ++ frN) scope cl h3.objs.size s3 H3 fp (X.pn ++ pins)
  have fC : FpOk X pins H3 h3.objs.size := I3.fpOk (by rw [e3]; exact Nat.le_refl _) hCn
  have okX : X'.Ok := by
    refine ⟨I3.ok.mod, ?_, I3.ok.glob, I3.ok.blt, ?_, fun x y c h1 h2 => I3.ok.inj x y c (L.sub _ _ h1) (L.sub _ _ h2), fun x hx => ?_, fun x c h _ => ?_, I3.ok.hd, I3.ok.frames, .inl rfl, fun b hb' => ?_, fun b o e => I3.bs b o e, ?_, fun b o e hb' => ?_, fun b hb' hf => ?_, I3.stack, fun b hb' => I3.stkFree b hb'⟩
    · show (relabel scope X.env).kind = .function
      exact L.kind
    · show s3.heap.objs.size ≤ h3.objs.size
      rw [e3]; exact Nat.le_refl _
    · have hx' : (relabel scope X.env).names.lookup x = some .cell ∨ (relabel scope X.env).names.lookup x = some .free := hx
      show ∃ c, cl.lookup x = some c
      rcases hx' with z | z
      · have q := lookup_all L.has z
        simp only [Bool.or_eq_true, Bool.and_eq_true, bne_iff_ne, ne_eq, not_true_eq_false, false_and, false_or] at q
        exact Option.isSome_iff_exists.mp q
      · have q := lookup_all L.has z
        simp only [Bool.or_eq_true, Bool.and_eq_true, bne_iff_ne, ne_eq, not_true_eq_false, and_false, false_or] at q
        exact Option.isSome_iff_exists.mp q
    · exact absurd (show false = true from h) Bool.false_ne_true
    · refine ⟨Nat.ne_of_lt (by show b < h3.objs.size; rw [sz3]; exact Nat.lt_succ_of_lt (hfp b hb')), fun x c e z => ?_⟩
      exact (f2 b hb').2.2.2.2.1 x c (L.sub x c e) z
    · show X.base.objs.size ≤ s3.heap.objs.size
      exact Nat.le_trans I3.ok.bsz I3.sz
    · have q := I2.bs b o e
      rcases (f2 b hb').2.2.2.1 with z | z
      · exact I2.ok.noex b o e z
      · exact absurd (Nat.lt_of_lt_of_le (Heap.lt_size e) (Nat.le_trans I2.ok.bsz z)) (Nat.lt_irrefl _)
    · rcases stk b hf with z | z
      · exact (f2 b hb').2.1 z
      · exact (f2 b hb').2.2.1 z
  have I4 : Inv X' [] (stLC ownN.length fr σ) H3 { s2 with heap := h₁, toks := s2.toks + ([] : List (Str × Value)).length } := by
    refine ⟨okX, ?_, ?_, Un.kept old3, ⟨_, hns₁, fun i x v h1 h2 h3' => ?_⟩, fun x c e => ?_, hCn, fun x c e => I3.freeC x c (L.sub x c e), fun p hp => ?_, I3.hok.kept old3, ?_⟩
    · show s2.os = s3.os
      rw [← hs3]
    · have b3 := I3.bare
      rw [← hs3] at b3
      exact b3
    · have hlen : (List.replicate ownN.length (none : Option V)).length = ownN.length := List.length_replicate
      by_cases hi : i < ownN.length
      · rw [stLC, List.getElem?_append_left (by rw [hlen]; exact hi), List.getElem?_replicate, if_pos hi] at h2
        cases h2
      · rw [stLC, List.getElem?_append_right (by rw [hlen]; omega), hlen] at h2
        have h1' : (ownN ++ frN)[i]? = some x := h1
        rw [List.getElem?_append_right (by omega)] at h1'
        obtain ⟨j, hj, hNj, hk, hk', hl⟩ := (L.capt h3.objs.size).get h1'
        rw [List.getElem?_map, hj] at h2
        have h2' : (σ[j]?).getD none = some v := by simpa using h2
        have hσ : σ[j]? = some (some v) := by
          cases q : σ[j]? with
          | none => rw [q] at h2'; cases h2'
          | some z => rw [q] at h2'; exact congrArg some h2'
        obtain ⟨m3, hn3, hl3⟩ := I3.loc
        obtain ⟨u, r, lk⟩ := hl3 j x v hNj hσ (.inr (.inl hk))
        refine ⟨u, r, ?_⟩
        rcases lk with ⟨k1, _⟩ | ⟨_, c, hc1, hc2⟩
        · rw [hk] at k1; cases k1
        · refine .inr ⟨.inl hk', c, hl.trans hc1, ?_⟩
          obtain ⟨oc, hoc, hd⟩ := hc2
          exact ⟨oc, old3 c oc hoc, hd⟩
    · obtain ⟨v, oc, hoc, hd⟩ := cellOld x c e
      exact ⟨v, oc, old3 c oc hoc, hd⟩
    · have hp' : p ∈ X.pn ++ pins := by
        rcases List.mem_append.mp hp with z | z
        · exact z
        · exact absurd z (by simp)
      obtain ⟨e, n, ne, nf, d⟩ := I3.pin p hp'
      refine ⟨old3 _ _ e, n, ltC e, fun z => ?_, d⟩
      rcases stk _ z with q | q
      · exact ne q
      · exact nf q
    · show (stLC ownN.length fr σ).length = (ownN ++ frN).length
      rw [stLC_length, List.length_append, (L.capt 0).length]
  have st4 : tn 0 h₁ := T.keep 0 _ _ st2 fun b _ o e => old b o (old2 b o e)
  have fr4 : ∀ b ∈ fp, H3 b = none := fun b hb' => by
    rw [← hHD, upd_ne (Nat.ne_of_lt (hfp b hb'))]
    exact (f2 b hb').1
  have stat : ∀ {H' : Hp}, (∀ b ∈ fp, H' b = none) → ∀ b ∈ fp, FpOk X' [] H' b := fun {H'} hn b hb' => by
    refine ⟨hn b hb', (okX.exf b hb').1, okX.exfs b hb', .inl hb', (okX.exf b hb').2, fun p hp => ?_⟩
    have hp' : p ∈ X.pn ++ pins := by
      rcases List.mem_append.mp hp with z | z
      · exact z
      · exact absurd z (by simp)
    exact (f2 b hb').2.2.2.2.2 p hp'
  have finish : ∀ {s' : Shared} {H' : Hp}, Inv X' [] (stLC ownN.length fr σ) H' s' → Q (.ref s2.heap.objs.size) H' → RR (.ref s2.heap.objs.size) h3.objs.size (.ok .next) s' := fun {s' H'} I' q => by
    obtain ⟨m, hn, _⟩ := id I'.loc
    have I5 : Inv X pins σ H' s' := I3.call' (ch := fp) I'.os I'.base I'.hok I'.bare fun b hb' => ⟨(f2 b hb').2.2.2.1, (f2 b hb').2.1, (f2 b hb').2.2.2.2.1, (f2 b hb').2.2.2.2.2⟩
    exact hRR _ _ s' H' m I5 hn ⟨I'.free, fC.2⟩ q
  have loop : ∀ s₄ : Shared, s₄ = { s2 with heap := h₁, toks := s2.toks + ([] : List (Str × Value)).length } →
      codeAny (model X.prog X.w) X.A (.compLoop (.ListComp elt [⟨target, iter, ifs, 0⟩] scope pos) 0 (.ref it) (.ref s2.heap.objs.size) (compEnvC scope cl h3.objs.size X.env)) (RR (.ref s2.heap.objs.size) h3.objs.size) s₄ := by
    rintro s₄ rfl
    refine compLoop_any (fun n s' => ∃ i H', Inv X' [] (stLC ownN.length fr σ) H' s' ∧ tn i s'.heap ∧ (∀ b ∈ fp, H' b = none) ∧ W i n H') ?_ m0 ⟨0, H3, I4, st4, fr4, w0⟩
    rintro n s5 ⟨i, H5, I5, st5, fr5, w5⟩
    rcases turn i n H5 w5 with ⟨stop, qn⟩ | ⟨go, step⟩
    · refine thn (T.done X' rfl rfl rfl hc i [] s5 _ H5 _ I5 (stat fr5) st5 stop) fun r s6 ⟨hr, I6⟩ => ?_
      subst hr
      exact finish I6 qn
    · refine thn (T.item X' rfl rfl rfl hc i [] s5 _ H5 _ I5 (stat fr5) st5 go) fun r s6 ⟨u, hr, h6⟩ => ?_
      subst hr
      refine thn h6 fun _ s7 ⟨x, H7, I7, r7, y7, st7, fr7⟩ => ?_
      have I7' := I7.pinned (stat fr7) (T.obj _ _ st7)
      obtain ⟨hG, hF, hE⟩ := hb h3.objs.size s3 H3 fp (X.pn ++ pins)
      refine thn (hG _ s7 _ H7 x u _ I7' r7 (step x H7 y7)) fun _ s8 ⟨σ8, H8, I8, kp8, q8⟩ => ?_
      have again : ∀ {s9 : Shared} {H9 : Hp} {m' : Nat}, Inv X' ([] ++ pinsAt fp s7.heap) σ8 H9 s9 → m' < n → W (i + 1) m' H9 → ∃ m, m < n ∧ ∃ i H', Inv X' [] (stLC ownN.length fr σ) H' s9 ∧ tn i s9.heap ∧ (∀ b ∈ fp, H' b = none) ∧ W i m H' := fun {s9 H9 m'} I9 hm w9 => by
        have J9 : Inv X' [] (stLC ownN.length fr σ) H9 s9 := I9.unpinned.weak (by rw [I9.len, I7.len]) kp8
        refine ⟨m', hm, i + 1, H9, J9, T.keep _ _ _ st7 fun b hb' o e => (I9.pin (b, o) (List.mem_append_right _ (List.mem_append_right _ (mem_pinsAt hb' e)))).1, fun b hb' => ?_, w9⟩
        obtain ⟨o, e, d⟩ := T.obj _ _ st7 b hb'
        exact (I9.pin (b, o) (List.mem_append_right _ (List.mem_append_right _ (mem_pinsAt hb' e)))).2.1
      refine thn (hF _ s8 σ8 H8 _ I8 q8) fun ok s9 ⟨H9, I9, q9⟩ => ?_
      cases ok with
      | false =>
        rw [if_neg Bool.false_ne_true] at q9 ⊢
        obtain ⟨m', hm, w9⟩ := q9
        exact again I9 hm w9
      | true =>
        rw [if_pos rfl] at q9 ⊢
        refine thn (hE _ s9 σ8 H9 _ I9 q9) fun v s10 ⟨y, H10, I10, r10, ys, e10, z10, m', hm, w10⟩ => ?_
        refine thn (mt_append _ s10 σ8 H10 (.ref s2.heap.objs.size) [y] (.ref s2.heap.objs.size) [v] (fun _ Hn => Hn = upd H10 s2.heap.objs.size (.lst (ys ++ [y]))) I10 rfl (.cons r10 .nil) ⟨_, ys, y, rfl, rfl, e10, z10, rfl⟩) fun _ s11 ⟨_, H11, I11, _, e11⟩ => ?_
        subst e11
        exact again I11 hm w10
  exact codeAny_compStart_list (loop _ rfl) (T.self _ 0 _ _ _ st4 (loop _ rfl))

theorem pe_lc {X : Cx} {elt target iter : Expr} {ifs : List Expr} {scope : Scope} {pos : Pos} {cl : List (Str × Addr)} (ownN : List Str) {frN : List Str} {fr : List Nat} {wi : TI} {g : TG} {tc : TT} {te : TE}
    (hc : X.calm = true) (L : LcOk X scope cl fr frN) (hi : PI X target iter wi)
    (hb : ∀ (C : Addr) (s : Shared) (H : Hp) (ex : List Addr) (pn : List (Addr × Obj)), PG (cxLC X (ownN ++ frN) scope cl C s H ex pn) target g ∧ PF (cxLC X (ownN ++ frN) scope cl C s H ex pn) ifs tc ∧ PE (cxLC X (ownN ++ frN) scope cl C s H ex pn) elt te)
    (hs : ∀ x, foldedSetIterable iter X.env x = pure x := by intro _; rfl) :
    PE X (.ListComp elt [⟨target, iter, ifs, 0⟩] scope pos) (tLC ownN.length fr wi g tc te) := by
  intro pins s σ H Q I h
  rw [eval_ListComp]
  refine wpAny_comprehension_free (use := none) rfl hs L.clos L.kind L.nms (thn (hi pins s σ H _ I h) fun v s1 h1 => thn h1 fun itv s2 h2 => ?_)
  obtain ⟨it, fp, tn, J, H2, e, I2, T, st2, f2, rest⟩ := h2
  subst e
  refine lc_core hc L hb I2 T st2 f2 rest ?_
  intro D C s' H' m I' hn fC q
  refine ⟨m, hn, fun h' hs' => ⟨.ref D, H', ?_, rfl, q⟩⟩
  obtain ⟨f0, f1, _, f3, f4, f5⟩ := fC
  exact I'.turned (t' := s'.toks) (fun b o hb' e => (hs'.2 b hb').trans e) f0 f1 f3 f4 f5

/-- name = [..] on one line, the name not one of the comprehension's own -/
theorem ps_setLC {X : Cx} {i : Nat} {x : Str} {elt target iter : Expr} {ifs : List Expr} {scope : Scope} {pos pos' spos : Pos} {cl : List (Str × Addr)} (ownN : List Str) {frN : List Str} {fr : List Nat} {wi : TI} {g : TG} {tc : TT} {te : TE}
    (hN : X.N.Nodup) (hiN : X.N[i]? = some x) (hx : Loc X.env.scope x) (hc : X.calm = true) (L : LcOk X scope cl fr frN) (hi : PI X target iter wi)
    (hb : ∀ (C : Addr) (s : Shared) (H : Hp) (ex : List Addr) (pn : List (Addr × Obj)), PG (cxLC X (ownN ++ frN) scope cl C s H ex pn) target g ∧ PF (cxLC X (ownN ++ frN) scope cl C s H ex pn) ifs tc ∧ PE (cxLC X (ownN ++ frN) scope cl C s H ex pn) elt te)
    (hsw : swapsWith (.ListComp elt [⟨target, iter, ifs, 0⟩] scope pos) (some (.Name x pos')) spos.line X.env = pure true := by rfl)
    (hs : ∀ x, foldedSetIterable iter X.env x = pure x := by intro _; rfl) (hf : X.fn x = true ∨ X.env.scope.names.lookup x = some .local := by first | exact .inl rfl | exact .inr rfl | assumption) :
    PS X (.Assign [.Name x pos'] (.ListComp elt [⟨target, iter, ifs, 0⟩] scope pos) spos) (tAsg (tLC ownN.length fr wi g tc te) (gName i)) := by
  intro pins s σ H D I h
  rw [exec_Assign_Name_used _ _ _ _ hsw]
  refine wpAny_bind (wpAny_standAt (wpAny_bind ?_))
  show wpAny _ X.A (do let _ ← comprehension (.ListComp elt [⟨target, iter, ifs, 0⟩] scope pos) scope X.env _ (newList []) false (eval iter X.env) (some (assign (.Name x pos') X.env))) _ _ s
  refine wpAny_bind (wpAny_mono (wpAny_comprehension_free (use := some (assign (.Name x pos') X.env)) (Q := fun _ s' => SP X pins D .next s') rfl hs L.clos L.kind L.nms
    (thn (hi pins s σ H _ I h) fun v s1 h1 => thn h1 fun itv s2 h2 => ?_)) (fun _ s' hq => wpAny_pure (wpAny_pure hq)) fun _ _ e => e)
  obtain ⟨it, fp, tn, J, H2, e, I2, T, st2, f2, rest⟩ := h2
  subst e
  refine lc_core (Q := fun v H => D.nx (σ.set i (some v)) H) hc L hb I2 T st2 f2 rest ?_
  intro Dl C s' H' m I' hn fC q
  obtain ⟨f0, f1, _, f3, f4, f5⟩ := fC
  refine wpAny_assign_Name (store_ok2 I' hN hiN hx (v := .ref Dl) rfl (fun s3 I3 ⟨a, sb, ha⟩ => ?_) hf)
  have hCa : C ≠ a := by
    rcases ha with z | z
    · rw [z]; exact f1
    · exact fun w' => f4 x a z w'.symm
  refine ⟨m, hn.sameBut sb hCa, fun h' hs' => ⟨_, H', I3.turned (t' := s3.toks) (fun b o hb' e => (hs'.2 b hb').trans e) f0 f1 f3 f4 f5, q⟩⟩
end L2
namespace L2
open PySem PySem.Spec PyProof.Rows

/-! ### reversed(xs) -/
/-- the list at a, from the last item to the first -/
def Itv (K : PySem.W.Frag) (a : Addr) (xs : List V) : It :=
  ⟨fun i H => i < xs.length ∧ SqL K H a xs, fun i H x H' => H' = H ∧ xs.reverse[i]? = some x, fun i _ => i = xs.length⟩
def iRev (K : PySem.W.Frag) (ta : TA) : TI := fun σ H R => ta σ H fun vs H1 => ∃ a xs, vs = [.ref a] ∧ SqL K H1 a xs ∧ R (Itv K a xs) H1
/-! ### xs[::-1] -/
def rRevL (K : PySem.W.Frag) : V → Hp → VK → Prop := fun x H Q => ∃ a xs, x = .ref a ∧ SqL K H a xs ∧ ∀ p, H p = none → Q (.ref p) (upd H p (.lst xs.reverse))
/-! ### xs == [], xs != [] -/
def rNil (K : PySem.W.Frag) (neg : Bool) : R2 := fun x y H Q => ∃ a b xs, x = .ref a ∧ y = .ref b ∧ SqL K H a xs ∧ SqL K H b [] ∧ Q (.bl (if neg then !xs.isEmpty else xs.isEmpty)) H
theorem op_eqNil {X : Cx} (hu : X.A.units < cLine) : OpR X (compareOp .Eq) (rNil X.K false) := by
  intro pins s σ H x y v u Q I rx ry h
  obtain ⟨a, b, xs, rfl, rfl, ha, hb, q⟩ := h
  cases rx
  cases ry
  obtain ⟨its, r, pl, _⟩ := I.list ha
  obtain ⟨its2, r2, pl2, _⟩ := I.list hb
  cases r2
  cases xs with
  | nil =>
    cases r
    exact SeqAt.eq_listAt (e := fun _ => true) pl.isList pl2.isList rfl hu (fun j h1 _ => absurd h1 (by simp)) ⟨.bl true, H, I, rfl, q⟩
  | cons z xs =>
    have hl := r.length
    exact SeqAt.eq_list_lengthsAt pl.isList pl2.isList (by
      have : its.length ≠ 0 := by rw [← hl]; simp
      simpa using this) hu ⟨.bl false, H, I, rfl, q⟩
theorem op_neNil {X : Cx} (hu : X.A.units < cLine) : OpR X (compareOp .NotEq) (rNil X.K true) := by
  intro pins s σ H x y v u Q I rx ry h
  obtain ⟨a, b, xs, rfl, rfl, ha, hb, q⟩ := h
  cases rx
  cases ry
  obtain ⟨its, r, pl, _⟩ := I.list ha
  obtain ⟨its2, r2, pl2, _⟩ := I.list hb
  cases r2
  show wpAny (model X.prog X.w) X.A (richCompare .NotEq (.ref a) (.ref b)) _ _ _
  cases xs with
  | nil =>
    cases r
    exact SeqAt.RcNeAt.lists (e := fun _ => true) pl.isList pl2.isList rfl hu (fun j h1 _ => absurd h1 (by simp)) _ _ _ _ ⟨.bl false, H, I, rfl, q⟩
  | cons z xs =>
    have hl := r.length
    exact SeqAt.RcNeAt.lists_lengths pl.isList pl2.isList (by
      have : its.length ≠ 0 := by rw [← hl]; simp
      simpa using this) hu _ _ _ _ ⟨.bl true, H, I, rfl, q⟩

/-! ### isinstance -/
/-- isinstance(x, C), C a built-in type -/
def rIsT (K : PySem.W.Frag) : List V → Hp → VK → Prop := fun xs H Q => ∃ x c t b, xs = [x, .ty c] ∧ TyOf K H x t ∧ PySem.W.kitOne K t (.type c) = some b ∧ Q (.bl b) H
theorem call_isT {X : Cx} : CallR X (.builtin "isinstance") (rIsT X.K) := by
  intro pins s σ H xs us Q I r h
  obtain ⟨x, c, t, b, rfl, ty, e, q⟩ := h
  obtain ⟨u, w', rfl, rx, rc⟩ := vals2 r
  cases rc
  exact isinst_ok I rx ty e fun tk => ⟨.bl b, H, I.tok _, rfl, q⟩
/-- isinstance(x, (C, ..)) -/
def rIsTs (K : PySem.W.Frag) : List V → Hp → VK → Prop := fun xs H Q => ∃ (x : V) (p : Addr) (cs : List String) (t : Value) (b : Bool), xs = [x, .ref p] ∧ H p = some (.tup (cs.map V.ty)) ∧ TyOf K H x t ∧ PySem.W.kitAny K t (cs.map Value.type) = some b ∧ Q (.bl b) H
theorem vals_ty : ∀ {cs : List String} {us : List Value}, Vals (cs.map V.ty) us → us = cs.map Value.type
  | [], _, .nil => rfl
  | _ :: _, _, .cons r t => by
    cases r
    rw [vals_ty t]; rfl
theorem call_isTs {X : Cx} : CallR X (.builtin "isinstance") (rIsTs X.K) := by
  intro pins s σ H xs us Q I r h
  obtain ⟨x, p, cs, t, b, rfl, hp, ty, e, q⟩ := h
  obtain ⟨u, w', rfl, rx, rc⟩ := vals2 r
  cases rc
  obtain ⟨_, its, rv, ⟨o, ho, hc, n, hd⟩⟩ := (show ObjOk X.prog X.w H s.heap p (.tup (cs.map V.ty)) from I.hok p _ hp)
  obtain ⟨oc, od, odt, osl⟩ := o
  have hc' : oc = .type "tuple" := hc
  have hd' : odt = .seq its.toArray n := hd
  subst hc' hd'
  have ei := vals_ty rv
  subst ei
  have fin : ∀ tk, EP X pins σ Q (.bool b) { s with toks := tk } := fun tk => ⟨.bl b, H, I.tok _, rfl, q⟩
  cases ty with
  | non => cases (show u = Value.none from rx); exact PySem.W.kia_tup PySem.W.kitx_none I.kIn True.intro ho e (fun z => nomatch z) fin
  | bl y => cases (show u = Value.bool y from rx); exact PySem.W.kia_tup PySem.W.kitx_bool I.kIn True.intro ho e (fun z => nomatch z) fin
  | int i => obtain ⟨t, q⟩ := (show ∃ t, u = Value.int i t from rx); cases q; exact PySem.W.kia_tup PySem.W.kitx_int I.kIn True.intro ho e (fun z => nomatch z) fin
  | str y => obtain ⟨t, q⟩ := (show ∃ t, u = Value.str y t from rx); cases q; exact PySem.W.kia_tup PySem.W.kitx_str I.kIn True.intro ho e (fun z => nomatch z) fin
  | flt y => obtain ⟨t, q⟩ := (show ∃ t, u = Value.float y t from rx); cases q; exact PySem.W.kia_tup PySem.W.kitx_float I.kIn True.intro ho e (fun z => nomatch z) fin
  | @lst a xs ea =>
    cases (show u = Value.ref a from rx)
    obtain ⟨_, _, n, _, h1⟩ := (show ObjOk X.prog X.w H s.heap a (.lst xs) from I.hok a _ ea)
    exact PySem.W.kia_tup PySem.W.kitx_list I.kIn ⟨_, h1, rfl⟩ ho e (fun z => nomatch z) fin
  | @frz a ob xs ea =>
    cases (show u = Value.ref a from rx)
    obtain ⟨_, _, _, n, _, h1⟩ := (show ObjOk X.prog X.w H s.heap a (.frz ob (.lst xs)) from I.hok a _ ea)
    exact PySem.W.kia_tup PySem.W.kitx_list I.kIn ⟨_, h1, rfl⟩ ho e (fun z => nomatch z) fin
  | @tup a xs ea =>
    cases (show u = Value.ref a from rx)
    obtain ⟨_, _, _, pt⟩ := (show ObjOk X.prog X.w H s.heap a (.tup xs) from I.hok a _ ea)
    obtain ⟨o, h1, h2, _⟩ := pt
    exact PySem.W.kia_tup PySem.W.kitx_tuple I.kIn ⟨o, h1, h2⟩ ho e (fun z => nomatch z) fin
  | @dK a kvs ea =>
    cases (show u = Value.ref a from rx)
    obtain ⟨_, _, vs, _, pt⟩ := (show ObjOk X.prog X.w H s.heap a (.dK kvs) from I.hok a _ ea)
    obtain ⟨o, es, ep, h1, h2, _⟩ := pt
    exact PySem.W.kia_tup PySem.W.kitx_dict I.kIn ⟨o, h1, h2.1⟩ ho e (fun z => nomatch z) fin
  | @dT a kvs ea =>
    cases (show u = Value.ref a from rx)
    obtain ⟨_, _, xs, _, o, es, ep, h1, h2, _⟩ := (show ObjOk X.prog X.w H s.heap a (.dT kvs) from I.hok a _ ea)
    exact PySem.W.kia_tup PySem.W.kitx_dict I.kIn ⟨o, h1, h2.1⟩ ho e (fun z => nomatch z) fin
  | @ins a C dx fs ea cl ha hn htk hm =>
    cases (show u = Value.ref a from rx)
    obtain ⟨mA, O, _⟩ := ins_get I.hok ea
    obtain ⟨od, J, _⟩ := O.look
    exact PySem.W.kia_tup (PySem.W.kitx_own (cl.get _) cl.hd ha hn htk hm) I.kIn J ho e (fun z => nomatch z) fin
theorem is_ll (K : PySem.W.Frag) : PySem.W.kitOne K (.type "list") (.type "list") = some true := by kernel_rfl
theorem is_lt (K : PySem.W.Frag) : PySem.W.kitOne K (.type "list") (.type "tuple") = some false := by kernel_rfl
theorem is_tl (K : PySem.W.Frag) : PySem.W.kitOne K (.type "tuple") (.type "list") = some false := by kernel_rfl
theorem is_tt (K : PySem.W.Frag) : PySem.W.kitOne K (.type "tuple") (.type "tuple") = some true := by kernel_rfl
theorem is_ii (K : PySem.W.Frag) : PySem.W.kitOne K (.type "int") (.type "int") = some true := by kernel_rfl
theorem is_ib (K : PySem.W.Frag) : PySem.W.kitOne K (.type "int") (.type "bool") = some false := by kernel_rfl
theorem is_l_lt (K : PySem.W.Frag) : PySem.W.kitAny K (.type "list") [.type "list", .type "tuple"] = some true := by kernel_rfl
theorem is_t_lt (K : PySem.W.Frag) : PySem.W.kitAny K (.type "tuple") [.type "list", .type "tuple"] = some true := by kernel_rfl
theorem is_i_lt (K : PySem.W.Frag) : PySem.W.kitAny K (.type "int") [.type "list", .type "tuple"] = some false := by kernel_rfl
theorem is_n_lt (K : PySem.W.Frag) : PySem.W.kitAny K (.type "NoneType") [.type "list", .type "tuple"] = some false := by kernel_rfl
end L2
namespace L2
open PySem PySem.Spec PyProof.Rows

/-! ### data -/
inductive D where
  | non | int (i : Int) | lst (xs : List D) | tup (xs : List D)
mutual
def D.size : D → Nat
  | .non => 1
  | .int _ => 1
  | .lst ds => 1 + D.sizes ds
  | .tup ds => 1 + D.sizes ds
def D.sizes : List D → Nat
  | [] => 0
  | d :: ds => d.size + D.sizes ds
end
theorem D.size_pos (d : D) : 0 < d.size := by cases d <;> simp [D.size] <;> omega
theorem D.length_le : ∀ ds : List D, ds.length ≤ D.sizes ds
  | [] => Nat.le_refl _
  | d :: ds => by
    have := D.size_pos d
    have := D.length_le ds
    simp only [D.sizes, List.length_cons]
    omega
theorem D.sizes_append : ∀ a b : List D, D.sizes (a ++ b) = D.sizes a + D.sizes b
  | [], b => by simp [D.sizes]
  | d :: a, b => by simp only [List.cons_append, D.sizes, D.sizes_append a b]; omega
mutual
/-- the heap bears d at v, its lists at addresses of P -/
def Rep (P : Addr → Prop) (H : Hp) : D → V → Prop
  | .non, v => v = .non
  | .int i, v => v = .int i
  | .lst ds, v => ∃ a xs, v = .ref a ∧ P a ∧ H a = some (.lst xs) ∧ RepL P H ds xs
  | .tup ds, v => ∃ a xs, v = .ref a ∧ H a = some (.tup xs) ∧ RepL P H ds xs
def RepL (P : Addr → Prop) (H : Hp) : List D → List V → Prop
  | [], xs => xs = []
  | d :: ds, xs => ∃ x r, xs = x :: r ∧ Rep P H d x ∧ RepL P H ds r
end
mutual
theorem Rep.move {P P' : Addr → Prop} {H H' : Hp} (hP : ∀ a, P a → P' a) (hl : ∀ a xs, P a → H a = some (.lst xs) → H' a = some (.lst xs)) (ht : ∀ a xs, H a = some (.tup xs) → H' a = some (.tup xs)) : ∀ {d : D} {v : V}, Rep P H d v → Rep P' H' d v
  | .non, _, r => by simpa [Rep] using r
  | .int _, _, r => by simpa [Rep] using r
  | .lst ds, v, r => by
    simp only [Rep] at r ⊢
    obtain ⟨a, xs, e, hp, ha, q⟩ := r
    exact ⟨a, xs, e, hP a hp, hl _ _ hp ha, RepL.move hP hl ht q⟩
  | .tup ds, v, r => by
    simp only [Rep] at r ⊢
    obtain ⟨a, xs, e, ha, q⟩ := r
    exact ⟨a, xs, e, ht _ _ ha, RepL.move hP hl ht q⟩
theorem RepL.move {P P' : Addr → Prop} {H H' : Hp} (hP : ∀ a, P a → P' a) (hl : ∀ a xs, P a → H a = some (.lst xs) → H' a = some (.lst xs)) (ht : ∀ a xs, H a = some (.tup xs) → H' a = some (.tup xs)) : ∀ {ds : List D} {xs : List V}, RepL P H ds xs → RepL P' H' ds xs
  | [], _, r => by simpa [RepL] using r
  | d :: ds, xs, r => by
    simp only [RepL] at r ⊢
    obtain ⟨x, t, e, h1, h2⟩ := r
    exact ⟨x, t, e, Rep.move hP hl ht h1, RepL.move hP hl ht h2⟩
end
section
variable {P P' : Addr → Prop} {H H' : Hp}
theorem Rep.mono {d : D} {v : V} (h : Same H H') (r : Rep P H d v) : Rep P H' d v := r.move (fun _ p => p) (fun a xs _ e => h a _ e) fun a xs e => h a _ e
theorem RepL.mono {ds : List D} {xs : List V} (h : Same H H') (r : RepL P H ds xs) : RepL P H' ds xs := r.move (fun _ p => p) (fun a xs _ e => h a _ e) fun a xs e => h a _ e
theorem Rep.weak {d : D} {v : V} (hP : ∀ a, P a → P' a) (r : Rep P H d v) : Rep P' H d v := r.move hP (fun _ _ _ e => e) fun _ _ e => e
theorem RepL.weak {ds : List D} {xs : List V} (hP : ∀ a, P a → P' a) (r : RepL P H ds xs) : RepL P' H ds xs := r.move hP (fun _ _ _ e => e) fun _ _ e => e
/-- a list that is none of its own is written -/
theorem Rep.write {d : D} {v : V} {p : Addr} {ys : List V} {o : HO} (hp : ¬ P p) (e : H p = some (.lst ys)) (r : Rep P H d v) : Rep P (upd H p o) d v :=
  r.move (fun _ z => z) (fun a xs pa ea => by rw [upd_ne (fun z : a = p => hp (z ▸ pa))]; exact ea) fun a xs ea => by rw [upd_ne (ne_of ea e (by simp))]; exact ea
theorem RepL.write {ds : List D} {xs : List V} {p : Addr} {ys : List V} {o : HO} (hp : ¬ P p) (e : H p = some (.lst ys)) (r : RepL P H ds xs) : RepL P (upd H p o) ds xs :=
  r.move (fun _ z => z) (fun a xs pa ea => by rw [upd_ne (fun z : a = p => hp (z ▸ pa))]; exact ea) fun a xs ea => by rw [upd_ne (ne_of ea e (by simp))]; exact ea
theorem Rep.lstI {a : Addr} {xs : List V} {ds : List D} (p : P a) (h : H a = some (.lst xs)) (r : RepL P H ds xs) : Rep P H (.lst ds) (.ref a) := by
  simp only [Rep]; exact ⟨a, xs, rfl, p, h, r⟩
theorem Rep.tupI {a : Addr} {xs : List V} {ds : List D} (h : H a = some (.tup xs)) (r : RepL P H ds xs) : Rep P H (.tup ds) (.ref a) := by
  simp only [Rep]; exact ⟨a, xs, rfl, h, r⟩
theorem Rep.intI (i : Int) : Rep P H (.int i) (.int i) := by simp [Rep]
theorem Rep.lstE {v : V} {ds : List D} (r : Rep P H (.lst ds) v) : ∃ a xs, v = .ref a ∧ P a ∧ H a = some (.lst xs) ∧ RepL P H ds xs := by simpa only [Rep] using r
theorem Rep.tupE {v : V} {ds : List D} (r : Rep P H (.tup ds) v) : ∃ a xs, v = .ref a ∧ H a = some (.tup xs) ∧ RepL P H ds xs := by simpa only [Rep] using r
theorem Rep.intE {v : V} {i : Int} (r : Rep P H (.int i) v) : v = .int i := by simpa only [Rep] using r
theorem Rep.nonE {v : V} (r : Rep P H .non v) : v = .non := by simpa only [Rep] using r
theorem RepL.nilI : RepL P H [] [] := by simp [RepL]
theorem RepL.consI {d : D} {ds : List D} {x : V} {xs : List V} (h : Rep P H d x) (t : RepL P H ds xs) : RepL P H (d :: ds) (x :: xs) := by
  simp only [RepL]; exact ⟨x, xs, rfl, h, t⟩
theorem RepL.nilE {xs : List V} (r : RepL P H [] xs) : xs = [] := by simpa only [RepL] using r
theorem RepL.consE {d : D} {ds : List D} {xs : List V} (r : RepL P H (d :: ds) xs) : ∃ x t, xs = x :: t ∧ Rep P H d x ∧ RepL P H ds t := by simpa only [RepL] using r
theorem RepL.length : ∀ {ds : List D} {xs : List V}, RepL P H ds xs → xs.length = ds.length
  | [], _, r => by rw [r.nilE]; rfl
  | _ :: _, _, r => by
    obtain ⟨x, t, rfl, _, q⟩ := r.consE
    simp [q.length]
theorem RepL.get : ∀ {ds : List D} {xs : List V} {i : Nat} {d : D}, RepL P H ds xs → ds[i]? = some d → ∃ x, xs[i]? = some x ∧ Rep P H d x
  | [], _, _, _, _, e => by simp at e
  | _ :: _, _, 0, _, r, e => by
    obtain ⟨x, t, rfl, h, q⟩ := r.consE
    simp at e; subst e
    exact ⟨x, rfl, h⟩
  | _ :: _, _, i + 1, d, r, e => by
    obtain ⟨x, t, rfl, h, q⟩ := r.consE
    obtain ⟨y, e1, e2⟩ := q.get (i := i) (d := d) (by simpa using e)
    exact ⟨y, by simpa using e1, e2⟩
theorem RepL.getV {ds : List D} {xs : List V} {i : Nat} {x : V} (r : RepL P H ds xs) (e : xs[i]? = some x) : ∃ d, ds[i]? = some d ∧ Rep P H d x := by
  have hi : i < ds.length := by rw [← r.length]; exact (List.getElem?_eq_some_iff.mp e).1
  obtain ⟨y, e1, e2⟩ := r.get (List.getElem?_eq_getElem hi)
  rw [e] at e1; cases e1
  exact ⟨_, List.getElem?_eq_getElem hi, e2⟩
theorem RepL.append : ∀ {ds es : List D} {xs ys : List V}, RepL P H ds xs → RepL P H es ys → RepL P H (ds ++ es) (xs ++ ys)
  | [], _, _, _, r, q => by rw [r.nilE]; exact q
  | _ :: _, _, _, _, r, q => by
    obtain ⟨x, t, rfl, h, r'⟩ := r.consE
    exact .consI h (r'.append q)
theorem RepL.snoc {ds : List D} {d : D} {xs : List V} {x : V} (r : RepL P H ds xs) (h : Rep P H d x) : RepL P H (ds ++ [d]) (xs ++ [x]) := r.append (.consI h .nilI)
theorem RepL.split : ∀ {ds es : List D} {zs : List V}, RepL P H (ds ++ es) zs → ∃ xs ys, zs = xs ++ ys ∧ RepL P H ds xs ∧ RepL P H es ys
  | [], _, zs, r => ⟨[], zs, rfl, .nilI, r⟩
  | _ :: _, _, _, r => by
    obtain ⟨x, t, rfl, h, q⟩ := RepL.consE r
    obtain ⟨xs, ys, rfl, q1, q2⟩ := q.split
    exact ⟨x :: xs, ys, rfl, .consI h q1, q2⟩
theorem RepL.reverse : ∀ {ds : List D} {xs : List V}, RepL P H ds xs → RepL P H ds.reverse xs.reverse
  | [], _, r => by rw [r.nilE]; exact .nilI
  | _ :: _, _, r => by
    obtain ⟨x, t, rfl, h, q⟩ := r.consE
    rw [List.reverse_cons, List.reverse_cons]
    exact q.reverse.snoc h
theorem RepL.ints : ∀ (ns : List Int), RepL P H (ns.map D.int) (ns.map V.int)
  | [] => .nilI
  | n :: ns => .consI (.intI n) (.ints ns)
theorem RepL.take : ∀ (n : Nat) {ds : List D} {xs : List V}, RepL P H ds xs → RepL P H (ds.take n) (xs.take n)
  | 0, _, _, _ => by simpa using RepL.nilI
  | _ + 1, [], _, r => by rw [r.nilE]; simpa using RepL.nilI
  | n + 1, _ :: _, _, r => by
    obtain ⟨x, t, rfl, h, q⟩ := r.consE
    exact .consI h (RepL.take n q)
theorem RepL.drop : ∀ (n : Nat) {ds : List D} {xs : List V}, RepL P H ds xs → RepL P H (ds.drop n) (xs.drop n)
  | 0, _, _, r => r
  | _ + 1, [], _, r => by rw [r.nilE]; simpa using RepL.nilI
  | n + 1, _ :: _, _, r => by
    obtain ⟨x, t, rfl, h, q⟩ := r.consE
    exact RepL.drop n q
end
/-- addresses that a heap does not know; any address -/
def New (H : Hp) : Addr → Prop := fun a => H a = none
def Al : Addr → Prop := fun _ => True
theorem New.ne {H : Hp} {a b : Addr} {o : HO} (h : New H a) (e : H b = some o) : a ≠ b := fun z => by subst z; rw [show H a = none from h] at e; cases e
theorem New.back {H H' : Hp} (g : Same H H') : ∀ a, New H' a → New H a := fun _ h => g.free h
/-- a fresh object laid on -/
theorem Same.new {H : Hp} {p : Addr} (h : H p = none) (o : HO) : Same H (upd H p o) := fun b u q => by rw [upd_ne (ne_of_none q h)]; exact q
/-- an object that the old heap does not know is written -/
theorem Same.upd {H H' : Hp} {p : Addr} {o : HO} (g : Same H H') (h : H p = none) : Same H (upd H' p o) := fun b u q => by rw [upd_ne (ne_of_none q h)]; exact g b u q
theorem small {n : Nat} (h : n ≤ 1000000) : n ≤ sizeLine := Nat.le_trans h (by rw [sizeLine_eq]; decide)
theorem smaller {n : Nat} (h : n ≤ 1000000) : n < sizeLine := Nat.lt_of_le_of_lt h (by rw [sizeLine_eq]; decide)

/-! ### what a def is, what a call promises -/
structure Blt (mg : Str → Option Value) : Prop where
  len : mg "len" = none
  range : mg "range" = none
  int : mg "int" = none
  lst : mg "list" = none
  tuple : mg "tuple" = none
  bool : mg "bool" = none
  str : mg "str" = none
  isinstance : mg "isinstance" = none
  reversed : mg "reversed" = none
  enumerate : mg "enumerate" = none
  all : mg "all" = none
  min : mg "min" = none
theorem bt_len : bootBuiltins "len" = some (.builtin "len") := by decide +kernel
theorem bt_isinstance : bootBuiltins "isinstance" = some (.builtin "isinstance") := by decide +kernel
theorem bt_int : bootBuiltins "int" = some (.type "int") := by decide +kernel
theorem bt_list : bootBuiltins "list" = some (.type "list") := by decide +kernel
theorem bt_tuple : bootBuiltins "tuple" = some (.type "tuple") := by decide +kernel
theorem bt_bool : bootBuiltins "bool" = some (.type "bool") := by decide +kernel
theorem bt_str : bootBuiltins "str" = some (.type "str") := by decide +kernel
/-- a def of the text's top, at its name -/
structure DefOk (K : PySem.W.Frag) (mg : Str → Option Value) (x : Str) (st : Stmt) (ps : List Str) : Prop where
  ex : ∃ f fd, Fun K x x st f fd ∧ Binds K fd ps [] ∧ mg x = some (.ref f)
/-- what may be called by a name -/
structure Cal (P : Program) (w : World) (K : PySem.W.Frag) (mg : Str → Option Value) (base : Heap) (k : Nat) (x : Str) (ps : List Str) (sp : Sp) : Prop where
  ex : ∃ f fd, FnOk P w K mg base CX0 k f fd ps sp ∧ Binds K fd ps [] ∧ PySem.W.keepIn K (.ref f) = true ∧ mg x = some (.ref f) ∧ ∃ oc od osl, K.lookup f = some ⟨oc, od, .func fd, osl⟩
section
variable {P : Program} {w : World} {K : PySem.W.Frag} {mg : Str → Option Value} {base : Heap} {k j : Nat} {x : Str} {ps N : List Str} {sp : Sp} {st : Stmt}
theorem Cal.mono (c : Cal P w K mg base j x ps sp) (h : j ≤ k) : Cal P w K mg base k x ps sp :=
  let ⟨f, fd, F, b, kp, m, lk⟩ := c.ex
  ⟨f, fd, F.mono h, b, kp, m, lk⟩
theorem DefOk.cal (d : DefOk K mg x st ps) (S : FnScope N ps (defScope st)) (len : ∀ vs H Q E, sp vs H Q E → vs.length = ps.length)
    (hbody : ∀ (f : Addr) (cdv : Value) (A : Around) (outer : List Env) (s : Shared) (H : Hp) (vs : List V) (Q : VK) (E : XK), Room k (A.deeper (envOfC x (defScope st) s.heap.objs.size f cdv)) → sp vs H Q E →
      ∃ t, PSs (cxOf CX0 P w K mg base N x (defScope st) f cdv A outer s H E).nox (defBody st) t ∧ t { nx := fun _ H' => Q .non H', rt := Q } (start N vs) H) : Cal P w K mg base (k + 1) x ps sp := by
  obtain ⟨f, fd, F, b, m⟩ := d.ex
  obtain ⟨oc, od, _, _, _, _, _, _, osl, _, lk, _⟩ := id F.ex
  exact ⟨f, fd, F.ok S len fun cdv A outer s H vs Q E hr hs => hbody f cdv A outer s H vs Q E hr hs, b, F.kp, m, oc, od, osl, lk⟩
end
theorem pe_callC {X : Cx} {k : Nat} {x : Str} {ps : List Str} {sp : Sp} {p pos : Pos} {e : Expr} {es : List Expr} {t : TA} (c : Cal X.prog X.w X.K X.mg X.base k x ps sp) (hr : Room k X.A) (hg : Gl X x) (ha : PA X (e :: es) t)
    (hdb : (x == ("__debug__" : Str)) = false := by decide) (he : starEach (e :: es) X.env = (false, eval e X.env) :: starEach es X.env := by rfl) (hpl : (backTo pos (starEach es X.env)).any (·.1) = false := by rfl) :
    PE X (.Call (.Name x p) (e :: es) [] pos) (tCall sp [] E0 t) := by
  obtain ⟨f, fd, F, b, kp, m, _⟩ := c.ex
  exact pe_call F hr hg m kp b .nil pass0 ha hdb he hpl

/-! ### the rules with the written part as a letter (within a comprehension the context hangs on the turn) -/
section
variable {X : Cx} {K : PySem.W.Frag} {pos : Pos}
theorem ix_listK (hK : X.K = K) : IxR X (rIxL K) := by subst hK; exact ix_list
theorem ix_tupK (hK : X.K = K) : IxR X (rIxT K) := by subst hK; exact ix_tup
def rLen (K : PySem.W.Frag) : List V → Hp → VK → Prop := fun xs H Q => ∃ p ys, xs = [.ref p] ∧ (SqL K H p ys ∨ SqT K H p ys) ∧ Q (.int ys.length) H
theorem call_lenK (hK : X.K = K) : CallR X (.builtin "len") (rLen K) := by subst hK; exact call_len_seq
def rListOf (K : PySem.W.Frag) : List V → Hp → VK → Prop := fun xs H Q => ∃ p ys, xs = [.ref p] ∧ (SqL K H p ys ∨ SqT K H p ys) ∧ ∀ l, H l = none → Q (.ref l) (upd H l (.lst ys))
theorem call_isTK (hK : X.K = K) : CallR X (.builtin "isinstance") (rIsT K) := by subst hK; exact call_isT
theorem call_isTsK (hK : X.K = K) : CallR X (.builtin "isinstance") (rIsTs K) := by subst hK; exact call_isTs
theorem op_eqNilK (hK : X.K = K) (hu : X.A.units < cLine) : OpR X (compareOp .Eq) (rNil K false) := by subst hK; exact op_eqNil hu
theorem op_neNilK (hK : X.K = K) (hu : X.A.units < cLine) : OpR X (compareOp .NotEq) (rNil K true) := by subst hK; exact op_neNil hu
theorem pg_tupK {es : List Expr} {k : Nat} {t : TGs} {n : Nat} (hK : X.K = K) (hc : X.calm = true) (h : PGs X es t)
    (hn : (assignEach es X.env).length = n := by rfl) (hst : (assignEach es X.env).findIdx? (·.1) = none := by rfl) : PG X (.Tuple es k pos) (gTup K n t) := by subst hK; exact pg_tup hc h hn hst
theorem pi_listK {tg l : Expr} {tl : TE} (hK : X.K = K) (hl : PE X l tl) : PI X tg l (iList K tl) := by subst hK; exact pi_list hl
theorem pi_tupK {tg l : Expr} {tl : TE} (hK : X.K = K) (hl : PE X l tl) : PI X tg l (iTup K tl) := by subst hK; exact pi_tup hl
theorem sl_listK (hK : X.K = K) : SlR X (rSlL K) := by subst hK; exact sl_list
def tRevSl (K : PySem.W.Frag) (te ts : TE) : TE := fun σ H Q => te σ H fun x H1 => ts σ H1 fun y H2 => y = .int (-1) ∧ rRevL K x H2 Q
theorem pe_bm0K {o : Expr} {to : TE} {name : Str} {apos cpos : Pos} {T id : String} {r : V → List V → Hp → VK → Prop} (hK : X.K = K) (pa : PlainAttrs T) (slot : Slot T name id) (hty : typeOf (.builtin id) = pure (.type "method_descriptor")) (hm : MtR X id r) (ho : PE X o to)
    (hbase : attributeBase o name X.env (eval o X.env) = eval o X.env := by rfl) (hline : (apos.endLine == cpos.line) = true := by rfl) : PE X (.Call (.Attribute o name apos) [] [] cpos) (tBM0 K T r to) := by
  subst hK; exact pe_bm0 pa slot hty hm ho hbase hline
theorem pe_bmK {o e : Expr} {es : List Expr} {to : TE} {t : TA} {name : Str} {apos cpos : Pos} {T id : String} {r : V → List V → Hp → VK → Prop} (hK : X.K = K) (pa : PlainAttrs T) (slot : Slot T name id) (hty : typeOf (.builtin id) = pure (.type "method_descriptor")) (hm : MtR X id r) (ho : PE X o to) (ha : PA X (e :: es) t)
    (hbase : attributeBase o name X.env (eval o X.env) = eval o X.env := by rfl)
    (hfew : ((backTo cpos (starEach (e :: es) X.env)).all (fun x => !x.1) && (backToKw cpos (keywordEach [] X.env)).all (fun x => x.1.isSome)
      && decide ((e :: es).length + ([] : List Keyword).length + (if ([] : List Keyword).isEmpty then 0 else 1) < 30)) = true := by rfl)
    (hline : (apos.endLine == cpos.line) = true := by rfl) (hs : starEach (e :: es) X.env = (false, eval e X.env) :: starEach es X.env := by rfl) (hplain : (backTo cpos (starEach es X.env)).any (·.1) = false := by rfl) :
    PE X (.Call (.Attribute o name apos) (e :: es) [] cpos) (tBM K T r to t) := by
  subst hK; exact pe_bm pa slot hty hm ho ha hbase hfew hline hs hplain
def tTruth (K : PySem.W.Frag) (ta : TE) : TT := fun σ H Q => ta σ H fun x H' => ∃ k, TruV K x H' k ∧ Q k H'
end
/-! ### a cut between two statements -/
def tCut (t u : TS) : TS := fun D σ H => ∃ N : St → Hp → Prop, t { D with nx := N } σ H ∧ ∀ σ' H', N σ' H' → u D σ' H'
theorem pss_cut {X : Cx} {st : Stmt} {rest : List Stmt} {t u : TS} (h1 : PS X st t) (h2 : PSs X rest u) : PSs X (st :: rest) (tCut t u) := by
  intro pins s σ H D I ⟨N, h, hN⟩
  refine wpAny_execs_cons (thn (h1 pins s σ H { D with nx := N } I h) fun f s1 q => ?_)
  cases f with
  | next =>
    obtain ⟨σ', H', I', q⟩ := q
    exact h2 pins s1 σ' H' D I' (hN σ' H' q)
  | ret v => exact q
  | brk => exact q
  | cont => exact q

/-- a test, and what is known behind it -/
def tMid (t : TT) : TT := fun σ H Q => ∃ N : Bool → Hp → Prop, t σ H N ∧ ∀ b H', N b H' → Q b H'
theorem pt_mid {X : Cx} {c : Expr} {t : TT} (h : PT X c t) : PT X c (tMid t) := by
  intro pins s σ H Q I ⟨N, h1, h2⟩
  exact thn (h pins s σ H N I h1) fun b s' ⟨H', I', q⟩ => ⟨H', I', h2 b H' q⟩

/-! ### a comprehension without tests, item by item -/
theorem lc_map {J : It} {own : Nat} {fr : List Nat} {σ : St} {g : TG} {te : TE} {H1 : Hp} {Q : VK} (Pr : Addr → Prop) (es : List D) (hsz : es.length ≤ 1000000)
    (hstop : ∀ H, Same H1 H → J.stop es.length H) (hgo : ∀ i H, i < es.length → Same H1 H → J.go i H)
    (turn : ∀ (D : Addr) (i : Nat) (H : Hp) (x : V) (H' : Hp) (d : L2.D) (R : V → Hp → Prop), es[i]? = some d → Same H1 H → H1 D = none → (∃ ys, H D = some (.lst ys)) → J.yld i H x H' →
      (∀ y H4, Same H H4 → Rep (fun a => a ≠ D ∧ Pr a) H4 d y → R y H4) → g x (stLC own fr σ) H' fun σ2 H2 => Kp (stLC own fr σ) σ2 ∧ te σ2 H2 R)
    (fin : ∀ (D : Addr) (H : Hp), Same H1 H → H1 D = none → ∀ ys, H D = some (.lst ys) → RepL (fun a => a ≠ D ∧ Pr a) H es ys → Q (.ref D) H) :
    tLCk own fr g tYes te σ Q J H1 := by
  intro D hD
  refine ⟨fun i m H => m = es.length - i ∧ i ≤ es.length ∧ Same H1 H ∧ ∃ ys, H D = some (.lst ys) ∧ RepL (fun a => a ≠ D ∧ Pr a) H (es.take i) ys, ⟨_, rfl, Nat.zero_le _, Same.new hD _, [], upd_same, ?_⟩, ?_⟩
  · simpa using RepL.nilI
  rintro i m H ⟨rfl, hi, hS, ys, hys, hr⟩
  by_cases hlt : i < es.length
  · refine .inr ⟨hgo i H hlt hS, fun x H' hy => ?_⟩
    obtain ⟨d, hd⟩ : ∃ d, es[i]? = some d := ⟨_, List.getElem?_eq_getElem hlt⟩
    refine turn D i H x H' d _ hd hS hD ⟨ys, hys⟩ hy fun y H4 h4 r4 => ?_
    have e4 : H4 D = some (.lst ys) := h4 _ _ hys
    have hl : ys.length = i := by rw [hr.length, List.length_take]; omega
    refine ⟨ys, e4, smaller (by omega), es.length - (i + 1), by omega, rfl, hlt, (hS.trans h4).upd hD, ys ++ [y], upd_same, ?_⟩
    have hr4 : RepL (fun a => a ≠ D ∧ Pr a) H4 (es.take i ++ [d]) (ys ++ [y]) := (hr.mono h4).snoc r4
    have et : es.take (i + 1) = es.take i ++ [d] := by rw [List.take_add_one, hd]; rfl
    rw [et]
    exact hr4.write (fun z => z.1 rfl) e4
  · have e : i = es.length := by omega
    subst e
    rw [List.take_length] at hr
    exact .inl ⟨hstop H hS, fin D H hS hD ys hys hr⟩
end L2
namespace L2
open PySem PySem.Spec PyProof.Rows
section
variable {X : Cx} {a b c d : Expr} {ta tb tc td : TE} {pos : Pos}
/-- a op1 b op2 c op3 d -/
def tChain3 (r r' r'' : R2) (ta tb tc td : TE) : TE := fun σ H Q => ta σ H fun x H1 => tb σ H1 fun y H2 => r x y H2 fun z H3 => ∃ k, z = .bl k ∧
  (if k = true then tc σ H3 fun u H4 => r' y u H4 fun z' H5 => ∃ k', z' = .bl k' ∧ (if k' = true then td σ H5 fun v H6 => r'' u v H6 Q else Q (.bl false) H5) else Q (.bl false) H3)
end
end L2
namespace L2
open PySem PySem.Spec PyProof.Rows

/-! ### errors of the text's own: raised, passed on, caught -/
abbrev bmV : List Value := [.type "ValueError", .type "Exception", .type "BaseException", .type "object"]
/-- an own error class under ValueError, in whatever many steps -/
abbrev IsErr (K : PySem.W.Frag) (C : Addr) : Prop := PySem.W.excIn K C bmV "ValueError.__new__" = true
theorem err_obj {K : PySem.W.Frag} {h : Heap} {C : Addr} (X : K.In h) (q : IsErr K C) : ∃ bm N nm qn bs hdct sn sub ab col dd k0 k1 k2 k3 k5 mN,
    h.get? C = some (excClassObj nm qn C N bs bm hdct sn sub ab col dd k0 k1 k2 k3 k5 "ValueError.__new__") ∧ h.Ns N mN ∧ mN "__init__" = none ∧ OwnTail h bmV bm := by
  unfold IsErr PySem.W.excIn at q
  split at q
  · rename_i dd cd sl ho
    split at q
    · rename_i C' bm k0 k1 k2 k3 n k5 hm hs
      simp only [Bool.and_eq_true, beq_iff_eq,
        Bool.not_eq_true'] at q
      obtain ⟨⟨⟨⟨⟨e1, e2⟩, e3⟩, e4⟩, e5⟩, e6⟩ := q
      subst e1 e2
      obtain ⟨nm, bs, mro, ns, qn, hd, sn, sub, ab, col, del⟩ := cd
      dsimp only at hm e3 e5 e6
      subst hm e3
      have e7 : sl = #[k0, k1, k2, k3, some (.builtin "ValueError.__new__"), k5] := by
        cases sl
        exact congrArg Array.mk hs
      subst e7
      exact ⟨bm, ns, nm, qn, bs, hd, sn, sub, ab, col, dd, k0, k1, k2, k3, k5, _, X _ _ ho,
        .of_isNs (PySem.W.isNs_of_in X e5), PySem.W.nsMap_none_of_in X e5 e6, PySem.W.tail_of_in X e4⟩
    · cases q
  · cases q

theorem ObjOk.there {P : Program} {w : World} {H : Hp} {h : Heap} {a : Addr} {o : HO} (x : ObjOk P w H h a o) : ∃ u, h.get? a = some u := by
  cases o with
  | lst xs => obtain ⟨_, _, _, _, e⟩ := x; exact ⟨_, e⟩
  | tup xs => obtain ⟨_, _, _, ob, e, _⟩ := x; exact ⟨_, e⟩
  | dK kvs => obtain ⟨_, _, _, _, o, _, _, e, _⟩ := x; exact ⟨_, e⟩
  | dT kvs => obtain ⟨_, _, _, _, o, _, _, e, _⟩ := x; exact ⟨_, e⟩
  | set S n => obtain ⟨o, _, _, _, e, _⟩ := x; exact ⟨_, e⟩
  | ins C dx fs => obtain ⟨_, _, _, e, _⟩ := x; exact ⟨_, e⟩
  | own y => exact x
  | xd fs => obtain ⟨_, ⟨_, _, _, e, _⟩, _⟩ := x; exact ⟨_, e⟩
  | rng lo hi => obtain ⟨_, _, _, e⟩ := x; exact ⟨_, e⟩
  | frz ob u => obtain ⟨e, _⟩ := x; exact ⟨_, e⟩
  | tbl ps => exact ⟨_, (show h.get? a = some _ from x)⟩
  | met f y => exact ⟨_, (show h.get? a = some _ from x)⟩
  | ext φ => obtain ⟨_, e, _⟩ := x; exact e
/-- how an own error lies behind a call: B is the heap where it was raised, without the frames; all of B stands as it stood -/
def CX1 (P : Program) (w : World) : CXT := fun outer H s E e s' => ∃ (ea C : Addr) (a0 : Value) (B : Heap) (H' : Hp), e = .ref ea ∧ s'.os = s.os ∧ AllBare s'.gens ∧ Un (frs outer) [] H H' s.heap s'.heap ∧ HOk P w H' B ∧
  (∀ b o, s.heap.get? b = some o → H b = none → b ∉ frs outer → B.get? b = some o) ∧ (∀ b o, s.heap.get? b = some o → b ∉ frs outer → ∃ o', B.get? b = some o') ∧
  Heap.FlyingW B outer ea (.ref C) a0 s'.heap ∧ H' ea = none ∧ E (.ref C) none H'

theorem frs_mem {l : List Env} {env : Env} {a : Addr} (he : env ∈ l) (ha : env.frame = some a) : a ∈ frs l := List.mem_filterMap.mpr ⟨env, he, ha⟩
/-- what an error that flies on leaves as it was -/
theorem Un.fly {l : List Env} {H H' : Hp} {h h1 h2 B : Heap} (u : Un (frs l) [] H H' h h1) (hB : ∀ b o, h.get? b = some o → H b = none → b ∉ frs l → B.get? b = some o)
    (tB : ∀ b o, h.get? b = some o → b ∉ frs l → ∃ o', B.get? b = some o') (ff : h1.FunFrames B l) (st : B.StaysIn h2) (up : h1.UpToSlots h2) : Un (frs l) [] H H' h h2 where
  keep := fun b o e n hb _ => st b o (hB b o e n hb)
  slot := fun b o e n hb _ => by
    obtain ⟨sl, e1⟩ := u.slot b o e n hb (by simp)
    obtain ⟨_, o', e2, nf⟩ := ff.mem hb
    rw [e1] at e2
    cases e2
    obtain ⟨sl', e3⟩ := up b _ e1 nf
    exact ⟨sl', e3⟩
  free := fun b o e n _ => u.free b o e n (by simp)
  there := fun b o e _ => by
    by_cases hb : b ∈ frs l
    · obtain ⟨_, o', e2, nf⟩ := ff.mem hb
      obtain ⟨sl', e3⟩ := up b _ e2 nf
      exact ⟨_, e3⟩
    · obtain ⟨o', e1⟩ := tB b o e hb
      exact ⟨o', st b o' e1⟩
  tups := u.tups
  frzs := u.frzs
  tbls := u.tbls
/-- behind a frame that is younger than the heap ahead -/
theorem Un.past {fs fs' : List Addr} {L : Addr} {H H1 H2 : Hp} {h h1 h2 : Heap} (a : Un fs [] H H1 h h1) (b : Un fs' [] H1 H2 h1 h2) (hs : ∀ c ∈ fs', c = L ∨ c ∈ fs) (hs2 : ∀ c ∈ fs, c ∈ fs') (hL : ∀ o, h.get? L ≠ some o) : Un fs [] H H2 h h2 where
  keep := fun c o e n hc _ => b.keep c o (a.keep c o e n hc (by simp)) (a.free c o e n (by simp)) (fun z => (hs c z).elim (fun z' => hL o (z' ▸ e)) hc) (by simp)
  slot := fun c o e n hc _ => by
    obtain ⟨sl, e1⟩ := a.slot c o e n hc (by simp)
    obtain ⟨sl', e2⟩ := b.slot c _ e1 (a.free c o e n (by simp)) (hs2 c hc) (by simp)
    exact ⟨sl', e2⟩
  free := fun c o e n _ => by
    obtain ⟨o', e1⟩ := a.there c o e (by simp)
    exact b.free c o' e1 (a.free c o e n (by simp)) (by simp)
  there := fun c o e _ => by
    obtain ⟨o', e1⟩ := a.there c o e (by simp)
    exact b.there c o' e1 (by simp)
  tups := fun c xs q => b.tups c xs (a.tups c xs q)
  frzs := fun c o u q => b.frzs c o u (a.frzs c o u q)
  tbls := fun c ps q => by
    obtain ⟨m1, e1⟩ := a.tbls c ps q
    obtain ⟨m2, e2⟩ := b.tbls c _ e1
    exact ⟨m1 ++ m2, by rw [e2, Array.append_assoc]⟩

/-- an error that is made here reaches what this body wants of errors -/
def Raises (X : Cx) (E : XK) : Prop := ∀ (pins : List (Addr × Obj)) (σ : St) (H : Hp) (s : Shared) (h' : Heap) (e C : Addr) (vs : List Value), Inv X pins σ H s → Heap.MadeExcOf s.heap h' e (.ref C) vs → E (.ref C) none H → X.xe (.ref e) { s with heap := h' }

def tRaise (C : Addr) (E : XK) (t : TA) : TS := fun _ σ H => t σ H fun vs H1 => vs.length ≤ sizeLine ∧ E (.ref C) none H1
theorem ps_raise {X : Cx} {C : Addr} {x : Str} {np cpos pos : Pos} {e₀ : Expr} {rest : List Expr} {t : TA} {E : XK} (hc : X.calm = true) (hg : Gl X x) (hm : X.mg x = some (.ref C)) (q : IsErr X.K C) (hr : Raises X E) (ha : PA X (e₀ :: rest) t)
    (hdb : (x == ("__debug__" : Str)) = false := by decide) (he : starEach (e₀ :: rest) X.env = (false, eval e₀ X.env) :: starEach rest X.env := by rfl) (hpl : (backTo cpos (starEach rest X.env)).any (·.1) = false := by rfl) :
    PS X (.Raise (some (.Call (.Name x np) (e₀ :: rest) [] cpos)) none pos) (tRaise C E t) := by
  intro pins s σ H D I h
  obtain ⟨bm, N, nm, qn, bs, hdct, sn, sub, ab, col, dd, k0, k1, k2, k3, k5, mN, hC, hN, hni, T⟩ := err_obj I.mod.kin q
  refine wpAny_Raise_call_subT (bm := bm) (mN := mN) (nm := nm) (q := qn) (N := N) (bs := bs) (hdct := hdct) (sn := sn) (sub := sub) (ab := ab) (col := col) (dd := dd) (k0 := k0) (k1 := k1) (k2 := k2) (k3 := k3) (k5 := k5) (C := C) PySem.F.excBase_ValueError (T.hasType (by rfl)) (I.ok.hd hc)
    (by rw [he]; show (false || (backTo cpos (starEach rest X.env)).any (·.1)) = false; rw [hpl]; rfl) hni (ld_glob I hg hm ⟨rfl, ?_⟩ hdb)
  have hA := ha cpos pins s σ H _ I h
  rw [he] at hA ⊢
  refine Calls.evalArgs_plain (thn hA fun us s2 ⟨vs, H2, I2, r2, z, q2⟩ => ?_)
  exact ⟨rfl, by rw [← r2.length]; exact z, I2.bk _ _ hC, hN.keeps I2.bk, T.keeps I2.bk, fun h' e hx => hr pins σ H2 s2 h' e C us I2 hx q2⟩

section
variable {P : Program} {w : World} {K : PySem.W.Frag} {mg : Str → Option Value} {base : Heap} {N : List Str} {qual : Str} {scope : Scope} {f : Addr} {cdv : Value} {A : Around} {outer : List Env} {s : Shared} {H : Hp} {E : XK}
theorem raises_of : Raises (cxOf (CX1 P w) P w K mg base N qual scope f cdv A outer s H E) E := by
  intro pins σ H1 s1 h' e C vs I hx hE
  have hin : ∀ env ∈ envOfC qual scope s.heap.objs.size f cdv :: outer, ∀ a, env.frame = some a → a ∈ frs (envOfC qual scope s.heap.objs.size f cdv :: outer) := fun env he a ha => frs_mem he ha
  have stk : s1.heap.FunFrames base (envOfC qual scope s.heap.objs.size f cdv :: outer) := I.stack
  have notf : ∀ b o, s.heap.get? b = some o → b ∉ frs outer → b ∉ frs (envOfC qual scope s.heap.objs.size f cdv :: outer) := fun b o e hb z => by
    rcases List.mem_cons.mp (I.stkSub b z) with q | q
    · exact absurd (Heap.lt_size e) (by rw [q]; exact Nat.lt_irrefl _)
    · exact hb q
  refine wpAny_leaves_madeW (base := PySem.W.hideAll s1.heap (frs (envOfC qual scope s.heap.objs.size f cdv :: outer))) (h := s1.heap) I.ok.frames rfl (fun b o q => PySem.W.of_hideAll _ q) (PySem.W.funFrames_hide stk hin) hx fun h2 t hfl _ _ hup => ?_
  have inB : ∀ b o, s.heap.get? b = some o → H b = none → b ∉ frs outer → (PySem.W.hideAll s1.heap (frs (envOfC qual scope s.heap.objs.size f cdv :: outer))).get? b = some o := fun b o e n hb =>
    PySem.W.hideAll_get _ (I.base.keep b o e n hb (fun z => absurd (show b ∈ ([] : List Addr) from z) (by simp))) (notf b o e hb)
  have thB : ∀ b o, s.heap.get? b = some o → b ∉ frs outer → ∃ o', (PySem.W.hideAll s1.heap (frs (envOfC qual scope s.heap.objs.size f cdv :: outer))).get? b = some o' := fun b o e hb => by
    obtain ⟨o', e1⟩ := I.base.there b o e (fun z => absurd (show b ∈ ([] : List Addr) from z) (by simp))
    exact ⟨o', PySem.W.hideAll_get _ e1 (notf b o e hb)⟩
  have hokB : HOk P w H1 (PySem.W.hideAll s1.heap (frs (envOfC qual scope s.heap.objs.size f cdv :: outer))) := fun a o ea => by
    refine (I.hok a o ea).stay (fun b u hb e => PySem.W.hideAll_get _ e fun z => ?_) (fun _ q => q) fun _ _ q => q
    have n := I.stkFree b z
    rcases hb with rfl | hb
    · rw [ea] at n; cases n
    · rw [hb] at n; cases n
  have un1 : Un (frs outer) [] H H1 s.heap s1.heap := I.base
  have keeps : s1.heap.UpToSlots h2 := (Heap.UpToSlots.of_keeps hx.keeps).trans hup
  refine ⟨e, C, .ref t, _, H1, rfl, I.os, I.bare, un1.fly inB thB (PySem.W.funFrames_hide stk hin).2.2 hfl.1 keeps, hokB, inB, thB, hfl, ?_, hE⟩
  cases q : H1 e with
  | none => rfl
  | some o =>
    obtain ⟨u, eu⟩ := (I.hok e o q).there
    have z := hx.new
    rw [eu] at z
    cases z
end

/-! ### try .. except R as n -/
/-- within the try: an error that was passed on here -/
def cxTry (X : Cx) (pl : List (Addr × Obj)) (E : XK) : Cx := { X with pn := X.pn ++ pl, xe := fun e s' => ∃ σ' H0 s0, Inv X pl σ' H0 s0 ∧ CX1 X.prog X.w X.stack H0 s0 E e s' }
/-- within the handler -/
def cxHand (X : Cx) (ea : Addr) : Cx := { X with A := X.A.mark (some (.ref ea)), calm := false, xe := fun _ _ => False }
/-- the error object's class -/
def IsA (ea C : Addr) : Heap → Prop := fun h => ∃ o, h.get? ea = some o ∧ o.cls = .ref C
section
variable {X : Cx} {pl pins : List (Addr × Obj)} {σ : St} {H : Hp} {s : Shared} {E : XK} {ea C : Addr}
theorem Inv.toTry (I : Inv X pl σ H s) : Inv (cxTry X pl E) [] σ H s :=
  ⟨⟨I.ok.mod, I.ok.kind, I.ok.glob, I.ok.blt, I.ok.above, I.ok.inj, I.ok.has, I.ok.cab, I.ok.hd, I.ok.frames, I.ok.stk, I.ok.exf, I.ok.bs, I.ok.bsz, I.ok.noex, I.ok.exfs, I.ok.funs, I.ok.frf⟩, I.os, I.bare, I.base, I.loc, I.cell, I.free, I.freeC,
    fun p hp => I.pin p ((List.mem_append.mp hp).elim id fun z => absurd z (by simp)), I.hok, I.len⟩
theorem Inv.ofTry (I : Inv (cxTry X pl E) pins σ H s) : Inv X pl σ H s :=
  ⟨⟨I.ok.mod, I.ok.kind, I.ok.glob, I.ok.blt, I.ok.above, I.ok.inj, I.ok.has, I.ok.cab, I.ok.hd, I.ok.frames, I.ok.stk, I.ok.exf, I.ok.bs, I.ok.bsz, I.ok.noex, I.ok.exfs, I.ok.funs, I.ok.frf⟩, I.os, I.bare, I.base, I.loc, I.cell, I.free, I.freeC,
    fun p hp => I.pin p (List.mem_append_left _ hp), I.hok, I.len⟩
theorem pass_try : Passes (CX1 X.prog X.w) (cxTry X pl E) E := fun _ σ H s _ _ I hx => ⟨σ, H, s, I.ofTry, hx⟩
theorem Inv.toHand (I : Inv X pins σ H s) : Inv (cxHand X ea) pins σ H s :=
  ⟨⟨I.ok.mod, I.ok.kind, I.ok.glob, I.ok.blt, I.ok.above, I.ok.inj, I.ok.has, I.ok.cab, fun z => absurd (show false = true from z) (by decide), I.ok.frames, I.ok.stk, I.ok.exf, I.ok.bs, I.ok.bsz, I.ok.noex, I.ok.exfs, I.ok.funs, I.ok.frf⟩, I.os, I.bare, I.base, I.loc, I.cell, I.free, I.freeC,
    I.pin, I.hok, I.len⟩
theorem Inv.ofHand (ok : X.Ok) (I : Inv (cxHand X ea) pins σ H s) : Inv X pins σ H s :=
  ⟨ok, I.os, I.bare, I.base, I.loc, I.cell, I.free, I.freeC, I.pin, I.hok, I.len⟩
theorem Inv.track (I : Inv X pins σ H s) (hn : H ea = none) (hx : IsA ea C s.heap) (h0 : ∀ o, X.s₀.heap.get? ea ≠ some o) (hL : X.env.locals ≠ ea) (hc : ∀ x c, X.env.cells.lookup x = some c → c ≠ ea) (hp : ∀ p ∈ X.pn ++ pins, p.1 ≠ ea) :
    Inv X pins σ (upd H ea (.ext (IsA ea C))) s := by
  have ne : ∀ b u, H b = some u → b ≠ ea := fun b u e z => by rw [z, hn] at e; cases e
  refine ⟨I.ok, I.os, I.bare, ⟨I.base.keep, I.base.slot, fun b o e n hb => ?_, I.base.there, fun b xs e => ?_, fun b o u e => ?_, fun b ps e => ?_⟩, I.loc, I.cell, ?_, fun x c e => ?_, fun p hq => ?_, fun b u e => ?_, I.len⟩
  · rw [upd_ne (show b ≠ ea from fun z => h0 o (by rw [← z]; exact e))]; exact I.base.free b o e n hb
  · have := I.base.tups b xs e
    rw [upd_ne (ne _ _ this)]; exact this
  · have := I.base.frzs b o u e
    rw [upd_ne (ne _ _ this)]; exact this
  · obtain ⟨m1, this⟩ := I.base.tbls b ps e
    exact ⟨m1, by rw [upd_ne (ne _ _ this)]; exact this⟩
  · rw [upd_ne hL]; exact I.free
  · rw [upd_ne (hc x c e)]; exact I.freeC x c e
  · obtain ⟨e1, e2, e3⟩ := I.pin p hq
    exact ⟨e1, by rw [upd_ne (hp p hq)]; exact e2, e3⟩
  · by_cases hb : b = ea
    · subst hb
      rw [upd_same] at e
      cases e
      obtain ⟨o, ho, hcl⟩ := hx
      exact ⟨⟨o, ho, hcl⟩, ⟨o, ho⟩, fun h1 h2 ⟨o1, e1, c1⟩ k => ⟨o1, k _ e1, c1⟩⟩
    · rw [upd_ne hb] at e
      refine (I.hok b u e).stay (fun _ _ _ q => q) (fun c q => ?_) fun c xs q => ?_
      · rw [upd_ne (ne _ _ q)]; exact q
      · rw [upd_ne (ne _ _ q)]; exact q
/-- behind the handler's suite its name goes -/
theorem goes_ok {M : Model} {A : Around} {W : Value → Shared → Prop} {i : Nat} {x : Str} {pos : Pos} {Q : Unit → Shared → Prop} (I : Inv X pins σ H s) (hN : X.N.Nodup) (hi : X.N[i]? = some x) (hk : X.env.scope.names.lookup x = some .local)
    (h : ∀ s', Inv X pins (σ.set i none) H s' → Q () s') : wpAny M A (do bindName X.env x .none; unbindBehindTheSuite X.env x pos) Q W s := by
  obtain ⟨m, hn, hl⟩ := id I.loc
  have hcls : (X.env.scope.kind == .class || (X.env.scope.kind == .module && X.env.locals != X.env.globals)) = false := by rw [I.ok.kind]; rfl
  have hiσ : i < σ.length := by rw [I.len]; exact (List.getElem?_eq_some_iff.mp hi).1
  have cne := I.cne
  refine wpAny_nameGoes_keeps hk hn hcls fun h' v0 hn' hs => ?_
  have hokH : HOk X.prog X.w H h' := fun b ob e => by
    refine (I.hok b ob e).stay (fun c w' hc q => (hs.2 c ?_).trans q) (fun _ q => q) fun _ _ q => q
    rintro rfl
    rcases hc with rfl | hc
    · rw [I.free] at e; cases e
    · rw [I.free] at hc; cases hc
  refine h _ ⟨I.ok, I.os, I.bare, ⟨fun b o e n hb hx => ?_, fun b o e n hb hx => ?_, I.base.free, fun b o e hx => ?_, I.base.tups, I.base.frzs, I.base.tbls⟩, ⟨_, hn', fun j y v' e1 e2 e3 => ?_⟩, fun y c e => ?_, I.free, I.freeC, fun p hp => ?_, hokH, by simpa using I.len⟩
  · exact (hs.2 b (Nat.ne_of_lt (Nat.lt_of_lt_of_le (Heap.lt_size e) I.ok.above))).trans (I.base.keep b o e n hb hx)
  · obtain ⟨sl, e1⟩ := I.base.slot b o e n hb hx
    exact ⟨sl, (hs.2 b (Nat.ne_of_lt (Nat.lt_of_lt_of_le (Heap.lt_size e) I.ok.above))).trans e1⟩
  · obtain ⟨o', e1⟩ := I.base.there b o e hx
    exact ⟨o', (hs.2 b (Nat.ne_of_lt (Nat.lt_of_lt_of_le (Heap.lt_size e) I.ok.above))).trans e1⟩
  · by_cases hj : j = i
    · subst hj
      rw [List.getElem?_set_self hiσ] at e2
      cases e2
    · rw [List.getElem?_set_ne (Ne.symm hj)] at e2
      obtain ⟨u', r', q⟩ := hl j y v' e1 e2 e3
      refine ⟨u', r', ?_⟩
      rcases q with ⟨k, e⟩ | ⟨k, c, e, z⟩
      · refine .inl ⟨k, ?_⟩
        have : y ≠ x := fun e => hj (nodup_ix hN e1 (e ▸ hi))
        simp [this, e]
      · exact .inr ⟨k, c, e, z.sameBut hs (cne y c e)⟩
  · obtain ⟨w', z⟩ := I.cell y c e
    exact ⟨w', z.sameBut hs (cne y c e)⟩
  · obtain ⟨e, n, ne, nf, d⟩ := I.pin p hp
    exact ⟨(hs.2 p.1 ne).trans e, n, ne, nf, d⟩
end

def tTry (K : PySem.W.Frag) (i : Nat) (E : XK) (R : Addr) (tb th : TS) : TS := fun D σ H => tb D σ H ∧ ∀ (C : Addr) (H' : Hp) (ea : Addr), E (.ref C) none H' → H' ea = none → PySem.W.exmOne K (.ref C) (.ref R) = some true ∧
  th { nx := fun σ2 H2 => D.nx (σ2.set i none) H2, rt := D.rt, bk := fun σ2 H2 => D.bk (σ2.set i none) H2, ct := fun σ2 H2 => D.ct (σ2.set i none) H2 } ((List.replicate σ.length none).set i (some (.ref ea))) (upd H' ea (.ext (IsA ea C)))
theorem ps_try {X : Cx} {E : XK} {R : Addr} {rx n : Str} {i : Nat} {np hpos pos : Pos} {body : List Stmt} {b₀ : Stmt} {hb : List Stmt} {tb th : TS} (hxe : X.ex = []) (hst : X.stack = X.env :: X.outer) (hf : X.env.frame = some X.env.locals) (hN : X.N.Nodup) (hi : X.N[i]? = some n)
    (hx : X.env.scope.names.lookup n = some .local) (hg : Gl X rx) (hm : X.mg rx = some (.ref R)) (hbody : ∀ pl, PSs (cxTry X pl E) body tb) (hh : ∀ ea, PSs (cxHand X ea) (b₀ :: hb) th) (hdb : (rx == ("__debug__" : Str)) = false := by decide) :
    PS X (.Try body [.ExceptHandler (some (.Name rx np)) (some n) (b₀ :: hb) hpos] [] [] pos) (tTry X.K i E R tb th) := by
  intro pins s σ H D I ⟨h1, h2⟩
  refine wpAny_Try_except (wpAny_mono (hbody pins [] s σ H D I.toTry h1) (fun f s1 hs => ?_) fun e s1 hx1 => ?_)
  · cases f with
    | next => obtain ⟨σ', H', I', q⟩ := hs; exact wpAny_execs_nil ⟨σ', H', I'.ofTry, q⟩
    | brk => obtain ⟨σ', H', I', q⟩ := hs; exact ⟨σ', H', I'.ofTry, q⟩
    | cont => obtain ⟨σ', H', I', q⟩ := hs; exact ⟨σ', H', I'.ofTry, q⟩
    | ret u => obtain ⟨v, σ', H', I', r, q⟩ := hs; exact ⟨v, σ', H', I'.ofTry, r, q⟩
  obtain ⟨σ0, H0, s0, I0, ea, C, a0, B, H', rfl, os', bare', un', hokB, inB, thB, hfl, hea, hE⟩ := hx1
  have hfr : X.A.frames = some (X.env :: X.outer) := I0.ok.frames.trans (by rw [hst])
  have hfl' : Heap.FlyingW B (X.env :: X.outer) ea (.ref C) a0 s1.heap := hst ▸ hfl
  refine wpAny_looks_onW hfr hf hfl' fun g2 hh2 up2 => ?_
  refine wpAny_landsW hh2 fun g3 hfl3 up3 => ?_
  have J : ∀ g4, Heap.FlyingW B (X.env :: X.outer) ea (.ref C) a0 g4 → s1.heap.UpToSlots g4 → Inv X pins σ0 H' { s1 with heap := g4 } := fun g4 f4 u4 =>
    I0.call' (s' := { s1 with heap := g4 }) os' (un'.fly inB thB hfl.2.2.1 f4.1 u4) (hokB.kept f4.1) bare' (fun b z => absurd z (by simp))
  have I3 := J g3 hfl3 (up2.trans up3)
  obtain ⟨hex, hth⟩ := h2 C H' ea hE hea
  obtain ⟨ob, hob, hcl⟩ := hfl3.there
  have LT : ∀ M : Model, PySem.W.Looks M g3 (typeOf (.ref ea)) (.ref C) := fun M => by
    obtain ⟨oc, od, odt, osl⟩ := ob
    cases (show oc = Value.ref C from hcl)
    exact (PySem.W.Looks.ld hob).andThen .now
  refine wpAny_handleBy_cons (codeAny_handlers_test ?_) (by intro q; cases q)
  refine ld_glob (X := cxHand X ea) I3.toHand hg hm ?_ hdb
  refine (PySem.W.exm_one I3.kIn (LT _) hex).here ?_
  simp only [if_true]
  refine codeAny_handlers_suite_as (lands_againW hfl3 fun g4 hfl4 up4 => ?_)
  have I4 := J g4 hfl4 ((up2.trans up3).trans up4)
  obtain ⟨vs0, T0, hd0, ob4, hob4, hcl4⟩ : ∃ vs0 T0, ∃ (_ : T0 = ea), ∃ ob4, g4.get? ea = some ob4 ∧ ob4.cls = .ref C ∧ ob4.data = .fields vs0 := by
    obtain ⟨_, _, _, oe, vs, T, oT, ts, he, hc, hd, _⟩ := hfl4
    exact ⟨vs, ea, rfl, oe, he, hc.1, hd⟩
  have nostk : ea ∉ frs X.stack := fun z => by
    obtain ⟨_, o', e2, nf⟩ := I4.stack.mem z
    rw [show ({ s1 with heap := g4 } : Shared).heap = g4 from rfl, hob4] at e2
    cases e2
    exact nf _ hcl4.2
  have ns0 : ∀ o, s0.heap.get? ea ≠ some o := fun o z => by
    obtain ⟨o', e⟩ := thB ea o z nostk
    rw [hfl.2.1] at e
    cases e
  have nL : X.env.locals ≠ ea := fun z => by
    obtain ⟨m, ⟨o, _, _, e, _⟩, _⟩ := I0.loc
    exact ns0 o (by rw [← z]; exact e)
  have nC : ∀ x c, X.env.cells.lookup x = some c → c ≠ ea := fun x c e z => by
    obtain ⟨v, o, e', _⟩ := I0.cell x c e
    exact ns0 o (by rw [← z]; exact e')
  have nP : ∀ p ∈ X.pn ++ pins, p.1 ≠ ea := fun p hp z => ns0 p.2 (by rw [← z]; exact (I0.pin p hp).1)
  have n0 : ∀ o, X.s₀.heap.get? ea ≠ some o := fun o z => by
    obtain ⟨o', e⟩ := I0.base.there ea o z (by rw [hxe]; simp)
    exact ns0 o' e
  have I5 := I4.track (ea := ea) (C := C) hea ⟨ob4, hob4, hcl4.1⟩ n0 nL nC nP
  refine store_ok (X := cxHand X ea) (i := i) (v := .ref ea) (I5.weak (σ' := List.replicate σ.length none) (by rw [List.length_replicate, I.len, I0.len]) fun j v q => ?_).toHand hN hi (.inl hx) rfl (fun s5 I6 => ?_) (.inr hx)
  · rw [List.getElem?_replicate] at q
    split at q <;> cases q
  refine wpAny_mono (hh ea pins s5 _ _ _ I6 hth) (fun f s6 h6 => ?_) fun _ _ z => False.elim z
  cases f with
  | next => obtain ⟨σ', H', I', q⟩ := h6; exact goes_ok (I'.ofHand I0.ok) hN hi hx fun s' I'' => ⟨_, _, I'', q⟩
  | brk => obtain ⟨σ', H', I', q⟩ := h6; exact goes_ok (I'.ofHand I0.ok) hN hi hx fun s' I'' => ⟨_, _, I'', q⟩
  | cont => obtain ⟨σ', H', I', q⟩ := h6; exact goes_ok (I'.ofHand I0.ok) hN hi hx fun s' I'' => ⟨_, _, I'', q⟩
  | ret u => obtain ⟨v, σ', H', I', r, q⟩ := h6; exact goes_ok (I'.ofHand I0.ok) hN hi hx fun s' I'' => ⟨v, _, _, I'', r, q⟩

/-- isinstance(e, C) of an error whose class is C or stands under it -/
def rIsE (K : PySem.W.Frag) : List V → Hp → VK → Prop := fun xs H Q => ∃ ea C D, xs = [.ref ea, .ref D] ∧ H ea = some (.ext (IsA ea C)) ∧ PySem.W.isIn K (.ref C) D = true ∧ Q (.bl true) H
/-- an own error at its name -/
structure Err (K : PySem.W.Frag) (mg : Str → Option Value) (x : Str) (C : Addr) : Prop where
  at_ : mg x = some (.ref C)
  is : IsErr K C
/-! ### defs that may raise -/
structure CalX (P : Program) (w : World) (K : PySem.W.Frag) (mg : Str → Option Value) (base : Heap) (k : Nat) (x : Str) (ps : List Str) (sp : Sp) : Prop where
  ex : ∃ f fd, FnOk P w K mg base (CX1 P w) k f fd ps sp ∧ Binds K fd ps [] ∧ PySem.W.keepIn K (.ref f) = true ∧ mg x = some (.ref f)
section
variable {P : Program} {w : World} {K : PySem.W.Frag} {mg : Str → Option Value} {base : Heap} {k j : Nat} {x : Str} {ps N : List Str} {sp : Sp} {st : Stmt}
theorem CalX.mono (c : CalX P w K mg base j x ps sp) (h : j ≤ k) : CalX P w K mg base k x ps sp :=
  let ⟨f, fd, F, b, kp, m⟩ := c.ex
  ⟨f, fd, F.mono h, b, kp, m⟩
theorem DefOk.calX (d : DefOk K mg x st ps) (S : FnScope N ps (defScope st)) (len : ∀ vs H Q E, sp vs H Q E → vs.length = ps.length)
    (hbody : ∀ (f : Addr) (cdv : Value) (A : Around) (outer : List Env) (s : Shared) (H : Hp) (vs : List V) (Q : VK) (E : XK), Room k (A.deeper (envOfC x (defScope st) s.heap.objs.size f cdv)) → sp vs H Q E →
      ∃ t, PSs (cxOf (CX1 P w) P w K mg base N x (defScope st) f cdv A outer s H E) (defBody st) t ∧ t { nx := fun _ H' => Q .non H', rt := Q } (start N vs) H) : CalX P w K mg base (k + 1) x ps sp := by
  obtain ⟨f, fd, F, b, m⟩ := d.ex
  obtain ⟨oc, od, kV, doc, pm, an, cdv, ct, osl, rfl, lk, hcd⟩ := F.ex
  exact ⟨f, _, fn_of lk hcd S len fun A outer s H vs Q E hr hsp => hbody f cdv A outer s H vs Q E hr hsp, b, F.kp, m⟩
end
theorem pe_callX {X : Cx} {k : Nat} {x : Str} {ps : List Str} {sp : Sp} {p pos : Pos} {e : Expr} {es : List Expr} {t : TA} {E : XK} (c : CalX X.prog X.w X.K X.mg X.base k x ps sp) (hr : Room k X.A) (hg : Gl X x) (hp : Passes (CX1 X.prog X.w) X E) (ha : PA X (e :: es) t)
    (hdb : (x == ("__debug__" : Str)) = false := by decide) (he : starEach (e :: es) X.env = (false, eval e X.env) :: starEach es X.env := by rfl) (hpl : (backTo pos (starEach es X.env)).any (·.1) = false := by rfl) :
    PE X (.Call (.Name x p) (e :: es) [] pos) (tCall sp [] E t) := by
  obtain ⟨f, fd, F, b, kp, m⟩ := c.ex
  exact pe_call F hr hg m kp b .nil hp ha hdb he hpl
end L2
namespace L2
open PySem PySem.Spec PyProof.Rows

/-! ### two lists of flat items, == and != -/
def eqJ (xs ys : List V) (j : Nat) : Bool := eqV ((xs[j]?).getD .non) ((ys[j]?).getD .non)
def eqL (xs ys : List V) : Bool := decide (xs.length = ys.length) && (List.range xs.length).all (eqJ xs ys)
def rSeq (K : PySem.W.Frag) (neg : Bool) : R2 := fun x y H Q => ∃ a b xs ys, x = .ref a ∧ y = .ref b ∧ SqL K H a xs ∧ SqL K H b ys ∧ xs.all flatV = true ∧ ys.all flatV = true ∧ Q (.bl (if neg then !eqL xs ys else eqL xs ys)) H
/-- a number or None -/
def oV : Option Int → V
  | none => .non
  | some i => .int i
def oD : Option Int → D
  | none => .non
  | some i => .int i
end L2
namespace L2
open PySem PySem.Spec PySem.W PyProof.Rows PySem.Builtin PySem.Builtin.ObjectAttr PySem.Builtin.Getset_descriptor

/-! ### an error's class, asked for by name: isinstance that says no -/
section
variable {prog : Program} {w : World} {A : Around} {E : Value → Shared → Prop} {s : Shared} {K : PySem.W.Frag} {x C : Addr} {R : Result → Shared → Prop}
theorem err_class_get {tp : Value} (X : K.In s.heap) (L : ∀ M, Looks M s.heap (typeOf (.ref x)) (.ref C)) (hm : mroIn K C (.type "object") = some true)
    (h : R (.ok (.ret (.ref C))) s) : codeAny (model prog w) A (.call (.builtin "getset_descriptor.__get__") ⟨[.builtin "object.__class__", .ref x, tp], []⟩) R s := by
  obtain ⟨hh, g, dr, t, os⟩ := s
  have L0 := L (model prog w)
  have L1 := looks_mroIn (M := model prog w) X hm
  refine codeAny_call_builtin KF.slot_gs.plain KF.entry_gs (KF.slot_gs.check _ _ _ _ _ _ _ _ KF.type_class (KF.args_gs _ _ _) ?_)
  unfold Builtin.«getset_descriptor.__get__» descrGet
  rw [dga_obj]
  refine wpAny_bind (wpAny_pure ?_)
  unfold descrGetter descrCheckInstance descrNameAndClass isInstance
  simp only [KF.owner_class]
  repeat lk
  refine ⟨Code.quiet_builtin _ (by decide +kernel), codeAny_builtin KF.entry_class ?_⟩
  unfold Builtin.«object.__class__» shownTypeOf
  repeat lk
  exact h
theorem looks_find_data {M : Model} {h : Heap} {name : Str} {a g : Value} (X : K.In h) (ha : findIn K (.ref C) name = some (some a)) (hn : specialIn K a "__get__" = some (some g)) (htk : takesIn K a = some true) :
    Looks M h (find (.ref x) (.ref C) name) (.bind g a) := by
  have L1 := looks_findIn (M := M) X ha
  have L2 : Looks M h (getOf (some a)) (some g) := looks_specialIn X hn
  have L3 := looks_takesIn (M := M) X htk
  exact L1.andThen (L2.andThen ((show Looks M h (dataDescriptor? (some a) (some g)) (some (g, a)) from L3.andThen .now).andThen (Looks.tag .now)))
theorem err_check {nameV : Value} {Q : Unit → Shared → Prop} (L : Looks (model prog w) s.heap (isInstance (.ref x) (.type "BaseException")) true) (hq : Q () s) : wpAny (model prog w) A (checkBuiltinCall "BaseException.__getattribute__" ⟨[.ref x, nameV], []⟩) Q E s := by
  obtain ⟨hh, g, d, t, os⟩ := s
  have hk : builtinKind "BaseException.__getattribute__" = some .slot := by decide +kernel
  have hsplit : splitId "BaseException.__getattribute__" = some ("BaseException", "__getattribute__") := by decide +kernel
  have ha := F.args_bexc_ga (.ref x) nameV
  simp only [checkBuiltinCall, hk, hsplit]
  refine wpAny_bind (L.at ?_)
  repeat wp_step
  exact hq
theorem err_class {Q : Option Value → Shared → Prop} (X : K.In s.heap) (L : ∀ M, Looks M s.heap (typeOf (.ref x)) (.ref C)) (hga : findIn K (.ref C) "__getattribute__" = some (some (.builtin "BaseException.__getattribute__")))
    (hgt : findIn K (.ref C) "__getattr__" = some none) (ha : findIn K (.ref C) "__class__" = some (some (.builtin "object.__class__"))) (hn : specialIn K (.builtin "object.__class__") "__get__" = some (some (.builtin "getset_descriptor.__get__")))
    (htk : takesIn K (.builtin "object.__class__") = some true) (hm : mroIn K C (.type "object") = some true) (hmb : mroIn K C (.type "BaseException") = some true) (h : Q (some (.ref C)) { s with toks := s.toks + 1 }) :
    wpAny (model prog w) A (getAttr? (.ref x) "__class__") Q E s := by
  obtain ⟨hh, g, d, t, os⟩ := s
  have L0 := L (model prog w)
  have L1 := looks_findIn (M := model prog w) X hga
  have L2 := looks_findIn (M := model prog w) X hgt
  have L3 := looks_mroIn (M := model prog w) X hmb
  have LF := looks_find_data (M := model prog w) (x := x) X ha hn htk
  unfold getAttr? getAttrBy? getAttrBy
  refine wpAny_bind (wpAny_mkText (wpAny_bind (wpAny_attempt (wpAny_holding (wpAny_bind (L0.at (wpAny_bind (L1.at ?_))))))))
  have hx2 : (Value.builtin "BaseException.__getattribute__" == Value.builtin "object.__getattribute__") = false := by decide +kernel
  dsimp only
  rw [hx2, Bool.and_false, if_neg Bool.false_ne_true]
  unfold getAttrByItsOwn hookBefore
  refine wpAny_bind ?_
  rw [if_pos (show onTheHeap (Value.ref C) = true from rfl)]
  refine L2.at ?_
  refine wpAny_bind (wpAny_attempt (wpAny_holding ?_))
  unfold callGetattribute boundAndCalled
  rw [Bool.false_and, if_neg Bool.false_ne_true]
  rw [F.excAttr_ValueError.ga.bind (.ref x)]
  refine wpAny_bind (wpAny_pure ?_)
  refine wpAny_call (codeAny_call_builtin F.excAttr_ValueError.ga.plain F.entry_bexc_ga ?_)
  refine err_check (L0.andThen L3) ?_
  unfold Builtin.«object.__getattribute__»
  refine wpAny_bind (wpAny_pure ?_)
  refine wpAny_bind (wpAny_pure ?_)
  refine wpAny_bind (L0.at ?_)
  refine wpAny_bind (LF.at ?_)
  show wpAny _ _ (holding [Value.builtin "object.__class__"] (call (.builtin "getset_descriptor.__get__") [.builtin "object.__class__", .ref x, .ref C]) >>= ret) _ _ _
  refine wpAny_bind (wpAny_holding (wpAny_call (err_class_get (C := C) X L hm ?_)))
  refine wpAny_pure ?_
  refine handed_on rfl ?_
  exact wpAny_pure h
end

/-- what the written part must tell of an error's class -/
structure ErrCls (K : PySem.W.Frag) (C : Addr) : Prop where
  cl : (clsIn K C).isSome = true
  ga : findIn K (.ref C) "__getattribute__" = some (some (.builtin "BaseException.__getattribute__"))
  gt : findIn K (.ref C) "__getattr__" = some none
  ca : findIn K (.ref C) "__class__" = some (some (.builtin "object.__class__"))
  ge : specialIn K (.builtin "object.__class__") "__get__" = some (some (.builtin "getset_descriptor.__get__"))
  tk : takesIn K (.builtin "object.__class__") = some true
  mo : mroIn K C (.type "object") = some true
  mb : mroIn K C (.type "BaseException") = some true
theorem isA_type {M : Model} {h : Heap} {x C : Addr} (p : IsA x C h) : Looks M h (typeOf (.ref x)) (.ref C) := by
  obtain ⟨⟨oc, od, odt, osl⟩, hob, hcl⟩ := p
  cases (show oc = Value.ref C from hcl)
  exact (Looks.ld hob).andThen .now
theorem kitx_err {K : PySem.W.Frag} {x C : Addr} (c : ErrCls K C) : KitX K (.ref x) (.ref C) (IsA x C) where
  ty := fun _ _ _ p => isA_type p
  it := fun _ _ X _ => by
    obtain ⟨cdD, hcD⟩ := Option.isSome_iff_exists.mp c.cl
    unfold clsIn at hcD
    split at hcD
    · rename_i c' d' cd' sl' ho
      intro A' Q' E' s' k q
      unfold isType loadHead
      exact wpAny_bind (wpAny_loadPart (k _ _ (X _ _ ho)) (wpAny_pure q))
    · cases hcD
  ne := fun h tp dd its n sl X htp => by
    obtain ⟨cdD, hcD⟩ := Option.isSome_iff_exists.mp c.cl
    refine Bool.eq_false_iff.mpr fun q => ?_
    have e : C = tp := Value.ref.inj (beq_iff_eq.mp q)
    subst e
    unfold clsIn at hcD
    split at hcD
    · rename_i c' d' cd' sl' ho
      have z := (X _ _ ho).symm.trans htp
      cases z
    · cases hcD
  ca := fun X p k => err_class X (fun _ => isA_type p) c.ga c.gt c.ca c.ge c.tk c.mo c.mb k
/-- isinstance(e, D) of an error, D an own class or a built-in one: what kitOne says -/
def rIsX (K : PySem.W.Frag) : List V → Hp → VK → Prop := fun xs H Q => ∃ ea C d u b, xs = [.ref ea, d] ∧ H ea = some (.ext (IsA ea C)) ∧ ErrCls K C ∧ RelV d u ∧ (d = .ref (match u with | .ref a => a | _ => 0) ∨ ∃ n, d = .ty n) ∧ kitOne K (.ref C) u = some b ∧ Q (.bl b) H
theorem call_isX {X : Cx} : CallR X (.builtin "isinstance") (rIsX X.K) := by
  intro pins s σ H xs us Q I r h
  obtain ⟨ea, C, d, u0, b, rfl, he, hc, hr, hd, hk, q⟩ := h
  obtain ⟨u, w', rfl, rx, rc⟩ := vals2 r
  cases rx
  have e : w' = u0 := by
    rcases hd with hd | ⟨n, hd⟩
    · rw [hd] at rc hr
      exact (show w' = _ from rc).trans (show u0 = _ from hr).symm
    · rw [hd] at rc hr
      exact (show w' = _ from rc).trans (show u0 = _ from hr).symm
  subst e
  obtain ⟨p, _⟩ := (show ObjOk X.prog X.w H s.heap ea (.ext (IsA ea C)) from I.hok ea _ he)
  exact kia_one (kitx_err hc) I.kIn p hk (fun z => nomatch z) fun tk => ⟨.bl b, H, I.tok _, rfl, q⟩
theorem call_isXK {X : Cx} {K : PySem.W.Frag} (hK : X.K = K) : CallR X (.builtin "isinstance") (rIsX K) := by subst hK; exact call_isX
end L2
namespace L2
open PySem PySem.Spec PyProof.Rows PySem.MeetsSeq PySem.MeetsSeq2 PySem.MeetsSeq3

/-! ### a tuple's whole slice is the tuple -/
section
variable {prog : Program} {w : World} {A : Around} {E : Value → Shared → Prop} {s : Shared}
end
/-- t[:], the tuple itself -/
def rSlAll (K : PySem.W.Frag) : V → Option Int → Option Int → Hp → VK → Prop := fun x lo hi H Q => ∃ a xs, x = .ref a ∧ SqT K H a xs ∧ lo = none ∧ hi = none ∧ Q (.ref a) H
/-! ### two tuples of flat items, == and != -/
def rTup (K : PySem.W.Frag) (neg : Bool) : R2 := fun x y H Q => ∃ a b xs ys, x = .ref a ∧ y = .ref b ∧ SqT K H a xs ∧ SqT K H b ys ∧ xs.length = ys.length ∧ xs.all flatV = true ∧ ys.all flatV = true ∧ Q (.bl (if neg then !eqL xs ys else eqL xs ys)) H
end L2
namespace L2
open PySem PySem.Spec PyProof.Rows

/-! ### enumerate(xs) -/
/-- the list at a, each item with its place: a new tuple a turn -/
def Itn (K : PySem.W.Frag) (a : Addr) : It :=
  ⟨fun i H => ∃ xs x, SqL K H a xs ∧ xs[i]? = some x,
   fun i H v H' => ∃ (T : Addr) (x : V), H T = none ∧ v = .ref T ∧ H' = upd H T (.tup [.int (i : Int), x]) ∧ ∀ xs, SqL K H a xs → xs[i]? = some x,
   fun i H => ∃ xs, SqL K H a xs ∧ xs.length ≤ i⟩
def iEnum (K : PySem.W.Frag) (ta : TA) : TI := fun σ H R => ta σ H fun vs H1 => ∃ a, vs = [.ref a] ∧ (∃ xs, SqL K H1 a xs) ∧ R (Itn K a) H1
end L2
namespace L2
open PySem PySem.Spec PyProof.Rows

/-! ### list(range(i, j)) -/
def rngV (i : Int) (n : Nat) : List V := (List.range n).map fun (k : Nat) => .int (i + (k : Int))
def rListRng : List V → Hp → VK → Prop := fun xs H Q => ∃ r i j, xs = [.ref r] ∧ H r = some (.rng i j) ∧ (-(2 ^ 62) ≤ i ∧ i < 2 ^ 62 ∧ -(2 ^ 62) ≤ j ∧ j < 2 ^ 62) ∧ (j - i).toNat ≤ 1000000 ∧ ∀ l, H l = none → Q (.ref l) (upd H l (.lst (rngV i (j - i).toNat)))
end L2
namespace L2
open PySem PySem.Spec PyProof.Rows

/-! ### xs.count(y), xs.insert(k, y), x in xs -/
def rCount : V → List V → Hp → VK → Prop := fun x vs H Q => ∃ l xs y, x = .ref l ∧ vs = [y] ∧ H l = some (.lst xs) ∧ flatV y = true ∧ xs.all flatV = true ∧ Q (.int ((xs.countP fun z => eqV z y : Nat) : Int)) H
def rInsert : V → List V → Hp → VK → Prop := fun x vs H Q => ∃ l xs y, ∃ k : Nat, x = .ref l ∧ vs = [.int (k : Int), y] ∧ H l = some (.lst xs) ∧ k ≤ xs.length ∧ xs.length ≤ 100000 ∧ Q .non (upd H l (.lst (xs.take k ++ y :: xs.drop k)))
theorem op_inK {X : Cx} {K : PySem.W.Frag} (hK : X.K = K) : OpR X (compareOp .In) (rIn K false) := by subst hK; exact op_in_seq
end L2
namespace L2
open PySem PySem.Spec PyProof.Rows PySem.Builtin PySem.Builtin.Str

/-! ### texts -/
section
variable {X : Cx}
def rStarts : V → List V → Hp → VK → Prop := fun x vs H Q => ∃ a b, x = .str a ∧ vs = [.str b] ∧ Q (.bl (Txt.startswith a b)) H
theorem mt_starts : MtR X "str.startswith" rStarts := by
  intro pins s σ H x vs v us Q I rx rv h
  obtain ⟨a, b, rfl, rfl, q⟩ := h
  obtain ⟨t, rfl⟩ := rx
  obtain ⟨u, rfl, ru⟩ := rv.one
  obtain ⟨t', rfl⟩ := ru
  exact SC.startswith ⟨.bl _, H, I, rfl, q⟩
theorem strsAre_of : ∀ {ys : List Str} {us : List Value}, Vals (ys.map V.str) us → StrsAre us ys
  | [], _, .nil => .nil
  | y :: ys, _, .cons r t => by
    obtain ⟨k, rfl⟩ := r
    exact .cons y k (strsAre_of t)
def rJoin : V → List V → Hp → VK → Prop := fun x vs H Q => ∃ sep D ys, x = .str sep ∧ vs = [.ref D] ∧ H D = some (.lst (ys.map V.str)) ∧ (ys.map (·.length)).sum + ys.length * sep.length ≤ 16777216 ∧ Q (.str (Txt.join sep ys)) H
theorem mt_join : MtR X "str.join" rJoin := by
  intro pins s σ H x vs v us Q I rx rv h
  obtain ⟨sep, D, ys, rfl, rfl, hH, hz, q⟩ := h
  obtain ⟨t, rfl⟩ := rx
  obtain ⟨u, rfl, ru⟩ := rv.one
  cases ru
  obtain ⟨z, its, n, r, hl, e⟩ := I.lstM hH
  exact join_list (show s.heap.IsList D its.toArray from ⟨_, e, rfl, n, rfl⟩) (strsAre_of r) hz fun t' k => ⟨.str _, H, I.tok _, ⟨_, rfl⟩, q⟩
theorem call_split {prog : Program} {w : World} {A : Around} {E : Value → Shared → Prop} {s : Shared} {x y : Str} {t u : Tok} {Q : Value → Shared → Prop} (hy : (y.length == 0) = false) (hsz : x.length ≤ sizeLine) (hsz2 : (partsBetween x (occurrences x y 0 x.length (x.length + 1)) y.length).length ≤ sizeLine)
    (h : ∀ (l : List (Str × Tok)) (k : Nat), l.map (·.1) = Txt.split x y → Q (.ref s.heap.objs.size) { s with heap := s.heap.push { cls := .type "list", data := .seq (strValues l).toArray }, toks := k }) :
    wpAny (model prog w) A (call (.builtin "str.split") [.str x t, .str y u]) Q E s := by
  cases h1 : (decide (x.length < y.length) || decide (strKind x < strKind y))
  · cases hf : (occurrences x y 0 x.length (x.length + 1)).isEmpty
    · refine call_meets F.slot_str_split (typeIs_str _ _ _) F.entry_str_split (F.args_str_split_2 _ _) (meets_str_split_sep x y t u h1 hy hf hsz hsz2) ?_
      show wants Q E _ { s with toks := _, heap := s.heap.push { cls := .type "list", data := .seq (strsFrom s.toks (partsBetween x (occurrences x y 0 x.length (x.length + 1)) y.length)).toArray } }
      rw [strsFrom_eq]
      exact h (numbered s.toks _) _ ((numbered_texts _ _).trans ((if_neg (ne_true_of_eq_false h1)).trans (if_neg (ne_true_of_eq_false hf))).symm)
    · exact call_meets F.slot_str_split (typeIs_str _ _ _) F.entry_str_split (F.args_str_split_2 _ _) (meets_str_split_not_found x y t u h1 hy hf) (h [(x, t)] s.toks ((if_neg (ne_true_of_eq_false h1)).trans (if_pos hf)).symm)
  · exact call_meets F.slot_str_split (typeIs_str _ _ _) F.entry_str_split (F.args_str_split_2 _ _) (meets_str_split_cannot_occur x y t u h1) (h [(x, t)] s.toks (if_pos h1).symm)
theorem vals_strs : ∀ (l : List (Str × Tok)), Vals ((l.map (·.1)).map V.str) (strValues l)
  | [] => .nil
  | (_, t) :: l => .cons ⟨t, rfl⟩ (vals_strs l)
def rSplit : V → List V → Hp → VK → Prop := fun x vs H Q => ∃ a b, x = .str a ∧ vs = [.str b] ∧ 1 ≤ b.length ∧ a.length ≤ 100000 ∧ ∀ D, H D = none → Q (.ref D) (upd H D (.lst ((Txt.split a b).map V.str)))
theorem mt_split : MtR X "str.split" rSplit := by
  intro pins s σ H x vs v us Q I rx rv h
  obtain ⟨a, b, rfl, rfl, hb, hz, q⟩ := h
  obtain ⟨t, rfl⟩ := rx
  obtain ⟨u, rfl, ru⟩ := rv.one
  obtain ⟨t', rfl⟩ := ru
  have hpl : (partsBetween a (occurrences a b 0 a.length (a.length + 1)) b.length).length ≤ 100002 := by
    rw [StrLaws.partsBetween_eq]
    have h1 := StrLaws.occ_length_le a b 0 a.length (a.length + 1)
    have h2 : ∀ (cuts : List Nat) (k : Nat), (StrLaws.partsFrom a b.length k cuts).length = cuts.length + 1 := fun cuts => by
      induction cuts with
      | nil => intro k; rfl
      | cons c r ih => intro k; simp only [StrLaws.partsFrom, List.length_cons, ih]
    rw [h2]
    omega
  refine call_split (by simp; omega) (small (by omega)) (small (by omega)) fun l k e => ?_
  refine ⟨.ref s.heap.objs.size, _, I.laid (o := .lst ((Txt.split a b).map V.str)) (fun c o z => Heap.get?_push_of_some _ z) (Nat.le_refl _) ?_, rfl, q _ (I.hok.fresh (Nat.le_refl _))⟩
  rw [← e]
  refine ⟨small ?_, strValues l, 0, vals_strs l, Heap.get?_push_size _ rfl⟩
  have h3 := PyProof.Rows.split_le a b
  rw [List.length_map, e]
  omega
end
end L2
namespace L2
open PySem PySem.Spec PyProof.Rows PySem.Builtin PySem.Builtin.Str

/-! ### texts: slices, int, signs one by one, all(..), f-texts -/
section
variable {X : Cx}
def rSlS : V → Option Int → Option Int → Hp → VK → Prop := fun x lo hi H Q => ∃ a, x = .str a ∧ a.length ≤ 1000000 ∧ Q (.str (Txt.slice a lo hi)) H
theorem sl_str : SlR X rSlS := by
  intro pins s σ H x v vl vu lo hi sl Q I rx hs pl pu h
  obtain ⟨a, rfl, hz, q⟩ := h
  obtain ⟨t, rfl⟩ := rx
  refine ⟨"str", _, F.slot_str_getitem.lookup, typeIs_str _ _ _, ?_⟩
  obtain ⟨o, ho, hc, hd⟩ := hs
  have fin : ∀ t' k, EP X pins σ Q (.str (Txt.slice a lo hi) t') { s with toks := k } := fun t' k => ⟨.str _, H, I.tok _, ⟨_, rfl⟩, q⟩
  have hle : (Txt.slice a lo hi).length ≤ sizeLine := Nat.le_trans (Txt.slice_le a _ _) (small hz)
  cases pl with
  | none =>
    cases pu with
    | none => exact wpAny_getItem_str_slice (l := none) (u := none) (st := none) ⟨o, ho, hc, hd⟩ rfl (post_val_or_str ⟨hle, fin⟩)
    | int j tj => exact wpAny_getItem_str_slice (l := none) (u := some (j, tj)) (st := none) ⟨o, ho, hc, hd⟩ rfl (post_val_or_str ⟨hle, fin⟩)
  | int i ti =>
    cases pu with
    | none => exact wpAny_getItem_str_slice (l := some (i, ti)) (u := none) (st := none) ⟨o, ho, hc, hd⟩ rfl (post_val_or_str ⟨hle, fin⟩)
    | int j tj => exact wpAny_getItem_str_slice (l := some (i, ti)) (u := some (j, tj)) (st := none) ⟨o, ho, hc, hd⟩ rfl (post_val_or_str ⟨hle, fin⟩)
def rIntText : List V → Hp → VK → Prop := fun xs H Q => ∃ a n, xs = [.str a] ∧ PySem.intText? a = some n ∧ a.length ≤ 640 ∧ Q (.int n) H
theorem call_intText : CallR X (.type "int") rIntText := by
  intro pins s σ H xs us Q I r h
  obtain ⟨a, n, rfl, hn, hl, q⟩ := h
  obtain ⟨u, rfl, t, rfl⟩ := vals1 r
  exact PySem.W.KIN.call_text hn hl ⟨.int n, H, I.tok _, ⟨_, rfl⟩, q⟩
/-- the signs of a text, one by one -/
def Its (x : Str) : It := ⟨fun i _ => i < x.cps.size, fun i H v H' => H' = H ∧ ∃ c, x.cps[i]? = some c ∧ v = .str ⟨#[c]⟩, fun i _ => x.cps.size ≤ i⟩
theorem turn_str {P : Program} {w : World} {K : PySem.W.Frag} {tg : Expr} (x : Str) (t : Tok) (it : Addr) : Turn P w K tg (Its x) [it] it (fun i h => h.IsStrIter it (strIterType x) x t i) where
  mem := by simp
  obj := fun i h st b hb => by
    have e : b = it := by simpa using hb
    subst e
    obtain ⟨o, e, c, d⟩ := st
    exact ⟨o, e, fun v z => by rw [d] at z; cases z⟩
  keep := fun i h h' st k => by
    obtain ⟨o, e, c, d⟩ := st
    exact ⟨o, k it (by simp) o e, c, d⟩
  item := by
    intro X hP hw hK hc i pins s σ H E I hf st hg
    subst hP hw hK
    have hi : i < x.cps.size := hg
    have hx : x.cps[i]? = some x.cps[i] := Array.getElem?_eq_getElem hi
    obtain ⟨f0, f1, f2, f3, f4, f5⟩ := hf it (by simp)
    have fin : ∀ h' : Heap, h'.IsStrIter it (strIterType x) x t (i + 1) → Heap.SameBut it s.heap h' → ∃ u, some (Value.str ⟨#[x.cps[i]]⟩ s.toks) = some u ∧
        wpAny (model X.prog X.w) X.A (letOwnedTupleGo tg (.ref it) u) (fun _ s2 => ∃ v H', Inv X pins σ H' s2 ∧ RelV v u ∧ (Its x).yld i H v H' ∧ s2.heap.IsStrIter it (strIterType x) x t (i + 1) ∧ ∀ b ∈ [it], H' b = none) E { s with heap := h', toks := s.toks + 1 } := fun h' st' sb => by
      have I1 : Inv X pins σ H { s with heap := h', toks := s.toks + 1 } := I.turned (fun b o hb e => (sb.2 b hb).trans e) f0 f1 f3 f4 f5
      obtain ⟨o, e, c, d⟩ := id st'
      refine ⟨_, rfl, go_of (s := { s with heap := h', toks := s.toks + 1 }) e c d ?_ ⟨.str ⟨#[x.cps[i]]⟩, H, I1, ⟨_, rfl⟩, ⟨rfl, _, hx, rfl⟩, st', fun b hb => (hf b hb).1⟩⟩
      unfold strIterType
      split <;> decide
    by_cases ha : x.cps.all (· < 128) = true
    · have e : strIterType x = "str_ascii_iterator" := if_pos ha
      have st1 := st
      rw [e] at st1
      exact wpAny_pyNext_ascii_item st1 hx fun h' st' sb => fin h' (by rw [e]; exact st') sb
    · have e : strIterType x = "str_iterator" := if_neg ha
      have st1 := st
      rw [e] at st1
      exact wpAny_pyNext_wide_item st1 hx fun h' st' sb => fin h' (by rw [e]; exact st') sb
  done := by
    intro X hP hw hK hc i pins s σ H E I hf st hg
    subst hP hw hK
    have hi : x.cps.size ≤ i := hg
    have hx : x.cps[i]? = none := Array.getElem?_eq_none hi
    obtain ⟨f0, f1, f2, f3, f4, f5⟩ := hf it (by simp)
    unfold strIterType at st
    split at st
    · exact wpAny_pyNext_ascii_end (I.ok.hd hc) st hx fun h' eb => ⟨rfl, I.turned (t' := s.toks) (fun b o hb e => eb b o hb e) f0 f1 f3 f4 f5⟩
    · exact wpAny_pyNext_wide_end (I.ok.hd hc) st hx fun h' eb => ⟨rfl, I.turned (t' := s.toks) (fun b o hb e => eb b o hb e) f0 f1 f3 f4 f5⟩
  self := fun _ _ _ _ _ st h => by
    unfold strIterType at st
    split at st
    · exact wpAny_pyIter_striter_ascii st h
    · exact wpAny_pyIter_striter_wide st h
def iStr (tl : TE) : TI := fun σ H R => tl σ H fun x H1 => ∃ a, x = .str a ∧ R (Its a) H1
theorem pi_str {tg l : Expr} {tl : TE} (hl : PE X l tl) : PI X tg l (iStr tl) := by
  intro pins s σ H R I h
  refine thn (hl pins s σ H _ I h) fun v s1 ⟨x, H1, I1, r1, q1⟩ => ?_
  obtain ⟨a, rfl, q⟩ := q1
  obtain ⟨t, rfl⟩ := r1
  refine wpAny_pyIter_strU ?_
  refine ⟨s1.heap.objs.size, [s1.heap.objs.size], _, _, H1, rfl, I1.kept (t' := s1.toks) fun b o e => Heap.get?_push_of_some _ e, turn_str a t _, ⟨_, Heap.get?_push_size _ rfl, rfl, rfl⟩, fun b hb => ?_, q⟩
  have e : b = s1.heap.objs.size := by simpa using hb
  subst e
  exact I1.fpOk (Nat.le_refl _) (I1.hok.fresh (Nat.le_refl _))
/-- all(..) of a list of truths -/
theorem vals_bl : ∀ {bs : List Bool} {us : List Value}, Vals (bs.map V.bl) us → us = bs.map Value.bool
  | [], _, .nil => rfl
  | _ :: _, _, .cons r t => by
    cases r
    rw [vals_bl t]; rfl
theorem all_range_bl (bs : List Bool) : (List.range bs.length).all (fun i => bs.getD i true) = bs.all fun b => b := by
  rw [show (fun i => bs.getD i true) = (fun b : Bool => b) ∘ (fun i => bs.getD i true) from rfl, ← List.all_map]
  show ((List.range bs.length).map fun i => bs.getD i true).all (fun b => b) = bs.all fun b => b
  congr 1
  apply List.ext_getElem?
  intro i
  rw [List.getElem?_map]
  by_cases hi : i < bs.length
  · rw [List.getElem?_range hi, Option.map_some, List.getD_eq_getElem?_getD, List.getElem?_eq_getElem hi]; rfl
  · rw [List.getElem?_eq_none (by simpa using hi), List.getElem?_eq_none (by simpa using hi)]; rfl
def rAll : List V → Hp → VK → Prop := fun xs H Q => ∃ (D : Addr) (bs : List Bool), xs = [.ref D] ∧ H D = some (.lst (bs.map V.bl)) ∧ Q (.bl (bs.all fun b => b)) H
theorem call_allBl (hc : X.calm = true) : CallR X (.builtin "all") rAll := by
  intro pins s σ H xs us Q I r h
  obtain ⟨D, bs, rfl, hH, q⟩ := h
  obtain ⟨u, rfl, ru⟩ := vals1 r
  cases ru
  obtain ⟨z, its, n, rv, hl, e⟩ := I.lstM hH
  have ei := vals_bl rv
  subst ei
  have hL : s.heap.IsList D (bs.map Value.bool).toArray := ⟨_, e, rfl, n, rfl⟩
  refine call_all_walk (wpAny_pyIter_list hL ?_)
  refine ⟨s.heap.objs.size, _, _, _, _, _, fun i => bs.getD i true, rfl, Walks.list (A := X.A.in1) (I.ok.hd hc) s.heap.objs.size D (Nat.ne_of_lt (Heap.lt_size e)) (bs.map Value.bool).toArray, ⟨⟨_, Heap.get?_push_size _ rfl, rfl, rfl⟩, ⟨_, Heap.get?_push_of_some _ e, rfl, n, rfl⟩⟩, fun i v s' Q' E' hv hq => ?_, fun h' tk hk => ?_⟩
  · have hv' : (bs.map Value.bool)[i]? = some v := by simpa using hv
    rw [List.getElem?_map] at hv'
    obtain ⟨b, hb, rfl⟩ := Option.map_eq_some_iff.mp hv'
    have : bs.getD i true = b := by rw [List.getD_eq_getElem?_getD, hb]; rfl
    have hq' : Q' (bs.getD i true) s' := hq
    rw [this] at hq'
    exact wpAny_truthy_bool hq'
  · have el : (bs.map Value.bool).toArray.size = bs.length := by simp
    rw [el, all_range_bl]
    refine ⟨.bl _, H, I.kept fun b o z => ?_, rfl, q⟩
    refine hk b o (fun hb => ?_) (Heap.get?_push_of_some _ z)
    have : b = s.heap.objs.size := by simpa using hb
    subst this
    exact absurd (Heap.lt_size z) (Nat.lt_irrefl _)
/-! f-texts of ints -/
abbrev TJ := St → Hp → Str → (Str → Hp → Prop) → Prop
def PJ (X : Cx) (es : List Expr) (t : TJ) : Prop :=
  ∀ (pins : List (Addr × Obj)) (s : Shared) (σ : St) (H : Hp) (acc : Str) (R : Str → Hp → Prop) (Q : Value → Shared → Prop), Inv X pins σ H s → t σ H acc R → (∀ out s1 H1, Inv X pins σ H1 s1 → R out H1 → out.length ≤ sizeLine ∧ Q (.str out s1.toks) { s1 with toks := s1.toks + 1 }) →
    Joins (model X.prog X.w) X.A X.xe (evalEach es X.env) acc (fun out s1 => out.length ≤ sizeLine ∧ Q (.str out s1.toks) { s1 with toks := s1.toks + 1 }) s
def tFstr (t : TJ) : TE := fun σ H Q => t σ H Str.empty fun out H1 => out.length ≤ 1000000 ∧ Q (.str out) H1
end
end L2
namespace L2
open PySem PySem.Spec PyProof.Rows PySem.Builtin PySem.Builtin.Str

/-! ### texts as lists of signs -/
def strL (l : List Nat) : Str := ⟨l.toArray⟩
theorem strL_toList (l : List Nat) : (strL l).cps.toList = l := by simp [strL]
theorem strL_of (x : Str) : x = strL x.cps.toList := by simp [strL]
theorem strL_length (l : List Nat) : (strL l).length = l.length := by simp [strL, Str.length]
theorem strL_inj {a b : List Nat} (h : strL a = strL b) : a = b := by
  have := congrArg (fun x : Str => x.cps.toList) h
  simpa [strL] using this
theorem strL_append (a b : List Nat) : strL a ++ strL b = strL (a ++ b) := by
  rw [strL_of (strL a ++ strL b)]
  congr 1
  show ((strL a).cps ++ (strL b).cps).toList = a ++ b
  simp [strL]
def PreAt (sep s : List Nat) (k : Nat) : Prop := k + sep.length ≤ s.length ∧ (s.drop k).take sep.length = sep
/-- cut at a separator, from the left -/
inductive Cut (sep : List Nat) : List Nat → List (List Nat) → Prop where
  | last {s : List Nat} : (∀ k, ¬ PreAt sep s k) → Cut sep s [s]
  | cons {a r : List Nat} {ps : List (List Nat)} : (∀ k, k < a.length → ¬ PreAt sep (a ++ sep ++ r) k) → Cut sep r ps → Cut sep (a ++ sep ++ r) (a :: ps)
theorem preAt_here (sep a r : List Nat) : PreAt sep (a ++ sep ++ r) a.length := by
  refine ⟨by simp, ?_⟩
  rw [List.append_assoc, List.drop_left, List.take_left]
theorem Cut.inv {sep s : List Nat} {qs : List (List Nat)} (h : Cut sep s qs) : (qs = [s] ∧ ∀ k, ¬ PreAt sep s k) ∨ ∃ a r ps, s = a ++ sep ++ r ∧ qs = a :: ps ∧ (∀ k, k < a.length → ¬ PreAt sep s k) ∧ Cut sep r ps := by
  cases h with
  | last h => exact .inl ⟨rfl, h⟩
  | @cons a r ps h1 h2 => exact .inr ⟨a, r, ps, rfl, rfl, h1, h2⟩
theorem Cut.uniq {sep s : List Nat} {ps : List (List Nat)} (h : Cut sep s ps) : ∀ {qs : List (List Nat)}, Cut sep s qs → ps = qs := by
  induction h with
  | @last s hno =>
    intro qs g
    rcases g.inv with ⟨e, _⟩ | ⟨a, r, ps, e, _, _, _⟩
    · exact e.symm
    · subst e
      exact absurd (preAt_here sep a r) (hno _)
  | @cons a r ps hno _ ih =>
    intro qs g
    rcases g.inv with ⟨_, hn⟩ | ⟨a', r', ps', e, rfl, hn, g'⟩
    · exact absurd (preAt_here sep a r) (hn _)
    · have hl : a.length = a'.length := by
        rcases Nat.lt_trichotomy a.length a'.length with h | h | h
        · exact absurd (preAt_here sep a r) (hn _ h)
        · exact h
        · have := preAt_here sep a' r'
          rw [← e] at this
          exact absurd this (hno _ h)
      rw [List.append_assoc, List.append_assoc] at e
      obtain ⟨e1, e2⟩ := List.append_inj e hl
      obtain ⟨_, e3⟩ := List.append_inj e2 rfl
      subst e1 e3
      rw [ih g']
theorem at_pre (x y : Str) (k : Nat) : StrLaws.At x y x.length k ↔ PreAt y.cps.toList x.cps.toList k := by
  unfold StrLaws.At PreAt subAt
  have e1 : x.cps.toList.length = x.length := by simp [Str.length]
  have e2 : y.cps.toList.length = y.length := by simp [Str.length]
  rw [e1, e2, beq_iff_eq]
  constructor
  · rintro ⟨h1, h2⟩
    refine ⟨h1, ?_⟩
    have := congrArg Array.toList h2
    rw [Array.toList_extract] at this
    rw [← this, List.extract_eq_drop_take]
    congr 1
    omega
  · rintro ⟨h1, h2⟩
    refine ⟨h1, Array.toList_inj.mp ?_⟩
    rw [Array.toList_extract, List.extract_eq_drop_take, ← h2]
    congr 1
    omega
theorem cut_parts (x y : Str) : ∀ (cuts : List Nat) (a f : Nat), StrLaws.ChainG x y x.length a cuts f → (∀ k, f ≤ k → ¬ StrLaws.At x y x.length k) → a ≤ x.length → Cut y.cps.toList (x.cps.toList.drop a) ((StrLaws.partsFrom x y.length a cuts).map fun p => p.cps.toList)
  | [], a, f, h, hn, ha => by
    have e : f = a := h
    subst e
    have el : x.cps.toList.length = x.length := by simp [Str.length]
    have e1 : (strSub x f x.length).cps.toList = x.cps.toList.drop f := by
      rw [StrLaws.strSub_toList, List.take_of_length_le (by rw [List.length_drop]; omega)]
    show Cut _ _ [(strSub x f x.length).cps.toList]
    rw [e1]
    refine .last fun k hk => hn (f + k) (by omega) ((at_pre x y _).mpr ⟨?_, ?_⟩)
    · have := hk.1
      rw [List.length_drop] at this
      omega
    · have := hk.2
      rw [List.drop_drop] at this
      exact this
  | c :: r, a, f, h, hn, ha => by
    obtain ⟨h1, h2, h3, h4⟩ := h
    have el : x.cps.toList.length = x.length := by simp [Str.length]
    have ey : y.cps.toList.length = y.length := by simp [Str.length]
    obtain ⟨p1, p2⟩ := (at_pre x y c).mp h2
    have ih := cut_parts x y r (c + y.length) f h4 hn (by have := h2.1; omega)
    show Cut _ _ ((strSub x a c).cps.toList :: (StrLaws.partsFrom x y.length (c + y.length) r).map fun p => p.cps.toList)
    have e1 : (strSub x a c).cps.toList = (x.cps.toList.drop a).take (c - a) := StrLaws.strSub_toList x a c
    have e2 : x.cps.toList.drop a = (x.cps.toList.drop a).take (c - a) ++ y.cps.toList ++ x.cps.toList.drop (c + y.length) := by
      have q1 : x.cps.toList.drop a = (x.cps.toList.drop a).take (c - a) ++ (x.cps.toList.drop a).drop (c - a) := (List.take_append_drop _ _).symm
      have q2 : (x.cps.toList.drop a).drop (c - a) = x.cps.toList.drop c := by rw [List.drop_drop]; congr 1; omega
      have q3 : x.cps.toList.drop c = y.cps.toList ++ x.cps.toList.drop (c + y.length) := by
        rw [← p2, ey]
        have : x.cps.toList.drop (c + y.length) = (x.cps.toList.drop c).drop y.length := by rw [List.drop_drop]
        rw [this]
        exact (List.take_append_drop _ _).symm
      rw [List.append_assoc, ← q3, ← q2]
      exact q1
    rw [e1]
    have cc : Cut y.cps.toList ((x.cps.toList.drop a).take (c - a) ++ y.cps.toList ++ x.cps.toList.drop (c + y.length)) ((x.cps.toList.drop a).take (c - a) :: (StrLaws.partsFrom x y.length (c + y.length) r).map fun p => p.cps.toList) := by
      refine .cons (fun k hk hp => ?_) ih
      rw [← e2] at hp
      rw [List.length_take, List.length_drop] at hk
      refine h3 (a + k) (by omega) (by omega) ((at_pre x y _).mpr ⟨?_, ?_⟩)
      · have := hp.1
        rw [List.length_drop] at this
        omega
      · have := hp.2
        rw [List.drop_drop] at this
        exact this
    rw [← e2] at cc
    exact cc
theorem split_cut (x y : Str) (hy : 1 ≤ y.length) (hk : Builtin.Str.strKind y = 1) : Cut y.cps.toList x.cps.toList ((Txt.split x y).map fun p => p.cps.toList) := by
  obtain ⟨f, hG, hn⟩ := StrLaws.occ_tight x y hy
  have kx : 1 ≤ Builtin.Str.strKind x := by
    unfold Builtin.Str.strKind
    split
    · decide
    · split <;> decide
  unfold Txt.split
  split
  · rename_i hc
    refine .last fun k hp => ?_
    rw [Bool.or_eq_true, decide_eq_true_eq, decide_eq_true_eq] at hc
    rcases hc with h | h
    · have := hp.1
      have el : x.cps.toList.length = x.length := by simp [Str.length]
      have ey : y.cps.toList.length = y.length := by simp [Str.length]
      omega
    · omega
  · split
    · rename_i he
      have e0 : occurrences x y 0 x.length (x.length + 1) = [] := List.isEmpty_iff.mp he
      rw [e0] at hG
      have ef : f = 0 := hG
      subst ef
      exact .last fun k hp => hn k (Nat.zero_le _) ((at_pre x y k).mpr hp)
    · rw [StrLaws.partsBetween_eq]
      have := cut_parts x y _ 0 f hG hn (Nat.zero_le _)
      simpa using this
/-- joined texts -/
def joinL (sep : List Nat) : List (List Nat) → List Nat
  | [] => []
  | [a] => a
  | a :: b :: r => a ++ sep ++ joinL sep (b :: r)
theorem join_toList (sep : List Nat) : ∀ (ps : List (List Nat)), Txt.join (strL sep) (ps.map strL) = strL (joinL sep ps) := fun ps => by
  show glued _ _ = _
  rw [StrLaws.glued_eq_join]
  have : ∀ ps : List (List Nat), Str.join (strL sep) (ps.map strL) = strL (joinL sep ps) := fun ps => by
    induction ps with
    | nil => rfl
    | cons a ps ih =>
      cases ps with
      | nil => rfl
      | cons b r =>
        show strL a ++ strL sep ++ Str.join (strL sep) ((b :: r).map strL) = strL (a ++ sep ++ joinL sep (b :: r))
        rw [ih, strL_append, strL_append]
  exact this ps
/-- parts that bear no sign of the separator's middle, or none of its one sign -/
theorem cut_gt : ∀ {ps : List (List Nat)}, ps ≠ [] → (∀ p ∈ ps, 62 ∉ p) → Cut [32, 62, 32] (joinL [32, 62, 32] ps) ps
  | [], h, _ => absurd rfl h
  | [a], _, h => by
    refine .last fun k hp => h a List.mem_cons_self ?_
    obtain ⟨h1, h2⟩ := hp
    have h1 : k + 3 ≤ a.length := h1
    have h2 : (a.drop k).take 3 = [32, 62, 32] := h2
    have : ((a.drop k).take 3)[1]? = some 62 := by rw [h2]; rfl
    rw [List.getElem?_take_of_lt (by decide), List.getElem?_drop] at this
    exact List.mem_of_getElem? this
  | a :: b :: r, _, h => by
    refine .cons (fun k hk hp => ?_) (cut_gt (by simp) fun p hp => h p (List.mem_cons_of_mem _ hp))
    obtain ⟨h1, h2⟩ := hp
    have : (((a ++ [32, 62, 32] ++ joinL [32, 62, 32] (b :: r)).drop k).take 3)[1]? = some 62 := by rw [show [32, 62, 32].length = 3 from rfl] at h2; rw [h2]; rfl
    rw [List.getElem?_take_of_lt (by decide), List.getElem?_drop, List.append_assoc] at this
    by_cases hk1 : k + 1 < a.length
    · rw [List.getElem?_append_left hk1] at this
      exact h a List.mem_cons_self (List.mem_of_getElem? this)
    · rw [List.getElem?_append_right (by omega), show k + 1 - a.length = 0 by omega] at this
      simp at this
theorem cut_blank : ∀ {ps : List (List Nat)}, ps ≠ [] → (∀ p ∈ ps, 32 ∉ p) → Cut [32] (joinL [32] ps) ps
  | [], h, _ => absurd rfl h
  | [a], _, h => by
    refine .last fun k hp => h a List.mem_cons_self ?_
    obtain ⟨h1, h2⟩ := hp
    have h2 : (a.drop k).take 1 = [32] := h2
    have : ((a.drop k).take 1)[0]? = some 32 := by rw [h2]; rfl
    rw [List.getElem?_take_of_lt (by decide), List.getElem?_drop] at this
    exact List.mem_of_getElem? this
  | a :: b :: r, _, h => by
    refine .cons (fun k hk hp => ?_) (cut_blank (by simp) fun p hp => h p (List.mem_cons_of_mem _ hp))
    obtain ⟨h1, h2⟩ := hp
    have : (((a ++ [32] ++ joinL [32] (b :: r)).drop k).take 1)[0]? = some 32 := by rw [show [32].length = 1 from rfl] at h2; rw [h2]; rfl
    rw [List.getElem?_take_of_lt (by decide), List.getElem?_drop, List.append_assoc, List.getElem?_append_left (by omega)] at this
    exact h a List.mem_cons_self (List.mem_of_getElem? this)
theorem map_strL (l : List Str) : (l.map fun p => p.cps.toList).map strL = l := by
  rw [List.map_map]
  exact (List.map_congr_left fun p _ => (strL_of p).symm).trans (List.map_id _)
/-- what split gives, told by its cut -/
theorem split_of {s sep : List Nat} {ps : List (List Nat)} (hs : 1 ≤ sep.length) (hk : Builtin.Str.strKind (strL sep) = 1) (h : Cut sep s ps) : Txt.split (strL s) (strL sep) = ps.map strL := by
  have g := split_cut (strL s) (strL sep) (by rw [strL_length]; exact hs) hk
  rw [strL_toList, strL_toList] at g
  rw [h.uniq g, map_strL]
/-! ### numbers written -/
def numL (i : Int) : List Nat := if i < 0 then 45 :: (Nat.toDigits 10 i.natAbs).map Char.toNat else (Nat.toDigits 10 i.natAbs).map Char.toNat
theorem num_text (i : Int) : Str.ofString (toString i) = strL (numL i) := by
  rw [strL_of (Str.ofString (toString i))]
  congr 1
  unfold numL
  cases i with
  | ofNat m =>
    rw [if_neg (show ¬ Int.ofNat m < 0 from Int.not_lt.mpr (Int.natCast_nonneg m))]
    exact PySem.W.KIN.signs_num m
  | negSucc m =>
    rw [if_pos (Int.negSucc_lt_zero m), signs_ofString]
    show (("-" ++ Nat.repr (m + 1) : String)).toList.map Char.toNat = _
    rw [String.toList_append, List.map_append, Nat.toList_repr]
    rfl
theorem digits_all {m : Nat} : ∀ c ∈ (Nat.toDigits 10 m).map Char.toNat, 48 ≤ c ∧ c ≤ 57 := fun c hc => by
  obtain ⟨ch, hch, e⟩ := List.mem_map.mp hc
  have r := digit_range (Nat.isDigit_of_mem_toDigits (by decide) (by decide) hch)
  rw [← e]
  exact r
/-- a number as the document writes it -/
def isNum (s : List Nat) : Bool := decide (s = [48]) || (let f := if s.head? = some 45 then s.drop 1 else s
  (!f.isEmpty && (!decide (f.head? = some 48) && f.all fun c => decide (48 ≤ c) && decide (c ≤ 57))))
end L2
namespace L2
open PySem PySem.Spec PyProof.Rows PySem.Builtin PySem.Builtin.Str

/-! ### a comprehension whose items are told one by one as values -/
theorem lc_vals {J : It} {own : Nat} {fr : List Nat} {σ : St} {g : TG} {te : TE} {H1 : Hp} {Q : VK} (es : List V) (hsz : es.length ≤ 1000000)
    (hstop : ∀ H, Same H1 H → J.stop es.length H) (hgo : ∀ i H, i < es.length → Same H1 H → J.go i H)
    (turn : ∀ (D : Addr) (i : Nat) (H : Hp) (x : V) (H' : Hp) (y : V) (R : V → Hp → Prop), es[i]? = some y → Same H1 H → H1 D = none → (∃ ys, H D = some (.lst ys)) → J.yld i H x H' →
      (∀ H4, Same H H4 → R y H4) → g x (stLC own fr σ) H' fun σ2 H2 => Kp (stLC own fr σ) σ2 ∧ te σ2 H2 R)
    (fin : ∀ (D : Addr) (H : Hp), Same H1 H → H1 D = none → H D = some (.lst es) → Q (.ref D) H) :
    tLCk own fr g tYes te σ Q J H1 := by
  intro D hD
  refine ⟨fun i m H => m = es.length - i ∧ i ≤ es.length ∧ Same H1 H ∧ H D = some (.lst (es.take i)), ⟨_, rfl, Nat.zero_le _, Same.new hD _, ?_⟩, ?_⟩
  · rw [upd_same]; rfl
  rintro i m H ⟨rfl, hi, hS, hys⟩
  by_cases hlt : i < es.length
  · refine .inr ⟨hgo i H hlt hS, fun x H' hy => ?_⟩
    obtain ⟨d, hd⟩ : ∃ d, es[i]? = some d := ⟨_, List.getElem?_eq_getElem hlt⟩
    refine turn D i H x H' d _ hd hS hD ⟨_, hys⟩ hy fun H4 h4 => ?_
    have e4 : H4 D = some (.lst (es.take i)) := h4 _ _ hys
    have hl : (es.take i).length = i := by rw [List.length_take]; omega
    refine ⟨es.take i, e4, smaller (by omega), es.length - (i + 1), by omega, rfl, hlt, (hS.trans h4).upd hD, ?_⟩
    rw [upd_same, List.take_add_one, hd]; rfl
  · have e : i = es.length := by omega
    subst e
    rw [List.take_length] at hys
    exact .inl ⟨hstop H hS, fin D H hS hD hys⟩
/-! ### texts as lists of signs, what is asked of them -/
theorem starts_minus (s : List Nat) : Txt.startswith (strL s) "-" = decide (s.head? = some 45) := by
  have h := StrLaws.subAt_one (strL s) 45 0
  rw [strL_toList] at h
  have e : (Txt.startswith (strL s) "-" = true) ↔ (s.head? = some 45) := by
    unfold Txt.startswith
    rw [Bool.and_eq_true, decide_eq_true_eq]
    refine Iff.trans h ?_
    rw [List.head?_eq_getElem?]
  by_cases c : s.head? = some 45
  · rw [decide_eq_true c]; exact e.mpr c
  · rw [decide_eq_false c]; exact Bool.eq_false_iff.mpr fun z => c (e.mp z)
theorem slice_1 (s : List Nat) (h : s ≠ []) : Txt.slice (strL s) (some 1) none = strL (s.drop 1) := by
  have hl : 1 ≤ s.length := by
    cases s with
    | nil => exact absurd rfl h
    | cons _ _ => simp
  have e := StrLaws.sliceText_from (x := strL s) (i := 1) (by rw [strL_toList]; omega)
  rw [strL_toList, List.take_of_length_le (by rw [List.length_drop]; omega)] at e
  exact e
theorem slice_to1 (s : List Nat) (h : s ≠ []) : Txt.slice (strL s) none (some 1) = strL (s.take 1) := by
  have hl : 1 ≤ s.length := by
    cases s with
    | nil => exact absurd rfl h
    | cons _ _ => simp
  have e := StrLaws.sliceText_to (x := strL s) (j := 1) (by rw [strL_toList]; omega)
  rw [strL_toList, List.drop_zero] at e
  exact e
theorem slice_nil (l u : Option Int) (h : Txt.slice (strL []) l u = Txt.slice (strL []) l u := rfl) : Txt.slice (strL []) l u = strL [] := by
  have := Txt.slice_le (strL []) l u
  rw [strL_length] at this
  have z : (Txt.slice (strL []) l u).cps.toList.length = 0 := by
    have : (Txt.slice (strL []) l u).length = 0 := by simpa using this
    simpa [Str.length] using this
  rw [strL_of (Txt.slice (strL []) l u), List.length_eq_zero_iff.mp z]
abbrev figs : Str := "0123456789"
theorem in_figs (c : Nat) : (!(occurrences figs ⟨#[c]⟩ 0 figs.length 1).isEmpty) = (decide (48 ≤ c) && decide (c ≤ 57)) := by
  rw [StrLaws.found_one, ← Bool.decide_and]
  apply decide_eq_decide.mpr
  show c ∈ [48, 49, 50, 51, 52, 53, 54, 55, 56, 57] ↔ _
  simp
  omega
/-- a number that is small enough to be written -/
def Sm (i : Int) : Prop := i.natAbs.log2 < 500
theorem Sm.up {i : Int} (h : Sm i) : i.natAbs.log2 < 1920 := Nat.lt_of_lt_of_le h (by decide)
theorem Sm.len {i : Int} (h : Sm i) : (numL i).length ≤ 501 := by
  have := PySem.int_text_length_le (k := 500) (by decide) h
  rw [← PySem.ofString_length, num_text, strL_length] at this
  exact this
theorem Sm.of {i : Int} (h1 : -(10 : Int) ^ 70 ≤ i) (h2 : i ≤ (10 : Int) ^ 70) : Sm i := by
  unfold Sm
  by_cases hz : i.natAbs = 0
  · rw [hz]; decide
  · rw [Nat.log2_lt hz]
    have : i.natAbs ≤ 10 ^ 70 := by omega
    exact Nat.lt_of_le_of_lt this (by decide)
theorem numL_free {i : Int} {c : Nat} (h : c ∈ numL i) : c = 45 ∨ (48 ≤ c ∧ c ≤ 57) := by
  unfold numL at h
  split at h
  · rcases List.mem_cons.mp h with h | h
    · exact .inl h
    · exact .inr (digits_all c h)
  · exact .inr (digits_all c h)
end L2
namespace L2
open PySem PySem.Spec PyProof.Rows

/-! ### a comprehension whose element may raise -/
theorem noteFrame_congr {e : Value} {a b : Env} (h : a.frame = b.frame) : noteFrame e a = noteFrame e b := by
  unfold noteFrame PySem.frameOf
  rw [h]
theorem Un.fly2 {l : List Env} {H H' : Hp} {h h1 h2 B : Heap} (u : Un (frs l) [] H H' h h1) (hB : ∀ b o, h.get? b = some o → H b = none → b ∉ frs l → B.get? b = some o)
    (tB : ∀ b o, h.get? b = some o → b ∉ frs l → ∃ o', B.get? b = some o') (st : B.StaysIn h2)
    (up : ∀ b o, b ∈ frs l → h1.get? b = some o → ∃ sl, h2.get? b = some { o with slots := sl }) : Un (frs l) [] H H' h h2 where
  keep := fun b o e n hb _ => st b o (hB b o e n hb)
  slot := fun b o e n hb _ => by
    obtain ⟨sl, e1⟩ := u.slot b o e n hb (by simp)
    obtain ⟨sl', e3⟩ := up b _ hb e1
    exact ⟨sl', e3⟩
  free := fun b o e n _ => u.free b o e n (by simp)
  there := fun b o e _ => by
    by_cases hb : b ∈ frs l
    · obtain ⟨o', e1⟩ := u.there b o e (by simp)
      obtain ⟨sl', e3⟩ := up b _ hb e1
      exact ⟨_, e3⟩
    · obtain ⟨o', e1⟩ := tB b o e hb
      exact ⟨o', st b o' e1⟩
  tups := u.tups
  frzs := u.frzs
  tbls := u.tbls
theorem hid_none {B : Heap} {C a : Addr} (h : B.get? a = none) : (PySem.W.hideAll B [C]).get? a = none := by
  cases q : (PySem.W.hideAll B [C]).get? a with
  | none => rfl
  | some o => rw [PySem.W.of_hideAll _ q] at h; cases h
theorem frames_but {B h h2 : Heap} {C : Addr} {oc : Obj} (hC : B.get? C = some oc) (sb : Heap.SameBut C h h2) : ∀ {l : List Env}, h.FunFrames B l → h2.FunFrames (PySem.W.hideAll B [C]) l
  | [], _ => trivial
  | env :: _, ⟨hk, ⟨L, o, hf, hn, ho, hd⟩, hr⟩ => ⟨hk, ⟨L, o, hf, hid_none hn, (sb.2 L fun z => by rw [z, hC] at hn; cases hn).trans ho, hd⟩, frames_but hC sb hr⟩
theorem held_but {B h h2 : Heap} {l : List Env} {e L C : Addr} {cls a0 : Value} {oc : Obj} (x : Heap.HeldW B l e cls a0 L h) (hC : B.get? C = some oc) (sb : Heap.SameBut C h h2) : Heap.HeldW (PySem.W.hideAll B [C]) l e cls a0 L h2 := by
  obtain ⟨k1, k2, k3, oe, vs, T, oT, ts, he, hcls, hd, h1, hnT, hTe, hT, hdT, h3⟩ := x
  have ne : ∀ {a : Addr}, B.get? a = none → a ≠ C := fun q z => by rw [z, hC] at q; cases q
  refine ⟨fun b o q => ?_, hid_none k2, frames_but hC sb k3, oe, vs, T, oT, ts, (sb.2 e (ne k2)).trans he, hcls, hd, h1, hid_none hnT, hTe, (sb.2 T (ne hnT)).trans hT, hdT, h3⟩
  have hb : b ≠ C := fun z => by
    rw [z, PySem.W.hideAll_none [C] (List.mem_singleton.mpr rfl)] at q
    cases q
  exact (sb.2 b hb).trans (k1 b o (PySem.W.of_hideAll _ q))
section
variable {M : Model} {A : Around} {E : Value → Shared → Prop} {s : Shared}
theorem setFlight_any {base : Heap} {l : List Env} {e : Addr} {cls a0 fl : Value} {fr : Option Addr} {Q : Unit → Shared → Prop} (hkb : base.StaysIn s.heap) (hl : s.heap.FunFrames base l) (ht : s.heap.TracedAtW base e cls a0 fl)
    (h : ∀ h' fl', base.StaysIn h' → h'.FunFrames base l → h'.TracedAtW base e cls a0 fl' → s.heap.UpToSlots h' → Q () { s with heap := h' }) : wpAny M A (setFlight (.ref e) fr) Q E s := by
  obtain ⟨oe, vs, T, oT, ts, he, hcls, hd, h1, hnT, hTe, hT, hdT, h3⟩ := ht
  have hsz3 : 3 < ts.size := (Array.getElem?_eq_some_iff.mp h3).1
  have other : ∀ b, b ≠ T → (s.heap.update T (Obj.mapFields (·.setIfInBounds 3 (fr.elim Value.none fun f => rawInt f)))).get? b = s.heap.get? b := fun b hb => Heap.get?_update_other _ _ (Ne.symm hb)
  have noRecord : ∀ b o, s.heap.get? b = some o → (∀ vs, o.data ≠ .fields vs) → b ≠ T := fun b o hb hnf q => by
    rw [q, hT] at hb
    cases hb
    exact hnf ts hdT
  unfold setFlight
  refine wpAny_bind (wpAny_field he hd h1 ?_)
  rw [if_pos (show (Value.ref T != Value.none) = true from by simp)]
  refine wpAny_setField hT hdT hsz3 (h _ (fr.elim Value.none fun f => rawInt f) (fun b o hbo => (other b fun q => by rw [q, hnT] at hbo; cases hbo).trans (hkb b o hbo))
    (hl.of_keeps fun b o hb hnf => ⟨o, (other b (noRecord b o hb hnf)).trans hb, rfl⟩) ?_ fun b o hb hnf => ⟨o.slots, (other b (noRecord b o hb hnf)).trans hb⟩)
  exact ⟨oe, vs, T, _, _, (other e (Ne.symm hTe)).trans he, hcls, hd, h1, hnT, hTe, Heap.get?_update_self _ hT (Obj.isFreed_of_fields (Obj.data_mapFields hdT _)), Obj.data_mapFields hdT _, by simp [hsz3]⟩
theorem leaves_any {base : Heap} {env : Env} {outer : List Env} {L e : Addr} {cls a0 fl : Value} {Q : Unit → Shared → Prop} (hfr : A.frames = some (env :: outer)) (hf : env.frame = some L)
    (k1 : base.StaysIn s.heap) (k2 : base.get? e = none) (k3 : s.heap.FunFrames base (env :: outer)) (k4 : s.heap.TracedAtW base e cls a0 fl)
    (hQ : ∀ h', Heap.FlyingW base outer e cls a0 h' → s.heap.UpToSlots h' → Q () { s with heap := h' }) : wpAny M A (leaving env (.ref e)) Q E s := by
  by_cases hfl : fl = rawInt L
  · subst hfl
    unfold leaving
    refine wpAny_bind (wpAny_noteFrame_againW hf k4 ?_)
    refine wpAny_landsW ⟨k1, k2, k3, k4⟩ fun h' hfl hup => ?_
    obtain ⟨q1, q2, ⟨_, _, q3⟩, q4⟩ := hfl
    exact hQ h' ⟨q1, q2, q3, q4⟩ hup
  · obtain ⟨oe, vs, T, oT, ts, he, ⟨hcls, h0⟩, hd, h1, hnT, hTe, hT, hdT, h3⟩ := k4
    subst hcls
    unfold leaving noteFrame
    simp only [hf]
    refine wpAny_bind (wpAny_bind (wpAny_field he hd h1 ?_))
    rw [if_pos (show (Value.ref T != Value.none) = true from by simp)]
    refine wpAny_bind (wpAny_field hT hdT h3 ?_)
    rw [if_neg (show ¬ ((fl == rawInt L) = true) from fun z => hfl (by simpa using z))]
    refine wpAny_bind (wpAny_setField hT hdT (Array.getElem?_eq_some_iff.mp h3).1 ?_)
    have other : ∀ b, b ≠ T → (s.heap.update T (Obj.mapFields (·.setIfInBounds 3 Value.none))).get? b = s.heap.get? b := fun b hb => Heap.get?_update_other _ _ (Ne.symm hb)
    have noRecord : ∀ b o, s.heap.get? b = some o → (∀ vs, o.data ≠ .fields vs) → b ≠ T := fun b o hb hnf q => by
      rw [q, hT] at hb
      cases hb
      exact hnf ts hdT
    refine wpAny_newEntryW hfr (k3.of_keeps fun b o hb hnf => ⟨o, (other b (noRecord b o hb hnf)).trans hb, rfl⟩) hf ((other e (Ne.symm hTe)).trans he)
      (fun b o hbo => (other b fun q => by rw [q, hnT] at hbo; cases hbo).trans (k1 b o hbo)) k2 hd (Array.getElem?_eq_some_iff.mp h1).1 h0
      fun h' ⟨x1, ⟨_, _, x2⟩, x3, x4⟩ => hQ h' ⟨x1, k2, x2, x3⟩ fun b o hb hnf => x4 b o ((other b (noRecord b o hb hnf)).trans hb) hnf
end
section
variable {P : Program} {w : World} {K : PySem.W.Frag} {mg : Str → Option Value} {base : Heap} {N : List Str} {qual : Str} {scope : Scope} {f : Addr} {cdv : Value} {A : Around} {outer : List Env} {s : Shared} {H : Hp} {E : XK}
/-- what must be so when a comprehension's element raises: the error is noted, the names are let go, the error goes on -/
def LcErr (X : Cx) (C : Addr) : Value → Shared → Prop := fun x s'' => ∃ m, s''.heap.Ns C m ∧ ∀ h', Heap.SameBut C s''.heap h' → ∀ ce : Env, ce.locals = C → wpAny (model X.prog X.w) X.A (PySem.passOn "comprehension.variables-let-go" x ce : Sem Value) (fun _ _ => False) X.xe { s'' with heap := h' }
theorem lc_flies {pins : List (Addr × Obj)} {σ : St} {H1 : Hp} {s1 : Shared} {C : Addr} {m : Str → Option Value} {e : Value} {s' : Shared} {cenv : Env}
    (I : Inv (cxOf (CX1 P w) P w K mg base N qual scope f cdv A outer s H E) pins σ H1 s1) (hn : s1.heap.Ns C m) (hC : H1 C = none) (hCs : C ∉ frs (envOfC qual scope s.heap.objs.size f cdv :: outer)) (hCn : s.heap.objs.size ≤ C) (hfr : cenv.frame = some s.heap.objs.size)
    (hx : CX1 P w (envOfC qual scope s.heap.objs.size f cdv :: outer) H1 s1 E e s') :
    notedBy (model P w) (A.deeper (envOfC qual scope s.heap.objs.size f cdv)) cenv (LcErr (cxOf (CX1 P w) P w K mg base N qual scope f cdv A outer s H E) C) e s' := by
  obtain ⟨ea, Cc, a0, B, H2, rfl, os', bare', un', hokB, inB, thB, hfl, hea, hE⟩ := hx
  have un1 : Un (frs outer) [] H H1 s.heap s1.heap := I.base
  have notf : ∀ b o, s.heap.get? b = some o → b ∉ frs outer → b ∉ frs (envOfC qual scope s.heap.objs.size f cdv :: outer) := fun b o e hb z => by
    rcases List.mem_cons.mp (I.stkSub b z) with q | q
    · exact absurd (Heap.lt_size e) (by rw [q]; exact Nat.lt_irrefl _)
    · exact hb q
  have frin : ∀ b ∈ frs outer, b ∈ frs (envOfC qual scope s.heap.objs.size f cdv :: outer) := fun c hc => by
    obtain ⟨env, he, ha⟩ := List.mem_filterMap.mp hc
    exact frs_mem (List.mem_cons_of_mem _ he) ha
  have unA : Un (frs outer) [] H H2 s.heap s'.heap := un1.past (L := s.heap.objs.size) un' (fun c hc => List.mem_cons.mp (I.stkSub c hc)) frin (fun o z => absurd (Heap.lt_size z) (Nat.lt_irrefl _))
  obtain ⟨oC, es, ep, hoC, rC⟩ := hn
  have hBC : B.get? C = some oC := inB C oC hoC hC hCs
  have hC2 : H2 C = none := un'.free C oC hoC hC (by simp)
  have neC : ∀ b o, s.heap.get? b = some o → b ≠ C := fun b o q z => absurd (Heap.lt_size q) (by rw [z]; exact Nat.not_lt.mpr hCn)
  unfold notedBy
  rw [noteFrame_congr (b := envOfC qual scope s.heap.objs.size f cdv) hfr]
  refine wpAny_looks_onW (env := envOfC qual scope s.heap.objs.size f cdv) (outer := outer) I.ok.frames rfl hfl fun h1 hh hup => ?_
  refine ⟨m, ⟨oC, es, ep, hh.1 _ _ hBC, rC⟩, fun h2 sb ce hce => ?_⟩
  have hh2 := held_but hh hBC sb
  obtain ⟨k1, k2, k3, k4⟩ := id hh2
  obtain ⟨oe, vs, T, oT, ts, he, hcls, hd, h1', _⟩ := id k4
  unfold PySem.passOn
  refine wpAny_bind (wpAny_field he hd h1' ?_)
  rw [if_neg (show ¬ ((Value.ref T == Value.none) = true) from by simp)]
  have go : wpAny (model P w) (A.deeper (envOfC qual scope s.heap.objs.size f cdv)) (setFlight (.ref ea) ce.frame) (fun _ s3 => (cxOf (CX1 P w) P w K mg base N qual scope f cdv A outer s H E).xe (.ref ea) s3) (cxOf (CX1 P w) P w K mg base N qual scope f cdv A outer s H E).xe { s' with heap := h2 } := by
    refine setFlight_any (s := { s' with heap := h2 }) k1 k3 k4 fun h3 fl3 q1 q3 q4 up3 => ?_
    refine leaves_any (s := { s' with heap := h3 }) (env := envOfC qual scope s.heap.objs.size f cdv) (outer := outer) (L := s.heap.objs.size) I.ok.frames rfl q1 k2 q3 q4 fun h4 hfl4 up4 => ?_
    have inB2 : ∀ b o, s.heap.get? b = some o → H b = none → b ∉ frs outer → (PySem.W.hideAll B [C]).get? b = some o := fun b o e n hb =>
      PySem.W.hideAll_get _ (inB b o (un1.keep b o e n hb (by simp)) (un1.free b o e n (by simp)) (notf b o e hb)) fun z => neC b o e (List.mem_singleton.mp z)
    have thB2 : ∀ b o, s.heap.get? b = some o → b ∉ frs outer → ∃ o', (PySem.W.hideAll B [C]).get? b = some o' := fun b o e hb => by
      obtain ⟨o', e1⟩ := un1.there b o e (by simp)
      obtain ⟨o2, e2⟩ := thB b o' e1 (notf b o e hb)
      exact ⟨o2, PySem.W.hideAll_get _ e2 fun z => neC b o e (List.mem_singleton.mp z)⟩
    have hokB2 : HOk P w H2 (PySem.W.hideAll B [C]) := fun a o ea2 => by
      refine (hokB a o ea2).stay (fun b u hb e => PySem.W.hideAll_get _ e fun z => ?_) (fun _ q => q) fun _ _ q => q
      rw [List.mem_singleton.mp z] at hb
      rcases hb with rfl | hb
      · rw [ea2] at hC2; cases hC2
      · rw [hb] at hC2; cases hC2
    refine ⟨ea, Cc, a0, PySem.W.hideAll B [C], H2, rfl, os'.trans I.os, bare', ?_, hokB2, inB2, thB2, hfl4, hea, hE⟩
    refine unA.fly2 inB2 thB2 hfl4.1 fun b o hb e => ?_
    obtain ⟨bn, o', e2, nf⟩ := hfl.2.2.1.mem (frin b hb)
    rw [e] at e2
    cases e2
    obtain ⟨sl1, e1⟩ := hup b o e nf
    have e3 : h2.get? b = some { o with slots := sl1 } := (sb.2 b fun z => by rw [z, hBC] at bn; cases bn).trans e1
    obtain ⟨sl2, e4⟩ := up3 b _ e3 nf
    obtain ⟨sl3, e5⟩ := up4 b _ e4 nf
    exact ⟨sl3, e5⟩
  first
    | exact wpAny_bind (wpAny_pure (wpAny_bind (wpAny_mono go (fun _ _ q => wpAny_throw q) fun _ _ q => q)))
    | exact wpAny_bind (wpAny_mono go (fun _ _ q => wpAny_throw q) fun _ _ q => q)
end
def cxLCX (X : Cx) (N : List Str) (scope : Scope) (cl : List (Str × Addr)) (C : Addr) (s : Shared) (H : Hp) (ex : List Addr) (pn : List (Addr × Obj)) (xe : Value → Shared → Prop) : Cx where
  prog := X.prog
  w := X.w
  K := X.K
  mg := X.mg
  base := X.base
  A := X.A
  N := N
  s₀ := s
  H₀ := H
  env := compEnvC scope cl C X.env
  outer := X.stack
  stack := X.stack
  ex := ex
  fn := fun _ => false
  calm := X.calm
  pn := pn
  xe := xe

theorem compLoop_anyX {prog : Program} {w : World} {A : Around} {R : Result → Shared → Prop} {s : Shared} {elt target iter : Expr} {ifs : List Expr} {scope : Scope} {pos : Pos} {it acc : Value} {env : Env} (I : Nat → Shared → Prop)
    (turn : ∀ n s, I n s → wpAny (model prog w) A (pyNext it) (fun r s₁ => match r with
      | none => R (.ok .next) s₁
      | some v => wpAny (model prog w) A (letOwnedTupleGo target it v) (fun _ s₁' => wpAny (model prog w) A (assign target env v) (fun _ s₂ =>
          wpAny (model prog w) A (forIn ifs true fun c r => if r = true then do let ok ← isTrue c env (eval c env); pure (ForInStep.yield ok) else pure (ForInStep.yield r)) (fun ok s₃ =>
            if ok = true then wpAny (model prog w) A (eval elt env) (fun x s₄ =>
              wpAny (model prog w) A (call (.builtin "list.append") [acc, x]) (fun _ s₅ => ∃ m, m < n ∧ I m s₅) (notedBy (model prog w) A env fun x s' => R (.error x) s') s₄) (notedBy (model prog w) A env fun x s' => R (.error x) s') s₃
            else ∃ m, m < n ∧ I m s₃) (notedBy (model prog w) A env fun x s' => R (.error x) s') s₂) (notedBy (model prog w) A env fun x s' => R (.error x) s') s₁') (notedBy (model prog w) A env fun x s' => R (.error x) s') s₁) (notedBy (model prog w) A env fun x s' => R (.error x) s') s)
    (n : Nat) (h : I n s) : codeAny (model prog w) A (.compLoop (.ListComp elt [⟨target, iter, ifs, 0⟩] scope pos) 0 it acc env) R s := by
  refine codeAny_loop rfl I (fun n s hI => ?_) n h
  show wpAny _ A ((compTurn (.ListComp elt [⟨target, iter, ifs, 0⟩] scope pos) 0 it acc env).onRaise (fun x => do noteFrame x env; theTreesLotGoes x)) _ _ s
  refine wpAny_noted ?_
  rw [compTurn_list]
  refine wpAny_bind (wpAny_standAt (wpAny_bind (wpAny_mono (turn n s hI) (fun r s₁ h₁ => ?_) fun _ _ h' => h')))
  cases r with
  | none => exact wpAny_pure h₁
  | some v =>
    refine wpAny_bind (wpAny_mono h₁ (fun _ s₁' h₁' => ?_) fun _ _ h' => h')
    refine wpAny_bind (wpAny_mono h₁' (fun _ s₂ h₂ => wpAny_bind (wpAny_mono h₂ (fun ok s₃ h₃ => ?_) fun _ _ h' => h')) fun _ _ h' => h')
    cases ok with
    | false => exact wpAny_pure ⟨rfl, h₃⟩
    | true =>
      exact wpAny_bind (wpAny_bind (wpAny_mono h₃ (fun x s₄ h₄ => wpAny_bind (wpAny_mono h₄ (fun _ s₅ h₅ => wpAny_pure (wpAny_pure ⟨rfl, h₅⟩)) fun _ _ h' => h')) fun _ _ h' => h'))

theorem lc_coreX {X : Cx} {elt target iter : Expr} {ifs : List Expr} {scope : Scope} {pos : Pos} {cl : List (Str × Addr)} {ownN frN : List Str} {fr : List Nat} {g : TG} {tc : TT} {te : TE} {pins : List (Addr × Obj)} {σ : St} {H2 : Hp} {s2 : Shared}
    {Q : VK} {E : Value → Shared → Prop} {Ex : XK} {RR : Value → Addr → Result → Shared → Prop} {it : Addr} {fp : List Addr} {tn : Nat → Heap → Prop} {J : It}
    (hc : X.calm = true) (L : LcOk X scope cl fr frN)
    (hb : ∀ (C : Addr) (s : Shared) (H : Hp) (ex : List Addr) (pn : List (Addr × Obj)) (xe : Value → Shared → Prop), Passes (CX1 X.prog X.w) (cxLCX X (ownN ++ frN) scope cl C s H ex pn xe) Ex → PG (cxLCX X (ownN ++ frN) scope cl C s H ex pn xe) target g ∧ PF (cxLCX X (ownN ++ frN) scope cl C s H ex pn xe) ifs tc ∧ PE (cxLCX X (ownN ++ frN) scope cl C s H ex pn xe) elt te)
    (I2 : Inv X pins σ H2 s2) (T : Turn X.prog X.w X.K target J fp it tn) (st2 : tn 0 s2.heap) (f2 : ∀ b ∈ fp, FpOk X pins H2 b)
    (rest : ∀ D, H2 D = none → ∃ W : Nat → Nat → Hp → Prop, (∃ m, W 0 m (upd H2 D (.lst []))) ∧ ∀ i m H, W i m H →
      (J.stop i H ∧ Q (.ref D) H) ∨ (J.go i H ∧ ∀ x H', J.yld i H x H' → g x (stLC ownN.length fr σ) H' fun σ2 H2 => Kp (stLC ownN.length fr σ) σ2 ∧ tc σ2 H2 fun b H3 =>
        if b = true then te σ2 H3 fun y H4 => ∃ ys, H4 D = some (.lst ys) ∧ ys.length < sizeLine ∧ ∃ m', m' < m ∧ W (i + 1) m' (upd H4 D (.lst (ys ++ [y])))
        else ∃ m', m' < m ∧ W (i + 1) m' H3))
    (hRR : ∀ (D C : Addr) (s' : Shared) (H' : Hp) (m : Str → Option Value), Inv X pins σ H' s' → s'.heap.Ns C m → FpOk X pins H' C → Q (.ref D) H' → RR (.ref D) C (.ok .next) s')
    (hRX : ∀ (D C : Addr) (s1 : Shared) (H1 : Hp) (m : Str → Option Value) (e : Value) (s' : Shared), Inv X pins σ H1 s1 → s1.heap.Ns C m → H1 C = none → C ∉ frs X.stack → X.s₀.heap.objs.size ≤ C → CX1 X.prog X.w X.stack H1 s1 Ex e s' → notedBy (model X.prog X.w) X.A (compEnvC scope cl C X.env) (fun x s'' => RR (.ref D) C (.error x) s'') e s') :
    wpAny (model X.prog X.w) X.A (newList []) (fun acc s₃ => wpAny (model X.prog X.w) X.A (newFunctionEnv scope X.env.globals cl [] X.env.qual none .none (some X.env)) (fun cenv s₄ =>
      codeAny (model X.prog X.w) X.A (.compStart (.ListComp elt [⟨target, iter, ifs, 0⟩] scope pos) 0 (.ref it) acc { cenv with scope := relabel scope X.env }) (RR acc cenv.locals) s₄) E s₃) E s2 := by
  have hfp : ∀ b ∈ fp, b < s2.heap.objs.size := fun b hb' => by
    obtain ⟨o, e, _⟩ := T.obj 0 _ st2 b hb'
    exact Heap.lt_size e
  refine wpAny_newObj_type (wpAny_newFunctionEnv L.nocell (by intro y hy; simp at hy) (fun h₁ hns₁ hsb₁ => ?_) L.kind) (by show 0 ≤ sizeLine; exact Nat.zero_le _)
  have hD0 : H2 s2.heap.objs.size = none := I2.hok.fresh (Nat.le_refl _)
  obtain ⟨W, ⟨m0, w0⟩, turn⟩ := rest s2.heap.objs.size hD0
  have hlt0 : ∀ {b : Addr} {o : Obj}, s2.heap.get? b = some o → b ≠ s2.heap.objs.size := fun e => Nat.ne_of_lt (Heap.lt_size e)
  have I3 : Inv X pins σ (upd H2 s2.heap.objs.size (.lst [])) { s2 with heap := s2.heap.push { cls := .type "list", dict := none, data := .seq ([] : List Value).toArray } } :=
    I2.laid (t' := s2.toks) (fun b u e => Heap.get?_push_of_some _ e) (Nat.le_refl _) ⟨Nat.zero_le _, [], 0, .nil, Heap.get?_push_size _ rfl⟩
  dsimp only at hns₁ hsb₁ ⊢
  generalize hH3 : s2.heap.push { cls := .type "list", dict := none, data := .seq ([] : List Value).toArray } = h3 at hns₁ hsb₁ I3 ⊢
  generalize hs3 : ({ s2 with heap := h3 } : Shared) = s3 at I3
  have e3 : s3.heap = h3 := by rw [← hs3]
  have sz3 : h3.objs.size = s2.heap.objs.size + 1 := by rw [← hH3, Heap.size_push]
  generalize hHD : upd H2 s2.heap.objs.size (.lst []) = H3 at I3 w0
  have old : ∀ b o, h3.get? b = some o → h₁.get? b = some o := fun b o e => hsb₁.extBut b o (Nat.ne_of_lt (Heap.lt_size e)) (Heap.get?_push_of_some _ e)
  have old3 : ∀ b o, s3.heap.get? b = some o → h₁.get? b = some o := fun b o e => old b o (by rw [← e3]; exact e)
  have old2 : ∀ b o, s2.heap.get? b = some o → h3.get? b = some o := fun b o e => hH3 ▸ Heap.get?_push_of_some _ e
  have ltC : ∀ {b : Addr} {o : Obj}, s3.heap.get? b = some o → b ≠ h3.objs.size := fun {b o} e => Nat.ne_of_lt (by rw [← e3]; exact Heap.lt_size e)
  have hCn : H3 h3.objs.size = none := I3.hok.fresh (by rw [e3]; exact Nat.le_refl _)
  have stk : ∀ b ∈ frs X.stack, b = X.env.locals ∨ b ∈ X.fs := fun b hb' => List.mem_cons.mp (I3.stkSub b hb')
  have cellOld : ∀ x c, cl.lookup x = some c → ∃ v, s3.heap.IsCell c v := fun x c e => I3.cell x c (L.sub x c e)
  let X' := cxLCX X (ownN ++ frN) scope cl h3.objs.size s3 H3 fp (X.pn ++ pins) (notedBy (model X.prog X.w) X.A (compEnvC scope cl h3.objs.size X.env) (fun x s'' => RR (.ref s2.heap.objs.size) h3.objs.size (.error x) s''))
  have fC : FpOk X pins H3 h3.objs.size := I3.fpOk (by rw [e3]; exact Nat.le_refl _) hCn
  have okX : X'.Ok := by
    refine ⟨I3.ok.mod, ?_, I3.ok.glob, I3.ok.blt, ?_, fun x y c h1 h2 => I3.ok.inj x y c (L.sub _ _ h1) (L.sub _ _ h2), fun x hx => ?_, fun x c h _ => ?_, I3.ok.hd, I3.ok.frames, .inl rfl, fun b hb' => ?_, fun b o e => I3.bs b o e, ?_, fun b o e hb' => ?_, fun b hb' hf => ?_, I3.stack, fun b hb' => I3.stkFree b hb'⟩
    · show (relabel scope X.env).kind = .function
      exact L.kind
    · show s3.heap.objs.size ≤ h3.objs.size
      rw [e3]; exact Nat.le_refl _
    · have hx' : (relabel scope X.env).names.lookup x = some .cell ∨ (relabel scope X.env).names.lookup x = some .free := hx
      show ∃ c, cl.lookup x = some c
      rcases hx' with z | z
      · have q := lookup_all L.has z
        simp only [Bool.or_eq_true, Bool.and_eq_true, bne_iff_ne, ne_eq, not_true_eq_false, false_and, false_or] at q
        exact Option.isSome_iff_exists.mp q
      · have q := lookup_all L.has z
        simp only [Bool.or_eq_true, Bool.and_eq_true, bne_iff_ne, ne_eq, not_true_eq_false, and_false, false_or] at q
        exact Option.isSome_iff_exists.mp q
    · exact absurd (show false = true from h) Bool.false_ne_true
    · refine ⟨Nat.ne_of_lt (by show b < h3.objs.size; rw [sz3]; exact Nat.lt_succ_of_lt (hfp b hb')), fun x c e z => ?_⟩
      exact (f2 b hb').2.2.2.2.1 x c (L.sub x c e) z
    · show X.base.objs.size ≤ s3.heap.objs.size
      exact Nat.le_trans I3.ok.bsz I3.sz
    · have q := I2.bs b o e
      rcases (f2 b hb').2.2.2.1 with z | z
      · exact I2.ok.noex b o e z
      · exact absurd (Nat.lt_of_lt_of_le (Heap.lt_size e) (Nat.le_trans I2.ok.bsz z)) (Nat.lt_irrefl _)
    · rcases stk b hf with z | z
      · exact (f2 b hb').2.1 z
      · exact (f2 b hb').2.2.1 z
  have I4 : Inv X' [] (stLC ownN.length fr σ) H3 { s2 with heap := h₁, toks := s2.toks + ([] : List (Str × Value)).length } := by
    refine ⟨okX, ?_, ?_, Un.kept old3, ⟨_, hns₁, fun i x v h1 h2 h3' => ?_⟩, fun x c e => ?_, hCn, fun x c e => I3.freeC x c (L.sub x c e), fun p hp => ?_, I3.hok.kept old3, ?_⟩
    · show s2.os = s3.os
      rw [← hs3]
    · have b3 := I3.bare
      rw [← hs3] at b3
      exact b3
    · have hlen : (List.replicate ownN.length (none : Option V)).length = ownN.length := List.length_replicate
      by_cases hi : i < ownN.length
      · rw [stLC, List.getElem?_append_left (by rw [hlen]; exact hi), List.getElem?_replicate, if_pos hi] at h2
        cases h2
      · rw [stLC, List.getElem?_append_right (by rw [hlen]; omega), hlen] at h2
        have h1' : (ownN ++ frN)[i]? = some x := h1
        rw [List.getElem?_append_right (by omega)] at h1'
        obtain ⟨j, hj, hNj, hk, hk', hl⟩ := (L.capt h3.objs.size).get h1'
        rw [List.getElem?_map, hj] at h2
        have h2' : (σ[j]?).getD none = some v := by simpa using h2
        have hσ : σ[j]? = some (some v) := by
          cases q : σ[j]? with
          | none => rw [q] at h2'; cases h2'
          | some z => rw [q] at h2'; exact congrArg some h2'
        obtain ⟨m3, hn3, hl3⟩ := I3.loc
        obtain ⟨u, r, lk⟩ := hl3 j x v hNj hσ (.inr (.inl hk))
        refine ⟨u, r, ?_⟩
        rcases lk with ⟨k1, _⟩ | ⟨_, c, hc1, hc2⟩
        · rw [hk] at k1; cases k1
        · refine .inr ⟨.inl hk', c, hl.trans hc1, ?_⟩
          obtain ⟨oc, hoc, hd⟩ := hc2
          exact ⟨oc, old3 c oc hoc, hd⟩
    · obtain ⟨v, oc, hoc, hd⟩ := cellOld x c e
      exact ⟨v, oc, old3 c oc hoc, hd⟩
    · have hp' : p ∈ X.pn ++ pins := by
        rcases List.mem_append.mp hp with z | z
        · exact z
        · exact absurd z (by simp)
      obtain ⟨e, n, ne, nf, d⟩ := I3.pin p hp'
      refine ⟨old3 _ _ e, n, ltC e, fun z => ?_, d⟩
      rcases stk _ z with q | q
      · exact ne q
      · exact nf q
    · show (stLC ownN.length fr σ).length = (ownN ++ frN).length
      rw [stLC_length, List.length_append, (L.capt 0).length]
  have st4 : tn 0 h₁ := T.keep 0 _ _ st2 fun b _ o e => old b o (old2 b o e)
  have fr4 : ∀ b ∈ fp, H3 b = none := fun b hb' => by
    rw [← hHD, upd_ne (Nat.ne_of_lt (hfp b hb'))]
    exact (f2 b hb').1
  have stat : ∀ {H' : Hp}, (∀ b ∈ fp, H' b = none) → ∀ b ∈ fp, FpOk X' [] H' b := fun {H'} hn b hb' => by
    refine ⟨hn b hb', (okX.exf b hb').1, okX.exfs b hb', .inl hb', (okX.exf b hb').2, fun p hp => ?_⟩
    have hp' : p ∈ X.pn ++ pins := by
      rcases List.mem_append.mp hp with z | z
      · exact z
      · exact absurd z (by simp)
    exact (f2 b hb').2.2.2.2.2 p hp'
  have finish : ∀ {s' : Shared} {H' : Hp}, Inv X' [] (stLC ownN.length fr σ) H' s' → Q (.ref s2.heap.objs.size) H' → RR (.ref s2.heap.objs.size) h3.objs.size (.ok .next) s' := fun {s' H'} I' q => by
    obtain ⟨m, hn, _⟩ := id I'.loc
    have I5 : Inv X pins σ H' s' := I3.call' (ch := fp) I'.os I'.base I'.hok I'.bare fun b hb' => ⟨(f2 b hb').2.2.2.1, (f2 b hb').2.1, (f2 b hb').2.2.2.2.1, (f2 b hb').2.2.2.2.2⟩
    exact hRR _ _ s' H' m I5 hn ⟨I'.free, fC.2⟩ q
  have hpass : Passes (CX1 X.prog X.w) X' Ex := fun pins1 σ1 H1 s1 e s' I' hx => by
    obtain ⟨m, hn, _⟩ := id I'.loc
    have I5 : Inv X pins σ H1 s1 := I3.call' (ch := fp) I'.os I'.base I'.hok I'.bare fun b hb' => ⟨(f2 b hb').2.2.2.1, (f2 b hb').2.1, (f2 b hb').2.2.2.2.1, (f2 b hb').2.2.2.2.2⟩
    refine hRX _ _ s1 H1 m e s' I5 hn I'.free (fun z => ?_) ?_ hx
    · rcases stk _ z with q | q
      · exact fC.2.1 q
      · exact fC.2.2.1 q
    · have := I3.sz
      rw [e3] at this
      exact this
  have loop : ∀ s₄ : Shared, s₄ = { s2 with heap := h₁, toks := s2.toks + ([] : List (Str × Value)).length } →
      codeAny (model X.prog X.w) X.A (.compLoop (.ListComp elt [⟨target, iter, ifs, 0⟩] scope pos) 0 (.ref it) (.ref s2.heap.objs.size) (compEnvC scope cl h3.objs.size X.env)) (RR (.ref s2.heap.objs.size) h3.objs.size) s₄ := by
    rintro s₄ rfl
    refine compLoop_anyX (fun n s' => ∃ i H', Inv X' [] (stLC ownN.length fr σ) H' s' ∧ tn i s'.heap ∧ (∀ b ∈ fp, H' b = none) ∧ W i n H') ?_ m0 ⟨0, H3, I4, st4, fr4, w0⟩
    rintro n s5 ⟨i, H5, I5, st5, fr5, w5⟩
    rcases turn i n H5 w5 with ⟨stop, qn⟩ | ⟨go, step⟩
    · refine thn (T.done X' rfl rfl rfl hc i [] s5 _ H5 _ I5 (stat fr5) st5 stop) fun r s6 ⟨hr, I6⟩ => ?_
      subst hr
      exact finish I6 qn
    · refine thn (T.item X' rfl rfl rfl hc i [] s5 _ H5 _ I5 (stat fr5) st5 go) fun r s6 ⟨u, hr, h6⟩ => ?_
      subst hr
      refine thn h6 fun _ s7 ⟨x, H7, I7, r7, y7, st7, fr7⟩ => ?_
      have I7' := I7.pinned (stat fr7) (T.obj _ _ st7)
      obtain ⟨hG, hF, hE⟩ := hb h3.objs.size s3 H3 fp (X.pn ++ pins) _ hpass
      refine thn (hG _ s7 _ H7 x u _ I7' r7 (step x H7 y7)) fun _ s8 ⟨σ8, H8, I8, kp8, q8⟩ => ?_
      have again : ∀ {s9 : Shared} {H9 : Hp} {m' : Nat}, Inv X' ([] ++ pinsAt fp s7.heap) σ8 H9 s9 → m' < n → W (i + 1) m' H9 → ∃ m, m < n ∧ ∃ i H', Inv X' [] (stLC ownN.length fr σ) H' s9 ∧ tn i s9.heap ∧ (∀ b ∈ fp, H' b = none) ∧ W i m H' := fun {s9 H9 m'} I9 hm w9 => by
        have J9 : Inv X' [] (stLC ownN.length fr σ) H9 s9 := I9.unpinned.weak (by rw [I9.len, I7.len]) kp8
        refine ⟨m', hm, i + 1, H9, J9, T.keep _ _ _ st7 fun b hb' o e => (I9.pin (b, o) (List.mem_append_right _ (List.mem_append_right _ (mem_pinsAt hb' e)))).1, fun b hb' => ?_, w9⟩
        obtain ⟨o, e, d⟩ := T.obj _ _ st7 b hb'
        exact (I9.pin (b, o) (List.mem_append_right _ (List.mem_append_right _ (mem_pinsAt hb' e)))).2.1
      refine thn (hF _ s8 σ8 H8 _ I8 q8) fun ok s9 ⟨H9, I9, q9⟩ => ?_
      cases ok with
      | false =>
        rw [if_neg Bool.false_ne_true] at q9 ⊢
        obtain ⟨m', hm, w9⟩ := q9
        exact again I9 hm w9
      | true =>
        rw [if_pos rfl] at q9 ⊢
        refine thn (hE _ s9 σ8 H9 _ I9 q9) fun v s10 ⟨y, H10, I10, r10, ys, e10, z10, m', hm, w10⟩ => ?_
        refine thn (mt_append _ s10 σ8 H10 (.ref s2.heap.objs.size) [y] (.ref s2.heap.objs.size) [v] (fun _ Hn => Hn = upd H10 s2.heap.objs.size (.lst (ys ++ [y]))) I10 rfl (.cons r10 .nil) ⟨_, ys, y, rfl, rfl, e10, z10, rfl⟩) fun _ s11 ⟨_, H11, I11, _, e11⟩ => ?_
        subst e11
        exact again I11 hm w10
  exact codeAny_compStart_list (loop _ rfl) (T.self _ 0 _ _ _ st4 (loop _ rfl))

/-- name = [..] on one line, the name not one of the comprehension's own -/
theorem ps_setLCX {P : Program} {w : World} {K : PySem.W.Frag} {mg : Str → Option Value} {base : Heap} {N : List Str} {qual : Str} {fscope : Scope} {f : Addr} {cdv : Value} {A : Around} {outer : List Env} {s0 : Shared} {H0 : Hp} {Ex : XK} {X : Cx} (hX : X = (cxOf (CX1 P w) P w K mg base N qual fscope f cdv A outer s0 H0 Ex)) {i : Nat} {x : Str} {elt target iter : Expr} {ifs : List Expr} {scope : Scope} {pos pos' spos : Pos} {cl : List (Str × Addr)} (ownN : List Str) {frN : List Str} {fr : List Nat} {wi : TI} {g : TG} {tc : TT} {te : TE}
    (hN : X.N.Nodup) (hiN : X.N[i]? = some x) (hx : Loc X.env.scope x) (hc : X.calm = true) (L : LcOk X scope cl fr frN) (hi : PI X target iter wi)
    (hb : ∀ (C : Addr) (s : Shared) (H : Hp) (ex : List Addr) (pn : List (Addr × Obj)) (xe : Value → Shared → Prop), Passes (CX1 X.prog X.w) (cxLCX X (ownN ++ frN) scope cl C s H ex pn xe) Ex → PG (cxLCX X (ownN ++ frN) scope cl C s H ex pn xe) target g ∧ PF (cxLCX X (ownN ++ frN) scope cl C s H ex pn xe) ifs tc ∧ PE (cxLCX X (ownN ++ frN) scope cl C s H ex pn xe) elt te)
    (hsw : swapsWith (.ListComp elt [⟨target, iter, ifs, 0⟩] scope pos) (some (.Name x pos')) spos.line X.env = pure true := by rfl)
    (hs : ∀ x, foldedSetIterable iter X.env x = pure x := by intro _; rfl) (hf : X.fn x = true ∨ X.env.scope.names.lookup x = some .local := by first | exact .inl rfl | exact .inr rfl | assumption) :
    PS X (.Assign [.Name x pos'] (.ListComp elt [⟨target, iter, ifs, 0⟩] scope pos) spos) (tAsg (tLC ownN.length fr wi g tc te) (gName i)) := by
  intro pins s σ H D I h
  rw [exec_Assign_Name_used _ _ _ _ hsw]
  refine wpAny_bind (wpAny_standAt (wpAny_bind ?_))
  show wpAny _ X.A (do let _ ← comprehension (.ListComp elt [⟨target, iter, ifs, 0⟩] scope pos) scope X.env _ (newList []) false (eval iter X.env) (some (assign (.Name x pos') X.env))) _ _ s
  refine wpAny_bind (wpAny_mono (wpAny_comprehension_free (use := some (assign (.Name x pos') X.env)) (Q := fun _ s' => SP X pins D .next s') rfl hs L.clos L.kind L.nms
    (thn (hi pins s σ H _ I h) fun v s1 h1 => thn h1 fun itv s2 h2 => ?_)) (fun _ s' hq => wpAny_pure (wpAny_pure hq)) fun _ _ e => e)
  obtain ⟨it, fp, tn, J, H2, e, I2, T, st2, f2, rest⟩ := h2
  subst e
  refine lc_coreX (Q := fun v H => D.nx (σ.set i (some v)) H) hc L hb I2 T st2 f2 rest ?_ ?_
  intro Dl C s' H' m I' hn fC q
  obtain ⟨f0, f1, _, f3, f4, f5⟩ := fC
  refine wpAny_assign_Name (store_ok2 I' hN hiN hx (v := .ref Dl) rfl (fun s3 I3 ⟨a, sb, ha⟩ => ?_) hf)
  have hCa : C ≠ a := by
    rcases ha with z | z
    · rw [z]; exact f1
    · exact fun w' => f4 x a z w'.symm
  refine ⟨m, hn.sameBut sb hCa, fun h' hs' => ⟨_, H', I3.turned (t' := s3.toks) (fun b o hb' e => (hs'.2 b hb').trans e) f0 f1 f3 f4 f5, q⟩⟩
  subst hX
  intro D2 C s1 H1 m e s' I9 hn9 hC9 hCs9 hCn9 hx9
  exact lc_flies I9 hn9 hC9 hCs9 hCn9 rfl hx9

end L2
namespace L2
open PySem PySem.Spec PyProof.Rows

/-! ### range(0, n, 4); for over a text's signs -/
section
variable {X : Cx} {tg : Expr}
def Itr4 (n : Nat) : It := ⟨fun i _ => i < n, fun i H x H' => H' = H ∧ x = .int (4 * (i : Int)), fun i _ => n ≤ i⟩
theorem fits4 {i : Int} (h1 : -1 ≤ i) (h2 : i ≤ 2000000) : Builtin.Range.rangeFitsLong i = true := by
  unfold Builtin.Range.rangeFitsLong
  rw [Bool.and_eq_true]
  exact ⟨decide_eq_true (by omega), decide_eq_true (by omega)⟩
theorem turn_range4 {P : Program} {w : World} {K : PySem.W.Frag} {tg : Expr} (it : Addr) (n : Nat) : Turn P w K tg (Itr4 n) [it] it (fun i h => IsRangeIter h it (0 + (i : Nat) * 4) ((n : Int) - (i : Nat)) 4) where
  mem := by simp
  obj := fun i h st b hb => by
    have e : b = it := by simpa using hb
    subst e
    exact ⟨_, st, fun v z => by
      have z' : Data.fields _ = Data.cell v := z
      cases z'⟩
  keep := fun i h h' st k => k it (by simp) _ st
  item := by
    intro X hP hw hK hc i pins s σ H E I hf st hg
    subst hP hw hK
    obtain ⟨f0, f1, f2, f3, f4, f5⟩ := hf it (by simp)
    have W := Walks.range (prog := X.prog) (w := X.w) (I.ok.hd hc) it 0 4 n
    refine W.item i s _ _ hg st fun v h' tk hv st' kk => ?_
    obtain ⟨t, rfl⟩ := hv
    have I1 : Inv X pins σ H { s with heap := h', toks := tk } := I.turned (fun b o hb e => kk b o (by simpa using hb) e) f0 f1 f3 f4 f5
    refine ⟨_, rfl, go_of (s := { s with heap := h', toks := tk }) (n := "range_iterator") st' rfl rfl (by decide) ⟨.int (4 * (i : Int)), H, I1, ⟨t, ?_⟩, ⟨rfl, rfl⟩, st', fun b hb => (hf b hb).1⟩⟩
    congr 1
    omega
  done := by
    intro X hP hw hK hc i pins s σ H E I hf st hg
    subst hP hw hK
    obtain ⟨f0, f1, f2, f3, f4, f5⟩ := hf it (by simp)
    exact wpAny_pyNext_range_end (I.ok.hd hc) st (by have : n ≤ i := hg; omega) fun h' eb => ⟨rfl, I.turned (t' := s.toks) (fun b o hb e => eb b o hb e) f0 f1 f3 f4 f5⟩
  self := fun _ _ _ _ _ st h => wpAny_pyIter_rangeiter st h
def iRng4 (ta : TA) : TI := fun σ H R => ta σ H fun vs H1 => ∃ j : Nat, vs = [.int 0, .int (j : Int), .int 4] ∧ j ≤ 1000000 ∧ R (Itr4 ((j + 3) / 4)) H1
theorem pi_range4 {a b c : Expr} {ta : TA} {p pos : Pos} (hg : Gl X "range") (hm : X.mg "range" = none) (ha : PA X [a, b, c] ta) (hs : starEach [a, b, c] X.env = [(false, eval a X.env), (false, eval b X.env), (false, eval c X.env)] := by rfl) (hs2 : starEach [b, c] X.env = [(false, eval b X.env), (false, eval c X.env)] := by rfl) :
    PI X tg (.Call (.Name "range" p) [a, b, c] [] pos) (iRng4 ta) := by
  intro pins s σ H R I h
  refine Call_ (ld_blt I hg hm boot_range (PyProof.Rows.callWith_type1 (thn (ha pos pins s σ H _ I h) fun us s1 ⟨vs, H1, I1, r1, q1⟩ => ?_) (by rw [hs, hs2]) (by rw [hs2]; rfl)))
  obtain ⟨j, e, hj, q⟩ := q1
  subst e
  cases r1 with
  | cons r rr =>
    cases rr with
    | cons r' rr =>
      cases rr with
      | cons r'' rr =>
        cases rr
        obtain ⟨t, rfl⟩ := r
        obtain ⟨t', rfl⟩ := r'
        obtain ⟨t'', rfl⟩ := r''
        refine call_range_3 (by decide) ?_ (.inl (PyProof.noPylong_small (by decide)))
        have hrs : Builtin.Range.rangeSize 0 (j : Int) 4 = (((j + 3) / 4 : Nat) : Int) := by
          rw [rangeSize_pos (by decide) (by omega)]
          omega
        have hsm : Builtin.Range.small 0 (j : Int) 4 = true := by
          unfold Builtin.Range.small
          rw [hrs, fits4 (i := 0) (by decide) (by decide), fits4 (i := (j : Int)) (by omega) (by omega), fits4 (i := 4) (by decide) (by decide), fits4 (i := (((j + 3) / 4 : Nat) : Int)) (by omega) (by omega), if_pos (by decide), fits4 (i := (j : Int) + (4 - 1)) (by omega) (by omega)]
          rw [Bool.or_true]
          rfl
        refine wpAny_pyIter_range (IsRange.new ..) hsm ?_
        have I2 : Inv X pins σ H1 { s1 with heap := s1.heap.push { cls := .type "range", data := .fields #[.int 0 t, .int (j : Int) t', .int 4 t''] }, toks := s1.toks } := I1.kept fun b o e => Heap.get?_push_of_some _ e
        refine ⟨(s1.heap.push { cls := .type "range", data := .fields #[.int 0 t, .int (j : Int) t', .int 4 t''] }).objs.size, [(s1.heap.push { cls := .type "range", data := .fields #[.int 0 t, .int (j : Int) t', .int 4 t''] }).objs.size], _, _, H1, rfl,
          I2.kept (t' := s1.toks) fun b o e => Heap.get?_push_of_some _ e, turn_range4 _ ((j + 3) / 4), ?_, fun b hb => ?_, q⟩
        · have e1 : (0 : Int) + ((0 : Nat) : Int) * 4 = 0 := by simp
          have e2 : ((((j + 3) / 4 : Nat)) : Int) - ((0 : Nat) : Int) = Builtin.Range.rangeSize 0 (j : Int) 4 := by rw [hrs]; omega
          show IsRangeIter _ _ ((0 : Int) + ((0 : Nat) : Int) * 4) ((((j + 3) / 4 : Nat) : Int) - ((0 : Nat) : Int)) 4
          rw [e1, e2]
          exact Heap.get?_push_size _ rfl
        · have e : b = (s1.heap.push { cls := .type "range", data := .fields #[.int 0 t, .int (j : Int) t', .int 4 t''] }).objs.size := by simpa using hb
          subst e
          exact I2.fpOk (Nat.le_refl _) (I2.hok.fresh (Nat.le_refl _))
theorem for_range4 {n : Nat} {g : TG} {tb : TS} {D : Ends} {σ : St} {H : Hp} (Pv : Nat → St → Hp → Prop) (h0 : Pv 0 σ H)
    (hs : ∀ i σ H, i < n → Pv i σ H → g (.int (4 * (i : Int))) σ H fun σ2 H2 => tb { D with nx := Pv (i + 1), ct := Pv (i + 1), bk := D.nx } σ2 H2) (hd : ∀ σ H, Pv n σ H → D.nx σ H) :
    ∃ W : Nat → Nat → St → Hp → Prop, (∃ m, W 0 m σ H) ∧ ∀ i m σ H, W i m σ H →
      ((Itr4 n).stop i H ∧ D.nx σ H) ∨ ((Itr4 n).go i H ∧ ∃ N : St → Hp → Prop, (∀ σ' H', N σ' H' → ∃ m', m' < m ∧ W (i + 1) m' σ' H') ∧ ∀ x H', (Itr4 n).yld i H x H' → g x σ H' fun σ2 H2 => tb { D with nx := N, ct := N, bk := D.nx } σ2 H2) := by
  refine ⟨fun i m σ H => m = n - i ∧ i ≤ n ∧ Pv i σ H, ⟨n, by simp, Nat.zero_le _, h0⟩, ?_⟩
  rintro i m σ H ⟨rfl, hi, p⟩
  by_cases hlt : i < n
  · refine .inr ⟨hlt, Pv (i + 1), fun σ' H' p' => ⟨n - (i + 1), by omega, rfl, hlt, p'⟩, fun x H' y => ?_⟩
    obtain ⟨e, y⟩ := y
    subst e y
    exact hs i σ _ hlt p
  · have e : i = n := by omega
    subst e
    exact .inl ⟨Nat.le_refl _, hd σ H p⟩
theorem for_str {l : List Nat} {g : TG} {tb : TS} {D : Ends} {σ : St} {H : Hp} (Pv : Nat → St → Hp → Prop) (h0 : Pv 0 σ H)
    (hs : ∀ i c σ H, l[i]? = some c → Pv i σ H → g (.str ⟨#[c]⟩) σ H fun σ2 H2 => tb { D with nx := Pv (i + 1), ct := Pv (i + 1), bk := D.nx } σ2 H2) (hd : ∀ σ H, Pv l.length σ H → D.nx σ H) :
    ∃ W : Nat → Nat → St → Hp → Prop, (∃ m, W 0 m σ H) ∧ ∀ i m σ H, W i m σ H →
      ((Its (strL l)).stop i H ∧ D.nx σ H) ∨ ((Its (strL l)).go i H ∧ ∃ N : St → Hp → Prop, (∀ σ' H', N σ' H' → ∃ m', m' < m ∧ W (i + 1) m' σ' H') ∧ ∀ x H', (Its (strL l)).yld i H x H' → g x σ H' fun σ2 H2 => tb { D with nx := N, ct := N, bk := D.nx } σ2 H2) := by
  have hz : (strL l).cps.size = l.length := by simp [strL]
  refine ⟨fun i m σ H => m = l.length - i ∧ i ≤ l.length ∧ Pv i σ H, ⟨l.length, by simp, Nat.zero_le _, h0⟩, ?_⟩
  rintro i m σ H ⟨rfl, hi, p⟩
  by_cases hlt : i < l.length
  · refine .inr ⟨by show i < (strL l).cps.size; omega, Pv (i + 1), fun σ' H' p' => ⟨l.length - (i + 1), by omega, rfl, hlt, p'⟩, fun x H' y => ?_⟩
    obtain ⟨e, c, hc, y⟩ := y
    subst e y
    exact hs i c σ _ (by simpa [strL] using hc) p
  · have e : i = l.length := by omega
    subst e
    exact .inl ⟨by show (strL l).cps.size ≤ _; omega, hd σ H p⟩
end
/-- a comprehension that comes to an element that raises -/
theorem lc_raise {J : It} {own : Nat} {fr : List Nat} {σ : St} {g : TG} {te : TE} {H1 : Hp} {Q : VK} (j : Nat) (hsz : j ≤ 1000000) (hgo : ∀ i H, i ≤ j → Same H1 H → J.go i H)
    (turn : ∀ (D : Addr) (i : Nat) (H : Hp) (x : V) (H' : Hp) (R : V → Hp → Prop), i ≤ j → Same H1 H → H1 D = none → (∃ ys, H D = some (.lst ys)) → J.yld i H x H' →
      (i < j → ∀ y H4, Same H H4 → R y H4) → g x (stLC own fr σ) H' fun σ2 H2 => Kp (stLC own fr σ) σ2 ∧ te σ2 H2 R) :
    tLCk own fr g tYes te σ Q J H1 := by
  intro D hD
  refine ⟨fun i m H => m = j + 1 - i ∧ i ≤ j ∧ Same H1 H ∧ ∃ ys, H D = some (.lst ys) ∧ ys.length = i, ⟨_, rfl, Nat.zero_le _, Same.new hD _, [], upd_same, rfl⟩, ?_⟩
  rintro i m H ⟨rfl, hi, hS, ys, hys, hr⟩
  refine .inr ⟨hgo i H hi hS, fun x H' hy => ?_⟩
  refine turn D i H x H' _ hi hS hD ⟨ys, hys⟩ hy fun hlt y H4 h4 => ?_
  have e4 : H4 D = some (.lst ys) := h4 _ _ hys
  refine ⟨ys, e4, smaller (by omega), j + 1 - (i + 1), by omega, rfl, hlt, (hS.trans h4).upd hD, ys ++ [y], upd_same, ?_⟩
  rw [List.length_append, hr]; rfl
end L2
namespace L2
open PySem PySem.Spec PyProof.Rows

/-! ### a text n times; long written lists, item by item (nested in one term they cost 2^n) -/
section
variable {X : Cx}
def rMul9 : R2 := fun x y H Q => x = .str "9" ∧ y = .int 30 ∧ Q (.str (strL (List.replicate 30 57))) H
theorem op_mul9 : OpR X (binaryOp .Mult) rMul9 := by
  intro pins s σ H x y v u Q I rx ry h
  obtain ⟨rfl, rfl, q⟩ := h
  obtain ⟨t, rfl⟩ := rx
  obtain ⟨t', rfl⟩ := ry
  refine PySem.P.mul_str (by decide) (fun _ _ => by decide) (fun _ _ => by decide +kernel) ?_
  rw [if_neg (by decide), if_neg (by decide)]
  exact ⟨by decide +kernel, .str (strL (List.replicate 30 57)), H, I.tok _, ⟨_, rfl⟩, q⟩
end
/-! ### the rest left open: a long body is then read statement by statement, each with a term of its own -/
def anyS (X : Cx) (rest : List Stmt) : TS := fun D σ H => ∃ u, PSs X rest u ∧ u D σ H
theorem pss_any {X : Cx} {rest : List Stmt} : PSs X rest (anyS X rest) := by
  intro pins s σ H D I ⟨u, h, q⟩
  exact h pins s σ H D I q
def anyE (X : Cx) (e : Expr) : TE := fun σ H Q => ∃ t, PE X e t ∧ t σ H Q
end L2
namespace Mine
open PySem L2
def top (i : Nat) : Stmt := PySem.Challenge.pw_ridebook_k11_lines_refused.main.body.getD i (.Pass ⟨0, 0, 0, 0⟩)
abbrev s_keeps_time : Stmt := top 6
abbrev s_is_number : Stmt := top 9
abbrev s_read_call : Stmt := top 10
abbrev s_read : Stmt := top 11
abbrev s_law_whole : Stmt := top 13
abbrev s_law_at : Stmt := top 14
abbrev s_law_drawn : Stmt := top 15
abbrev s_law_same : Stmt := top 16
abbrev s_law_number : Stmt := top 17
abbrev s_law_judged : Stmt := top 18
abbrev s_law_tried : Stmt := top 19
abbrev s_law : Stmt := top 20
/-! ### the law's own helpers -/
abbrev Stop := Int × Int × Int
def callD (c : Stop) : D := .tup [.int c.1, .int c.2.1, .int c.2.2]
def rideD (r : List Stop) : D := .lst (r.map callD)
def ridesD (rs : List (List Stop)) : D := .lst (rs.map rideD)
def total (rs : List (List Stop)) : Nat := (rs.map List.length).sum
theorem sizes_calls : ∀ r : List Stop, D.sizes (r.map callD) = 4 * r.length
  | [] => rfl
  | c :: r => by
    simp only [List.map_cons, D.sizes, sizes_calls r, callD, D.size, List.length_cons]
    omega
theorem rep_call {P P' : Addr → Prop} {H : Hp} {c : Stop} {v : V} (r : Rep P H (callD c) v) : ∃ t, v = .ref t ∧ H t = some (.tup [.int c.1, .int c.2.1, .int c.2.2]) ∧ Rep P' H (callD c) v := by
  obtain ⟨t, xs, rfl, h, q⟩ := r.tupE
  obtain ⟨x1, r1, e1, q1, qa⟩ := q.consE
  obtain ⟨x2, r2, e2, q2, qb⟩ := qa.consE
  obtain ⟨x3, r3, e3, q3, qc⟩ := qb.consE
  rw [q1.intE] at e1; rw [q2.intE] at e2; rw [q3.intE, qc.nilE] at e3
  subst e3; subst e2; subst e1
  exact ⟨t, rfl, h, .tupI h (.consI (.intI _) (.consI (.intI _) (.consI (.intI _) .nilI)))⟩
theorem rep_callI {P : Addr → Prop} {H : Hp} {c : Stop} {t : Addr} (h : H t = some (.tup [.int c.1, .int c.2.1, .int c.2.2])) : Rep P H (callD c) (.ref t) :=
  .tupI h (.consI (.intI _) (.consI (.intI _) (.consI (.intI _) .nilI)))
theorem rep_calls {P P' : Addr → Prop} {H : Hp} : ∀ {r : List Stop} {xs : List V}, RepL P H (r.map callD) xs → RepL P' H (r.map callD) xs
  | [], _, q => by rw [q.nilE]; exact .nilI
  | _ :: _, _, q => by
    obtain ⟨x, t, rfl, h, q⟩ := RepL.consE q
    obtain ⟨_, _, _, h'⟩ := rep_call (P' := P') h
    exact .consI h' (rep_calls q)

def spRoom (K : PySem.W.Frag) : Sp := fun vs H Q _ => ∃ (a : Addr) (xs : List V) (m b : Int), vs = [.ref a, .int m, .int b] ∧ SqL K H a xs ∧ xs.length ≤ 63 ∧ Q (.int m) H
def spWhole : Sp := fun vs H Q _ => ∃ i, vs = [.int i] ∧ Q (.bl true) H
def spAt (K : PySem.W.Frag) : Sp := fun vs H Q _ => ∃ (a : Addr) (ns : List Int) (k : Int), vs = [.ref a, .int k] ∧ SqL K H a (ns.map V.int) ∧ 0 ≤ k ∧ Q (.int (ns.getD k.toNat 0)) H
def spCopy : Sp := fun vs H Q _ => ∃ v rs, vs = [v] ∧ Rep Al H (ridesD rs) v ∧ (ridesD rs).size ≤ 100000 ∧ ∀ v' H', Same H H' → Rep (New H) H' (ridesD rs) v' → Q v' H'
def spSame : Sp := fun vs H Q _ => ∃ x y d, vs = [x, y] ∧ Rep Al H d x ∧ Rep Al H d y ∧ d.size ≤ 100000 ∧ ∀ H', Same H H' → Q (.bl true) H'

section
variable {P : Program} {w : World} {K : PySem.W.Frag} {mg : Str → Option Value} {base : Heap} {k : Nat}
theorem sc_law_whole : FnScope ["_law_found"] ["_law_found"] (defScope s_law_whole) := ⟨rfl, rfl, rfl, by decide +kernel, rfl, by decide +kernel, by decide +kernel⟩
theorem ok_law_whole (d : DefOk K mg "_law_whole" s_law_whole ["_law_found"]) (B : Blt mg) : Cal P w K mg base (k + 1) "_law_whole" ["_law_found"] spWhole := by
  refine d.cal sc_law_whole (fun vs H Q E h => ?_) (fun f cdv A outer s H vs Q E hr h => ?_)
  · obtain ⟨i, rfl, _⟩ := h
    rfl
  obtain ⟨i, rfl, q⟩ := h
  refine ⟨_, (pss_one (ps_ret (pe_and (pe_callB (call_isTK (K := K) rfl) rfl B.isinstance bt_isinstance (pa_cons (pv 0) (pa_cons (pe_bltn (v := .ty "int") rfl B.int bt_int rfl) pa_nil))) (pe_one (pe_not (pe_callB (call_isTK (K := K) rfl) rfl B.isinstance bt_isinstance (pa_cons (pv 0) (pa_cons (pe_bltn (v := .ty "bool") rfl B.bool bt_bool rfl) pa_nil)))))))), ?_⟩
  refine ⟨_, rfl, _, _, _, _, rfl, .int i, is_ii K, _, rfl, ?_⟩
  refine iteT ⟨_, rfl, _, _, _, _, rfl, .int i, is_ib K, _, rfl, q⟩

theorem sc_law_at : FnScope ["_law_script", "_law_k"] ["_law_script", "_law_k"] (defScope s_law_at) := ⟨rfl, rfl, rfl, by decide +kernel, rfl, by decide +kernel, by decide +kernel⟩
theorem ok_law_at (d : DefOk K mg "_law_at" s_law_at ["_law_script", "_law_k"]) (B : Blt mg) : Cal P w K mg base (k + 1) "_law_at" ["_law_script", "_law_k"] (spAt K) := by
  refine d.cal sc_law_at (fun vs H Q E h => ?_) (fun f cdv A outer s H vs Q E hr h => ?_)
  · obtain ⟨a, ns, i, rfl, _⟩ := h
    rfl
  obtain ⟨a, ns, i, rfl, hS, h0, q⟩ := h
  refine ⟨_, (pss_cons (ps_if (pt_cmpR op_lt (pv 1) (pe_callB (call_lenK (K := K) rfl) rfl B.len bt_len (pa_cons (pv 0) pa_nil)) (nomark _)) (pss_one (ps_ret (pe_ix (ix_listK (K := K) rfl) (pv 0) (pv 1) (fun _ _ => rfl)))) pss_nil)
    (pss_one (ps_ret pe_int))), ?_⟩
  have hl : (ns.map V.int).length = ns.length := List.length_map _
  refine ⟨_, rfl, _, rfl, a, _, rfl, .inl hS, _, _, rfl, rfl, _, rfl, ?_⟩
  refine ite2 (fun c => ?_) (fun c => ?_)
  · have c' : i < (((ns.map V.int).length : Nat) : Int) := of_decide_eq_true c
    rw [hl] at c'
    have hi : i.toNat < ns.length := by omega
    have ei : i = ((i.toNat : Nat) : Int) := by omega
    have g : ns[i.toNat]? = some (ns.getD i.toNat 0) := by rw [List.getD_eq_getElem?_getD, List.getElem?_eq_getElem hi]; rfl
    have hx : atI (ns.map V.int) ((i.toNat : Nat) : Int) = some (.int (ns.getD i.toNat 0)) := atI_nat (by rw [List.getElem?_map, g] <;> rfl)
    rw [← ei] at hx
    exact ⟨_, rfl, _, rfl, a, _, _, _, rfl, rfl, hS, hx, q⟩
  · have c' : ¬ i < (((ns.map V.int).length : Nat) : Int) := of_decide_eq_false (Bool.eq_false_iff.mpr c)
    rw [hl] at c'
    have g : ns.getD i.toNat 0 = 0 := by rw [List.getD_eq_getElem?_getD, List.getElem?_eq_none (by omega)]; rfl
    rw [g] at q
    exact q

end
section
variable {P : Program} {w : World} {K : PySem.W.Frag} {mg : Str → Option Value} {base : Heap} {k : Nat}
/-- the pairs that are still to be held against each other -/
abbrev TodoL (H0 H : Hp) : List D → List Addr → Prop := Paired fun d p => ∃ x y, H p = some (.tup [x, y]) ∧ Rep Al H0 d x ∧ Rep Al H0 d y
theorem TodoL.mono {H0 H H' : Hp} {ds : List D} {ps : List Addr} (g : ∀ p xs, H p = some (.tup xs) → H' p = some (.tup xs)) (t : TodoL H0 H ds ps) : TodoL H0 H' ds ps :=
  Paired.imp' (fun _ _ ⟨x, y, h, r⟩ => ⟨x, y, g _ _ h, r⟩) t
theorem paired_snoc {α β : Type} {F : α → β → Prop} : ∀ {as : List α} {bs : List β}, Paired F as bs → as = [] ∧ bs = [] ∨ ∃ as' a bs' b, as = as' ++ [a] ∧ bs = bs' ++ [b] ∧ Paired F as' bs' ∧ F a b
  | _, _, .nil => .inl ⟨rfl, rfl⟩
  | _, _, .cons (a := a) (b := b) r t => by
    rcases paired_snoc t with ⟨rfl, rfl⟩ | ⟨as', a', bs', b', rfl, rfl, p, q⟩
    · exact .inr ⟨[], a, [], b, rfl, rfl, .nil, r⟩
    · exact .inr ⟨a :: as', a', b :: bs', b', rfl, rfl, .cons r p, q⟩
theorem upd_tup {H : Hp} {l p : Addr} {ys xs : List V} {o : HO} (e : H l = some (.lst ys)) (h : H p = some (.tup xs)) : upd H l o p = some (.tup xs) := by
  rw [upd_ne (ne_of h e (by simp))]; exact h
theorem new_tup {H : Hp} {l p : Addr} {xs : List V} {o : HO} (e : H l = none) (h : H p = some (.tup xs)) : upd H l o p = some (.tup xs) := by
  rw [upd_ne (ne_of_none h e)]; exact h

theorem sc_law_same : FnScope ["_law_found", "_law_due", "_law_todo", "_law_one", "_law_other", "_law_k"] ["_law_found", "_law_due"] (defScope s_law_same) := ⟨rfl, rfl, rfl, by decide +kernel, rfl, by decide +kernel, by decide +kernel⟩
theorem ok_law_same (d : DefOk K mg "_law_same" s_law_same ["_law_found", "_law_due"]) (B : Blt mg) (c_law_whole : Cal P w K mg base k "_law_whole" ["_law_found"] spWhole) :
    Cal P w K mg base (k + 1) "_law_same" ["_law_found", "_law_due"] spSame := by
  refine d.cal sc_law_same (fun vs H Q E h => ?_) (fun f cdv A outer s H vs Q E hr h => ?_)
  · obtain ⟨x, y, d, rfl, _⟩ := h
    rfl
  obtain ⟨x, y, d, rfl, hx, hy, hz, q⟩ := h
  refine ⟨_, (pss_cons (ps_set (i := 2) sc_law_same.nd rfl (Or.inl rfl) (pe_lst (pa_cons (pe_tup (pa_cons (pv 0) (pa_cons (pv 1) pa_nil))) pa_nil)))
    (pss_cons (ps_while PassesOwn.never (pt_cmpR (op_neNilK (K := K) rfl hr.units0) (pv 2) (pe_lst pa_nil) (nomark _)) (pss_cons (ps_asg (pe_bm0K (K := K) rfl PySem.F.plainAttrs_list PySem.F.slot_list_pop PySem.F.type_list_pop mt_pop (pv 2)) (pg_tupK (K := K) (n := 2) rfl rfl (pgs_cons (pg_name (i := 3) sc_law_same.nd rfl (Or.inl rfl)) (pgs_cons (pg_name (i := 4) sc_law_same.nd rfl (Or.inl rfl)) pgs_nil))))
    (pss_one (ps_if (pt_val (pe_callB (call_isTsK (K := K) rfl) rfl B.isinstance bt_isinstance (pa_cons (pv 4) (pa_cons (pe_tup (pa_cons (pe_bltn (v := .ty "list") rfl B.lst bt_list rfl) (pa_cons (pe_bltn (v := .ty "tuple") rfl B.tuple bt_tuple rfl) pa_nil))) pa_nil)))) (pss_cons (ps_if (pt_cmpR op_ne (pe_callB (call_isTK (K := K) rfl) rfl B.isinstance bt_isinstance (pa_cons (pv 3) (pa_cons (pe_bltn (v := .ty "list") rfl B.lst bt_list rfl) pa_nil))) (pe_callB (call_isTK (K := K) rfl) rfl B.isinstance bt_isinstance (pa_cons (pv 4) (pa_cons (pe_bltn (v := .ty "list") rfl B.lst bt_list rfl) pa_nil))) (nomark _)) (pss_one (ps_ret pe_bl)) pss_nil)
    (pss_cons (ps_if (pt_cmpR op_ne (pe_callB (call_isTK (K := K) rfl) rfl B.isinstance bt_isinstance (pa_cons (pv 3) (pa_cons (pe_bltn (v := .ty "tuple") rfl B.tuple bt_tuple rfl) pa_nil))) (pe_callB (call_isTK (K := K) rfl) rfl B.isinstance bt_isinstance (pa_cons (pv 4) (pa_cons (pe_bltn (v := .ty "tuple") rfl B.tuple bt_tuple rfl) pa_nil))) (nomark _)) (pss_one (ps_ret pe_bl)) pss_nil)
    (pss_cons (ps_if (pt_cmpR op_ne (pe_callB (call_lenK (K := K) rfl) rfl B.len bt_len (pa_cons (pv 3) pa_nil)) (pe_callB (call_lenK (K := K) rfl) rfl B.len bt_len (pa_cons (pv 4) pa_nil)) (nomark _)) (pss_one (ps_ret pe_bl)) pss_nil)
    (pss_one (ps_for PassesOwn.never rfl (pi_range1 rfl B.range (pa_cons (pe_callB (call_lenK (K := K) rfl) rfl B.len bt_len (pa_cons (pv 4) pa_nil)) pa_nil)) (pg_name (i := 5) sc_law_same.nd rfl (Or.inl rfl)) (pss_one (ps_expr (pe_bmK (K := K) rfl PySem.F.plainAttrs_list PySem.F.slot_list_append PySem.F.type_list_append mt_append (pv 2) (pa_cons (pe_tup (pa_cons (pe_ix ((ix_listK (K := K) rfl).or (ix_tupK (K := K) rfl)) (pv 3) (pv 5) (fun _ _ => rfl)) (pa_cons (pe_ix ((ix_listK (K := K) rfl).or (ix_tupK (K := K) rfl)) (pv 4) (pv 5) (fun _ _ => rfl)) pa_nil))) pa_nil))))))))) (pss_one (ps_if (pt_cmpR op_isN (pv 4) pe_non (nomark _)) (pss_one (ps_if (pt_cmpR op_notN (pv 3) pe_non (nomark _)) (pss_one (ps_ret pe_bl)) pss_nil)) (pss_one (ps_if (PW.pt (pw_or (pt_not (pt_val (pe_callC c_law_whole hr rfl (pa_cons (pv 3) pa_nil)))) (pw_or1 (pt_cmpR op_ne (pv 3) (pv 4) (nomark _))))) (pss_one (ps_ret pe_bl)) pss_nil))))))))
    (pss_one (ps_ret pe_bl)))), ?_⟩
  refine ⟨_, rfl, _, rfl, (small (by simp)), fun p hp => ⟨small (by simp), fun l hl => ?_⟩⟩
  have hlp : l ≠ p := fun z => by rw [z, upd_same] at hl; cases hl
  have hl0 : H l = none := by rw [upd_ne hlp] at hl; exact hl
  refine ⟨fun m σ H' => ∃ o3 o4 o5 ds ps, σ = [some x, some y, some (.ref l), o3, o4, o5] ∧ Same H H' ∧ H' l = some (.lst (ps.map V.ref)) ∧ TodoL H H' ds ps ∧ m = D.sizes ds ∧ D.sizes ds ≤ 100000, ⟨_, none, none, none, [d], [p], rfl, ((Same.new hp _).upd hl0), upd_same, ?_, rfl, ?_⟩, ?_⟩
  · exact .cons ⟨x, y, by rw [upd_ne (Ne.symm hlp)]; exact upd_same, hx, hy⟩ .nil
  · simpa [D.sizes] using hz
  rintro m σ H1 ⟨o3, o4, o5, ds, ps, rfl, hS, hl1, ht, rfl, hz1⟩
  refine ⟨_, rfl, small (by simp), fun e he => ⟨l, e, _, rfl, rfl, SqL.of (by rw [upd_ne (ne_of_none hl1 he)]; exact hl1), SqL.of upd_same, _, rfl, ?_⟩⟩
  have hS1 : Same H (upd H1 e (.lst [])) := hS.trans (Same.new he _)
  have hl2 : upd H1 e (.lst []) l = some (.lst (ps.map V.ref)) := by rw [upd_ne (ne_of_none hl1 he)]; exact hl1
  have ht2 : TodoL H (upd H1 e (.lst [])) ds ps := TodoL.mono (fun p xs h => new_tup he h) ht
  generalize upd H1 e (.lst []) = H2 at hS1 hl2 ht2
  rcases paired_snoc ht2 with ⟨rfl, rfl⟩ | ⟨ds', d1, ps', p1, rfl, rfl, ht3, x1, y1, hp1, rx, ry⟩
  · exact iteF (q H2 hS1)
  have hne : (!((ps' ++ [p1]).map V.ref).isEmpty) = true := by simp
  show if (!((ps' ++ [p1]).map V.ref).isEmpty) = true then _ else _
  rw [if_pos hne]
  have hlast : ((ps' ++ [p1]).map V.ref)[((ps' ++ [p1]).map V.ref).length - 1]? = some (.ref p1) := by simp
  have hdrop : ((ps' ++ [p1]).map V.ref).dropLast = ps'.map V.ref := by simp
  refine ⟨fun σ' H' => ∃ o3 o4 o5 ds2 ps2, σ' = [some x, some y, some (.ref l), o3, o4, o5] ∧ Same H H' ∧ H' l = some (.lst (ps2.map V.ref)) ∧ TodoL H H' ds2 ps2 ∧ D.sizes ds2 + 1 = D.sizes (ds' ++ [d1]), ?_, ?_⟩
  · rintro σ' H' ⟨o3, o4, o5, ds2, ps2, rfl, h1, h2, h3, h4⟩
    exact ⟨D.sizes ds2, by omega, o3, o4, o5, ds2, ps2, rfl, h1, h2, h3, rfl, by omega⟩
  rw [D.sizes_append] at hz1 ⊢
  have hd1 : D.sizes [d1] = d1.size := by simp [D.sizes]
  rw [hd1] at hz1 ⊢
  refine ⟨_, rfl, .inl ⟨rfl, _, SqL.of hl2⟩, l, _, _, rfl, rfl, hl2, hlast, ?_⟩
  rw [hdrop]
  have hS3 : Same H (upd H2 l (.lst (ps'.map V.ref))) := hS1.upd hl0
  have hl3 : upd H2 l (.lst (ps'.map V.ref)) l = some (.lst (ps'.map V.ref)) := upd_same
  have hp3 : upd H2 l (.lst (ps'.map V.ref)) p1 = some (.tup [x1, y1]) := upd_tup hl2 hp1
  have ht4 : TodoL H (upd H2 l (.lst (ps'.map V.ref))) ds' ps' := TodoL.mono (fun p xs h => upd_tup hl2 h) ht3
  generalize upd H2 l (.lst (ps'.map V.ref)) = H3 at hS3 hl3 hp3 ht4
  refine ⟨p1, _, rfl, SqT.of hp3, rfl, _, _, rfl, _, _, rfl, rfl, ?_⟩
  refine ⟨_, rfl, small (by simp), fun tp htp => ?_⟩
  have hS4 : Same H (upd H3 tp (.tup [.ty "list", .ty "tuple"])) := hS3.trans (Same.new htp _)
  have hl4 : upd H3 tp (.tup [.ty "list", .ty "tuple"]) l = some (.lst (ps'.map V.ref)) := by rw [upd_ne (ne_of_none hl3 htp)]; exact hl3
  have htp4 : upd H3 tp (.tup [.ty "list", .ty "tuple"]) tp = some (.tup [.ty "list", .ty "tuple"]) := upd_same
  have ht5 : TodoL H (upd H3 tp (.tup [.ty "list", .ty "tuple"])) ds' ps' := TodoL.mono (fun p xs h => new_tup htp h) ht4
  generalize upd H3 tp (.tup [.ty "list", .ty "tuple"]) = H4 at hS4 hl4 htp4 ht5
  cases d1 with
  | non =>
    cases rx.nonE
    cases ry.nonE
    refine ⟨_, tp, ["list", "tuple"], _, _, rfl, htp4, .non, is_n_lt K, _, rfl, iteF ?_⟩
    refine ⟨_, rfl, rfl, _, rfl, iteT ?_⟩
    refine ⟨_, rfl, rfl, _, rfl, iteNS rfl ?_⟩
    exact ⟨_, _, _, ds', ps', rfl, hS4, hl4, ht5, by simp [D.size]⟩
  | int i =>
    cases rx.intE
    cases ry.intE
    refine ⟨_, tp, ["list", "tuple"], _, _, rfl, htp4, .int i, is_i_lt K, _, rfl, iteF ?_⟩
    refine ⟨_, rfl, rfl, _, rfl, iteF ?_⟩
    refine ⟨_, rfl, i, rfl, _, rfl, ?_⟩
    refine iteF ⟨_, rfl, _, rfl, rfl, _, rfl, iteNS rfl ?_⟩
    exact ⟨_, _, _, ds', ps', rfl, hS4, hl4, ht5, by simp [D.size]⟩
  | lst es =>
    obtain ⟨a1, xs, rfl, _, ha1, hxs⟩ := rx.lstE
    obtain ⟨b1, ys, rfl, _, hb1, hys⟩ := ry.lstE
    have hlen : xs.length = ys.length := by rw [hxs.length, hys.length]
    refine ⟨_, tp, ["list", "tuple"], _, _, rfl, htp4, .lst (hS4 _ _ hb1), is_l_lt K, _, rfl, iteT ?_⟩
    refine ⟨_, rfl, _, _, _, _, rfl, .lst (hS4 _ _ ha1), is_ll K, _, rfl, _, _, _, _, rfl, .lst (hS4 _ _ hb1), is_ll K, rfl, _, rfl, iteNS rfl ?_⟩
    refine ⟨_, rfl, _, _, _, _, rfl, .lst (hS4 _ _ ha1), is_lt K, _, rfl, _, _, _, _, rfl, .lst (hS4 _ _ hb1), is_lt K, rfl, _, rfl, iteNS rfl ?_⟩
    refine ⟨_, rfl, _, _, rfl, .inl (SqL.of (hS4 _ _ ha1)), _, rfl, _, _, rfl, .inl (SqL.of (hS4 _ _ hb1)), rfl, _, rfl, iteNS (congrArg V.int (by rw [hlen])) ?_⟩
    refine ⟨_, rfl, _, _, rfl, .inl (SqL.of (hS4 _ _ hb1)), _, rfl, ?_, ?_, ?_⟩
    · omega
    · have := D.length_le es
      rw [hys.length]
      simp only [D.size] at hz1
      omega
    refine for_range (lo := 0) (n := ((ys.length : Nat) : Int).toNat) (fun i σ' H' => ∃ o5 ps2, σ' = [some x, some y, some (.ref l), some (.ref a1), some (.ref b1), o5] ∧ Same H H' ∧ H' l = some (.lst (ps2.map V.ref)) ∧ TodoL H H' (ds' ++ es.take i) ps2) ⟨_, ps', rfl, hS4, hl4, by simpa using ht5⟩ ?_ ?_
    · rintro i σ' H' hi ⟨o5, ps2, rfl, g1, g2, g3⟩
      have hi' : i < es.length := by rw [hys.length] at hi; omega
      obtain ⟨dd, hdd⟩ : ∃ dd, es[i]? = some dd := ⟨_, List.getElem?_eq_getElem hi'⟩
      obtain ⟨xi, exi, rxi⟩ := hxs.get hdd
      obtain ⟨yi, eyi, ryi⟩ := hys.get hdd
      have axi : atI xs (0 + (i : Int)) = some xi := by rw [Int.zero_add]; exact atI_nat exi
      have ayi : atI ys (0 + (i : Int)) = some yi := by rw [Int.zero_add]; exact atI_nat eyi
      refine ⟨_, rfl, .inl ⟨rfl, _, SqL.of g2⟩, ?_⟩
      refine ⟨_, rfl, _, rfl, .inl ⟨_, _, _, _, rfl, rfl, SqL.of (g1 _ _ ha1), axi, ?_⟩⟩
      refine ⟨_, rfl, _, rfl, .inl ⟨_, _, _, _, rfl, rfl, SqL.of (g1 _ _ hb1), ayi, small (by simp), fun t ht' => ?_⟩⟩
      have g2' : upd H' t (.tup [xi, yi]) l = some (.lst (ps2.map V.ref)) := by rw [upd_ne (ne_of_none g2 ht')]; exact g2
      have hlz : (ps2.map V.ref).length ≤ 100000 := by
        have e1 := g3.length
        have e2 := D.length_le (ds' ++ es.take i)
        have e3 : D.sizes (es.take i) ≤ D.sizes es := by
          have := D.sizes_append (es.take i) (es.drop i)
          rw [List.take_append_drop] at this
          omega
        rw [D.sizes_append] at e2
        simp only [D.size] at hz1
        rw [List.length_map, ← e1]
        omega
      refine ⟨l, _, _, rfl, rfl, g2', smaller (by omega), _, ps2 ++ [t], rfl, (g1.trans (Same.new ht' _)).upd hl0, by rw [upd_same, List.map_append]; rfl, ?_⟩
      have et : es.take (i + 1) = es.take i ++ [dd] := by rw [List.take_add_one, hdd]; rfl
      rw [et, ← List.append_assoc]
      refine Paired.snoc ?_ ⟨xi, yi, upd_tup g2' upd_same, rxi, ryi⟩
      exact TodoL.mono (fun p zs h => upd_tup g2' (new_tup ht' h)) g3
    · rintro σ' H' ⟨o5, ps2, rfl, g1, g2, g3⟩
      have en : ((ys.length : Nat) : Int).toNat = es.length := by rw [hys.length]; simp
      rw [en, List.take_length] at g3
      exact ⟨_, _, _, _, ps2, rfl, g1, g2, g3, by rw [D.sizes_append]; simp only [D.size]; omega⟩
  | tup es =>
    obtain ⟨a1, xs, rfl, ha1, hxs⟩ := rx.tupE
    obtain ⟨b1, ys, rfl, hb1, hys⟩ := ry.tupE
    have hlen : xs.length = ys.length := by rw [hxs.length, hys.length]
    refine ⟨_, tp, ["list", "tuple"], _, _, rfl, htp4, .tup (hS4 _ _ hb1), is_t_lt K, _, rfl, iteT ?_⟩
    refine ⟨_, rfl, _, _, _, _, rfl, .tup (hS4 _ _ ha1), is_tl K, _, rfl, _, _, _, _, rfl, .tup (hS4 _ _ hb1), is_tl K, rfl, _, rfl, iteNS rfl ?_⟩
    refine ⟨_, rfl, _, _, _, _, rfl, .tup (hS4 _ _ ha1), is_tt K, _, rfl, _, _, _, _, rfl, .tup (hS4 _ _ hb1), is_tt K, rfl, _, rfl, iteNS rfl ?_⟩
    refine ⟨_, rfl, _, _, rfl, .inr (SqT.of (hS4 _ _ ha1)), _, rfl, _, _, rfl, .inr (SqT.of (hS4 _ _ hb1)), rfl, _, rfl, iteNS (congrArg V.int (by rw [hlen])) ?_⟩
    refine ⟨_, rfl, _, _, rfl, .inr (SqT.of (hS4 _ _ hb1)), _, rfl, ?_, ?_, ?_⟩
    · omega
    · have := D.length_le es
      rw [hys.length]
      simp only [D.size] at hz1
      omega
    refine for_range (lo := 0) (n := ((ys.length : Nat) : Int).toNat) (fun i σ' H' => ∃ o5 ps2, σ' = [some x, some y, some (.ref l), some (.ref a1), some (.ref b1), o5] ∧ Same H H' ∧ H' l = some (.lst (ps2.map V.ref)) ∧ TodoL H H' (ds' ++ es.take i) ps2) ⟨_, ps', rfl, hS4, hl4, by simpa using ht5⟩ ?_ ?_
    · rintro i σ' H' hi ⟨o5, ps2, rfl, g1, g2, g3⟩
      have hi' : i < es.length := by rw [hys.length] at hi; omega
      obtain ⟨dd, hdd⟩ : ∃ dd, es[i]? = some dd := ⟨_, List.getElem?_eq_getElem hi'⟩
      obtain ⟨xi, exi, rxi⟩ := hxs.get hdd
      obtain ⟨yi, eyi, ryi⟩ := hys.get hdd
      have axi : atI xs (0 + (i : Int)) = some xi := by rw [Int.zero_add]; exact atI_nat exi
      have ayi : atI ys (0 + (i : Int)) = some yi := by rw [Int.zero_add]; exact atI_nat eyi
      refine ⟨_, rfl, .inl ⟨rfl, _, SqL.of g2⟩, ?_⟩
      refine ⟨_, rfl, _, rfl, .inr ⟨_, _, _, _, rfl, rfl, SqT.of (g1 _ _ ha1), axi, ?_⟩⟩
      refine ⟨_, rfl, _, rfl, .inr ⟨_, _, _, _, rfl, rfl, SqT.of (g1 _ _ hb1), ayi, small (by simp), fun t ht' => ?_⟩⟩
      have g2' : upd H' t (.tup [xi, yi]) l = some (.lst (ps2.map V.ref)) := by rw [upd_ne (ne_of_none g2 ht')]; exact g2
      have hlz : (ps2.map V.ref).length ≤ 100000 := by
        have e1 := g3.length
        have e2 := D.length_le (ds' ++ es.take i)
        have e3 : D.sizes (es.take i) ≤ D.sizes es := by
          have := D.sizes_append (es.take i) (es.drop i)
          rw [List.take_append_drop] at this
          omega
        rw [D.sizes_append] at e2
        simp only [D.size] at hz1
        rw [List.length_map, ← e1]
        omega
      refine ⟨l, _, _, rfl, rfl, g2', smaller (by omega), _, ps2 ++ [t], rfl, (g1.trans (Same.new ht' _)).upd hl0, by rw [upd_same, List.map_append]; rfl, ?_⟩
      have et : es.take (i + 1) = es.take i ++ [dd] := by rw [List.take_add_one, hdd]; rfl
      rw [et, ← List.append_assoc]
      refine Paired.snoc ?_ ⟨xi, yi, upd_tup g2' upd_same, rxi, ryi⟩
      exact TodoL.mono (fun p zs h => upd_tup g2' (new_tup ht' h)) g3
    · rintro σ' H' ⟨o5, ps2, rfl, g1, g2, g3⟩
      have en : ((ys.length : Nat) : Int).toNat = es.length := by rw [hys.length]; simp
      rw [en, List.take_length] at g3
      exact ⟨_, _, _, _, ps2, rfl, g1, g2, g3, by rw [D.sizes_append]; simp only [D.size]; omega⟩
end
section
variable {P : Program} {w : World} {K : PySem.W.Frag} {mg : Str → Option Value} {base : Heap} {k : Nat}
/-- a ride as the document tells, at stops below n -/
structure OkRide (n : Int) (r : List Stop) : Prop where
  some : r ≠ []
  each : ∀ c ∈ r, 0 ≤ c.1 ∧ c.1 < n ∧ c.2.1 ≤ c.2.2
  rise : r.Pairwise fun c d => c.2.2 < d.2.1
/-- how far a time may have gone by the i-th cell -/
def bnd (i : Nat) : Int := 1000 + (i : Int) * (10 ^ 60 + 100)
theorem bnd_succ (i : Nat) : bnd (i + 1) = bnd i + (10 ^ 60 + 100) := by
  unfold bnd
  rw [show ((i + 1 : Nat) : Int) = (i : Int) + 1 by omega, Int.add_mul, Int.one_mul]
  omega
theorem bnd_ge : ∀ i, 1000 ≤ bnd i
  | 0 => by decide
  | i + 1 => by have := bnd_ge i; rw [bnd_succ]; omega
def spDrawn (K : PySem.W.Frag) : Sp := fun vs H Q _ => ∃ (a : Addr) (ns : List Int) (n : Int), vs = [.ref a, .int n] ∧ SqL K H a (ns.map V.int) ∧ ns.length ≤ 1000 ∧ 0 < n ∧
  ∀ v H' rs, Same H H' → Rep (New H) H' (ridesD rs) v → (∀ r ∈ rs, OkRide n r) → total rs = ns.length → (∀ r ∈ rs, ∀ c ∈ r, -1000 ≤ c.2.1 ∧ c.2.2 ≤ bnd ns.length) → Q v H'
theorem at_cell {ns : List Int} {j : Int} (h0 : 0 ≤ j) (h1 : j < (ns.length : Int)) : ∃ z, atI (ns.map V.int) j = some (.int z) := by
  have hj : j.toNat < ns.length := by omega
  have ej : j = ((j.toNat : Nat) : Int) := by omega
  refine ⟨ns[j.toNat], ?_⟩
  have q : atI (ns.map V.int) ((j.toNat : Nat) : Int) = some (.int ns[j.toNat]) := atI_nat (by rw [List.getElem?_map, List.getElem?_eq_getElem hj] <;> rfl)
  rw [← ej] at q
  exact q
theorem total_snoc (rs : List (List Stop)) (r : List Stop) : total (rs ++ [r]) = total rs + r.length := by simp [total]
theorem le_total {rs : List (List Stop)} {r : List Stop} (h : r ∈ rs) : r.length ≤ total rs := by
  induction rs with
  | nil => cases h
  | cons a rs ih =>
    simp only [total, List.map_cons, List.sum_cons]
    rcases List.mem_cons.mp h with rfl | h
    · omega
    · have := ih h
      simp only [total] at this
      omega
theorem rides_le : ∀ {rs : List (List Stop)} {n : Int}, (∀ r ∈ rs, OkRide n r) → rs.length ≤ total rs
  | [], _, _ => Nat.le_refl _
  | r :: rs, n, h => by
    have h1 := (h r List.mem_cons_self).some
    have h2 := rides_le (rs := rs) (n := n) fun r' hr' => h r' (List.mem_cons_of_mem _ hr')
    have h3 : 0 < r.length := List.length_pos_iff.mpr h1
    simp only [total, List.map_cons, List.sum_cons, List.length_cons] at h2 ⊢
    omega
/-- the rides under the pen: their lists, all new -/
abbrev PenL (H0 H : Hp) : List (List Stop) → List Addr → Prop := Paired fun r a => H0 a = none ∧ ∃ ts, H a = some (.lst ts) ∧ RepL Al H (r.map callD) ts
theorem PenL.move {H0 H H' : Hp} {rs : List (List Stop)} {as : List Addr} (g : ∀ a ∈ as, ∀ ts, H a = some (.lst ts) → H' a = some (.lst ts)) (ht : ∀ p xs, H p = some (.tup xs) → H' p = some (.tup xs)) (t : PenL H0 H rs as) : PenL H0 H' rs as := by
  induction t with
  | nil => exact .nil
  | cons r _ ih =>
    obtain ⟨h0, ts, ha, q⟩ := r
    refine .cons ⟨h0, ts, g _ List.mem_cons_self ts ha, ?_⟩ (ih fun a ha' => g a (List.mem_cons_of_mem _ ha'))
    exact (rep_calls (P' := fun _ => False) q).move (fun _ _ => trivial) (fun _ _ z => z.elim) ht
theorem PenL.rep {H0 H : Hp} {rs : List (List Stop)} {as : List Addr} (t : PenL H0 H rs as) : RepL (New H0) H (rs.map rideD) (as.map V.ref) := by
  induction t with
  | nil => exact .nilI
  | cons r _ ih =>
    obtain ⟨h0, ts, ha, q⟩ := r
    exact .consI (.lstI h0 ha (rep_calls q)) ih
theorem PenL.old {H0 H : Hp} {rs : List (List Stop)} {as : List Addr} (t : PenL H0 H rs as) : ∀ a ∈ as, H0 a = none ∧ ∃ ts, H a = some (.lst ts) := by
  induction t with
  | nil => intro a h; cases h
  | cons r _ ih =>
    intro a h
    rcases List.mem_cons.mp h with rfl | h
    · obtain ⟨h0, ts, ha, _⟩ := r
      exact ⟨h0, ts, ha⟩
    · exact ih a h
theorem paired_split {α β : Type} {F : α → β → Prop} : ∀ {as : List α} {a : α} {bs : List β}, Paired F (as ++ [a]) bs → ∃ bs' b, bs = bs' ++ [b] ∧ Paired F as bs' ∧ F a b
  | [], _, _, .cons r .nil => ⟨[], _, rfl, .nil, r⟩
  | _ :: _, _, _, .cons r t => by
    obtain ⟨bs', b, rfl, p, q⟩ := paired_split t
    exact ⟨_ :: bs', b, rfl, .cons r p, q⟩
theorem pairwise_snoc {α : Type} {R : α → α → Prop} {l : List α} {x : α} (h : l.Pairwise R) (g : ∀ y ∈ l, R y x) : (l ++ [x]).Pairwise R := by
  rw [List.pairwise_append]
  exact ⟨h, List.pairwise_singleton _ _, fun a ha b hb => by rw [List.mem_singleton.mp hb]; exact g a ha⟩

theorem sc_law_drawn : FnScope ["_law_cells", "_law_count", "_law_rides", "_law_now", "_law_k", "_law_near", "_law_far", "_law_gap", "_law_leave"] ["_law_cells", "_law_count"] (defScope s_law_drawn) := ⟨rfl, rfl, rfl, by decide +kernel, rfl, by decide +kernel, by decide +kernel⟩
theorem ok_law_drawn (d : DefOk K mg "_law_drawn" s_law_drawn ["_law_cells", "_law_count"]) (B : Blt mg) : Cal P w K mg base (k + 1) "_law_drawn" ["_law_cells", "_law_count"] (spDrawn K) := by
  refine d.cal sc_law_drawn (fun vs H Q E h => ?_) (fun f cdv A outer s H vs Q E hr h => ?_)
  · obtain ⟨a, ns, n, rfl, _⟩ := h
    rfl
  obtain ⟨a, ns, n, rfl, hS, hz, hn, q⟩ := h
  refine ⟨_, (pss_cons (ps_set (i := 2) sc_law_drawn.nd rfl (Or.inl rfl) (pe_lst pa_nil))
    (pss_cons (ps_set (i := 3) sc_law_drawn.nd rfl (Or.inl rfl) pe_int)
    (pss_cons (ps_for PassesOwn.never rfl (pi_range1 rfl B.range (pa_cons (pe_callB (call_lenK (K := K) rfl) rfl B.len bt_len (pa_cons (pv 0) pa_nil)) pa_nil)) (pg_name (i := 4) sc_law_drawn.nd rfl (Or.inl rfl)) (pss_cons (ps_set (i := 5) sc_law_drawn.nd rfl (Or.inl rfl) (pe_ix (ix_listK (K := K) rfl) (pv 0) (pe_op op_mod (pe_op op_add (pv 4) pe_int) (pe_callB (call_lenK (K := K) rfl) rfl B.len bt_len (pa_cons (pv 0) pa_nil))) (fun _ _ => rfl)))
    (pss_cons (ps_set (i := 6) sc_law_drawn.nd rfl (Or.inl rfl) (pe_ix (ix_listK (K := K) rfl) (pv 0) (pe_op op_mod (pe_op op_add (pv 4) pe_int) (pe_callB (call_lenK (K := K) rfl) rfl B.len bt_len (pa_cons (pv 0) pa_nil))) (fun _ _ => rfl)))
    (pss_cons (ps_set (i := 7) sc_law_drawn.nd rfl (Or.inl rfl) (pe_op op_add (pe_op op_add pe_int (pe_op op_mod (pv 5) pe_int)) (pe_op op_mul (pe_op op_pow pe_int pe_int) (pe_callTy call_int1 rfl B.int bt_int (pa_cons (pe_cmpR op_eq (pe_op op_mod (pe_ix (ix_listK (K := K) rfl) (pv 0) (pv 4) (fun _ _ => rfl)) pe_int) pe_int (nomark _)) pa_nil)))))
    (pss_cut (ps_if (pt_cmpR op_eq (pe_op op_mod (pe_ix (ix_listK (K := K) rfl) (pv 0) (pv 4) (fun _ _ => rfl)) pe_int) pe_int (nomark _)) (pss_one (ps_set (i := 7) sc_law_drawn.nd rfl (Or.inl rfl) (pe_op op_add pe_int (pe_op op_mod (pv 5) (pe_op op_pow pe_int pe_int))))) pss_nil)
    (pss_cut (ps_if (pt_mid (PW.pt (pw_or (pt_cmpR op_eq (pe_op op_mod (pe_ix (ix_listK (K := K) rfl) (pv 0) (pv 4) (fun _ _ => rfl)) pe_int) pe_int (nomark _)) (pw_or1 (pt_cmpR (op_eqNilK (K := K) rfl hr.units0) (pv 2) (pe_lst pa_nil) (nomark _)))))) (pss_cons (ps_set (i := 3) sc_law_drawn.nd rfl (Or.inl rfl) (pe_op op_sub (pe_op op_mod (pe_op op_add (pe_op op_fdiv (pv 5) pe_int) (pe_op op_mul pe_int (pv 4))) pe_int) pe_int))
    (pss_cut (ps_if (pt_cmpR op_eq (pe_op op_mod (pe_ix (ix_listK (K := K) rfl) (pv 0) (pv 4) (fun _ _ => rfl)) pe_int) pe_int (nomark _)) (pss_one (ps_set (i := 3) sc_law_drawn.nd rfl (Or.inl rfl) (pe_op op_sub (pe_op op_mod (pv 5) pe_int) pe_int))) pss_nil)
    (pss_one (ps_expr (pe_bmK (K := K) rfl PySem.F.plainAttrs_list PySem.F.slot_list_append PySem.F.type_list_append mt_append (pv 2) (pa_cons (pe_lst pa_nil) pa_nil)))))) (pss_one (ps_set (i := 3) sc_law_drawn.nd rfl (Or.inl rfl) (pe_op op_add (pv 3) (pv 7)))))
    (pss_cons (ps_set (i := 8) sc_law_drawn.nd rfl (Or.inl rfl) (pe_op op_add (pv 3) (pe_ix (ix_listK (K := K) rfl) (pe_lst (pa_cons (pe_op op_mod (pe_op op_fdiv (pe_ix (ix_listK (K := K) rfl) (pv 0) (pv 4) (fun _ _ => rfl)) pe_int) pe_int) (pa_cons (pe_op op_mod (pv 5) pe_int) pa_nil))) (pe_callTy call_int1 rfl B.int bt_int (pa_cons (pe_cmpR op_eq (pe_op op_mod (pe_ix (ix_listK (K := K) rfl) (pv 0) (pv 4) (fun _ _ => rfl)) pe_int) pe_int (nomark _)) pa_nil)) (fun _ _ => rfl))))
    (pss_cons (ps_expr (pe_bmK (K := K) rfl PySem.F.plainAttrs_list PySem.F.slot_list_append PySem.F.type_list_append mt_append (pe_ix (ix_listK (K := K) rfl) (pv 2) (pe_un un_neg pe_int) (fun _ _ => rfl)) (pa_cons (pe_tup (pa_cons (pe_op op_mod (pe_op op_add (pv 6) (pv 4)) (pv 1)) (pa_cons (pv 3) (pa_cons (pv 8) pa_nil)))) pa_nil)))
    (pss_one (ps_set (i := 3) sc_law_drawn.nd rfl (Or.inl rfl) (pv 8)))))))))))
    (pss_one (ps_ret (pv 2)))))), ?_⟩
  have hlen : (ns.map V.int).length = ns.length := List.length_map _
  refine ⟨small (by simp), fun R hR => ?_⟩
  have hS0 : SqL K (upd H R (.lst [])) a (ns.map V.int) := (Same.new hR _).seq hS
  refine ⟨_, rfl, a, _, rfl, .inl hS0, _, rfl, by omega, by rw [hlen]; omega, ?_⟩
  refine for_range (lo := 0) (n := (((ns.map V.int).length : Nat) : Int).toNat) (fun i σ H' => ∃ now o4 o5 o6 o7 o8 rs as, σ = [some (.ref a), some (.int n), some (.ref R), some (.int now), o4, o5, o6, o7, o8] ∧ Same H H' ∧ H' R = some (.lst (as.map V.ref)) ∧ PenL H H' rs as ∧ as.Nodup ∧ R ∉ as ∧
    (∀ r ∈ rs, OkRide n r) ∧ (∀ rs' r, rs = rs' ++ [r] → ∀ c ∈ r, c.2.2 ≤ now) ∧ total rs = i ∧ (-1000 ≤ now ∧ now ≤ bnd i) ∧ ∀ r ∈ rs, ∀ c ∈ r, -1000 ≤ c.2.1 ∧ c.2.2 ≤ bnd i) ⟨0, _, _, _, _, _, [], [], rfl, Same.new hR _, upd_same, .nil, List.nodup_nil, by simp, by simp, by simp, rfl, by decide, by simp⟩ ?_ ?_
  · rintro i σ H1 hi ⟨now, o4, o5, o6, o7, o8, rs, as, rfl, hS1, hR1, hp, hnd, hRas, hok, hlast, htot, hnow, hbr⟩
    have hbs := bnd_succ i
    have hbg := bnd_ge i
    rw [hlen] at hi
    have hi' : i < ns.length := by omega
    have hA : SqL K H1 a (ns.map V.int) := hS1.seq hS
    have hpos : (0 : Int) < (((ns.map V.int).length : Nat) : Int) := by rw [hlen]; omega
    have m1 := Int.emod_nonneg (0 + (i : Int) + 1) (Int.ne_of_gt hpos)
    have m2 := Int.emod_lt_of_pos (0 + (i : Int) + 1) hpos
    have m3 := Int.emod_nonneg (0 + (i : Int) + 2) (Int.ne_of_gt hpos)
    have m4 := Int.emod_lt_of_pos (0 + (i : Int) + 2) hpos
    obtain ⟨near, hnear⟩ := at_cell (ns := ns) m1 (by rw [hlen] at m2 ⊢; exact m2)
    obtain ⟨far, hfar⟩ := at_cell (ns := ns) m3 (by rw [hlen] at m4 ⊢; exact m4)
    obtain ⟨cell, hcell⟩ := at_cell (ns := ns) (j := 0 + (i : Int)) (by omega) (by omega)
    -- near, far
    refine ⟨_, rfl, _, rfl, _, _, rfl, rfl, _, rfl, a, _, rfl, .inl hA, _, _, rfl, rfl, hpos, a, _, _, _, rfl, rfl, hA, hnear, ?_⟩
    refine ⟨_, rfl, _, rfl, _, _, rfl, rfl, _, rfl, a, _, rfl, .inl hA, _, _, rfl, rfl, hpos, a, _, _, _, rfl, rfl, hA, hfar, ?_⟩
    -- gap
    refine ⟨_, rfl, _, _, rfl, rfl, (by decide : (0 : Int) < 4), _, _, rfl, rfl, _, _, rfl, rfl, ⟨by decide, by decide, by decide⟩, _, rfl, _, rfl, a, _, _, _, rfl, rfl, hA, hcell, _, _, rfl, rfl, (by decide : (0 : Int) < 41), rfl, .inr ⟨_, rfl, _, _, rfl, rfl, ?_, _, _, rfl, rfl, ?_⟩⟩
    · refine .inl ⟨?_, ?_⟩ <;> decide
    have n4 := Int.emod_nonneg near (show (4 : Int) ≠ 0 by decide)
    have n60 := Int.emod_nonneg near (show (10 : Int) ^ (60 : Int).toNat ≠ 0 by decide)
    have n60' := Int.emod_lt_of_pos near (show (0 : Int) < 10 ^ (60 : Int).toNat by decide)
    have n4' := Int.emod_lt_of_pos near (show (0 : Int) < 4 by decide)
    have e60 : (10 : Int) ^ (60 : Int).toNat = 10 ^ 60 := rfl
    have e12 : (10 : Int) ^ (12 : Int).toNat = 10 ^ 12 := rfl
    -- the gap is one at least
    refine ⟨fun σ' H' => ∃ gap, (1 ≤ gap ∧ gap ≤ 10 ^ 60) ∧ σ' = [some (.ref a), some (.int n), some (.ref R), some (.int now), some (.int (0 + (i : Int))), some (.int near), some (.int far), some (.int gap), o8] ∧ H' = H1, ?_, ?_⟩
    · refine ⟨_, rfl, _, rfl, a, _, _, _, rfl, rfl, hA, hcell, _, _, rfl, rfl, (by decide : (0 : Int) < 41), rfl, _, rfl, ite2 (fun c => ?_) (fun c => ?_)⟩
      · refine ⟨_, rfl, _, _, rfl, rfl, ⟨by decide, by decide, by decide⟩, _, _, rfl, rfl, ?_, _, _, rfl, rfl, _, ?_, rfl, rfl⟩
        · exact (by decide : (0 : Int) < 10 ^ (60 : Int).toNat)
        · rw [e60] at n60' ⊢; exact ⟨by omega, by omega⟩
      · refine ⟨_, ?_, rfl, rfl⟩
        dsimp only
        rw [e12]
        split <;> constructor <;> omega
    rintro _ _ ⟨gap, hgap, rfl, rfl⟩
    -- the ride that the call goes to, all of it left ahead of now
    refine ⟨fun σ' H' => ∃ now' rs' r as' b, σ' = [some (.ref a), some (.int n), some (.ref R), some (.int now'), some (.int (0 + (i : Int))), some (.int near), some (.int far), some (.int gap), o8] ∧ Same H H' ∧ H' R = some (.lst ((as' ++ [b]).map V.ref)) ∧
      PenL H H' (rs' ++ [r]) (as' ++ [b]) ∧ (as' ++ [b]).Nodup ∧ R ∉ as' ++ [b] ∧ (∀ r ∈ rs', OkRide n r) ∧ (∀ c ∈ r, 0 ≤ c.1 ∧ c.1 < n ∧ c.2.1 ≤ c.2.2) ∧ (r.Pairwise fun c d => c.2.2 < d.2.1) ∧ (∀ c ∈ r, c.2.2 < now') ∧ total (rs' ++ [r]) = i ∧ (-1000 ≤ now' ∧ now' ≤ bnd i + 10 ^ 60) ∧ ∀ r2 ∈ rs' ++ [r], ∀ c ∈ r2, -1000 ≤ c.2.1 ∧ c.2.2 ≤ bnd i, ?_, ?_⟩
    · have fresh : ∀ (now' : Int) (H2 : Hp), (-1000 ≤ now' ∧ now' ≤ 1000) → Same H H2 → H2 R = some (.lst (as.map V.ref)) → PenL H H2 rs as → ∀ p, H2 p = none →
          ∃ now'' rs' r as' b, ([some (.ref a), some (.int n), some (.ref R), some (.int now'), some (.int (0 + (i : Int))), some (.int near), some (.int far), some (.int gap), o8] : St) = [some (.ref a), some (.int n), some (.ref R), some (.int now''), some (.int (0 + (i : Int))), some (.int near), some (.int far), some (.int gap), o8] ∧ Same H (upd (upd H2 p (.lst [])) R (.lst (as.map V.ref ++ [.ref p]))) ∧ upd (upd H2 p (.lst [])) R (.lst (as.map V.ref ++ [.ref p])) R = some (.lst ((as' ++ [b]).map V.ref)) ∧
            PenL H (upd (upd H2 p (.lst [])) R (.lst (as.map V.ref ++ [.ref p]))) (rs' ++ [r]) (as' ++ [b]) ∧ (as' ++ [b]).Nodup ∧ R ∉ as' ++ [b] ∧ (∀ r ∈ rs', OkRide n r) ∧ (∀ c ∈ r, 0 ≤ c.1 ∧ c.1 < n ∧ c.2.1 ≤ c.2.2) ∧ (r.Pairwise fun c d => c.2.2 < d.2.1) ∧ (∀ c ∈ r, c.2.2 < now'') ∧ total (rs' ++ [r]) = i ∧ (-1000 ≤ now'' ∧ now'' ≤ bnd i + 10 ^ 60) ∧ ∀ r2 ∈ rs' ++ [r], ∀ c ∈ r2, -1000 ≤ c.2.1 ∧ c.2.2 ≤ bnd i := by
        intro now' H2 hnb g1 g2 g3 p hp2
        have hpR : p ≠ R := Ne.symm (ne_of_none g2 hp2)
        have hRp : upd H2 p (.lst []) R = some (.lst (as.map V.ref)) := by rw [upd_ne (Ne.symm hpR)]; exact g2
        have pas : p ∉ as := fun z => by
          obtain ⟨_, ts, e⟩ := g3.old p z
          rw [hp2] at e; cases e
        refine ⟨now', rs, [], as, p, rfl, (g1.trans (Same.new hp2 _)).upd hR, by rw [upd_same, List.map_append]; rfl, ?_, ?_, ?_, hok, by simp, List.Pairwise.nil, by simp, by rw [total_snoc, htot]; rfl, ⟨hnb.1, by omega⟩, fun r2 hr2 c2 hc2 => ?_⟩
        · refine Paired.snoc (PenL.move (fun b hb ts e => ?_) (fun t xs e => ?_) g3) ⟨g1.free hp2, [], ?_, .nilI⟩
          · rw [upd_ne (fun z : b = R => hRas (z ▸ hb)), upd_ne (ne_of_none e hp2)]; exact e
          · rw [upd_ne (ne_of e g2 (by simp)), upd_ne (ne_of_none e hp2)]; exact e
          · rw [upd_ne hpR, upd_same]
        · rw [List.nodup_append]
          exact ⟨hnd, by simp, fun x hx y hy => by rw [List.mem_singleton.mp hy]; exact fun z => pas (z ▸ hx)⟩
        · intro z
          rcases List.mem_append.mp z with z | z
          · exact hRas z
          · exact hpR (List.mem_singleton.mp z).symm
        · rcases List.mem_append.mp hr2 with hr2 | hr2
          · exact hbr r2 hr2 c2 hc2
          · rw [List.mem_singleton.mp hr2] at hc2
            cases hc2
      have asl : as.length = rs.length := hp.length.symm
      have hrl : rs.length ≤ total rs := rides_le hok
      refine ⟨fun b H' => Same H H' ∧ H' R = some (.lst (as.map V.ref)) ∧ PenL H H' rs as ∧ (b = false → as ≠ []), ?_, ?_⟩
      · refine ⟨_, rfl, _, rfl, a, _, _, _, rfl, rfl, hA, hcell, _, _, rfl, rfl, (by decide : (0 : Int) < 5), rfl, _, rfl, ite2 (fun c => ⟨hS1, hR1, hp, fun z => by cases z⟩) (fun c => ?_)⟩
        refine ⟨_, rfl, small (by simp), fun e he => ⟨R, e, _, rfl, rfl, SqL.of (by rw [upd_ne (ne_of_none hR1 he)]; exact hR1), SqL.of upd_same, _, rfl, ?_⟩⟩
        refine ⟨hS1.trans (Same.new he _), by rw [upd_ne (ne_of_none hR1 he)]; exact hR1, PenL.move (fun b _ ts h => by rw [upd_ne (ne_of_none h he)]; exact h) (fun b xs h => new_tup he h) hp, fun z e => ?_⟩
        rw [e] at z
        exact absurd z (by decide)
      rintro bb H2 ⟨g1, g2, g3, gne⟩
      have hA2 : SqL K H2 a (ns.map V.int) := g1.seq hS
      refine ite2 (fun c => ?_) (fun c => ?_)
      · refine ⟨_, rfl, _, _, rfl, rfl, ⟨by decide, by decide⟩, _, rfl, _, _, rfl, rfl, .inl ⟨by decide, by decide⟩, _, _, rfl, rfl, _, _, rfl, rfl, (by decide : (0 : Int) < 14), _, _, rfl, rfl, ?_⟩
        refine ⟨fun σ' H' => ∃ now', (-1000 ≤ now' ∧ now' ≤ 1000) ∧ σ' = [some (.ref a), some (.int n), some (.ref R), some (.int now'), some (.int (0 + (i : Int))), some (.int near), some (.int far), some (.int gap), o8] ∧ H' = H2, ?_, ?_⟩
        · refine ⟨_, rfl, _, rfl, a, _, _, _, rfl, rfl, hA2, hcell, _, _, rfl, rfl, (by decide : (0 : Int) < 17), rfl, _, rfl, ite2 (fun c => ?_) (fun c => ?_)⟩
          · have q1 := Int.emod_nonneg near (show (2001 : Int) ≠ 0 by decide)
            have q2 := Int.emod_lt_of_pos near (show (0 : Int) < 2001 by decide)
            exact ⟨_, rfl, _, _, rfl, rfl, (by decide : (0 : Int) < 2001), _, _, rfl, rfl, _, ⟨by omega, by omega⟩, rfl, rfl⟩
          · have q1 := Int.emod_nonneg (near / 4 + 3 * (0 + (i : Int))) (show (14 : Int) ≠ 0 by decide)
            have q2 := Int.emod_lt_of_pos (near / 4 + 3 * (0 + (i : Int))) (show (0 : Int) < 14 by decide)
            exact ⟨_, ⟨by omega, by omega⟩, rfl, rfl⟩
        rintro _ _ ⟨now', hnb, rfl, rfl⟩
        refine ⟨_, rfl, .inl ⟨rfl, _, SqL.of g2⟩, small (by simp), fun p hp2 => ⟨R, as.map V.ref, _, rfl, rfl, ?_, ?_, ?_⟩⟩
        · rw [upd_ne (ne_of_none g2 hp2)]; exact g2
        · rw [List.length_map]; exact smaller (by omega)
        · exact fresh now' _ hnb g1 g2 g3 p hp2
      · have hbb : bb = false := by cases bb <;> simp_all
        refine ⟨_, rfl, _, rfl, _, _, rfl, rfl, ?_⟩
        rcases paired_snoc g3 with ⟨_, z⟩ | ⟨rs', r, as', b, rfl, rfl, _, _⟩
        · exact absurd z (gne hbb)
        have hr := hok r (List.mem_append_right _ List.mem_cons_self)
        refine ⟨now + gap, rs', r, as', b, rfl, g1, g2, g3, hnd, hRas, fun r' hr' => hok r' (List.mem_append_left _ hr'), hr.each, hr.rise, fun c' hc' => ?_, htot, ⟨by omega, by omega⟩, hbr⟩
        have := hlast rs' r rfl c' hc'
        omega
    rintro _ H2 ⟨now', rs', r, as', b, rfl, g1, g2, g3, g4, g5, g6, g7, g8, g9, g10, g11, g12⟩
    have hA2 : SqL K H2 a (ns.map V.int) := g1.seq hS
    -- leave
    have l3 := Int.emod_nonneg (cell / 5) (show (3 : Int) ≠ 0 by decide)
    have l90 := Int.emod_nonneg near (show (90 : Int) ≠ 0 by decide)
    refine ⟨_, rfl, _, rfl, _, rfl, a, _, _, _, rfl, rfl, hA2, hcell, _, _, rfl, rfl, ⟨by decide, by decide⟩, _, _, rfl, rfl, (by decide : (0 : Int) < 3), _, rfl, _, _, rfl, rfl, (by decide : (0 : Int) < 90), small (by simp), fun t ht => ?_⟩
    have hA3 : SqL K (upd H2 t (.lst [.int (cell / 5 % 3), .int (near % 90)])) a (ns.map V.int) := (Same.new ht _).seq hA2
    refine ⟨_, rfl, _, rfl, a, _, _, _, rfl, rfl, hA3, hcell, _, _, rfl, rfl, (by decide : (0 : Int) < 19), rfl, .inr ⟨_, rfl, ?_⟩⟩
    have l3' := Int.emod_lt_of_pos (cell / 5) (show (0 : Int) < 3 by decide)
    have l90' := Int.emod_lt_of_pos near (show (0 : Int) < 90 by decide)
    have hpick : ∃ z, (0 ≤ z ∧ z ≤ 89) ∧ atI ([.int (cell / 5 % 3), .int (near % 90)] : List V) (if decide (V.int (cell % 19) = V.int 6) then 1 else 0) = some (.int z) := by
      by_cases c : V.int (cell % 19) = V.int 6
      · rw [decide_eq_true c]; exact ⟨near % 90, ⟨l90, by omega⟩, rfl⟩
      · rw [decide_eq_false c]; exact ⟨cell / 5 % 3, ⟨l3, by omega⟩, rfl⟩
    obtain ⟨z, hz0, hpick⟩ := hpick
    refine ⟨t, _, _, _, rfl, rfl, SqL.of upd_same, hpick, _, _, rfl, rfl, ?_⟩
    -- the call is put to the last ride
    have e2 : upd H2 t (.lst [.int (cell / 5 % 3), .int (near % 90)]) R = some (.lst ((as' ++ [b]).map V.ref)) := by rw [upd_ne (ne_of_none g2 ht)]; exact g2
    have s3 : Same H (upd H2 t (.lst [.int (cell / 5 % 3), .int (near % 90)])) := g1.trans (Same.new ht _)
    have p3 : PenL H (upd H2 t (.lst [.int (cell / 5 % 3), .int (near % 90)])) (rs' ++ [r]) (as' ++ [b]) := PenL.move (fun b _ ts h => by rw [upd_ne (ne_of_none h ht)]; exact h) (fun b xs h => new_tup ht h) g3
    generalize upd H2 t (.lst [.int (cell / 5 % 3), .int (near % 90)]) = H3 at e2 s3 p3
    obtain ⟨bs', b', eb, p4, h0b, ts, hb, hts⟩ := paired_split p3
    obtain ⟨rfl, eb'⟩ := List.append_inj' eb rfl
    cases eb'
    have hlastR : atI ((as' ++ [b]).map V.ref) (-1) = some (.ref b) := by rw [List.map_append]; exact atI_last _ _
    refine ⟨_, rfl, _, rfl, R, _, _, _, rfl, rfl, SqL.of e2, hlastR, .inl ⟨rfl, _, SqL.of hb⟩, ?_⟩
    refine ⟨_, rfl, _, rfl, _, _, rfl, rfl, _, rfl, _, _, rfl, rfl, hn, _, rfl, _, rfl, small (by simp), fun u hu => ?_⟩
    have hb3 : upd H3 u (.tup [.int ((far + (0 + (i : Int))) % n), .int now', .int (now' + z)]) b = some (.lst ts) := by rw [upd_ne (ne_of_none hb hu)]; exact hb
    have htl : ts.length ≤ 1000 := by
      have := hts.length
      rw [List.length_map] at this
      rw [total_snoc] at g10
      omega
    refine ⟨b, ts, _, rfl, rfl, hb3, smaller (by omega), ?_⟩
    have hbR : b ≠ R := fun z => g5 (z ▸ List.mem_append_right _ List.mem_cons_self)
    have hbas : b ∉ as' := fun z => by
      rw [List.nodup_append] at g4
      exact g4.2.2 b z b List.mem_cons_self rfl
    refine ⟨_, rfl, now' + z, _, _, _, _, _, rs' ++ [r ++ [((far + (0 + (i : Int))) % n, now', now' + z)]], as' ++ [b], rfl, (s3.trans (Same.new hu _)).upd h0b, ?_, ?_, g4, g5, ?_, ?_, ?_, ⟨by omega, by omega⟩, ?_⟩
    · rw [upd_ne (Ne.symm hbR), upd_ne (ne_of_none e2 hu)]; exact e2
    · refine Paired.snoc (PenL.move (fun c hc ts' e => ?_) (fun p xs e => upd_tup hb3 (new_tup hu e)) p4) ⟨h0b, ts ++ [.ref u], upd_same, ?_⟩
      · rw [upd_ne (fun z : c = b => hbas (z ▸ hc)), upd_ne (ne_of_none e hu)]; exact e
      · rw [List.map_append]
        refine RepL.snoc ((rep_calls (P' := fun _ => False) hts).move (fun _ _ => trivial) (fun _ _ z => z.elim) fun p xs e => upd_tup hb3 (new_tup hu e)) ?_
        exact rep_callI (upd_tup hb3 upd_same)
    · intro r' hr'
      rcases List.mem_append.mp hr' with hr' | hr'
      · exact g6 r' hr'
      · rw [List.mem_singleton.mp hr']
        refine ⟨by simp, fun c hc => ?_, pairwise_snoc g8 fun y hy => g9 y hy⟩
        rcases List.mem_append.mp hc with hc | hc
        · exact g7 c hc
        · rw [List.mem_singleton.mp hc]
          exact ⟨Int.emod_nonneg _ (Int.ne_of_gt hn), Int.emod_lt_of_pos _ hn, by show now' ≤ now' + z; omega⟩
    · intro rs2 r2 e2 c hc
      obtain ⟨_, er⟩ := List.append_inj' e2 rfl
      cases er
      rcases List.mem_append.mp hc with hc | hc
      · have := g9 c hc
        omega
      · rw [List.mem_singleton.mp hc]
        exact Int.le_refl _
    · rw [total_snoc] at g10 ⊢
      rw [List.length_append]
      simp only [List.length_singleton]
      omega
    · intro r2 hr2 c2 hc2
      rcases List.mem_append.mp hr2 with hr2 | hr2
      · have := g12 r2 (List.mem_append_left _ hr2) c2 hc2
        exact ⟨this.1, by omega⟩
      · rw [List.mem_singleton.mp hr2] at hc2
        rcases List.mem_append.mp hc2 with hc2 | hc2
        · have := g12 r (List.mem_append_right _ List.mem_cons_self) c2 hc2
          exact ⟨this.1, by omega⟩
        · rw [List.mem_singleton.mp hc2]
          exact ⟨by show -1000 ≤ now'; omega, by show now' + z ≤ _; omega⟩
  · rintro σ H1 ⟨now, o4, o5, o6, o7, o8, rs, as, rfl, hS1, hR1, hp, hnd, hRas, hok, hlast, htot, _, hbr⟩
    have e : (((ns.map V.int).length : Nat) : Int).toNat = ns.length := by rw [hlen]; simp
    rw [e] at htot hbr
    exact ⟨_, rfl, q _ H1 rs hS1 (.lstI hR hR1 hp.rep) hok htot hbr⟩
end
section
variable {P : Program} {w : World} {K : PySem.W.Frag} {mg : Str → Option Value} {base : Heap} {k : Nat}
theorem of_dec {c : Prop} [Decidable c] (h : ¬ decide c = true) : ¬ c := of_decide_eq_false (Bool.eq_false_iff.mpr h)

/-- times as they must be -/
def Keeps (r : List Stop) : Prop := (∀ c ∈ r, c.2.1 ≤ c.2.2) ∧ r.Pairwise fun c d => c.2.2 < d.2.1
def spKeeps : Sp := fun vs H Q _ => ∃ (v : V) (r : List Stop), vs = [v] ∧ Rep Al H (rideD r) v ∧ (Keeps r → Q (.bl true) H) ∧ (¬ Keeps r → Q (.bl false) H)
theorem sc_keeps_time : FnScope ["ride", "left", "stop", "come", "leave"] ["ride"] (defScope s_keeps_time) := ⟨rfl, rfl, rfl, by decide +kernel, rfl, by decide +kernel, by decide +kernel⟩
theorem ok_keeps_time (d : DefOk K mg "keeps_time" s_keeps_time ["ride"]) (B : Blt mg) : Cal P w K mg base (k + 1) "keeps_time" ["ride"] spKeeps := by
  refine d.cal sc_keeps_time (fun vs H Q E h => ?_) (fun f cdv A outer s H vs Q E hr h => ?_)
  · obtain ⟨v, r, rfl, _⟩ := h
    rfl
  obtain ⟨v, r, rfl, hR, qt, qf⟩ := h
  refine ⟨_, (pss_cons (ps_set (i := 1) sc_keeps_time.nd rfl (Or.inl rfl) pe_non)
    (pss_cons (ps_for PassesOwn.never rfl (pi_listK (K := K) rfl (pv 0)) (pg_tupK (K := K) (n := 3) rfl rfl (pgs_cons (pg_name (i := 2) sc_keeps_time.nd rfl (Or.inl rfl)) (pgs_cons (pg_name (i := 3) sc_keeps_time.nd rfl (Or.inl rfl)) (pgs_cons (pg_name (i := 4) sc_keeps_time.nd rfl (Or.inl rfl)) pgs_nil)))) (pss_cons (ps_if (PW.pt (pw_or (pt_cmpR op_lt (pv 4) (pv 3) (nomark _)) (pw_or1 (PW.pt (pw_and (pt_cmpR op_notN (pv 1) pe_non (nomark _)) (pw_and1 (pt_cmpR op_le (pv 3) (pv 1) (nomark _)))))))) (pss_one (ps_ret pe_bl)) pss_nil)
    (pss_one (ps_set (i := 1) sc_keeps_time.nd rfl (Or.inl rfl) (pv 4)))))
    (pss_one (ps_ret pe_bl)))), ?_⟩
  obtain ⟨a, zs, rfl, _, ha, hz⟩ := hR.lstE
  have hlz : zs.length = r.length := by rw [hz.length, List.length_map]
  refine ⟨_, rfl, a, rfl, ⟨zs, SqL.of ha⟩, ?_⟩
  refine for_list (xs := zs) (fun i σ H' => H' = H ∧ ∃ lf o2 o3 o4, σ = [some (.ref a), some lf, o2, o3, o4] ∧ (∀ c ∈ r.take i, c.2.1 ≤ c.2.2) ∧ ((r.take i).Pairwise fun c d => c.2.2 < d.2.1) ∧
    ((i = 0 ∧ lf = .non) ∨ ∃ L, lf = .int L ∧ (∀ c ∈ r.take i, c.2.2 ≤ L) ∧ ∃ j c, r[j]? = some c ∧ j < i ∧ c.2.2 = L)) ⟨rfl, _, _, _, _, rfl, by simp, by simp, .inl ⟨rfl, rfl⟩⟩ ?_ ?_ ?_
  · rintro i σ H' _ ⟨rfl, _⟩
    exact SqL.of ha
  · rintro i x σ H' hxi ⟨rfl, lf, o2, o3, o4, rfl, hea, hpw, hlf⟩
    obtain ⟨e', he', hrep⟩ := hz.getV hxi
    rw [List.getElem?_map] at he'
    obtain ⟨c, hc, rfl⟩ := Option.map_eq_some_iff.mp he'
    obtain ⟨t, rfl, ht, _⟩ := rep_call (P' := Al) hrep
    have et : r.take (i + 1) = r.take i ++ [c] := by rw [List.take_add_one, hc]; rfl
    refine ⟨t, _, rfl, SqT.of ht, rfl, _, _, rfl, _, _, rfl, _, _, rfl, rfl, ?_⟩
    refine ⟨_, rfl, _, rfl, _, _, rfl, rfl, _, rfl, ite2 (fun c1 => iteT ?_) (fun c1 => ?_)⟩
    · have c1' := of_decide_eq_true c1
      exact qf fun z => by have := z.1 c (List.mem_of_getElem? hc); omega
    have gc : ¬ c.2.2 < c.2.1 := of_dec c1
    have hea' : ∀ c' ∈ r.take (i + 1), c'.2.1 ≤ c'.2.2 := fun c' h' => by
      rw [et] at h'
      rcases List.mem_append.mp h' with h' | h'
      · exact hea c' h'
      · rw [List.mem_singleton.mp h']; omega
    rcases hlf with ⟨rfl, rfl⟩ | ⟨L, rfl, hL, j, c0, hc0, hj, hcL⟩
    · refine ⟨_, rfl, rfl, _, rfl, iteF (iteF ?_)⟩
      refine ⟨_, rfl, rfl, _, _, _, _, rfl, hea', ?_, .inr ⟨_, rfl, ?_, 0, c, hc, by omega, rfl⟩⟩
      · rw [et]; simp
      · rw [et]
        intro c' h'
        rw [show c' = c by simpa using h']
        exact Int.le_refl _
    · refine ⟨_, rfl, rfl, _, rfl, iteT ⟨_, rfl, _, rfl, _, _, rfl, rfl, _, rfl, ite2 (fun c' => ?_) (fun c' => ?_)⟩⟩
      · have z := of_decide_eq_true c'
        refine qf fun o => ?_
        have hlt := List.pairwise_iff_getElem.mp o.2 j i (List.getElem?_eq_some_iff.mp hc0).1 (List.getElem?_eq_some_iff.mp hc).1 hj
        rw [(List.getElem?_eq_some_iff.mp hc0).2, (List.getElem?_eq_some_iff.mp hc).2] at hlt
        omega
      · have z : ¬ c.2.1 ≤ L := of_dec c'
        refine ⟨_, rfl, rfl, _, _, _, _, rfl, hea', ?_, .inr ⟨_, rfl, ?_, i, c, hc, by omega, rfl⟩⟩
        · rw [et]
          exact pairwise_snoc hpw fun d hd => by have := hL d hd; omega
        · rw [et]
          intro d hd
          rcases List.mem_append.mp hd with hd | hd
          · have := hL d hd; omega
          · rw [List.mem_singleton.mp hd]; exact Int.le_refl _
  · rintro σ H' ⟨rfl, lf, _, _, _, _, hea, hpw, _⟩
    rw [hlz, List.take_length] at hea hpw
    exact qt ⟨hea, hpw⟩

end
section
variable {P : Program} {w : World} {K : PySem.W.Frag} {mg : Str → Option Value} {base : Heap} {k : Nat}
def spIsNumber : Sp := fun vs H Q _ => ∃ s : List Nat, vs = [.str (strL s)] ∧ s.length ≤ 1000 ∧ ∀ H', Same H H' → Q (.bl (isNum s)) H'

def figOk (f : List Nat) : Bool := !f.isEmpty && (!decide (f.head? = some 48) && f.all fun c => decide (48 ≤ c) && decide (c ≤ 57))
theorem isNum_of {s : List Nat} (h : s ≠ [48]) : isNum s = figOk (if s.head? = some 45 then s.drop 1 else s) := by
  unfold isNum figOk
  rw [decide_eq_false h]
  rfl
theorem strV {a b : List Nat} : decide (V.str (strL a) = V.str (strL b)) = decide (a = b) := decide_eq_decide.mpr ⟨fun h => strL_inj (V.str.inj h), fun h => by rw [h]⟩

theorem sc_is_number : FnScope ["word", "figures"] ["word"] (defScope s_is_number) := ⟨rfl, rfl, rfl, by decide +kernel, rfl, by decide +kernel, by decide +kernel⟩
theorem ok_is_number {tF : Tok} (d : DefOk K mg "is_number" s_is_number ["word"]) (B : Blt mg) (hFIGURES : mg "FIGURES" = some (.str figs tF)) : Cal P w K mg base (k + 1) "is_number" ["word"] spIsNumber := by
  refine d.cal sc_is_number (fun vs H Q E h => ?_) (fun f cdv A outer s H vs Q E hr h => ?_)
  · obtain ⟨s, rfl, _⟩ := h
    rfl
  obtain ⟨s, rfl, hz, q⟩ := h
  refine ⟨_, (pss_cons (ps_if (pt_cmpR op_eq (pv 0) pe_str (nomark _)) (pss_one (ps_ret pe_bl)) pss_nil)
    (pss_cut (ps_set (i := 1) sc_is_number.nd rfl (Or.inl rfl) (pe_ifExp (pt_val (pe_bmK (K := K) rfl PySem.F.plainAttrs_str PySem.F.slot_str_startswith PySem.F.type_str_startswith mt_starts (pv 0) (pa_cons pe_str pa_nil))) (pe_slice sl_str (pv 0) (po_some pe_int) po_none) (pv 0)))
    (pss_one (ps_ret (pe_and (pe_cmpR op_ne (pv 1) pe_str (nomark _)) (pe_and (pe_cmpR op_ne (pe_ix ix_str (pv 1) pe_int (fun _ _ => rfl)) pe_str (nomark _)) (pe_one (pe_callB (call_allBl rfl) rfl B.all PyProof.Rows.boot_all (pa_cons (pe_lc ["sign"] rfl (LcOk.plain (by decide +kernel) (by decide +kernel) rfl (by decide +kernel)) (pi_str (pv 1)) (fun _ _ _ _ _ => ⟨(pg_name (i := 0) (show ((["sign"] : List Str) ++ ([] : List Str)).Nodup by decide +kernel) rfl (Or.inl rfl)), pf_nil, (pe_cmpR op_in_str (pv 0) (pe_glob (v := .str figs) rfl hFIGURES ⟨_, rfl⟩) (by with_unfolding_all rfl))⟩)) pa_nil))))))))), ?_⟩
  refine ⟨_, rfl, rfl, _, rfl, ite2 (fun c => ?_) (fun c => ?_)⟩
  · have c' : s = [48] := of_decide_eq_true ((strV (b := [48])).symm.trans c)
    subst c'
    exact q H (Same.refl H)
  have hne : s ≠ [48] := fun z => c (by rw [z]; rfl)
  refine ⟨fun σ' H' => H' = H ∧ ∃ f, σ' = [some (.str (strL s)), some (.str (strL f))] ∧ f.length ≤ 1000 ∧ figOk f = isNum s, ?_, ?_⟩
  · refine ⟨_, rfl, rfl, _, _, rfl, rfl, _, rfl, ite2 (fun c => ?_) (fun c => ?_)⟩
    · rw [starts_minus] at c
      have c' : s.head? = some 45 := of_decide_eq_true c
      have h0 : s ≠ [] := fun z => by rw [z] at c'; cases c'
      refine ⟨_, rfl, _, rfl, _, rfl, by rw [strL_length]; omega, ?_⟩
      rw [slice_1 s h0]
      refine ⟨rfl, s.drop 1, rfl, by rw [List.length_drop]; omega, ?_⟩
      rw [isNum_of hne, if_pos c']
    · rw [starts_minus] at c
      have c' : ¬ s.head? = some 45 := of_dec c
      refine ⟨_, rfl, rfl, s, rfl, hz, ?_⟩
      rw [isNum_of hne, if_neg c']
  rintro σ' H' ⟨rfl, f, rfl, hf, hk⟩
  have fin : ∀ b H2, Same H' H2 → figOk f = b → Q (.bl b) H2 := fun b H2 hS hb => by
    rw [← hb, hk]
    exact q H2 hS
  cases f with
  | nil => exact ⟨_, rfl, rfl, _, rfl, iteF (fin _ _ (Same.refl _) rfl)⟩
  | cons c0 f =>
    have hnz : (!decide (V.str (strL (c0 :: f)) = V.str (strL []))) = true := by
      rw [strV, decide_eq_false (List.cons_ne_nil _ _)]; rfl
    refine ⟨_, rfl, rfl, _, rfl, ?_⟩
    refine ite2 (fun c => ?_) (fun c => absurd hnz c)
    refine ⟨_, rfl, _, _, c0, rfl, rfl, small (by rw [strL_length]; omega), ?_, rfl, _, rfl, ?_⟩
    · rw [strL_toList]; exact atI_nat (xs := c0 :: f) (j := 0) rfl
    have e0 : decide (V.str ⟨#[c0]⟩ = V.str "0") = decide (c0 = 48) := (strV (a := [c0]) (b := [48])).trans (decide_eq_decide.mpr ⟨fun h => (List.cons.inj h).1, fun h => by rw [h]⟩)
    rw [e0]
    refine ite2 (fun c1 => ?_) (fun c1 => ?_)
    · have c1' : ¬ c0 = 48 := fun z => by rw [decide_eq_true z] at c1; cases c1
      have hall : figOk (c0 :: f) = ((c0 :: f).map fun c => decide (48 ≤ c) && decide (c ≤ 57)).all fun b => b := by
        rw [List.all_map]
        unfold figOk
        rw [decide_eq_false (show ¬ (c0 :: f).head? = some 48 from fun z => c1' (Option.some.inj z))]
        rfl
      refine ⟨_, rfl, _, rfl, ?_⟩
      refine lc_vals ((c0 :: f).map fun c => V.bl (decide (48 ≤ c) && decide (c ≤ 57))) (by rw [List.length_map]; omega) (fun H2 hS => ?_) (fun i H2 hi hS => ?_) (fun Dl i H1 x H2 y R hy hS hD hys hJ hRR => ?_) (fun Dl H2 hS hD hys => ?_)
      · show (strL (c0 :: f)).cps.size ≤ _
        rw [List.length_map]
        simp [strL]
      · rw [List.length_map] at hi
        show i < (strL (c0 :: f)).cps.size
        simpa [strL] using hi
      · obtain ⟨rfl, c, hc, rfl⟩ := hJ
        have hc' : (c0 :: f)[i]? = some c := by simpa [strL] using hc
        rw [List.getElem?_map, hc'] at hy
        cases hy
        refine ⟨Kp.none, _, rfl, _, _, rfl, rfl, ?_⟩
        rw [in_figs]
        exact hRR _ (Same.refl _)
      · refine ⟨Dl, (c0 :: f).map fun c => decide (48 ≤ c) && decide (c ≤ 57), rfl, by rw [hys, List.map_map]; rfl, ?_⟩
        exact fin _ _ hS hall
    · have c1' : c0 = 48 := by
        cases hd : decide (c0 = 48) with
        | true => exact of_decide_eq_true hd
        | false => rw [hd] at c1; exact absurd rfl c1
      subst c1'
      exact fin _ _ (Same.refl _) rfl

theorem joinL_len {sep : List Nat} {m : Nat} : ∀ {ps : List (List Nat)}, (∀ p ∈ ps, p.length ≤ m) → (joinL sep ps).length ≤ ps.length * (m + sep.length)
  | [], _ => Nat.zero_le _
  | [a], h => by
    have := h a List.mem_cons_self
    show a.length ≤ 1 * (m + sep.length)
    omega
  | a :: b :: r, h => by
    have h1 := h a List.mem_cons_self
    have h2 := joinL_len (sep := sep) (m := m) (ps := b :: r) fun p hp => h p (List.mem_cons_of_mem _ hp)
    show (a ++ sep ++ joinL sep (b :: r)).length ≤ (r.length + 1 + 1) * (m + sep.length)
    have h3 : (b :: r).length = r.length + 1 := rfl
    rw [h3] at h2
    rw [List.length_append, List.length_append, Nat.succ_mul]
    omega
end
/-! ### lines, told by their words -/
section
open PySem PySem.NumText
def val (w : List Nat) : Int := (PySem.intText? (strL w)).getD 0
theorem isNum_cases {w : List Nat} (h : isNum w = true) : w = [48] ∨ (∃ c r, w = 45 :: c :: r ∧ 49 ≤ c ∧ AllDigits (c :: r)) ∨ (∃ c r, w = c :: r ∧ 49 ≤ c ∧ AllDigits (c :: r)) := by
  by_cases h0 : w = [48]
  · exact .inl h0
  rw [isNum_of h0] at h
  have key : ∀ {f : List Nat}, figOk f = true → ∃ c r, f = c :: r ∧ 49 ≤ c ∧ AllDigits (c :: r) := fun {f} hf => by
    unfold figOk at hf
    rw [Bool.and_eq_true, Bool.and_eq_true] at hf
    obtain ⟨h1, h2, h3⟩ := hf
    cases f with
    | nil => cases h1
    | cons c r =>
      have had : AllDigits (c :: r) := fun d hd => by
        have := List.all_eq_true.mp h3 d hd
        rw [Bool.and_eq_true, decide_eq_true_eq, decide_eq_true_eq] at this
        exact this
      have hc := had c List.mem_cons_self
      have hne : c ≠ 48 := fun z => by
        rw [z] at h2
        cases h2
      exact ⟨c, r, rfl, by omega, had⟩
  by_cases hm : w.head? = some 45
  · rw [if_pos hm] at h
    obtain ⟨c, r, e, h1, h2⟩ := key h
    cases w with
    | nil => cases hm
    | cons d w =>
      cases hm
      have e : w = c :: r := e
      exact .inr (.inl ⟨c, r, by rw [e], h1, h2⟩)
  · rw [if_neg hm] at h
    exact .inr (.inr (key h))
theorem num_read {w : List Nat} (h : isNum w = true) (hl : w.length ≤ 640) : PySem.intText? (strL w) = some (val w) := by
  have : ∃ n, PySem.intText? (strL w) = some n := by
    rcases isNum_cases h with rfl | ⟨c, r, rfl, _, h2⟩ | ⟨c, r, rfl, _, h2⟩
    · exact ⟨_, intText_digits (x := strL [48]) (by rw [strL_toList]; intro c hc; rw [List.mem_singleton.mp hc]; omega) (by rw [strL_toList]; simp) (by rw [strL_length]; decide)⟩
    · exact ⟨_, intText_neg (x := strL (45 :: c :: r)) (strL_toList _) h2 (by simp) (by rw [strL_length]; omega)⟩
    · exact ⟨_, intText_digits (x := strL (c :: r)) (by rw [strL_toList]; exact h2) (by rw [strL_toList]; simp) (by rw [strL_length]; omega)⟩
  obtain ⟨n, e⟩ := this
  unfold val
  rw [e]; rfl
theorem val_neg {w : List Nat} (h : isNum w = true) (hl : w.length ≤ 640) : w.head? = some 45 ↔ val w < 0 := by
  rcases isNum_cases h with rfl | ⟨c, r, rfl, h1, h2⟩ | ⟨c, r, rfl, h1, h2⟩
  · have e : PySem.intText? (strL [48]) = some ((digitsVal (strL [48]).cps.toList : Nat) : Int) := intText_digits (x := strL [48]) (by rw [strL_toList]; intro c hc; rw [List.mem_singleton.mp hc]; omega) (by rw [strL_toList]; simp) (by rw [strL_length]; decide)
    unfold val
    rw [e]
    refine Iff.intro (fun z => absurd z (by decide)) (fun z => ?_)
    have z : ((digitsVal (strL [48]).cps.toList : Nat) : Int) < 0 := z
    omega
  · have e : PySem.intText? (strL (45 :: c :: r)) = _ := intText_neg (x := strL (45 :: c :: r)) (strL_toList _) h2 (by simp) (by rw [strL_length]; omega)
    unfold val
    rw [e]
    have := digitsVal_pos (c := c) (cs := r) h1
    refine ⟨fun _ => ?_, fun _ => rfl⟩
    show -((digitsVal (c :: r) : Nat) : Int) < 0
    omega
  · have e : PySem.intText? (strL (c :: r)) = _ := intText_digits (x := strL (c :: r)) (by rw [strL_toList]; exact h2) (by rw [strL_toList]; simp) (by rw [strL_length]; omega)
    unfold val
    rw [e]
    refine ⟨fun z => ?_, fun z => ?_⟩
    · have : c = 45 := Option.some.inj z
      omega
    · have z : ((digitsVal (strL (c :: r)).cps.toList : Nat) : Int) < 0 := z
      omega
theorem isNum_free {w : List Nat} (h : isNum w = true) {c : Nat} (hc : c ∈ w) : c = 45 ∨ (48 ≤ c ∧ c ≤ 57) := by
  rcases isNum_cases h with rfl | ⟨d, r, rfl, h1, h2⟩ | ⟨d, r, rfl, h1, h2⟩
  · rw [List.mem_singleton.mp hc]; omega
  · rcases List.mem_cons.mp hc with z | z
    · exact .inl z
    · exact .inr (h2 c z)
  · exact .inr (h2 c hc)
/-- a call's words -/
def goodG (g : List (List Nat)) : Prop := ∃ a b c, g = [a, b, c] ∧ isNum a = true ∧ isNum b = true ∧ isNum c = true ∧ a.head? ≠ some 45
def stopOf (g : List (List Nat)) : Stop := (val (g.getD 0 []), val (g.getD 1 []), val (g.getD 2 []))
/-- the words of the groups, with > between -/
def inter : List (List (List Nat)) → List (List Nat)
  | [] => []
  | [g] => g
  | g :: h :: r => g ++ [[62]] ++ inter (h :: r)
theorem inter_snoc : ∀ {gs : List (List (List Nat))} {g : List (List Nat)}, gs ≠ [] → inter (gs ++ [g]) = inter gs ++ [[62]] ++ g
  | [], _, h => absurd rfl h
  | [b], a, _ => rfl
  | b :: c :: r, a, _ => by
    show b ++ [[62]] ++ inter ((c :: r) ++ [a]) = b ++ [[62]] ++ inter (c :: r) ++ [[62]] ++ a
    rw [inter_snoc (List.cons_ne_nil _ _)]
    simp [List.append_assoc]
theorem joinL_append {sep : List Nat} : ∀ {ps qs : List (List Nat)}, ps ≠ [] → qs ≠ [] → joinL sep (ps ++ qs) = joinL sep ps ++ sep ++ joinL sep qs
  | [], _, h, _ => absurd rfl h
  | [a], q :: r, _, _ => rfl
  | [a], [], _, h => absurd rfl h
  | a :: b :: r, qs, _, h => by
    show a ++ sep ++ joinL sep ((b :: r) ++ qs) = a ++ sep ++ joinL sep (b :: r) ++ sep ++ joinL sep qs
    rw [joinL_append (List.cons_ne_nil _ _) h]
    simp [List.append_assoc]
theorem inter_ne : ∀ {gs : List (List (List Nat))}, gs ≠ [] → (∀ g ∈ gs, g ≠ []) → inter gs ≠ []
  | [], h, _ => absurd rfl h
  | [g], _, h => h g List.mem_cons_self
  | g :: h :: r, _, _ => by
    show g ++ [[62]] ++ inter (h :: r) ≠ []
    simp
theorem joinL_inter : ∀ {gs : List (List (List Nat))}, (∀ g ∈ gs, g ≠ []) → joinL [32] (inter gs) = joinL [32, 62, 32] (gs.map (joinL [32]))
  | [], _ => rfl
  | [g], _ => rfl
  | g :: h :: r, hg => by
    have hr : ∀ x ∈ h :: r, x ≠ [] := fun x hx => hg x (List.mem_cons_of_mem _ hx)
    show joinL [32] (g ++ [[62]] ++ inter (h :: r)) = joinL [32] g ++ [32, 62, 32] ++ joinL [32, 62, 32] ((h :: r).map (joinL [32]))
    rw [joinL_append (by simp) (inter_ne (by simp) hr), joinL_append (hg g List.mem_cons_self) (by simp), joinL_inter hr]
    simp [joinL]
theorem Cut.join {sep s : List Nat} {ps : List (List Nat)} (h : Cut sep s ps) : s = joinL sep ps ∧ ps ≠ [] := by
  induction h with
  | last _ => exact ⟨rfl, by simp⟩
  | @cons a r ps _ _ ih =>
    obtain ⟨e, hn⟩ := ih
    refine ⟨?_, by simp⟩
    cases ps with
    | nil => exact absurd rfl hn
    | cons b q =>
      show a ++ sep ++ r = a ++ sep ++ joinL sep (b :: q)
      rw [← e]
theorem Cut.free {s : List Nat} {ps : List (List Nat)} (h : Cut [32] s ps) : ∀ p ∈ ps, 32 ∉ p := by
  have at1 : ∀ {l : List Nat} {k : Nat}, l[k]? = some 32 → PreAt [32] l k := fun {l k} e => by
    have hk := (List.getElem?_eq_some_iff.mp e).1
    refine ⟨hk, ?_⟩
    show (l.drop k).take 1 = [32]
    rw [List.drop_eq_getElem_cons hk, (List.getElem?_eq_some_iff.mp e).2]
    rfl
  induction h with
  | @last s hno =>
    intro p hp z
    rw [List.mem_singleton.mp hp] at z
    obtain ⟨k, hk⟩ := List.mem_iff_getElem?.mp z
    exact hno k (at1 hk)
  | @cons a r ps hno _ ih =>
    intro p hp z
    rcases List.mem_cons.mp hp with rfl | hp
    · obtain ⟨k, hk⟩ := List.mem_iff_getElem?.mp z
      have hl := (List.getElem?_eq_some_iff.mp hk).1
      exact hno k hl (at1 (by rw [List.append_assoc, List.getElem?_append_left hl]; exact hk))
    · exact ih p hp z
theorem cut_some (sep s : List Nat) (h1 : 1 ≤ sep.length) (hk : Builtin.Str.strKind (strL sep) = 1) : ∃ ps, Cut sep s ps := by
  have g := split_cut (strL s) (strL sep) (by rw [strL_length]; exact h1) hk
  rw [strL_toList, strL_toList] at g
  exact ⟨_, g⟩
/-- a row's line: how it is cut -/
structure Cuts (row : List (List Nat)) (gs : List (List (List Nat))) : Prop where
  words : row = inter gs
  cut : Cut [32, 62, 32] (joinL [32] row) (gs.map (joinL [32]))
  each : ∀ g ∈ gs, Cut [32] (joinL [32] g) g
theorem cuts_some {row : List (List Nat)} (hne : row ≠ []) (hfree : ∀ w ∈ row, 32 ∉ w) : ∃ gs, Cuts row gs := by
  obtain ⟨ps, hps⟩ := cut_some [32, 62, 32] (joinL [32] row) (by decide) (by decide +kernel)
  have : ∀ ps : List (List Nat), ∃ gs : List (List (List Nat)), gs.map (joinL [32]) = ps ∧ ∀ g ∈ gs, Cut [32] (joinL [32] g) g := fun ps => by
    induction ps with
    | nil => exact ⟨[], rfl, fun _ h => absurd h (by simp)⟩
    | cons p ps ih =>
      obtain ⟨gs, e, hg⟩ := ih
      obtain ⟨ws, hw⟩ := cut_some [32] p (by decide) (by decide +kernel)
      have ej := (Cut.join hw).1
      refine ⟨ws :: gs, by rw [List.map_cons, e, ← ej], fun g hgm => ?_⟩
      rcases List.mem_cons.mp hgm with rfl | hgm
      · rw [← ej]; exact hw
      · exact hg g hgm
  obtain ⟨gs, rfl, hg⟩ := this ps
  have hgn : ∀ g ∈ gs, g ≠ [] := fun g h => (Cut.join (hg g h)).2
  have hgs : gs ≠ [] := fun z => (Cut.join hps).2 (by rw [z]; rfl)
  refine ⟨gs, ?_, hps, hg⟩
  have e1 : joinL [32] row = joinL [32] (inter gs) := by rw [joinL_inter hgn]; exact (Cut.join hps).1
  have hfi : ∀ w ∈ inter gs, 32 ∉ w := by
    have : ∀ gs : List (List (List Nat)), (∀ g ∈ gs, ∀ w ∈ g, 32 ∉ w) → ∀ w ∈ inter gs, 32 ∉ w := fun gs => by
      induction gs with
      | nil => intro _ w hw; exact absurd hw (by simp [inter])
      | cons g gs ih =>
        intro h w hw
        cases gs with
        | nil => exact h g List.mem_cons_self w hw
        | cons g2 r =>
          have hw : w ∈ g ++ [[62]] ++ inter (g2 :: r) := hw
          rcases List.mem_append.mp hw with hw | hw
          · rcases List.mem_append.mp hw with hw | hw
            · exact h g List.mem_cons_self w hw
            · rw [List.mem_singleton.mp hw]; decide
          · exact ih (fun g hg => h g (List.mem_cons_of_mem _ hg)) w hw
    exact this gs fun g h w hw => Cut.free (hg g h) w hw
  have c1 := cut_blank hne hfree
  have c2 := cut_blank (inter_ne hgs hgn) hfi
  rw [← e1] at c2
  exact Cut.uniq c1 c2
/-- what the law calls a ride's words -/
def JOk (row : List (List Nat)) (gs : List (List (List Nat))) : Prop := gs ≠ [] ∧ row = inter gs ∧ (∀ g ∈ gs, goodG g) ∧ Keeps (gs.map stopOf)
theorem goodG_ne {g : List (List Nat)} (h : goodG g) : g ≠ [] := by
  obtain ⟨a, b, c, rfl, _⟩ := h
  simp
theorem jok_uniq {row : List (List Nat)} {gs gs' : List (List (List Nat))} (h : Cuts row gs) (j : JOk row gs') : gs' = gs := by
  obtain ⟨hn, e, hg, _⟩ := j
  have c1 : Cut [32, 62, 32] (joinL [32, 62, 32] (gs'.map (joinL [32]))) (gs'.map (joinL [32])) := cut_gt (fun z => hn (List.map_eq_nil_iff.mp z)) fun p hp h62 => by
    obtain ⟨g, hgm, rfl⟩ := List.mem_map.mp hp
    obtain ⟨a, b, c, rfl, ha, hb, hc, _⟩ := hg g hgm
    have h62 : 62 ∈ a ++ [32] ++ (b ++ [32] ++ c) := h62
    simp only [List.mem_append, List.mem_singleton] at h62
    rcases h62 with (h | h) | (h | h) | h
    · have := isNum_free ha h; omega
    · omega
    · have := isNum_free hb h; omega
    · omega
    · have := isNum_free hc h; omega
  rw [← joinL_inter (fun g h => goodG_ne (hg g h)), ← e] at c1
  have e2 := Cut.uniq c1 h.cut
  have key : ∀ (as bs : List (List (List Nat))), as.map (joinL [32]) = bs.map (joinL [32]) → (∀ g ∈ as, Cut [32] (joinL [32] g) g) → (∀ g ∈ bs, Cut [32] (joinL [32] g) g) → as = bs := fun as => by
    induction as with
    | nil =>
      intro bs e _ _
      cases bs with
      | nil => rfl
      | cons _ _ => cases e
    | cons a as ih =>
      intro bs e ha hb
      cases bs with
      | nil => cases e
      | cons b bs =>
        obtain ⟨e1, e2⟩ := List.cons.inj e
        have q := ha a List.mem_cons_self
        rw [e1] at q
        rw [Cut.uniq q (hb b List.mem_cons_self), ih bs e2 (fun g h => ha g (List.mem_cons_of_mem _ h)) fun g h => hb g (List.mem_cons_of_mem _ h)]
  refine key gs' gs e2 (fun g hgm => ?_) h.each
  obtain ⟨a, b, c, rfl, ha, hb, hc, _⟩ := hg g hgm
  refine cut_blank (by simp) fun p hp h32 => ?_
  have : isNum p = true := by
    rcases List.mem_cons.mp hp with h | hp
    · rw [h]; exact ha
    rcases List.mem_cons.mp hp with h | hp
    · rw [h]; exact hb
    rw [List.mem_singleton.mp hp]; exact hc
  have := isNum_free this h32
  omega
def GR (row : List (List Nat)) (i : Nat) : List (List Nat) := (row.drop (4 * i)).take 3
theorem inter_at : ∀ {gs : List (List (List Nat))}, gs ≠ [] → (∀ g ∈ gs, g.length = 3) → (inter gs).length + 1 = 4 * gs.length ∧ ∀ i g, gs[i]? = some g → GR (inter gs) i = g ∧ (0 < i → (inter gs)[4 * i - 1]? = some [62])
  | [], h, _ => absurd rfl h
  | [g], _, h => by
    have h3 := h g List.mem_cons_self
    refine ⟨by show g.length + 1 = 4 * 1; omega, fun i x hx => ?_⟩
    cases i with
    | zero =>
      cases hx
      exact ⟨List.take_of_length_le (by show g.length ≤ 3; omega), fun z => absurd z (by decide)⟩
    | succ i => simp at hx
  | g :: g2 :: r, _, h => by
    have h3 := h g List.mem_cons_self
    obtain ⟨l1, l2⟩ := inter_at (gs := g2 :: r) (by simp) fun x hx => h x (List.mem_cons_of_mem _ hx)
    have e : inter (g :: g2 :: r) = (g ++ [[62]]) ++ inter (g2 :: r) := rfl
    have h4 : (g ++ [[62]]).length = 4 := by rw [List.length_append, h3]; rfl
    refine ⟨by rw [e, List.length_append, h4]; simp only [List.length_cons] at l1 ⊢; omega, fun i x hx => ?_⟩
    cases i with
    | zero =>
      cases hx
      refine ⟨?_, fun z => absurd z (by decide)⟩
      unfold GR
      rw [e, Nat.mul_zero, List.drop_zero, List.append_assoc, List.take_append_of_le_length (by omega), List.take_of_length_le (by omega)]
    | succ i =>
      obtain ⟨q1, q2⟩ := l2 i x (by simpa using hx)
      refine ⟨?_, fun _ => ?_⟩
      · unfold GR at q1 ⊢
        rw [e, show 4 * (i + 1) = (g ++ [[62]]).length + 4 * i by omega, ← List.drop_drop, List.drop_left]
        exact q1
      · rw [e]
        by_cases hi : i = 0
        · subst hi
          rw [List.getElem?_append_left (by omega), show 4 * (0 + 1) - 1 = g.length by omega, List.getElem?_append_right (Nat.le_refl _), Nat.sub_self]
          rfl
        · rw [List.getElem?_append_right (by omega), h4, show 4 * (i + 1) - 1 - 4 = 4 * i - 1 by omega]
          exact q2 (by omega)
end
/-! ### lines read, with what is refused -/
section
variable {P : Program} {w : World} {K : PySem.W.Frag} {mg : Str → Option Value} {base : Heap} {k : Nat} {cNoLine : Addr}
def spReadCallX (cNoLine : Addr) : Sp := fun vs H Q E => ∃ (D : Addr) (g : List (List Nat)), vs = [.ref D] ∧ H D = some (.lst (g.map fun x => V.str (strL x))) ∧ g.length ≤ 100001 ∧ (∀ x ∈ g, x.length ≤ 501) ∧
  (goodG g → ∀ v' H', Same H H' → Rep (New H) H' (callD (stopOf g)) v' → Q v' H') ∧ (¬ goodG g → ∀ H', Same H H' → E (.ref cNoLine) none H')
theorem sc_read_call : FnScope ["words"] ["words"] (defScope s_read_call) := ⟨rfl, rfl, rfl, by decide +kernel, rfl, by decide +kernel, by decide +kernel⟩
theorem ok_read_callX (d : DefOk K mg "read_call" s_read_call ["words"]) (B : Blt mg) (eNoLine : Err K mg "NoLine" cNoLine) (c_is_number : Cal P w K mg base k "is_number" ["word"] spIsNumber) : CalX P w K mg base (k + 1) "read_call" ["words"] (spReadCallX cNoLine) := by
  refine d.calX sc_read_call (fun vs H Q E h => ?_) (fun f cdv A outer s H vs Q E hr h => ?_)
  · obtain ⟨D, g, rfl, _⟩ := h
    rfl
  obtain ⟨D, ws, rfl, hD, hl, hwl, q, qe⟩ := h
  refine ⟨_, (pss_cons (ps_if (PW.pt (pw_or (pt_cmpR op_ne (pe_callB (call_lenK (K := K) rfl) rfl B.len bt_len (pa_cons (pv 0) pa_nil)) pe_int (nomark _)) (pw_or1 (pt_not (pt_val (pe_callB (call_allBl rfl) rfl B.all PyProof.Rows.boot_all (pa_cons (pe_lc ["word"] rfl (LcOk.plain (by decide +kernel) (by decide +kernel) rfl (by decide +kernel)) (pi_listK (K := K) rfl (pv 0)) (fun _ _ _ _ _ => ⟨(pg_name (i := 0) (show ((["word"] : List Str) ++ ([] : List Str)).Nodup by decide +kernel) rfl (Or.inl rfl)), pf_nil, (pe_callC c_is_number hr rfl (pa_cons (pv 0) pa_nil))⟩)) pa_nil))))))) (pss_one (ps_raise rfl rfl eNoLine.at_ eNoLine.is raises_of (pa_cons pe_str pa_nil))) pss_nil)
    (pss_cons (ps_if (pt_val (pe_bmK (K := K) rfl PySem.F.plainAttrs_str PySem.F.slot_str_startswith PySem.F.type_str_startswith mt_starts (pe_ix (ix_listK (K := K) rfl) (pv 0) pe_int (fun _ _ => rfl)) (pa_cons pe_str pa_nil))) (pss_one (ps_raise rfl rfl eNoLine.at_ eNoLine.is raises_of (pa_cons pe_str pa_nil))) pss_nil)
    (pss_one (ps_ret (pe_tup (pa_cons (pe_callTy call_intText rfl B.int bt_int (pa_cons (pe_ix (ix_listK (K := K) rfl) (pv 0) pe_int (fun _ _ => rfl)) pa_nil)) (pa_cons (pe_callTy call_intText rfl B.int bt_int (pa_cons (pe_ix (ix_listK (K := K) rfl) (pv 0) pe_int (fun _ _ => rfl)) pa_nil)) (pa_cons (pe_callTy call_intText rfl B.int bt_int (pa_cons (pe_ix (ix_listK (K := K) rfl) (pv 0) pe_int (fun _ _ => rfl)) pa_nil)) pa_nil)))))))), ?_⟩
  have hlm : (ws.map fun x => V.str (strL x)).length = ws.length := List.length_map _
  refine ⟨_, rfl, D, _, rfl, .inl (SqL.of hD), rfl, _, rfl, ?_⟩
  rw [hlm]
  refine ite2 (fun c => iteT ?_) (fun c => ?_)
  · refine ⟨small (by simp), qe (fun z => ?_) H (Same.refl _)⟩
    obtain ⟨a, b, c', rfl, _⟩ := z
    cases c
  have h3 : ws.length = 3 := by
    cases hd : decide (V.int (ws.length : Int) = V.int 3) with
    | true =>
      have := V.int.inj (of_decide_eq_true hd)
      omega
    | false => rw [hd] at c; exact absurd rfl c
  refine ⟨_, rfl, D, rfl, ⟨_, SqL.of hD⟩, ?_⟩
  refine lc_vals (ws.map fun x => V.bl (isNum x)) (by rw [List.length_map]; omega) (fun H2 hS => ⟨_, SqL.of (hS _ _ hD), by rw [List.length_map, List.length_map]; omega⟩) (fun i H2 hi hS => ?_) (fun Dl i H1 x H2 y R hy hS hDl hys hJ hRR => ?_) (fun Dl H2 hS hDl hys => ?_)
  · rw [List.length_map] at hi
    exact ⟨_, (ws.map fun x => V.str (strL x))[i]'(by rw [List.length_map]; exact hi), SqL.of (hS _ _ hD), List.getElem?_eq_getElem _⟩
  · obtain ⟨rfl, hJ⟩ := hJ
    have hxi := hJ _ (SqL.of (hS _ _ hD))
    rw [List.getElem?_map] at hxi
    obtain ⟨s, hs, rfl⟩ := Option.map_eq_some_iff.mp hxi
    rw [List.getElem?_map, hs] at hy
    cases hy
    exact ⟨Kp.none, _, rfl, s, rfl, Nat.le_trans (hwl s (List.mem_of_getElem? hs)) (by decide), fun H4 h4 => hRR _ h4⟩
  refine ⟨Dl, ws.map isNum, rfl, by rw [hys, List.map_map]; rfl, _, rfl, ?_⟩
  clear c
  obtain ⟨a, b, c, rfl⟩ : ∃ a b c, ws = [a, b, c] := by
    match ws, h3 with
    | [a, b, c], _ => exact ⟨a, b, c, rfl⟩
  have hD2 := hS _ _ hD
  have la := hwl a (by simp)
  have lb := hwl b (by simp)
  have lc := hwl c (by simp)
  have hall : (([a, b, c].map isNum).all fun b => b) = (isNum a && (isNum b && (isNum c && true))) := rfl
  rw [hall]
  cases ha : isNum a with
  | false => exact iteT ⟨small (by simp), qe (fun z => by obtain ⟨_, _, _, e, h1, _⟩ := z; cases e; rw [ha] at h1; cases h1) _ hS⟩
  | true =>
  cases hb : isNum b with
  | false => exact iteT ⟨small (by simp), qe (fun z => by obtain ⟨_, _, _, e, _, h1, _⟩ := z; cases e; rw [hb] at h1; cases h1) _ hS⟩
  | true =>
  cases hc : isNum c with
  | false => exact iteT ⟨small (by simp), qe (fun z => by obtain ⟨_, _, _, e, _, _, h1, _⟩ := z; cases e; rw [hc] at h1; cases h1) _ hS⟩
  | true =>
  refine iteF ?_
  refine ⟨_, rfl, D, _, _, _, rfl, rfl, SqL.of hD2, rfl, rfl, _, _, rfl, rfl, _, rfl, ?_⟩
  rw [starts_minus]
  refine ite2 (fun c1 => ?_) (fun c1 => ?_)
  · exact ⟨small (by simp), qe (fun z => by obtain ⟨_, _, _, e, _, _, _, h1⟩ := z; cases e; exact h1 (of_decide_eq_true c1)) _ hS⟩
  have hg : goodG [a, b, c] := ⟨a, b, c, rfl, ha, hb, hc, of_dec c1⟩
  refine ⟨_, rfl, D, _, _, _, rfl, rfl, SqL.of hD2, rfl, _, _, rfl, num_read ha (by omega), by rw [strL_length]; omega, ?_⟩
  refine ⟨_, rfl, D, _, _, _, rfl, rfl, SqL.of hD2, rfl, _, _, rfl, num_read hb (by omega), by rw [strL_length]; omega, ?_⟩
  refine ⟨_, rfl, D, _, _, _, rfl, rfl, SqL.of hD2, rfl, _, _, rfl, num_read hc (by omega), by rw [strL_length]; omega, ?_⟩
  refine ⟨small (by simp), fun p hp => ?_⟩
  exact q hg _ _ (hS.trans (Same.new hp _)) (rep_callI (c := stopOf [a, b, c]) upd_same)

def spReadX (cNoLine : Addr) : Sp := fun vs H Q E => ∃ (row : List (List Nat)) (gs : List (List (List Nat))), vs = [.str (strL (joinL [32] row))] ∧ Cuts row gs ∧ (joinL [32] row).length ≤ 100000 ∧ (∀ g ∈ gs, ∀ x ∈ g, x.length ≤ 501) ∧
  ((∀ g ∈ gs, goodG g) → Keeps (gs.map stopOf) → ∀ v' H', Same H H' → Rep (New H) H' (rideD (gs.map stopOf)) v' → Q v' H') ∧ (¬ ((∀ g ∈ gs, goodG g) ∧ Keeps (gs.map stopOf)) → ∀ H', Same H H' → E (.ref cNoLine) none H')
theorem sc_read : FnScope ["line", "ride"] ["line"] (defScope s_read) := ⟨rfl, rfl, rfl, by decide +kernel, rfl, by decide +kernel, by decide +kernel⟩
theorem joinL_ge {sep : List Nat} : ∀ (ps : List (List Nat)), ps.length ≤ (joinL sep ps).length + 1 ∨ sep = [] 
  | [] => .inl (by simp)
  | [a] => .inl (by simp)
  | a :: b :: r => by
    rcases joinL_ge (sep := sep) (b :: r) with h | h
    · cases sep with
      | nil => exact .inr rfl
      | cons x xs =>
        refine .inl ?_
        show _ ≤ (a ++ (x :: xs) ++ joinL (x :: xs) (b :: r)).length + 1
        rw [List.length_append, List.length_append]
        simp only [List.length_cons] at h ⊢
        omega
    · exact .inr h
theorem joinL_part {sep : List Nat} : ∀ {ps : List (List Nat)} {p : List Nat}, p ∈ ps → p.length ≤ (joinL sep ps).length
  | [a], p, h => by rw [List.mem_singleton.mp h]; exact Nat.le_refl _
  | a :: b :: r, p, h => by
    show _ ≤ (a ++ sep ++ joinL sep (b :: r)).length
    rw [List.length_append, List.length_append]
    rcases List.mem_cons.mp h with rfl | h
    · omega
    · have := joinL_part (sep := sep) h
      omega
theorem split_g {g : List (List Nat)} (h : Cut [32] (joinL [32] g) g) : Txt.split (strL (joinL [32] g)) " " = g.map strL := split_of (sep := [32]) (by decide) (by decide +kernel) h
theorem first_bad {gs : List (List (List Nat))} (hall : ¬ ∀ g ∈ gs, goodG g) : ∃ (j : Nat) (g0 : List (List Nat)), gs[j]? = some g0 ∧ ¬ goodG g0 := by
  apply Classical.byContradiction
  intro no
  refine hall fun g hg => Classical.byContradiction fun nb => ?_
  obtain ⟨j, hj⟩ := List.mem_iff_getElem?.mp hg
  exact no ⟨j, g, hj, nb⟩
theorem ok_readX (d : DefOk K mg "read" s_read ["line"]) (B : Blt mg) (eNoLine : Err K mg "NoLine" cNoLine) (c_read_call : CalX P w K mg base k "read_call" ["words"] (spReadCallX cNoLine)) (c_keeps_time : Cal P w K mg base k "keeps_time" ["ride"] spKeeps) : CalX P w K mg base (k + 1) "read" ["line"] (spReadX cNoLine) := by
  refine d.calX sc_read (fun vs H Q E h => ?_) (fun f cdv A outer s H vs Q E hr h => ?_)
  · obtain ⟨row, gs, rfl, _⟩ := h
    rfl
  obtain ⟨row, gs, rfl, hcut, hl, hwl, q, qe⟩ := h
  refine ⟨_, (pss_cons (ps_setLCX rfl (i := 1) ["call"] sc_read.nd rfl (Or.inl rfl) rfl (LcOk.plain (by decide +kernel) (by decide +kernel) rfl (by decide +kernel)) (pi_listK (K := K) rfl (pe_bmK (K := K) rfl PySem.F.plainAttrs_str PySem.F.slot_str_split PySem.F.type_str_split mt_split (pv 0) (pa_cons pe_str pa_nil))) (fun _ _ _ _ _ _ pz => ⟨(pg_name (i := 0) (show ((["call"] : List Str) ++ ([] : List Str)).Nodup by decide +kernel) rfl (Or.inl rfl)), pf_nil, (pe_callX c_read_call hr rfl pz (pa_cons (pe_bmK (K := K) rfl PySem.F.plainAttrs_str PySem.F.slot_str_split PySem.F.type_str_split mt_split (pv 0) (pa_cons pe_str pa_nil)) pa_nil))⟩))
    (pss_cons (ps_if (pt_not (pt_val (pe_callC c_keeps_time hr rfl (pa_cons (pv 1) pa_nil)))) (pss_one (ps_raise rfl rfl eNoLine.at_ eNoLine.is raises_of (pa_cons pe_str pa_nil))) pss_nil)
    (pss_one (ps_ret (pv 1))))), ?_⟩
  have hsp : Txt.split (strL (joinL [32] row)) " > " = (gs.map (joinL [32])).map strL := split_of (sep := [32, 62, 32]) (by decide) (by decide +kernel) hcut.cut
  have hgl : gs.length ≤ 100001 := by
    have h1 := (Cut.join hcut.cut).1
    have h2 := (joinL_ge (sep := [32, 62, 32]) (gs.map (joinL [32]))).resolve_right (by simp)
    rw [← h1, List.length_map] at h2
    omega
  have hpl : ∀ g ∈ gs, (joinL [32] g).length ≤ 100000 := fun g hg => by
    have h1 := (Cut.join hcut.cut).1
    have h2 := joinL_part (sep := [32, 62, 32]) (List.mem_map_of_mem (f := joinL [32]) hg)
    rw [← h1] at h2
    omega
  refine ⟨_, rfl, rfl, _, _, rfl, rfl, by decide, by rw [strL_length]; omega, fun Ds hDs => ?_⟩
  rw [hsp]
  refine ⟨Ds, rfl, ⟨_, SqL.of upd_same⟩, ?_⟩
  have hw : upd H Ds (.lst (((gs.map (joinL [32])).map strL).map V.str)) Ds = some (.lst (((gs.map (joinL [32])).map strL).map V.str)) := upd_same
  have hS0 : Same H (upd H Ds (.lst (((gs.map (joinL [32])).map strL).map V.str))) := Same.new hDs _
  generalize upd H Ds (.lst (((gs.map (joinL [32])).map strL).map V.str)) = H1 at hw hS0
  have hlw : (((gs.map (joinL [32])).map strL).map V.str).length = gs.length := by rw [List.length_map, List.length_map, List.length_map]
  have at_ : ∀ (i : Nat) (H2 : Hp) (x : V) (H3 : Hp), Same H1 H2 → (Itl K Ds).yld i H2 x H3 → H3 = H2 ∧ ∃ g, gs[i]? = some g ∧ x = .str (strL (joinL [32] g)) := fun i H2 x H3 hS hJ => by
    obtain ⟨e, hJ⟩ := hJ
    subst e
    have hxi := hJ _ (SqL.of (hS _ _ hw))
    rw [List.getElem?_map, List.getElem?_map, List.getElem?_map] at hxi
    obtain ⟨y, hy, e1⟩ := Option.map_eq_some_iff.mp hxi
    obtain ⟨z, hz, e2⟩ := Option.map_eq_some_iff.mp hy
    obtain ⟨g, hg, e3⟩ := Option.map_eq_some_iff.mp hz
    exact ⟨rfl, g, hg, by rw [← e1, ← e2, ← e3]⟩
  have go_ : ∀ (i : Nat) (H2 : Hp), i < gs.length → Same H1 H2 → (Itl K Ds).go i H2 := fun i H2 hi hS =>
    ⟨_, (((gs.map (joinL [32])).map strL).map V.str)[i]'(by rw [hlw]; exact hi), SqL.of (hS _ _ hw), List.getElem?_eq_getElem _⟩
  have gl_ : ∀ g ∈ gs, g.length ≤ 100000 + 1 := fun g hg => by
    have h2 := (joinL_ge (sep := [32]) g).resolve_right (by simp)
    have := hpl g hg
    omega
  by_cases hall : ∀ g ∈ gs, goodG g
  · refine lc_map (New H1) ((gs.map stopOf).map callD) (by rw [List.length_map, List.length_map]; omega) (fun H2 hS => ⟨_, SqL.of (hS _ _ hw), by rw [hlw, List.length_map, List.length_map]; omega⟩) (fun i H2 hi hS => go_ i H2 (by rw [List.length_map, List.length_map] at hi; exact hi) hS) (fun Dl i H2 x H3 e R he hS hD hys hJ hRR => ?_) (fun Dl H2 hS hD ys hys hr2 => ?_)
    · obtain ⟨rfl, g, hg, rfl⟩ := at_ _ _ _ _ hS hJ
      have hgm := List.mem_of_getElem? hg
      rw [List.getElem?_map, List.getElem?_map, hg] at he
      cases he
      refine ⟨Kp.none, _, rfl, rfl, _, _, rfl, rfl, by decide, by rw [strL_length]; exact hpl g hgm, fun D2 hD2 => ?_⟩
      refine ⟨D2, g, rfl, by rw [split_g (hcut.each g hgm), upd_same, List.map_map]; rfl, gl_ g hgm, hwl g hgm, fun _ v' H4 h4 rv => ?_, fun z => absurd (hall g hgm) z⟩
      refine hRR _ _ ((Same.new hD2 _).trans h4) (rv.weak fun b hb => ⟨?_, New.back (hS.trans (Same.new hD2 _)) b hb⟩)
      obtain ⟨ys, hys⟩ := hys
      exact New.ne hb (Same.new hD2 _ _ _ hys)
    have hrep : Rep (New H) H2 (rideD (gs.map stopOf)) (.ref Dl) := .lstI (New.back hS0 Dl hD) hys (hr2.weak fun b z => New.back hS0 b z.2)
    refine ⟨_, rfl, _, gs.map stopOf, rfl, hrep.weak fun _ _ => trivial, fun hk => ⟨_, rfl, iteF ?_⟩, fun hnk => ⟨_, rfl, iteT ⟨small (by simp), qe (fun z => hnk z.2) _ (hS0.trans hS)⟩⟩⟩
    exact ⟨_, rfl, q hall hk _ _ (hS0.trans hS) hrep⟩
  · -- some call is none
    have nq := qe fun z => hall z.1
    obtain ⟨j, g0, hj, hb⟩ := first_bad hall
    have hjl := (List.getElem?_eq_some_iff.mp hj).1
    refine lc_raise j (by omega) (fun i H2 hi hS => go_ i H2 (by omega) hS) (fun Dl i H2 x H3 R hi hS hD hys hJ hRR => ?_)
    obtain ⟨rfl, g, hg, rfl⟩ := at_ _ _ _ _ hS hJ
    have hgm := List.mem_of_getElem? hg
    refine ⟨Kp.none, _, rfl, rfl, _, _, rfl, rfl, by decide, by rw [strL_length]; exact hpl g hgm, fun D2 hD2 => ?_⟩
    refine ⟨D2, g, rfl, by rw [split_g (hcut.each g hgm), upd_same, List.map_map]; rfl, gl_ g hgm, hwl g hgm, fun hgg v' H4 h4 rv => ?_, fun _ H4 h4 => nq H4 (((hS0.trans hS).trans (Same.new hD2 _)).trans h4)⟩
    refine hRR ?_ _ _ ((Same.new hD2 _).trans h4)
    rcases Nat.lt_or_ge i j with h | h
    · exact h
    · have e : i = j := by omega
      subst e
      rw [hj] at hg
      cases hg
      exact absurd hgg hb
end
section
variable {P : Program} {w : World} {K : PySem.W.Frag} {mg : Str → Option Value} {base : Heap} {k : Nat} {cNoLine : Addr}
def numV (x : List Nat) : V := if isNum x = true then .int (val x) else .non
theorem slice_to (x : List Nat) : Txt.slice (strL x) none (some 1) = strL (x.take 1) := by
  by_cases h : x = []
  · rw [h]; exact slice_nil _ _
  · exact slice_to1 x h
theorem slice_from (x : List Nat) : Txt.slice (strL x) (some 1) none = strL (x.drop 1) := by
  by_cases h : x = []
  · rw [h]; exact slice_nil _ _
  · exact slice_1 x h
theorem take1_head (x : List Nat) (c : Nat) : decide (x.take 1 = [c]) = decide (x.head? = some c) := by
  cases x with
  | nil => rfl
  | cons d r =>
    apply decide_eq_decide.mpr
    show [d] = [c] ↔ some d = some c
    simp
def spNumber : Sp := fun vs H Q _ => ∃ x : List Nat, vs = [.str (strL x)] ∧ x.length ≤ 501 ∧ Q (numV x) H
theorem sc_law_number : FnScope ["_law_word", "_law_figures", "_law_sign"] ["_law_word"] (defScope s_law_number) := ⟨rfl, rfl, rfl, by decide +kernel, rfl, by decide +kernel, by decide +kernel⟩
theorem ok_law_number (d : DefOk K mg "_law_number" s_law_number ["_law_word"]) (B : Blt mg) : Cal P w K mg base (k + 1) "_law_number" ["_law_word"] spNumber := by
  refine d.cal sc_law_number (fun vs H Q E h => ?_) (fun f cdv A outer s H vs Q E hr h => ?_)
  · obtain ⟨x, rfl, _⟩ := h
    rfl
  obtain ⟨x, rfl, hl, q⟩ := h
  refine ⟨_, (pss_cons (ps_set (i := 1) sc_law_number.nd rfl (Or.inl rfl) (pv 0))
    (pss_cut (ps_if (pt_cmpR op_eq (pe_slice sl_str (pv 0) po_none (po_some pe_int)) pe_str (nomark _)) (pss_one (ps_set (i := 1) sc_law_number.nd rfl (Or.inl rfl) (pe_slice sl_str (pv 0) (po_some pe_int) po_none))) pss_nil)
    (pss_cut (ps_if (PW.pt (pw_or (pt_cmpR op_eq (pv 1) pe_str (nomark _)) (pw_or1 (PW.pt (pw_and (pt_cmpR op_eq (pe_slice sl_str (pv 1) po_none (po_some pe_int)) pe_str (nomark _)) (pw_and1 (pt_cmpR op_ne (pv 0) pe_str (nomark _)))))))) (pss_one (ps_ret pe_non)) pss_nil)
    (pss_cons (ps_for PassesOwn.never rfl (pi_str (pv 1)) (pg_name (i := 2) sc_law_number.nd rfl (Or.inl rfl)) (pss_one (ps_if (pt_cmpR op_notin_str (pv 2) pe_str (by with_unfolding_all rfl)) (pss_one (ps_ret pe_non)) pss_nil)))
    (pss_one (ps_ret (pe_callTy call_intText rfl B.int bt_int (pa_cons (pv 0) pa_nil)))))))), ?_⟩
  have qn : isNum x = false → Q .non H := fun h => by
    unfold numV at q
    rw [h] at q
    exact q
  refine ⟨_, rfl, ?_⟩
  refine ⟨fun σ' H' => H' = H ∧ ∃ o, σ' = [some (.str (strL x)), some (.str (strL (if x.head? = some 45 then x.drop 1 else x))), o], ?_, ?_⟩
  · refine ⟨_, rfl, _, rfl, _, rfl, by rw [strL_length]; omega, rfl, _, rfl, ?_⟩
    rw [slice_to x, show decide (V.str (strL (x.take 1)) = V.str "-") = decide (x.head? = some 45) from (strV (b := [45])).trans (take1_head x 45)]
    refine ite2 (fun c => ?_) (fun c => ?_)
    · refine ⟨_, rfl, _, rfl, _, rfl, by rw [strL_length]; omega, ?_⟩
      rw [slice_from x, if_pos (of_decide_eq_true c)]
      exact ⟨rfl, _, rfl⟩
    · rw [if_neg (of_dec c)]
      exact ⟨rfl, _, rfl⟩
  rintro σ' H' ⟨rfl, o, rfl⟩
  have hfl : (if x.head? = some 45 then x.drop 1 else x).length ≤ 501 := by
    split
    · rw [List.length_drop]; omega
    · exact hl
  have h48 : x = [48] → (if x.head? = some 45 then x.drop 1 else x) = [48] := fun z => by rw [z]; rfl
  have hnum : x ≠ [48] → isNum x = figOk (if x.head? = some 45 then x.drop 1 else x) := isNum_of
  generalize (if x.head? = some 45 then x.drop 1 else x) = f at hfl h48 hnum
  have fin : f ≠ [] → (x = [48] ∨ f.head? ≠ some 48) → (∀ c ∈ f, (decide (48 ≤ c) && decide (c ≤ 57)) = true) → isNum x = true := fun h1 h2 h3 => by
    by_cases hx : x = [48]
    · rw [hx]; rfl
    · rw [hnum hx]
      unfold figOk
      rw [decide_eq_false (h2.resolve_left hx), List.all_eq_true.mpr h3]
      cases f with
      | nil => exact absurd rfl h1
      | cons _ _ => rfl
  refine ⟨fun σ' H'' => H'' = H' ∧ σ' = [some (.str (strL x)), some (.str (strL f)), o] ∧ f ≠ [] ∧ (x = [48] ∨ f.head? ≠ some 48), ?_, ?_⟩
  · refine ⟨_, rfl, rfl, _, rfl, ?_⟩
    rw [show decide (V.str (strL f) = V.str "") = decide (f = []) from strV (b := [])]
    refine ite2 (fun c => iteT (qn ?_)) (fun c => ?_)
    · have e : f = [] := of_decide_eq_true c
      rw [hnum (fun z => by rw [h48 z] at e; cases e), e]; rfl
    have hfn : f ≠ [] := of_dec c
    refine ⟨_, rfl, _, rfl, _, rfl, by rw [strL_length]; omega, rfl, _, rfl, ?_⟩
    rw [slice_to f, show decide (V.str (strL (f.take 1)) = V.str "0") = decide (f.head? = some 48) from (strV (b := [48])).trans (take1_head f 48)]
    refine ite2 (fun c1 => ?_) (fun c1 => iteF ⟨rfl, rfl, hfn, .inr (of_dec c1)⟩)
    refine ⟨_, rfl, rfl, _, rfl, ?_⟩
    rw [show decide (V.str (strL x) = V.str "0") = decide (x = [48]) from strV (b := [48])]
    by_cases hx : x = [48]
    · rw [decide_eq_true hx]
      exact iteF ⟨rfl, rfl, hfn, .inl hx⟩
    · rw [decide_eq_false hx]
      refine iteT (qn ?_)
      rw [hnum hx]
      unfold figOk
      rw [decide_eq_true (of_decide_eq_true c1)]
      simp
  rintro σ' H'' ⟨rfl, rfl, hfn, hx⟩
  refine ⟨_, rfl, _, rfl, ?_⟩
  refine for_str (l := f) (fun i σ' H' => H' = H'' ∧ (∃ o, σ' = [some (.str (strL x)), some (.str (strL f)), o]) ∧ ∀ c ∈ f.take i, (decide (48 ≤ c) && decide (c ≤ 57)) = true) ⟨rfl, ⟨_, rfl⟩, by simp⟩ ?_ ?_
  · rintro i c σ' H' hc ⟨rfl, ⟨o, rfl⟩, hd⟩
    refine ⟨_, rfl, _, _, rfl, rfl, _, rfl, ?_⟩
    rw [in_figs]
    cases hdc : (decide (48 ≤ c) && decide (c ≤ 57)) with
    | true =>
      refine iteF ⟨rfl, ⟨_, rfl⟩, fun c' hc' => ?_⟩
      rw [List.take_add_one, hc] at hc'
      rcases List.mem_append.mp hc' with hc' | hc'
      · exact hd c' hc'
      · rw [show c' = c by simpa using hc']; exact hdc
    | false =>
      refine iteT (qn ?_)
      have hx' : x ≠ [48] := fun z => by
        rw [h48 z] at hc
        have : c = 48 := by simpa using List.mem_of_getElem? hc
        rw [this] at hdc
        cases hdc
      rw [hnum hx']
      unfold figOk
      have : (f.all fun c => decide (48 ≤ c) && decide (c ≤ 57)) = false := Bool.eq_false_iff.mpr fun z => by
        rw [List.all_eq_true.mp z c (List.mem_of_getElem? hc)] at hdc
        cases hdc
      rw [this]
      simp
  · rintro σ' H' ⟨rfl, ⟨o, rfl⟩, hd⟩
    rw [List.take_length] at hd
    have hn := fin hfn hx hd
    unfold numV at q
    rw [if_pos hn] at q
    exact ⟨_, rfl, _, _, rfl, num_read hn (by omega), by rw [strL_length]; omega, q⟩
def gsOf (row : List (List Nat)) (i : Nat) : List (List (List Nat)) := (List.range i).map (GR row)
theorem jok_at {row : List (List Nat)} {gs : List (List (List Nat))} (j : JOk row gs) : row.length + 1 = 4 * gs.length ∧ ∀ i, i < gs.length → ∃ g, gs[i]? = some g ∧ GR row i = g ∧ goodG g ∧ (0 < i → row[4 * i - 1]? = some [62]) := by
  obtain ⟨hn, e, hg, _⟩ := j
  obtain ⟨l1, l2⟩ := inter_at hn fun g h => by
    obtain ⟨a, b, c, rfl, _⟩ := hg g h
    rfl
  rw [← e] at l1 l2
  refine ⟨l1, fun i hi => ⟨gs[i], List.getElem?_eq_getElem hi, (l2 i _ (List.getElem?_eq_getElem hi)).1, hg _ (List.getElem_mem hi), (l2 i _ (List.getElem?_eq_getElem hi)).2⟩⟩
def spJudged : Sp := fun vs H Q _ => ∃ (D : Addr) (row : List (List Nat)), vs = [.ref D] ∧ H D = some (.lst (row.map fun x => V.str (strL x))) ∧ row.length ≤ 1000 ∧ (∀ x ∈ row, x.length ≤ 501) ∧
  (∀ gs, JOk row gs → ∀ v' H', Same H H' → Rep (New H) H' (rideD (gs.map stopOf)) v' → Q v' H') ∧ ((∀ gs, ¬ JOk row gs) → ∀ H', Same H H' → Q .non H')
theorem sc_law_judged : FnScope ["_law_words", "_law_ride", "_law_last", "_law_k", "_law_parts"] ["_law_words"] (defScope s_law_judged) := ⟨rfl, rfl, rfl, by decide +kernel, rfl, by decide +kernel, by decide +kernel⟩
theorem ok_law_judged (d : DefOk K mg "_law_judged" s_law_judged ["_law_words"]) (B : Blt mg) (c_law_number : Cal P w K mg base k "_law_number" ["_law_word"] spNumber) : Cal P w K mg base (k + 1) "_law_judged" ["_law_words"] spJudged := by
  refine d.cal sc_law_judged (fun vs H Q E h => ?_) (fun f cdv A outer s H vs Q E hr h => ?_)
  · obtain ⟨D, row, rfl, _⟩ := h
    rfl
  obtain ⟨D, row, rfl, hD, hl, hwl, q, qn⟩ := h
  refine ⟨_, (pss_cons (ps_set (i := 1) sc_law_judged.nd rfl (Or.inl rfl) (pe_lst pa_nil))
    (pss_cons (ps_set (i := 2) sc_law_judged.nd rfl (Or.inl rfl) pe_non)
    (pss_cut (ps_if (pt_cmpR op_ne (pe_op op_mod (pe_callB (call_lenK (K := K) rfl) rfl B.len bt_len (pa_cons (pv 0) pa_nil)) pe_int) pe_int (nomark _)) (pss_one (ps_ret pe_non)) pss_nil)
    (pss_cons (ps_for PassesOwn.never rfl (pi_range4 rfl B.range (pa_cons pe_int (pa_cons (pe_callB (call_lenK (K := K) rfl) rfl B.len bt_len (pa_cons (pv 0) pa_nil)) (pa_cons pe_int pa_nil)))) (pg_name (i := 3) sc_law_judged.nd rfl (Or.inl rfl)) (pss_cons (ps_setLC (i := 4) ["_law_word"] sc_law_judged.nd rfl (Or.inl rfl) rfl (LcOk.plain (by decide +kernel) (by decide +kernel) rfl (by decide +kernel)) (pi_listK (K := K) rfl (pe_slice (sl_listK (K := K) rfl) (pv 0) (po_some (pv 3)) (po_some (pe_op op_add (pv 3) pe_int)))) (fun _ _ _ _ _ => ⟨(pg_name (i := 0) (show ((["_law_word"] : List Str) ++ ([] : List Str)).Nodup by decide +kernel) rfl (Or.inl rfl)), pf_nil, (pe_callC c_law_number hr rfl (pa_cons (pv 0) pa_nil))⟩))
    (pss_cut (ps_if (PW.pt (pw_or (pt_cmpR (op_inK (K := K) rfl) pe_non (pv 4) (by with_unfolding_all rfl)) (pw_or1 (PW.pt (pw_and (pt_cmpR op_gt (pv 3) pe_int (nomark _)) (pw_and1 (pt_cmpR op_ne (pe_ix (ix_listK (K := K) rfl) (pv 0) (pe_op op_sub (pv 3) pe_int) (fun _ _ => rfl)) pe_str (nomark _)))))))) (pss_one (ps_ret pe_non)) pss_nil)
    (pss_cut (ps_if (PW.pt (pw_or (pt_cmpR op_lt (pe_ix (ix_listK (K := K) rfl) (pv 4) pe_int (fun _ _ => rfl)) pe_int (nomark _)) (pw_or (pt_cmpR op_lt (pe_ix (ix_listK (K := K) rfl) (pv 4) pe_int (fun _ _ => rfl)) (pe_ix (ix_listK (K := K) rfl) (pv 4) pe_int (fun _ _ => rfl)) (nomark _)) (pw_or1 (PW.pt (pw_and (pt_cmpR op_notN (pv 2) pe_non (nomark _)) (pw_and1 (pt_cmpR op_le (pe_ix (ix_listK (K := K) rfl) (pv 4) pe_int (fun _ _ => rfl)) (pv 2) (nomark _))))))))) (pss_one (ps_ret pe_non)) pss_nil)
    (pss_cons (ps_set (i := 2) sc_law_judged.nd rfl (Or.inl rfl) (pe_ix (ix_listK (K := K) rfl) (pv 4) pe_int (fun _ _ => rfl)))
    (pss_one (ps_expr (pe_bmK (K := K) rfl PySem.F.plainAttrs_list PySem.F.slot_list_append PySem.F.type_list_append mt_append (pv 1) (pa_cons (pe_tup (pa_cons (pe_ix (ix_listK (K := K) rfl) (pv 4) pe_int (fun _ _ => rfl)) (pa_cons (pe_ix (ix_listK (K := K) rfl) (pv 4) pe_int (fun _ _ => rfl)) (pa_cons (pe_ix (ix_listK (K := K) rfl) (pv 4) pe_int (fun _ _ => rfl)) pa_nil)))) pa_nil)))))))))
    (pss_one (ps_ret (pv 1))))))), ?_⟩
  have hlm : (row.map fun x => V.str (strL x)).length = row.length := List.length_map _
  refine ⟨small (by simp), fun R hR => ?_⟩
  have hSR : Same H (upd H R (.lst [])) := Same.new hR _
  have hR1 : upd H R (.lst []) R = some (.lst []) := upd_same
  generalize upd H R (.lst []) = H1 at hSR hR1
  refine ⟨fun σ' H' => H' = H1 ∧ (∃ o3 o4, σ' = [some (.ref D), some (.ref R), some .non, o3, o4]) ∧ row.length % 4 = 3, ?_, ?_⟩
  · refine ⟨_, rfl, D, _, rfl, .inl (SqL.of (hSR _ _ hD)), _, _, rfl, rfl, (by decide : (0 : Int) < 4), rfl, _, rfl, ?_⟩
    rw [hlm]
    refine ite2 (fun c => ?_) (fun c => ?_)
    · refine qn (fun gs j => ?_) _ hSR
      have hj := (jok_at j).1
      have hm : row.length % 4 = 3 := by omega
      have hm2 : ((row.length : Int) % 4) = 3 := by omega
      rw [decide_eq_true (congrArg V.int hm2)] at c
      cases c
    · refine ⟨rfl, ⟨_, _, rfl⟩, ?_⟩
      cases hd : decide (V.int ((row.length : Int) % 4) = V.int 3) with
      | true =>
        have := V.int.inj (of_decide_eq_true hd)
        omega
      | false => rw [hd] at c; exact absurd rfl c
  rintro σ' H' ⟨rfl, ⟨o3, o4, rfl⟩, h43⟩
  refine ⟨_, rfl, D, _, rfl, .inl (SqL.of (hSR _ _ hD)), row.length, by rw [hlm], by omega, ?_⟩
  refine for_range4 (fun i σ' H2 => ∃ lf o3 o4 xs, σ' = [some (.ref D), some (.ref R), some lf, o3, o4] ∧ Same H H2 ∧ H2 R = some (.lst xs) ∧ RepL (fun z => z ≠ R) H2 (((gsOf row i).map stopOf).map callD) xs ∧ row.take (4 * i - 1) = inter (gsOf row i) ∧ (∀ g ∈ gsOf row i, goodG g) ∧ Keeps ((gsOf row i).map stopOf) ∧
    ((i = 0 ∧ lf = .non) ∨ (0 < i ∧ ∃ L, lf = .int L ∧ L = (stopOf (GR row (i - 1))).2.2 ∧ ∀ c ∈ (gsOf row i).map stopOf, c.2.2 ≤ L))) ⟨_, _, _, [], rfl, hSR, hR1, .nilI, rfl, by simp [gsOf], ⟨by simp [gsOf], by simp [gsOf]⟩, .inl ⟨rfl, rfl⟩⟩ ?_ ?_
  · rintro i σ' H2 hi ⟨lf, o3, o4, xs, rfl, hS2, hR2, hrep, htk, hgood, hkp, hlast⟩
    have h4i : 4 * i + 3 ≤ row.length := by omega
    obtain ⟨a, b, c, hG⟩ : ∃ a b c, GR row i = [a, b, c] := by
      have : (GR row i).length = 3 := by
        unfold GR
        rw [List.length_take, List.length_drop]
        omega
      match hh : GR row i, this with
      | [a, b, c], _ => exact ⟨a, b, c, rfl⟩
    have hmem : ∀ x ∈ GR row i, x ∈ row := fun x hx => List.mem_of_mem_drop (List.mem_of_mem_take hx)
    have la := hwl a (hmem a (by rw [hG]; simp))
    have lb := hwl b (hmem b (by rw [hG]; simp))
    have lc := hwl c (hmem c (by rw [hG]; simp))
    have hcv : cutV (row.map fun x => V.str (strL x)) (some (4 * (i : Int))) (some (4 * (i : Int) + 3)) = (GR row i).map fun x => V.str (strL x) := by
      have e1 : HT.sIx row.length 0 (some (4 * (i : Int))) = 4 * i := by
        simp only [HT.sIx]
        rw [if_neg (by omega)]
        omega
      have e2 : HT.sIx row.length row.length (some (4 * (i : Int) + 3)) = 4 * i + 3 := by
        simp only [HT.sIx]
        rw [if_neg (by omega)]
        omega
      unfold cutV GR
      rw [hlm, e1, e2, List.map_take, List.map_drop, show 4 * i + 3 - 4 * i = 3 by omega]
    refine ⟨_, rfl, _, rfl, _, rfl, _, rfl, _, _, rfl, rfl, _, rfl, D, _, rfl, SqL.of (hS2 _ _ hD), fun S hSn => ?_⟩
    rw [hcv, hG]
    have hS3 : Same H2 (upd H2 S (.lst ([a, b, c].map fun x => V.str (strL x)))) := Same.new hSn _
    have hSS : upd H2 S (.lst ([a, b, c].map fun x => V.str (strL x))) S = some (.lst ([a, b, c].map fun x => V.str (strL x))) := upd_same
    generalize upd H2 S (.lst ([a, b, c].map fun x => V.str (strL x))) = H3 at hS3 hSS
    refine ⟨S, rfl, ⟨_, SqL.of hSS⟩, ?_⟩
    refine lc_vals ([a, b, c].map numV) (by simp) (fun H4 h4 => ⟨_, SqL.of (h4 _ _ hSS), by simp⟩) (fun m H4 hm h4 => ?_) (fun Dl m H4 x H5 y R' hy h4 hDl hys hJ hRR => ?_) (fun Dl H4 h4 hDl hys => ?_)
    · exact ⟨_, ([a, b, c].map fun x => V.str (strL x))[m]'(by rw [List.length_map] at hm ⊢; exact hm), SqL.of (h4 _ _ hSS), List.getElem?_eq_getElem _⟩
    · obtain ⟨rfl, hJ⟩ := hJ
      have hxi := hJ _ (SqL.of (h4 _ _ hSS))
      rw [List.getElem?_map] at hxi
      obtain ⟨z, hz, rfl⟩ := Option.map_eq_some_iff.mp hxi
      rw [List.getElem?_map, hz] at hy
      cases hy
      have hzm : z ∈ [a, b, c] := List.mem_of_getElem? hz
      exact ⟨Kp.none, _, rfl, z, rfl, hwl z (hmem z (by rw [hG]; exact hzm)), hRR _ (Same.refl _)⟩
    have hS4 : Same H H4 := (hS2.trans hS3).trans h4
    have hD4 := hS4 _ _ hD
    have hR4 : H4 R = some (.lst xs) := h4 _ _ (hS3 _ _ hR2)
    have hrep4 : RepL (fun z => z ≠ R) H4 (((gsOf row i).map stopOf).map callD) xs := (hrep.mono hS3).mono h4
    have bad : (∀ gs, JOk row gs → False) → Q .non H4 := fun h => qn h _ hS4
    have at_i : ∀ gs, JOk row gs → goodG [a, b, c] ∧ (0 < i → row[4 * i - 1]? = some [62]) ∧ Keeps (gs.map stopOf) ∧ (gs.map stopOf)[i]? = some (stopOf [a, b, c]) ∧ (0 < i → (gs.map stopOf)[i - 1]? = some (stopOf (GR row (i - 1)))) := fun gs j => by
      obtain ⟨h1, h2⟩ := jok_at j
      obtain ⟨g, hg, e, hgg, h62⟩ := h2 i (by omega)
      rw [hG] at e
      subst e
      refine ⟨hgg, h62, j.2.2.2, by rw [List.getElem?_map, hg]; rfl, fun h0 => ?_⟩
      obtain ⟨g', hg', e', _⟩ := h2 (i - 1) (by omega)
      rw [List.getElem?_map, hg', ← e']; rfl
    refine ⟨fun σ' H' => H' = H4 ∧ σ' = [some (.ref D), some (.ref R), some lf, some (.int (4 * (i : Int))), some (.ref Dl)] ∧ isNum a = true ∧ isNum b = true ∧ isNum c = true ∧ (0 < i → row[4 * i - 1]? = some [62]), ?_, ?_⟩
    · refine ⟨_, rfl, Dl, _, rfl, .inl (SqL.of hys), rfl, ?_, _, rfl, ?_⟩
      · have fl : ∀ x, flatV (numV x) = true := fun x => by unfold numV; split <;> rfl
        show (flatV (numV a) && (flatV (numV b) && (flatV (numV c) && true))) = true
        rw [fl, fl, fl]; rfl
      have hin : inV V.non ([a, b, c].map numV) = !(isNum a && (isNum b && isNum c)) := by
        show (eqV (numV a) .non || (eqV (numV b) .non || (eqV (numV c) .non || false))) = _
        unfold numV
        cases isNum a <;> cases isNum b <;> cases isNum c <;> rfl
      show if (inV V.non ([a, b, c].map numV)) = true then _ else _
      rw [hin]
      refine ite2 (fun c1 => iteT (bad fun gs j => ?_)) (fun c1 => ?_)
      · obtain ⟨x, y, z, e, h1, h2, h3, _⟩ := (at_i gs j).1
        cases e
        rw [h1, h2, h3] at c1
        cases c1
      have hnn : isNum a = true ∧ isNum b = true ∧ isNum c = true := by
        cases ha : isNum a <;> cases hb : isNum b <;> cases hc : isNum c <;> rw [ha, hb, hc] at c1 <;> first | exact ⟨rfl, rfl, rfl⟩ | exact absurd rfl c1
      refine ⟨_, rfl, _, _, rfl, rfl, _, rfl, ite2 (fun c2 => ?_) (fun c2 => iteF ?_)⟩
      · have c2' : (0 : Int) < 4 * (i : Int) := of_decide_eq_true c2
        have hi0 : 0 < i := by omega
        have hlt : 4 * i - 1 < row.length := by omega
        have hix : atI (row.map fun x => V.str (strL x)) (4 * (i : Int) - 1) = some (.str (strL row[4 * i - 1])) := by
          have := atI_nat (xs := row.map fun x => V.str (strL x)) (j := 4 * i - 1) (v := .str (strL row[4 * i - 1])) (by rw [List.getElem?_map, List.getElem?_eq_getElem hlt]; rfl)
          rw [show ((4 * i - 1 : Nat) : Int) = 4 * (i : Int) - 1 by omega] at this
          exact this
        refine ⟨_, rfl, _, rfl, _, _, rfl, rfl, D, _, _, _, rfl, rfl, SqL.of hD4, hix, rfl, _, rfl, ?_⟩
        rw [show decide (V.str (strL row[4 * i - 1]) = V.str ">") = decide (row[4 * i - 1] = [62]) from strV (b := [62])]
        by_cases h62 : row[4 * i - 1] = [62]
        · rw [decide_eq_true h62]
          exact iteF ⟨rfl, rfl, hnn.1, hnn.2.1, hnn.2.2, fun _ => by rw [List.getElem?_eq_getElem hlt, h62]⟩
        · rw [decide_eq_false h62]
          refine iteT (bad fun gs j => ?_)
          have := (at_i gs j).2.1 hi0
          rw [List.getElem?_eq_getElem hlt] at this
          exact h62 (Option.some.inj this)
      · have c2' : ¬ (0 : Int) < 4 * (i : Int) := of_dec c2
        exact ⟨rfl, rfl, hnn.1, hnn.2.1, hnn.2.2, fun h => by omega⟩
    rintro σ' H' ⟨rfl, rfl, ha, hb, hc, h62⟩
    have hys' : H' Dl = some (.lst [.int (val a), .int (val b), .int (val c)]) := by
      rw [hys]
      show some (HO.lst [numV a, numV b, numV c]) = _
      unfold numV
      rw [if_pos ha, if_pos hb, if_pos hc]
    have hst : stopOf [a, b, c] = (val a, val b, val c) := rfl
    have p0 : atI [V.int (val a), V.int (val b), V.int (val c)] 0 = some (.int (val a)) := rfl
    have p1 : atI [V.int (val a), V.int (val b), V.int (val c)] 1 = some (.int (val b)) := rfl
    have p2 : atI [V.int (val a), V.int (val b), V.int (val c)] 2 = some (.int (val c)) := rfl
    refine ⟨fun σ' H'' => H'' = H' ∧ σ' = [some (.ref D), some (.ref R), some lf, some (.int (4 * (i : Int))), some (.ref Dl)] ∧ 0 ≤ val a ∧ val b ≤ val c ∧ (∀ L, lf = .int L → L < val b), ?_, ?_⟩
    · refine ⟨_, rfl, Dl, _, _, _, rfl, rfl, SqL.of hys', p0, _, _, rfl, rfl, _, rfl, ite2 (fun c1 => iteT (bad fun gs j => ?_)) (fun c1 => ?_)⟩
      · have c1' : val a < 0 := of_decide_eq_true c1
        obtain ⟨x, y, z, e, _, _, _, h4⟩ := (at_i gs j).1
        cases e
        exact h4 ((val_neg ha (by omega)).mpr c1')
      have n1 : ¬ val a < 0 := of_dec c1
      refine ⟨_, rfl, Dl, _, _, _, rfl, rfl, SqL.of hys', p2, _, rfl, Dl, _, _, _, rfl, rfl, SqL.of hys', p1, _, _, rfl, rfl, _, rfl, ite2 (fun c2 => iteT (bad fun gs j => ?_)) (fun c2 => ?_)⟩
      · have c2' : val c < val b := of_decide_eq_true c2
        obtain ⟨_, _, hk, hi', _⟩ := at_i gs j
        have := hk.1 _ (List.mem_of_getElem? hi')
        rw [hst] at this
        have : val b ≤ val c := this
        omega
      have n2 : ¬ val c < val b := of_dec c2
      refine ⟨_, rfl, rfl, _, rfl, ?_⟩
      rcases hlast with ⟨h0, rfl⟩ | ⟨h0, L, rfl, hL, hLm⟩
      · refine iteF (iteF ⟨rfl, rfl, by omega, by omega, fun L z => by cases z⟩)
      · refine iteT ⟨_, rfl, Dl, _, _, _, rfl, rfl, SqL.of hys', p1, _, rfl, _, _, rfl, rfl, _, rfl, ite2 (fun c3 => bad fun gs j => ?_) (fun c3 => ?_)⟩
        · have c3' : val b ≤ L := of_decide_eq_true c3
          obtain ⟨_, _, hk, hi', hp'⟩ := at_i gs j
          have hp' := hp' h0
          have hlt := List.pairwise_iff_getElem.mp hk.2 (i - 1) i (List.getElem?_eq_some_iff.mp hp').1 (List.getElem?_eq_some_iff.mp hi').1 (by omega)
          rw [(List.getElem?_eq_some_iff.mp hp').2, (List.getElem?_eq_some_iff.mp hi').2, hst, ← hL] at hlt
          have hlt : L < val b := hlt
          omega
        · have n3 : ¬ val b ≤ L := of_dec c3
          exact ⟨rfl, rfl, by omega, by omega, fun L' z => by cases z; omega⟩
    rintro σ' H'' ⟨rfl, rfl, hpos, hbc, hlf⟩
    refine ⟨_, rfl, Dl, _, _, _, rfl, rfl, SqL.of hys', p2, ?_⟩
    refine ⟨_, rfl, .inl ⟨rfl, _, SqL.of hR4⟩, ?_⟩
    refine ⟨_, rfl, Dl, _, _, _, rfl, rfl, SqL.of hys', p0, _, rfl, Dl, _, _, _, rfl, rfl, SqL.of hys', p1, _, rfl, Dl, _, _, _, rfl, rfl, SqL.of hys', p2, small (by simp), fun t ht => ?_⟩
    have hR5 : upd H'' t (.tup [.int (val a), .int (val b), .int (val c)]) R = some (.lst xs) := by rw [upd_ne (ne_of_none hR4 ht)]; exact hR4
    have hxl : xs.length = i := by rw [hrep.length, List.length_map, List.length_map, gsOf, List.length_map, List.length_range]
    have hgs : gsOf row (i + 1) = gsOf row i ++ [[a, b, c]] := by
      unfold gsOf
      rw [List.range_succ, List.map_append, List.map_singleton, hG]
    have hgood' : goodG [a, b, c] := ⟨a, b, c, rfl, ha, hb, hc, fun z => by
      have := (val_neg ha (by omega)).mp z
      omega⟩
    refine ⟨R, xs, _, rfl, rfl, hR5, smaller (by omega), ?_⟩
    refine ⟨.int (val c), _, _, xs ++ [.ref t], rfl, (hS4.trans (Same.new ht _)).upd hR, upd_same, ?_, ?_, ?_, ?_, .inr ⟨by omega, val c, rfl, by rw [Nat.add_sub_cancel, hG]; rfl, ?_⟩⟩
    · rw [hgs, List.map_append, List.map_append]
      exact RepL.write (fun z => z rfl) hR5 (RepL.snoc (hrep4.mono (Same.new ht _)) (rep_callI (c := stopOf [a, b, c]) upd_same))
    · rw [hgs]
      have e4 : row.take (4 * (i + 1) - 1) = row.take (4 * i) ++ [a, b, c] := by
        rw [← hG]
        unfold GR
        rw [show 4 * (i + 1) - 1 = 4 * i + 3 by omega, List.take_add]
      rw [e4]
      by_cases h0 : i = 0
      · subst h0
        rfl
      · rw [inter_snoc (fun z => h0 (by
          have := congrArg List.length z
          rw [gsOf, List.length_map, List.length_range] at this
          exact this)), ← htk]
        congr 1
        have h1 := h62 (by omega)
        rw [show 4 * i = (4 * i - 1) + 1 by omega, List.take_add_one, show 4 * i - 1 + 1 - 1 = 4 * i - 1 by omega, h1]
        rfl
    · intro g hg
      rw [hgs] at hg
      rcases List.mem_append.mp hg with hg | hg
      · exact hgood g hg
      · rw [List.mem_singleton.mp hg]; exact hgood'
    · rw [hgs, List.map_append]
      refine ⟨fun c' h' => ?_, pairwise_snoc hkp.2 fun d hd => ?_⟩
      · rcases List.mem_append.mp h' with h' | h'
        · exact hkp.1 c' h'
        · rw [List.mem_singleton.mp h']; exact hbc
      · rcases hlast with ⟨h0, _⟩ | ⟨_, L, e, _, hLm⟩
        · subst h0
          exact absurd hd (by simp [gsOf])
        · have := hLm d hd
          have := hlf L e
          show d.2.2 < val b
          omega
    · intro c' h'
      rw [hgs, List.map_append] at h'
      rcases List.mem_append.mp h' with h' | h'
      · rcases hlast with ⟨h0, _⟩ | ⟨_, L, e, _, hLm⟩
        · subst h0
          exact absurd h' (by simp [gsOf])
        · have := hLm c' h'
          have := hlf L e
          omega
      · rw [List.mem_singleton.mp h']; exact Int.le_refl _
  · rintro σ' H2 ⟨lf, o3, o4, xs, rfl, hS2, hR2, hrep, htk, hgood, hkp, _⟩
    have hn : 4 * ((row.length + 3) / 4) - 1 = row.length := by omega
    rw [hn, List.take_length] at htk
    have hj : JOk row (gsOf row ((row.length + 3) / 4)) := ⟨fun z => by
      have := congrArg List.length z
      rw [gsOf, List.length_map, List.length_range] at this
      have : (row.length + 3) / 4 = 0 := this
      omega, htk, hgood, hkp⟩
    exact ⟨_, rfl, q _ hj _ _ hS2 (.lstI hR hR2 (rep_calls hrep))⟩
end
section
variable {P : Program} {w : World} {K : PySem.W.Frag} {mg : Str → Option Value} {base : Heap} {k : Nat} {cNoRide cNoStop cNoLine cRideError : Addr}
def spTriedX : Sp := fun vs H Q _ => ∃ (row : List (List Nat)) (gs : List (List (List Nat))), vs = [.str (strL (joinL [32] row))] ∧ Cuts row gs ∧ (joinL [32] row).length ≤ 100000 ∧ (∀ g ∈ gs, ∀ x ∈ g, x.length ≤ 501) ∧
  ((∀ g ∈ gs, goodG g) ∧ Keeps (gs.map stopOf) → ∀ p v H', Same H H' → H' p = some (.tup [.str "told", v]) → Rep Al H' (rideD (gs.map stopOf)) v → Q (.ref p) H') ∧
  (¬ ((∀ g ∈ gs, goodG g) ∧ Keeps (gs.map stopOf)) → ∀ p H', Same H H' → H' p = some (.tup [.str "refused", .int 0]) → Q (.ref p) H')
theorem sc_law_tried : FnScope ["_law_line", "e"] ["_law_line"] (defScope s_law_tried) := ⟨rfl, rfl, rfl, by decide +kernel, rfl, by decide +kernel, by decide +kernel⟩
theorem ok_law_tried (d : DefOk K mg "_law_tried" s_law_tried ["_law_line"]) (B : Blt mg) (eNoRide : Err K mg "NoRide" cNoRide) (eNoStop : Err K mg "NoStop" cNoStop) (eNoLine : Err K mg "NoLine" cNoLine) (eRideError : Err K mg "RideError" cRideError)
    (xl : PySem.W.exmOne K (.ref cNoLine) (.ref cRideError) = some true) (ec : ErrCls K cNoLine) (kl : PySem.W.kitOne K (.ref cNoLine) (.ref cNoLine) = some true) (kr : PySem.W.kitOne K (.ref cNoLine) (.ref cNoRide) = some false) (ks : PySem.W.kitOne K (.ref cNoLine) (.ref cNoStop) = some false)
    (c_read : CalX P w K mg base k "read" ["line"] (spReadX cNoLine)) : Cal P w K mg base (k + 1) "_law_tried" ["_law_line"] spTriedX := by
  refine d.cal sc_law_tried (fun vs H Q E h => ?_) (fun f cdv A outer s H vs Q E hr h => ?_)
  · obtain ⟨row, gs, rfl, _⟩ := h
    rfl
  obtain ⟨row, gs, rfl, hcut, hl, hwl, q, qe⟩ := h
  refine ⟨_, (pss_one (ps_try (E := fun c _ H' => Same H H' ∧ c = .ref cNoLine ∧ ¬ ((∀ g ∈ gs, goodG g) ∧ Keeps (gs.map stopOf))) (i := 1) rfl rfl rfl sc_law_tried.nd rfl rfl rfl eRideError.at_ (fun _ => (pss_one (ps_ret (pe_tup (pa_cons pe_str (pa_cons (pe_callX c_read hr rfl pass_try (pa_cons (pv 0) pa_nil)) pa_nil)))))) (fun _ => (pss_cons (ps_if (PW.pt (pw_and (pt_val (pe_callB (call_isXK (K := K) rfl) rfl B.isinstance bt_isinstance (pa_cons (pv 1) (pa_cons (pe_glob (v := .ref cNoLine) rfl eNoLine.at_ rfl) pa_nil)))) (pw_and (pt_not (pt_val (pe_callB (call_isXK (K := K) rfl) rfl B.isinstance bt_isinstance (pa_cons (pv 1) (pa_cons (pe_glob (v := .ref cNoRide) rfl eNoRide.at_ rfl) pa_nil))))) (pw_and1 (pt_not (pt_val (pe_callB (call_isXK (K := K) rfl) rfl B.isinstance bt_isinstance (pa_cons (pv 1) (pa_cons (pe_glob (v := .ref cNoStop) rfl eNoStop.at_ rfl) pa_nil))))))))) (pss_one (ps_ret (pe_tup (pa_cons pe_str (pa_cons pe_int pa_nil))))) pss_nil)
    (pss_one (ps_ret (pe_tup (pa_cons pe_str (pa_cons pe_int pa_nil))))))))), ?_⟩
  refine ⟨?_, ?_⟩
  · refine ⟨_, rfl, row, gs, rfl, hcut, hl, hwl, fun h1 h2 v' H' g rv => ?_, fun no H' g => ⟨g, rfl, no⟩⟩
    refine ⟨small (by simp), fun p hp => ?_⟩
    exact q ⟨h1, h2⟩ p v' _ (g.trans (Same.new hp _)) upd_same ((rv.mono (Same.new hp _)).weak fun _ _ => trivial)
  · rintro C H' ea ⟨g, hC, no⟩ hea
    cases hC
    refine ⟨xl, ?_⟩
    have he : upd H' ea (.ext (IsA ea cNoLine)) ea = some (.ext (IsA ea cNoLine)) := upd_same
    have ge := g.trans (Same.new hea (.ext (IsA ea cNoLine)))
    generalize upd H' ea (.ext (IsA ea cNoLine)) = H2 at he ge
    refine ⟨_, rfl, ea, cNoLine, .ref cNoLine, .ref cNoLine, true, rfl, he, ec, rfl, .inl rfl, kl, _, rfl, iteT ?_⟩
    refine ⟨_, rfl, ea, cNoLine, .ref cNoRide, .ref cNoRide, false, rfl, he, ec, rfl, .inl rfl, kr, _, rfl, iteT ?_⟩
    refine ⟨_, rfl, ea, cNoLine, .ref cNoStop, .ref cNoStop, false, rfl, he, ec, rfl, .inl rfl, ks, _, rfl, iteT ?_⟩
    refine ⟨small (by simp), fun p hp => ?_⟩
    exact qe no p _ (ge.trans (Same.new hp _)) upd_same
end
section
variable {P : Program} {w : World} {K : PySem.W.Frag} {mg : Str → Option Value} {base : Heap} {k : Nat}
def spLaw (K : PySem.W.Frag) : Sp := fun vs H Q _ => ∃ (a : Addr) (ns : List Int), vs = [.ref a] ∧ SqL K H a (ns.map V.int) ∧ ns.length ≤ 63 ∧ ∀ H', Q (.bl true) H'
def SmC (c : Stop) : Prop := Sm c.1 ∧ Sm c.2.1 ∧ Sm c.2.2
theorem bnd_le {n : Nat} (h : n ≤ 40) : bnd n ≤ 10 ^ 70 := by
  have : bnd n ≤ bnd 40 := by
    unfold bnd
    have : (n : Int) * (10 ^ 60 + 100) ≤ ((40 : Nat) : Int) * (10 ^ 60 + 100) := Int.mul_le_mul_of_nonneg_right (by omega) (by decide)
    omega
  exact Int.le_trans this (by decide)
def Wd (x : List Nat) : Prop := 32 ∉ x ∧ x.length ≤ 501
structure Rw (row : List (List Nat)) : Prop where
  ne : row ≠ []
  len : row.length ≤ 100
  wd : ∀ x ∈ row, Wd x
theorem iteP {c : Bool} {A B : Prop} (hc : c = true) (h : A) : if c = true then A else B := by rw [if_pos hc]; exact h
theorem iteQ {c : Bool} {A B : Prop} (hc : c = false) (h : B) : if c = true then A else B := by rw [hc]; exact h
theorem ite_01 (c : Bool) : -(2 ^ 63) ≤ (if c = true then (1 : Int) else 0) ∧ (if c = true then (1 : Int) else 0) < 2 ^ 63 ∧ ([V.str ">"] : List V).length * (if c = true then (1 : Int) else 0).toNat ≤ sizeLine := by
  cases c
  · exact ⟨by decide, by decide, small (by decide)⟩
  · exact ⟨by decide, by decide, small (by decide)⟩
theorem app_wd {a b : List (List Nat)} (ha : ∀ x ∈ a, Wd x) (hb : ∀ x ∈ b, Wd x) : ∀ x ∈ a ++ b, Wd x := fun x hx => (List.mem_append.mp hx).elim (ha x) (hb x)
theorem Rw.app {a b : List (List Nat)} (ha : ∀ x ∈ a, Wd x) (hb : ∀ x ∈ b, Wd x) (h0 : 0 < a.length + b.length) (hl : a.length + b.length ≤ 100) : Rw (a ++ b) :=
  ⟨fun z => by
    have := congrArg List.length z
    rw [List.length_append] at this
    have this : a.length + b.length = 0 := this
    omega, by rw [List.length_append]; exact hl, app_wd ha hb⟩
theorem inter_mem : ∀ {gs : List (List (List Nat))} {g : List (List Nat)} {x : List Nat}, g ∈ gs → x ∈ g → x ∈ inter gs
  | [], _, _, h, _ => absurd h (by simp)
  | [b], g, x, h, hx => by
    rw [List.mem_singleton.mp h] at hx
    exact hx
  | b :: c :: r, g, x, h, hx => by
    show x ∈ b ++ [[62]] ++ inter (c :: r)
    rcases List.mem_cons.mp h with rfl | h
    · exact List.mem_append_left _ (List.mem_append_left _ hx)
    · exact List.mem_append_right _ (inter_mem h hx)
theorem sum_words {m : Nat} : ∀ {row : List (List Nat)}, (∀ x ∈ row, x.length ≤ m) → ((row.map strL).map (fun s : Str => s.length)).sum ≤ row.length * m
  | [], _ => Nat.zero_le _
  | a :: r, h => by
    have h1 := h a List.mem_cons_self
    have h2 := sum_words (row := r) fun x hx => h x (List.mem_cons_of_mem _ hx)
    simp only [List.map_cons, List.sum_cons, strL_length, List.length_cons]
    rw [Nat.succ_mul]
    omega
theorem cutS (ws : List (List Nat)) (lo hi : Option Int) : ∃ us, cutV ((List.map (fun x => V.str (strL x)) ws)) lo hi = (List.map (fun x => V.str (strL x)) us) ∧ (∀ x ∈ us, x ∈ ws) ∧ us.length ≤ ws.length := by
  refine ⟨(ws.drop (HT.sIx ((List.map (fun x => V.str (strL x)) ws)).length 0 lo)).take (HT.sIx ((List.map (fun x => V.str (strL x)) ws)).length ((List.map (fun x => V.str (strL x)) ws)).length hi - HT.sIx ((List.map (fun x => V.str (strL x)) ws)).length 0 lo), ?_, fun x hx => List.mem_of_mem_drop (List.mem_of_mem_take hx), ?_⟩
  · unfold cutV
    rw [List.map_take, List.map_drop]
  · rw [List.length_take, List.length_drop]
    omega
theorem cut_to {ws : List (List Nat)} {s : Int} (h0 : 0 ≤ s) (h1 : s ≤ ws.length) : cutV ((List.map (fun x => V.str (strL x)) ws)) none (some s) = (List.map (fun x => V.str (strL x)) (ws.take s.toNat)) := by
  have hl : ((List.map (fun x => V.str (strL x)) ws)).length = ws.length := List.length_map _
  have e1 : HT.sIx ws.length 0 none = 0 := rfl
  have e2 : HT.sIx ws.length ws.length (some s) = s.toNat := by
    simp only [HT.sIx]
    rw [if_neg (by omega)]
    omega
  unfold cutV
  rw [hl, e1, e2, List.drop_zero, Nat.sub_zero, List.map_take]
theorem cut_from {ws : List (List Nat)} {s : Int} (h0 : 0 ≤ s) (h1 : s ≤ ws.length) : cutV ((List.map (fun x => V.str (strL x)) ws)) (some s) none = (List.map (fun x => V.str (strL x)) (ws.drop s.toNat)) := by
  have hl : ((List.map (fun x => V.str (strL x)) ws)).length = ws.length := List.length_map _
  have e1 : HT.sIx ws.length 0 (some s) = s.toNat := by
    simp only [HT.sIx]
    rw [if_neg (by omega)]
    omega
  have e2 : HT.sIx ws.length ws.length none = ws.length := rfl
  unfold cutV
  rw [hl, e1, e2, List.take_of_length_le (by rw [List.length_drop, hl]; omega), List.map_drop]
def menuL : List (List Nat) := [[], [62], [48], [55], [45, 51], [48, 48, 55], [45, 48], [45, 45, 49], [49, 97], [43, 50], List.replicate 30 57, [62, 62], [60]]
theorem menu_wd : ∀ x ∈ menuL, Wd x := by
  have : ∀ x ∈ menuL, decide (32 ∉ x) = true ∧ decide (x.length ≤ 501) = true := by decide +kernel
  exact fun x hx => ⟨of_decide_eq_true (this x hx).1, of_decide_eq_true (this x hx).2⟩
theorem menu_at (i : Int) : ∃ wd, atI ((List.map (fun x => V.str (strL x)) menuL)) (i % 13) = some (.str (strL wd)) ∧ Wd wd := by
  have h0 := Int.emod_nonneg i (show (13 : Int) ≠ 0 by decide)
  have h1 := Int.emod_lt_of_pos i (show (0 : Int) < 13 by decide)
  have hj : (i % 13).toNat < menuL.length := by show _ < 13; omega
  refine ⟨menuL[(i % 13).toNat], ?_, menu_wd _ (List.getElem_mem hj)⟩
  have e : (((i % 13).toNat : Nat) : Int) = i % 13 := by omega
  have h := atI_nat (xs := (List.map (fun x => V.str (strL x)) menuL)) (j := (i % 13).toNat) (v := .str (strL menuL[(i % 13).toNat])) (by rw [List.getElem?_map, List.getElem?_eq_getElem hj]; rfl)
  rw [e] at h
  exact h
theorem sc_law : FnScope ["_law_script", "_law_rides", "_law_words", "_law_call", "_law_menu", "_law_k", "_law_spot", "_law_word", "_law_ahead", "_law_behind", "_law_rows", "_law_row", "_law_way", "_law_found", "_law_due"] ["_law_script"] (defScope s_law) := ⟨rfl, rfl, rfl, by decide +kernel, rfl, by decide +kernel, by decide +kernel⟩
/-! a long written list: its items in a structure of their own, so that Lean doesn't open the promise at each item -/
structure QA (X : Cx) (es : List Expr) (t : TA) : Prop where
  p : PA X es t
theorem qa_nil {X : Cx} : QA X [] tNil := ⟨pa_nil⟩
theorem qa_cons {X : Cx} {e : Expr} {es : List Expr} {te : TE} {t : TA} (ha : PE X e te) (hr : QA X es t) (hs : starEach (e :: es) X.env = (false, eval e X.env) :: starEach es X.env := by rfl) : QA X (e :: es) (tCons te t) := ⟨pa_cons ha hr.p hs⟩
theorem any_set {X : Cx} {i : Nat} {x : Str} {e : Expr} {te : TE} {pos pos' : Pos} {rest : List Stmt} {D : Ends} {σ : St} {H : Hp} (hN : X.N.Nodup) (hi : X.N[i]? = some x) (hx : Loc X.env.scope x) (he : PE X e te)
    (q : te σ H fun v H1 => anyS X rest D (σ.set i (some v)) H1) (hs : swapsWith e (some (.Name x pos')) pos.line X.env = pure false) (hf : X.fn x = true ∨ X.env.scope.names.lookup x = some .local) : anyS X (.Assign [.Name x pos'] e pos :: rest) D σ H :=
  ⟨_, pss_cons (ps_set (i := i) hN hi hx he hs hf) pss_any, q⟩
theorem any_lst {X : Cx} {i : Nat} {x : Str} {es : List Expr} {t : TA} {pos pos' lp : Pos} {rest : List Stmt} {D : Ends} {σ : St} {H : Hp} (hN : X.N.Nodup) (hi : X.N[i]? = some x) (hx : Loc X.env.scope x) (hf : X.fn x = true ∨ X.env.scope.names.lookup x = some .local) (hp : QA X es t)
    (q : t σ H fun xs H1 => xs.length ≤ sizeLine ∧ ∀ p, H1 p = none → anyS X rest D (σ.set i (some (.ref p))) (upd H1 p (.lst xs))) : anyS X (.Assign [.Name x pos'] (.List es lp) pos :: rest) D σ H :=
  any_set hN hi hx (pe_lst hp.p) q rfl hf
theorem ok_law (d : DefOk K mg "law" s_law ["_law_script"]) (B : Blt mg) (c_law_drawn : Cal P w K mg base k "_law_drawn" ["_law_cells", "_law_count"] (spDrawn K))
    (c_law_at : Cal P w K mg base k "_law_at" ["_law_script", "_law_k"] (spAt K)) (c_law_tried : Cal P w K mg base k "_law_tried" ["_law_line"] spTriedX) (c_law_judged : Cal P w K mg base k "_law_judged" ["_law_words"] spJudged) (c_law_same : Cal P w K mg base k "_law_same" ["_law_found", "_law_due"] spSame) :
    Cal P w K mg base (k + 1) "law" ["_law_script"] (spLaw K) := by
  refine d.cal sc_law (fun vs H Q E h => ?_) (fun f cdv A outer s H vs Q E hr h => ?_)
  · obtain ⟨a, ns, rfl, _⟩ := h
    rfl
  obtain ⟨a, ns, rfl, hS, h63, q⟩ := h
  refine ⟨_, (pss_cons (ps_set (i := 1) sc_law.nd rfl (Or.inl rfl) (pe_op op_cat (pe_callC c_law_drawn hr rfl (pa_cons (pe_slice (sl_listK (K := K) rfl) (pv 0) (po_some pe_int) (po_some pe_int)) (pa_cons (pe_op op_add pe_int (pe_op op_mod (pe_callC c_law_at hr rfl (pa_cons (pv 0) (pa_cons pe_int pa_nil))) pe_int)) pa_nil))) (pe_lst (pa_cons (pe_lst (pa_cons (pe_tup (pa_cons pe_int (pa_cons pe_int (pa_cons pe_int pa_nil)))) (pa_cons (pe_tup (pa_cons pe_int (pa_cons pe_int (pa_cons pe_int pa_nil)))) pa_nil))) pa_nil)))) pss_any), ?_⟩
  have hlen : (ns.map V.int).length = ns.length := List.length_map _
  refine ⟨_, rfl, _, rfl, _, rfl, a, _, rfl, hS, fun c hc => ?_⟩
  have hS1 : Same H (upd H c (.lst (cutV (ns.map V.int) (some 3) (some 11)))) := Same.new hc _
  obtain ⟨cs, hcs, hcl⟩ : ∃ cs : List Int, cutV (ns.map V.int) (some 3) (some 11) = cs.map V.int ∧ cs.length ≤ 8 := by
    unfold cutV
    refine ⟨(ns.drop (HT.sIx (ns.map V.int).length 0 (some 3))).take (HT.sIx (ns.map V.int).length (ns.map V.int).length (some 11) - HT.sIx (ns.map V.int).length 0 (some 3)), by rw [List.map_take, List.map_drop], ?_⟩
    rw [List.length_take, List.length_drop, hlen, show HT.sIx ns.length 0 (some 3) = min 3 ns.length from rfl, show HT.sIx ns.length ns.length (some 11) = min 11 ns.length from rfl]
    omega
  have m30 := Int.emod_nonneg (ns.getD (0 : Int).toNat 0) (show (4 : Int) ≠ 0 by decide)
  have m31 := Int.emod_lt_of_pos (ns.getD (0 : Int).toNat 0) (show (0 : Int) < 4 by decide)
  refine ⟨_, rfl, a, ns, 0, rfl, hS1.seq hS, Int.le_refl 0, _, _, rfl, rfl, (by decide : (0 : Int) < 4), _, _, rfl, rfl, c, cs, _, rfl, SqL.of (by rw [upd_same, hcs]), by omega, by omega, fun v0 H2 rs g2 r2 hok htot hbd => ?_⟩
  have r2' : Rep Al H2 (ridesD rs) v0 := r2.weak fun _ _ => trivial
  have hsm : ∀ r ∈ rs, ∀ c ∈ r, SmC c := fun r hr c hc => by
    have h1 := (hok r hr).each c hc
    have h2 := hbd r hr c hc
    have h3 := bnd_le (n := cs.length) (by omega)
    exact ⟨Sm.of (by omega) (by omega), Sm.of (by omega) (by omega), Sm.of (by omega) (by omega)⟩
  obtain ⟨b0, xs, rfl, _, hb0, hx⟩ := r2'.lstE
  refine ⟨small (by simp), fun p1 hp1 => ⟨small (by simp), fun p2 hp2 => ⟨small (by simp), fun l1 hl1 => ⟨small (by simp), fun l2 hl2 => ?_⟩⟩⟩⟩
  have s1 : Same H2 (upd H2 p1 (.tup [.int 3, .int 10, .int 12])) := Same.new hp1 _
  have s2 := Same.new hp2 (.tup [.int 4, .int 20, .int 20])
  have s3 := Same.new hl1 (.lst [.ref p1, .ref p2])
  have s4 := Same.new hl2 (.lst [.ref l1])
  have hp1' := s4 _ _ (s3 _ _ (s2 _ _ (upd_same (H := H2) (a := p1) (o := .tup [.int 3, .int 10, .int 12]))))
  have hp2' := s4 _ _ (s3 _ _ (upd_same (a := p2) (o := .tup [.int 4, .int 20, .int 20])))
  have hl1' := s4 _ _ (upd_same (a := l1) (o := .lst [.ref p1, .ref p2]))
  have hl2' := upd_same (H := upd (upd (upd H2 p1 (.tup [.int 3, .int 10, .int 12])) p2 (.tup [.int 4, .int 20, .int 20])) l1 (.lst [.ref p1, .ref p2])) (a := l2) (o := .lst [.ref l1])
  have g3 := ((s1.trans s2).trans s3).trans s4
  generalize upd (upd (upd (upd H2 p1 (.tup [.int 3, .int 10, .int 12])) p2 (.tup [.int 4, .int 20, .int 20])) l1 (.lst [.ref p1, .ref p2])) l2 (.lst [.ref l1]) = H3 at hp1' hp2' hl1' hl2' g3
  refine ⟨b0, l2, _, _, rfl, rfl, g3 _ _ hb0, hl2', small (by
    have := hx.length
    have hrl := rides_le hok
    rw [List.length_map] at this
    simp only [List.length_append, List.length_cons, List.length_nil]
    omega), fun R hR => ?_⟩
  have s5 := Same.new hR (.lst (xs ++ [.ref l1]))
  have hR' := upd_same (H := H3) (a := R) (o := .lst (xs ++ [.ref l1]))
  -- the first ride
  obtain ⟨b, r, hat, hrep, hrn, hrl, hrs⟩ : ∃ b r, atI (xs ++ [V.ref l1]) 0 = some (.ref b) ∧ Rep Al (upd H3 R (.lst (xs ++ [.ref l1]))) (rideD r) (.ref b) ∧ r ≠ [] ∧ r.length ≤ 8 ∧ ∀ c ∈ r, SmC c := by
    cases rs with
    | nil =>
      have e : xs = [] := hx.nilE
      subst e
      refine ⟨l1, [(3, 10, 12), (4, 20, 20)], rfl, (Rep.lstI trivial hl1' (.consI (rep_callI (c := (3, 10, 12)) hp1') (.consI (rep_callI (c := (4, 20, 20)) hp2') .nilI))).mono s5, by simp, by simp, fun c hc => ?_⟩
      rcases List.mem_cons.mp hc with rfl | hc
      · exact ⟨Sm.of (by decide) (by decide), Sm.of (by decide) (by decide), Sm.of (by decide) (by decide)⟩
      · rw [List.mem_singleton.mp hc]
        exact ⟨Sm.of (by decide) (by decide), Sm.of (by decide) (by decide), Sm.of (by decide) (by decide)⟩
    | cons r rs =>
      obtain ⟨x, ys, rfl, hxr, _⟩ := RepL.consE hx
      obtain ⟨b, zs, rfl, _, hb, hz⟩ := hxr.lstE
      have hle := le_total (rs := r :: rs) (r := r) List.mem_cons_self
      exact ⟨b, r, atI_nat (xs := V.ref b :: ys ++ [V.ref l1]) (j := 0) rfl, (hxr.mono g3).mono s5, (hok r List.mem_cons_self).some, by omega, hsm r List.mem_cons_self⟩
  have g5 := g3.trans s5
  generalize upd H3 R (.lst (xs ++ [.ref l1])) = H4 at hR' hrep s5 g5
  refine ⟨_, (pss_cons (ps_set (i := 2) sc_law.nd rfl (Or.inl rfl) (pe_lst pa_nil)) pss_any), ?_⟩
  refine ⟨small (by simp), fun W hW => ?_⟩
  refine ⟨_, (pss_cons (ps_for PassesOwn.never rfl (pi_listK (K := K) rfl (pe_ix (ix_listK (K := K) rfl) (pv 1) pe_int (fun _ _ => rfl))) (pg_name (i := 3) sc_law.nd rfl (Or.inl rfl)) (pss_one (ps_set (i := 2) sc_law.nd rfl (Or.inl rfl) (pe_op op_cat (pe_op op_cat (pv 2) (pe_op op_rep (pe_lst (pa_cons pe_str pa_nil)) (pe_callTy call_int1 rfl B.int bt_int (pa_cons (pe_cmpR (op_neNilK (K := K) rfl hr.units0) (pv 2) (pe_lst pa_nil) (nomark _)) pa_nil)))) (pe_lc ["_law_part"] rfl (LcOk.plain (by decide +kernel) (by decide +kernel) rfl (by decide +kernel)) (pi_tupK (K := K) rfl (pv 3)) (fun _ _ _ _ _ => ⟨(pg_name (i := 0) (show ((["_law_part"] : List Str) ++ ([] : List Str)).Nodup by decide +kernel) rfl (Or.inl rfl)), pf_nil, (pe_callTy call_str_int rfl B.str bt_str (pa_cons (pv 0) pa_nil))⟩)))))) pss_any), ?_⟩
  have s6 := Same.new hW (.lst [])
  have hW' := upd_same (H := H4) (a := W) (o := .lst [])
  have hR6 := s6 _ _ hR'
  have hrep6 := hrep.mono s6
  have g6 := g5.trans s6
  generalize upd H4 W (.lst []) = H5 at s6 hW' hR6 hrep6 g6
  obtain ⟨b', zs, e, _, hb, hzs⟩ := hrep6.lstE
  cases e
  have hlz : zs.length = r.length := by rw [hzs.length, List.length_map]
  refine ⟨_, rfl, R, _, _, _, rfl, rfl, SqL.of hR6, hat, b, rfl, ⟨zs, SqL.of hb⟩, ?_⟩
  refine for_list (xs := zs) (fun i σ H' => ∃ W ws o3 o4 o5 o6 o7 o8 o9 o10 o11 o12 o13 o14, σ = [some (.ref a), some (.ref R), some (.ref W), o3, o4, o5, o6, o7, o8, o9, o10, o11, o12, o13, o14] ∧ Same H5 H' ∧ H' W = some (.lst (ws.map fun x => V.str (strL x))) ∧ (∀ x ∈ ws, Wd x) ∧ ws.length ≤ 4 * i ∧ (0 < i → 3 ≤ ws.length))
    ⟨W, [], _, _, _, _, _, _, _, _, _, _, _, _, rfl, Same.refl _, hW', by simp, by simp, by simp⟩ ?_ ?_ ?_
  · rintro i σ H' _ ⟨W, ws, o3, o4, o5, o6, o7, o8, o9, o10, o11, o12, o13, o14, rfl, g, _⟩
    exact SqL.of (g _ _ hb)
  · rintro i x σ H6 hxi ⟨W, ws, o3, o4, o5, o6, o7, o8, o9, o10, o11, o12, o13, o14, rfl, g, hW6, hws, hwl, _⟩
    obtain ⟨e', he', hrc⟩ := hzs.getV hxi
    rw [List.getElem?_map] at he'
    obtain ⟨cc, hcc, rfl⟩ := Option.map_eq_some_iff.mp he'
    obtain ⟨t, rfl, ht, _⟩ := rep_call (P' := Al) hrc
    have hil : i < r.length := (List.getElem?_eq_some_iff.mp hcc).1
    have hsc := hrs cc (List.mem_of_getElem? hcc)
    refine ⟨_, rfl, small (by simp), fun L hL => ?_⟩
    have k1 := Same.new hL (.lst [.str ">"])
    have hL1 := upd_same (H := H6) (a := L) (o := .lst [.str ">"])
    generalize upd H6 L (.lst [.str ">"]) = H7 at k1 hL1
    refine ⟨_, rfl, small (by simp), fun N hN => ?_⟩
    have k2 := Same.new hN (.lst [])
    have hN2 := upd_same (H := H7) (a := N) (o := .lst [])
    generalize upd H7 N (.lst []) = H8 at k2 hN2
    have hW8 := k2 _ _ (k1 _ _ hW6)
    refine ⟨W, N, _, rfl, rfl, SqL.of hW8, SqL.of hN2, .inr ⟨_, rfl, L, _, _, rfl, rfl, k2 _ _ hL1, ?_, ?_, ?_, fun p hp => ?_⟩⟩
    · exact (ite_01 _).1
    · exact (ite_01 _).2.1
    · exact (ite_01 _).2.2
    obtain ⟨sp, hsp, hspw, hspl⟩ : ∃ sp, (List.replicate (if (if true = true then !((List.map (fun x => V.str (strL x)) ws)).isEmpty else ((List.map (fun x => V.str (strL x)) ws)).isEmpty) = true then (1 : Int) else 0).toNat [V.str ">"]).flatten = (List.map (fun x => V.str (strL x)) sp) ∧ (∀ x ∈ sp, Wd x) ∧ sp.length ≤ 1 := by
      cases ws with
      | nil => exact ⟨[], rfl, by simp, by simp⟩
      | cons _ _ =>
        refine ⟨[[62]], rfl, fun x hx => ?_, by simp⟩
        rw [List.mem_singleton.mp hx]
        exact ⟨by decide, by decide⟩
    rw [hsp]
    have k3 := Same.new hp (.lst ((List.map (fun x => V.str (strL x)) sp)))
    have hp3 := upd_same (H := H8) (a := p) (o := .lst ((List.map (fun x => V.str (strL x)) sp)))
    generalize upd H8 p (.lst ((List.map (fun x => V.str (strL x)) sp))) = H9 at k3 hp3
    have hlw : ((List.map (fun x => V.str (strL x)) ws)).length = ws.length := List.length_map _
    have hls : ((List.map (fun x => V.str (strL x)) sp)).length = sp.length := List.length_map _
    refine ⟨W, p, _, _, rfl, rfl, k3 _ _ hW8, hp3, small (by omega), fun p2 hp2 => ?_⟩
    have k4 := Same.new hp2 (.lst ((List.map (fun x => V.str (strL x)) ws) ++ (List.map (fun x => V.str (strL x)) sp)))
    have hp24 := upd_same (H := H9) (a := p2) (o := .lst ((List.map (fun x => V.str (strL x)) ws) ++ (List.map (fun x => V.str (strL x)) sp)))
    generalize upd H9 p2 (.lst ((List.map (fun x => V.str (strL x)) ws) ++ (List.map (fun x => V.str (strL x)) sp))) = H10 at k4 hp24
    have g10 := (((g.trans k1).trans k2).trans k3).trans k4
    have ht10 := k4 _ _ (k3 _ _ (k2 _ _ (k1 _ _ (g _ _ ht))))
    refine ⟨_, rfl, t, rfl, ⟨_, SqT.of ht10⟩, ?_⟩
    refine lc_vals ((List.map (fun x => V.str (strL x)) [numL cc.1, numL cc.2.1, numL cc.2.2])) (by simp) (fun H4 h4 => ⟨_, SqT.of (h4 _ _ ht10), by simp⟩) (fun m H4 hm h4 => ?_) (fun Dl m H4 x H5 y R' hy h4 hDl hys hJ hRR => ?_) (fun Dl H4 h4 hDl hys => ?_)
    · exact ⟨_, ([V.int cc.1, V.int cc.2.1, V.int cc.2.2])[m]'hm, SqT.of (h4 _ _ ht10), List.getElem?_eq_getElem _⟩
    · obtain ⟨rfl, hJ⟩ := hJ
      have hxi := hJ _ (SqT.of (h4 _ _ ht10))
      obtain ⟨z, hz, rfl, rfl⟩ : ∃ z, Sm z ∧ x = .int z ∧ y = .str (strL (numL z)) := by
        match m, hxi, hy with
        | 0, hxi, hy => cases hxi; cases hy; exact ⟨_, hsc.1, rfl, rfl⟩
        | 1, hxi, hy => cases hxi; cases hy; exact ⟨_, hsc.2.1, rfl, rfl⟩
        | 2, hxi, hy => cases hxi; cases hy; exact ⟨_, hsc.2.2, rfl, rfl⟩
        | _ + 3, hxi, _ => cases hxi
      refine ⟨Kp.none, _, rfl, z, rfl, hz.up, ?_⟩
      rw [num_text]
      exact hRR _ (Same.refl _)
    refine ⟨p2, Dl, _, _, rfl, rfl, h4 _ _ hp24, hys, small (by simp only [List.length_append, List.length_map, List.length_cons, List.length_nil]; omega), fun p3 hp3' => ?_⟩
    have nw : ∀ {z : Int}, Sm z → Wd (numL z) := fun {z} hz => ⟨fun h => by have := numL_free h; omega, hz.len⟩
    refine ⟨p3, ws ++ sp ++ [numL cc.1, numL cc.2.1, numL cc.2.2], _, _, _, _, _, _, _, _, _, _, _, _, rfl, (g10.trans h4).trans (Same.new hp3' _), ?_, fun x hx => ?_, ?_, fun _ => ?_⟩
    · rw [upd_same, List.map_append, List.map_append]
    · rcases List.mem_append.mp hx with hx | hx
      · rcases List.mem_append.mp hx with hx | hx
        · exact hws x hx
        · exact hspw x hx
      · rcases List.mem_cons.mp hx with rfl | hx
        · exact nw hsc.1
        rcases List.mem_cons.mp hx with rfl | hx
        · exact nw hsc.2.1
        rw [List.mem_singleton.mp hx]
        exact nw hsc.2.2
    · rw [List.length_append, List.length_append]
      show _ + _ + 3 ≤ _
      omega
    · rw [List.length_append, List.length_append]
      show 3 ≤ _ + _ + 3
      omega
  · rintro σ H' ⟨W, ws, o3, o4, o5, o6, o7, o8, o9, o10, o11, o12, o13, o14, rfl, g, hW6, hws, hwl, hw3⟩
    have hw3 := hw3 (by
      have : r.length ≠ 0 := fun z => hrn (List.length_eq_zero_iff.mp z)
      omega)
    have hwl : ws.length ≤ 32 := by omega
    have hS7 : SqL K H' a (ns.map V.int) := (((hS1.trans g2).trans g6).trans g).seq hS
    have hlw : ((List.map (fun x => V.str (strL x)) ws)).length = ws.length := List.length_map _
    refine any_lst (i := 4) sc_law.nd rfl (Or.inl rfl) (Or.inl rfl) (qa_cons pe_str (qa_cons pe_str (qa_cons pe_str (qa_cons pe_str (qa_cons pe_str (qa_cons pe_str (qa_cons pe_str (qa_cons pe_str (qa_cons pe_str (qa_cons pe_str (qa_cons (pe_op op_mul9 pe_str pe_int) (qa_cons pe_str (qa_cons pe_str qa_nil))))))))))))) ?_
    refine ⟨rfl, rfl, small (by simp), fun M hM => ?_⟩
    have s7 := Same.new hM (.lst ((List.map (fun x => V.str (strL x)) menuL)))
    have hM7 := upd_same (H := H') (a := M) (o := .lst ((List.map (fun x => V.str (strL x)) menuL)))
    change anyS _ _ _ _ (upd H' M (.lst ((List.map (fun x => V.str (strL x)) menuL))))
    generalize upd H' M (.lst ((List.map (fun x => V.str (strL x)) menuL))) = Hm at s7 hM7
    have hWm := s7 _ _ hW6
    have hSm := s7.seq hS7
    refine ⟨_, (pss_cons (ps_for PassesOwn.never rfl (pi_range1 rfl B.range (pa_cons pe_int pa_nil)) (pg_name (i := 5) sc_law.nd rfl (Or.inl rfl)) pss_any) pss_any), ?_⟩
    refine ⟨_, rfl, by decide, by decide, ?_⟩
    refine for_range (lo := 0) (n := 3) (fun j σ3 H6 => ∃ o3 o5 o6 o7 o8 o9 o10 o11 o12 o13 o14, σ3 = [some (.ref a), some (.ref R), some (.ref W), o3, some (.ref M), o5, o6, o7, o8, o9, o10, o11, o12, o13, o14] ∧ Same Hm H6)
      ⟨_, _, _, _, _, _, _, _, _, _, _, rfl, Same.refl _⟩ ?_ ?_
    · rintro j σ3 Ha hj ⟨o3, o5, o6, o7, o8, o9, o10, o11, o12, o13, o14, rfl, ga⟩
      have hWa := ga _ _ hWm
      have hSa := ga.seq hSm
      have hMa := ga _ _ hM7
      have hlp : (0 : Int) < (((List.map (fun x => V.str (strL x)) ws)).length : Int) := by omega
      refine ⟨_, (pss_cons (ps_set (i := 6) sc_law.nd rfl (Or.inl rfl) (pe_op op_mod (pe_op op_add (pe_callC c_law_at hr rfl (pa_cons (pv 0) (pa_cons (pv 5) pa_nil))) (pv 5)) (pe_callB (call_lenK (K := K) rfl) rfl B.len bt_len (pa_cons (pv 2) pa_nil)))) pss_any), ?_⟩
      refine ⟨_, rfl, _, rfl, a, ns, _, rfl, hSa, by omega, _, rfl, _, _, rfl, rfl, _, rfl, W, _, rfl, .inl (SqL.of hWa), _, _, rfl, rfl, hlp, ?_⟩
      obtain ⟨sp, hsp, hsp0, hsp1⟩ : ∃ sp : Int, (ns.getD (0 + (j : Int)).toNat 0 + (0 + (j : Int))) % (((List.map (fun x => V.str (strL x)) ws)).length : Int) = sp ∧ 0 ≤ sp ∧ sp < ws.length := by
        refine ⟨_, rfl, Int.emod_nonneg _ (by omega), ?_⟩
        have := Int.emod_lt_of_pos (ns.getD (0 + (j : Int)).toNat 0 + (0 + (j : Int))) hlp
        omega
      dsimp only
      rw [hsp]
      refine ⟨_, (pss_cons (ps_set (i := 7) sc_law.nd rfl (Or.inl rfl) (pe_ix (ix_listK (K := K) rfl) (pv 4) (pe_op op_mod (pe_op op_add (pe_callC c_law_at hr rfl (pa_cons (pv 0) (pa_cons (pe_op op_add (pv 5) pe_int) pa_nil))) (pe_op op_mul pe_int (pv 5))) pe_int) (fun _ _ => rfl))) pss_any), ?_⟩
      obtain ⟨wd, hwd, hwdw⟩ := menu_at (ns.getD (0 + (j : Int) + 1).toNat 0 + 3 * (0 + (j : Int)))
      refine ⟨_, rfl, _, rfl, _, rfl, _, _, rfl, rfl, a, ns, _, rfl, hSa, by omega, _, rfl, _, _, rfl, rfl, .inl ⟨by decide, by decide⟩, _, _, rfl, rfl, _, _, rfl, rfl, (by decide : (0 : Int) < 13), M, _, _, _, rfl, rfl, SqL.of hMa, hwd, ?_⟩
      refine ⟨_, (pss_cons (ps_set (i := 8) sc_law.nd rfl (Or.inl rfl) (pe_slice (sl_listK (K := K) rfl) (pv 2) po_none (po_some (pv 6)))) pss_any), ?_⟩
      refine ⟨_, rfl, _, rfl, _, rfl, W, _, rfl, SqL.of hWa, fun pa hpa => ?_⟩
      rw [cut_to (ws := ws) hsp0 (by omega)]
      obtain ⟨as, has, hasw, hasl⟩ : ∃ as, as = ws.take sp.toNat ∧ (∀ x ∈ as, Wd x) ∧ as.length = sp.toNat := ⟨_, rfl, fun x hx => hws x (List.mem_of_mem_take hx), by rw [List.length_take]; omega⟩
      rw [← has]
      have ka := Same.new hpa (.lst ((List.map (fun x => V.str (strL x)) as)))
      have hA1 := upd_same (H := Ha) (a := pa) (o := .lst ((List.map (fun x => V.str (strL x)) as)))
      generalize upd Ha pa (.lst ((List.map (fun x => V.str (strL x)) as))) = Hb at ka hA1
      have hWb := ka _ _ hWa
      refine ⟨_, (pss_cons (ps_set (i := 9) sc_law.nd rfl (Or.inl rfl) (pe_slice (sl_listK (K := K) rfl) (pv 2) (po_some (pe_op op_add (pv 6) pe_int)) po_none)) pss_any), ?_⟩
      refine ⟨_, rfl, _, rfl, _, _, rfl, rfl, _, rfl, W, _, rfl, SqL.of hWb, fun pb hpb => ?_⟩
      rw [cut_from (ws := ws) (s := sp + 1) (by omega) (by omega)]
      obtain ⟨bs, hbs, hbsw, hbsl⟩ : ∃ bs, bs = ws.drop (sp + 1).toNat ∧ (∀ x ∈ bs, Wd x) ∧ bs.length + sp.toNat + 1 = ws.length := ⟨_, rfl, fun x hx => hws x (List.mem_of_mem_drop hx), by rw [List.length_drop]; omega⟩
      rw [← hbs]
      have kb := Same.new hpb (.lst ((List.map (fun x => V.str (strL x)) bs)))
      have hB1 := upd_same (H := Hb) (a := pb) (o := .lst ((List.map (fun x => V.str (strL x)) bs)))
      generalize upd Hb pb (.lst ((List.map (fun x => V.str (strL x)) bs))) = Hc at kb hB1
      have hWc := kb _ _ hWb
      have hAc := kb _ _ hA1
      have gc := (ga.trans ka).trans kb
      have hla : ((List.map (fun x => V.str (strL x)) as)).length = as.length := List.length_map _
      have hlb : ((List.map (fun x => V.str (strL x)) bs)).length = bs.length := List.length_map _
      -- the rows
      refine ⟨_, (pss_cons (ps_set (i := 10) sc_law.nd rfl (Or.inl rfl) (pe_lst (pa_cons (pv 2) (pa_cons (pe_op op_cat (pv 8) (pv 9)) (pa_cons (pe_op op_cat (pv 2) (pe_lst (pa_cons (pv 7) pa_nil))) pa_nil))))) pss_any), ?_⟩
      refine ⟨_, rfl, _, rfl, _, rfl, pa, pb, _, _, rfl, rfl, hAc, hB1, small (by omega), fun p1 hp1 => ?_⟩
      have k1 := Same.new hp1 (.lst ((List.map (fun x => V.str (strL x)) as) ++ (List.map (fun x => V.str (strL x)) bs)))
      have h11 := upd_same (H := Hc) (a := p1) (o := .lst ((List.map (fun x => V.str (strL x)) as) ++ (List.map (fun x => V.str (strL x)) bs)))
      generalize upd Hc p1 (.lst ((List.map (fun x => V.str (strL x)) as) ++ (List.map (fun x => V.str (strL x)) bs))) = Hd at k1 h11
      refine ⟨_, rfl, _, rfl, small (by simp), fun p2 hp2 => ?_⟩
      have k2 := Same.new hp2 (.lst [.str (strL wd)])
      have h22 := upd_same (H := Hd) (a := p2) (o := .lst [.str (strL wd)])
      generalize upd Hd p2 (.lst [.str (strL wd)]) = He at k2 h22
      refine ⟨W, p2, _, _, rfl, rfl, k2 _ _ (k1 _ _ hWc), h22, small (by show _ + 1 ≤ _; omega), fun p3 hp3 => ?_⟩
      have k3 := Same.new hp3 (.lst ((List.map (fun x => V.str (strL x)) ws) ++ [.str (strL wd)]))
      have h33 := upd_same (H := He) (a := p3) (o := .lst ((List.map (fun x => V.str (strL x)) ws) ++ [.str (strL wd)]))
      generalize upd He p3 (.lst ((List.map (fun x => V.str (strL x)) ws) ++ [.str (strL wd)])) = Hf at k3 h33
      refine ⟨small (by simp), fun RW hRW => ?_⟩
      have gf := (k1.trans k2).trans k3
      have k4 := Same.new hRW (.lst [.ref W, .ref p1, .ref p3])
      have hR4 := upd_same (H := Hf) (a := RW) (o := .lst [.ref W, .ref p1, .ref p3])
      generalize upd Hf RW (.lst [.ref W, .ref p1, .ref p3]) = Hg at k4 hR4
      have hWf := gf _ _ hWc
      have hAf := gf _ _ hAc
      have hBf := gf _ _ hB1
      have h1f := k3 _ _ (k2 _ _ h11)
      refine ⟨_, (pss_cons (ps_expr (pe_bmK (K := K) rfl PySem.F.plainAttrs_list PySem.F.slot_list_append PySem.F.type_list_append mt_append (pv 10) (pa_cons (pe_op op_cat (pe_op op_cat (pv 8) (pe_lst (pa_cons (pv 7) pa_nil))) (pv 9)) pa_nil))) pss_any), ?_⟩
      refine ⟨_, rfl, .inl ⟨rfl, _, SqL.of hR4⟩, _, rfl, _, rfl, small (by simp), fun p4 hp4 => ?_⟩
      have k5 := Same.new hp4 (.lst [.str (strL wd)])
      have h44 := upd_same (H := Hg) (a := p4) (o := .lst [.str (strL wd)])
      generalize upd Hg p4 (.lst [.str (strL wd)]) = Hh at k5 h44
      refine ⟨pa, p4, _, _, rfl, rfl, k5 _ _ (k4 _ _ hAf), h44, small (by show _ + 1 ≤ _; omega), fun p5 hp5 => ?_⟩
      have k6 := Same.new hp5 (.lst ((List.map (fun x => V.str (strL x)) as) ++ [.str (strL wd)]))
      have h55 := upd_same (H := Hh) (a := p5) (o := .lst ((List.map (fun x => V.str (strL x)) as) ++ [.str (strL wd)]))
      generalize upd Hh p5 (.lst ((List.map (fun x => V.str (strL x)) as) ++ [.str (strL wd)])) = Hi at k6 h55
      refine ⟨_, rfl, p5, pb, _, _, rfl, rfl, h55, k6 _ _ (k5 _ _ (k4 _ _ hBf)), small (by rw [List.length_append]; show _ + 1 + _ ≤ _; omega), fun p6 hp6 => ?_⟩
      have k7 := Same.new hp6 (.lst ((List.map (fun x => V.str (strL x)) as) ++ [.str (strL wd)] ++ (List.map (fun x => V.str (strL x)) bs)))
      have h66 := upd_same (H := Hi) (a := p6) (o := .lst ((List.map (fun x => V.str (strL x)) as) ++ [.str (strL wd)] ++ (List.map (fun x => V.str (strL x)) bs)))
      have ne6 : RW ≠ p6 := ne_of_none (k6 _ _ (k5 _ _ hR4)) hp6
      generalize upd Hi p6 (.lst ((List.map (fun x => V.str (strL x)) as) ++ [.str (strL wd)] ++ (List.map (fun x => V.str (strL x)) bs))) = Hj at k7 h66
      have hR7 := k7 _ _ (k6 _ _ (k5 _ _ hR4))
      refine ⟨RW, _, _, rfl, rfl, hR7, smaller (by simp), ?_⟩
      have gj : Same Hf Hj := ((k4.trans k5).trans k6).trans k7
      have gk : Same Hf (upd Hj RW (.lst [.ref W, .ref p1, .ref p3, .ref p6])) := gj.upd hRW
      have hRk := upd_same (H := Hj) (a := RW) (o := .lst [.ref W, .ref p1, .ref p3, .ref p6])
      have h6k : upd Hj RW (.lst [.ref W, .ref p1, .ref p3, .ref p6]) p6 = some (.lst ((List.map (fun x => V.str (strL x)) as) ++ [.str (strL wd)] ++ (List.map (fun x => V.str (strL x)) bs))) := (upd_ne ne6.symm).trans h66
      change anyS _ _ _ _ (upd Hj RW (.lst [.ref W, .ref p1, .ref p3, .ref p6]))
      generalize upd Hj RW (.lst [.ref W, .ref p1, .ref p3, .ref p6]) = Hk at gk hRk h6k
      refine ⟨_, (pss_cons (ps_expr (pe_bmK (K := K) rfl PySem.F.plainAttrs_list PySem.F.slot_list_append PySem.F.type_list_append mt_append (pv 10) (pa_cons (pe_op op_cat (pe_op op_cat (pv 8) (pe_slice (sl_listK (K := K) rfl) (pv 2) (po_some (pv 6)) (po_some (pe_op op_add (pv 6) pe_int)))) (pe_slice (sl_listK (K := K) rfl) (pv 2) (po_some (pv 6)) po_none)) pa_nil))) pss_any), ?_⟩
      have hWk := gk _ _ hWf
      refine ⟨_, rfl, .inl ⟨rfl, _, SqL.of hRk⟩, _, rfl, _, rfl, _, rfl, _, rfl, _, rfl, _, _, rfl, rfl, _, rfl, W, _, rfl, SqL.of hWk, fun p7 hp7 => ?_⟩
      obtain ⟨us, hus, husw, husl⟩ := cutS ws (some sp) (some (sp + 1))
      rw [hus]
      have k8 := Same.new hp7 (.lst ((List.map (fun x => V.str (strL x)) us)))
      have h77 := upd_same (H := Hk) (a := p7) (o := .lst ((List.map (fun x => V.str (strL x)) us)))
      generalize upd Hk p7 (.lst ((List.map (fun x => V.str (strL x)) us))) = Hl at k8 h77
      have hlu : ((List.map (fun x => V.str (strL x)) us)).length = us.length := List.length_map _
      refine ⟨pa, p7, _, _, rfl, rfl, k8 _ _ (gk _ _ hAf), h77, small (by omega), fun p8 hp8 => ?_⟩
      have k9 := Same.new hp8 (.lst ((List.map (fun x => V.str (strL x)) as) ++ (List.map (fun x => V.str (strL x)) us)))
      have h88 := upd_same (H := Hl) (a := p8) (o := .lst ((List.map (fun x => V.str (strL x)) as) ++ (List.map (fun x => V.str (strL x)) us)))
      generalize upd Hl p8 (.lst ((List.map (fun x => V.str (strL x)) as) ++ (List.map (fun x => V.str (strL x)) us))) = Hn at k9 h88
      refine ⟨_, rfl, _, rfl, _, rfl, W, _, rfl, SqL.of (k9 _ _ (k8 _ _ hWk)), fun p9 hp9 => ?_⟩
      rw [cut_from (ws := ws) hsp0 (by omega)]
      obtain ⟨ds, hds, hdsw, hdsl⟩ : ∃ ds, ds = ws.drop sp.toNat ∧ (∀ x ∈ ds, Wd x) ∧ ds.length + sp.toNat = ws.length := ⟨_, rfl, fun x hx => hws x (List.mem_of_mem_drop hx), by rw [List.length_drop]; omega⟩
      rw [← hds]
      have k10 := Same.new hp9 (.lst ((List.map (fun x => V.str (strL x)) ds)))
      have h99 := upd_same (H := Hn) (a := p9) (o := .lst ((List.map (fun x => V.str (strL x)) ds)))
      generalize upd Hn p9 (.lst ((List.map (fun x => V.str (strL x)) ds))) = Ho at k10 h99
      have hld : ((List.map (fun x => V.str (strL x)) ds)).length = ds.length := List.length_map _
      refine ⟨p8, p9, _, _, rfl, rfl, k10 _ _ h88, h99, small (by rw [List.length_append]; omega), fun p10 hp10 => ?_⟩
      have k11 := Same.new hp10 (.lst ((List.map (fun x => V.str (strL x)) as) ++ (List.map (fun x => V.str (strL x)) us) ++ (List.map (fun x => V.str (strL x)) ds)))
      have h10 := upd_same (H := Ho) (a := p10) (o := .lst ((List.map (fun x => V.str (strL x)) as) ++ (List.map (fun x => V.str (strL x)) us) ++ (List.map (fun x => V.str (strL x)) ds)))
      have ne10 : RW ≠ p10 := ne_of_none (k10 _ _ (k9 _ _ (k8 _ _ hRk))) hp10
      generalize upd Ho p10 (.lst ((List.map (fun x => V.str (strL x)) as) ++ (List.map (fun x => V.str (strL x)) us) ++ (List.map (fun x => V.str (strL x)) ds))) = Hr at k11 h10
      have hRp := k11 _ _ (k10 _ _ (k9 _ _ (k8 _ _ hRk)))
      refine ⟨RW, _, _, rfl, rfl, hRp, smaller (by simp), ?_⟩
      have gp : Same Hf Hr := (((gk.trans k8).trans k9).trans k10).trans k11
      have gq : Same Hf (upd Hr RW (.lst [.ref W, .ref p1, .ref p3, .ref p6, .ref p10])) := gp.upd hRW
      have hRq := upd_same (H := Hr) (a := RW) (o := .lst [.ref W, .ref p1, .ref p3, .ref p6, .ref p10])
      have h6q : upd Hr RW (.lst [.ref W, .ref p1, .ref p3, .ref p6, .ref p10]) p6 = some (.lst ((List.map (fun x => V.str (strL x)) as) ++ [.str (strL wd)] ++ (List.map (fun x => V.str (strL x)) bs))) := (upd_ne ne6.symm).trans (k11 _ _ (k10 _ _ (k9 _ _ (k8 _ _ h6k))))
      have h10q : upd Hr RW (.lst [.ref W, .ref p1, .ref p3, .ref p6, .ref p10]) p10 = some (.lst ((List.map (fun x => V.str (strL x)) as) ++ (List.map (fun x => V.str (strL x)) us) ++ (List.map (fun x => V.str (strL x)) ds))) := (upd_ne ne10.symm).trans h10
      change anyS _ _ _ _ (upd Hr RW (.lst [.ref W, .ref p1, .ref p3, .ref p6, .ref p10]))
      generalize upd Hr RW (.lst [.ref W, .ref p1, .ref p3, .ref p6, .ref p10]) = Hq at gq hRq h6q h10q
      have wd1 : ∀ x ∈ [wd], Wd x := fun x hx => by rw [List.mem_singleton.mp hx]; exact hwdw
      have rows : ∀ x ∈ [V.ref W, V.ref p1, V.ref p3, V.ref p6, V.ref p10], ∃ D row, x = .ref D ∧ Hq D = some (.lst ((List.map (fun x => V.str (strL x)) row))) ∧ Rw row := by
        intro x hx
        simp only [List.mem_cons, List.not_mem_nil, or_false] at hx
        rcases hx with rfl | rfl | rfl | rfl | rfl
        · exact ⟨W, ws, rfl, gq _ _ hWf, fun z => by rw [z] at hw3; exact absurd hw3 (by decide), by omega, hws⟩
        · exact ⟨p1, as ++ bs, rfl, by rw [gq _ _ h1f, List.map_append], Rw.app hasw hbsw (by omega) (by omega)⟩
        · exact ⟨p3, ws ++ [wd], rfl, by rw [gq _ _ h33, List.map_append]; rfl, Rw.app hws wd1 (by show 0 < _ + 1; omega) (by show _ + 1 ≤ _; omega)⟩
        · exact ⟨p6, as ++ [wd] ++ bs, rfl, by rw [h6q, List.map_append, List.map_append]; rfl, Rw.app (app_wd hasw wd1) hbsw (by rw [List.length_append]; show 0 < _ + 1 + _; omega) (by rw [List.length_append]; show _ + 1 + _ ≤ _; omega)⟩
        · exact ⟨p10, as ++ us ++ ds, rfl, by rw [h10q, List.map_append, List.map_append], Rw.app (app_wd hasw fun x hx => hws x (husw x hx)) hdsw (by omega) (by rw [List.length_append]; omega)⟩
      refine ⟨_, (pss_one (ps_for PassesOwn.never rfl (pi_listK (K := K) rfl (pv 10)) (pg_name (i := 11) sc_law.nd rfl (Or.inl rfl)) pss_any)), ?_⟩
      refine ⟨_, rfl, RW, rfl, ⟨_, SqL.of hRq⟩, ?_⟩
      refine for_list (xs := [V.ref W, V.ref p1, V.ref p3, V.ref p6, V.ref p10]) (fun i σ' H' => ∃ o11 o12 o13 o14, σ' = [some (.ref a), some (.ref R), some (.ref W), o3, some (.ref M), some (.int (0 + (j : Int))), some (.int sp), some (.str (strL wd)), some (.ref pa), some (.ref pb), some (.ref RW), o11, o12, o13, o14] ∧ Same Hq H')
        ⟨_, _, _, _, rfl, Same.refl _⟩ ?_ ?_ ?_
      · rintro i σ' H' _ ⟨_, _, _, _, rfl, g⟩
        exact SqL.of (g _ _ hRq)
      · rintro i x σ' H1 hxi ⟨o11, o12, o13, o14, rfl, g1⟩
        obtain ⟨D, row, rfl, hD, hrw⟩ := rows x (List.mem_of_getElem? hxi)
        have hD1 := g1 _ _ hD
        obtain ⟨gs, hcut⟩ := cuts_some hrw.ne fun x hx => (hrw.wd x hx).1
        have hgw : ∀ g ∈ gs, ∀ x ∈ g, x.length ≤ 501 := fun g hg x hx => (hrw.wd x (by rw [hcut.words]; exact inter_mem hg hx)).2
        have hrl1 := hrw.len
        have hjl : (joinL [32] row).length ≤ 100000 := by
          have h1 := joinL_len (sep := [32]) fun p hp => (hrw.wd p hp).2
          have h2 : row.length * (501 + ([32] : List Nat).length) ≤ 100 * 502 := Nat.mul_le_mul hrl1 (by decide)
          omega
        have hgs : gs ≠ [] := fun z => hrw.ne (by rw [hcut.words, z]; rfl)
        have hsum := sum_words fun x hx => (hrw.wd x hx).2
        have hsm2 : row.length * 501 ≤ 100 * 501 := Nat.mul_le_mul_right _ hrl1
        refine ⟨_, (pss_cons (ps_asg (pe_callC c_law_tried hr rfl (pa_cons (pe_bmK (K := K) rfl PySem.F.plainAttrs_str PySem.F.slot_str_join PySem.F.type_str_join mt_join pe_str (pa_cons (pv 11) pa_nil)) pa_nil)) (pg_tupK (K := K) (n := 2) rfl rfl (pgs_cons (pg_name (i := 12) sc_law.nd rfl (Or.inl rfl)) (pgs_cons (pg_name (i := 13) sc_law.nd rfl (Or.inl rfl)) pgs_nil)))) pss_any), ?_⟩
        refine ⟨rfl, _, rfl, _, D, row.map strL, rfl, rfl, by rw [List.map_map]; exact hD1, by rw [List.length_map]; show _ + _ * 1 ≤ _; omega, row, gs, by rw [← join_toList]; rfl, hcut, hjl, hgw, fun hg p v H2 g2 hp rv => ?_, fun hg p H2 g2 hp => ?_⟩
        · refine ⟨p, _, rfl, SqT.of hp, rfl, _, _, rfl, _, _, rfl, rfl, ?_⟩
          refine ⟨_, (pss_cons (ps_set (i := 14) sc_law.nd rfl (Or.inl rfl) (pe_callC c_law_judged hr rfl (pa_cons (pv 11) pa_nil))) pss_any), ?_⟩
          refine ⟨_, rfl, D, row, rfl, g2 _ _ hD1, by omega, fun x hx => (hrw.wd x hx).2, fun gs' jk v' H3 g3 rv' => ?_, fun no => absurd ⟨hgs, hcut.words, hg.1, hg.2⟩ (no gs)⟩
          have hgl := (jok_at jk).1
          rw [jok_uniq hcut jk] at hgl rv'
          have rv3 : Rep Al H3 (rideD (gs.map stopOf)) v' := rv'.weak fun _ _ => trivial
          obtain ⟨b, ys, rfl, _, _, _⟩ := rv3.lstE
          refine ⟨_, (pss_cons (ps_if (pt_cmpR op_ne (pv 12) (pe_ix (ix_listK (K := K) rfl) (pe_lst (pa_cons pe_str (pa_cons pe_str pa_nil))) (pe_callTy call_int1 rfl B.int bt_int (pa_cons (pe_cmpR op_isN (pv 14) pe_non (nomark _)) pa_nil)) (fun _ _ => rfl)) (nomark _)) (pss_one (ps_ret pe_bl)) pss_nil) pss_any), ?_⟩
          refine ⟨_, rfl, small (by simp), fun T hT => ?_⟩
          have k12 := Same.new hT (.lst [.str "told", .str "refused"])
          have hT1 := upd_same (H := H3) (a := T) (o := .lst [.str "told", .str "refused"])
          generalize upd H3 T (.lst [.str "told", .str "refused"]) = H4 at k12 hT1
          refine ⟨_, rfl, rfl, .inr ⟨_, rfl, T, _, _, _, rfl, rfl, SqL.of hT1, rfl, rfl, _, rfl, iteNS rfl ?_⟩⟩
          refine ⟨_, (pss_one (ps_if (PW.pt (pw_and (pt_cmpR op_notN (pv 14) pe_non (nomark _)) (pw_and1 (pt_not (pt_val (pe_callC c_law_same hr rfl (pa_cons (pe_lst (pa_cons (pv 13) pa_nil)) (pa_cons (pe_lst (pa_cons (pv 14) pa_nil)) pa_nil)))))))) (pss_one (ps_ret pe_bl)) pss_nil)), ?_⟩
          refine ⟨_, rfl, rfl, _, rfl, iteP rfl ?_⟩
          refine ⟨_, rfl, small (by simp), fun l1 hl1 => ?_⟩
          have k13 := Same.new hl1 (.lst [v])
          have hl11 := upd_same (H := H4) (a := l1) (o := .lst [v])
          generalize upd H4 l1 (.lst [v]) = H5 at k13 hl11
          refine ⟨_, rfl, small (by simp), fun l2 hl2 => ?_⟩
          have k14 := Same.new hl2 (.lst [.ref b])
          have hl22 := upd_same (H := H5) (a := l2) (o := .lst [.ref b])
          generalize upd H5 l2 (.lst [.ref b]) = H6 at k14 hl22
          refine ⟨_, _, .lst [rideD (gs.map stopOf)], rfl, .lstI trivial (k14 _ _ hl11) (.consI ((((rv.mono g3).mono k12).mono k13).mono k14) .nilI), .lstI trivial hl22 (.consI (((rv3.mono k12).mono k13).mono k14) .nilI), ?_, fun H7 g7 => ⟨_, rfl, iteF ?_⟩⟩
          · simp only [L2.D.size, L2.D.sizes, rideD, sizes_calls, List.length_map]
            omega
          · exact ⟨_, _, _, _, rfl, (((((g1.trans g2).trans g3).trans k12).trans k13).trans k14).trans g7⟩
        · refine ⟨p, _, rfl, SqT.of hp, rfl, _, _, rfl, _, _, rfl, rfl, ?_⟩
          refine ⟨_, (pss_cons (ps_set (i := 14) sc_law.nd rfl (Or.inl rfl) (pe_callC c_law_judged hr rfl (pa_cons (pv 11) pa_nil))) pss_any), ?_⟩
          refine ⟨_, rfl, D, row, rfl, g2 _ _ hD1, by omega, fun x hx => (hrw.wd x hx).2, fun gs' jk v' H3 g3 rv' => absurd (by rw [← jok_uniq hcut jk]; obtain ⟨_, _, h1, h2⟩ := jk; exact ⟨h1, h2⟩) hg, fun no H3 g3 => ?_⟩
          refine ⟨_, (pss_cons (ps_if (pt_cmpR op_ne (pv 12) (pe_ix (ix_listK (K := K) rfl) (pe_lst (pa_cons pe_str (pa_cons pe_str pa_nil))) (pe_callTy call_int1 rfl B.int bt_int (pa_cons (pe_cmpR op_isN (pv 14) pe_non (nomark _)) pa_nil)) (fun _ _ => rfl)) (nomark _)) (pss_one (ps_ret pe_bl)) pss_nil) pss_any), ?_⟩
          refine ⟨_, rfl, small (by simp), fun T hT => ?_⟩
          have k12 := Same.new hT (.lst [.str "told", .str "refused"])
          have hT1 := upd_same (H := H3) (a := T) (o := .lst [.str "told", .str "refused"])
          generalize upd H3 T (.lst [.str "told", .str "refused"]) = H4 at k12 hT1
          refine ⟨_, rfl, rfl, .inr ⟨_, rfl, T, _, _, _, rfl, rfl, SqL.of hT1, rfl, rfl, _, rfl, iteNS rfl ?_⟩⟩
          refine ⟨_, (pss_one (ps_if (PW.pt (pw_and (pt_cmpR op_notN (pv 14) pe_non (nomark _)) (pw_and1 (pt_not (pt_val (pe_callC c_law_same hr rfl (pa_cons (pe_lst (pa_cons (pv 13) pa_nil)) (pa_cons (pe_lst (pa_cons (pv 14) pa_nil)) pa_nil)))))))) (pss_one (ps_ret pe_bl)) pss_nil)), ?_⟩
          refine ⟨_, rfl, rfl, _, rfl, iteQ rfl ?_⟩
          exact ⟨_, _, _, _, rfl, ((g1.trans g2).trans g3).trans k12⟩
      · rintro σ' H' ⟨_, _, _, _, rfl, g⟩
        exact ⟨_, _, _, _, _, _, _, _, _, _, _, rfl, ((gc.trans gf).trans gq).trans g⟩
    · rintro σ3 H6 ⟨o3, o5, o6, o7, o8, o9, o10, o11, o12, o13, o14, rfl, ga⟩
      refine ⟨_, (pss_one (ps_ret pe_bl)), ?_⟩
      exact q _
theorem allCal {tF : Tok} {cNoRide cNoStop cNoLine cRideError : Addr} (B : Blt mg) (D_keeps_time : DefOk K mg "keeps_time" s_keeps_time ["ride"]) (D_is_number : DefOk K mg "is_number" s_is_number ["word"]) (D_read_call : DefOk K mg "read_call" s_read_call ["words"]) (D_read : DefOk K mg "read" s_read ["line"]) (D_law_whole : DefOk K mg "_law_whole" s_law_whole ["_law_found"]) (D_law_at : DefOk K mg "_law_at" s_law_at ["_law_script", "_law_k"]) (D_law_drawn : DefOk K mg "_law_drawn" s_law_drawn ["_law_cells", "_law_count"]) (D_law_same : DefOk K mg "_law_same" s_law_same ["_law_found", "_law_due"]) (D_law_number : DefOk K mg "_law_number" s_law_number ["_law_word"]) (D_law_judged : DefOk K mg "_law_judged" s_law_judged ["_law_words"]) (D_law_tried : DefOk K mg "_law_tried" s_law_tried ["_law_line"]) (D_law : DefOk K mg "law" s_law ["_law_script"]) (eNoRide : Err K mg "NoRide" cNoRide) (eNoStop : Err K mg "NoStop" cNoStop) (eNoLine : Err K mg "NoLine" cNoLine) (eRideError : Err K mg "RideError" cRideError)
    (xl : PySem.W.exmOne K (.ref cNoLine) (.ref cRideError) = some true) (ec : ErrCls K cNoLine) (kl : PySem.W.kitOne K (.ref cNoLine) (.ref cNoLine) = some true) (kr : PySem.W.kitOne K (.ref cNoLine) (.ref cNoRide) = some false) (ks : PySem.W.kitOne K (.ref cNoLine) (.ref cNoStop) = some false)
    (hF : mg "FIGURES" = some (.str figs tF)) : Cal P w K mg base 5 "law" ["_law_script"] (spLaw K) := by
  have c1 := ok_law_whole (P := P) (w := w) (base := base) (k := 0) D_law_whole B
  have c2 := ok_keeps_time (P := P) (w := w) (base := base) (k := 0) D_keeps_time B
  have c3 := ok_is_number (P := P) (w := w) (base := base) (k := 0) D_is_number B hF
  have c4 := ok_read_callX (P := P) (w := w) (base := base) D_read_call B eNoLine c3
  have c5 := ok_readX (P := P) (w := w) (base := base) D_read B eNoLine c4 (c2.mono (by decide))
  have c6 := ok_law_tried (P := P) (w := w) (base := base) D_law_tried B eNoRide eNoStop eNoLine eRideError xl ec kl kr ks c5
  have c7 := ok_law_same (P := P) (w := w) (base := base) D_law_same B c1
  have c8 := ok_law_number (P := P) (w := w) (base := base) (k := 0) D_law_number B
  have c9 := ok_law_judged (P := P) (w := w) (base := base) D_law_judged B c8
  exact ok_law (k := 4) D_law B ((ok_law_drawn (k := 0) D_law_drawn B).mono (by decide)) ((ok_law_at (k := 0) D_law_at B).mono (by decide)) c6 (c9.mono (by decide)) (c7.mono (by decide))
end
theorem len1 {fd : FuncData} {ps : List Str} : ∀ (us : List Value), us.length = 1 → (∀ a0, bindArgs fd { pos := [a0] } = pure (ps.zip [a0])) → bindArgs fd { pos := us } = pure (ps.zip us)
  | [a0], _, h => h a0
theorem len2 {fd : FuncData} {ps : List Str} : ∀ (us : List Value), us.length = 2 → (∀ a0 a1, bindArgs fd { pos := [a0, a1] } = pure (ps.zip [a0, a1])) → bindArgs fd { pos := us } = pure (ps.zip us)
  | [a0, a1], _, h => h a0 a1

/-! ### the program's top -/
theorem all_mk {l : PySem.W.OpenLaw} {w : World} {K : PySem.W.Frag} {h : Heap} {mg : Str → Option Value} {fa f0 f1 f2 f3 f4 f5 f6 f7 f8 f9 f10 f11 : Addr} {od0 an0 od1 an1 od2 an2 od3 an3 od4 an4 od5 an5 od6 an6 od7 an7 od8 an8 od9 an9 od10 an10 od11 an11 : Option Addr} {sl0 sl1 sl2 sl3 sl4 sl5 sl6 sl7 sl8 sl9 sl10 sl11 : Array (Option Value)} {oc0 kV0 dc0 pm0 cd0 ct0 oc1 kV1 dc1 pm1 cd1 ct1 oc2 kV2 dc2 pm2 cd2 ct2 oc3 kV3 dc3 pm3 cd3 ct3 oc4 kV4 dc4 pm4 cd4 ct4 oc5 kV5 dc5 pm5 cd5 ct5 oc6 kV6 dc6 pm6 cd6 ct6 oc7 kV7 dc7 pm7 cd7 ct7 oc8 kV8 dc8 pm8 cd8 ct8 oc9 kV9 dc9 pm9 cd9 ct9 oc10 kV10 dc10 pm10 cd10 ct10 oc11 kV11 dc11 pm11 cd11 ct11 : Value} {q0 q1 q2 q3 : Addr} {tk0 : Tok} (X : K.In h) (G : h.Ns mainGlobals mg) (hfa : mg "law" = some (.ref fa))
    (a0 : PySem.W.nsIn K mainGlobals "keeps_time" = some (some (.ref f0))) (l0 : K.lookup f0 = some ⟨oc0, od0, .func (PySem.W.fnOf "keeps_time" "keeps_time" (defArgs s_keeps_time) (defBody s_keeps_time) (defScope s_keeps_time) .none kV0 dc0 pm0 an0 cd0 ct0), sl0⟩) (c0 : PySem.W.codeIn K cd0 "keeps_time" = true) (k0 : PySem.W.keepIn K (.ref f0) = true)
    (a1 : PySem.W.nsIn K mainGlobals "is_number" = some (some (.ref f1))) (l1 : K.lookup f1 = some ⟨oc1, od1, .func (PySem.W.fnOf "is_number" "is_number" (defArgs s_is_number) (defBody s_is_number) (defScope s_is_number) .none kV1 dc1 pm1 an1 cd1 ct1), sl1⟩) (c1 : PySem.W.codeIn K cd1 "is_number" = true) (k1 : PySem.W.keepIn K (.ref f1) = true)
    (a2 : PySem.W.nsIn K mainGlobals "read_call" = some (some (.ref f2))) (l2 : K.lookup f2 = some ⟨oc2, od2, .func (PySem.W.fnOf "read_call" "read_call" (defArgs s_read_call) (defBody s_read_call) (defScope s_read_call) .none kV2 dc2 pm2 an2 cd2 ct2), sl2⟩) (c2 : PySem.W.codeIn K cd2 "read_call" = true) (k2 : PySem.W.keepIn K (.ref f2) = true)
    (a3 : PySem.W.nsIn K mainGlobals "read" = some (some (.ref f3))) (l3 : K.lookup f3 = some ⟨oc3, od3, .func (PySem.W.fnOf "read" "read" (defArgs s_read) (defBody s_read) (defScope s_read) .none kV3 dc3 pm3 an3 cd3 ct3), sl3⟩) (c3 : PySem.W.codeIn K cd3 "read" = true) (k3 : PySem.W.keepIn K (.ref f3) = true)
    (a4 : PySem.W.nsIn K mainGlobals "_law_whole" = some (some (.ref f4))) (l4 : K.lookup f4 = some ⟨oc4, od4, .func (PySem.W.fnOf "_law_whole" "_law_whole" (defArgs s_law_whole) (defBody s_law_whole) (defScope s_law_whole) .none kV4 dc4 pm4 an4 cd4 ct4), sl4⟩) (c4 : PySem.W.codeIn K cd4 "_law_whole" = true) (k4 : PySem.W.keepIn K (.ref f4) = true)
    (a5 : PySem.W.nsIn K mainGlobals "_law_at" = some (some (.ref f5))) (l5 : K.lookup f5 = some ⟨oc5, od5, .func (PySem.W.fnOf "_law_at" "_law_at" (defArgs s_law_at) (defBody s_law_at) (defScope s_law_at) .none kV5 dc5 pm5 an5 cd5 ct5), sl5⟩) (c5 : PySem.W.codeIn K cd5 "_law_at" = true) (k5 : PySem.W.keepIn K (.ref f5) = true)
    (a6 : PySem.W.nsIn K mainGlobals "_law_drawn" = some (some (.ref f6))) (l6 : K.lookup f6 = some ⟨oc6, od6, .func (PySem.W.fnOf "_law_drawn" "_law_drawn" (defArgs s_law_drawn) (defBody s_law_drawn) (defScope s_law_drawn) .none kV6 dc6 pm6 an6 cd6 ct6), sl6⟩) (c6 : PySem.W.codeIn K cd6 "_law_drawn" = true) (k6 : PySem.W.keepIn K (.ref f6) = true)
    (a7 : PySem.W.nsIn K mainGlobals "_law_same" = some (some (.ref f7))) (l7 : K.lookup f7 = some ⟨oc7, od7, .func (PySem.W.fnOf "_law_same" "_law_same" (defArgs s_law_same) (defBody s_law_same) (defScope s_law_same) .none kV7 dc7 pm7 an7 cd7 ct7), sl7⟩) (c7 : PySem.W.codeIn K cd7 "_law_same" = true) (k7 : PySem.W.keepIn K (.ref f7) = true)
    (a8 : PySem.W.nsIn K mainGlobals "_law_number" = some (some (.ref f8))) (l8 : K.lookup f8 = some ⟨oc8, od8, .func (PySem.W.fnOf "_law_number" "_law_number" (defArgs s_law_number) (defBody s_law_number) (defScope s_law_number) .none kV8 dc8 pm8 an8 cd8 ct8), sl8⟩) (c8 : PySem.W.codeIn K cd8 "_law_number" = true) (k8 : PySem.W.keepIn K (.ref f8) = true)
    (a9 : PySem.W.nsIn K mainGlobals "_law_judged" = some (some (.ref f9))) (l9 : K.lookup f9 = some ⟨oc9, od9, .func (PySem.W.fnOf "_law_judged" "_law_judged" (defArgs s_law_judged) (defBody s_law_judged) (defScope s_law_judged) .none kV9 dc9 pm9 an9 cd9 ct9), sl9⟩) (c9 : PySem.W.codeIn K cd9 "_law_judged" = true) (k9 : PySem.W.keepIn K (.ref f9) = true)
    (a10 : PySem.W.nsIn K mainGlobals "_law_tried" = some (some (.ref f10))) (l10 : K.lookup f10 = some ⟨oc10, od10, .func (PySem.W.fnOf "_law_tried" "_law_tried" (defArgs s_law_tried) (defBody s_law_tried) (defScope s_law_tried) .none kV10 dc10 pm10 an10 cd10 ct10), sl10⟩) (c10 : PySem.W.codeIn K cd10 "_law_tried" = true) (k10 : PySem.W.keepIn K (.ref f10) = true)
    (a11 : PySem.W.nsIn K mainGlobals "law" = some (some (.ref f11))) (l11 : K.lookup f11 = some ⟨oc11, od11, .func (PySem.W.fnOf "law" "law" (defArgs s_law) (defBody s_law) (defScope s_law) .none kV11 dc11 pm11 an11 cd11 ct11), sl11⟩) (c11 : PySem.W.codeIn K cd11 "law" = true) (k11 : PySem.W.keepIn K (.ref f11) = true)
    (z0 : PySem.W.nsIn K mainGlobals "len" = some none) (z1 : PySem.W.nsIn K mainGlobals "range" = some none) (z2 : PySem.W.nsIn K mainGlobals "int" = some none) (z3 : PySem.W.nsIn K mainGlobals "list" = some none) (z4 : PySem.W.nsIn K mainGlobals "tuple" = some none) (z5 : PySem.W.nsIn K mainGlobals "bool" = some none) (z6 : PySem.W.nsIn K mainGlobals "str" = some none) (z7 : PySem.W.nsIn K mainGlobals "isinstance" = some none) (z8 : PySem.W.nsIn K mainGlobals "reversed" = some none) (z9 : PySem.W.nsIn K mainGlobals "enumerate" = some none) (z10 : PySem.W.nsIn K mainGlobals "all" = some none) (z11 : PySem.W.nsIn K mainGlobals "min" = some none)
    (y0 : PySem.W.nsIn K mainGlobals "NoRide" = some (some (.ref q0))) (x0 : PySem.W.excIn K q0 [.type "ValueError", .type "Exception", .type "BaseException", .type "object"] "ValueError.__new__" = true) (y1 : PySem.W.nsIn K mainGlobals "NoStop" = some (some (.ref q1))) (x1 : PySem.W.excIn K q1 [.type "ValueError", .type "Exception", .type "BaseException", .type "object"] "ValueError.__new__" = true) (y2 : PySem.W.nsIn K mainGlobals "NoLine" = some (some (.ref q2))) (x2 : PySem.W.excIn K q2 [.type "ValueError", .type "Exception", .type "BaseException", .type "object"] "ValueError.__new__" = true) (y3 : PySem.W.nsIn K mainGlobals "RideError" = some (some (.ref q3))) (x3 : PySem.W.excIn K q3 [.type "ValueError", .type "Exception", .type "BaseException", .type "object"] "ValueError.__new__" = true) (w0 : PySem.W.exmOne K (.ref q2) (.ref q3) = some true)
    (ec0 : ErrCls K q2)
    (kt0 : PySem.W.kitOne K (.ref q2) (.ref q2) = some true) (kt1 : PySem.W.kitOne K (.ref q2) (.ref q0) = some false) (kt2 : PySem.W.kitOne K (.ref q2) (.ref q1) = some false)
    (gx0 : PySem.W.nsIn K mainGlobals "FIGURES" = some (some (.str figs tk0))) :
    ∃ fd : FuncData, (∀ (s : Shared) (v : Value), BindsTo s fd ⟨[v], []⟩ [("_law_script", v)]) ∧ ∀ base : Heap, K.In base → base.Ns mainGlobals mg → FnOk l.prog w K mg base CX0 40 fa fd ["_law_script"] (spLaw K) := by
  have e0 : fa = f11 := by
    have e := hfa.symm.trans (PySem.W.mg_of X G a11)
    cases e
    rfl
  have ENoRide : Err K mg "NoRide" q0 := ⟨PySem.W.mg_of X G y0, x0⟩
  have ENoStop : Err K mg "NoStop" q1 := ⟨PySem.W.mg_of X G y1, x1⟩
  have ENoLine : Err K mg "NoLine" q2 := ⟨PySem.W.mg_of X G y2, x2⟩
  have ERideError : Err K mg "RideError" q3 := ⟨PySem.W.mg_of X G y3, x3⟩
  have D_keeps_time : DefOk K mg "keeps_time" s_keeps_time ["ride"] := ⟨f0, _, fun_mk (st := s_keeps_time) l0 c0 k0, (fun_mk (st := s_keeps_time) l0 c0 k0).binds (ps := ["ride"]) fun _ _ _ _ _ _ us hl => len1 us hl fun _ => rfl, PySem.W.mg_of X G a0⟩
  have D_is_number : DefOk K mg "is_number" s_is_number ["word"] := ⟨f1, _, fun_mk (st := s_is_number) l1 c1 k1, (fun_mk (st := s_is_number) l1 c1 k1).binds (ps := ["word"]) fun _ _ _ _ _ _ us hl => len1 us hl fun _ => rfl, PySem.W.mg_of X G a1⟩
  have D_read_call : DefOk K mg "read_call" s_read_call ["words"] := ⟨f2, _, fun_mk (st := s_read_call) l2 c2 k2, (fun_mk (st := s_read_call) l2 c2 k2).binds (ps := ["words"]) fun _ _ _ _ _ _ us hl => len1 us hl fun _ => rfl, PySem.W.mg_of X G a2⟩
  have D_read : DefOk K mg "read" s_read ["line"] := ⟨f3, _, fun_mk (st := s_read) l3 c3 k3, (fun_mk (st := s_read) l3 c3 k3).binds (ps := ["line"]) fun _ _ _ _ _ _ us hl => len1 us hl fun _ => rfl, PySem.W.mg_of X G a3⟩
  have D_law_whole : DefOk K mg "_law_whole" s_law_whole ["_law_found"] := ⟨f4, _, fun_mk (st := s_law_whole) l4 c4 k4, (fun_mk (st := s_law_whole) l4 c4 k4).binds (ps := ["_law_found"]) fun _ _ _ _ _ _ us hl => len1 us hl fun _ => rfl, PySem.W.mg_of X G a4⟩
  have D_law_at : DefOk K mg "_law_at" s_law_at ["_law_script", "_law_k"] := ⟨f5, _, fun_mk (st := s_law_at) l5 c5 k5, (fun_mk (st := s_law_at) l5 c5 k5).binds (ps := ["_law_script", "_law_k"]) fun _ _ _ _ _ _ us hl => len2 us hl fun _ _ => rfl, PySem.W.mg_of X G a5⟩
  have D_law_drawn : DefOk K mg "_law_drawn" s_law_drawn ["_law_cells", "_law_count"] := ⟨f6, _, fun_mk (st := s_law_drawn) l6 c6 k6, (fun_mk (st := s_law_drawn) l6 c6 k6).binds (ps := ["_law_cells", "_law_count"]) fun _ _ _ _ _ _ us hl => len2 us hl fun _ _ => rfl, PySem.W.mg_of X G a6⟩
  have D_law_same : DefOk K mg "_law_same" s_law_same ["_law_found", "_law_due"] := ⟨f7, _, fun_mk (st := s_law_same) l7 c7 k7, (fun_mk (st := s_law_same) l7 c7 k7).binds (ps := ["_law_found", "_law_due"]) fun _ _ _ _ _ _ us hl => len2 us hl fun _ _ => rfl, PySem.W.mg_of X G a7⟩
  have D_law_number : DefOk K mg "_law_number" s_law_number ["_law_word"] := ⟨f8, _, fun_mk (st := s_law_number) l8 c8 k8, (fun_mk (st := s_law_number) l8 c8 k8).binds (ps := ["_law_word"]) fun _ _ _ _ _ _ us hl => len1 us hl fun _ => rfl, PySem.W.mg_of X G a8⟩
  have D_law_judged : DefOk K mg "_law_judged" s_law_judged ["_law_words"] := ⟨f9, _, fun_mk (st := s_law_judged) l9 c9 k9, (fun_mk (st := s_law_judged) l9 c9 k9).binds (ps := ["_law_words"]) fun _ _ _ _ _ _ us hl => len1 us hl fun _ => rfl, PySem.W.mg_of X G a9⟩
  have D_law_tried : DefOk K mg "_law_tried" s_law_tried ["_law_line"] := ⟨f10, _, fun_mk (st := s_law_tried) l10 c10 k10, (fun_mk (st := s_law_tried) l10 c10 k10).binds (ps := ["_law_line"]) fun _ _ _ _ _ _ us hl => len1 us hl fun _ => rfl, PySem.W.mg_of X G a10⟩
  have D_law : DefOk K mg "law" s_law ["_law_script"] := ⟨f11, _, fun_mk (st := s_law) l11 c11 k11, (fun_mk (st := s_law) l11 c11 k11).binds (ps := ["_law_script"]) fun _ _ _ _ _ _ us hl => len1 us hl fun _ => rfl, PySem.W.mg_of X G a11⟩
  have B : Blt mg := ⟨PySem.W.mg_none_of X G z0, PySem.W.mg_none_of X G z1, PySem.W.mg_none_of X G z2, PySem.W.mg_none_of X G z3, PySem.W.mg_none_of X G z4, PySem.W.mg_none_of X G z5, PySem.W.mg_none_of X G z6, PySem.W.mg_none_of X G z7, PySem.W.mg_none_of X G z8, PySem.W.mg_none_of X G z9, PySem.W.mg_none_of X G z10, PySem.W.mg_none_of X G z11⟩
  rw [e0]
  refine ⟨PySem.W.fnOf "law" "law" (defArgs s_law) (defBody s_law) (defScope s_law) .none kV11 dc11 pm11 an11 cd11 ct11, fun s v => .of_eq rfl, fun base _ _ => ?_⟩
  have C := (allCal (P := l.prog) (w := w) (base := base) B D_keeps_time D_is_number D_read_call D_read D_law_whole D_law_at D_law_drawn D_law_same D_law_number D_law_judged D_law_tried D_law ENoRide ENoStop ENoLine ERideError w0 ec0 kt0 kt1 kt2 (PySem.W.mg_of X G gx0)).mono (k := 40) (by decide)
  obtain ⟨f', fd', F', _, _, m', oc', od', osl', lk'⟩ := C.ex
  have e1 := m'.symm.trans (PySem.W.mg_of X G a11)
  cases e1
  have e2 := lk'.symm.trans l11
  cases e2
  exact F'
theorem walk {l : PySem.W.OpenLaw} {q : Program} {loose : List Str} {XP : (Str → Option Value) → Heap → Prop} {YP : World → Heap → Prop} {d : DefRec} {K : Params → PySem.W.Frag} (hn : l.most = some 63) (hdf : d.params.defaults = [])
    (hY : ∀ (w : World) (h : Heap), YP w h → (K w.params).In h)
    (F : ∀ (w : World) (mg : Str → Option Value) (fa : Addr) (h : Heap), (K w.params).In h → h.Ns mainGlobals mg → mg d.name = some (.ref fa) →
      ∃ fd : FuncData, (∀ (s : Shared) (u : Value), BindsTo s fd ⟨[u], []⟩ [("_law_script", u)]) ∧ ∀ base : Heap, (K w.params).In base → base.Ns mainGlobals mg → FnOk l.prog w (K w.params) mg base CX0 40 fa fd ["_law_script"] (spLaw (K w.params))) :
    PySem.W.WalkO q loose XP YP l.row.toRowW d [] (fun f vs => PySem.call f vs) :=
  L2.walk_of (n := 63) (k := 40) (x := "_law_script") (CX := fun _ => CX0) (sp := fun w => spLaw (K w.params)) hn (by decide) hdf ⟨rfl, by decide, by decide⟩ hY F (fun _ _ a ns hl _ hS => ⟨a, ns, rfl, hS, hl, fun _ => rfl⟩) fun _ _ _ _ _ z => z
end Mine
open PySem PySem.W PyProof.Rows
theorem isSome_of {α : Type} {o : Option α} {a : α} (h : o = some a) : o.isSome = true := by rw [h]; rfl
set_option maxRecDepth 100000 in
set_option maxHeartbeats 0 in
theorem PySem.Challenge.cw_ridebook_k11_lines_refused_holds : PySem.Challenge.rw_ridebook_k11_lines_refused.Holds := by
  w_on; o_law; k_head; (case hw => w_witness2)
  k_fill
  refine Mine.walk (l := PySem.Challenge.rw_ridebook_k11_lines_refused) rfl rfl (fun w h Y => PySem.W.kIn_of Y) ?F
  case F =>
    intro w mg fa h KX G hmg
    refine' Mine.all_mk KX G hmg ?a0 ?l0 ?c0 ?k0 ?a1 ?l1 ?c1 ?k1 ?a2 ?l2 ?c2 ?k2 ?a3 ?l3 ?c3 ?k3 ?a4 ?l4 ?c4 ?k4 ?a5 ?l5 ?c5 ?k5 ?a6 ?l6 ?c6 ?k6 ?a7 ?l7 ?c7 ?k7 ?a8 ?l8 ?c8 ?k8 ?a9 ?l9 ?c9 ?k9 ?a10 ?l10 ?c10 ?k10 ?a11 ?l11 ?c11 ?k11 ?z0 ?z1 ?z2 ?z3 ?z4 ?z5 ?z6 ?z7 ?z8 ?z9 ?z10 ?z11 ?y0 ?x0 ?y1 ?x1 ?y2 ?x2 ?y3 ?x3 ?w0 ?ec0 ?kt0 ?kt1 ?kt2 ?gx0
    (case a0 => k_is); (case l0 => k_is); (case c0 => k_is); (case k0 => k_is)
    (case a1 => k_is); (case l1 => k_is); (case c1 => k_is); (case k1 => k_is)
    (case a2 => k_is); (case l2 => k_is); (case c2 => k_is); (case k2 => k_is)
    (case a3 => k_is); (case l3 => k_is); (case c3 => k_is); (case k3 => k_is)
    (case a4 => k_is); (case l4 => k_is); (case c4 => k_is); (case k4 => k_is)
    (case a5 => k_is); (case l5 => k_is); (case c5 => k_is); (case k5 => k_is)
    (case a6 => k_is); (case l6 => k_is); (case c6 => k_is); (case k6 => k_is)
    (case a7 => k_is); (case l7 => k_is); (case c7 => k_is); (case k7 => k_is)
    (case a8 => k_is); (case l8 => k_is); (case c8 => k_is); (case k8 => k_is)
    (case a9 => k_is); (case l9 => k_is); (case c9 => k_is); (case k9 => k_is)
    (case a10 => k_is); (case l10 => k_is); (case c10 => k_is); (case k10 => k_is)
    (case a11 => k_is); (case l11 => k_is); (case c11 => k_is); (case k11 => k_is)
    (case z0 => k_is); (case z1 => k_is); (case z2 => k_is); (case z3 => k_is); (case z4 => k_is); (case z5 => k_is); (case z6 => k_is); (case z7 => k_is); (case z8 => k_is); (case z9 => k_is); (case z10 => k_is); (case z11 => k_is); (case y0 => k_is); (case x0 => k_exc); (case y1 => k_is); (case x1 => k_exc); (case y2 => k_is); (case x2 => k_exc); (case y3 => k_is); (case x3 => k_exc); (case w0 => kts_exm); (case ec0 => (refine ⟨?_, ?_, ?_, ?_, ?_, ?_, ?_, ?_⟩; (exact isSome_of (by k_is)); all_goals k_is)); (case kt0 => kit_is); (case kt1 => kit_is); (case kt2 => kit_is); (case gx0 => k_is)
