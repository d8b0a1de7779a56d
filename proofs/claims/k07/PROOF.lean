import PyProof.Rows.All
import Wide.All
import OpenK.AllK
import Wide.FinOn
import Lean
import PyProof.EqAt
import PyProof.EqKinds
import PyProof.TupleCall
import KE.KTryMore
import PyProof.EnumFor
import PyProof.EnumMake
import PyProof.EnumStmt
import PyProof.Rows.EnumRows
import PySem.Challenge.RW_inkdays_k07_pieces_of_a_form
-- part L2p.lean
set_option Elab.async false
set_option linter.all false
set_option maxRecDepth 100000
/-! THE HAND LAYER, for ints, bools, texts, own classes, LISTS and tuples (index, slices, in, append, pop ..), calls, loops. Paste it whole ahead of your own text; what your proof does not reach may be deleted. -/
namespace L2
open PySem PySem.Spec PyProof.Rows

/-- a key: an int or a str -/
abbrev Key := Sum Int Str
def keyIs : Key → Value → Bool
  | .inl k, v => Value.isInt k v
  | .inr x, v => Value.isStrOf x v
def keyH (w : World) : Key → Int
  | .inl k => hashInt k
  | .inr x => hashStr w x
theorem keyIs_shape : ∀ {k : Key} {v : Value}, keyIs k v = true → (∃ i t, k = Sum.inl i ∧ v = Value.int i t) ∨ (∃ x t, k = Sum.inr x ∧ v = Value.str x t)
  | .inl i, v, h => by
    obtain ⟨t, e⟩ := Value.isInt_shape (k := i) (v := v) h
    exact .inl ⟨i, t, rfl, e⟩
  | .inr x, v, h => by
    obtain ⟨t, e⟩ := Value.isStrOf_shape (x := x) (v := v) h
    exact .inr ⟨x, t, rfl, e⟩
theorem key_ll (a b : Int) : decide ((Sum.inl a : Key) = Sum.inl b) = (a == b) := by
  by_cases e : a = b
  · subst e; simp
  · have h : ¬ (Sum.inl a : Key) = Sum.inl b := fun q => e (Sum.inl.inj q)
    rw [decide_eq_false h]
    exact (beq_eq_false_iff_ne.mpr e).symm
theorem key_rr (a b : Str) : decide ((Sum.inr a : Key) = Sum.inr b) = decide (a = b) := by
  by_cases e : a = b
  · subst e; simp
  · have h : ¬ (Sum.inr a : Key) = Sum.inr b := fun q => e (Sum.inr.inj q)
    rw [decide_eq_false h, decide_eq_false e]
theorem key_lr (a : Int) (b : Str) : decide ((Sum.inl a : Key) = Sum.inr b) = false := decide_eq_false (fun q => nomatch q)
theorem key_rl (a : Str) (b : Int) : decide ((Sum.inr a : Key) = Sum.inl b) = false := decide_eq_false (fun q => nomatch q)

def mixKind (prog : Program) (w : World) : PySem.KeyKind prog w Key where
  is := keyIs
  hash := keyH w
  inj := fun v a b ha hb => by
    rcases keyIs_shape ha with ⟨i, t, rfl, rfl⟩ | ⟨x, t, rfl, rfl⟩
    · rcases keyIs_shape hb with ⟨j, u, rfl, e⟩ | ⟨y, u, rfl, e⟩
      · injection e with e1 _; rw [e1]
      · exact nomatch e
    · rcases keyIs_shape hb with ⟨j, u, rfl, e⟩ | ⟨y, u, rfl, e⟩
      · exact nomatch e
      · injection e with e1 _; rw [e1]
  byValue := fun k v h => by
    rcases keyIs_shape h with ⟨i, t, rfl, rfl⟩ | ⟨x, t, rfl, rfl⟩ <;> rfl
  pyHash := fun hv h => by
    rcases keyIs_shape hv with ⟨i, t, rfl, rfl⟩ | ⟨x, t, rfl, rfl⟩
    · exact wpAny_pyHash_int h
    · exact wpAny_pyHash_str h
  eqBool := fun hu hv h => by
    rcases keyIs_shape hu with ⟨i, t, rfl, rfl⟩ | ⟨x, t, rfl, rfl⟩
    · rcases keyIs_shape hv with ⟨j, u, rfl, rfl⟩ | ⟨y, u, rfl, rfl⟩
      · rw [key_ll] at h; exact wpAny_eqBool_int h
      · rw [key_lr] at h; exact SeqAt.EqAt.int_str i t y u _ _ _ _ h
    · rcases keyIs_shape hv with ⟨j, u, rfl, rfl⟩ | ⟨y, u, rfl, rfl⟩
      · rw [key_rl] at h; exact SeqAt.EqAt.str_int x t j u _ _ _ _ h
      · rw [key_rr] at h; exact wpAny_eqBool_str h
  «strs» := fun k x t v h => by
    rcases keyIs_shape h with ⟨i, u, rfl, e⟩ | ⟨y, u, rfl, e⟩
    · exact nomatch e
    · injection e with e1 _
      subst e1
      cases v <;> rfl

end L2

namespace L2
open PySem PySem.Spec PyProof.Rows

/-- a value, without the heap -/
inductive V where
  | non | bl (b : Bool) | int (i : Int) | str (x : Str) | byt (b : Array UInt8) | flt (b : UInt64) | ref (a : Addr) | ty (n : String)
  deriving DecidableEq

def RelV : V → Value → Prop
  | .non, u => u = Value.none
  | .bl b, u => u = Value.bool b
  | .int i, u => ∃ t, u = Value.int i t
  | .str x, u => ∃ t, u = Value.str x t
  | .byt b, u => ∃ t, u = Value.bytes b t
  | .flt b, u => ∃ t, u = Value.float b t
  | .ref a, u => u = Value.ref a
  | .ty n, u => u = Value.type n

abbrev Vals : List V → List Value → Prop := Paired RelV
theorem Vals.length {xs : List V} {us : List Value} (r : Vals xs us) : xs.length = us.length := Paired.length r
theorem Vals.get : ∀ {xs : List V} {us : List Value} {i : Nat} {x : V}, Vals xs us → xs[i]? = some x → ∃ u, us[i]? = some u ∧ RelV x u
  | _, _, _, _, .nil, e => by simp at e
  | _, _, 0, _, .cons r _, e => by simp at e; subst e; exact ⟨_, rfl, r⟩
  | _, _, i + 1, x, .cons _ t, e => by
    obtain ⟨u, h1, h2⟩ := Vals.get (i := i) (x := x) t (by simpa using e)
    exact ⟨u, by simpa using h1, h2⟩
theorem Vals.set {x : V} {u : Value} (r : RelV x u) : ∀ {xs : List V} {us : List Value} (i : Nat), Vals xs us → Vals (xs.set i x) (us.set i u)
  | _, _, _, .nil => .nil
  | _, _, 0, .cons _ t => .cons r t
  | _, _, i + 1, .cons q t => .cons q (Vals.set r i t)
theorem Vals.append : ∀ {xs ys : List V} {us ws : List Value}, Vals xs us → Vals ys ws → Vals (xs ++ ys) (us ++ ws)
  | _, _, _, _, .nil, s => s
  | _, _, _, _, .cons r t, s => .cons r (Vals.append t s)
theorem Vals.take : ∀ {xs : List V} {us : List Value} (n : Nat), Vals xs us → Vals (xs.take n) (us.take n)
  | _, _, 0, _ => .nil
  | _, _, _ + 1, .nil => .nil
  | _, _, n + 1, .cons r t => .cons r (Vals.take n t)
theorem Vals.drop : ∀ {xs : List V} {us : List Value} (n : Nat), Vals xs us → Vals (xs.drop n) (us.drop n)
  | _, _, 0, r => r
  | _, _, _ + 1, .nil => .nil
  | _, _, n + 1, .cons _ t => Vals.drop n t
theorem Vals.none_of : ∀ {xs : List V} {us : List Value} {i : Nat}, Vals xs us → xs[i]? = none → us[i]? = none := fun {xs us i} r e => by
  have h1 := r.length
  have h2 : xs.length ≤ i := List.getElem?_eq_none_iff.mp e
  exact List.getElem?_eq_none_iff.mpr (by omega)

def RelO : Option V → Option Value → Prop
  | some v, some u => RelV v u
  | none, none => True
  | _, _ => False
def KV {κ : Type} : List (κ × V) → List (κ × Value) → Prop := Paired fun (p : κ × V) (q : κ × Value) => p.1 = q.1 ∧ RelV p.2 q.2

/-- a key of a dict (00_mix): an int or a text -/
def kV : Key → V
  | .inl i => .int i
  | .inr x => .str x

/-- what stands at a tracked address -/
inductive HO where
  /-- a list -/
  | lst (xs : List V)
  /-- a tuple (never changes) -/
  | tup (xs : List V)
  /-- a dict whose keys are ints and texts; one whose keys are tuples of ints and texts (the empty one is both) -/
  | dK (kvs : List (Key × V)) | dT (kvs : List (List Key × V))
  /-- a set of ints: its members, its size -/
  | set (S : Int → Bool) (n : Nat)
  /-- an instance of the class at C, its dict at dx, its attributes -/
  | ins (C dx : Addr) (fs : List (Str × V))
  /-- the dict of the instance at x -/
  | own (x : Addr)
  /-- the dict of an exception -/
  | xd (fs : List (Str × V))
  /-- a bound method, f of x -/
  | met (f x : Addr)
  /-- a range object lo, lo + 1, .. below hi -/
  | rng (lo hi : Int)
  /-- a thing that is known to the object (the script; a dict while a loop walks it): read, never written while it is so -/
  | frz (o : Obj) (u : HO)
  /-- a code object's table -/
  | tbl (ps : Array Value)
  /-- any other thing, by what is true of its one object (a def of one's own: SetO a S n := HO.ext fun h => ..) -/
  | ext (φ : Heap → Prop)

abbrev Hp := Addr → Option HO
def upd (H : Hp) (a : Addr) (o : HO) : Hp := fun b => if b = a then some o else H b
theorem upd_same {H : Hp} {a : Addr} {o : HO} : upd H a o a = some o := by unfold upd; rw [if_pos rfl]
theorem upd_ne {H : Hp} {a b : Addr} {o : HO} (h : b ≠ a) : upd H a o b = H b := by unfold upd; rw [if_neg h]
/-- two objects of different content stand apart -/
theorem ne_of {H : Hp} {a b : Addr} {o u : HO} (h : H a = some o) (h' : H b = some u) (d : o ≠ u) : a ≠ b := by
  intro e; subst e; rw [h] at h'; exact d (Option.some.inj h')
theorem ne_of_none {H : Hp} {a b : Addr} {o : HO} (h : H a = some o) (h' : H b = none) : a ≠ b := by
  intro e; subst e; rw [h] at h'; cases h'

section
variable (P : Program) (w : World)
def ObjOk (H : Hp) (h : Heap) (a : Addr) : HO → Prop
  | .lst xs => xs.length ≤ sizeLine ∧ ∃ (its : List Value) (n : Nat), Vals xs its ∧ h.get? a = some { cls := .type "list", data := .seq its.toArray n }
  | .tup xs => xs.length ≤ sizeLine ∧ ∃ its : List Value, Vals xs its ∧ IsTup h a its.toArray
  | .dK kvs => kvs.length ≤ sizeLine ∧ (a == sysModules) = false ∧ ∃ vs, KV kvs vs ∧ h.DictOf (mixKind P w) a vs
  | .dT kvs => kvs.length ≤ sizeLine ∧ (a == sysModules) = false ∧ ∃ xs : List (List Key × Addr × Value),
      Paired (fun (p : List Key × V) (q : List Key × Addr × Value) => p.1 = q.1 ∧ H q.2.1 = some (.tup (p.1.map kV)) ∧ RelV p.2 q.2.2) kvs xs ∧
      ∃ o es ep, h.get? a = some o ∧ o.ExactDict ∧ o.data = .dict es ep ∧ es.toList = xs.map (entryOfKey (tupleKind (mixKind P w))) ∧ (xs.map (·.1)).Nodup
  | .set S n => h.SetOf (intKind P w) a S n
  | .ins C dx fs => H dx = some (.own a) ∧ fs.length ≤ 1000 ∧ dx ≠ a ∧ h.get? a = some (PySem.W.instObj C dx) ∧
      ∃ mA, h.Ns1 dx mA ∧ (∀ f, RelO (fs.lookup f) (mA f)) ∧ PySem.Within mA (fs.map (·.1))
  | .own _ => ∃ o, h.get? a = some o
  | .xd fs => ∃ mA, h.Ns1 a mA ∧ ∀ f, RelO (fs.lookup f) (mA f)
  | .rng lo hi => ∃ t u v, h.get? a = some { cls := .type "range", data := .fields #[.int lo t, .int hi u, .int 1 v] }
  | .frz o u => h.get? a = some o ∧ ObjOk H h a u
  | .tbl ps => h.get? a = some { cls := .none, data := .fields ps }
  | .met f x => h.get? a = some (PySem.W.methodObj (.ref f) (.ref x))
  | .ext φ => φ h ∧ (∃ o, h.get? a = some o) ∧ ∀ h1 h2 : Heap, φ h1 → (∀ o, h1.get? a = some o → h2.get? a = some o) → φ h2
/-- the abstract heap is held -/
def HOk (H : Hp) (h : Heap) : Prop := ∀ a o, H a = some o → ObjOk P w H h a o
end

section
variable {P : Program} {w : World} {H H' : Hp} {h h' : Heap} {a : Addr} {o : HO}
theorem ObjOk.lt (x : ObjOk P w H h a o) : a < h.objs.size := by
  cases o with
  | lst xs => obtain ⟨_, _, _, _, e⟩ := x; exact Heap.lt_size e
  | tup xs => obtain ⟨_, _, _, p⟩ := x; exact p.lt
  | dK kvs => obtain ⟨_, _, _, _, o, _, _, e, _⟩ := x; exact Heap.lt_size e
  | dT kvs => obtain ⟨_, _, _, _, o, _, _, e, _⟩ := x; exact Heap.lt_size e
  | set S n => obtain ⟨o, _, _, _, e, _⟩ := x; exact Heap.lt_size e
  | ins C dx fs => obtain ⟨_, _, _, e, _⟩ := x; exact Heap.lt_size e
  | own y => obtain ⟨_, e⟩ := x; exact Heap.lt_size e
  | xd fs => obtain ⟨_, ⟨_, _, _, e, _⟩, _⟩ := x; exact Heap.lt_size e
  | rng lo hi => obtain ⟨_, _, _, e⟩ := x; exact Heap.lt_size e
  | frz ob u => obtain ⟨e, _⟩ := x; exact Heap.lt_size e
  | tbl ps => exact Heap.lt_size (show h.get? a = some _ from x)
  | met f y => exact Heap.lt_size (show h.get? a = some _ from x)
  | ext φ => obtain ⟨_, ⟨_, e⟩, _⟩ := x; exact Heap.lt_size e
theorem Paired.mapP {α β : Type} {F G : α → β → Prop} : ∀ {l₁ : List α} {l₂ : List β}, Paired F l₁ l₂ → (∀ a b, F a b → G a b) → Paired G l₁ l₂
  | _, _, .nil, _ => .nil
  | _, _, .cons r t, f => .cons (f _ _ r) (Paired.mapP t f)
/-- what an object's description leans on: its own object, its own dict, the tuples -/
theorem ObjOk.stay (x : ObjOk P w H h a o) (k : ∀ b u, (b = a ∨ H b = some (.own a)) → h.get? b = some u → h'.get? b = some u)
    (ho : ∀ b, H b = some (.own a) → H' b = some (.own a)) (ht : ∀ b xs, H b = some (.tup xs) → H' b = some (.tup xs)) : ObjOk P w H' h' a o := by
  induction o with
  | lst xs => obtain ⟨z, its, n, r, e⟩ := x; exact ⟨z, its, n, r, k _ _ (.inl rfl) e⟩
  | tup xs => obtain ⟨z, its, r, ob, e, c⟩ := x; exact ⟨z, its, r, ob, k _ _ (.inl rfl) e, c⟩
  | dK kvs => obtain ⟨z, y, vs, r, ob, es, ep, e, c⟩ := x; exact ⟨z, y, vs, r, ob, es, ep, k _ _ (.inl rfl) e, c⟩
  | dT kvs =>
    obtain ⟨z, y, xs, r, ob, es, ep, e, c⟩ := x
    exact ⟨z, y, xs, Paired.mapP r fun p q z => ⟨z.1, ht _ _ z.2.1, z.2.2⟩, ob, es, ep, k _ _ (.inl rfl) e, c⟩
  | set S n => obtain ⟨ob, es, ep, t, e, c⟩ := x; exact ⟨ob, es, ep, t, k _ _ (.inl rfl) e, c⟩
  | ins C dx fs =>
    obtain ⟨d, z, ne, e, mA, ⟨od, es, ep, e2, c⟩, r⟩ := x
    exact ⟨ho _ d, z, ne, k _ _ (.inl rfl) e, mA, ⟨od, es, ep, k _ _ (.inr d) e2, c⟩, r⟩
  | own y => obtain ⟨ob, e⟩ := x; exact ⟨ob, k _ _ (.inl rfl) e⟩
  | xd fs => obtain ⟨mA, ⟨od, es, ep, e, c⟩, r⟩ := x; exact ⟨mA, ⟨od, es, ep, k _ _ (.inl rfl) e, c⟩, r⟩
  | rng lo hi => obtain ⟨t, u, v, e⟩ := x; exact ⟨t, u, v, k _ _ (.inl rfl) e⟩
  | frz ob u ih => obtain ⟨e, q⟩ := x; exact ⟨k _ _ (.inl rfl) e, ih q⟩
  | tbl ps =>
    have e : h.get? a = some { cls := .none, data := .fields ps } := x
    show h'.get? a = some { cls := .none, data := .fields ps }
    exact k a _ (.inl rfl) e
  | met f y =>
    have e : h.get? a = some (PySem.W.methodObj (.ref f) (.ref y)) := x
    show h'.get? a = some (PySem.W.methodObj (.ref f) (.ref y))
    exact k a _ (.inl rfl) e
  | ext φ => obtain ⟨p, ⟨o, e⟩, st⟩ := x; exact ⟨st _ _ p fun o q => k _ _ (.inl rfl) q, ⟨o, k _ _ (.inl rfl) e⟩, st⟩
theorem HOk.lt (x : HOk P w H h) (e : H a = some o) : a < h.objs.size := (x a o e).lt
theorem HOk.fresh (x : HOk P w H h) (e : h.objs.size ≤ a) : H a = none := by
  cases q : H a with
  | none => rfl
  | some u => exact absurd (Nat.lt_of_lt_of_le (x.lt q) e) (Nat.lt_irrefl _)
/-- every object of the heap is kept -/
theorem HOk.kept (x : HOk P w H h) (k : ∀ b u, h.get? b = some u → h'.get? b = some u) : HOk P w H h' := fun a o e =>
  (x a o e).stay (fun b u _ q => k b u q) (fun _ q => q) fun _ _ q => q
/-- a new object is laid and tracked -/
theorem HOk.laid (x : HOk P w H h) (k : ∀ b u, h.get? b = some u → h'.get? b = some u) (hp : h.objs.size ≤ a) (new : ObjOk P w (upd H a o) h' a o) : HOk P w (upd H a o) h' := fun b u e => by
  have hn := x.fresh hp
  by_cases hb : b = a
  · subst hb; rw [upd_same] at e; cases e; exact new
  · rw [upd_ne hb] at e
    exact (x b u e).stay (fun c v _ q => k c v q) (fun c q => by rw [upd_ne (ne_of_none q hn)]; exact q) fun c xs q => by rw [upd_ne (ne_of_none q hn)]; exact q
end

/-- what may be read as u: it is u, or a known u -/
def Rd (H : Hp) (a : Addr) (u : HO) : Prop := H a = some u ∨ ∃ o, H a = some (.frz o u)
theorem Rd.of {H : Hp} {a : Addr} {u : HO} (h : H a = some u) : Rd H a u := .inl h
theorem Rd.ok {P : Program} {w : World} {H : Hp} {h : Heap} {a : Addr} {u : HO} (r : Rd H a u) (x : HOk P w H h) : ObjOk P w H h a u := by
  rcases r with r | ⟨o, r⟩
  · exact x a u r
  · obtain ⟨_, q⟩ := x a _ r
    exact q
/-- what may be written -/
def Mut : Option HO → Prop
  | some (.lst _) => True
  | some (.dK _) => True
  | some (.dT _) => True
  | some (.set _ _) => True
  | some (.ins _ _ _) => True
  | some (.ext _) => True
  | _ => False
section
variable {P : Program} {w : World} {H : Hp} {h h' : Heap} {x e : Addr} {o' : HO}
/-- the object at e is changed: x itself, or the dict of the instance x -/
theorem HOk.write (ok : HOk P w H h) (mu : Mut (H x)) (he : e = x ∨ H e = some (.own x)) (k : ∀ b u, b ≠ e → h.get? b = some u → h'.get? b = some u) (heo : ∃ u, h'.get? e = some u)
    (new : ObjOk P w (upd H x o') h' x o') : HOk P w (upd H x o') h' := fun b u q => by
  have nown : ∀ c y, H c = some (.own y) → c ≠ x := fun c y r z => by subst z; rw [r] at mu; exact mu
  have ntup : ∀ c xs, H c = some (.tup xs) → c ≠ x := fun c xs r z => by subst z; rw [r] at mu; exact mu
  by_cases hb : b = x
  · subst hb; rw [upd_same] at q; cases q; exact new
  · rw [upd_ne hb] at q
    by_cases hbe : b = e
    · have q' : H b = some (.own x) := by
        rcases he with z | z
        · exact absurd (hbe.trans z) hb
        · rw [hbe]; exact z
      rw [q] at q'; cases q'
      obtain ⟨v, hv⟩ := heo
      exact ⟨v, by rw [hbe]; exact hv⟩
    · refine (ok b u q).stay (fun c v hc r => k c v ?_ r) (fun c r => by rw [upd_ne (nown c b r)]; exact r) fun c xs r => by rw [upd_ne (ntup c xs r)]; exact r
      rcases hc with rfl | hc
      · exact hbe
      · rintro rfl
        rcases he with z | z
        · exact nown c b hc z
        · rw [hc] at z; cases z; exact hb rfl
end

/-! ### kept unless tracked; of the frames at fs (the callers') the slots may change (an exception that passes writes there); of the records at ex (iterators) nothing is said -/
structure Un (fs ex : List Addr) (H H' : Hp) (h h' : Heap) : Prop where
  keep : ∀ b o, h.get? b = some o → H b = none → b ∉ fs → b ∉ ex → h'.get? b = some o
  slot : ∀ b o, h.get? b = some o → H b = none → b ∈ fs → b ∉ ex → ∃ sl, h'.get? b = some { o with slots := sl }
  free : ∀ b o, h.get? b = some o → H b = none → b ∉ ex → H' b = none
  there : ∀ b o, h.get? b = some o → b ∉ ex → ∃ o', h'.get? b = some o'
  tups : ∀ b xs, H b = some (.tup xs) → H' b = some (.tup xs)
  frzs : ∀ b o u, H b = some (.frz o u) → H' b = some (.frz o u)
  tbls : ∀ b ps, H b = some (.tbl ps) → ∃ more, H' b = some (.tbl (ps ++ more))
section
variable {fs fs' ex ex' : List Addr} {H H1 H2 : Hp} {h h1 h2 h' : Heap} {a x e : Addr} {o : HO}
theorem Un.any (u : Un fs ex H H1 h h1) {b : Addr} {ob : Obj} (q : h.get? b = some ob) (n : H b = none) (hx : b ∉ ex) : ∃ sl, h1.get? b = some { ob with slots := sl } := by
  by_cases hb : b ∈ fs
  · exact u.slot b ob q n hb hx
  · exact ⟨ob.slots, u.keep b ob q n hb hx⟩
theorem Un.trans (a : Un fs ex H H1 h h1) (b : Un fs ex H1 H2 h1 h2) : Un fs ex H H2 h h2 where
  keep := fun c ob q n hc hx => b.keep c ob (a.keep c ob q n hc hx) (a.free c ob q n hx) hc hx
  slot := fun c ob q n hc hx => by
    obtain ⟨sl, e1⟩ := a.slot c ob q n hc hx
    obtain ⟨sl', e2⟩ := b.slot c _ e1 (a.free c ob q n hx) hc hx
    exact ⟨sl', e2⟩
  free := fun c ob q n hx => by
    obtain ⟨o', e1⟩ := a.there c ob q hx
    exact b.free c o' e1 (a.free c ob q n hx) hx
  there := fun c ob q hx => by
    obtain ⟨o', e1⟩ := a.there c ob q hx
    exact b.there c o' e1 hx
  tups := fun c xs q => b.tups c xs (a.tups c xs q)
  frzs := fun c ob xs q => b.frzs c ob xs (a.frzs c ob xs q)
  tbls := fun c ps q => by
    obtain ⟨m1, e1⟩ := a.tbls c ps q
    obtain ⟨m2, e2⟩ := b.tbls c _ e1
    exact ⟨m1 ++ m2, by rw [e2, Array.append_assoc]⟩
theorem Un.kept (k : ∀ b u, h.get? b = some u → h'.get? b = some u) : Un fs ex H H h h' :=
  ⟨fun b ob q _ _ _ => k b ob q, fun b ob q _ _ _ => ⟨ob.slots, k b ob q⟩, fun _ _ _ n _ => n, fun b ob q _ => ⟨ob, k b ob q⟩, fun _ _ q => q, fun _ _ _ q => q, fun _ ps q => ⟨#[], by rw [q]; simp⟩⟩
theorem Un.refl : Un fs ex H H h h := Un.kept fun _ _ q => q
theorem Un.laid (k : ∀ b u, h.get? b = some u → h'.get? b = some u) (hp : h.objs.size ≤ a) (hn : H a = none) : Un fs ex H (upd H a o) h h' where
  keep := fun b u q _ _ _ => k b u q
  slot := fun b u q _ _ _ => ⟨u.slots, k b u q⟩
  free := fun b u q n _ => by rw [upd_ne (Nat.ne_of_lt (Nat.lt_of_lt_of_le (Heap.lt_size q) hp))]; exact n
  there := fun b u q _ => ⟨u, k b u q⟩
  tups := fun b xs q => by rw [upd_ne (ne_of_none q hn)]; exact q
  frzs := fun b u xs q => by rw [upd_ne (ne_of_none q hn)]; exact q
  tbls := fun b ps q => ⟨#[], by rw [upd_ne (ne_of_none q hn), q]; simp⟩
theorem Un.write (mu : Mut (H x)) (he : e = x ∨ H e = some (.own x)) (k : ∀ b u, b ≠ e → h.get? b = some u → h'.get? b = some u) (heo : ∃ u, h'.get? e = some u) : Un fs ex H (upd H x o) h h' := by
  have hx : ∀ b, H b = none → b ≠ x := fun b n z => by subst z; rw [n] at mu; exact mu
  have hb : ∀ b, H b = none → b ≠ e := fun b n z => by
    subst z
    rcases he with r | r
    · exact hx b n r
    · rw [n] at r; cases r
  have hm : ∀ b u, H b = some u → ¬ Mut (some u) → b ≠ x := fun b u q nm z => by subst z; rw [q] at mu; exact nm mu
  refine ⟨fun b u q n _ _ => k b u (hb b n) q, fun b u q n _ _ => ⟨u.slots, k b u (hb b n) q⟩, fun b u q n _ => by rw [upd_ne (hx b n)]; exact n, fun b u q _ => ?_,
    fun b xs q => by rw [upd_ne (hm b _ q fun z => z)]; exact q, fun b u xs q => by rw [upd_ne (hm b _ q fun z => z)]; exact q, fun b ps q => ⟨#[], by rw [upd_ne (hm b _ q fun z => z), q]; simp⟩⟩
  by_cases hbe : b = e
  · subst hbe; exact heo
  · exact ⟨u, k b u hbe q⟩
theorem Un.mono (u : Un fs ex H H1 h h1) (hs : ∀ b ∈ fs, b ∈ fs') (hx : ∀ b ∈ ex, b ∈ ex') : Un fs' ex' H H1 h h1 :=
  ⟨fun b ob q n hb he => u.keep b ob q n (fun z => hb (hs b z)) fun z => he (hx b z), fun _ _ q n _ he => u.any q n fun z => he (hx _ z), fun b ob q n he => u.free b ob q n fun z => he (hx b z), fun b ob q he => u.there b ob q fun z => he (hx b z), u.tups, u.frzs, u.tbls⟩
end

/-! ### the heap without what is tracked -/
def trk (h : Heap) (H : Hp) : List Addr := (List.range h.objs.size).filter fun a => (H a).isSome
def hidT (h : Heap) (H : Hp) : Heap := PySem.W.hideAll h (trk h H)
theorem hidT_size (h : Heap) (H : Hp) : (hidT h H).objs.size = h.objs.size := PySem.W.hideAll_size _ _
theorem hidT_get {h : Heap} {H : Hp} {b : Addr} {o : Obj} (e : h.get? b = some o) (n : H b = none) : (hidT h H).get? b = some o :=
  PySem.W.hideAll_get _ e fun hm => by
    have q : (H b).isSome = true := (List.mem_filter.mp hm).2
    rw [n] at q; simp at q
theorem of_hidT {h : Heap} {H : Hp} {b : Addr} {o : Obj} (e : (hidT h H).get? b = some o) : h.get? b = some o ∧ H b = none := by
  have e' : h.get? b = some o := PySem.W.of_hideAll (trk h H) e
  refine ⟨e', ?_⟩
  cases q : H b with
  | none => rfl
  | some x =>
    have hm : b ∈ trk h H := List.mem_filter.mpr ⟨List.mem_range.mpr (Heap.lt_size e'), by simp [q]⟩
    have z : (hidT h H).get? b = none := PySem.W.hideAll_none (trk h H) hm
    rw [z] at e; cases e

/-! ### OpenK's ledger, filled with every new object but one -/
def allNews (g h : Heap) (L : Addr) : List (Addr × Obj) := (List.range h.objs.size).filterMap fun a => if a = L ∨ (g.get? a).isSome = true then none else (h.get? a).map fun o => (a, o)
def rest (g h : Heap) (L d : Addr) : List (Addr × Obj) := (allNews g h L).filter fun p => decide (p.1 ≠ d)
end L2

namespace L2
open PySem PySem.Spec PyProof.Rows

/-- the module's facts, over the base: the heap at the law's entry without what is tracked there -/
structure Mod (K : PySem.W.Frag) (mg : Str → Option Value) (base : Heap) : Prop where
  kin : K.In base
  glob : base.Ns mainGlobals mg
  blt : ∃ mb, base.Ns builtinsNs mb ∧ ∀ x : Str, x ≠ "__name__" → mb x = bootBuiltins x
  nolimit : base.NoLimit

/-- the context: a def's body (or a comprehension's block) running. base: fixed through the whole law; s₀, H₀: the entry; outer: the frames whose slots others may change (a def's callers); stack: all frames that run;
   ex: iterators that were made ahead of the entry and are walked here (a comprehension's); fn: the names whose cells were made at the entry (a def: all; a comprehension's block: its own); calm: not within an except suite; pn: pins that every state bears; xe: what is wanted of an exception that leaves the code -/
structure Cx where
  prog : Program
  w : World
  K : PySem.W.Frag
  mg : Str → Option Value
  base : Heap
  A : Around
  N : List Str
  s₀ : Shared
  H₀ : Hp
  env : Env
  outer : List Env
  stack : List Env
  ex : List Addr
  fn : Str → Bool
  calm : Bool
  pn : List (Addr × Obj)
  xe : Value → Shared → Prop
  sg : List (Addr × Obj) → List (Option V) → Prop := fun _ _ => True
/-- the callers' frames -/
def frs (l : List Env) : List Addr := l.filterMap (·.frame)
abbrev Cx.fs (X : Cx) : List Addr := frs X.outer

def Vis (sc : Scope) (x : Str) : Prop := sc.names.lookup x = some .local ∨ sc.names.lookup x = some .cell ∨ sc.names.lookup x = some .free
def Loc (sc : Scope) (x : Str) : Prop := sc.names.lookup x = some .local ∨ sc.names.lookup x = some .cell
def Look (env : Env) (h : Heap) (m : Str → Option Value) (x : Str) (u : Value) : Prop :=
  (env.kindOf x = some .local ∧ m x = some u) ∨ ((env.kindOf x = some .cell ∨ env.kindOf x = some .free) ∧ ∃ c, env.cells.lookup x = some c ∧ h.IsCell c (some u))

structure Cx.Ok (X : Cx) : Prop where
  mod : Mod X.K X.mg X.base
  kind : X.env.scope.kind = .function
  glob : X.env.globals = mainGlobals
  blt : X.env.builtins = builtinsNs
  above : X.s₀.heap.objs.size ≤ X.env.locals
  inj : ∀ x y c, X.env.cells.lookup x = some c → X.env.cells.lookup y = some c → x = y
  has : ∀ x, (X.env.kindOf x = some .cell ∨ X.env.kindOf x = some .free) → ∃ c, X.env.cells.lookup x = some c
  cab : ∀ x c, X.fn x = true → X.env.cells.lookup x = some c → X.s₀.heap.objs.size ≤ c
  hd : X.calm = true → X.A.handled = none
  frames : X.A.frames = some X.stack
  stk : X.stack = X.outer ∨ (X.stack = X.env :: X.outer ∧ X.env.frame = some X.env.locals)
  exf : ∀ b ∈ X.ex, b ≠ X.env.locals ∧ ∀ x c, X.env.cells.lookup x = some c → c ≠ b
  bs : ∀ b o, X.base.get? b = some o → X.s₀.heap.get? b = some o ∧ X.H₀ b = none
  bsz : X.base.objs.size ≤ X.s₀.heap.objs.size
  noex : ∀ b o, X.base.get? b = some o → b ∉ X.ex
  exfs : ∀ b ∈ X.ex, b ∉ X.fs
  funs : X.s₀.heap.FunFrames X.base X.outer
  frf : ∀ b ∈ X.fs, X.H₀ b = none

structure Inv (X : Cx) (pins : List (Addr × Obj)) (σ : List (Option V)) (H : Hp) (s : Shared) : Prop where
  ok : X.Ok
  os : s.os = X.s₀.os
  bare : AllBare s.gens
  base : Un X.fs X.ex X.H₀ H X.s₀.heap s.heap
  loc : ∃ m, s.heap.Ns X.env.locals m ∧ ∀ (i : Nat) (x : Str) (v : V), X.N[i]? = some x → σ[i]? = some (some v) → Vis X.env.scope x → ∃ u, RelV v u ∧ Look X.env s.heap m x u
  cell : ∀ x c, X.env.cells.lookup x = some c → ∃ v, s.heap.IsCell c v
  free : H X.env.locals = none
  freeC : ∀ x c, X.env.cells.lookup x = some c → H c = none
  pin : ∀ p ∈ X.pn ++ pins, s.heap.get? p.1 = some p.2 ∧ H p.1 = none ∧ p.1 ≠ X.env.locals ∧ p.1 ∉ X.fs ∧ ∀ v, p.2.data ≠ .cell v
  hok : HOk X.prog X.w H s.heap
  len : σ.length = X.N.length
  sgm : X.sg pins σ

section
variable {X : Cx} {pins : List (Addr × Obj)} {σ : List (Option V)} {H H' : Hp} {s : Shared} {h' : Heap}

theorem Cx.Ok.nofr (ok : X.Ok) {b : Addr} {o : Obj} (e : X.base.get? b = some o) : b ∉ X.fs := fun hb => by
  have := (ok.funs.mem hb).1
  rw [e] at this; cases this
theorem Inv.bs (I : Inv X pins σ H s) : ∀ b o, X.base.get? b = some o → s.heap.get? b = some o ∧ H b = none := fun b o e =>
  ⟨I.base.keep b o (I.ok.bs b o e).1 (I.ok.bs b o e).2 (I.ok.nofr e) (I.ok.noex b o e), I.base.free b o (I.ok.bs b o e).1 (I.ok.bs b o e).2 (I.ok.noex b o e)⟩
theorem Inv.bk (I : Inv X pins σ H s) : ∀ b o, X.base.get? b = some o → s.heap.get? b = some o := fun b o e => (I.bs b o e).1
theorem Inv.mod (I : Inv X pins σ H s) : Mod X.K X.mg X.base := I.ok.mod
theorem Inv.kIn (I : Inv X pins σ H s) : X.K.In s.heap := I.ok.mod.kin.keeps I.bk
theorem Inv.nolimit (I : Inv X pins σ H s) : s.heap.NoLimit := I.ok.mod.nolimit.keeps I.bk
/-- the frame over the base: for OpenK's rules (K.In X.base is I.mod.kin) -/
theorem Inv.fr (I : Inv X pins σ H s) : ∃ m, Fr X.base X.env.locals s.heap m :=
  let ⟨m, hn, _⟩ := I.loc
  ⟨m, hn, I.bk, Nat.le_trans I.ok.bsz I.ok.above⟩
theorem Inv.lt (I : Inv X pins σ H s) : X.env.locals < s.heap.objs.size := let ⟨_, hn, _⟩ := I.loc; hn.lt
theorem Inv.sz (I : Inv X pins σ H s) : X.s₀.heap.objs.size ≤ s.heap.objs.size := Nat.le_trans I.ok.above (Nat.le_of_lt I.lt)
theorem Inv.nofs (I : Inv X pins σ H s) {a : Addr} (h : s.heap.objs.size ≤ a) : a ∉ X.fs := fun hb => by
  obtain ⟨_, o, ho, _⟩ := I.ok.funs.mem hb
  exact absurd (Nat.lt_of_lt_of_le (Heap.lt_size ho) (Nat.le_trans I.sz h)) (Nat.lt_irrefl _)
theorem Inv.cne (I : Inv X pins σ H s) : ∀ x c, X.env.cells.lookup x = some c → c ≠ X.env.locals := fun x c e z => by
  obtain ⟨v, o, ho, hd⟩ := I.cell x c e
  obtain ⟨m, ⟨o', es, ep, ho', hd', _⟩, _⟩ := I.loc
  rw [z, ho'] at ho; cases ho; rw [hd'] at hd; cases hd
theorem Inv.funs (I : Inv X pins σ H s) : s.heap.FunFrames X.base X.outer := by
  have all : ∀ (l : List Env), (∀ b ∈ frs l, b ∈ X.fs) → X.s₀.heap.FunFrames X.base l → s.heap.FunFrames X.base l := by
    intro l
    induction l with
    | nil => intro _ _; trivial
    | cons env r ih =>
      intro hs hl
      obtain ⟨hk, ⟨L, o, hf, hn, ho, hd⟩, hr⟩ := hl
      have hL : L ∈ X.fs := hs L (by unfold frs; rw [List.filterMap_cons, hf]; exact List.mem_cons_self)
      obtain ⟨sl, e⟩ := I.base.slot L o ho (I.ok.frf L hL) hL fun z => I.ok.exfs L z hL
      exact ⟨hk, ⟨L, _, hf, hn, e, hd⟩, ih (fun b hb => hs b (by unfold frs; rw [List.filterMap_cons, hf]; exact List.mem_cons_of_mem _ hb)) hr⟩
  exact all X.outer (fun _ hb => hb) I.ok.funs

/-- the frames that run, for a call -/
theorem Inv.stack (I : Inv X pins σ H s) : s.heap.FunFrames X.base X.stack := by
  rcases I.ok.stk with e | ⟨e, hf⟩
  · rw [e]; exact I.funs
  · rw [e]
    obtain ⟨m, hn, _⟩ := I.loc
    refine .cons (by rw [I.ok.kind]; decide) hf hn ?_ I.funs
    exact Heap.get?_none_of_le (Nat.le_trans I.ok.bsz I.ok.above)
theorem Inv.stkSub (I : Inv X pins σ H s) : ∀ b ∈ frs X.stack, b ∈ X.env.locals :: X.fs := fun b hb => by
  rcases I.ok.stk with e | ⟨e, hf⟩
  · rw [e] at hb; exact List.mem_cons_of_mem _ hb
  · rw [e] at hb
    unfold frs at hb
    rw [List.filterMap_cons, hf] at hb
    exact hb
theorem Inv.stkFree (I : Inv X pins σ H s) : ∀ b ∈ frs X.stack, H b = none := fun b hb => by
  rcases List.mem_cons.mp (I.stkSub b hb) with e | hb
  · rw [e]; exact I.free
  · obtain ⟨_, o, ho, _⟩ := I.ok.funs.mem hb
    exact I.base.free b o ho (I.ok.frf b hb) fun z => I.ok.exfs b z hb

/-- THE STEP: the untracked objects but the frame and the records at ch are kept (the callers' frames up to slots), the frame's map is kept, the new abstract heap is held -/
theorem Inv.step {g' : Array GenState} {t' : Nat} {d' : Drawn} {ch : List Addr} (I : Inv X pins σ H s)
    (hch : ∀ b ∈ ch, (b ∈ X.ex ∨ X.s₀.heap.get? b = none) ∧ b ≠ X.env.locals ∧ (∀ x c, X.env.cells.lookup x = some c → c ≠ b) ∧ ∀ p ∈ X.pn ++ pins, p.1 ≠ b)
    (keep : ∀ b o, b ≠ X.env.locals → b ∉ X.fs → b ∉ ch → s.heap.get? b = some o → H b = none → h'.get? b = some o)
    (slot : ∀ b o, b ≠ X.env.locals → b ∈ X.fs → b ∉ ch → s.heap.get? b = some o → H b = none → ∃ sl, h'.get? b = some { o with slots := sl }) (free : ∀ b o, b ∉ ch → s.heap.get? b = some o → H b = none → H' b = none)
    (there : ∀ b o, b ∉ ch → s.heap.get? b = some o → ∃ o', h'.get? b = some o')
    (tups : ∀ b xs, H b = some (.tup xs) → H' b = some (.tup xs)) (frzs : ∀ b o u, H b = some (.frz o u) → H' b = some (.frz o u)) (tbls : ∀ b ps, H b = some (.tbl ps) → ∃ more, H' b = some (.tbl (ps ++ more)))
    (ns : ∀ m, s.heap.Ns X.env.locals m → h'.Ns X.env.locals m) (hok : HOk X.prog X.w H' h') (hg : AllBare g') :
    Inv X pins σ H' { s with heap := h', gens := g', drawn := d', toks := t' } := by
  have neL : ∀ b o, X.s₀.heap.get? b = some o → b ≠ X.env.locals := fun b o e => Nat.ne_of_lt (Nat.lt_of_lt_of_le (Heap.lt_size e) I.ok.above)
  have neC : ∀ b o, X.s₀.heap.get? b = some o → b ∉ X.ex → b ∉ ch := fun b o e hx hb => by
    rcases (hch b hb).1 with z | z
    · exact hx z
    · rw [z] at e; cases e
  have cellK : ∀ x c, X.env.cells.lookup x = some c → ∀ v, s.heap.IsCell c v → h'.IsCell c v := fun x c e v ⟨o, ho, hd⟩ => by
    have nch : c ∉ ch := fun z => (hch c z).2.2.1 x c e rfl
    by_cases hc : c ∈ X.fs
    · obtain ⟨sl, q⟩ := slot c o (I.cne x c e) hc nch ho (I.freeC x c e)
      exact ⟨_, q, hd⟩
    · exact ⟨o, keep c o (I.cne x c e) hc nch ho (I.freeC x c e), hd⟩
  refine ⟨I.ok, I.os, hg, ⟨fun b o e n hb hx => ?_, fun b o e n hb hx => ?_, fun b o e n hx => ?_, fun b o e hx => ?_, fun b xs e => tups b xs (I.base.tups b xs e), fun b o xs e => frzs b o xs (I.base.frzs b o xs e), fun b ps e => ?_⟩, ?_, fun x c e => ?_, ?_, fun x c e => ?_, fun p hp => ?_, hok, I.len, I.sgm⟩
  · exact keep b o (neL b o e) hb (neC b o e hx) (I.base.keep b o e n hb hx) (I.base.free b o e n hx)
  · obtain ⟨sl, e1⟩ := I.base.slot b o e n hb hx
    obtain ⟨sl', e2⟩ := slot b _ (neL b o e) hb (neC b o e hx) e1 (I.base.free b o e n hx)
    exact ⟨sl', e2⟩
  · obtain ⟨o', e1⟩ := I.base.there b o e hx
    exact free b o' (neC b o e hx) e1 (I.base.free b o e n hx)
  · obtain ⟨o', e1⟩ := I.base.there b o e hx
    exact there b o' (neC b o e hx) e1
  · obtain ⟨m1, e1⟩ := I.base.tbls b ps e
    obtain ⟨m2, e2⟩ := tbls b _ e1
    exact ⟨m1 ++ m2, by rw [e2, Array.append_assoc]⟩
  · obtain ⟨m, hn, hl⟩ := I.loc
    refine ⟨m, ns m hn, fun i x v e1 e2 e3 => ?_⟩
    obtain ⟨u, r, l⟩ := hl i x v e1 e2 e3
    refine ⟨u, r, ?_⟩
    rcases l with l | ⟨k, c, e, z⟩
    · exact .inl l
    · exact .inr ⟨k, c, e, cellK x c e _ z⟩
  · obtain ⟨v, z⟩ := I.cell x c e
    exact ⟨v, cellK x c e v z⟩
  · obtain ⟨m, ⟨o, _, _, ho, _⟩, _⟩ := I.loc
    exact free _ o (fun z => (hch _ z).2.1 rfl) ho I.free
  · obtain ⟨v, o, ho, hd⟩ := I.cell x c e
    exact free c o (fun z => (hch c z).2.2.1 x c e rfl) ho (I.freeC x c e)
  · obtain ⟨e, n, ne, nf, d⟩ := I.pin p hp
    have nch : p.1 ∉ ch := fun z => (hch p.1 z).2.2.2 p hp rfl
    exact ⟨keep p.1 p.2 ne nf nch e n, free p.1 p.2 nch e n, ne, nf, d⟩
/-- .. where the frame's own object is kept too -/
theorem Inv.un {t' : Nat} (I : Inv X pins σ H s) (u : Un X.fs [] H H' s.heap h') (hok : HOk X.prog X.w H' h') : Inv X pins σ H' { s with heap := h', toks := t' } := by
  obtain ⟨m, ⟨o, es, ep, ho, r⟩, _⟩ := id I.loc
  obtain ⟨sl, hL⟩ := u.any ho I.free (by simp)
  exact I.step (g' := s.gens) (d' := s.drawn) (ch := []) (fun _ z => nomatch z) (fun b o _ hb _ e n => u.keep b o e n hb (by simp)) (fun b o _ hb _ e n => u.slot b o e n hb (by simp)) (fun b o _ e n => u.free b o e n (by simp)) (fun b o _ e => u.there b o e (by simp)) u.tups u.frzs u.tbls (fun m' hm => by
    obtain ⟨o', es', ep', ho', r'⟩ := hm
    rw [ho] at ho'; cases ho'
    exact ⟨_, es', ep', hL, r'⟩) hok I.bare
/-- behind a call (or a comprehension's block): the slots of this frame may have changed too, the records at ch may have turned -/
theorem Inv.call {g' : Array GenState} {t' : Nat} {d' : Drawn} {ch : List Addr} (I : Inv X pins σ H s) (u : Un (frs X.stack) ch H H' s.heap h') (hok : HOk X.prog X.w H' h') (hg : AllBare g')
    (hch : ∀ b ∈ ch, (b ∈ X.ex ∨ X.s₀.heap.get? b = none) ∧ b ≠ X.env.locals ∧ (∀ x c, X.env.cells.lookup x = some c → c ≠ b) ∧ ∀ p ∈ X.pn ++ pins, p.1 ≠ b) :
    Inv X pins σ H' { s with heap := h', gens := g', drawn := d', toks := t' } := by
  obtain ⟨m, ⟨o, es, ep, ho, r⟩, _⟩ := id I.loc
  obtain ⟨sl, hL⟩ := u.any ho I.free fun z => (hch _ z).2.1 rfl
  exact I.step (ch := ch) hch (fun b o hL hb hc e n => u.keep b o e n (fun z => (List.mem_cons.mp (I.stkSub b z)).elim hL hb) hc) (fun b o _ _ hc e n => u.any e n hc) (fun b o hc e n => u.free b o e n hc) (fun b o hc e => u.there b o e hc) u.tups u.frzs u.tbls (fun m' hm => by
    obtain ⟨o', es', ep', ho', r'⟩ := hm
    rw [ho] at ho'; cases ho'
    exact ⟨_, es', ep', hL, r'⟩) hok hg
/-- an untracked record of ours (an iterator) has turned -/
theorem Inv.turned {t' : Nat} {it : Addr} (I : Inv X pins σ H s) (k : ∀ b o, b ≠ it → s.heap.get? b = some o → h'.get? b = some o) (hn : H it = none) (hL : it ≠ X.env.locals)
    (h1 : it ∈ X.ex ∨ X.s₀.heap.objs.size ≤ it) (h2 : ∀ x c, X.env.cells.lookup x = some c → c ≠ it) (h3 : ∀ p ∈ X.pn ++ pins, p.1 ≠ it) : Inv X pins σ H { s with heap := h', toks := t' } := by
  have nit : ∀ b u, H b = some u → b ≠ it := fun b u e z => by rw [z, hn] at e; cases e
  refine I.step (g' := s.gens) (d' := s.drawn) (ch := [it]) (fun b hb => ?_) (fun b o _ _ hc e _ => k b o (fun z => hc (by simp [z])) e) (fun b o _ _ hc e _ => ⟨o.slots, k b o (fun z => hc (by simp [z])) e⟩) (fun _ _ _ _ n => n)
    (fun b o hc e => ⟨o, k b o (fun z => hc (by simp [z])) e⟩) (fun _ _ e => e) (fun _ _ _ e => e) (fun b ps e => ⟨#[], by rw [e]; simp⟩) (fun m hm => ?_) (fun b u e => ?_) I.bare
  · have e : b = it := by simpa using hb
    subst e
    exact ⟨h1.imp id Heap.get?_none_of_le, hL, h2, h3⟩
  · obtain ⟨o, es, ep, ho, r⟩ := hm
    exact ⟨o, es, ep, k _ o (Ne.symm hL) ho, r⟩
  · refine (I.hok b u e).stay (fun c v hc q => k c v ?_ q) (fun _ q => q) fun _ _ q => q
    rcases hc with z | z
    · rw [z]; exact nit b u e
    · exact nit c _ z
theorem Inv.tok (I : Inv X pins σ H s) (t : Nat) : Inv X pins σ H { s with toks := t } := I.un (h' := s.heap) (t' := t) Un.refl I.hok
/-- all objects kept -/
theorem Inv.kept {t' : Nat} (I : Inv X pins σ H s) (k : ∀ b u, s.heap.get? b = some u → h'.get? b = some u) : Inv X pins σ H { s with heap := h', toks := t' } := I.un (Un.kept k) (I.hok.kept k)
/-- a new object laid and tracked -/
theorem Inv.laid {a : Addr} {o : HO} {t' : Nat} (I : Inv X pins σ H s) (k : ∀ b u, s.heap.get? b = some u → h'.get? b = some u) (hp : s.heap.objs.size ≤ a) (new : ObjOk X.prog X.w (upd H a o) h' a o) :
    Inv X pins σ (upd H a o) { s with heap := h', toks := t' } := I.un (Un.laid k hp (I.hok.fresh hp)) (I.hok.laid k hp new)
/-- an object written -/
theorem Inv.write {x e : Addr} {o : HO} {t' : Nat} (I : Inv X pins σ H s) (mu : Mut (H x)) (he : e = x ∨ H e = some (.own x)) (k : ∀ b u, b ≠ e → s.heap.get? b = some u → h'.get? b = some u) (heo : ∃ u, h'.get? e = some u)
    (new : ObjOk X.prog X.w (upd H x o) h' x o) : Inv X pins σ (upd H x o) { s with heap := h', toks := t' } := I.un (Un.write mu he k heo) (I.hok.write mu he k heo new)
theorem Inv.pins_of {pins' : List (Addr × Obj)} (I : Inv X pins σ H s) (h : ∀ p ∈ pins', s.heap.get? p.1 = some p.2 ∧ H p.1 = none ∧ p.1 ≠ X.env.locals ∧ p.1 ∉ X.fs ∧ ∀ v, p.2.data ≠ .cell v) (hsg : X.sg pins' σ) : Inv X pins' σ H s :=
  ⟨I.ok, I.os, I.bare, I.base, I.loc, I.cell, I.free, I.freeC, fun p hp => (List.mem_append.mp hp).elim (fun z => I.pin p (List.mem_append_left _ z)) (h p), I.hok, I.len, hsg⟩

theorem nodup_ix {N : List Str} (hN : N.Nodup) {i j : Nat} {x : Str} (a : N[i]? = some x) (b : N[j]? = some x) : i = j := by
  obtain ⟨h1, e1⟩ := List.getElem?_eq_some_iff.mp a
  obtain ⟨h2, e2⟩ := List.getElem?_eq_some_iff.mp b
  exact (List.getElem_inj hN).mp (e1.trans e2.symm)

/-- a name is stored; what changed -/
theorem store_ok2 {M : Model} {A : Around} {E : Value → Shared → Prop} {i : Nat} {x : Str} {v : V} {u : Value} {Q : Unit → Shared → Prop} (I : Inv X pins σ H s) (hN : X.N.Nodup) (hi : X.N[i]? = some x) (hx : Loc X.env.scope x) (r : RelV v u)
    (h : ∀ s', Inv X pins (σ.set i (some v)) H s' → (∃ a, Heap.SameBut a s.heap s'.heap ∧ (a = X.env.locals ∨ X.env.cells.lookup x = some a)) → Q () s') (hf : X.fn x = true ∨ X.env.scope.names.lookup x = some .local := by first | exact .inl rfl | exact .inr rfl | assumption) (hsg : ∀ p σ v, X.sg p σ → X.sg p (σ.set i (some v)) := by first | exact fun _ _ _ _ => trivial | assumption) : wpAny M A (storeName X.env x u) Q E s := by
  obtain ⟨m, hn, hl⟩ := id I.loc
  have hcls : (X.env.scope.kind == .class || (X.env.scope.kind == .module && X.env.locals != X.env.globals)) = false := by rw [I.ok.kind]; rfl
  have hiσ : i < σ.length := by rw [I.len]; exact (List.getElem?_eq_some_iff.mp hi).1
  have cne := I.cne
  have tracked : ∀ {a : Addr} {h' : Heap}, (∃ o, s.heap.get? a = some o ∧ H a = none) → Heap.SameBut a s.heap h' → HOk X.prog X.w H h' := fun {a h'} ha hs b ob e => by
    obtain ⟨_, _, hfree⟩ := ha
    refine (I.hok b ob e).stay (fun c w' hc q => (hs.2 c ?_).trans q) (fun _ q => q) fun _ _ q => q
    rintro rfl
    rcases hc with rfl | hc
    · rw [hfree] at e; cases e
    · rw [hfree] at hc; cases hc
  rcases hx with hk | hk
  · refine wpAny_storeName_local hk hn (fun h' hn' hs => ?_) hcls
    obtain ⟨oL, _, _, hoL, _⟩ := id hn
    refine h _ ⟨I.ok, I.os, I.bare, ⟨fun b o e n hb hx => ?_, fun b o e n hb hx => ?_, I.base.free, fun b o e hx => ?_, I.base.tups, I.base.frzs, I.base.tbls⟩, ⟨_, hn', fun j y v' e1 e2 e3 => ?_⟩, fun y c e => ?_, I.free, I.freeC, fun p hp => ?_, tracked ⟨oL, hoL, I.free⟩ hs, by simpa using I.len, hsg _ _ _ I.sgm⟩ ⟨_, hs, .inl rfl⟩
    · exact (hs.2 b (Nat.ne_of_lt (Nat.lt_of_lt_of_le (Heap.lt_size e) I.ok.above))).trans (I.base.keep b o e n hb hx)
    · obtain ⟨sl, e1⟩ := I.base.slot b o e n hb hx
      exact ⟨sl, (hs.2 b (Nat.ne_of_lt (Nat.lt_of_lt_of_le (Heap.lt_size e) I.ok.above))).trans e1⟩
    · obtain ⟨o', e1⟩ := I.base.there b o e hx
      exact ⟨o', (hs.2 b (Nat.ne_of_lt (Nat.lt_of_lt_of_le (Heap.lt_size e) I.ok.above))).trans e1⟩
    · by_cases hj : j = i
      · subst hj
        rw [hi] at e1; cases e1
        rw [List.getElem?_set_self hiσ] at e2
        cases e2
        exact ⟨u, r, .inl ⟨hk, by simp⟩⟩
      · rw [List.getElem?_set_ne (Ne.symm hj)] at e2
        obtain ⟨u', r', q⟩ := hl j y v' e1 e2 e3
        refine ⟨u', r', ?_⟩
        rcases q with ⟨k, e⟩ | ⟨k, c, e, z⟩
        · refine .inl ⟨k, ?_⟩
          have : y ≠ x := fun e => hj (nodup_ix hN e1 (e ▸ hi))
          simp [this, e]
        · exact .inr ⟨k, c, e, z.sameBut hs (cne y c e)⟩
    · obtain ⟨w', z⟩ := I.cell y c e
      exact ⟨w', z.sameBut hs (cne y c e)⟩
    · obtain ⟨e, n, ne, nf, d⟩ := I.pin p hp
      exact ⟨(hs.2 p.1 ne).trans e, n, ne, nf, d⟩
  · have hfn : X.fn x = true := by
      rcases hf with z | z
      · exact z
      · rw [z] at hk; cases hk
    obtain ⟨c, hc⟩ := I.ok.has x (.inl hk)
    obtain ⟨w', z⟩ := I.cell x c hc
    refine wpAny_storeName_cell I.ok.kind hk hc z (fun h' hc' hs => ?_)
    obtain ⟨oc, hoc, hocd⟩ := id z
    refine h { s with heap := h' } ⟨I.ok, I.os, I.bare, ⟨fun b o e n hb hx => ?_, fun b o e n hb hx => ?_, I.base.free, fun b o e hx => ?_, I.base.tups, I.base.frzs, I.base.tbls⟩, ⟨m, hn.sameBut hs (Ne.symm (cne x c hc)), fun j y v' e1 e2 e3 => ?_⟩, fun y c' e => ?_, I.free, I.freeC, fun p hp => ?_, tracked ⟨oc, hoc, I.freeC x c hc⟩ hs, by simpa using I.len, hsg _ _ _ I.sgm⟩ ⟨c, hs, .inr hc⟩
    · exact (hs.2 b (Nat.ne_of_lt (Nat.lt_of_lt_of_le (Heap.lt_size e) (I.ok.cab x c hfn hc)))).trans (I.base.keep b o e n hb hx)
    · obtain ⟨sl, e1⟩ := I.base.slot b o e n hb hx
      exact ⟨sl, (hs.2 b (Nat.ne_of_lt (Nat.lt_of_lt_of_le (Heap.lt_size e) (I.ok.cab x c hfn hc)))).trans e1⟩
    · obtain ⟨o', e1⟩ := I.base.there b o e hx
      exact ⟨o', (hs.2 b (Nat.ne_of_lt (Nat.lt_of_lt_of_le (Heap.lt_size e) (I.ok.cab x c hfn hc)))).trans e1⟩
    · by_cases hj : j = i
      · subst hj
        rw [hi] at e1; cases e1
        rw [List.getElem?_set_self hiσ] at e2
        cases e2
        exact ⟨u, r, .inr ⟨.inl hk, c, hc, hc'⟩⟩
      · rw [List.getElem?_set_ne (Ne.symm hj)] at e2
        obtain ⟨u', r', q⟩ := hl j y v' e1 e2 e3
        refine ⟨u', r', ?_⟩
        rcases q with q | ⟨k, c', e, z'⟩
        · exact .inl q
        · refine .inr ⟨k, c', e, z'.sameBut hs ?_⟩
          rintro rfl
          exact hj (nodup_ix hN e1 (I.ok.inj _ _ _ e hc ▸ hi))
    · by_cases hcc : c' = c
      · subst hcc; exact ⟨_, hc'⟩
      · obtain ⟨w2, z2⟩ := I.cell y c' e
        exact ⟨w2, z2.sameBut hs hcc⟩
    · obtain ⟨e, n, ne, nf, d⟩ := I.pin p hp
      refine ⟨(hs.2 p.1 ?_).trans e, n, ne, nf, d⟩
      intro q
      rw [q, hoc] at e
      have q' : oc = p.2 := Option.some.inj e
      exact d w' (by rw [← q']; exact hocd)
theorem store_ok {M : Model} {A : Around} {E : Value → Shared → Prop} {i : Nat} {x : Str} {v : V} {u : Value} {Q : Unit → Shared → Prop} (I : Inv X pins σ H s) (hN : X.N.Nodup) (hi : X.N[i]? = some x) (hx : Loc X.env.scope x) (r : RelV v u)
    (h : ∀ s', Inv X pins (σ.set i (some v)) H s' → Q () s') (hf : X.fn x = true ∨ X.env.scope.names.lookup x = some .local := by first | exact .inl rfl | exact .inr rfl | assumption) (hsg : ∀ p σ v, X.sg p σ → X.sg p (σ.set i (some v)) := by first | exact fun _ _ _ _ => trivial | assumption) : wpAny M A (storeName X.env x u) Q E s :=
  store_ok2 I hN hi hx r (fun s' I' _ => h s' I') hf hsg
/-- behind a call or a block, the state as it is -/
theorem Inv.call' {s' : Shared} {ch : List Addr} (I : Inv X pins σ H s) (ho : s'.os = s.os) (u : Un (frs X.stack) ch H H' s.heap s'.heap) (hok : HOk X.prog X.w H' s'.heap) (hg : AllBare s'.gens)
    (hch : ∀ b ∈ ch, (b ∈ X.ex ∨ X.s₀.heap.get? b = none) ∧ b ≠ X.env.locals ∧ (∀ x c, X.env.cells.lookup x = some c → c ≠ b) ∧ ∀ p ∈ X.pn ++ pins, p.1 ≠ b) : Inv X pins σ H' s' := by
  obtain ⟨h', g', d', t', o'⟩ := s'
  have e : o' = s.os := ho
  subst e
  exact I.call (g' := g') (t' := t') (d' := d') u hok hg hch
end

/-! ### the judgements -/
/-- an exception: its class, its own dict's address (where it has one), the abstract heap behind it -/
abbrev XK := Value → Option Addr → Hp → Prop
abbrev St := List (Option V)
abbrev VK := V → Hp → Prop
/-- an expression's reading; a test's; an argument list's -/
abbrev TE := St → Hp → VK → Prop
abbrev TT := St → Hp → (Bool → Hp → Prop) → Prop
abbrev TA := St → Hp → (List V → Hp → Prop) → Prop
/-- what is wanted behind a statement -/
structure Ends where
  nx : St → Hp → Prop
  rt : VK
  bk : St → Hp → Prop := fun _ _ => False
  ct : St → Hp → Prop := fun _ _ => False
abbrev TS := Ends → St → Hp → Prop

def EP (X : Cx) (pins : List (Addr × Obj)) (σ : St) (Q : VK) (u : Value) (s' : Shared) : Prop := ∃ v H', Inv X pins σ H' s' ∧ RelV v u ∧ Q v H'
def TP (X : Cx) (pins : List (Addr × Obj)) (σ : St) (Q : Bool → Hp → Prop) (b : Bool) (s' : Shared) : Prop := ∃ H', Inv X pins σ H' s' ∧ Q b H'
def AP (X : Cx) (pins : List (Addr × Obj)) (σ : St) (Q : List V → Hp → Prop) (us : List Value) (s' : Shared) : Prop := ∃ vs H', Inv X pins σ H' s' ∧ Vals vs us ∧ Q vs H'
def SP (X : Cx) (pins : List (Addr × Obj)) (D : Ends) (f : Flow) (s' : Shared) : Prop :=
  match f with
  | .next => ∃ σ' H', Inv X pins σ' H' s' ∧ D.nx σ' H'
  | .brk => ∃ σ' H', Inv X pins σ' H' s' ∧ D.bk σ' H'
  | .cont => ∃ σ' H', Inv X pins σ' H' s' ∧ D.ct σ' H'
  | .ret u => ∃ v σ' H', Inv X pins σ' H' s' ∧ RelV v u ∧ D.rt v H'

def PE (X : Cx) (e : Expr) (t : TE) : Prop :=
  ∀ (pins : List (Addr × Obj)) (s : Shared) (σ : St) (H : Hp) (Q : VK), Inv X pins σ H s → t σ H Q → wpAny (model X.prog X.w) X.A (eval e X.env) (EP X pins σ Q) X.xe s
def PT (X : Cx) (e : Expr) (t : TT) : Prop :=
  ∀ (pins : List (Addr × Obj)) (s : Shared) (σ : St) (H : Hp) (Q : Bool → Hp → Prop), Inv X pins σ H s → t σ H Q → wpAny (model X.prog X.w) X.A (isTrue e X.env (eval e X.env)) (TP X pins σ Q) X.xe s
/-- a test whatever its 'whole' is (and, or) -/
def PW (X : Cx) (e : Expr) (t : TT) : Prop :=
  ∀ (whole : Sem Value) (pins : List (Addr × Obj)) (s : Shared) (σ : St) (H : Hp) (Q : Bool → Hp → Prop), Inv X pins σ H s → t σ H Q → wpAny (model X.prog X.w) X.A (isTrue e X.env whole) (TP X pins σ Q) X.xe s
theorem PW.pt {X : Cx} {e : Expr} {t : TT} (h : PW X e t) : PT X e t := h _
/-- an argument list (no star), from the left -/
def PA (X : Cx) (es : List Expr) (t : TA) : Prop :=
  ∀ (pos : Pos) (pins : List (Addr × Obj)) (s : Shared) (σ : St) (H : Hp) (Q : List V → Hp → Prop), Inv X pins σ H s → t σ H Q → wpAny (model X.prog X.w) X.A (spliced (backTo pos (starEach es X.env))) (AP X pins σ Q) X.xe s
def PS (X : Cx) (st : Stmt) (t : TS) : Prop :=
  ∀ (pins : List (Addr × Obj)) (s : Shared) (σ : St) (H : Hp) (D : Ends), Inv X pins σ H s → t D σ H → wpAny (model X.prog X.w) X.A (exec st X.env) (SP X pins D) X.xe s
def PSs (X : Cx) (st : List Stmt) (t : TS) : Prop :=
  ∀ (pins : List (Addr × Obj)) (s : Shared) (σ : St) (H : Hp) (D : Ends), Inv X pins σ H s → t D σ H → wpAny (model X.prog X.w) X.A (execs st X.env) (SP X pins D) X.xe s
/-- weaken the end -/
theorem thn {α : Type} {t : Sem α} {Q Q' : α → Shared → Prop} {M : Model} {A : Around} {E : Value → Shared → Prop} {s : Shared} (h : wpAny M A t Q E s) (hQ : ∀ a s, Q a s → Q' a s) : wpAny M A t Q' E s := wpAny_mono h hQ fun _ _ x => x
end L2

namespace L2
open PySem PySem.Spec PyProof.Rows
section
variable {X : Cx}

/-! ### names and constants -/
def tVar (i : Nat) : TE := fun σ H Q => ∃ v, σ[i]? = some (some v) ∧ Q v H
def tC (v : V) : TE := fun _ H Q => Q v H
theorem pe_var {i : Nat} {x : Str} {pos : Pos} (hN : X.N[i]? = some x) (hv : Vis X.env.scope x) (hd : (x == ("__debug__" : Str)) = false := by decide) (hcd : (x == ("__classdict__" : Str)) = false := by decide) : PE X (.Name x pos) (tVar i) := by
  intro pins s σ H Q I h
  obtain ⟨v, e, h⟩ := h
  obtain ⟨m, hn, hl⟩ := I.loc
  obtain ⟨u, r, l⟩ := hl i x v hN e hv
  have fin : EP X pins σ Q u s := ⟨v, H, I, r, h⟩
  rcases l with ⟨hk, hm⟩ | ⟨hk, c, hc, hcell⟩
  · exact wpAny_Name (wpAny_loadName_local I.ok.kind hk hn hm fin) hd
  · rcases hk with hk | hk
    · exact wpAny_Name (wpAny_loadName_cell I.ok.kind hk hc hcell fin) hd
    · exact wpAny_Name (wpAny_loadName_free I.ok.kind hk hc hcell fin hcd) hd
theorem pe_int {i j pos} : PE X (.Constant (.int i) j pos) (tC (.int i)) := fun _ _ _ H _ I h => wpAny_Constant_int ⟨.int i, H, I.tok _, ⟨_, rfl⟩, h⟩
theorem pe_bl {b j pos} : PE X (.Constant (.bool b) j pos) (tC (.bl b)) := fun _ _ _ H _ I h => Constant_bool ⟨.bl b, H, I, rfl, h⟩
theorem pe_non {j pos} : PE X (.Constant .none j pos) (tC .non) := fun _ _ _ H _ I h => Constant_none ⟨.non, H, I, rfl, h⟩
theorem pe_str {x j pos} : PE X (.Constant (.str x) j pos) (tC (.str x)) := fun _ _ _ H _ I h => Calls.Constant_str ⟨.str x, H, I.tok _, ⟨_, rfl⟩, h⟩

/-- a global name of the def -/
def Gl (X : Cx) (x : Str) : Prop := X.env.kindOf x = some .globalImplicit
theorem ld_glob {E : Value → Shared → Prop} {pins : List (Addr × Obj)} {s : Shared} {σ : St} {H : Hp} {x : Str} {u : Value} {pos : Pos} {Q : Value → Shared → Prop} (I : Inv X pins σ H s) (hg : Gl X x) (hm : X.mg x = some u) (h : Q u s)
    (hd : (x == ("__debug__" : Str)) = false := by decide) : wpAny (model X.prog X.w) X.A (eval (.Name x pos) X.env) Q E s :=
  Calls.Name_function_global I.ok.kind hg (Calls.loadGlobal_global (by rw [I.ok.glob]; exact I.mod.glob.keeps I.bk) hm h) hd
theorem ld_blt {E : Value → Shared → Prop} {pins : List (Addr × Obj)} {s : Shared} {σ : St} {H : Hp} {x : Str} {u : Value} {pos : Pos} {Q : Value → Shared → Prop} (I : Inv X pins σ H s) (hg : Gl X x) (hm : X.mg x = none) (hv : bootBuiltins x = some u) (h : Q u s)
    (hn : x ≠ "__name__" := by decide) (hd : (x == ("__debug__" : Str)) = false := by decide) : wpAny (model X.prog X.w) X.A (eval (.Name x pos) X.env) Q E s := by
  obtain ⟨mb, h1, h2⟩ := I.mod.blt
  exact Calls.Name_function_global I.ok.kind hg (Calls.loadGlobal_builtin (by rw [I.ok.glob]; exact I.mod.glob.keeps I.bk) hm (by rw [I.ok.blt]; exact h1.keeps I.bk) ((h2 x hn).trans hv) h) hd
/-- a module's constant, a class, a function, as a value -/
theorem pe_glob {x : Str} {v : V} {u : Value} {pos : Pos} (hg : Gl X x) (hm : X.mg x = some u) (r : RelV v u) (hd : (x == ("__debug__" : Str)) = false := by decide) : PE X (.Name x pos) (tC v) :=
  fun _ _ _ H _ I h => ld_glob I hg hm ⟨v, H, I, r, h⟩ hd
theorem pe_bltn {x : Str} {v : V} {u : Value} {pos : Pos} (hg : Gl X x) (hm : X.mg x = none) (hv : bootBuiltins x = some u) (r : RelV v u) (hn : x ≠ "__name__" := by decide) (hd : (x == ("__debug__" : Str)) = false := by decide) : PE X (.Name x pos) (tC v) :=
  fun _ _ _ H _ I h => ld_blt I hg hm hv ⟨v, H, I, r, h⟩ hn hd

/-! ### arithmetic -/
variable {a b : Expr} {ta tb : TE} {pos : Pos}
/-! ### comparisons -/
/-! ### and, or, not -/
variable {tA tB' : TT} {rest : List Expr}
def tAnd (t u : TT) : TT := fun σ H Q => t σ H fun c H1 => if c = true then u σ H1 Q else Q false H1
def tOr (t u : TT) : TT := fun σ H Q => t σ H fun c H1 => if c = true then Q true H1 else u σ H1 Q
def tNot (t : TT) : TT := fun σ H Q => t σ H fun c H1 => Q (!c) H1
theorem pw_and1 (ha : PT X a tA) : PW X (.BoolOp .And [a] pos) tA := by
  intro wh pins s σ H Q I h
  refine isTrue_and (thn (ha pins s σ H Q I h) fun c s1 e => ?_)
  cases c with
  | true => exact isTrue_and_nil e
  | false => exact e
theorem pw_or1 (ha : PT X a tA) : PW X (.BoolOp .Or [a] pos) tA := by
  intro wh pins s σ H Q I h
  refine isTrue_or (thn (ha pins s σ H Q I h) fun c s1 e => ?_)
  cases c with
  | false => exact isTrue_or_nil e
  | true => exact e
theorem pw_and (ha : PT X a tA) (hb : PW X (.BoolOp .And (b :: rest) pos) tB') : PW X (.BoolOp .And (a :: b :: rest) pos) (tAnd tA tB') := by
  intro wh pins s σ H Q I h
  refine isTrue_and (thn (ha pins s σ H _ I h) fun c s1 ⟨H1, I1, q1⟩ => ?_)
  cases c with
  | true => exact hb wh pins s1 σ H1 Q I1 q1
  | false => exact ⟨H1, I1, q1⟩
theorem pw_or (ha : PT X a tA) (hb : PW X (.BoolOp .Or (b :: rest) pos) tB') : PW X (.BoolOp .Or (a :: b :: rest) pos) (tOr tA tB') := by
  intro wh pins s σ H Q I h
  refine isTrue_or (thn (ha pins s σ H _ I h) fun c s1 ⟨H1, I1, q1⟩ => ?_)
  cases c with
  | true => exact ⟨H1, I1, q1⟩
  | false => exact hb wh pins s1 σ H1 Q I1 q1
theorem pt_not (ha : PT X a tA) : PT X (.UnaryOp .Not a pos) (tNot tA) := by
  intro pins s σ H Q I h
  exact isTrue_not (ha pins s σ H (fun c H1 => Q (!c) H1) I h)
/-- .. as values (bools) -/
def tAndV (ta tb : TE) : TE := fun σ H Q => ta σ H fun x H1 => ∃ c, x = .bl c ∧ if c = true then tb σ H1 Q else Q (.bl false) H1
def tOrV (ta tb : TE) : TE := fun σ H Q => ta σ H fun x H1 => ∃ c, x = .bl c ∧ if c = true then Q (.bl true) H1 else tb σ H1 Q
def tNotV (ta : TE) : TE := fun σ H Q => ta σ H fun x H1 => ∃ c, x = .bl c ∧ Q (.bl (!c)) H1
theorem pe_one {op} {t : TE} (h : PE X a t) : PE X (.BoolOp op [a] pos) t := fun pins s σ H Q I hw => BoolOp_one (h pins s σ H Q I hw)
theorem pe_and (ha : PE X a ta) (hb : PE X (.BoolOp .And (b :: rest) pos) tb) : PE X (.BoolOp .And (a :: b :: rest) pos) (tAndV ta tb) := by
  intro pins s σ H Q I h
  refine BoolOp_and (thn (ha pins s σ H _ I h) fun v s1 ⟨x, H1, I1, r1, q1⟩ => ?_)
  obtain ⟨c, rfl, q1⟩ := q1
  cases r1
  refine wpAny_truthy_bool ?_
  cases c with
  | true => exact hb pins s1 σ H1 Q I1 q1
  | false => exact ⟨.bl false, H1, I1, rfl, q1⟩
theorem pe_or (ha : PE X a ta) (hb : PE X (.BoolOp .Or (b :: rest) pos) tb) : PE X (.BoolOp .Or (a :: b :: rest) pos) (tOrV ta tb) := by
  intro pins s σ H Q I h
  refine BoolOp_or (thn (ha pins s σ H _ I h) fun v s1 ⟨x, H1, I1, r1, q1⟩ => ?_)
  obtain ⟨c, rfl, q1⟩ := q1
  cases r1
  refine wpAny_truthy_bool ?_
  cases c with
  | false => exact hb pins s1 σ H1 Q I1 q1
  | true => exact ⟨.bl true, H1, I1, rfl, q1⟩
theorem pe_not (ha : PE X a ta) : PE X (.UnaryOp .Not a pos) (tNotV ta) := by
  intro pins s σ H Q I h
  refine UnaryOp_ (thn (ha pins s σ H _ I h) fun v s1 ⟨x, H1, I1, r1, q1⟩ => ?_)
  obtain ⟨c, rfl, q1⟩ := q1
  cases r1
  exact not_of (wpAny_truthy_bool ⟨.bl (!c), H1, I1, rfl, q1⟩)
/-- a if t else b -/
def tIf (t : TT) (ta tb : TE) : TE := fun σ H Q => t σ H fun c H1 => if c = true then ta σ H1 Q else tb σ H1 Q
theorem pe_ifExp {c : Expr} (hc : PT X c tA) (ha : PE X a ta) (hb : PE X b tb) : PE X (.IfExp c a b pos) (tIf tA ta tb) := by
  intro pins s σ H Q I h
  refine wpAny_IfExp (thn (hc pins s σ H _ I h) fun d s1 ⟨H1, I1, q1⟩ => ?_)
  cases d with
  | true => exact ha pins s1 σ H1 Q I1 q1
  | false => exact hb pins s1 σ H1 Q I1 q1
end
end L2

namespace L2
open PySem PySem.Spec PyProof.Rows

/-! ### a list, a tuple that is read: tracked, frozen, or an object of the module -/
def SqL (K : PySem.W.Frag) (H : Hp) (a : Addr) (xs : List V) : Prop :=
  Rd H a (.lst xs) ∨
    ∃ (o : Obj) (its : Array Value) (n : Nat), K.lookup a = some o ∧ o.cls = .type "list" ∧ (o.dict = none ∧ o.slots = #[]) ∧ o.data = .seq its n ∧ its.size ≤ sizeLine ∧ Vals xs its.toList
def SqT (K : PySem.W.Frag) (H : Hp) (a : Addr) (xs : List V) : Prop :=
  Rd H a (.tup xs) ∨
    ∃ (o : Obj) (its : Array Value) (n : Nat), K.lookup a = some o ∧ o.cls = .type "tuple" ∧ o.data = .seq its n ∧ its.size ≤ sizeLine ∧ Vals xs its.toList
def absV : Value → Option V
  | .none => some .non
  | .bool b => some (.bl b)
  | .int i _ => some (.int i)
  | .str x _ => some (.str x)
  | .bytes b _ => some (.byt b)
  | .float b _ => some (.flt b)
  | .ref a => some (.ref a)
  | .type n => some (.ty n)
  | _ => none
theorem RelV.abs {x : V} {u : Value} (r : RelV x u) : absV u = some x := by
  cases x with
  | non => cases r; rfl
  | bl _ => cases r; rfl
  | int _ => obtain ⟨t, rfl⟩ := r; rfl
  | str _ => obtain ⟨t, rfl⟩ := r; rfl
  | byt _ => obtain ⟨t, rfl⟩ := r; rfl
  | flt _ => obtain ⟨t, rfl⟩ := r; rfl
  | ref _ => cases r; rfl
  | ty _ => cases r; rfl
theorem RelV.inj {x y : V} {u : Value} (r : RelV x u) (q : RelV y u) : x = y := Option.some.inj (r.abs.symm.trans q.abs)
theorem Vals.inj : ∀ {xs ys : List V} {us : List Value}, Vals xs us → Vals ys us → xs = ys
  | _, _, _, .nil, .nil => rfl
  | _, _, _, .cons r t, .cons r' t' => by rw [r.inj r', Vals.inj t t']
section
variable {X : Cx} {pins : List (Addr × Obj)} {σ : St} {H : Hp} {s : Shared} {a : Addr} {xs ys : List V}
theorem SqL.of {K : PySem.W.Frag} (h : H a = some (.lst xs)) : SqL K H a xs := .inl (.inl h)
theorem SqT.of {K : PySem.W.Frag} (h : H a = some (.tup xs)) : SqT K H a xs := .inl (.inl h)
theorem Inv.list (I : Inv X pins σ H s) (h : SqL X.K H a xs) : ∃ its : List Value, Vals xs its ∧ PlainL s.heap a its.toArray ∧ xs.length ≤ sizeLine := by
  rcases h with h | ⟨o, its, n, hk, hc, hd, hs, hz, r⟩
  · obtain ⟨z, its, n, r, e⟩ := h.ok I.hok
    exact ⟨its, r, ⟨_, n, e, rfl, rfl, rfl⟩, z⟩
  · refine ⟨its.toList, r, ⟨o, n, I.kIn a o hk, hc, hd.1, by simpa using hs⟩, ?_⟩
    have e := r.length
    simp only [Array.length_toList] at e
    omega
theorem Inv.tuple (I : Inv X pins σ H s) (h : SqT X.K H a xs) : ∃ its : List Value, Vals xs its ∧ IsTup s.heap a its.toArray ∧ xs.length ≤ sizeLine := by
  rcases h with h | ⟨o, its, n, hk, hc, hs, hz, r⟩
  · obtain ⟨z, its, r, p⟩ := h.ok I.hok
    exact ⟨its, r, p, z⟩
  · refine ⟨its.toList, r, ⟨o, I.kIn a o hk, hc, n, by simpa using hs⟩, ?_⟩
    have e := r.length
    simp only [Array.length_toList] at e
    omega
theorem Inv.list_inj (I : Inv X pins σ H s) (h : SqL X.K H a xs) (h' : SqL X.K H a ys) : xs = ys := by
  obtain ⟨its, r, ⟨o, n, e, _, _, d⟩, _⟩ := I.list h
  obtain ⟨its', r', ⟨o', n', e', _, _, d'⟩, _⟩ := I.list h'
  rw [e] at e'; cases e'
  rw [d] at d'
  injection d' with d1 _
  have : its = its' := by simpa using congrArg Array.toList d1
  subst this
  exact r.inj r'
theorem Inv.tuple_inj (I : Inv X pins σ H s) (h : SqT X.K H a xs) (h' : SqT X.K H a ys) : xs = ys := by
  obtain ⟨its, r, ⟨o, e, _, n, d⟩, _⟩ := I.tuple h
  obtain ⟨its', r', ⟨o', e', _, n', d'⟩, _⟩ := I.tuple h'
  rw [e] at e'; cases e'
  rw [d] at d'
  injection d' with d1 _
  have : its = its' := by simpa using congrArg Array.toList d1
  subst this
  exact r.inj r'
end

/-! ### another wish about exceptions -/
abbrev Cx.wish (X : Cx) (E : Value → Shared → Prop) : Cx := { X with xe := E }
/-- no exception leaves -/
abbrev Cx.nox (X : Cx) : Cx := X.wish fun _ _ => False
theorem Cx.Ok.wish {X : Cx} (ok : X.Ok) (E : Value → Shared → Prop) : (X.wish E).Ok :=
  ⟨ok.mod, ok.kind, ok.glob, ok.blt, ok.above, ok.inj, ok.has, ok.cab, ok.hd, ok.frames, ok.stk, ok.exf, ok.bs, ok.bsz, ok.noex, ok.exfs, ok.funs, ok.frf⟩
theorem Cx.Ok.unwish {X : Cx} {E : Value → Shared → Prop} (ok : (X.wish E).Ok) : X.Ok :=
  ⟨ok.mod, ok.kind, ok.glob, ok.blt, ok.above, ok.inj, ok.has, ok.cab, ok.hd, ok.frames, ok.stk, ok.exf, ok.bs, ok.bsz, ok.noex, ok.exfs, ok.funs, ok.frf⟩
section
variable {X : Cx} {pins : List (Addr × Obj)} {σ : St} {H : Hp} {s : Shared} {E : Value → Shared → Prop}
theorem Inv.wish (I : Inv X pins σ H s) (E : Value → Shared → Prop) : Inv (X.wish E) pins σ H s := ⟨I.ok.wish E, I.os, I.bare, I.base, I.loc, I.cell, I.free, I.freeC, I.pin, I.hok, I.len, I.sgm⟩
theorem Inv.unwish (I : Inv (X.wish E) pins σ H s) : Inv X pins σ H s := ⟨I.ok.unwish, I.os, I.bare, I.base, I.loc, I.cell, I.free, I.freeC, I.pin, I.hok, I.len, I.sgm⟩
theorem SP.unwish {D : Ends} {f : Flow} {s' : Shared} (h : SP (X.wish E) pins D f s') : SP X pins D f s' := by
  cases f with
  | next => obtain ⟨σ', H', I, q⟩ := h; exact ⟨σ', H', I.unwish, q⟩
  | brk => obtain ⟨σ', H', I, q⟩ := h; exact ⟨σ', H', I.unwish, q⟩
  | cont => obtain ⟨σ', H', I, q⟩ := h; exact ⟨σ', H', I.unwish, q⟩
  | ret u => obtain ⟨v, σ', H', I, r, q⟩ := h; exact ⟨v, σ', H', I.unwish, r, q⟩
theorem PE.nox {e : Expr} {t : TE} (h : PE X.nox e t) : PE X e t := fun pins s σ H Q I hw =>
  wpAny_mono (h pins s σ H Q (I.wish _) hw) (fun _ _ ⟨v, H', I', r, q⟩ => ⟨v, H', I'.unwish, r, q⟩) fun _ _ z => False.elim z
theorem PT.nox {e : Expr} {t : TT} (h : PT X.nox e t) : PT X e t := fun pins s σ H Q I hw =>
  wpAny_mono (h pins s σ H Q (I.wish _) hw) (fun _ _ ⟨H', I', q⟩ => ⟨H', I'.unwish, q⟩) fun _ _ z => False.elim z
theorem PSs.nox {st : List Stmt} {t : TS} (h : PSs X.nox st t) : PSs X st t := fun pins s σ H D I hw =>
  wpAny_mono (h pins s σ H D (I.wish _) hw) (fun _ _ q => q.unwish) fun _ _ z => False.elim z
end

/-! ### blocks and small statements -/
section
variable {X : Cx} {st : Stmt} {rest : List Stmt} {t u : TS} {e : Expr} {te : TE} {pos : Pos}
/-- in a def's body nothing is shown -/
theorem Inv.quiet {pins : List (Addr × Obj)} {σ : St} {H : Hp} {s : Shared} (I : Inv X pins σ H s) : interactive X.env = false := by simp [interactive, I.ok.kind]
end

/-! ### targets -/
abbrev TG := V → St → Hp → (St → Hp → Prop) → Prop
abbrev TGs := List V → St → Hp → (St → Hp → Prop) → Prop
def PG (X : Cx) (target : Expr) (t : TG) : Prop :=
  ∀ (pins : List (Addr × Obj)) (s : Shared) (σ : St) (H : Hp) (v : V) (u : Value) (Q : St → Hp → Prop), Inv X pins σ H s → RelV v u → t v σ H Q →
    wpAny (model X.prog X.w) X.A (assign target X.env u) (fun _ s' => ∃ σ' H', Inv X pins σ' H' s' ∧ Q σ' H') X.xe s
/-- several targets, one after another -/
def PGs (X : Cx) (ts : List Expr) (t : TGs) : Prop :=
  ∀ (pins : List (Addr × Obj)) (s : Shared) (σ : St) (H : Hp) (vs : List V) (us : List Value) (Q : St → Hp → Prop), Inv X pins σ H s → Vals vs us → t vs σ H Q →
    wpAny (model X.prog X.w) X.A (assignInOrder ((assignEach ts X.env).map (·.2)) us) (fun _ s' => ∃ σ' H', Inv X pins σ' H' s' ∧ Q σ' H') X.xe s
/-- o[i] = v, by values -/
abbrev TSet := V → V → V → Hp → (Hp → Prop) → Prop
def PSet (X : Cx) (t : TSet) : Prop :=
  ∀ (pins : List (Addr × Obj)) (s : Shared) (σ : St) (H : Hp) (o i v : V) (ov iv u : Value) (Q : Hp → Prop), Inv X pins σ H s → RelV o ov → RelV i iv → RelV v u → t o i v H Q →
    wpAny (model X.prog X.w) X.A (setItem ov iv u) (fun _ s' => ∃ H', Inv X pins σ H' s' ∧ Q H') X.xe s
/-- a op= b, by values -/
abbrev TIp := V → V → Hp → VK → Prop
def PIp (X : Cx) (op : Operator) (t : TIp) : Prop :=
  ∀ (pins : List (Addr × Obj)) (s : Shared) (σ : St) (H : Hp) (x y : V) (v u : Value) (Q : VK), Inv X pins σ H s → RelV x v → RelV y u → t x y H Q →
    wpAny (model X.prog X.w) X.A (inplaceOp op v u) (EP X pins σ Q) X.xe s
section
variable {X : Cx} {pos : Pos}
def gName (i : Nat) : TG := fun v σ H Q => Q (σ.set i (some v)) H
theorem pg_name {i : Nat} {x : Str} (hN : X.N.Nodup) (hi : X.N[i]? = some x) (hx : Loc X.env.scope x) (hf : X.fn x = true ∨ X.env.scope.names.lookup x = some .local := by first | exact .inl rfl | exact .inr rfl | assumption) (hsg : ∀ p σ v, X.sg p σ → X.sg p (σ.set i (some v)) := by first | exact fun _ _ _ _ => trivial | assumption) : PG X (.Name x pos) (gName i) := by
  intro pins s σ H v u Q I r h
  exact wpAny_assign_Name (store_ok I hN hi hx r (fun s' I' => ⟨_, H, I', h⟩) hf)
def gNil : TGs := fun vs σ H Q => vs = [] ∧ Q σ H
def gCons (t : TG) (u : TGs) : TGs := fun vs σ H Q => ∃ v r, vs = v :: r ∧ t v σ H fun σ' H' => u r σ' H' Q
theorem pgs_nil : PGs X [] gNil := by
  intro pins s σ H vs us Q I r h
  obtain ⟨e, h⟩ := h
  subst e
  cases r
  exact assignInOrder_nil ⟨σ, H, I, h⟩
theorem pgs_cons {e : Expr} {es : List Expr} {t : TG} {u : TGs} (h1 : PG X e t) (h2 : PGs X es u)
    (hs : (assignEach (e :: es) X.env).map (·.2) = assign e X.env :: (assignEach es X.env).map (·.2) := by rfl) : PGs X (e :: es) (gCons t u) := by
  intro pins s σ H vs us Q I r h
  obtain ⟨v, vr, e1, h⟩ := h
  subst e1
  cases r with
  | cons r rr =>
    rw [hs]
    refine assignInOrder_cons (thn (h1 pins s σ H _ _ _ I r h) fun _ s1 ⟨σ1, H1, I1, q1⟩ => ?_)
    exact h2 pins s1 σ1 H1 _ _ Q I1 rr q1
/-- (a, b, ..) = a tuple of that length -/
def gTup (K : PySem.W.Frag) (n : Nat) (t : TGs) : TG := fun v σ H Q => ∃ a xs, v = .ref a ∧ SqT K H a xs ∧ xs.length = n ∧ t xs σ H Q
theorem pg_tup {es : List Expr} {k : Nat} {t : TGs} {n : Nat} (hc : X.calm = true) (h : PGs X es t)
    (hn : (assignEach es X.env).length = n := by rfl) (hst : (assignEach es X.env).findIdx? (·.1) = none := by rfl) : PG X (.Tuple es k pos) (gTup X.K n t) := by
  intro pins s σ H v u Q I r hw
  obtain ⟨a, xs, e1, hq, hl, hw⟩ := hw
  subst e1
  cases r
  obtain ⟨its, rv, ht, hz⟩ := I.tuple hq
  refine assign_Tuple_tuple (I.ok.hd hc) ht (by simp [hn, ← hl, rv.length]) hst fun h' hx => ?_
  have I1 : Inv X pins σ H { s with heap := h' } := I.kept (t' := s.toks) fun b o e => hx b o (Nat.ne_of_lt (Heap.lt_size e)) e
  exact h pins _ σ H xs _ Q I1 (by simpa using rv) hw
/-- o[i] = .. -/
def gSub (to ti : TE) (t : TSet) : TG := fun v σ H Q => to σ H fun o H1 => ti σ H1 fun i H2 => t o i v H2 fun H3 => Q σ H3
theorem pg_sub {o i : Expr} {to ti : TE} {t : TSet} (ho : PE X o to) (hi : PE X i ti) (hs : PSet X t)
    (ha : ∀ v, assign (.Subscript o i pos) X.env v = (do
      let ov ← holding [v] (eval o X.env)
      let iv ← holding [v, ov] (eval i X.env)
      standAt pos
      holding [v, ov, iv] (setItem ov iv v)
      release [v, ov, iv] []) := by intro _; rfl) : PG X (.Subscript o i pos) (gSub to ti t) := by
  intro pins s σ H v u Q I r h
  rw [ha]
  refine wpAny_bind (wpAny_holding (thn (ho pins s σ H _ I h) fun ov s1 ⟨x, H1, I1, r1, q1⟩ => ?_))
  refine wpAny_bind (wpAny_holding (thn (hi pins s1 σ H1 _ I1 q1) fun iv s2 ⟨y, H2, I2, r2, q2⟩ => ?_))
  refine wpAny_bind (wpAny_standAt (wpAny_bind (wpAny_holding (thn (hs pins s2 σ H2 x y v ov iv u _ I2 r1 r2 r q2) fun _ s3 ⟨H3, I3, q3⟩ => ?_))))
  exact wpAny_release ⟨σ, H3, I3, q3⟩
/-- ints -/
def ipI (f : Int → Int → Int) : TIp := fun x y H Q => ∃ i j, x = .int i ∧ y = .int j ∧ Q (.int (f i j)) H
theorem ip_add : PIp X .Add (ipI fun i j => i + j) := by
  intro pins s σ H x y v u Q I r1 r2 h
  obtain ⟨i, j, e1, e2, q⟩ := h
  subst e1; subst e2
  obtain ⟨t, rfl⟩ := r1
  obtain ⟨t', rfl⟩ := r2
  exact iadd_int ⟨.int _, H, I.tok _, ⟨_, rfl⟩, q⟩
end

/-! ### while -/
section
variable {X : Cx} {pos : Pos}
end

/-! ### what a loop or a comprehension walks -/
/-- at turn i: it yields x (the heap may grow), or it stops -/
structure It where
  go : Nat → Hp → Prop
  yld : Nat → Hp → V → Hp → Prop
  stop : Nat → Hp → Prop
/-- the iterator's own objects may turn: they are not the frame's, not pinned, younger than the entry (or a comprehension's own) -/
def FpOk (X : Cx) (pins : List (Addr × Obj)) (H : Hp) (b : Addr) : Prop :=
  H b = none ∧ b ≠ X.env.locals ∧ b ∉ X.fs ∧ (b ∈ X.ex ∨ X.s₀.heap.objs.size ≤ b) ∧ (∀ x c, X.env.cells.lookup x = some c → c ≠ b) ∧ ∀ p ∈ X.pn ++ pins, p.1 ≠ b
theorem Inv.fpOk {X : Cx} {pins : List (Addr × Obj)} {σ : St} {H H' : Hp} {s : Shared} {b : Addr} (I : Inv X pins σ H s) (hb : s.heap.objs.size ≤ b) (hn : H' b = none) : FpOk X pins H' b := by
  refine ⟨hn, Nat.ne_of_gt (Nat.lt_of_lt_of_le I.lt hb), I.nofs hb, .inr (Nat.le_trans I.sz hb), fun x c e z => ?_, fun p hp z => ?_⟩
  · obtain ⟨v, q⟩ := I.cell x c e
    exact absurd (Nat.lt_of_lt_of_le q.lt (by rw [z]; exact hb)) (Nat.lt_irrefl _)
  · exact absurd (Nat.lt_of_lt_of_le (Heap.lt_size (I.pin p hp).1) (by rw [z]; exact hb)) (Nat.lt_irrefl _)
structure Turn (P : Program) (w : World) (K : PySem.W.Frag) (tg : Expr) (J : It) (fp : List Addr) (it : Addr) (tn : Nat → Heap → Prop) : Prop where
  mem : it ∈ fp
  obj : ∀ i h, tn i h → ∀ b ∈ fp, ∃ o, h.get? b = some o ∧ ∀ v, o.data ≠ .cell v
  keep : ∀ i h h', tn i h → (∀ b ∈ fp, ∀ o, h.get? b = some o → h'.get? b = some o) → tn i h'
  item : ∀ (X : Cx), X.prog = P → X.w = w → X.K = K → X.calm = true → ∀ (i : Nat) (pins : List (Addr × Obj)) (s : Shared) (σ : St) (H : Hp) (E : Value → Shared → Prop), Inv X pins σ H s → (∀ b ∈ fp, FpOk X pins H b) → tn i s.heap → J.go i H →
    wpAny (model P w) X.A (pyNext (.ref it)) (fun r s1 => ∃ u, r = some u ∧
      wpAny (model P w) X.A (letOwnedTupleGo tg (.ref it) u) (fun _ s2 => ∃ x H', Inv X pins σ H' s2 ∧ RelV x u ∧ J.yld i H x H' ∧ tn (i + 1) s2.heap ∧ ∀ b ∈ fp, H' b = none) E s1) E s
  done : ∀ (X : Cx), X.prog = P → X.w = w → X.K = K → X.calm = true → ∀ (i : Nat) (pins : List (Addr × Obj)) (s : Shared) (σ : St) (H : Hp) (E : Value → Shared → Prop), Inv X pins σ H s → (∀ b ∈ fp, FpOk X pins H b) → tn i s.heap → J.stop i H →
    wpAny (model P w) X.A (pyNext (.ref it)) (fun r s1 => r = none ∧ Inv X pins σ H s1) E s
  self : ∀ (A : Around) (i : Nat) (s : Shared) (Q : Value → Shared → Prop) (E : Value → Shared → Prop), tn i s.heap → Q (.ref it) s → wpAny (model P w) A (pyIter (.ref it)) Q E s
abbrev TI := St → Hp → (It → Hp → Prop) → Prop
/-- an iterator has come -/
def PIE (X : Cx) (pins : List (Addr × Obj)) (σ : St) (tg : Expr) (R : It → Hp → Prop) (itv : Value) (s2 : Shared) : Prop :=
  ∃ (it : Addr) (fp : List Addr) (tn : Nat → Heap → Prop) (J : It) (H' : Hp), itv = .ref it ∧ Inv X pins σ H' s2 ∧ Turn X.prog X.w X.K tg J fp it tn ∧ tn 0 s2.heap ∧ (∀ b ∈ fp, FpOk X pins H' b) ∧ R J H'
def PI (X : Cx) (tg iter : Expr) (wi : TI) : Prop :=
  ∀ (pins : List (Addr × Obj)) (s : Shared) (σ : St) (H : Hp) (R : It → Hp → Prop), Inv X pins σ H s → wi σ H R →
    wpAny (model X.prog X.w) X.A (eval iter X.env) (fun v s1 => wpAny (model X.prog X.w) X.A (pyIter v) (PIE X pins σ tg R) X.xe s1) X.xe s

/-- the step ahead of the store is nothing for an iterator that keeps no tuple -/
theorem go_of {M : Model} {A : Around} {E : Value → Shared → Prop} {s : Shared} {tg : Expr} {it : Addr} {u : Value} {o : Obj} {n : String} {vs : Array Value} {Q : Unit → Shared → Prop} (ho : s.heap.get? it = some o) (hc : o.cls = .type n) (hd : o.data = .fields vs)
    (hn : ["enumerate", "zip", "dict_itemiterator", "dict_reverseitemiterator", "odict_iterator", "itertools.zip_longest", "itertools.pairwise"].contains n = false) (hQ : Q () s) : wpAny M A (letOwnedTupleGo tg (.ref it) u) Q E s := by
  unfold letOwnedTupleGo
  cases tg <;> first
    | exact wpAny_pure hQ
    | (cases u <;> first
        | exact wpAny_pure hQ
        | (refine wpAny_bind (wpAny_load ho ?_)
           rw [hc, hd]
           show wpAny M A (if (["enumerate", "zip", "dict_itemiterator", "dict_reverseitemiterator", "odict_iterator", "itertools.zip_longest", "itertools.pairwise"].contains n && vs[0]? == some (rawInt _)) = true then _ else _) Q E s
           rw [if_neg (by intro h; rw [hn, Bool.false_and] at h; cases h)]
           exact wpAny_pure hQ))

/-- the list at a, as it stands at each turn (a loop may append to it) -/
def Itl (K : PySem.W.Frag) (a : Addr) : It :=
  ⟨fun i H => ∃ xs x, SqL K H a xs ∧ xs[i]? = some x, fun i H x H' => H' = H ∧ ∀ xs, SqL K H a xs → xs[i]? = some x, fun i H => ∃ xs, SqL K H a xs ∧ xs.length ≤ i⟩
def Itt (K : PySem.W.Frag) (a : Addr) : It :=
  ⟨fun i H => ∃ xs x, SqT K H a xs ∧ xs[i]? = some x, fun i H x H' => H' = H ∧ ∀ xs, SqT K H a xs → xs[i]? = some x, fun i H => ∃ xs, SqT K H a xs ∧ xs.length ≤ i⟩
/-- lo, lo + 1, .. (n of them) -/
def Itr (lo : Int) (n : Nat) : It := ⟨fun i _ => i < n, fun i H x H' => H' = H ∧ x = .int (lo + i), fun i _ => n ≤ i⟩
theorem turn_list {P : Program} {w : World} {K : PySem.W.Frag} {tg : Expr} (a it : Addr) : Turn P w K tg (Itl K a) [it] it (fun i h => h.IsListIter it a i) where
  mem := by simp
  obj := fun i h st b hb => by
    have e : b = it := by simpa using hb
    subst e
    obtain ⟨o, e, c, d⟩ := st
    exact ⟨o, e, fun v z => by rw [d] at z; cases z⟩
  keep := fun i h h' st k => st.at fun o e => k it (by simp) o e
  item := by
    intro X hP hw hK hc i pins s σ H E I hf st hg
    subst hP hw hK
    obtain ⟨xs, x, hq, hx⟩ := hg
    obtain ⟨its, rv, p, hz⟩ := I.list hq
    obtain ⟨u, hu, ru⟩ := rv.get hx
    obtain ⟨f0, f1, f2, f3, f4, f5⟩ := hf it (by simp)
    refine wpAny_pyNext_list_item st p.isList (x := u) (by simpa using hu) fun h' st' sb => ?_
    have I1 : Inv X pins σ H { s with heap := h' } := I.turned (t' := s.toks) (fun b o hb e => (sb.2 b hb).trans e) f0 f1 f3 f4 f5
    obtain ⟨o, e, c, d⟩ := id st'
    exact ⟨u, rfl, go_of (s := { s with heap := h' }) e c d (by decide) ⟨x, H, I1, ru, ⟨rfl, fun ys hy => by rw [I.list_inj hy hq]; exact hx⟩, st', fun b hb => (hf b hb).1⟩⟩
  done := by
    intro X hP hw hK hc i pins s σ H E I hf st hg
    subst hP hw hK
    obtain ⟨xs, hq, hx⟩ := hg
    obtain ⟨its, rv, p, hz⟩ := I.list hq
    obtain ⟨f0, f1, f2, f3, f4, f5⟩ := hf it (by simp)
    have hl := rv.length
    exact wpAny_pyNext_list_end (I.ok.hd hc) st p.isList (by simp; omega) fun h' eb => ⟨rfl, I.turned (t' := s.toks) (fun b o hb e => eb b o hb e) f0 f1 f3 f4 f5⟩
  self := fun _ _ _ _ _ st h => wpAny_pyIter_listiter st h
theorem turn_tuple {P : Program} {w : World} {K : PySem.W.Frag} {tg : Expr} (a it : Addr) : Turn P w K tg (Itt K a) [it] it (fun i h => h.IsTupleIter it a i) where
  mem := by simp
  obj := fun i h st b hb => by
    have e : b = it := by simpa using hb
    subst e
    obtain ⟨o, e, c, d⟩ := st
    exact ⟨o, e, fun v z => by rw [d] at z; cases z⟩
  keep := fun i h h' st k => st.at fun o e => k it (by simp) o e
  item := by
    intro X hP hw hK hc i pins s σ H E I hf st hg
    subst hP hw hK
    obtain ⟨xs, x, hq, hx⟩ := hg
    obtain ⟨its, rv, p, hz⟩ := I.tuple hq
    obtain ⟨u, hu, ru⟩ := rv.get hx
    obtain ⟨f0, f1, f2, f3, f4, f5⟩ := hf it (by simp)
    refine wpAny_pyNext_tuple_item st (show s.heap.IsTuple a its.toArray from p) (x := u) (by simpa using hu) fun h' st' sb => ?_
    have I1 : Inv X pins σ H { s with heap := h' } := I.turned (t' := s.toks) (fun b o hb e => (sb.2 b hb).trans e) f0 f1 f3 f4 f5
    obtain ⟨o, e, c, d⟩ := id st'
    exact ⟨u, rfl, go_of (s := { s with heap := h' }) e c d (by decide) ⟨x, H, I1, ru, ⟨rfl, fun ys hy => by rw [I.tuple_inj hy hq]; exact hx⟩, st', fun b hb => (hf b hb).1⟩⟩
  done := by
    intro X hP hw hK hc i pins s σ H E I hf st hg
    subst hP hw hK
    obtain ⟨xs, hq, hx⟩ := hg
    obtain ⟨its, rv, p, hz⟩ := I.tuple hq
    obtain ⟨f0, f1, f2, f3, f4, f5⟩ := hf it (by simp)
    have hl := rv.length
    exact wpAny_pyNext_tuple_end (I.ok.hd hc) st (show s.heap.IsTuple a its.toArray from p) (by simp; omega) fun h' eb => ⟨rfl, I.turned (t' := s.toks) (fun b o hb e => eb b o hb e) f0 f1 f3 f4 f5⟩
  self := fun _ _ _ _ _ st h => wpAny_pyIter_tupleiter st h
theorem turn_range {P : Program} {w : World} {K : PySem.W.Frag} {tg : Expr} (it : Addr) (lo : Int) (n : Nat) : Turn P w K tg (Itr lo n) [it] it (fun i h => IsRangeIter h it (lo + (i : Nat) * 1) ((n : Int) - (i : Nat)) 1) where
  mem := by simp
  obj := fun i h st b hb => by
    have e : b = it := by simpa using hb
    subst e
    exact ⟨_, st, fun v z => by
      have z' : Data.fields _ = Data.cell v := z
      cases z'⟩
  keep := fun i h h' st k => k it (by simp) _ st
  item := by
    intro X hP hw hK hc i pins s σ H E I hf st hg
    subst hP hw hK
    obtain ⟨f0, f1, f2, f3, f4, f5⟩ := hf it (by simp)
    have W := Walks.range (prog := X.prog) (w := X.w) (I.ok.hd hc) it lo 1 n
    refine W.item i s _ _ hg st fun v h' tk hv st' kk => ?_
    obtain ⟨t, rfl⟩ := hv
    have I1 : Inv X pins σ H { s with heap := h', toks := tk } := I.turned (fun b o hb e => kk b o (by simpa using hb) e) f0 f1 f3 f4 f5
    refine ⟨_, rfl, go_of (s := { s with heap := h', toks := tk }) (n := "range_iterator") st' rfl rfl (by decide) ⟨.int (lo + i), H, I1, ⟨t, ?_⟩, ⟨rfl, rfl⟩, st', fun b hb => (hf b hb).1⟩⟩
    rw [Int.mul_one]
  done := by
    intro X hP hw hK hc i pins s σ H E I hf st hg
    subst hP hw hK
    obtain ⟨f0, f1, f2, f3, f4, f5⟩ := hf it (by simp)
    exact wpAny_pyNext_range_end (I.ok.hd hc) st (by have : n ≤ i := hg; omega) fun h' eb => ⟨rfl, I.turned (t' := s.toks) (fun b o hb e => eb b o hb e) f0 f1 f3 f4 f5⟩
  self := fun _ _ _ _ _ st h => wpAny_pyIter_rangeiter st h
end L2

namespace L2
open PySem PySem.Spec PyProof.Rows
section
variable {X : Cx} {tg : Expr}
def iList (K : PySem.W.Frag) (tl : TE) : TI := fun σ H R => tl σ H fun x H1 => ∃ a, x = .ref a ∧ (∃ xs, SqL K H1 a xs) ∧ R (Itl K a) H1
def iTup (K : PySem.W.Frag) (tl : TE) : TI := fun σ H R => tl σ H fun x H1 => ∃ a, x = .ref a ∧ (∃ xs, SqT K H1 a xs) ∧ R (Itt K a) H1
theorem pi_list {l : Expr} {tl : TE} (hl : PE X l tl) : PI X tg l (iList X.K tl) := by
  intro pins s σ H R I h
  refine thn (hl pins s σ H _ I h) fun v s1 ⟨x, H1, I1, r1, q1⟩ => ?_
  obtain ⟨a, e, ⟨xs, hq⟩, q⟩ := q1
  subst e
  cases r1
  obtain ⟨its, rv, p, hz⟩ := I1.list hq
  refine wpAny_pyIter_list p.isList ?_
  refine ⟨s1.heap.objs.size, [s1.heap.objs.size], _, _, H1, rfl, I1.kept (t' := s1.toks) fun b o e => Heap.get?_push_of_some _ e, turn_list a _, ⟨_, Heap.get?_push_size _ rfl, rfl, rfl⟩, fun b hb => ?_, q⟩
  have e : b = s1.heap.objs.size := by simpa using hb
  subst e
  exact I1.fpOk (Nat.le_refl _) (I1.hok.fresh (Nat.le_refl _))
theorem pi_tup {l : Expr} {tl : TE} (hl : PE X l tl) : PI X tg l (iTup X.K tl) := by
  intro pins s σ H R I h
  refine thn (hl pins s σ H _ I h) fun v s1 ⟨x, H1, I1, r1, q1⟩ => ?_
  obtain ⟨a, e, ⟨xs, hq⟩, q⟩ := q1
  subst e
  cases r1
  obtain ⟨its, rv, p, hz⟩ := I1.tuple hq
  refine wpAny_pyIter_tuple (show s1.heap.IsTuple a its.toArray from p) ?_
  refine ⟨s1.heap.objs.size, [s1.heap.objs.size], _, _, H1, rfl, I1.kept (t' := s1.toks) fun b o e => Heap.get?_push_of_some _ e, turn_tuple a _, ⟨_, Heap.get?_push_size _ rfl, rfl, rfl⟩, fun b hb => ?_, q⟩
  have e : b = s1.heap.objs.size := by simpa using hb
  subst e
  exact I1.fpOk (Nat.le_refl _) (I1.hok.fresh (Nat.le_refl _))
/-- a range object just made, walked -/
theorem range_it {pins : List (Addr × Obj)} {σ : St} {H : Hp} {s : Shared} {R : It → Hp → Prop} {E : Value → Shared → Prop} {lo hi : Int} {t u v : Tok} {tk : Nat} (I : Inv X pins σ H s) (h1 : -(2 ^ 62) ≤ lo) (h2 : lo < 2 ^ 62) (h3 : -(2 ^ 62) ≤ hi) (h4 : hi < 2 ^ 62)
    (q : R (Itr lo (hi - lo).toNat) H) : wpAny (model X.prog X.w) X.A (pyIter (.ref s.heap.objs.size)) (PIE X pins σ tg R) E { s with heap := s.heap.push { cls := .type "range", data := .fields #[.int lo t, .int hi u, .int 1 v] }, toks := tk } := by
  refine wpAny_pyIter_range (IsRange.new ..) (small_one h1 h2 h3 h4) ?_
  have I1 : Inv X pins σ H { s with heap := s.heap.push { cls := .type "range", data := .fields #[.int lo t, .int hi u, .int 1 v] }, toks := tk } := I.kept fun b o e => Heap.get?_push_of_some _ e
  refine ⟨(s.heap.push { cls := .type "range", data := .fields #[.int lo t, .int hi u, .int 1 v] }).objs.size, [(s.heap.push { cls := .type "range", data := .fields #[.int lo t, .int hi u, .int 1 v] }).objs.size], _, _, H, rfl,
    I1.kept (t' := tk) fun b o e => Heap.get?_push_of_some _ e, turn_range _ lo (hi - lo).toNat, ?_, fun b hb => ?_, q⟩
  · have e1 : lo + ((0 : Nat) : Int) * 1 = lo := by simp
    have e2 : (((hi - lo).toNat : Nat) : Int) - ((0 : Nat) : Int) = Builtin.Range.rangeSize lo hi 1 := by rw [rangeSize_one]; split <;> omega
    show IsRangeIter _ _ (lo + ((0 : Nat) : Int) * 1) ((((hi - lo).toNat : Nat) : Int) - ((0 : Nat) : Int)) 1
    rw [e1, e2]
    exact Heap.get?_push_size _ rfl
  · have e : b = (s.heap.push { cls := .type "range", data := .fields #[.int lo t, .int hi u, .int 1 v] }).objs.size := by simpa using hb
    subst e
    exact I1.fpOk (Nat.le_refl _) (I1.hok.fresh (Nat.le_refl _))
def iRng1 (ta : TA) : TI := fun σ H R => ta σ H fun vs H1 => ∃ j : Int, vs = [.int j] ∧ -(2 ^ 62) ≤ j ∧ j < 2 ^ 62 ∧ R (Itr 0 j.toNat) H1
def iRng2 (ta : TA) : TI := fun σ H R => ta σ H fun vs H1 => ∃ i j : Int, vs = [.int i, .int j] ∧ (-(2 ^ 62) ≤ i ∧ i < 2 ^ 62 ∧ -(2 ^ 62) ≤ j ∧ j < 2 ^ 62) ∧ R (Itr i (j - i).toNat) H1
theorem pi_range1 {a : Expr} {ta : TA} {p pos : Pos} (hg : Gl X "range") (hm : X.mg "range" = none) (ha : PA X [a] ta) (hs : starEach [a] X.env = [(false, eval a X.env)] := by rfl) : PI X tg (.Call (.Name "range" p) [a] [] pos) (iRng1 ta) := by
  intro pins s σ H R I h
  refine Call_ (ld_blt I hg hm boot_range (PyProof.Rows.callWith_type1 (thn (ha pos pins s σ H _ I h) fun us s1 ⟨vs, H1, I1, r1, q1⟩ => ?_) hs rfl))
  obtain ⟨j, e, q1, q2, q⟩ := q1
  subst e
  cases r1 with
  | cons r rr =>
    cases rr
    obtain ⟨t, rfl⟩ := r
    exact call_range_1 (range_it I1 (by omega) (by omega) q1 q2 (by simpa using q))
theorem pi_range2 {a b : Expr} {ta : TA} {p pos : Pos} (hg : Gl X "range") (hm : X.mg "range" = none) (ha : PA X [a, b] ta) (hs : starEach [a, b] X.env = [(false, eval a X.env), (false, eval b X.env)] := by rfl) (hs2 : starEach [b] X.env = [(false, eval b X.env)] := by rfl) :
    PI X tg (.Call (.Name "range" p) [a, b] [] pos) (iRng2 ta) := by
  intro pins s σ H R I h
  refine Call_ (ld_blt I hg hm boot_range (PyProof.Rows.callWith_type1 (thn (ha pos pins s σ H _ I h) fun us s1 ⟨vs, H1, I1, r1, q1⟩ => ?_) (by rw [hs, hs2]) (by rw [hs2]; rfl)))
  obtain ⟨i, j, e, ⟨q1, q2, q3, q4⟩, q⟩ := q1
  subst e
  cases r1 with
  | cons r rr =>
    cases rr with
    | cons r' rr =>
      cases rr
      obtain ⟨t, rfl⟩ := r
      obtain ⟨t', rfl⟩ := r'
      exact call_range_2 (range_it I1 q1 q2 q3 q4 q)

/-! ### for -/
/-- the records at fp as they stand -/
def pinsAt (fp : List Addr) (h : Heap) : List (Addr × Obj) := fp.filterMap fun b => (h.get? b).map fun o => (b, o)
theorem mem_pinsAt {fp : List Addr} {h : Heap} {b : Addr} {o : Obj} (hb : b ∈ fp) (e : h.get? b = some o) : (b, o) ∈ pinsAt fp h := List.mem_filterMap.mpr ⟨b, hb, by rw [e]; rfl⟩
theorem of_pinsAt {fp : List Addr} {h : Heap} {p : Addr × Obj} (hp : p ∈ pinsAt fp h) : p.1 ∈ fp ∧ h.get? p.1 = some p.2 := by
  obtain ⟨b, hb, e⟩ := List.mem_filterMap.mp hp
  cases q : h.get? b with
  | none => rw [q] at e; cases e
  | some o =>
    rw [q] at e
    have e' : (b, o) = p := Option.some.inj e
    subst e'
    exact ⟨hb, q⟩
theorem Inv.pinned (hsgA : ∀ p σ, X.sg p σ) {pins : List (Addr × Obj)} {σ : St} {H : Hp} {s : Shared} {fp : List Addr} (I : Inv X pins σ H s) (hf : ∀ b ∈ fp, FpOk X pins H b) (ho : ∀ b ∈ fp, ∃ o, s.heap.get? b = some o ∧ ∀ v, o.data ≠ .cell v) : Inv X (pins ++ pinsAt fp s.heap) σ H s :=
  I.pins_of (hsg := hsgA _ _) fun p hp => (List.mem_append.mp hp).elim (fun z => I.pin p (List.mem_append_right _ z)) fun z => by
    obtain ⟨hb, e⟩ := of_pinsAt z
    obtain ⟨f0, f1, f2, _⟩ := hf p.1 hb
    obtain ⟨o, e', d⟩ := ho p.1 hb
    rw [e] at e'; cases e'
    exact ⟨e, f0, f1, f2, d⟩
theorem Inv.unpinned (hsgA : ∀ p σ, X.sg p σ) {pins pl : List (Addr × Obj)} {σ : St} {H : Hp} {s : Shared} (I : Inv X (pins ++ pl) σ H s) : Inv X pins σ H s := I.pins_of (hsg := hsgA _ _) fun p hp => I.pin p (List.mem_append_right _ (List.mem_append_left _ hp))
end

/-! ### the forms one uses -/
end L2

namespace L2
open PySem PySem.Spec PyProof.Rows

abbrev R2 := V → V → Hp → VK → Prop
/-- a two-place operation on values: f is binaryOp op, inplaceOp op or compareOp op -/
def OpR (X : Cx) (f : Value → Value → Sem Value) (r : R2) : Prop :=
  ∀ (pins : List (Addr × Obj)) (s : Shared) (σ : St) (H : Hp) (x y : V) (v u : Value) (Q : VK), Inv X pins σ H s → RelV x v → RelV y u → r x y H Q →
    wpAny (model X.prog X.w) X.A (f v u) (EP X pins σ Q) X.xe s
/-- a one-place operation -/
def UnR (X : Cx) (f : Value → Sem Value) (r : V → Hp → VK → Prop) : Prop :=
  ∀ (pins : List (Addr × Obj)) (s : Shared) (σ : St) (H : Hp) (x : V) (v : Value) (Q : VK), Inv X pins σ H s → RelV x v → r x H Q →
    wpAny (model X.prog X.w) X.A (f v) (EP X pins σ Q) X.xe s
/-- a call of a value that is known (a builtin, a type) with values -/
def CallR (X : Cx) (f : Value) (r : List V → Hp → VK → Prop) : Prop :=
  ∀ (pins : List (Addr × Obj)) (s : Shared) (σ : St) (H : Hp) (xs : List V) (us : List Value) (Q : VK), Inv X pins σ H s → Vals xs us → r xs H Q →
    wpAny (model X.prog X.w) X.A (call f us) (EP X pins σ Q) X.xe s
/-- a value's truth -/
def TruR (X : Cx) (r : V → Hp → (Bool → Hp → Prop) → Prop) : Prop :=
  ∀ (pins : List (Addr × Obj)) (s : Shared) (σ : St) (H : Hp) (x : V) (v : Value) (Q : Bool → Hp → Prop), Inv X pins σ H s → RelV x v → r x H Q →
    wpAny (model X.prog X.w) X.A (truthy v) (TP X pins σ Q) X.xe s

def tOp (r : R2) (ta tb : TE) : TE := fun σ H Q => ta σ H fun x H1 => tb σ H1 fun y H2 => r x y H2 Q
def tUn (r : V → Hp → VK → Prop) (ta : TE) : TE := fun σ H Q => ta σ H fun x H1 => r x H1 Q
/-- ints in, under C, and a value out -/
def rI (C : Int → Int → Prop) (g : Int → Int → V) : R2 := fun x y H Q => ∃ i j, x = .int i ∧ y = .int j ∧ C i j ∧ Q (g i j) H
def rI0 (g : Int → Int → V) : R2 := fun x y H Q => ∃ i j, x = .int i ∧ y = .int j ∧ Q (g i j) H
def rU (g : Int → V) : V → Hp → VK → Prop := fun x H Q => ∃ i, x = .int i ∧ Q (g i) H

section
variable {X : Cx} {a b c : Expr} {ta tb tc : TE} {pos : Pos}

theorem binT (ha : PE X a ta) (hb : PE X b tb) {pins : List (Addr × Obj)} {s : Shared} {σ : St} {H : Hp} {R : V → V → Hp → Prop} (I : Inv X pins σ H s)
    (h : ta σ H fun x H1 => tb σ H1 fun y H2 => R x y H2) {Q : Value → Shared → Prop} {f : Value → Value → Sem Value}
    (hf : ∀ v u s2 x y H2, Inv X pins σ H2 s2 → RelV x v → RelV y u → R x y H2 → wpAny (model X.prog X.w) X.A (f v u) Q X.xe s2) :
    wpAny (model X.prog X.w) X.A (eval a X.env) (fun v s₁ => wpAny (model X.prog X.w) X.A (eval b X.env) (fun u s₂ => wpAny (model X.prog X.w) X.A (f v u) Q X.xe s₂) X.xe s₁) X.xe s := by
  refine thn (ha pins s σ H _ I h) fun v s1 ⟨x, H1, I1, r1, q1⟩ => ?_
  refine thn (hb pins s1 σ H1 _ I1 q1) fun u s2 ⟨y, H2, I2, r2, q2⟩ => ?_
  exact hf v u s2 x y H2 I2 r1 r2 q2

theorem pe_op {op : Operator} {r : R2} (ho : OpR X (binaryOp op) r) (ha : PE X a ta) (hb : PE X b tb) : PE X (.BinOp a op b pos) (tOp r ta tb) := by
  intro pins s σ H Q I h
  exact wpAny_BinOp (binT ha hb I h fun v u s2 x y H2 I2 rx ry q => ho pins s2 σ H2 x y v u Q I2 rx ry q)
theorem pe_un {op : UnaryOp} {r : V → Hp → VK → Prop} (ho : UnR X (unaryOp op) r) (ha : PE X a ta) : PE X (.UnaryOp op a pos) (tUn r ta) := by
  intro pins s σ H Q I h
  exact UnaryOp_ (thn (ha pins s σ H _ I h) fun v s1 ⟨x, H1, I1, r1, q1⟩ => ho pins s1 σ H1 x v Q I1 r1 q1)
/-! ### ints -/
theorem opI {f : Value → Value → Sem Value} {C : Int → Int → Prop} {g : Int → Int → Int}
    (rule : ∀ (i j : Int) (t u : Tok) (s : Shared) (Q : Value → Shared → Prop) (E : Value → Shared → Prop), C i j → Q (.int (g i j) s.toks) { s with toks := s.toks + 1 } → wpAny (model X.prog X.w) X.A (f (.int i t) (.int j u)) Q E s) :
    OpR X f (rI C fun i j => .int (g i j)) := by
  intro pins s σ H x y v u Q I rx ry h
  obtain ⟨i, j, rfl, rfl, hc, q⟩ := h
  obtain ⟨t, rfl⟩ := rx
  obtain ⟨t', rfl⟩ := ry
  exact rule i j t t' s _ _ hc ⟨.int (g i j), H, I.tok _, ⟨_, rfl⟩, q⟩
theorem opI0 {f : Value → Value → Sem Value} {g : Int → Int → Int}
    (rule : ∀ (i j : Int) (t u : Tok) (s : Shared) (Q : Value → Shared → Prop) (E : Value → Shared → Prop), Q (.int (g i j) s.toks) { s with toks := s.toks + 1 } → wpAny (model X.prog X.w) X.A (f (.int i t) (.int j u)) Q E s) :
    OpR X f (rI0 fun i j => .int (g i j)) := by
  intro pins s σ H x y v u Q I rx ry h
  obtain ⟨i, j, rfl, rfl, q⟩ := h
  obtain ⟨t, rfl⟩ := rx
  obtain ⟨t', rfl⟩ := ry
  exact rule i j t t' s _ _ ⟨.int (g i j), H, I.tok _, ⟨_, rfl⟩, q⟩
theorem opB0 {f : Value → Value → Sem Value} {g : Int → Int → Bool}
    (rule : ∀ (i j : Int) (t u : Tok) (s : Shared) (Q : Value → Shared → Prop) (E : Value → Shared → Prop), Q (.bool (g i j)) s → wpAny (model X.prog X.w) X.A (f (.int i t) (.int j u)) Q E s) :
    OpR X f (rI0 fun i j => .bl (g i j)) := by
  intro pins s σ H x y v u Q I rx ry h
  obtain ⟨i, j, rfl, rfl, q⟩ := h
  obtain ⟨t, rfl⟩ := rx
  obtain ⟨t', rfl⟩ := ry
  exact rule i j t t' s _ _ ⟨.bl (g i j), H, I, rfl, q⟩

def CDiv (i j : Int) : Prop := 0 < j ∧ j < 1073741824
def CPow (i j : Int) : Prop := 0 ≤ j ∧ j ≤ 1000000 ∧ i.natAbs < 2 ^ 64
def CMul (i j : Int) : Prop := (-(2 ^ 64) < i ∧ i < 2 ^ 64) ∨ (-(2 ^ 64) < j ∧ j < 2 ^ 64)
theorem CMul.ok {i j : Int} (h : CMul i j) : IntMulOk i j := by
  rcases h with ⟨h1, h2⟩ | ⟨h1, h2⟩
  · exact .of_left (intBits_le_64 h1 h2)
  · exact .of_right (intBits_le_64 h1 h2)
theorem op_add : OpR X (binaryOp .Add) (rI0 fun i j => .int (i + j)) := opI0 fun _ _ _ _ _ _ _ q => add_int q
theorem op_sub : OpR X (binaryOp .Sub) (rI0 fun i j => .int (i - j)) := opI0 fun _ _ _ _ _ _ _ q => sub_int q
theorem op_mul : OpR X (binaryOp .Mult) (rI CMul fun i j => .int (i * j)) := opI fun _ _ _ _ _ _ _ hc q => mul_int q hc.ok
/-- // by a positive divisor -/
theorem op_fdiv : OpR X (binaryOp .FloorDiv) (rI CDiv fun i j => .int (i / j)) := opI fun i j _ _ _ _ _ hc q => by
  have h1 : (0 : Int) < j := hc.1
  have h2 : j < 1073741824 := hc.2
  exact floordiv_int (by omega) (by rw [Int.fdiv_eq_ediv_of_nonneg i (by omega)]; exact q) (.inl (PyProof.noPylong_small (by omega)))
/-- % by a positive divisor of any size -/
theorem op_mod : OpR X (binaryOp .Mod) (rI (fun _ j => 0 < j) fun i j => .int (i % j)) := opI fun i j _ _ _ _ _ hc q => by
  have h1 : (0 : Int) < j := hc
  exact mod_int' (by omega) (by rw [Int.fmod_eq_emod_of_nonneg i (by omega)]; exact q)
theorem op_pow : OpR X (binaryOp .Pow) (rI CPow fun i j => .int (i ^ j.toNat)) := opI fun _ _ _ _ _ _ _ hc q => pow_int_small hc.1 hc.2.1 hc.2.2 q
theorem op_and : OpR X (binaryOp .BitAnd) (rI0 fun i j => .int (Builtin.bitAnd i j)) := opI0 fun _ _ _ _ _ _ _ q => and_int q
theorem unI {f : Value → Sem Value} {g : Int → Int}
    (rule : ∀ (i : Int) (t : Tok) (s : Shared) (Q : Value → Shared → Prop) (E : Value → Shared → Prop), Q (.int (g i) s.toks) { s with toks := s.toks + 1 } → wpAny (model X.prog X.w) X.A (f (.int i t)) Q E s) :
    UnR X f (rU fun i => .int (g i)) := by
  intro pins s σ H x v Q I rx h
  obtain ⟨i, rfl, q⟩ := h
  obtain ⟨t, rfl⟩ := rx
  exact rule i t s _ _ ⟨.int (g i), H, I.tok _, ⟨_, rfl⟩, q⟩
theorem un_neg : UnR X (unaryOp .USub) (rU fun i => .int (-i)) := unI fun _ _ _ _ _ q => neg_int q
/-! ### bools among ints: n += (a < b) -/
end

/-! ### comparisons -/
section
variable {X : Cx} {a b c : Expr} {ta tb tc : TE} {pos : Pos}
theorem fin_bl {pins : List (Addr × Obj)} {σ : St} {H : Hp} {s : Shared} {Q : VK} {k k' : Bool} (I : Inv X pins σ H s) (q : Q (.bl k) H) (e : k = k') : EP X pins σ Q (.bool k') s := by
  subst e
  exact ⟨.bl k, H, I, rfl, q⟩
theorem op_lt : OpR X (compareOp .Lt) (rI0 fun i j => .bl (decide (i < j))) := opB0 fun _ _ _ _ _ _ _ q => lt_int q
theorem op_le : OpR X (compareOp .LtE) (rI0 fun i j => .bl (decide (i ≤ j))) := opB0 fun _ _ _ _ _ _ _ q => le_int q
theorem op_gt : OpR X (compareOp .Gt) (rI0 fun i j => .bl (decide (j < i))) := opB0 fun _ _ _ _ _ _ _ q => gt_int q
theorem op_ge : OpR X (compareOp .GtE) (rI0 fun i j => .bl (decide (j ≤ i))) := opB0 fun _ _ _ _ _ _ _ q => ge_int q
/-- the one string within the other -/
theorem op_in_str : OpR X (compareOp .In) (fun x y H Q => ∃ i j, x = .str i ∧ y = .str j ∧ Q (.bl (!(Builtin.Str.occurrences j i 0 j.length 1).isEmpty)) H) := by
  intro pins s σ H x y v u Q I rx ry h
  obtain ⟨i, j, rfl, rfl, q⟩ := h
  obtain ⟨t, rfl⟩ := rx
  obtain ⟨t', rfl⟩ := ry
  exact in_str (fin_bl I q rfl)

/-- is None, is not None: the right side a value none -/
theorem op_isN : OpR X (compareOp .Is) (fun x y H Q => y = .non ∧ Q (.bl (decide (x = .non))) H) := by
  intro pins s σ H x y v u Q I rx ry h
  obtain ⟨rfl, q⟩ := h
  cases ry
  refine is_none_gen (fin_bl I q ?_)
  cases x <;> first
    | (cases rx; rfl)
    | (obtain ⟨t, rfl⟩ := rx; rfl)
theorem op_notN : OpR X (compareOp .IsNot) (fun x y H Q => y = .non ∧ Q (.bl (!decide (x = .non))) H) := by
  intro pins s σ H x y v u Q I rx ry h
  obtain ⟨rfl, q⟩ := h
  cases ry
  refine isnot_none_gen (fin_bl I q ?_)
  cases x <;> first
    | (cases rx; rfl)
    | (obtain ⟨t, rfl⟩ := rx; rfl)

/-- two rules for one operation: by cases -/
theorem OpR.or {f : Value → Value → Sem Value} {r r' : R2} (h : OpR X f r) (h' : OpR X f r') : OpR X f (fun x y H Q => r x y H Q ∨ r' x y H Q) := by
  intro pins s σ H x y v u Q I rx ry q
  rcases q with q | q
  · exact h pins s σ H x y v u Q I rx ry q
  · exact h' pins s σ H x y v u Q I rx ry q

theorem nomark (b : Expr) {op : CmpOp} (h : op ≠ .In := by decide) (h2 : op ≠ .NotIn := by decide) : behindInMarks op b = false := by
  have e1 : (op == CmpOp.In) = false := by cases op <;> first | rfl | exact absurd rfl h
  have e2 : (op == CmpOp.NotIn) = false := by cases op <;> first | rfl | exact absurd rfl h2
  cases b <;> simp [behindInMarks, e1, e2]
/-- a comparison as a value; hm: nomark b, or (for in, not in) by with_unfolding_all rfl -/
theorem pe_cmpR {op : CmpOp} {r : R2} (ho : OpR X (compareOp op) r) (ha : PE X a ta) (hb : PE X b tb) (hm : behindInMarks op b = false) : PE X (.Compare a [op] [b] pos) (tOp r ta tb) := by
  intro pins s σ H Q I h
  exact wpAny_Compare1 (binT ha hb I h fun v u s2 x y H2 I2 rx ry q => ho pins s2 σ H2 x y v u Q I2 rx ry q) hm
/-- a reading of a value as a test -/
def tTest (t : TE) : TT := fun σ H Q => t σ H fun x H' => ∃ k, x = .bl k ∧ Q k H'
theorem pt_cmpR {op : CmpOp} {r : R2} (ho : OpR X (compareOp op) r) (ha : PE X a ta) (hb : PE X b tb) (hm : behindInMarks op b = false) : PT X (.Compare a [op] [b] pos) (tTest (tOp r ta tb)) := by
  intro pins s σ H Q I h
  refine wpAny_isTrue_Compare1 (thn (ha pins s σ H _ I h) fun v s1 ⟨x, H1, I1, r1, q1⟩ => thn (hb pins s1 σ H1 _ I1 q1) fun u s2 ⟨y, H2, I2, r2, q2⟩ =>
    thn (ho pins s2 σ H2 x y v u _ I2 r1 r2 q2) fun c s3 ⟨z, H3, I3, r3, k, e, q3⟩ => ?_) hm
  subst e
  cases r3
  exact wpAny_truthy_bool ⟨H3, I3, q3⟩
/-! ### truth -/
/-- a value's truth by the abstract heap -/
def TruV (K : PySem.W.Frag) (x : V) (H : Hp) (k : Bool) : Prop :=
  match x with
  | .non => k = false
  | .bl b => k = b
  | .int i => k = (i != 0)
  | .str y => y.length ≤ sizeLine ∧ k = ((y.length : Int) != 0)
  | .byt y => y.size ≤ sizeLine ∧ k = ((y.size : Int) != 0)
  | .ref p => (∃ xs, SqL K H p xs ∧ k = !xs.isEmpty) ∨ (∃ xs, SqT K H p xs ∧ k = !xs.isEmpty) ∨ ∃ kvs, H p = some (.dK kvs) ∧ k = !kvs.isEmpty
  | _ => False
theorem isEmpty_kv {κ : Type} {kvs : List (κ × V)} {vs : List (κ × Value)} (r : KV kvs vs) : (!vs.isEmpty) = !kvs.isEmpty := by
  cases r <;> rfl
theorem isEmpty_of {xs : List V} {its : List Value} (r : Vals xs its) : (!its.toArray.isEmpty) = !xs.isEmpty := by
  cases r <;> simp
theorem line63 : (sizeLine : Nat) < 2 ^ 63 := by rw [sizeLine_eq]; decide
theorem tru_ok : TruR X (fun x H Q => ∃ k, TruV X.K x H k ∧ Q k H) := by
  intro pins s σ H x v Q I rx h
  obtain ⟨k, e, q⟩ := h
  have hl := line63
  have hs : sizeLine = 16777216 := sizeLine_eq
  cases x with
  | non =>
    cases rx
    have e' : k = false := e
    subst e'
    exact truthy_none ⟨H, I, q⟩
  | bl b =>
    cases rx
    have e' : k = b := e
    subst e'
    exact wpAny_truthy_bool ⟨H, I, q⟩
  | int i =>
    obtain ⟨t, rfl⟩ := rx
    have e' : k = (i != 0) := e
    subst e'
    exact PySem.P.truthy_int ⟨H, I, q⟩
  | str y =>
    obtain ⟨t, rfl⟩ := rx
    obtain ⟨hy, e'⟩ : y.length ≤ sizeLine ∧ k = ((y.length : Int) != 0) := e
    subst e'
    exact PySem.P.truthy_str (by omega) ⟨H, I.tok _, q⟩
  | byt y =>
    obtain ⟨t, rfl⟩ := rx
    obtain ⟨hy, e'⟩ : y.size ≤ sizeLine ∧ k = ((y.size : Int) != 0) := e
    subst e'
    exact PySem.W.truthy_bytes (by omega) ⟨H, I.tok _, q⟩
  | ref p =>
    cases rx
    have e' : (∃ xs, SqL X.K H p xs ∧ k = !xs.isEmpty) ∨ (∃ xs, SqT X.K H p xs ∧ k = !xs.isEmpty) ∨ ∃ kvs, H p = some (.dK kvs) ∧ k = !kvs.isEmpty := e
    rcases e' with ⟨xs, hx, e'⟩ | ⟨xs, hx, e'⟩ | ⟨kvs, hx, e'⟩
    · subst e'
      obtain ⟨its, r, pl, hz⟩ := I.list hx
      have hlen := r.length
      exact wpAny_truthy_list pl.isList (by simp only [List.size_toArray]; omega) ⟨H, I.tok _, by rw [isEmpty_of r]; exact q⟩
    · subst e'
      obtain ⟨its, r, pl, hz⟩ := I.tuple hx
      have hlen := r.length
      exact truthy_tuple pl (by simp only [List.size_toArray]; omega) ⟨H, I.tok _, by rw [isEmpty_of r]; exact q⟩
    · subst e'
      obtain ⟨hz, hS, vs, r, m⟩ : kvs.length ≤ sizeLine ∧ (p == sysModules) = false ∧ ∃ vs, KV kvs vs ∧ s.heap.DictOf (mixKind X.prog X.w) p vs := I.hok p _ hx
      have hlen : kvs.length = vs.length := Paired.length r
      exact wpAny_truthy_dict hS m (by omega) ⟨H, I.tok _, by rw [isEmpty_kv r]; exact q⟩
  | _ => exact (show False from e).elim
/-- any expression whose test is its value's truth (a name, a call, a subscript, a field ..: he by fun _ => rfl) -/
theorem pt_truth (ha : PE X a ta) (he : ∀ whole, isTrue a X.env whole = (do let v ← whole; standAt a.pos; holding [v] (truthy v))) :
    PT X a (fun σ H Q => ta σ H fun x H' => ∃ k, TruV X.K x H' k ∧ Q k H') := by
  intro pins s σ H Q I h
  exact isTrue_plain (thn (ha pins s σ H _ I h) fun v s1 ⟨x, H1, I1, r1, q1⟩ => tru_ok pins s1 σ H1 x v Q I1 r1 q1) (he _)

/-! ### strs and bytes -/
theorem op_add_str : OpR X (binaryOp .Add) (fun x y H Q => ∃ i j, x = .str i ∧ y = .str j ∧ i.length + j.length ≤ sizeLine ∧ Q (.str (i ++ j)) H) := by
  intro pins s σ H x y v u Q I rx ry h
  obtain ⟨i, j, rfl, rfl, hz, q⟩ := h
  obtain ⟨t, rfl⟩ := rx
  obtain ⟨t', rfl⟩ := ry
  exact add_str (fun t' tk => ⟨.str (i ++ j), H, I.tok _, ⟨_, rfl⟩, q⟩) hz
/-! ### scalar builtins, by CallR -/
theorem vals1 {x : V} {us : List Value} (r : Vals [x] us) : ∃ u, us = [u] ∧ RelV x u := by
  cases r with
  | cons r1 r2 => cases r2; exact ⟨_, rfl, r1⟩
theorem vals2 {x y : V} {us : List Value} (r : Vals [x, y] us) : ∃ u w', us = [u, w'] ∧ RelV x u ∧ RelV y w' := by
  cases r with
  | cons r1 r2 =>
    cases r2 with
    | cons r3 r4 => cases r4; exact ⟨_, _, rfl, r1, r3⟩
theorem call_max2 (hc : X.calm = true) : CallR X (.builtin "max") (fun xs H Q => ∃ i j, xs = [.int i, .int j] ∧ Q (.int (if j > i then j else i)) H) := by
  intro pins s σ H xs us Q I r h
  obtain ⟨i, j, rfl, q⟩ := h
  obtain ⟨u, w', rfl, ⟨t, rfl⟩, ⟨t', rfl⟩⟩ := vals2 r
  refine max_two_ints (I.ok.hd hc) fun h' tk k => ⟨_, H, I.kept k, ?_, q⟩
  by_cases hj : j > i
  · rw [if_pos hj, if_pos hj]; exact ⟨_, rfl⟩
  · rw [if_neg hj, if_neg hj]; exact ⟨_, rfl⟩
theorem call_min2 (hc : X.calm = true) : CallR X (.builtin "min") (fun xs H Q => ∃ i j, xs = [.int i, .int j] ∧ Q (.int (if j < i then j else i)) H) := by
  intro pins s σ H xs us Q I r h
  obtain ⟨i, j, rfl, q⟩ := h
  obtain ⟨u, w', rfl, ⟨t, rfl⟩, ⟨t', rfl⟩⟩ := vals2 r
  refine min_two_ints (I.ok.hd hc) fun h' tk k => ⟨_, H, I.kept k, ?_, q⟩
  by_cases hj : j < i
  · rw [if_pos hj, if_pos hj]; exact ⟨_, rfl⟩
  · rw [if_neg hj, if_neg hj]; exact ⟨_, rfl⟩
theorem call_int1 : CallR X (.type "int") (fun xs H Q => (∃ i, xs = [.int i] ∧ Q (.int i) H) ∨ ∃ k, xs = [.bl k] ∧ Q (.int (if k then 1 else 0)) H) := by
  intro pins s σ H xs us Q I r h
  rcases h with ⟨i, rfl, q⟩ | ⟨k, rfl, q⟩
  · obtain ⟨u, rfl, t, rfl⟩ := vals1 r
    exact call_int_int ⟨.int i, H, I, ⟨_, rfl⟩, q⟩
  · obtain ⟨u, rfl, r1⟩ := vals1 r
    cases r1
    exact call_int_bool ⟨.int (if k then 1 else 0), H, I.tok _, ⟨_, rfl⟩, q⟩
end
end L2

namespace L2
open PySem PySem.Spec PyProof.Rows

/-! ### an instance, its attributes a map -/
structure ObjM (h : Heap) (x dx C : Addr) (mA : Str → Option Value) : Prop where
  obj : h.get? x = some (PySem.W.instObj C dx)
  ns : h.Ns1 dx mA
  ne : dx ≠ x

theorem lookIn_ns {h : Heap} {dx : Addr} {mA : Str → Option Value} (n : h.Ns1 dx mA) : ∃ od, h.get? dx = some od ∧ ∀ name, PySem.W.lookIn name od = some (mA name) := by
  obtain ⟨o, es, ep, ho, hd, hk, _, hm⟩ := n
  refine ⟨o, ho, fun name => ?_⟩
  have e := hm name
  unfold nsFind findBy at e
  rw [← Array.find?_toList] at e
  unfold PySem.W.lookIn
  rw [hd]
  dsimp only
  split
  · rename_i y q
    rw [q] at e
    exact congrArg some e
  · rename_i q
    rw [q] at e
    have a : es.toList.any (·.refKey) = false := by
      rw [List.any_eq_false]
      intro y hy
      obtain ⟨z, t, hkey⟩ := hk y (Array.mem_toList_iff.mp hy)
      simp [DictEntry.refKey, hkey]
    have a' : ¬ es.toList.any (·.refKey) = true := by rw [a]; exact Bool.false_ne_true
    rw [if_neg a']
    exact congrArg some e

theorem ObjM.look {h : Heap} {x dx C : Addr} {mA : Str → Option Value} (I : ObjM h x dx C mA) : ∃ od, PySem.W.InstAt h x (PySem.W.instObj C dx) C (some od) ∧ ∀ name, PySem.W.lookIn name od = some (mA name) :=
  let ⟨od, ho, hl⟩ := lookIn_ns I.ns
  ⟨od, ⟨I.obj, rfl, rfl, ho⟩, hl⟩

section
variable {prog : Program} {w : World} {A : Around} {E : Value → Shared → Prop} {s : Shared} {K : PySem.W.Frag} {x dx C f : Addr} {mA : Str → Option Value} {name : Str} {v : Value}

theorem get_map {expr : Bool} {Q : Value → Shared → Prop} (X : K.In s.heap) (I : ObjM s.heap x dx C mA) (hg : PySem.W.plainGet K C name = true) (hh : PySem.W.hasDictIn K C = true)
    (ha : PySem.W.findIn K (.ref C) name = some none) (hv : mA name = some v) (hv' : PySem.W.handedIn v = true) (h : Q v { s with toks := s.toks + 1 }) :
    wpAny (model prog w) A (getAttr (.ref x) name expr) Q E s := by
  obtain ⟨od, J, hl⟩ := I.look
  exact PySem.W.get_value X J (PySem.W.plainGet_of hg).1 (PySem.W.findObj_own hh ha rfl (by rw [hl, hv])) hv' h

theorem get_meth {pl : Sem Bool} {Q : Value × List Value → Shared → Prop} (X : K.In s.heap) (I : ObjM s.heap x dx C mA) (hg : PySem.W.plainGet K C name = true)
    (hf : PySem.W.findIn K (.ref C) name = some (some (.ref f))) (ht : PySem.W.isFn K (.ref f) = true) (hv : mA name = none) (h : Q (.ref f, [.ref x]) s) :
    wpAny (model prog w) A (getMethod (.ref x) name pl) Q E s := by
  obtain ⟨od, J, hl⟩ := I.look
  exact PySem.W.method_fn X J (PySem.W.plainGet_of hg).1 (PySem.W.plainGet_of hg).2 hf (beq_iff_eq.mp ht) (by show (PySem.W.lookIn name od).map (·.isSome) = some false; rw [hl, hv]; rfl) h

theorem set_map {ns : List Str} {Q : Unit → Shared → Prop} (X : K.In s.heap) (I : ObjM s.heap x dx C mA)
    (hs : PySem.W.findIn K (.ref C) "__setattr__" = some (some (.builtin "object.__setattr__"))) (hp : PySem.W.plainOver K C = true) (ht : PySem.W.takerIn K C name = some none) (hh : PySem.W.hasDictIn K C = true)
    (hw : PySem.Within mA ns) (hsz : ns.length ≤ sizeLine)
    (h : ∀ h', ObjM h' x dx C (fun y => if y = name then some v else mA y) → Heap.SameBut dx s.heap h' → Q () { s with heap := h', toks := s.toks + 2 }) :
    wpAny (model prog w) A (setAttr (.ref x) name v) Q E s := by
  obtain ⟨od, J, hl⟩ := I.look
  refine PySem.W.set_plain X J hs (PySem.W.osa_open (s := { s with toks := s.toks + 1 }) (r := none) X J hp ht fun b => ?_)
  obtain ⟨cd, hc, hd'⟩ := PySem.W.any_some hh
  have hx : s.heap.get? x = some ⟨.ref C, some dx, .plain, #[]⟩ := I.obj
  refine wpAny_bind (wpAny_pure (wpAny_bind (wpAny_bind (wpAny_loadPart hx (wpAny_bind (PySem.W.Looks.here (s := { s with toks := s.toks + 1 }) (PySem.W.looks_clsIn X hc) ?_))))))
  rw [hd']
  refine wpAny_pure (a := some dx) (wpAny_bind (wpAny_pure (wpAny_bind ?_)))
  refine wpAny_nsSet1 (s := { s with toks := s.toks + 1 }) I.ns fun h' hn2 hs2 => ?_
  obtain ⟨oD, esD, epD, hoD, hdD, hcD⟩ := hn2.count (PySem.Within.cons name v hw)
  refine wpAny_bind (wpAny_lookBehind hoD (by rw [hdD]; exact pastItsLine_dict (Nat.le_trans hcD (by rw [List.length_cons]; omega))) ?_)
  exact wpAny_pure (h _ ⟨(hs2.2 _ (Ne.symm I.ne)).trans I.obj, hn2, I.ne⟩ hs2)

/-- C(..): the dict at the heap's end, the instance behind it; then its __init__ -/
theorem make_map {R : Result → Shared → Prop} {vs : List Value} {kw : List (Str × Value)} (X : K.In s.heap) (hm : PySem.W.makesIn K C = true)
    (hi : PySem.W.findIn K (.ref C) "__init__" = some (some (.ref f))) (hf : PySem.W.typeIn K (.ref f) = some (.type "function"))
    (h : codeAny (model prog w) (A.under (.builtin "type.__call__" ⟨.ref C :: vs, kw⟩)) (.call (.ref f) ⟨.ref (s.heap.objs.size + 1) :: vs, kw⟩) (PySem.W.InitBack (s.heap.objs.size + 1) R)
      { s with heap := (s.heap.push PySem.W.emptyDict).push (PySem.W.instObj C s.heap.objs.size) }) :
    codeAny (model prog w) A (.call (.ref C) ⟨vs, kw⟩) R s := by
  obtain ⟨hh, g, d, t, os⟩ := s
  exact PySem.W.make_core (PySem.W.makes_of X hm) (PySem.W.looks_findIn X hi) (fun self => PySem.W.bind_fn X self hf) (.inl rfl) h
end

/-! ### the attributes as a list of pairs -/
def putF (f : Str) (v : V) : List (Str × V) → List (Str × V)
  | [] => [(f, v)]
  | (g, x) :: r => if g = f then (g, v) :: r else (g, x) :: putF f v r
theorem lookup_putF (f g : Str) (v : V) : ∀ fs : List (Str × V), (putF f v fs).lookup g = if g = f then some v else fs.lookup g
  | [] => by
    show List.lookup g [(f, v)] = _
    by_cases h : g = f
    · have hb : (g == f) = true := beq_iff_eq.mpr h
      simp only [List.lookup, hb, if_pos h]
    · have hb : (g == f) = false := beq_eq_false_iff_ne.mpr h
      simp only [List.lookup, hb, if_neg h]
  | (k, x) :: r => by
    have ih := lookup_putF f g v r
    rw [show putF f v ((k, x) :: r) = (if k = f then (k, v) :: r else (k, x) :: putF f v r) from rfl]
    by_cases hk : k = f
    · rw [if_pos hk]
      by_cases h : g = k
      · have hb : (g == k) = true := beq_iff_eq.mpr h
        simp only [List.lookup, hb, if_pos (h.trans hk)]
      · have hb : (g == k) = false := beq_eq_false_iff_ne.mpr h
        simp only [List.lookup, hb, if_neg (fun e : g = f => h (e.trans hk.symm))]
    · rw [if_neg hk]
      by_cases h : g = k
      · have hb : (g == k) = true := beq_iff_eq.mpr h
        simp only [List.lookup, hb, if_neg (fun e : g = f => hk (h.symm.trans e))]
      · have hb : (g == k) = false := beq_eq_false_iff_ne.mpr h
        simp only [List.lookup, hb]
        exact ih
theorem keys_putF (f : Str) (v : V) : ∀ fs : List (Str × V), f ∈ (putF f v fs).map (·.1) ∧ ∀ g, g ∈ fs.map (·.1) → g ∈ (putF f v fs).map (·.1)
  | [] => ⟨by simp [putF], fun g h => by simp at h⟩
  | (k, x) :: r => by
    obtain ⟨i1, i2⟩ := keys_putF f v r
    rw [show putF f v ((k, x) :: r) = (if k = f then (k, v) :: r else (k, x) :: putF f v r) from rfl]
    by_cases hk : k = f
    · rw [if_pos hk]
      subst hk
      exact ⟨by simp, fun g h => by simpa using h⟩
    · rw [if_neg hk]
      refine ⟨?_, fun g h => ?_⟩
      · rw [List.map_cons]
        exact List.mem_cons_of_mem _ i1
      · rw [List.map_cons] at h ⊢
        rcases List.mem_cons.mp h with e | e
        · exact List.mem_cons.mpr (.inl e)
        · exact List.mem_cons_of_mem _ (i2 g e)
theorem length_putF (f : Str) (v : V) : ∀ fs : List (Str × V), (putF f v fs).length ≤ fs.length + 1
  | [] => by simp [putF]
  | (k, x) :: r => by
    have ih := length_putF f v r
    rw [show putF f v ((k, x) :: r) = (if k = f then (k, v) :: r else (k, x) :: putF f v r) from rfl]
    by_cases hk : k = f
    · rw [if_pos hk, List.length_cons, List.length_cons]; omega
    · rw [if_neg hk, List.length_cons, List.length_cons]; omega

theorem RelO.some_of {v : V} {o : Option Value} (r : RelO (some v) o) : ∃ u, o = some u ∧ RelV v u := by
  cases o with
  | none => exact (show False from r).elim
  | some u => exact ⟨u, rfl, r⟩
theorem RelO.none_of {o : Option Value} (r : RelO none o) : o = none := by
  cases o with
  | none => rfl
  | some u => exact (show False from r).elim
theorem handed_of {v : V} {u : Value} (r : RelV v u) : PySem.W.handedIn u = true := by
  cases v with
  | non => cases (show u = Value.none from r); rfl
  | bl b => cases (show u = Value.bool b from r); rfl
  | int i => obtain ⟨t, e⟩ := (show ∃ t, u = Value.int i t from r); cases e; rfl
  | str x => obtain ⟨t, e⟩ := (show ∃ t, u = Value.str x t from r); cases e; rfl
  | byt b => obtain ⟨t, e⟩ := (show ∃ t, u = Value.bytes b t from r); cases e; rfl
  | flt b => obtain ⟨t, e⟩ := (show ∃ t, u = Value.float b t from r); cases e; rfl
  | ref a => cases (show u = Value.ref a from r); rfl
  | ty n => cases (show u = Value.type n from r); rfl

section
variable {P : Program} {w : World} {H H' : Hp} {h h' : Heap} {a C dx : Addr} {fs fs' : List (Str × V)}
theorem ins_get (hok : HOk P w H h) (e : H a = some (.ins C dx fs)) : ∃ mA, ObjM h a dx C mA ∧ (∀ f, RelO (fs.lookup f) (mA f)) ∧ PySem.Within mA (fs.map (·.1)) ∧ fs.length ≤ 1000 ∧ H dx = some (.own a) := by
  obtain ⟨d, z, ne, ob, mA, n, r, q⟩ := (show ObjOk P w H h a (.ins C dx fs) from hok a _ e)
  exact ⟨mA, ⟨ob, n, ne⟩, r, q, z, d⟩
end

/-! ### what of the text a class must have -/
structure Cls (K : PySem.W.Frag) (C : Addr) : Prop where
  pg : PySem.W.plainGet K C Str.empty = true
  hd : PySem.W.hasDictIn K C = true
  po : PySem.W.plainOver K C = true
  sa : PySem.W.findIn K (.ref C) "__setattr__" = some (some (.builtin "object.__setattr__"))
theorem Cls.get {K : PySem.W.Frag} {C : Addr} (c : Cls K C) (f : Str) : PySem.W.plainGet K C f = true := c.pg
/-- no class of it has the name -/
def NoAttr (K : PySem.W.Frag) (C : Addr) (f : Str) : Prop := PySem.W.findIn K (.ref C) f = some none
theorem NoAttr.taker {K : PySem.W.Frag} {C : Addr} {f : Str} (n : NoAttr K C f) : PySem.W.takerIn K C f = some none := by
  unfold PySem.W.takerIn
  rw [show PySem.W.findIn K (.ref C) f = some none from n]
  rfl
/-- a method: a plain def of the class or of one above it -/
structure Meth (K : PySem.W.Frag) (C : Addr) (m : Str) (f : Addr) : Prop where
  at_ : PySem.W.findIn K (.ref C) m = some (some (.ref f))
  fn : PySem.W.isFn K (.ref f) = true
  kp : PySem.W.keepIn K (.ref f) = true

section
variable {X : Cx} {pins : List (Addr × Obj)} {σ : St} {H : Hp} {s : Shared} {a C dx : Addr} {fs : List (Str × V)} {f : Str} {v : V} {A : Around} {E : Value → Shared → Prop}

theorem getattr_ok {b : Bool} {Q : Value → Shared → Prop} (I : Inv X pins σ H s) (e : H a = some (.ins C dx fs)) (c : Cls X.K C) (n : NoAttr X.K C f) (l : fs.lookup f = some v)
    (h : ∀ u s', Inv X pins σ H s' → RelV v u → Q u s') : wpAny (model X.prog X.w) A (getAttr (.ref a) f b) Q E s := by
  obtain ⟨mA, O, r, _, _, _⟩ := ins_get I.hok e
  obtain ⟨u, hu, ru⟩ := RelO.some_of (v := v) (o := mA f) (by rw [← l]; exact r f)
  exact get_map I.kIn O (c.get f) c.hd n hu (handed_of ru) (h u _ (I.tok _) ru)

theorem getmeth_ok {m : Str} {g : Addr} {pl : Sem Bool} {Q : Value × List Value → Shared → Prop} (I : Inv X pins σ H s) (e : H a = some (.ins C dx fs)) (c : Cls X.K C) (k : Meth X.K C m g) (l : fs.lookup m = none)
    (h : Q (.ref g, [.ref a]) s) : wpAny (model X.prog X.w) A (getMethod (.ref a) m pl) Q E s := by
  obtain ⟨mA, O, r, _, _, _⟩ := ins_get I.hok e
  have hn : mA m = none := RelO.none_of (by rw [← l]; exact r m)
  exact get_meth I.kIn O (c.get m) k.at_ k.fn hn h

theorem setattr_ok {y : V} {u : Value} {Q : Unit → Shared → Prop} (I : Inv X pins σ H s) (e : H a = some (.ins C dx fs)) (c : Cls X.K C) (n : NoAttr X.K C f) (hl : fs.length < 1000) (ry : RelV y u)
    (h : ∀ s', Inv X pins σ (upd H a (.ins C dx (putF f y fs))) s' → Q () s') : wpAny (model X.prog X.w) A (setAttr (.ref a) f u) Q E s := by
  obtain ⟨mA, O, r, wi, _, ho⟩ := ins_get I.hok e
  have hz : (fs.map (·.1)).length ≤ sizeLine := by rw [List.length_map, sizeLine_eq]; omega
  refine set_map I.kIn O c.sa c.po n.taker c.hd wi hz fun h' O' sb => h _ ?_
  have hd : ∃ o, h'.get? dx = some o := let ⟨o, _, _, e', _⟩ := O'.ns; ⟨o, e'⟩
  refine I.write (x := a) (e := dx) (by rw [e]; exact True.intro) (.inr ho) (fun b q hb z => (sb.2 b hb).trans z) hd ?_
  refine ⟨by rw [upd_ne O.ne]; exact ho, ?_, O.ne, O'.obj, _, O'.ns, fun g => ?_, fun g hg => ?_⟩
  · have := length_putF f y fs; omega
  · show RelO ((putF f y fs).lookup g) (if g = f then some u else mA g)
    rw [lookup_putF]
    by_cases q : g = f
    · rw [if_pos q, if_pos q]; exact ry
    · rw [if_neg q, if_neg q]; exact r g
  · by_cases q : g = f
    · rw [q]; exact (keys_putF f y fs).1
    · refine (keys_putF f y fs).2 g (wi g fun z => hg ?_)
      show (if g = f then some u else mA g) = none
      rw [if_neg q]; exact z

/-- a new instance, tracked, without attributes -/
theorem Inv.made (I : Inv X pins σ H s) : Inv X pins σ (upd (upd H s.heap.objs.size (.own (s.heap.objs.size + 1))) (s.heap.objs.size + 1) (.ins C s.heap.objs.size []))
    { s with heap := (s.heap.push PySem.W.emptyDict).push (PySem.W.instObj C s.heap.objs.size) } := by
  have e1 : (s.heap.push PySem.W.emptyDict).get? s.heap.objs.size = some PySem.W.emptyDict := Heap.get?_push_size s.heap rfl
  have e2 : ((s.heap.push PySem.W.emptyDict).push (PySem.W.instObj C s.heap.objs.size)).get? (s.heap.objs.size + 1) = some (PySem.W.instObj C s.heap.objs.size) := by
    have := Heap.get?_push_size (s.heap.push PySem.W.emptyDict) (o := PySem.W.instObj C s.heap.objs.size) rfl
    rwa [Heap.size_push] at this
  have e3 : (s.heap.push PySem.W.emptyDict).Ns s.heap.objs.size (fun _ => none) := ⟨PySem.W.emptyDict, #[], _, e1, rfl, (fun e he => absurd he (by simp)), fun _ => rfl⟩
  have I1 := I.laid (a := s.heap.objs.size) (o := .own (s.heap.objs.size + 1)) (h' := s.heap.push PySem.W.emptyDict) (t' := s.toks) (fun b u q => Heap.get?_push_of_some _ q) (Nat.le_refl _) ⟨_, e1⟩
  refine I1.laid (a := s.heap.objs.size + 1) (o := .ins C s.heap.objs.size []) (t' := s.toks) (fun b u q => Heap.get?_push_of_some _ q) (Nat.le_of_eq (Heap.size_push _ _)) ?_
  have ne : s.heap.objs.size ≠ s.heap.objs.size + 1 := Nat.ne_of_lt (Nat.lt_succ_self _)
  refine ⟨by rw [upd_ne ne, upd_same], Nat.zero_le _, ne, e2, fun _ => none, (Heap.Ns1.of_empty e3).at fun o q => Heap.get?_push_of_some _ q, fun _ => True.intro, fun y hy => absurd rfl hy⟩

/-- e.f where nothing but the object is asked: through attributeBase (super) and the last hold -/
theorem attr_of {prog : Program} {w : World} {env : Env} {e : Expr} {f : Str} {pos : Pos} {s : Shared} {Q : Value → Shared → Prop} (hb : attributeBase e f env (eval e env) = eval e env)
    (h : wpAny (model prog w) A (eval e env) (fun o s₁ => wpAny (model prog w) A (getAttr o f true) Q E s₁) E s) : wpAny (model prog w) A (eval (.Attribute e f pos) env) Q E s :=
  Attribute_any_ h (by rw [arm_eval_Attribute, hb])
end

/-! ### readings and rules -/
/-- e.f, an attribute of the instance -/
def tFld (K : PySem.W.Frag) (ta : TE) (f : Str) : TE := fun σ H Q => ta σ H fun x H1 => ∃ a C dx fs v, x = .ref a ∧ H1 a = some (.ins C dx fs) ∧ Cls K C ∧ NoAttr K C f ∧ fs.lookup f = some v ∧ Q v H1
/-- e.f = value -/
def sFld (K : PySem.W.Frag) (ta tv : TE) (f : Str) : TS := fun D σ H => tv σ H fun y H1 => ta σ H1 fun x H2 => ∃ a C dx fs, x = .ref a ∧ H2 a = some (.ins C dx fs) ∧ Cls K C ∧ NoAttr K C f ∧ fs.length < 1000 ∧
  D.nx σ (upd H2 a (.ins C dx (putF f y fs)))
section
variable {X : Cx} {o e value : Expr} {f : Str} {pos pos' tpos : Pos} {ta tv : TE}
theorem pe_fld (he : PE X e ta) (hb : attributeBase e f X.env (eval e X.env) = eval e X.env) : PE X (.Attribute e f pos) (tFld X.K ta f) := by
  intro pins s σ H Q I h
  refine attr_of hb (thn (he pins s σ H _ I h) fun u s1 ⟨x, H1, I1, rx, a, C, dx, fs, v, ex, ea, c, n, l, q⟩ => ?_)
  subst ex
  obtain rfl : u = Value.ref a := rx
  exact getattr_ok I1 ea c n l fun u' s2 I2 ru => ⟨v, H1, I2, ru, q⟩
theorem ps_fld (ha : PE X o ta) (hv : PE X value tv) (hs : swapsWith value (some (.Attribute o f pos')) pos.line X.env = pure false) : PS X (.Assign [.Attribute o f pos'] value pos) (sFld X.K ta tv f) := by
  intro pins s σ H D I h
  refine plainObj_wpAny_Assign_Attribute (thn (hv pins s σ H _ I h) fun u s1 ⟨y, H1, I1, ry, q⟩ => thn (ha pins s1 σ H1 _ I1 q) fun ov s2 ⟨x, H2, I2, rx, a, C, dx, fs, ex, ea, c, n, l, q2⟩ => ?_) hs
  subst ex
  obtain rfl : ov = Value.ref a := rx
  exact setattr_ok I2 ea c n l ry fun s3 I3 => ⟨σ, _, I3, q2⟩
end

/-! ### isinstance -/
section
variable {X : Cx} {pins : List (Addr × Obj)} {σ : St} {H : Hp} {s : Shared} {A : Around} {E : Value → Shared → Prop} {Q : Value → Shared → Prop} {c : Value} {b : Bool}
end
end L2

namespace L2
open PySem PySem.Spec PyProof.Rows

/-! ### room -/
structure Room (k : Nat) (A : Around) : Prop where
  hd : A.handled = none
  dp : A.depth + 3 * k + 5 < recursionLimit
  un : A.units + 16 * k + 200 < cLine
theorem Room.mono {j k : Nat} {A : Around} (r : Room k A) (h : j ≤ k) : Room j A := ⟨r.hd, by have := r.dp; omega, by have := r.un; omega⟩
theorem Room.deeper {k : Nat} {A : Around} (r : Room (k + 1) A) (env : Env) : Room k (A.deeper env) :=
  ⟨r.hd, by have := r.dp; show A.depth + 1 + 3 * k + 5 < _; omega, by have := r.un; show A.units + 3 + 16 * k + 200 < _; omega⟩
theorem make_depth {A : Around} {C : Addr} {us : List Value} {kw : List (Str × Value)} : (A.under (.builtin "type.__call__" ⟨.ref C :: us, kw⟩)).depth = A.depth + 1 := by
  first | rfl | simp [Around.under, Code.weight, Code.isCreation, Code.isGuard, Code.isCaller, Code.frames, Code.isFrame, guardIds]
theorem make_units {A : Around} {C : Addr} {us : List Value} {kw : List (Str × Value)} : (A.under (.builtin "type.__call__" ⟨.ref C :: us, kw⟩)).units = A.units + 1 := by
  first | rfl | simp [Around.under, Code.cUnits, Code.frames, Code.isFrame]
theorem Room.make {k : Nat} {A : Around} (r : Room (k + 1) A) (C : Addr) (us : List Value) (kw : List (Str × Value)) : Room k (A.under (.builtin "type.__call__" ⟨.ref C :: us, kw⟩)) :=
  ⟨r.hd, by have := r.dp; rw [make_depth]; omega, by have := r.un; rw [make_units]; omega⟩
theorem Room.depth {k : Nat} {A : Around} (r : Room k A) : A.depth < recursionLimit := by have := r.dp; omega
theorem Room.units {k : Nat} {A : Around} (r : Room k A) : A.units + 64 < cLine := by have := r.un; omega
/-! ### argument lists and displays -/
def tNil : TA := fun _ H Q => Q [] H
def tCons (ta : TE) (tr : TA) : TA := fun σ H Q => ta σ H fun x H1 => tr σ H1 fun xs H2 => Q (x :: xs) H2
section
variable {X : Cx} {e : Expr} {es : List Expr} {te : TE} {t : TA} {pos : Pos}
theorem pa_nil : PA X [] tNil := fun _ _ _ _ H Q I h => Calls.spliced_nil ⟨[], H, I, .nil, h⟩
theorem pa_cons (ha : PE X e te) (hr : PA X es t) (hs : starEach (e :: es) X.env = (false, eval e X.env) :: starEach es X.env := by rfl) : PA X (e :: es) (tCons te t) := by
  intro pos pins s σ H Q I h
  rw [hs]
  show wpAny _ _ (spliced ((false, eval e X.env) :: backTo pos (starEach es X.env))) _ _ s
  refine Calls.spliced_cons (thn (ha pins s σ H _ I h) fun u s1 ⟨x, H1, I1, r1, q1⟩ => ?_)
  exact thn (hr pos pins s1 σ H1 _ I1 q1) fun us s2 ⟨xs, H2, I2, r2, q2⟩ => ⟨x :: xs, H2, I2, .cons r1 r2, q2⟩

/-- a tuple, a list of written items -/
def tTup (t : TA) : TE := fun σ H Q => t σ H fun xs H1 => xs.length ≤ sizeLine ∧ ∀ p, H1 p = none → Q (.ref p) (upd H1 p (.tup xs))
def tLst (t : TA) : TE := fun σ H Q => t σ H fun xs H1 => xs.length ≤ sizeLine ∧ ∀ p, H1 p = none → Q (.ref p) (upd H1 p (.lst xs))
theorem pe_tup {x1} (h : PA X es t) : PE X (.Tuple es x1 pos) (tTup t) := by
  intro pins s σ H Q I hq
  refine wpAny_Tuple_spliced (thn (h pos pins s σ H _ I hq) fun us s1 ⟨xs, H1, I1, r, z, q⟩ => ⟨by rw [← r.length]; exact z, ?_⟩)
  have hf : H1 s1.heap.objs.size = none := I1.hok.fresh (Nat.le_refl _)
  refine ⟨.ref s1.heap.objs.size, upd H1 s1.heap.objs.size (.tup xs), I1.laid (t' := s1.toks) (fun b u e => Heap.get?_push_of_some _ e) (Nat.le_refl _) ?_, rfl, q _ hf⟩
  exact ⟨z, us, r, ⟨_, Heap.get?_push_size _ rfl, rfl, _, rfl⟩⟩
theorem pe_lst (h : PA X es t) : PE X (.List es pos) (tLst t) := by
  intro pins s σ H Q I hq
  refine wpAny_List_spliced (thn (h pos pins s σ H _ I hq) fun us s1 ⟨xs, H1, I1, r, z, q⟩ => ⟨by rw [← r.length]; exact z, ?_⟩)
  have hf : H1 s1.heap.objs.size = none := I1.hok.fresh (Nat.le_refl _)
  refine ⟨.ref s1.heap.objs.size, upd H1 s1.heap.objs.size (.lst xs), I1.laid (t' := s1.toks) (fun b u e => Heap.get?_push_of_some _ e) (Nat.le_refl _) ?_, rfl, q _ hf⟩
  exact ⟨z, us, 0, r, Heap.get?_push_size _ rfl⟩
end

/-! ### what a def promises -/
/-- a def's promise: the bound arguments in the parameters' order, the heap, the wanted end, the wanted exception -/
abbrev Sp := List V → Hp → VK → XK → Prop
/-- how an exception lies behind a call (file 08 gives it): the callers' frames, abstract heap and state ahead of the call, the wish, the exception, the state -/
abbrev CXT := List Env → Hp → Shared → XK → Value → Shared → Prop

/-- the state at a call -/
structure Env0 (P : Program) (w : World) (K : PySem.W.Frag) (mg : Str → Option Value) (base : Heap) (A : Around) (outer : List Env) (s : Shared) (H : Hp) : Prop where
  frames : A.frames = some outer
  mod : Mod K mg base
  bs : ∀ b o, base.get? b = some o → s.heap.get? b = some o ∧ H b = none
  bsz : base.objs.size ≤ s.heap.objs.size
  funs : s.heap.FunFrames base outer
  frf : ∀ b ∈ frs outer, H b = none
  hok : HOk P w H s.heap
  bare : AllBare s.gens
/-- a call's end -/
def CE (outer : List Env) (P : Program) (w : World) (H : Hp) (s : Shared) (Q : VK) (u : Value) (s' : Shared) : Prop :=
  ∃ v H', s'.os = s.os ∧ AllBare s'.gens ∧ Un (frs outer) [] H H' s.heap s'.heap ∧ HOk P w H' s'.heap ∧ RelV v u ∧ Q v H'
def CR (CX : CXT) (outer : List Env) (P : Program) (w : World) (H : Hp) (s : Shared) (Q : VK) (E : XK) (r : Result) (s' : Shared) : Prop :=
  match r with
  | .ok (.ret u) => CE outer P w H s Q u s'
  | .ok _ => False
  | .error e => CX outer H s E e s'
structure FnOk (P : Program) (w : World) (K : PySem.W.Frag) (mg : Str → Option Value) (base : Heap) (CX : CXT) (k : Nat) (f : Addr) (fd : FuncData) (ps : List Str) (sp : Sp) : Prop where
  len : ∀ vs H Q E, sp vs H Q E → vs.length = ps.length
  run : ∀ (A : Around) (outer : List Env) (s : Shared) (H : Hp) (args : Args) (us : List Value) (vs : List V) (Q : VK) (E : XK), Room k A → Env0 P w K mg base A outer s H → BindsTo s fd args (ps.zip us) → Vals vs us → sp vs H Q E →
    codeAny (model P w) A (.call (.ref f) args) (CR CX outer P w H s Q E) s
theorem FnOk.mono {P : Program} {w : World} {K : PySem.W.Frag} {mg : Str → Option Value} {base : Heap} {CX : CXT} {j k : Nat} {f : Addr} {fd : FuncData} {ps : List Str} {sp : Sp} (F : FnOk P w K mg base CX j f fd ps sp) (h : j ≤ k) :
    FnOk P w K mg base CX k f fd ps sp := ⟨F.len, fun A outer s H args us vs Q E hr => F.run A outer s H args us vs Q E (hr.mono h)⟩
/-- a weaker promise -/
theorem FnOk.imp {P : Program} {w : World} {K : PySem.W.Frag} {mg : Str → Option Value} {base : Heap} {CX : CXT} {k : Nat} {f : Addr} {fd : FuncData} {ps : List Str} {sp sp' : Sp} (F : FnOk P w K mg base CX k f fd ps sp)
    (h : ∀ vs H Q E, sp' vs H Q E → sp vs H Q E) : FnOk P w K mg base CX k f fd ps sp' :=
  ⟨fun vs H Q E q => F.len vs H Q E (h _ _ _ _ q), fun A outer s H args us vs Q E hr he hb hv hs => F.run A outer s H args us vs Q E hr he hb hv (h _ _ _ _ hs)⟩

theorem Env0.make {P : Program} {w : World} {K : PySem.W.Frag} {mg : Str → Option Value} {base : Heap} {A : Around} {outer : List Env} {s : Shared} {H : Hp} (e : Env0 P w K mg base A outer s H) (C : Addr) (us : List Value) (kw : List (Str × Value)) :
    Env0 P w K mg base (A.under (.builtin "type.__call__" ⟨.ref C :: us, kw⟩)) outer s H := ⟨by first | exact e.frames | (simpa [Around.under, Code.envs, Code.isFrame, pushEnvs] using e.frames), e.mod, e.bs, e.bsz, e.funs, e.frf, e.hok, e.bare⟩
section
variable {X : Cx} {pins : List (Addr × Obj)} {σ : St} {H : Hp} {s s' : Shared}
/-- from a body: what a callee wants -/
theorem Inv.env0 (I : Inv X pins σ H s) : Env0 X.prog X.w X.K X.mg X.base X.A X.stack s H :=
  ⟨I.ok.frames, I.ok.mod, I.bs, Nat.le_trans I.ok.bsz I.sz, I.stack, I.stkFree, I.hok, I.bare⟩
/-- behind a call -/
theorem Inv.after {Q : VK} {u : Value} (I : Inv X pins σ H s) (h : CE X.stack X.prog X.w H s Q u s') : EP X pins σ Q u s' := by
  obtain ⟨v, H', os, bare, un, hok, r, q⟩ := h
  obtain ⟨hh, g, d, t, os'⟩ := s'
  obtain rfl : os' = s.os := os
  exact ⟨v, H', I.call (h' := hh) (g' := g) (d' := d) (t' := t) (ch := []) un hok bare (fun b z => absurd z (by simp)), r, q⟩
end

/-! ### calls -/
/-- f(..): the written arguments, then the defaults dvs; E: what is wanted of an exception -/
def tCall (sp : Sp) (dvs : List V) (E : XK) (t : TA) : TE := fun σ H Q => t σ H fun vs H1 => sp (vs ++ dvs) H1 Q E
/-- o.m(..) of an instance of the class at C -/
def tMeth (C : Addr) (m : Str) (sp : Sp) (dvs : List V) (E : XK) (ta : TE) (t : TA) : TE := fun σ H Q => ta σ H fun x H1 => ∃ a dx fs, x = .ref a ∧ H1 a = some (.ins C dx fs) ∧ fs.lookup m = none ∧
  t σ H1 fun vs H2 => sp (x :: (vs ++ dvs)) H2 Q E
/-- C(..): a new instance and its dict, then __init__ -/
def tMake (C : Addr) (sp : Sp) (dvs : List V) (E : XK) (t : TA) : TE := fun σ H Q => t σ H fun vs H1 => ∀ x dx, H1 x = none → H1 dx = none → dx ≠ x →
  sp (.ref x :: (vs ++ dvs)) (upd (upd H1 dx (.own x)) x (.ins C dx [])) (fun v H2 => v = .non ∧ Q (.ref x) H2) E

/-- how the parameters are bound: us the positional arguments, kw the keywords' values by name, ds the defaults that fill up -/
def Binds (K : PySem.W.Frag) (fd : FuncData) (ps : List Str) (ds : List Value) : Prop :=
  ∀ (s : Shared) (us : List Value), K.In s.heap → (us ++ ds).length = ps.length → BindsTo s fd ⟨us, []⟩ (ps.zip (us ++ ds))
/-- every parameter is given -/
theorem Binds.all {K : PySem.W.Frag} {fd : FuncData} {ps : List Str} (h : ∀ us : List Value, us.length = ps.length → bindArgs fd ⟨us, []⟩ = pure (ps.zip us)) : Binds K fd ps [] := fun s us _ hl => by
  rw [List.append_nil] at hl ⊢
  exact .of_eq (h us hl)

/-- an exception of a callee reaches what this body wants of exceptions -/
def Passes (CX : CXT) (X : Cx) (E : XK) : Prop := ∀ (pins : List (Addr × Obj)) (σ : St) (H : Hp) (s : Shared) (e : Value) (s' : Shared), Inv X pins σ H s → CX X.stack H s E e s' → X.xe e s'

section
variable {X : Cx} {CX : CXT} {k : Nat} {f C : Addr} {fd : FuncData} {ps : List Str} {sp : Sp} {dvs : List V} {ds : List Value} {E : XK} {x m : Str} {p pos apos : Pos} {e o : Expr} {es : List Expr} {ta : TE} {t : TA}

/-- the callee runs -/
theorem run_fn {pins : List (Addr × Obj)} {σ : St} {H : Hp} {s : Shared} {Q : VK} {us : List Value} {vs : List V} (F : FnOk X.prog X.w X.K X.mg X.base CX k f fd ps sp) (hr : Room k X.A) (hb : Binds X.K fd ps ds) (hd : Vals dvs ds) (hx : Passes CX X E)
    (I : Inv X pins σ H s) (r : Vals vs us) (h : sp (vs ++ dvs) H Q E) : wpAny (model X.prog X.w) X.A (call (.ref f) us) (EP X pins σ Q) X.xe s := by
  have r2 : Vals (vs ++ dvs) (us ++ ds) := r.append hd
  have hl : (us ++ ds).length = ps.length := by rw [← r2.length]; exact F.len _ _ _ _ h
  refine wpAny_call (codeAny_mono (F.run X.A X.stack s H ⟨us, []⟩ (us ++ ds) (vs ++ dvs) Q E hr I.env0 (hb s us I.kIn hl) r2 h) fun r s' hq => ?_)
  cases r with
  | error e => exact hx pins σ H s e s' I hq
  | ok fl =>
    cases fl with
    | ret u => exact I.after hq
    | next => exact False.elim hq
    | brk => exact False.elim hq
    | cont => exact False.elim hq

theorem pe_call (F : FnOk X.prog X.w X.K X.mg X.base CX k f fd ps sp) (hr : Room k X.A) (hg : Gl X x) (hm : X.mg x = some (.ref f)) (hk : PySem.W.keepIn X.K (.ref f) = true) (hb : Binds X.K fd ps ds) (hd : Vals dvs ds) (hx : Passes CX X E)
    (ha : PA X (e :: es) t) (hdb : (x == ("__debug__" : Str)) = false := by decide) (he : starEach (e :: es) X.env = (false, eval e X.env) :: starEach es X.env := by rfl) (hpl : (backTo pos (starEach es X.env)).any (·.1) = false := by rfl) :
    PE X (.Call (.Name x p) (e :: es) [] pos) (tCall sp dvs E t) := by
  intro pins s σ H Q I h
  refine wpAny_Call_Name_kw (ld_glob I hg hm ?_ hdb)
  refine PySem.W.callWith_K (h₀ := X.base) I.ok.mod.kin hk (thn (ha pos pins s σ H _ I h) fun us s1 ⟨vs, H1, I1, r, q⟩ => ⟨I1.kIn, ?_⟩) he hpl
  exact run_fn F hr hb hd hx I1 r q
/-- o.m(e, ..) -/
theorem pe_meth {pl : Sem Bool} (he : PE X o ta) (c : Cls X.K C) (hm : Meth X.K C m f) (F : FnOk X.prog X.w X.K X.mg X.base CX k f fd ps sp) (hr : Room k X.A) (hb : Binds X.K fd ps ds) (hd : Vals dvs ds) (hx : Passes CX X E) (ha : PA X (e :: es) t)
    (hst : starEach (e :: es) X.env = (false, eval e X.env) :: starEach es X.env := by rfl) (hpl : (backTo pos (starEach es X.env)).any (·.1) = false := by rfl)
    (ht : eval (.Call (.Attribute o m apos) (e :: es) [] pos) X.env = (do
      let ov ← eval o X.env
      standAt apos.atName
      let (f, first) ← holding [ov] (getMethod ov m pl)
      callWith pos f first (backTo pos (starEach (e :: es) X.env)) (backToKw pos (keywordEach [] X.env))) := by rfl) :
    PE X (.Call (.Attribute o m apos) (e :: es) [] pos) (tMeth C m sp dvs E ta t) := by
  intro pins s σ H Q I h
  refine PySem.W.methodCall_KW (pl := pl) (thn (he pins s σ H _ I h) fun u s1 ⟨x, H1, I1, rx, a, dx, fs, ex, ea, l, q⟩ => ?_) ht
  subst ex
  obtain rfl : u = Value.ref a := rx
  refine getmeth_ok I1 ea c hm l ?_
  refine PySem.W.callWith_K (first := [.ref a]) (h₀ := X.base) I.ok.mod.kin hm.kp (thn (ha pos pins s1 σ H1 _ I1 q) fun us s2 ⟨vs, H2, I2, r, q2⟩ => ⟨I2.kIn, ?_⟩) hst hpl
  exact run_fn (us := .ref a :: us) (vs := .ref a :: vs) F hr hb hd hx I2 (.cons rfl r) q2
/-- what a class must have to be made -/
structure Mk (K : PySem.W.Frag) (C f : Addr) : Prop where
  makes : PySem.W.makesIn K C = true
  init : PySem.W.findIn K (.ref C) "__init__" = some (some (.ref f))
  fn : PySem.W.isFn K (.ref f) = true
  kp : PySem.W.keepIn K (.ref C) = true

theorem run_make {pins : List (Addr × Obj)} {σ : St} {H : Hp} {s : Shared} {Q : VK} {us : List Value} {vs : List V} (M : Mk X.K C f) (F : FnOk X.prog X.w X.K X.mg X.base CX k f fd ps sp) (hr : Room (k + 1) X.A) (hb : Binds X.K fd ps ds) (hd : Vals dvs ds)
    (hx : Passes CX X E) (I : Inv X pins σ H s) (r : Vals vs us)
    (h : ∀ x dx, H x = none → H dx = none → dx ≠ x → sp (.ref x :: (vs ++ dvs)) (upd (upd H dx (.own x)) x (.ins C dx [])) (fun v H2 => v = .non ∧ Q (.ref x) H2) E) :
    wpAny (model X.prog X.w) X.A (call (.ref C) us) (EP X pins σ Q) X.xe s := by
  have hq := h (s.heap.objs.size + 1) s.heap.objs.size (I.hok.fresh (Nat.le_succ _)) (I.hok.fresh (Nat.le_refl _)) (Nat.ne_of_lt (Nat.lt_succ_self _))
  have I2 := Inv.made (C := C) I
  have r2 : Vals (V.ref (s.heap.objs.size + 1) :: (vs ++ dvs)) (Value.ref (s.heap.objs.size + 1) :: (us ++ ds)) := .cons rfl (r.append hd)
  have hl : (Value.ref (s.heap.objs.size + 1) :: us ++ ds).length = ps.length := by
    have e := r2.length
    rw [F.len _ _ _ _ hq] at e
    exact e.symm
  refine wpAny_call (make_map (f := f) I.kIn M.makes M.init (beq_iff_eq.mp M.fn) (codeAny_mono (F.run _ X.stack _ _ ⟨Value.ref (s.heap.objs.size + 1) :: us, []⟩ (Value.ref (s.heap.objs.size + 1) :: (us ++ ds)) _ _ E (hr.make C us [])
    (I2.env0.make C us []) (hb _ (Value.ref (s.heap.objs.size + 1) :: us) I2.kIn hl) r2 hq) fun r s' hq' => ?_))
  cases r with
  | error e => exact hx pins σ _ _ e s' I2 hq'
  | ok fl =>
    cases fl with
    | ret u =>
      obtain ⟨v, H', I3, rv, ev, q3⟩ := I2.after hq'
      subst ev
      exact ⟨rv, ⟨V.ref (s.heap.objs.size + 1), H', I3, rfl, q3⟩⟩
    | next => exact False.elim hq'
    | brk => exact False.elim hq'
    | cont => exact False.elim hq'
theorem pe_make (M : Mk X.K C f) (F : FnOk X.prog X.w X.K X.mg X.base CX k f fd ps sp) (hr : Room (k + 1) X.A) (hg : Gl X x) (hm : X.mg x = some (.ref C)) (hb : Binds X.K fd ps ds) (hd : Vals dvs ds) (hx : Passes CX X E)
    (ha : PA X (e :: es) t) (hdb : (x == ("__debug__" : Str)) = false := by decide) (he : starEach (e :: es) X.env = (false, eval e X.env) :: starEach es X.env := by rfl) (hpl : (backTo pos (starEach es X.env)).any (·.1) = false := by rfl) :
    PE X (.Call (.Name x p) (e :: es) [] pos) (tMake C sp dvs E t) := by
  intro pins s σ H Q I h
  refine wpAny_Call_Name_kw (ld_glob I hg hm ?_ hdb)
  refine PySem.W.callWith_K (h₀ := X.base) I.ok.mod.kin M.kp (thn (ha pos pins s σ H _ I h) fun us s1 ⟨vs, H1, I1, r, q⟩ => ⟨I1.kIn, ?_⟩) he hpl
  exact run_make M F hr hb hd hx I1 r q
end

/-! ### keywords -/
section
variable {X : Cx} {CX : CXT} {k : Nat} {f C : Addr} {fd : FuncData} {ps ks : List Str} {sp : Sp} {E : XK} {x m : Str} {p pos apos kpos : Pos} {e o : Expr} {es : List Expr} {kws : List Keyword} {te ta : TE} {t tk : TA} {nm : Option Str}
variable {g : List Value → List Value → List Value} {gV : List V → List V → List V}
end

/-! ### a def's body keeps its promise -/
/-- names: the parameters first -/
structure FnScope (N P : List Str) (sc : Scope) : Prop where
  kind : sc.kind = .function
  co : sc.isCoroutine = false
  gen : sc.isGenerator = false
  nd : N.Nodup
  pre : N.take P.length = P
  par : ∀ x ∈ P, sc.names.lookup x = some .local ∨ sc.names.lookup x = some .cell
  nofree : ∀ y ∈ sc.names, y.2 ≠ .free

theorem bindL_out {kindOf : Str → Option NameKind} {x : Str} : ∀ {binds : List (Str × Value)} {m : Str → Option Value}, (∀ v, (x, v) ∉ binds) → bindL kindOf binds m x = m x
  | [], _, _ => rfl
  | (n, v) :: r, m, h => by
    unfold bindL
    rw [bindL_out fun w hw => h w (List.mem_cons_of_mem _ hw)]
    split
    · have : x ≠ n := by rintro rfl; exact h v List.mem_cons_self
      simp [this]
    · rfl
theorem bindC_out {kindOf : Str → Option NameKind} {x : Str} : ∀ {binds : List (Str × Value)} {m : Str → Option Value}, (∀ v, (x, v) ∉ binds) → bindC kindOf binds m x = m x
  | [], _, _ => rfl
  | (n, v) :: r, m, h => by
    unfold bindC
    rw [bindC_out fun w hw => h w (List.mem_cons_of_mem _ hw)]
    split
    · rfl
    · have : x ≠ n := by rintro rfl; exact h v List.mem_cons_self
      simp [this]
theorem bindL_get {kindOf : Str → Option NameKind} {x : Str} {v : Value} : ∀ {P : List Str} {vs : List Value} {i : Nat} {m : Str → Option Value}, P.Nodup → P[i]? = some x → vs[i]? = some v → kindOf x = some .local →
    bindL kindOf (P.zip vs) m x = some v
  | [], _, _, _, _, h, _, _ => by simp at h
  | _ :: _, [], _, _, _, _, h, _ => by simp at h
  | p :: P, w :: vs, 0, m, nd, h1, h2, hk => by
    simp at h1 h2; subst h1; subst h2
    show bindL kindOf ((p, w) :: P.zip vs) m p = _
    unfold bindL
    rw [bindL_out fun v hv => (List.nodup_cons.mp nd).1 (List.of_mem_zip hv).1, if_pos hk]
    simp
  | p :: P, w :: vs, i + 1, m, nd, h1, h2, hk => by
    show bindL kindOf ((p, w) :: P.zip vs) m x = _
    unfold bindL
    exact bindL_get (i := i) (List.nodup_cons.mp nd).2 (by simpa using h1) (by simpa using h2) hk
theorem bindC_get {kindOf : Str → Option NameKind} {x : Str} {v : Value} : ∀ {P : List Str} {vs : List Value} {i : Nat} {m : Str → Option Value}, P.Nodup → P[i]? = some x → vs[i]? = some v → kindOf x ≠ some .local →
    bindC kindOf (P.zip vs) m x = some v
  | [], _, _, _, _, h, _, _ => by simp at h
  | _ :: _, [], _, _, _, _, h, _ => by simp at h
  | p :: P, w :: vs, 0, m, nd, h1, h2, hk => by
    simp at h1 h2; subst h1; subst h2
    show bindC kindOf ((p, w) :: P.zip vs) m p = _
    unfold bindC
    rw [bindC_out fun v hv => (List.nodup_cons.mp nd).1 (List.of_mem_zip hv).1, if_neg hk]
    simp
  | p :: P, w :: vs, i + 1, m, nd, h1, h2, hk => by
    show bindC kindOf ((p, w) :: P.zip vs) m x = _
    unfold bindC
    exact bindC_get (i := i) (List.nodup_cons.mp nd).2 (by simpa using h1) (by simpa using h2) hk

/-- the names' values at the entry -/
def start (N : List Str) (vs : List V) : St := vs.map some ++ List.replicate (N.length - vs.length) none

/-- the context of a def's body, at its entry; an exception leaves the frame, then lies as CX says -/
def cxOf (CX : CXT) (P : Program) (w : World) (K : PySem.W.Frag) (mg : Str → Option Value) (base : Heap) (N : List Str) (qual : Str) (scope : Scope) (f : Addr) (cd : Value) (A : Around) (outer : List Env) (s : Shared) (H : Hp) (E : XK) : Cx where
  prog := P
  w := w
  K := K
  mg := mg
  base := base
  A := A.deeper (envOfC qual scope s.heap.objs.size f cd)
  N := N
  s₀ := s
  H₀ := H
  env := envOfC qual scope s.heap.objs.size f cd
  outer := outer
  stack := envOfC qual scope s.heap.objs.size f cd :: outer
  ex := []
  calm := true
  fn := fun _ => true
  pn := []
  xe := fun e s' => wpAny (model P w) (A.deeper (envOfC qual scope s.heap.objs.size f cd)) (leaving (envOfC qual scope s.heap.objs.size f cd) e) (fun _ s'' => CX outer H s E e s'') (fun e' s'' => CX outer H s E e' s'') s'

theorem cell_has {sc : Scope} {n : Nat} {x : Str} (h : sc.names.lookup x = some .cell) : ∃ c, (cellsFrom n sc.names []).lookup x = some c := by
  have q := PySem.W.cellsFrom_some sc.names n [] (.inl h)
  exact Option.isSome_iff_exists.mp q

theorem inv_start {CX : CXT} {P : Program} {w : World} {K : PySem.W.Frag} {mg : Str → Option Value} {base : Heap} {N ps : List Str} {qual : Str} {scope : Scope} {f : Addr} {cd : Value} {A : Around} {outer : List Env} {s s1 : Shared} {H : Hp} {E : XK} {us : List Value} {vs : List V}
    (S : FnScope N ps scope) (hd : A.handled = none) (e0 : Env0 P w K mg base A outer s H) (hl : vs.length = ps.length) (r : Vals vs us)
    (x : InCallC s s.heap.objs.size (bindL (envOfC qual scope s.heap.objs.size f cd).kindOf (ps.zip us) fun _ => none) (cellsFrom (s.heap.objs.size + 1) scope.names []) (bindC (envOfC qual scope s.heap.objs.size f cd).kindOf (ps.zip us) fun _ => none) s1) :
    Inv (cxOf CX P w K mg base N qual scope f cd A outer s H E) [] (start N vs) H s1 := by
  have hpl : ps.length ≤ N.length := by have := congrArg List.length S.pre; rw [List.length_take] at this; omega
  obtain ⟨h1, tk, rfl, hk⟩ := x.done
  have noA : ∀ b : Addr, b ∉ (cxOf CX P w K mg base N qual scope f cd A outer s H E).ex := fun b z => absurd (show b ∈ ([] : List Addr) from z) (by simp)
  refine ⟨⟨e0.mod, S.kind, rfl, rfl, Nat.le_refl _, fun y z c h1 h2 => ?_, fun y hy => ?_, fun y c _ h => ?_, fun _ => hd, Around.frames_deeper e0.frames, .inr ⟨rfl, rfl⟩, fun b z => absurd z (noA b), e0.bs, e0.bsz, fun b _ _ => noA b, fun b z => absurd z (noA b), e0.funs, e0.frf⟩,
    rfl, e0.bare, Un.kept hk, ⟨_, x.toInCall.ns, fun i y v h1 h2 h3 => ?_⟩, fun y c h => ⟨_, x.cell y c h⟩, e0.hok.fresh (Nat.le_refl _), fun y c h => ?_, fun p hp => absurd (show p ∈ ([] : List (Addr × Obj)) from hp) (by simp), e0.hok.kept hk, ?_, trivial⟩
  · exact name_of_addr x.apart (PySem.mem_of_lookup h1) (PySem.mem_of_lookup h2)
  · have hy : scope.names.lookup y = some .cell ∨ scope.names.lookup y = some .free := hy
    rcases hy with hy | hy
    · exact cell_has hy
    · exact absurd rfl (S.nofree _ (PySem.mem_of_lookup hy))
  · exact Nat.le_of_lt (x.above y c (PySem.mem_of_lookup h))
  · have hi : i < vs.length := by
      unfold start at h2
      by_cases hi : i < vs.length
      · exact hi
      · rw [List.getElem?_append_right (by simpa using hi)] at h2
        rw [List.getElem?_replicate] at h2
        split at h2 <;> cases h2
    have ha : vs[i]? = some v := by
      unfold start at h2
      rw [List.getElem?_append_left (by simpa using hi), List.getElem?_map] at h2
      cases e : vs[i]? with
      | none => rw [e] at h2; cases h2
      | some a => rw [e] at h2; cases h2; rfl
    obtain ⟨u, hu, rv⟩ := r.get ha
    have hp : ps[i]? = some y := by
      rw [← S.pre, List.getElem?_take_of_lt (by omega)]; exact h1
    have ndP : ps.Nodup := by rw [← S.pre]; exact S.nd.sublist (List.take_sublist _ _)
    refine ⟨u, rv, ?_⟩
    rcases S.par y (List.mem_of_getElem? hp) with k | k
    · exact .inl ⟨k, bindL_get ndP hp hu k⟩
    · obtain ⟨c, e⟩ := cell_has (n := s.heap.objs.size + 1) k
      refine .inr ⟨.inl k, c, e, ?_⟩
      have q := x.cell y c e
      rw [bindC_get ndP hp hu (by show scope.names.lookup y ≠ _; rw [k]; decide)] at q
      exact q
  · exact e0.hok.fresh (Nat.le_of_lt (x.above y c (PySem.mem_of_lookup h)))
  · unfold start
    show _ = N.length
    rw [List.length_append, List.length_map, List.length_replicate]
    omega

/-- THE RULE: a def (or a method) of the text, by its body. The body's reading t is chosen for each entry; it is run at the parameters' values -/
theorem fn_of {CX : CXT} {P : Program} {w : World} {K : PySem.W.Frag} {mg : Str → Option Value} {base : Heap} {k : Nat} {f : Addr} {name qual : Str} {params : Arguments} {body : List Stmt} {scope : Scope} {dV kV doc pm cdv ct oc : Value} {an od : Option Addr}
    {osl : Array (Option Value)} {N ps : List Str} {sp : Sp} (lk : K.lookup f = some ⟨oc, od, .func (PySem.W.fnOf name qual params body scope dV kV doc pm an cdv ct), osl⟩) (hcd : PySem.W.codeIn K cdv qual = true) (S : FnScope N ps scope)
    (len : ∀ vs H Q E, sp vs H Q E → vs.length = ps.length)
    (hbody : ∀ (A : Around) (outer : List Env) (s : Shared) (H : Hp) (vs : List V) (Q : VK) (E : XK), Room k (A.deeper (envOfC qual scope s.heap.objs.size f cdv)) → sp vs H Q E →
      ∃ t, PSs (cxOf CX P w K mg base N qual scope f cdv A outer s H E) body t ∧ t { nx := fun _ H' => Q .non H', rt := Q } (start N vs) H) :
    FnOk P w K mg base CX (k + 1) f (PySem.W.fnOf name qual params body scope dV kV doc pm an cdv ct) ps sp := by
  refine ⟨len, fun A outer s H args us vs Q E hr e0 hb r hsp => ?_⟩
  have hl := len _ _ _ _ hsp
  have KX : K.In s.heap := e0.mod.kin.keeps fun b o e => (e0.bs b o e).1
  have lim : s.heap.NoLimit := e0.mod.nolimit.keeps fun b o e => (e0.bs b o e).1
  have hkind : ∀ y ∈ ps.zip us, scope.names.lookup y.1 = some .local ∨ (scope.names.lookup y.1 = some .cell ∧ ((cellsFrom (s.heap.objs.size + 1) scope.names []).lookup y.1).isSome = true) := fun ⟨n, v⟩ hy => by
    rcases S.par n (List.of_mem_zip hy).1 with q | q
    · exact .inl q
    · exact .inr ⟨q, PySem.W.cellsFrom_some _ _ _ (.inl q)⟩
  refine codeAny_call_function hr.depth (KX _ _ lk) rfl S.co S.gen rfl (PySem.W.codeRec_of KX hcd) (hb _ _ _ _ ?_)
  refine wpAny_newFunctionEnv_cells S.kind hkind fun env he s1 x => ?_
  subst he
  refine ⟨lim.keeps x.toInCall.keep, codeAny_func ?_⟩
  obtain ⟨t, ht, hq⟩ := hbody A outer s H vs Q E (hr.deeper _) hsp
  have I : Inv (cxOf CX P w K mg base N qual scope f cdv A outer s H E) [] (start N vs) H s1 := inv_start S hr.hd e0 hl r x
  refine wpAny_mono (ht [] s1 (start N vs) H _ I hq) (fun fl s' hs => ?_) fun e s' hs => hs
  have fin : ∀ {σ' : St} {H' : Hp} {v : V} {u : Value}, Inv (cxOf CX P w K mg base N qual scope f cdv A outer s H E) [] σ' H' s' → RelV v u → Q v H' → CE outer P w H s Q u s' :=
    fun {σ' H' v u} J rv q => ⟨v, H', J.os, J.bare, J.base, J.hok, rv, q⟩
  cases fl with
  | ret u =>
    obtain ⟨v, σ', H', J, rv, q⟩ := hs
    exact fin J rv q
  | next =>
    obtain ⟨σ', H', J, q⟩ := hs
    exact fin (v := V.non) (u := Value.none) J rfl q
  | brk =>
    obtain ⟨_, _, _, q⟩ := hs
    exact False.elim q
  | cont =>
    obtain ⟨_, _, _, q⟩ := hs
    exact False.elim q
end L2

namespace L2
open PySem PySem.Spec PyProof.Rows
section
variable {X : Cx} {x : Str} {p pos : Pos} {e : Expr} {es : List Expr} {t : TA} {id T : String} {r : List V → Hp → VK → Prop}

def tCB (r : List V → Hp → VK → Prop) (t : TA) : TE := fun σ H Q => t σ H fun vs H1 => r vs H1 Q
/-- f(e, ..), f a built-in function -/
theorem pe_callB (hc : CallR X (.builtin id) r) (hg : Gl X x) (hm : X.mg x = none) (hv : bootBuiltins x = some (.builtin id)) (ha : PA X (e :: es) t) (hn : x ≠ "__name__" := by decide) (hdb : (x == ("__debug__" : Str)) = false := by decide)
    (he : starEach (e :: es) X.env = (false, eval e X.env) :: starEach es X.env := by rfl) (hpl : (backTo pos (starEach es X.env)).any (·.1) = false := by rfl) : PE X (.Call (.Name x p) (e :: es) [] pos) (tCB r t) := by
  intro pins s σ H Q I h
  refine wpAny_Call_Name_kw (ld_blt I hg hm hv ?_ hn hdb)
  exact PyProof.Rows.callWith_builtin1 (thn (ha pos pins s σ H _ I h) fun us s1 ⟨vs, H1, I1, r1, q1⟩ => hc pins s1 σ H1 vs us Q I1 r1 q1) he hpl
/-- T(e, ..), T a built-in type -/
theorem pe_callTy (hc : CallR X (.type T) r) (hg : Gl X x) (hm : X.mg x = none) (hv : bootBuiltins x = some (.type T)) (ha : PA X (e :: es) t) (hn : x ≠ "__name__" := by decide) (hdb : (x == ("__debug__" : Str)) = false := by decide)
    (he : starEach (e :: es) X.env = (false, eval e X.env) :: starEach es X.env := by rfl) (hpl : (backTo pos (starEach es X.env)).any (·.1) = false := by rfl) : PE X (.Call (.Name x p) (e :: es) [] pos) (tCB r t) := by
  intro pins s σ H Q I h
  refine wpAny_Call_Name_kw (ld_blt I hg hm hv ?_ hn hdb)
  exact PyProof.Rows.callWith_type1 (thn (ha pos pins s σ H _ I h) fun us s1 ⟨vs, H1, I1, r1, q1⟩ => hc pins s1 σ H1 vs us Q I1 r1 q1) he hpl
end
end L2

namespace HT
open PySem PyProof.Rows

section
open PySem.SeqAt
open PySem.AutoSeq1 (wpAny_loadPart')
open PySem.MeetsSeq PySem.MeetsSeq2 PySem.MeetsSeq3

end

section
variable {prog : Program} {w : World} {A : Around} {E : Value → Shared → Prop} {s : Shared}

/-! ### t[a:b], not the whole -/
/-- a slice's bound as a place among n (d where it is left out) -/
def sIx (n d : Nat) : Option Int → Nat
  | none => d
  | some v => if v < 0 then (v + (n : Int)).toNat else min v.toNat n
theorem sIx_nat (n d k : Nat) : sIx n d (some (k : Int)) = min k n := by
  show (if (k : Int) < 0 then ((k : Int) + (n : Int)).toNat else min (k : Int).toNat n) = min k n
  rw [if_neg (by omega), Int.toNat_natCast]
theorem sIx_le (n d : Nat) (hd : d ≤ n) (o : Option Int) : sIx n d o ≤ n := by
  cases o with
  | none => exact hd
  | some v =>
    show (if v < 0 then (v + (n : Int)).toNat else min v.toNat n) ≤ n
    by_cases hv : v < 0
    · rw [if_pos hv]; omega
    · rw [if_neg hv]; exact Nat.min_le_right _ _
theorem clip_eq (v : Int) (n d : Nat) : (if v < 0 then max (v + (n : Int)) 0 else min v (n : Int)) = ((sIx n d (some v) : Nat) : Int) := by
  show (if v < 0 then max (v + (n : Int)) 0 else min v (n : Int)) = (((if v < 0 then (v + (n : Int)).toNat else min v.toNat n) : Nat) : Int)
  by_cases hv : v < 0
  · simp only [if_pos hv]; omega
  · simp only [if_neg hv]; omega
theorem adjust_gen (lo hi : Option Int) (n : Nat) : Builtin.Slice.sliceAdjust lo hi 1 (n : Int) = (((sIx n 0 lo : Nat) : Int), ((sIx n n hi : Nat) : Int)) := by
  have h1 : ¬ ((1 : Int) < 0) := by omega
  unfold Builtin.Slice.sliceAdjust
  simp only [h1, if_false]
  refine Prod.ext ?_ ?_
  · cases lo with
    | none => rfl
    | some v => exact clip_eq v n 0
  · cases hi with
    | none => rfl
    | some v => exact clip_eq v n n
theorem places_gen (i j : Nat) : Builtin.Slice.slicePlaces (i : Int) (j : Int) 1 = j - i := by
  unfold Builtin.Slice.slicePlaces
  have h1 : (1 : Int) > 0 := by omega
  simp only [h1, if_true, Int.ediv_one]
  split <;> omega
theorem slicePart_ {v : Value} {o : Option Int} {Q : Option Int → Shared → Prop} (p : IsPart v o) (h : Q o s) : wpAny (model prog w) A (Builtin.Slice.slicePartIndex v) Q E s := by
  cases p with
  | none => exact slicePart_none h
  | int i t => exact slicePart_int h
theorem sliceApplied_gen {sl : Addr} {vl vu : Value} {lo hi : Option Int} {n : Nat} {Q : Int × Int × Nat → Shared → Prop} (hs : s.heap.IsSliceOf sl vl vu .none) (pl : IsPart vl lo) (pu : IsPart vu hi)
    (h : Q (((sIx n 0 lo : Nat) : Int), 1, sIx n n hi - sIx n 0 lo) s) : wpAny (model prog w) A (Builtin.Slice.sliceApplied (.ref sl) (pure (n : Int))) Q E s := by
  obtain ⟨os, hos, hcs, hds⟩ := id hs
  unfold Builtin.Slice.sliceApplied Builtin.Slice.sliceFields
  refine wpAny_bind (wpAny_bind (wpAny_field hos hds (x := vl) rfl (wpAny_bind (wpAny_field hos hds (x := vu) rfl (wpAny_bind (wpAny_field hos hds (x := .none) rfl (wpAny_pure ?_)))))))
  refine wpAny_bind (slicePart_none ?_)
  show wpAny _ _ (if ((1 : Int) == 0) = true then _ else _) _ _ s
  rw [if_neg (by decide)]
  refine wpAny_bind (slicePart_ pl (wpAny_bind (slicePart_ pu (wpAny_bind (wpAny_pure ?_)))))
  show wpAny _ _ (match Builtin.Slice.sliceAdjust lo hi 1 (n : Int) with | (lo, hi) => pure (lo, (1 : Int), Builtin.Slice.slicePlaces lo hi 1)) _ _ s
  rw [adjust_gen lo hi n]
  show wpAny _ _ (pure (((sIx n 0 lo : Nat) : Int), (1 : Int), Builtin.Slice.slicePlaces ((sIx n 0 lo : Nat) : Int) ((sIx n n hi : Nat) : Int) 1)) _ _ s
  rw [places_gen]
  exact wpAny_pure h
theorem pick_gen (xs : Array Value) (i k : Nat) : ((List.range k).filterMap fun (m : Nat) => xs[((i : Int) + (m : Int) * 1).toNat]?).toArray = ((xs.toList.drop i).take k).toArray := by
  have e : (fun (m : Nat) => xs[((i : Int) + (m : Int) * 1).toNat]?) = fun m => xs[i + m]? := by
    funext m
    have : ((i : Int) + (m : Int) * 1).toNat = i + m := by omega
    rw [this]
  rw [e]
  have := pick_run xs i k
  rw [List.filterMap_map] at this
  have e2 : ((fun x => xs[x]?) ∘ fun x => i + x) = fun m => xs[i + m]? := rfl
  rw [e2] at this
  rw [this]

theorem getItem_tuple_cut {t sl : Addr} {items : Array Value} {vl vu : Value} {lo hi : Option Int} {Q : Value → Shared → Prop} (ht : IsTup s.heap t items) (hs : s.heap.IsSliceOf sl vl vu .none) (pl : IsPart vl lo) (pu : IsPart vu hi)
    (hw : ¬ (sIx items.size 0 lo = 0 ∧ sIx items.size items.size hi = items.size))
    (h : Q (.ref s.heap.objs.size) { s with heap := s.heap.push { cls := .type "tuple", data := .seq ((items.toList.drop (sIx items.size 0 lo)).take (sIx items.size items.size hi - sIx items.size 0 lo)).toArray } })
    (hsz : items.size ≤ sizeLine) : wpAny (model prog w) A (getItem (.ref t) (.ref sl)) Q E s := by
  have htake : sizeOk (.seq ((items.toList.drop (sIx items.size 0 lo)).take (sIx items.size items.size hi - sIx items.size 0 lo)).toArray) := by
    show ((items.toList.drop (sIx items.size 0 lo)).take (sIx items.size items.size hi - sIx items.size 0 lo)).toArray.size ≤ sizeLine
    rw [List.size_toArray, List.length_take, List.length_drop, Array.length_toList]
    omega
  have hj : sIx items.size items.size hi ≤ items.size := sIx_le _ _ (Nat.le_refl _) hi
  obtain ⟨os, hos, hcs, hds⟩ := id hs
  have hTs : s.TypeIs (.ref sl) "slice" := ⟨os, hos, hcs⟩
  unfold getItem
  try with_reducible refine wpAny_holding ?_
  first | refine wpAny_bind (wpAny_pure ?_) | skip
  refine wpAny_bind (wpAny_sequenceKey ht.typeIs (by decide) ?_)
  refine wpAny_bind (wpAny_callSpecial?_slot (name := Str.ofString "__getitem__") ht.typeIs PyProof.Rows.slot_tuple_getitem
    (wpAny_call_entry PyProof.Rows.slot_tuple_getitem ht.typeIs entry_tuple_getitem ?_ (args_tuple_getitem _ _)))
  show wpAny _ _ (Builtin.Tuple.tupleItemsOf (.ref t) >>= _) _ _ s
  refine wpAny_bind (tupleItemsOf_ ht ?_)
  refine wpAny_bind (wpAny_typeOf hTs ?_)
  rw [if_pos (by decide)]
  refine wpAny_bind (sliceApplied_gen hs pl pu ?_)
  have hno : ¬ ((((sIx items.size 0 lo : Nat) : Int) == 0 && (1 : Int) == 1 && (sIx items.size items.size hi - sIx items.size 0 lo) == items.size) = true) := by
    intro q
    rw [Bool.and_eq_true, Bool.and_eq_true] at q
    have q1 : ((sIx items.size 0 lo : Nat) : Int) = 0 := eq_of_beq q.1.1
    have q2 : sIx items.size items.size hi - sIx items.size 0 lo = items.size := eq_of_beq q.2
    exact hw ⟨by omega, by omega⟩
  show wpAny _ _ (if (((sIx items.size 0 lo : Nat) : Int) == 0 && (1 : Int) == 1 && (sIx items.size items.size hi - sIx items.size 0 lo) == items.size) = true then _ else _) _ _ s
  rw [if_neg hno, pick_gen]
  first
    | exact wpAny_bind (m := Builtin.Tuple.tupleExact _) (wpAny_newObj_type (wpAny_pure ⟨_, rfl, wpAny_pure h⟩) htake)
    | exact wpAny_bind (m := Builtin.Tuple.tupleExact _) (wpAny_newObj_type (wpAny_bind (wpAny_pure (wpAny_pure ⟨_, rfl, wpAny_pure h⟩))) htake)
    | exact wpAny_bind (wpAny_bind (m := Builtin.Tuple.tupleExact _) (wpAny_newObj_type (wpAny_pure (wpAny_pure ⟨_, rfl, wpAny_pure h⟩)) htake))
    | exact wpAny_bind (wpAny_bind (m := Builtin.Tuple.tupleExact _) (wpAny_newObj_type (wpAny_pure ⟨_, rfl, wpAny_pure h⟩) htake))
end
end HT

namespace L2
open PySem PySem.Spec PyProof.Rows

/-! ### the parts of a slice -/
abbrev TO := St → Hp → (Option Int → Hp → Prop) → Prop
/-- a slice's part (left out, or an int) -/
def PO (X : Cx) (e : Option Expr) (t : TO) : Prop :=
  ∀ (pins : List (Addr × Obj)) (s : Shared) (σ : St) (H : Hp) (Q : Option Int → Hp → Prop), Inv X pins σ H s → t σ H Q →
    wpAny (model X.prog X.w) X.A (evalPart e X.env) (fun u s' => ∃ o H', Inv X pins σ H' s' ∧ IsPart u o ∧ Q o H') X.xe s
def tNoPart : TO := fun _ H Q => Q none H
def tPart (t : TE) : TO := fun σ H Q => t σ H fun x H1 => ∃ i, x = .int i ∧ Q (some i) H1

section
variable {X : Cx} {e : Expr} {te : TE} {lo hi : Option Expr} {tl th : TO} {pos p2 : Pos}

theorem po_none : PO X none tNoPart := by
  intro pins s σ H Q I h
  rw [evalPart_none]
  exact wpAny_pure ⟨none, H, I, .none, h⟩
theorem po_some (h : PE X e te) : PO X (some e) (tPart te) := by
  intro pins s σ H Q I hw
  rw [evalPart_some]
  refine thn (h pins s σ H _ I hw) fun u s1 ⟨x, H1, I1, r1, q1⟩ => ?_
  obtain ⟨i, rfl, q⟩ := q1
  obtain ⟨t, rfl⟩ := r1
  exact ⟨some i, H1, I1, .int i t, q⟩

/-- what a slice of a value is, by values: the slice object stands at sl -/
def SlR (X : Cx) (r : V → Option Int → Option Int → Hp → VK → Prop) : Prop :=
  ∀ (pins : List (Addr × Obj)) (s : Shared) (σ : St) (H : Hp) (x : V) (v vl vu : Value) (lo hi : Option Int) (sl : Addr) (Q : VK), Inv X pins σ H s → RelV x v → s.heap.IsSliceOf sl vl vu .none → IsPart vl lo → IsPart vu hi → r x lo hi H Q →
    ∃ T id, typeLookup (.type T) "__getitem__" = pure (some (.builtin id)) ∧ s.TypeIs v T ∧ wpAny (model X.prog X.w) X.A (getItem v (.ref sl)) (EP X pins σ Q) X.xe s
theorem SlR.or {r r' : V → Option Int → Option Int → Hp → VK → Prop} (h : SlR X r) (h' : SlR X r') : SlR X (fun x lo hi H Q => r x lo hi H Q ∨ r' x lo hi H Q) := by
  intro pins s σ H x v vl vu lo hi sl Q I rx hs pl pu q
  rcases q with q | q
  · exact h pins s σ H x v vl vu lo hi sl Q I rx hs pl pu q
  · exact h' pins s σ H x v vl vu lo hi sl Q I rx hs pl pu q
def tSl (r : V → Option Int → Option Int → Hp → VK → Prop) (te : TE) (tl th : TO) : TE := fun σ H Q => te σ H fun x H1 => tl σ H1 fun l H2 => th σ H2 fun u H3 => r x l u H3 Q
/-- a[lo:hi], any a -/
theorem pe_slice {r : V → Option Int → Option Int → Hp → VK → Prop} (hr : SlR X r) (he : PE X e te) (hl : PO X lo tl) (hu : PO X hi th) : PE X (.Subscript e (.Slice lo hi none p2) pos) (tSl r te tl th) := by
  intro pins s σ H Q I h
  refine Subscript_ (thn (he pins s σ H _ I h) fun v s1 ⟨x, H1, I1, r1, q1⟩ => ?_)
  refine wpAny_Slice (thn (hl pins s1 σ H1 _ I1 q1) fun vl s2 ⟨l, H2, I2, pl, q2⟩ => thn (hu pins s2 σ H2 _ I2 q2) fun vu s3 ⟨u, H3, I3, pu, q3⟩ => ?_)
  rw [evalPart_none]
  refine wpAny_pure ?_
  have I4 : Inv X pins σ H3 { s3 with heap := s3.heap.push { cls := .type "slice", data := .fields #[vl, vu, .none] } } := I3.kept (t' := s3.toks) fun b ob q => Heap.get?_push_of_some _ q
  obtain ⟨T, id, hT, ht, hg⟩ := hr pins { s3 with heap := s3.heap.push { cls := .type "slice", data := .fields #[vl, vu, .none] } } σ H3 x v vl vu l u s3.heap.objs.size Q I4 r1 (Heap.IsSliceOf.new ..) pl pu q3
  show wpAny (model X.prog X.w) X.A (subscriptTail e (.Slice lo hi none p2) v (.ref s3.heap.objs.size)) (EP X pins σ Q) X.xe { s3 with heap := s3.heap.push { cls := .type "slice", data := .fields #[vl, vu, .none] } }
  exact tail_any (ops := [.ref s3.heap.objs.size, v]) ht hT hg (by with_unfolding_all rfl)

/-- the items of xs[lo:hi] -/
def cutV (xs : List V) (lo hi : Option Int) : List V := (xs.drop (HT.sIx xs.length 0 lo)).take (HT.sIx xs.length xs.length hi - HT.sIx xs.length 0 lo)
theorem cutV_length (xs : List V) (lo hi : Option Int) : (cutV xs lo hi).length ≤ xs.length := by
  unfold cutV
  rw [List.length_take, List.length_drop]
  omega
/-- t[lo:hi], not the whole of it (the whole would be t itself) -/
def rSlT (K : PySem.W.Frag) : V → Option Int → Option Int → Hp → VK → Prop := fun x lo hi H Q => ∃ a xs, x = .ref a ∧ SqT K H a xs ∧
  ¬ (HT.sIx xs.length 0 lo = 0 ∧ HT.sIx xs.length xs.length hi = xs.length) ∧ ∀ p, H p = none → Q (.ref p) (upd H p (.tup (cutV xs lo hi)))
theorem sl_tup : SlR X (rSlT X.K) := by
  intro pins s σ H x v vl vu lo hi sl Q I rx hs pl pu h
  obtain ⟨a, xs, rfl, hx, hw, q⟩ := h
  cases rx
  obtain ⟨its, r, ht, hz⟩ := I.tuple hx
  have hlen : its.toArray.size = xs.length := by rw [List.size_toArray]; exact r.length.symm
  refine ⟨"tuple", _, PyProof.Rows.slot_tuple_getitem.lookup, ht.typeIs, ?_⟩
  refine HT.getItem_tuple_cut ht hs pl pu (by rw [hlen]; exact hw) ?_ (by rw [hlen]; exact hz)
  rw [hlen]
  refine ⟨.ref s.heap.objs.size, _, I.laid (t' := s.toks) (o := .tup (cutV xs lo hi)) (fun b ob q => Heap.get?_push_of_some _ q) (Nat.le_refl _) ?_, rfl, q _ (I.hok.fresh (Nat.le_refl _))⟩
  exact ⟨Nat.le_trans (cutV_length xs lo hi) hz, _, (r.drop (HT.sIx xs.length 0 lo)).take (HT.sIx xs.length xs.length hi - HT.sIx xs.length 0 lo), IsTup.new _ _⟩

/-! ### t < u, t + u -/
end
end L2

namespace L2
open PySem PySem.Spec PyProof.Rows

/-! ### places -/
/-- the place that an index of any sign means -/
def ixN (n : Nat) (i : Int) : Option Nat := if 0 ≤ i then (if i < n then some i.toNat else none) else if -(n : Int) ≤ i then some (i + n).toNat else none
def atI {α : Type} (xs : List α) (i : Int) : Option α := (ixN xs.length i).bind fun j => xs[j]?
theorem ixN_seq {n : Nat} {i : Int} {j : Nat} (h : ixN n i = some j) : seqIndex? i n = some j ∧ j < n ∧ -(n : Int) ≤ i ∧ i < n := by
  unfold ixN at h
  by_cases h0 : 0 ≤ i
  · rw [if_pos h0] at h
    by_cases h1 : i < n
    · rw [if_pos h1] at h
      have e : i.toNat = j := Option.some.inj h
      exact ⟨by rw [seqIndex_of h0 h1, e], by omega, by omega, h1⟩
    · rw [if_neg h1] at h; cases h
  · rw [if_neg h0] at h
    by_cases h1 : -(n : Int) ≤ i
    · rw [if_pos h1] at h
      have e : (i + n).toNat = j := Option.some.inj h
      exact ⟨by rw [seqIndex_neg (by omega) h1, e], by omega, h1, by omega⟩
    · rw [if_neg h1] at h; cases h
theorem atI_get {α : Type} {xs : List α} {i : Int} {v : α} (h : atI xs i = some v) : ∃ j, seqIndex? i xs.length = some j ∧ xs[j]? = some v ∧ j < xs.length ∧ -(xs.length : Int) ≤ i ∧ i < xs.length := by
  unfold atI at h
  cases e : ixN xs.length i with
  | none => rw [e] at h; cases h
  | some j =>
    rw [e] at h
    obtain ⟨h1, h2, h3, h4⟩ := ixN_seq e
    exact ⟨j, h1, h, h2, h3, h4⟩
theorem atI_nat {α : Type} {xs : List α} {j : Nat} {v : α} (h : xs[j]? = some v) : atI xs (j : Int) = some v := by
  have hj : j < xs.length := (List.getElem?_eq_some_iff.mp h).1
  have e : ixN xs.length (j : Int) = some j := by
    unfold ixN
    rw [if_pos (by omega), if_pos (by omega)]; simp
  unfold atI; rw [e]; exact h
/-! ### what may be subscripted -/
/-- what stands as an index of a plain subscript -/
def PlainIx (b : Expr) : Prop := ∀ o i, subscripted b false o i = operate [o, i] (getItem o i)
/-- a subscript by values -/
def IxR (X : Cx) (r : R2) : Prop :=
  ∀ (value slice : Expr) (pins : List (Addr × Obj)) (s : Shared) (σ : St) (H : Hp) (x y : V) (v u : Value) (Q : VK), Inv X pins σ H s → RelV x v → RelV y u → r x y H Q →
    subscripted slice false v u = operate [v, u] (getItem v u) → wpAny (model X.prog X.w) X.A (subscriptTail value slice v u) (EP X pins σ Q) X.xe s
/-- a call of a builtin's method by values: the receiver, the arguments -/
def MtR (X : Cx) (id : String) (r : V → List V → Hp → VK → Prop) : Prop :=
  ∀ (pins : List (Addr × Obj)) (s : Shared) (σ : St) (H : Hp) (x : V) (xs : List V) (v : Value) (us : List Value) (Q : VK), Inv X pins σ H s → RelV x v → Vals xs us → r x xs H Q →
    wpAny (model X.prog X.w) X.A (call (.builtin id) (v :: us)) (EP X pins σ Q) X.xe s
section
variable {X : Cx} {a b : Expr} {ta tb : TE} {pos : Pos}
theorem IxR.or {r r' : R2} (h : IxR X r) (h' : IxR X r') : IxR X (fun x y H Q => r x y H Q ∨ r' x y H Q) := by
  intro value slice pins s σ H x y v u Q I rx ry q hs
  rcases q with q | q
  · exact h value slice pins s σ H x y v u Q I rx ry q hs
  · exact h' value slice pins s σ H x y v u Q I rx ry q hs
theorem MtR.or {id : String} {r r' : V → List V → Hp → VK → Prop} (h : MtR X id r) (h' : MtR X id r') : MtR X id (fun x xs H Q => r x xs H Q ∨ r' x xs H Q) := by
  intro pins s σ H x xs v us Q I rx rs q
  rcases q with q | q
  · exact h pins s σ H x xs v us Q I rx rs q
  · exact h' pins s σ H x xs v us Q I rx rs q
/-- a[b] -/
theorem pe_ix {r : R2} (hr : IxR X r) (ha : PE X a ta) (hb : PE X b tb) (hs : PlainIx b) : PE X (.Subscript a b pos) (tOp r ta tb) := by
  intro pins s σ H Q I h
  exact Subscript_ (binT ha hb I h fun v u s2 x y H2 I2 rx ry q => hr a b pins s2 σ H2 x y v u Q I2 rx ry q (hs _ _))

def rIxL (K : PySem.W.Frag) : R2 := fun x y H Q => ∃ p xs i v, x = .ref p ∧ y = .int i ∧ SqL K H p xs ∧ atI xs i = some v ∧ Q v H
def rIxT (K : PySem.W.Frag) : R2 := fun x y H Q => ∃ p xs i v, x = .ref p ∧ y = .int i ∧ SqT K H p xs ∧ atI xs i = some v ∧ Q v H
def rIxS : R2 := fun x y H Q => ∃ z i c, x = .str z ∧ y = .int i ∧ z.length ≤ sizeLine ∧ atI z.cps.toList i = some c ∧ Q (.str ⟨#[c]⟩) H
theorem ix_list : IxR X (rIxL X.K) := by
  intro value slice pins s σ H x y v u Q I rx ry h hs
  obtain ⟨p, xs, i, z, rfl, rfl, hq, he, q⟩ := h
  cases rx
  obtain ⟨t, rfl⟩ := ry
  obtain ⟨its, r, pl, hz⟩ := I.list hq
  obtain ⟨j, h1, h2, h3, h4, h5⟩ := atI_get he
  obtain ⟨w, ew, rw'⟩ := r.get h2
  have hl := r.length
  have hn := line63
  have fin : EP X pins σ Q w s := ⟨z, H, I, rw', q⟩
  by_cases h0 : 0 ≤ i
  · have hj : i.toNat = j := by
      rw [seqIndex_of h0 h5] at h1
      exact Option.some.inj h1
    exact item_listR pl.isList h0 (by omega) (by rw [hj]; simpa using ew) fin hs
  · have hj : (i + (its.toArray.size : Int)).toNat = j := by
      rw [seqIndex_neg (by omega) h4] at h1
      rw [List.size_toArray, ← hl]
      exact Option.some.inj h1
    exact subscriptTail_builtinR (x := w) pl.isList.typeIs slot_list_getitem.lookup
      (wpAny_getItem_list_neg (Q := fun r s' => r = w ∧ EP X pins σ Q r s') pl.isList (by omega) (by rw [List.size_toArray] <;> omega) (by omega) (by rw [hj]; simpa using ew) ⟨rfl, fin⟩) hs
theorem ix_tup : IxR X (rIxT X.K) := by
  intro value slice pins s σ H x y v u Q I rx ry h hs
  obtain ⟨p, xs, i, z, rfl, rfl, hq, he, q⟩ := h
  cases rx
  obtain ⟨t, rfl⟩ := ry
  obtain ⟨its, r, pl, hz⟩ := I.tuple hq
  obtain ⟨j, h1, h2, h3, h4, h5⟩ := atI_get he
  obtain ⟨w, ew, rw'⟩ := r.get h2
  have hl := r.length
  have hn := line63
  have fin : EP X pins σ Q w s := ⟨z, H, I, rw', q⟩
  exact subscriptTail_builtinR (x := w) pl.typeIs slot_tuple_getitem.lookup
    (getItem_tuple (j := j) (Q := fun r s' => r = w ∧ EP X pins σ Q r s') pl (by omega) (by omega) (by rw [List.size_toArray, ← hl]; exact h1) (by simpa using ew) ⟨rfl, fin⟩) hs
theorem ix_str : IxR X rIxS := by
  intro value slice pins s σ H x y v u Q I rx ry h hs
  obtain ⟨z, i, c, rfl, rfl, hz, he, q⟩ := h
  obtain ⟨t, rfl⟩ := rx
  obtain ⟨t', rfl⟩ := ry
  obtain ⟨j, h1, h2, h3, h4, h5⟩ := atI_get he
  have hl : z.cps.toList.length = z.length := by simp [Str.length]
  rw [hl] at h1 h4 h5
  have hn := line63
  exact tail_any (typeIs_str s z t) slot_str_getitem.lookup (getItem_str (c := c) (by
    have e1 : decide (i < -(2 ^ 63 : Int)) = false := decide_eq_false (by omega)
    have e2 : decide (i ≥ 2 ^ 63) = false := decide_eq_false (by omega)
    rw [e1, e2, Bool.or_false]) (by rw [h1]; simpa using h2) ⟨.str ⟨#[c]⟩, H, I.tok _, ⟨_, rfl⟩, q⟩) hs
/-- list, tuple or str -/
def rIx (K : PySem.W.Frag) : R2 := fun x y H Q => rIxL K x y H Q ∨ rIxT K x y H Q ∨ rIxS x y H Q
theorem ix_seq : IxR X (rIx X.K) := ix_list.or (ix_tup.or ix_str)

/-! ### xs[i] = v, any sign -/
/-- the list's object behind a store -/
theorem mapSeq_set (its : List Value) (n j : Nat) (u : Value) : Obj.mapSeq (·.setIfInBounds j u) { cls := .type "list", data := .seq its.toArray n } = { cls := .type "list", data := .seq (its.set j u).toArray n } := by
  simp [Obj.mapSeq]
theorem Inv.lst {pins : List (Addr × Obj)} {σ : St} {H : Hp} {s : Shared} {p : Addr} {xs : List V} (I : Inv X pins σ H s) (h : H p = some (.lst xs)) :
    ∃ (its : List Value) (n : Nat), Vals xs its ∧ s.heap.get? p = some { cls := .type "list", data := .seq its.toArray n } ∧ xs.length ≤ sizeLine := by
  obtain ⟨z, its, n, r, e⟩ := I.hok p _ h
  exact ⟨its, n, r, e, z⟩
/-- the list at p is written by an update of its object -/
theorem Inv.lstUpd {pins : List (Addr × Obj)} {σ : St} {H : Hp} {s : Shared} {p : Addr} {xs ys : List V} {its its' : List Value} {n n' : Nat} {f : Obj → Obj} (I : Inv X pins σ H s) (h : H p = some (.lst xs))
    (ho : s.heap.get? p = some { cls := .type "list", data := .seq its.toArray n }) (hf : f { cls := .type "list", data := .seq its.toArray n } = { cls := .type "list", data := .seq its'.toArray n' }) (r : Vals ys its') (hz : ys.length ≤ sizeLine) (t : Nat) :
    Inv X pins σ (upd H p (.lst ys)) { s with heap := s.heap.update p f, toks := t } := by
  have e : (s.heap.update p f).get? p = some { cls := .type "list", data := .seq its'.toArray n' } := by
    rw [Heap.get?_update_self f ho (by rw [hf] <;> rfl), hf]
  refine I.write (x := p) (e := p) (by rw [h]; trivial) (.inl rfl) (fun b u hb q => (Heap.get?_update_other _ _ (Ne.symm hb)).trans q) ⟨_, e⟩ ?_
  exact ⟨hz, its', n', r, e⟩
def rSetL : V → V → V → Hp → (Hp → Prop) → Prop := fun o i v H Q => ∃ p xs k j, o = .ref p ∧ i = .int k ∧ H p = some (.lst xs) ∧ ixN xs.length k = some j ∧ Q (upd H p (.lst (xs.set j v)))
theorem set_list : PSet X rSetL := by
  intro pins s σ H o i v ov iv u Q I ro ri rv h
  obtain ⟨p, xs, k, j, rfl, rfl, hp, hj, q⟩ := h
  cases ro
  obtain ⟨t, rfl⟩ := ri
  obtain ⟨its, n, r, ho, hz⟩ := I.lst hp
  obtain ⟨h1, h2, h3, h4⟩ := ixN_seq hj
  have hl := r.length
  have hn := line63
  have I' : Inv X pins σ (upd H p (.lst (xs.set j v))) { s with heap := s.heap.update p (Obj.mapSeq (·.setIfInBounds j u)) } :=
    I.lstUpd hp ho (mapSeq_set its n j u) (r.set rv j) (by rw [List.length_set]; exact hz) s.toks
  by_cases h0 : 0 ≤ k
  · have hk : k.toNat = j := by
      rw [seqIndex_of h0 h4] at h1
      exact Option.some.inj h1
    exact PySem.W.ki_setAt ho h0 (by omega) (by rw [List.size_toArray, ← hl]; exact h4) (by rw [hk]; exact ⟨_, I', q⟩)
  · have hk : (k + (its.toArray.size : Int)).toNat = j := by
      rw [seqIndex_neg (by omega) h3] at h1
      rw [List.size_toArray, ← hl]
      exact Option.some.inj h1
    exact PySem.W.ki_setBack ho (by omega) (by rw [List.size_toArray, ← hl]; exact h3) (by omega) (by rw [hk]; exact ⟨_, I', q⟩)

/-! ### slices -/
theorem slice_bounds (lo hi : Option Int) (n : Nat) : (sliceBounds lo hi none n).1 = ((HT.sIx n 0 lo : Nat) : Int) ∧ (sliceBounds lo hi none n).2.1 = ((HT.sIx n n hi : Nat) : Int) ∧ (sliceBounds lo hi none n).2.2 = 1 := by
  refine ⟨?_, ?_, rfl⟩
  · cases lo with
    | none => simp [sliceBounds, HT.sIx]
    | some i =>
      simp only [sliceBounds, HT.sIx, Option.getD_none, show (1 : Int) > 0 by decide, if_true]
      by_cases h : i < 0
      · simp only [h, if_true] <;> omega
      · simp only [h, if_false] <;> omega
  · cases hi with
    | none => simp [sliceBounds, HT.sIx]
    | some i =>
      simp only [sliceBounds, HT.sIx, Option.getD_none, show (1 : Int) > 0 by decide, if_true]
      by_cases h : i < 0
      · simp only [h, if_true] <;> omega
      · simp only [h, if_false] <;> omega
theorem slicePick_cut (its : List Value) (lo hi : Option Int) : slicePick its.toArray lo hi none = ((its.drop (HT.sIx its.length 0 lo)).take (HT.sIx its.length its.length hi - HT.sIx its.length 0 lo)).toArray := by
  obtain ⟨h1, h2, h3⟩ := slice_bounds lo hi its.toArray.size
  unfold slicePick
  rw [h1, h2, h3]
  simp only [sliceRange_one, pick_run, List.size_toArray] <;> rfl
/-- xs[lo:hi] of a list: a new list -/
def rSlL (K : PySem.W.Frag) : V → Option Int → Option Int → Hp → VK → Prop := fun x lo hi H Q => ∃ a xs, x = .ref a ∧ SqL K H a xs ∧ ∀ p, H p = none → Q (.ref p) (upd H p (.lst (cutV xs lo hi)))
theorem sl_list : SlR X (rSlL X.K) := by
  intro pins s σ H x v vl vu lo hi sl Q I rx hs pl pu h
  obtain ⟨a, xs, rfl, hx, q⟩ := h
  cases rx
  obtain ⟨its, r, ht, hz⟩ := I.list hx
  have hlen := r.length
  refine ⟨"list", _, slot_list_getitem.lookup, ht.isList.typeIs, ?_⟩
  refine wpAny_getItem_list_slice ht.isList hs pl pu .none (by simp) ?_ (by rw [List.size_toArray] <;> omega)
  rw [slicePick_cut, ← hlen]
  refine ⟨.ref s.heap.objs.size, _, I.laid (t' := s.toks) (o := .lst (cutV xs lo hi)) (fun b ob q => Heap.get?_push_of_some _ q) (Nat.le_refl _) ?_, rfl, q _ (I.hok.fresh (Nat.le_refl _))⟩
  exact ⟨Nat.le_trans (cutV_length xs lo hi) hz, _, 0, (r.drop (HT.sIx xs.length 0 lo)).take (HT.sIx xs.length xs.length hi - HT.sIx xs.length 0 lo), Heap.get?_push_size _ rfl⟩

/-! ### in, not in: flat items -/
def flatV : V → Bool
  | .non => true
  | .bl _ => true
  | .int _ => true
  | .str _ => true
  | _ => false
/-- == of flat values -/
def eqV : V → V → Bool
  | .non, .non => true
  | .bl a, .bl b => a == b
  | .bl a, .int b => (if a then 1 else 0) == b
  | .int a, .bl b => a == (if b then 1 else 0)
  | .int a, .int b => a == b
  | .str a, .str b => a == b
  | _, _ => false
theorem eqAt_V {A : Around} {s : Shared} {y x : V} {u v : Value} (ry : RelV y u) (rx : RelV x v) (fy : flatV y = true) (fx : flatV x = true) : SeqAt.EqAt A s u v (eqV y x) := by
  cases y with
  | non =>
    cases ry
    cases x with
    | non => cases rx; exact SeqAt.EqAt.same _
    | bl b => cases rx; exact SeqAt.EqAt.none_bool b
    | int b => obtain ⟨t, rfl⟩ := rx; exact SeqAt.EqAt.none_int b t
    | str b => obtain ⟨t, rfl⟩ := rx; exact SeqAt.EqAt.none_str b t
    | _ => exact absurd (show false = true from fx) Bool.false_ne_true
  | bl a =>
    cases ry
    cases x with
    | non => cases rx; exact SeqAt.EqAt.bool_none a
    | bl b => cases rx; exact SeqAt.EqAt.bool_bool a b
    | int b => obtain ⟨t, rfl⟩ := rx; exact SeqAt.EqAt.bool_int a b t
    | str b => obtain ⟨t, rfl⟩ := rx; exact SeqAt.EqAt.bool_str a b t
    | _ => exact absurd (show false = true from fx) Bool.false_ne_true
  | int a =>
    obtain ⟨t', rfl⟩ := ry
    cases x with
    | non => cases rx; exact SeqAt.EqAt.int_none a t'
    | bl b => cases rx; exact SeqAt.EqAt.int_bool a t' b
    | int b => obtain ⟨t, rfl⟩ := rx; exact SeqAt.EqAt.int_int a t' b t
    | str b => obtain ⟨t, rfl⟩ := rx; exact SeqAt.EqAt.int_str a t' b t
    | _ => exact absurd (show false = true from fx) Bool.false_ne_true
  | str a =>
    obtain ⟨t', rfl⟩ := ry
    cases x with
    | non => cases rx; exact SeqAt.EqAt.str_none a t'
    | bl b => cases rx; exact SeqAt.EqAt.str_bool a t' b
    | int b => obtain ⟨t, rfl⟩ := rx; exact SeqAt.EqAt.str_int a t' b t
    | str b => obtain ⟨t, rfl⟩ := rx; exact SeqAt.EqAt.str_str a t' b t
    | _ => exact absurd (show false = true from fx) Bool.false_ne_true
  | _ => exact absurd (show false = true from fy) Bool.false_ne_true
/-- the items' answers, read off the values (a value's own answer does not lean on its token) -/
def eqU (x : V) (u : Value) : Bool := match u with
  | .none => eqV .non x
  | .bool b => eqV (.bl b) x
  | .int i _ => eqV (.int i) x
  | .str z _ => eqV (.str z) x
  | _ => false
theorem eqU_of {x y : V} {u : Value} (r : RelV y u) (f : flatV y = true) : eqU x u = eqV y x := by
  cases y with
  | non => cases r; rfl
  | bl b => cases r; rfl
  | int i => obtain ⟨t, rfl⟩ := r; rfl
  | str z => obtain ⟨t, rfl⟩ := r; rfl
  | _ => exact absurd (show false = true from f) Bool.false_ne_true
theorem any_eqU {x : V} : ∀ {xs : List V} {us : List Value}, Vals xs us → xs.all flatV = true → us.any (eqU x) = xs.any fun y => eqV y x
  | _, _, .nil, _ => rfl
  | y :: xs, u :: us, .cons r t, f => by
    rw [List.all_cons, Bool.and_eq_true] at f
    rw [List.any_cons, List.any_cons, eqU_of r f.1, any_eqU t f.2]
theorem mem_eqAt {A : Around} {s : Shared} {x : V} {v : Value} (rx : RelV x v) (fx : flatV x = true) : ∀ {xs : List V} {us : List Value}, Vals xs us → xs.all flatV = true → ∀ u ∈ us, SeqAt.EqAt A s u v (eqU x u)
  | _, _, .nil, _ => fun u hu => by cases hu
  | y :: xs, u :: us, .cons r t, f => fun u' hu => by
    rw [List.all_cons, Bool.and_eq_true] at f
    rcases List.mem_cons.mp hu with rfl | hu
    · rw [eqU_of r f.1]; exact eqAt_V r rx f.1 fx
    · exact mem_eqAt rx fx t f.2 u' hu
def inV (x : V) (xs : List V) : Bool := xs.any fun y => eqV y x
/-- x in a list or tuple of flat items -/
def rIn (K : PySem.W.Frag) (neg : Bool) : R2 := fun x y H Q => ∃ p xs, y = .ref p ∧ (SqL K H p xs ∨ SqT K H p xs) ∧ flatV x = true ∧ xs.all flatV = true ∧ Q (.bl (if neg then !inV x xs else inV x xs)) H
theorem op_in_seq : OpR X (compareOp .In) (rIn X.K false) := by
  intro pins s σ H x y v u Q I rx ry h
  obtain ⟨p, xs, rfl, hq, fx, fs, q⟩ := h
  cases ry
  rcases hq with hq | hq
  · obtain ⟨its, r, pl, hz⟩ := I.list hq
    refine SeqAt.in_listAt (eqU x) pl.isList (fun w hw => mem_eqAt rx fx r fs w (by simpa using hw)) ⟨.bl _, H, I, rfl, ?_⟩
    rw [show its.toArray.any (eqU x) = its.any (eqU x) by simp, any_eqU r fs]
    exact q
  · obtain ⟨its, r, pl, hz⟩ := I.tuple hq
    refine SeqAt.in_tupleAt (eqU x) pl (fun w hw => mem_eqAt rx fx r fs w (by simpa using hw)) ⟨.bl _, H, I, rfl, ?_⟩
    rw [show its.toArray.any (eqU x) = its.any (eqU x) by simp, any_eqU r fs]
    exact q
theorem op_notIn_seq : OpR X (compareOp .NotIn) (rIn X.K true) := by
  intro pins s σ H x y v u Q I rx ry h
  obtain ⟨p, xs, rfl, hq, fx, fs, q⟩ := h
  cases ry
  rcases hq with hq | hq
  · obtain ⟨its, r, pl, hz⟩ := I.list hq
    refine SeqAt.notIn_listAt (eqU x) pl.isList (fun w hw => mem_eqAt rx fx r fs w (by simpa using hw)) ⟨.bl _, H, I, rfl, ?_⟩
    rw [show its.toArray.any (eqU x) = its.any (eqU x) by simp, any_eqU r fs]
    exact q
  · obtain ⟨its, r, pl, hz⟩ := I.tuple hq
    refine SeqAt.notIn_tupleAt (eqU x) pl (fun w hw => mem_eqAt rx fx r fs w (by simpa using hw)) ⟨.bl _, H, I, rfl, ?_⟩
    rw [show its.toArray.any (eqU x) = its.any (eqU x) by simp, any_eqU r fs]
    exact q
theorem op_notIn_str : OpR X (compareOp .NotIn) (fun x y H Q => ∃ i j, x = .str i ∧ y = .str j ∧ Q (.bl (!(!(Builtin.Str.occurrences j i 0 j.length 1).isEmpty))) H) := by
  intro pins s σ H x y v u Q I rx ry h
  obtain ⟨i, j, rfl, rfl, q⟩ := h
  obtain ⟨t, rfl⟩ := rx
  obtain ⟨t', rfl⟩ := ry
  exact notIn_str ⟨.bl _, H, I, rfl, q⟩

/-! ### len, list(x), tuple(x) of any list or tuple that is read -/
theorem call_len_seq : CallR X (.builtin "len") (fun xs H Q => ∃ p ys, xs = [.ref p] ∧ (SqL X.K H p ys ∨ SqT X.K H p ys) ∧ Q (.int ys.length) H) := by
  intro pins s σ H xs us Q I r h
  obtain ⟨p, ys, rfl, hq, q⟩ := h
  obtain ⟨u, rfl, rx⟩ := vals1 r
  cases rx
  have hn := line63
  rcases hq with hq | hq
  · obtain ⟨its, r', pl, hz⟩ := I.list hq
    have hlen := r'.length
    exact Calls.call_len_list pl.isList (by simp only [List.size_toArray] <;> omega) ⟨.int ys.length, H, I.tok _, ⟨s.toks + 1, by rw [List.size_toArray, hlen]⟩, q⟩
  · obtain ⟨its, r', pl, hz⟩ := I.tuple hq
    have hlen := r'.length
    exact len_tuple pl (by simp only [List.size_toArray] <;> omega) ⟨.int ys.length, H, I.tok _, ⟨s.toks + 1, by rw [List.size_toArray, hlen]⟩, q⟩
theorem call_len_str : CallR X (.builtin "len") (fun xs H Q => ∃ z, xs = [.str z] ∧ z.length ≤ sizeLine ∧ Q (.int z.length) H) := by
  intro pins s σ H xs us Q I r h
  obtain ⟨z, rfl, hz, q⟩ := h
  obtain ⟨u, rfl, t, rfl⟩ := vals1 r
  have hn := line63
  exact len_str (by omega) ⟨.int z.length, H, I.tok _, ⟨_, rfl⟩, q⟩
theorem CallR.or {f : Value} {r r' : List V → Hp → VK → Prop} (h : CallR X f r) (h' : CallR X f r') : CallR X f (fun xs H Q => r xs H Q ∨ r' xs H Q) := by
  intro pins s σ H xs us Q I rs q
  rcases q with q | q
  · exact h pins s σ H xs us Q I rs q
  · exact h' pins s σ H xs us Q I rs q
theorem call_list_of : CallR X (.type "list") (fun xs H Q => ∃ p ys, xs = [.ref p] ∧ (SqL X.K H p ys ∨ SqT X.K H p ys) ∧ ∀ l, H l = none → Q (.ref l) (upd H l (.lst ys))) := by
  intro pins s σ H xs us Q I r h
  obtain ⟨p, ys, rfl, hq, q⟩ := h
  obtain ⟨u, rfl, rx⟩ := vals1 r
  cases rx
  have fin : ∀ (its : List Value), Vals ys its → ys.length ≤ sizeLine → ∀ (h' : Heap) (c' : Nat), (∀ b o', s.heap.get? b = some o' → h'.get? b = some o') →
      h'.get? s.heap.objs.size = some { cls := .type "list", dict := none, data := .seq its.toArray c', slots := #[] } → EP X pins σ Q (.ref s.heap.objs.size) { s with heap := h' } := fun its r' hz h' c' kp e =>
    ⟨.ref s.heap.objs.size, _, I.laid (t' := s.toks) kp (Nat.le_refl _) (show ObjOk X.prog X.w _ h' _ (.lst ys) from ⟨hz, its, c', r', e⟩), rfl, q _ (I.hok.fresh (Nat.le_refl _))⟩
  rcases hq with hq | hq
  · obtain ⟨its, r', pl, hz⟩ := I.list hq
    have hlen := r'.length
    obtain ⟨o, ho, hc, n, hd⟩ := pl.isList
    exact call_list_seq p (.inl rfl) ho hc hd (fun h' c' kp e => fin its r' hz h' c' kp e) (by simp only [List.size_toArray] <;> omega)
  · obtain ⟨its, r', pl, hz⟩ := I.tuple hq
    have hlen := r'.length
    obtain ⟨o, ho, hc, n, hd⟩ := pl
    exact call_list_seq p (.inr rfl) ho hc hd (fun h' c' kp e => fin its r' hz h' c' kp e) (by simp only [List.size_toArray] <;> omega)
/-! ### the call of a builtin's method: o.m(..) -/
/-- the value is of that builtin type -/
def tyV (K : PySem.W.Frag) (T : String) (x : V) (H : Hp) : Prop := match x with
  | .str _ => T = "str"
  | .int _ => T = "int"
  | .ref p => (T = "list" ∧ ∃ xs, SqL K H p xs) ∨ (T = "tuple" ∧ ∃ o, K.lookup p = some o ∧ o.cls = .type "tuple" ∧ o.dict = none) ∨
      (T = "dict" ∧ ((∃ kvs, H p = some (.dK kvs)) ∨ ∃ kvs, H p = some (.dT kvs))) ∨ (T = "set" ∧ ∃ S n, H p = some (.set S n))
  | _ => False
theorem tyV_is {pins : List (Addr × Obj)} {σ : St} {H : Hp} {s : Shared} {T : String} {x : V} {v : Value} (I : Inv X pins σ H s) (r : RelV x v) (ty : tyV X.K T x H) :
    s.TypeIs v T ∧ ∀ a, v = .ref a → ∃ ob, s.heap.get? a = some ob ∧ ob.dict = none := by
  cases x with
  | str z =>
    obtain ⟨t, rfl⟩ := r
    cases (show T = "str" from ty)
    exact ⟨typeIs_str s z t, fun _ e => nomatch e⟩
  | int i =>
    obtain ⟨t, rfl⟩ := r
    cases (show T = "int" from ty)
    exact ⟨typeIs_int s i t, fun _ e => nomatch e⟩
  | ref p =>
    cases r
    rcases ty with ⟨rfl, xs, hq⟩ | ⟨rfl, o, hk, hc, hd⟩ | ⟨rfl, hk⟩ | ⟨rfl, S, n, hk⟩
    · obtain ⟨its, _, pl, _⟩ := I.list hq
      refine ⟨pl.isList.typeIs, fun a e => ?_⟩
      cases e
      obtain ⟨o, n, e, c, hd, _⟩ := pl
      exact ⟨o, e, hd⟩
    · refine ⟨⟨o, I.kIn p o hk, hc⟩, fun a e => ?_⟩
      cases e
      exact ⟨o, I.kIn _ o hk, hd⟩
    · have z : ∃ o, s.heap.get? p = some o ∧ o.ExactDict := by
        rcases hk with ⟨kvs, hk⟩ | ⟨kvs, hk⟩
        · obtain ⟨_, _, _, _, o, _, _, e, ex, _⟩ := I.hok p _ hk
          exact ⟨o, e, ex⟩
        · obtain ⟨_, _, _, _, o, _, _, e, ex, _⟩ := I.hok p _ hk
          exact ⟨o, e, ex⟩
      obtain ⟨o, e, ex⟩ := z
      refine ⟨⟨o, e, ex.1⟩, fun a e2 => ?_⟩
      cases e2
      exact ⟨o, e, ex.2.1⟩
    · obtain ⟨o, _, _, _, e, ex, _⟩ := I.hok p _ hk
      refine ⟨⟨o, e, ex.1⟩, fun a e2 => ?_⟩
      cases e2
      exact ⟨o, e, ex.2.1⟩
  | _ => exact False.elim ty
def tBM (K : PySem.W.Frag) (T : String) (r : V → List V → Hp → VK → Prop) (to : TE) (t : TA) : TE := fun σ H Q => to σ H fun x H1 => tyV K T x H1 ∧ t σ H1 fun xs H2 => r x xs H2 Q
variable {o e : Expr} {es : List Expr} {to : TE} {t : TA} {name : Str} {apos cpos : Pos} {T id : String} {r : V → List V → Hp → VK → Prop}
theorem pe_bm (pa : PlainAttrs T) (slot : Slot T name id) (hty : typeOf (.builtin id) = pure (.type "method_descriptor")) (hm : MtR X id r) (ho : PE X o to) (ha : PA X (e :: es) t)
    (hbase : attributeBase o name X.env (eval o X.env) = eval o X.env := by rfl)
    (hfew : ((backTo cpos (starEach (e :: es) X.env)).all (fun x => !x.1) && (backToKw cpos (keywordEach [] X.env)).all (fun x => x.1.isSome)
      && decide ((e :: es).length + ([] : List Keyword).length + (if ([] : List Keyword).isEmpty then 0 else 1) < 30)) = true := by rfl)
    (hline : (apos.endLine == cpos.line) = true := by rfl) (hs : starEach (e :: es) X.env = (false, eval e X.env) :: starEach es X.env := by rfl) (hplain : (backTo cpos (starEach es X.env)).any (·.1) = false := by rfl) :
    PE X (.Call (.Attribute o name apos) (e :: es) [] cpos) (tBM X.K T r to t) := by
  intro pins s σ H Q I h
  refine wpAny_Call_method_late hbase hfew hline rfl (thn (ho pins s σ H _ I h) fun v s1 ⟨x, H1, I1, r1, ty, q1⟩ => ?_)
  obtain ⟨h1, h2⟩ := tyV_is I1 r1 ty
  refine ⟨T, id, pa, slot, hty, h1, h2, ?_⟩
  have hA := ha cpos pins s1 σ H1 _ I1 q1
  rw [hs] at hA ⊢
  refine Calls.callWith_builtin (by show (false || (backTo cpos (starEach es X.env)).any (·.1)) = false; rw [hplain] <;> rfl) (Calls.evalArgs_plain ?_)
  exact thn hA fun us s2 ⟨vs, H2, I2, r2, q2⟩ => hm pins s2 σ H2 x vs v us Q I2 r1 r2 q2
/- xs.append(e), list.index on a module's tuple .. are MtR facts of 06m -/
end
end L2

namespace L2
open PySem PySem.Spec PyProof.Rows

def MtM (X : Cx) (id : String) (r : V → List V → Hp → VK → Prop) : Prop :=
  ∀ (pins : List (Addr × Obj)) (s : Shared) (σ : St) (H : Hp) (x : V) (xs : List V) (v : Value) (us : List Value) (Q : VK), Inv X pins σ H s → RelV x v → Vals xs us → r x xs H Q →
    wpAny (model X.prog X.w) X.A (call (.builtin id) (v :: us)) (EP X pins σ Q) X.xe s

/-! ### lists of values -/
theorem Vals.one : ∀ {x : V} {us : List Value}, Vals [x] us → ∃ u, us = [u] ∧ RelV x u
  | _, _, .cons r .nil => ⟨_, rfl, r⟩
theorem Vals.two : ∀ {x y : V} {us : List Value}, Vals [x, y] us → ∃ u v, us = [u, v] ∧ RelV x u ∧ RelV y v
  | _, _, _, .cons r (.cons q .nil) => ⟨_, _, rfl, r, q⟩
theorem Vals.zero : ∀ {us : List Value}, Vals [] us → us = []
  | _, .nil => rfl
theorem Vals.rep {xs : List V} {us : List Value} (h : Vals xs us) : ∀ k : Nat, Vals (List.replicate k xs).flatten (List.replicate k us).flatten
  | 0 => .nil
  | k + 1 => by
    rw [List.replicate_succ, List.replicate_succ, List.flatten_cons, List.flatten_cons]
    exact Vals.append h (Vals.rep h k)
theorem foldl_rep (its : List Value) : ∀ (k : Nat) (acc : List Value),
    List.foldl (fun x1 x2 => x1 ++ x2) acc.toArray (List.replicate k its.toArray) = (acc ++ (List.replicate k its).flatten).toArray
  | 0, acc => by simp
  | k + 1, acc => by
    have e : acc.toArray ++ its.toArray = (acc ++ its).toArray := by simp
    have e2 : (acc ++ its) ++ (List.replicate k its).flatten = acc ++ (List.replicate (k + 1) its).flatten := by
      rw [List.replicate_succ, List.flatten_cons, List.append_assoc]
    rw [← e2, ← foldl_rep its k (acc ++ its), ← e, List.replicate_succ, List.foldl_cons]

section
variable {X : Cx} {pins : List (Addr × Obj)} {σ : St} {H : Hp} {s : Shared} {l b : Addr} {xs ys zs : List V}

/-! ### the two steps: a tracked list is rewritten, a new list is laid -/
theorem Inv.lset {its its' : List Value} {n : Nat} {f : Array Value → Array Value} {t' : Nat} (I : Inv X pins σ H s) (hH : H l = some (.lst xs))
    (e : s.heap.get? l = some { cls := .type "list", data := .seq its.toArray n }) (hf : f its.toArray = its'.toArray) (hv : Vals ys its') (hz : ys.length ≤ sizeLine) :
    Inv X pins σ (upd H l (.lst ys)) { s with heap := s.heap.update l (Obj.mapSeq f), toks := t' } := by
  have q := PySem.IsL.update e f
  rw [hf] at q
  refine I.write (x := l) (e := l) (by rw [hH]; exact trivial) (.inl rfl) (fun b' u hb hu => (Heap.get?_update_other s.heap (Obj.mapSeq f) (Ne.symm hb)).trans hu) ⟨_, q⟩ ?_
  exact ⟨hz, its', _, hv, q⟩
theorem Inv.lnew {its : List Value} {t' : Nat} (I : Inv X pins σ H s) (hv : Vals ys its) (hz : ys.length ≤ sizeLine) :
    Inv X pins σ (upd H s.heap.objs.size (.lst ys)) { s with heap := s.heap.push { cls := .type "list", data := .seq its.toArray }, toks := t' } :=
  I.laid (fun _ _ q => Heap.get?_push_of_some _ q) (Nat.le_refl _) ⟨hz, its, 0, hv, Heap.get?_push_size _ rfl⟩
theorem Inv.fresh (I : Inv X pins σ H s) : H s.heap.objs.size = none := I.hok.fresh (Nat.le_refl _)
theorem Inv.lstM (I : Inv X pins σ H s) (hH : H l = some (.lst xs)) : xs.length ≤ sizeLine ∧ ∃ (its : List Value) (n : Nat), Vals xs its ∧ xs.length = its.length ∧ s.heap.get? l = some { cls := .type "list", data := .seq its.toArray n } := by
  obtain ⟨z, its, n, r, e⟩ := I.hok l _ hH
  exact ⟨z, its, n, r, r.length, e⟩

theorem notLongL {n : Nat} (h : n ≤ sizeLine) : Builtin.List.listTooLong n = false := by
  unfold Builtin.List.listTooLong
  exact decide_eq_false (by omega)
end

section
variable {X : Cx}

/-! ### methods -/
def rAppend : V → List V → Hp → VK → Prop := fun x vs H Q => ∃ l xs y, x = .ref l ∧ vs = [y] ∧ H l = some (.lst xs) ∧ xs.length < sizeLine ∧ Q .non (upd H l (.lst (xs ++ [y])))
theorem mt_append : MtM X "list.append" rAppend := by
  intro pins s σ H x vs v us Q I rx rv h
  obtain ⟨l, xs, y, rfl, rfl, hH, hz, q⟩ := h
  cases rx
  obtain ⟨u, rfl, ru⟩ := rv.one
  obtain ⟨z, its, n, r, hl, e⟩ := I.lstM hH
  refine call_meets F.slot_list_append ⟨_, e, rfl⟩ F.entry_list_append (F.args_list_append_2 _ _) (PySem.list_append l its.toArray n u (by rw [List.size_toArray]; omega)) ⟨e, ?_⟩
  refine ⟨.non, _, I.lset (its' := its ++ [u]) hH e (by simp) (r.append (.cons ru .nil)) ?_, rfl, q⟩
  rw [List.length_append, List.length_singleton]
  omega

/-! ### list + list, list += list, list * int -/
theorem len_rep {α : Type} (xs : List α) (k : Nat) : (List.replicate k xs).flatten.length = k * xs.length := by
  induction k with
  | zero => simp
  | succ k ih => rw [List.replicate_succ, List.flatten_cons, List.length_append, ih, Nat.succ_mul, Nat.add_comm]
/-! ### del xs[i] -/
end

/-! ### xs[a:b] = ys -/
section
variable {prog : Program} {w : World} {A : Around} {E : Value → Shared → Prop} {s : Shared}
set_option maxRecDepth 100000 in
end

section
variable {X : Cx}
end
end L2

namespace Att
open PySem PySem.W PySem.Calls PyProof.Rows

/-! ### the script -/
theorem ints_of_wellAll {P : Params} {h : Heap} : ∀ (ns : List Int) (vs : List Value), WellAll P h vs (ns.map WData.int) → IntsAre vs ns := by
  intro ns
  induction ns with
  | nil =>
    intro vs w
    rw [List.map_nil] at w
    cases w
    exact .nil
  | cons n ns ih =>
    intro vs w
    rw [List.map_cons] at w
    cases w with
    | cons a b =>
      cases a
      exact .cons _ _ (ih _ b)

theorem script_of {l : OpenLaw} {n : Nat} (hn : l.most = some n) {P : Params} {h : Heap} {args : List WData} {vals : List Value}
    (hpre : l.row.toRowW.claim.pre args = true) (hwl : WellAll P h vals args) :
    ∃ a vs ns, vals = [Value.ref a] ∧ args = [WData.list (ns.map WData.int)] ∧ h.get? a = some { cls := .type "list", data := .seq vs.toArray } ∧ IntsAre vs ns ∧ ns.length ≤ n := by
  have hsh : WShape.hasAll [] args [.list .int] = true := (pre_splitW hpre).1
  have hc : l.pre.holds [] { args := args } = true := (pre_splitW hpre).2
  obtain ⟨d, r, rfl, h1, h2⟩ := hasAllW_cons hsh
  obtain rfl := hasAllW_nil h2
  obtain ⟨xs, rfl, h3⟩ := hasW_list h1
  obtain ⟨ns, rfl⟩ := items_int h3
  have hlen : ns.length ≤ n := by
    unfold OpenLaw.pre at hc
    have h4 : (WTm.not (.lt (.lit (.int (n : Int))) (.len (.arg 0)))).holds [] { args := [.list (ns.map .int)] } = true := by
      have h4 := (holds_andW hc).1
      rw [hn] at h4
      exact h4
    have h5 := condW_of h4 (w_not (w_lt w_lit (w_len_list (w_arg rfl))))
    rw [List.length_map] at h5
    refine Nat.le_of_not_lt fun q => ?_
    have q' : (n : Int) < ((ns.length : Nat) : Int) := by omega
    first
      | (rw [decide_eq_true q'] at h5; exact absurd h5 (by decide))
      | (simp at h5; omega)
  cases hwl with
  | cons w1 w2 =>
    cases w2
    cases w1 with
    | list ho hall => exact ⟨_, _, ns, rfl, rfl, ho, ints_of_wellAll ns _ hall, hlen⟩

theorem post_true (l : OpenLaw) (args : List WData) : l.row.toRowW.claim.post args (.bool true) args = true :=
  postW_of (r := l.row.toRowW) (X := (true == true))
    (show WShape.has [] (.bool true) .bool = true by first | rfl | decide | simp [WShape.has, WShape.arms, WShape.armsAll])
    (show (WTm.eq .res (.lit (.bool true))).value [] { args := args, res := some (.bool true), after := args } = some (.bool (true == true)) from w_eq_bool (w_res rfl) w_lit) rfl

/-! ### the attachment: holds_open's last premise (the goal 'hc' behind k_head) from a wpAny of the law's body -/
/-- the same from a codeAny of the CALL (for a layer whose function contracts speak of calls) -/
theorem attach_call {l : OpenLaw} {n : Nat} {q : Program} {loose : List Str} {XP : (Str → Option Value) → Heap → Prop} {YP : World → Heap → Prop} {d : DefRec}
    (hn : l.most = some n) (hdf : d.params.defaults = [])
    (call : ∀ (w : World) (s₀ s₁ : Shared) (mg mb : Str → Option Value) (fa : Addr) (o : Obj) (pm cd doc : Value) (a : Addr) (vs : List Value) (ns : List Int),
      Ground q loose [] XP w s₀ mg mb s₁.heap → YP w s₁.heap →
      s₁.heap.get? fa = some o → o.data = .func (docDef d.name d.params d.body d.scope pm cd doc) → s₁.heap.CodeRec cd d.name → mg d.name = some (.ref fa) →
      s₁.heap.get? a = some { cls := .type "list", data := .seq vs.toArray } → IntsAre vs ns → ns.length ≤ n → s₁.gens = #[] →
      codeAny (model l.prog w) callerA (.call (.ref fa) ⟨[.ref a], []⟩) (fun r s' => r = .ok (.ret (.bool true)) ∧ OldK s₁.heap s'.heap ∧ s'.os = s₁.os ∧ AllBare s'.gens) s₁) :
    WalkO q loose XP YP l.row.toRowW d [] (fun f vs => PySem.call f vs) := by
  intro w s₀ s₁ mg mb G Y fa o pm cd doc dV kV ho hd hcd hD hmg hg args vals as hpre hlay hrd hwl hlo
  obtain rfl : dV = .none := Dflts.none hD hdf
  obtain rfl : kV = .none := Dflts.noKw hD
  obtain ⟨a, vs, ns, rfl, rfl, hobj, hints, hlen⟩ := script_of hn hpre hwl
  refine enter_call (codeAny_mono (call w s₀ s₁ mg mb fa o pm cd doc a vs ns G Y ho (fd_plain hd) hcd hmg hobj hints hlen hg) fun r s' hq => ?_)
  obtain ⟨rfl, h2, h3, h4⟩ := hq
  exact ⟨.inl ⟨.bool true, .bool true, [], rfl, fun _ => rfl, .bool true, post_true l _, fun _ => ⟨List.Pairwise.nil, fun _ hm => (nomatch hm)⟩⟩, h2, h3, h4⟩

/-! ### rules over ANY heap (no ledger) from facts about the written part K: the library's own take a ledger (News) for what they write -/
section
variable {prog : Program} {w : World} {A : Around} {E : Value → Shared → Prop} {s : Shared} {K : Frag}

/-! the whole heap as the ledger: makes every rule that writes through a ledger a rule over any heap -/
def ledger (h : Heap) (L d : Addr) : List (Addr × Obj) := (List.range h.objs.size).filterMap fun a => if a = L ∨ a = d then none else (h.get? a).map fun o => (a, o)
end
end Att

namespace L2
open PySem PySem.Spec PyProof.Rows

theorem vals_ints : ∀ {vs : List Value} {ns : List Int}, IntsAre vs ns → Vals (ns.map V.int) vs
  | _, _, .nil => .nil
  | _, _, .cons n t h => .cons ⟨t, rfl⟩ (vals_ints h)

/-- nothing is tracked but the script, known to the object (or it is an object of the module) -/
def Only (H : Hp) : Prop := ∀ b, H b = none ∨ ∃ o xs, H b = some (.frz o (.lst xs))

/-- THE HEAD: the law's promise, at the heap behind the top. F, the promise of the law's def, may use that base is part of the heap (so K.In base, base.Ns mainGlobals mg stand in Mod) -/
theorem law_call {P : Program} {w : World} {K : PySem.W.Frag} {mg mb : Str → Option Value} {CX : CXT} {k : Nat} {fa a : Addr} {fd : FuncData} {x : Str} {sp : Sp} {s₁ : Shared} {vs : List Value} {ns : List Int}
    (KX : K.In s₁.heap) (hns : s₁.heap.Ns mainGlobals mg) (hb : s₁.heap.Ns builtinsNs mb) (hbb : ∀ x : Str, x ≠ "__name__" → mb x = bootBuiltins x) (hlim : s₁.heap.NoLimit) (hg : s₁.gens = #[])
    (ha : s₁.heap.get? a = some { cls := .type "list", data := .seq vs.toArray }) (hi : IntsAre vs ns) (hl : ns.length ≤ sizeLine) (hr : Room k callerA)
    (F : ∀ base : Heap, K.In base → base.Ns mainGlobals mg → FnOk P w K mg base CX k fa fd [x] sp) (hbind : ∀ (s : Shared) (u : Value), BindsTo s fd ⟨[u], []⟩ [(x, u)])
    (hsp : ∀ H : Hp, Only H → SqL K H a (ns.map V.int) → sp [.ref a] H (fun v _ => v = .bl true) fun _ _ _ => False)
    (hCX : ∀ H e s', CX [] H s₁ (fun _ _ _ => False) e s' → False) :
    codeAny (model P w) callerA (.call (.ref fa) ⟨[.ref a], []⟩) (fun r s' => r = .ok (.ret (.bool true)) ∧ OldK s₁.heap s'.heap ∧ s'.os = s₁.os ∧ AllBare s'.gens) s₁ := by
  have rv := vals_ints hi
  have lenV := hi.length
  -- from an abstract heap in which nothing but the script may be tracked
  have core : ∀ H : Hp, Only H → SqL K H a (ns.map V.int) → HOk P w H s₁.heap → (∀ b, H b ≠ none → b = a) → (H a ≠ none → K.lookup a = none) →
      codeAny (model P w) callerA (.call (.ref fa) ⟨[.ref a], []⟩) (fun r s' => r = .ok (.ret (.bool true)) ∧ OldK s₁.heap s'.heap ∧ s'.os = s₁.os ∧ AllBare s'.gens) s₁ := by
    intro H hO hS hok hA hK
    have base_of : ∀ {b : Addr} {o : Obj}, s₁.heap.get? b = some o → H b = none → (hidT s₁.heap H).get? b = some o := fun e n => hidT_get e n
    have noA : ∀ {b : Addr} {o : Obj} {es : Array DictEntry} {ep : Nat}, s₁.heap.get? b = some o → o.data = .dict es ep → H b = none := fun {b o es ep} e d => by
      cases q : H b with
      | none => rfl
      | some u =>
        have e' : b = a := hA b (by rw [q]; simp)
        subst e'
        rw [ha] at e; cases e
        have d' : Data.seq vs.toArray _ = Data.dict es ep := d
        cases d'
    have nsK : ∀ {b : Addr} {m : Str → Option Value}, s₁.heap.Ns b m → (hidT s₁.heap H).Ns b m := fun {b m} ⟨o, es, ep, e, d, r⟩ => ⟨o, es, ep, base_of e (noA e d), d, r⟩
    have hKb : K.In (hidT s₁.heap H) := fun b o e => base_of (KX b o e) (by
      cases q : H b with
      | none => rfl
      | some u =>
        have e' : b = a := hA b (by rw [q]; simp)
        subst e'
        rw [hK (by rw [q]; simp)] at e; cases e)
    have hM : Mod K mg (hidT s₁.heap H) := ⟨hKb, nsK hns, ⟨mb, nsK hb, hbb⟩, let ⟨mc, h1, h2⟩ := hlim; ⟨mc, nsK h1, h2⟩⟩
    have e0 : Env0 P w K mg (hidT s₁.heap H) callerA [] s₁ H := ⟨rfl, hM, fun b o e => of_hidT e, Nat.le_of_eq (hidT_size _ _), trivial, fun b hb => absurd (show b ∈ ([] : List Addr) from hb) (by simp), hok, .of_eq hg⟩
    refine codeAny_mono ((F _ hKb (nsK hns)).run callerA [] s₁ H ⟨[.ref a], []⟩ [.ref a] [.ref a] _ _ hr e0 (hbind s₁ (.ref a)) (.cons rfl .nil) (hsp H hO hS)) fun r s' h => ?_
    cases r with
    | error e => exact (hCX H e s' h).elim
    | ok fl =>
      cases fl with
      | next => exact False.elim h
      | brk => exact False.elim h
      | cont => exact False.elim h
      | ret u =>
        obtain ⟨v, H', os, bare, un, hok', r', q⟩ := h
        have q' : v = .bl true := q
        subst q'
        obtain rfl : u = Value.bool true := r'
        refine ⟨rfl, OldK.of_keep fun b o e => ?_, os, bare⟩
        cases q : H b with
        | none => exact un.keep b o e q (by intro z; exact absurd (show b ∈ ([] : List Addr) from z) (by simp)) (by simp)
        | some u =>
          rcases hO b with z | ⟨ob, xs, z⟩
          · rw [q] at z; cases z
          · have z2 := un.frzs b ob _ z
            obtain ⟨e1, _⟩ := hok b _ z
            obtain ⟨e2, _⟩ := hok' b _ z2
            rw [e] at e1; cases e1
            exact e2
  cases hk : K.lookup a with
  | some o =>
    -- the script is one of the module's own objects
    have e := KX a o hk
    rw [ha] at e
    cases e
    refine core (fun _ => none) (fun _ => .inl rfl) (.inr ⟨_, vs.toArray, _, hk, rfl, ⟨rfl, rfl⟩, rfl, by rw [List.size_toArray, lenV]; exact hl, by simpa using rv⟩) (fun b u z => by have z' : (none : Option HO) = some u := z; cases z') (fun b z => absurd rfl z) fun z => absurd rfl z
  | none =>
    refine core (fun b => if b = a then some (.frz { cls := .type "list", data := .seq vs.toArray } (.lst (ns.map V.int))) else none) (fun b => ?_) (.inl (.inr ⟨{ cls := .type "list", data := .seq vs.toArray }, if_pos rfl⟩)) (fun b u z => ?_) (fun b z => ?_) fun _ => hk
    · by_cases hb : b = a
      · exact .inr ⟨_, _, if_pos hb⟩
      · exact .inl (if_neg hb)
    · by_cases hb : b = a
      · have z' := (if_pos hb).symm.trans z
        cases z'
        subst hb
        exact ⟨ha, by rw [List.length_map]; exact hl, vs, _, rv, ha⟩
      · have z' := (if_neg hb).symm.trans z
        cases z'
    · by_cases hb : b = a
      · exact hb
      · exact absurd (if_neg hb) z
end L2

namespace L2
open PySem PySem.Spec PyProof.Rows

/-- the goal that k_head leaves (case hc), from the law's promise. F gives the function object fd (K's own) once, then the promise over every base -/
theorem walk_of {l : PySem.W.OpenLaw} {n k : Nat} {q : Program} {loose : List Str} {XP : (Str → Option Value) → Heap → Prop} {YP : World → Heap → Prop} {d : DefRec} {K : Params → PySem.W.Frag} {CX : World → CXT} {sp : World → Sp} {x : Str}
    (hn : l.most = some n) (hn2 : n ≤ sizeLine) (hdf : d.params.defaults = []) (hr : Room k callerA)
    (hY : ∀ (w : World) (h : Heap), YP w h → (K w.params).In h)
    (F : ∀ (w : World) (mg : Str → Option Value) (fa : Addr) (h : Heap), (K w.params).In h → h.Ns mainGlobals mg → mg d.name = some (.ref fa) →
      ∃ fd : FuncData, (∀ (s : Shared) (u : Value), BindsTo s fd ⟨[u], []⟩ [(x, u)]) ∧
        ∀ base : Heap, (K w.params).In base → base.Ns mainGlobals mg → FnOk l.prog w (K w.params) mg base (CX w) k fa fd [x] (sp w))
    (hsp : ∀ (w : World) (H : Hp) (a : Addr) (ns : List Int), ns.length ≤ n → Only H → SqL (K w.params) H a (ns.map V.int) → sp w [.ref a] H (fun v _ => v = .bl true) fun _ _ _ => False)
    (hCX : ∀ (w : World) (H : Hp) (s : Shared) (e : Value) (s' : Shared), CX w [] H s (fun _ _ _ => False) e s' → False) :
    PySem.W.WalkO q loose XP YP l.row.toRowW d [] (fun f vs => PySem.call f vs) := by
  refine Att.attach_call hn hdf fun w s₀ s₁ mg mb fa o pm cd doc a vs ns G Y ho hd hcd hmg hobj hints hlen hg => ?_
  have KX := hY w _ Y
  obtain ⟨fd, hb, hF⟩ := F w mg fa _ KX G.T.g hmg
  exact law_call KX G.T.g G.T.b G.T.builtins G.T.nolimit hg hobj hints (Nat.le_trans hlen hn2) hr hF hb (fun H hO hS => hsp w H a ns hlen hO hS) fun H e s' => hCX w H s₁ e s'
end L2

/- THE LAST THEOREM (shape; LID, My.* are yours):
   My.Adr: a structure of the addresses that your layer names (classes, functions); My.Txt K t: a structure (Prop) of the equations over K;
   My.txt_mk : {K} {implicit addresses ..} (e1 : nsIn K mainGlobals "law" = some (some (.ref f))) (e2 : K.lookup f = some ⟨oc, od, .func (fnOf "law" "law" params body scope dV kV doc pm an cdv ct), sl⟩) (e3 : codeIn K cdv "law" = true) .. : ∃ t, My.Txt K t

set_option maxRecDepth 100000 in
set_option maxHeartbeats 0 in
(the tactic k_is has no namespace: write k_is) -/

/-! SHORT WORDS over the layer: a def of the text, its body, what a loop and a test want. -/
namespace L2
open PySem PySem.Spec PyProof.Rows

/-! ### the text by places -/
def defArgs (s : Stmt) : Arguments := match s with
  | .FunctionDef _ a _ _ _ _ _ _ _ _ => a
  | _ => { posonlyargs := [], args := [], vararg := none, kwonlyargs := [], kw_defaults := [], kwarg := none, defaults := [] }
def defBody (s : Stmt) : List Stmt := match s with
  | .FunctionDef _ _ b _ _ _ _ _ _ _ => b
  | _ => []
def defScope (s : Stmt) : Scope := match s with
  | .FunctionDef _ _ _ _ _ _ sc _ _ _ => sc
  | _ => { kind := .function, names := [], isGenerator := false, isCoroutine := false }

/-! ### no exception leaves a def -/
abbrev CX0 : CXT := fun _ _ _ _ _ _ => False
/-! ### a def (or method) of the text as it stands behind the top -/
structure Fun (K : PySem.W.Frag) (x qual : Str) (st : Stmt) (f : Addr) (fd : FuncData) : Prop where
  ex : ∃ (oc : Value) (od : Option Addr) (kV doc pm : Value) (an : Option Addr) (cdv ct : Value) (osl : Array (Option Value)),
    fd = PySem.W.fnOf x qual (defArgs st) (defBody st) (defScope st) .none kV doc pm an cdv ct ∧ K.lookup f = some ⟨oc, od, .func fd, osl⟩ ∧ PySem.W.codeIn K cdv qual = true
  kp : PySem.W.keepIn K (.ref f) = true
section
variable {P : Program} {w : World} {K : PySem.W.Frag} {mg : Str → Option Value} {base : Heap}
/-- THE RULE for a def: its body as a term of rules, and the reading of that term -/
theorem Fun.ok {x qual : Str} {st : Stmt} {f : Addr} {fd : FuncData} {N ps : List Str} {k : Nat} {sp : Sp} (F : Fun K x qual st f fd) (S : FnScope N ps (defScope st)) (len : ∀ vs H Q E, sp vs H Q E → vs.length = ps.length)
    (hbody : ∀ (cdv : Value) (A : Around) (outer : List Env) (s : Shared) (H : Hp) (vs : List V) (Q : VK) (E : XK), Room k (A.deeper (envOfC qual (defScope st) s.heap.objs.size f cdv)) → sp vs H Q E →
      ∃ t, PSs (cxOf CX0 P w K mg base N qual (defScope st) f cdv A outer s H E).nox (defBody st) t ∧ t { nx := fun _ H' => Q .non H', rt := Q } (start N vs) H) : FnOk P w K mg base CX0 (k + 1) f fd ps sp := by
  obtain ⟨oc, od, kV, doc, pm, an, cdv, ct, osl, rfl, lk, hcd⟩ := F.ex
  refine fn_of lk hcd S len fun A outer s H vs Q E hr hsp => ?_
  obtain ⟨t, h, q⟩ := hbody cdv A outer s H vs Q E hr hsp
  exact ⟨t, h.nox, q⟩
/-- how its arguments bind (no defaults): h is «fun _ _ _ _ _ _ us hl => match us, hl with | [_, _], _ => rfl», one _ a parameter -/
theorem Fun.binds {x qual : Str} {st : Stmt} {f : Addr} {fd : FuncData} {ps : List Str} (F : Fun K x qual st f fd)
    (h : ∀ (kV doc pm : Value) (an : Option Addr) (cdv ct : Value) (us : List Value), us.length = ps.length → bindArgs (PySem.W.fnOf x qual (defArgs st) (defBody st) (defScope st) .none kV doc pm an cdv ct) ⟨us, []⟩ = pure (ps.zip us)) : Binds K fd ps [] := by
  obtain ⟨oc, od, kV, doc, pm, an, cdv, ct, osl, rfl, lk, hcd⟩ := F.ex
  exact .all (h kV doc pm an cdv ct)
theorem fun_mk {x qual : Str} {st : Stmt} {f : Addr} {oc : Value} {od an : Option Addr} {osl : Array (Option Value)} {kV doc pm cdv ct : Value} (l : K.lookup f = some ⟨oc, od, .func (PySem.W.fnOf x qual (defArgs st) (defBody st) (defScope st) .none kV doc pm an cdv ct), osl⟩)
    (c : PySem.W.codeIn K cdv qual = true) (k : PySem.W.keepIn K (.ref f) = true) : Fun K x qual st f (PySem.W.fnOf x qual (defArgs st) (defBody st) (defScope st) .none kV doc pm an cdv ct) := ⟨⟨oc, od, kV, doc, pm, an, cdv, ct, osl, rfl, l, c⟩, k⟩
end
/-! ### expressions in short: the name that stands in the i-th slot -/
section
variable {X : Cx}
end

/-! ### tests -/
/-! ### heaps -/
/-- all that was tracked is as it was -/
def Same (H H' : Hp) : Prop := ∀ b o, H b = some o → H' b = some o
theorem Same.refl (H : Hp) : Same H H := fun _ _ h => h
theorem Same.trans {H H1 H2 : Hp} (a : Same H H1) (b : Same H1 H2) : Same H H2 := fun c o h => b c o (a c o h)
theorem Same.free {H H' : Hp} (e : Same H H') {l : Addr} (h : H' l = Option.none) : H l = Option.none := by
  cases q : H l with
  | none => rfl
  | some o =>
    rw [e l o q] at h
    cases h
theorem Same.seq {K : PySem.W.Frag} {H H' : Hp} {a : Addr} {xs : List V} (e : Same H H') (h : SqL K H a xs) : SqL K H' a xs := by
  rcases h with (h | ⟨o, h⟩) | h
  · exact .inl (.inl (e _ _ h))
  · exact .inl (.inr ⟨o, e _ _ h⟩)
  · exact .inr h

end L2


-- part L3x.lean
set_option Elab.async false
set_option linter.all false
set_option maxRecDepth 100000
namespace L3
open PySem PySem.Spec PyProof.Rows L2
abbrev St := L2.St

/-! ## exceptions -/
/-- an address that no one else of this body knows -/
structure FreshX (X : Cx) (pins : List (Addr × Obj)) (H : Hp) (b : Addr) : Prop where
  nl : b ≠ X.env.locals
  nc : ∀ x c, X.env.cells.lookup x = some c → c ≠ b
  np : ∀ p ∈ X.pn ++ pins, p.1 ≠ b
  n0 : X.s₀.heap.get? b = none
  nh : H b = none
/-- an exception of the class C is on its way in this frame -/
structure Flies (X : Cx) (pins : List (Addr × Obj)) (H : Hp) (s : Shared) (ea : Addr) (C : Value) : Prop where
  ex : ∃ oe vs a0, s.heap.get? ea = some oe ∧ oe.cls = C ∧ oe.data = .fields vs ∧ vs[0]? = some a0 ∧
    (vs[1]? = some .none ∨ ∃ T oT ts, vs[1]? = some (.ref T) ∧ T ≠ ea ∧ s.heap.get? T = some oT ∧ oT.data = .fields ts ∧ ts[3]? = some .none ∧ FreshX X pins H T)
  fr : FreshX X pins H ea
/-- how it lies behind a call -/
def CXR (P : Program) (w : World) : CXT := fun outer H s E e s' => ∃ (ea : Addr) (C : Value) (H' : Hp), e = .ref ea ∧ s'.os = s.os ∧ AllBare s'.gens ∧ Un (frs outer) [] H H' s.heap s'.heap ∧ HOk P w H' s'.heap ∧
  (s.heap.get? ea = none ∧ H' ea = none) ∧
  (∃ oe vs a0 T oT ts, s'.heap.get? ea = some oe ∧ oe.cls = C ∧ oe.data = .fields vs ∧ vs[0]? = some a0 ∧ vs[1]? = some (.ref T) ∧ T ≠ ea ∧ s'.heap.get? T = some oT ∧ oT.data = .fields ts ∧ ts[3]? = some .none ∧ s.heap.get? T = none ∧ H' T = none) ∧
  E C none H'

theorem objOk_some {P : Program} {w : World} {H : Hp} {h : Heap} {a : Addr} {o : HO} (x : ObjOk P w H h a o) : ∃ u, h.get? a = some u := by
  cases o with
  | lst xs => obtain ⟨_, _, _, _, e⟩ := x; exact ⟨_, e⟩
  | tup xs => obtain ⟨_, _, _, ob, e, _⟩ := x; exact ⟨_, e⟩
  | dK kvs => obtain ⟨_, _, _, _, o, _, _, e, _⟩ := x; exact ⟨_, e⟩
  | dT kvs => obtain ⟨_, _, _, _, o, _, _, e, _⟩ := x; exact ⟨_, e⟩
  | set S n => obtain ⟨o, _, _, _, e, _⟩ := x; exact ⟨_, e⟩
  | ins C dx fs => obtain ⟨_, _, _, e, _⟩ := x; exact ⟨_, e⟩
  | own y => exact x
  | xd fs => obtain ⟨_, ⟨_, _, _, e, _⟩, _⟩ := x; exact ⟨_, e⟩
  | rng lo hi => obtain ⟨_, _, _, e⟩ := x; exact ⟨_, e⟩
  | frz ob u => obtain ⟨e, _⟩ := x; exact ⟨_, e⟩
  | tbl ps => exact ⟨_, x⟩
  | met f y => exact ⟨_, x⟩
  | ext φ => obtain ⟨_, e, _⟩ := x; exact e

section
variable {X : Cx} {pins : List (Addr × Obj)} {σ : St} {H H' : Hp} {s s' : Shared} {ea : Addr} {C : Value}
/-- not in the heap ahead, so no one's -/
theorem freshX_of (I : Inv X pins σ H s) (hex : X.ex = []) {b : Addr} (e : s.heap.get? b = none) (n : H' b = none) : FreshX X pins H' b where
  nl := fun z => by
    obtain ⟨m, ⟨o, _, _, ho, _⟩, _⟩ := I.loc
    rw [← z, e] at ho; cases ho
  nc := fun x c h z => by
    obtain ⟨v, o, ho, _⟩ := I.cell x c h
    rw [z, e] at ho; cases ho
  np := fun p hp z => by
    have := (I.pin p hp).1
    rw [z, e] at this; cases this
  n0 := by
    cases q : X.s₀.heap.get? b with
    | none => rfl
    | some o =>
      obtain ⟨o', h'⟩ := I.base.there b o q (by rw [hex]; simp)
      rw [e] at h'; cases h'
  nh := n
theorem inv_flies (I : Inv X pins σ H s) (hex : X.ex = []) {E : XK} {e : Value} (h : CXR X.prog X.w X.stack H s E e s') :
    ∃ ea C H', e = .ref ea ∧ Inv X pins σ H' s' ∧ Flies X pins H' s' ea C ∧ E C none H' := by
  obtain ⟨ea, C, H', rfl, os, bare, un, hok, ⟨n1, n2⟩, ⟨oe, vs, a0, T, oT, ts, t1, t2, t3, t4, t5, t6, t7, t8, t9, t10, t11⟩, hE⟩ := h
  refine ⟨ea, C, H', rfl, I.call' os un hok bare (ch := []) (fun b z => absurd z (by simp)), ⟨⟨oe, vs, a0, t1, t2, t3, t4, .inr ⟨T, oT, ts, t5, t6, t7, t8, t9, freshX_of I hex t10 t11⟩⟩, freshX_of I hex n1 n2⟩, hE⟩

/-- the heap turned at the exception's own records and the frames' slots alone -/
theorem inv_noted {h' : Heap} {l : List Addr} (I : Inv X pins σ H s) (hl : ∀ b ∈ l, FreshX X pins H b)
    (kp : ∀ b o, b ∉ frs X.stack → b ∉ l → s.heap.get? b = some o → h'.get? b = some o)
    (up : ∀ b o, b ∈ frs X.stack → s.heap.get? b = some o → ∃ sl, h'.get? b = some { o with slots := sl }) : Inv X pins σ H { s with heap := h' } := by
  have hin : ∀ b, b ≠ X.env.locals → b ∉ X.fs → b ∉ frs X.stack := fun b h1 h2 hb => (List.mem_cons.mp (I.stkSub b hb)).elim h1 h2
  have hfs : ∀ b ∈ X.fs, b ∈ frs X.stack := fun b hb => by
    rcases I.ok.stk with e | ⟨e, _⟩
    · rw [e]; exact hb
    · rw [e]
      unfold frs
      rw [List.filterMap_cons]
      split
      · exact hb
      · exact List.mem_cons_of_mem _ hb
  have hany : ∀ b o, b ∉ l → s.heap.get? b = some o → ∃ sl, h'.get? b = some { o with slots := sl } := fun b o hb e => by
    by_cases hs : b ∈ frs X.stack
    · exact up b o hs e
    · exact ⟨o.slots, kp b o hs hb e⟩
  have trk : ∀ b o, H b = some o → b ∉ frs X.stack ∧ b ∉ l := fun b o e =>
    ⟨fun z => (by rw [I.stkFree b z] at e; cases e), fun z => (by rw [(hl b z).nh] at e; cases e)⟩
  refine I.step (g' := s.gens) (d' := s.drawn) (t' := s.toks) (ch := l) (fun b hb => ⟨.inr (hl b hb).n0, (hl b hb).nl, (hl b hb).nc, (hl b hb).np⟩) (fun b o h1 h2 h3 e _ => kp b o (hin b h1 h2) h3 e)
    (fun b o _ h2 h3 e _ => up b o (hfs b h2) e) (fun _ _ _ _ n => n) (fun b o h3 e => ?_) (fun _ _ e => e) (fun _ _ _ e => e) (fun b ps e => ⟨#[], by rw [e]; simp⟩) (fun m hm => ?_) (fun a o e => ?_) I.bare
  · obtain ⟨sl, q⟩ := hany b o h3 e
    exact ⟨_, q⟩
  · obtain ⟨o, es, ep, ho, r⟩ := hm
    obtain ⟨sl, q⟩ := hany _ o (fun z => (hl _ z).nl rfl) ho
    exact ⟨_, es, ep, q, r⟩
  · refine (I.hok a o e).stay (fun b u hb q => ?_) (fun _ q => q) fun _ _ q => q
    rcases hb with rfl | hb
    · exact kp b u (trk b o e).1 (trk b o e).2 q
    · exact kp b u (trk b _ hb).1 (trk b _ hb).2 q

/-- the ground below an exception -/
def gnd (X : Cx) (s : Shared) (l : List Addr) : Heap := PySem.W.hideAll s.heap (frs X.stack ++ l)
theorem gnd_stays {l : List Addr} : (gnd X s l).StaysIn s.heap := fun b o q => PySem.W.of_hideAll _ q
theorem gnd_none {l : List Addr} {b : Addr} (h : b ∈ l) : (gnd X s l).get? b = none := PySem.W.hideAll_none _ (List.mem_append_right _ h)
theorem gnd_get {l : List Addr} {b : Addr} {o : Obj} (e : s.heap.get? b = some o) (h1 : b ∉ frs X.stack) (h2 : b ∉ l) : (gnd X s l).get? b = some o :=
  PySem.W.hideAll_get _ e fun z => (List.mem_append.mp z).elim h1 h2
theorem gnd_frames (I : Inv X pins σ H s) {l : List Addr} : s.heap.FunFrames (gnd X s l) X.stack :=
  PySem.W.funFrames_hide I.stack fun env he a ha => List.mem_append_left _ (List.mem_filterMap.mpr ⟨env, he, ha⟩)

/-- a def's end by an exception -/
theorem leave_ok {M : Model} {E : XK} {E' : Value → Shared → Prop} (I : Inv X pins σ H s) (hex : X.ex = []) (hst : X.stack = X.env :: X.outer) (hf : X.env.frame = some X.env.locals) (F : Flies X pins H s ea C) (h : E C none H) :
    wpAny M X.A (leaving X.env (.ref ea)) (fun _ s'' => CXR X.prog X.w X.outer X.H₀ X.s₀ E (.ref ea) s'') E' s := by
  obtain ⟨oe, vs, a0, t1, t2, t3, t4, t5⟩ := F.ex
  have hfr : X.A.frames = some (X.env :: X.outer) := by rw [← hst]; exact I.ok.frames
  -- the end, from what both ways give
  have fin : ∀ (l : List Addr) (h' : Heap), (∀ b ∈ l, FreshX X pins H b) → ea ∈ l → Heap.LeftW (gnd X s l) (X.env :: X.outer) ea C a0 s.heap h' → CXR X.prog X.w X.outer X.H₀ X.s₀ E (.ref ea) { s with heap := h' } := by
    intro l h' hl he hL
    obtain ⟨k1, k2, ⟨oe', vs', T, oT, ts, g1, ⟨g2, g3⟩, g4, g5, g6, g7, g8, g9, g10⟩, k4⟩ := hL
    have stk0 : ∀ b o, b ∈ frs X.stack → s.heap.get? b = some o → ∀ vs, o.data ≠ .fields vs := fun b o hb e => by
      obtain ⟨_, o', e', d⟩ := I.stack.mem hb
      rw [e] at e'; cases e'; exact d
    have keep : ∀ b o, b ∉ frs X.stack → b ∉ l → s.heap.get? b = some o → h'.get? b = some o := fun b o n1 n2 e => k1 b o (gnd_get e n1 n2)
    have up : ∀ b o, b ∈ frs X.stack → s.heap.get? b = some o → ∃ sl, h'.get? b = some { o with slots := sl } := fun b o hb e => k4 b o e (stk0 b o hb e)
    have trk : ∀ b o, H b = some o → b ∉ frs X.stack ∧ b ∉ l := fun b o e =>
      ⟨fun z => (by rw [I.stkFree b z] at e; cases e), fun z => (by rw [(hl b z).nh] at e; cases e)⟩
    have old : ∀ b o, X.s₀.heap.get? b = some o → b ∉ l ∧ b ≠ X.env.locals := fun b o e =>
      ⟨fun z => (by rw [(hl b z).n0] at e; cases e), Nat.ne_of_lt (Nat.lt_of_lt_of_le (Heap.lt_size e) I.ok.above)⟩
    have stk : ∀ b, b ≠ X.env.locals → b ∉ frs X.outer → b ∉ frs X.stack := fun b n1 n2 hb => (List.mem_cons.mp (I.stkSub b hb)).elim n1 n2
    have inst : ∀ b, b ∈ frs X.outer → b ∈ frs X.stack := fun b hb => by
      rw [hst]
      unfold frs
      rw [List.filterMap_cons, hf]
      exact List.mem_cons_of_mem _ hb
    -- the new head is no one's
    have Tn : ∀ o, s.heap.get? T = some o → T ∈ l := fun o e => by
      refine Classical.byContradiction fun n => ?_
      have ns : T ∉ frs X.stack := fun z => by
        obtain ⟨_, o', e', d⟩ := k2.mem (by rw [hst] at z; exact z)
        rw [g8] at e'; cases e'; exact d ts g9
      have := gnd_get (X := X) e ns n
      rw [g6] at this; cases this
    refine ⟨ea, C, H, rfl, I.os, I.bare, ⟨fun b o e n hb _ => ?_, fun b o e n hb _ => ?_, fun b o e n _ => ?_, fun b o e _ => ?_, I.base.tups, I.base.frzs, I.base.tbls⟩, fun a o e => ?_, ⟨(hl ea he).n0, (hl ea he).nh⟩, ⟨oe', vs', a0, T, oT, ts, g1, g2, g4, g3, g5, g7, g8, g9, g10, ?_, ?_⟩, h⟩
    · exact keep b o (stk b (old b o e).2 hb) (old b o e).1 (I.base.keep b o e n hb (by rw [hex]; simp))
    · obtain ⟨sl, e1⟩ := I.base.slot b o e n hb (by rw [hex]; simp)
      obtain ⟨sl', e2⟩ := up b _ (inst b hb) e1
      exact ⟨sl', e2⟩
    · exact I.base.free b o e n (by rw [hex]; simp)
    · obtain ⟨o', e1⟩ := I.base.there b o e (by rw [hex]; simp)
      by_cases hb : b ∈ frs X.stack
      · obtain ⟨sl, q⟩ := up b o' hb e1
        exact ⟨_, q⟩
      · exact ⟨_, keep b o' hb (old b o e).1 e1⟩
    · refine (I.hok a o e).stay (fun b u hb q => ?_) (fun _ q => q) fun _ _ q => q
      rcases hb with rfl | hb
      · exact keep b u (trk b o e).1 (trk b o e).2 q
      · exact keep b u (trk b _ hb).1 (trk b _ hb).2 q
    · cases q : X.s₀.heap.get? T with
      | none => rfl
      | some o =>
        obtain ⟨o', e1⟩ := I.base.there T o q (by rw [hex]; simp)
        have := (hl T (Tn o' e1)).n0
        rw [q] at this; cases this
    · cases q : H T with
      | none => rfl
      | some o =>
        obtain ⟨u, e1⟩ := objOk_some (I.hok T o q)
        have := (hl T (Tn u e1)).nh
        rw [q] at this; cases this
  rcases t5 with t5 | ⟨T, oT, ts, t5, t6, t7, t8, t9, fT⟩
  · have fl := gnd_frames I (l := [ea])
    rw [hst] at fl
    refine wpAny_leaving_firstW (base := gnd X s [ea]) (a0 := a0) hfr fl hf t1 gnd_stays (gnd_none (by simp)) t3 t5 t4 fun h' hL => ?_
    rw [t2] at hL
    exact fin [ea] h' (fun b hb => by simp at hb; subst hb; exact F.fr) (by simp) hL
  · have fl := gnd_frames I (l := [ea, T])
    rw [hst] at fl
    refine wpAny_leaving_nextW (base := gnd X s [ea, T]) (cls := C) (a0 := a0) hfr fl hf ⟨oe, vs, T, oT, ts, t1, ⟨t2, t4⟩, t3, t5, gnd_none (by simp), t6, t7, t8, t9⟩ gnd_stays (gnd_none (by simp)) fun h' hL => ?_
    exact fin [ea, T] h' (fun b hb => by
      simp at hb
      rcases hb with rfl | rfl
      · exact F.fr
      · exact fT) (by simp) hL
end
end L3

-- part L3a.lean
set_option Elab.async false
set_option linter.all false
set_option maxRecDepth 100000
namespace L3
open PySem PySem.Spec PyProof.Rows L2

/-! ## data without a heap -/
inductive D where
  | non | bl (b : Bool) | int (i : Int) | str (x : List Nat) | tup (ds : List D) | lst (ds : List D) | ob (c : Nat) (ns : List Str) (ds : List D)
inductive R (α : Type) where
  | ok (a : α) | exc (c : Nat) | stuck
def R.bind {α β : Type} : R α → (α → R β) → R β
  | .ok a, f => f a
  | .exc c, _ => .exc c
  | .stuck, _ => .stuck
@[simp] theorem R.bind_ok {α β : Type} (a : α) (f : α → R β) : (R.ok a).bind f = f a := rfl
@[simp] theorem R.bind_exc {α β : Type} (c : Nat) (f : α → R β) : (R.exc c : R α).bind f = R.exc c := rfl
@[simp] theorem R.bind_stuck {α β : Type} (f : α → R β) : (R.stuck : R α).bind f = R.stuck := rfl
/-- the written part; the classes by number: of exceptions, of objects -/
structure Zx where
  K : PySem.W.Frag
  κ : Nat → Addr
abbrev stV (x : List Nat) : V := .str ⟨x.toArray⟩
mutual
def Den (Z : Zx) (G : Hp) : V → D → Prop
  | v, .non => v = .non
  | v, .bl b => v = .bl b
  | v, .int i => v = .int i
  | v, .str x => v = stV x
  | v, .tup ds => ∃ a vs, v = .ref a ∧ SqT Z.K G a vs ∧ Dens Z G vs ds
  | v, .lst ds => ∃ a vs, v = .ref a ∧ SqL Z.K G a vs ∧ Dens Z G vs ds
  | v, .ob c ns ds => ∃ a dx vs, v = .ref a ∧ G a = some (.ins (Z.κ c) dx (ns.zip vs)) ∧ ns.length = vs.length ∧ Dens Z G vs ds
def Dens (Z : Zx) (G : Hp) : List V → List D → Prop
  | [], [] => True
  | v :: vs, d :: ds => Den Z G v d ∧ Dens Z G vs ds
  | [], _ :: _ => False
  | _ :: _, [] => False
end
theorem same_seqT {K : PySem.W.Frag} {H H' : Hp} {a : Addr} {xs : List V} (e : Same H H') (h : SqT K H a xs) : SqT K H' a xs := by
  rcases h with (h | ⟨o, h⟩) | h
  · exact .inl (.inl (e _ _ h))
  · exact .inl (.inr ⟨o, e _ _ h⟩)
  · exact .inr h
section
variable {Z : Zx} {G G' : Hp}
mutual
theorem Den.mono (s : Same G G') : ∀ {v : V} {d : D}, Den Z G v d → Den Z G' v d
  | v, .non, h => by unfold Den at h ⊢; exact h
  | v, .bl b, h => by unfold Den at h ⊢; exact h
  | v, .int i, h => by unfold Den at h ⊢; exact h
  | v, .str x, h => by unfold Den at h ⊢; exact h
  | v, .tup ds, h => by
    unfold Den at h ⊢
    obtain ⟨a, vs, e, q, r⟩ := h
    exact ⟨a, vs, e, same_seqT s q, Dens.mono s r⟩
  | v, .lst ds, h => by
    unfold Den at h ⊢
    obtain ⟨a, vs, e, q, r⟩ := h
    exact ⟨a, vs, e, s.seq q, Dens.mono s r⟩
  | v, .ob c ns ds, h => by
    unfold Den at h ⊢
    obtain ⟨a, dx, vs, e, q, l, r⟩ := h
    exact ⟨a, dx, vs, e, s _ _ q, l, Dens.mono s r⟩
theorem Dens.mono (s : Same G G') : ∀ {vs : List V} {ds : List D}, Dens Z G vs ds → Dens Z G' vs ds
  | [], [], h => by unfold Dens; trivial
  | v :: vs, d :: ds, h => by
    unfold Dens at h ⊢
    exact ⟨Den.mono s h.1, Dens.mono s h.2⟩
  | [], _ :: _, h => by unfold Dens at h; exact h.elim
  | _ :: _, [], h => by unfold Dens at h; exact h.elim
end
theorem dens_nil : Dens Z G [] [] := by unfold Dens; trivial
theorem dens_cons {v : V} {vs : List V} {d : D} {ds : List D} (h : Den Z G v d) (r : Dens Z G vs ds) : Dens Z G (v :: vs) (d :: ds) := by unfold Dens; exact ⟨h, r⟩
theorem Dens.length : ∀ {vs : List V} {ds : List D}, Dens Z G vs ds → vs.length = ds.length
  | [], [], _ => rfl
  | _ :: _, _ :: _, h => by unfold Dens at h; simp [Dens.length h.2]
  | [], _ :: _, h => by unfold Dens at h; exact h.elim
  | _ :: _, [], h => by unfold Dens at h; exact h.elim
theorem Dens.get : ∀ {vs : List V} {ds : List D} {i : Nat} {d : D}, Dens Z G vs ds → ds[i]? = some d → ∃ v, vs[i]? = some v ∧ Den Z G v d
  | [], [], _, _, _, e => by simp at e
  | v :: _, _ :: _, 0, _, h, e => by unfold Dens at h; simp at e; subst e; exact ⟨v, rfl, h.1⟩
  | _ :: _, _ :: _, i + 1, _, h, e => by unfold Dens at h; simpa using Dens.get h.2 (by simpa using e)
  | [], _ :: _, _, _, h, _ => by unfold Dens at h; exact h.elim
  | _ :: _, [], _, _, h, _ => by unfold Dens at h; exact h.elim
theorem Dens.append : ∀ {vs : List V} {ds : List D} {us : List V} {es : List D}, Dens Z G vs ds → Dens Z G us es → Dens Z G (vs ++ us) (ds ++ es)
  | [], [], _, _, _, h => h
  | _ :: _, _ :: _, _, _, h, k => by unfold Dens at h; exact dens_cons h.1 (Dens.append h.2 k)
  | [], _ :: _, _, _, h, _ => by unfold Dens at h; exact h.elim
  | _ :: _, [], _, _, h, _ => by unfold Dens at h; exact h.elim
theorem Dens.drop : ∀ {vs : List V} {ds : List D} (n : Nat), Dens Z G vs ds → Dens Z G (vs.drop n) (ds.drop n)
  | _, _, 0, h => h
  | [], [], _ + 1, _ => by simp; exact dens_nil
  | _ :: _, _ :: _, n + 1, h => by unfold Dens at h; simpa using Dens.drop n h.2
  | [], _ :: _, _ + 1, h => by unfold Dens at h; exact h.elim
  | _ :: _, [], _ + 1, h => by unfold Dens at h; exact h.elim
theorem Dens.take : ∀ {vs : List V} {ds : List D} (n : Nat), Dens Z G vs ds → Dens Z G (vs.take n) (ds.take n)
  | _, _, 0, _ => by simp; exact dens_nil
  | [], [], _ + 1, _ => by simp; exact dens_nil
  | _ :: _, _ :: _, n + 1, h => by unfold Dens at h; simpa using dens_cons h.1 (Dens.take n h.2)
  | [], _ :: _, _ + 1, h => by unfold Dens at h; exact h.elim
  | _ :: _, [], _ + 1, h => by unfold Dens at h; exact h.elim
theorem Dens.set {v : V} {d : D} (x : Den Z G v d) : ∀ {vs : List V} {ds : List D} (n : Nat), Dens Z G vs ds → Dens Z G (vs.set n v) (ds.set n d)
  | [], [], _, _ => by simp; exact dens_nil
  | _ :: _, _ :: _, 0, h => by unfold Dens at h; simpa using dens_cons x h.2
  | _ :: _, _ :: _, n + 1, h => by unfold Dens at h; simpa using dens_cons h.1 (Dens.set x n h.2)
  | [], _ :: _, _, h => by unfold Dens at h; exact h.elim
  | _ :: _, [], _, h => by unfold Dens at h; exact h.elim
theorem dens_ints (ns : List Int) : Dens Z G (ns.map V.int) (ns.map D.int) := by
  induction ns with
  | nil => exact dens_nil
  | cons n r ih => exact dens_cons (by unfold Den; rfl) ih
end

/-! ## slots: shared data, a list that the body alone holds -/
inductive Sl where
  | sh (d : D) | ow (ds : List D) | oo (c : Nat) (ns : List Str) (ds : List D)
abbrev Ev := List (Option Sl)
/-- ahead of the call: the frozen part, what the caller has lent -/
structure Gd where
  g : Hp
  m : Addr → Prop
structure Hold (B : Gd) (H₀ G H : Hp) : Prop where
  gG : Same B.g G
  GH : Same G H
  old : ∀ b o, H₀ b = some o → ¬ B.m b → H b = some o
  there : ∀ b, H₀ b ≠ none → H b ≠ none
  lent : ∀ b, H₀ b ≠ none → B.g b = none → G b = none
structure Rep (Z : Zx) (B : Gd) (H₀ G H : Hp) (σ : St) (δ : Ev) : Prop extends Hold B H₀ G H where
  len : σ.length = δ.length
  sh : ∀ (i : Nat) d, δ[i]? = some (some (.sh d)) → ∃ v, σ[i]? = some (some v) ∧ Den Z G v d
  ow : ∀ (i : Nat) ds, δ[i]? = some (some (.ow ds)) → ∃ a vs, σ[i]? = some (some (.ref a)) ∧ H a = some (.lst vs) ∧ Dens Z G vs ds ∧ G a = none ∧ H₀ a = none
  sep : ∀ (i j : Nat) ds es a, i ≠ j → δ[i]? = some (some (.ow ds)) → δ[j]? = some (some (.ow es)) → σ[i]? = some (some (.ref a)) → σ[j]? = some (some (.ref a)) → False
  oo : ∀ (i : Nat) c ns ds, δ[i]? = some (some (.oo c ns ds)) → ∃ x dx vs, σ[i]? = some (some (.ref x)) ∧ H x = some (.ins (Z.κ c) dx (ns.zip vs)) ∧ ns.length = vs.length ∧ Dens Z G vs ds ∧ G x = none ∧ B.m x
  oo1 : ∀ (i j : Nat) c ns ds c' ns' ds', δ[i]? = some (some (.oo c ns ds)) → δ[j]? = some (some (.oo c' ns' ds')) → i = j
structure Ext (G H G' H' : Hp) : Prop where
  sG : Same G G'
  sH : Same H H'
  GH : Same G' H'
  new : ∀ a, G' a ≠ none → G a ≠ none ∨ H a = none
theorem Ext.refl {G H : Hp} (h : Same G H) : Ext G H G H := ⟨Same.refl _, Same.refl _, h, fun _ z => .inl z⟩
theorem none_of_same {G H : Hp} (s : Same G H) {a : Addr} (h : H a = none) : G a = none := s.free h
theorem Ext.trans {G H G1 H1 G2 H2 : Hp} (a : Ext G H G1 H1) (b : Ext G1 H1 G2 H2) : Ext G H G2 H2 :=
  ⟨a.sG.trans b.sG, a.sH.trans b.sH, b.GH, fun x z => (b.new x z).elim (a.new x) fun q => .inr (a.sH.free q)⟩
section
variable {Z : Zx} {B : Gd} {H₀ G H G' H' : Hp} {σ : St} {δ : Ev}
theorem Hold.ext (h : Hold B H₀ G H) (e : Ext G H G' H') : Hold B H₀ G' H' where
  gG := h.gG.trans e.sG
  GH := e.GH
  old := fun b o q n => e.sH _ _ (h.old b o q n)
  there := fun b q => by
    have := h.there b q
    cases z : H b with
    | none => exact absurd z this
    | some o => rw [e.sH _ _ z]; simp
  lent := fun b q n => by
    cases z : G' b with
    | none => rfl
    | some o =>
      rcases e.new b (by rw [z]; simp) with y | y
      · exact absurd (h.lent b q n) y
      · exact absurd y (h.there b q)
theorem Rep.ext (r : Rep Z B H₀ G H σ δ) (e : Ext G H G' H') : Rep Z B H₀ G' H' σ δ where
  toHold := r.toHold.ext e
  len := r.len
  sh := fun i d q => let ⟨v, a, b⟩ := r.sh i d q; ⟨v, a, b.mono e.sG⟩
  ow := fun i ds q => by
    obtain ⟨a, vs, x1, x2, x3, x4, x5⟩ := r.ow i ds q
    refine ⟨a, vs, x1, e.sH _ _ x2, x3.mono e.sG, ?_, x5⟩
    cases z : G' a with
    | none => rfl
    | some o =>
      rcases e.new a (by rw [z]; simp) with y | y
      · exact absurd x4 y
      · rw [x2] at y; cases y
  sep := r.sep
  oo := fun i c ns ds q => by
    obtain ⟨x, dx, vs, x1, x2, x3, x4, x5, x6⟩ := r.oo i c ns ds q
    refine ⟨x, dx, vs, x1, e.sH _ _ x2, x3, x4.mono e.sG, ?_, x6⟩
    cases z : G' x with
    | none => rfl
    | some o =>
      rcases e.new x (by rw [z]; simp) with y | y
      · exact absurd x5 y
      · rw [x2] at y; cases y
  oo1 := r.oo1
/-- a name is stored -/
theorem getset {α : Type} {l : List α} {i j : Nat} {x y : α} (h : (l.set i x)[j]? = some y) : (j = i ∧ y = x ∧ i < l.length) ∨ (j ≠ i ∧ l[j]? = some y) := by
  by_cases e : j = i
  · subst e
    by_cases hl : j < l.length
    · rw [List.getElem?_set_self hl] at h; exact .inl ⟨rfl, (Option.some.inj h).symm, hl⟩
    · rw [List.getElem?_eq_none (by simpa using hl)] at h; cases h
  · rw [List.getElem?_set_ne (Ne.symm e)] at h; exact .inr ⟨e, h⟩
theorem Rep.setSh (r : Rep Z B H₀ G H σ δ) {i : Nat} {v : V} {d : D} (h : Den Z G v d) : Rep Z B H₀ G H (σ.set i (some v)) (δ.set i (some (.sh d))) where
  toHold := r.toHold
  len := by simpa using r.len
  sh := fun j e q => by
    rcases getset q with ⟨rfl, e1, hl⟩ | ⟨n, q⟩
    · cases e1
      exact ⟨v, List.getElem?_set_self (by rw [r.len]; exact hl), h⟩
    · obtain ⟨u, a, b⟩ := r.sh j e q
      exact ⟨u, by rw [List.getElem?_set_ne (Ne.symm n)]; exact a, b⟩
  ow := fun j ds q => by
    rcases getset q with ⟨rfl, e1, hl⟩ | ⟨n, q⟩
    · cases e1
    · obtain ⟨a, vs, x1, x2⟩ := r.ow j ds q
      exact ⟨a, vs, by rw [List.getElem?_set_ne (Ne.symm n)]; exact x1, x2⟩
  sep := fun j k ds es a n q1 q2 s1 s2 => by
    rcases getset q1 with ⟨_, e1, _⟩ | ⟨n1, q1⟩
    · cases e1
    · rcases getset q2 with ⟨_, e1, _⟩ | ⟨n2, q2⟩
      · cases e1
      · rw [List.getElem?_set_ne (Ne.symm n1)] at s1
        rw [List.getElem?_set_ne (Ne.symm n2)] at s2
        exact r.sep j k ds es a n q1 q2 s1 s2
  oo := fun j c ns ds q => by
    rcases getset q with ⟨rfl, e1, hl⟩ | ⟨n, q⟩
    · cases e1
    · obtain ⟨x, dx, vs, x1, x2⟩ := r.oo j c ns ds q
      exact ⟨x, dx, vs, by rw [List.getElem?_set_ne (Ne.symm n)]; exact x1, x2⟩
  oo1 := fun j k c ns ds c' ns' ds' q1 q2 => by
    rcases getset q1 with ⟨_, e1, _⟩ | ⟨_, p1⟩
    · cases e1
    · rcases getset q2 with ⟨_, e2, _⟩ | ⟨_, p2⟩
      · cases e2
      · exact r.oo1 j k c ns ds c' ns' ds' p1 p2
/-- a new list is stored, the body's own -/
theorem Rep.setOw (r : Rep Z B H₀ G H σ δ) {i : Nat} {a : Addr} {vs : List V} {ds : List D} (h1 : H a = some (.lst vs)) (h2 : Dens Z G vs ds) (h3 : G a = none) (h4 : H₀ a = none)
    (h5 : ∀ (j : Nat) es, δ[j]? = some (some (.ow es)) → j ≠ i → σ[j]? ≠ some (some (.ref a))) : Rep Z B H₀ G H (σ.set i (some (.ref a))) (δ.set i (some (.ow ds))) where
  toHold := r.toHold
  len := by simpa using r.len
  sh := fun j e q => by
    rcases getset q with ⟨rfl, e1, hl⟩ | ⟨n, q⟩
    · cases e1
    · obtain ⟨u, a, b⟩ := r.sh j e q
      exact ⟨u, by rw [List.getElem?_set_ne (Ne.symm n)]; exact a, b⟩
  ow := fun j es q => by
    rcases getset q with ⟨rfl, e1, hl⟩ | ⟨n, q⟩
    · cases e1
      exact ⟨a, vs, List.getElem?_set_self (by rw [r.len]; exact hl), h1, h2, h3, h4⟩
    · obtain ⟨b, us, x1, x2⟩ := r.ow j es q
      exact ⟨b, us, by rw [List.getElem?_set_ne (Ne.symm n)]; exact x1, x2⟩
  sep := fun j k es fs b n q1 q2 s1 s2 => by
    rcases getset q1 with ⟨ej, e1, l1⟩ | ⟨n1, p1⟩
    · rcases getset q2 with ⟨ek, _⟩ | ⟨n2, p2⟩
      · exact n (ej.trans ek.symm)
      · rw [ej, List.getElem?_set_self (by rw [r.len]; exact l1)] at s1
        rw [List.getElem?_set_ne (Ne.symm n2)] at s2
        cases s1
        exact h5 k fs p2 n2 s2
    · rcases getset q2 with ⟨ek, e1, l2⟩ | ⟨n2, p2⟩
      · rw [ek, List.getElem?_set_self (by rw [r.len]; exact l2)] at s2
        rw [List.getElem?_set_ne (Ne.symm n1)] at s1
        cases s2
        exact h5 j es p1 n1 s1
      · rw [List.getElem?_set_ne (Ne.symm n1)] at s1
        rw [List.getElem?_set_ne (Ne.symm n2)] at s2
        exact r.sep j k es fs b n p1 p2 s1 s2
  oo := fun j c ns es q => by
    rcases getset q with ⟨rfl, e1, hl⟩ | ⟨n, q⟩
    · cases e1
    · obtain ⟨x, dx, us, x1, x2⟩ := r.oo j c ns es q
      exact ⟨x, dx, us, by rw [List.getElem?_set_ne (Ne.symm n)]; exact x1, x2⟩
  oo1 := fun j k c ns es c' ns' es' q1 q2 => by
    rcases getset q1 with ⟨_, e1, _⟩ | ⟨_, p1⟩
    · cases e1
    · rcases getset q2 with ⟨_, e2, _⟩ | ⟨_, p2⟩
      · cases e2
      · exact r.oo1 j k c ns es c' ns' es' p1 p2
/-- the body's own list is changed -/
theorem Rep.updOw (r : Rep Z B H₀ G H σ δ) {i : Nat} {a : Addr} {ds es : List D} {us : List V} (q : δ[i]? = some (some (.ow ds))) (s : σ[i]? = some (some (.ref a))) (h2 : Dens Z G us es) :
    Rep Z B H₀ G (upd H a (.lst us)) σ (δ.set i (some (.ow es))) := by
  obtain ⟨a', vs, x1, x2, x3, x4, x5⟩ := r.ow i ds q
  rw [s] at x1; cases x1
  have ha : ∀ b o, G b = some o → b ≠ a := fun b o z e => by rw [e, x4] at z; cases z
  refine ⟨⟨r.gG, fun b o z => by rw [upd_ne (ha b o z)]; exact r.GH b o z, fun b o z n => ?_, fun b z => ?_, r.lent⟩, by simpa using r.len, fun j e q' => ?_, fun j fs q' => ?_, fun j k fs gs b n q1 q2 s1 s2 => ?_, fun j c ns fs q' => ?_, fun j k c ns fs c' ns' fs' q1 q2 => ?_⟩
  · rw [upd_ne (by rintro rfl; rw [x5] at z; cases z)]; exact r.old b o z n
  · by_cases hb : b = a
    · subst hb; rw [upd_same]; simp
    · rw [upd_ne hb]; exact r.there b z
  · rcases getset q' with ⟨_, e1, _⟩ | ⟨n, q'⟩
    · cases e1
    · exact r.sh j e q'
  · rcases getset q' with ⟨rfl, e1, _⟩ | ⟨n, q'⟩
    · cases e1
      exact ⟨a, us, s, upd_same, h2, x4, x5⟩
    · obtain ⟨b, ws, y1, y2, y3⟩ := r.ow j fs q'
      have : b ≠ a := by rintro rfl; exact r.sep j i fs ds b n q' q y1 s
      exact ⟨b, ws, y1, by rw [upd_ne this]; exact y2, y3⟩
  · have f : ∀ (l : Nat) es', (δ.set i (some (.ow es)))[l]? = some (some (.ow es')) → ∃ es'', δ[l]? = some (some (.ow es'')) := fun l es' z => by
      rcases getset z with ⟨rfl, _⟩ | ⟨_, z⟩
      · exact ⟨ds, q⟩
      · exact ⟨_, z⟩
    obtain ⟨_, z1⟩ := f j fs q1
    obtain ⟨_, z2⟩ := f k gs q2
    exact r.sep j k _ _ b n z1 z2 s1 s2
  · rcases getset q' with ⟨_, e1, _⟩ | ⟨n, q'⟩
    · cases e1
    · obtain ⟨x, dx, ws, y1, y2, y3⟩ := r.oo j c ns fs q'
      have : x ≠ a := ne_of y2 x2 (by intro z; cases z)
      exact ⟨x, dx, ws, y1, by rw [upd_ne this]; exact y2, y3⟩
  · rcases getset q1 with ⟨_, e1, _⟩ | ⟨_, p1⟩
    · cases e1
    · rcases getset q2 with ⟨_, e2, _⟩ | ⟨_, p2⟩
      · cases e2
      · exact r.oo1 j k c ns fs c' ns' fs' p1 p2
/-- the body's own list is given up: from now on it is shared, and stays -/
def frzE (i : Nat) (δ : Ev) : Ev := match δ[i]? with
  | some (some (.ow ds)) => δ.set i (some (.sh (.lst ds)))
  | _ => δ
theorem Rep.freeze (r : Rep Z B H₀ G H σ δ) (i : Nat) : ∃ G', Rep Z B H₀ G' H σ (frzE i δ) := by
  unfold frzE
  split
  · rename_i ds q
    obtain ⟨a, vs, x1, x2, x3, x4, x5⟩ := r.ow i ds q
    have sg : Same G (upd G a (.lst vs)) := fun b o z => by
      rw [upd_ne (by rintro rfl; rw [x4] at z; cases z)]; exact z
    have sh' : Same (upd G a (.lst vs)) H := fun b o z => by
      by_cases hb : b = a
      · subst hb; rw [upd_same] at z; cases z; exact x2
      · rw [upd_ne hb] at z; exact r.GH b o z
    refine ⟨upd G a (.lst vs), ⟨⟨r.gG.trans sg, sh', r.old, r.there, fun b z n => ?_⟩, by simpa using r.len, fun j e q' => ?_, fun j fs q' => ?_, fun j k fs gs b n q1 q2 s1 s2 => ?_, fun j c ns fs q' => ?_, fun j k c ns fs c' ns' fs' q1 q2 => ?_⟩⟩
    · rw [upd_ne (by rintro rfl; exact z x5)]; exact r.lent b z n
    · rcases getset q' with ⟨rfl, e1, _⟩ | ⟨n, q'⟩
      · cases e1
        exact ⟨.ref a, x1, by unfold Den; exact ⟨a, vs, rfl, SqL.of upd_same, x3.mono sg⟩⟩
      · obtain ⟨u, y1, y2⟩ := r.sh j e q'
        exact ⟨u, y1, y2.mono sg⟩
    · rcases getset q' with ⟨_, e1, _⟩ | ⟨n, q'⟩
      · cases e1
      · obtain ⟨b, ws, y1, y2, y3, y4, y5⟩ := r.ow j fs q'
        have : b ≠ a := by rintro rfl; exact r.sep j i fs ds b n q' q y1 x1
        exact ⟨b, ws, y1, y2, y3.mono sg, by rw [upd_ne this]; exact y4, y5⟩
    · rcases getset q1 with ⟨_, e1, _⟩ | ⟨n1, q1⟩
      · cases e1
      · rcases getset q2 with ⟨_, e1, _⟩ | ⟨n2, q2⟩
        · cases e1
        · exact r.sep j k fs gs b n q1 q2 s1 s2
    · rcases getset q' with ⟨_, e1, _⟩ | ⟨n, q'⟩
      · cases e1
      · obtain ⟨x, dx, ws, y1, y2, y3, y4, y5, y6⟩ := r.oo j c ns fs q'
        have : x ≠ a := ne_of y2 x2 (by intro z; cases z)
        exact ⟨x, dx, ws, y1, y2, y3, y4.mono sg, by rw [upd_ne this]; exact y5, y6⟩
    · rcases getset q1 with ⟨_, e1, _⟩ | ⟨_, p1⟩
      · cases e1
      · rcases getset q2 with ⟨_, e2, _⟩ | ⟨_, p2⟩
        · cases e2
        · exact r.oo1 j k c ns fs c' ns' fs' p1 p2
  · exact ⟨G, r⟩
end
end L3

-- part L3b.lean
set_option Elab.async false
set_option linter.all false
set_option maxRecDepth 100000
namespace L3
open PySem PySem.Spec PyProof.Rows L2

/-! ## expressions -/
abbrev At (X : Cx) (pins : List (Addr × Obj)) (σ : St) (Ex : Value → Shared → Prop) : Cx := { X with xe := Ex, sg := fun p τ => p = pins ∧ τ = σ }
theorem ok_at {X : Cx} {pins : List (Addr × Obj)} {σ : St} {Ex : Value → Shared → Prop} (ok : X.Ok) : (At X pins σ Ex).Ok :=
  ⟨ok.mod, ok.kind, ok.glob, ok.blt, ok.above, ok.inj, ok.has, ok.cab, ok.hd, ok.frames, ok.stk, ok.exf, ok.bs, ok.bsz, ok.noex, ok.exfs, ok.funs, ok.frf⟩
theorem ok_unat {X : Cx} {pins : List (Addr × Obj)} {σ : St} {Ex Ex' : Value → Shared → Prop} (ok : (At X pins σ Ex).Ok) : (X.wish Ex').Ok :=
  ⟨ok.mod, ok.kind, ok.glob, ok.blt, ok.above, ok.inj, ok.has, ok.cab, ok.hd, ok.frames, ok.stk, ok.exf, ok.bs, ok.bsz, ok.noex, ok.exfs, ok.funs, ok.frf⟩
theorem inv_at {X : Cx} {pins : List (Addr × Obj)} {σ : St} {Ex Ex' : Value → Shared → Prop} {H : Hp} {s : Shared} (I : Inv (X.wish Ex') pins σ H s) : Inv (At X pins σ Ex) pins σ H s :=
  ⟨ok_at I.ok.unwish, I.os, I.bare, I.base, I.loc, I.cell, I.free, I.freeC, I.pin, I.hok, I.len, ⟨rfl, rfl⟩⟩
theorem inv_unat {X : Cx} {pins pins' : List (Addr × Obj)} {σ σ' : St} {Ex : Value → Shared → Prop} {H : Hp} {s : Shared} (hsg : ∀ p τ, X.sg p τ) (I : Inv (At X pins σ Ex) pins' σ' H s) : Inv (X.wish Ex) pins σ H s := by
  obtain ⟨rfl, rfl⟩ := I.sgm
  exact ⟨ok_unat I.ok, I.os, I.bare, I.base, I.loc, I.cell, I.free, I.freeC, I.pin, I.hok, I.len, hsg _ _⟩
/-- what an exception that leaves an expression must meet -/
def EX (X : Cx) (pins : List (Addr × Obj)) (σ : St) (Ex : Value → Shared → Prop) : XK := fun C _ H' => ∀ ea s', Inv (X.wish Ex) pins σ H' s' → Flies X pins H' s' ea C → Ex (.ref ea) s'
theorem flies_at {X : Cx} {pins pins' : List (Addr × Obj)} {σ : St} {Ex : Value → Shared → Prop} {H : Hp} {s : Shared} {ea : Addr} {C : Value} (F : Flies (At X pins σ Ex) pins' H s ea C) : Flies X pins' H s ea C := by
  have c : ∀ {b}, FreshX (At X pins σ Ex) pins' H b → FreshX X pins' H b := fun f => ⟨f.nl, f.nc, f.np, f.n0, f.nh⟩
  obtain ⟨⟨oe, vs, a0, t1, t2, t3, t4, t5⟩, fr⟩ := F
  refine ⟨⟨oe, vs, a0, t1, t2, t3, t4, t5.imp id ?_⟩, c fr⟩
  rintro ⟨T, oT, ts, x1, x2, x3, x4, x5, x6⟩
  exact ⟨T, oT, ts, x1, x2, x3, x4, x5, c x6⟩
/-- a context of ours: no wish about slots, no foreign iterator -/
structure Cxo (X : Cx) : Prop where
  sg : ∀ p τ, X.sg p τ
  ex : X.ex = []
theorem passes_at {X : Cx} (c : Cxo X) {pins : List (Addr × Obj)} {σ : St} {Ex : Value → Shared → Prop} : Passes (CXR X.prog X.w) (At X pins σ Ex) (EX X pins σ Ex) := by
  intro pins' σ' H s e s' I h
  obtain ⟨rfl, rfl⟩ := I.sgm
  obtain ⟨ea, C, H', rfl, I', F, hE⟩ := inv_flies I c.ex h
  exact hE ea s' (inv_unat c.sg I') (flies_at F)
theorem pe_imp {X : Cx} {e : Expr} {t t' : TE} (h : PE X e t) (k : ∀ σ H Q, t' σ H Q → t σ H Q) : PE X e t' := fun pins s σ H Q I q => h pins s σ H Q I (k σ H Q q)
theorem pt_imp {X : Cx} {e : Expr} {t t' : TT} (h : PT X e t) (k : ∀ σ H Q, t' σ H Q → t σ H Q) : PT X e t' := fun pins s σ H Q I q => h pins s σ H Q I (k σ H Q q)
theorem pw_imp {X : Cx} {e : Expr} {t t' : TT} (h : PW X e t) (k : ∀ σ H Q, t' σ H Q → t σ H Q) : PW X e t' := fun wh pins s σ H Q I q => h wh pins s σ H Q I (k σ H Q q)
theorem pa_imp {X : Cx} {e : List Expr} {t t' : TA} (h : PA X e t) (k : ∀ σ H Q, t' σ H Q → t σ H Q) : PA X e t' := fun pos pins s σ H Q I q => h pos pins s σ H Q I (k σ H Q q)

def Out {α β : Type} (rel : Hp → Hp → β → α → Prop) (κ : Nat → Addr) (E : XK) (G H : Hp) (r : R α) (Q : β → Hp → Prop) : Prop := match r with
  | .ok d => ∀ v H' G', Ext G H G' H' → rel G' H' v d → Q v H'
  | .exc c => ∀ H' G', Ext G H G' H' → E (.ref (κ c)) none H'
  | .stuck => False
section
variable {α α' β β' : Type} {rel : Hp → Hp → β → α → Prop} {rel' : Hp → Hp → β' → α' → Prop} {κ : Nat → Addr} {E : XK} {G H G' H' : Hp}
theorem Out.pre {r : R α} {Q : β → Hp → Prop} (e : Ext G H G' H') (h : Out rel κ E G H r Q) : Out rel κ E G' H' r Q := by
  cases r with
  | ok d => exact fun v H2 G2 e2 q => h v H2 G2 (e.trans e2) q
  | exc c => exact fun H2 G2 e2 => h H2 G2 (e.trans e2)
  | stuck => exact h
theorem Out.seq {ra : R α} {k : α → R α'} {P : β → Hp → Prop} {Q : β' → Hp → Prop} (h : Out rel' κ E G H (ra.bind k) Q)
    (hk : ∀ a v H1 G1, Ext G H G1 H1 → rel G1 H1 v a → Out rel' κ E G1 H1 (k a) Q → P v H1) : Out rel κ E G H ra P := by
  cases ra with
  | ok d => exact fun v H2 G2 e2 q => hk d v H2 G2 e2 q (Out.pre e2 h)
  | exc c => exact h
  | stuck => exact h
end
abbrev dRel (X : Cx) (κ : Nat → Addr) : Hp → Hp → V → D → Prop := fun G _ v d => Den ⟨X.K, κ⟩ G v d
abbrev dsRel (X : Cx) (κ : Nat → Addr) : Hp → Hp → List V → List D → Prop := fun G _ v d => Dens ⟨X.K, κ⟩ G v d
abbrev bRel : Hp → Hp → Bool → Bool → Prop := fun _ _ b d => b = d
/-- what may be read: shared data, or the body's own list -/
def rRel (X : Cx) (κ : Nat → Addr) : Hp → Hp → V → D → Prop := fun G H v d => Den ⟨X.K, κ⟩ G v d ∨ ∃ a vs ds, v = .ref a ∧ d = .lst ds ∧ H a = some (.lst vs) ∧ Dens ⟨X.K, κ⟩ G vs ds
theorem rRel_mono {X : Cx} {κ : Nat → Addr} {G H G' H' : Hp} {v : V} {d : D} (e : Ext G H G' H') (h : rRel X κ G H v d) : rRel X κ G' H' v d := by
  rcases h with h | ⟨a, vs, ds, h1, h2, h3, h4⟩
  · exact .inl (h.mono e.sG)
  · exact .inr ⟨a, vs, ds, h1, h2, e.sH _ _ h3, h4.mono e.sG⟩
def tO {α β : Type} (rel : Hp → Hp → β → α → Prop) (X : Cx) (κ : Nat → Addr) (B : Gd) (E : XK) (f : Ev → R α) : St → Hp → (β → Hp → Prop) → Prop :=
  fun σ H Q => ∃ G δ, Rep ⟨X.K, κ⟩ B X.H₀ G H σ δ ∧ Out rel κ E G H (f δ) Q
/-- an expression's value; read only; a list of arguments; a test -/
def PX (κ : Nat → Addr) (B : Gd) (X : Cx) (e : Expr) (f : Ev → R D) : Prop := ∀ pins σ Ex, PE (At X pins σ Ex) e (tO (dRel X κ) X κ B (EX X pins σ Ex) f)
def PXr (κ : Nat → Addr) (B : Gd) (X : Cx) (e : Expr) (f : Ev → R D) : Prop := ∀ pins σ Ex, PE (At X pins σ Ex) e (tO (rRel X κ) X κ B (EX X pins σ Ex) f)
def PXs (κ : Nat → Addr) (B : Gd) (X : Cx) (es : List Expr) (f : Ev → R (List D)) : Prop := ∀ pins σ Ex, PA (At X pins σ Ex) es (tO (dsRel X κ) X κ B (EX X pins σ Ex) f)
def PXt (κ : Nat → Addr) (B : Gd) (X : Cx) (e : Expr) (f : Ev → R Bool) : Prop := ∀ pins σ Ex, PT (At X pins σ Ex) e (tO bRel X κ B (EX X pins σ Ex) f)
def PXw (κ : Nat → Addr) (B : Gd) (X : Cx) (e : Expr) (f : Ev → R Bool) : Prop := ∀ pins σ Ex, PW (At X pins σ Ex) e (tO bRel X κ B (EX X pins σ Ex) f)

section
variable {κ : Nat → Addr} {B : Gd} {X : Cx} {a b c : Expr} {fa fb fc : Ev → R D} {pos : Pos}
theorem PX.read (h : PX κ B X a fa) : PXr κ B X a fa := fun pins σ Ex => pe_imp (h pins σ Ex) fun τ H Q ⟨G, δ, r, q⟩ => ⟨G, δ, r, by
  cases e : fa δ with
  | ok d => rw [e] at q; exact fun v H' G' x y => q v H' G' x (.inl y)
  | exc c => rw [e] at q; exact q
  | stuck => rw [e] at q; exact q⟩
/-! ### constants, names -/
def mC (d : D) : Ev → R D := fun _ => .ok d
theorem px_c {e : Expr} {v : V} {d : D} (h : ∀ pins σ Ex, PE (At X pins σ Ex) e (tC v)) (hd : ∀ G, Den ⟨X.K, κ⟩ G v d) : PX κ B X e (mC d) := fun pins σ Ex => pe_imp (h pins σ Ex) fun τ H Q ⟨G, δ, r, q⟩ => q v H G (Ext.refl r.GH) (hd G)
theorem px_int {i : Int} {j pos} : PX κ B X (.Constant (.int i) j pos) (mC (.int i)) := px_c (fun _ _ _ => pe_int) fun _ => by unfold Den; rfl
theorem px_bl {i : Bool} {j pos} : PX κ B X (.Constant (.bool i) j pos) (mC (.bl i)) := px_c (fun _ _ _ => pe_bl) fun _ => by unfold Den; rfl
theorem px_non {j pos} : PX κ B X (.Constant .none j pos) (mC .non) := px_c (fun _ _ _ => pe_non) fun _ => by unfold Den; rfl
theorem px_str {x : Str} {l : List Nat} {j pos} (h : x = ⟨l.toArray⟩) : PX κ B X (.Constant (.str x) j pos) (mC (.str l)) := px_c (fun _ _ _ => pe_str) fun _ => by unfold Den; rw [h]
def mVar (i : Nat) : Ev → R D := fun δ => match δ[i]? with
  | some (some (.sh d)) => .ok d
  | _ => .stuck
def mVarR (i : Nat) : Ev → R D := fun δ => match δ[i]? with
  | some (some (.sh d)) => .ok d
  | some (some (.ow ds)) => .ok (.lst ds)
  | _ => .stuck
theorem px_var (i : Nat) {x : Str} (hN : X.N[i]? = some x) (hv : Vis X.env.scope x) (hd : (x == ("__debug__" : Str)) = false) (hcd : (x == ("__classdict__" : Str)) = false) : PX κ B X (.Name x pos) (mVar i) := fun pins σ Ex =>
  pe_imp (pe_var (X := At X pins σ Ex) hN hv hd hcd) fun τ H Q ⟨G, δ, r, q⟩ => by
    unfold mVar at q
    split at q
    · rename_i d e
      obtain ⟨v, e1, e2⟩ := r.sh i d e
      exact ⟨v, e1, q v H G (Ext.refl r.GH) e2⟩
    · exact q.elim
theorem px_varR (i : Nat) {x : Str} (hN : X.N[i]? = some x) (hv : Vis X.env.scope x) (hd : (x == ("__debug__" : Str)) = false) (hcd : (x == ("__classdict__" : Str)) = false) : PXr κ B X (.Name x pos) (mVarR i) := fun pins σ Ex =>
  pe_imp (pe_var (X := At X pins σ Ex) hN hv hd hcd) fun τ H Q ⟨G, δ, r, q⟩ => by
    unfold mVarR at q
    split at q
    · rename_i d e
      obtain ⟨v, e1, e2⟩ := r.sh i d e
      exact ⟨v, e1, q v H G (Ext.refl r.GH) (.inl e2)⟩
    · rename_i ds e
      obtain ⟨l, vs, e1, e2, e3, _⟩ := r.ow i ds e
      exact ⟨.ref l, e1, q _ H G (Ext.refl r.GH) (.inr ⟨l, vs, ds, rfl, rfl, e2, e3⟩)⟩
    · exact q.elim
/-- a constant of the module -/
theorem px_glob {x : Str} {v : V} {u : Value} {d : D} (hg : Gl X x) (hm : X.mg x = some u) (r : RelV v u) (hd : ∀ G, Den ⟨X.K, κ⟩ G v d) (hdb : (x == ("__debug__" : Str)) = false) : PX κ B X (.Name x pos) (mC d) :=
  px_c (fun pins σ Ex => pe_glob (X := At X pins σ Ex) hg hm r hdb) hd

/-! ### two values, one value -/
def m2 (op : D → D → R D) (fa fb : Ev → R D) : Ev → R D := fun δ => (fa δ).bind fun x => (fb δ).bind fun y => op x y
def m1 (op : D → R D) (fa : Ev → R D) : Ev → R D := fun δ => (fa δ).bind op
/-- an operation of values keeps the rule r -/
def OpOk (κ : Nat → Addr) (X : Cx) (r : R2) (op : D → D → R D) : Prop := ∀ x y v u G H Q E, Same G H → rRel X κ G H v x → rRel X κ G H u y → Out (dRel X κ) κ E G H (op x y) Q → r v u H Q
theorem px_op {o : Operator} {r : R2} {op : D → D → R D} (ho : ∀ Y : Cx, Y.K = X.K → OpR Y (binaryOp o) r) (hop : OpOk κ X r op) (ha : PXr κ B X a fa) (hb : PXr κ B X b fb) : PX κ B X (.BinOp a o b pos) (m2 op fa fb) := fun pins σ Ex =>
  pe_imp (pe_op (ho (At X pins σ Ex) rfl) (ha pins σ Ex) (hb pins σ Ex)) fun τ H Q ⟨G, δ, rp, q⟩ => ⟨G, δ, rp, q.seq fun x v H1 G1 e1 d1 q1 => ⟨G1, δ, rp.ext e1, q1.seq fun y u H2 G2 e2 d2 q2 =>
    hop x y v u G2 H2 Q _ e2.GH (rRel_mono e2 d1) d2 q2⟩⟩
theorem px_cmp {o : CmpOp} {r : R2} {op : D → D → R D} (ho : ∀ Y : Cx, Y.K = X.K → Y.A = X.A → OpR Y (compareOp o) r) (hop : OpOk κ X r op) (ha : PXr κ B X a fa) (hb : PXr κ B X b fb) (hm : behindInMarks o b = false) : PX κ B X (.Compare a [o] [b] pos) (m2 op fa fb) := fun pins σ Ex =>
  pe_imp (pe_cmpR (ho (At X pins σ Ex) rfl rfl) (ha pins σ Ex) (hb pins σ Ex) hm) fun τ H Q ⟨G, δ, rp, q⟩ => ⟨G, δ, rp, q.seq fun x v H1 G1 e1 d1 q1 => ⟨G1, δ, rp.ext e1, q1.seq fun y u H2 G2 e2 d2 q2 =>
    hop x y v u G2 H2 Q _ e2.GH (rRel_mono e2 d1) d2 q2⟩⟩
/-- a bool's rule as a test's -/
def m2t (op : D → D → R Bool) (fa fb : Ev → R D) : Ev → R Bool := fun δ => (fa δ).bind fun x => (fb δ).bind fun y => op x y
def blR : R Bool → R D
  | .ok b => .ok (.bl b)
  | .exc c => .exc c
  | .stuck => .stuck
def op2 (op : D → D → R Bool) : D → D → R D := fun x y => blR (op x y)
theorem pxt_cmp {o : CmpOp} {r : R2} {op : D → D → R Bool} (ho : ∀ Y : Cx, Y.K = X.K → Y.A = X.A → OpR Y (compareOp o) r) (hop : OpOk κ X r (op2 op)) (ha : PXr κ B X a fa) (hb : PXr κ B X b fb) (hm : behindInMarks o b = false) : PXt κ B X (.Compare a [o] [b] pos) (m2t op fa fb) := fun pins σ Ex =>
  pt_imp (pt_cmpR (ho (At X pins σ Ex) rfl rfl) (ha pins σ Ex) (hb pins σ Ex) hm) fun τ H Q ⟨G, δ, rp, q⟩ => ⟨G, δ, rp, q.seq fun x v H1 G1 e1 d1 q1 => ⟨G1, δ, rp.ext e1, q1.seq fun y u H2 G2 e2 d2 q2 =>
    hop x y v u G2 H2 _ _ e2.GH (rRel_mono e2 d1) d2 (by
      unfold op2
      cases e : op x y with
      | ok k =>
        rw [e] at q2
        intro z H3 G3 e3 d3
        have d3' : z = .bl k := by simpa [Den] using d3
        exact ⟨k, d3', q2 k H3 G3 e3 rfl⟩
      | exc c => rw [e] at q2; exact q2
      | stuck => rw [e] at q2; exact q2)⟩⟩

/-! ### ints -/
theorem rInt {G H : Hp} {v : V} {i : Int} (h : rRel X κ G H v (.int i)) : v = .int i := by
  rcases h with h | ⟨_, _, _, _, e, _⟩
  · simpa [Den] using h
  · cases e
theorem dInt {Z : Zx} {G : Hp} {i : Int} : Den Z G (.int i) (.int i) := by unfold Den; rfl
theorem dBl {Z : Zx} {G : Hp} {i : Bool} : Den Z G (.bl i) (.bl i) := by unfold Den; rfl
theorem dStr {Z : Zx} {G : Hp} {i : List Nat} : Den Z G (stV i) (.str i) := by unfold Den; rfl
theorem dNon {Z : Zx} {G : Hp} : Den Z G .non .non := by unfold Den; rfl
def oI (C : Int → Int → Bool) (g : Int → Int → Int) : D → D → R D
  | .int i, .int j => if C i j then .ok (.int (g i j)) else .stuck
  | _, _ => .stuck
theorem opOk_I {C : Int → Int → Prop} {C' : Int → Int → Bool} {g : Int → Int → Int} (hc : ∀ i j, C' i j = true → C i j) : OpOk κ X (rI C fun i j => .int (g i j)) (oI C' g) := by
  intro x y v u G H Q E s d1 d2 q
  unfold oI at q
  split at q
  · rename_i i j
    split at q
    · rename_i h
      exact ⟨i, j, rInt d1, rInt d2, hc _ _ h, q _ H G (Ext.refl s) dInt⟩
    · exact q.elim
  · exact q.elim
def oI0 (g : Int → Int → Int) : D → D → R D
  | .int i, .int j => .ok (.int (g i j))
  | _, _ => .stuck
theorem opOk_I0 {g : Int → Int → Int} : OpOk κ X (rI0 fun i j => .int (g i j)) (oI0 g) := by
  intro x y v u G H Q E s d1 d2 q
  unfold oI0 at q
  split at q
  · exact ⟨_, _, rInt d1, rInt d2, q _ H G (Ext.refl s) dInt⟩
  · exact q.elim
def oSub : D → D → R D := oI0 fun i j => i - j
def oMul : D → D → R D := oI (fun i j => (decide (-(2 ^ 64) < i) && decide (i < 2 ^ 64)) || (decide (-(2 ^ 64) < j) && decide (j < 2 ^ 64))) fun i j => i * j
def oDiv : D → D → R D := oI (fun _ j => decide (0 < j) && decide (j < 1073741824)) fun i j => i / j
def oMod : D → D → R D := oI (fun _ j => decide (0 < j)) fun i j => i % j
def oPow : D → D → R D := oI (fun i j => decide (0 ≤ j) && decide (j ≤ 1000000) && decide (i.natAbs < 2 ^ 64)) fun i j => i ^ j.toNat
theorem px_sub (ha : PXr κ B X a fa) (hb : PXr κ B X b fb) : PX κ B X (.BinOp a .Sub b pos) (m2 oSub fa fb) := px_op (fun _ _ => op_sub) opOk_I0 ha hb
theorem px_mulI (ha : PXr κ B X a fa) (hb : PXr κ B X b fb) : PX κ B X (.BinOp a .Mult b pos) (m2 oMul fa fb) := px_op (fun _ _ => op_mul) (opOk_I fun i j h => by unfold CMul; simpa using h) ha hb
theorem px_div (ha : PXr κ B X a fa) (hb : PXr κ B X b fb) : PX κ B X (.BinOp a .FloorDiv b pos) (m2 oDiv fa fb) := px_op (fun _ _ => op_fdiv) (opOk_I fun i j h => by unfold CDiv; simpa using h) ha hb
theorem px_mod (ha : PXr κ B X a fa) (hb : PXr κ B X b fb) : PX κ B X (.BinOp a .Mod b pos) (m2 oMod fa fb) := px_op (fun _ _ => op_mod) (opOk_I fun i j h => by simpa using h) ha hb
theorem px_pow (ha : PXr κ B X a fa) (hb : PXr κ B X b fb) : PX κ B X (.BinOp a .Pow b pos) (m2 oPow fa fb) := px_op (fun _ _ => op_pow) (opOk_I fun i j h => by unfold CPow; simpa [and_assoc] using h) ha hb
/-- +: ints, texts -/
def oAdd : D → D → R D
  | .int i, .int j => .ok (.int (i + j))
  | .str x, .str y => if x.length + y.length ≤ 1000000 then .ok (.str (x ++ y)) else .stuck
  | _, _ => .stuck
theorem rStr {G H : Hp} {v : V} {x : List Nat} (h : rRel X κ G H v (.str x)) : v = stV x := by
  rcases h with h | ⟨_, _, _, _, e, _⟩
  · simpa [Den] using h
  · cases e
theorem opR_or {Y : Cx} {f : Value → Value → Sem Value} {r r' : R2} (h : OpR Y f r) (h' : OpR Y f r') : OpR Y f (fun x y H Q => r x y H Q ∨ r' x y H Q) := by
  intro pins s σ H x y v u Q I rx ry q
  rcases q with q | q
  · exact h pins s σ H x y v u Q I rx ry q
  · exact h' pins s σ H x y v u Q I rx ry q
theorem big1 {n : Nat} (h : n ≤ 1000000) : n ≤ sizeLine := Nat.le_trans h (by rw [sizeLine_eq]; decide)
theorem px_add (ha : PXr κ B X a fa) (hb : PXr κ B X b fb) : PX κ B X (.BinOp a .Add b pos) (m2 oAdd fa fb) := px_op (fun _ _ => opR_or op_add op_add_str) (by
  intro x y v u G H Q E s d1 d2 q
  unfold oAdd at q
  split at q
  · exact .inl ⟨_, _, rInt d1, rInt d2, q _ H G (Ext.refl s) dInt⟩
  · rename_i x y
    split at q
    · rename_i h
      refine .inr ⟨_, _, rStr d1, rStr d2, big1 (by simpa [Str.length] using h), ?_⟩
      exact q _ H G (Ext.refl s) (by unfold Den; show V.str ⟨x.toArray ++ y.toArray⟩ = V.str ⟨(x ++ y).toArray⟩; simp)
    · exact q.elim
  · exact q.elim) ha hb

/-! ### comparisons of ints -/
def oCmp (p : Int → Int → Bool) : D → D → R Bool
  | .int i, .int j => .ok (p i j)
  | _, _ => .stuck
theorem opOk_cmp {p : Int → Int → Bool} : OpOk κ X (rI0 fun i j => .bl (p i j)) (op2 (oCmp p)) := by
  intro x y v u G H Q E s d1 d2 q
  unfold op2 oCmp at q
  split at q
  · exact ⟨_, _, rInt d1, rInt d2, q _ H G (Ext.refl s) dBl⟩
  · exact False.elim q
def oLt : D → D → R Bool := oCmp fun i j => decide (i < j)
def oLe : D → D → R Bool := oCmp fun i j => decide (i ≤ j)
def oGt : D → D → R Bool := oCmp fun i j => decide (j < i)
def oGe : D → D → R Bool := oCmp fun i j => decide (j ≤ i)
theorem px_lt (ha : PXr κ B X a fa) (hb : PXr κ B X b fb) (hm : behindInMarks .Lt b = false) : PX κ B X (.Compare a [.Lt] [b] pos) (m2 (op2 oLt) fa fb) := px_cmp (fun _ _ _ => op_lt) opOk_cmp ha hb hm
theorem px_le (ha : PXr κ B X a fa) (hb : PXr κ B X b fb) (hm : behindInMarks .LtE b = false) : PX κ B X (.Compare a [.LtE] [b] pos) (m2 (op2 oLe) fa fb) := px_cmp (fun _ _ _ => op_le) opOk_cmp ha hb hm
theorem px_gt (ha : PXr κ B X a fa) (hb : PXr κ B X b fb) (hm : behindInMarks .Gt b = false) : PX κ B X (.Compare a [.Gt] [b] pos) (m2 (op2 oGt) fa fb) := px_cmp (fun _ _ _ => op_gt) opOk_cmp ha hb hm
theorem px_ge (ha : PXr κ B X a fa) (hb : PXr κ B X b fb) (hm : behindInMarks .GtE b = false) : PX κ B X (.Compare a [.GtE] [b] pos) (m2 (op2 oGe) fa fb) := px_cmp (fun _ _ _ => op_ge) opOk_cmp ha hb hm
theorem pxt_lt (ha : PXr κ B X a fa) (hb : PXr κ B X b fb) (hm : behindInMarks .Lt b = false) : PXt κ B X (.Compare a [.Lt] [b] pos) (m2t oLt fa fb) := pxt_cmp (fun _ _ _ => op_lt) opOk_cmp ha hb hm
theorem pxt_le (ha : PXr κ B X a fa) (hb : PXr κ B X b fb) (hm : behindInMarks .LtE b = false) : PXt κ B X (.Compare a [.LtE] [b] pos) (m2t oLe fa fb) := pxt_cmp (fun _ _ _ => op_le) opOk_cmp ha hb hm
theorem pxt_gt (ha : PXr κ B X a fa) (hb : PXr κ B X b fb) (hm : behindInMarks .Gt b = false) : PXt κ B X (.Compare a [.Gt] [b] pos) (m2t oGt fa fb) := pxt_cmp (fun _ _ _ => op_gt) opOk_cmp ha hb hm
theorem pxt_ge (ha : PXr κ B X a fa) (hb : PXr κ B X b fb) (hm : behindInMarks .GtE b = false) : PXt κ B X (.Compare a [.GtE] [b] pos) (m2t oGe fa fb) := pxt_cmp (fun _ _ _ => op_ge) opOk_cmp ha hb hm

/-! ### truth; and, or, not; if else -/
def tru : D → R Bool
  | .non => .ok false
  | .bl b => .ok b
  | .int i => .ok (i != 0)
  | .str x => if x.length ≤ 1000000 then .ok (!x.isEmpty) else .stuck
  | .tup ds => .ok (!ds.isEmpty)
  | .lst ds => .ok (!ds.isEmpty)
  | .ob _ _ _ => .stuck
theorem isEmpty_dens {Z : Zx} {G : Hp} {vs : List V} {ds : List D} (h : Dens Z G vs ds) : vs.isEmpty = ds.isEmpty := by
  have := h.length
  cases vs <;> cases ds <;> simp_all
def mT (f : Ev → R D) : Ev → R Bool := fun δ => (f δ).bind tru
theorem truV {G H : Hp} {v : V} {d : D} {k : Bool} (s : Same G H) (h : rRel X κ G H v d) (e : tru d = .ok k) : TruV X.K v H k := by
  have seq : ∀ {a : Addr} {vs : List V} {ds : List D}, SqL X.K H a vs → Dens ⟨X.K, κ⟩ G vs ds → R.ok (!ds.isEmpty) = R.ok k → TruV X.K (.ref a) H k := fun h1 h2 e => by
    injection e with e
    exact .inl ⟨_, h1, by rw [isEmpty_dens h2, e]⟩
  rcases h with h | ⟨a, vs, ds, rfl, rfl, h3, h4⟩
  · cases d with
    | non => unfold Den at h; subst h; injection e with e; exact e.symm
    | bl b => unfold Den at h; subst h; injection e with e; exact e.symm
    | int i => unfold Den at h; subst h; injection e with e; exact e.symm
    | str x =>
      unfold Den at h; subst h
      simp only [tru] at e
      split at e
      · rename_i hx
        injection e with e
        refine ⟨big1 (by simpa [Str.length] using hx), ?_⟩
        rw [← e]
        cases x with
        | nil => rfl
        | cons c l =>
          have : ((l.length + 1 : Nat) : Int) ≠ 0 := by omega
          simp [Str.length]
          exact this
      · cases e
    | tup ds =>
      unfold Den at h
      obtain ⟨a, vs, rfl, h1, h2⟩ := h
      injection e with e
      exact .inr (.inl ⟨_, same_seqT s h1, by rw [isEmpty_dens h2, e]⟩)
    | lst ds =>
      unfold Den at h
      obtain ⟨a, vs, rfl, h1, h2⟩ := h
      exact seq (s.seq h1) h2 e
    | ob _ _ _ => cases e
  · exact seq (SqL.of h3) h4 e
theorem pxt_val (ha : PXr κ B X a fa) (he : ∀ whole, isTrue a X.env whole = (do let v ← whole; standAt a.pos; holding [v] (truthy v))) : PXt κ B X a (mT fa) := fun pins σ Ex =>
  pt_imp (pt_truth (X := At X pins σ Ex) (ha pins σ Ex) he) fun τ H Q ⟨G, δ, rp, q⟩ => ⟨G, δ, rp, q.seq fun x v H1 G1 e1 d1 q1 => by
    cases e : tru x with
    | ok k => rw [e] at q1; exact ⟨k, truV e1.GH d1 e, q1 k H1 G1 (Ext.refl e1.GH) rfl⟩
    | exc c =>
      exfalso
      cases x <;> simp [tru] at e
      split at e <;> cases e
    | stuck => rw [e] at q1; exact q1.elim⟩
def mNot (f : Ev → R Bool) : Ev → R Bool := fun δ => (f δ).bind fun k => .ok (!k)
def mAnd (f g : Ev → R Bool) : Ev → R Bool := fun δ => (f δ).bind fun k => if k then g δ else .ok false
def mOr (f g : Ev → R Bool) : Ev → R Bool := fun δ => (f δ).bind fun k => if k then .ok true else g δ
variable {ta tb : Ev → R Bool} {rest : List Expr}
theorem pxt_not (ha : PXt κ B X a ta) : PXt κ B X (.UnaryOp .Not a pos) (mNot ta) := fun pins σ Ex =>
  pt_imp (pt_not (ha pins σ Ex)) fun τ H Q ⟨G, δ, rp, q⟩ => ⟨G, δ, rp, q.seq fun x v H1 G1 e1 d1 q1 => by
    cases d1
    exact q1 (!x) H1 G1 (Ext.refl e1.GH) rfl⟩
theorem pxw_and1 (ha : PXt κ B X a ta) : PXw κ B X (.BoolOp .And [a] pos) ta := fun pins σ Ex => pw_and1 (ha pins σ Ex)
theorem pxw_or1 (ha : PXt κ B X a ta) : PXw κ B X (.BoolOp .Or [a] pos) ta := fun pins σ Ex => pw_or1 (ha pins σ Ex)
theorem pxw_and (ha : PXt κ B X a ta) (hb : PXw κ B X (.BoolOp .And (b :: rest) pos) tb) : PXw κ B X (.BoolOp .And (a :: b :: rest) pos) (mAnd ta tb) := fun pins σ Ex =>
  pw_imp (pw_and (ha pins σ Ex) (hb pins σ Ex)) fun τ H Q ⟨G, δ, rp, q⟩ => ⟨G, δ, rp, q.seq fun x v H1 G1 e1 d1 q1 => by
    cases d1
    cases x with
    | true => exact ⟨G1, δ, rp.ext e1, q1⟩
    | false => exact q1 false H1 G1 (Ext.refl e1.GH) rfl⟩
theorem pxw_or (ha : PXt κ B X a ta) (hb : PXw κ B X (.BoolOp .Or (b :: rest) pos) tb) : PXw κ B X (.BoolOp .Or (a :: b :: rest) pos) (mOr ta tb) := fun pins σ Ex =>
  pw_imp (pw_or (ha pins σ Ex) (hb pins σ Ex)) fun τ H Q ⟨G, δ, rp, q⟩ => ⟨G, δ, rp, q.seq fun x v H1 G1 e1 d1 q1 => by
    cases d1
    cases x with
    | true => exact q1 true H1 G1 (Ext.refl e1.GH) rfl
    | false => exact ⟨G1, δ, rp.ext e1, q1⟩⟩
theorem PXw.t (h : PXw κ B X a ta) : PXt κ B X a ta := fun pins σ Ex => (h pins σ Ex).pt
/-! as values: of bools alone -/
def boolD : D → R Bool
  | .bl b => .ok b
  | _ => .stuck
def mAndV (f g : Ev → R D) : Ev → R D := fun δ => (f δ).bind fun x => (boolD x).bind fun k => if k then g δ else .ok (.bl false)
def mOrV (f g : Ev → R D) : Ev → R D := fun δ => (f δ).bind fun x => (boolD x).bind fun k => if k then .ok (.bl true) else g δ
def mNotV (f : Ev → R D) : Ev → R D := fun δ => (f δ).bind fun x => (boolD x).bind fun k => .ok (.bl (!k))
theorem boolD_of {x : D} {α : Type} {k : Bool → R α} {rel : Hp → Hp → V → α → Prop} {E : XK} {G H : Hp} {Q : V → Hp → Prop} {v : V} {Z : Zx} {G' : Hp} (d : Den Z G' v x) (h : Out rel κ E G H ((boolD x).bind k) Q) : ∃ c, v = .bl c ∧ x = .bl c ∧ Out rel κ E G H (k c) Q := by
  cases x with
  | bl c => exact ⟨c, by simpa [Den] using d, rfl, h⟩
  | _ => exact h.elim
theorem px_one {op} (h : PX κ B X a fa) : PX κ B X (.BoolOp op [a] pos) fa := fun pins σ Ex => pe_one (h pins σ Ex)
theorem px_and (ha : PX κ B X a fa) (hb : PX κ B X (.BoolOp .And (b :: rest) pos) fb) : PX κ B X (.BoolOp .And (a :: b :: rest) pos) (mAndV fa fb) := fun pins σ Ex =>
  pe_imp (pe_and (ha pins σ Ex) (hb pins σ Ex)) fun τ H Q ⟨G, δ, rp, q⟩ => ⟨G, δ, rp, q.seq fun x v H1 G1 e1 d1 q1 => by
    obtain ⟨k, rfl, rfl, q1⟩ := boolD_of d1 q1
    refine ⟨k, rfl, ?_⟩
    cases k with
    | true => exact ⟨G1, δ, rp.ext e1, q1⟩
    | false => exact q1 _ H1 G1 (Ext.refl e1.GH) dBl⟩
theorem px_or (ha : PX κ B X a fa) (hb : PX κ B X (.BoolOp .Or (b :: rest) pos) fb) : PX κ B X (.BoolOp .Or (a :: b :: rest) pos) (mOrV fa fb) := fun pins σ Ex =>
  pe_imp (pe_or (ha pins σ Ex) (hb pins σ Ex)) fun τ H Q ⟨G, δ, rp, q⟩ => ⟨G, δ, rp, q.seq fun x v H1 G1 e1 d1 q1 => by
    obtain ⟨k, rfl, rfl, q1⟩ := boolD_of d1 q1
    refine ⟨k, rfl, ?_⟩
    cases k with
    | false => exact ⟨G1, δ, rp.ext e1, q1⟩
    | true => exact q1 _ H1 G1 (Ext.refl e1.GH) dBl⟩
theorem px_not (ha : PX κ B X a fa) : PX κ B X (.UnaryOp .Not a pos) (mNotV fa) := fun pins σ Ex =>
  pe_imp (pe_not (ha pins σ Ex)) fun τ H Q ⟨G, δ, rp, q⟩ => ⟨G, δ, rp, q.seq fun x v H1 G1 e1 d1 q1 => by
    obtain ⟨k, rfl, rfl, q1⟩ := boolD_of d1 q1
    exact ⟨k, rfl, q1 _ H1 G1 (Ext.refl e1.GH) dBl⟩⟩
def mIf (t : Ev → R Bool) (f g : Ev → R D) : Ev → R D := fun δ => (t δ).bind fun k => if k then f δ else g δ
theorem px_if (hc : PXt κ B X c ta) (ha : PX κ B X a fa) (hb : PX κ B X b fb) : PX κ B X (.IfExp c a b pos) (mIf ta fa fb) := fun pins σ Ex =>
  pe_imp (pe_ifExp (hc pins σ Ex) (ha pins σ Ex) (hb pins σ Ex)) fun τ H Q ⟨G, δ, rp, q⟩ => ⟨G, δ, rp, q.seq fun x v H1 G1 e1 d1 q1 => by
    cases d1
    cases x with
    | true => exact ⟨G1, δ, rp.ext e1, q1⟩
    | false => exact ⟨G1, δ, rp.ext e1, q1⟩⟩

/-! ### an item by its place -/
def oIx : D → D → R D
  | .lst ds, .int i => match atI ds i with | some d => .ok d | none => .stuck
  | .tup ds, .int i => match atI ds i with | some d => .ok d | none => .stuck
  | .str x, .int i => if x.length ≤ 1000000 then (match atI x i with | some c => .ok (.str [c]) | none => .stuck) else .stuck
  | _, _ => .stuck
theorem dens_atI {Z : Zx} {G : Hp} {vs : List V} {ds : List D} {i : Int} {d : D} (h : Dens Z G vs ds) (e : atI ds i = some d) : ∃ v, atI vs i = some v ∧ Den Z G v d := by
  unfold atI at e ⊢
  rw [h.length]
  cases q : ixN ds.length i with
  | none => rw [q] at e; cases e
  | some j =>
    rw [q] at e
    exact h.get e
theorem px_ix (ha : PXr κ B X a fa) (hb : PXr κ B X b fb) (hs : PlainIx b) : PX κ B X (.Subscript a b pos) (m2 oIx fa fb) := fun pins σ Ex =>
  pe_imp (pe_ix (ix_seq (X := At X pins σ Ex)) (ha pins σ Ex) (hb pins σ Ex) hs) fun τ H Q ⟨G, δ, rp, q⟩ => ⟨G, δ, rp, q.seq fun x v H1 G1 e1 d1 q1 => ⟨G1, δ, rp.ext e1, q1.seq fun y u H2 G2 e2 d2 q2 => by
    have d1 := rRel_mono e2 d1
    have lst : ∀ {p : Addr} {vs : List V} {ds : List D} {i : Int}, SqL X.K H2 p vs → Dens ⟨X.K, κ⟩ G2 vs ds → u = .int i → Out (dRel X κ) κ (EX X pins σ Ex) G2 H2 (match atI ds i with | some d => .ok d | none => .stuck) Q → rIx X.K (.ref p) u H2 Q := fun {p vs ds i} h1 h2 h3 q => by
      cases e : atI ds i with
      | none => rw [e] at q; exact q.elim
      | some d =>
        rw [e] at q
        obtain ⟨w, x1, x2⟩ := dens_atI h2 e
        exact .inl ⟨p, vs, i, w, rfl, h3, h1, x1, q w H2 G2 (Ext.refl e2.GH) x2⟩
    cases y with
    | int i =>
      cases x with
      | lst ds =>
        rcases d1 with d1 | ⟨p, vs, es, rfl, e, h3, h4⟩
        · unfold Den at d1
          obtain ⟨p, vs, rfl, h1, h2⟩ := d1
          exact lst (e2.GH.seq h1) h2 (rInt d2) q2
        · cases e
          exact lst (SqL.of h3) h4 (rInt d2) q2
      | tup ds =>
        rcases d1 with d1 | ⟨p, vs, es, rfl, e, h3, h4⟩
        · unfold Den at d1
          obtain ⟨p, vs, rfl, h1, h2⟩ := d1
          simp only [oIx] at q2
          cases e : atI ds i with
          | none => rw [e] at q2; exact False.elim q2
          | some d =>
            rw [e] at q2
            obtain ⟨w, x1, x2⟩ := dens_atI h2 e
            exact .inr (.inl ⟨p, vs, i, w, rfl, rInt d2, same_seqT e2.GH h1, x1, q2 w H2 G2 (Ext.refl e2.GH) x2⟩)
        · cases e
      | str x =>
        simp only [oIx] at q2
        split at q2
        · rename_i hx
          cases e : atI x i with
          | none => rw [e] at q2; exact False.elim q2
          | some d =>
            rw [e] at q2
            have ev := rStr d1
            subst ev
            exact .inr (.inr ⟨_, i, d, rfl, rInt d2, big1 (by simpa [Str.length] using hx), by simpa using e, q2 _ H2 G2 (Ext.refl e2.GH) (by unfold Den; rfl)⟩)
        · exact False.elim q2
      | _ => exact False.elim q2
    | _ => cases x <;> exact False.elim q2⟩⟩

/-! ### lists of expressions, displays -/
def mNil : Ev → R (List D) := fun _ => .ok []
def mCons (f : Ev → R D) (g : Ev → R (List D)) : Ev → R (List D) := fun δ => (f δ).bind fun x => (g δ).bind fun xs => .ok (x :: xs)
variable {es : List Expr} {fs : Ev → R (List D)}
theorem pxs_nil : PXs κ B X [] mNil := fun pins σ Ex => pa_imp pa_nil fun τ H Q ⟨G, δ, rp, q⟩ => q [] H G (Ext.refl rp.GH) dens_nil
theorem pxs_cons (ha : PX κ B X a fa) (hr : PXs κ B X es fs) (hs : starEach (a :: es) X.env = (false, eval a X.env) :: starEach es X.env) : PXs κ B X (a :: es) (mCons fa fs) := fun pins σ Ex =>
  pa_imp (pa_cons (X := At X pins σ Ex) (ha pins σ Ex) (hr pins σ Ex) hs) fun τ H Q ⟨G, δ, rp, q⟩ => ⟨G, δ, rp, q.seq fun x v H1 G1 e1 d1 q1 => ⟨G1, δ, rp.ext e1, q1.seq fun y u H2 G2 e2 d2 q2 =>
    q2 (v :: u) H2 G2 (Ext.refl e2.GH) (dens_cons (d1.mono e2.sG) d2)⟩⟩
theorem ext_new {G H : Hp} {p : Addr} {o : HO} (s : Same G H) (n : H p = none) : Ext G H (upd G p o) (upd H p o) := by
  have ng := s.free n
  refine ⟨fun b u e => ?_, fun b u e => ?_, fun b u e => ?_, fun b e => ?_⟩
  · rw [upd_ne (ne_of_none e ng)]; exact e
  · rw [upd_ne (ne_of_none e n)]; exact e
  · by_cases hb : b = p
    · subst hb; rw [upd_same] at e ⊢; exact e
    · rw [upd_ne hb] at e ⊢; exact s b u e
  · by_cases hb : b = p
    · subst hb; exact .inr n
    · rw [upd_ne hb] at e; exact .inl e
/-- a list made here, which no one else holds yet: H' alone knows it -/
structure ExtN (G H G' H' : Hp) : Prop where
  sG : Same G G'
  sH : Same H H'
  GH : Same G' H'
  new : ∀ a, G' a ≠ none → G a ≠ none ∨ H a = none
def mTup (f : Ev → R (List D)) : Ev → R D := fun δ => (f δ).bind fun xs => if xs.length ≤ 1000000 then .ok (.tup xs) else .stuck
def mLst (f : Ev → R (List D)) : Ev → R D := fun δ => (f δ).bind fun xs => if xs.length ≤ 1000000 then .ok (.lst xs) else .stuck
theorem px_tup {k : Nat} (h : PXs κ B X es fs) : PX κ B X (.Tuple es k pos) (mTup fs) := fun pins σ Ex =>
  pe_imp (pe_tup (h pins σ Ex)) fun τ H Q ⟨G, δ, rp, q⟩ => ⟨G, δ, rp, q.seq fun x v H1 G1 e1 d1 q1 => by
    split at q1
    · rename_i hl
      refine ⟨big1 (by rw [d1.length]; exact hl), fun p hp => ?_⟩
      have e := ext_new (o := .tup v) e1.GH hp
      exact q1 _ _ _ e (by unfold Den; exact ⟨p, v, rfl, SqT.of upd_same, d1.mono e.sG⟩)
    · exact q1.elim⟩
theorem px_lst (h : PXs κ B X es fs) : PX κ B X (.List es pos) (mLst fs) := fun pins σ Ex =>
  pe_imp (pe_lst (h pins σ Ex)) fun τ H Q ⟨G, δ, rp, q⟩ => ⟨G, δ, rp, q.seq fun x v H1 G1 e1 d1 q1 => by
    split at q1
    · rename_i hl
      refine ⟨big1 (by rw [d1.length]; exact hl), fun p hp => ?_⟩
      have e := ext_new (o := .lst v) e1.GH hp
      exact q1 _ _ _ e (by unfold Den; exact ⟨p, v, rfl, SqL.of upd_same, d1.mono e.sG⟩)
    · exact q1.elim⟩
end

/-! ## calls of the text's own defs -/
/-- a def's promise by its mirror -/
def spM (K : PySem.W.Frag) (κ : Nat → Addr) (n : Nat) (m : List D → R D) : Sp := fun vs H Q E => vs.length = n ∧ ∃ G ds, Same G H ∧ Dens ⟨K, κ⟩ G vs ds ∧ Out (fun G _ v d => Den ⟨K, κ⟩ G v d) κ E G H (m ds) Q
/-- a def that may be called here -/
structure Cal (κ : Nat → Addr) (X : Cx) (x : Str) (n : Nat) (m : List D → R D) : Prop where
  ex : ∃ f fd ps k, FnOk X.prog X.w X.K X.mg X.base (CXR X.prog X.w) k f fd ps (spM X.K κ n m) ∧ Room k X.A ∧ X.mg x = some (.ref f) ∧ PySem.W.keepIn X.K (.ref f) = true ∧ Binds X.K fd ps []
section
variable {κ : Nat → Addr} {B : Gd} {X : Cx} {a : Expr} {es : List Expr} {fs : Ev → R (List D)} {p pos : Pos} {x : Str} {m : List D → R D} {n : Nat}
def mCall (m : List D → R D) (fs : Ev → R (List D)) : Ev → R D := fun δ => (fs δ).bind m
theorem px_call (c : Cxo X) (C : Cal κ X x n m) (hn : (a :: es).length = n) (hg : Gl X x) (ha : PXs κ B X (a :: es) fs) (hdb : (x == ("__debug__" : Str)) = false) (he : starEach (a :: es) X.env = (false, eval a X.env) :: starEach es X.env) (hpl : (backTo pos (starEach es X.env)).any (·.1) = false)
    (hlen : ∀ δ ds, fs δ = .ok ds → ds.length = n) : PX κ B X (.Call (.Name x p) (a :: es) [] pos) (mCall m fs) := fun pins σ Ex => by
  obtain ⟨f, fd, ps, k, F, hr, hm, hk, hb⟩ := C.ex
  refine pe_imp (pe_call (X := At X pins σ Ex) (E := EX X pins σ Ex) F hr hg hm hk hb .nil (passes_at c) (ha pins σ Ex) hdb he hpl) fun τ H Q ⟨G, δ, rp, q⟩ => ⟨G, δ, rp, ?_⟩
  unfold mCall at q
  cases e : fs δ with
  | ok ds =>
    rw [e] at q
    intro v H1 G1 e1 d1
    rw [List.append_nil]
    exact ⟨by rw [Dens.length d1, hlen δ ds e], G1, ds, e1.GH, d1, Out.pre e1 q⟩
  | exc c => rw [e] at q; exact q
  | stuck => rw [e] at q; exact q
end
end L3

-- part L3c.lean
set_option Elab.async false
set_option linter.all false
set_option maxRecDepth 100000
namespace L3
open PySem PySem.Spec PyProof.Rows L2

/-! ## statements -/
inductive SR where
  | next (δ : Ev) | brk (δ : Ev) | cont (δ : Ev) | ret (d : D) | exc (c : Nat) (δ : Ev) | stuck
def bS {α : Type} (r : R α) (δ : Ev) (k : α → SR) : SR := match r with
  | .ok d => k d
  | .exc c => .exc c δ
  | .stuck => .stuck
@[simp] theorem bS_ok {α : Type} (d : α) (δ : Ev) (k : α → SR) : bS (.ok d) δ k = k d := rfl
@[simp] theorem bS_exc {α : Type} (c : Nat) (δ : Ev) (k : α → SR) : bS (.exc c) δ k = .exc c δ := rfl
@[simp] theorem bS_stuck {α : Type} (δ : Ev) (k : α → SR) : bS .stuck δ k = .stuck := rfl
def SPost (κ : Nat → Addr) (B : Gd) (X : Cx) (Ex : Value → Shared → Prop) (pins : List (Addr × Obj)) (Dn : Ends) (r : SR) : Prop := match r with
  | .next δ' => ∀ σ' H' G', Rep ⟨X.K, κ⟩ B X.H₀ G' H' σ' δ' → Dn.nx σ' H'
  | .brk δ' => ∀ σ' H' G', Rep ⟨X.K, κ⟩ B X.H₀ G' H' σ' δ' → Dn.bk σ' H'
  | .cont δ' => ∀ σ' H' G', Rep ⟨X.K, κ⟩ B X.H₀ G' H' σ' δ' → Dn.ct σ' H'
  | .ret d => ∀ v H' G', Hold B X.H₀ G' H' → Den ⟨X.K, κ⟩ G' v d → Dn.rt v H'
  | .exc c δ' => ∀ ea s' σ' H' G', Inv (X.wish Ex) pins σ' H' s' → Flies X pins H' s' ea (.ref (κ c)) → Rep ⟨X.K, κ⟩ B X.H₀ G' H' σ' δ' → Ex (.ref ea) s'
  | .stuck => False
def PZ (κ : Nat → Addr) (B : Gd) (X : Cx) (st : Stmt) (F : Ev → SR) : Prop := ∀ Ex pins s σ H G δ Dn, PassesOwn (model X.prog X.w) X.A X.env Ex → Inv (X.wish Ex) pins σ H s → Rep ⟨X.K, κ⟩ B X.H₀ G H σ δ → SPost κ B X Ex pins Dn (F δ) →
  wpAny (model X.prog X.w) X.A (exec st X.env) (SP (X.wish Ex) pins Dn) Ex s
def PZs (κ : Nat → Addr) (B : Gd) (X : Cx) (st : List Stmt) (F : Ev → SR) : Prop := ∀ Ex pins s σ H G δ Dn, PassesOwn (model X.prog X.w) X.A X.env Ex → Inv (X.wish Ex) pins σ H s → Rep ⟨X.K, κ⟩ B X.H₀ G H σ δ → SPost κ B X Ex pins Dn (F δ) →
  wpAny (model X.prog X.w) X.A (execs st X.env) (SP (X.wish Ex) pins Dn) Ex s
section
variable {κ : Nat → Addr} {B : Gd} {X : Cx} {e a b c : Expr} {f fa fb : Ev → R D} {pos pos' : Pos} {Ex : Value → Shared → Prop} {pins : List (Addr × Obj)} {s : Shared} {σ : St} {H G : Hp} {δ : Ev} {Dn : Ends}
theorem PX.stm (cx : Cxo X) (h : PX κ B X e f) (I : Inv (X.wish Ex) pins σ H s) (rp : Rep ⟨X.K, κ⟩ B X.H₀ G H σ δ) {k : D → SR} (hp : SPost κ B X Ex pins Dn (bS (f δ) δ k)) :
    wpAny (model X.prog X.w) X.A (eval e X.env) (fun u s' => ∃ d v H' G', Inv (X.wish Ex) pins σ H' s' ∧ RelV v u ∧ Rep ⟨X.K, κ⟩ B X.H₀ G' H' σ δ ∧ Den ⟨X.K, κ⟩ G' v d ∧ SPost κ B X Ex pins Dn (k d)) Ex s := by
  refine thn (h pins σ Ex pins s σ H (fun v H' => ∃ d G', Rep ⟨X.K, κ⟩ B X.H₀ G' H' σ δ ∧ Den ⟨X.K, κ⟩ G' v d ∧ SPost κ B X Ex pins Dn (k d)) (inv_at I) ⟨G, δ, rp, ?_⟩) fun u s' ⟨v, H', I', r, d, G', x1, x2, x3⟩ => ⟨d, v, H', G', inv_unat cx.sg I', r, x1, x2, x3⟩
  cases q : f δ with
  | ok d => rw [q] at hp; exact fun v H' G' e1 d1 => ⟨d, G', rp.ext e1, d1, hp⟩
  | exc c => rw [q] at hp; exact fun H' G' e1 ea s' I' F => hp ea s' σ H' G' I' F (rp.ext e1)
  | stuck => rw [q] at hp; exact hp
theorem PXt.stm (cx : Cxo X) {f : Ev → R Bool} (h : PXt κ B X e f) (I : Inv (X.wish Ex) pins σ H s) (rp : Rep ⟨X.K, κ⟩ B X.H₀ G H σ δ) {k : Bool → SR} (hp : SPost κ B X Ex pins Dn (bS (f δ) δ k)) :
    wpAny (model X.prog X.w) X.A (isTrue e X.env (eval e X.env)) (fun u s' => ∃ H' G', Inv (X.wish Ex) pins σ H' s' ∧ Rep ⟨X.K, κ⟩ B X.H₀ G' H' σ δ ∧ SPost κ B X Ex pins Dn (k u)) Ex s := by
  refine thn (h pins σ Ex pins s σ H (fun v H' => ∃ G', Rep ⟨X.K, κ⟩ B X.H₀ G' H' σ δ ∧ SPost κ B X Ex pins Dn (k v)) (inv_at I) ⟨G, δ, rp, ?_⟩) fun u s' ⟨H', I', G', x1, x2⟩ => ⟨H', G', inv_unat cx.sg I', x1, x2⟩
  cases q : f δ with
  | ok d =>
    rw [q] at hp
    intro v H' G' e1 d1
    cases d1
    exact ⟨G', rp.ext e1, hp⟩
  | exc c => rw [q] at hp; exact fun H' G' e1 ea s' I' F => hp ea s' σ H' G' I' F (rp.ext e1)
  | stuck => rw [q] at hp; exact hp
/-! ### blocks -/
def zSeq (F1 F2 : Ev → SR) : Ev → SR := fun δ => match F1 δ with
  | .next δ' => F2 δ'
  | r => r
theorem pzs_nil : PZs κ B X [] SR.next := fun Ex pins s σ H G δ Dn hp I rp h => wpAny_execs_nil ⟨σ, H, I, h σ H G rp⟩
theorem pzs_cons {st : Stmt} {rest : List Stmt} {F1 F2 : Ev → SR} (h1 : PZ κ B X st F1) (h2 : PZs κ B X rest F2) : PZs κ B X (st :: rest) (zSeq F1 F2) := fun Ex pins s σ H G δ Dn hp I rp h => by
  refine wpAny_execs_cons (thn (h1 Ex pins s σ H G δ { Dn with nx := fun σ' H' => ∃ G' δ', Rep ⟨X.K, κ⟩ B X.H₀ G' H' σ' δ' ∧ SPost κ B X Ex pins Dn (F2 δ') } hp I rp ?_) fun f s1 q => ?_)
  · unfold zSeq at h
    cases q : F1 δ with
    | next δ' => rw [q] at h; exact fun σ' H' G' r => ⟨G', δ', r, h⟩
    | brk δ' => rw [q] at h; exact h
    | cont δ' => rw [q] at h; exact h
    | ret d => rw [q] at h; exact h
    | exc c δ' => rw [q] at h; exact h
    | stuck => rw [q] at h; exact h
  · cases f with
    | next =>
      obtain ⟨σ', H', I', G', δ', r, q⟩ := q
      exact h2 Ex pins s1 σ' H' G' δ' Dn hp I' r q
    | ret v => exact q
    | brk => exact q
    | cont => exact q
theorem pzs_one {st : Stmt} {F : Ev → SR} (h1 : PZ κ B X st F) : PZs κ B X [st] F := fun Ex pins s σ H G δ Dn hp I rp h => by
  refine wpAny_execs_cons (thn (h1 Ex pins s σ H G δ Dn hp I rp h) fun f s1 q => ?_)
  cases f with
  | next => exact wpAny_execs_nil q
  | ret v => exact q
  | brk => exact q
  | cont => exact q
/-- from here on the i-th list is shared -/
theorem pzs_frz (i : Nat) {sts : List Stmt} {F : Ev → SR} (h : PZs κ B X sts F) : PZs κ B X sts (fun δ => F (frzE i δ)) := fun Ex pins s σ H G δ Dn hp I rp q => by
  obtain ⟨G', r'⟩ := rp.freeze i
  exact h Ex pins s σ H G' _ Dn hp I r' q
/-! ### plain statements -/
theorem pz_pass : PZ κ B X (.Pass pos) SR.next := fun Ex pins s σ H G δ Dn hp I rp h => wpAny_Pass ⟨σ, H, I, h σ H G rp⟩
theorem pz_break : PZ κ B X (.Break pos) SR.brk := fun Ex pins s σ H G δ Dn hp I rp h => wpAny_Break ⟨σ, H, I, h σ H G rp⟩
theorem pz_continue : PZ κ B X (.Continue pos) SR.cont := fun Ex pins s σ H G δ Dn hp I rp h => wpAny_Continue ⟨σ, H, I, h σ H G rp⟩
def zRet (f : Ev → R D) : Ev → SR := fun δ => bS (f δ) δ .ret
theorem pz_ret (cx : Cxo X) (h : PX κ B X e f) : PZ κ B X (.Return (some e) pos) (zRet f) := fun Ex pins s σ H G δ Dn hp I rp q =>
  wpAny_Return_some (thn (h.stm cx I rp q) fun v s1 ⟨d, x, H', G', I', r, rp', dn, q⟩ => ⟨x, σ, H', I', r, q x H' G' rp'.toHold dn⟩)
theorem pz_retN : PZ κ B X (.Return none pos) (fun _ => .ret .non) := fun Ex pins s σ H G δ Dn hp I rp h => wpAny_Return_none ⟨.non, σ, H, I, rfl, h .non H G rp.toHold dNon⟩
def zDrop (f : Ev → R D) : Ev → SR := fun δ => bS (f δ) δ fun _ => .next δ
theorem pz_expr (cx : Cxo X) (h : PX κ B X e f) (hs : swapsWith e none pos.line X.env = pure false) : PZ κ B X (.Expr e pos) (zDrop f) := fun Ex pins s σ H G δ Dn hp I rp q =>
  wpAny_Expr_any (thn (h.stm cx I rp q) fun v s1 ⟨d, x, H', G', I', r, rp', dn, q⟩ => ⟨σ, H', I', q σ H' G' rp'⟩) I.quiet hs
def zSet (i : Nat) (f : Ev → R D) : Ev → SR := fun δ => bS (f δ) δ fun d => .next (δ.set i (some (.sh d)))
theorem pz_set (cx : Cxo X) {i : Nat} {x : Str} (hN : X.N.Nodup) (hi : X.N[i]? = some x) (hx : Loc X.env.scope x) (hf : X.fn x = true ∨ X.env.scope.names.lookup x = some .local) (h : PX κ B X e f) (hs : swapsWith e (some (.Name x pos')) pos.line X.env = pure false) :
    PZ κ B X (.Assign [.Name x pos'] e pos) (zSet i f) := fun Ex pins s σ H G δ Dn hp I rp q => by
  refine wpAny_Assign_Name (thn (h.stm cx I rp q) fun v s1 ⟨d, y, H', G', I', r, rp', dn, q⟩ => ?_) hs
  exact store_ok (X := X.wish Ex) I' hN hi hx r (fun s2 I2 => ⟨_, H', I2, q _ H' G' (rp'.setSh dn)⟩) hf (fun p σ v _ => cx.sg p _)
def zIf (t : Ev → R Bool) (F1 F2 : Ev → SR) : Ev → SR := fun δ => bS (t δ) δ fun k => if k then F1 δ else F2 δ
theorem pz_if (cx : Cxo X) {t : Ev → R Bool} {s1 s2 : List Stmt} {F1 F2 : Ev → SR} (hc : PXt κ B X c t) (h1 : PZs κ B X s1 F1) (h2 : PZs κ B X s2 F2) : PZ κ B X (.If c s1 s2 pos) (zIf t F1 F2) := fun Ex pins s σ H G δ Dn hp I rp q => by
  refine wpAny_If (thn (hc.stm cx I rp q) fun d s1 ⟨H', G', I', rp', q⟩ => ?_)
  cases d with
  | true => exact h1 Ex pins s1 σ H' G' δ Dn hp I' rp' q
  | false => exact h2 Ex pins s1 σ H' G' δ Dn hp I' rp' q
/-- x op= e of ints -/
def zAug (i : Nat) (g : Int → Int → Int) (f : Ev → R D) : Ev → SR := fun δ => match δ[i]? with
  | some (some (.sh (.int x))) => bS (f δ) δ fun d => match d with
    | .int y => .next (δ.set i (some (.sh (.int (g x y)))))
    | _ => .stuck
  | _ => .stuck
theorem pz_aug (cx : Cxo X) {i : Nat} {x : Str} {op : Operator} {g : Int → Int → Int} (ho : ∀ Y : Cx, PIp Y op (ipI g)) (hN : X.N.Nodup) (hi : X.N[i]? = some x) (hx : Loc X.env.scope x) (hf : X.fn x = true ∨ X.env.scope.names.lookup x = some .local) (h : PX κ B X e f) :
    PZ κ B X (.AugAssign (.Name x pos') op e pos) (zAug i g f) := fun Ex pins s σ H G δ Dn hp I rp q => by
  unfold zAug at q
  split at q
  · rename_i z ez
    obtain ⟨v, e1, e2⟩ := rp.sh i _ ez
    have e2' : v = .int z := by simpa [Den] using e2
    subst e2'
    obtain ⟨m, hn, hl⟩ := I.loc
    have vis : Vis X.env.scope x := by rcases hx with k | k; exact .inl k; exact .inr (.inl k)
    obtain ⟨u, r, l⟩ := hl i x _ hi e1 vis
    refine wpAny_AugAssign_Name ?_
    have go : wpAny (model X.prog X.w) X.A (eval e X.env) (fun w s₂ => wpAny (model X.prog X.w) X.A (inplaceOp op u w) (fun r s₃ => wpAny (model X.prog X.w) X.A (storeName X.env x r) (fun _ => SP (X.wish Ex) pins Dn .next) Ex s₃) Ex s₂) Ex s := by
      refine thn (h.stm cx I rp q) fun w s1 ⟨d, y, H1, G1, I1, r1, rp1, dn, q1⟩ => ?_
      cases d with
      | int j =>
        have dn' : y = .int j := by simpa [Den] using dn
        subst dn'
        refine thn (ho (X.wish Ex) pins s1 σ H1 (.int z) (.int j) u w (fun v H' => H' = H1 ∧ v = .int (g z j)) I1 r r1 ⟨z, j, rfl, rfl, rfl, rfl⟩) fun w2 s2 ⟨zv, H2, I2, r2, e3, e4⟩ => ?_
        subst e3
        subst e4
        exact store_ok (X := X.wish Ex) I2 hN hi hx r2 (fun s3 I3 => ⟨_, _, I3, q1 _ _ G1 (rp1.setSh dInt)⟩) hf (fun p σ v _ => cx.sg p _)
      | _ => exact False.elim q1
    rcases l with ⟨hk, hm⟩ | ⟨hk, c, hc, hcell⟩
    · exact wpAny_loadName_local I.ok.kind hk hn hm go
    · rcases hk with hk | hk
      · exact wpAny_loadName_cell I.ok.kind hk hc hcell go
      · rcases hx with k | k
        · have : X.env.scope.names.lookup x = some .free := hk
          rw [k] at this; cases this
        · have : X.env.scope.names.lookup x = some .free := hk
          rw [k] at this; cases this
  · exact False.elim q
/-! ### targets -/
def gZ (κ : Nat → Addr) (B : Gd) (X : Cx) (bnd : D → Ev → Option Ev) : TG := fun v σ H Q => ∃ G δ d δ', Rep ⟨X.K, κ⟩ B X.H₀ G H σ δ ∧ Den ⟨X.K, κ⟩ G v d ∧ bnd d δ = some δ' ∧ ∀ σ', Rep ⟨X.K, κ⟩ B X.H₀ G H σ' δ' → Q σ' H
def PGz (κ : Nat → Addr) (B : Gd) (X : Cx) (tg : Expr) (bnd : D → Ev → Option Ev) : Prop := ∀ Ex, PG (X.wish Ex) tg (gZ κ B X bnd)
def gsZ (κ : Nat → Addr) (B : Gd) (X : Cx) (bnd : List D → Ev → Option Ev) : TGs := fun vs σ H Q => ∃ G δ ds δ', Rep ⟨X.K, κ⟩ B X.H₀ G H σ δ ∧ Dens ⟨X.K, κ⟩ G vs ds ∧ bnd ds δ = some δ' ∧ ∀ σ', Rep ⟨X.K, κ⟩ B X.H₀ G H σ' δ' → Q σ' H
def PGzs (κ : Nat → Addr) (B : Gd) (X : Cx) (tg : List Expr) (bnd : List D → Ev → Option Ev) : Prop := ∀ Ex, PGs (X.wish Ex) tg (gsZ κ B X bnd)
theorem pg_imp {Y : Cx} {t : Expr} {g g' : TG} (h : PG Y t g) (k : ∀ v σ H Q, g' v σ H Q → g v σ H Q) : PG Y t g' := fun pins s σ H v u Q I r q => h pins s σ H v u Q I r (k v σ H Q q)
theorem pgs_imp {Y : Cx} {t : List Expr} {g g' : TGs} (h : PGs Y t g) (k : ∀ v σ H Q, g' v σ H Q → g v σ H Q) : PGs Y t g' := fun pins s σ H v u Q I r q => h pins s σ H v u Q I r (k v σ H Q q)
def bN (i : Nat) : D → Ev → Option Ev := fun d δ => some (δ.set i (some (.sh d)))
theorem pgz_name (cx : Cxo X) {i : Nat} {x : Str} (hN : X.N.Nodup) (hi : X.N[i]? = some x) (hx : Loc X.env.scope x) (hf : X.fn x = true ∨ X.env.scope.names.lookup x = some .local) : PGz κ B X (.Name x pos) (bN i) := fun Ex =>
  pg_imp (pg_name (X := X.wish Ex) hN hi hx hf (fun p σ v _ => cx.sg p _)) fun v σ H Q ⟨G, δ, d, δ', rp, dn, e, k⟩ => by
    cases e
    exact k _ (rp.setSh dn)
def bsNil : List D → Ev → Option Ev := fun ds δ => match ds with | [] => some δ | _ => none
def bsCons (b : D → Ev → Option Ev) (bs : List D → Ev → Option Ev) : List D → Ev → Option Ev := fun ds δ => match ds with | d :: r => (b d δ).bind (bs r) | _ => none
theorem pgzs_nil : PGzs κ B X [] bsNil := fun Ex => pgs_imp pgs_nil fun vs σ H Q ⟨G, δ, ds, δ', rp, dn, e, k⟩ => by
  cases ds with
  | nil =>
    cases vs with
    | nil => cases e; exact ⟨rfl, k σ rp⟩
    | cons _ _ => unfold Dens at dn; exact dn.elim
  | cons _ _ => cases e
theorem pgzs_cons {tg : Expr} {tgs : List Expr} {bd : D → Ev → Option Ev} {bs : List D → Ev → Option Ev} (h1 : PGz κ B X tg bd) (h2 : PGzs κ B X tgs bs)
    (hs : (assignEach (tg :: tgs) X.env).map (·.2) = assign tg X.env :: (assignEach tgs X.env).map (·.2)) : PGzs κ B X (tg :: tgs) (bsCons bd bs) := fun Ex =>
  pgs_imp (pgs_cons (X := X.wish Ex) (h1 Ex) (h2 Ex) hs) fun vs σ H Q ⟨G, δ, ds, δ', rp, dn, e, k⟩ => by
    cases ds with
    | nil => cases e
    | cons d r =>
      cases vs with
      | nil => unfold Dens at dn; exact dn.elim
      | cons v vr =>
        unfold Dens at dn
        simp only [bsCons] at e
        cases q : bd d δ with
        | none => rw [q] at e; cases e
        | some δ1 =>
          rw [q] at e
          exact ⟨v, vr, rfl, G, δ, d, δ1, rp, dn.1, q, fun σ' r' => ⟨G, δ1, r, δ', r', dn.2, e, k⟩⟩
theorem draw_lst {P : Program} {w : World} {A : Around} {E : Value → Shared → Prop} {it l : Addr} {its : Array Value} (hne : l ≠ it) : ∀ (n i : Nat) (s : Shared) (Q : List Value → Shared → Prop), s.heap.IsListIter it l i → s.heap.IsList l its → i + n ≤ its.size →
    (∀ h', h'.IsListIter it l (i + n) → Heap.SameBut it s.heap h' → Q ((its.toList.drop i).take n) { s with heap := h' }) → wpAny (model P w) A (draw (.ref it) n) Q E s
  | 0, i, s, Q, hi, _, _, q => by
    have z := q s.heap hi (Heap.SameBut.refl ..)
    rw [List.take_zero] at z
    exact wpAny_pure z
  | n + 1, i, s, Q, hi, hl, hle, q => by
    have lt : i < its.size := by omega
    show wpAny _ _ (pyNext (.ref it) >>= _) Q E s
    refine wpAny_bind (wpAny_pyNext_list_item hi hl (x := its[i]) (by simp [lt]) fun g hg sg => wpAny_bind (wpAny_holding (draw_lst hne n (i + 1) _ _ hg (hl.extBut sg.extBut hne) (by omega) fun g2 hg2 sg2 => wpAny_pure ?_)))
    have z := q g2 (by rw [show i + (n + 1) = i + 1 + n by omega]; exact hg2) (sg.trans sg2)
    rw [show its.toList.drop i = its[i] :: its.toList.drop (i + 1) by simp [List.drop_eq_getElem_cons, lt], List.take_succ_cons] at z
    exact z
theorem unpack_lst {P : Program} {w : World} {A : Around} {E : Value → Shared → Prop} {s : Shared} {l : Addr} {its : Array Value} {tgs : List (Bool × (Value → Sem Unit))} {Q : Unit → Shared → Prop} (hh : A.handled = none) (hl : s.heap.IsList l its)
    (hn : tgs.length = its.size) (hs : tgs.findIdx? (·.1) = none) (h : ∀ h', Heap.ExtBut s.heap.objs.size s.heap h' → wpAny (model P w) A (assignInOrder (tgs.map (·.2)) its.toList) Q E { s with heap := h' }) : wpAny (model P w) A (unpack (.ref l) tgs) Q E s := by
  have ne : l ≠ s.heap.objs.size := by
    obtain ⟨o, ho, _⟩ := hl
    exact Nat.ne_of_lt (Heap.lt_size ho)
  unfold unpack
  rw [hn, hs]
  refine wpAny_bind (wpAny_holding ?_)
  unfold unpackItems
  refine wpAny_bind ?_
  unfold notIterableAtAll
  refine wpAny_bind (wpAny_specialOf hl.typeIs slot_list_iter.lookup (wpAny_pure ?_))
  simp only [Bool.false_eq_true, if_false]
  refine wpAny_bind (wpAny_holding (wpAny_pyIter_list hl (wpAny_bind (wpAny_holding (draw_lst ne its.size 0 _ _ ⟨_, Heap.get?_push_size _ rfl, rfl, rfl⟩ (hl.push _) (by omega) fun g hg sg => ?_)))))
  rw [List.drop_zero, List.take_of_length_le (by simp), if_neg (by simp)]
  refine wpAny_bind (wpAny_holding (wpAny_pyNext_list_end hh hg ((hl.push _).extBut sg.extBut ne) (by simp) fun g2 e2 => ?_))
  simp only [Option.isSome_none, Bool.false_eq_true, if_false]
  exact wpAny_pure (h g2 fun b o hb e => e2 b o hb (sg.extBut b o hb (Heap.get?_push_of_some _ e)))
/-- a list is taken apart -/
def gLst (K : PySem.W.Frag) (n : Nat) (t : TGs) : TG := fun v σ H Q => ∃ a xs, v = .ref a ∧ SqL K H a xs ∧ xs.length = n ∧ t xs σ H Q
theorem pg_lst {X : Cx} {pos : Pos} {es : List Expr} {k : Nat} {t : TGs} {n : Nat} (hc : X.calm = true) (h : PGs X es t) (hn : (assignEach es X.env).length = n) (hst : (assignEach es X.env).findIdx? (·.1) = none) : PG X (.Tuple es k pos) (gLst X.K n t) := by
  intro pins s σ H v u Q I r ⟨a, xs, e1, hq, hl, hw⟩
  subst e1
  cases r
  obtain ⟨its, rv, ht, hz⟩ := I.list hq
  rw [assign_Tuple]
  refine wpAny_bind (wpAny_standAt (unpack_lst (I.ok.hd hc) ht.isList (by simp [hn, ← hl, rv.length]) hst fun h' hx => ?_))
  exact h pins _ σ H xs _ Q (I.kept (t' := s.toks) fun b o e => hx b o (Nat.ne_of_lt (Heap.lt_size e)) e) (by simpa using rv) hw
def bTup (n : Nat) (bs : List D → Ev → Option Ev) : D → Ev → Option Ev := fun d δ => match d with | .tup ds => (if ds.length = n then bs ds δ else none) | .lst ds => (if ds.length = n then bs ds δ else none) | _ => none
theorem pg_either {X : Cx} {e : Expr} {t t' : TG} (h : PG X e t) (h' : PG X e t') : PG X e (fun v σ H Q => t v σ H Q ∨ t' v σ H Q) := fun pins s σ H v u Q I r q => q.elim (h pins s σ H v u Q I r) (h' pins s σ H v u Q I r)
theorem pgz_tup {tgs : List Expr} {k n : Nat} {bs : List D → Ev → Option Ev} (hc : X.calm = true) (h : PGzs κ B X tgs bs) (hn : (assignEach tgs X.env).length = n) (hst : (assignEach tgs X.env).findIdx? (·.1) = none) : PGz κ B X (.Tuple tgs k pos) (bTup n bs) := fun Ex =>
  pg_imp (pg_either (pg_tup (X := X.wish Ex) hc (h Ex) hn hst) (pg_lst (X := X.wish Ex) hc (h Ex) hn hst)) fun v σ H Q ⟨G, δ, d, δ', rp, dn, e, kk⟩ => by
    unfold bTup at e
    split at e
    · rename_i ds
      split at e
      · rename_i hl
        unfold Den at dn
        obtain ⟨l, vs, rfl, h1, h2⟩ := dn
        exact .inl ⟨l, vs, rfl, same_seqT rp.GH h1, by rw [h2.length]; exact hl, G, δ, ds, δ', rp, h2, e, kk⟩
      · cases e
    · rename_i ds
      split at e
      · rename_i hl
        unfold Den at dn
        obtain ⟨l, vs, rfl, h1, h2⟩ := dn
        exact .inr ⟨l, vs, rfl, rp.GH.seq h1, by rw [h2.length]; exact hl, G, δ, ds, δ', rp, h2, e, kk⟩
      · cases e
    · cases e
def zAsg (bd : D → Ev → Option Ev) (f : Ev → R D) : Ev → SR := fun δ => bS (f δ) δ fun d => match bd d δ with | some δ' => .next δ' | none => .stuck
theorem pz_asg (cx : Cxo X) {tg : Expr} {bd : D → Ev → Option Ev} (h : PX κ B X e f) (hg : PGz κ B X tg bd) (hs : swapsWithSole [tg] e pos.line X.env = pure false) (hw : swappedStores [tg] e X.env = pure none)
    (h1 : (assignEach [tg] X.env).map (·.2) = [assign tg X.env]) : PZ κ B X (.Assign [tg] e pos) (zAsg bd f) := fun Ex pins s σ H G δ Dn hp I rp q => by
  refine wpAny_Assign_stores (thn (h.stm cx I rp q) fun v s1 ⟨d, y, H', G', I', r, rp', dn, q⟩ => ?_) hs hw
  rw [h1]
  cases e2 : bd d δ with
  | none => rw [e2] at q; exact False.elim q
  | some δ' =>
    rw [e2] at q
    exact thn (hg Ex pins s1 σ H' y v (fun σ' H'' => Dn.nx σ' H'') I' r ⟨G', δ, d, δ', rp', dn, e2, fun σ' r' => q σ' H' G' r'⟩) fun _ s2 q => q
end
end L3

-- part L3d.lean
set_option Elab.async false
set_option linter.all false
set_option maxRecDepth 100000
namespace L3
open PySem PySem.Spec PyProof.Rows L2

/-! ## loops -/
def loopZ (bd : D → Ev → Option Ev) (F : Ev → SR) : List D → Ev → SR
  | [], δ => .next δ
  | d :: ds, δ => match bd d δ with
    | none => .stuck
    | some δ1 => match F δ1 with
      | .next δ2 => loopZ bd F ds δ2
      | .cont δ2 => loopZ bd F ds δ2
      | .brk δ2 => .next δ2
      | r => r
/-- an iterator that gives ds -/
def IsIt (X : Cx) (κ : Nat → Addr) (J : It) (G : Hp) (ds : List D) : Prop := ∃ vs, Dens ⟨X.K, κ⟩ G vs ds ∧ ∀ H', Same G H' → ∀ i, (i < vs.length → J.go i H' ∧ ∀ x H'', J.yld i H' x H'' → H'' = H' ∧ vs[i]? = some x) ∧ (vs.length ≤ i → J.stop i H')
def PIz (κ : Nat → Addr) (B : Gd) (X : Cx) (tg e : Expr) (f : Ev → R (List D)) : Prop := ∀ pins σ Ex, PI (At X pins σ Ex) tg e (tO (fun G _ J ds => IsIt X κ J G ds) X κ B (EX X pins σ Ex) f)
theorem pi_imp {Y : Cx} {tg e : Expr} {w w' : TI} (h : PI Y tg e w) (k : ∀ σ H R, w' σ H R → w σ H R) : PI Y tg e w' := fun pins s σ H R I q => h pins s σ H R I (k σ H R q)
theorem pi_or {Y : Cx} {tg e : Expr} {w w' : TI} (h : PI Y tg e w) (h' : PI Y tg e w') : PI Y tg e (fun σ H R => w σ H R ∨ w' σ H R) := fun pins s σ H R I q => q.elim (h pins s σ H R I) (h' pins s σ H R I)
section
variable {κ : Nat → Addr} {B : Gd} {X : Cx} {e tg : Expr} {f : Ev → R D} {pos : Pos}
theorem isIt_list {G H : Hp} {a : Addr} {vs : List V} {ds : List D} (h : SqL X.K G a vs) (d : Dens ⟨X.K, κ⟩ G vs ds) : IsIt X κ (Itl X.K a) G ds :=
  ⟨vs, d, fun H' s i => ⟨fun hi => ⟨⟨vs, vs[i], s.seq h, by simp [hi]⟩, fun x H'' y => ⟨y.1, y.2 vs (s.seq h)⟩⟩, fun hi => ⟨vs, s.seq h, hi⟩⟩⟩
theorem isIt_tup {G H : Hp} {a : Addr} {vs : List V} {ds : List D} (h : SqT X.K G a vs) (d : Dens ⟨X.K, κ⟩ G vs ds) : IsIt X κ (Itt X.K a) G ds :=
  ⟨vs, d, fun H' s i => ⟨fun hi => ⟨⟨vs, vs[i], same_seqT s h, by simp [hi]⟩, fun x H'' y => ⟨y.1, y.2 vs (same_seqT s h)⟩⟩, fun hi => ⟨vs, same_seqT s h, hi⟩⟩⟩
def itemsD : D → R (List D)
  | .lst ds => .ok ds
  | .tup ds => .ok ds
  | _ => .stuck
/-- for x in a list or a tuple -/
theorem piz_seq (h : PX κ B X e f) : PIz κ B X tg e (fun δ => (f δ).bind itemsD) := fun pins σ Ex =>
  pi_imp (pi_or (pi_list (X := At X pins σ Ex) (h pins σ Ex)) (pi_tup (X := At X pins σ Ex) (h pins σ Ex))) fun τ H R ⟨G, δ, rp, q⟩ => by
    dsimp only at q
    cases e : f δ with
    | ok d =>
      rw [e] at q
      cases d with
      | lst ds =>
        refine .inl ⟨G, δ, rp, ?_⟩
        rw [e]
        intro v H' G' e1 d1
        unfold Den at d1
        obtain ⟨a, vs, rfl, h1, h2⟩ := d1
        exact ⟨a, rfl, ⟨vs, e1.GH.seq h1⟩, q _ H' G' e1 (isIt_list (H := H') h1 h2)⟩
      | tup ds =>
        refine .inr ⟨G, δ, rp, ?_⟩
        rw [e]
        intro v H' G' e1 d1
        unfold Den at d1
        obtain ⟨a, vs, rfl, h1, h2⟩ := d1
        exact ⟨a, rfl, ⟨vs, same_seqT e1.GH h1⟩, q _ H' G' e1 (isIt_tup (H := H') h1 h2)⟩
      | _ => exact False.elim q
    | exc c =>
      rw [e] at q
      refine .inl ⟨G, δ, rp, ?_⟩
      rw [e]
      exact q
    | stuck => rw [e] at q; exact False.elim q
theorem isIt_rng {G : Hp} {lo : Int} {n : Nat} : IsIt X κ (Itr lo n) G ((List.range n).map fun i => D.int (lo + (i : Nat))) := by
  refine ⟨(List.range n).map fun i => V.int (lo + (i : Nat)), ?_, fun H' s i => ⟨fun hi => ⟨?_, fun x H'' y => ?_⟩, fun hi => ?_⟩⟩
  · generalize List.range n = l
    induction l with
    | nil => exact dens_nil
    | cons a l ih => exact dens_cons dInt ih
  · simpa [Itr] using hi
  · obtain ⟨y1, y2⟩ := y
    refine ⟨y1, ?_⟩
    rw [y2]
    have : i < n := by simpa using hi
    simp [this]
  · simpa [Itr] using hi
def rngD (lo hi : Int) : List D := (List.range (hi - lo).toNat).map fun i => D.int (lo + (i : Nat))
def iR1 : List D → R (List D)
  | [.int j] => if -(2 ^ 62) ≤ j ∧ j < 2 ^ 62 then .ok (rngD 0 j) else .stuck
  | _ => .stuck
def iR2 : List D → R (List D)
  | [.int i, .int j] => if (-(2 ^ 62) ≤ i ∧ i < 2 ^ 62) ∧ (-(2 ^ 62) ≤ j ∧ j < 2 ^ 62) then .ok (rngD i j) else .stuck
  | _ => .stuck
theorem dens_int1 {Z : Zx} {G : Hp} {vs : List V} {i : Int} (h : Dens Z G vs [.int i]) : vs = [.int i] := by
  match vs, h with
  | [v], h => unfold Dens at h; have := h.1; unfold Den at this; rw [this]
  | [], h => unfold Dens at h; exact h.elim
  | _ :: _ :: _, h => unfold Dens at h; have := h.2; unfold Dens at this; exact this.elim
theorem dens_int2 {Z : Zx} {G : Hp} {vs : List V} {i j : Int} (h : Dens Z G vs [.int i, .int j]) : vs = [.int i, .int j] := by
  match vs, h with
  | [], h => unfold Dens at h; exact h.elim
  | v :: vr, h => unfold Dens at h; have h1 := h.1; unfold Den at h1; rw [h1, dens_int1 h.2]
theorem piz_range1 {a : Expr} {fs : Ev → R (List D)} {p pos : Pos} (hg : Gl X "range") (hm : X.mg "range" = none) (ha : PXs κ B X [a] fs) (hs : starEach [a] X.env = [(false, eval a X.env)]) : PIz κ B X tg (.Call (.Name "range" p) [a] [] pos) (fun δ => (fs δ).bind iR1) := fun pins σ Ex =>
  pi_imp (pi_range1 (X := At X pins σ Ex) hg hm (ha pins σ Ex) hs) fun τ H R ⟨G, δ, rp, q⟩ => ⟨G, δ, rp, q.seq fun x v H1 G1 e1 d1 q1 => by
    unfold iR1 at q1
    split at q1
    · rename_i j
      split at q1
      · rename_i hj
        refine ⟨j, dens_int1 d1, hj.1, hj.2, ?_⟩
        have := q1 _ H1 G1 (Ext.refl e1.GH) (isIt_rng (lo := 0) (n := (j - 0).toNat))
        simpa using this
      · exact False.elim q1
    · exact False.elim q1⟩
theorem piz_range2 {a b : Expr} {fs : Ev → R (List D)} {p pos : Pos} (hg : Gl X "range") (hm : X.mg "range" = none) (ha : PXs κ B X [a, b] fs) (hs : starEach [a, b] X.env = [(false, eval a X.env), (false, eval b X.env)]) (hs2 : starEach [b] X.env = [(false, eval b X.env)]) : PIz κ B X tg (.Call (.Name "range" p) [a, b] [] pos) (fun δ => (fs δ).bind iR2) := fun pins σ Ex =>
  pi_imp (pi_range2 (X := At X pins σ Ex) hg hm (ha pins σ Ex) hs hs2) fun τ H R ⟨G, δ, rp, q⟩ => ⟨G, δ, rp, q.seq fun x v H1 G1 e1 d1 q1 => by
    unfold iR2 at q1
    split at q1
    · rename_i i j
      split at q1
      · rename_i hj
        exact ⟨i, j, dens_int2 d1, ⟨hj.1.1, hj.1.2, hj.2.1, hj.2.2⟩, q1 _ H1 G1 (Ext.refl e1.GH) (isIt_rng (lo := i) (n := (j - i).toNat))⟩
      · exact False.elim q1
    · exact False.elim q1⟩

/-- the ground raised to where a loop begins, and back -/
theorem Rep.raise {Z : Zx} {H₀ G H : Hp} {σ : St} {δ : Ev} (r : Rep Z B H₀ G H σ δ) : Rep Z ⟨G, B.m⟩ H₀ G H σ δ := ⟨⟨Same.refl _, r.GH, r.old, r.there, fun _ _ n => n⟩, r.len, r.sh, r.ow, r.sep, r.oo, r.oo1⟩
theorem Hold.lower {H₀ G G' H' : Hp} (g : Same B.g G) (l : ∀ b, H₀ b ≠ none → B.g b = none → G b = none) (r : Hold ⟨G, B.m⟩ H₀ G' H') : Hold B H₀ G' H' := ⟨g.trans r.gG, r.GH, r.old, r.there, fun b z n => r.lent b z (l b z n)⟩
theorem Rep.lower {Z : Zx} {H₀ G G' H' : Hp} {σ : St} {δ : Ev} (g : Same B.g G) (l : ∀ b, H₀ b ≠ none → B.g b = none → G b = none) (r : Rep Z ⟨G, B.m⟩ H₀ G' H' σ δ) : Rep Z B H₀ G' H' σ δ := ⟨r.toHold.lower g l, r.len, r.sh, r.ow, r.sep, r.oo, r.oo1⟩
theorem flies_pins {pins pl : List (Addr × Obj)} {H : Hp} {s : Shared} {ea : Addr} {C : Value} (F : Flies X (pins ++ pl) H s ea C) : Flies X pins H s ea C := by
  have c : ∀ {b}, FreshX X (pins ++ pl) H b → FreshX X pins H b := fun f => ⟨f.nl, f.nc, fun p hp => f.np p ((List.mem_append.mp hp).elim (fun z => List.mem_append_left _ z) fun z => List.mem_append_right _ (List.mem_append_left _ z)), f.n0, f.nh⟩
  obtain ⟨⟨oe, vs, a0, t1, t2, t3, t4, t5⟩, fr⟩ := F
  refine ⟨⟨oe, vs, a0, t1, t2, t3, t4, t5.imp id ?_⟩, c fr⟩
  rintro ⟨T, oT, ts, x1, x2, x3, x4, x5, x6⟩
  exact ⟨T, oT, ts, x1, x2, x3, x4, x5, c x6⟩
def zFor (fit : Ev → R (List D)) (bd : D → Ev → Option Ev) (F : Ev → SR) : Ev → SR := fun δ => bS (fit δ) δ fun ds => loopZ bd F ds δ
theorem pz_for (cx : Cxo X) (hc : X.calm = true) {iter : Expr} {body : List Stmt} {fit : Ev → R (List D)} {bd : D → Ev → Option Ev} {F : Ev → SR} (hi : PIz κ B X tg iter fit) (hg : ∀ B, PGz κ B X tg bd) (hb : ∀ B, PZs κ B X body F)
    (hs : ∀ x, foldedSetIterable iter X.env x = pure x) : PZ κ B X (.For tg iter body [] pos) (zFor fit bd F) := fun Ex pins s σ H G δ Dn hp I rp h => by
  have hsgA : ∀ p τ, (X.wish Ex).sg p τ := cx.sg
  refine wpAny_For (thn (hi pins σ Ex pins s σ H (fun J H' => ∃ G' ds, Rep ⟨X.K, κ⟩ B X.H₀ G' H' σ δ ∧ IsIt X κ J G' ds ∧ SPost κ B X Ex pins Dn (loopZ bd F ds δ)) (inv_at I) ⟨G, δ, rp, ?_⟩) fun v s1 h1 => thn h1 fun itv s2 h2 => ?_) hs
  · unfold zFor at h
    cases q : fit δ with
    | ok ds => rw [q] at h; exact fun J H' G' e1 d1 => ⟨G', ds, rp.ext e1, d1, h⟩
    | exc c => rw [q] at h; exact fun H' G' e1 ea s' I' F' => h ea s' σ H' G' I' F' (rp.ext e1)
    | stuck => rw [q] at h; exact h
  obtain ⟨it, fp, tn, J, H2, e, I2, T, st2, f2, G2, ds, rp2, hJ, q2⟩ := h2
  subst e
  have I2' := inv_unat cx.sg I2
  obtain ⟨vs, dvs, hJ⟩ := hJ
  have hlen := dvs.length
  have stat : ∀ {H' : Hp}, (∀ b ∈ fp, H' b = none) → ∀ b ∈ fp, FpOk (X.wish Ex) pins H' b := fun hn b hb => ⟨hn b hb, (f2 b hb).2⟩
  refine codeAny_forLoop_any (fun n s' => ∃ i σ' H' G' δ', Inv (X.wish Ex) pins σ' H' s' ∧ tn i s'.heap ∧ (∀ b ∈ fp, H' b = none) ∧ n = ds.length - i ∧ i ≤ ds.length ∧ Rep ⟨X.K, κ⟩ ⟨G2, B.m⟩ X.H₀ G' H' σ' δ' ∧ SPost κ B X Ex pins Dn (loopZ bd F (ds.drop i) δ')) ?_ ds.length
    ⟨0, σ, H2, G2, δ, I2', st2, fun b hb => (f2 b hb).1, rfl, Nat.zero_le _, rp2.raise, q2⟩
  rintro n s3 ⟨i, σ3, H3, G3, δ3, I3, st3, fr3, rfl, hi3, rp3, q3⟩
  have low : ∀ {G' H' : Hp} {σ' : St} {δ' : Ev}, Rep ⟨X.K, κ⟩ ⟨G2, B.m⟩ X.H₀ G' H' σ' δ' → Rep ⟨X.K, κ⟩ B X.H₀ G' H' σ' δ' := fun r => r.lower rp2.gG rp2.lent
  have same3 : Same G2 H3 := rp3.gG.trans rp3.GH
  by_cases hlt : i < ds.length
  · obtain ⟨go, yl⟩ := (hJ H3 same3 i).1 (by omega)
    refine wpAny_passesOwn hp (thn (T.item (X.wish Ex) rfl rfl rfl hc i pins s3 σ3 H3 Ex I3 (stat fr3) st3 go) fun r s4 ⟨u, hr, h4⟩ => ?_)
    subst hr
    refine wpAny_passesOwn hp (thn h4 fun _ s5 ⟨x, H5, I5, r5, y5, st5, fr5⟩ => ?_)
    obtain ⟨e5, vx⟩ := yl x H5 y5
    subst e5
    have I5' := Inv.pinned hsgA I5 (stat fr5) (T.obj _ _ st5)
    obtain ⟨dx, hdx⟩ : ∃ d, ds[i]? = some d := ⟨ds[i], by simp [hlt]⟩
    have dd : Den ⟨X.K, κ⟩ G3 x dx := by
      obtain ⟨v', e1, e2⟩ := dvs.get hdx
      rw [vx] at e1; cases e1
      exact e2.mono rp3.gG
    have hdrop : ds.drop i = dx :: ds.drop (i + 1) := by
      rw [List.drop_eq_getElem_cons hlt]
      simp [hlt] at hdx
      rw [hdx]
    rw [hdrop] at q3
    unfold loopZ at q3
    cases eb : bd dx δ3 with
    | none => rw [eb] at q3; exact False.elim q3
    | some δ4 =>
      rw [eb] at q3
      refine wpAny_passesOwn hp (thn (hg ⟨G2, B.m⟩ Ex _ s5 σ3 _ x u (fun σ' H' => H' = H5 ∧ Rep ⟨X.K, κ⟩ ⟨G2, B.m⟩ X.H₀ G3 H5 σ' δ4) I5' r5 ⟨G3, δ3, dx, δ4, rp3, dd, eb, fun σ' r' => ⟨rfl, r'⟩⟩) fun _ s6 ⟨σ6, H6, I6, e6, rp6⟩ => ?_)
      subst e6
      refine wpAny_passesOwn hp (thn (hb ⟨G2, B.m⟩ Ex _ s6 σ6 _ G3 δ4 { Dn with nx := fun σ' H' => ∃ G' δ', Rep ⟨X.K, κ⟩ ⟨G2, B.m⟩ X.H₀ G' H' σ' δ' ∧ SPost κ B X Ex pins Dn (loopZ bd F (ds.drop (i + 1)) δ'), ct := fun σ' H' => ∃ G' δ', Rep ⟨X.K, κ⟩ ⟨G2, B.m⟩ X.H₀ G' H' σ' δ' ∧ SPost κ B X Ex pins Dn (loopZ bd F (ds.drop (i + 1)) δ'), bk := Dn.nx } hp I6 rp6 ?_) fun fl s7 q7 => ?_)
      · cases ef : F δ4 with
        | next δ5 => simp only [ef] at q3; exact fun σ' H' G' r => ⟨G', δ5, r, q3⟩
        | cont δ5 => simp only [ef] at q3; exact fun σ' H' G' r => ⟨G', δ5, r, q3⟩
        | brk δ5 => simp only [ef] at q3; exact fun σ' H' G' r => q3 σ' H' G' (low r)
        | ret d => simp only [ef] at q3; exact fun v H' G' r => q3 v H' G' (r.lower rp2.gG rp2.lent)
        | exc c δ5 => simp only [ef] at q3; exact fun ea s' σ' H' G' I' F' r => q3 ea s' σ' H' G' (Inv.unpinned hsgA I') (flies_pins F') (low r)
        | stuck => simp only [ef] at q3; exact q3
      · have again : ∀ {σ7 : St} {H7 : Hp}, Inv (X.wish Ex) (pins ++ pinsAt fp s5.heap) σ7 H7 s7 → (∃ G' δ', Rep ⟨X.K, κ⟩ ⟨G2, B.m⟩ X.H₀ G' H7 σ7 δ' ∧ SPost κ B X Ex pins Dn (loopZ bd F (ds.drop (i + 1)) δ')) →
            ∃ m, m < ds.length - i ∧ ∃ i σ' H' G' δ', Inv (X.wish Ex) pins σ' H' s7 ∧ tn i s7.heap ∧ (∀ b ∈ fp, H' b = none) ∧ m = ds.length - i ∧ i ≤ ds.length ∧ Rep ⟨X.K, κ⟩ ⟨G2, B.m⟩ X.H₀ G' H' σ' δ' ∧ SPost κ B X Ex pins Dn (loopZ bd F (ds.drop i) δ') := fun {σ7 H7} I7 ⟨G7, δ7, r7, n7⟩ => by
          refine ⟨ds.length - (i + 1), by omega, i + 1, σ7, H7, G7, δ7, Inv.unpinned hsgA I7, T.keep _ _ _ st5 fun b hb o e => (I7.pin (b, o) (List.mem_append_right _ (List.mem_append_right _ (mem_pinsAt hb e)))).1, fun b hb => ?_, rfl, hlt, r7, n7⟩
          obtain ⟨o, e, d⟩ := T.obj _ _ st5 b hb
          exact (I7.pin (b, o) (List.mem_append_right _ (List.mem_append_right _ (mem_pinsAt hb e)))).2.1
        cases fl with
        | next => obtain ⟨σ7, H7, I7, n7⟩ := q7; exact again I7 n7
        | cont => obtain ⟨σ7, H7, I7, n7⟩ := q7; exact again I7 n7
        | brk => obtain ⟨σ7, H7, I7, q7⟩ := q7; exact ⟨σ7, H7, Inv.unpinned hsgA I7, q7⟩
        | ret v => obtain ⟨x7, σ7, H7, I7, r7, q7⟩ := q7; exact ⟨x7, σ7, H7, Inv.unpinned hsgA I7, r7, q7⟩
  · have hie : i = ds.length := by omega
    refine wpAny_passesOwn hp (thn (T.done (X.wish Ex) rfl rfl rfl hc i pins s3 σ3 H3 Ex I3 (stat fr3) st3 ((hJ H3 same3 i).2 (by omega))) fun r s4 ⟨hr, I4⟩ => ?_)
    subst hr
    rw [hie, List.drop_length] at q3
    exact wpAny_execs_nil ⟨σ3, H3, I4, q3 σ3 H3 G3 (low rp3)⟩
def whileZ (t : Ev → R Bool) (F : Ev → SR) : Nat → Ev → SR
  | 0, _ => .stuck
  | n + 1, δ => bS (t δ) δ fun k => if k then (match F δ with
    | .next δ' => whileZ t F n δ'
    | .cont δ' => whileZ t F n δ'
    | .brk δ' => .next δ'
    | r => r) else .next δ
theorem pz_while (cx : Cxo X) (N : Nat) {c : Expr} {body : List Stmt} {t : Ev → R Bool} {F : Ev → SR} (hc : PXt κ B X c t) (hb : PZs κ B X body F) : PZ κ B X (.While c body [] pos) (whileZ t F N) := fun Ex pins s σ H G δ Dn hp I rp h => by
  refine wpAny_While (codeAny_whileLoop (fun n s' => ∃ σ' H' G' δ', Inv (X.wish Ex) pins σ' H' s' ∧ Rep ⟨X.K, κ⟩ B X.H₀ G' H' σ' δ' ∧ SPost κ B X Ex pins Dn (whileZ t F n δ')) ?_ N ⟨σ, H, G, δ, I, rp, h⟩)
  rintro n s1 ⟨σ1, H1, G1, δ1, I1, rp1, q1⟩
  cases n with
  | zero => exact False.elim q1
  | succ n =>
    unfold whileZ at q1
    refine wpAny_passesOwn hp (thn (hc.stm cx I1 rp1 q1) fun b s2 ⟨H2, G2, I2, rp2, q2⟩ => ?_)
    cases b with
    | true =>
      rw [if_pos rfl]
      rw [if_pos rfl] at q2
      refine wpAny_passesOwn hp (thn (hb Ex pins s2 σ1 H2 G2 δ1 { Dn with nx := fun σ' H' => ∃ G' δ', Rep ⟨X.K, κ⟩ B X.H₀ G' H' σ' δ' ∧ SPost κ B X Ex pins Dn (whileZ t F n δ'), ct := fun σ' H' => ∃ G' δ', Rep ⟨X.K, κ⟩ B X.H₀ G' H' σ' δ' ∧ SPost κ B X Ex pins Dn (whileZ t F n δ'), bk := Dn.nx } hp I2 rp2 ?_) fun f s3 q3 => ?_)
      · cases ef : F δ1 with
        | next δ5 => simp only [ef] at q2; exact fun σ' H' G' r => ⟨G', δ5, r, q2⟩
        | cont δ5 => simp only [ef] at q2; exact fun σ' H' G' r => ⟨G', δ5, r, q2⟩
        | brk δ5 => simp only [ef] at q2; exact q2
        | ret d => simp only [ef] at q2; exact q2
        | exc c δ5 => simp only [ef] at q2; exact q2
        | stuck => simp only [ef] at q2; exact q2
      · cases f with
        | next => obtain ⟨σ3, H3, I3, G3, δ3, r3, n3⟩ := q3; exact ⟨n, Nat.lt_succ_self n, σ3, H3, G3, δ3, I3, r3, n3⟩
        | cont => obtain ⟨σ3, H3, I3, G3, δ3, r3, n3⟩ := q3; exact ⟨n, Nat.lt_succ_self n, σ3, H3, G3, δ3, I3, r3, n3⟩
        | brk => exact q3
        | ret v => exact q3
    | false =>
      rw [if_neg Bool.false_ne_true]
      exact wpAny_execs_nil ⟨σ1, H2, I2, q2 σ1 H2 G2 rp2⟩
end

/-! ## a def by its body -/
def finR : SR → R D
  | .next _ => .ok .non
  | .ret d => .ok d
  | .exc c _ => .exc c
  | _ => .stuck
def startE (n : Nat) (ds : List D) : Ev := ds.map (fun d => some (.sh d)) ++ List.replicate (n - ds.length) none
/-- the frame that runs is this body's -/
structure FrmOk (X : Cx) : Prop where
  st : X.stack = X.env :: X.outer
  fr : X.env.frame = some X.env.locals
theorem fn_mirror {P : Program} {w : World} {K : PySem.W.Frag} {mg : Str → Option Value} {base : Heap} {κ : Nat → Addr} {x qual : Str} {st : Stmt} {f : Addr} {fd : FuncData} {N ps : List Str} {k : Nat} {F : Ev → SR}
    (Fn : Fun K x qual st f fd) (S : FnScope N ps (defScope st))
    (hb : ∀ (X : Cx) (B : Gd), Cxo X → X.calm = true → X.prog = P → X.w = w → X.K = K → X.mg = mg → X.base = base → X.N = N → X.env.scope = defScope st → (∀ y, X.fn y = true) → Room k X.A → FrmOk X → PZs κ B X (defBody st) F) :
    FnOk P w K mg base (CXR P w) (k + 1) f fd ps (spM K κ ps.length fun ds => finR (F (startE N.length ds))) := by
  obtain ⟨oc, od, kV, doc, pm, an, cdv, ct, osl, rfl, lk, hcd⟩ := Fn.ex
  refine fn_of lk hcd S (fun vs H Q E h => h.1) fun A outer s H vs Q E hr hsp => ?_
  obtain ⟨hl, G, ds, sm, dn, hq⟩ := hsp
  dsimp only at hq
  generalize hX : cxOf (CXR P w) P w K mg base N qual (defScope st) f cdv A outer s H E = X
  have eP : X.prog = P := by rw [← hX]; rfl
  have ew : X.w = w := by rw [← hX]; rfl
  have eK : X.K = K := by rw [← hX]; rfl
  have cx : Cxo X := by rw [← hX]; exact ⟨fun _ _ => trivial, rfl⟩
  have body := fun B => hb X B cx (by rw [← hX]; rfl) eP ew eK (by rw [← hX]; rfl) (by rw [← hX]; rfl) (by rw [← hX]; rfl) (by rw [← hX]; rfl) (fun y => by rw [← hX]; rfl) (by rw [← hX]; exact hr) (by rw [← hX]; exact ⟨rfl, rfl⟩)
  refine ⟨fun Dn σ H => ∃ B G δ, Rep ⟨X.K, κ⟩ B X.H₀ G H σ δ ∧ ∀ pins, SPost κ B X X.xe pins Dn (F δ), fun pins s' σ H' Dn I ⟨B, G, δ, rp, h⟩ => ?_, ⟨G, fun _ => False⟩, G, startE N.length ds, ?_, fun pins => ?_⟩
  · refine body B X.xe pins s' σ H' G δ Dn ?_ I rp (h pins)
    rw [← hX]
    exact PassesOwn.leaving
  · have e0 : X.H₀ = H := by rw [← hX]; rfl
    rw [e0, eK]
    have hld : ds.length = vs.length := dn.length.symm
    refine ⟨⟨Same.refl _, sm, fun _ _ e _ => e, fun _ e => e, fun _ _ e => e⟩, ?_, fun i d e => ?_, fun i es e => ?_, fun i j es fs a n e => ?_, fun i c ns es e => ?_, fun i j c ns es c' ns' es' e => ?_⟩
    · unfold L2.start startE
      simp [hld]
    · unfold startE at e
      by_cases hi : i < ds.length
      · rw [List.getElem?_append_left (by simpa using hi), List.getElem?_map] at e
        cases q : ds[i]? with
        | none => rw [q] at e; cases e
        | some d' =>
          rw [q] at e
          cases e
          obtain ⟨v, e1, e2⟩ := dn.get q
          refine ⟨v, ?_, e2⟩
          unfold L2.start
          rw [List.getElem?_append_left (by simp; omega), List.getElem?_map, e1]
          rfl
      · rw [List.getElem?_append_right (by simpa using hi), List.getElem?_replicate] at e
        split at e <;> cases e
    · unfold startE at e
      by_cases hi : i < ds.length
      · rw [List.getElem?_append_left (by simpa using hi), List.getElem?_map] at e
        cases q : ds[i]? with
        | none => rw [q] at e; cases e
        | some d' => rw [q] at e; cases e
      · rw [List.getElem?_append_right (by simpa using hi), List.getElem?_replicate] at e
        split at e <;> cases e
    · unfold startE at e
      by_cases hi : i < ds.length
      · rw [List.getElem?_append_left (by simpa using hi), List.getElem?_map] at e
        cases q : ds[i]? with
        | none => rw [q] at e; cases e
        | some d' => rw [q] at e; cases e
      · rw [List.getElem?_append_right (by simpa using hi), List.getElem?_replicate] at e
        split at e <;> cases e
    · unfold startE at e
      by_cases hi : i < ds.length
      · rw [List.getElem?_append_left (by simpa using hi), List.getElem?_map] at e
        cases q : ds[i]? with
        | none => rw [q] at e; cases e
        | some d' => rw [q] at e; cases e
      · rw [List.getElem?_append_right (by simpa using hi), List.getElem?_replicate] at e
        split at e <;> cases e
    · unfold startE at e
      by_cases hi : i < ds.length
      · rw [List.getElem?_append_left (by simpa using hi), List.getElem?_map] at e
        cases q : ds[i]? with
        | none => rw [q] at e; cases e
        | some d' => rw [q] at e; cases e
      · rw [List.getElem?_append_right (by simpa using hi), List.getElem?_replicate] at e
        split at e <;> cases e
  · have e0 : X.H₀ = H := by rw [← hX]; rfl
    have ext : ∀ {G' H' : Hp}, Hold ⟨G, fun _ => False⟩ X.H₀ G' H' → Ext G H G' H' := fun {G' H'} h => by
      rw [e0] at h
      refine ⟨h.gG, fun b o e => h.old b o e id, h.GH, fun a n => ?_⟩
      cases q : H a with
      | none => exact .inr rfl
      | some o =>
        refine .inl fun z => n ?_
        exact h.lent a (by rw [q]; simp) z
    cases q : F (startE N.length ds) with
    | next δ' => rw [q] at hq; exact fun σ' H' G' r => hq .non H' G' (ext r.toHold) dNon
    | ret d => rw [q] at hq; exact fun v H' G' r dd => hq v H' G' (ext r) (by rw [eK] at dd; exact dd)
    | exc c δ' =>
      rw [q] at hq
      intro ea s' σ' H' G' I' F' r
      have hE : E (.ref (κ c)) none H' := hq H' G' (ext r.toHold)
      have I2 : Inv X pins σ' H' s' := by
        have := I'.unwish
        exact this
      have := leave_ok (M := model P w) (E := E) (E' := fun e' s'' => CXR P w outer H s E e' s'') I2 cx.ex (by rw [← hX]; rfl) (by rw [← hX]; rfl) F' hE
      rw [← hX] at this ⊢
      exact this
    | brk δ' => rw [q] at hq; exact False.elim hq
    | cont δ' => rw [q] at hq; exact False.elim hq
    | stuck => rw [q] at hq; exact False.elim hq
end L3

-- part L3e.lean
set_option Elab.async false
set_option linter.all false
set_option maxRecDepth 100000
namespace L3
open PySem PySem.Spec PyProof.Rows L2

/-! ## lists that the body alone holds -/
def fOut (X : Cx) (κ : Nat → Addr) (E : XK) (G H : Hp) (r : R (List D)) (Q : VK) : Prop := match r with
  | .ok ds => ∀ a vs H' G', Ext G H G' H' → H' a = some (.lst vs) → G' a = none → H a = none → Dens ⟨X.K, κ⟩ G' vs ds → Q (.ref a) H'
  | .exc c => ∀ H' G', Ext G H G' H' → E (.ref (κ c)) none H'
  | .stuck => False
def PXf (κ : Nat → Addr) (B : Gd) (X : Cx) (e : Expr) (f : Ev → R (List D)) : Prop := ∀ pins σ Ex, PE (At X pins σ Ex) e (fun τ H Q => ∃ G δ, Rep ⟨X.K, κ⟩ B X.H₀ G H τ δ ∧ fOut X κ (EX X pins σ Ex) G H (f δ) Q)
section
variable {κ : Nat → Addr} {B : Gd} {X : Cx} {e : Expr} {es : List Expr} {f : Ev → R D} {fl fs : Ev → R (List D)} {pos pos' pos'' apos : Pos}
theorem fOut.pre {E : XK} {G H G' H' : Hp} {r : R (List D)} {Q : VK} (e : Ext G H G' H') (h : fOut X κ E G H r Q) : fOut X κ E G' H' r Q := by
  cases r with
  | ok d => exact fun a vs H2 G2 e2 h1 h2 h3 h4 => h a vs H2 G2 (e.trans e2) h1 h2 (e.sH.free h3) h4
  | exc c => exact fun H2 G2 e2 => h H2 G2 (e.trans e2)
  | stuck => exact h
theorem ext_own {G H : Hp} {p : Addr} {o : HO} (s : Same G H) (n : H p = none) : Ext G H G (upd H p o) := by
  refine ⟨Same.refl _, fun b u e => ?_, fun b u e => ?_, fun b e => .inl e⟩
  · rw [upd_ne (ne_of_none e n)]; exact e
  · rw [upd_ne (ne_of_none (s b u e) n)]; exact s b u e
def lim (r : R (List D)) : R (List D) := r.bind fun xs => if xs.length ≤ 1000000 then .ok xs else .stuck
theorem pxf_lst (h : PXs κ B X es fs) : PXf κ B X (.List es pos) (fun δ => lim (fs δ)) := fun pins σ Ex =>
  pe_imp (pe_lst (h pins σ Ex)) fun τ H Q ⟨G, δ, rp, q⟩ => ⟨G, δ, rp, by
    unfold lim at q
    dsimp only at q
    cases e : fs δ with
    | ok xs =>
      rw [e] at q
      intro v H1 G1 e1 d1
      simp only [R.bind_ok] at q
      split at q
      · rename_i hl
        refine ⟨big1 (by rw [Dens.length d1]; exact hl), fun p hp => ?_⟩
        exact q p v _ G1 (e1.trans (ext_own e1.GH hp)) upd_same (e1.GH.free hp) (e1.sH.free hp) d1
      · exact False.elim q
    | exc c => rw [e] at q; exact q
    | stuck => rw [e] at q; exact q⟩
theorem ext_frz {G H G' H' : Hp} {a : Addr} {vs : List V} (e : Ext G H G' H') (h1 : H' a = some (.lst vs)) (h2 : G' a = none) (h3 : H a = none) : Ext G H (upd G' a (.lst vs)) H' := by
  have sg : Same G' (upd G' a (.lst vs)) := fun b o z => by rw [upd_ne (ne_of_none z h2)]; exact z
  refine ⟨e.sG.trans sg, e.sH, fun b o z => ?_, fun b z => ?_⟩
  · by_cases hb : b = a
    · subst hb; rw [upd_same] at z; cases z; exact h1
    · rw [upd_ne hb] at z; exact e.GH b o z
  · by_cases hb : b = a
    · subst hb; exact .inr h3
    · rw [upd_ne hb] at z; exact e.new b z
/-- the same as a value -/
def mL (fl : Ev → R (List D)) : Ev → R D := fun δ => (fl δ).bind fun ds => .ok (.lst ds)
theorem PXf.px (h : PXf κ B X e fl) : PX κ B X e (mL fl) := fun pins σ Ex => pe_imp (h pins σ Ex) fun τ H Q ⟨G, δ, rp, q⟩ => ⟨G, δ, rp, by
  unfold mL at q
  cases e : fl δ with
  | ok ds =>
    rw [e] at q
    intro a vs H' G' e1 h1 h2 h3 h4
    have sg : Same G' (upd G' a (.lst vs)) := fun b o z => by rw [upd_ne (ne_of_none z h2)]; exact z
    exact q _ H' _ (ext_frz e1 h1 h2 h3) (by unfold Den; exact ⟨a, vs, rfl, SqL.of upd_same, h4.mono sg⟩)
  | exc c => rw [e] at q; exact q
  | stuck => rw [e] at q; exact q⟩
def zOwn (i : Nat) (fl : Ev → R (List D)) : Ev → SR := fun δ => bS (fl δ) δ fun ds => .next (δ.set i (some (.ow ds)))
theorem pz_own (cx : Cxo X) {i : Nat} {x : Str} (hN : X.N.Nodup) (hi : X.N[i]? = some x) (hx : Loc X.env.scope x) (hf : X.fn x = true ∨ X.env.scope.names.lookup x = some .local) (h : PXf κ B X e fl) (hs : swapsWith e (some (.Name x pos')) pos.line X.env = pure false) :
    PZ κ B X (.Assign [.Name x pos'] e pos) (zOwn i fl) := fun Ex pins s σ H G δ Dn hp I rp q => by
  unfold zOwn at q
  refine wpAny_Assign_Name (thn (h pins σ Ex pins s σ H (fun v H' => ∃ a ds vs G', v = .ref a ∧ Ext G H G' H' ∧ H' a = some (.lst vs) ∧ G' a = none ∧ H a = none ∧ Dens ⟨X.K, κ⟩ G' vs ds ∧ SPost κ B X Ex pins Dn (.next (δ.set i (some (.ow ds))))) (inv_at I) ⟨G, δ, rp, ?_⟩)
    fun v s1 ⟨y, H', I', r, a, ds, vs, G', e0, e1, h1, h2, h3, h4, q⟩ => ?_) hs
  · cases e : fl δ with
    | ok ds => rw [e] at q; exact fun a vs H' G' e1 h1 h2 h3 h4 => ⟨a, ds, vs, G', rfl, e1, h1, h2, h3, h4, q⟩
    | exc c => rw [e] at q; exact fun H' G' e1 ea s' I' F => q ea s' σ H' G' I' F (rp.ext e1)
    | stuck => rw [e] at q; exact q
  · subst e0
    have rp' := rp.ext e1
    refine store_ok (X := X.wish Ex) (inv_unat cx.sg I') hN hi hx r (fun s2 I2 => ⟨_, H', I2, q _ H' G' (rp'.setOw h1 h4 h2 ?_ fun j es z n z2 => ?_)⟩) hf (fun p σ v _ => cx.sg p _)
    · cases q0 : X.H₀ a with
      | none => rfl
      | some o => exact absurd h3 (rp.there a (by rw [q0]; simp))
    · obtain ⟨b, us, y1, y2, _⟩ := rp.ow j es z
      rw [y1] at z2
      cases z2
      rw [h3] at y2; cases y2
def zApp (i : Nat) (f : Ev → R D) : Ev → SR := fun δ => match δ[i]? with
  | some (some (.ow ds)) => bS (f δ) δ fun d => if ds.length < 1000000 then .next (δ.set i (some (.ow (ds ++ [d])))) else .stuck
  | _ => .stuck
theorem pz_append (cx : Cxo X) {i : Nat} {x : Str} (hN : X.N[i]? = some x) (hv : Vis X.env.scope x) (hd : (x == ("__debug__" : Str)) = false) (hcd : (x == ("__classdict__" : Str)) = false) (h : PX κ B X e f)
    (hsw : swapsWith (.Call (.Attribute (.Name x pos) "append" apos) [e] [] pos') none pos''.line X.env = pure false)
    (hbase : attributeBase (.Name x pos) "append" X.env (eval (.Name x pos) X.env) = eval (.Name x pos) X.env)
    (hfew : ((backTo pos' (starEach [e] X.env)).all (fun x => !x.1) && (backToKw pos' (keywordEach [] X.env)).all (fun x => x.1.isSome)
      && decide (([e] : List Expr).length + ([] : List Keyword).length + (if ([] : List Keyword).isEmpty then 0 else 1) < 30)) = true)
    (hline : (apos.endLine == pos'.line) = true) (hs : starEach [e] X.env = (false, eval e X.env) :: starEach [] X.env) (hpl : (backTo pos' (starEach [] X.env)).any (·.1) = false) :
    PZ κ B X (.Expr (.Call (.Attribute (.Name x pos) "append" apos) [e] [] pos') pos'') (zApp i f) := fun Ex pins s σ H G δ Dn hp I rp q => by
  unfold zApp at q
  split at q
  · rename_i ds ed
    obtain ⟨a, vs, x1, x2, x3, x4, x5⟩ := rp.ow i ds ed
    have pe := pe_bm (X := At X pins σ Ex) PySem.F.plainAttrs_list PySem.F.slot_list_append PySem.F.type_list_append mt_append (pe_var (X := At X pins σ Ex) (pos := pos) hN hv hd hcd) (pxs_cons h pxs_nil hs pins σ Ex) hbase hfew hline hs hpl
    refine wpAny_Expr_any (thn (pe pins s σ H (fun _ H' => ∃ G' δ', Rep ⟨X.K, κ⟩ B X.H₀ G' H' σ δ' ∧ SPost κ B X Ex pins Dn (.next δ')) (inv_at I) ⟨.ref a, x1, .inl ⟨rfl, vs, SqL.of x2⟩, G, δ, rp, ?_⟩) fun v s1 ⟨y, H', I', r, G', δ', rp', q⟩ => ⟨σ, H', inv_unat cx.sg I', q σ H' G' rp'⟩) I.quiet hsw
    unfold mCons mNil
    cases e : f δ with
    | ok d =>
      rw [e] at q
      simp only [R.bind_ok]
      intro us H1 G1 e1 d1
      simp only [bS_ok] at q
      split at q
      · rename_i hl
        obtain ⟨y, rfl, dy⟩ : ∃ y, us = [y] ∧ Den ⟨X.K, κ⟩ G1 y d := by
          match us, d1 with
          | [y], d1 => unfold dsRel Dens at d1; exact ⟨y, rfl, d1.1⟩
          | [], d1 => unfold dsRel Dens at d1; exact d1.elim
          | _ :: _ :: _, d1 => unfold dsRel Dens at d1; have := d1.2; unfold Dens at this; exact this.elim
        have rp1 := rp.ext e1
        refine ⟨a, vs, y, rfl, rfl, e1.sH _ _ x2, ?_, G1, _, rp1.updOw ed x1 ((x3.mono e1.sG).append (dens_cons dy dens_nil)), q⟩
        have := x3.length
        rw [sizeLine_eq]
        omega
      · exact False.elim q
    | exc c =>
      rw [e] at q
      exact fun H' G' e1 ea s' I' F => q ea s' σ H' G' I' F (rp.ext e1)
    | stuck => rw [e] at q; exact q
  · exact False.elim q
/-- x[k] = e of the body's own list -/
def zPut (i : Nat) (fk f : Ev → R D) : Ev → SR := fun δ => match δ[i]? with
  | some (some (.ow ds)) => bS (f δ) δ fun d => bS (fk δ) δ fun k => match k with
    | .int k => (match ixN ds.length k with
      | some j => .next (δ.set i (some (.ow (ds.set j d))))
      | none => .stuck)
    | _ => .stuck
  | _ => .stuck
theorem pz_put (cx : Cxo X) {i : Nat} {x : Str} {k : Expr} {fk : Ev → R D} (hN : X.N[i]? = some x) (hv : Vis X.env.scope x) (hd : (x == ("__debug__" : Str)) = false) (hcd : (x == ("__classdict__" : Str)) = false) (h : PX κ B X e f) (hk : PX κ B X k fk)
    (hs : swapsWithSole [.Subscript (.Name x pos) k apos] e pos'.line X.env = pure false) (hw : swappedStores [.Subscript (.Name x pos) k apos] e X.env = pure none)
    (h1 : (assignEach [.Subscript (.Name x pos) k apos] X.env).map (·.2) = [assign (.Subscript (.Name x pos) k apos) X.env])
    (ha : ∀ v, assign (.Subscript (.Name x pos) k apos) X.env v = (do
      let ov ← holding [v] (eval (.Name x pos) X.env)
      let iv ← holding [v, ov] (eval k X.env)
      standAt apos
      holding [v, ov, iv] (setItem ov iv v)
      release [v, ov, iv] [])) : PZ κ B X (.Assign [.Subscript (.Name x pos) k apos] e pos') (zPut i fk f) := fun Ex pins s σ H G δ Dn hp I rp q => by
  unfold zPut at q
  split at q
  · rename_i ds ed
    refine wpAny_Assign_stores (thn (h.stm cx I rp q) fun v s1 ⟨d, y, H', G', I', r, rp', dn, q⟩ => ?_) hs hw
    rw [h1]
    obtain ⟨a, vs, x1, x2, x3, x4, x5⟩ := rp'.ow i ds ed
    have pg := pg_sub (X := At X pins σ Ex) (pe_var (X := At X pins σ Ex) (pos := pos) hN hv hd hcd) (hk pins σ Ex) set_list ha
    refine thn (pg pins s1 σ H' y v (fun σ' H'' => ∃ G'' δ', Rep ⟨X.K, κ⟩ B X.H₀ G'' H'' σ' δ' ∧ SPost κ B X Ex pins Dn (.next δ')) (inv_at I') r ⟨.ref a, x1, G', δ, rp', ?_⟩) fun _ s2 ⟨σ2, H2, I2, G2, δ2, rp2, q2⟩ => ?_
    · cases e : fk δ with
      | ok kd =>
        rw [e] at q
        intro kv H1 G1 e1 d1
        simp only [bS_ok] at q
        split at q
        · rename_i n
          have ek : kv = .int n := by simpa [dRel, Den] using d1
          subst ek
          have hlen := (x3).length
          split at q
          · rename_i j ej
            refine ⟨a, vs, n, j, rfl, rfl, e1.sH _ _ x2, by rw [hlen]; exact ej, G1, _, (rp'.ext e1).updOw ed x1 ((x3.mono e1.sG).set (dn.mono e1.sG) j), q⟩
          · exact False.elim q
        · exact False.elim q
      | exc c =>
        rw [e] at q
        exact fun H1 G1 e1 ea s' I' F => q ea s' σ H1 G1 I' F (rp'.ext e1)
      | stuck => rw [e] at q; exact q
    · obtain ⟨_, es⟩ := I2.sgm
      subst es
      exact ⟨_, H2, inv_unat cx.sg I2, q2 _ H2 G2 rp2⟩
  · exact False.elim q
end
end L3

-- part L3f.lean
set_option Elab.async false
set_option linter.all false
set_option maxRecDepth 100000
namespace L3
open PySem PySem.Spec PyProof.Rows L2

/-! ## == and != of any data -/
mutual
def toP : D → PyData
  | .non => .none
  | .bl b => .bool b
  | .int i => .int i
  | .str x => .str ⟨x.toArray⟩
  | .tup ds => .tuple (toPs ds)
  | .lst ds => .list (toPs ds)
  | .ob _ _ _ => .none
def toPs : List D → List PyData
  | [] => []
  | d :: ds => toP d :: toPs ds
end
mutual
def plainD : D → Bool
  | .non | .bl _ | .int _ | .str _ => true
  | .tup ds => plainDs ds
  | .lst ds => plainDs ds
  | .ob _ _ _ => false
def plainDs : List D → Bool
  | [] => true
  | d :: ds => plainD d && plainDs ds
end
section
variable {κ : Nat → Addr} {Y : Cx} {pins : List (Addr × Obj)} {σ : St} {H G : Hp} {s : Shared}
mutual
theorem reads_of (I : Inv Y pins σ H s) (sm : Same G H) : ∀ {d : D} {v : V} {u : Value}, Den ⟨Y.K, κ⟩ G v d → plainD d = true → RelV v u → ∃ as, Reads s.heap u (toP d) as
  | .non, v, u, h, _, r => by unfold Den at h; subst h; cases r; exact ⟨_, .none⟩
  | .bl b, v, u, h, _, r => by unfold Den at h; subst h; cases r; exact ⟨_, .bool b⟩
  | .int i, v, u, h, _, r => by unfold Den at h; subst h; obtain ⟨t, rfl⟩ := r; exact ⟨_, .int i t⟩
  | .str x, v, u, h, _, r => by unfold Den at h; subst h; obtain ⟨t, rfl⟩ := r; exact ⟨_, .str _ t⟩
  | .tup ds, v, u, h, p, r => by
    unfold Den at h
    obtain ⟨a, vs, rfl, h1, h2⟩ := h
    cases r
    obtain ⟨its, rv, ⟨o, e, hc, n, hd⟩, _⟩ := I.tuple (same_seqT sm h1)
    obtain ⟨as, q⟩ := reads_ofs I sm h2 (by unfold plainD at p; exact p) rv
    exact ⟨as, reads_tuple_at e hc hd (by simpa using q)⟩
  | .lst ds, v, u, h, p, r => by
    unfold Den at h
    obtain ⟨a, vs, rfl, h1, h2⟩ := h
    cases r
    obtain ⟨its, rv, ⟨o, n, e, hc, _, hd⟩, _⟩ := I.list (sm.seq h1)
    obtain ⟨as, q⟩ := reads_ofs I sm h2 (by unfold plainD at p; exact p) rv
    exact ⟨a :: as, reads_list_at e hc hd (by simpa using q)⟩
  | .ob _ _ _, _, _, _, p, _ => by unfold plainD at p; cases p
theorem reads_ofs (I : Inv Y pins σ H s) (sm : Same G H) : ∀ {ds : List D} {vs : List V} {us : List Value}, Dens ⟨Y.K, κ⟩ G vs ds → plainDs ds = true → Vals vs us → ∃ as, ReadsAll s.heap us (toPs ds) as
  | [], [], us, _, _, r => by cases r; exact ⟨_, .nil⟩
  | d :: ds, v :: vs, us, h, p, r => by
    unfold Dens at h
    unfold plainDs at p
    have p := Bool.and_eq_true_iff.mp p
    cases r with
    | cons r1 r2 =>
      obtain ⟨as, q1⟩ := reads_of I sm h.1 p.1 r1
      obtain ⟨bs, q2⟩ := reads_ofs I sm h.2 p.2 r2
      exact ⟨_, .cons q1 q2⟩
  | [], _ :: _, _, h, _, _ => by unfold Dens at h; exact h.elim
  | _ :: _, [], _, h, _, _ => by unfold Dens at h; exact h.elim
end
theorem reads_rel (I : Inv Y pins σ H s) (sm : Same G H) {d : D} {v : V} {u : Value} (h : rRel Y κ G H v d) (p : plainD d = true) (r : RelV v u) : ∃ as, Reads s.heap u (toP d) as := by
  rcases h with h | ⟨a, vs, ds, rfl, rfl, h3, h4⟩
  · exact reads_of I sm h p r
  · cases r
    obtain ⟨its, rv, ⟨o, n, e, hc, _, hd⟩, _⟩ := I.list (SqL.of h3)
    obtain ⟨as, q⟩ := reads_ofs I sm h4 (by unfold plainD at p; exact p) rv
    exact ⟨a :: as, reads_list_at e hc hd (by simpa using q)⟩
end
def okP (d : D) : Bool := plainD d && SeqAt.shaped (toP d)
def eqD (x y : D) : Bool := (toP x).eqv (toP y)
def oEq (x y : D) : R Bool := if okP x && okP y then .ok (eqD x y) else .stuck
def oNe (x y : D) : R Bool := if okP x && okP y then .ok (!eqD x y) else .stuck
def rEqD (X : Cx) (κ : Nat → Addr) (neg : Bool) : R2 := fun v u H Q => ∃ G x y, Same G H ∧ rRel X κ G H v x ∧ rRel X κ G H u y ∧ okP x = true ∧ okP y = true ∧ Q (.bl (neg ^^ eqD x y)) H
section
variable {κ : Nat → Addr} {B : Gd} {X : Cx} {a b c : Expr} {fa fb : Ev → R D} {pos p p' : Pos}
theorem rRel_K {X Y : Cx} {κ : Nat → Addr} (e : Y.K = X.K) {G H : Hp} {v : V} {d : D} (h : rRel X κ G H v d) : rRel Y κ G H v d := by
  unfold rRel at h ⊢
  rw [e]; exact h
theorem opR_eq (hu : X.A.units + 64 < cLine) : ∀ Y : Cx, Y.K = X.K → Y.A = X.A → OpR Y (compareOp .Eq) (rEqD X κ false) := by
  intro Y eK eA pins s σ H v u v' u' Q I r1 r2 ⟨G, x, y, sm, d1, d2, o1, o2, q⟩
  have o1 := Bool.and_eq_true_iff.mp o1
  have o2 := Bool.and_eq_true_iff.mp o2
  obtain ⟨as, q1⟩ := reads_rel I sm (rRel_K eK d1) o1.1 r1
  obtain ⟨bs, q2⟩ := reads_rel I sm (rRel_K eK d2) o2.1 r2
  exact eq_dataH q1 q2 o1.2 o2.2 (by rw [eA]; exact hu) ⟨.bl _, H, I, rfl, by simpa [eqD] using q⟩
theorem opR_ne (hu : X.A.units + 64 < cLine) : ∀ Y : Cx, Y.K = X.K → Y.A = X.A → OpR Y (compareOp .NotEq) (rEqD X κ true) := by
  intro Y eK eA pins s σ H v u v' u' Q I r1 r2 ⟨G, x, y, sm, d1, d2, o1, o2, q⟩
  have o1 := Bool.and_eq_true_iff.mp o1
  have o2 := Bool.and_eq_true_iff.mp o2
  obtain ⟨as, q1⟩ := reads_rel I sm (rRel_K eK d1) o1.1 r1
  obtain ⟨bs, q2⟩ := reads_rel I sm (rRel_K eK d2) o2.1 r2
  exact ne_dataH q1 q2 o1.2 o2.2 (by rw [eA]; exact hu) ⟨.bl _, H, I, rfl, by simpa [eqD] using q⟩
theorem opOk_eq : OpOk κ X (rEqD X κ false) (op2 oEq) := by
  intro x y v u G H Q E s d1 d2 q
  unfold op2 oEq at q
  split at q
  · rename_i h
    have h := Bool.and_eq_true_iff.mp h
    exact ⟨G, x, y, s, d1, d2, h.1, h.2, by simpa using q _ H G (Ext.refl s) dBl⟩
  · exact False.elim q
theorem opOk_ne : OpOk κ X (rEqD X κ true) (op2 oNe) := by
  intro x y v u G H Q E s d1 d2 q
  unfold op2 oNe at q
  split at q
  · rename_i h
    have h := Bool.and_eq_true_iff.mp h
    exact ⟨G, x, y, s, d1, d2, h.1, h.2, by simpa using q _ H G (Ext.refl s) dBl⟩
  · exact False.elim q
theorem px_eq (hu : X.A.units + 64 < cLine) (ha : PXr κ B X a fa) (hb : PXr κ B X b fb) (hm : behindInMarks .Eq b = false) : PX κ B X (.Compare a [.Eq] [b] pos) (m2 (op2 oEq) fa fb) := px_cmp (opR_eq hu) opOk_eq ha hb hm
theorem px_ne (hu : X.A.units + 64 < cLine) (ha : PXr κ B X a fa) (hb : PXr κ B X b fb) (hm : behindInMarks .NotEq b = false) : PX κ B X (.Compare a [.NotEq] [b] pos) (m2 (op2 oNe) fa fb) := px_cmp (opR_ne hu) opOk_ne ha hb hm
theorem pxt_eq (hu : X.A.units + 64 < cLine) (ha : PXr κ B X a fa) (hb : PXr κ B X b fb) (hm : behindInMarks .Eq b = false) : PXt κ B X (.Compare a [.Eq] [b] pos) (m2t oEq fa fb) := pxt_cmp (opR_eq hu) opOk_eq ha hb hm
theorem pxt_ne (hu : X.A.units + 64 < cLine) (ha : PXr κ B X a fa) (hb : PXr κ B X b fb) (hm : behindInMarks .NotEq b = false) : PXt κ B X (.Compare a [.NotEq] [b] pos) (m2t oNe fa fb) := pxt_cmp (opR_ne hu) opOk_ne ha hb hm
@[simp] theorem oEq_int (i j : Int) : oEq (.int i) (.int j) = .ok (i == j) := rfl
@[simp] theorem oNe_int (i j : Int) : oNe (.int i) (.int j) = .ok (!(i == j)) := rfl
@[simp] theorem oEq_bl (i j : Bool) : oEq (.bl i) (.bl j) = .ok (i == j) := rfl
@[simp] theorem oNe_bl (i j : Bool) : oNe (.bl i) (.bl j) = .ok (!(i == j)) := rfl
/-! ## is None -/
def oIsN (x : D) : R Bool := match x with
  | .non => .ok true
  | .ob _ _ _ => .ok false
  | _ => .ok false
theorem non_iff {G H : Hp} {v : V} {d : D} (h : rRel X κ G H v d) : R.ok (decide (v = .non)) = oIsN d := by
  rcases h with h | ⟨_, _, _, rfl, rfl, _⟩
  · cases d <;> unfold Den at h
    · subst h; rfl
    · subst h; rfl
    · subst h; rfl
    · subst h; rfl
    · obtain ⟨_, _, rfl, _⟩ := h; rfl
    · obtain ⟨_, _, rfl, _⟩ := h; rfl
    · obtain ⟨_, _, _, rfl, _⟩ := h; rfl
  · rfl
/-! ## len -/
def oLen : D → R D
  | .lst ds => .ok (.int ds.length)
  | .tup ds => .ok (.int ds.length)
  | .str x => if x.length ≤ 1000000 then .ok (.int x.length) else .stuck
  | _ => .stuck
theorem callR_or {Y : Cx} {f : Value} {r r' : List V → Hp → VK → Prop} (h : CallR Y f r) (h' : CallR Y f r') : CallR Y f (fun xs H Q => r xs H Q ∨ r' xs H Q) := by
  intro pins s σ H xs us Q I rx q
  rcases q with q | q
  · exact h pins s σ H xs us Q I rx q
  · exact h' pins s σ H xs us Q I rx q
theorem px_len (hg : Gl X "len") (hm : X.mg "len" = none) (ha : PXr κ B X a fa) (hs : starEach [a] X.env = (false, eval a X.env) :: starEach [] X.env) (hpl : (backTo pos (starEach [] X.env)).any (·.1) = false) : PX κ B X (.Call (.Name "len" p) [a] [] pos) (m1 oLen fa) := fun pins σ Ex =>
  pe_imp (pe_callB (X := At X pins σ Ex) (callR_or call_len_seq call_len_str) hg hm PySem.boot_len (pa_cons (X := At X pins σ Ex) (ha pins σ Ex) pa_nil hs) (by decide) (by decide) hs hpl) fun τ H Q ⟨G, δ, rp, q⟩ => ⟨G, δ, rp, q.seq fun x v H1 G1 e1 d1 q1 => by
    have lst : ∀ {q : Addr} {vs : List V} {ds : List D}, (SqL X.K H1 q vs ∨ SqT X.K H1 q vs) → Dens ⟨X.K, κ⟩ G1 vs ds → Out (dRel X κ) κ (EX X pins σ Ex) G1 H1 (.ok (.int ds.length)) Q →
      (∃ p ys, [V.ref q] = [.ref p] ∧ (SqL X.K H1 p ys ∨ SqT X.K H1 p ys) ∧ Q (.int ys.length) H1) := fun {q vs ds} h1 h2 h3 => ⟨q, vs, rfl, h1, by
        rw [h2.length]; exact h3 _ H1 G1 (Ext.refl e1.GH) dInt⟩
    cases x with
    | lst ds =>
      rcases d1 with d1 | ⟨l, vs, es, rfl, e, h3, h4⟩
      · unfold Den at d1
        obtain ⟨l, vs, rfl, h1, h2⟩ := d1
        exact .inl (lst (.inl (e1.GH.seq h1)) h2 q1)
      · cases e
        exact .inl (lst (.inl (SqL.of h3)) h4 q1)
    | tup ds =>
      rcases d1 with d1 | ⟨l, vs, es, rfl, e, h3, h4⟩
      · unfold Den at d1
        obtain ⟨l, vs, rfl, h1, h2⟩ := d1
        exact .inl (lst (.inr (same_seqT e1.GH h1)) h2 q1)
      · cases e
    | str x =>
      simp only [oLen] at q1
      split at q1
      · rename_i hx
        have ev := rStr d1
        subst ev
        refine .inr ⟨_, rfl, big1 (by simpa [Str.length] using hx), ?_⟩
        have := q1 _ H1 G1 (Ext.refl e1.GH) dInt
        simpa [Str.length] using this
      · exact False.elim q1
    | _ => exact False.elim q1⟩
/-! ## isinstance against a type of Python's own -/
def tyNm : D → Option String
  | .non => some "NoneType"
  | .bl _ => some "bool"
  | .int _ => some "int"
  | .str _ => some "str"
  | .tup _ => some "tuple"
  | .lst _ => some "list"
  | .ob _ _ _ => none
inductive Ty where
  | int | bool | str | tuple | list
def Ty.nm : Ty → String
  | .int => "int" | .bool => "bool" | .str => "str" | .tuple => "tuple" | .list => "list"
def isTy : D → Ty → R Bool
  | .non, _ => .ok false
  | .bl _, .int => .ok true
  | .bl _, .bool => .ok true
  | .bl _, _ => .ok false
  | .int _, .int => .ok true
  | .int _, _ => .ok false
  | .str _, .str => .ok true
  | .str _, _ => .ok false
  | .tup _, .tuple => .ok true
  | .tup _, _ => .ok false
  | .lst _, .list => .ok true
  | .lst _, _ => .ok false
  | .ob _ _ _, _ => .stuck
theorem kit_all {K : PySem.W.Frag} (T : Ty) : PySem.W.kitOne K (.type "NoneType") (.type T.nm) = some false ∧ PySem.W.kitOne K (.type "bool") (.type T.nm) = some (match T with | .int => true | .bool => true | _ => false) ∧
    PySem.W.kitOne K (.type "int") (.type T.nm) = some (match T with | .int => true | _ => false) ∧ PySem.W.kitOne K (.type "str") (.type T.nm) = some (match T with | .str => true | _ => false) ∧
    PySem.W.kitOne K (.type "tuple") (.type T.nm) = some (match T with | .tuple => true | _ => false) ∧ PySem.W.kitOne K (.type "list") (.type T.nm) = some (match T with | .list => true | _ => false) := by
  cases T <;> exact ⟨rfl, rfl, rfl, rfl, rfl, rfl⟩
theorem boot_ty (T : Ty) : bootBuiltins (Str.ofString T.nm) = some (.type T.nm) := by
  cases T <;> decide +kernel
def rIs (X : Cx) (κ : Nat → Addr) (T : Ty) : List V → Hp → VK → Prop := fun xs H Q => ∃ G v x k, xs = [v, .ty T.nm] ∧ Same G H ∧ rRel X κ G H v x ∧ isTy x T = .ok k ∧ Q (.bl k) H
theorem callR_is (T : Ty) : ∀ Y : Cx, Y.K = X.K → CallR Y (.builtin "isinstance") (rIs X κ T) := by
  intro Y eK pins s σ H xs us Q I rx ⟨G, v, x, k, e, sm, d, hk, q⟩
  subst e
  obtain ⟨k1, k2, k3, k4, k5, k6⟩ := kit_all (K := Y.K) T
  have d := rRel_K eK d
  match us, rx with
  | [u, t], .cons r1 (.cons r2 .nil) =>
    cases r2
    have fin : ∀ (b : Bool), R.ok b = R.ok k → ∀ tk, EP Y pins σ Q (.bool b) { s with toks := tk } := fun b e tk => by
      injection e with e
      subst e
      exact ⟨.bl b, H, I.tok tk, rfl, q⟩
    have lst : ∀ {l : Addr} {vs : List V}, v = .ref l → SqL Y.K H l vs → isTy (.lst []) T = .ok k → wpAny (model Y.prog Y.w) Y.A (call (.builtin "isinstance") [u, .type T.nm]) (EP Y pins σ Q) Y.xe s := fun {l vs} e0 h1 e => by
      subst e0
      cases r1
      obtain ⟨its, _, ⟨o, n, e1, hc, _⟩, _⟩ := I.list h1
      exact PySem.W.kia_one (PySem.W.kitx_list (K := Y.K)) I.kIn ⟨o, e1, hc⟩ k6 (by intro z; cases z) (fin _ (by rw [← e]; cases T <;> rfl))
    rcases d with d | ⟨l, vs, ds, e0, e, h3, h4⟩
    · cases x with
      | non => unfold Den at d; subst d; cases r1; exact PySem.W.kia_one (PySem.W.kitx_none (K := Y.K)) I.kIn trivial k1 (by intro z; cases z) (fin _ (by rw [← hk]; cases T <;> rfl))
      | bl b => unfold Den at d; subst d; cases r1; exact PySem.W.kia_one (PySem.W.kitx_bool (K := Y.K)) I.kIn trivial k2 (by intro z; cases z) (fin _ (by rw [← hk]; cases T <;> rfl))
      | int i => unfold Den at d; subst d; obtain ⟨tk, rfl⟩ := r1; exact PySem.W.kia_one (PySem.W.kitx_int (K := Y.K)) I.kIn trivial k3 (by intro z; cases z) (fin _ (by rw [← hk]; cases T <;> rfl))
      | str i => unfold Den at d; subst d; obtain ⟨tk, rfl⟩ := r1; exact PySem.W.kia_one (PySem.W.kitx_str (K := Y.K)) I.kIn trivial k4 (by intro z; cases z) (fin _ (by rw [← hk]; cases T <;> rfl))
      | tup ds =>
        unfold Den at d
        obtain ⟨l, vs, rfl, h1, _⟩ := d
        cases r1
        obtain ⟨its, _, ⟨o, e1, hc, _⟩, _⟩ := I.tuple (same_seqT sm h1)
        exact PySem.W.kia_one (PySem.W.kitx_tuple (K := Y.K)) I.kIn ⟨o, e1, hc⟩ k5 (by intro z; cases z) (fin _ (by rw [← hk]; cases T <;> rfl))
      | lst ds =>
        unfold Den at d
        obtain ⟨l, vs, e0, h1, _⟩ := d
        exact lst e0 (sm.seq h1) (by rw [← hk]; cases T <;> rfl)
      | ob _ _ _ => cases hk
    · subst e
      exact lst e0 (SqL.of h3) (by rw [← hk]; cases T <;> rfl)
theorem px_isinst (T : Ty) {y : Str} (hy : y = Str.ofString T.nm) (hg : Gl X "isinstance") (hm : X.mg "isinstance" = none) (hgT : Gl X y) (hmT : X.mg y = none) (hn : y ≠ "__name__") (hdb : (y == ("__debug__" : Str)) = false) (ha : PXr κ B X a fa)
    (hs : starEach [a, .Name y p'] X.env = (false, eval a X.env) :: starEach [.Name y p'] X.env) (hs2 : starEach [.Name y p'] X.env = (false, eval (.Name y p') X.env) :: starEach [] X.env) (hpl : (backTo pos (starEach [.Name y p'] X.env)).any (·.1) = false) :
    PX κ B X (.Call (.Name "isinstance" p) [a, .Name y p'] [] pos) (m1 (fun x => blR (isTy x T)) fa) := fun pins σ Ex =>
  pe_imp (pe_callB (X := At X pins σ Ex) (callR_is (κ := κ) (X := X) T (At X pins σ Ex) rfl) hg hm PyProof.Rows.boot_isinstance (pa_cons (X := At X pins σ Ex) (ha pins σ Ex) (pa_cons (X := At X pins σ Ex) (pe_bltn (X := At X pins σ Ex) (v := .ty T.nm) hgT hmT (by rw [hy]; exact boot_ty T) rfl hn hdb) pa_nil hs2) hs) (by decide) (by decide) hs hpl) fun τ H Q ⟨G, δ, rp, q⟩ => ⟨G, δ, rp, q.seq fun x v H1 G1 e1 d1 q1 => by
    cases e : isTy x T with
    | ok k => rw [e] at q1; exact ⟨G1, v, x, k, rfl, e1.GH, d1, e, q1 _ H1 G1 (Ext.refl e1.GH) dBl⟩
    | exc c => cases x <;> cases T <;> cases e
    | stuck => rw [e] at q1; exact False.elim q1⟩
end
end L3

-- part L3h.lean
set_option Elab.async false
set_option linter.all false
set_option maxRecDepth 100000
namespace L2
theorem Fun.at {K : PySem.W.Frag} {x qual : PySem.Str} {st : PySem.Stmt} {f : PySem.Addr} {fd : PySem.FuncData} (F : Fun K x qual st f fd) : ∃ oc od osl, K.lookup f = some ⟨oc, od, .func fd, osl⟩ := by
  obtain ⟨oc, od, _, _, _, _, _, _, osl, _, l, _⟩ := F.ex
  exact ⟨oc, od, osl, l⟩
end L2
namespace L3
open PySem PySem.Spec PyProof.Rows L2
/-- a def of the module keeps its mirror -/
def MC (P : Program) (w : World) (K : PySem.W.Frag) (mg : Str → Option Value) (base : Heap) (κ : Nat → Addr) (x : Str) (ps : List Str) (m : List D → R D) (k : Nat) : Prop :=
  ∃ f fd, FnOk P w K mg base (CXR P w) k f fd ps (spM K κ ps.length m) ∧ mg x = some (.ref f) ∧ PySem.W.keepIn K (.ref f) = true ∧ Binds K fd ps [] ∧ ∃ oc od osl, K.lookup f = some ⟨oc, od, .func fd, osl⟩
theorem MC.cal {κ : Nat → Addr} {X : Cx} {x : Str} {ps : List Str} {n : Nat} {m : List D → R D} {k j : Nat} (h : MC X.prog X.w X.K X.mg X.base κ x ps m k) (hr : Room j X.A) (hj : k ≤ j) (hn : ps.length = n := by rfl) : Cal κ X x n m := by
  obtain ⟨f, fd, F, h1, h2, h3, _⟩ := h
  subst hn
  exact ⟨f, fd, ps, k, F, hr.mono hj, h1, h2, h3⟩
theorem mlen_nil : ∀ (δ : Ev) (ds : List D), mNil δ = .ok ds → ds.length = 0 := fun δ ds h => by
  unfold mNil at h; injection h with h; subst h; rfl
theorem mlen_cons {f : Ev → R D} {fs : Ev → R (List D)} {n : Nat} (h : ∀ δ ds, fs δ = .ok ds → ds.length = n) : ∀ (δ : Ev) (ds : List D), mCons f fs δ = .ok ds → ds.length = n + 1 := fun δ ds e => by
  unfold mCons at e
  cases q : f δ with
  | ok x =>
    rw [q] at e
    cases q2 : fs δ with
    | ok xs =>
      rw [q2] at e
      injection e with e
      subst e
      simp [h δ xs q2]
    | exc c => rw [q2] at e; cases e
    | stuck => rw [q2] at e; cases e
  | exc c => rw [q] at e; cases e
  | stuck => rw [q] at e; cases e
theorem tup_const {K : PySem.W.Frag} {κ : Nat → Addr} {mg : Str → Option Value} {x : Str} {a : Addr} {dd : Option Addr} {its : Array Value} {n : Nat} {sl : Array (Option Value)} {vs : List V} {ds : List D} (h1 : mg x = some (.ref a)) (h2 : K.lookup a = some ⟨.type "tuple", dd, .seq its n, sl⟩) (h3 : Vals vs its.toList) (h4 : vs.length ≤ 1000) (h5 : ∀ G, Dens ⟨K, κ⟩ G vs ds) :
    ∃ u v, mg x = some u ∧ RelV v u ∧ ∀ G, Den ⟨K, κ⟩ G v (.tup ds) := by
  refine ⟨_, .ref a, h1, rfl, fun G => ?_⟩
  unfold Den
  refine ⟨a, vs, rfl, .inr ⟨_, its, n, h2, rfl, rfl, ?_, h3⟩, h5 G⟩
  have := h3.length
  simp only [Array.length_toList] at this
  rw [sizeLine_eq]
  omega
theorem law_fn {P : Program} {w : World} {K : PySem.W.Frag} {mg : Str → Option Value} {base : Heap} {κ : Nat → Addr} {y : Str} {m : List D → R D} {k : Nat} {f : Addr} {fd : FuncData} {oc : Value} {od : Option Addr} {osl : Array (Option Value)}
    (hm : mg "law" = some (.ref f)) (l : K.lookup f = some ⟨oc, od, .func fd, osl⟩) (o : MC P w K mg base κ "law" [y] m k) (main : ∀ ns : List Int, ns.length ≤ 63 → m [.lst (ns.map D.int)] = .ok (.bl true)) :
    FnOk P w K mg base (CXR P w) k f fd [y] (fun vs H Q _ => ∃ (a : Addr) (ns : List Int), vs = [.ref a] ∧ SqL K H a (ns.map V.int) ∧ ns.length ≤ 63 ∧ ∀ H', Q (.bl true) H') := by
  obtain ⟨f', fd', F, h1, _, _, oc', od', osl', l'⟩ := o
  rw [hm] at h1; cases h1
  rw [l] at l'; cases l'
  refine F.imp fun vs H Q E ⟨a, ns, e, hS, hl, hq⟩ => ?_
  subst e
  refine ⟨rfl, H, [.lst (ns.map D.int)], Same.refl _, dens_cons (by unfold Den; exact ⟨a, _, rfl, hS, dens_ints ns⟩) dens_nil, ?_⟩
  rw [main ns hl]
  intro v H' G' _ d
  have : v = .bl true := by simpa [Den] using d
  subst this
  exact hq H'
end L3
namespace L3
open PySem PySem.Spec PyProof.Rows L2
/-! ## the sides of the rules by the head of an expression alone -/
def noStar : Expr → Bool
  | .Starred _ _ => false
  | _ => true
theorem star_cons {e : Expr} {es : List Expr} {env : Env} (h : noStar e = true) : starEach (e :: es) env = (false, eval e env) :: starEach es env := by
  cases e <;> first | rfl | exact Bool.noConfusion h
theorem back_any {pos : Pos} {env : Env} : ∀ {es : List Expr}, es.all noStar = true → (backTo pos (starEach es env)).any (·.1) = false
  | [], _ => rfl
  | e :: es, h => by
    simp only [List.all_cons, Bool.and_eq_true] at h
    rw [star_cons h.1]
    show (false || (backTo pos (starEach es env)).any (·.1)) = false
    rw [back_any h.2]; rfl
theorem back_all {pos : Pos} {env : Env} {e : Expr} (h : noStar e = true) : ((backTo pos (starEach [e] env)).all (fun x => !x.1) && (backToKw pos (keywordEach [] env)).all (fun x => x.1.isSome)
      && decide (([e] : List Expr).length + ([] : List Keyword).length + (if ([] : List Keyword).isEmpty then 0 else 1) < 30)) = true := by
  rw [star_cons h]; rfl
def noComp : Expr → Bool
  | .ListComp _ _ _ _ => false
  | .SetComp _ _ _ _ => false
  | .DictComp _ _ _ _ _ => false
  | _ => true
theorem swaps_no {e : Expr} {t : Option Expr} {n : Nat} {env : Env} (h : noComp e = true) : swapsWith e t n env = pure false := by
  cases e <;> first | rfl | exact Bool.noConfusion h
theorem swaps_sole {e t : Expr} {n : Nat} {env : Env} (h : noComp e = true) : swapsWithSole [t] e n env = pure false := by
  show swapsWith e (some t) n env = pure false
  exact swaps_no h
def noTup : Expr → Bool
  | .Tuple _ _ _ => false
  | _ => true
theorem stores_no {t e : Expr} {env : Env} (h : noTup e = true) : swappedStores [t] e env = pure none := by
  cases t <;> cases e <;> first | rfl | exact Bool.noConfusion h
theorem each_one {t : Expr} {env : Env} (h : noStar t = true) : (assignEach [t] env).map (·.2) = [assign t env] := by
  cases t <;> first | rfl | exact Bool.noConfusion h
theorem each_cons {t : Expr} {ts : List Expr} {env : Env} (h : noStar t = true) : (assignEach (t :: ts) env).map (·.2) = assign t env :: (assignEach ts env).map (·.2) := by
  cases t <;> first | rfl | exact Bool.noConfusion h
theorem each_len {env : Env} : ∀ {ts : List Expr}, ts.all noStar = true → (assignEach ts env).length = ts.length ∧ (assignEach ts env).findIdx? (·.1) = none
  | [], _ => ⟨rfl, rfl⟩
  | t :: ts, h => by
    simp only [List.all_cons, Bool.and_eq_true] at h
    obtain ⟨h1, h2⟩ := each_len (env := env) h.2
    have e : assignEach (t :: ts) env = (false, assign t env) :: assignEach ts env := by
      have := h.1
      cases t <;> first | rfl | exact Bool.noConfusion this
    rw [e]
    refine ⟨by simp [h1], ?_⟩
    rw [List.findIdx?_cons]
    simp [h2]
def plT : Expr → Bool
  | .Name _ _ | .Call _ _ _ _ | .Subscript _ _ _ | .Attribute _ _ _ | .BinOp _ _ _ _ | .Tuple _ _ _ | .List _ _ => true
  | _ => false
theorem true_pl {a : Expr} {env : Env} (h : plT a = true) : ∀ whole, isTrue a env whole = (do let v ← whole; standAt a.pos; holding [v] (truthy v)) := by
  intro w
  cases a <;> first | rfl | exact Bool.noConfusion h
def plI : Expr → Bool
  | .Name _ _ | .Call _ _ _ _ | .Subscript _ _ _ | .Attribute _ _ _ | .BinOp _ _ _ _ | .List _ _ | .Constant _ _ _ | .IfExp _ _ _ _ | .UnaryOp _ _ _ | .Compare _ _ _ _ | .BoolOp _ _ _ => true
  | _ => false
theorem fold_no {a : Expr} {env : Env} (h : plI a = true) : ∀ x, foldedSetIterable a env x = pure x := by
  intro x
  cases a <;> first | rfl | exact Bool.noConfusion h
theorem ix_pl {b : Expr} (h : plI b = true) : PlainIx b := by
  intro o i
  cases b <;> first | rfl | exact Bool.noConfusion h
def plM : Expr → Bool
  | .Set _ _ _ => false
  | _ => true
theorem mark_no {o : CmpOp} {b : Expr} (h : plM b = true) : behindInMarks o b = false := by
  cases b <;> first | rfl | exact Bool.noConfusion h
section
variable {κ : Nat → Addr} {B : Gd} {X : Cx} {a b e k tg : Expr} {es tgs : List Expr} {f fa fb fk : Ev → R D} {fs fl : Ev → R (List D)} {pos pos' pos'' apos p p' : Pos} {x : Str} {m : List D → R D} {n i : Nat}
theorem ys_cons (ha : PX κ B X a fa) (hr : PXs κ B X es fs) (h : noStar a = true) : PXs κ B X (a :: es) (mCons fa fs) := pxs_cons ha hr (star_cons h)
theorem y_call (c : Cxo X) (C : Cal κ X x n m) (hn : (a :: es).length = n) (hg : Gl X x) (ha : PXs κ B X (a :: es) fs) (hdb : (x == ("__debug__" : Str)) = false) (h : (a :: es).all noStar = true) (hlen : ∀ δ ds, fs δ = .ok ds → ds.length = n) :
    PX κ B X (.Call (.Name x p) (a :: es) [] pos) (mCall m fs) := by
  have h' := h
  simp only [List.all_cons, Bool.and_eq_true] at h'
  exact px_call c C hn hg ha hdb (star_cons h'.1) (back_any h'.2) hlen
theorem y_set (cx : Cxo X) (hN : X.N.Nodup) (hi : X.N[i]? = some x) (hx : Loc X.env.scope x) (hf : X.fn x = true ∨ X.env.scope.names.lookup x = some .local) (h : PX κ B X e f) (hs : noComp e = true) : PZ κ B X (.Assign [.Name x pos'] e pos) (zSet i f) := pz_set cx hN hi hx hf h (swaps_no hs)
theorem y_own (cx : Cxo X) (hN : X.N.Nodup) (hi : X.N[i]? = some x) (hx : Loc X.env.scope x) (hf : X.fn x = true ∨ X.env.scope.names.lookup x = some .local) (h : PXf κ B X e fl) (hs : noComp e = true) : PZ κ B X (.Assign [.Name x pos'] e pos) (zOwn i fl) := pz_own cx hN hi hx hf h (swaps_no hs)
theorem y_expr (cx : Cxo X) (h : PX κ B X e f) (hs : noComp e = true) : PZ κ B X (.Expr e pos) (zDrop f) := pz_expr cx h (swaps_no hs)
theorem y_append (cx : Cxo X) (hN : X.N[i]? = some x) (hv : Vis X.env.scope x) (hd : (x == ("__debug__" : Str)) = false) (hcd : (x == ("__classdict__" : Str)) = false) (h : PX κ B X e f) (hs : noStar e = true) (hline : (apos.endLine == pos'.line) = true) :
    PZ κ B X (.Expr (.Call (.Attribute (.Name x pos) "append" apos) [e] [] pos') pos'') (zApp i f) := pz_append cx hN hv hd hcd h (swaps_no rfl) rfl (back_all hs) hline (star_cons hs) rfl
theorem y_put (cx : Cxo X) (hN : X.N[i]? = some x) (hv : Vis X.env.scope x) (hd : (x == ("__debug__" : Str)) = false) (hcd : (x == ("__classdict__" : Str)) = false) (h : PX κ B X e f) (hk : PX κ B X k fk) (hs : noComp e = true) (ht : noTup e = true)
    (ha : ∀ v, assign (.Subscript (.Name x pos) k apos) X.env v = (do
      let ov ← holding [v] (eval (.Name x pos) X.env)
      let iv ← holding [v, ov] (eval k X.env)
      standAt apos
      holding [v, ov, iv] (setItem ov iv v)
      release [v, ov, iv] [])) : PZ κ B X (.Assign [.Subscript (.Name x pos) k apos] e pos') (zPut i fk f) := pz_put cx hN hv hd hcd h hk (swaps_sole hs) (stores_no ht) (each_one rfl) ha
theorem y_asg (cx : Cxo X) {bd : D → Ev → Option Ev} (h : PX κ B X e f) (hg : PGz κ B X tg bd) (hs : noComp e = true) (ht : noTup e = true) (h1 : noStar tg = true) : PZ κ B X (.Assign [tg] e pos) (zAsg bd f) := pz_asg cx h hg (swaps_sole hs) (stores_no ht) (each_one h1)
theorem y_tup {kk : Nat} {bs : List D → Ev → Option Ev} (hc : X.calm = true) (h : PGzs κ B X tgs bs) (hn : tgs.length = n) (hst : tgs.all noStar = true) : PGz κ B X (.Tuple tgs kk pos) (bTup n bs) := pgz_tup hc h ((each_len hst).1.trans hn) (each_len hst).2
theorem y_cons {bd : D → Ev → Option Ev} {bs : List D → Ev → Option Ev} (h1 : PGz κ B X tg bd) (h2 : PGzs κ B X tgs bs) (h : noStar tg = true) : PGzs κ B X (tg :: tgs) (bsCons bd bs) := pgzs_cons h1 h2 (each_cons h)
theorem yt_val (ha : PXr κ B X a fa) (h : plT a = true) : PXt κ B X a (mT fa) := pxt_val ha (true_pl h)
theorem y_ix (ha : PXr κ B X a fa) (hb : PXr κ B X b fb) (h : plI b = true) : PX κ B X (.Subscript a b pos) (m2 oIx fa fb) := px_ix ha hb (ix_pl h)
theorem y_len (hg : Gl X "len") (hm : X.mg "len" = none) (ha : PXr κ B X a fa) (h : noStar a = true) : PX κ B X (.Call (.Name "len" p) [a] [] pos) (m1 oLen fa) := px_len hg hm ha (star_cons h) rfl
theorem y_isinst (T : Ty) {y : Str} (hy : y = Str.ofString T.nm) (hg : Gl X "isinstance") (hm : X.mg "isinstance" = none) (hgT : Gl X y) (hmT : X.mg y = none) (hn : y ≠ "__name__") (hdb : (y == ("__debug__" : Str)) = false) (ha : PXr κ B X a fa) (h : noStar a = true) :
    PX κ B X (.Call (.Name "isinstance" p) [a, .Name y p'] [] pos) (m1 (fun x => blR (isTy x T)) fa) := px_isinst T hy hg hm hgT hmT hn hdb ha (star_cons h) rfl rfl
theorem yi_range1 (hg : Gl X "range") (hm : X.mg "range" = none) (ha : PXs κ B X [a] fs) (h : noStar a = true) : PIz κ B X tg (.Call (.Name "range" p) [a] [] pos) (fun δ => (fs δ).bind iR1) := piz_range1 hg hm ha (star_cons h)
theorem yi_range2 (hg : Gl X "range") (hm : X.mg "range" = none) (ha : PXs κ B X [a, b] fs) (h : noStar a = true) (h' : noStar b = true) : PIz κ B X tg (.Call (.Name "range" p) [a, b] [] pos) (fun δ => (fs δ).bind iR2) := piz_range2 hg hm ha (by rw [star_cons h, star_cons h']; rfl) (star_cons h')
theorem y_for (cx : Cxo X) (hc : X.calm = true) {iter : Expr} {body : List Stmt} {fit : Ev → R (List D)} {bd : D → Ev → Option Ev} {F : Ev → SR} (hi : PIz κ B X tg iter fit) (hg : ∀ B, PGz κ B X tg bd) (hb : ∀ B, PZs κ B X body F) (h : plI iter = true) : PZ κ B X (.For tg iter body [] pos) (zFor fit bd F) := pz_for cx hc hi hg hb (fold_no h)
/-- constants alone -/
def constsOf : List Expr → Option (List D)
  | [] => some []
  | .Constant (.int i) _ _ :: es => (constsOf es).map (D.int i :: ·)
  | .Constant (.bool i) _ _ :: es => (constsOf es).map (D.bl i :: ·)
  | .Constant (.str x) _ _ :: es => (constsOf es).map (D.str x.cps.toList :: ·)
  | _ => none
theorem ys_consts : ∀ {es : List Expr} {ds : List D}, constsOf es = some ds → PXs κ B X es (fun _ => .ok ds)
  | [], ds, h => by unfold constsOf at h; cases h; exact pxs_nil
  | e :: es, ds, h => by
    have step : ∀ {d : D} {e : Expr}, PX κ B X e (mC d) → noStar e = true → (constsOf es).map (d :: ·) = some ds → PXs κ B X (e :: es) (fun _ => .ok ds) := fun {d e} h1 h2 h3 => by
      cases q : constsOf es with
      | none => rw [q] at h3; cases h3
      | some r =>
        rw [q] at h3
        cases h3
        exact ys_cons h1 (ys_consts q) h2
    unfold constsOf at h
    split at h
    · rename_i e1; cases e1
    · rename_i e1; cases e1; exact step px_int rfl h
    · rename_i e1; cases e1; exact step px_bl rfl h
    · rename_i e1; cases e1; exact step (px_str rfl) rfl h
    · cases h
end
end L3

-- part L3g.lean
set_option Elab.async false
set_option linter.all false
set_option maxRecDepth 100000
namespace L3
open PySem PySem.Spec PyProof.Rows L2

/-! ## raise -/
abbrev bmV : List Value := [.type "ValueError", .type "Exception", .type "BaseException", .type "object"]
/-- a class of exceptions of the text: its name, its number -/
def ExcM (κ : Nat → Addr) (K : PySem.W.Frag) (mg : Str → Option Value) (x : Str) (c : Nat) : Prop := mg x = some (.ref (κ c)) ∧ PySem.W.excIn K (κ c) bmV "ValueError.__new__" = true
def ExcAt (κ : Nat → Addr) (X : Cx) (x : Str) (c : Nat) : Prop := ExcM κ X.K X.mg x c
theorem ExcM.at {κ : Nat → Addr} {K : PySem.W.Frag} {mg : Str → Option Value} {X : Cx} {x : Str} {c : Nat} (h : ExcM κ K mg x c) (e1 : X.K = K) (e2 : X.mg = mg) : ExcAt κ X x c := by
  unfold ExcAt; rw [e1, e2]; exact h
theorem exc_obj {K : PySem.W.Frag} {h : Heap} {C : Addr} {bmB : List Value} {newId : String} (X : K.In h) (q : PySem.W.excIn K C bmB newId = true) :
    ∃ bm N nm qn bs hdct sn sub ab col dd k0 k1 k2 k3 k5 mN, h.get? C = some (excClassObj nm qn C N bs bm hdct sn sub ab col dd k0 k1 k2 k3 k5 newId) ∧ h.Ns N mN ∧ mN "__init__" = none ∧ OwnTail h bmB bm := by
  unfold PySem.W.excIn at q
  split at q
  case h_2 => cases q
  rename_i dct cld slt look
  split at q
  case h_2 => cases q
  rename_i self bm z0 z1 z2 z3 nw z5 hmro hslots
  simp only [Bool.and_eq_true, beq_iff_eq, Bool.not_eq_true'] at q
  obtain ⟨⟨⟨⟨⟨es, en⟩, hdl⟩, htl⟩, hns⟩, hin⟩ := q
  subst es
  subst en
  obtain ⟨f1, f2, f3, f4, f5, f6, f7, f8, f9, f10, f11⟩ := cld
  dsimp only at hmro hdl hns hin
  subst hmro
  subst hdl
  have hsl : slt = #[z0, z1, z2, z3, some (.builtin nw), z5] := by
    cases slt with
    | mk l => simp only at hslots; rw [hslots]
  subst hsl
  exact ⟨bm, f4, f1, f5, f2, f6, f7, f8, f9, f10, dct, z0, z1, z2, z3, z5, _, X _ _ look, .of_isNs (PySem.W.isNs_of_in X hns), PySem.W.nsMap_none_of_in X hns hin, PySem.W.tail_of_in X htl⟩
section
variable {κ : Nat → Addr} {B : Gd} {X : Cx} {pos : Pos} {x : Str}
theorem pz_raise {cpos np p : Pos} {c : Nat} (cx : Cxo X) (hc : X.calm = true) (C : ExcAt κ X x c) (hg : Gl X x) {y : Str} {j : Nat} (hd : (x == ("__debug__" : Str)) = false) : PZ κ B X (.Raise (some (.Call (.Name x np) [.Constant (.str y) j p] [] cpos)) none pos) (fun δ => .exc c δ) := fun Ex pins s σ H G δ Dn hp I rp h => by
  obtain ⟨hm, hin⟩ := C
  obtain ⟨bm, N, nm, qn, bs, hdct, sn, sub, ab, col, dd, k0, k1, k2, k3, k5, mN, hC, hN, hni, T⟩ := exc_obj I.kIn hin
  refine wpAny_Raise_call_subT (C := κ c) (nm := nm) (q := qn) (N := N) (bs := bs) (bm := bm) (hdct := hdct) (sn := sn) (sub := sub) (ab := ab) (col := col) (dd := dd) (k0 := k0) (k1 := k1) (k2 := k2) (k3 := k3) (k5 := k5)
    PySem.F.excBase_ValueError (mN := mN) (T.hasType PySem.F.excBase_ValueError.hasBase) (I.ok.hd hc) rfl hni (ld_glob (X := X.wish Ex) I hg hm ⟨rfl, ?_⟩ hd)
  rw [star_cons (e := .Constant (.str y) j p) (es := []) rfl]
  refine Calls.evalArgs_plain ?_
  show wpAny _ _ (spliced ((false, eval (.Constant (.str y) j p) X.env) :: backTo cpos (starEach [] X.env))) _ _ s
  refine Calls.spliced_cons (Calls.Constant_str (pos := p) (k := j) ?_)
  refine Calls.spliced_nil ?_
  have I1 : Inv (X.wish Ex) pins σ H { s with toks := s.toks + 1 } := I.tok _
  refine ⟨rfl, by rw [sizeLine_eq]; show 1 ≤ 16777216; decide, hC, hN, T, fun h' e hmade => ?_⟩
  obtain ⟨t, he, htn, ht⟩ := hmade.there
  have ne : H e = none := by
    cases q : H e with
    | none => rfl
    | some o =>
      obtain ⟨u, hu⟩ := objOk_some (I.hok e o q)
      have := hmade.new
      rw [hu] at this; cases this
  have fr : FreshX (X.wish Ex) pins H e := freshX_of I1 cx.ex hmade.new ne
  refine h e { s with heap := h', toks := s.toks + 1 } σ H G (I.kept (t' := s.toks + 1) fun b u z => hmade.keeps b u z) ⟨⟨_, _, _, he, rfl, rfl, rfl, .inl rfl⟩, ⟨fr.nl, fr.nc, fr.np, fr.n0, fr.nh⟩⟩ rp
end

/-! ## try -/
def subX (c h : Nat) : Bool := c == h || h == 0
/-- which class of the text stands under which -/
def ExmM (κ : Nat → Addr) (K : PySem.W.Frag) (cs : List Nat) : Prop := ∀ c ∈ cs, ∀ h ∈ cs, PySem.W.exmOne K (.ref (κ c)) (.ref (κ h)) = some (subX c h)
def noExc : SR → SR
  | .exc _ _ => .stuck
  | r => r
def pick (mh : List (Nat × (Ev → SR))) (c : Nat) (δ : Ev) : SR := match mh with
  | [] => .stuck
  | (h, F) :: r => if subX c h then noExc (F δ) else pick r c δ
def tryZ (cs : List Nat) (F : Ev → SR) (mh : List (Nat × (Ev → SR))) : Ev → SR := fun δ => match F δ with
  | .exc c δ' => if cs.contains c then pick mh c δ' else .stuck
  | r => r
/-- within an except suite -/
abbrev Mk (X : Cx) (ea : Addr) : Cx := { X with A := X.A.mark (some (.ref ea)), calm := false }
theorem inv_mk {X : Cx} {Ex Ex' : Value → Shared → Prop} {pins : List (Addr × Obj)} {σ : St} {H : Hp} {s : Shared} {ea : Addr} (I : Inv (X.wish Ex) pins σ H s) : Inv ((Mk X ea).wish Ex') pins σ H s :=
  ⟨⟨I.ok.mod, I.ok.kind, I.ok.glob, I.ok.blt, I.ok.above, I.ok.inj, I.ok.has, I.ok.cab, (fun z => nomatch z), I.ok.frames, I.ok.stk, I.ok.exf, I.ok.bs, I.ok.bsz, I.ok.noex, I.ok.exfs, I.ok.funs, I.ok.frf⟩, I.os, I.bare, I.base, I.loc, I.cell, I.free, I.freeC, I.pin, I.hok, I.len, I.sgm⟩
theorem inv_unmk {X : Cx} {Ex Ex' : Value → Shared → Prop} {pins : List (Addr × Obj)} {σ : St} {H : Hp} {s : Shared} {ea : Addr} (hd : X.A.handled = none) (I : Inv ((Mk X ea).wish Ex') pins σ H s) : Inv (X.wish Ex) pins σ H s :=
  ⟨⟨I.ok.mod, I.ok.kind, I.ok.glob, I.ok.blt, I.ok.above, I.ok.inj, I.ok.has, I.ok.cab, fun _ => hd, I.ok.frames, I.ok.stk, I.ok.exf, I.ok.bs, I.ok.bsz, I.ok.noex, I.ok.exfs, I.ok.funs, I.ok.frf⟩, I.os, I.bare, I.base, I.loc, I.cell, I.free, I.freeC, I.pin, I.hok, I.len, I.sgm⟩
theorem SP.unmk {X : Cx} {Ex Ex' : Value → Shared → Prop} {pins : List (Addr × Obj)} {s : Shared} {ea : Addr} {Dn : Ends} {f : Flow} (hd : X.A.handled = none) (h : SP ((Mk X ea).wish Ex') pins Dn f s) : SP (X.wish Ex) pins Dn f s := by
  cases f with
  | next => obtain ⟨σ', H', I, q⟩ := h; exact ⟨σ', H', inv_unmk hd I, q⟩
  | brk => obtain ⟨σ', H', I, q⟩ := h; exact ⟨σ', H', inv_unmk hd I, q⟩
  | cont => obtain ⟨σ', H', I, q⟩ := h; exact ⟨σ', H', inv_unmk hd I, q⟩
  | ret u => obtain ⟨v, σ', H', I, r, q⟩ := h; exact ⟨v, σ', H', inv_unmk hd I, r, q⟩
section
variable {κ : Nat → Addr} {B : Gd} {X : Cx} {pos : Pos} {Ex : Value → Shared → Prop} {pins : List (Addr × Obj)} {s : Shared} {σ : St} {H G : Hp} {δ : Ev} {Dn : Ends} {ea : Addr} {C : Value}
/-- it has a traceback already -/
def Trcd (h : Heap) (ea : Addr) : Prop := ∃ oe vs T, h.get? ea = some oe ∧ oe.data = .fields vs ∧ vs[1]? = some (.ref T)
/-- the exception noted in this frame, flying on -/
theorem noted_ok {M : Model} {E' : Value → Shared → Prop} {Q : Unit → Shared → Prop} (I : Inv (X.wish Ex) pins σ H s) (hex : X.ex = []) (fm : FrmOk X) (F : Flies X pins H s ea C)
    (k : ∀ h', Inv (X.wish Ex) pins σ H { s with heap := h' } → Flies X pins H { s with heap := h' } ea C → Trcd h' ea → Q () { s with heap := h' }) :
    wpAny M X.A (noteFrame (.ref ea) X.env) (fun _ s₂ => wpAny M X.A (setFlight (.ref ea) none) Q E' s₂) E' s := by
  obtain ⟨oe, vs, a0, t1, t2, t3, t4, t5⟩ := F.ex
  have hfr : X.A.frames = some (X.env :: X.outer) := by rw [← fm.st]; exact I.ok.frames
  have frs0 : ∀ l, s.heap.FunFrames (gnd (X.wish Ex) s l) (X.env :: X.outer) := fun l => by
    have := gnd_frames I (l := l)
    rw [show (X.wish Ex).stack = X.env :: X.outer from fm.st] at this
    exact this
  have fin : ∀ (l : List Addr) (h' : Heap), (∀ b ∈ l, FreshX X pins H b) → ea ∈ l → Heap.FlyingW (gnd (X.wish Ex) s l) (X.env :: X.outer) ea C a0 h' → s.heap.UpToSlots h' → Q () { s with heap := h' } := by
    intro l h' hl he hF up
    obtain ⟨k1, k2, k3, oe', vs', T, oT, ts, g1, ⟨g2, g3⟩, g4, g5, g6, g7, g8, g9, g10⟩ := hF
    have stk0 : ∀ b o, b ∈ frs X.stack → s.heap.get? b = some o → ∀ vs, o.data ≠ .fields vs := fun b o hb e => by
      obtain ⟨_, o', e', d⟩ := I.stack.mem hb
      rw [e] at e'; cases e'; exact d
    have hl' : ∀ b ∈ l, FreshX (X.wish Ex) pins H b := fun b hb => ⟨(hl b hb).nl, (hl b hb).nc, (hl b hb).np, (hl b hb).n0, (hl b hb).nh⟩
    have I' : Inv (X.wish Ex) pins σ H { s with heap := h' } := inv_noted I hl' (fun b o n1 n2 e => k1 b o (gnd_get e n1 n2)) (fun b o hb e => up b o e (stk0 b o hb e))
    have Tn : ∀ o, s.heap.get? T = some o → T ∈ l := fun o e => by
      refine Classical.byContradiction fun n => ?_
      have ns : T ∉ frs X.stack := fun z => by
        obtain ⟨_, o', e', d⟩ := k3.mem (by rw [fm.st] at z; exact z)
        rw [g8] at e'; cases e'; exact d ts g9
      have := gnd_get (X := X.wish Ex) e ns n
      rw [g6] at this; cases this
    have fT : FreshX X pins H T := by
      by_cases hT : T ∈ l
      · exact hl T hT
      · have e0 : s.heap.get? T = none := by
          cases q : s.heap.get? T with
          | none => rfl
          | some o => exact absurd (Tn o q) hT
        have := freshX_of I hex (H' := H) e0 (by
          cases q : H T with
          | none => rfl
          | some o =>
            obtain ⟨u, e1⟩ := objOk_some (I.hok T o q)
            rw [e0] at e1; cases e1)
        exact ⟨this.nl, this.nc, this.np, this.n0, this.nh⟩
    exact k h' I' ⟨⟨oe', vs', a0, g1, g2, g4, g3, .inr ⟨T, oT, ts, g5, g7, g8, g9, g10, fT⟩⟩, hl ea he⟩ ⟨oe', vs', T, g1, g4, g5⟩
  rcases t5 with t5 | ⟨T, oT, ts, t5, t6, t7, t8, t9, fT⟩
  · unfold noteFrame
    simp only [fm.fr]
    refine wpAny_bind (wpAny_field t1 t3 t5 ?_)
    rw [if_neg (by decide)]
    refine wpAny_entryW (base := gnd (X.wish Ex) s [ea]) (a0 := a0) hfr (frs0 [ea]) fm.fr t1 gnd_stays (gnd_none (by simp)) t3 (Array.getElem?_eq_some_iff.mp t5).1 t4 fun h1 hN => ?_
    rw [t2] at hN
    obtain ⟨n1, n2, n3, n4⟩ := hN
    refine wpAny_landsW (base := gnd (X.wish Ex) s [ea]) (l := X.env :: X.outer) (L := X.env.locals) (cls := C) (a0 := a0) ⟨n1, gnd_none (by simp), n2, n3⟩ fun h2 hF up2 => ?_
    exact fin [ea] h2 (fun b hb => by simp at hb; subst hb; exact F.fr) (by simp) hF (Heap.UpToSlots.trans n4 up2)
  · refine wpAny_looks_onW (base := gnd (X.wish Ex) s [ea, T]) (cls := C) (a0 := a0) hfr fm.fr ⟨gnd_stays, gnd_none (by simp), frs0 _, oe, vs, T, oT, ts, t1, ⟨t2, t4⟩, t3, t5, gnd_none (by simp), t6, t7, t8, t9⟩ fun h1 hH up1 => ?_
    refine wpAny_landsW hH fun h2 hF up2 => ?_
    exact fin [ea, T] h2 (fun b hb => by
      simp at hb
      rcases hb with rfl | rfl
      · exact F.fr
      · exact fT) (by simp) hF (up1.trans up2)
/-- the clauses of a try -/
def PHs (κ : Nat → Addr) (B : Gd) (X : Cx) (cs : List Nat) (hs : List ExceptHandler) (mh : List (Nat × (Ev → SR))) : Prop := ∀ Ex pins s σ H G δ Dn ea c, c ∈ cs → Inv (X.wish Ex) pins σ H s → Flies X pins H s ea (.ref (κ c)) → Trcd s.heap ea → Rep ⟨X.K, κ⟩ B X.H₀ G H σ δ → SPost κ B X Ex pins Dn (pick mh c δ) →
  wpAny (model X.prog X.w) X.A (handleBy (.ref ea) X.env hs) (SP (X.wish Ex) pins Dn) Ex s
theorem phs_nil {cs : List Nat} : PHs κ B X cs [] [] := fun Ex pins s σ H G δ Dn ea c hc I F tr rp h => False.elim h
theorem spost_mk {r : SR} {ea : Addr} (h : SPost κ B X Ex pins Dn (noExc r)) : SPost κ B (Mk X ea) (fun _ _ => False) pins Dn r := by
  cases r with
  | exc c δ => exact False.elim h
  | next δ => exact h
  | brk δ => exact h
  | cont δ => exact h
  | ret d => exact h
  | stuck => exact h
theorem phs_cons (cx : Cxo X) (hcalm : X.calm = true) (fm : FrmOk X) {cs : List Nat} (xm : ExmM κ X.K cs) {x : Str} {c : Nat} (hx : X.mg x = some (.ref (κ c))) (hin : c ∈ cs) (hg : Gl X x) (hdb : (x == ("__debug__" : Str)) = false) {np : Pos} {b0 : Stmt} {suite : List Stmt} {rest : List ExceptHandler} {F : Ev → SR} {mh : List (Nat × (Ev → SR))}
    (hF : ∀ ea, PZs κ B (Mk X ea) (b0 :: suite) F) (hr : PHs κ B X cs rest mh) : PHs κ B X cs (.ExceptHandler (some (.Name x np)) none (b0 :: suite) pos :: rest) ((c, F) :: mh) := fun Ex pins s σ H G δ Dn ea cc hcc I Fl tr rp h => by
  have hd : X.A.handled = none := I.ok.hd hcalm
  have hm := xm cc hcc c hin
  refine wpAny_handleBy_cons (codeAny_handlers_test ?_) (by intro q; cases q)
  have I' : Inv ((Mk X ea).wish fun _ _ => False) pins σ H s := inv_mk I
  refine wpAny_mono (ld_glob (X := (Mk X ea).wish fun _ _ => False) (E := fun _ _ => False) (Q := fun u s' => u = .ref (κ c) ∧ s' = s) I' hg hx ⟨rfl, rfl⟩ hdb) (fun u s' ⟨e1, e2⟩ => ?_) (fun _ _ z => z.elim)
  subst e1
  subst e2
  obtain ⟨oe, vs, a0, t1, t2, t3, t4, t5⟩ := Fl.ex
  have LT : PySem.W.Looks (model X.prog X.w) s'.heap (typeOf (.ref ea)) (.ref (κ cc)) := by
    rw [← t2]
    exact (PySem.W.Looks.ld t1).andThen .now
  refine PySem.W.exm_one (I.kIn) LT hm _ _ _ _ (fun _ _ z => z) ?_
  unfold pick at h
  cases q : subX cc c with
  | false =>
    rw [q] at h
    exact hr Ex pins s' σ H G δ Dn ea cc hcc I Fl tr rp h
  | true =>
    rw [q] at h
    refine codeAny_handlers_suite ?_
    -- the flight is ended once more
    have go : ∀ (l : List Addr) (h' : Heap), (∀ b ∈ l, FreshX X pins H b) → (gnd (X.wish Ex) s' l).StaysIn h' → s'.heap.UpToSlots h' →
        wpAny (model X.prog X.w) (X.A.mark (some (.ref ea))) (execs (b0 :: suite) X.env) (SP (X.wish Ex) pins Dn) (fun _ _ => False) { s' with heap := h' } := fun l h' hl k1 up => by
      have stk0 : ∀ b o, b ∈ frs X.stack → s'.heap.get? b = some o → ∀ vs, o.data ≠ .fields vs := fun b o hb e => by
        obtain ⟨_, o', e', d⟩ := I.stack.mem hb
        rw [e] at e'; cases e'; exact d
      have hl' : ∀ b ∈ l, FreshX (X.wish Ex) pins H b := fun b hb => ⟨(hl b hb).nl, (hl b hb).nc, (hl b hb).np, (hl b hb).n0, (hl b hb).nh⟩
      have I2 : Inv (X.wish Ex) pins σ H { s' with heap := h' } := inv_noted I hl' (fun b o n1 n2 e => k1 b o (gnd_get e n1 n2)) (fun b o hb e => up b o e (stk0 b o hb e))
      exact thn (hF ea (fun _ _ => False) pins _ σ H G δ Dn PassesOwn.never (inv_mk I2) rp (spost_mk h)) fun f s3 q3 => SP.unmk hd q3
    have frs0 : ∀ l, s'.heap.FunFrames (gnd (X.wish Ex) s' l) (X.env :: X.outer) := fun l => by
      have := gnd_frames I (l := l)
      rw [show (X.wish Ex).stack = X.env :: X.outer from fm.st] at this
      exact this
    rcases t5 with t5 | ⟨T, oT, ts, t5, t6, t7, t8, t9, fT⟩
    · obtain ⟨oe2, vs2, T2, r1, r2, r3⟩ := tr
      rw [t1] at r1; cases r1
      rw [t3] at r2; cases r2
      rw [t5] at r3; cases r3
    · refine lands_againW (base := gnd (X.wish Ex) s' [ea, T]) (l := X.env :: X.outer) (cls := .ref (κ cc)) (a0 := a0) ⟨gnd_stays, gnd_none (by simp), frs0 _, oe, vs, T, oT, ts, t1, ⟨t2, t4⟩, t3, t5, gnd_none (by simp), t6, t7, t8, t9⟩ fun h' hFl up => ?_
      refine wpAny_mono (go [ea, T] h' (fun b hb => by
        simp at hb
        rcases hb with rfl | rfl
        · exact Fl.fr
        · exact fT) hFl.1 up) (fun f s2 z => z) fun _ _ z => z.elim
theorem pz_try (cx : Cxo X) (fm : FrmOk X) {cs : List Nat} {body : List Stmt} {h0 : ExceptHandler} {hs : List ExceptHandler} {F : Ev → SR} {mh : List (Nat × (Ev → SR))} (hb : PZs κ B X body F) (hh : PHs κ B X cs (h0 :: hs) mh) : PZ κ B X (.Try body (h0 :: hs) [] [] pos) (tryZ cs F mh) := fun Ex pins s σ H G δ Dn hp I rp h => by
  refine wpAny_Try_except ?_
  refine wpAny_mono (hb (fun e s₁ => wpAny (model X.prog X.w) X.A (noteFrame e X.env) (fun _ s₂ => wpAny (model X.prog X.w) X.A (setFlight e none) (fun _ s₃ => wpAny (model X.prog X.w) X.A (handleBy e X.env (h0 :: hs)) (SP (X.wish Ex) pins Dn) Ex s₃) Ex s₂) Ex s₁) pins s σ H G δ Dn PassesOwn.looking (I.unwish.wish _) rp ?_) (fun f s1 q => ?_) fun e s1 q => q
  · unfold tryZ at h
    cases q : F δ with
    | exc c δ' =>
      rw [q] at h
      intro ea s' σ' H' G' I' F' r'
      simp only at h
      split at h
      · rename_i hc
        have hc : c ∈ cs := by simpa using hc
        refine noted_ok (Ex := Ex) (I'.unwish.wish Ex) cx.ex fm F' fun h' I2 F2 tr2 => ?_
        exact hh Ex pins _ σ' H' G' δ' Dn ea c hc I2 F2 tr2 r' h
      · exact False.elim h
    | next δ' => rw [q] at h; exact h
    | brk δ' => rw [q] at h; exact h
    | cont δ' => rw [q] at h; exact h
    | ret d => rw [q] at h; exact h
    | stuck => rw [q] at h; exact h
  · cases f with
    | next =>
      obtain ⟨σ', H', I', q⟩ := q
      exact wpAny_execs_nil ⟨σ', H', I'.unwish.wish Ex, q⟩
    | brk => obtain ⟨σ', H', I', q⟩ := q; exact ⟨σ', H', I'.unwish.wish Ex, q⟩
    | cont => obtain ⟨σ', H', I', q⟩ := q; exact ⟨σ', H', I'.unwish.wish Ex, q⟩
    | ret u => obtain ⟨v, σ', H', I', r, q⟩ := q; exact ⟨v, σ', H', I'.unwish.wish Ex, r, q⟩
end
end L3

-- part L3s.lean
set_option Elab.async false
set_option linter.all false
set_option maxRecDepth 100000
namespace L3
open PySem PySem.Spec PyProof.Rows L2
/-! ## more built-ins -/
section
variable {κ : Nat → Addr} {B : Gd} {X : Cx} {a b c : Expr} {fa fb : Ev → R D} {fs : Ev → R (List D)} {es : List Expr} {pos p : Pos}
def mCB (o : List D → R D) (fs : Ev → R (List D)) : Ev → R D := fun δ => (fs δ).bind o
def oMin : List D → R D
  | [.int i, .int j] => .ok (.int (if j < i then j else i))
  | _ => .stuck
def oMax : List D → R D
  | [.int i, .int j] => .ok (.int (if j > i then j else i))
  | _ => .stuck
theorem boot_min' : bootBuiltins "min" = some (.builtin "min") := by decide +kernel
theorem boot_max' : bootBuiltins "max" = some (.builtin "max") := by decide +kernel
theorem y_min (hc : X.calm = true) (hg : Gl X "min") (hm : X.mg "min" = none) (ha : PXs κ B X [a, b] fs) (h : noStar a = true) (h' : noStar b = true) : PX κ B X (.Call (.Name "min" p) [a, b] [] pos) (mCB oMin fs) := fun pins σ Ex =>
  pe_imp (pe_callB (X := At X pins σ Ex) (call_min2 hc) hg hm boot_min' (ha pins σ Ex) (by decide) (by decide) (star_cons h) (back_any (by simp [h']))) fun τ H Q ⟨G, δ, rp, q⟩ => ⟨G, δ, rp, q.seq fun x v H1 G1 e1 d1 q1 => by
    unfold oMin at q1
    split at q1
    · rename_i i j
      exact ⟨i, j, dens_int2 d1, q1 _ H1 G1 (Ext.refl e1.GH) dInt⟩
    · exact False.elim q1⟩
theorem y_max (hc : X.calm = true) (hg : Gl X "max") (hm : X.mg "max" = none) (ha : PXs κ B X [a, b] fs) (h : noStar a = true) (h' : noStar b = true) : PX κ B X (.Call (.Name "max" p) [a, b] [] pos) (mCB oMax fs) := fun pins σ Ex =>
  pe_imp (pe_callB (X := At X pins σ Ex) (call_max2 hc) hg hm boot_max' (ha pins σ Ex) (by decide) (by decide) (star_cons h) (back_any (by simp [h']))) fun τ H Q ⟨G, δ, rp, q⟩ => ⟨G, δ, rp, q.seq fun x v H1 G1 e1 d1 q1 => by
    unfold oMax at q1
    split at q1
    · rename_i i j
      exact ⟨i, j, dens_int2 d1, q1 _ H1 G1 (Ext.refl e1.GH) dInt⟩
    · exact False.elim q1⟩
def oInt : List D → R D
  | [.int i] => .ok (.int i)
  | [.bl k] => .ok (.int (if k then 1 else 0))
  | _ => .stuck
theorem y_toint (hg : Gl X "int") (hm : X.mg "int" = none) (ha : PXs κ B X [a] fs) (h : noStar a = true) : PX κ B X (.Call (.Name "int" p) [a] [] pos) (mCB oInt fs) := fun pins σ Ex =>
  pe_imp (pe_callTy (X := At X pins σ Ex) call_int1 hg hm (boot_ty .int) (ha pins σ Ex) (by decide) (by decide) (star_cons h) (back_any rfl)) fun τ H Q ⟨G, δ, rp, q⟩ => ⟨G, δ, rp, q.seq fun x v H1 G1 e1 d1 q1 => by
    unfold oInt at q1
    split at q1
    · rename_i i
      exact .inl ⟨i, dens_int1 d1, q1 _ H1 G1 (Ext.refl e1.GH) dInt⟩
    · rename_i k
      refine .inr ⟨k, ?_, q1 _ H1 G1 (Ext.refl e1.GH) dInt⟩
      match v, d1 with
      | [w], d1 => unfold dsRel Dens at d1; have := d1.1; unfold Den at this; rw [this]
      | [], d1 => unfold dsRel Dens at d1; exact d1.elim
      | _ :: _ :: _, d1 => unfold dsRel Dens at d1; have := d1.2; unfold Dens at this; exact this.elim
    · exact False.elim q1⟩
/-! ## slices -/
def PXo (κ : Nat → Addr) (B : Gd) (X : Cx) (e : Option Expr) (f : Ev → R (Option Int)) : Prop := ∀ pins σ Ex, PO (At X pins σ Ex) e (tO (fun _ _ (a : Option Int) b => a = b) X κ B (EX X pins σ Ex) f)
theorem po_imp {Y : Cx} {e : Option Expr} {t t' : TO} (h : PO Y e t) (k : ∀ σ H Q, t' σ H Q → t σ H Q) : PO Y e t' := fun pins s σ H Q I q => h pins s σ H Q I (k σ H Q q)
def mNoP : Ev → R (Option Int) := fun _ => .ok none
def mP (f : Ev → R D) : Ev → R (Option Int) := fun δ => (f δ).bind fun d => match d with
  | .int i => .ok (some i)
  | _ => .stuck
theorem pxo_none : PXo κ B X none mNoP := fun pins σ Ex => po_imp po_none fun τ H Q ⟨G, δ, rp, q⟩ => q none H G (Ext.refl rp.GH) rfl
theorem pxo_some (h : PX κ B X a fa) : PXo κ B X (some a) (mP fa) := fun pins σ Ex => po_imp (po_some (h pins σ Ex)) fun τ H Q ⟨G, δ, rp, q⟩ => ⟨G, δ, rp, q.seq fun x v H1 G1 e1 d1 q1 => by
  cases x with
  | int i =>
    unfold dRel Den at d1
    exact ⟨i, d1, q1 _ H1 G1 (Ext.refl e1.GH) rfl⟩
  | _ => exact False.elim q1⟩
def cutD {α : Type} (xs : List α) (lo hi : Option Int) : List α := (xs.drop (HT.sIx xs.length 0 lo)).take (HT.sIx xs.length xs.length hi - HT.sIx xs.length 0 lo)
theorem dens_cut {Z : Zx} {G : Hp} {vs : List V} {ds : List D} (h : Dens Z G vs ds) (lo hi : Option Int) : Dens Z G (cutV vs lo hi) (cutD ds lo hi) := by
  unfold cutV cutD
  rw [h.length]
  exact (h.drop _).take _
end
end L3

-- part L3t.lean
set_option Elab.async false
set_option linter.all false
set_option maxRecDepth 100000
namespace L3
open PySem PySem.Spec PyProof.Rows L2
/-! ## texts -/
theorem clip_sIx (n d : Nat) (v : Option Int) (hd : d ≤ n) : (match v with | none => ((d : Nat) : Int) | some i => (if (1 : Int) > 0 then max 0 (min (if i < 0 then i + (n : Int) else i) (n : Int)) else max (-1) (min (if i < 0 then i + (n : Int) else i) ((n : Int) - 1)))) = ((HT.sIx n d v : Nat) : Int) := by
  cases v with
  | none => rfl
  | some i =>
    simp only [show (1 : Int) > 0 by decide, if_true, HT.sIx]
    by_cases h : i < 0
    · simp only [h, if_true]; omega
    · simp only [h, if_false]; omega
theorem idx_sIx (lo hi : Option Int) (n : Nat) : Builtin.Str.strSliceIndices lo hi 1 n = sliceRange ((HT.sIx n 0 lo : Nat) : Int) ((HT.sIx n n hi : Nat) : Int) 1 := by
  rw [← clip_sIx n 0 lo (Nat.zero_le _), ← clip_sIx n n hi (Nat.le_refl _)]
  cases lo <;> cases hi <;> rfl
theorem sIx_le (n d : Nat) (v : Option Int) (hd : d ≤ n) (hv : ∀ i, v = some i → i < 0 → i + n ≤ n) : HT.sIx n d v ≤ n := by
  cases v with
  | none => exact hd
  | some i =>
    show (if i < 0 then (i + (n : Int)).toNat else min i.toNat n) ≤ n
    split <;> omega
theorem txt_cut (l : List Nat) (lo hi : Option Int) : Txt.slice ⟨l.toArray⟩ lo hi = ⟨(cutD l lo hi).toArray⟩ := by
  have hlen : (⟨l.toArray⟩ : Str).length = l.length := by simp [Str.length]
  unfold Txt.slice cutD
  rw [hlen, idx_sIx, sliceRange_one]
  have hb : HT.sIx l.length l.length hi ≤ l.length := sIx_le _ _ _ (Nat.le_refl _) fun i _ h => by omega
  generalize HT.sIx l.length 0 lo = a
  generalize HT.sIx l.length l.length hi = b at hb
  by_cases c : b - a = l.length
  · rw [if_pos (by simp [c])]
    have e : l.length = 0 ∨ (a = 0 ∧ b = l.length) := by omega
    rcases e with e | ⟨rfl, rfl⟩
    · have : l = [] := List.length_eq_zero_iff.mp e
      subst this
      simp
    · simp
  · rw [if_neg (by simp [c])]
    rw [pick_run]
def rSlS : V → Option Int → Option Int → Hp → VK → Prop := fun x lo hi H Q => ∃ l : List Nat, x = stV l ∧ l.length ≤ 1000000 ∧ Q (stV (cutD l lo hi)) H
def partO : Value → Option (Int × Tok)
  | .int i t => some (i, t)
  | _ => none
theorem cutD_len {α : Type} (l : List α) (lo hi : Option Int) : (cutD l lo hi).length ≤ l.length := by
  unfold cutD
  rw [List.length_take, List.length_drop]
  omega
theorem sl_str {X : Cx} : SlR X rSlS := by
  intro pins s σ H x v vl vu lo hi sl Q I rx hs pl pu ⟨l, e, hz, q⟩
  subst e
  obtain ⟨t, rfl⟩ := rx
  refine ⟨"str", _, slot_str_getitem.lookup, typeIs_str _ _ _, ?_⟩
  obtain ⟨o, ho, hc, hd⟩ := hs
  have h1 : vl = partValue (partO vl) ∧ (partO vl).map (·.1) = lo := by cases pl <;> exact ⟨rfl, rfl⟩
  have h2 : vu = partValue (partO vu) ∧ (partO vu).map (·.1) = hi := by cases pu <;> exact ⟨rfl, rfl⟩
  refine wpAny_getItem_str_slice (l := partO vl) (u := partO vu) (st := none) ⟨o, ho, hc, by rw [hd, ← h1.1, ← h2.1]; rfl⟩ rfl ?_
  have e2 : Txt.slice ⟨l.toArray⟩ lo hi = ⟨(cutD l lo hi).toArray⟩ := txt_cut l lo hi
  unfold sliceMade slicePicked
  rw [h1.2, h2.2]
  refine post_val_or_str ?_
  have e3 : ∀ P : Str → Prop, P (Txt.slice ⟨l.toArray⟩ lo hi) → P (if ((Option.map (fun x : Int × Tok => x.fst) none).getD 1 == 1 && (Builtin.Str.strSliceIndices lo hi ((Option.map (fun x : Int × Tok => x.fst) none).getD 1) (⟨l.toArray⟩ : Str).length).length == (⟨l.toArray⟩ : Str).length) = true then ⟨l.toArray⟩ else ⟨((Builtin.Str.strSliceIndices lo hi ((Option.map (fun x : Int × Tok => x.fst) none).getD 1) (⟨l.toArray⟩ : Str).length).filterMap ((⟨l.toArray⟩ : Str).cps[·]?)).toArray⟩) := fun P h => h
  refine e3 (fun z => z.length ≤ sizeLine ∧ ∀ t' k, (EP X pins σ Q) (.str z t') { s with toks := k }) ?_
  rw [e2]
  refine ⟨?_, fun t' k => ⟨stV (cutD l lo hi), H, I.tok _, ⟨_, rfl⟩, q⟩⟩
  have := cutD_len l lo hi
  simp only [Str.length, List.size_toArray]
  have : (1000000 : Nat) ≤ sizeLine := by decide
  omega
section
variable {κ : Nat → Addr} {B : Gd} {X : Cx} {a b : Expr} {fa fb : Ev → R D} {pos : Pos}
def oSl (x : D) (lo hi : Option Int) : R D := match x with
  | .tup ds => if HT.sIx ds.length 0 lo = 0 ∧ HT.sIx ds.length ds.length hi = ds.length then .stuck else .ok (.tup (cutD ds lo hi))
  | .lst ds => .ok (.lst (cutD ds lo hi))
  | .str l => if l.length ≤ 1000000 then .ok (.str (cutD l lo hi)) else .stuck
  | _ => .stuck
def mSl (fa : Ev → R D) (fl fh : Ev → R (Option Int)) : Ev → R D := fun δ => (fa δ).bind fun x => (fl δ).bind fun l => (fh δ).bind fun u => oSl x l u
theorem y_sl {lo hi : Option Expr} {fl fh : Ev → R (Option Int)} {p2 : Pos} (ha : PXr κ B X a fa) (hl : PXo κ B X lo fl) (hh : PXo κ B X hi fh) : PX κ B X (.Subscript a (.Slice lo hi none p2) pos) (mSl fa fl fh) := fun pins σ Ex =>
  pe_imp (pe_slice (X := At X pins σ Ex) (SlR.or sl_tup (SlR.or sl_list sl_str)) (ha pins σ Ex) (hl pins σ Ex) (hh pins σ Ex)) fun τ H Q ⟨G, δ, rp, q⟩ => ⟨G, δ, rp, q.seq fun x v H1 G1 e1 d1 q1 => ⟨G1, δ, rp.ext e1, q1.seq fun l lv H2 G2 e2 d2 q2 => ⟨G2, δ, (rp.ext e1).ext e2, q2.seq fun u uv H3 G3 e3 d3 q3 => by
    subst d2
    subst d3
    have d1' := rRel_mono (e2.trans e3) d1
    cases x with
    | tup ds =>
      rcases d1' with d | ⟨_, _, _, _, z, _⟩
      · unfold Den at d
        obtain ⟨y, vs, rfl, h1, h2⟩ := d
        simp only [oSl] at q3
        split at q3
        · exact False.elim q3
        · rename_i hw
          refine .inl ⟨y, vs, rfl, same_seqT e3.GH h1, by rw [h2.length]; exact hw, fun p hp => ?_⟩
          have e := ext_new (o := .tup (cutV vs lv uv)) e3.GH hp
          exact q3 _ _ _ e (by unfold dRel Den; exact ⟨p, _, rfl, SqT.of upd_same, (dens_cut h2 lv uv).mono e.sG⟩)
      · cases z
    | lst ds =>
      have main : ∀ (y : Addr) (vs : List V), SqL X.K H3 y vs → Dens ⟨X.K, κ⟩ G3 vs ds → rSlL X.K (.ref y) lv uv H3 Q := fun y vs h1 h2 => by
        refine ⟨y, vs, rfl, h1, fun p hp => ?_⟩
        have e := ext_new (o := .lst (cutV vs lv uv)) e3.GH hp
        exact q3 _ _ _ e (by unfold dRel Den; exact ⟨p, _, rfl, SqL.of upd_same, (dens_cut h2 lv uv).mono e.sG⟩)
      rcases d1' with d | ⟨y, vs, _, rfl, z, h1, h2⟩
      · unfold Den at d
        obtain ⟨y, vs, rfl, h1, h2⟩ := d
        exact .inr (.inl (main y vs (e3.GH.seq h1) h2))
      · cases z
        exact .inr (.inl (main y vs (SqL.of h1) h2))
    | str l =>
      simp only [oSl] at q3
      split at q3
      · rename_i hz
        have dd : v = stV l := by
          rcases d1' with d | ⟨_, _, _, _, z, _⟩
          · unfold Den at d; exact d
          · cases z
        exact .inr (.inr ⟨l, dd, hz, q3 _ _ _ (Ext.refl e3.GH) (by unfold dRel Den; rfl)⟩)
      · exact False.elim q3
    | _ => exact False.elim q3⟩⟩⟩
/-! ### in, not in -/
def flatD : D → Bool
  | .non | .bl _ | .int _ | .str _ => true
  | _ => false
def eqF : D → D → Bool
  | .non, .non => true
  | .bl a, .bl b => a == b
  | .bl a, .int b => (if a then 1 else 0) == b
  | .int a, .bl b => a == (if b then 1 else 0)
  | .int a, .int b => a == b
  | .str a, .str b => a == b
  | _, _ => false
theorem den_flat {Z : Zx} {G : Hp} {v : V} {d : D} (h : Den Z G v d) (f : flatD d = true) : flatV v = true := by
  cases d with
  | non => unfold Den at h; subst h; rfl
  | bl _ => unfold Den at h; subst h; rfl
  | int _ => unfold Den at h; subst h; rfl
  | str _ => unfold Den at h; subst h; rfl
  | _ => cases f
theorem str_beq (a b : List Nat) : ((⟨a.toArray⟩ : Str) == ⟨b.toArray⟩) = (a == b) := by
  rw [Bool.eq_iff_iff, beq_iff_eq, beq_iff_eq]
  constructor
  · intro h
    have := congrArg (fun z : Str => z.cps.toList) h
    simpa using this
  · intro h; rw [h]
theorem den_eqF {Z : Zx} {G : Hp} {v u : V} {d e : D} (h : Den Z G v d) (h' : Den Z G u e) (f : flatD d = true) (f' : flatD e = true) : eqV v u = eqF d e := by
  cases d <;> first | (cases f; done) | (cases e <;> first | (cases f'; done) | (unfold Den at h h'; subst h; subst h'; first | rfl | exact str_beq _ _))
theorem dens_in {Z : Zx} {G : Hp} {v : V} {d : D} (h : Den Z G v d) (f : flatD d = true) : ∀ {vs : List V} {ds : List D}, Dens Z G vs ds → ds.all flatD = true → vs.all flatV = true ∧ inV v vs = ds.any fun e => eqF e d
  | [], [], _, _ => ⟨rfl, rfl⟩
  | w :: vs, e :: ds, hd, hf => by
    unfold Dens at hd
    simp only [List.all_cons, Bool.and_eq_true] at hf
    obtain ⟨i1, i2⟩ := dens_in h f hd.2 hf.2
    refine ⟨by simp only [List.all_cons, Bool.and_eq_true]; exact ⟨den_flat hd.1 hf.1, i1⟩, ?_⟩
    show (eqV w v || inV v vs) = _
    rw [i2, den_eqF hd.1 h hf.1 f]
    rfl
  | [], _ :: _, hd, _ => by unfold Dens at hd; exact hd.elim
  | _ :: _, [], hd, _ => by unfold Dens at hd; exact hd.elim
def inB (x y : D) : R Bool := match y with
  | .lst ds => if flatD x && ds.all flatD then .ok (ds.any fun e => eqF e x) else .stuck
  | .tup ds => if flatD x && ds.all flatD then .ok (ds.any fun e => eqF e x) else .stuck
  | .str j => match x with
    | .str i => .ok (!(Builtin.Str.occurrences ⟨j.toArray⟩ ⟨i.toArray⟩ 0 (⟨j.toArray⟩ : Str).length 1).isEmpty)
    | _ => .stuck
  | _ => .stuck
def oIn (x y : D) : R Bool := inB x y
def oNin (x y : D) : R Bool := (inB x y).bind fun k => .ok (!k)
theorem inB_rel {x y : D} {v u : V} {G H : Hp} {k : Bool} (sm : Same G H) (d1 : rRel X κ G H v x) (d2 : rRel X κ G H u y) (h : inB x y = .ok k) :
    (∃ p xs, u = .ref p ∧ (SqL X.K H p xs ∨ SqT X.K H p xs) ∧ flatV v = true ∧ xs.all flatV = true ∧ inV v xs = k) ∨ (∃ i j, v = .str i ∧ u = .str j ∧ (!(Builtin.Str.occurrences j i 0 j.length 1).isEmpty) = k) := by
  have seq : ∀ {ds : List D} {vs : List V}, Dens ⟨X.K, κ⟩ G vs ds → (if flatD x && ds.all flatD then R.ok (ds.any fun e => eqF e x) else .stuck) = .ok k → flatV v = true ∧ vs.all flatV = true ∧ inV v vs = k := fun {ds vs} hd e => by
    split at e
    · rename_i hf
      rw [Bool.and_eq_true] at hf
      have dx : Den ⟨X.K, κ⟩ G v x := by
        rcases d1 with d | ⟨_, _, _, _, z, _⟩
        · exact d
        · rw [z] at hf; cases hf.1
      obtain ⟨i1, i2⟩ := dens_in dx hf.1 hd hf.2
      cases e
      exact ⟨den_flat dx hf.1, i1, i2⟩
    · cases e
  cases y with
  | lst ds =>
    simp only [inB] at h
    rcases d2 with d | ⟨p, vs, ds', rfl, z, h1, h2⟩
    · unfold Den at d
      obtain ⟨p, vs, rfl, h1, h2⟩ := d
      obtain ⟨a1, a2, a3⟩ := seq h2 h
      exact .inl ⟨p, vs, rfl, .inl (sm.seq h1), a1, a2, a3⟩
    · cases z
      obtain ⟨a1, a2, a3⟩ := seq h2 h
      exact .inl ⟨p, vs, rfl, .inl (SqL.of h1), a1, a2, a3⟩
  | tup ds =>
    simp only [inB] at h
    rcases d2 with d | ⟨p, vs, ds', rfl, z, h1, h2⟩
    · unfold Den at d
      obtain ⟨p, vs, rfl, h1, h2⟩ := d
      obtain ⟨a1, a2, a3⟩ := seq h2 h
      exact .inl ⟨p, vs, rfl, .inr (same_seqT sm h1), a1, a2, a3⟩
    · cases z
  | str j =>
    cases x with
    | str i =>
      simp only [inB] at h
      cases h
      exact .inr ⟨_, _, rStr d1, rStr d2, rfl⟩
    | _ => cases h
  | _ => cases h
def rInD (X : Cx) (neg : Bool) : R2 := fun x y H Q => rIn X.K neg x y H Q ∨ ∃ i j, x = .str i ∧ y = .str j ∧ Q (.bl (neg ^^ (!(Builtin.Str.occurrences j i 0 j.length 1).isEmpty))) H
theorem opR_in {Y : Cx} (eK : Y.K = X.K) : OpR Y (compareOp .In) (rInD X false) := by
  intro pins s σ H x y v u Q I rx ry h
  rcases h with h | ⟨i, j, e1, e2, q⟩
  · exact op_in_seq pins s σ H x y v u Q I rx ry (by rw [eK]; exact h)
  · exact op_in_str pins s σ H x y v u Q I rx ry ⟨i, j, e1, e2, by simpa using q⟩
theorem opR_nin {Y : Cx} (eK : Y.K = X.K) : OpR Y (compareOp .NotIn) (rInD X true) := by
  intro pins s σ H x y v u Q I rx ry h
  rcases h with h | ⟨i, j, e1, e2, q⟩
  · exact op_notIn_seq pins s σ H x y v u Q I rx ry (by rw [eK]; exact h)
  · exact op_notIn_str pins s σ H x y v u Q I rx ry ⟨i, j, e1, e2, by simpa using q⟩
theorem opOk_in : OpOk κ X (rInD X false) (op2 oIn) := by
  intro x y v u G H Q E sm d1 d2 q
  unfold op2 oIn at q
  cases e : inB x y with
  | ok k =>
    rw [e] at q
    have q' : Q (.bl k) H := q _ H G (Ext.refl sm) (by unfold dRel Den; rfl)
    rcases inB_rel sm d1 d2 e with ⟨p, xs, z1, z2, z3, z4, z5⟩ | ⟨i, j, z1, z2, z3⟩
    · exact .inl ⟨p, xs, z1, z2, z3, z4, by simpa [z5] using q'⟩
    · exact .inr ⟨i, j, z1, z2, by rw [z3]; simpa using q'⟩
  | exc c => unfold inB at e; split at e <;> (try split at e) <;> cases e
  | stuck => rw [e] at q; exact q.elim
theorem opOk_nin : OpOk κ X (rInD X true) (op2 oNin) := by
  intro x y v u G H Q E sm d1 d2 q
  unfold op2 oNin at q
  cases e : inB x y with
  | ok k =>
    rw [e] at q
    have q' : Q (.bl (!k)) H := q _ H G (Ext.refl sm) (by unfold dRel Den; rfl)
    rcases inB_rel sm d1 d2 e with ⟨p, xs, z1, z2, z3, z4, z5⟩ | ⟨i, j, z1, z2, z3⟩
    · exact .inl ⟨p, xs, z1, z2, z3, z4, by simpa [z5] using q'⟩
    · exact .inr ⟨i, j, z1, z2, by rw [z3]; simpa using q'⟩
  | exc c => unfold inB at e; split at e <;> (try split at e) <;> cases e
  | stuck => rw [e] at q; exact q.elim
theorem px_in (hu : X.A.units + 64 < cLine) (ha : PXr κ B X a fa) (hb : PXr κ B X b fb) (hm : behindInMarks .In b = false) : PX κ B X (.Compare a [.In] [b] pos) (m2 (op2 oIn) fa fb) := px_cmp (fun _ eK _ => opR_in eK) opOk_in ha hb hm
theorem px_nin (hu : X.A.units + 64 < cLine) (ha : PXr κ B X a fa) (hb : PXr κ B X b fb) (hm : behindInMarks .NotIn b = false) : PX κ B X (.Compare a [.NotIn] [b] pos) (m2 (op2 oNin) fa fb) := px_cmp (fun _ eK _ => opR_nin eK) opOk_nin ha hb hm
theorem pxt_in (hu : X.A.units + 64 < cLine) (ha : PXr κ B X a fa) (hb : PXr κ B X b fb) (hm : behindInMarks .In b = false) : PXt κ B X (.Compare a [.In] [b] pos) (m2t oIn fa fb) := pxt_cmp (fun _ eK _ => opR_in eK) opOk_in ha hb hm
theorem pxt_nin (hu : X.A.units + 64 < cLine) (ha : PXr κ B X a fa) (hb : PXr κ B X b fb) (hm : behindInMarks .NotIn b = false) : PXt κ B X (.Compare a [.NotIn] [b] pos) (m2t oNin fa fb) := pxt_cmp (fun _ eK _ => opR_nin eK) opOk_nin ha hb hm
/-! ### lists put together -/
theorem _root_.L2.Inv.lstS {X : Cx} {pins : List (Addr × Obj)} {σ : St} {H : Hp} {s : Shared} {l : Addr} {xs : List V} (I : Inv X pins σ H s) (h : SqL X.K H l xs) :
    xs.length ≤ sizeLine ∧ ∃ (its : List Value) (n : Nat), Vals xs its ∧ xs.length = its.length ∧ s.heap.get? l = some { cls := .type "list", data := .seq its.toArray n } := by
  rcases h with h | ⟨o, its, n, hk, hc, hd, hs, hz, r⟩
  · obtain ⟨z, its, n, r, e⟩ := h.ok I.hok
    exact ⟨z, its, n, r, r.length, e⟩
  · have e := I.kIn l o hk
    have lr := r.length
    refine ⟨by simp only [Array.length_toList] at lr; omega, its.toList, n, r, lr, ?_⟩
    obtain ⟨oc, od, dt, sl⟩ := o
    dsimp only at hc hd hs
    obtain ⟨rfl, rfl⟩ := hd
    subst hc
    subst hs
    exact e
def rCatL (K : PySem.W.Frag) : R2 := fun x y H Q => ∃ l b xs zs, x = .ref l ∧ y = .ref b ∧ SqL K H l xs ∧ SqL K H b zs ∧ xs.length + zs.length ≤ sizeLine ∧ ∀ p, H p = none → Q (.ref p) (upd H p (.lst (xs ++ zs)))
theorem op_catL {X : Cx} : OpR X (binaryOp .Add) (rCatL X.K) := by
  intro pins s σ H x y v u Q I rx ry ⟨l, b, xs, zs, e1, e2, hH, hB, hz, q⟩
  subst e1
  subst e2
  cases rx
  cases ry
  obtain ⟨z, its, n, r, hl, e⟩ := I.lstS hH
  obtain ⟨z2, its2, n2, r2, hl2, e2⟩ := I.lstS hB
  refine PySem.P.add_list e e2 ?_ (by rw [List.size_toArray, List.size_toArray]; omega)
  rw [show its.toArray ++ its2.toArray = (its ++ its2).toArray by simp]
  exact ⟨.ref _, _, I.lnew (t' := s.toks) (r.append r2) (by rw [List.length_append]; omega), rfl, q _ I.fresh⟩
def oCat (x y : D) : R D := match x, y with
  | .lst xs, .lst ys => if xs.length + ys.length ≤ 1000000 then .ok (.lst (xs ++ ys)) else .stuck
  | _, _ => .stuck
theorem rLst {G H : Hp} {v : V} {ds : List D} (sm : Same G H) (h : rRel X κ G H v (.lst ds)) : ∃ l vs, v = .ref l ∧ SqL X.K H l vs ∧ Dens ⟨X.K, κ⟩ G vs ds := by
  rcases h with h | ⟨l, vs, ds', e, z, h1, h2⟩
  · unfold Den at h
    obtain ⟨l, vs, e, h1, h2⟩ := h
    exact ⟨l, vs, e, sm.seq h1, h2⟩
  · cases z
    exact ⟨l, vs, e, SqL.of h1, h2⟩
theorem opOk_cat : OpOk κ X (rCatL X.K) oCat := by
  intro x y v u G H Q E sm d1 d2 q
  unfold oCat at q
  split at q
  · rename_i xs ys
    split at q
    · rename_i hl
      obtain ⟨l, vs, e1, h1, h2⟩ := rLst sm d1
      obtain ⟨b, us, e2, h3, h4⟩ := rLst sm d2
      have : (1000000 : Nat) ≤ sizeLine := by decide
      refine ⟨l, b, vs, us, e1, e2, h1, h3, by rw [h2.length, h4.length]; omega, fun p hp => ?_⟩
      have e := ext_new (o := .lst (vs ++ us)) sm hp
      exact q _ _ _ e (by unfold dRel Den; exact ⟨p, _, rfl, SqL.of upd_same, (h2.append h4).mono e.sG⟩)
    · exact q.elim
  · exact q.elim
theorem px_cat (ha : PXr κ B X a fa) (hb : PXr κ B X b fb) : PX κ B X (.BinOp a .Add b pos) (m2 oCat fa fb) := px_op (fun Y eK => by rw [← eK]; exact op_catL) opOk_cat ha hb
def rRepL (K : PySem.W.Frag) : R2 := fun x y H Q => ∃ l k xs, x = .ref l ∧ y = .int k ∧ SqL K H l xs ∧ -(2 ^ 63) ≤ k ∧ k < 2 ^ 63 ∧ xs.length * k.toNat ≤ sizeLine ∧
  ∀ p, H p = none → Q (.ref p) (upd H p (.lst (List.replicate k.toNat xs).flatten))
theorem op_repL {X : Cx} : OpR X (binaryOp .Mult) (rRepL X.K) := by
  intro pins s σ H x y v u Q I rx ry h
  obtain ⟨l, k, xs, rfl, rfl, hH, h1, h2, hz, q⟩ := h
  cases rx
  obtain ⟨t, rfl⟩ := ry
  obtain ⟨z, its, n, r, hl, e⟩ := I.lstS hH
  have hlen : its.toArray.size * k.toNat ≤ sizeLine := by rw [List.size_toArray, ← hl]; exact hz
  have hcap : ¬ its.toArray.size * k.toNat > (2 ^ 63 - 1) / 8 := by
    have : (sizeLine : Nat) ≤ (2 ^ 63 - 1) / 8 := by decide
    omega
  have hfit : ¬ (!Builtin.List.listFitsIndex k) = true := by
    rw [fitsIndex_both h1 h2]
    exact Bool.false_ne_true
  have hlong : ¬ Builtin.List.listTooLong (its.toArray.size * k.toNat) = true := by
    rw [notLongL hlen]
    exact Bool.false_ne_true
  have hnew : List.foldl (fun x1 x2 => x1 ++ x2) #[] (List.replicate (if its.toArray.isEmpty = true then 0 else k.toNat) its.toArray) = (List.replicate k.toNat its).flatten.toArray := by
    have f0 : ∀ m : Nat, List.foldl (fun x1 x2 => x1 ++ x2) #[] (List.replicate m its.toArray) = (List.replicate m its).flatten.toArray := fun m => by
      have := foldl_rep its m []
      rw [List.nil_append] at this
      exact this
    rw [f0]
    cases its with
    | nil => simp
    | cons a r' => rw [if_neg (by simp)]
  refine wpAny_binaryOp_repeat_ref (T := "list") (U := "int") (by decide) ⟨_, e, rfl⟩ (fun s' => typeIs_int s' k t) noFill_list_mul F.fills_int_mul F.slot_int_rmul repeat_list F.slot_int_index.lookup
    (call_meets F.slot_int_rmul (typeIs_int s k t) F.entry_int_rmul (F.args_int_rmul_2 _ _) (int___rmul___int_list k t l its.toArray n)
      ⟨e, rfl, ⟨_, e, rfl⟩, call_meets F.slot_list_mul ⟨_, e, rfl⟩ F.entry_list_mul (F.args_list_mul_2 _ _) (AutoListH.list___mul___list_int_3 l its.toArray n k t hfit hcap hlong) ⟨e, ?_⟩⟩)
  rw [hnew]
  exact ⟨.ref _, _, I.lnew (t' := s.toks) (r.rep k.toNat) (by rw [len_rep, Nat.mul_comm]; exact hz), rfl, q _ I.fresh⟩
def oRep (x y : D) : R D := match x, y with
  | .lst xs, .int k => if -(2 ^ 62) ≤ k ∧ k < 2 ^ 62 ∧ xs.length * k.toNat ≤ 1000000 then .ok (.lst (List.replicate k.toNat xs).flatten) else .stuck
  | _, _ => .stuck
theorem dens_rep {Z : Zx} {G : Hp} {vs : List V} {ds : List D} (h : Dens Z G vs ds) : ∀ k : Nat, Dens Z G (List.replicate k vs).flatten (List.replicate k ds).flatten
  | 0 => dens_nil
  | k + 1 => by
    rw [List.replicate_succ, List.replicate_succ, List.flatten_cons, List.flatten_cons]
    exact h.append (dens_rep h k)
theorem opOk_rep : OpOk κ X (rRepL X.K) oRep := by
  intro x y v u G H Q E sm d1 d2 q
  unfold oRep at q
  split at q
  · rename_i xs k
    split at q
    · rename_i hl
      obtain ⟨l, vs, e1, h1, h2⟩ := rLst sm d1
      have : (1000000 : Nat) ≤ sizeLine := by decide
      refine ⟨l, k, vs, e1, rInt d2, h1, by omega, by omega, by rw [h2.length]; omega, fun p hp => ?_⟩
      have e := ext_new (o := .lst (List.replicate k.toNat vs).flatten) sm hp
      exact q _ _ _ e (by unfold dRel Den; exact ⟨p, _, rfl, SqL.of upd_same, (dens_rep h2 k.toNat).mono e.sG⟩)
    · exact q.elim
  · exact q.elim
theorem px_rep (ha : PXr κ B X a fa) (hb : PXr κ B X b fb) : PX κ B X (.BinOp a .Mult b pos) (m2 oRep fa fb) := px_op (fun Y eK => by rw [← eK]; exact op_repL) opOk_rep ha hb
/-! ### list.count, ''.join -/
theorem countP_eqU {x : V} : ∀ {xs : List V} {us : List Value}, Vals xs us → xs.all flatV = true → us.countP (eqU x) = xs.countP fun y => eqV y x
  | _, _, .nil, _ => rfl
  | y :: xs, u :: us, .cons r t, f => by
    simp only [List.all_cons, Bool.and_eq_true] at f
    rw [List.countP_cons, List.countP_cons, eqU_of r f.1, countP_eqU t f.2]
def rCount (K : PySem.W.Frag) : V → List V → Hp → VK → Prop := fun x vs H Q => ∃ l xs y, x = .ref l ∧ vs = [y] ∧ SqL K H l xs ∧ flatV y = true ∧ xs.all flatV = true ∧ Q (.int ((xs.countP fun z => eqV z y : Nat) : Int)) H
theorem mt_count {X : Cx} : MtR X "list.count" (rCount X.K) := by
  intro pins s σ H x vs v us Q I rx rv ⟨l, xs, y, e1, e2, hq, fy, fx, q⟩
  subst e1
  subst e2
  cases rx
  obtain ⟨u, rfl, ru⟩ := rv.one
  obtain ⟨z, its, n, r, hl, e⟩ := I.lstS hq
  refine call_meets F.slot_list_count ⟨_, e, rfl⟩ F.entry_list_count (F.args_list_count_2 _ _) (SeqAt.list_countAt l its.toArray n none #[] u (eqU y)) ⟨e, fun w hw => mem_eqAt ru fy r fx w (by simpa using hw), ?_⟩
  refine ⟨.int _, H, I.tok _, ⟨_, rfl⟩, ?_⟩
  rw [List.toList_toArray, countP_eqU r fx]
  exact q
theorem dens_count {Z : Zx} {G : Hp} {v : V} {d : D} (h : Den Z G v d) (f : flatD d = true) : ∀ {vs : List V} {ds : List D}, Dens Z G vs ds → ds.all flatD = true → vs.all flatV = true ∧ (vs.countP fun y => eqV y v) = ds.countP fun e => eqF e d
  | [], [], _, _ => ⟨rfl, rfl⟩
  | w :: vs, e :: ds, hd, hf => by
    unfold Dens at hd
    simp only [List.all_cons, Bool.and_eq_true] at hf
    obtain ⟨i1, i2⟩ := dens_count h f hd.2 hf.2
    refine ⟨by simp only [List.all_cons, Bool.and_eq_true]; exact ⟨den_flat hd.1 hf.1, i1⟩, ?_⟩
    rw [List.countP_cons, List.countP_cons, i2, den_eqF hd.1 h hf.1 f]
  | [], _ :: _, hd, _ => by unfold Dens at hd; exact hd.elim
  | _ :: _, [], hd, _ => by unfold Dens at hd; exact hd.elim
def oCount (x : D) (ys : List D) : R D := match x, ys with
  | .lst ds, [d] => if flatD d && ds.all flatD then .ok (.int ((ds.countP fun e => eqF e d : Nat) : Int)) else .stuck
  | _, _ => .stuck
def mBL (op : D → List D → R D) (fo : Ev → R D) (fs : Ev → R (List D)) : Ev → R D := fun δ => (fo δ).bind fun x => match x with
  | .lst ds => (fs δ).bind fun ys => op (.lst ds) ys
  | _ => .stuck
theorem y_count {o e : Expr} {fo : Ev → R D} {fs : Ev → R (List D)} {apos : Pos} (ho : PXr κ B X o fo) (ha : PXs κ B X [e] fs) (hs : noStar e = true) (hline : (apos.endLine == pos.line) = true) (hbase : attributeBase o "count" X.env (eval o X.env) = eval o X.env) :
    PX κ B X (.Call (.Attribute o "count" apos) [e] [] pos) (mBL oCount fo fs) := fun pins σ Ex =>
  pe_imp (pe_bm (X := At X pins σ Ex) F.plainAttrs_list F.slot_list_count F.type_list_count mt_count (ho pins σ Ex) (ha pins σ Ex) hbase (back_all hs) hline (star_cons hs) rfl) fun τ H Q ⟨G, δ, rp, q⟩ => ⟨G, δ, rp, q.seq fun x v H1 G1 e1 d1 q1 => by
    cases x with
    | lst ds =>
      obtain ⟨l, vs, rfl, h1, h2⟩ := rLst e1.GH d1
      refine ⟨.inl ⟨rfl, vs, h1⟩, G1, δ, rp.ext e1, q1.seq fun ys us H2 G2 e2 d2 q2 => ?_⟩
      unfold oCount at q2
      split at q2
      · rename_i ds' d hx
        cases hx
        split at q2
        · rename_i hf
          rw [Bool.and_eq_true] at hf
          match us, d2 with
          | [u], d2 =>
            unfold dsRel Dens at d2
            obtain ⟨c1, c2⟩ := dens_count d2.1 hf.1 (h2.mono e2.sG) hf.2
            refine ⟨l, vs, u, rfl, rfl, ?_, den_flat d2.1 hf.1, c1, ?_⟩
            · rcases rRel_mono e2 d1 with z | ⟨_, _, _, z1, z2, z3, z4⟩
              · exact e2.sH.seq h1
              · exact e2.sH.seq h1
            · rw [c2]
              exact q2 _ H2 G2 (Ext.refl e2.GH) (by unfold dRel Den; rfl)
          | [], d2 => unfold dsRel Dens at d2; exact d2.elim
          | _ :: _ :: _, d2 => unfold dsRel Dens at d2; have := d2.2; unfold Dens at this; exact this.elim
        · exact q2.elim
      · exact q2.elim
    | _ => exact False.elim q1⟩
theorem vals_strs : ∀ {ls : List (List Nat)} {us : List Value}, Vals (ls.map stV) us → ∃ l : List (Str × Tok), us = strValues l ∧ l.map (·.1) = ls.map fun x => (⟨x.toArray⟩ : Str)
  | [], _, .nil => ⟨[], rfl, rfl⟩
  | x :: ls, _, .cons r t => by
    obtain ⟨k, rfl⟩ := r
    obtain ⟨l, e1, e2⟩ := vals_strs t
    exact ⟨(⟨x.toArray⟩, k) :: l, by rw [e1]; rfl, by rw [List.map_cons, List.map_cons, e2]⟩
theorem glued_nil (ls : List (List Nat)) : Builtin.Str.glued ⟨#[]⟩ (ls.map fun x => (⟨x.toArray⟩ : Str)) = ⟨ls.flatten.toArray⟩ := by
  have f : ∀ (ls : List (List Nat)) (acc : List Nat), (ls.map fun x => (⟨x.toArray⟩ : Str)).foldl (fun a p => a ++ (⟨#[]⟩ : Str).cps ++ p.cps) acc.toArray = (acc ++ ls.flatten).toArray := by
    intro ls
    induction ls with
    | nil => intro acc; simp
    | cons x ls ih =>
      intro acc
      rw [List.map_cons, List.foldl_cons]
      have : acc.toArray ++ (⟨#[]⟩ : Str).cps ++ (⟨x.toArray⟩ : Str).cps = (acc ++ x).toArray := by simp
      rw [this, ih, List.flatten_cons, List.append_assoc]
  unfold Builtin.Str.glued
  cases ls with
  | nil => rfl
  | cons x ls =>
    show (⟨List.foldl _ x.toArray (ls.map _)⟩ : Str) = _
    rw [f ls x, List.flatten_cons]
theorem glue_len (ls : List (List Nat)) : ((ls.map fun x => (⟨x.toArray⟩ : Str)).toArray.foldl (· + ·.length + (⟨#[]⟩ : Str).length) 0) = ls.flatten.length := by
  have f : ∀ (ls : List (List Nat)) (n : Nat), (ls.map fun x => (⟨x.toArray⟩ : Str)).foldl (fun a p => a + p.length + (⟨#[]⟩ : Str).length) n = n + ls.flatten.length := by
    intro ls
    induction ls with
    | nil => intro n; simp
    | cons x ls ih =>
      intro n
      rw [List.map_cons, List.foldl_cons, ih, List.flatten_cons, List.length_append]
      have e1 : (⟨x.toArray⟩ : Str).length = x.length := by simp [Str.length]
      have e2 : (⟨#[]⟩ : Str).length = 0 := rfl
      rw [e1, e2]
      omega
  rw [List.foldl_toArray]
  rw [f ls 0]
  omega
def rJoin (K : PySem.W.Frag) : V → List V → Hp → VK → Prop := fun x vs H Q => ∃ (l : Addr) (ls : List (List Nat)), x = stV [] ∧ vs = [.ref l] ∧ SqL K H l (ls.map stV) ∧ ls.flatten.length ≤ 1000000 ∧ Q (stV ls.flatten) H
theorem mt_join {X : Cx} : MtR X "str.join" (rJoin X.K) := by
  intro pins s σ H x vs v us Q I rx rv ⟨l, ls, e1, e2, hq, hz, q⟩
  subst e1
  subst e2
  obtain ⟨t, rfl⟩ := rx
  obtain ⟨u, rfl, ru⟩ := rv.one
  cases ru
  obtain ⟨z, its, n, r, hl, e⟩ := I.lstS hq
  obtain ⟨pl, rfl, ep⟩ := vals_strs r
  have big : (1000000 : Nat) ≤ sizeLine := by decide
  have hlong : Builtin.Str.tooLong ((pl.map (·.1)).toArray.foldl (· + ·.length + (⟨#[]⟩ : Str).length) 0) = false := by
    rw [ep, glue_len]
    exact decide_eq_false (by omega)
  refine call_meets F.slot_str_join (typeIs_str s _ t) F.entry_str_join (F.args_str_join_2 _ _) (meets_str_join_list ⟨#[]⟩ t l pl hlong) ⟨⟨_, e, rfl, n, rfl⟩, ?_⟩
  have fin : ∀ (z : Str) (tk : Tok) (k : Nat), z = ⟨ls.flatten.toArray⟩ → EP X pins σ Q (.str z tk) { s with toks := k } := fun z tk k ez => ⟨stV ls.flatten, H, I.tok _, ⟨tk, by rw [ez]⟩, q⟩
  have gl : Builtin.Str.glued ⟨#[]⟩ (pl.map (·.1)) = ⟨ls.flatten.toArray⟩ := by rw [ep, glued_nil]
  have sz : (⟨ls.flatten.toArray⟩ : Str).length ≤ sizeLine := by simp only [Str.length, List.size_toArray]; omega
  match pl, ep, gl with
  | [p], ep, gl =>
    refine fin p.1 p.2 s.toks ?_
    rw [← gl]
    rfl
  | [], ep, gl => exact ⟨by show (Builtin.Str.glued ⟨#[]⟩ []).length ≤ sizeLine; decide, fin _ _ _ gl⟩
  | p :: p2 :: r, ep, gl => exact ⟨by show (Builtin.Str.glued ⟨#[]⟩ ((p :: p2 :: r).map (·.1))).length ≤ sizeLine; rw [gl]; exact sz, fin _ _ _ gl⟩
def strsD : List D → Option (List (List Nat))
  | [] => some []
  | .str x :: r => (strsD r).map (x :: ·)
  | _ => none
theorem dens_strs {Z : Zx} {G : Hp} : ∀ {vs : List V} {ds : List D} {ls : List (List Nat)}, Dens Z G vs ds → strsD ds = some ls → vs = ls.map stV
  | [], [], ls, _, h => by cases h; rfl
  | v :: vs, d :: ds, ls, hd, h => by
    unfold Dens at hd
    cases d with
    | str x =>
      simp only [strsD] at h
      cases e : strsD ds with
      | none => rw [e] at h; cases h
      | some l2 =>
        rw [e] at h
        cases h
        have := hd.1
        unfold Den at this
        rw [this, dens_strs hd.2 e]
        rfl
    | _ => cases h
  | [], _ :: _, _, hd, _ => by unfold Dens at hd; exact hd.elim
  | _ :: _, [], _, hd, _ => by unfold Dens at hd; exact hd.elim
def oJoin (x : D) (ys : List D) : R D := match x, ys with
  | .str [], [.lst ds] => match strsD ds with
    | some ls => if ls.flatten.length ≤ 1000000 then .ok (.str ls.flatten) else .stuck
    | none => .stuck
  | _, _ => .stuck
def mBS (op : D → List D → R D) (fo : Ev → R D) (fs : Ev → R (List D)) : Ev → R D := fun δ => (fo δ).bind fun x => match x with
  | .str l => (fs δ).bind fun ys => op (.str l) ys
  | _ => .stuck
theorem y_join {o e : Expr} {fo : Ev → R D} {fs : Ev → R (List D)} {apos : Pos} (ho : PXr κ B X o fo) (ha : PXs κ B X [e] fs) (hs : noStar e = true) (hline : (apos.endLine == pos.line) = true) (hbase : attributeBase o "join" X.env (eval o X.env) = eval o X.env) :
    PX κ B X (.Call (.Attribute o "join" apos) [e] [] pos) (mBS oJoin fo fs) := fun pins σ Ex =>
  pe_imp (pe_bm (X := At X pins σ Ex) F.plainAttrs_str F.slot_str_join F.type_str_join mt_join (ho pins σ Ex) (ha pins σ Ex) hbase (back_all hs) hline (star_cons hs) rfl) fun τ H Q ⟨G, δ, rp, q⟩ => ⟨G, δ, rp, q.seq fun x v H1 G1 e1 d1 q1 => by
    cases x with
    | str l =>
      obtain rfl := rStr d1
      refine ⟨rfl, G1, δ, rp.ext e1, q1.seq fun ys us H2 G2 e2 d2 q2 => ?_⟩
      unfold oJoin at q2
      split at q2
      · rename_i ds hx
        cases hx
        split at q2
        · rename_i ls es
          split at q2
          · rename_i hz
            match us, d2 with
            | [u], d2 =>
              unfold dsRel Dens at d2
              have du := d2.1
              unfold Den at du
              obtain ⟨a, vs, rfl, h1, h2⟩ := du
              have := dens_strs h2 es
              subst this
              exact ⟨a, ls, rfl, rfl, e2.GH.seq h1, hz, q2 _ H2 G2 (Ext.refl e2.GH) (by unfold dRel Den; rfl)⟩
            | [], d2 => unfold dsRel Dens at d2; exact d2.elim
            | _ :: _ :: _, d2 => unfold dsRel Dens at d2; have := d2.2; unfold Dens at this; exact this.elim
          · exact q2.elim
        · exact q2.elim
      · exact q2.elim
    | _ => exact False.elim q1⟩
end
end L3

-- part L3o.lean
set_option Elab.async false
set_option linter.all false
set_option maxRecDepth 100000
namespace L3
open PySem PySem.Spec PyProof.Rows L2
/-! ## objects -/
/-- a class of the text: its number, the names of its fields -/
structure ClsM (κ : Nat → Addr) (K : PySem.W.Frag) (c : Nat) (ns : List Str) : Prop where
  cl : Cls K (κ c)
  na : ∀ f ∈ ns, NoAttr K (κ c) f
theorem zip_lookup {ns : List Str} : ∀ {vs : List V} {ds : List D} {Z : Zx} {G : Hp} {f : Str} {d : D}, ns.length = vs.length → Dens Z G vs ds → (ns.zip ds).lookup f = some d → ∃ v, (ns.zip vs).lookup f = some v ∧ Den Z G v d := by
  induction ns with
  | nil => intro vs ds Z G f d _ _ h; simp at h
  | cons n ns ih =>
    intro vs ds Z G f d hl hd h
    cases vs with
    | nil => simp at hl
    | cons v vs =>
      cases ds with
      | nil => unfold Dens at hd; exact hd.elim
      | cons e ds =>
        unfold Dens at hd
        simp only [List.zip_cons_cons, List.lookup_cons] at h ⊢
        cases q : f == n with
        | true => rw [q] at h; cases h; exact ⟨v, rfl, hd.1⟩
        | false => rw [q] at h; exact ih (by simpa using hl) hd.2 h
theorem zip_lookup_none {ns : List Str} : ∀ {vs : List V} {f : Str}, ns.contains f = false → (ns.zip vs).lookup f = none := by
  induction ns with
  | nil => intro vs f _; simp
  | cons n ns ih =>
    intro vs f h
    cases vs with
    | nil => simp
    | cons v vs =>
      simp only [List.contains_cons, Bool.or_eq_false_iff] at h
      simp only [List.zip_cons_cons, List.lookup_cons, h.1]
      exact ih h.2
theorem putF_new {f : Str} {v : V} : ∀ {ns : List Str} {vs : List V}, ns.length = vs.length → ns.contains f = false → putF f v (ns.zip vs) = (ns ++ [f]).zip (vs ++ [v])
  | [], [], _, _ => rfl
  | n :: ns, w :: vs, hl, hc => by
    simp only [List.contains_cons, Bool.or_eq_false_iff] at hc
    have hne : ¬ n = f := fun z => by
      have := hc.1
      rw [z] at this
      simp at this
    show (if n = f then _ else (n, w) :: putF f v (ns.zip vs)) = _
    rw [if_neg hne, putF_new (by simpa using hl) hc.2]
    rfl
  | [], _ :: _, hl, _ => by simp at hl
  | _ :: _, [], hl, _ => by simp at hl
section
variable {κ : Nat → Addr} {B : Gd} {X : Cx} {a e : Expr} {es : List Expr} {f fa : Ev → R D} {fs : Ev → R (List D)} {pos pos' apos p : Pos} {x : Str}
/-- o.f -/
def oFld (c : Nat) (n : Str) : D → R D
  | .ob c' ns ds => if c' = c then (match (ns.zip ds).lookup n with | some d => .ok d | none => .stuck) else .stuck
  | _ => .stuck
theorem y_fld {o : Expr} {fo : Ev → R D} {n : Str} {c : Nat} {ns : List Str} (C : ClsM κ X.K c ns) (hn : n ∈ ns) (ho : PX κ B X o fo) (hb : attributeBase o n X.env (eval o X.env) = eval o X.env) : PX κ B X (.Attribute o n pos) (m1 (oFld c n) fo) := fun pins σ Ex =>
  pe_imp (pe_fld (X := At X pins σ Ex) (ho pins σ Ex) hb) fun τ H Q ⟨G, δ, rp, q⟩ => ⟨G, δ, rp, q.seq fun x v H1 G1 e1 d1 q1 => by
    cases x with
    | ob c' ns' ds =>
      simp only [oFld] at q1
      split at q1
      · rename_i hc
        subst hc
        unfold dRel Den at d1
        obtain ⟨l, dx, vs, rfl, hG, hl, hd⟩ := d1
        cases e : (ns'.zip ds).lookup n with
        | none => rw [e] at q1; exact False.elim q1
        | some d =>
          rw [e] at q1
          obtain ⟨w, x1, x2⟩ := zip_lookup hl hd e
          exact ⟨l, _, dx, _, w, rfl, e1.GH _ _ hG, C.cl, C.na n hn, x1, q1 w H1 G1 (Ext.refl e1.GH) x2⟩
      · exact False.elim q1
    | _ => exact False.elim q1⟩
/-- o.m(..), a def of the class that leaves the object as it is -/
structure Mth (κ : Nat → Addr) (X : Cx) (c : Nat) (x : Str) (n : Nat) (m : List D → R D) : Prop where
  ex : ∃ f fd ps k, FnOk X.prog X.w X.K X.mg X.base (CXR X.prog X.w) k f fd ps (spM X.K κ n m) ∧ Room k X.A ∧ Meth X.K (κ c) x f ∧ Binds X.K fd ps []
def mMeth (c : Nat) (x : Str) (m : List D → R D) (fo : Ev → R D) (fs : Ev → R (List D)) : Ev → R D := fun δ => (fo δ).bind fun o => match o with
  | .ob c' ns ds => if c' = c ∧ ns.contains x = false then (fs δ).bind fun xs => m (.ob c' ns ds :: xs) else .stuck
  | _ => .stuck
theorem y_meth {o : Expr} {fo : Ev → R D} {c : Nat} {ns : List Str} {nn : Nat} {m : List D → R D} (cx : Cxo X) (C : ClsM κ X.K c ns) (M : Mth κ X c x nn m) (ho : PX κ B X o fo) (ha : PXs κ B X (a :: es) fs) (h : (a :: es).all noStar = true) (hn : (a :: es).length + 1 = nn) (hlen : ∀ δ ds, fs δ = .ok ds → ds.length + 1 = nn)
    {pl : Sem Bool} (ht : eval (.Call (.Attribute o x apos) (a :: es) [] pos) X.env = (do
      let ov ← eval o X.env
      standAt apos.atName
      let (f, first) ← holding [ov] (getMethod ov x pl)
      callWith pos f first (backTo pos (starEach (a :: es) X.env)) (backToKw pos (keywordEach [] X.env)))) :
    PX κ B X (.Call (.Attribute o x apos) (a :: es) [] pos) (mMeth c x m fo fs) := fun pins σ Ex => by
  obtain ⟨f, fd, ps, k, F, hr, hm, hb⟩ := M.ex
  have h' := h
  simp only [List.all_cons, Bool.and_eq_true] at h'
  refine pe_imp (pe_meth (X := At X pins σ Ex) (E := EX X pins σ Ex) (ho pins σ Ex) C.cl hm F hr hb .nil (passes_at cx) (ha pins σ Ex) (star_cons h'.1) (back_any h'.2) ht) fun τ H Q ⟨G, δ, rp, q⟩ => ⟨G, δ, rp, q.seq fun x' v H1 G1 e1 d1 q1 => ?_⟩
  cases x' with
  | ob c' ns' ds =>
    simp only at q1
    split at q1
    · rename_i hc
      obtain ⟨hc, hx⟩ := hc
      subst hc
      have d1' := d1
      unfold dRel Den at d1'
      obtain ⟨l, dx, vs, rfl, hG, hl, hd⟩ := d1'
      refine ⟨l, dx, _, rfl, e1.GH _ _ hG, zip_lookup_none hx, G1, δ, rp.ext e1, ?_⟩
      cases e : fs δ with
      | ok xs =>
        rw [e] at q1
        intro us H2 G2 e2 d2
        rw [List.append_nil]
        exact ⟨by rw [List.length_cons, Dens.length d2, hlen δ xs e], G2, _, e2.GH, dens_cons (d1.mono e2.sG) d2, Out.pre e2 q1⟩
      | exc c => rw [e] at q1; exact q1
      | stuck => rw [e] at q1; exact q1
    · exact False.elim q1
  | _ => exact False.elim q1
/-! ### a class is made -/
def spI (K : PySem.W.Frag) (κ : Nat → Addr) (c n : Nat) (m : List D → R (List Str × List D)) : Sp := fun vs H Q E => vs.length = n ∧ ∃ x dx vr G ds, vs = .ref x :: vr ∧ H x = some (.ins (κ c) dx []) ∧ G x = none ∧ Same G H ∧ Dens ⟨K, κ⟩ G vr ds ∧ (match m ds with
  | .ok r => ∀ us H' G' dx', Same G G' → (∀ b o, H b = some o → b ≠ x → H' b = some o) → Same G' H' → G' x = none → (∀ a, G' a ≠ none → G a ≠ none ∨ H a = none) → r.1.length = us.length → Dens ⟨K, κ⟩ G' us r.2 → H' x = some (.ins (κ c) dx' (r.1.zip us)) → Q .non H'
  | .exc c' => ∀ H', (∀ b o, H b = some o → b ≠ x → H' b = some o) → E (.ref (κ c')) none H'
  | .stuck => False)
structure Maker (κ : Nat → Addr) (X : Cx) (x : Str) (c n : Nat) (m : List D → R (List Str × List D)) : Prop where
  ex : ∃ f fd ps k, FnOk X.prog X.w X.K X.mg X.base (CXR X.prog X.w) k f fd ps (spI X.K κ c n m) ∧ Room (k + 1) X.A ∧ L2.Mk X.K (κ c) f ∧ X.mg x = some (.ref (κ c)) ∧ Binds X.K fd ps []
def mMake (c : Nat) (m : List D → R (List Str × List D)) (fs : Ev → R (List D)) : Ev → R D := fun δ => (fs δ).bind fun xs => (m xs).bind fun r => .ok (.ob c r.1 r.2)
theorem y_make {c : Nat} {nn : Nat} {m : List D → R (List Str × List D)} (cx : Cxo X) (M : Maker κ X x c nn m) (hg : Gl X x) (ha : PXs κ B X (a :: es) fs) (h : (a :: es).all noStar = true) (hlen : ∀ δ ds, fs δ = .ok ds → ds.length + 1 = nn) (hdb : (x == ("__debug__" : Str)) = false) :
    PX κ B X (.Call (.Name x p) (a :: es) [] pos) (mMake c m fs) := fun pins σ Ex => by
  obtain ⟨f, fd, ps, k, F, hr, hM, hm, hb⟩ := M.ex
  have h' := h
  simp only [List.all_cons, Bool.and_eq_true] at h'
  refine pe_imp (pe_make (X := At X pins σ Ex) (E := EX X pins σ Ex) hM F hr hg hm hb .nil (passes_at cx) (ha pins σ Ex) hdb (star_cons h'.1) (back_any h'.2)) fun τ H Q ⟨G, δ, rp, q⟩ => ⟨G, δ, rp, ?_⟩
  unfold mMake at q
  cases e : fs δ with
  | ok xs =>
    rw [e] at q
    intro vs H1 G1 e1 d1 y dy hy hdy hne
    rw [List.append_nil]
    have ny : ∀ b o, H1 b = some o → b ≠ y := fun b o z => ne_of_none z hy
    have nd : ∀ b o, H1 b = some o → b ≠ dy := fun b o z => ne_of_none z hdy
    have gy : G1 y = none := e1.GH.free hy
    have old : ∀ b o, H1 b = some o → upd (upd H1 dy (.own y)) y (.ins (κ c) dy []) b = some o := fun b o z => by
      rw [upd_ne (ny b o z), upd_ne (nd b o z)]; exact z
    refine ⟨by rw [List.length_cons, Dens.length d1, hlen δ xs e], y, dy, vs, G1, xs, rfl, upd_same, gy, fun b o z => old b o (e1.GH b o z), d1, ?_⟩
    simp only [R.bind_ok] at q
    cases e2 : m xs with
    | ok r =>
      rw [e2] at q
      intro us H' G' dz s1 s2 s3 s4 s5 s6 s7 s8
      refine ⟨rfl, ?_⟩
      have sg : Same G' (upd G' y (.ins (κ c) dz (r.1.zip us))) := fun b o z => by rw [upd_ne (ne_of_none z s4)]; exact z
      refine q _ H' (upd G' y (.ins (κ c) dz (r.1.zip us))) (e1.trans ⟨s1.trans sg, fun b o z => s2 b o (old b o z) (ny b o z), fun b o z => ?_, fun b z => ?_⟩) ?_
      · by_cases hb : b = y
        · subst hb; rw [upd_same] at z; cases z; exact s8
        · rw [upd_ne hb] at z; exact s3 b o z
      · by_cases hb : b = y
        · subst hb; exact .inr hy
        · rw [upd_ne hb] at z
          refine (s5 b z).imp id fun w => ?_
          cases q1 : H1 b with
          | none => rfl
          | some o => rw [old b o q1] at w; cases w
      · unfold dRel Den
        exact ⟨y, dz, us, rfl, upd_same, s6, s7.mono sg⟩
    | exc c' =>
      rw [e2] at q
      exact fun H' s2 => q H' G1 (e1.trans ⟨Same.refl _, fun b o z => s2 b o (old b o z) (ny b o z), fun b o z => s2 b o (old b o (e1.GH b o z)) (ny b o (e1.GH b o z)), fun b z => .inl z⟩)
    | stuck => rw [e2] at q; exact q
  | exc c => rw [e] at q; exact q
  | stuck => rw [e] at q; exact q
/-! ### self.f = e -/
def zFld (i c : Nat) (n : Str) (f : Ev → R D) : Ev → SR := fun δ => match δ[i]? with
  | some (some (.oo c' ns ds)) => bS (f δ) δ fun d => if c' = c ∧ ns.contains n = false ∧ ns.length < 100 then .next (δ.set i (some (.oo c' (ns ++ [n]) (ds ++ [d])))) else .stuck
  | _ => .stuck
theorem Rep.updOo {us' : List V} {Z : Zx} {H₀ G H : Hp} {σ : St} {δ : Ev} (r : Rep Z B H₀ G H σ δ) {i c : Nat} {ns ns' : List Str} {ds ds' : List D} {x dx : Addr} {us : List V} (q : δ[i]? = some (some (.oo c ns ds))) (s : σ[i]? = some (some (.ref x))) (hx : H x = some (.ins (Z.κ c) dx (ns.zip us))) (h1 : ns'.length = us'.length) (h2 : Dens Z G us' ds') :
    Rep Z B H₀ G (upd H x (.ins (Z.κ c) dx (ns'.zip us'))) σ (δ.set i (some (.oo c ns' ds'))) := by
  obtain ⟨x', dx', vs, x1, x2, x3, x4, x5, x6⟩ := r.oo i c ns ds q
  rw [s] at x1; cases x1
  have hg : ∀ b o, G b = some o → b ≠ x := fun b o z e => by rw [e, x5] at z; cases z
  refine ⟨⟨r.gG, fun b o z => by rw [upd_ne (hg b o z)]; exact r.GH b o z, fun b o z n => ?_, fun b z => ?_, r.lent⟩, by simpa using r.len, fun j e q' => ?_, fun j fs q' => ?_, fun j k fs gs b n q1 q2 s1 s2 => ?_, fun j c2 ns2 ds2 q' => ?_, fun j k c1 n1 d1 c2 n2 d2 q1 q2 => ?_⟩
  · rw [upd_ne (by rintro rfl; exact n x6)]; exact r.old b o z n
  · by_cases hb : b = x
    · subst hb; rw [upd_same]; simp
    · rw [upd_ne hb]; exact r.there b z
  · rcases getset q' with ⟨_, e1, _⟩ | ⟨n, q'⟩
    · cases e1
    · exact r.sh j e q'
  · rcases getset q' with ⟨_, e1, _⟩ | ⟨n, q'⟩
    · cases e1
    · obtain ⟨b, ws, y1, y2, y3⟩ := r.ow j fs q'
      have : b ≠ x := ne_of y2 x2 (by intro z; cases z)
      exact ⟨b, ws, y1, by rw [upd_ne this]; exact y2, y3⟩
  · rcases getset q1 with ⟨_, e1, _⟩ | ⟨_, p1⟩
    · cases e1
    · rcases getset q2 with ⟨_, e2, _⟩ | ⟨_, p2⟩
      · cases e2
      · exact r.sep j k fs gs b n p1 p2 s1 s2
  · rcases getset q' with ⟨rfl, e1, _⟩ | ⟨n, q'⟩
    · cases e1
      exact ⟨x, dx, _, s, upd_same, h1, h2, x5, x6⟩
    · exact absurd (r.oo1 j i _ _ _ _ _ _ q' q) n
  · have f : ∀ (l : Nat) c2 n2 d2, (δ.set i (some (.oo c ns' ds')))[l]? = some (some (.oo c2 n2 d2)) → ∃ c3 n3 d3, δ[l]? = some (some (.oo c3 n3 d3)) := fun l c2 n2 d2 z => by
      rcases getset z with ⟨rfl, _⟩ | ⟨_, z⟩
      · exact ⟨_, _, _, q⟩
      · exact ⟨_, _, _, z⟩
    obtain ⟨_, _, _, z1⟩ := f j _ _ _ q1
    obtain ⟨_, _, _, z2⟩ := f k _ _ _ q2
    exact r.oo1 j k _ _ _ _ _ _ z1 z2
theorem y_sfld {n : Str} {c : Nat} {ns : List Str} (cx : Cxo X) (C : ClsM κ X.K c ns) (hn : n ∈ ns) {i : Nat} (hN : X.N[i]? = some x) (hv : Vis X.env.scope x) (hd : (x == ("__debug__" : Str)) = false) (hcd : (x == ("__classdict__" : Str)) = false) (h : PX κ B X e f) (hs : noComp e = true) :
    PZ κ B X (.Assign [.Attribute (.Name x p) n pos'] e pos) (zFld i c n f) := fun Ex pins s σ H G δ Dn hp I rp q => by
  unfold zFld at q
  split at q
  · rename_i c' ns' ds ed
    obtain ⟨y, dy, vs, x1, x2, x3, x4, x5, x6⟩ := rp.oo i c' ns' ds ed
    have pf := ps_fld (X := At X pins σ Ex) (f := n) (pos := pos) (pos' := pos') (pe_var (X := At X pins σ Ex) (pos := p) hN hv hd hcd) (h pins σ Ex) (swaps_no hs)
    refine wpAny_mono (pf pins s σ H { nx := fun σ' H' => ∃ G' δ', Rep ⟨X.K, κ⟩ B X.H₀ G' H' σ' δ' ∧ SPost κ B X Ex pins Dn (.next δ'), rt := fun _ _ => False } (inv_at I) ⟨G, δ, rp, ?_⟩) (fun fl s1 z => ?_) (fun _ _ z => z)
    · cases e : f δ with
      | ok d =>
        rw [e] at q
        simp only [bS_ok] at q
        intro v H1 G1 e1 d1
        split at q
        · rename_i hc
          obtain ⟨hc, hnc, hln⟩ := hc
          subst hc
          refine ⟨.ref y, x1, y, _, dy, _, rfl, e1.sH _ _ x2, C.cl, C.na n hn, ?_, G1, _, ?_, q⟩
          · rw [List.length_zip]; omega
          · rw [putF_new x3 hnc]
            exact (rp.ext e1).updOo (us := vs) (us' := vs ++ [v]) ed x1 (e1.sH _ _ x2) (by simp [x3]) ((x4.mono e1.sG).append (dens_cons d1 dens_nil))
        · exact False.elim q
      | exc c2 =>
        rw [e] at q
        exact fun H' G' e1 ea s' I' F => q ea s' σ H' G' I' F (rp.ext e1)
      | stuck => rw [e] at q; exact q
    · cases fl with
      | next =>
        obtain ⟨σ2, H2, I2, G2, δ2, rp2, q2⟩ := z
        obtain ⟨_, es⟩ := I2.sgm
        subst es
        exact ⟨_, H2, inv_unat cx.sg I2, q2 _ H2 G2 rp2⟩
      | brk => obtain ⟨_, _, _, z⟩ := z; exact z.elim
      | cont => obtain ⟨_, _, _, z⟩ := z; exact z.elim
      | ret u => obtain ⟨_, _, _, _, _, z⟩ := z; exact z.elim
  · exact False.elim q
end
def finI (c : Nat) : SR → R (List Str × List D)
  | .next δ => match (δ[0]? : Option (Option Sl)) with
    | some (some (.oo c' ns ds)) => if c' = c then .ok (ns, ds) else .stuck
    | _ => .stuck
  | .exc c _ => .exc c
  | _ => .stuck
def startI (n c : Nat) (ds : List D) : Ev := some (.oo c [] []) :: (ds.map (fun d => some (.sh d)) ++ List.replicate (n - (ds.length + 1)) none)
theorem startI_get {n c : Nat} {ds : List D} {i : Nat} {o : Option Sl} (h : (startI n c ds)[i]? = some o) : (i = 0 ∧ o = some (.oo c [] [])) ∨ (∃ j d, i = j + 1 ∧ ds[j]? = some d ∧ o = some (.sh d)) ∨ o = none := by
  unfold startI at h
  cases i with
  | zero => simp at h; exact .inl ⟨rfl, h.symm⟩
  | succ j =>
    simp only [List.getElem?_cons_succ] at h
    by_cases hi : j < ds.length
    · rw [List.getElem?_append_left (by simpa using hi), List.getElem?_map] at h
      cases q : ds[j]? with
      | none => rw [q] at h; cases h
      | some d => rw [q] at h; cases h; exact .inr (.inl ⟨j, d, rfl, q, rfl⟩)
    · rw [List.getElem?_append_right (by simpa using hi), List.getElem?_replicate] at h
      split at h
      · cases h; exact .inr (.inr rfl)
      · cases h
theorem fn_init {P : Program} {w : World} {K : PySem.W.Frag} {mg : Str → Option Value} {base : Heap} {κ : Nat → Addr} {x qual : Str} {st : Stmt} {f : Addr} {fd : FuncData} {N ps : List Str} {k c : Nat} {F : Ev → SR}
    (Fn : Fun K x qual st f fd) (S : FnScope N ps (defScope st))
    (hb : ∀ (X : Cx) (B : Gd), Cxo X → X.calm = true → X.prog = P → X.w = w → X.K = K → X.mg = mg → X.base = base → X.N = N → X.env.scope = defScope st → (∀ y, X.fn y = true) → Room k X.A → FrmOk X → PZs κ B X (defBody st) F) :
    FnOk P w K mg base (CXR P w) (k + 1) f fd ps (spI K κ c ps.length fun ds => finI c (F (startI N.length c ds))) := by
  obtain ⟨oc, od, kV, doc, pm, an, cdv, ct, osl, rfl, lk, hcd⟩ := Fn.ex
  refine fn_of lk hcd S (fun vs H Q E h => h.1) fun A outer s H vs Q E hr hsp => ?_
  obtain ⟨hl, y, dy, vr, G, ds, rfl, hy, gy, sm, dn, hq⟩ := hsp
  dsimp only at hq
  generalize hX : cxOf (CXR P w) P w K mg base N qual (defScope st) f cdv A outer s H E = X
  have eP : X.prog = P := by rw [← hX]; rfl
  have ew : X.w = w := by rw [← hX]; rfl
  have eK : X.K = K := by rw [← hX]; rfl
  have cx : Cxo X := by rw [← hX]; exact ⟨fun _ _ => trivial, rfl⟩
  have body := fun B => hb X B cx (by rw [← hX]; rfl) eP ew eK (by rw [← hX]; rfl) (by rw [← hX]; rfl) (by rw [← hX]; rfl) (by rw [← hX]; rfl) (fun y => by rw [← hX]; rfl) (by rw [← hX]; exact hr) (by rw [← hX]; exact ⟨rfl, rfl⟩)
  have e0 : X.H₀ = H := by rw [← hX]; rfl
  refine ⟨fun Dn σ H => ∃ B G δ, Rep ⟨X.K, κ⟩ B X.H₀ G H σ δ ∧ ∀ pins, SPost κ B X X.xe pins Dn (F δ), fun pins s' σ H' Dn I ⟨B, G, δ, rp, h⟩ => ?_, ⟨G, fun b => b = y⟩, G, startI N.length c ds, ?_, fun pins => ?_⟩
  · refine body B X.xe pins s' σ H' G δ Dn ?_ I rp (h pins)
    rw [← hX]
    exact PassesOwn.leaving
  · rw [e0, eK]
    have hld : ds.length = vr.length := dn.length.symm
    refine ⟨⟨Same.refl _, sm, fun _ _ e _ => e, fun _ e => e, fun _ _ e => e⟩, ?_, fun i d e => ?_, fun i es e => ?_, fun i j es fs a n e => ?_, fun i c' ns es e => ?_, fun i j c' ns es c2 ns2 es2 e e2 => ?_⟩
    · unfold L2.start startI
      simp [hld]
    · rcases startI_get e with ⟨_, z⟩ | ⟨j, d', rfl, q, z⟩ | z
      · cases z
      · cases z
        obtain ⟨v, e1, e2⟩ := dn.get q
        refine ⟨v, ?_, e2⟩
        unfold L2.start
        have hj : j < vr.length := (List.getElem?_eq_some_iff.mp e1).1
        rw [List.getElem?_append_left (by simp; omega)]
        simp [e1]
      · cases z
    · rcases startI_get e with ⟨_, z⟩ | ⟨j, d', rfl, q, z⟩ | z <;> cases z
    · rcases startI_get e with ⟨_, z⟩ | ⟨j, d', rfl, q, z⟩ | z <;> cases z
    · rcases startI_get e with ⟨rfl, z⟩ | ⟨j, d', rfl, q, z⟩ | z
      · cases z
        exact ⟨y, dy, [], rfl, hy, rfl, dens_nil, gy, rfl⟩
      · cases z
      · cases z
    · rcases startI_get e with ⟨rfl, z⟩ | ⟨j, d', rfl, q, z⟩ | z
      · rcases startI_get e2 with ⟨rfl, z⟩ | ⟨j, d', rfl, q, z⟩ | z
        · rfl
        · cases z
        · cases z
      · cases z
      · cases z
  · have holds : ∀ {G' H' : Hp}, Hold ⟨G, fun b => b = y⟩ X.H₀ G' H' → (∀ b o, H b = some o → b ≠ y → H' b = some o) ∧ (G' y = none) ∧ (∀ a, G' a ≠ none → G a ≠ none ∨ H a = none) := fun {G' H'} h => by
      rw [e0] at h
      refine ⟨fun b o e n => h.old b o e n, h.lent y (by rw [hy]; simp) gy, fun a n => ?_⟩
      cases q : H a with
      | none => exact .inr rfl
      | some o =>
        refine .inl fun z => n ?_
        exact h.lent a (by rw [q]; simp) z
    cases q : F (startI N.length c ds) with
    | next δ' =>
      rw [q] at hq
      intro σ' H' G' r
      rcases hz : (δ'[0]? : Option (Option Sl)) with _ | _ | (d | es | ⟨c', ns, es⟩)
      · simp only [finI, hz] at hq
      · simp only [finI, hz] at hq
      · simp only [finI, hz] at hq
      · simp only [finI, hz] at hq
      · by_cases hc : c' = c
        · subst hc
          simp only [finI, hz, if_true] at hq
          obtain ⟨y', dy', us, x1, x2, x3, x4, x5, x6⟩ := r.oo 0 _ ns es hz
          obtain rfl : y' = y := x6
          obtain ⟨h1, h2, h3⟩ := holds r.toHold
          exact hq us H' G' dy' r.gG h1 r.GH h2 h3 x3 (by rw [eK] at x4; exact x4) x2
        · simp only [finI, hz, if_neg hc] at hq
    | ret d => rw [q] at hq; exact False.elim hq
    | exc c' δ' =>
      rw [q] at hq
      intro ea s' σ' H' G' I' F' r
      have hE : E (.ref (κ c')) none H' := hq H' (holds r.toHold).1
      have I2 : Inv X pins σ' H' s' := by
        have := I'.unwish
        exact this
      have := leave_ok (M := model P w) (E := E) (E' := fun e' s'' => CXR P w outer H s E e' s'') I2 cx.ex (by rw [← hX]; rfl) (by rw [← hX]; rfl) F' hE
      rw [← hX] at this ⊢
      exact this
    | brk δ' => rw [q] at hq; exact False.elim hq
    | cont δ' => rw [q] at hq; exact False.elim hq
    | stuck => rw [q] at hq; exact False.elim hq
/-- a method, a maker of the module -/
def MM (P : Program) (w : World) (K : PySem.W.Frag) (mg : Str → Option Value) (base : Heap) (κ : Nat → Addr) (c : Nat) (x : Str) (ps : List Str) (m : List D → R D) (k : Nat) : Prop :=
  ∃ f fd, FnOk P w K mg base (CXR P w) k f fd ps (spM K κ ps.length m) ∧ Meth K (κ c) x f ∧ Binds K fd ps []
theorem MM.at {κ : Nat → Addr} {X : Cx} {c : Nat} {x : Str} {ps : List Str} {n : Nat} {m : List D → R D} {k j : Nat} (h : MM X.prog X.w X.K X.mg X.base κ c x ps m k) (hr : Room j X.A) (hj : k ≤ j) (hn : ps.length = n := by rfl) : Mth κ X c x n m := by
  obtain ⟨f, fd, F, h1, h2⟩ := h
  subst hn
  exact ⟨f, fd, ps, k, F, hr.mono hj, h1, h2⟩
def MI (P : Program) (w : World) (K : PySem.W.Frag) (mg : Str → Option Value) (base : Heap) (κ : Nat → Addr) (x : Str) (c : Nat) (ps : List Str) (m : List D → R (List Str × List D)) (k : Nat) : Prop :=
  ∃ f fd, FnOk P w K mg base (CXR P w) k f fd ps (spI K κ c ps.length m) ∧ L2.Mk K (κ c) f ∧ mg x = some (.ref (κ c)) ∧ Binds K fd ps []
theorem MI.at {κ : Nat → Addr} {X : Cx} {c : Nat} {x : Str} {ps : List Str} {n : Nat} {m : List D → R (List Str × List D)} {k j : Nat} (h : MI X.prog X.w X.K X.mg X.base κ x c ps m k) (hr : Room j X.A) (hj : k + 1 ≤ j) (hn : ps.length = n := by rfl) : Maker κ X x c n m := by
  obtain ⟨f, fd, F, h1, h2, h3⟩ := h
  subst hn
  exact ⟨f, fd, ps, k, F, hr.mono hj, h1, h2, h3⟩
end L3

-- part L3k.lean
set_option Elab.async false
set_option linter.all false
set_option maxRecDepth 100000
namespace L3
open PySem PySem.Spec PyProof.Rows L2

/-! ## comprehensions: one clause, at most one test -/
theorem closure_ok {env : Env} : ∀ (ns : List (Str × NameKind)) (acc : List (Str × Addr)), (∀ y ∈ ns, y.2 = .free → ∃ c, env.cells.lookup y.1 = some c) → (∀ y c, acc.lookup y = some c → env.cells.lookup y = some c) →
    ∃ cl, (forIn ns acc (fun (p : Str × NameKind) (cs : List (Str × Addr)) => (match p with | (name, kind) => if (kind == NameKind.free) = true then do let c ← cellOf env name; pure (ForInStep.yield ((name, c) :: cs)) else pure (ForInStep.yield cs) : Sem (ForInStep (List (Str × Addr))))) : Sem _) = pure cl ∧
      (∀ y c, cl.lookup y = some c → env.cells.lookup y = some c) ∧ (∀ y, (∃ c, acc.lookup y = some c) ∨ (y, NameKind.free) ∈ ns → ∃ c, cl.lookup y = some c)
  | [], acc, _, h2 => ⟨acc, rfl, h2, fun y h => h.elim id fun z => by simp at z⟩
  | (n, k) :: r, acc, h1, h2 => by
    rw [List.forIn_cons]
    by_cases hk : k = .free
    · subst hk
      obtain ⟨c, hc⟩ := h1 (n, .free) List.mem_cons_self rfl
      obtain ⟨cl, e, p, q⟩ := closure_ok r ((n, c) :: acc) (fun y hy => h1 y (List.mem_cons_of_mem _ hy)) (fun y d hd => by
        rw [List.lookup_cons] at hd
        cases hy : y == n with
        | true => rw [hy] at hd; cases hd; rw [eq_of_beq hy]; exact hc
        | false => rw [hy] at hd; exact h2 y d hd)
      refine ⟨cl, ?_, p, fun y h => q y ?_⟩
      · rw [← e]
        have : cellOf env n = pure c := by unfold cellOf; rw [hc]
        simp only [beq_self_eq_true, if_true, this, pure_bind]
      · rcases h with ⟨d, hd⟩ | h
        · rw [List.lookup_cons]
          cases hy : y == n with
          | true => exact .inl ⟨c, rfl⟩
          | false => exact .inl ⟨d, hd⟩
        · rcases List.mem_cons.mp h with h | h
          · cases h; rw [List.lookup_cons]; exact .inl ⟨c, by simp⟩
          · exact .inr h
    · obtain ⟨cl, e, p, q⟩ := closure_ok r acc (fun y hy => h1 y (List.mem_cons_of_mem _ hy)) h2
      have hb : (k == NameKind.free) = false := by simpa using hk
      refine ⟨cl, ?_, p, fun y h => q y ?_⟩
      · rw [← e]
        simp only [hb, Bool.false_eq_true, if_false, pure_bind]
      · rcases h with h | h
        · exact .inl h
        · rcases List.mem_cons.mp h with h | h
          · cases h; exact absurd rfl hk
          · exact .inr h
theorem relabel_lookup {env : Env} : ∀ {names : List (Str × NameKind)} {y : Str},
    (names.map fun (n, k) => if (k == NameKind.free && env.scope.kind == .function && env.kindOf n == some .cell) then (n, NameKind.cell) else (n, k)).lookup y = (names.lookup y).map fun k => if (k == NameKind.free && env.scope.kind == .function && env.kindOf y == some .cell) then NameKind.cell else k
  | [], _ => rfl
  | (n, k) :: r, y => by
    have ih := @relabel_lookup env r y
    show List.lookup y ((if (k == NameKind.free && env.scope.kind == .function && env.kindOf n == some .cell) = true then (n, NameKind.cell) else (n, k)) :: _) = _
    cases hy : y == n with
    | true =>
      have e := eq_of_beq hy
      subst e
      by_cases hc : (k == NameKind.free && env.scope.kind == .function && env.kindOf y == some .cell) = true
      · rw [if_pos hc]; simp only [List.lookup_cons, beq_self_eq_true, Option.map_some]; rw [if_pos hc]
      · rw [if_neg hc]; simp only [List.lookup_cons, beq_self_eq_true, Option.map_some]; rw [if_neg hc]
    | false =>
      by_cases hc : (k == NameKind.free && env.scope.kind == .function && env.kindOf n == some .cell) = true
      · rw [if_pos hc]; simp only [List.lookup_cons, hy]; exact ih
      · rw [if_neg hc]; simp only [List.lookup_cons, hy]; exact ih
theorem mem_look {α : Type} {y : Str} {a : α} : ∀ {l : List (Str × α)}, l.lookup y = some a → (y, a) ∈ l
  | [], h => by cases h
  | (n, k) :: r, h => by
    rw [List.lookup_cons] at h
    cases hy : y == n with
    | true => rw [hy] at h; cases h; rw [eq_of_beq hy]; exact List.mem_cons_self
    | false => rw [hy] at h; exact List.mem_cons_of_mem _ (mem_look h)
/-- the block of a comprehension, entered at s₁ -/
abbrev CmpX (X : Cx) (sc : Scope) (cl : List (Str × Addr)) (C : Addr) (s₁ : Shared) (H₁ : Hp) (pn : List (Addr × Obj)) (x : Str) : Cx :=
  { X with env := compEnvC sc cl C X.env, N := X.N ++ [x], s₀ := s₁, H₀ := H₁, outer := X.stack, stack := X.stack, ex := [], fn := fun _ => false, pn := pn, xe := fun _ _ => False, sg := fun _ _ => True }
structure CompOk (X : Cx) (sc : Scope) (x : Str) : Prop where
  cell : ∀ y ∈ sc.names, y.2 ≠ .cell
  kind : sc.kind = .function
  names : ∀ y ∈ sc.names, y.2 = .local → sc.names.lookup y.1 = some .local
  hx : sc.names.lookup x = some .local
  loc : ∀ y ∈ X.N, sc.names.lookup y ≠ some .local
  fr : ∀ y ∈ sc.names, y.2 = .free → X.env.scope.names.lookup y.1 = some .cell
  nd : X.N.Nodup
section
variable {κ : Nat → Addr} {B : Gd} {X : Cx} {sc : Scope} {x y : Str} {cl : List (Str × Addr)} {C : Addr} {s₁ : Shared} {H₁ : Hp} {pn : List (Addr × Obj)}
theorem cmp_cxo : Cxo (CmpX X sc cl C s₁ H₁ pn x) := ⟨fun _ _ => trivial, rfl⟩
theorem cmp_look {k : NameKind} (h : sc.names.lookup y = some k) (hk : k ≠ .free) : (CmpX X sc cl C s₁ H₁ pn x).env.scope.names.lookup y = some k := by
  show List.lookup y (sc.names.map _) = _
  have := @relabel_lookup X.env sc.names y
  refine this.trans ?_
  rw [h]
  have hb : (k == NameKind.free) = false := by simpa using hk
  simp only [Option.map_some, hb, Bool.false_and, Bool.false_eq_true, if_false]
theorem cmp_vis (h : sc.names.lookup y = some .free) : Vis (CmpX X sc cl C s₁ H₁ pn x).env.scope y := by
  have := @relabel_lookup X.env sc.names y
  rw [h] at this
  simp only [Option.map_some] at this
  by_cases hc : (NameKind.free == NameKind.free && X.env.scope.kind == .function && X.env.kindOf y == some .cell) = true
  · rw [if_pos hc] at this; exact .inr (.inl this)
  · rw [if_neg hc] at this; exact .inr (.inr this)
theorem cmp_n {i : Nat} (h : X.N[i]? = some y) : (CmpX X sc cl C s₁ H₁ pn x).N[i]? = some y := by
  show (X.N ++ [x])[i]? = _
  rw [List.getElem?_append_left (List.getElem?_eq_some_iff.mp h).1]; exact h
theorem cmp_x {i : Nat} (h : X.N.length = i) : (CmpX X sc cl C s₁ H₁ pn x).N[i]? = some x := by
  show (X.N ++ [x])[i]? = _
  rw [List.getElem?_append_right (by omega)]
  simp [h]
theorem cmp_cal {n : Nat} {m : List D → R D} (c : Cal κ X y n m) : Cal κ (CmpX X sc cl C s₁ H₁ pn x) y n m := ⟨c.ex⟩
end
section
variable {X : Cx} {sc : Scope} {x : Str} {cl : List (Str × Addr)} {C : Addr} {sb s4 : Shared} {Hb H4 : Hp} {pins : List (Addr × Obj)} {σ : St} {m : Str → Option Value} {E : Value → Shared → Prop}
theorem cmp_enter (I : Inv X pins σ Hb sb) (I4 : Inv X pins σ H4 s4) (u : Un (frs X.stack) [] Hb H4 sb.heap s4.heap) (ho : s4.os = sb.os) (co : CompOk X sc x)
    (cl1 : ∀ y c, cl.lookup y = some c → X.env.cells.lookup y = some c) (cl2 : ∀ y, (y, NameKind.free) ∈ sc.names → ∃ c, cl.lookup y = some c)
    (hC : sb.heap.objs.size ≤ C) (hns : s4.heap.Ns C m) (hCn : H4 C = none) : Inv ((CmpX X sc cl C sb Hb (X.pn ++ pins) x).wish E) [] (σ ++ [none]) H4 s4 := by
  have lt : ∀ {b o}, sb.heap.get? b = some o → b ≠ C := fun {b o} e z => absurd (Nat.lt_of_lt_of_le (Heap.lt_size e) (z ▸ hC)) (Nat.lt_irrefl _)
  have frs_ne : ∀ b ∈ frs X.stack, b ≠ C := fun b hb => by
    obtain ⟨_, o, ho, _⟩ := I.stack.mem hb
    exact lt ho
  have free_of : ∀ {y}, ((CmpX X sc cl C sb Hb (X.pn ++ pins) x).env.scope.names.lookup y = some .cell ∨ (CmpX X sc cl C sb Hb (X.pn ++ pins) x).env.scope.names.lookup y = some .free) → sc.names.lookup y = some .free := fun {y} h => by
    have r := @relabel_lookup X.env sc.names y
    cases q : sc.names.lookup y with
    | none => rw [q] at r; rcases h with h | h <;> (have := h.symm.trans r; cases this)
    | some k =>
      rw [q] at r
      simp only [Option.map_some] at r
      by_cases hk : k = .free
      · rw [hk]
      · exfalso
        have hb : (k == NameKind.free) = false := by simpa using hk
        simp only [hb, Bool.false_and, Bool.false_eq_true, if_false] at r
        have hc := co.cell
        rcases h with h | h
        · have e := h.symm.trans r
          cases e
          have := mem_look q
          exact hc _ this rfl
        · have e := h.symm.trans r
          cases e
          exact hk rfl
  refine ⟨⟨I.ok.mod, co.kind, I.ok.glob, I.ok.blt, hC, fun y z c h1 h2 => I.ok.inj y z c (cl1 y c h1) (cl1 z c h2), fun y h => ?_, (fun y c h => Bool.noConfusion h), I.ok.hd, I.ok.frames, .inl rfl, (fun b hb => by cases hb), fun b o e => I.bs b o e, Nat.le_trans I.ok.bsz I.sz, (fun b o e hb => by cases hb), (fun b hb => by cases hb), I.stack, I.stkFree⟩,
    ho, I4.bare, u, ⟨m, hns, fun i y v e1 e2 e3 => ?_⟩, fun y c h => I4.cell y c (cl1 y c h), hCn, fun y c h => I4.freeC y c (cl1 y c h), fun p hp => ?_, I4.hok, ?_, trivial⟩
  · have := free_of h
    exact cl2 y (mem_look this)
  · by_cases hi : i < σ.length
    · rw [List.getElem?_append_left hi] at e2
      have hlen : i < X.N.length := by have := I4.len; omega
      have e1' : X.N[i]? = some y := by
        have : (X.N ++ [x])[i]? = some y := e1
        rwa [List.getElem?_append_left hlen] at this
      obtain ⟨hm, e0⟩ := List.getElem?_eq_some_iff.mp e1'
      have hy : y ∈ X.N := e0 ▸ List.getElem_mem hm
      rcases e3 with e3 | e3
      · exfalso
        have r := @relabel_lookup X.env sc.names y
        cases q : sc.names.lookup y with
        | none => rw [q] at r; have := (show List.lookup y _ = _ from e3).symm.trans r; cases this
        | some k =>
          rw [q] at r
          simp only [Option.map_some] at r
          have e := (show List.lookup y _ = _ from e3).symm.trans r
          injection e with e
          split at e
          · cases e
          · rw [← e] at q
            exact co.loc y hy q
      · have hf := free_of e3
        have hcell := co.fr (y, .free) (mem_look hf) rfl
        obtain ⟨c, hc⟩ := cl2 y (mem_look hf)
        obtain ⟨m', _, hl⟩ := I4.loc
        obtain ⟨w, r, l⟩ := hl i y v e1' e2 (.inr (.inl hcell))
        refine ⟨w, r, .inr ⟨e3, c, hc, ?_⟩⟩
        rcases l with ⟨hk, _⟩ | ⟨_, c', hc', z⟩
        · have : X.env.scope.names.lookup y = some .local := hk
          rw [hcell] at this; cases this
        · have := (cl1 y c hc).symm.trans hc'
          cases this
          exact z
    · rw [List.getElem?_append_right (by omega)] at e2
      cases q : i - σ.length with
      | zero => rw [q] at e2; simp at e2
      | succ k => rw [q] at e2; simp at e2
  · have hp : p ∈ X.pn ++ pins := by simpa using hp
    obtain ⟨a1, a2, a3, a4, a5⟩ := I4.pin p hp
    obtain ⟨b1, _⟩ := I.pin p hp
    exact ⟨a1, a2, lt b1, fun z => by
      rcases List.mem_cons.mp (I.stkSub _ z) with e | e
      · exact a3 e
      · exact a4 e, a5⟩
  · show (σ ++ [none]).length = (X.N ++ [x]).length
    simp [I4.len]
/-- the block is left -/
theorem cmp_leave {pins' : List (Addr × Obj)} {σ' : St} {s' : Shared} {H' : Hp} {h' : Heap} (I : Inv X pins σ Hb sb) (J : Inv ((CmpX X sc cl C sb Hb (X.pn ++ pins) x).wish E) pins' σ' H' s') (hC : sb.heap.objs.size ≤ C) (sbt : Heap.SameBut C s'.heap h') : Inv X pins σ H' { s' with heap := h' } := by
  have I1 : Inv X pins σ H' s' := I.call' (ch := []) J.os J.base J.hok J.bare (fun b z => by cases z)
  have lt : ∀ {b o}, sb.heap.get? b = some o → b ≠ C := fun {b o} e z => absurd (Nat.lt_of_lt_of_le (Heap.lt_size e) (z ▸ hC)) (Nat.lt_irrefl _)
  refine I1.turned (t' := s'.toks) (it := C) (fun b o hb e => sbt.extBut b o hb e) J.free (fun z => ?_) (.inr (Nat.le_trans I.sz hC)) (fun y c h z => ?_) (fun p hp z => ?_)
  · obtain ⟨mm, ⟨o, _, _, ho, _⟩, _⟩ := I.loc
    exact lt ho z.symm
  · obtain ⟨v, o, ho, _⟩ := I.cell y c h
    exact lt ho z
  · exact lt (I.pin p hp).1 z
end

/-! ### what is walked -/
def PIcE (X : Cx) (pins : List (Addr × Obj)) (σ : St) (tg : Expr) (R : It → Hp → Prop) (itv : Value) (s2 : Shared) : Prop :=
  ∃ (sb : Shared) (Hb : Hp) (it : Addr) (fp : List Addr) (tn : Nat → Heap → Prop) (J : It), itv = .ref it ∧ Inv X pins σ Hb sb ∧ Inv X pins σ Hb s2 ∧ (∀ b o, sb.heap.get? b = some o → s2.heap.get? b = some o) ∧ s2.os = sb.os ∧ sb.heap.objs.size ≤ s2.heap.objs.size ∧
    Turn X.prog X.w X.K tg J fp it tn ∧ tn 0 s2.heap ∧ (∀ b ∈ fp, sb.heap.objs.size ≤ b ∧ b < s2.heap.objs.size) ∧ R J Hb
def PIc (X : Cx) (tg iter : Expr) (wi : TI) : Prop :=
  ∀ (pins : List (Addr × Obj)) (s : Shared) (σ : St) (H : Hp) (R : It → Hp → Prop), Inv X pins σ H s → wi σ H R →
    wpAny (model X.prog X.w) X.A (eval iter X.env) (fun v s1 => wpAny (model X.prog X.w) X.A (pyIter v) (PIcE X pins σ tg R) X.xe s1) X.xe s
section
variable {X : Cx} {tg : Expr}
theorem pic_list {l : Expr} {tl : TE} (hl : PE X l tl) : PIc X tg l (iList X.K tl) := by
  intro pins s σ H R I h
  refine thn (hl pins s σ H _ I h) fun v s1 ⟨x, H1, I1, r1, q1⟩ => ?_
  obtain ⟨a, e, ⟨xs, hq⟩, q⟩ := q1
  subst e
  cases r1
  obtain ⟨its, rv, p, hz⟩ := I1.list hq
  refine wpAny_pyIter_list p.isList ?_
  refine ⟨s1, H1, s1.heap.objs.size, [s1.heap.objs.size], _, _, rfl, I1, I1.kept (t' := s1.toks) fun b o e => Heap.get?_push_of_some _ e, fun b o e => Heap.get?_push_of_some _ e, rfl, by simp [Heap.size_push], turn_list a _, ⟨_, Heap.get?_push_size _ rfl, rfl, rfl⟩, fun b hb => ?_, q⟩
  have e : b = s1.heap.objs.size := by simpa using hb
  subst e
  simp [Heap.size_push]
theorem pic_tup {l : Expr} {tl : TE} (hl : PE X l tl) : PIc X tg l (iTup X.K tl) := by
  intro pins s σ H R I h
  refine thn (hl pins s σ H _ I h) fun v s1 ⟨x, H1, I1, r1, q1⟩ => ?_
  obtain ⟨a, e, ⟨xs, hq⟩, q⟩ := q1
  subst e
  cases r1
  obtain ⟨its, rv, p, hz⟩ := I1.tuple hq
  refine wpAny_pyIter_tuple (show s1.heap.IsTuple a its.toArray from p) ?_
  refine ⟨s1, H1, s1.heap.objs.size, [s1.heap.objs.size], _, _, rfl, I1, I1.kept (t' := s1.toks) fun b o e => Heap.get?_push_of_some _ e, fun b o e => Heap.get?_push_of_some _ e, rfl, by simp [Heap.size_push], turn_tuple a _, ⟨_, Heap.get?_push_size _ rfl, rfl, rfl⟩, fun b hb => ?_, q⟩
  have e : b = s1.heap.objs.size := by simpa using hb
  subst e
  simp [Heap.size_push]
theorem rangeC_it {pins : List (Addr × Obj)} {σ : St} {H : Hp} {s : Shared} {R : It → Hp → Prop} {E : Value → Shared → Prop} {lo hi : Int} {t u v : Tok} {tk : Nat} (I : Inv X pins σ H s) (h1 : -(2 ^ 62) ≤ lo) (h2 : lo < 2 ^ 62) (h3 : -(2 ^ 62) ≤ hi) (h4 : hi < 2 ^ 62)
    (q : R (Itr lo (hi - lo).toNat) H) : wpAny (model X.prog X.w) X.A (pyIter (.ref s.heap.objs.size)) (PIcE X pins σ tg R) E { s with heap := s.heap.push { cls := .type "range", data := .fields #[.int lo t, .int hi u, .int 1 v] }, toks := tk } := by
  refine wpAny_pyIter_range (IsRange.new ..) (small_one h1 h2 h3 h4) ?_
  have I1 : Inv X pins σ H { s with heap := s.heap.push { cls := .type "range", data := .fields #[.int lo t, .int hi u, .int 1 v] }, toks := tk } := I.kept fun b o e => Heap.get?_push_of_some _ e
  refine ⟨s, H, (s.heap.push { cls := .type "range", data := .fields #[.int lo t, .int hi u, .int 1 v] }).objs.size, [(s.heap.push { cls := .type "range", data := .fields #[.int lo t, .int hi u, .int 1 v] }).objs.size], _, _, rfl, I,
    I1.kept (t' := tk) fun b o e => Heap.get?_push_of_some _ e, fun b o e => Heap.get?_push_of_some _ (Heap.get?_push_of_some _ e), rfl, by simp [Heap.size_push]; omega, turn_range _ lo (hi - lo).toNat, ?_, fun b hb => ?_, q⟩
  · have e1 : lo + ((0 : Nat) : Int) * 1 = lo := by simp
    have e2 : (((hi - lo).toNat : Nat) : Int) - ((0 : Nat) : Int) = Builtin.Range.rangeSize lo hi 1 := by rw [rangeSize_one]; split <;> omega
    show IsRangeIter _ _ (lo + ((0 : Nat) : Int) * 1) ((((hi - lo).toNat : Nat) : Int) - ((0 : Nat) : Int)) 1
    rw [e1, e2]
    exact Heap.get?_push_size _ rfl
  · have e : b = (s.heap.push { cls := .type "range", data := .fields #[.int lo t, .int hi u, .int 1 v] }).objs.size := by simpa using hb
    subst e
    simp [Heap.size_push]
theorem pic_range1 {a : Expr} {ta : TA} {p pos : Pos} (hg : Gl X "range") (hm : X.mg "range" = none) (ha : PA X [a] ta) (hs : starEach [a] X.env = [(false, eval a X.env)]) : PIc X tg (.Call (.Name "range" p) [a] [] pos) (iRng1 ta) := by
  intro pins s σ H R I h
  refine Call_ (ld_blt I hg hm boot_range (PyProof.Rows.callWith_type1 (thn (ha pos pins s σ H _ I h) fun us s1 ⟨vs, H1, I1, r1, q1⟩ => ?_) hs rfl))
  obtain ⟨j, e, q1, q2, q⟩ := q1
  subst e
  cases r1 with
  | cons r rr =>
    cases rr
    obtain ⟨t, rfl⟩ := r
    exact call_range_1 (rangeC_it I1 (by omega) (by omega) q1 q2 (by simpa using q))
theorem pic_range2 {a b : Expr} {ta : TA} {p pos : Pos} (hg : Gl X "range") (hm : X.mg "range" = none) (ha : PA X [a, b] ta) (hs : starEach [a, b] X.env = [(false, eval a X.env), (false, eval b X.env)]) (hs2 : starEach [b] X.env = [(false, eval b X.env)]) :
    PIc X tg (.Call (.Name "range" p) [a, b] [] pos) (iRng2 ta) := by
  intro pins s σ H R I h
  refine Call_ (ld_blt I hg hm boot_range (PyProof.Rows.callWith_type1 (thn (ha pos pins s σ H _ I h) fun us s1 ⟨vs, H1, I1, r1, q1⟩ => ?_) (by rw [hs, hs2]) (by rw [hs2]; rfl)))
  obtain ⟨i, j, e, ⟨q1, q2, q3, q4⟩, q⟩ := q1
  subst e
  cases r1 with
  | cons r rr =>
    cases rr with
    | cons r' rr =>
      cases rr
      obtain ⟨t, rfl⟩ := r
      obtain ⟨t', rfl⟩ := r'
      exact call_range_2 (rangeC_it I1 q1 q2 q3 q4 q)
end
def PIcz (κ : Nat → Addr) (B : Gd) (X : Cx) (tg e : Expr) (f : Ev → R (List D)) : Prop := ∀ pins σ Ex, PIc (At X pins σ Ex) tg e (tO (fun G _ J ds => IsIt X κ J G ds) X κ B (EX X pins σ Ex) f)
theorem pic_imp {Y : Cx} {tg e : Expr} {w w' : TI} (h : PIc Y tg e w) (k : ∀ σ H R, w' σ H R → w σ H R) : PIc Y tg e w' := fun pins s σ H R I q => h pins s σ H R I (k σ H R q)
theorem pic_or {Y : Cx} {tg e : Expr} {w w' : TI} (h : PIc Y tg e w) (h' : PIc Y tg e w') : PIc Y tg e (fun σ H R => w σ H R ∨ w' σ H R) := fun pins s σ H R I q => q.elim (h pins s σ H R I) (h' pins s σ H R I)
section
variable {κ : Nat → Addr} {B : Gd} {X : Cx} {e tg : Expr} {f : Ev → R D} {pos : Pos}
theorem picz_seq (h : PX κ B X e f) : PIcz κ B X tg e (fun δ => (f δ).bind itemsD) := fun pins σ Ex =>
  pic_imp (pic_or (pic_list (X := At X pins σ Ex) (h pins σ Ex)) (pic_tup (X := At X pins σ Ex) (h pins σ Ex))) fun τ H R ⟨G, δ, rp, q⟩ => by
    dsimp only at q
    cases e : f δ with
    | ok d =>
      rw [e] at q
      cases d with
      | lst ds =>
        refine .inl ⟨G, δ, rp, ?_⟩
        rw [e]
        intro v H' G' e1 d1
        unfold Den at d1
        obtain ⟨a, vs, rfl, h1, h2⟩ := d1
        exact ⟨a, rfl, ⟨vs, e1.GH.seq h1⟩, q _ H' G' e1 (isIt_list (H := H') h1 h2)⟩
      | tup ds =>
        refine .inr ⟨G, δ, rp, ?_⟩
        rw [e]
        intro v H' G' e1 d1
        unfold Den at d1
        obtain ⟨a, vs, rfl, h1, h2⟩ := d1
        exact ⟨a, rfl, ⟨vs, same_seqT e1.GH h1⟩, q _ H' G' e1 (isIt_tup (H := H') h1 h2)⟩
      | _ => exact False.elim q
    | exc c =>
      rw [e] at q
      refine .inl ⟨G, δ, rp, ?_⟩
      rw [e]
      exact q
    | stuck => rw [e] at q; exact False.elim q
theorem picz_range1 {a : Expr} {fs : Ev → R (List D)} {p pos : Pos} (hg : Gl X "range") (hm : X.mg "range" = none) (ha : PXs κ B X [a] fs) (h : noStar a = true) : PIcz κ B X tg (.Call (.Name "range" p) [a] [] pos) (fun δ => (fs δ).bind iR1) := fun pins σ Ex =>
  pic_imp (pic_range1 (X := At X pins σ Ex) hg hm (ha pins σ Ex) (star_cons h)) fun τ H R ⟨G, δ, rp, q⟩ => ⟨G, δ, rp, q.seq fun x v H1 G1 e1 d1 q1 => by
    unfold iR1 at q1
    split at q1
    · rename_i j
      split at q1
      · rename_i hj
        refine ⟨j, dens_int1 d1, hj.1, hj.2, ?_⟩
        have := q1 _ H1 G1 (Ext.refl e1.GH) (isIt_rng (lo := 0) (n := (j - 0).toNat))
        simpa using this
      · exact False.elim q1
    · exact False.elim q1⟩
theorem picz_range2 {a b : Expr} {fs : Ev → R (List D)} {p pos : Pos} (hg : Gl X "range") (hm : X.mg "range" = none) (ha : PXs κ B X [a, b] fs) (h : noStar a = true) (h' : noStar b = true) : PIcz κ B X tg (.Call (.Name "range" p) [a, b] [] pos) (fun δ => (fs δ).bind iR2) := fun pins σ Ex =>
  pic_imp (pic_range2 (X := At X pins σ Ex) hg hm (ha pins σ Ex) (by rw [star_cons h, star_cons h']; rfl) (star_cons h')) fun τ H R ⟨G, δ, rp, q⟩ => ⟨G, δ, rp, q.seq fun x v H1 G1 e1 d1 q1 => by
    unfold iR2 at q1
    split at q1
    · rename_i i j
      split at q1
      · rename_i hj
        exact ⟨i, j, dens_int2 d1, ⟨hj.1.1, hj.1.2, hj.2.1, hj.2.2⟩, q1 _ H1 G1 (Ext.refl e1.GH) (isIt_rng (lo := i) (n := (j - i).toNat))⟩
      · exact False.elim q1
    · exact False.elim q1⟩
end
/-! ### the block -/
def shE (δ : Ev) : Ev := δ.map fun o => match o with
  | some (.sh d) => some (.sh d)
  | _ => none
def compZ (t : Ev → R Bool) (f : Ev → R D) (δ : Ev) : List D → R (List D)
  | [] => .ok []
  | d :: ds => (t (δ ++ [some (.sh d)])).bind fun k => if k then (f (δ ++ [some (.sh d)])).bind fun y => (compZ t f δ ds).bind fun ys => .ok (y :: ys) else compZ t f δ ds
def noX : R (List D) → R (List D)
  | .ok l => .ok l
  | _ => .stuck
def mComp (fit : Ev → R (List D)) (t : Ev → R Bool) (f : Ev → R D) : Ev → R (List D) := fun δ => (fit δ).bind fun ds => if ds.length ≤ 1000000 then noX (compZ t f (shE δ) ds) else .stuck
def PTs (κ : Nat → Addr) (B : Gd) (X : Cx) (ifs : List Expr) (t : Ev → R Bool) : Prop := ∀ pins σ Ex s H Q, Inv (At X pins σ Ex) pins σ H s → tO bRel X κ B (EX X pins σ Ex) t σ H Q →
  wpAny (model X.prog X.w) X.A (forIn ifs true fun c r => if r = true then do let ok ← isTrue c X.env (eval c X.env); pure (ForInStep.yield ok) else pure (ForInStep.yield r)) (TP (At X pins σ Ex) pins σ Q) Ex s
theorem pts_nil {κ : Nat → Addr} {B : Gd} {X : Cx} : PTs κ B X [] (fun _ => .ok true) := fun pins σ Ex s H Q I ⟨G, δ, rp, q⟩ => wpAny_tests_nil ⟨H, I, q true H G (Ext.refl rp.GH) rfl⟩
theorem pts_one {κ : Nat → Addr} {B : Gd} {X : Cx} {c : Expr} {t : Ev → R Bool} (h : PXt κ B X c t) : PTs κ B X [c] t := fun pins σ Ex s H Q I q => wpAny_tests_one (h pins σ Ex pins s σ H Q I q)
theorem rep_comp {Z : Zx} {B : Gd} {H₀ G₁ H₁ G H : Hp} {σ : St} {δ : Ev} {v : V} {d : D} (rp : Rep Z B H₀ G₁ H₁ σ δ) (e : Ext G₁ H₁ G H) (dv : Den Z G v d) : Rep Z ⟨G₁, fun _ => False⟩ H₁ G H (σ ++ [some v]) (shE δ ++ [some (.sh d)]) := by
  have hl : (shE δ).length = δ.length := by simp [shE]
  have cases' : ∀ {i : Nat} {o : Sl}, (shE δ ++ [some (.sh d)])[i]? = some (some o) → ∃ d', o = .sh d' ∧ ∃ w, (σ ++ [some v])[i]? = some (some w) ∧ Den Z G w d' := fun {i o} q => by
    by_cases hi : i < δ.length
    · rw [List.getElem?_append_left (by omega)] at q
      simp only [shE, List.getElem?_map] at q
      cases z : δ[i]? with
      | none => rw [z] at q; cases q
      | some o' =>
        rw [z] at q
        simp only [Option.map_some, Option.some.injEq] at q
        split at q
        · rename_i d'
          cases q
          obtain ⟨w, e1, e2⟩ := rp.sh i d' z
          exact ⟨d', rfl, w, by rw [List.getElem?_append_left (by rw [rp.len]; exact hi)]; exact e1, e2.mono e.sG⟩
        · cases q
    · rw [List.getElem?_append_right (by omega), hl] at q
      cases z : i - δ.length with
      | succ k => rw [z] at q; simp at q
      | zero =>
        rw [z] at q
        simp at q
        refine ⟨d, q.symm, v, ?_, dv⟩
        rw [List.getElem?_append_right (by rw [rp.len]; omega), rp.len, z]
        rfl
  refine ⟨⟨e.sG, e.GH, fun b o q _ => e.sH _ _ q, fun b q => ?_, fun b q n => ?_⟩, by simp [hl, rp.len], fun i d' q => ?_, fun i ds q => ?_, fun i j ds es a n q1 => ?_, fun i c ns ds q => ?_, fun i j c ns ds c' ns' ds' q => ?_⟩
  · cases z : H₁ b with
    | none => exact absurd z q
    | some o => rw [e.sH _ _ z]; simp
  · cases z : G b with
    | none => rfl
    | some o => exact ((e.new b (by rw [z]; simp)).elim (fun y => y n) fun y => q y).elim
  · obtain ⟨d'', e1, w, e2, e3⟩ := cases' q
    cases e1
    exact ⟨w, e2, e3⟩
  · obtain ⟨d'', e1, _⟩ := cases' q; cases e1
  · obtain ⟨d'', e1, _⟩ := cases' q1; cases e1
  · obtain ⟨d'', e1, _⟩ := cases' q; cases e1
  · obtain ⟨d'', e1, _⟩ := cases' q; cases e1

section
variable {κ : Nat → Addr} {B : Gd} {X : Cx} {sc : Scope} {x : Str} {px pos : Pos} {iter elt : Expr} {ifs : List Expr} {fit : Ev → R (List D)} {t : Ev → R Bool} {f : Ev → R D}
theorem pxf_comp (hc : X.calm = true) (co : CompOk X sc x) (hi : PIcz κ B X (.Name x px) iter fit)
    (ht : ∀ B' cl C s₁ H₁ pn, PTs κ B' (CmpX X sc cl C s₁ H₁ pn x) ifs t) (he : ∀ B' cl C s₁ H₁ pn, PX κ B' (CmpX X sc cl C s₁ H₁ pn x) elt f)
    (hs : ∀ x, foldedSetIterable iter X.env x = pure x) : PXf κ B X (.ListComp elt [⟨.Name x px, iter, ifs, 0⟩] sc pos) (mComp fit t f) := fun pins σ Ex pins' s τ H Q I ⟨G, δ, rp, q⟩ => by
  obtain ⟨rfl, rfl⟩ := I.sgm
  obtain ⟨cl, hcl, cl1, cl2⟩ := closure_ok (env := X.env) sc.names [] (fun y hy hk => by
    have := co.fr y hy hk
    exact I.ok.has y.1 (.inl this)) (fun y c h => by cases h)
  have hclos : closureFor sc X.env = pure cl := by
    unfold closureFor
    simp only [bind_pure]
    exact hcl
  show wpAny (model X.prog X.w) X.A (eval (.ListComp elt [⟨.Name x px, iter, ifs, 0⟩] sc pos) X.env) _ Ex s
  rw [eval_ListComp]
  refine wpAny_comprehension_free (use := none) rfl hs hclos co.kind co.names ?_
  refine thn (hi pins' τ Ex pins' s τ H (fun J H' => ∃ G' ds, Ext G H G' H' ∧ IsIt X κ J G' ds ∧ fOut X κ (EX X pins' τ Ex) G' H' (if ds.length ≤ 1000000 then noX (compZ t f (shE δ) ds) else .stuck) Q) I ⟨G, δ, rp, ?_⟩) fun v s1 h1 => thn h1 fun itv s2 h2 => ?_
  · unfold mComp at q
    cases e : fit δ with
    | ok ds => rw [e] at q; exact fun J H' G' e1 d1 => ⟨G', ds, e1, d1, fOut.pre e1 q⟩
    | exc c => rw [e] at q; exact q
    | stuck => rw [e] at q; exact q
  obtain ⟨sb, Hb, it, fp, tn, J, rfl, Ib, I2, kb, hos, hsz, T, st2, hfp, Gb, ds, e1, ⟨us, dus, hJ⟩, q2⟩ := h2
  have rpb : Rep ⟨X.K, κ⟩ B X.H₀ Gb Hb τ δ := rp.ext e1
  have hlen := dus.length
  split at q2
  case isFalse => exact False.elim q2
  rename_i hbig
  cases ez : compZ t f (shE δ) ds with
  | exc c => rw [ez] at q2; exact False.elim q2
  | stuck => rw [ez] at q2; exact False.elim q2
  | ok l =>
  rw [ez] at q2
  have hf2 : Hb s2.heap.objs.size = none := I2.hok.fresh (Nat.le_refl _)
  have I3 := I2.laid (a := s2.heap.objs.size) (o := .lst []) (t' := s2.toks) (h' := s2.heap.push { cls := .type "list", dict := none, data := .seq ([] : List Value).toArray }) (fun b u e => Heap.get?_push_of_some _ e) (Nat.le_refl _) ⟨by decide, [], 0, .nil, Heap.get?_push_size _ rfl⟩
  refine wpAny_newObj_type (wpAny_newFunctionEnv co.cell (by intro y hy; simp at hy) (fun h4 hns4 hsb4 => ?_) co.kind)
  dsimp only at hns4 hsb4 ⊢
  generalize hH3 : s2.heap.push { cls := .type "list", dict := none, data := .seq ([] : List Value).toArray } = H3 at hns4 hsb4 I3 ⊢
  have hC : H3.objs.size = s2.heap.objs.size + 1 := by rw [← hH3, Heap.size_push]
  have k34 : ∀ b o, H3.get? b = some o → h4.get? b = some o := fun b o e => hsb4.extBut b o (Nat.ne_of_lt (Heap.lt_size e)) (Heap.get?_push_of_some _ e)
  generalize hs4 : ({ s2 with heap := h4, toks := s2.toks + ([] : List (Str × Value)).length } : Shared) = s4
  have I4 : Inv (At X pins' τ Ex) pins' τ (upd Hb s2.heap.objs.size (.lst [])) s4 := by
    have := I3.kept (t' := s2.toks + ([] : List (Str × Value)).length) k34
    rw [← hs4]; exact this
  have hh4 : s4.heap = h4 := by rw [← hs4]
  have kb4 : ∀ b o, sb.heap.get? b = some o → s4.heap.get? b = some o := fun b o e => by
    rw [hh4]; exact k34 b o (by rw [← hH3]; exact Heap.get?_push_of_some _ (kb b o e))
  have ub4 : Un (frs X.stack) [] Hb (upd Hb s2.heap.objs.size (.lst [])) sb.heap s4.heap := Un.laid kb4 hsz hf2
  have hCb : sb.heap.objs.size ≤ H3.objs.size := by omega
  have hfpD : ∀ b ∈ fp, b ≠ s2.heap.objs.size := fun b hb => Nat.ne_of_lt (hfp b hb).2
  have hfpC : ∀ b ∈ fp, b ≠ H3.objs.size := fun b hb => Nat.ne_of_lt (Nat.lt_trans (hfp b hb).2 (by rw [hC]; exact Nat.lt_succ_self _))
  have hDC0 : s2.heap.objs.size ≠ H3.objs.size := by omega
  generalize hD : s2.heap.objs.size = Da at *
  generalize hCC : H3.objs.size = C at *
  have hDC : Da ≠ C := hDC0
  let R := compPost (model X.prog X.w) X.A Ex none (EP (At X pins' τ Ex) pins' τ Q) (.ref Da) C
  let E' := notedBy (model X.prog X.w) X.A (compEnvC sc cl C X.env) fun e s' => R (.error e) s'
  have ent := fun (E : Value → Shared → Prop) => cmp_enter (E := E) Ib I4 ub4 (by rw [← hs4]; exact hos) (x := x) (sc := sc) (cl := cl) (C := C) ⟨co.cell, co.kind, co.names, co.hx, co.loc, co.fr, co.nd⟩ cl1 (fun y hy => cl2 y (.inr hy)) hCb (by rw [hh4]; exact hns4) (by
    rw [upd_ne (Ne.symm hDC)]
    exact Ib.hok.fresh hCb)
  let X' : Cx := CmpX X sc cl C sb Hb (X.pn ++ pins') x
  have lt : ∀ {b o}, sb.heap.get? b = some o → ∀ c ∈ fp, b ≠ c := fun {b o} e c hc z => absurd (Nat.lt_of_lt_of_le (Heap.lt_size e) (z ▸ (hfp c hc).1)) (Nat.lt_irrefl _)
  have fok : ∀ (E : Value → Shared → Prop) (pl : List (Addr × Obj)) (H' : Hp), pl = [] → (∀ b ∈ fp, H' b = none) → ∀ b ∈ fp, FpOk (X'.wish E) pl H' b := fun E pl H' epl hn b hb => by
    subst epl
    refine ⟨hn b hb, fun z => ?_, fun z => ?_, .inr (hfp b hb).1, fun y c e => ?_, fun p hp => ?_⟩
    · exact hfpC b hb z
    · obtain ⟨_, o, ho, _⟩ := Ib.stack.mem z
      exact lt ho b hb rfl
    · obtain ⟨v, o, ho, _⟩ := Ib.cell y c (cl1 y c e)
      exact lt ho b hb
    · have hp : p ∈ (X.pn ++ pins') ++ [] := hp
      rw [List.append_nil] at hp
      exact lt (Ib.pin p hp).1 b hb
  have sgA : ∀ (E : Value → Shared → Prop) p τ', (X'.wish E).sg p τ' := fun _ _ _ => trivial
  have hN' : X'.N.Nodup := by
    show (X.N ++ [x]).Nodup
    rw [List.nodup_append]
    refine ⟨co.nd, by simp, fun a ha b hb z => ?_⟩
    have : b = x := by simpa using hb
    subst this
    subst z
    exact co.loc _ ha co.hx
  have hlt : τ.length = X.N.length := I4.len
  have loop : codeAny (model X.prog X.w) X.A (.compLoop (.ListComp elt [⟨.Name x px, iter, ifs, 0⟩] sc pos) 0 (.ref it) (.ref Da) (compEnvC sc cl C X.env)) R s4 := by
    refine codeAny_compLoop_tests (fun n s' => ∃ i ov H' G' acc vs rest, Inv (X'.wish E') [] (τ ++ [ov]) H' s' ∧ tn i s'.heap ∧ (∀ b ∈ fp, H' b = none) ∧ n = ds.length - i ∧ i ≤ ds.length ∧ Ext Gb Hb G' H' ∧ H' Da = some (.lst vs) ∧ G' Da = none ∧ Dens ⟨X.K, κ⟩ G' vs acc ∧ acc.length ≤ i ∧ compZ t f (shE δ) (ds.drop i) = .ok rest ∧ acc ++ rest = l) ?_ ds.length ?_ (by intro _; rfl)
    case refine_2 =>
      refine ⟨0, none, _, Gb, [], [], l, ent E', T.keep 0 _ _ st2 (fun b _ o e => ?_), fun b hb => ?_, rfl, Nat.zero_le _, ext_own e1.GH hf2, upd_same, e1.GH.free hf2, dens_nil, Nat.le_refl _, by simpa using ez, rfl⟩
      · rw [hh4]; exact k34 b o (by rw [← hH3]; exact Heap.get?_push_of_some _ e)
      · rw [upd_ne (hfpD b hb)]
        exact Ib.hok.fresh (hfp b hb).1
    rintro n s3 ⟨i, ov, H3', G3, acc, vs, rest, Iv, st3, fr3, rfl, hi3, ext3, hD3, gD3, dacc, hacc, hz, hl⟩
    have same3 : Same Gb H3' := ext3.sG.trans ext3.GH
    by_cases hlt3 : i < ds.length
    · obtain ⟨go, yl⟩ := (hJ H3' same3 i).1 (by omega)
      refine thn (T.item (X'.wish E') rfl rfl rfl hc i [] s3 _ H3' E' Iv (fok E' [] H3' rfl fr3) st3 go) fun r s4' ⟨u, hr, h4'⟩ => ?_
      subst hr
      intro Γ pp hΓ
      obtain ⟨xv, H5, I5, r5, y5, st5, fr5⟩ := h4' Γ pp hΓ
      refine (?_ : wpAny (model X.prog X.w) X.A (assign (.Name x px) (compEnvC sc cl C X.env) u) _ E' s4') Γ pp hΓ
      obtain ⟨e5, vx⟩ := yl xv H5 y5
      subst e5
      have I5' := Inv.pinned (sgA E') I5 (fok E' [] _ rfl fr5) (T.obj _ _ st5)
      obtain ⟨dx, hdx⟩ : ∃ d, ds[i]? = some d := ⟨ds[i], by simp [hlt3]⟩
      have dd : Den ⟨X.K, κ⟩ G3 xv dx := by
        obtain ⟨v', z1, z2⟩ := dus.get hdx
        rw [vx] at z1; cases z1
        exact z2.mono ext3.sG
      have hdrop : ds.drop i = dx :: ds.drop (i + 1) := by
        rw [List.drop_eq_getElem_cons hlt3]
        simp [hlt3] at hdx
        rw [hdx]
      rw [hdrop] at hz
      unfold compZ at hz
      have hxl : (X'.wish E').env.scope.names.lookup x = some .local := cmp_look (cl := cl) (C := C) (s₁ := sb) (H₁ := Hb) (pn := X.pn ++ pins') (x := x) co.hx (by decide)
      refine thn (pg_name (X := X'.wish E') (i := X.N.length) (pos := px) hN' (cmp_x (sc := sc) (cl := cl) (C := C) (s₁ := sb) (H₁ := Hb) (pn := X.pn ++ pins') rfl) (.inl hxl) (.inr hxl) (fun _ _ _ _ => trivial) _ s4' _ _ xv u (fun σ' H' => σ' = τ ++ [some xv] ∧ H' = H5) I5' r5 ⟨?_, rfl⟩) fun _ s6 ⟨σ6, H6, I6, e6, e6'⟩ => ?_
      · rw [← hlt, List.set_append_right _ _ (Nat.le_refl _)]; simp
      subst e6 e6'
      have rp6 := rep_comp rpb ext3 dd
      have back : ∀ {s7 : Shared} {H7 : Hp} {ov' : Option V}, Inv (X'.wish E') ([] ++ pinsAt fp s4'.heap) (τ ++ [ov']) H7 s7 → Inv (X'.wish E') [] (τ ++ [ov']) H7 s7 ∧ tn (i + 1) s7.heap ∧ ∀ b ∈ fp, H7 b = none := fun {s7 H7 ov'} I7 =>
        ⟨Inv.unpinned (sgA E') I7, T.keep _ _ _ st5 fun b hb o e => (I7.pin (b, o) (List.mem_append_right _ (List.mem_append_right _ (mem_pinsAt hb e)))).1, fun b hb => by
          obtain ⟨o, e, _⟩ := T.obj _ _ st5 b hb
          exact (I7.pin (b, o) (List.mem_append_right _ (List.mem_append_right _ (mem_pinsAt hb e)))).2.1⟩
      have keepD : ∀ {Ga Ha G' H' : Hp} {ws : List V}, Ext Ga Ha G' H' → Ha Da = some (.lst ws) → Ga Da = none → H' Da = some (.lst ws) ∧ G' Da = none := fun {Ga Ha G' H' ws} ee h1 h2 => by
        refine ⟨ee.sH _ _ h1, ?_⟩
        cases z : G' Da with
        | none => rfl
        | some o =>
          rcases ee.new Da (by rw [z]; simp) with y | y
          · exact absurd h2 y
          · rw [h1] at y; cases y
      cases et : t (shE δ ++ [some (.sh dx)]) with
      | exc c => rw [et] at hz; cases hz
      | stuck => rw [et] at hz; cases hz
      | ok k =>
      rw [et] at hz
      simp only [L3.R.bind_ok] at hz
      refine thn (ht ⟨Gb, fun _ => False⟩ cl C sb Hb (X.pn ++ pins') _ _ E' s6 _ (fun b H' => b = k ∧ ∃ G', Ext G3 H6 G' H') (inv_at I6) ⟨G3, _, rp6, ?_⟩) fun ok s7 ⟨H7, I7, eok, G7, e7⟩ => ?_
      · rw [et]; exact fun b H' G' ee eb => ⟨eb, G', ee⟩
      subst eok
      have I7 := inv_unat (sgA (fun _ _ => False)) I7
      obtain ⟨hD7, gD7⟩ := keepD e7 hD3 gD3
      cases ok with
      | false =>
        simp only [Bool.false_eq_true, if_false] at hz ⊢
        obtain ⟨j1, j2, j3⟩ := back I7
        exact ⟨ds.length - (i + 1), by omega, i + 1, some xv, H7, G7, acc, vs, rest, j1, j2, j3, rfl, hlt3, ext3.trans e7, hD7, gD7, dacc.mono e7.sG, by omega, hz, hl⟩
      | true =>
        simp only [if_true] at hz ⊢
        cases ef : f (shE δ ++ [some (.sh dx)]) with
        | exc c => rw [ef] at hz; cases hz
        | stuck => rw [ef] at hz; cases hz
        | ok dy =>
        rw [ef] at hz
        simp only [L3.R.bind_ok] at hz
        refine thn (he ⟨Gb, fun _ => False⟩ cl C sb Hb (X.pn ++ pins') _ _ E' _ s7 _ H7 (fun y H' => ∃ G', Ext G7 H7 G' H' ∧ Den ⟨X.K, κ⟩ G' y dy) (inv_at I7) ⟨G7, _, rp6.ext e7, ?_⟩) fun yu s8 ⟨yv, H8, I8, ry, G8, e8, dy8⟩ => ?_
        · rw [ef]; exact fun y H' G' ee d => ⟨G', ee, d⟩
        have I8 := inv_unat (sgA (fun _ _ => False)) I8
        obtain ⟨hD8, gD8⟩ := keepD e8 hD7 gD7
        have lacc := dacc.length
        refine thn (mt_append (X := X'.wish E') _ s8 _ H8 (.ref Da) [yv] (.ref Da) [yu] (fun _ H' => H' = upd H8 Da (.lst (vs ++ [yv]))) I8 rfl (.cons ry .nil) ⟨Da, vs, yv, rfl, rfl, hD8, by rw [sizeLine_eq]; omega, rfl⟩) fun _ s9 ⟨_, H9, I9, _, e9⟩ => ?_
        subst e9
        obtain ⟨j1, j2, j3⟩ := back I9
        cases ez2 : compZ t f (shE δ) (ds.drop (i + 1)) with
        | exc c => rw [ez2] at hz; cases hz
        | stuck => rw [ez2] at hz; cases hz
        | ok rest' =>
        rw [ez2] at hz
        simp only [L3.R.bind_ok] at hz
        injection hz with hz
        have ex8 := (ext3.trans e7).trans e8
        refine ⟨ds.length - (i + 1), by omega, i + 1, some xv, _, G8, acc ++ [dy], vs ++ [yv], rest', j1, j2, j3, rfl, hlt3, ⟨ex8.sG, fun b o z => ?_, fun b o z => ?_, ex8.new⟩, upd_same, gD8, ((dacc.mono e7.sG).mono e8.sG).append (dens_cons dy8 dens_nil), by simp; omega, ez2, by rw [← hl, ← hz]; simp⟩
        · rw [upd_ne (by rintro rfl; rw [hf2] at z; cases z)]; exact ex8.sH b o z
        · rw [upd_ne (by rintro rfl; rw [gD8] at z; cases z)]; exact ex8.GH b o z
    · have hie : i = ds.length := by omega
      refine thn (T.done (X'.wish E') rfl rfl rfl hc i [] s3 _ H3' E' Iv (fok E' [] H3' rfl fr3) st3 ((hJ H3' same3 i).2 (by omega))) fun r s4' ⟨hr, I4'⟩ => ?_
      subst hr
      rw [hie, List.drop_length] at hz
      unfold compZ at hz
      injection hz with hz
      subst hz
      rw [List.append_nil] at hl
      subst hl
      obtain ⟨mm, hnn, _⟩ := I4'.loc
      exact ⟨mm, hnn, fun h' sbt => ⟨.ref Da, H3', cmp_leave (X := At X pins' τ Ex) (sc := sc) (cl := cl) (x := x) (E := E') Ib I4' hCb sbt, rfl, q2 Da vs H3' G3 ext3 hD3 gD3 hf2 dacc⟩⟩
  have stn : tn 0 s4.heap := T.keep 0 _ _ st2 (fun b _ o e => by rw [hh4]; exact k34 b o (by rw [← hH3]; exact Heap.get?_push_of_some _ e))
  exact codeAny_compStart_list loop (T.self X.A 0 s4 _ _ stn loop)
end
end L3

-- part L3r.lean
set_option Elab.async false
set_option linter.all false
set_option maxRecDepth 100000
namespace L3
open PySem PySem.Spec PyProof.Rows L2

/-! ## defs that hand back lists of their own -/
abbrev RRel (α : Type) := PySem.W.Frag → (Nat → Addr) → Hp → Hp → Hp → V → α → Prop
/-- a list that no one else holds -/
def ρ1 : RRel (List D) := fun K κ H₀ G' H' v ds => ∃ a vs, v = .ref a ∧ H' a = some (.lst vs) ∧ G' a = none ∧ H₀ a = none ∧ Dens ⟨K, κ⟩ G' vs ds
def PR {α : Type} (κ : Nat → Addr) (B : Gd) (X : Cx) (e : Expr) (ρ : RRel α) (f : Ev → R α) : Prop := ∀ pins σ Ex, PE (At X pins σ Ex) e (fun τ H Q => ∃ G δ, Rep ⟨X.K, κ⟩ B X.H₀ G H τ δ ∧ match f δ with
  | .ok r => ∀ v H' G', Hold B X.H₀ G' H' → ρ X.K κ X.H₀ G' H' v r → Q v H'
  | _ => False)
def PZr {α : Type} (κ : Nat → Addr) (B : Gd) (X : Cx) (st : List Stmt) (ρ : RRel α) (F : Ev → R α) : Prop := ∀ Ex pins s σ H G δ Dn, PassesOwn (model X.prog X.w) X.A X.env Ex → Inv (X.wish Ex) pins σ H s → Rep ⟨X.K, κ⟩ B X.H₀ G H σ δ → (match F δ with
  | .ok r => ∀ v H' G', Hold B X.H₀ G' H' → ρ X.K κ X.H₀ G' H' v r → Dn.rt v H'
  | _ => False) → wpAny (model X.prog X.w) X.A (execs st X.env) (SP (X.wish Ex) pins Dn) Ex s
section
variable {α : Type} {ρ : RRel α} {κ : Nat → Addr} {B : Gd} {X : Cx} {e : Expr} {f : Ev → R α} {pos : Pos}
theorem pr_of {fl : Ev → R (List D)} (h : PXf κ B X e fl) : PR κ B X e ρ1 fl := fun pins σ Ex => pe_imp (h pins σ Ex) fun τ H Q ⟨G, δ, rp, q⟩ => ⟨G, δ, rp, by
  cases z : fl δ with
  | ok ds =>
    rw [z] at q
    intro a vs H' G' e1 h1 h2 h3 h4
    refine q _ H' G' (rp.toHold.ext e1) ⟨a, vs, rfl, h1, h2, ?_, h4⟩
    cases q0 : X.H₀ a with
    | none => rfl
    | some o => exact absurd h3 (rp.there a (by rw [q0]; simp))
  | exc c => rw [z] at q; exact False.elim q
  | stuck => rw [z] at q; exact False.elim q⟩
def mVarO (i : Nat) : Ev → R (List D) := fun δ => match δ[i]? with
  | some (some (.ow ds)) => .ok ds
  | _ => .stuck
theorem pr_var (i : Nat) {x : Str} (hN : X.N[i]? = some x) (hv : Vis X.env.scope x) (hd : (x == ("__debug__" : Str)) = false) (hcd : (x == ("__classdict__" : Str)) = false) : PR κ B X (.Name x pos) ρ1 (mVarO i) := fun pins σ Ex =>
  pe_imp (pe_var (X := At X pins σ Ex) hN hv hd hcd) fun τ H Q ⟨G, δ, r, q⟩ => by
    unfold mVarO at q
    split at q
    · rename_i r' e
      split at e
      · rename_i ds e'
        injection e with e
        subst e
        obtain ⟨a, vs, x1, x2, x3, x4, x5⟩ := r.ow i _ e'
        exact ⟨.ref a, x1, q _ H G r.toHold ⟨a, vs, rfl, x2, x4, x5, x3⟩⟩
      · cases e
    · exact q.elim
theorem pzr_ret (cx : Cxo X) (h : PR κ B X e ρ f) : PZr κ B X [.Return (some e) pos] ρ f := fun Ex pins s σ H G δ Dn hp I rp q => by
  refine wpAny_execs_cons (wpAny_Return_some (thn (h pins σ Ex pins s σ H (fun v H' => Dn.rt v H') (inv_at I) ⟨G, δ, rp, q⟩) fun v s1 ⟨x, H', I', r, q⟩ => ?_))
  exact ⟨x, σ, H', inv_unat cx.sg I', r, q⟩
def zSeqR (F1 : Ev → SR) (F2 : Ev → R α) : Ev → R α := fun δ => match F1 δ with
  | .next δ' => F2 δ'
  | _ => .stuck
theorem pzr_cons {st : Stmt} {rest : List Stmt} {F1 : Ev → SR} {F2 : Ev → R α} (h1 : PZ κ B X st F1) (h2 : PZr κ B X rest ρ F2) : PZr κ B X (st :: rest) ρ (zSeqR F1 F2) := fun Ex pins s σ H G δ Dn hp I rp h => by
  refine wpAny_execs_cons (thn (h1 Ex pins s σ H G δ { nx := fun σ' H' => ∃ G' δ', Rep ⟨X.K, κ⟩ B X.H₀ G' H' σ' δ' ∧ (match F2 δ' with | .ok r => ∀ v H' G', Hold B X.H₀ G' H' → ρ X.K κ X.H₀ G' H' v r → Dn.rt v H' | _ => False), rt := fun _ _ => False } hp I rp ?_) fun f s1 q => ?_)
  · unfold zSeqR at h
    cases q : F1 δ with
    | next δ' => rw [q] at h; exact fun σ' H' G' r => ⟨G', δ', r, h⟩
    | brk δ' => rw [q] at h; exact False.elim h
    | cont δ' => rw [q] at h; exact False.elim h
    | ret d => rw [q] at h; exact False.elim h
    | exc c δ' => rw [q] at h; exact False.elim h
    | stuck => rw [q] at h; exact False.elim h
  · cases f with
    | next =>
      obtain ⟨σ', H', I', G', δ', r, q⟩ := q
      exact h2 Ex pins s1 σ' H' G' δ' Dn hp I' r q
    | ret v => obtain ⟨_, _, _, _, _, q⟩ := q; exact False.elim q
    | brk => obtain ⟨_, _, _, q⟩ := q; exact False.elim q
    | cont => obtain ⟨_, _, _, q⟩ := q; exact False.elim q
theorem pzr_frz (i : Nat) {sts : List Stmt} {F : Ev → R α} (h : PZr κ B X sts ρ F) : PZr κ B X sts ρ (fun δ => F (frzE i δ)) := fun Ex pins s σ H G δ Dn hp I rp q => by
  obtain ⟨G', r'⟩ := rp.freeze i
  exact h Ex pins s σ H G' _ Dn hp I r' q
end
def spR {α : Type} (K : PySem.W.Frag) (κ : Nat → Addr) (n : Nat) (ρ : RRel α) (m : List D → R α) : Sp := fun vs H Q E => vs.length = n ∧ ∃ G ds, Same G H ∧ Dens ⟨K, κ⟩ G vs ds ∧ Out (fun G' H' v d => ρ K κ H G' H' v d) κ E G H (m ds) Q
theorem rep_start {Z : Zx} {N : List Str} {G H : Hp} {vs : List V} {ds : List D} (sm : Same G H) (dn : Dens Z G vs ds) : Rep Z ⟨G, fun _ => False⟩ H G H (L2.start N vs) (startE N.length ds) := by
  have hld : ds.length = vs.length := dn.length.symm
  have none' : ∀ {i : Nat} {o : Sl}, (startE N.length ds)[i]? = some (some o) → ∃ d, o = .sh d ∧ ∃ v, (L2.start N vs)[i]? = some (some v) ∧ Den Z G v d := fun {i o} e => by
    unfold startE at e
    by_cases hi : i < ds.length
    · rw [List.getElem?_append_left (by simpa using hi), List.getElem?_map] at e
      cases q : ds[i]? with
      | none => rw [q] at e; cases e
      | some d' =>
        rw [q] at e
        cases e
        obtain ⟨v, e1, e2⟩ := dn.get q
        refine ⟨d', rfl, v, ?_, e2⟩
        unfold L2.start
        rw [List.getElem?_append_left (by simp; omega), List.getElem?_map, e1]
        rfl
    · rw [List.getElem?_append_right (by simpa using hi), List.getElem?_replicate] at e
      split at e <;> cases e
  refine ⟨⟨Same.refl _, sm, fun _ _ e _ => e, fun _ e => e, fun _ _ e => e⟩, ?_, fun i d e => ?_, fun i es e => ?_, fun i j es fs a n e => ?_, fun i c ns es e => ?_, fun i j c ns es c' ns' es' e => ?_⟩
  · unfold L2.start startE
    simp [hld]
  · obtain ⟨d', e1, v, e2, e3⟩ := none' e
    cases e1
    exact ⟨v, e2, e3⟩
  · obtain ⟨_, e1, _⟩ := none' e; cases e1
  · obtain ⟨_, e1, _⟩ := none' e; cases e1
  · obtain ⟨_, e1, _⟩ := none' e; cases e1
  · obtain ⟨_, e1, _⟩ := none' e; cases e1
def noE {α : Type} : R α → R α
  | .ok a => .ok a
  | _ => .stuck
theorem fn_mirrorR {α : Type} {ρ : RRel α} {P : Program} {w : World} {K : PySem.W.Frag} {mg : Str → Option Value} {base : Heap} {κ : Nat → Addr} {x qual : Str} {st : Stmt} {f : Addr} {fd : FuncData} {N ps : List Str} {k : Nat} {F : Ev → R α}
    (Fn : Fun K x qual st f fd) (S : FnScope N ps (defScope st))
    (hb : ∀ (X : Cx) (B : Gd), Cxo X → X.calm = true → X.prog = P → X.w = w → X.K = K → X.mg = mg → X.base = base → X.N = N → X.env.scope = defScope st → (∀ y, X.fn y = true) → Room k X.A → FrmOk X → PZr κ B X (defBody st) ρ F) :
    FnOk P w K mg base (CXR P w) (k + 1) f fd ps (spR K κ ps.length ρ fun ds => noE (F (startE N.length ds))) := by
  obtain ⟨oc, od, kV, doc, pm, an, cdv, ct, osl, rfl, lk, hcd⟩ := Fn.ex
  refine fn_of lk hcd S (fun vs H Q E h => h.1) fun A outer s H vs Q E hr hsp => ?_
  obtain ⟨hl, G, ds, sm, dn, hq⟩ := hsp
  dsimp only at hq
  generalize hX : cxOf (CXR P w) P w K mg base N qual (defScope st) f cdv A outer s H E = X
  have eP : X.prog = P := by rw [← hX]; rfl
  have ew : X.w = w := by rw [← hX]; rfl
  have eK : X.K = K := by rw [← hX]; rfl
  have cx : Cxo X := by rw [← hX]; exact ⟨fun _ _ => trivial, rfl⟩
  have e0 : X.H₀ = H := by rw [← hX]; rfl
  have body := fun B => hb X B cx (by rw [← hX]; rfl) eP ew eK (by rw [← hX]; rfl) (by rw [← hX]; rfl) (by rw [← hX]; rfl) (by rw [← hX]; rfl) (fun y => by rw [← hX]; rfl) (by rw [← hX]; exact hr) (by rw [← hX]; exact ⟨rfl, rfl⟩)
  refine ⟨fun Dn σ H => ∃ B G δ, Rep ⟨X.K, κ⟩ B X.H₀ G H σ δ ∧ (match F δ with | .ok r => ∀ v H' G', Hold B X.H₀ G' H' → ρ X.K κ X.H₀ G' H' v r → Dn.rt v H' | _ => False), fun pins s' σ H' Dn I ⟨B, G, δ, rp, h⟩ => ?_, ⟨G, fun _ => False⟩, G, startE N.length ds, ?_, ?_⟩
  · refine body B X.xe pins s' σ H' G δ Dn ?_ I rp h
    rw [← hX]
    exact PassesOwn.leaving
  · rw [e0, eK]
    exact rep_start sm dn
  · cases q : F (startE N.length ds) with
    | ok r =>
      rw [q] at hq
      intro v H' G' hh hρ
      rw [e0] at hh hρ
      rw [eK] at hρ
      refine hq v H' G' ⟨hh.gG, fun b o e => hh.old b o e id, hh.GH, fun a n => ?_⟩ hρ
      cases z : H a with
      | none => exact .inr rfl
      | some o => exact .inl fun y => n (hh.lent a (by rw [z]; simp) y)
    | exc c => rw [q] at hq; exact False.elim hq
    | stuck => rw [q] at hq; exact False.elim hq

structure CalR {α : Type} (κ : Nat → Addr) (X : Cx) (x : Str) (n : Nat) (ρ : RRel α) (m : List D → R α) : Prop where
  ex : ∃ f fd ps k, FnOk X.prog X.w X.K X.mg X.base (CXR X.prog X.w) k f fd ps (spR X.K κ n ρ m) ∧ Room k X.A ∧ X.mg x = some (.ref f) ∧ PySem.W.keepIn X.K (.ref f) = true ∧ Binds X.K fd ps []
def MCR {α : Type} (P : Program) (w : World) (K : PySem.W.Frag) (mg : Str → Option Value) (base : Heap) (κ : Nat → Addr) (x : Str) (ps : List Str) (ρ : RRel α) (m : List D → R α) (k : Nat) : Prop :=
  ∃ f fd, FnOk P w K mg base (CXR P w) k f fd ps (spR K κ ps.length ρ m) ∧ mg x = some (.ref f) ∧ PySem.W.keepIn K (.ref f) = true ∧ Binds K fd ps [] ∧ ∃ oc od osl, K.lookup f = some ⟨oc, od, .func fd, osl⟩
theorem MCR.cal {α : Type} {ρ : RRel α} {κ : Nat → Addr} {X : Cx} {x : Str} {ps : List Str} {n : Nat} {m : List D → R α} {k j : Nat} (h : MCR X.prog X.w X.K X.mg X.base κ x ps ρ m k) (hr : Room j X.A) (hj : k ≤ j) (hn : ps.length = n := by rfl) : CalR κ X x n ρ m := by
  obtain ⟨f, fd, F, h1, h2, h3, _⟩ := h
  subst hn
  exact ⟨f, fd, ps, k, F, hr.mono hj, h1, h2, h3⟩
def mF (m : List D → R (List D)) : List D → R D := fun ds => (m ds).bind fun l => .ok (.lst l)
theorem spF_imp {K : PySem.W.Frag} {κ : Nat → Addr} {n : Nat} {m : List D → R (List D)} : ∀ vs H Q E, spM K κ n (mF m) vs H Q E → spR K κ n ρ1 m vs H Q E := fun vs H Q E ⟨hl, G, ds, sm, dn, q⟩ => by
  refine ⟨hl, G, ds, sm, dn, ?_⟩
  unfold mF at q
  cases z : m ds with
  | ok l =>
    rw [z] at q
    intro v H' G' e1 ⟨a, ws, e2, h1, h2, h3, h4⟩
    subst e2
    have sg : Same G' (upd G' a (.lst ws)) := fun b o z => by rw [upd_ne (ne_of_none z h2)]; exact z
    exact q _ H' _ (ext_frz e1 h1 h2 h3) (by unfold Den; exact ⟨a, ws, rfl, SqL.of upd_same, h4.mono sg⟩)
  | exc c => rw [z] at q; exact q
  | stuck => rw [z] at q; exact q
theorem MCR.mc {P : Program} {w : World} {K : PySem.W.Frag} {mg : Str → Option Value} {base : Heap} {κ : Nat → Addr} {x : Str} {ps : List Str} {m : List D → R (List D)} {k : Nat} (h : MCR P w K mg base κ x ps ρ1 m k) : MC P w K mg base κ x ps (mF m) k := by
  obtain ⟨f, fd, F, r⟩ := h
  exact ⟨f, fd, F.imp spF_imp, r⟩
section
variable {κ : Nat → Addr} {B : Gd} {X : Cx} {a : Expr} {es : List Expr} {fs : Ev → R (List D)} {p pos : Pos} {x : Str} {m : List D → R (List D)} {n : Nat}
theorem pxf_call (c : Cxo X) (C : CalR κ X x n ρ1 m) (hn : (a :: es).length = n) (hg : Gl X x) (ha : PXs κ B X (a :: es) fs) (hdb : (x == ("__debug__" : Str)) = false) (h : (a :: es).all noStar = true)
    (hlen : ∀ δ ds, fs δ = .ok ds → ds.length = n) : PXf κ B X (.Call (.Name x p) (a :: es) [] pos) (fun δ => (fs δ).bind m) := fun pins σ Ex => by
  have h' := h
  simp only [List.all_cons, Bool.and_eq_true] at h'
  obtain ⟨f, fd, ps, k, F, hr, hm, hk, hb⟩ := C.ex
  refine pe_imp (pe_call (X := At X pins σ Ex) (E := EX X pins σ Ex) F hr hg hm hk hb .nil (passes_at c) (ha pins σ Ex) hdb (star_cons h'.1) (back_any h'.2)) fun τ H Q ⟨G, δ, rp, q⟩ => ⟨G, δ, rp, ?_⟩
  dsimp only at q
  cases e : fs δ with
  | ok ds =>
    rw [e] at q
    intro v H1 G1 e1 d1
    rw [List.append_nil]
    refine ⟨by rw [Dens.length d1, hlen δ ds e], G1, ds, e1.GH, d1, ?_⟩
    have q' := fOut.pre e1 q
    simp only [R.bind_ok] at q'
    cases z : m ds with
    | ok l =>
      rw [z] at q'
      rintro v' H' G' e2 ⟨b, ws, rfl, h1, h2, h3, h4⟩
      exact q' b ws H' G' e2 h1 h2 h3 h4
    | exc c => rw [z] at q'; exact q'
    | stuck => rw [z] at q'; exact q'
  | exc c => rw [e] at q; exact q
  | stuck => rw [e] at q; exact q
end
end L3

-- part L3u.lean
set_option Elab.async false
set_option linter.all false
set_option maxRecDepth 100000
namespace L3
open PySem PySem.Spec PyProof.Rows L2

/-! ## bits -/
def oBand : D → D → R D
  | .int i, .int j => .ok (.int (Builtin.bitAnd i j))
  | _, _ => .stuck
section
variable {κ : Nat → Addr} {B : Gd} {X : Cx} {a b : Expr} {fa fb : Ev → R D} {pos : Pos}
theorem px_band (ha : PXr κ B X a fa) (hb : PXr κ B X b fb) : PX κ B X (.BinOp a .BitAnd b pos) (m2 oBand fa fb) := px_op (fun _ _ => op_and) (by
  intro x y v u G H Q E s d1 d2 q
  unfold oBand at q
  split at q
  · exact ⟨_, _, rInt d1, rInt d2, q _ H G (Ext.refl s) dInt⟩
  · exact False.elim q) ha hb
end
/-! ## ranges downward -/
def Itd (lo : Int) (n : Nat) : It := ⟨fun i _ => i < n, fun i H x H' => H' = H ∧ x = .int (lo - i), fun i _ => n ≤ i⟩
theorem turn_down {P : Program} {w : World} {K : PySem.W.Frag} {tg : Expr} (it : Addr) (lo : Int) (n : Nat) : Turn P w K tg (Itd lo n) [it] it (fun i h => IsRangeIter h it (lo + (i : Nat) * (-1)) ((n : Int) - (i : Nat)) (-1)) where
  mem := by simp
  obj := fun i h st b hb => by
    have e : b = it := by simpa using hb
    subst e
    exact ⟨_, st, fun v z => by
      have z' : Data.fields _ = Data.cell v := z
      cases z'⟩
  keep := fun i h h' st k => k it (by simp) _ st
  item := by
    intro X hP hw hK hc i pins s σ H E I hf st hg
    subst hP hw hK
    obtain ⟨f0, f1, f2, f3, f4, f5⟩ := hf it (by simp)
    have W := Walks.range (prog := X.prog) (w := X.w) (I.ok.hd hc) it lo (-1) n
    refine W.item i s _ _ hg st fun v h' tk hv st' kk => ?_
    obtain ⟨t, rfl⟩ := hv
    have I1 : Inv X pins σ H { s with heap := h', toks := tk } := I.turned (fun b o hb e => kk b o (by simpa using hb) e) f0 f1 f3 f4 f5
    refine ⟨_, rfl, go_of (s := { s with heap := h', toks := tk }) (n := "range_iterator") st' rfl rfl (by decide) ⟨.int (lo - i), H, I1, ⟨t, ?_⟩, ⟨rfl, rfl⟩, st', fun b hb => (hf b hb).1⟩⟩
    congr 1
    omega
  done := by
    intro X hP hw hK hc i pins s σ H E I hf st hg
    subst hP hw hK
    obtain ⟨f0, f1, f2, f3, f4, f5⟩ := hf it (by simp)
    exact wpAny_pyNext_range_end (I.ok.hd hc) st (by have : n ≤ i := hg; omega) fun h' eb => ⟨rfl, I.turned (t' := s.toks) (fun b o hb e => eb b o hb e) f0 f1 f3 f4 f5⟩
  self := fun _ _ _ _ _ st h => wpAny_pyIter_rangeiter st h
theorem rangeSize_down (a b : Int) : Builtin.Range.rangeSize a b (-1) = ((a - b).toNat : Int) := by
  unfold Builtin.Range.rangeSize
  simp only [show ¬ ((-1 : Int) > 0) by decide, if_false, Int.neg_neg, Int.ediv_one]
  split <;> omega
theorem small_down {a b : Int} (ha : -(2 ^ 31) ≤ a) (ha' : a < 2 ^ 31) (hb : -(2 ^ 31) ≤ b) (hb' : b < 2 ^ 31) : Builtin.Range.small a b (-1) = true := by
  unfold Builtin.Range.small
  rw [rangeSize_down]
  simp only [Builtin.Range.rangeFitsLong, Bool.and_eq_true, Bool.or_eq_true, decide_eq_true_eq, beq_iff_eq, show ¬ ((-1 : Int) > 0) by decide, if_false]
  omega
section
variable {X : Cx} {tg : Expr}
def iRng3 (ta : TA) : TI := fun σ H R => ta σ H fun vs H1 => ∃ i j : Int, vs = [.int i, .int j, .int (-1)] ∧ (-(2 ^ 31) ≤ i ∧ i < 2 ^ 31 ∧ -(2 ^ 31) ≤ j ∧ j < 2 ^ 31) ∧ R (Itd i (i - j).toNat) H1
theorem down_it {pins : List (Addr × Obj)} {σ : St} {H : Hp} {s : Shared} {R : It → Hp → Prop} {E : Value → Shared → Prop} {lo hi : Int} {t u v : Tok} {tk : Nat} (I : Inv X pins σ H s) (h1 : -(2 ^ 31) ≤ lo) (h2 : lo < 2 ^ 31) (h3 : -(2 ^ 31) ≤ hi) (h4 : hi < 2 ^ 31)
    (q : R (Itd lo (lo - hi).toNat) H) : wpAny (model X.prog X.w) X.A (pyIter (.ref s.heap.objs.size)) (PIE X pins σ tg R) E { s with heap := s.heap.push { cls := .type "range", data := .fields #[.int lo t, .int hi u, .int (-1) v] }, toks := tk } := by
  refine wpAny_pyIter_range (IsRange.new ..) (small_down h1 h2 h3 h4) ?_
  have I1 : Inv X pins σ H { s with heap := s.heap.push { cls := .type "range", data := .fields #[.int lo t, .int hi u, .int (-1) v] }, toks := tk } := I.kept fun b o e => Heap.get?_push_of_some _ e
  refine ⟨(s.heap.push { cls := .type "range", data := .fields #[.int lo t, .int hi u, .int (-1) v] }).objs.size, [(s.heap.push { cls := .type "range", data := .fields #[.int lo t, .int hi u, .int (-1) v] }).objs.size], _, _, H, rfl,
    I1.kept (t' := tk) fun b o e => Heap.get?_push_of_some _ e, turn_down _ lo (lo - hi).toNat, ?_, fun b hb => ?_, q⟩
  · show IsRangeIter _ _ (lo + ((0 : Nat) : Int) * (-1)) ((((lo - hi).toNat : Nat) : Int) - ((0 : Nat) : Int)) (-1)
    rw [show lo + ((0 : Nat) : Int) * (-1) = lo by simp, show (((lo - hi).toNat : Nat) : Int) - ((0 : Nat) : Int) = Builtin.Range.rangeSize lo hi (-1) by rw [rangeSize_down]; omega]
    exact Heap.get?_push_size _ rfl
  · have e : b = (s.heap.push { cls := .type "range", data := .fields #[.int lo t, .int hi u, .int (-1) v] }).objs.size := by simpa using hb
    subst e
    exact I1.fpOk (Nat.le_refl _) (I1.hok.fresh (Nat.le_refl _))
theorem pi_range3 {a b c : Expr} {ta : TA} {p pos : Pos} (hg : Gl X "range") (hm : X.mg "range" = none) (ha : PA X [a, b, c] ta) (hs : starEach [a, b, c] X.env = (false, eval a X.env) :: starEach [b, c] X.env) (hs2 : (backTo pos (starEach [b, c] X.env)).any (·.1) = false) :
    PI X tg (.Call (.Name "range" p) [a, b, c] [] pos) (iRng3 ta) := by
  intro pins s σ H R I h
  refine Call_ (ld_blt I hg hm boot_range (PyProof.Rows.callWith_type1 (thn (ha pos pins s σ H _ I h) fun us s1 ⟨vs, H1, I1, r1, q1⟩ => ?_) hs hs2))
  obtain ⟨i, j, e, ⟨q1, q2, q3, q4⟩, q⟩ := q1
  subst e
  cases r1 with
  | cons r rr =>
    cases rr with
    | cons r' rr =>
      cases rr with
      | cons r'' rr =>
        cases rr
        obtain ⟨t, rfl⟩ := r
        obtain ⟨t', rfl⟩ := r'
        obtain ⟨t'', rfl⟩ := r''
        exact call_range_3 (by decide) (down_it I1 q1 q2 q3 q4 q) (.inl (PyProof.noPylong_small (by decide)))
end
def rngDn (lo hi : Int) : List D := (List.range (lo - hi).toNat).map fun i => D.int (lo - (i : Nat))
def iR3 : List D → R (List D)
  | [.int i, .int j, .int k] => if k = -1 ∧ (-(2 ^ 31) ≤ i ∧ i < 2 ^ 31) ∧ (-(2 ^ 31) ≤ j ∧ j < 2 ^ 31) then .ok (rngDn i j) else .stuck
  | _ => .stuck
theorem isIt_dn {X : Cx} {κ : Nat → Addr} {G : Hp} {lo : Int} {n : Nat} : IsIt X κ (Itd lo n) G ((List.range n).map fun i => D.int (lo - (i : Nat))) := by
  refine ⟨(List.range n).map fun i => V.int (lo - (i : Nat)), ?_, fun H' s i => ⟨fun hi => ⟨?_, fun x H'' y => ?_⟩, fun hi => ?_⟩⟩
  · generalize List.range n = l
    induction l with
    | nil => exact dens_nil
    | cons a l ih => exact dens_cons dInt ih
  · simpa [Itd] using hi
  · obtain ⟨y1, y2⟩ := y
    refine ⟨y1, ?_⟩
    rw [y2]
    have : i < n := by simpa using hi
    simp [this]
  · simpa [Itd] using hi
section
variable {κ : Nat → Addr} {B : Gd} {X : Cx} {tg : Expr}
theorem piz_range3 {a b c : Expr} {fs : Ev → R (List D)} {p pos : Pos} (hg : Gl X "range") (hm : X.mg "range" = none) (ha : PXs κ B X [a, b, c] fs) (h : noStar a = true) (h2 : [b, c].all noStar = true) : PIz κ B X tg (.Call (.Name "range" p) [a, b, c] [] pos) (fun δ => (fs δ).bind iR3) := fun pins σ Ex =>
  pi_imp (pi_range3 (X := At X pins σ Ex) hg hm (ha pins σ Ex) (star_cons h) (back_any h2)) fun τ H R ⟨G, δ, rp, q⟩ => ⟨G, δ, rp, q.seq fun x v H1 G1 e1 d1 q1 => by
    unfold iR3 at q1
    split at q1
    · rename_i i j k
      split at q1
      · rename_i hj
        obtain ⟨hk, hj⟩ := hj
        subst hk
        match v, d1 with
        | v :: vr, d1 =>
          unfold dsRel Dens at d1
          have h1 := d1.1
          unfold Den at h1
          exact ⟨i, j, by rw [h1, dens_int2 d1.2], ⟨hj.1.1, hj.1.2, hj.2.1, hj.2.2⟩, q1 _ H1 G1 (Ext.refl e1.GH) (isIt_dn (lo := i) (n := (i - j).toNat))⟩
        | [], d1 => unfold dsRel Dens at d1; exact d1.elim
      · exact False.elim q1
    · exact False.elim q1⟩
end

/-! ## a comprehension's block by what is known of it -/
structure CmpIs (X : Cx) (sc : Scope) (x : Str) (X' : Cx) : Prop where
  cxo : Cxo X'
  calm : X'.calm = X.calm
  A : X'.A = X.A
  mg : X'.mg = X.mg
  K : X'.K = X.K
  n : ∀ {i : Nat} {y : Str}, X.N[i]? = some y → X'.N[i]? = some y
  x : ∀ {i : Nat}, X.N.length = i → X'.N[i]? = some x
  look : ∀ {y : Str} {k : NameKind}, sc.names.lookup y = some k → k ≠ .free → X'.env.scope.names.lookup y = some k
  vis : ∀ {y : Str}, sc.names.lookup y = some .free → Vis X'.env.scope y
  cal : ∀ {κ : Nat → Addr} {y : Str} {n : Nat} {m : List D → R D}, Cal κ X y n m → Cal κ X' y n m
theorem cmp_is {X : Cx} {sc : Scope} {x : Str} {cl : List (Str × Addr)} {C : Addr} {s₁ : Shared} {H₁ : Hp} {pn : List (Addr × Obj)} : CmpIs X sc x (CmpX X sc cl C s₁ H₁ pn x) where
  cxo := cmp_cxo
  calm := rfl
  A := rfl
  mg := rfl
  K := rfl
  n := cmp_n
  x := cmp_x
  look := cmp_look
  vis := cmp_vis
  cal := cmp_cal
section
variable {κ : Nat → Addr} {B : Gd} {X : Cx} {sc : Scope} {x : Str} {px pos : Pos} {iter elt : Expr} {ifs : List Expr} {fit : Ev → R (List D)} {t : Ev → R Bool} {f : Ev → R D}
theorem comp_by (hc : X.calm = true) (co : CompOk X sc x) (hi : PIcz κ B X (.Name x px) iter fit) (ht : ∀ X' B', CmpIs X sc x X' → PTs κ B' X' ifs t) (he : ∀ X' B', CmpIs X sc x X' → PX κ B' X' elt f)
    (hs : plI iter = true) : PXf κ B X (.ListComp elt [⟨.Name x px, iter, ifs, 0⟩] sc pos) (mComp fit t f) :=
  pxf_comp hc co hi (fun _ _ _ _ _ _ => ht _ _ cmp_is) (fun _ _ _ _ _ _ => he _ _ cmp_is) (fold_no hs)
end
theorem swaps_sub {o k e : Expr} {ap : Pos} {n : Nat} {env : Env} : swapsWithSole [.Subscript o k ap] e n env = pure false := by
  cases e <;> rfl
section
variable {κ : Nat → Addr} {B : Gd} {X : Cx} {e k : Expr} {f fk : Ev → R D} {pos pos' apos : Pos} {x : Str} {i : Nat}
theorem y_putA (cx : Cxo X) (hN : X.N[i]? = some x) (hv : Vis X.env.scope x) (hd : (x == ("__debug__" : Str)) = false) (hcd : (x == ("__classdict__" : Str)) = false) (h : PX κ B X e f) (hk : PX κ B X k fk) (ht : noTup e = true)
    (ha : ∀ v, assign (.Subscript (.Name x pos) k apos) X.env v = (do
      let ov ← holding [v] (eval (.Name x pos) X.env)
      let iv ← holding [v, ov] (eval k X.env)
      standAt apos
      holding [v, ov, iv] (setItem ov iv v)
      release [v, ov, iv] [])) : PZ κ B X (.Assign [.Subscript (.Name x pos) k apos] e pos') (zPut i fk f) := pz_put cx hN hv hd hcd h hk swaps_sub (stores_no ht) (each_one rfl) ha
end

/-! ## minus, is None, list(..) -/
def oNeg : D → R D
  | .int i => .ok (.int (-i))
  | _ => .stuck
def isNon : D → Bool
  | .non => true
  | _ => false
def oIs (x y : D) : R Bool := if isNon y then .ok (isNon x) else .stuck
def oIsn (x y : D) : R Bool := if isNon y then .ok (!isNon x) else .stuck
section
variable {κ : Nat → Addr} {B : Gd} {X : Cx} {a b : Expr} {fa fb : Ev → R D} {p pos : Pos}
theorem px_neg (ha : PXr κ B X a fa) : PX κ B X (.UnaryOp .USub a pos) (m1 oNeg fa) := fun pins σ Ex =>
  pe_imp (pe_un un_neg (ha pins σ Ex)) fun τ H Q ⟨G, δ, rp, q⟩ => ⟨G, δ, rp, q.seq fun x v H1 G1 e1 d1 q1 => by
    unfold oNeg at q1
    split at q1
    · exact ⟨_, rInt d1, q1 _ H1 G1 (Ext.refl e1.GH) dInt⟩
    · exact False.elim q1⟩
theorem rNon {G H : Hp} {v : V} {x : D} (h : rRel X κ G H v x) : decide (v = .non) = isNon x := by
  rcases h with h | ⟨_, _, _, rfl, rfl, _⟩
  · cases x with
    | non => unfold Den at h; subst h; rfl
    | bl b => unfold Den at h; subst h; rfl
    | int i => unfold Den at h; subst h; rfl
    | str s => unfold Den at h; subst h; rfl
    | tup ds => unfold Den at h; obtain ⟨_, _, rfl, _⟩ := h; rfl
    | lst ds => unfold Den at h; obtain ⟨_, _, rfl, _⟩ := h; rfl
    | ob _ _ _ => unfold Den at h; obtain ⟨_, _, _, rfl, _⟩ := h; rfl
  · rfl
theorem isNon_of {G H : Hp} {v : V} {x : D} (h : rRel X κ G H v x) (e : isNon x = true) : v = .non := of_decide_eq_true ((rNon h).trans e)
theorem opOk_is : OpOk κ X (fun x y H Q => y = .non ∧ Q (.bl (decide (x = .non))) H) (op2 oIs) := by
  intro x y v u G H Q E s d1 d2 q
  unfold op2 oIs at q
  split at q
  · rename_i e
    exact ⟨isNon_of d2 e, by rw [rNon d1]; exact q _ H G (Ext.refl s) dBl⟩
  · exact False.elim q
theorem opOk_isn : OpOk κ X (fun x y H Q => y = .non ∧ Q (.bl (!decide (x = .non))) H) (op2 oIsn) := by
  intro x y v u G H Q E s d1 d2 q
  unfold op2 oIsn at q
  split at q
  · rename_i e
    exact ⟨isNon_of d2 e, by rw [rNon d1]; exact q _ H G (Ext.refl s) dBl⟩
  · exact False.elim q
theorem px_is (ha : PXr κ B X a fa) (hb : PXr κ B X b fb) (hm : behindInMarks .Is b = false) : PX κ B X (.Compare a [.Is] [b] pos) (m2 (op2 oIs) fa fb) := px_cmp (fun _ _ _ => op_isN) opOk_is ha hb hm
theorem px_isn (ha : PXr κ B X a fa) (hb : PXr κ B X b fb) (hm : behindInMarks .IsNot b = false) : PX κ B X (.Compare a [.IsNot] [b] pos) (m2 (op2 oIsn) fa fb) := px_cmp (fun _ _ _ => op_notN) opOk_isn ha hb hm
theorem pxt_is (ha : PXr κ B X a fa) (hb : PXr κ B X b fb) (hm : behindInMarks .Is b = false) : PXt κ B X (.Compare a [.Is] [b] pos) (m2t oIs fa fb) := pxt_cmp (fun _ _ _ => op_isN) opOk_is ha hb hm
theorem pxt_isn (ha : PXr κ B X a fa) (hb : PXr κ B X b fb) (hm : behindInMarks .IsNot b = false) : PXt κ B X (.Compare a [.IsNot] [b] pos) (m2t oIsn fa fb) := pxt_cmp (fun _ _ _ => op_notN) opOk_isn ha hb hm
theorem pxf_list (hg : Gl X "list") (hm : X.mg "list" = none) (ha : PXr κ B X a fa) (h : noStar a = true) : PXf κ B X (.Call (.Name "list" p) [a] [] pos) (fun δ => (fa δ).bind itemsD) := fun pins σ Ex =>
  pe_imp (pe_callTy (X := At X pins σ Ex) call_list_of hg hm (boot_ty .list) (pa_cons (X := At X pins σ Ex) (ha pins σ Ex) pa_nil (star_cons h)) (by decide) (by decide) (star_cons h) rfl) fun τ H Q ⟨G, δ, rp, q⟩ => ⟨G, δ, rp, by
    dsimp only at q
    cases e : fa δ with
    | exc c => rw [e] at q; exact q
    | stuck => rw [e] at q; exact q
    | ok d =>
      rw [e] at q
      intro v H1 G1 e1 d1
      have q1 := fOut.pre e1 q
      have fin : ∀ {p : Addr} {ys : List V} {ds : List D}, (SqL X.K H1 p ys ∨ SqT X.K H1 p ys) → Dens ⟨X.K, κ⟩ G1 ys ds → fOut X κ (EX X pins σ Ex) G1 H1 (.ok ds) Q → ∃ p' ys', [V.ref p] = [V.ref p'] ∧ (SqL X.K H1 p' ys' ∨ SqT X.K H1 p' ys') ∧ ∀ l, H1 l = none → Q (.ref l) (upd H1 l (.lst ys')) := fun {p ys ds} h1 h2 h3 =>
        ⟨p, ys, rfl, h1, fun l hl => h3 l ys _ G1 (ext_own e1.GH hl) upd_same (e1.GH.free hl) hl h2⟩
      cases d with
      | lst ds =>
        rcases d1 with d1 | ⟨l, vs, es, rfl, e2, h3, h4⟩
        · unfold Den at d1
          obtain ⟨l, vs, rfl, h1, h2⟩ := d1
          exact fin (.inl (e1.GH.seq h1)) h2 q1
        · cases e2
          exact fin (.inl (SqL.of h3)) h4 q1
      | tup ds =>
        rcases d1 with d1 | ⟨l, vs, es, rfl, e2, h3, h4⟩
        · unfold Den at d1
          obtain ⟨l, vs, rfl, h1, h2⟩ := d1
          exact fin (.inr (same_seqT e1.GH h1)) h2 q1
        · cases e2
      | _ => exact False.elim q1⟩
end
end L3

-- part L3j.lean
set_option Elab.async false
set_option linter.all false
set_option maxRecDepth 100000
namespace L3
open PySem PySem.Spec PyProof.Rows L2

/-! ## loops over what is made anew at each turn; enumerate -/
def IsItG (X : Cx) (κ : Nat → Addr) (J : It) (G : Hp) (ds : List D) : Prop := ∀ H' G', Same G G' → Same G' H' → ∀ i, (∀ d, ds[i]? = some d → J.go i H' ∧ ∀ x H'', J.yld i H' x H'' → ∃ G'', Ext G' H' G'' H'' ∧ Den ⟨X.K, κ⟩ G'' x d) ∧ (ds.length ≤ i → J.stop i H')
def PIg (κ : Nat → Addr) (B : Gd) (X : Cx) (tg e : Expr) (f : Ev → R (List D)) : Prop := ∀ pins σ Ex, PI (At X pins σ Ex) tg e (tO (fun G _ J ds => IsItG X κ J G ds) X κ B (EX X pins σ Ex) f)
section
variable {κ : Nat → Addr} {B : Gd} {X : Cx} {e tg : Expr} {f : Ev → R D} {pos : Pos}
theorem pz_forG (cx : Cxo X) (hc : X.calm = true) {iter : Expr} {body : List Stmt} {fit : Ev → R (List D)} {bd : D → Ev → Option Ev} {F : Ev → SR} (hi : PIg κ B X tg iter fit) (hg : ∀ B, PGz κ B X tg bd) (hb : ∀ B, PZs κ B X body F)
    (hs : ∀ x, foldedSetIterable iter X.env x = pure x) : PZ κ B X (.For tg iter body [] pos) (zFor fit bd F) := fun Ex pins s σ H G δ Dn hp I rp h => by
  have hsgA : ∀ p τ, (X.wish Ex).sg p τ := cx.sg
  refine wpAny_For (thn (hi pins σ Ex pins s σ H (fun J H' => ∃ G' ds, Rep ⟨X.K, κ⟩ B X.H₀ G' H' σ δ ∧ IsItG X κ J G' ds ∧ SPost κ B X Ex pins Dn (loopZ bd F ds δ)) (inv_at I) ⟨G, δ, rp, ?_⟩) fun v s1 h1 => thn h1 fun itv s2 h2 => ?_) hs
  · unfold zFor at h
    cases q : fit δ with
    | ok ds => rw [q] at h; exact fun J H' G' e1 d1 => ⟨G', ds, rp.ext e1, d1, h⟩
    | exc c => rw [q] at h; exact fun H' G' e1 ea s' I' F' => h ea s' σ H' G' I' F' (rp.ext e1)
    | stuck => rw [q] at h; exact h
  obtain ⟨it, fp, tn, J, H2, e, I2, T, st2, f2, G2, ds, rp2, hJ, q2⟩ := h2
  subst e
  have I2' := inv_unat cx.sg I2
  have stat : ∀ {H' : Hp}, (∀ b ∈ fp, H' b = none) → ∀ b ∈ fp, FpOk (X.wish Ex) pins H' b := fun hn b hb => ⟨hn b hb, (f2 b hb).2⟩
  refine codeAny_forLoop_any (fun n s' => ∃ i σ' H' G' δ', Inv (X.wish Ex) pins σ' H' s' ∧ tn i s'.heap ∧ (∀ b ∈ fp, H' b = none) ∧ n = ds.length - i ∧ i ≤ ds.length ∧ Rep ⟨X.K, κ⟩ ⟨G2, B.m⟩ X.H₀ G' H' σ' δ' ∧ SPost κ B X Ex pins Dn (loopZ bd F (ds.drop i) δ')) ?_ ds.length
    ⟨0, σ, H2, G2, δ, I2', st2, fun b hb => (f2 b hb).1, rfl, Nat.zero_le _, rp2.raise, q2⟩
  rintro n s3 ⟨i, σ3, H3, G3, δ3, I3, st3, fr3, rfl, hi3, rp3, q3⟩
  have low : ∀ {G' H' : Hp} {σ' : St} {δ' : Ev}, Rep ⟨X.K, κ⟩ ⟨G2, B.m⟩ X.H₀ G' H' σ' δ' → Rep ⟨X.K, κ⟩ B X.H₀ G' H' σ' δ' := fun r => r.lower rp2.gG rp2.lent
  have same3 : Same G2 H3 := rp3.gG.trans rp3.GH
  by_cases hlt : i < ds.length
  · obtain ⟨dx, hdx⟩ : ∃ d, ds[i]? = some d := ⟨ds[i], by simp [hlt]⟩
    obtain ⟨go, yl⟩ := (hJ H3 G3 rp3.gG rp3.GH i).1 dx hdx
    refine wpAny_passesOwn hp (thn (T.item (X.wish Ex) rfl rfl rfl hc i pins s3 σ3 H3 Ex I3 (stat fr3) st3 go) fun r s4 ⟨u, hr, h4⟩ => ?_)
    subst hr
    refine wpAny_passesOwn hp (thn h4 fun _ s5 ⟨x, H5, I5, r5, y5, st5, fr5⟩ => ?_)
    obtain ⟨G5, e5, dd⟩ := yl x H5 y5
    have I5' := Inv.pinned hsgA I5 (stat fr5) (T.obj _ _ st5)
    have hdrop : ds.drop i = dx :: ds.drop (i + 1) := by
      rw [List.drop_eq_getElem_cons hlt]
      simp [hlt] at hdx
      rw [hdx]
    rw [hdrop] at q3
    unfold loopZ at q3
    cases eb : bd dx δ3 with
    | none => rw [eb] at q3; exact False.elim q3
    | some δ4 =>
      rw [eb] at q3
      refine wpAny_passesOwn hp (thn (hg ⟨G2, B.m⟩ Ex _ s5 σ3 _ x u (fun σ' H' => H' = H5 ∧ Rep ⟨X.K, κ⟩ ⟨G2, B.m⟩ X.H₀ G5 H5 σ' δ4) I5' r5 ⟨G5, δ3, dx, δ4, rp3.ext e5, dd, eb, fun σ' r' => ⟨rfl, r'⟩⟩) fun _ s6 ⟨σ6, H6, I6, e6, rp6⟩ => ?_)
      subst e6
      refine wpAny_passesOwn hp (thn (hb ⟨G2, B.m⟩ Ex _ s6 σ6 _ G5 δ4 { Dn with nx := fun σ' H' => ∃ G' δ', Rep ⟨X.K, κ⟩ ⟨G2, B.m⟩ X.H₀ G' H' σ' δ' ∧ SPost κ B X Ex pins Dn (loopZ bd F (ds.drop (i + 1)) δ'), ct := fun σ' H' => ∃ G' δ', Rep ⟨X.K, κ⟩ ⟨G2, B.m⟩ X.H₀ G' H' σ' δ' ∧ SPost κ B X Ex pins Dn (loopZ bd F (ds.drop (i + 1)) δ'), bk := Dn.nx } hp I6 rp6 ?_) fun fl s7 q7 => ?_)
      · cases ef : F δ4 with
        | next δ5 => simp only [ef] at q3; exact fun σ' H' G' r => ⟨G', δ5, r, q3⟩
        | cont δ5 => simp only [ef] at q3; exact fun σ' H' G' r => ⟨G', δ5, r, q3⟩
        | brk δ5 => simp only [ef] at q3; exact fun σ' H' G' r => q3 σ' H' G' (low r)
        | ret d => simp only [ef] at q3; exact fun v H' G' r => q3 v H' G' (r.lower rp2.gG rp2.lent)
        | exc c δ5 => simp only [ef] at q3; exact fun ea s' σ' H' G' I' F' r => q3 ea s' σ' H' G' (Inv.unpinned hsgA I') (flies_pins F') (low r)
        | stuck => simp only [ef] at q3; exact q3
      · have again : ∀ {σ7 : St} {H7 : Hp}, Inv (X.wish Ex) (pins ++ pinsAt fp s5.heap) σ7 H7 s7 → (∃ G' δ', Rep ⟨X.K, κ⟩ ⟨G2, B.m⟩ X.H₀ G' H7 σ7 δ' ∧ SPost κ B X Ex pins Dn (loopZ bd F (ds.drop (i + 1)) δ')) →
            ∃ m, m < ds.length - i ∧ ∃ i σ' H' G' δ', Inv (X.wish Ex) pins σ' H' s7 ∧ tn i s7.heap ∧ (∀ b ∈ fp, H' b = none) ∧ m = ds.length - i ∧ i ≤ ds.length ∧ Rep ⟨X.K, κ⟩ ⟨G2, B.m⟩ X.H₀ G' H' σ' δ' ∧ SPost κ B X Ex pins Dn (loopZ bd F (ds.drop i) δ') := fun {σ7 H7} I7 ⟨G7, δ7, r7, n7⟩ => by
          refine ⟨ds.length - (i + 1), by omega, i + 1, σ7, H7, G7, δ7, Inv.unpinned hsgA I7, T.keep _ _ _ st5 fun b hb o e => (I7.pin (b, o) (List.mem_append_right _ (List.mem_append_right _ (mem_pinsAt hb e)))).1, fun b hb => ?_, rfl, hlt, r7, n7⟩
          obtain ⟨o, e, d⟩ := T.obj _ _ st5 b hb
          exact (I7.pin (b, o) (List.mem_append_right _ (List.mem_append_right _ (mem_pinsAt hb e)))).2.1
        cases fl with
        | next => obtain ⟨σ7, H7, I7, n7⟩ := q7; exact again I7 n7
        | cont => obtain ⟨σ7, H7, I7, n7⟩ := q7; exact again I7 n7
        | brk => obtain ⟨σ7, H7, I7, q7⟩ := q7; exact ⟨σ7, H7, Inv.unpinned hsgA I7, q7⟩
        | ret v => obtain ⟨x7, σ7, H7, I7, r7, q7⟩ := q7; exact ⟨x7, σ7, H7, Inv.unpinned hsgA I7, r7, q7⟩
  · have hie : i = ds.length := by omega
    refine wpAny_passesOwn hp (thn (T.done (X.wish Ex) rfl rfl rfl hc i pins s3 σ3 H3 Ex I3 (stat fr3) st3 ((hJ H3 G3 rp3.gG rp3.GH i).2 (by omega))) fun r s4 ⟨hr, I4⟩ => ?_)
    subst hr
    rw [hie, List.drop_length] at q3
    exact wpAny_execs_nil ⟨σ3, H3, I4, q3 σ3 H3 G3 (low rp3)⟩

end
def Ite (K : PySem.W.Frag) (a : Addr) : It :=
  ⟨fun i H => ∃ xs x, SqL K H a xs ∧ xs[i]? = some x, fun i H x H' => ∃ v p, (∀ xs, SqL K H a xs → xs[i]? = some v) ∧ H p = none ∧ x = .ref p ∧ H' = upd H p (.tup [.int (i : Nat), v]), fun i H => ∃ xs, SqL K H a xs ∧ xs.length ≤ i⟩
theorem turn_enum {P : Program} {w : World} {K : PySem.W.Frag} {tgs : List Expr} {kk : Nat} {tpos : Pos} (l e it : Addr) (hne : e ≠ it) : Turn P w K (.Tuple tgs kk tpos) (Ite K l) [e, it] e (fun i h => (∃ old, IsEnum h e it (i : Nat) old) ∧ h.IsListIter it l i) where
  mem := by simp
  obj := fun i h st b hb => by
    obtain ⟨⟨old, h1⟩, o, h2, _, h3⟩ := st
    rcases List.mem_cons.mp hb with rfl | hb
    · exact ⟨_, h1, fun v z => by
        have z' : Data.fields _ = Data.cell v := z
        cases z'⟩
    · have e' : b = it := by simpa using hb
      subst e'
      exact ⟨o, h2, fun v z => by rw [h3] at z; cases z⟩
  keep := fun i h h' st k => by
    obtain ⟨⟨old, h1⟩, h2⟩ := st
    exact ⟨⟨old, k e (by simp) _ h1⟩, h2.at fun o x => k it (by simp) o x⟩
  item := by
    intro X hP hw hK hc i pins s σ H E I hf st hg
    subst hP hw hK
    obtain ⟨⟨old, h1⟩, h2⟩ := st
    obtain ⟨xs, x, hq, hx⟩ := hg
    obtain ⟨its, rv, p, hz⟩ := I.list hq
    obtain ⟨u, hu, ru⟩ := rv.get hx
    obtain ⟨f0, f1, f2, f3, f4, f5⟩ := hf e (by simp)
    obtain ⟨g0, g1, g2, g3, g4, g5⟩ := hf it (by simp)
    have hes : e < s.heap.objs.size := Heap.lt_size h1
    refine wpAny_pyNext_enum_item h1 h2 p.isList (x := u) (by simpa using hu) hne fun h' ho hi ht hs hk => ⟨_, rfl, ?_⟩
    refine wpAny_letOwnedTupleGo_enum ho fun h'' he hsb => ?_
    have hn : H s.heap.objs.size = none := I.hok.fresh (Nat.le_refl _)
    have tup : h''.get? s.heap.objs.size = some { cls := .type "tuple", data := .seq #[.int i s.toks, u] } := hsb.extBut _ _ (Nat.ne_of_gt hes) ht
    have kp : ∀ b o, b ≠ e → b ≠ it → s.heap.get? b = some o → h''.get? b = some o := fun b o hb1 hb2 q => hsb.extBut b o hb1 (hk b o hb1 hb2 q)
    have nin : ∀ {b : Addr}, b ∉ [e, it] → b ≠ e ∧ b ≠ it := fun {b} h => by simpa using h
    have ne_tr : ∀ b o, H b = some o → b ≠ e ∧ b ≠ it := fun b o q => ⟨(by rintro rfl; rw [f0] at q; cases q), (by rintro rfl; rw [g0] at q; cases q)⟩
    have nep : ∀ b o, s.heap.get? b = some o → b ≠ s.heap.objs.size := fun b o q => Nat.ne_of_lt (Heap.lt_size q)
    have J := I.step (H' := upd H s.heap.objs.size (.tup [.int (i : Nat), x])) (h' := h'') (g' := s.gens) (d' := s.drawn) (t' := s.toks + 1) (ch := [e, it]) (fun b hb => by
        rcases List.mem_cons.mp hb with rfl | hb
        · exact ⟨f3.imp id Heap.get?_none_of_le, f1, f4, f5⟩
        · have e' : b = it := by simpa using hb
          subst e'
          exact ⟨g3.imp id Heap.get?_none_of_le, g1, g4, g5⟩)
      (fun b o _ _ hch q _ => kp b o (nin hch).1 (nin hch).2 q) (fun b o _ _ hch q _ => ⟨o.slots, kp b o (nin hch).1 (nin hch).2 q⟩) (fun b o _ q n => by rw [upd_ne (nep b o q)]; exact n)
      (fun b o hch q => ⟨o, kp b o (nin hch).1 (nin hch).2 q⟩) (fun b xs q => by rw [upd_ne (ne_of_none q hn)]; exact q) (fun b o u q => by rw [upd_ne (ne_of_none q hn)]; exact q) (fun b ps q => ⟨#[], by rw [upd_ne (ne_of_none q hn), q]; simp⟩)
      (fun m hm => by
        obtain ⟨o, es, ep, ho', r⟩ := hm
        exact ⟨o, es, ep, kp _ o (Ne.symm f1) (Ne.symm g1) ho', r⟩)
      (fun b o q => by
        by_cases hb : b = s.heap.objs.size
        · subst hb
          rw [upd_same] at q
          cases q
          exact ⟨by simp [sizeLine_eq], [.int i s.toks, u], .cons ⟨_, rfl⟩ (.cons ru .nil), _, tup, rfl, _, rfl⟩
        · rw [upd_ne hb] at q
          refine (I.hok b o q).stay (fun c v hc q' => ?_) (fun c q' => by rw [upd_ne (ne_of_none q' hn)]; exact q') fun c xs q' => by rw [upd_ne (ne_of_none q' hn)]; exact q'
          have hcc : c ≠ e ∧ c ≠ it := by
            rcases hc with z | z
            · rw [z]; exact ne_tr b o q
            · exact ne_tr c _ z
          exact kp c v hcc.1 hcc.2 q') I.bare
    refine ⟨.ref s.heap.objs.size, _, J, rfl, ⟨x, _, fun ys hy => by rw [I.list_inj hy hq]; exact hx, hn, rfl, rfl⟩, ⟨⟨u, ?_⟩, (hi.extBut hsb.extBut (Ne.symm hne))⟩, fun b hb => ?_⟩
    · have he' : IsEnum h'' e it ((i : Int) + 1) u := he
      rw [show (((i + 1 : Nat)) : Int) = (i : Int) + 1 by push_cast; rfl]
      exact he'
    · have hlt : b < s.heap.objs.size := by
        rcases List.mem_cons.mp hb with rfl | hb
        · exact hes
        · have e' : b = it := by simpa using hb
          subst e'
          obtain ⟨o, ho', _⟩ := h2
          exact Heap.lt_size ho'
      rw [upd_ne (Nat.ne_of_lt hlt)]
      exact (hf b hb).1
  done := by
    intro X hP hw hK hc i pins s σ H E I hf st hg
    subst hP hw hK
    obtain ⟨⟨old, h1⟩, h2⟩ := st
    obtain ⟨xs, hq, hx⟩ := hg
    obtain ⟨its, rv, p, hz⟩ := I.list hq
    obtain ⟨g0, g1, g2, g3, g4, g5⟩ := hf it (by simp)
    have hl := rv.length
    exact wpAny_pyNext_enum_end (I.ok.hd hc) h1 h2 p.isList (by simp; omega) fun h' eb => ⟨rfl, I.turned (t' := s.toks) (fun b o hb e => eb b o hb e) g0 g1 g3 g4 g5⟩
  self := fun _ _ _ _ _ st h => by
    obtain ⟨⟨old, h1⟩, _⟩ := st
    exact wpAny_pyIter_enum h1 h
def enumFrom : Nat → List D → List D
  | _, [] => []
  | n, d :: ds => .tup [.int (n : Int), d] :: enumFrom (n + 1) ds
def enumD : D → R (List D)
  | .lst ds => .ok (enumFrom 0 ds)
  | _ => .stuck
theorem enumFrom_len : ∀ (ds : List D) (n : Nat), (enumFrom n ds).length = ds.length
  | [], _ => rfl
  | d :: ds, n => by simp [enumFrom, enumFrom_len ds (n + 1)]
theorem enumFrom_get : ∀ (ds : List D) (n i : Nat) (d : D), (enumFrom n ds)[i]? = some d → ∃ x, ds[i]? = some x ∧ d = .tup [.int ((n + i : Nat) : Int), x]
  | [], _, _, _, h => by simp [enumFrom] at h
  | x :: ds, n, 0, d, h => by simp [enumFrom] at h; exact ⟨x, rfl, h.symm⟩
  | x :: ds, n, i + 1, d, h => by
    simp only [enumFrom, List.getElem?_cons_succ] at h
    obtain ⟨y, h1, h2⟩ := enumFrom_get ds (n + 1) i d h
    exact ⟨y, by simpa using h1, by rw [h2]; congr 3; omega⟩
theorem isItG_enum {X : Cx} {κ : Nat → Addr} {G : Hp} {a : Addr} {vs : List V} {ds : List D} (h : SqL X.K G a vs) (d : Dens ⟨X.K, κ⟩ G vs ds) : IsItG X κ (Ite X.K a) G (enumFrom 0 ds) := by
  intro H' G' s1 s2 i
  have sq : SqL X.K H' a vs := (s1.trans s2).seq h
  refine ⟨fun e he => ?_, fun hi => ⟨vs, sq, by rw [d.length, ← enumFrom_len ds 0]; exact hi⟩⟩
  obtain ⟨y, hy, rfl⟩ := enumFrom_get ds 0 i e he
  obtain ⟨v, hv, dv⟩ := d.get hy
  refine ⟨⟨vs, v, sq, hv⟩, ?_⟩
  rintro x H'' ⟨v', p, q1, q3, rfl, rfl⟩
  have q2 := q1 vs sq
  rw [hv] at q2
  cases q2
  have ee := ext_new (o := .tup [.int (i : Nat), v]) s2 q3
  refine ⟨_, ee, ?_⟩
  unfold Den
  refine ⟨p, _, rfl, SqT.of upd_same, dens_cons (by unfold Den; simp) (dens_cons ((dv.mono s1).mono ee.sG) dens_nil)⟩
section
variable {κ : Nat → Addr} {B : Gd} {X : Cx} {e : Expr} {f : Ev → R D} {tgs : List Expr} {kk : Nat} {p pos tpos : Pos}
theorem pig_enum (hg : Gl X "enumerate") (hm : X.mg "enumerate" = none) (h : PX κ B X e f) (hs : noStar e = true) : PIg κ B X (.Tuple tgs kk tpos) (.Call (.Name "enumerate" p) [e] [] pos) (fun δ => (f δ).bind enumD) := fun pins σ Ex pins' s τ H R I ⟨G, δ, rp, q⟩ => by
  dsimp only at q
  refine Call_ (ld_blt I hg hm boot_enumerate (PyProof.Rows.callWith_type1 (thn (pa_cons (X := At X pins σ Ex) (h pins σ Ex) pa_nil (star_cons hs) pos pins' s τ H (fun vs H1 => ∃ a xs ds G1, vs = [.ref a] ∧ SqL X.K G1 a xs ∧ Dens ⟨X.K, κ⟩ G1 xs ds ∧ Ext G H G1 H1 ∧ R (Ite X.K a) H1) I ⟨G, δ, rp, ?_⟩) fun us s1 ⟨vs, H1, I1, r1, q1⟩ => ?_) (star_cons hs) rfl))
  · cases e' : f δ with
    | ok d =>
      rw [e'] at q
      cases d with
      | lst ds =>
        intro v H1 G1 e1 d1
        unfold dRel Den at d1
        obtain ⟨a, xs, rfl, h1, h2⟩ := d1
        exact ⟨a, xs, ds, G1, rfl, h1, h2, e1, q _ H1 G1 e1 (isItG_enum h1 h2)⟩
      | _ => exact False.elim q
    | exc c => rw [e'] at q; exact q
    | stuck => rw [e'] at q; exact False.elim q
  · obtain ⟨a, xs, ds, G1, rfl, h1, h2, e1, q1⟩ := q1
    cases r1 with
    | cons r rr =>
      cases rr
      cases r
      obtain ⟨its, rv, pl, hz⟩ := I1.list (e1.GH.seq h1)
      refine call_enumerate_list pl.isList fun h' he hi hsz hk => ?_
      refine wpAny_pyIter_enum he ?_
      have I2 : Inv (At X pins σ Ex) pins' τ H1 { s1 with heap := h' } := I1.kept (t' := s1.toks) hk
      refine ⟨s1.heap.objs.size + 1, [s1.heap.objs.size + 1, s1.heap.objs.size], _, _, H1, rfl, I2, turn_enum a _ _ (Nat.succ_ne_self _), ⟨⟨_, he⟩, hi⟩, fun b hb => ?_, q1⟩
      rcases List.mem_cons.mp hb with rfl | hb
      · exact I1.fpOk (Nat.le_succ _) (I1.hok.fresh (Nat.le_succ _))
      · have e' : b = s1.heap.objs.size := by simpa using hb
        subst e'
        exact I1.fpOk (Nat.le_refl _) (I1.hok.fresh (Nat.le_refl _))
theorem y_forG (cx : Cxo X) (hc : X.calm = true) {tg iter : Expr} {body : List Stmt} {fit : Ev → R (List D)} {bd : D → Ev → Option Ev} {F : Ev → SR} (hi : PIg κ B X tg iter fit) (hg : ∀ B, PGz κ B X tg bd) (hb : ∀ B, PZs κ B X body F) (h : plI iter = true) : PZ κ B X (.For tg iter body [] pos) (zFor fit bd F) := pz_forG cx hc hi hg hb (fold_no h)
end
end L3

-- part L3q.lean
set_option Elab.async false
set_option linter.all false
set_option maxRecDepth 100000
namespace L3
open PySem PySem.Spec PyProof.Rows L2
/-! ## the judgements sealed: what stands behind them is not looked at any more -/
structure QX (κ : Nat → Addr) (B : Gd) (X : Cx) (e : Expr) (f : Ev → R D) : Prop where
  h : PX κ B X e f
structure QXr (κ : Nat → Addr) (B : Gd) (X : Cx) (e : Expr) (f : Ev → R D) : Prop where
  h : PXr κ B X e f
structure QXs (κ : Nat → Addr) (B : Gd) (X : Cx) (e : List Expr) (f : Ev → R (List D)) : Prop where
  h : PXs κ B X e f
structure QXf (κ : Nat → Addr) (B : Gd) (X : Cx) (e : Expr) (f : Ev → R (List D)) : Prop where
  h : PXf κ B X e f
structure QXt (κ : Nat → Addr) (B : Gd) (X : Cx) (e : Expr) (f : Ev → R Bool) : Prop where
  h : PXt κ B X e f
structure QXw (κ : Nat → Addr) (B : Gd) (X : Cx) (e : Expr) (f : Ev → R Bool) : Prop where
  h : PXw κ B X e f
structure QIz (κ : Nat → Addr) (B : Gd) (X : Cx) (tg e : Expr) (f : Ev → R (List D)) : Prop where
  h : PIz κ B X tg e f
structure QIg (κ : Nat → Addr) (B : Gd) (X : Cx) (tg e : Expr) (f : Ev → R (List D)) : Prop where
  h : PIg κ B X tg e f
structure QGz (κ : Nat → Addr) (B : Gd) (X : Cx) (tg : Expr) (b : D → Ev → Option Ev) : Prop where
  h : PGz κ B X tg b
structure QGzs (κ : Nat → Addr) (B : Gd) (X : Cx) (tg : List Expr) (b : List D → Ev → Option Ev) : Prop where
  h : PGzs κ B X tg b
structure QZ (κ : Nat → Addr) (B : Gd) (X : Cx) (st : Stmt) (F : Ev → SR) : Prop where
  h : PZ κ B X st F
structure QZs (κ : Nat → Addr) (B : Gd) (X : Cx) (st : List Stmt) (F : Ev → SR) : Prop where
  h : PZs κ B X st F
structure QXo (κ : Nat → Addr) (B : Gd) (X : Cx) (e : Option Expr) (f : Ev → R (Option Int)) : Prop where
  h : PXo κ B X e f
structure QHs (κ : Nat → Addr) (B : Gd) (X : Cx) (cs : List Nat) (hs : List ExceptHandler) (mh : List (Nat × (Ev → SR))) : Prop where
  h : PHs κ B X cs hs mh
section
variable {κ : Nat → Addr} {B : Gd} {X : Cx} {a b c e k tg : Expr} {es tgs rest : List Expr} {f fa fb fc fk : Ev → R D} {ta tb : Ev → R Bool} {fs fl : Ev → R (List D)} {pos pos' pos'' apos p p' : Pos} {x : Str} {m : List D → R D} {n i : Nat}
theorem QX.read (h : QX κ B X e f) : QXr κ B X e f := ⟨h.h.read⟩
theorem QXw.t (h : QXw κ B X e ta) : QXt κ B X e ta := ⟨h.h.t⟩
theorem QXf.px (h : QXf κ B X e fl) : QX κ B X e (mL fl) := ⟨h.h.px⟩
theorem qpx_int {i : Int} {j pos} : QX κ B X (.Constant (.int i) j pos) (mC (.int i)) := ⟨px_int ⟩
theorem qpx_bl {i : Bool} {j pos} : QX κ B X (.Constant (.bool i) j pos) (mC (.bl i)) := ⟨px_bl ⟩
theorem qpx_non {j pos} : QX κ B X (.Constant .none j pos) (mC .non) := ⟨px_non ⟩
theorem qpx_str {x : Str} {l : List Nat} {j pos} (h : x = ⟨l.toArray⟩) : QX κ B X (.Constant (.str x) j pos) (mC (.str l)) := ⟨px_str h⟩
theorem qpx_var (i : Nat) {x : Str} (hN : X.N[i]? = some x) (hv : Vis X.env.scope x) (hd : (x == ("__debug__" : Str)) = false) (hcd : (x == ("__classdict__" : Str)) = false) : QX κ B X (.Name x pos) (mVar i) := ⟨px_var i hN hv hd hcd⟩
theorem qpx_varR (i : Nat) {x : Str} (hN : X.N[i]? = some x) (hv : Vis X.env.scope x) (hd : (x == ("__debug__" : Str)) = false) (hcd : (x == ("__classdict__" : Str)) = false) : QXr κ B X (.Name x pos) (mVarR i) := ⟨px_varR i hN hv hd hcd⟩
theorem qpx_glob {x : Str} {v : V} {u : Value} {d : D} (hg : Gl X x) (hm : X.mg x = some u) (r : RelV v u) (hd : ∀ G, Den ⟨X.K, κ⟩ G v d) (hdb : (x == ("__debug__" : Str)) = false) : QX κ B X (.Name x pos) (mC d) := ⟨px_glob hg hm r hd hdb⟩
theorem qpx_sub (ha : QXr κ B X a fa) (hb : QXr κ B X b fb) : QX κ B X (.BinOp a .Sub b pos) (m2 oSub fa fb) := ⟨px_sub ha.h hb.h⟩
theorem qpx_mulI (ha : QXr κ B X a fa) (hb : QXr κ B X b fb) : QX κ B X (.BinOp a .Mult b pos) (m2 oMul fa fb) := ⟨px_mulI ha.h hb.h⟩
theorem qpx_div (ha : QXr κ B X a fa) (hb : QXr κ B X b fb) : QX κ B X (.BinOp a .FloorDiv b pos) (m2 oDiv fa fb) := ⟨px_div ha.h hb.h⟩
theorem qpx_mod (ha : QXr κ B X a fa) (hb : QXr κ B X b fb) : QX κ B X (.BinOp a .Mod b pos) (m2 oMod fa fb) := ⟨px_mod ha.h hb.h⟩
theorem qpx_pow (ha : QXr κ B X a fa) (hb : QXr κ B X b fb) : QX κ B X (.BinOp a .Pow b pos) (m2 oPow fa fb) := ⟨px_pow ha.h hb.h⟩
theorem qpx_add (ha : QXr κ B X a fa) (hb : QXr κ B X b fb) : QX κ B X (.BinOp a .Add b pos) (m2 oAdd fa fb) := ⟨px_add ha.h hb.h⟩
theorem qpx_lt (ha : QXr κ B X a fa) (hb : QXr κ B X b fb) (hm : behindInMarks .Lt b = false) : QX κ B X (.Compare a [.Lt] [b] pos) (m2 (op2 oLt) fa fb) := ⟨px_lt ha.h hb.h hm⟩
theorem qpx_le (ha : QXr κ B X a fa) (hb : QXr κ B X b fb) (hm : behindInMarks .LtE b = false) : QX κ B X (.Compare a [.LtE] [b] pos) (m2 (op2 oLe) fa fb) := ⟨px_le ha.h hb.h hm⟩
theorem qpx_gt (ha : QXr κ B X a fa) (hb : QXr κ B X b fb) (hm : behindInMarks .Gt b = false) : QX κ B X (.Compare a [.Gt] [b] pos) (m2 (op2 oGt) fa fb) := ⟨px_gt ha.h hb.h hm⟩
theorem qpx_ge (ha : QXr κ B X a fa) (hb : QXr κ B X b fb) (hm : behindInMarks .GtE b = false) : QX κ B X (.Compare a [.GtE] [b] pos) (m2 (op2 oGe) fa fb) := ⟨px_ge ha.h hb.h hm⟩
theorem qpxt_lt (ha : QXr κ B X a fa) (hb : QXr κ B X b fb) (hm : behindInMarks .Lt b = false) : QXt κ B X (.Compare a [.Lt] [b] pos) (m2t oLt fa fb) := ⟨pxt_lt ha.h hb.h hm⟩
theorem qpxt_le (ha : QXr κ B X a fa) (hb : QXr κ B X b fb) (hm : behindInMarks .LtE b = false) : QXt κ B X (.Compare a [.LtE] [b] pos) (m2t oLe fa fb) := ⟨pxt_le ha.h hb.h hm⟩
theorem qpxt_gt (ha : QXr κ B X a fa) (hb : QXr κ B X b fb) (hm : behindInMarks .Gt b = false) : QXt κ B X (.Compare a [.Gt] [b] pos) (m2t oGt fa fb) := ⟨pxt_gt ha.h hb.h hm⟩
theorem qpxt_ge (ha : QXr κ B X a fa) (hb : QXr κ B X b fb) (hm : behindInMarks .GtE b = false) : QXt κ B X (.Compare a [.GtE] [b] pos) (m2t oGe fa fb) := ⟨pxt_ge ha.h hb.h hm⟩
theorem qpxt_not (ha : QXt κ B X a ta) : QXt κ B X (.UnaryOp .Not a pos) (mNot ta) := ⟨pxt_not ha.h⟩
theorem qpxw_and1 (ha : QXt κ B X a ta) : QXw κ B X (.BoolOp .And [a] pos) ta := ⟨pxw_and1 ha.h⟩
theorem qpxw_or1 (ha : QXt κ B X a ta) : QXw κ B X (.BoolOp .Or [a] pos) ta := ⟨pxw_or1 ha.h⟩
theorem qpxw_and (ha : QXt κ B X a ta) (hb : QXw κ B X (.BoolOp .And (b :: rest) pos) tb) : QXw κ B X (.BoolOp .And (a :: b :: rest) pos) (mAnd ta tb) := ⟨pxw_and ha.h hb.h⟩
theorem qpxw_or (ha : QXt κ B X a ta) (hb : QXw κ B X (.BoolOp .Or (b :: rest) pos) tb) : QXw κ B X (.BoolOp .Or (a :: b :: rest) pos) (mOr ta tb) := ⟨pxw_or ha.h hb.h⟩
theorem qpx_one {op} (h : QX κ B X a fa) : QX κ B X (.BoolOp op [a] pos) fa := ⟨px_one h.h⟩
theorem qpx_and (ha : QX κ B X a fa) (hb : QX κ B X (.BoolOp .And (b :: rest) pos) fb) : QX κ B X (.BoolOp .And (a :: b :: rest) pos) (mAndV fa fb) := ⟨px_and ha.h hb.h⟩
theorem qpx_or (ha : QX κ B X a fa) (hb : QX κ B X (.BoolOp .Or (b :: rest) pos) fb) : QX κ B X (.BoolOp .Or (a :: b :: rest) pos) (mOrV fa fb) := ⟨px_or ha.h hb.h⟩
theorem qpx_not (ha : QX κ B X a fa) : QX κ B X (.UnaryOp .Not a pos) (mNotV fa) := ⟨px_not ha.h⟩
theorem qpx_if (hc : QXt κ B X c ta) (ha : QX κ B X a fa) (hb : QX κ B X b fb) : QX κ B X (.IfExp c a b pos) (mIf ta fa fb) := ⟨px_if hc.h ha.h hb.h⟩
theorem qpxs_nil : QXs κ B X [] mNil := ⟨pxs_nil ⟩
theorem qpx_tup {k : Nat} (h : QXs κ B X es fs) : QX κ B X (.Tuple es k pos) (mTup fs) := ⟨px_tup h.h⟩
theorem qpx_lst (h : QXs κ B X es fs) : QX κ B X (.List es pos) (mLst fs) := ⟨px_lst h.h⟩
theorem qpzs_nil : QZs κ B X [] SR.next := ⟨pzs_nil ⟩
theorem qpzs_cons {st : Stmt} {rest : List Stmt} {F1 F2 : Ev → SR} (h1 : QZ κ B X st F1) (h2 : QZs κ B X rest F2) : QZs κ B X (st :: rest) (zSeq F1 F2) := ⟨pzs_cons h1.h h2.h⟩
theorem qpzs_one {st : Stmt} {F : Ev → SR} (h1 : QZ κ B X st F) : QZs κ B X [st] F := ⟨pzs_one h1.h⟩
theorem qpzs_frz (i : Nat) {sts : List Stmt} {F : Ev → SR} (h : QZs κ B X sts F) : QZs κ B X sts (fun δ => F (frzE i δ)) := ⟨pzs_frz i h.h⟩
theorem qpz_pass : QZ κ B X (.Pass pos) SR.next := ⟨pz_pass ⟩
theorem qpz_break : QZ κ B X (.Break pos) SR.brk := ⟨pz_break ⟩
theorem qpz_continue : QZ κ B X (.Continue pos) SR.cont := ⟨pz_continue ⟩
theorem qpz_ret (cx : Cxo X) (h : QX κ B X e f) : QZ κ B X (.Return (some e) pos) (zRet f) := ⟨pz_ret cx h.h⟩
theorem qpz_retN : QZ κ B X (.Return none pos) (fun _ => .ret .non) := ⟨pz_retN ⟩
theorem qpz_if (cx : Cxo X) {t : Ev → R Bool} {s1 s2 : List Stmt} {F1 F2 : Ev → SR} (hc : QXt κ B X c t) (h1 : QZs κ B X s1 F1) (h2 : QZs κ B X s2 F2) : QZ κ B X (.If c s1 s2 pos) (zIf t F1 F2) := ⟨pz_if cx hc.h h1.h h2.h⟩
theorem qpz_aug (cx : Cxo X) {i : Nat} {x : Str} {op : Operator} {g : Int → Int → Int} (ho : ∀ Y : Cx, PIp Y op (ipI g)) (hN : X.N.Nodup) (hi : X.N[i]? = some x) (hx : Loc X.env.scope x) (hf : X.fn x = true ∨ X.env.scope.names.lookup x = some .local) (h : QX κ B X e f) : QZ κ B X (.AugAssign (.Name x pos') op e pos) (zAug i g f) := ⟨pz_aug cx ho hN hi hx hf h.h⟩
theorem qpgz_name (cx : Cxo X) {i : Nat} {x : Str} (hN : X.N.Nodup) (hi : X.N[i]? = some x) (hx : Loc X.env.scope x) (hf : X.fn x = true ∨ X.env.scope.names.lookup x = some .local) : QGz κ B X (.Name x pos) (bN i) := ⟨pgz_name cx hN hi hx hf⟩
theorem qpgzs_nil : QGzs κ B X [] bsNil := ⟨pgzs_nil ⟩
theorem qpiz_seq (h : QX κ B X e f) : QIz κ B X tg e (fun δ => (f δ).bind itemsD) := ⟨piz_seq h.h⟩
theorem qpz_while (cx : Cxo X) (N : Nat) {c : Expr} {body : List Stmt} {t : Ev → R Bool} {F : Ev → SR} (hc : QXt κ B X c t) (hb : QZs κ B X body F) : QZ κ B X (.While c body [] pos) (whileZ t F N) := ⟨pz_while cx N hc.h hb.h⟩
theorem qpxf_lst (h : QXs κ B X es fs) : QXf κ B X (.List es pos) (fun δ => lim (fs δ)) := ⟨pxf_lst h.h⟩
theorem qpx_eq (hu : X.A.units + 64 < cLine) (ha : QXr κ B X a fa) (hb : QXr κ B X b fb) (hm : behindInMarks .Eq b = false) : QX κ B X (.Compare a [.Eq] [b] pos) (m2 (op2 oEq) fa fb) := ⟨px_eq hu ha.h hb.h hm⟩
theorem qpx_ne (hu : X.A.units + 64 < cLine) (ha : QXr κ B X a fa) (hb : QXr κ B X b fb) (hm : behindInMarks .NotEq b = false) : QX κ B X (.Compare a [.NotEq] [b] pos) (m2 (op2 oNe) fa fb) := ⟨px_ne hu ha.h hb.h hm⟩
theorem qpxt_eq (hu : X.A.units + 64 < cLine) (ha : QXr κ B X a fa) (hb : QXr κ B X b fb) (hm : behindInMarks .Eq b = false) : QXt κ B X (.Compare a [.Eq] [b] pos) (m2t oEq fa fb) := ⟨pxt_eq hu ha.h hb.h hm⟩
theorem qpxt_ne (hu : X.A.units + 64 < cLine) (ha : QXr κ B X a fa) (hb : QXr κ B X b fb) (hm : behindInMarks .NotEq b = false) : QXt κ B X (.Compare a [.NotEq] [b] pos) (m2t oNe fa fb) := ⟨pxt_ne hu ha.h hb.h hm⟩
theorem qys_cons (ha : QX κ B X a fa) (hr : QXs κ B X es fs) (h : noStar a = true) : QXs κ B X (a :: es) (mCons fa fs) := ⟨ys_cons ha.h hr.h h⟩
theorem qy_call (c : Cxo X) (C : Cal κ X x n m) (hn : (a :: es).length = n) (hg : Gl X x) (ha : QXs κ B X (a :: es) fs) (hdb : (x == ("__debug__" : Str)) = false) (h : (a :: es).all noStar = true) (hlen : ∀ δ ds, fs δ = .ok ds → ds.length = n) : QX κ B X (.Call (.Name x p) (a :: es) [] pos) (mCall m fs) := ⟨y_call c C hn hg ha.h hdb h hlen⟩
theorem qy_set (cx : Cxo X) (hN : X.N.Nodup) (hi : X.N[i]? = some x) (hx : Loc X.env.scope x) (hf : X.fn x = true ∨ X.env.scope.names.lookup x = some .local) (h : QX κ B X e f) (hs : noComp e = true) : QZ κ B X (.Assign [.Name x pos'] e pos) (zSet i f) := ⟨y_set cx hN hi hx hf h.h hs⟩
theorem qy_own (cx : Cxo X) (hN : X.N.Nodup) (hi : X.N[i]? = some x) (hx : Loc X.env.scope x) (hf : X.fn x = true ∨ X.env.scope.names.lookup x = some .local) (h : QXf κ B X e fl) (hs : noComp e = true) : QZ κ B X (.Assign [.Name x pos'] e pos) (zOwn i fl) := ⟨y_own cx hN hi hx hf h.h hs⟩
theorem qy_expr (cx : Cxo X) (h : QX κ B X e f) (hs : noComp e = true) : QZ κ B X (.Expr e pos) (zDrop f) := ⟨y_expr cx h.h hs⟩
theorem qy_append (cx : Cxo X) (hN : X.N[i]? = some x) (hv : Vis X.env.scope x) (hd : (x == ("__debug__" : Str)) = false) (hcd : (x == ("__classdict__" : Str)) = false) (h : QX κ B X e f) (hs : noStar e = true) (hline : (apos.endLine == pos'.line) = true) : QZ κ B X (.Expr (.Call (.Attribute (.Name x pos) "append" apos) [e] [] pos') pos'') (zApp i f) := ⟨y_append cx hN hv hd hcd h.h hs hline⟩
theorem qy_put (cx : Cxo X) (hN : X.N[i]? = some x) (hv : Vis X.env.scope x) (hd : (x == ("__debug__" : Str)) = false) (hcd : (x == ("__classdict__" : Str)) = false) (h : QX κ B X e f) (hk : QX κ B X k fk) (hs : noComp e = true) (ht : noTup e = true)
    (ha : ∀ v, assign (.Subscript (.Name x pos) k apos) X.env v = (do
      let ov ← holding [v] (eval (.Name x pos) X.env)
      let iv ← holding [v, ov] (eval k X.env)
      standAt apos
      holding [v, ov, iv] (setItem ov iv v)
      release [v, ov, iv] [])) : QZ κ B X (.Assign [.Subscript (.Name x pos) k apos] e pos') (zPut i fk f) := ⟨y_put cx hN hv hd hcd h.h hk.h hs ht ha⟩
theorem qy_asg (cx : Cxo X) {bd : D → Ev → Option Ev} (h : QX κ B X e f) (hg : QGz κ B X tg bd) (hs : noComp e = true) (ht : noTup e = true) (h1 : noStar tg = true) : QZ κ B X (.Assign [tg] e pos) (zAsg bd f) := ⟨y_asg cx h.h hg.h hs ht h1⟩
theorem qy_tup {kk : Nat} {bs : List D → Ev → Option Ev} (hc : X.calm = true) (h : QGzs κ B X tgs bs) (hn : tgs.length = n) (hst : tgs.all noStar = true) : QGz κ B X (.Tuple tgs kk pos) (bTup n bs) := ⟨y_tup hc h.h hn hst⟩
theorem qy_cons {bd : D → Ev → Option Ev} {bs : List D → Ev → Option Ev} (h1 : QGz κ B X tg bd) (h2 : QGzs κ B X tgs bs) (h : noStar tg = true) : QGzs κ B X (tg :: tgs) (bsCons bd bs) := ⟨y_cons h1.h h2.h h⟩
theorem qyt_val (ha : QXr κ B X a fa) (h : plT a = true) : QXt κ B X a (mT fa) := ⟨yt_val ha.h h⟩
theorem qy_ix (ha : QXr κ B X a fa) (hb : QXr κ B X b fb) (h : plI b = true) : QX κ B X (.Subscript a b pos) (m2 oIx fa fb) := ⟨y_ix ha.h hb.h h⟩
theorem qy_len (hg : Gl X "len") (hm : X.mg "len" = none) (ha : QXr κ B X a fa) (h : noStar a = true) : QX κ B X (.Call (.Name "len" p) [a] [] pos) (m1 oLen fa) := ⟨y_len hg hm ha.h h⟩
theorem qy_isinst (T : Ty) {y : Str} (hy : y = Str.ofString T.nm) (hg : Gl X "isinstance") (hm : X.mg "isinstance" = none) (hgT : Gl X y) (hmT : X.mg y = none) (hn : y ≠ "__name__") (hdb : (y == ("__debug__" : Str)) = false) (ha : QXr κ B X a fa) (h : noStar a = true) : QX κ B X (.Call (.Name "isinstance" p) [a, .Name y p'] [] pos) (m1 (fun x => blR (isTy x T)) fa) := ⟨y_isinst T hy hg hm hgT hmT hn hdb ha.h h⟩
theorem qyi_range1 (hg : Gl X "range") (hm : X.mg "range" = none) (ha : QXs κ B X [a] fs) (h : noStar a = true) : QIz κ B X tg (.Call (.Name "range" p) [a] [] pos) (fun δ => (fs δ).bind iR1) := ⟨yi_range1 hg hm ha.h h⟩
theorem qyi_range2 (hg : Gl X "range") (hm : X.mg "range" = none) (ha : QXs κ B X [a, b] fs) (h : noStar a = true) (h' : noStar b = true) : QIz κ B X tg (.Call (.Name "range" p) [a, b] [] pos) (fun δ => (fs δ).bind iR2) := ⟨yi_range2 hg hm ha.h h h'⟩
theorem qy_for (cx : Cxo X) (hc : X.calm = true) {iter : Expr} {body : List Stmt} {fit : Ev → R (List D)} {bd : D → Ev → Option Ev} {F : Ev → SR} (hi : QIz κ B X tg iter fit) (hg : ∀ B, QGz κ B X tg bd) (hb : ∀ B, QZs κ B X body F) (h : plI iter = true) : QZ κ B X (.For tg iter body [] pos) (zFor fit bd F) := ⟨y_for cx hc hi.h (fun z => (hg z).h) (fun z => (hb z).h) h⟩
theorem qys_consts {ds : List D} (hh : constsOf es = some ds) : QXs κ B X es (fun _ => .ok ds) := ⟨ys_consts hh⟩
theorem qpig_enum (hg : Gl X "enumerate") (hm : X.mg "enumerate" = none) (h : QX κ B X e f) (hs : noStar e = true) : QIg κ B X (.Tuple tgs kk tpos) (.Call (.Name "enumerate" p) [e] [] pos) (fun δ => (f δ).bind enumD) := ⟨pig_enum hg hm h.h hs⟩
theorem qy_forG (cx : Cxo X) (hc : X.calm = true) {tg iter : Expr} {body : List Stmt} {fit : Ev → R (List D)} {bd : D → Ev → Option Ev} {F : Ev → SR} (hi : QIg κ B X tg iter fit) (hg : ∀ B, QGz κ B X tg bd) (hb : ∀ B, QZs κ B X body F) (h : plI iter = true) : QZ κ B X (.For tg iter body [] pos) (zFor fit bd F) := ⟨y_forG cx hc hi.h (fun z => (hg z).h) (fun z => (hb z).h) h⟩
theorem qpx_band (ha : QXr κ B X a fa) (hb : QXr κ B X b fb) : QX κ B X (.BinOp a .BitAnd b pos) (m2 oBand fa fb) := ⟨px_band ha.h hb.h⟩
theorem qpiz_range3 {a b c : Expr} {fs : Ev → R (List D)} {p pos : Pos} (hg : Gl X "range") (hm : X.mg "range" = none) (ha : QXs κ B X [a, b, c] fs) (h : noStar a = true) (h2 : [b, c].all noStar = true) : QIz κ B X tg (.Call (.Name "range" p) [a, b, c] [] pos) (fun δ => (fs δ).bind iR3) := ⟨piz_range3 hg hm ha.h h h2⟩
theorem qy_putA (cx : Cxo X) (hN : X.N[i]? = some x) (hv : Vis X.env.scope x) (hd : (x == ("__debug__" : Str)) = false) (hcd : (x == ("__classdict__" : Str)) = false) (h : QX κ B X e f) (hk : QX κ B X k fk) (ht : noTup e = true)
    (ha : ∀ v, assign (.Subscript (.Name x pos) k apos) X.env v = (do
      let ov ← holding [v] (eval (.Name x pos) X.env)
      let iv ← holding [v, ov] (eval k X.env)
      standAt apos
      holding [v, ov, iv] (setItem ov iv v)
      release [v, ov, iv] [])) : QZ κ B X (.Assign [.Subscript (.Name x pos) k apos] e pos') (zPut i fk f) := ⟨y_putA cx hN hv hd hcd h.h hk.h ht ha⟩
theorem qpx_neg (ha : QXr κ B X a fa) : QX κ B X (.UnaryOp .USub a pos) (m1 oNeg fa) := ⟨px_neg ha.h⟩
theorem qpx_is (ha : QXr κ B X a fa) (hb : QXr κ B X b fb) (hm : behindInMarks .Is b = false) : QX κ B X (.Compare a [.Is] [b] pos) (m2 (op2 oIs) fa fb) := ⟨px_is ha.h hb.h hm⟩
theorem qpx_isn (ha : QXr κ B X a fa) (hb : QXr κ B X b fb) (hm : behindInMarks .IsNot b = false) : QX κ B X (.Compare a [.IsNot] [b] pos) (m2 (op2 oIsn) fa fb) := ⟨px_isn ha.h hb.h hm⟩
theorem qpxt_is (ha : QXr κ B X a fa) (hb : QXr κ B X b fb) (hm : behindInMarks .Is b = false) : QXt κ B X (.Compare a [.Is] [b] pos) (m2t oIs fa fb) := ⟨pxt_is ha.h hb.h hm⟩
theorem qpxt_isn (ha : QXr κ B X a fa) (hb : QXr κ B X b fb) (hm : behindInMarks .IsNot b = false) : QXt κ B X (.Compare a [.IsNot] [b] pos) (m2t oIsn fa fb) := ⟨pxt_isn ha.h hb.h hm⟩
theorem qpxf_list (hg : Gl X "list") (hm : X.mg "list" = none) (ha : QXr κ B X a fa) (h : noStar a = true) : QXf κ B X (.Call (.Name "list" p) [a] [] pos) (fun δ => (fa δ).bind itemsD) := ⟨pxf_list hg hm ha.h h⟩
theorem qy_fld {o : Expr} {fo : Ev → R D} {n : Str} {c : Nat} {ns : List Str} (C : ClsM κ X.K c ns) (hn : n ∈ ns) (ho : QX κ B X o fo) (hb : attributeBase o n X.env (eval o X.env) = eval o X.env) : QX κ B X (.Attribute o n pos) (m1 (oFld c n) fo) := ⟨y_fld C hn ho.h hb⟩
theorem qy_meth {o : Expr} {fo : Ev → R D} {c : Nat} {ns : List Str} {nn : Nat} {m : List D → R D} (cx : Cxo X) (C : ClsM κ X.K c ns) (M : Mth κ X c x nn m) (ho : QX κ B X o fo) (ha : QXs κ B X (a :: es) fs) (h : (a :: es).all noStar = true) (hn : (a :: es).length + 1 = nn) (hlen : ∀ δ ds, fs δ = .ok ds → ds.length + 1 = nn)
    {pl : Sem Bool} (ht : eval (.Call (.Attribute o x apos) (a :: es) [] pos) X.env = (do
      let ov ← eval o X.env
      standAt apos.atName
      let (f, first) ← holding [ov] (getMethod ov x pl)
      callWith pos f first (backTo pos (starEach (a :: es) X.env)) (backToKw pos (keywordEach [] X.env)))) : QX κ B X (.Call (.Attribute o x apos) (a :: es) [] pos) (mMeth c x m fo fs) := ⟨y_meth cx C M ho.h ha.h h hn hlen ht⟩
theorem qy_make {c : Nat} {nn : Nat} {m : List D → R (List Str × List D)} (cx : Cxo X) (M : Maker κ X x c nn m) (hg : Gl X x) (ha : QXs κ B X (a :: es) fs) (h : (a :: es).all noStar = true) (hlen : ∀ δ ds, fs δ = .ok ds → ds.length + 1 = nn) (hdb : (x == ("__debug__" : Str)) = false) : QX κ B X (.Call (.Name x p) (a :: es) [] pos) (mMake c m fs) := ⟨y_make cx M hg ha.h h hlen hdb⟩
theorem qy_sfld {n : Str} {c : Nat} {ns : List Str} (cx : Cxo X) (C : ClsM κ X.K c ns) (hn : n ∈ ns) {i : Nat} (hN : X.N[i]? = some x) (hv : Vis X.env.scope x) (hd : (x == ("__debug__" : Str)) = false) (hcd : (x == ("__classdict__" : Str)) = false) (h : QX κ B X e f) (hs : noComp e = true) : QZ κ B X (.Assign [.Attribute (.Name x p) n pos'] e pos) (zFld i c n f) := ⟨y_sfld cx C hn hN hv hd hcd h.h hs⟩
theorem qy_min (hc : X.calm = true) (hg : Gl X "min") (hm : X.mg "min" = none) (ha : QXs κ B X [a, b] fs) (h : noStar a = true) (h' : noStar b = true) : QX κ B X (.Call (.Name "min" p) [a, b] [] pos) (mCB oMin fs) := ⟨y_min hc hg hm ha.h h h'⟩
theorem qy_max (hc : X.calm = true) (hg : Gl X "max") (hm : X.mg "max" = none) (ha : QXs κ B X [a, b] fs) (h : noStar a = true) (h' : noStar b = true) : QX κ B X (.Call (.Name "max" p) [a, b] [] pos) (mCB oMax fs) := ⟨y_max hc hg hm ha.h h h'⟩
theorem qy_toint (hg : Gl X "int") (hm : X.mg "int" = none) (ha : QXs κ B X [a] fs) (h : noStar a = true) : QX κ B X (.Call (.Name "int" p) [a] [] pos) (mCB oInt fs) := ⟨y_toint hg hm ha.h h⟩
theorem qpxo_none : QXo κ B X none mNoP := ⟨pxo_none ⟩
theorem qpxo_some (h : QX κ B X a fa) : QXo κ B X (some a) (mP fa) := ⟨pxo_some h.h⟩
theorem qy_sl {lo hi : Option Expr} {fl fh : Ev → R (Option Int)} {p2 : Pos} (ha : QXr κ B X a fa) (hl : QXo κ B X lo fl) (hh : QXo κ B X hi fh) : QX κ B X (.Subscript a (.Slice lo hi none p2) pos) (mSl fa fl fh) := ⟨y_sl ha.h hl.h hh.h⟩
theorem qpx_in (hu : X.A.units + 64 < cLine) (ha : QXr κ B X a fa) (hb : QXr κ B X b fb) (hm : behindInMarks .In b = false) : QX κ B X (.Compare a [.In] [b] pos) (m2 (op2 oIn) fa fb) := ⟨px_in hu ha.h hb.h hm⟩
theorem qpx_nin (hu : X.A.units + 64 < cLine) (ha : QXr κ B X a fa) (hb : QXr κ B X b fb) (hm : behindInMarks .NotIn b = false) : QX κ B X (.Compare a [.NotIn] [b] pos) (m2 (op2 oNin) fa fb) := ⟨px_nin hu ha.h hb.h hm⟩
theorem qpxt_in (hu : X.A.units + 64 < cLine) (ha : QXr κ B X a fa) (hb : QXr κ B X b fb) (hm : behindInMarks .In b = false) : QXt κ B X (.Compare a [.In] [b] pos) (m2t oIn fa fb) := ⟨pxt_in hu ha.h hb.h hm⟩
theorem qpxt_nin (hu : X.A.units + 64 < cLine) (ha : QXr κ B X a fa) (hb : QXr κ B X b fb) (hm : behindInMarks .NotIn b = false) : QXt κ B X (.Compare a [.NotIn] [b] pos) (m2t oNin fa fb) := ⟨pxt_nin hu ha.h hb.h hm⟩
theorem qpx_cat (ha : QXr κ B X a fa) (hb : QXr κ B X b fb) : QX κ B X (.BinOp a .Add b pos) (m2 oCat fa fb) := ⟨px_cat ha.h hb.h⟩
theorem qpx_rep (ha : QXr κ B X a fa) (hb : QXr κ B X b fb) : QX κ B X (.BinOp a .Mult b pos) (m2 oRep fa fb) := ⟨px_rep ha.h hb.h⟩
theorem qy_count {o e : Expr} {fo : Ev → R D} {fs : Ev → R (List D)} {apos : Pos} (ho : QXr κ B X o fo) (ha : QXs κ B X [e] fs) (hs : noStar e = true) (hline : (apos.endLine == pos.line) = true) (hbase : attributeBase o "count" X.env (eval o X.env) = eval o X.env) : QX κ B X (.Call (.Attribute o "count" apos) [e] [] pos) (mBL oCount fo fs) := ⟨y_count ho.h ha.h hs hline hbase⟩
theorem qy_join {o e : Expr} {fo : Ev → R D} {fs : Ev → R (List D)} {apos : Pos} (ho : QXr κ B X o fo) (ha : QXs κ B X [e] fs) (hs : noStar e = true) (hline : (apos.endLine == pos.line) = true) (hbase : attributeBase o "join" X.env (eval o X.env) = eval o X.env) : QX κ B X (.Call (.Attribute o "join" apos) [e] [] pos) (mBS oJoin fo fs) := ⟨y_join ho.h ha.h hs hline hbase⟩
theorem qpz_raise {cpos np p : Pos} {c : Nat} (cx : Cxo X) (hc : X.calm = true) (C : ExcAt κ X x c) (hg : Gl X x) {y : Str} {j : Nat} (hd : (x == ("__debug__" : Str)) = false) : QZ κ B X (.Raise (some (.Call (.Name x np) [.Constant (.str y) j p] [] cpos)) none pos) (fun δ => .exc c δ) := ⟨pz_raise cx hc C hg hd⟩
theorem qphs_nil {cs : List Nat} : QHs κ B X cs [] [] := ⟨phs_nil ⟩
theorem qphs_cons (cx : Cxo X) (hcalm : X.calm = true) (fm : FrmOk X) {cs : List Nat} (xm : ExmM κ X.K cs) {x : Str} {c : Nat} (hx : X.mg x = some (.ref (κ c))) (hin : c ∈ cs) (hg : Gl X x) (hdb : (x == ("__debug__" : Str)) = false) {np : Pos} {b0 : Stmt} {suite : List Stmt} {rest : List ExceptHandler} {F : Ev → SR} {mh : List (Nat × (Ev → SR))}
    (hF : ∀ ea, QZs κ B (Mk X ea) (b0 :: suite) F) (hr : QHs κ B X cs rest mh) : QHs κ B X cs (.ExceptHandler (some (.Name x np)) none (b0 :: suite) pos :: rest) ((c, F) :: mh) := ⟨phs_cons cx hcalm fm xm hx hin hg hdb (fun z => (hF z).h) hr.h⟩
theorem qpz_try (cx : Cxo X) (fm : FrmOk X) {cs : List Nat} {body : List Stmt} {h0 : ExceptHandler} {hs : List ExceptHandler} {F : Ev → SR} {mh : List (Nat × (Ev → SR))} (hb : QZs κ B X body F) (hh : QHs κ B X cs (h0 :: hs) mh) : QZ κ B X (.Try body (h0 :: hs) [] [] pos) (tryZ cs F mh) := ⟨pz_try cx fm hb.h hh.h⟩
end
theorem qfn_mirror {P : Program} {w : World} {K : PySem.W.Frag} {mg : Str → Option Value} {base : Heap} {κ : Nat → Addr} {x qual : Str} {st : Stmt} {f : Addr} {fd : FuncData} {N ps : List Str} {k : Nat} {F : Ev → SR}
    (Fn : Fun K x qual st f fd) (S : FnScope N ps (defScope st))
    (hb : ∀ (X : Cx) (B : Gd), Cxo X → X.calm = true → X.prog = P → X.w = w → X.K = K → X.mg = mg → X.base = base → X.N = N → X.env.scope = defScope st → (∀ y, X.fn y = true) → Room k X.A → FrmOk X → QZs κ B X (defBody st) F) :
    FnOk P w K mg base (CXR P w) (k + 1) f fd ps (spM K κ ps.length fun ds => finR (F (startE N.length ds))) := fn_mirror Fn S fun X B a1 a2 a3 a4 a5 a6 a7 a8 a9 a10 a11 a12 => (hb X B a1 a2 a3 a4 a5 a6 a7 a8 a9 a10 a11 a12).h
theorem qfn_init {P : Program} {w : World} {K : PySem.W.Frag} {mg : Str → Option Value} {base : Heap} {κ : Nat → Addr} {x qual : Str} {st : Stmt} {f : Addr} {fd : FuncData} {N ps : List Str} {k c : Nat} {F : Ev → SR}
    (Fn : Fun K x qual st f fd) (S : FnScope N ps (defScope st))
    (hb : ∀ (X : Cx) (B : Gd), Cxo X → X.calm = true → X.prog = P → X.w = w → X.K = K → X.mg = mg → X.base = base → X.N = N → X.env.scope = defScope st → (∀ y, X.fn y = true) → Room k X.A → FrmOk X → QZs κ B X (defBody st) F) :
    FnOk P w K mg base (CXR P w) (k + 1) f fd ps (spI K κ c ps.length fun ds => finI c (F (startI N.length c ds))) := fn_init Fn S fun X B a1 a2 a3 a4 a5 a6 a7 a8 a9 a10 a11 a12 => (hb X B a1 a2 a3 a4 a5 a6 a7 a8 a9 a10 a11 a12).h
theorem mlenS {fs : Ev → R (List D)} {n : Nat} (h : ∀ δ ds, fs δ = .ok ds → ds.length = n) : ∀ (δ : Ev) (ds : List D), fs δ = .ok ds → ds.length + 1 = n + 1 := fun δ ds e => by rw [h δ ds e]
end L3

-- part L3v.lean
set_option Elab.async false
set_option linter.all false
set_option maxRecDepth 100000
namespace L3
open PySem PySem.Spec PyProof.Rows L2
/-! ## sealed: comprehensions, defs that hand back lists of their own -/
structure QIcz (κ : Nat → Addr) (B : Gd) (X : Cx) (tg e : Expr) (f : Ev → R (List D)) : Prop where
  h : PIcz κ B X tg e f
structure QTs (κ : Nat → Addr) (B : Gd) (X : Cx) (e : List Expr) (f : Ev → R Bool) : Prop where
  h : PTs κ B X e f
structure QR {α : Type} (κ : Nat → Addr) (B : Gd) (X : Cx) (e : Expr) (ρ : RRel α) (f : Ev → R α) : Prop where
  h : PR κ B X e ρ f
structure QZr {α : Type} (κ : Nat → Addr) (B : Gd) (X : Cx) (st : List Stmt) (ρ : RRel α) (F : Ev → R α) : Prop where
  h : PZr κ B X st ρ F
section
variable {κ : Nat → Addr} {B : Gd} {X : Cx} {a b c e tg iter elt : Expr} {es ifs : List Expr} {f : Ev → R D} {t : Ev → R Bool} {fs fl fit : Ev → R (List D)} {pos p px : Pos} {x : Str} {m : List D → R (List D)} {n i : Nat} {sc : Scope}
theorem qpicz_seq (h : QX κ B X e f) : QIcz κ B X tg e (fun δ => (f δ).bind itemsD) := ⟨picz_seq h.h⟩
theorem qpicz_range1 (hg : Gl X "range") (hm : X.mg "range" = none) (ha : QXs κ B X [a] fs) (h : noStar a = true) : QIcz κ B X tg (.Call (.Name "range" p) [a] [] pos) (fun δ => (fs δ).bind iR1) := ⟨picz_range1 hg hm ha.h h⟩
theorem qpicz_range2 (hg : Gl X "range") (hm : X.mg "range" = none) (ha : QXs κ B X [a, b] fs) (h : noStar a = true) (h' : noStar b = true) : QIcz κ B X tg (.Call (.Name "range" p) [a, b] [] pos) (fun δ => (fs δ).bind iR2) := ⟨picz_range2 hg hm ha.h h h'⟩
theorem qpts_nil : QTs κ B X [] (fun _ => .ok true) := ⟨pts_nil⟩
theorem qpts_one (h : QXt κ B X c t) : QTs κ B X [c] t := ⟨pts_one h.h⟩
theorem qcomp_by (hc : X.calm = true) (co : CompOk X sc x) (hi : QIcz κ B X (.Name x px) iter fit) (ht : ∀ X' B', CmpIs X sc x X' → QTs κ B' X' ifs t) (he : ∀ X' B', CmpIs X sc x X' → QX κ B' X' elt f)
    (hs : plI iter = true) : QXf κ B X (.ListComp elt [⟨.Name x px, iter, ifs, 0⟩] sc pos) (mComp fit t f) := ⟨comp_by hc co hi.h (fun X' B' h => (ht X' B' h).h) (fun X' B' h => (he X' B' h).h) hs⟩
theorem qpxf_call (c : Cxo X) (C : CalR κ X x n ρ1 m) (hn : (a :: es).length = n) (hg : Gl X x) (ha : QXs κ B X (a :: es) fs) (hdb : (x == ("__debug__" : Str)) = false) (h : (a :: es).all noStar = true)
    (hlen : ∀ δ ds, fs δ = .ok ds → ds.length = n) : QXf κ B X (.Call (.Name x p) (a :: es) [] pos) (fun δ => (fs δ).bind m) := ⟨pxf_call c C hn hg ha.h hdb h hlen⟩
theorem qpr_of (h : QXf κ B X e fl) : QR κ B X e ρ1 fl := ⟨pr_of h.h⟩
theorem qpr_var (i : Nat) {x : Str} (hN : X.N[i]? = some x) (hv : Vis X.env.scope x) (hd : (x == ("__debug__" : Str)) = false) (hcd : (x == ("__classdict__" : Str)) = false) : QR κ B X (.Name x pos) ρ1 (mVarO i) := ⟨pr_var i hN hv hd hcd⟩
end
section
variable {α : Type} {ρ : RRel α} {κ : Nat → Addr} {B : Gd} {X : Cx} {e : Expr} {f : Ev → R α} {pos : Pos}
theorem qpzr_ret (cx : Cxo X) (h : QR κ B X e ρ f) : QZr κ B X [.Return (some e) pos] ρ f := ⟨pzr_ret cx h.h⟩
theorem qpzr_cons {st : Stmt} {rest : List Stmt} {F1 : Ev → SR} {F2 : Ev → R α} (h1 : QZ κ B X st F1) (h2 : QZr κ B X rest ρ F2) : QZr κ B X (st :: rest) ρ (zSeqR F1 F2) := ⟨pzr_cons h1.h h2.h⟩
theorem qpzr_frz (i : Nat) {sts : List Stmt} {F : Ev → R α} (h : QZr κ B X sts ρ F) : QZr κ B X sts ρ (fun δ => F (frzE i δ)) := ⟨pzr_frz i h.h⟩
end
theorem qfn_mirrorR {α : Type} {ρ : RRel α} {P : Program} {w : World} {K : PySem.W.Frag} {mg : Str → Option Value} {base : Heap} {κ : Nat → Addr} {x qual : Str} {st : Stmt} {f : Addr} {fd : FuncData} {N ps : List Str} {k : Nat} {F : Ev → R α}
    (Fn : Fun K x qual st f fd) (S : FnScope N ps (defScope st))
    (hb : ∀ (X : Cx) (B : Gd), Cxo X → X.calm = true → X.prog = P → X.w = w → X.K = K → X.mg = mg → X.base = base → X.N = N → X.env.scope = defScope st → (∀ y, X.fn y = true) → Room k X.A → FrmOk X → QZr κ B X (defBody st) ρ F) :
    FnOk P w K mg base (CXR P w) (k + 1) f fd ps (spR K κ ps.length ρ fun ds => noE (F (startE N.length ds))) := fn_mirrorR Fn S fun X B a1 a2 a3 a4 a5 a6 a7 a8 a9 a10 a11 a12 => (hb X B a1 a2 a3 a4 a5 a6 a7 a8 a9 a10 a11 a12).h
end L3

-- part L3m.lean
set_option linter.all false
namespace L3
open L2
/-! ## reckoning with mirrors -/
theorem zSeq_next {F1 F2 : Ev → SR} {δ δ' : Ev} (h : F1 δ = .next δ') : zSeq F1 F2 δ = F2 δ' := by unfold zSeq; rw [h]
theorem zSeq_ret {F1 F2 : Ev → SR} {δ : Ev} {d : D} (h : F1 δ = .ret d) : zSeq F1 F2 δ = .ret d := by unfold zSeq; rw [h]
theorem zSeq_exc {F1 F2 : Ev → SR} {δ δ' : Ev} {c : Nat} (h : F1 δ = .exc c δ') : zSeq F1 F2 δ = .exc c δ' := by unfold zSeq; rw [h]
theorem zIf_no {t : Ev → R Bool} {F1 F2 : Ev → SR} {δ : Ev} (h : t δ = .ok false) : zIf t F1 F2 δ = F2 δ := by unfold zIf; rw [h]; rfl
theorem zIf_yes {t : Ev → R Bool} {F1 F2 : Ev → SR} {δ : Ev} (h : t δ = .ok true) : zIf t F1 F2 δ = F1 δ := by unfold zIf; rw [h]; rfl
@[simp] theorem finR_next (δ : Ev) : finR (.next δ) = .ok .non := rfl
@[simp] theorem finR_ret (d : D) : finR (.ret d) = .ok d := rfl
@[simp] theorem finR_exc (c : Nat) (δ : Ev) : finR (.exc c δ) = .exc c := rfl
@[simp] theorem oAdd_int (i j : Int) : oAdd (.int i) (.int j) = .ok (.int (i + j)) := rfl
@[simp] theorem oSub_int (i j : Int) : oSub (.int i) (.int j) = .ok (.int (i - j)) := rfl
theorem oMod_int (i : Int) {j : Int} (h : 0 < j) : oMod (.int i) (.int j) = .ok (.int (i % j)) := by simp [oMod, oI, h]
theorem oDiv_int (i : Int) {j : Int} (h : 0 < j) (h2 : j < 1073741824) : oDiv (.int i) (.int j) = .ok (.int (i / j)) := by simp [oDiv, oI, h, h2]
theorem oMul_l {i : Int} (j : Int) (h : -18446744073709551616 < i) (h2 : i < 18446744073709551616) : oMul (.int i) (.int j) = .ok (.int (i * j)) := by simp [oMul, oI, h, h2]
theorem oMul_r (i : Int) {j : Int} (h : -18446744073709551616 < j) (h2 : j < 18446744073709551616) : oMul (.int i) (.int j) = .ok (.int (i * j)) := by simp [oMul, oI, h, h2]
@[simp] theorem oLt_int (i j : Int) : oLt (.int i) (.int j) = .ok (decide (i < j)) := rfl
@[simp] theorem oLe_int (i j : Int) : oLe (.int i) (.int j) = .ok (decide (i ≤ j)) := rfl
@[simp] theorem oGt_int (i j : Int) : oGt (.int i) (.int j) = .ok (decide (j < i)) := rfl
@[simp] theorem oGe_int (i j : Int) : oGe (.int i) (.int j) = .ok (decide (j ≤ i)) := rfl
@[simp] theorem op2_ok {op : D → D → R Bool} {x y : D} {b : Bool} (h : op x y = .ok b) : op2 op x y = .ok (.bl b) := by unfold op2; rw [h]; rfl
@[simp] theorem blR_ok (b : Bool) : blR (.ok b) = .ok (.bl b) := rfl
@[simp] theorem boolD_bl (b : Bool) : boolD (.bl b) = .ok b := rfl
@[simp] theorem tru_bl (b : Bool) : tru (.bl b) = .ok b := rfl
@[simp] theorem tru_int (i : Int) : tru (.int i) = .ok (i != 0) := rfl
@[simp] theorem tru_lst (ds : List D) : tru (.lst ds) = .ok (!ds.isEmpty) := rfl
@[simp] theorem tru_tup (ds : List D) : tru (.tup ds) = .ok (!ds.isEmpty) := rfl
@[simp] theorem oLen_lst (ds : List D) : oLen (.lst ds) = .ok (.int ds.length) := rfl
@[simp] theorem oLen_tup (ds : List D) : oLen (.tup ds) = .ok (.int ds.length) := rfl
theorem lim_ok {ds : List D} (h : ds.length ≤ 1000000) : lim (.ok ds) = .ok ds := by simp [lim, h]
theorem oIx_lst {ds : List D} {i : Int} {d : D} (h : atI ds i = some d) : oIx (.lst ds) (.int i) = .ok d := by simp [oIx, h]
theorem oIx_tup {ds : List D} {i : Int} {d : D} (h : atI ds i = some d) : oIx (.tup ds) (.int i) = .ok d := by simp [oIx, h]
theorem atI_some {α : Type} {l : List α} {k : Nat} {d : α} (h : l[k]? = some d) : atI l (k : Int) = some d := atI_nat h
section
variable (op : D → D → R D) (opb : D → D → R Bool) (o1 : D → R D) (f g h : Ev → R D) (fs gs : Ev → R (List D)) (t u : Ev → R Bool) (m : List D → R D) (δ : Ev) (F1 F2 : Ev → SR)
@[simp] theorem e_mC (d : D) : mC d δ = .ok d := rfl
@[simp] theorem e_mVar (i : Nat) : mVar i δ = (match δ[i]? with | some (some (.sh d)) => .ok d | _ => .stuck) := rfl
@[simp] theorem e_mVarR (i : Nat) : mVarR i δ = (match δ[i]? with | some (some (.sh d)) => .ok d | some (some (.ow ds)) => .ok (.lst ds) | _ => .stuck) := rfl
@[simp] theorem e_m2 : m2 op f g δ = (f δ).bind fun x => (g δ).bind fun y => op x y := rfl
@[simp] theorem e_m2t : m2t opb f g δ = (f δ).bind fun x => (g δ).bind fun y => opb x y := rfl
@[simp] theorem e_m1 : m1 o1 f δ = (f δ).bind o1 := rfl
@[simp] theorem e_mNil : mNil δ = .ok [] := rfl
@[simp] theorem e_mCons : mCons f fs δ = (f δ).bind fun x => (fs δ).bind fun xs => .ok (x :: xs) := rfl
@[simp] theorem e_mCall : mCall m fs δ = (fs δ).bind m := rfl
@[simp] theorem e_mT : mT f δ = (f δ).bind tru := rfl
@[simp] theorem e_mNot : mNot t δ = (t δ).bind fun k => .ok (!k) := rfl
@[simp] theorem e_mAnd : mAnd t u δ = (t δ).bind fun k => if k then u δ else .ok false := rfl
@[simp] theorem e_mOr : mOr t u δ = (t δ).bind fun k => if k then .ok true else u δ := rfl
@[simp] theorem e_mAndV : mAndV f g δ = (f δ).bind fun x => (boolD x).bind fun k => if k then g δ else .ok (.bl false) := rfl
@[simp] theorem e_mOrV : mOrV f g δ = (f δ).bind fun x => (boolD x).bind fun k => if k then .ok (.bl true) else g δ := rfl
@[simp] theorem e_mNotV : mNotV f δ = (f δ).bind fun x => (boolD x).bind fun k => .ok (.bl (!k)) := rfl
@[simp] theorem e_mIf : mIf t f g δ = (t δ).bind fun k => if k then f δ else g δ := rfl
@[simp] theorem e_mTup : mTup fs δ = (fs δ).bind fun xs => if xs.length ≤ 1000000 then .ok (.tup xs) else .stuck := rfl
@[simp] theorem e_mLst : mLst fs δ = (fs δ).bind fun xs => if xs.length ≤ 1000000 then .ok (.lst xs) else .stuck := rfl
@[simp] theorem e_zSet (i : Nat) : zSet i f δ = bS (f δ) δ fun d => .next (δ.set i (some (.sh d))) := rfl
@[simp] theorem e_zIf : zIf t F1 F2 δ = bS (t δ) δ fun k => if k then F1 δ else F2 δ := rfl
@[simp] theorem e_zRet : zRet f δ = bS (f δ) δ .ret := rfl
@[simp] theorem e_zDrop : zDrop f δ = bS (f δ) δ fun _ => .next δ := rfl
@[simp] theorem e_zOwn (i : Nat) : zOwn i fs δ = bS (fs δ) δ fun ds => .next (δ.set i (some (.ow ds))) := rfl
@[simp] theorem e_bN (i : Nat) (d : D) : bN i d δ = some (δ.set i (some (.sh d))) := rfl
@[simp] theorem e_zAsg (bd : D → Ev → Option Ev) : zAsg bd f δ = bS (f δ) δ fun d => match bd d δ with | some δ' => .next δ' | none => .stuck := rfl
@[simp] theorem op2_int_eq (i j : Int) : op2 oEq (.int i) (.int j) = .ok (.bl (i == j)) := rfl
@[simp] theorem op2_int_ne (i j : Int) : op2 oNe (.int i) (.int j) = .ok (.bl (!(i == j))) := rfl
@[simp] theorem op2_int_lt (i j : Int) : op2 oLt (.int i) (.int j) = .ok (.bl (decide (i < j))) := rfl
@[simp] theorem op2_int_le (i j : Int) : op2 oLe (.int i) (.int j) = .ok (.bl (decide (i ≤ j))) := rfl
@[simp] theorem op2_int_gt (i j : Int) : op2 oGt (.int i) (.int j) = .ok (.bl (decide (j < i))) := rfl
@[simp] theorem op2_int_ge (i j : Int) : op2 oGe (.int i) (.int j) = .ok (.bl (decide (j ≤ i))) := rfl
end
/-- a loop by what holds between two turns -/
theorem loopZ_inv {bd : D → Ev → Option Ev} {F : Ev → SR} (P : Nat → Ev → Prop) : ∀ (ds : List D) (n : Nat) (δ : Ev), P n δ → (∀ k d δ, ds[k]? = some d → P (n + k) δ → ∃ δ1 δ2, bd d δ = some δ1 ∧ (F δ1 = .next δ2 ∨ F δ1 = .cont δ2) ∧ P (n + k + 1) δ2) →
    ∃ δ', loopZ bd F ds δ = .next δ' ∧ P (n + ds.length) δ'
  | [], n, δ, h0, _ => ⟨δ, rfl, h0⟩
  | d :: ds, n, δ, h0, hs => by
    obtain ⟨δ1, δ2, e1, e2, p2⟩ := hs 0 d δ rfl h0
    obtain ⟨δ', e3, p3⟩ := loopZ_inv P ds (n + 1) δ2 p2 fun k d' δ'' e p => by
      have := hs (k + 1) d' δ'' (by simpa using e) (by rw [show n + (k + 1) = n + 1 + k by omega]; exact p)
      rw [show n + (k + 1) + 1 = n + 1 + k + 1 by omega] at this
      exact this
    refine ⟨δ', ?_, by rw [List.length_cons, show n + (ds.length + 1) = n + 1 + ds.length by omega]; exact p3⟩
    unfold loopZ
    simp only [e1]
    rcases e2 with e2 | e2 <;> simp only [e2, e3]
theorem zFor_next {fit : Ev → R (List D)} {bd : D → Ev → Option Ev} {F : Ev → SR} {δ : Ev} {ds : List D} (P : Nat → Ev → Prop) (h : fit δ = .ok ds) (h0 : P 0 δ) (hs : ∀ k d δ, ds[k]? = some d → P k δ → ∃ δ1 δ2, bd d δ = some δ1 ∧ (F δ1 = .next δ2 ∨ F δ1 = .cont δ2) ∧ P (k + 1) δ2) :
    ∃ δ', zFor fit bd F δ = .next δ' ∧ P ds.length δ' := by
  obtain ⟨δ', e, p⟩ := loopZ_inv P ds 0 δ h0 fun k d δ e q => by simpa using hs k d δ e (by simpa using q)
  exact ⟨δ', by unfold zFor; rw [h]; exact e, by simpa using p⟩
theorem rngD_get {lo hi : Int} {k : Nat} {d : D} (h : (rngD lo hi)[k]? = some d) : d = .int (lo + k) ∧ lo + k < hi := by
  unfold rngD at h
  rw [List.getElem?_map] at h
  cases q : (List.range (hi - lo).toNat)[k]? with
  | none => rw [q] at h; cases h
  | some j =>
    rw [q] at h
    have hk := (List.getElem?_eq_some_iff.mp q).1
    rw [List.length_range] at hk
    rw [List.getElem?_range hk] at q
    cases q
    cases h
    exact ⟨rfl, by omega⟩
theorem rngD_length (lo hi : Int) : (rngD lo hi).length = (hi - lo).toNat := by simp [rngD]
theorem whileZ_false {t : Ev → R Bool} {F : Ev → SR} {n : Nat} {δ : Ev} (h : t δ = .ok false) : whileZ t F (n + 1) δ = .next δ := by simp [whileZ, h]
theorem whileZ_true {t : Ev → R Bool} {F : Ev → SR} {n : Nat} {δ δ' : Ev} (h : t δ = .ok true) (h2 : F δ = .next δ') : whileZ t F (n + 1) δ = whileZ t F n δ' := by simp [whileZ, h, h2]
theorem whileZ_inv {t : Ev → R Bool} {F : Ev → SR} (P : Nat → Ev → Prop) (step : ∀ k δ, P k δ → t δ = .ok false ∨ (t δ = .ok true ∧ ∃ δ' k', k' < k ∧ F δ = .next δ' ∧ P k' δ')) : ∀ (n k : Nat) (δ : Ev), k < n → P k δ → ∃ δ' k', whileZ t F n δ = .next δ' ∧ P k' δ' ∧ t δ' = .ok false
  | 0, _, _, h, _ => absurd h (Nat.not_lt_zero _)
  | n + 1, k, δ, h, p => by
    rcases step k δ p with c | ⟨c, δ', k', h1, h2, h3⟩
    · exact ⟨δ, k, whileZ_false c, p, c⟩
    · obtain ⟨δ2, k2, e, q⟩ := whileZ_inv P step n k' δ' (by omega) h3
      exact ⟨δ2, k2, by rw [whileZ_true c h2]; exact e, q⟩
/-- an item of the script -/
def cell (ns : List Int) (k : Nat) : Int := ns.getD k 0
end L3

-- part L3n.lean
set_option linter.all false
namespace L3
open PySem L2
/-! ## rows of ints -/
abbrev rowD (r : List Int) : D := .lst (r.map D.int)
abbrev rowsD (rs : List (List Int)) : D := .lst (rs.map rowD)
theorem plainDs_ints (r : List Int) : plainDs (r.map D.int) = true := by
  induction r with
  | nil => rfl
  | cons a r ih => simp [plainDs, plainD, ih]
theorem lay_ints (r : List Int) : PyData.canLayAll0 (toPs (r.map D.int)) = true := by
  induction r with
  | nil => rfl
  | cons a r ih => simp [toPs, toP, PyData.canLayAll0, PyData.canLay0, ih]
theorem depth_ints (r : List Int) : PyData.depthAll (toPs (r.map D.int)) = 0 := by
  induction r with
  | nil => rfl
  | cons a r ih => simp [toPs, toP, PyData.depthAll, PyData.depth, ih]
theorem plainDs_rows (rs : List (List Int)) : plainDs (rs.map rowD) = true := by
  induction rs with
  | nil => rfl
  | cons a r ih =>
    show (plainD (rowD a) && plainDs (r.map rowD)) = true
    rw [ih]
    simp [rowD, plainD, plainDs_ints]
theorem lay_rows (rs : List (List Int)) : PyData.canLayAll0 (toPs (rs.map rowD)) = true := by
  induction rs with
  | nil => rfl
  | cons a r ih =>
    show (PyData.canLay0 (toP (rowD a)) && PyData.canLayAll0 (toPs (r.map rowD))) = true
    rw [ih]
    simp [rowD, toP, PyData.canLay0, lay_ints]
theorem depth_rows (rs : List (List Int)) : PyData.depthAll (toPs (rs.map rowD)) ≤ 1 := by
  induction rs with
  | nil => exact Nat.zero_le _
  | cons a r ih =>
    show max (PyData.depth (toP (rowD a))) (PyData.depthAll (toPs (r.map rowD))) ≤ 1
    simp only [rowD, toP, PyData.depth, depth_ints]
    omega
theorem okP_row (r : List Int) : okP (rowD r) = true := by
  unfold okP SeqAt.shaped
  simp [rowD, plainD, plainDs_ints, toP, PyData.canLay0, lay_ints, PyData.depth, depth_ints]
theorem okP_rows (rs : List (List Int)) : okP (rowsD rs) = true := by
  have := depth_rows rs
  unfold okP SeqAt.shaped
  simp only [rowsD, plainD, plainDs_rows, toP, PyData.canLay0, lay_rows, PyData.depth, Bool.true_and, decide_eq_true_eq]
  omega
theorem eqD_nil (ds : List D) : eqD (.lst ds) (.lst []) = ds.isEmpty := by
  unfold eqD
  cases ds <;> simp [toP, toPs, PyData.eqv, PyData.eqvAll]
@[simp] theorem oEq_row_nil (r : List Int) : oEq (rowD r) (.lst []) = .ok r.isEmpty := by
  unfold oEq
  rw [okP_row, show okP (.lst []) = true from okP_row [], eqD_nil]
  simp
@[simp] theorem oNe_row_nil (r : List Int) : oNe (rowD r) (.lst []) = .ok (!r.isEmpty) := by
  unfold oNe
  rw [okP_row, show okP (.lst []) = true from okP_row [], eqD_nil]
  simp
@[simp] theorem oEq_rows_nil (rs : List (List Int)) : oEq (rowsD rs) (.lst []) = .ok rs.isEmpty := by
  unfold oEq
  rw [okP_rows, show okP (.lst []) = true from okP_row [], eqD_nil]
  simp
theorem atI_neg1 {α : Type} (l : List α) : atI l (-1) = l.getLast? := by
  cases l with
  | nil => rfl
  | cons a l =>
    have : ixN (l.length + 1) (-1) = some l.length := by
      unfold ixN
      rw [if_neg (by omega), if_pos (by omega)]
      congr 1
      omega
    unfold atI
    simp only [List.length_cons, this, Option.bind_some]
    rw [List.getLast?_eq_getElem?]
    simp
theorem oIx_last {ds : List D} {d : D} (h : ds.getLast? = some d) : oIx (.lst ds) (.int (-1)) = .ok d := oIx_lst (by rw [atI_neg1, h])
theorem inB_row (d : Int) (r : List Int) : inB (.int d) (rowD r) = .ok (decide (d ∈ r)) := by
  have hf : (r.map D.int).all flatD = true := by simp [flatD]
  unfold inB
  simp only [rowD, hf]
  simp only [flatD, Bool.and_self, if_true]
  congr 1
  rw [Bool.eq_iff_iff, List.any_map, List.any_eq_true, decide_eq_true_eq]
  constructor
  · rintro ⟨x, hx, e⟩
    have e' : x = d := by simpa [eqF] using e
    exact e' ▸ hx
  · intro h
    exact ⟨d, h, by simp [eqF]⟩
@[simp] theorem oIn_row (d : Int) (r : List Int) : oIn (.int d) (rowD r) = .ok (decide (d ∈ r)) := inB_row d r
@[simp] theorem oNin_row (d : Int) (r : List Int) : oNin (.int d) (rowD r) = .ok (!decide (d ∈ r)) := by unfold oNin; rw [inB_row]; rfl
theorem oIx_rows {rs : List (List Int)} {k : Nat} {r : List Int} (h : rs[k]? = some r) : oIx (rowsD rs) (.int (k : Int)) = .ok (rowD r) := oIx_lst (atI_some (by simp [h]))
theorem oIx_row {r : List Int} {k : Nat} {d : Int} (h : r[k]? = some d) : oIx (rowD r) (.int (k : Int)) = .ok (.int d) := oIx_lst (atI_some (by simp [h]))
section
variable (f : Ev → R D) (fl fh : Ev → R (Option Int)) (δ : Ev) (fs fit : Ev → R (List D)) (t : Ev → R Bool)
@[simp] theorem e_mSl : mSl f fl fh δ = (f δ).bind fun x => (fl δ).bind fun l => (fh δ).bind fun u => oSl x l u := rfl
@[simp] theorem e_mP : mP f δ = (f δ).bind fun d => match d with | .int i => .ok (some i) | _ => .stuck := rfl
@[simp] theorem e_mNoP : mNoP δ = .ok none := rfl
@[simp] theorem e_mL : mL fs δ = (fs δ).bind fun ds => .ok (.lst ds) := rfl
@[simp] theorem e_mComp : mComp fit t f δ = (fit δ).bind fun ds => if ds.length ≤ 1000000 then noX (compZ t f (shE δ) ds) else .stuck := rfl
@[simp] theorem e_zApp (i : Nat) : zApp i f δ = (match δ[i]? with | some (some (.ow ds)) => bS (f δ) δ fun d => if ds.length < 1000000 then .next (δ.set i (some (.ow (ds ++ [d])))) else .stuck | _ => .stuck) := rfl
@[simp] theorem oNeg_int (i : Int) : oNeg (.int i) = .ok (.int (-i)) := rfl
@[simp] theorem oIs_non (x : D) : oIs x .non = .ok (isNon x) := rfl
@[simp] theorem oIsn_non (x : D) : oIsn x .non = .ok (!isNon x) := rfl
@[simp] theorem itemsD_lst (ds : List D) : itemsD (.lst ds) = .ok ds := rfl
@[simp] theorem oBand_int (i j : Int) : oBand (.int i) (.int j) = .ok (.int (Builtin.bitAnd i j)) := rfl
end
theorem oCat_ok {xs ys : List D} (h : xs.length + ys.length ≤ 1000000) : oCat (.lst xs) (.lst ys) = .ok (.lst (xs ++ ys)) := by simp [oCat, h]
theorem sIx_nat {n : Nat} {d k : Nat} (h : k ≤ n) : HT.sIx n d (some (k : Int)) = k := by
  rw [HT.sIx_nat]
  exact Nat.min_eq_left h
theorem cutD_nat {α : Type} (xs : List α) {a b : Nat} (h : a ≤ b) (h2 : b ≤ xs.length) : cutD xs (some (a : Int)) (some (b : Int)) = (xs.drop a).take (b - a) := by
  unfold cutD
  rw [sIx_nat (k := a) (by omega), sIx_nat (k := b) h2]

theorem iR1_nat {n : Nat} (h : n ≤ 1000000) : iR1 [.int (n : Int)] = .ok (rngD 0 n) := by
  simp only [iR1]
  exact if_pos ⟨by omega, by omega⟩
theorem iR2_ok {i j : Int} (h1 : -1000000 ≤ i) (h2 : i ≤ 1000000) (h3 : -1000000 ≤ j) (h4 : j ≤ 1000000) : iR2 [.int i, .int j] = .ok (rngD i j) := by
  simp only [iR2]
  exact if_pos ⟨⟨by omega, by omega⟩, by omega, by omega⟩
theorem iR3_ok {i j : Int} (h1 : -1000000 ≤ i) (h2 : i ≤ 1000000) (h3 : -1000000 ≤ j) (h4 : j ≤ 1000000) : iR3 [.int i, .int j, .int (-1)] = .ok (rngDn i j) := by
  simp only [iR3]
  exact if_pos ⟨trivial, ⟨by omega, by omega⟩, by omega, by omega⟩
theorem rngDn_get {lo hi : Int} {k : Nat} {d : D} (h : (rngDn lo hi)[k]? = some d) : d = .int (lo - k) ∧ hi < lo - k := by
  unfold rngDn at h
  rw [List.getElem?_map] at h
  cases q : (List.range (lo - hi).toNat)[k]? with
  | none => rw [q] at h; cases h
  | some j =>
    rw [q] at h
    have hk := (List.getElem?_eq_some_iff.mp q).1
    rw [List.length_range] at hk
    rw [List.getElem?_range hk] at q
    cases q
    cases h
    exact ⟨rfl, by omega⟩
theorem len_ok {n : Nat} (h : n ≤ 1000) : n ≤ 1000000 := by omega

theorem fit1_len {δ : Ev} {i n : Nat} {ds : List D} (h : mVar i δ = .ok (.lst ds)) (hn : ds.length = n) (hl : n ≤ 1000000) : (fun δ => ((mCons (m1 oLen (mVar i)) mNil) δ).bind iR1) δ = .ok (rngD 0 n) := by
  have e : (mCons (m1 oLen (mVar i)) mNil) δ = .ok [.int (n : Int)] := by
    unfold mCons m1
    rw [h, R.bind_ok, oLen_lst, hn]
    rfl
  show ((mCons (m1 oLen (mVar i)) mNil) δ).bind iR1 = _
  rw [e, R.bind_ok, iR1_nat hl]
theorem fit1_var {δ : Ev} {i n : Nat} (h : mVar i δ = .ok (.int (n : Int))) (hl : n ≤ 1000000) : (fun δ => ((mCons (mVar i) mNil) δ).bind iR1) δ = .ok (rngD 0 n) := by
  have e : (mCons (mVar i) mNil) δ = .ok [.int (n : Int)] := by
    unfold mCons
    rw [h, R.bind_ok]
    rfl
  show ((mCons (mVar i) mNil) δ).bind iR1 = _
  rw [e, R.bind_ok, iR1_nat hl]

theorem fit1 {δ : Ev} {fs : Ev → R (List D)} {n : Nat} (h : fs δ = .ok [.int (n : Int)]) (hl : n ≤ 1000000) : (fun δ => (fs δ).bind iR1) δ = .ok (rngD 0 n) := by
  show (fs δ).bind iR1 = _
  rw [h, R.bind_ok, iR1_nat hl]
theorem fit2 {δ : Ev} {fs : Ev → R (List D)} {i j : Int} (h : fs δ = .ok [.int i, .int j]) (h1 : -1000000 ≤ i) (h2 : i ≤ 1000000) (h3 : -1000000 ≤ j) (h4 : j ≤ 1000000) : (fun δ => (fs δ).bind iR2) δ = .ok (rngD i j) := by
  show (fs δ).bind iR2 = _
  rw [h, R.bind_ok, iR2_ok h1 h2 h3 h4]
theorem fit3 {δ : Ev} {fs : Ev → R (List D)} {i j : Int} (h : fs δ = .ok [.int i, .int j, .int (-1)]) (h1 : -1000000 ≤ i) (h2 : i ≤ 1000000) (h3 : -1000000 ≤ j) (h4 : j ≤ 1000000) : (fun δ => (fs δ).bind iR3) δ = .ok (rngDn i j) := by
  show (fs δ).bind iR3 = _
  rw [h, R.bind_ok, iR3_ok h1 h2 h3 h4]
end L3

-- part K07_gen.lean
set_option Elab.async false
set_option linter.all false
set_option maxRecDepth 100000
set_option maxHeartbeats 400000
namespace Lw
open PySem PySem.Spec PyProof.Rows L2 L3
/-! ### the text by places -/
def top (i : Nat) : Stmt := PySem.Challenge.pw_inkdays_k07_pieces_of_a_form.main.body.getD i (.Pass ⟨0, 0, 0, 0⟩)
def c_PLACES : D := .tup [D.str [60, 100, 62], D.str [60, 109, 62], D.str [60, 121, 62], D.str [60, 89, 62], D.str [60, 110, 62], D.str [60, 119, 62]]
def c_PLAIN_SIGNS : D := .str [97, 98, 99, 100, 101, 102, 103, 104, 105, 106, 107, 108, 109, 110, 111, 112, 113, 114, 115, 116, 117, 118, 119, 120, 121, 122, 48, 49, 50, 51, 52, 53, 54, 55, 56, 57, 32, 46, 47, 45, 44]
def c_MOST_LACKING_PARTS : D := .int 3
def c_LONGEST_FORM : D := .int 30
/-! ### law_draws -/
def L_law_draws_1 : Ev → SR := zIf (mT (mVar 1)) (zSeq (zSet 5 (m2 oMod (m2 oAdd (m2 oAdd (m2 oMul (mVar 5) (mC (.int 48271))) (m2 oMul (mC (.int 7919)) (mVar 6))) (mC (.int 11))) (mC (.int 2147483647)))) (zApp 4 (m2 oMod (m2 oMod (m2 oMul (mVar 5) (mC (.int 16807))) (mC (.int 2147483629))) (mVar 3)))) (zSeq (zApp 4 (m2 oMod (mVar 5) (mVar 3))) (zSet 5 (m2 oDiv (mVar 5) (mVar 3))))
def S_law_draws_3 : Ev → SR := zRet (mVar 4)
def F_law_draws_3 : Ev → SR := fun δ => (S_law_draws_3) (frzE 4 δ)
def S_law_draws_2 : Ev → SR := zFor (fun δ => ((mCons (mVar 2) (mNil)) δ).bind iR1) (bN 6) (L_law_draws_1)
def F_law_draws_2 : Ev → SR := zSeq (S_law_draws_2) F_law_draws_3
def S_law_draws_1 : Ev → SR := zSet 5 (mVar 0)
def F_law_draws_1 : Ev → SR := zSeq (S_law_draws_1) F_law_draws_2
def S_law_draws_0 : Ev → SR := zOwn 4 (fun δ => lim ((mNil) δ))
def F_law_draws : Ev → SR := zSeq (S_law_draws_0) F_law_draws_1
def m_law_draws (ds : List D) : R D := finR (F_law_draws (startE 7 ds))
theorem s_law_draws : FnScope [("_law_cell" : Str), ("_law_mixed" : Str), ("_law_many" : Str), ("_law_most" : Str), ("_law_made" : Str), ("_law_rest" : Str), ("_law_k" : Str)] [("_law_cell" : Str), ("_law_mixed" : Str), ("_law_many" : Str), ("_law_most" : Str)] (defScope (top 16)) := ⟨rfl, rfl, rfl, by decide +kernel, rfl, by decide +kernel, by decide +kernel⟩
theorem d_law_draws {κ : Nat → Addr} {X : Cx} {B : Gd} (cx : Cxo X) (hcalm : X.calm = true) (hN : X.N = [("_law_cell" : Str), ("_law_mixed" : Str), ("_law_many" : Str), ("_law_most" : Str), ("_law_made" : Str), ("_law_rest" : Str), ("_law_k" : Str)]) (hsc : X.env.scope = defScope (top 16)) (hfn : ∀ y, X.fn y = true) (hu : X.A.units + 64 < cLine) (b_range : X.mg ("range" : Str) = none) : QZs κ B X (defBody (top 16)) F_law_draws := by
  have hnd : X.N.Nodup := by rw [hN]; decide +kernel
  have n0 : X.N[0]? = some ("_law_cell" : Str) := by rw [hN]; rfl
  have lv0 : X.env.scope.names.lookup ("_law_cell" : Str) = some .local := by rw [hsc]; rfl
  have l0 : Loc X.env.scope ("_law_cell" : Str) := .inl lv0
  have vi0 : Vis X.env.scope ("_law_cell" : Str) := .inl lv0
  have v0 : ∀ {B : Gd} {pos : Pos}, QX κ B X (.Name ("_law_cell" : Str) pos) (mVar 0) := qpx_var 0 n0 vi0 (by decide) (by decide)
  have n1 : X.N[1]? = some ("_law_mixed" : Str) := by rw [hN]; rfl
  have lv1 : X.env.scope.names.lookup ("_law_mixed" : Str) = some .local := by rw [hsc]; rfl
  have l1 : Loc X.env.scope ("_law_mixed" : Str) := .inl lv1
  have vi1 : Vis X.env.scope ("_law_mixed" : Str) := .inl lv1
  have v1 : ∀ {B : Gd} {pos : Pos}, QX κ B X (.Name ("_law_mixed" : Str) pos) (mVar 1) := qpx_var 1 n1 vi1 (by decide) (by decide)
  have n2 : X.N[2]? = some ("_law_many" : Str) := by rw [hN]; rfl
  have lv2 : X.env.scope.names.lookup ("_law_many" : Str) = some .local := by rw [hsc]; rfl
  have l2 : Loc X.env.scope ("_law_many" : Str) := .inl lv2
  have vi2 : Vis X.env.scope ("_law_many" : Str) := .inl lv2
  have v2 : ∀ {B : Gd} {pos : Pos}, QX κ B X (.Name ("_law_many" : Str) pos) (mVar 2) := qpx_var 2 n2 vi2 (by decide) (by decide)
  have n3 : X.N[3]? = some ("_law_most" : Str) := by rw [hN]; rfl
  have lv3 : X.env.scope.names.lookup ("_law_most" : Str) = some .local := by rw [hsc]; rfl
  have l3 : Loc X.env.scope ("_law_most" : Str) := .inl lv3
  have vi3 : Vis X.env.scope ("_law_most" : Str) := .inl lv3
  have v3 : ∀ {B : Gd} {pos : Pos}, QX κ B X (.Name ("_law_most" : Str) pos) (mVar 3) := qpx_var 3 n3 vi3 (by decide) (by decide)
  have n4 : X.N[4]? = some ("_law_made" : Str) := by rw [hN]; rfl
  have lv4 : X.env.scope.names.lookup ("_law_made" : Str) = some .local := by rw [hsc]; rfl
  have l4 : Loc X.env.scope ("_law_made" : Str) := .inl lv4
  have vi4 : Vis X.env.scope ("_law_made" : Str) := .inl lv4
  have v4 : ∀ {B : Gd} {pos : Pos}, QX κ B X (.Name ("_law_made" : Str) pos) (mVar 4) := qpx_var 4 n4 vi4 (by decide) (by decide)
  have w4 : ∀ {B : Gd} {e : Expr} {p p' : Pos} {f : Ev → R (List D)}, QXf κ B X e f → noComp e = true → QZ κ B X (.Assign [.Name ("_law_made" : Str) p'] e p) (zOwn 4 f) := fun h h2 => qy_own cx hnd n4 l4 (.inl (hfn _)) h h2
  have a4 : ∀ {B : Gd} {e : Expr} {p p' p2 ap : Pos} {f : Ev → R D}, QX κ B X e f → noStar e = true → (ap.endLine == p'.line) = true → QZ κ B X (.Expr (.Call (.Attribute (.Name ("_law_made" : Str) p) "append" ap) [e] [] p') p2) (zApp 4 f) := fun h h2 h3 => qy_append cx n4 vi4 (by decide) (by decide) h h2 h3
  have r4 : ∀ {B : Gd} {pos : Pos}, QXr κ B X (.Name ("_law_made" : Str) pos) (mVarR 4) := qpx_varR 4 n4 vi4 (by decide) (by decide)
  have n5 : X.N[5]? = some ("_law_rest" : Str) := by rw [hN]; rfl
  have lv5 : X.env.scope.names.lookup ("_law_rest" : Str) = some .local := by rw [hsc]; rfl
  have l5 : Loc X.env.scope ("_law_rest" : Str) := .inl lv5
  have vi5 : Vis X.env.scope ("_law_rest" : Str) := .inl lv5
  have v5 : ∀ {B : Gd} {pos : Pos}, QX κ B X (.Name ("_law_rest" : Str) pos) (mVar 5) := qpx_var 5 n5 vi5 (by decide) (by decide)
  have s5 : ∀ {B : Gd} {e : Expr} {p p' : Pos} {f : Ev → R D}, QX κ B X e f → noComp e = true → QZ κ B X (.Assign [.Name ("_law_rest" : Str) p'] e p) (zSet 5 f) := fun h h2 => qy_set cx hnd n5 l5 (.inl (hfn _)) h h2
  have n6 : X.N[6]? = some ("_law_k" : Str) := by rw [hN]; rfl
  have lv6 : X.env.scope.names.lookup ("_law_k" : Str) = some .local := by rw [hsc]; rfl
  have l6 : Loc X.env.scope ("_law_k" : Str) := .inl lv6
  have vi6 : Vis X.env.scope ("_law_k" : Str) := .inl lv6
  have v6 : ∀ {B : Gd} {pos : Pos}, QX κ B X (.Name ("_law_k" : Str) pos) (mVar 6) := qpx_var 6 n6 vi6 (by decide) (by decide)
  have t6 : ∀ {B : Gd} {p : Pos}, QGz κ B X (.Name ("_law_k" : Str) p) (bN 6) := qpgz_name cx hnd n6 l6 (.inl (hfn _))
  have hg_range : Gl X ("range" : Str) := by show X.env.scope.names.lookup ("range" : Str) = _; rw [hsc]; rfl
  refine qpzs_cons (F1 := S_law_draws_0) (F2 := F_law_draws_1) ?_ ?_
  · exact w4 (qpxf_lst (qpxs_nil)) rfl
  refine qpzs_cons (F1 := S_law_draws_1) (F2 := F_law_draws_2) ?_ ?_
  · exact s5 (v0) rfl
  refine qpzs_cons (F1 := S_law_draws_2) (F2 := F_law_draws_3) ?_ ?_
  · exact qy_for cx hcalm (qyi_range1 hg_range b_range (qys_cons (v2) (qpxs_nil) rfl) rfl) (fun B => t6) (fun B => qpzs_one (qpz_if cx (qyt_val ((v1).read) rfl) (qpzs_cons (s5 (qpx_mod ((qpx_add ((qpx_add ((qpx_mulI ((v5).read) ((qpx_int).read)).read) ((qpx_mulI ((qpx_int).read) ((v6).read)).read)).read) ((qpx_int).read)).read) ((qpx_int).read)) rfl) (qpzs_one (a4 (qpx_mod ((qpx_mod ((qpx_mulI ((v5).read) ((qpx_int).read)).read) ((qpx_int).read)).read) ((v3).read)) rfl rfl))) (qpzs_cons (a4 (qpx_mod ((v5).read) ((v3).read)) rfl rfl) (qpzs_one (s5 (qpx_div ((v5).read) ((v3).read)) rfl))))) rfl
  refine qpzs_frz 4 (F := _) ?_
  exact qpzs_one (qpz_ret cx (v4))
/-! ### law_built -/
def L_law_built_1 : Ev → SR := zSeq (zSet 11 (m2 oIx (mVar 4) (m2 oAdd (m2 oAdd (mC (.int 10)) (m2 oMul (mC (.int 3)) (mVar 8))) (mVar 10)))) (zSeq (zSet 12 (m2 oIx (mVar 3) (m2 oIx (mVar 4) (m2 oAdd (m2 oAdd (mC (.int 25)) (m2 oMul (mC (.int 3)) (mVar 8))) (mVar 10))))) (zSeq (zIf (mAnd (m2t oGt (m2 oMod (mVar 11) (mC (.int 4))) (mC (.int 0))) (m2t oNin (m2 oIx (mVar 2) (m2 oMod (m2 oDiv (mVar 11) (mC (.int 4))) (mC (.int 6)))) (mVarR 6))) (zSeq (zSet 12 (m2 oIx (mVar 2) (m2 oMod (m2 oDiv (mVar 11) (mC (.int 4))) (mC (.int 6))))) (zApp 6 (mVar 12))) (SR.next)) (zApp 9 (mVar 12))))
def L_law_built_2 : Ev → SR := zSeq (zOwn 9 (fun δ => lim ((mNil) δ))) (zSeq (zFor (fun δ => ((mCons (m2 oAdd (mC (.int 1)) (m2 oMod (m2 oIx (mVar 4) (m2 oAdd (mC (.int 1)) (mVar 8))) (mC (.int 3)))) (mNil)) δ).bind iR1) (bN 10) (L_law_built_1)) (zSeq (zSet 13 (mCB oInt (mCons (mAndV (m2 (op2 oLt) (m2 oMod (m2 oIx (mVar 4) (m2 oAdd (mC (.int 5)) (mVar 8))) (mC (.int 5))) (mC (.int 2))) (m2 (op2 oLt) (mVar 7) (mC (.int 3)))) (mNil)))) (zSeq (zSet 7 (m2 oAdd (mVar 7) (mVar 13))) (fun δ => (zApp 5 (mTup (mCons (mVar 13) (mCons (mVar 9) (mNil))))) (frzE 9 δ)))))
def S_law_built_7 : Ev → SR := zRet (mVar 5)
def F_law_built_7 : Ev → SR := fun δ => (S_law_built_7) (frzE 5 δ)
def S_law_built_6 : Ev → SR := zFor (fun δ => ((mCons (m2 oAdd (mC (.int 1)) (m2 oMod (m2 oIx (mVar 4) (mC (.int 0))) (mC (.int 4)))) (mNil)) δ).bind iR1) (bN 8) (L_law_built_2)
def F_law_built_6 : Ev → SR := zSeq (S_law_built_6) F_law_built_7
def S_law_built_5 : Ev → SR := zSet 7 (mC (.int 0))
def F_law_built_5 : Ev → SR := zSeq (S_law_built_5) F_law_built_6
def S_law_built_4 : Ev → SR := zOwn 6 (fun δ => lim ((mNil) δ))
def F_law_built_4 : Ev → SR := zSeq (S_law_built_4) F_law_built_5
def S_law_built_3 : Ev → SR := zOwn 5 (fun δ => lim ((mNil) δ))
def F_law_built_3 : Ev → SR := zSeq (S_law_built_3) F_law_built_4
def S_law_built_2 : Ev → SR := zSet 4 (mCall m_law_draws (mCons (mVar 0) (mCons (mVar 1) (mCons (mC (.int 40)) (mCons (mC (.int 41)) (mNil))))))
def F_law_built_2 : Ev → SR := zSeq (S_law_built_2) F_law_built_3
def S_law_built_1 : Ev → SR := zSet 3 (mC (.str [97, 98, 99, 100, 101, 102, 103, 104, 105, 106, 107, 108, 109, 110, 111, 112, 113, 114, 115, 116, 117, 118, 119, 120, 121, 122, 48, 49, 50, 51, 52, 53, 54, 55, 56, 57, 32, 46, 47, 45, 44]))
def F_law_built_1 : Ev → SR := zSeq (S_law_built_1) F_law_built_2
def S_law_built_0 : Ev → SR := zSet 2 (mLst (fun _ => .ok [D.str [60, 100, 62], D.str [60, 109, 62], D.str [60, 121, 62], D.str [60, 89, 62], D.str [60, 110, 62], D.str [60, 119, 62]]))
def F_law_built : Ev → SR := zSeq (S_law_built_0) F_law_built_1
def m_law_built (ds : List D) : R D := finR (F_law_built (startE 14 ds))
theorem s_law_built : FnScope [("_law_cell" : Str), ("_law_mixed" : Str), ("_law_places" : Str), ("_law_signs" : Str), ("_law_picks" : Str), ("_law_parts" : Str), ("_law_used" : Str), ("_law_lackings" : Str), ("_law_k" : Str), ("_law_tokens" : Str), ("_law_j" : Str), ("_law_pick" : Str), ("_law_token" : Str), ("_law_lacking" : Str)] [("_law_cell" : Str), ("_law_mixed" : Str)] (defScope (top 17)) := ⟨rfl, rfl, rfl, by decide +kernel, rfl, by decide +kernel, by decide +kernel⟩
theorem d_law_built {κ : Nat → Addr} {X : Cx} {B : Gd} (cx : Cxo X) (hcalm : X.calm = true) (hN : X.N = [("_law_cell" : Str), ("_law_mixed" : Str), ("_law_places" : Str), ("_law_signs" : Str), ("_law_picks" : Str), ("_law_parts" : Str), ("_law_used" : Str), ("_law_lackings" : Str), ("_law_k" : Str), ("_law_tokens" : Str), ("_law_j" : Str), ("_law_pick" : Str), ("_law_token" : Str), ("_law_lacking" : Str)]) (hsc : X.env.scope = defScope (top 17)) (hfn : ∀ y, X.fn y = true) (hu : X.A.units + 64 < cLine) (k_law_draws : Cal κ X ("_law_draws" : Str) 4 m_law_draws) (b_int : X.mg ("int" : Str) = none) (b_range : X.mg ("range" : Str) = none) : QZs κ B X (defBody (top 17)) F_law_built := by
  have hnd : X.N.Nodup := by rw [hN]; decide +kernel
  have n0 : X.N[0]? = some ("_law_cell" : Str) := by rw [hN]; rfl
  have lv0 : X.env.scope.names.lookup ("_law_cell" : Str) = some .local := by rw [hsc]; rfl
  have l0 : Loc X.env.scope ("_law_cell" : Str) := .inl lv0
  have vi0 : Vis X.env.scope ("_law_cell" : Str) := .inl lv0
  have v0 : ∀ {B : Gd} {pos : Pos}, QX κ B X (.Name ("_law_cell" : Str) pos) (mVar 0) := qpx_var 0 n0 vi0 (by decide) (by decide)
  have n1 : X.N[1]? = some ("_law_mixed" : Str) := by rw [hN]; rfl
  have lv1 : X.env.scope.names.lookup ("_law_mixed" : Str) = some .local := by rw [hsc]; rfl
  have l1 : Loc X.env.scope ("_law_mixed" : Str) := .inl lv1
  have vi1 : Vis X.env.scope ("_law_mixed" : Str) := .inl lv1
  have v1 : ∀ {B : Gd} {pos : Pos}, QX κ B X (.Name ("_law_mixed" : Str) pos) (mVar 1) := qpx_var 1 n1 vi1 (by decide) (by decide)
  have n2 : X.N[2]? = some ("_law_places" : Str) := by rw [hN]; rfl
  have lv2 : X.env.scope.names.lookup ("_law_places" : Str) = some .local := by rw [hsc]; rfl
  have l2 : Loc X.env.scope ("_law_places" : Str) := .inl lv2
  have vi2 : Vis X.env.scope ("_law_places" : Str) := .inl lv2
  have v2 : ∀ {B : Gd} {pos : Pos}, QX κ B X (.Name ("_law_places" : Str) pos) (mVar 2) := qpx_var 2 n2 vi2 (by decide) (by decide)
  have s2 : ∀ {B : Gd} {e : Expr} {p p' : Pos} {f : Ev → R D}, QX κ B X e f → noComp e = true → QZ κ B X (.Assign [.Name ("_law_places" : Str) p'] e p) (zSet 2 f) := fun h h2 => qy_set cx hnd n2 l2 (.inl (hfn _)) h h2
  have n3 : X.N[3]? = some ("_law_signs" : Str) := by rw [hN]; rfl
  have lv3 : X.env.scope.names.lookup ("_law_signs" : Str) = some .local := by rw [hsc]; rfl
  have l3 : Loc X.env.scope ("_law_signs" : Str) := .inl lv3
  have vi3 : Vis X.env.scope ("_law_signs" : Str) := .inl lv3
  have v3 : ∀ {B : Gd} {pos : Pos}, QX κ B X (.Name ("_law_signs" : Str) pos) (mVar 3) := qpx_var 3 n3 vi3 (by decide) (by decide)
  have s3 : ∀ {B : Gd} {e : Expr} {p p' : Pos} {f : Ev → R D}, QX κ B X e f → noComp e = true → QZ κ B X (.Assign [.Name ("_law_signs" : Str) p'] e p) (zSet 3 f) := fun h h2 => qy_set cx hnd n3 l3 (.inl (hfn _)) h h2
  have n4 : X.N[4]? = some ("_law_picks" : Str) := by rw [hN]; rfl
  have lv4 : X.env.scope.names.lookup ("_law_picks" : Str) = some .local := by rw [hsc]; rfl
  have l4 : Loc X.env.scope ("_law_picks" : Str) := .inl lv4
  have vi4 : Vis X.env.scope ("_law_picks" : Str) := .inl lv4
  have v4 : ∀ {B : Gd} {pos : Pos}, QX κ B X (.Name ("_law_picks" : Str) pos) (mVar 4) := qpx_var 4 n4 vi4 (by decide) (by decide)
  have s4 : ∀ {B : Gd} {e : Expr} {p p' : Pos} {f : Ev → R D}, QX κ B X e f → noComp e = true → QZ κ B X (.Assign [.Name ("_law_picks" : Str) p'] e p) (zSet 4 f) := fun h h2 => qy_set cx hnd n4 l4 (.inl (hfn _)) h h2
  have n5 : X.N[5]? = some ("_law_parts" : Str) := by rw [hN]; rfl
  have lv5 : X.env.scope.names.lookup ("_law_parts" : Str) = some .local := by rw [hsc]; rfl
  have l5 : Loc X.env.scope ("_law_parts" : Str) := .inl lv5
  have vi5 : Vis X.env.scope ("_law_parts" : Str) := .inl lv5
  have v5 : ∀ {B : Gd} {pos : Pos}, QX κ B X (.Name ("_law_parts" : Str) pos) (mVar 5) := qpx_var 5 n5 vi5 (by decide) (by decide)
  have w5 : ∀ {B : Gd} {e : Expr} {p p' : Pos} {f : Ev → R (List D)}, QXf κ B X e f → noComp e = true → QZ κ B X (.Assign [.Name ("_law_parts" : Str) p'] e p) (zOwn 5 f) := fun h h2 => qy_own cx hnd n5 l5 (.inl (hfn _)) h h2
  have a5 : ∀ {B : Gd} {e : Expr} {p p' p2 ap : Pos} {f : Ev → R D}, QX κ B X e f → noStar e = true → (ap.endLine == p'.line) = true → QZ κ B X (.Expr (.Call (.Attribute (.Name ("_law_parts" : Str) p) "append" ap) [e] [] p') p2) (zApp 5 f) := fun h h2 h3 => qy_append cx n5 vi5 (by decide) (by decide) h h2 h3
  have r5 : ∀ {B : Gd} {pos : Pos}, QXr κ B X (.Name ("_law_parts" : Str) pos) (mVarR 5) := qpx_varR 5 n5 vi5 (by decide) (by decide)
  have n6 : X.N[6]? = some ("_law_used" : Str) := by rw [hN]; rfl
  have lv6 : X.env.scope.names.lookup ("_law_used" : Str) = some .local := by rw [hsc]; rfl
  have l6 : Loc X.env.scope ("_law_used" : Str) := .inl lv6
  have vi6 : Vis X.env.scope ("_law_used" : Str) := .inl lv6
  have v6 : ∀ {B : Gd} {pos : Pos}, QX κ B X (.Name ("_law_used" : Str) pos) (mVar 6) := qpx_var 6 n6 vi6 (by decide) (by decide)
  have w6 : ∀ {B : Gd} {e : Expr} {p p' : Pos} {f : Ev → R (List D)}, QXf κ B X e f → noComp e = true → QZ κ B X (.Assign [.Name ("_law_used" : Str) p'] e p) (zOwn 6 f) := fun h h2 => qy_own cx hnd n6 l6 (.inl (hfn _)) h h2
  have a6 : ∀ {B : Gd} {e : Expr} {p p' p2 ap : Pos} {f : Ev → R D}, QX κ B X e f → noStar e = true → (ap.endLine == p'.line) = true → QZ κ B X (.Expr (.Call (.Attribute (.Name ("_law_used" : Str) p) "append" ap) [e] [] p') p2) (zApp 6 f) := fun h h2 h3 => qy_append cx n6 vi6 (by decide) (by decide) h h2 h3
  have r6 : ∀ {B : Gd} {pos : Pos}, QXr κ B X (.Name ("_law_used" : Str) pos) (mVarR 6) := qpx_varR 6 n6 vi6 (by decide) (by decide)
  have n7 : X.N[7]? = some ("_law_lackings" : Str) := by rw [hN]; rfl
  have lv7 : X.env.scope.names.lookup ("_law_lackings" : Str) = some .local := by rw [hsc]; rfl
  have l7 : Loc X.env.scope ("_law_lackings" : Str) := .inl lv7
  have vi7 : Vis X.env.scope ("_law_lackings" : Str) := .inl lv7
  have v7 : ∀ {B : Gd} {pos : Pos}, QX κ B X (.Name ("_law_lackings" : Str) pos) (mVar 7) := qpx_var 7 n7 vi7 (by decide) (by decide)
  have s7 : ∀ {B : Gd} {e : Expr} {p p' : Pos} {f : Ev → R D}, QX κ B X e f → noComp e = true → QZ κ B X (.Assign [.Name ("_law_lackings" : Str) p'] e p) (zSet 7 f) := fun h h2 => qy_set cx hnd n7 l7 (.inl (hfn _)) h h2
  have n8 : X.N[8]? = some ("_law_k" : Str) := by rw [hN]; rfl
  have lv8 : X.env.scope.names.lookup ("_law_k" : Str) = some .local := by rw [hsc]; rfl
  have l8 : Loc X.env.scope ("_law_k" : Str) := .inl lv8
  have vi8 : Vis X.env.scope ("_law_k" : Str) := .inl lv8
  have v8 : ∀ {B : Gd} {pos : Pos}, QX κ B X (.Name ("_law_k" : Str) pos) (mVar 8) := qpx_var 8 n8 vi8 (by decide) (by decide)
  have t8 : ∀ {B : Gd} {p : Pos}, QGz κ B X (.Name ("_law_k" : Str) p) (bN 8) := qpgz_name cx hnd n8 l8 (.inl (hfn _))
  have n9 : X.N[9]? = some ("_law_tokens" : Str) := by rw [hN]; rfl
  have lv9 : X.env.scope.names.lookup ("_law_tokens" : Str) = some .local := by rw [hsc]; rfl
  have l9 : Loc X.env.scope ("_law_tokens" : Str) := .inl lv9
  have vi9 : Vis X.env.scope ("_law_tokens" : Str) := .inl lv9
  have v9 : ∀ {B : Gd} {pos : Pos}, QX κ B X (.Name ("_law_tokens" : Str) pos) (mVar 9) := qpx_var 9 n9 vi9 (by decide) (by decide)
  have w9 : ∀ {B : Gd} {e : Expr} {p p' : Pos} {f : Ev → R (List D)}, QXf κ B X e f → noComp e = true → QZ κ B X (.Assign [.Name ("_law_tokens" : Str) p'] e p) (zOwn 9 f) := fun h h2 => qy_own cx hnd n9 l9 (.inl (hfn _)) h h2
  have a9 : ∀ {B : Gd} {e : Expr} {p p' p2 ap : Pos} {f : Ev → R D}, QX κ B X e f → noStar e = true → (ap.endLine == p'.line) = true → QZ κ B X (.Expr (.Call (.Attribute (.Name ("_law_tokens" : Str) p) "append" ap) [e] [] p') p2) (zApp 9 f) := fun h h2 h3 => qy_append cx n9 vi9 (by decide) (by decide) h h2 h3
  have r9 : ∀ {B : Gd} {pos : Pos}, QXr κ B X (.Name ("_law_tokens" : Str) pos) (mVarR 9) := qpx_varR 9 n9 vi9 (by decide) (by decide)
  have n10 : X.N[10]? = some ("_law_j" : Str) := by rw [hN]; rfl
  have lv10 : X.env.scope.names.lookup ("_law_j" : Str) = some .local := by rw [hsc]; rfl
  have l10 : Loc X.env.scope ("_law_j" : Str) := .inl lv10
  have vi10 : Vis X.env.scope ("_law_j" : Str) := .inl lv10
  have v10 : ∀ {B : Gd} {pos : Pos}, QX κ B X (.Name ("_law_j" : Str) pos) (mVar 10) := qpx_var 10 n10 vi10 (by decide) (by decide)
  have t10 : ∀ {B : Gd} {p : Pos}, QGz κ B X (.Name ("_law_j" : Str) p) (bN 10) := qpgz_name cx hnd n10 l10 (.inl (hfn _))
  have n11 : X.N[11]? = some ("_law_pick" : Str) := by rw [hN]; rfl
  have lv11 : X.env.scope.names.lookup ("_law_pick" : Str) = some .local := by rw [hsc]; rfl
  have l11 : Loc X.env.scope ("_law_pick" : Str) := .inl lv11
  have vi11 : Vis X.env.scope ("_law_pick" : Str) := .inl lv11
  have v11 : ∀ {B : Gd} {pos : Pos}, QX κ B X (.Name ("_law_pick" : Str) pos) (mVar 11) := qpx_var 11 n11 vi11 (by decide) (by decide)
  have s11 : ∀ {B : Gd} {e : Expr} {p p' : Pos} {f : Ev → R D}, QX κ B X e f → noComp e = true → QZ κ B X (.Assign [.Name ("_law_pick" : Str) p'] e p) (zSet 11 f) := fun h h2 => qy_set cx hnd n11 l11 (.inl (hfn _)) h h2
  have n12 : X.N[12]? = some ("_law_token" : Str) := by rw [hN]; rfl
  have lv12 : X.env.scope.names.lookup ("_law_token" : Str) = some .local := by rw [hsc]; rfl
  have l12 : Loc X.env.scope ("_law_token" : Str) := .inl lv12
  have vi12 : Vis X.env.scope ("_law_token" : Str) := .inl lv12
  have v12 : ∀ {B : Gd} {pos : Pos}, QX κ B X (.Name ("_law_token" : Str) pos) (mVar 12) := qpx_var 12 n12 vi12 (by decide) (by decide)
  have s12 : ∀ {B : Gd} {e : Expr} {p p' : Pos} {f : Ev → R D}, QX κ B X e f → noComp e = true → QZ κ B X (.Assign [.Name ("_law_token" : Str) p'] e p) (zSet 12 f) := fun h h2 => qy_set cx hnd n12 l12 (.inl (hfn _)) h h2
  have n13 : X.N[13]? = some ("_law_lacking" : Str) := by rw [hN]; rfl
  have lv13 : X.env.scope.names.lookup ("_law_lacking" : Str) = some .local := by rw [hsc]; rfl
  have l13 : Loc X.env.scope ("_law_lacking" : Str) := .inl lv13
  have vi13 : Vis X.env.scope ("_law_lacking" : Str) := .inl lv13
  have v13 : ∀ {B : Gd} {pos : Pos}, QX κ B X (.Name ("_law_lacking" : Str) pos) (mVar 13) := qpx_var 13 n13 vi13 (by decide) (by decide)
  have s13 : ∀ {B : Gd} {e : Expr} {p p' : Pos} {f : Ev → R D}, QX κ B X e f → noComp e = true → QZ κ B X (.Assign [.Name ("_law_lacking" : Str) p'] e p) (zSet 13 f) := fun h h2 => qy_set cx hnd n13 l13 (.inl (hfn _)) h h2
  have hg_law_draws : Gl X ("_law_draws" : Str) := by show X.env.scope.names.lookup ("_law_draws" : Str) = _; rw [hsc]; rfl
  have hg_int : Gl X ("int" : Str) := by show X.env.scope.names.lookup ("int" : Str) = _; rw [hsc]; rfl
  have hg_range : Gl X ("range" : Str) := by show X.env.scope.names.lookup ("range" : Str) = _; rw [hsc]; rfl
  refine qpzs_cons (F1 := S_law_built_0) (F2 := F_law_built_1) ?_ ?_
  · exact s2 (qpx_lst (qys_consts (ds := [D.str [60, 100, 62], D.str [60, 109, 62], D.str [60, 121, 62], D.str [60, 89, 62], D.str [60, 110, 62], D.str [60, 119, 62]]) (by rfl))) rfl
  refine qpzs_cons (F1 := S_law_built_1) (F2 := F_law_built_2) ?_ ?_
  · exact s3 (qpx_str (l := [97, 98, 99, 100, 101, 102, 103, 104, 105, 106, 107, 108, 109, 110, 111, 112, 113, 114, 115, 116, 117, 118, 119, 120, 121, 122, 48, 49, 50, 51, 52, 53, 54, 55, 56, 57, 32, 46, 47, 45, 44]) (by decide +kernel)) rfl
  refine qpzs_cons (F1 := S_law_built_2) (F2 := F_law_built_3) ?_ ?_
  · exact s4 (qy_call cx k_law_draws rfl hg_law_draws (qys_cons (v0) (qys_cons (v1) (qys_cons (qpx_int) (qys_cons (qpx_int) (qpxs_nil) rfl) rfl) rfl) rfl) (by decide) rfl (mlen_cons (mlen_cons (mlen_cons (mlen_cons (mlen_nil)))))) rfl
  refine qpzs_cons (F1 := S_law_built_3) (F2 := F_law_built_4) ?_ ?_
  · exact w5 (qpxf_lst (qpxs_nil)) rfl
  refine qpzs_cons (F1 := S_law_built_4) (F2 := F_law_built_5) ?_ ?_
  · exact w6 (qpxf_lst (qpxs_nil)) rfl
  refine qpzs_cons (F1 := S_law_built_5) (F2 := F_law_built_6) ?_ ?_
  · exact s7 (qpx_int) rfl
  refine qpzs_cons (F1 := S_law_built_6) (F2 := F_law_built_7) ?_ ?_
  · exact qy_for cx hcalm (qyi_range1 hg_range b_range (qys_cons (qpx_add ((qpx_int).read) ((qpx_mod ((qy_ix ((v4).read) ((qpx_int).read) rfl).read) ((qpx_int).read)).read)) (qpxs_nil) rfl) rfl) (fun B => t8) (fun B => qpzs_cons (w9 (qpxf_lst (qpxs_nil)) rfl) (qpzs_cons (qy_for cx hcalm (qyi_range1 hg_range b_range (qys_cons (qpx_add ((qpx_int).read) ((qpx_mod ((qy_ix ((v4).read) ((qpx_add ((qpx_int).read) ((v8).read)).read) rfl).read) ((qpx_int).read)).read)) (qpxs_nil) rfl) rfl) (fun B => t10) (fun B => qpzs_cons (s11 (qy_ix ((v4).read) ((qpx_add ((qpx_add ((qpx_int).read) ((qpx_mulI ((qpx_int).read) ((v8).read)).read)).read) ((v10).read)).read) rfl) rfl) (qpzs_cons (s12 (qy_ix ((v3).read) ((qy_ix ((v4).read) ((qpx_add ((qpx_add ((qpx_int).read) ((qpx_mulI ((qpx_int).read) ((v8).read)).read)).read) ((v10).read)).read) rfl).read) rfl) rfl) (qpzs_cons (qpz_if cx ((qpxw_and (qpxt_gt ((qpx_mod ((v11).read) ((qpx_int).read)).read) ((qpx_int).read) (mark_no rfl)) (qpxw_and1 (qpxt_nin hu ((qy_ix ((v2).read) ((qpx_mod ((qpx_div ((v11).read) ((qpx_int).read)).read) ((qpx_int).read)).read) rfl).read) (r6) (mark_no rfl)))).t) (qpzs_cons (s12 (qy_ix ((v2).read) ((qpx_mod ((qpx_div ((v11).read) ((qpx_int).read)).read) ((qpx_int).read)).read) rfl) rfl) (qpzs_one (a6 (v12) rfl rfl))) (qpzs_nil)) (qpzs_one (a9 (v12) rfl rfl))))) rfl) (qpzs_cons (s13 (qy_toint hg_int b_int (qys_cons (qpx_and (qpx_lt ((qpx_mod ((qy_ix ((v4).read) ((qpx_add ((qpx_int).read) ((v8).read)).read) rfl).read) ((qpx_int).read)).read) ((qpx_int).read) (mark_no rfl)) (qpx_one (qpx_lt ((v7).read) ((qpx_int).read) (mark_no rfl)))) (qpxs_nil) rfl) rfl) rfl) (qpzs_cons (s7 (qpx_add ((v7).read) ((v13).read)) rfl) (qpzs_frz 9 (qpzs_one (a5 (qpx_tup (qys_cons (v13) (qys_cons (v9) (qpxs_nil) rfl) rfl)) rfl rfl))))))) rfl
  refine qpzs_frz 5 (F := _) ?_
  exact qpzs_one (qpz_ret cx (v5))
/-! ### law_at -/
def F_law_at_1 : Ev → SR := zRet (mC (.int 0))
def F_law_at : Ev → SR := zSeq (zIf (m2t oLt (mVar 1) (m1 oLen (mVar 0))) (zRet (m2 oIx (mVar 0) (mVar 1))) (SR.next)) F_law_at_1
def m_law_at (ds : List D) : R D := finR (F_law_at (startE 2 ds))
theorem s_law_at : FnScope [("_law_script" : Str), ("_law_k" : Str)] [("_law_script" : Str), ("_law_k" : Str)] (defScope (top 14)) := ⟨rfl, rfl, rfl, by decide +kernel, rfl, by decide +kernel, by decide +kernel⟩
theorem d_law_at {κ : Nat → Addr} {X : Cx} {B : Gd} (cx : Cxo X) (hcalm : X.calm = true) (hN : X.N = [("_law_script" : Str), ("_law_k" : Str)]) (hsc : X.env.scope = defScope (top 14)) (hfn : ∀ y, X.fn y = true) (hu : X.A.units + 64 < cLine) (b_len : X.mg ("len" : Str) = none) : QZs κ B X (defBody (top 14)) F_law_at := by
  have hnd : X.N.Nodup := by rw [hN]; decide +kernel
  have n0 : X.N[0]? = some ("_law_script" : Str) := by rw [hN]; rfl
  have lv0 : X.env.scope.names.lookup ("_law_script" : Str) = some .local := by rw [hsc]; rfl
  have l0 : Loc X.env.scope ("_law_script" : Str) := .inl lv0
  have vi0 : Vis X.env.scope ("_law_script" : Str) := .inl lv0
  have v0 : ∀ {B : Gd} {pos : Pos}, QX κ B X (.Name ("_law_script" : Str) pos) (mVar 0) := qpx_var 0 n0 vi0 (by decide) (by decide)
  have n1 : X.N[1]? = some ("_law_k" : Str) := by rw [hN]; rfl
  have lv1 : X.env.scope.names.lookup ("_law_k" : Str) = some .local := by rw [hsc]; rfl
  have l1 : Loc X.env.scope ("_law_k" : Str) := .inl lv1
  have vi1 : Vis X.env.scope ("_law_k" : Str) := .inl lv1
  have v1 : ∀ {B : Gd} {pos : Pos}, QX κ B X (.Name ("_law_k" : Str) pos) (mVar 1) := qpx_var 1 n1 vi1 (by decide) (by decide)
  have hg_len : Gl X ("len" : Str) := by show X.env.scope.names.lookup ("len" : Str) = _; rw [hsc]; rfl
  refine qpzs_cons (F1 := zIf (m2t oLt (mVar 1) (m1 oLen (mVar 0))) (zRet (m2 oIx (mVar 0) (mVar 1))) (SR.next)) (F2 := F_law_at_1) ?_ ?_
  · exact qpz_if cx (qpxt_lt ((v1).read) ((qy_len hg_len b_len ((v0).read) rfl).read) (mark_no rfl)) (qpzs_one (qpz_ret cx (qy_ix ((v0).read) ((v1).read) rfl))) (qpzs_nil)
  exact qpzs_one (qpz_ret cx (qpx_int))
/-! ### law_form -/
def L_law_form_1 : Ev → SR := zSeq (zSet 4 (mBS oJoin (mC (.str [])) (mCons (mVar 3) (mNil)))) (zSeq (zIf (m2t oEq (mVar 2) (mC (.int 1))) (zSet 4 (m2 oAdd (m2 oAdd (mC (.str [91])) (mVar 4)) (mC (.str [93])))) (SR.next)) (zSet 1 (m2 oAdd (mVar 1) (mVar 4))))
def S_law_form_2 : Ev → SR := zRet (mVar 1)
def F_law_form_2 : Ev → SR := S_law_form_2
def S_law_form_1 : Ev → SR := zFor (fun δ => ((mVar 0) δ).bind itemsD) (bTup 2 (bsCons (bN 2) (bsCons (bN 3) (bsNil)))) (L_law_form_1)
def F_law_form_1 : Ev → SR := zSeq (S_law_form_1) F_law_form_2
def S_law_form_0 : Ev → SR := zSet 1 (mC (.str []))
def F_law_form : Ev → SR := zSeq (S_law_form_0) F_law_form_1
def m_law_form (ds : List D) : R D := finR (F_law_form (startE 5 ds))
theorem s_law_form : FnScope [("_law_parts" : Str), ("_law_made" : Str), ("_law_lacking" : Str), ("_law_tokens" : Str), ("_law_inner" : Str)] [("_law_parts" : Str)] (defScope (top 18)) := ⟨rfl, rfl, rfl, by decide +kernel, rfl, by decide +kernel, by decide +kernel⟩
theorem d_law_form {κ : Nat → Addr} {X : Cx} {B : Gd} (cx : Cxo X) (hcalm : X.calm = true) (hN : X.N = [("_law_parts" : Str), ("_law_made" : Str), ("_law_lacking" : Str), ("_law_tokens" : Str), ("_law_inner" : Str)]) (hsc : X.env.scope = defScope (top 18)) (hfn : ∀ y, X.fn y = true) (hu : X.A.units + 64 < cLine)  : QZs κ B X (defBody (top 18)) F_law_form := by
  have hnd : X.N.Nodup := by rw [hN]; decide +kernel
  have n0 : X.N[0]? = some ("_law_parts" : Str) := by rw [hN]; rfl
  have lv0 : X.env.scope.names.lookup ("_law_parts" : Str) = some .local := by rw [hsc]; rfl
  have l0 : Loc X.env.scope ("_law_parts" : Str) := .inl lv0
  have vi0 : Vis X.env.scope ("_law_parts" : Str) := .inl lv0
  have v0 : ∀ {B : Gd} {pos : Pos}, QX κ B X (.Name ("_law_parts" : Str) pos) (mVar 0) := qpx_var 0 n0 vi0 (by decide) (by decide)
  have n1 : X.N[1]? = some ("_law_made" : Str) := by rw [hN]; rfl
  have lv1 : X.env.scope.names.lookup ("_law_made" : Str) = some .local := by rw [hsc]; rfl
  have l1 : Loc X.env.scope ("_law_made" : Str) := .inl lv1
  have vi1 : Vis X.env.scope ("_law_made" : Str) := .inl lv1
  have v1 : ∀ {B : Gd} {pos : Pos}, QX κ B X (.Name ("_law_made" : Str) pos) (mVar 1) := qpx_var 1 n1 vi1 (by decide) (by decide)
  have s1 : ∀ {B : Gd} {e : Expr} {p p' : Pos} {f : Ev → R D}, QX κ B X e f → noComp e = true → QZ κ B X (.Assign [.Name ("_law_made" : Str) p'] e p) (zSet 1 f) := fun h h2 => qy_set cx hnd n1 l1 (.inl (hfn _)) h h2
  have n2 : X.N[2]? = some ("_law_lacking" : Str) := by rw [hN]; rfl
  have lv2 : X.env.scope.names.lookup ("_law_lacking" : Str) = some .local := by rw [hsc]; rfl
  have l2 : Loc X.env.scope ("_law_lacking" : Str) := .inl lv2
  have vi2 : Vis X.env.scope ("_law_lacking" : Str) := .inl lv2
  have v2 : ∀ {B : Gd} {pos : Pos}, QX κ B X (.Name ("_law_lacking" : Str) pos) (mVar 2) := qpx_var 2 n2 vi2 (by decide) (by decide)
  have t2 : ∀ {B : Gd} {p : Pos}, QGz κ B X (.Name ("_law_lacking" : Str) p) (bN 2) := qpgz_name cx hnd n2 l2 (.inl (hfn _))
  have n3 : X.N[3]? = some ("_law_tokens" : Str) := by rw [hN]; rfl
  have lv3 : X.env.scope.names.lookup ("_law_tokens" : Str) = some .local := by rw [hsc]; rfl
  have l3 : Loc X.env.scope ("_law_tokens" : Str) := .inl lv3
  have vi3 : Vis X.env.scope ("_law_tokens" : Str) := .inl lv3
  have v3 : ∀ {B : Gd} {pos : Pos}, QX κ B X (.Name ("_law_tokens" : Str) pos) (mVar 3) := qpx_var 3 n3 vi3 (by decide) (by decide)
  have t3 : ∀ {B : Gd} {p : Pos}, QGz κ B X (.Name ("_law_tokens" : Str) p) (bN 3) := qpgz_name cx hnd n3 l3 (.inl (hfn _))
  have n4 : X.N[4]? = some ("_law_inner" : Str) := by rw [hN]; rfl
  have lv4 : X.env.scope.names.lookup ("_law_inner" : Str) = some .local := by rw [hsc]; rfl
  have l4 : Loc X.env.scope ("_law_inner" : Str) := .inl lv4
  have vi4 : Vis X.env.scope ("_law_inner" : Str) := .inl lv4
  have v4 : ∀ {B : Gd} {pos : Pos}, QX κ B X (.Name ("_law_inner" : Str) pos) (mVar 4) := qpx_var 4 n4 vi4 (by decide) (by decide)
  have s4 : ∀ {B : Gd} {e : Expr} {p p' : Pos} {f : Ev → R D}, QX κ B X e f → noComp e = true → QZ κ B X (.Assign [.Name ("_law_inner" : Str) p'] e p) (zSet 4 f) := fun h h2 => qy_set cx hnd n4 l4 (.inl (hfn _)) h h2
  refine qpzs_cons (F1 := S_law_form_0) (F2 := F_law_form_1) ?_ ?_
  · exact s1 (qpx_str (l := []) (by decide +kernel)) rfl
  refine qpzs_cons (F1 := S_law_form_1) (F2 := F_law_form_2) ?_ ?_
  · exact qy_for cx hcalm (qpiz_seq (v0)) (fun B => qy_tup hcalm (qy_cons (t2) (qy_cons (t3) (qpgzs_nil) rfl) rfl) rfl rfl) (fun B => qpzs_cons (s4 (qy_join ((qpx_str (l := []) (by decide +kernel)).read) (qys_cons (v3) (qpxs_nil) rfl) rfl rfl rfl) rfl) (qpzs_cons (qpz_if cx (qpxt_eq hu ((v2).read) ((qpx_int).read) (mark_no rfl)) (qpzs_one (s4 (qpx_add ((qpx_add ((qpx_str (l := [91]) (by decide +kernel)).read) ((v4).read)).read) ((qpx_str (l := [93]) (by decide +kernel)).read)) rfl)) (qpzs_nil)) (qpzs_one (s1 (qpx_add ((v1).read) ((v4).read)) rfl)))) rfl
  exact qpzs_one (qpz_ret cx (v1))
/-! ### law_pieces -/
def L_law_pieces_1 : Ev → SR := zIf (m2t oEq (m1 oLen (mVar 5)) (mC (.int 3))) (zApp 1 (mTup (mCons (mC (.str [112, 108, 97, 99, 101])) (mCons (m2 oIx (mVar 5) (mC (.int 1))) (mCons (m2 oMul (mVar 2) (mVar 3)) (mNil)))))) (zApp 1 (mTup (mCons (mC (.str [115, 105, 103, 110])) (mCons (mVar 5) (mCons (m2 oMul (mVar 2) (mVar 3)) (mNil))))))
def L_law_pieces_2 : Ev → SR := zSeq (zSet 2 (m2 oAdd (mVar 2) (mVar 3))) (zFor (fun δ => ((mVar 4) δ).bind itemsD) (bN 5) (L_law_pieces_1))
def S_law_pieces_3 : Ev → SR := zRet (mVar 1)
def F_law_pieces_3 : Ev → SR := fun δ => (S_law_pieces_3) (frzE 1 δ)
def S_law_pieces_2 : Ev → SR := zFor (fun δ => ((mVar 0) δ).bind itemsD) (bTup 2 (bsCons (bN 3) (bsCons (bN 4) (bsNil)))) (L_law_pieces_2)
def F_law_pieces_2 : Ev → SR := zSeq (S_law_pieces_2) F_law_pieces_3
def S_law_pieces_1 : Ev → SR := zSet 2 (mC (.int 0))
def F_law_pieces_1 : Ev → SR := zSeq (S_law_pieces_1) F_law_pieces_2
def S_law_pieces_0 : Ev → SR := zOwn 1 (fun δ => lim ((mNil) δ))
def F_law_pieces : Ev → SR := zSeq (S_law_pieces_0) F_law_pieces_1
def m_law_pieces (ds : List D) : R D := finR (F_law_pieces (startE 6 ds))
theorem s_law_pieces : FnScope [("_law_parts" : Str), ("_law_made" : Str), ("_law_number" : Str), ("_law_lacking" : Str), ("_law_tokens" : Str), ("_law_token" : Str)] [("_law_parts" : Str)] (defScope (top 19)) := ⟨rfl, rfl, rfl, by decide +kernel, rfl, by decide +kernel, by decide +kernel⟩
theorem d_law_pieces {κ : Nat → Addr} {X : Cx} {B : Gd} (cx : Cxo X) (hcalm : X.calm = true) (hN : X.N = [("_law_parts" : Str), ("_law_made" : Str), ("_law_number" : Str), ("_law_lacking" : Str), ("_law_tokens" : Str), ("_law_token" : Str)]) (hsc : X.env.scope = defScope (top 19)) (hfn : ∀ y, X.fn y = true) (hu : X.A.units + 64 < cLine) (b_len : X.mg ("len" : Str) = none) : QZs κ B X (defBody (top 19)) F_law_pieces := by
  have hnd : X.N.Nodup := by rw [hN]; decide +kernel
  have n0 : X.N[0]? = some ("_law_parts" : Str) := by rw [hN]; rfl
  have lv0 : X.env.scope.names.lookup ("_law_parts" : Str) = some .local := by rw [hsc]; rfl
  have l0 : Loc X.env.scope ("_law_parts" : Str) := .inl lv0
  have vi0 : Vis X.env.scope ("_law_parts" : Str) := .inl lv0
  have v0 : ∀ {B : Gd} {pos : Pos}, QX κ B X (.Name ("_law_parts" : Str) pos) (mVar 0) := qpx_var 0 n0 vi0 (by decide) (by decide)
  have n1 : X.N[1]? = some ("_law_made" : Str) := by rw [hN]; rfl
  have lv1 : X.env.scope.names.lookup ("_law_made" : Str) = some .local := by rw [hsc]; rfl
  have l1 : Loc X.env.scope ("_law_made" : Str) := .inl lv1
  have vi1 : Vis X.env.scope ("_law_made" : Str) := .inl lv1
  have v1 : ∀ {B : Gd} {pos : Pos}, QX κ B X (.Name ("_law_made" : Str) pos) (mVar 1) := qpx_var 1 n1 vi1 (by decide) (by decide)
  have w1 : ∀ {B : Gd} {e : Expr} {p p' : Pos} {f : Ev → R (List D)}, QXf κ B X e f → noComp e = true → QZ κ B X (.Assign [.Name ("_law_made" : Str) p'] e p) (zOwn 1 f) := fun h h2 => qy_own cx hnd n1 l1 (.inl (hfn _)) h h2
  have a1 : ∀ {B : Gd} {e : Expr} {p p' p2 ap : Pos} {f : Ev → R D}, QX κ B X e f → noStar e = true → (ap.endLine == p'.line) = true → QZ κ B X (.Expr (.Call (.Attribute (.Name ("_law_made" : Str) p) "append" ap) [e] [] p') p2) (zApp 1 f) := fun h h2 h3 => qy_append cx n1 vi1 (by decide) (by decide) h h2 h3
  have r1 : ∀ {B : Gd} {pos : Pos}, QXr κ B X (.Name ("_law_made" : Str) pos) (mVarR 1) := qpx_varR 1 n1 vi1 (by decide) (by decide)
  have n2 : X.N[2]? = some ("_law_number" : Str) := by rw [hN]; rfl
  have lv2 : X.env.scope.names.lookup ("_law_number" : Str) = some .local := by rw [hsc]; rfl
  have l2 : Loc X.env.scope ("_law_number" : Str) := .inl lv2
  have vi2 : Vis X.env.scope ("_law_number" : Str) := .inl lv2
  have v2 : ∀ {B : Gd} {pos : Pos}, QX κ B X (.Name ("_law_number" : Str) pos) (mVar 2) := qpx_var 2 n2 vi2 (by decide) (by decide)
  have s2 : ∀ {B : Gd} {e : Expr} {p p' : Pos} {f : Ev → R D}, QX κ B X e f → noComp e = true → QZ κ B X (.Assign [.Name ("_law_number" : Str) p'] e p) (zSet 2 f) := fun h h2 => qy_set cx hnd n2 l2 (.inl (hfn _)) h h2
  have n3 : X.N[3]? = some ("_law_lacking" : Str) := by rw [hN]; rfl
  have lv3 : X.env.scope.names.lookup ("_law_lacking" : Str) = some .local := by rw [hsc]; rfl
  have l3 : Loc X.env.scope ("_law_lacking" : Str) := .inl lv3
  have vi3 : Vis X.env.scope ("_law_lacking" : Str) := .inl lv3
  have v3 : ∀ {B : Gd} {pos : Pos}, QX κ B X (.Name ("_law_lacking" : Str) pos) (mVar 3) := qpx_var 3 n3 vi3 (by decide) (by decide)
  have t3 : ∀ {B : Gd} {p : Pos}, QGz κ B X (.Name ("_law_lacking" : Str) p) (bN 3) := qpgz_name cx hnd n3 l3 (.inl (hfn _))
  have n4 : X.N[4]? = some ("_law_tokens" : Str) := by rw [hN]; rfl
  have lv4 : X.env.scope.names.lookup ("_law_tokens" : Str) = some .local := by rw [hsc]; rfl
  have l4 : Loc X.env.scope ("_law_tokens" : Str) := .inl lv4
  have vi4 : Vis X.env.scope ("_law_tokens" : Str) := .inl lv4
  have v4 : ∀ {B : Gd} {pos : Pos}, QX κ B X (.Name ("_law_tokens" : Str) pos) (mVar 4) := qpx_var 4 n4 vi4 (by decide) (by decide)
  have t4 : ∀ {B : Gd} {p : Pos}, QGz κ B X (.Name ("_law_tokens" : Str) p) (bN 4) := qpgz_name cx hnd n4 l4 (.inl (hfn _))
  have n5 : X.N[5]? = some ("_law_token" : Str) := by rw [hN]; rfl
  have lv5 : X.env.scope.names.lookup ("_law_token" : Str) = some .local := by rw [hsc]; rfl
  have l5 : Loc X.env.scope ("_law_token" : Str) := .inl lv5
  have vi5 : Vis X.env.scope ("_law_token" : Str) := .inl lv5
  have v5 : ∀ {B : Gd} {pos : Pos}, QX κ B X (.Name ("_law_token" : Str) pos) (mVar 5) := qpx_var 5 n5 vi5 (by decide) (by decide)
  have t5 : ∀ {B : Gd} {p : Pos}, QGz κ B X (.Name ("_law_token" : Str) p) (bN 5) := qpgz_name cx hnd n5 l5 (.inl (hfn _))
  have hg_len : Gl X ("len" : Str) := by show X.env.scope.names.lookup ("len" : Str) = _; rw [hsc]; rfl
  refine qpzs_cons (F1 := S_law_pieces_0) (F2 := F_law_pieces_1) ?_ ?_
  · exact w1 (qpxf_lst (qpxs_nil)) rfl
  refine qpzs_cons (F1 := S_law_pieces_1) (F2 := F_law_pieces_2) ?_ ?_
  · exact s2 (qpx_int) rfl
  refine qpzs_cons (F1 := S_law_pieces_2) (F2 := F_law_pieces_3) ?_ ?_
  · exact qy_for cx hcalm (qpiz_seq (v0)) (fun B => qy_tup hcalm (qy_cons (t3) (qy_cons (t4) (qpgzs_nil) rfl) rfl) rfl rfl) (fun B => qpzs_cons (s2 (qpx_add ((v2).read) ((v3).read)) rfl) (qpzs_one (qy_for cx hcalm (qpiz_seq (v4)) (fun B => t5) (fun B => qpzs_one (qpz_if cx (qpxt_eq hu ((qy_len hg_len b_len ((v5).read) rfl).read) ((qpx_int).read) (mark_no rfl)) (qpzs_one (a1 (qpx_tup (qys_cons (qpx_str (l := [112, 108, 97, 99, 101]) (by decide +kernel)) (qys_cons (qy_ix ((v5).read) ((qpx_int).read) rfl) (qys_cons (qpx_mulI ((v2).read) ((v3).read)) (qpxs_nil) rfl) rfl) rfl)) rfl rfl)) (qpzs_one (a1 (qpx_tup (qys_cons (qpx_str (l := [115, 105, 103, 110]) (by decide +kernel)) (qys_cons (v5) (qys_cons (qpx_mulI ((v2).read) ((v3).read)) (qpxs_nil) rfl) rfl) rfl)) rfl rfl)))) rfl))) rfl
  refine qpzs_frz 1 (F := _) ?_
  exact qpzs_one (qpz_ret cx (v1))
/-! ### token_at -/
def S_token_at_4 : Ev → SR := SR.exc 3
def F_token_at_4 : Ev → SR := S_token_at_4
def S_token_at_3 : Ev → SR := zIf (mOr (m2t oIn (mVar 3) (mC c_PLAIN_SIGNS)) (m2t oIn (mVar 3) (mC (.str [91, 93])))) (zRet (mVar 3)) (SR.next)
def F_token_at_3 : Ev → SR := zSeq (S_token_at_3) F_token_at_4
def S_token_at_2 : Ev → SR := zSet 3 (m2 oIx (mVar 0) (mVar 1))
def F_token_at_2 : Ev → SR := zSeq (S_token_at_2) F_token_at_3
def S_token_at_1 : Ev → SR := zIf (m2t oIn (mVar 2) (mC c_PLACES)) (zRet (mVar 2)) (SR.next)
def F_token_at_1 : Ev → SR := zSeq (S_token_at_1) F_token_at_2
def S_token_at_0 : Ev → SR := zSet 2 (mSl (mVar 0) (mP (mVar 1)) (mP (m2 oAdd (mVar 1) (mC (.int 3)))))
def F_token_at : Ev → SR := zSeq (S_token_at_0) F_token_at_1
def m_token_at (ds : List D) : R D := finR (F_token_at (startE 4 ds))
theorem s_token_at : FnScope [("form" : Str), ("start" : Str), ("place" : Str), ("sign" : Str)] [("form" : Str), ("start" : Str)] (defScope (top 8)) := ⟨rfl, rfl, rfl, by decide +kernel, rfl, by decide +kernel, by decide +kernel⟩
theorem d_token_at {κ : Nat → Addr} {X : Cx} {B : Gd} (cx : Cxo X) (hcalm : X.calm = true) (hN : X.N = [("form" : Str), ("start" : Str), ("place" : Str), ("sign" : Str)]) (hsc : X.env.scope = defScope (top 8)) (hfn : ∀ y, X.fn y = true) (hu : X.A.units + 64 < cLine) (c_PLACES' : ∃ u v, X.mg ("PLACES" : Str) = some u ∧ RelV v u ∧ ∀ G, Den ⟨X.K, κ⟩ G v c_PLACES) (c_PLAIN_SIGNS' : ∃ u v, X.mg ("PLAIN_SIGNS" : Str) = some u ∧ RelV v u ∧ ∀ G, Den ⟨X.K, κ⟩ G v c_PLAIN_SIGNS) (x_BadForm : ExcAt κ X ("BadForm" : Str) 3) : QZs κ B X (defBody (top 8)) F_token_at := by
  have hnd : X.N.Nodup := by rw [hN]; decide +kernel
  have n0 : X.N[0]? = some ("form" : Str) := by rw [hN]; rfl
  have lv0 : X.env.scope.names.lookup ("form" : Str) = some .local := by rw [hsc]; rfl
  have l0 : Loc X.env.scope ("form" : Str) := .inl lv0
  have vi0 : Vis X.env.scope ("form" : Str) := .inl lv0
  have v0 : ∀ {B : Gd} {pos : Pos}, QX κ B X (.Name ("form" : Str) pos) (mVar 0) := qpx_var 0 n0 vi0 (by decide) (by decide)
  have n1 : X.N[1]? = some ("start" : Str) := by rw [hN]; rfl
  have lv1 : X.env.scope.names.lookup ("start" : Str) = some .local := by rw [hsc]; rfl
  have l1 : Loc X.env.scope ("start" : Str) := .inl lv1
  have vi1 : Vis X.env.scope ("start" : Str) := .inl lv1
  have v1 : ∀ {B : Gd} {pos : Pos}, QX κ B X (.Name ("start" : Str) pos) (mVar 1) := qpx_var 1 n1 vi1 (by decide) (by decide)
  have n2 : X.N[2]? = some ("place" : Str) := by rw [hN]; rfl
  have lv2 : X.env.scope.names.lookup ("place" : Str) = some .local := by rw [hsc]; rfl
  have l2 : Loc X.env.scope ("place" : Str) := .inl lv2
  have vi2 : Vis X.env.scope ("place" : Str) := .inl lv2
  have v2 : ∀ {B : Gd} {pos : Pos}, QX κ B X (.Name ("place" : Str) pos) (mVar 2) := qpx_var 2 n2 vi2 (by decide) (by decide)
  have s2 : ∀ {B : Gd} {e : Expr} {p p' : Pos} {f : Ev → R D}, QX κ B X e f → noComp e = true → QZ κ B X (.Assign [.Name ("place" : Str) p'] e p) (zSet 2 f) := fun h h2 => qy_set cx hnd n2 l2 (.inl (hfn _)) h h2
  have n3 : X.N[3]? = some ("sign" : Str) := by rw [hN]; rfl
  have lv3 : X.env.scope.names.lookup ("sign" : Str) = some .local := by rw [hsc]; rfl
  have l3 : Loc X.env.scope ("sign" : Str) := .inl lv3
  have vi3 : Vis X.env.scope ("sign" : Str) := .inl lv3
  have v3 : ∀ {B : Gd} {pos : Pos}, QX κ B X (.Name ("sign" : Str) pos) (mVar 3) := qpx_var 3 n3 vi3 (by decide) (by decide)
  have s3 : ∀ {B : Gd} {e : Expr} {p p' : Pos} {f : Ev → R D}, QX κ B X e f → noComp e = true → QZ κ B X (.Assign [.Name ("sign" : Str) p'] e p) (zSet 3 f) := fun h h2 => qy_set cx hnd n3 l3 (.inl (hfn _)) h h2
  have hg_PLACES : Gl X ("PLACES" : Str) := by show X.env.scope.names.lookup ("PLACES" : Str) = _; rw [hsc]; rfl
  have hg_PLAIN_SIGNS : Gl X ("PLAIN_SIGNS" : Str) := by show X.env.scope.names.lookup ("PLAIN_SIGNS" : Str) = _; rw [hsc]; rfl
  have hg_BadForm : Gl X ("BadForm" : Str) := by show X.env.scope.names.lookup ("BadForm" : Str) = _; rw [hsc]; rfl
  have g_PLACES : ∀ {B : Gd} {pos : Pos}, QX κ B X (.Name ("PLACES" : Str) pos) (mC c_PLACES) := let ⟨_, _, h1, h2, h3⟩ := c_PLACES'; qpx_glob hg_PLACES h1 h2 h3 (by decide)
  have g_PLAIN_SIGNS : ∀ {B : Gd} {pos : Pos}, QX κ B X (.Name ("PLAIN_SIGNS" : Str) pos) (mC c_PLAIN_SIGNS) := let ⟨_, _, h1, h2, h3⟩ := c_PLAIN_SIGNS'; qpx_glob hg_PLAIN_SIGNS h1 h2 h3 (by decide)
  refine qpzs_cons (F1 := S_token_at_0) (F2 := F_token_at_1) ?_ ?_
  · exact s2 (qy_sl ((v0).read) (qpxo_some (v1)) (qpxo_some (qpx_add ((v1).read) ((qpx_int).read)))) rfl
  refine qpzs_cons (F1 := S_token_at_1) (F2 := F_token_at_2) ?_ ?_
  · exact qpz_if cx (qpxt_in hu ((v2).read) ((g_PLACES).read) (mark_no rfl)) (qpzs_one (qpz_ret cx (v2))) (qpzs_nil)
  refine qpzs_cons (F1 := S_token_at_2) (F2 := F_token_at_3) ?_ ?_
  · exact s3 (qy_ix ((v0).read) ((v1).read) rfl) rfl
  refine qpzs_cons (F1 := S_token_at_3) (F2 := F_token_at_4) ?_ ?_
  · exact qpz_if cx ((qpxw_or (qpxt_in hu ((v3).read) ((g_PLAIN_SIGNS).read) (mark_no rfl)) (qpxw_or1 (qpxt_in hu ((v3).read) ((qpx_str (l := [91, 93]) (by decide +kernel)).read) (mark_no rfl)))).t) (qpzs_one (qpz_ret cx (v3))) (qpzs_nil)
  exact qpzs_one (qpz_raise cx hcalm x_BadForm hg_BadForm (by decide))
/-! ### cut_into_tokens -/
def L_cut_into_tokens_1 : Ev → SR := zSeq (zSet 3 (mCall m_token_at (mCons (mVar 0) (mCons (mVar 2) (mNil))))) (zSeq (zApp 1 (mVar 3)) (zAug 2 (fun i j => i + j) (m1 oLen (mVar 3))))
def S_cut_into_tokens_3 : Ev → SR := zRet (mVar 1)
def F_cut_into_tokens_3 : Ev → SR := fun δ => (S_cut_into_tokens_3) (frzE 1 δ)
def S_cut_into_tokens_2 : Ev → SR := whileZ (m2t oLt (mVar 2) (m1 oLen (mVar 0))) (L_cut_into_tokens_1) 40
def F_cut_into_tokens_2 : Ev → SR := zSeq (S_cut_into_tokens_2) F_cut_into_tokens_3
def S_cut_into_tokens_1 : Ev → SR := zSet 2 (mC (.int 0))
def F_cut_into_tokens_1 : Ev → SR := zSeq (S_cut_into_tokens_1) F_cut_into_tokens_2
def S_cut_into_tokens_0 : Ev → SR := zOwn 1 (fun δ => lim ((mNil) δ))
def F_cut_into_tokens : Ev → SR := zSeq (S_cut_into_tokens_0) F_cut_into_tokens_1
def m_cut_into_tokens (ds : List D) : R D := finR (F_cut_into_tokens (startE 4 ds))
theorem s_cut_into_tokens : FnScope [("form" : Str), ("tokens" : Str), ("start" : Str), ("token" : Str)] [("form" : Str)] (defScope (top 9)) := ⟨rfl, rfl, rfl, by decide +kernel, rfl, by decide +kernel, by decide +kernel⟩
theorem d_cut_into_tokens {κ : Nat → Addr} {X : Cx} {B : Gd} (cx : Cxo X) (hcalm : X.calm = true) (hN : X.N = [("form" : Str), ("tokens" : Str), ("start" : Str), ("token" : Str)]) (hsc : X.env.scope = defScope (top 9)) (hfn : ∀ y, X.fn y = true) (hu : X.A.units + 64 < cLine) (k_token_at : Cal κ X ("token_at" : Str) 2 m_token_at) (b_len : X.mg ("len" : Str) = none) : QZs κ B X (defBody (top 9)) F_cut_into_tokens := by
  have hnd : X.N.Nodup := by rw [hN]; decide +kernel
  have n0 : X.N[0]? = some ("form" : Str) := by rw [hN]; rfl
  have lv0 : X.env.scope.names.lookup ("form" : Str) = some .local := by rw [hsc]; rfl
  have l0 : Loc X.env.scope ("form" : Str) := .inl lv0
  have vi0 : Vis X.env.scope ("form" : Str) := .inl lv0
  have v0 : ∀ {B : Gd} {pos : Pos}, QX κ B X (.Name ("form" : Str) pos) (mVar 0) := qpx_var 0 n0 vi0 (by decide) (by decide)
  have n1 : X.N[1]? = some ("tokens" : Str) := by rw [hN]; rfl
  have lv1 : X.env.scope.names.lookup ("tokens" : Str) = some .local := by rw [hsc]; rfl
  have l1 : Loc X.env.scope ("tokens" : Str) := .inl lv1
  have vi1 : Vis X.env.scope ("tokens" : Str) := .inl lv1
  have v1 : ∀ {B : Gd} {pos : Pos}, QX κ B X (.Name ("tokens" : Str) pos) (mVar 1) := qpx_var 1 n1 vi1 (by decide) (by decide)
  have w1 : ∀ {B : Gd} {e : Expr} {p p' : Pos} {f : Ev → R (List D)}, QXf κ B X e f → noComp e = true → QZ κ B X (.Assign [.Name ("tokens" : Str) p'] e p) (zOwn 1 f) := fun h h2 => qy_own cx hnd n1 l1 (.inl (hfn _)) h h2
  have a1 : ∀ {B : Gd} {e : Expr} {p p' p2 ap : Pos} {f : Ev → R D}, QX κ B X e f → noStar e = true → (ap.endLine == p'.line) = true → QZ κ B X (.Expr (.Call (.Attribute (.Name ("tokens" : Str) p) "append" ap) [e] [] p') p2) (zApp 1 f) := fun h h2 h3 => qy_append cx n1 vi1 (by decide) (by decide) h h2 h3
  have r1 : ∀ {B : Gd} {pos : Pos}, QXr κ B X (.Name ("tokens" : Str) pos) (mVarR 1) := qpx_varR 1 n1 vi1 (by decide) (by decide)
  have n2 : X.N[2]? = some ("start" : Str) := by rw [hN]; rfl
  have lv2 : X.env.scope.names.lookup ("start" : Str) = some .local := by rw [hsc]; rfl
  have l2 : Loc X.env.scope ("start" : Str) := .inl lv2
  have vi2 : Vis X.env.scope ("start" : Str) := .inl lv2
  have v2 : ∀ {B : Gd} {pos : Pos}, QX κ B X (.Name ("start" : Str) pos) (mVar 2) := qpx_var 2 n2 vi2 (by decide) (by decide)
  have s2 : ∀ {B : Gd} {e : Expr} {p p' : Pos} {f : Ev → R D}, QX κ B X e f → noComp e = true → QZ κ B X (.Assign [.Name ("start" : Str) p'] e p) (zSet 2 f) := fun h h2 => qy_set cx hnd n2 l2 (.inl (hfn _)) h h2
  have ua2 : ∀ {B : Gd} {e : Expr} {p p' : Pos} {f : Ev → R D}, QX κ B X e f → QZ κ B X (.AugAssign (.Name ("start" : Str) p') .Add e p) (zAug 2 (fun i j => i + j) f) := fun h => qpz_aug cx (fun _ => ip_add) hnd n2 l2 (.inl (hfn _)) h
  have n3 : X.N[3]? = some ("token" : Str) := by rw [hN]; rfl
  have lv3 : X.env.scope.names.lookup ("token" : Str) = some .local := by rw [hsc]; rfl
  have l3 : Loc X.env.scope ("token" : Str) := .inl lv3
  have vi3 : Vis X.env.scope ("token" : Str) := .inl lv3
  have v3 : ∀ {B : Gd} {pos : Pos}, QX κ B X (.Name ("token" : Str) pos) (mVar 3) := qpx_var 3 n3 vi3 (by decide) (by decide)
  have s3 : ∀ {B : Gd} {e : Expr} {p p' : Pos} {f : Ev → R D}, QX κ B X e f → noComp e = true → QZ κ B X (.Assign [.Name ("token" : Str) p'] e p) (zSet 3 f) := fun h h2 => qy_set cx hnd n3 l3 (.inl (hfn _)) h h2
  have hg_token_at : Gl X ("token_at" : Str) := by show X.env.scope.names.lookup ("token_at" : Str) = _; rw [hsc]; rfl
  have hg_len : Gl X ("len" : Str) := by show X.env.scope.names.lookup ("len" : Str) = _; rw [hsc]; rfl
  refine qpzs_cons (F1 := S_cut_into_tokens_0) (F2 := F_cut_into_tokens_1) ?_ ?_
  · exact w1 (qpxf_lst (qpxs_nil)) rfl
  refine qpzs_cons (F1 := S_cut_into_tokens_1) (F2 := F_cut_into_tokens_2) ?_ ?_
  · exact s2 (qpx_int) rfl
  refine qpzs_cons (F1 := S_cut_into_tokens_2) (F2 := F_cut_into_tokens_3) ?_ ?_
  · exact qpz_while cx 40 (qpxt_lt ((v2).read) ((qy_len hg_len b_len ((v0).read) rfl).read) (mark_no rfl)) (qpzs_cons (s3 (qy_call cx k_token_at rfl hg_token_at (qys_cons (v0) (qys_cons (v2) (qpxs_nil) rfl) rfl) (by decide) rfl (mlen_cons (mlen_cons (mlen_nil)))) rfl) (qpzs_cons (a1 (v3) rfl rfl) (qpzs_one (ua2 (qy_len hg_len b_len ((v3).read) rfl)))))
  refine qpzs_frz 1 (F := _) ?_
  exact qpzs_one (qpz_ret cx (v1))
/-! ### piece_of -/
def F_piece_of_1 : Ev → SR := zRet (mTup (mCons (mC (.str [115, 105, 103, 110])) (mCons (mVar 0) (mCons (mVar 1) (mNil)))))
def F_piece_of : Ev → SR := zSeq (zIf (m2t oIn (mVar 0) (mC c_PLACES)) (zRet (mTup (mCons (mC (.str [112, 108, 97, 99, 101])) (mCons (m2 oIx (mVar 0) (mC (.int 1))) (mCons (mVar 1) (mNil)))))) (SR.next)) F_piece_of_1
def m_piece_of (ds : List D) : R D := finR (F_piece_of (startE 2 ds))
theorem s_piece_of : FnScope [("token" : Str), ("part" : Str)] [("token" : Str), ("part" : Str)] (defScope (top 10)) := ⟨rfl, rfl, rfl, by decide +kernel, rfl, by decide +kernel, by decide +kernel⟩
theorem d_piece_of {κ : Nat → Addr} {X : Cx} {B : Gd} (cx : Cxo X) (hcalm : X.calm = true) (hN : X.N = [("token" : Str), ("part" : Str)]) (hsc : X.env.scope = defScope (top 10)) (hfn : ∀ y, X.fn y = true) (hu : X.A.units + 64 < cLine) (c_PLACES' : ∃ u v, X.mg ("PLACES" : Str) = some u ∧ RelV v u ∧ ∀ G, Den ⟨X.K, κ⟩ G v c_PLACES) : QZs κ B X (defBody (top 10)) F_piece_of := by
  have hnd : X.N.Nodup := by rw [hN]; decide +kernel
  have n0 : X.N[0]? = some ("token" : Str) := by rw [hN]; rfl
  have lv0 : X.env.scope.names.lookup ("token" : Str) = some .local := by rw [hsc]; rfl
  have l0 : Loc X.env.scope ("token" : Str) := .inl lv0
  have vi0 : Vis X.env.scope ("token" : Str) := .inl lv0
  have v0 : ∀ {B : Gd} {pos : Pos}, QX κ B X (.Name ("token" : Str) pos) (mVar 0) := qpx_var 0 n0 vi0 (by decide) (by decide)
  have n1 : X.N[1]? = some ("part" : Str) := by rw [hN]; rfl
  have lv1 : X.env.scope.names.lookup ("part" : Str) = some .local := by rw [hsc]; rfl
  have l1 : Loc X.env.scope ("part" : Str) := .inl lv1
  have vi1 : Vis X.env.scope ("part" : Str) := .inl lv1
  have v1 : ∀ {B : Gd} {pos : Pos}, QX κ B X (.Name ("part" : Str) pos) (mVar 1) := qpx_var 1 n1 vi1 (by decide) (by decide)
  have hg_PLACES : Gl X ("PLACES" : Str) := by show X.env.scope.names.lookup ("PLACES" : Str) = _; rw [hsc]; rfl
  have g_PLACES : ∀ {B : Gd} {pos : Pos}, QX κ B X (.Name ("PLACES" : Str) pos) (mC c_PLACES) := let ⟨_, _, h1, h2, h3⟩ := c_PLACES'; qpx_glob hg_PLACES h1 h2 h3 (by decide)
  refine qpzs_cons (F1 := zIf (m2t oIn (mVar 0) (mC c_PLACES)) (zRet (mTup (mCons (mC (.str [112, 108, 97, 99, 101])) (mCons (m2 oIx (mVar 0) (mC (.int 1))) (mCons (mVar 1) (mNil)))))) (SR.next)) (F2 := F_piece_of_1) ?_ ?_
  · exact qpz_if cx (qpxt_in hu ((v0).read) ((g_PLACES).read) (mark_no rfl)) (qpzs_one (qpz_ret cx (qpx_tup (qys_cons (qpx_str (l := [112, 108, 97, 99, 101]) (by decide +kernel)) (qys_cons (qy_ix ((v0).read) ((qpx_int).read) rfl) (qys_cons (v1) (qpxs_nil) rfl) rfl) rfl)))) (qpzs_nil)
  exact qpzs_one (qpz_ret cx (qpx_tup (qys_cons (qpx_str (l := [115, 105, 103, 110]) (by decide +kernel)) (qys_cons (v0) (qys_cons (v1) (qpxs_nil) rfl) rfl) rfl)))
/-! ### number_pieces -/
def L_number_pieces_1 : Ev → SR := zIf (m2t oEq (mVar 5) (mC (.str [91]))) (zSeq (zIf (mT (mVar 3)) (SR.exc 3) (SR.next)) (zSeq (zSet 3 (mC (.bl true))) (zAug 2 (fun i j => i + j) (mC (.int 1))))) (zIf (m2t oEq (mVar 5) (mC (.str [93]))) (zSeq (zIf (mNot (mT (mVar 3))) (SR.exc 3) (SR.next)) (zSeq (zIf (m2t oEq (m2 oIx (mVar 0) (m2 oSub (mVar 4) (mC (.int 1)))) (mC (.str [91]))) (SR.exc 3) (SR.next)) (zSet 3 (mC (.bl false))))) (zApp 1 (mCall m_piece_of (mCons (mVar 5) (mCons (mIf (mT (mVar 3)) (mVar 2) (mC (.int 0))) (mNil))))))
def S_number_pieces_6 : Ev → SR := zRet (mVar 1)
def F_number_pieces_6 : Ev → SR := fun δ => (S_number_pieces_6) (frzE 1 δ)
def S_number_pieces_5 : Ev → SR := zIf (m2t oGt (mVar 2) (mC c_MOST_LACKING_PARTS)) (SR.exc 3) (SR.next)
def F_number_pieces_5 : Ev → SR := zSeq (S_number_pieces_5) F_number_pieces_6
def S_number_pieces_4 : Ev → SR := zIf (mT (mVar 3)) (SR.exc 3) (SR.next)
def F_number_pieces_4 : Ev → SR := zSeq (S_number_pieces_4) F_number_pieces_5
def S_number_pieces_3 : Ev → SR := zFor (fun δ => ((mVar 0) δ).bind enumD) (bTup 2 (bsCons (bN 4) (bsCons (bN 5) (bsNil)))) (L_number_pieces_1)
def F_number_pieces_3 : Ev → SR := zSeq (S_number_pieces_3) F_number_pieces_4
def S_number_pieces_2 : Ev → SR := zSet 3 (mC (.bl false))
def F_number_pieces_2 : Ev → SR := zSeq (S_number_pieces_2) F_number_pieces_3
def S_number_pieces_1 : Ev → SR := zSet 2 (mC (.int 0))
def F_number_pieces_1 : Ev → SR := zSeq (S_number_pieces_1) F_number_pieces_2
def S_number_pieces_0 : Ev → SR := zOwn 1 (fun δ => lim ((mNil) δ))
def F_number_pieces : Ev → SR := zSeq (S_number_pieces_0) F_number_pieces_1
def m_number_pieces (ds : List D) : R D := finR (F_number_pieces (startE 6 ds))
theorem s_number_pieces : FnScope [("tokens" : Str), ("pieces" : Str), ("parts" : Str), ("inside" : Str), ("k" : Str), ("token" : Str)] [("tokens" : Str)] (defScope (top 11)) := ⟨rfl, rfl, rfl, by decide +kernel, rfl, by decide +kernel, by decide +kernel⟩
theorem d_number_pieces {κ : Nat → Addr} {X : Cx} {B : Gd} (cx : Cxo X) (hcalm : X.calm = true) (hN : X.N = [("tokens" : Str), ("pieces" : Str), ("parts" : Str), ("inside" : Str), ("k" : Str), ("token" : Str)]) (hsc : X.env.scope = defScope (top 11)) (hfn : ∀ y, X.fn y = true) (hu : X.A.units + 64 < cLine) (k_piece_of : Cal κ X ("piece_of" : Str) 2 m_piece_of) (c_MOST_LACKING_PARTS' : ∃ u v, X.mg ("MOST_LACKING_PARTS" : Str) = some u ∧ RelV v u ∧ ∀ G, Den ⟨X.K, κ⟩ G v c_MOST_LACKING_PARTS) (b_enumerate : X.mg ("enumerate" : Str) = none) (x_BadForm : ExcAt κ X ("BadForm" : Str) 3) : QZs κ B X (defBody (top 11)) F_number_pieces := by
  have hnd : X.N.Nodup := by rw [hN]; decide +kernel
  have n0 : X.N[0]? = some ("tokens" : Str) := by rw [hN]; rfl
  have lv0 : X.env.scope.names.lookup ("tokens" : Str) = some .local := by rw [hsc]; rfl
  have l0 : Loc X.env.scope ("tokens" : Str) := .inl lv0
  have vi0 : Vis X.env.scope ("tokens" : Str) := .inl lv0
  have v0 : ∀ {B : Gd} {pos : Pos}, QX κ B X (.Name ("tokens" : Str) pos) (mVar 0) := qpx_var 0 n0 vi0 (by decide) (by decide)
  have n1 : X.N[1]? = some ("pieces" : Str) := by rw [hN]; rfl
  have lv1 : X.env.scope.names.lookup ("pieces" : Str) = some .local := by rw [hsc]; rfl
  have l1 : Loc X.env.scope ("pieces" : Str) := .inl lv1
  have vi1 : Vis X.env.scope ("pieces" : Str) := .inl lv1
  have v1 : ∀ {B : Gd} {pos : Pos}, QX κ B X (.Name ("pieces" : Str) pos) (mVar 1) := qpx_var 1 n1 vi1 (by decide) (by decide)
  have w1 : ∀ {B : Gd} {e : Expr} {p p' : Pos} {f : Ev → R (List D)}, QXf κ B X e f → noComp e = true → QZ κ B X (.Assign [.Name ("pieces" : Str) p'] e p) (zOwn 1 f) := fun h h2 => qy_own cx hnd n1 l1 (.inl (hfn _)) h h2
  have a1 : ∀ {B : Gd} {e : Expr} {p p' p2 ap : Pos} {f : Ev → R D}, QX κ B X e f → noStar e = true → (ap.endLine == p'.line) = true → QZ κ B X (.Expr (.Call (.Attribute (.Name ("pieces" : Str) p) "append" ap) [e] [] p') p2) (zApp 1 f) := fun h h2 h3 => qy_append cx n1 vi1 (by decide) (by decide) h h2 h3
  have r1 : ∀ {B : Gd} {pos : Pos}, QXr κ B X (.Name ("pieces" : Str) pos) (mVarR 1) := qpx_varR 1 n1 vi1 (by decide) (by decide)
  have n2 : X.N[2]? = some ("parts" : Str) := by rw [hN]; rfl
  have lv2 : X.env.scope.names.lookup ("parts" : Str) = some .local := by rw [hsc]; rfl
  have l2 : Loc X.env.scope ("parts" : Str) := .inl lv2
  have vi2 : Vis X.env.scope ("parts" : Str) := .inl lv2
  have v2 : ∀ {B : Gd} {pos : Pos}, QX κ B X (.Name ("parts" : Str) pos) (mVar 2) := qpx_var 2 n2 vi2 (by decide) (by decide)
  have s2 : ∀ {B : Gd} {e : Expr} {p p' : Pos} {f : Ev → R D}, QX κ B X e f → noComp e = true → QZ κ B X (.Assign [.Name ("parts" : Str) p'] e p) (zSet 2 f) := fun h h2 => qy_set cx hnd n2 l2 (.inl (hfn _)) h h2
  have ua2 : ∀ {B : Gd} {e : Expr} {p p' : Pos} {f : Ev → R D}, QX κ B X e f → QZ κ B X (.AugAssign (.Name ("parts" : Str) p') .Add e p) (zAug 2 (fun i j => i + j) f) := fun h => qpz_aug cx (fun _ => ip_add) hnd n2 l2 (.inl (hfn _)) h
  have n3 : X.N[3]? = some ("inside" : Str) := by rw [hN]; rfl
  have lv3 : X.env.scope.names.lookup ("inside" : Str) = some .local := by rw [hsc]; rfl
  have l3 : Loc X.env.scope ("inside" : Str) := .inl lv3
  have vi3 : Vis X.env.scope ("inside" : Str) := .inl lv3
  have v3 : ∀ {B : Gd} {pos : Pos}, QX κ B X (.Name ("inside" : Str) pos) (mVar 3) := qpx_var 3 n3 vi3 (by decide) (by decide)
  have s3 : ∀ {B : Gd} {e : Expr} {p p' : Pos} {f : Ev → R D}, QX κ B X e f → noComp e = true → QZ κ B X (.Assign [.Name ("inside" : Str) p'] e p) (zSet 3 f) := fun h h2 => qy_set cx hnd n3 l3 (.inl (hfn _)) h h2
  have n4 : X.N[4]? = some ("k" : Str) := by rw [hN]; rfl
  have lv4 : X.env.scope.names.lookup ("k" : Str) = some .local := by rw [hsc]; rfl
  have l4 : Loc X.env.scope ("k" : Str) := .inl lv4
  have vi4 : Vis X.env.scope ("k" : Str) := .inl lv4
  have v4 : ∀ {B : Gd} {pos : Pos}, QX κ B X (.Name ("k" : Str) pos) (mVar 4) := qpx_var 4 n4 vi4 (by decide) (by decide)
  have t4 : ∀ {B : Gd} {p : Pos}, QGz κ B X (.Name ("k" : Str) p) (bN 4) := qpgz_name cx hnd n4 l4 (.inl (hfn _))
  have n5 : X.N[5]? = some ("token" : Str) := by rw [hN]; rfl
  have lv5 : X.env.scope.names.lookup ("token" : Str) = some .local := by rw [hsc]; rfl
  have l5 : Loc X.env.scope ("token" : Str) := .inl lv5
  have vi5 : Vis X.env.scope ("token" : Str) := .inl lv5
  have v5 : ∀ {B : Gd} {pos : Pos}, QX κ B X (.Name ("token" : Str) pos) (mVar 5) := qpx_var 5 n5 vi5 (by decide) (by decide)
  have t5 : ∀ {B : Gd} {p : Pos}, QGz κ B X (.Name ("token" : Str) p) (bN 5) := qpgz_name cx hnd n5 l5 (.inl (hfn _))
  have hg_piece_of : Gl X ("piece_of" : Str) := by show X.env.scope.names.lookup ("piece_of" : Str) = _; rw [hsc]; rfl
  have hg_MOST_LACKING_PARTS : Gl X ("MOST_LACKING_PARTS" : Str) := by show X.env.scope.names.lookup ("MOST_LACKING_PARTS" : Str) = _; rw [hsc]; rfl
  have hg_enumerate : Gl X ("enumerate" : Str) := by show X.env.scope.names.lookup ("enumerate" : Str) = _; rw [hsc]; rfl
  have hg_BadForm : Gl X ("BadForm" : Str) := by show X.env.scope.names.lookup ("BadForm" : Str) = _; rw [hsc]; rfl
  have g_MOST_LACKING_PARTS : ∀ {B : Gd} {pos : Pos}, QX κ B X (.Name ("MOST_LACKING_PARTS" : Str) pos) (mC c_MOST_LACKING_PARTS) := let ⟨_, _, h1, h2, h3⟩ := c_MOST_LACKING_PARTS'; qpx_glob hg_MOST_LACKING_PARTS h1 h2 h3 (by decide)
  refine qpzs_cons (F1 := S_number_pieces_0) (F2 := F_number_pieces_1) ?_ ?_
  · exact w1 (qpxf_lst (qpxs_nil)) rfl
  refine qpzs_cons (F1 := S_number_pieces_1) (F2 := F_number_pieces_2) ?_ ?_
  · exact s2 (qpx_int) rfl
  refine qpzs_cons (F1 := S_number_pieces_2) (F2 := F_number_pieces_3) ?_ ?_
  · exact s3 (qpx_bl) rfl
  refine qpzs_cons (F1 := S_number_pieces_3) (F2 := F_number_pieces_4) ?_ ?_
  · exact qy_forG cx hcalm (qpig_enum hg_enumerate b_enumerate (v0) rfl) (fun B => qy_tup hcalm (qy_cons (t4) (qy_cons (t5) (qpgzs_nil) rfl) rfl) rfl rfl) (fun B => qpzs_one (qpz_if cx (qpxt_eq hu ((v5).read) ((qpx_str (l := [91]) (by decide +kernel)).read) (mark_no rfl)) (qpzs_cons (qpz_if cx (qyt_val ((v3).read) rfl) (qpzs_one (qpz_raise cx hcalm x_BadForm hg_BadForm (by decide))) (qpzs_nil)) (qpzs_cons (s3 (qpx_bl) rfl) (qpzs_one (ua2 (qpx_int))))) (qpzs_one (qpz_if cx (qpxt_eq hu ((v5).read) ((qpx_str (l := [93]) (by decide +kernel)).read) (mark_no rfl)) (qpzs_cons (qpz_if cx (qpxt_not (qyt_val ((v3).read) rfl)) (qpzs_one (qpz_raise cx hcalm x_BadForm hg_BadForm (by decide))) (qpzs_nil)) (qpzs_cons (qpz_if cx (qpxt_eq hu ((qy_ix ((v0).read) ((qpx_sub ((v4).read) ((qpx_int).read)).read) rfl).read) ((qpx_str (l := [91]) (by decide +kernel)).read) (mark_no rfl)) (qpzs_one (qpz_raise cx hcalm x_BadForm hg_BadForm (by decide))) (qpzs_nil)) (qpzs_one (s3 (qpx_bl) rfl)))) (qpzs_one (a1 (qy_call cx k_piece_of rfl hg_piece_of (qys_cons (v5) (qys_cons (qpx_if (qyt_val ((v3).read) rfl) (v2) (qpx_int)) (qpxs_nil) rfl) rfl) (by decide) rfl (mlen_cons (mlen_cons (mlen_nil)))) rfl rfl)))))) rfl
  refine qpzs_cons (F1 := S_number_pieces_4) (F2 := F_number_pieces_5) ?_ ?_
  · exact qpz_if cx (qyt_val ((v3).read) rfl) (qpzs_one (qpz_raise cx hcalm x_BadForm hg_BadForm (by decide))) (qpzs_nil)
  refine qpzs_cons (F1 := S_number_pieces_5) (F2 := F_number_pieces_6) ?_ ?_
  · exact qpz_if cx (qpxt_gt ((v2).read) ((g_MOST_LACKING_PARTS).read) (mark_no rfl)) (qpzs_one (qpz_raise cx hcalm x_BadForm hg_BadForm (by decide))) (qpzs_nil)
  refine qpzs_frz 1 (F := _) ?_
  exact qpzs_one (qpz_ret cx (v1))
/-! ### read_form -/
def L_read_form_1 : Ev → SR := zIf (m2t oGt (mBL oCount (mVar 1) (mCons (mVar 2) (mNil))) (mC (.int 1))) (SR.exc 3) (SR.next)
def S_read_form_3 : Ev → SR := zRet (mCall m_number_pieces (mCons (mVar 1) (mNil)))
def F_read_form_3 : Ev → SR := S_read_form_3
def S_read_form_2 : Ev → SR := zFor (fun δ => ((mC c_PLACES) δ).bind itemsD) (bN 2) (L_read_form_1)
def F_read_form_2 : Ev → SR := zSeq (S_read_form_2) F_read_form_3
def S_read_form_1 : Ev → SR := zSet 1 (mCall m_cut_into_tokens (mCons (mVar 0) (mNil)))
def F_read_form_1 : Ev → SR := zSeq (S_read_form_1) F_read_form_2
def S_read_form_0 : Ev → SR := zIf (mOr (m2t oLt (m1 oLen (mVar 0)) (mC (.int 1))) (m2t oGt (m1 oLen (mVar 0)) (mC c_LONGEST_FORM))) (SR.exc 3) (SR.next)
def F_read_form : Ev → SR := zSeq (S_read_form_0) F_read_form_1
def m_read_form (ds : List D) : R D := finR (F_read_form (startE 3 ds))
theorem s_read_form : FnScope [("form" : Str), ("tokens" : Str), ("place" : Str)] [("form" : Str)] (defScope (top 12)) := ⟨rfl, rfl, rfl, by decide +kernel, rfl, by decide +kernel, by decide +kernel⟩
theorem d_read_form {κ : Nat → Addr} {X : Cx} {B : Gd} (cx : Cxo X) (hcalm : X.calm = true) (hN : X.N = [("form" : Str), ("tokens" : Str), ("place" : Str)]) (hsc : X.env.scope = defScope (top 12)) (hfn : ∀ y, X.fn y = true) (hu : X.A.units + 64 < cLine) (k_cut_into_tokens : Cal κ X ("cut_into_tokens" : Str) 1 m_cut_into_tokens) (k_number_pieces : Cal κ X ("number_pieces" : Str) 1 m_number_pieces) (c_LONGEST_FORM' : ∃ u v, X.mg ("LONGEST_FORM" : Str) = some u ∧ RelV v u ∧ ∀ G, Den ⟨X.K, κ⟩ G v c_LONGEST_FORM) (c_PLACES' : ∃ u v, X.mg ("PLACES" : Str) = some u ∧ RelV v u ∧ ∀ G, Den ⟨X.K, κ⟩ G v c_PLACES) (b_len : X.mg ("len" : Str) = none) (x_BadForm : ExcAt κ X ("BadForm" : Str) 3) : QZs κ B X (defBody (top 12)) F_read_form := by
  have hnd : X.N.Nodup := by rw [hN]; decide +kernel
  have n0 : X.N[0]? = some ("form" : Str) := by rw [hN]; rfl
  have lv0 : X.env.scope.names.lookup ("form" : Str) = some .local := by rw [hsc]; rfl
  have l0 : Loc X.env.scope ("form" : Str) := .inl lv0
  have vi0 : Vis X.env.scope ("form" : Str) := .inl lv0
  have v0 : ∀ {B : Gd} {pos : Pos}, QX κ B X (.Name ("form" : Str) pos) (mVar 0) := qpx_var 0 n0 vi0 (by decide) (by decide)
  have n1 : X.N[1]? = some ("tokens" : Str) := by rw [hN]; rfl
  have lv1 : X.env.scope.names.lookup ("tokens" : Str) = some .local := by rw [hsc]; rfl
  have l1 : Loc X.env.scope ("tokens" : Str) := .inl lv1
  have vi1 : Vis X.env.scope ("tokens" : Str) := .inl lv1
  have v1 : ∀ {B : Gd} {pos : Pos}, QX κ B X (.Name ("tokens" : Str) pos) (mVar 1) := qpx_var 1 n1 vi1 (by decide) (by decide)
  have s1 : ∀ {B : Gd} {e : Expr} {p p' : Pos} {f : Ev → R D}, QX κ B X e f → noComp e = true → QZ κ B X (.Assign [.Name ("tokens" : Str) p'] e p) (zSet 1 f) := fun h h2 => qy_set cx hnd n1 l1 (.inl (hfn _)) h h2
  have n2 : X.N[2]? = some ("place" : Str) := by rw [hN]; rfl
  have lv2 : X.env.scope.names.lookup ("place" : Str) = some .local := by rw [hsc]; rfl
  have l2 : Loc X.env.scope ("place" : Str) := .inl lv2
  have vi2 : Vis X.env.scope ("place" : Str) := .inl lv2
  have v2 : ∀ {B : Gd} {pos : Pos}, QX κ B X (.Name ("place" : Str) pos) (mVar 2) := qpx_var 2 n2 vi2 (by decide) (by decide)
  have t2 : ∀ {B : Gd} {p : Pos}, QGz κ B X (.Name ("place" : Str) p) (bN 2) := qpgz_name cx hnd n2 l2 (.inl (hfn _))
  have hg_cut_into_tokens : Gl X ("cut_into_tokens" : Str) := by show X.env.scope.names.lookup ("cut_into_tokens" : Str) = _; rw [hsc]; rfl
  have hg_number_pieces : Gl X ("number_pieces" : Str) := by show X.env.scope.names.lookup ("number_pieces" : Str) = _; rw [hsc]; rfl
  have hg_LONGEST_FORM : Gl X ("LONGEST_FORM" : Str) := by show X.env.scope.names.lookup ("LONGEST_FORM" : Str) = _; rw [hsc]; rfl
  have hg_PLACES : Gl X ("PLACES" : Str) := by show X.env.scope.names.lookup ("PLACES" : Str) = _; rw [hsc]; rfl
  have hg_len : Gl X ("len" : Str) := by show X.env.scope.names.lookup ("len" : Str) = _; rw [hsc]; rfl
  have hg_BadForm : Gl X ("BadForm" : Str) := by show X.env.scope.names.lookup ("BadForm" : Str) = _; rw [hsc]; rfl
  have g_LONGEST_FORM : ∀ {B : Gd} {pos : Pos}, QX κ B X (.Name ("LONGEST_FORM" : Str) pos) (mC c_LONGEST_FORM) := let ⟨_, _, h1, h2, h3⟩ := c_LONGEST_FORM'; qpx_glob hg_LONGEST_FORM h1 h2 h3 (by decide)
  have g_PLACES : ∀ {B : Gd} {pos : Pos}, QX κ B X (.Name ("PLACES" : Str) pos) (mC c_PLACES) := let ⟨_, _, h1, h2, h3⟩ := c_PLACES'; qpx_glob hg_PLACES h1 h2 h3 (by decide)
  refine qpzs_cons (F1 := S_read_form_0) (F2 := F_read_form_1) ?_ ?_
  · exact qpz_if cx ((qpxw_or (qpxt_lt ((qy_len hg_len b_len ((v0).read) rfl).read) ((qpx_int).read) (mark_no rfl)) (qpxw_or1 (qpxt_gt ((qy_len hg_len b_len ((v0).read) rfl).read) ((g_LONGEST_FORM).read) (mark_no rfl)))).t) (qpzs_one (qpz_raise cx hcalm x_BadForm hg_BadForm (by decide))) (qpzs_nil)
  refine qpzs_cons (F1 := S_read_form_1) (F2 := F_read_form_2) ?_ ?_
  · exact s1 (qy_call cx k_cut_into_tokens rfl hg_cut_into_tokens (qys_cons (v0) (qpxs_nil) rfl) (by decide) rfl (mlen_cons (mlen_nil))) rfl
  refine qpzs_cons (F1 := S_read_form_2) (F2 := F_read_form_3) ?_ ?_
  · exact qy_for cx hcalm (qpiz_seq (g_PLACES)) (fun B => t2) (fun B => qpzs_one (qpz_if cx (qpxt_gt ((qy_count ((v1).read) (qys_cons (v2) (qpxs_nil) rfl) rfl rfl rfl).read) ((qpx_int).read) (mark_no rfl)) (qpzs_one (qpz_raise cx hcalm x_BadForm hg_BadForm (by decide))) (qpzs_nil))) rfl
  exact qpzs_one (qpz_ret cx (qy_call cx k_number_pieces rfl hg_number_pieces (qys_cons (v1) (qpxs_nil) rfl) (by decide) rfl (mlen_cons (mlen_nil))))
/-! ### law_whole -/
def F_law_whole : Ev → SR := zRet (mAndV (m1 (fun x => blR (isTy x .int)) (mVar 0)) (mNotV (m1 (fun x => blR (isTy x .bool)) (mVar 0))))
def m_law_whole (ds : List D) : R D := finR (F_law_whole (startE 1 ds))
theorem s_law_whole : FnScope [("_law_found" : Str)] [("_law_found" : Str)] (defScope (top 15)) := ⟨rfl, rfl, rfl, by decide +kernel, rfl, by decide +kernel, by decide +kernel⟩
theorem d_law_whole {κ : Nat → Addr} {X : Cx} {B : Gd} (cx : Cxo X) (hcalm : X.calm = true) (hN : X.N = [("_law_found" : Str)]) (hsc : X.env.scope = defScope (top 15)) (hfn : ∀ y, X.fn y = true) (hu : X.A.units + 64 < cLine) (b_bool : X.mg ("bool" : Str) = none) (b_int : X.mg ("int" : Str) = none) (b_isinstance : X.mg ("isinstance" : Str) = none) : QZs κ B X (defBody (top 15)) F_law_whole := by
  have hnd : X.N.Nodup := by rw [hN]; decide +kernel
  have n0 : X.N[0]? = some ("_law_found" : Str) := by rw [hN]; rfl
  have lv0 : X.env.scope.names.lookup ("_law_found" : Str) = some .local := by rw [hsc]; rfl
  have l0 : Loc X.env.scope ("_law_found" : Str) := .inl lv0
  have vi0 : Vis X.env.scope ("_law_found" : Str) := .inl lv0
  have v0 : ∀ {B : Gd} {pos : Pos}, QX κ B X (.Name ("_law_found" : Str) pos) (mVar 0) := qpx_var 0 n0 vi0 (by decide) (by decide)
  have hg_bool : Gl X ("bool" : Str) := by show X.env.scope.names.lookup ("bool" : Str) = _; rw [hsc]; rfl
  have hg_int : Gl X ("int" : Str) := by show X.env.scope.names.lookup ("int" : Str) = _; rw [hsc]; rfl
  have hg_isinstance : Gl X ("isinstance" : Str) := by show X.env.scope.names.lookup ("isinstance" : Str) = _; rw [hsc]; rfl
  exact qpzs_one (qpz_ret cx (qpx_and (qy_isinst .int (by decide +kernel) hg_isinstance b_isinstance hg_int b_int (by decide) (by decide) ((v0).read) rfl) (qpx_one (qpx_not (qy_isinst .bool (by decide +kernel) hg_isinstance b_isinstance hg_bool b_bool (by decide) (by decide) ((v0).read) rfl)))))
/-! ### law -/
def L_law_1 : Ev → SR := zSeq (zIf (mOr (mNot (mT (m1 (fun x => blR (isTy x .tuple)) (m2 oIx (mVar 4) (mVar 5))))) (m2t oNe (m1 oLen (m2 oIx (mVar 4) (mVar 5))) (mC (.int 3)))) (zRet (mC (.bl false))) (SR.next)) (zSeq (zIf (mOr (mNot (mT (m1 (fun x => blR (isTy x .str)) (m2 oIx (m2 oIx (mVar 4) (mVar 5)) (mC (.int 0)))))) (mNot (mT (m1 (fun x => blR (isTy x .str)) (m2 oIx (m2 oIx (mVar 4) (mVar 5)) (mC (.int 1))))))) (zRet (mC (.bl false))) (SR.next)) (zIf (mOr (mNot (mT (mCall m_law_whole (mCons (m2 oIx (m2 oIx (mVar 4) (mVar 5)) (mC (.int 2))) (mNil))))) (m2t oNe (m2 oIx (mVar 4) (mVar 5)) (m2 oIx (mVar 3) (mVar 5)))) (zRet (mC (.bl false))) (SR.next)))
def S_law_7 : Ev → SR := zRet (mC (.bl true))
def F_law_7 : Ev → SR := S_law_7
def S_law_6 : Ev → SR := zFor (fun δ => ((mCons (m1 oLen (mVar 3)) (mNil)) δ).bind iR1) (bN 5) (L_law_1)
def F_law_6 : Ev → SR := zSeq (S_law_6) F_law_7
def S_law_5 : Ev → SR := zIf (mOr (mNot (mT (m1 (fun x => blR (isTy x .list)) (mVar 4)))) (m2t oNe (m1 oLen (mVar 4)) (m1 oLen (mVar 3)))) (zRet (mC (.bl false))) (SR.next)
def F_law_5 : Ev → SR := zSeq (S_law_5) F_law_6
def S_law_4 : Ev → SR := zSet 4 (mCall m_read_form (mCons (mCall m_law_form (mCons (mVar 1) (mNil))) (mNil)))
def F_law_4 : Ev → SR := zSeq (S_law_4) F_law_5
def S_law_3 : Ev → SR := zSet 3 (mCall m_law_pieces (mCons (mVar 1) (mNil)))
def F_law_3 : Ev → SR := zSeq (S_law_3) F_law_4
def S_law_2 : Ev → SR := zIf (m2t oEq (m2 oMod (mCall m_law_at (mCons (mVar 0) (mCons (mC (.int 2)) (mNil)))) (mC (.int 6))) (mC (.int 2))) (zSet 1 (mLst (mCons (mTup (mCons (mC (.int 0)) (mCons (mLst (mCons (mC (.str [60, 119, 62])) (mCons (mC (.str [60, 110, 62])) (mNil)))) (mNil)))) (mCons (mTup (mCons (mC (.int 1)) (mCons (mLst (mCons (mC (.str [60, 89, 62])) (mNil))) (mNil)))) (mCons (mTup (mCons (mC (.int 1)) (mCons (mLst (mCons (mC (.str [60, 121, 62])) (mCons (mC (.str [60, 100, 62])) (mNil)))) (mNil)))) (mCons (mTup (mCons (mC (.int 1)) (mCons (mLst (mCons (mC (.str [60, 109, 62])) (mNil))) (mNil)))) (mNil))))))) (SR.next)
def F_law_2 : Ev → SR := zSeq (S_law_2) F_law_3
def S_law_1 : Ev → SR := zIf (m2t oEq (m2 oMod (mCall m_law_at (mCons (mVar 0) (mCons (mC (.int 2)) (mNil)))) (mC (.int 6))) (mC (.int 1))) (zSeq (zSet 2 (m2 oSub (mC (.int 30)) (m1 oLen (mCall m_law_form (mCons (mVar 1) (mNil)))))) (zSet 1 (m2 oCat (m2 oCat (mLst (mCons (mTup (mCons (mC (.int 0)) (mCons (m2 oRep (mLst (mCons (mC (.str [122])) (mNil))) (m2 oDiv (mVar 2) (mC (.int 2)))) (mNil)))) (mNil))) (mVar 1)) (mLst (mCons (mTup (mCons (mC (.int 0)) (mCons (m2 oRep (mLst (mCons (mC (.str [122])) (mNil))) (m2 oSub (mVar 2) (m2 oDiv (mVar 2) (mC (.int 2))))) (mNil)))) (mNil)))))) (SR.next)
def F_law_1 : Ev → SR := zSeq (S_law_1) F_law_2
def S_law_0 : Ev → SR := zSet 1 (mCall m_law_built (mCons (mCall m_law_at (mCons (mVar 0) (mCons (mC (.int 1)) (mNil)))) (mCons (m2 (op2 oEq) (m2 oMod (mCall m_law_at (mCons (mVar 0) (mCons (mC (.int 0)) (mNil)))) (mC (.int 2))) (mC (.int 0))) (mNil))))
def F_law : Ev → SR := zSeq (S_law_0) F_law_1
def m_law (ds : List D) : R D := finR (F_law (startE 6 ds))
theorem s_law : FnScope [("_law_script" : Str), ("_law_parts" : Str), ("_law_room" : Str), ("_law_due" : Str), ("_law_found" : Str), ("_law_k" : Str)] [("_law_script" : Str)] (defScope (top 20)) := ⟨rfl, rfl, rfl, by decide +kernel, rfl, by decide +kernel, by decide +kernel⟩
theorem d_law {κ : Nat → Addr} {X : Cx} {B : Gd} (cx : Cxo X) (hcalm : X.calm = true) (hN : X.N = [("_law_script" : Str), ("_law_parts" : Str), ("_law_room" : Str), ("_law_due" : Str), ("_law_found" : Str), ("_law_k" : Str)]) (hsc : X.env.scope = defScope (top 20)) (hfn : ∀ y, X.fn y = true) (hu : X.A.units + 64 < cLine) (k_law_built : Cal κ X ("_law_built" : Str) 2 m_law_built) (k_law_at : Cal κ X ("_law_at" : Str) 2 m_law_at) (k_law_form : Cal κ X ("_law_form" : Str) 1 m_law_form) (k_law_pieces : Cal κ X ("_law_pieces" : Str) 1 m_law_pieces) (k_read_form : Cal κ X ("read_form" : Str) 1 m_read_form) (k_law_whole : Cal κ X ("_law_whole" : Str) 1 m_law_whole) (b_isinstance : X.mg ("isinstance" : Str) = none) (b_len : X.mg ("len" : Str) = none) (b_list : X.mg ("list" : Str) = none) (b_range : X.mg ("range" : Str) = none) (b_str : X.mg ("str" : Str) = none) (b_tuple : X.mg ("tuple" : Str) = none) : QZs κ B X (defBody (top 20)) F_law := by
  have hnd : X.N.Nodup := by rw [hN]; decide +kernel
  have n0 : X.N[0]? = some ("_law_script" : Str) := by rw [hN]; rfl
  have lv0 : X.env.scope.names.lookup ("_law_script" : Str) = some .local := by rw [hsc]; rfl
  have l0 : Loc X.env.scope ("_law_script" : Str) := .inl lv0
  have vi0 : Vis X.env.scope ("_law_script" : Str) := .inl lv0
  have v0 : ∀ {B : Gd} {pos : Pos}, QX κ B X (.Name ("_law_script" : Str) pos) (mVar 0) := qpx_var 0 n0 vi0 (by decide) (by decide)
  have n1 : X.N[1]? = some ("_law_parts" : Str) := by rw [hN]; rfl
  have lv1 : X.env.scope.names.lookup ("_law_parts" : Str) = some .local := by rw [hsc]; rfl
  have l1 : Loc X.env.scope ("_law_parts" : Str) := .inl lv1
  have vi1 : Vis X.env.scope ("_law_parts" : Str) := .inl lv1
  have v1 : ∀ {B : Gd} {pos : Pos}, QX κ B X (.Name ("_law_parts" : Str) pos) (mVar 1) := qpx_var 1 n1 vi1 (by decide) (by decide)
  have s1 : ∀ {B : Gd} {e : Expr} {p p' : Pos} {f : Ev → R D}, QX κ B X e f → noComp e = true → QZ κ B X (.Assign [.Name ("_law_parts" : Str) p'] e p) (zSet 1 f) := fun h h2 => qy_set cx hnd n1 l1 (.inl (hfn _)) h h2
  have n2 : X.N[2]? = some ("_law_room" : Str) := by rw [hN]; rfl
  have lv2 : X.env.scope.names.lookup ("_law_room" : Str) = some .local := by rw [hsc]; rfl
  have l2 : Loc X.env.scope ("_law_room" : Str) := .inl lv2
  have vi2 : Vis X.env.scope ("_law_room" : Str) := .inl lv2
  have v2 : ∀ {B : Gd} {pos : Pos}, QX κ B X (.Name ("_law_room" : Str) pos) (mVar 2) := qpx_var 2 n2 vi2 (by decide) (by decide)
  have s2 : ∀ {B : Gd} {e : Expr} {p p' : Pos} {f : Ev → R D}, QX κ B X e f → noComp e = true → QZ κ B X (.Assign [.Name ("_law_room" : Str) p'] e p) (zSet 2 f) := fun h h2 => qy_set cx hnd n2 l2 (.inl (hfn _)) h h2
  have n3 : X.N[3]? = some ("_law_due" : Str) := by rw [hN]; rfl
  have lv3 : X.env.scope.names.lookup ("_law_due" : Str) = some .local := by rw [hsc]; rfl
  have l3 : Loc X.env.scope ("_law_due" : Str) := .inl lv3
  have vi3 : Vis X.env.scope ("_law_due" : Str) := .inl lv3
  have v3 : ∀ {B : Gd} {pos : Pos}, QX κ B X (.Name ("_law_due" : Str) pos) (mVar 3) := qpx_var 3 n3 vi3 (by decide) (by decide)
  have s3 : ∀ {B : Gd} {e : Expr} {p p' : Pos} {f : Ev → R D}, QX κ B X e f → noComp e = true → QZ κ B X (.Assign [.Name ("_law_due" : Str) p'] e p) (zSet 3 f) := fun h h2 => qy_set cx hnd n3 l3 (.inl (hfn _)) h h2
  have n4 : X.N[4]? = some ("_law_found" : Str) := by rw [hN]; rfl
  have lv4 : X.env.scope.names.lookup ("_law_found" : Str) = some .local := by rw [hsc]; rfl
  have l4 : Loc X.env.scope ("_law_found" : Str) := .inl lv4
  have vi4 : Vis X.env.scope ("_law_found" : Str) := .inl lv4
  have v4 : ∀ {B : Gd} {pos : Pos}, QX κ B X (.Name ("_law_found" : Str) pos) (mVar 4) := qpx_var 4 n4 vi4 (by decide) (by decide)
  have s4 : ∀ {B : Gd} {e : Expr} {p p' : Pos} {f : Ev → R D}, QX κ B X e f → noComp e = true → QZ κ B X (.Assign [.Name ("_law_found" : Str) p'] e p) (zSet 4 f) := fun h h2 => qy_set cx hnd n4 l4 (.inl (hfn _)) h h2
  have n5 : X.N[5]? = some ("_law_k" : Str) := by rw [hN]; rfl
  have lv5 : X.env.scope.names.lookup ("_law_k" : Str) = some .local := by rw [hsc]; rfl
  have l5 : Loc X.env.scope ("_law_k" : Str) := .inl lv5
  have vi5 : Vis X.env.scope ("_law_k" : Str) := .inl lv5
  have v5 : ∀ {B : Gd} {pos : Pos}, QX κ B X (.Name ("_law_k" : Str) pos) (mVar 5) := qpx_var 5 n5 vi5 (by decide) (by decide)
  have t5 : ∀ {B : Gd} {p : Pos}, QGz κ B X (.Name ("_law_k" : Str) p) (bN 5) := qpgz_name cx hnd n5 l5 (.inl (hfn _))
  have hg_law_built : Gl X ("_law_built" : Str) := by show X.env.scope.names.lookup ("_law_built" : Str) = _; rw [hsc]; rfl
  have hg_law_at : Gl X ("_law_at" : Str) := by show X.env.scope.names.lookup ("_law_at" : Str) = _; rw [hsc]; rfl
  have hg_law_form : Gl X ("_law_form" : Str) := by show X.env.scope.names.lookup ("_law_form" : Str) = _; rw [hsc]; rfl
  have hg_law_pieces : Gl X ("_law_pieces" : Str) := by show X.env.scope.names.lookup ("_law_pieces" : Str) = _; rw [hsc]; rfl
  have hg_read_form : Gl X ("read_form" : Str) := by show X.env.scope.names.lookup ("read_form" : Str) = _; rw [hsc]; rfl
  have hg_law_whole : Gl X ("_law_whole" : Str) := by show X.env.scope.names.lookup ("_law_whole" : Str) = _; rw [hsc]; rfl
  have hg_isinstance : Gl X ("isinstance" : Str) := by show X.env.scope.names.lookup ("isinstance" : Str) = _; rw [hsc]; rfl
  have hg_len : Gl X ("len" : Str) := by show X.env.scope.names.lookup ("len" : Str) = _; rw [hsc]; rfl
  have hg_list : Gl X ("list" : Str) := by show X.env.scope.names.lookup ("list" : Str) = _; rw [hsc]; rfl
  have hg_range : Gl X ("range" : Str) := by show X.env.scope.names.lookup ("range" : Str) = _; rw [hsc]; rfl
  have hg_str : Gl X ("str" : Str) := by show X.env.scope.names.lookup ("str" : Str) = _; rw [hsc]; rfl
  have hg_tuple : Gl X ("tuple" : Str) := by show X.env.scope.names.lookup ("tuple" : Str) = _; rw [hsc]; rfl
  refine qpzs_cons (F1 := S_law_0) (F2 := F_law_1) ?_ ?_
  · exact s1 (qy_call cx k_law_built rfl hg_law_built (qys_cons (qy_call cx k_law_at rfl hg_law_at (qys_cons (v0) (qys_cons (qpx_int) (qpxs_nil) rfl) rfl) (by decide) rfl (mlen_cons (mlen_cons (mlen_nil)))) (qys_cons (qpx_eq hu ((qpx_mod ((qy_call cx k_law_at rfl hg_law_at (qys_cons (v0) (qys_cons (qpx_int) (qpxs_nil) rfl) rfl) (by decide) rfl (mlen_cons (mlen_cons (mlen_nil)))).read) ((qpx_int).read)).read) ((qpx_int).read) (mark_no rfl)) (qpxs_nil) rfl) rfl) (by decide) rfl (mlen_cons (mlen_cons (mlen_nil)))) rfl
  refine qpzs_cons (F1 := S_law_1) (F2 := F_law_2) ?_ ?_
  · exact qpz_if cx (qpxt_eq hu ((qpx_mod ((qy_call cx k_law_at rfl hg_law_at (qys_cons (v0) (qys_cons (qpx_int) (qpxs_nil) rfl) rfl) (by decide) rfl (mlen_cons (mlen_cons (mlen_nil)))).read) ((qpx_int).read)).read) ((qpx_int).read) (mark_no rfl)) (qpzs_cons (s2 (qpx_sub ((qpx_int).read) ((qy_len hg_len b_len ((qy_call cx k_law_form rfl hg_law_form (qys_cons (v1) (qpxs_nil) rfl) (by decide) rfl (mlen_cons (mlen_nil))).read) rfl).read)) rfl) (qpzs_one (s1 (qpx_cat ((qpx_cat ((qpx_lst (qys_cons (qpx_tup (qys_cons (qpx_int) (qys_cons (qpx_rep ((qpx_lst (qys_cons (qpx_str (l := [122]) (by decide +kernel)) (qpxs_nil) rfl)).read) ((qpx_div ((v2).read) ((qpx_int).read)).read)) (qpxs_nil) rfl) rfl)) (qpxs_nil) rfl)).read) ((v1).read)).read) ((qpx_lst (qys_cons (qpx_tup (qys_cons (qpx_int) (qys_cons (qpx_rep ((qpx_lst (qys_cons (qpx_str (l := [122]) (by decide +kernel)) (qpxs_nil) rfl)).read) ((qpx_sub ((v2).read) ((qpx_div ((v2).read) ((qpx_int).read)).read)).read)) (qpxs_nil) rfl) rfl)) (qpxs_nil) rfl)).read)) rfl))) (qpzs_nil)
  refine qpzs_cons (F1 := S_law_2) (F2 := F_law_3) ?_ ?_
  · exact qpz_if cx (qpxt_eq hu ((qpx_mod ((qy_call cx k_law_at rfl hg_law_at (qys_cons (v0) (qys_cons (qpx_int) (qpxs_nil) rfl) rfl) (by decide) rfl (mlen_cons (mlen_cons (mlen_nil)))).read) ((qpx_int).read)).read) ((qpx_int).read) (mark_no rfl)) (qpzs_one (s1 (qpx_lst (qys_cons (qpx_tup (qys_cons (qpx_int) (qys_cons (qpx_lst (qys_cons (qpx_str (l := [60, 119, 62]) (by decide +kernel)) (qys_cons (qpx_str (l := [60, 110, 62]) (by decide +kernel)) (qpxs_nil) rfl) rfl)) (qpxs_nil) rfl) rfl)) (qys_cons (qpx_tup (qys_cons (qpx_int) (qys_cons (qpx_lst (qys_cons (qpx_str (l := [60, 89, 62]) (by decide +kernel)) (qpxs_nil) rfl)) (qpxs_nil) rfl) rfl)) (qys_cons (qpx_tup (qys_cons (qpx_int) (qys_cons (qpx_lst (qys_cons (qpx_str (l := [60, 121, 62]) (by decide +kernel)) (qys_cons (qpx_str (l := [60, 100, 62]) (by decide +kernel)) (qpxs_nil) rfl) rfl)) (qpxs_nil) rfl) rfl)) (qys_cons (qpx_tup (qys_cons (qpx_int) (qys_cons (qpx_lst (qys_cons (qpx_str (l := [60, 109, 62]) (by decide +kernel)) (qpxs_nil) rfl)) (qpxs_nil) rfl) rfl)) (qpxs_nil) rfl) rfl) rfl) rfl)) rfl)) (qpzs_nil)
  refine qpzs_cons (F1 := S_law_3) (F2 := F_law_4) ?_ ?_
  · exact s3 (qy_call cx k_law_pieces rfl hg_law_pieces (qys_cons (v1) (qpxs_nil) rfl) (by decide) rfl (mlen_cons (mlen_nil))) rfl
  refine qpzs_cons (F1 := S_law_4) (F2 := F_law_5) ?_ ?_
  · exact s4 (qy_call cx k_read_form rfl hg_read_form (qys_cons (qy_call cx k_law_form rfl hg_law_form (qys_cons (v1) (qpxs_nil) rfl) (by decide) rfl (mlen_cons (mlen_nil))) (qpxs_nil) rfl) (by decide) rfl (mlen_cons (mlen_nil))) rfl
  refine qpzs_cons (F1 := S_law_5) (F2 := F_law_6) ?_ ?_
  · exact qpz_if cx ((qpxw_or (qpxt_not (qyt_val ((qy_isinst .list (by decide +kernel) hg_isinstance b_isinstance hg_list b_list (by decide) (by decide) ((v4).read) rfl).read) rfl)) (qpxw_or1 (qpxt_ne hu ((qy_len hg_len b_len ((v4).read) rfl).read) ((qy_len hg_len b_len ((v3).read) rfl).read) (mark_no rfl)))).t) (qpzs_one (qpz_ret cx (qpx_bl))) (qpzs_nil)
  refine qpzs_cons (F1 := S_law_6) (F2 := F_law_7) ?_ ?_
  · exact qy_for cx hcalm (qyi_range1 hg_range b_range (qys_cons (qy_len hg_len b_len ((v3).read) rfl) (qpxs_nil) rfl) rfl) (fun B => t5) (fun B => qpzs_cons (qpz_if cx ((qpxw_or (qpxt_not (qyt_val ((qy_isinst .tuple (by decide +kernel) hg_isinstance b_isinstance hg_tuple b_tuple (by decide) (by decide) ((qy_ix ((v4).read) ((v5).read) rfl).read) rfl).read) rfl)) (qpxw_or1 (qpxt_ne hu ((qy_len hg_len b_len ((qy_ix ((v4).read) ((v5).read) rfl).read) rfl).read) ((qpx_int).read) (mark_no rfl)))).t) (qpzs_one (qpz_ret cx (qpx_bl))) (qpzs_nil)) (qpzs_cons (qpz_if cx ((qpxw_or (qpxt_not (qyt_val ((qy_isinst .str (by decide +kernel) hg_isinstance b_isinstance hg_str b_str (by decide) (by decide) ((qy_ix ((qy_ix ((v4).read) ((v5).read) rfl).read) ((qpx_int).read) rfl).read) rfl).read) rfl)) (qpxw_or1 (qpxt_not (qyt_val ((qy_isinst .str (by decide +kernel) hg_isinstance b_isinstance hg_str b_str (by decide) (by decide) ((qy_ix ((qy_ix ((v4).read) ((v5).read) rfl).read) ((qpx_int).read) rfl).read) rfl).read) rfl)))).t) (qpzs_one (qpz_ret cx (qpx_bl))) (qpzs_nil)) (qpzs_one (qpz_if cx ((qpxw_or (qpxt_not (qyt_val ((qy_call cx k_law_whole rfl hg_law_whole (qys_cons (qy_ix ((qy_ix ((v4).read) ((v5).read) rfl).read) ((qpx_int).read) rfl) (qpxs_nil) rfl) (by decide) rfl (mlen_cons (mlen_nil))).read) rfl)) (qpxw_or1 (qpxt_ne hu ((qy_ix ((v4).read) ((v5).read) rfl).read) ((qy_ix ((v3).read) ((v5).read) rfl).read) (mark_no rfl)))).t) (qpzs_one (qpz_ret cx (qpx_bl))) (qpzs_nil))))) rfl
  exact qpzs_one (qpz_ret cx (qpx_bl))
/-! ### what the top has written -/
structure TX (K : PySem.W.Frag) (mg : Str → Option Value) (κ : Nat → Addr) : Prop where
  fn_law_draws : ∃ f fd, Fun K ("_law_draws" : Str) ("_law_draws" : Str) (top 16) f fd ∧ mg ("_law_draws" : Str) = some (.ref f) ∧ Binds K fd [("_law_cell" : Str), ("_law_mixed" : Str), ("_law_many" : Str), ("_law_most" : Str)] []
  fn_law_built : ∃ f fd, Fun K ("_law_built" : Str) ("_law_built" : Str) (top 17) f fd ∧ mg ("_law_built" : Str) = some (.ref f) ∧ Binds K fd [("_law_cell" : Str), ("_law_mixed" : Str)] []
  fn_law_at : ∃ f fd, Fun K ("_law_at" : Str) ("_law_at" : Str) (top 14) f fd ∧ mg ("_law_at" : Str) = some (.ref f) ∧ Binds K fd [("_law_script" : Str), ("_law_k" : Str)] []
  fn_law_form : ∃ f fd, Fun K ("_law_form" : Str) ("_law_form" : Str) (top 18) f fd ∧ mg ("_law_form" : Str) = some (.ref f) ∧ Binds K fd [("_law_parts" : Str)] []
  fn_law_pieces : ∃ f fd, Fun K ("_law_pieces" : Str) ("_law_pieces" : Str) (top 19) f fd ∧ mg ("_law_pieces" : Str) = some (.ref f) ∧ Binds K fd [("_law_parts" : Str)] []
  fn_token_at : ∃ f fd, Fun K ("token_at" : Str) ("token_at" : Str) (top 8) f fd ∧ mg ("token_at" : Str) = some (.ref f) ∧ Binds K fd [("form" : Str), ("start" : Str)] []
  fn_cut_into_tokens : ∃ f fd, Fun K ("cut_into_tokens" : Str) ("cut_into_tokens" : Str) (top 9) f fd ∧ mg ("cut_into_tokens" : Str) = some (.ref f) ∧ Binds K fd [("form" : Str)] []
  fn_piece_of : ∃ f fd, Fun K ("piece_of" : Str) ("piece_of" : Str) (top 10) f fd ∧ mg ("piece_of" : Str) = some (.ref f) ∧ Binds K fd [("token" : Str), ("part" : Str)] []
  fn_number_pieces : ∃ f fd, Fun K ("number_pieces" : Str) ("number_pieces" : Str) (top 11) f fd ∧ mg ("number_pieces" : Str) = some (.ref f) ∧ Binds K fd [("tokens" : Str)] []
  fn_read_form : ∃ f fd, Fun K ("read_form" : Str) ("read_form" : Str) (top 12) f fd ∧ mg ("read_form" : Str) = some (.ref f) ∧ Binds K fd [("form" : Str)] []
  fn_law_whole : ∃ f fd, Fun K ("_law_whole" : Str) ("_law_whole" : Str) (top 15) f fd ∧ mg ("_law_whole" : Str) = some (.ref f) ∧ Binds K fd [("_law_found" : Str)] []
  fn_law : ∃ f fd, Fun K ("law" : Str) ("law" : Str) (top 20) f fd ∧ mg ("law" : Str) = some (.ref f) ∧ Binds K fd [("_law_script" : Str)] []
  c_PLACES : ∃ u v, mg ("PLACES" : Str) = some u ∧ RelV v u ∧ ∀ G, Den ⟨K, κ⟩ G v Lw.c_PLACES
  c_PLAIN_SIGNS : ∃ u v, mg ("PLAIN_SIGNS" : Str) = some u ∧ RelV v u ∧ ∀ G, Den ⟨K, κ⟩ G v Lw.c_PLAIN_SIGNS
  c_MOST_LACKING_PARTS : ∃ u v, mg ("MOST_LACKING_PARTS" : Str) = some u ∧ RelV v u ∧ ∀ G, Den ⟨K, κ⟩ G v Lw.c_MOST_LACKING_PARTS
  c_LONGEST_FORM : ∃ u v, mg ("LONGEST_FORM" : Str) = some u ∧ RelV v u ∧ ∀ G, Den ⟨K, κ⟩ G v Lw.c_LONGEST_FORM
  b_bool : mg ("bool" : Str) = none
  b_enumerate : mg ("enumerate" : Str) = none
  b_int : mg ("int" : Str) = none
  b_isinstance : mg ("isinstance" : Str) = none
  b_len : mg ("len" : Str) = none
  b_list : mg ("list" : Str) = none
  b_range : mg ("range" : Str) = none
  b_str : mg ("str" : Str) = none
  b_tuple : mg ("tuple" : Str) = none
  x_BadForm : ExcM κ K mg ("BadForm" : Str) 3
section
variable {P : Program} {w : World} {K : PySem.W.Frag} {mg : Str → Option Value} {base : Heap} {κ : Nat → Addr}
theorem ok_law_draws (T : TX K mg κ)  : MC P w K mg base κ ("_law_draws" : Str) [("_law_cell" : Str), ("_law_mixed" : Str), ("_law_many" : Str), ("_law_most" : Str)] m_law_draws 1 := by
  obtain ⟨f, fd, F, hm, hb⟩ := T.fn_law_draws
  refine ⟨f, fd, qfn_mirror (k := 0) F s_law_draws (fun X B cx hc e1 e2 e3 e4 e5 hN hsc hfn hr hfr => ?_), hm, F.kp, hb, F.at⟩
  subst e1 e2 e3 e4 e5
  exact d_law_draws cx hc hN hsc hfn hr.units T.b_range
theorem ok_law_built (T : TX K mg κ) (o_law_draws : MC P w K mg base κ ("_law_draws" : Str) [("_law_cell" : Str), ("_law_mixed" : Str), ("_law_many" : Str), ("_law_most" : Str)] m_law_draws 1) : MC P w K mg base κ ("_law_built" : Str) [("_law_cell" : Str), ("_law_mixed" : Str)] m_law_built 2 := by
  obtain ⟨f, fd, F, hm, hb⟩ := T.fn_law_built
  refine ⟨f, fd, qfn_mirror (k := 1) F s_law_built (fun X B cx hc e1 e2 e3 e4 e5 hN hsc hfn hr hfr => ?_), hm, F.kp, hb, F.at⟩
  subst e1 e2 e3 e4 e5
  exact d_law_built cx hc hN hsc hfn hr.units (o_law_draws.cal hr (by decide)) T.b_int T.b_range
theorem ok_law_at (T : TX K mg κ)  : MC P w K mg base κ ("_law_at" : Str) [("_law_script" : Str), ("_law_k" : Str)] m_law_at 1 := by
  obtain ⟨f, fd, F, hm, hb⟩ := T.fn_law_at
  refine ⟨f, fd, qfn_mirror (k := 0) F s_law_at (fun X B cx hc e1 e2 e3 e4 e5 hN hsc hfn hr hfr => ?_), hm, F.kp, hb, F.at⟩
  subst e1 e2 e3 e4 e5
  exact d_law_at cx hc hN hsc hfn hr.units T.b_len
theorem ok_law_form (T : TX K mg κ)  : MC P w K mg base κ ("_law_form" : Str) [("_law_parts" : Str)] m_law_form 1 := by
  obtain ⟨f, fd, F, hm, hb⟩ := T.fn_law_form
  refine ⟨f, fd, qfn_mirror (k := 0) F s_law_form (fun X B cx hc e1 e2 e3 e4 e5 hN hsc hfn hr hfr => ?_), hm, F.kp, hb, F.at⟩
  subst e1 e2 e3 e4 e5
  exact d_law_form cx hc hN hsc hfn hr.units 
theorem ok_law_pieces (T : TX K mg κ)  : MC P w K mg base κ ("_law_pieces" : Str) [("_law_parts" : Str)] m_law_pieces 1 := by
  obtain ⟨f, fd, F, hm, hb⟩ := T.fn_law_pieces
  refine ⟨f, fd, qfn_mirror (k := 0) F s_law_pieces (fun X B cx hc e1 e2 e3 e4 e5 hN hsc hfn hr hfr => ?_), hm, F.kp, hb, F.at⟩
  subst e1 e2 e3 e4 e5
  exact d_law_pieces cx hc hN hsc hfn hr.units T.b_len
theorem ok_token_at (T : TX K mg κ)  : MC P w K mg base κ ("token_at" : Str) [("form" : Str), ("start" : Str)] m_token_at 1 := by
  obtain ⟨f, fd, F, hm, hb⟩ := T.fn_token_at
  refine ⟨f, fd, qfn_mirror (k := 0) F s_token_at (fun X B cx hc e1 e2 e3 e4 e5 hN hsc hfn hr hfr => ?_), hm, F.kp, hb, F.at⟩
  subst e1 e2 e3 e4 e5
  exact d_token_at cx hc hN hsc hfn hr.units T.c_PLACES T.c_PLAIN_SIGNS (T.x_BadForm.at rfl rfl)
theorem ok_cut_into_tokens (T : TX K mg κ) (o_token_at : MC P w K mg base κ ("token_at" : Str) [("form" : Str), ("start" : Str)] m_token_at 1) : MC P w K mg base κ ("cut_into_tokens" : Str) [("form" : Str)] m_cut_into_tokens 2 := by
  obtain ⟨f, fd, F, hm, hb⟩ := T.fn_cut_into_tokens
  refine ⟨f, fd, qfn_mirror (k := 1) F s_cut_into_tokens (fun X B cx hc e1 e2 e3 e4 e5 hN hsc hfn hr hfr => ?_), hm, F.kp, hb, F.at⟩
  subst e1 e2 e3 e4 e5
  exact d_cut_into_tokens cx hc hN hsc hfn hr.units (o_token_at.cal hr (by decide)) T.b_len
theorem ok_piece_of (T : TX K mg κ)  : MC P w K mg base κ ("piece_of" : Str) [("token" : Str), ("part" : Str)] m_piece_of 1 := by
  obtain ⟨f, fd, F, hm, hb⟩ := T.fn_piece_of
  refine ⟨f, fd, qfn_mirror (k := 0) F s_piece_of (fun X B cx hc e1 e2 e3 e4 e5 hN hsc hfn hr hfr => ?_), hm, F.kp, hb, F.at⟩
  subst e1 e2 e3 e4 e5
  exact d_piece_of cx hc hN hsc hfn hr.units T.c_PLACES
theorem ok_number_pieces (T : TX K mg κ) (o_piece_of : MC P w K mg base κ ("piece_of" : Str) [("token" : Str), ("part" : Str)] m_piece_of 1) : MC P w K mg base κ ("number_pieces" : Str) [("tokens" : Str)] m_number_pieces 2 := by
  obtain ⟨f, fd, F, hm, hb⟩ := T.fn_number_pieces
  refine ⟨f, fd, qfn_mirror (k := 1) F s_number_pieces (fun X B cx hc e1 e2 e3 e4 e5 hN hsc hfn hr hfr => ?_), hm, F.kp, hb, F.at⟩
  subst e1 e2 e3 e4 e5
  exact d_number_pieces cx hc hN hsc hfn hr.units (o_piece_of.cal hr (by decide)) T.c_MOST_LACKING_PARTS T.b_enumerate (T.x_BadForm.at rfl rfl)
theorem ok_read_form (T : TX K mg κ) (o_cut_into_tokens : MC P w K mg base κ ("cut_into_tokens" : Str) [("form" : Str)] m_cut_into_tokens 2) (o_number_pieces : MC P w K mg base κ ("number_pieces" : Str) [("tokens" : Str)] m_number_pieces 2) : MC P w K mg base κ ("read_form" : Str) [("form" : Str)] m_read_form 3 := by
  obtain ⟨f, fd, F, hm, hb⟩ := T.fn_read_form
  refine ⟨f, fd, qfn_mirror (k := 2) F s_read_form (fun X B cx hc e1 e2 e3 e4 e5 hN hsc hfn hr hfr => ?_), hm, F.kp, hb, F.at⟩
  subst e1 e2 e3 e4 e5
  exact d_read_form cx hc hN hsc hfn hr.units (o_cut_into_tokens.cal hr (by decide)) (o_number_pieces.cal hr (by decide)) T.c_LONGEST_FORM T.c_PLACES T.b_len (T.x_BadForm.at rfl rfl)
theorem ok_law_whole (T : TX K mg κ)  : MC P w K mg base κ ("_law_whole" : Str) [("_law_found" : Str)] m_law_whole 1 := by
  obtain ⟨f, fd, F, hm, hb⟩ := T.fn_law_whole
  refine ⟨f, fd, qfn_mirror (k := 0) F s_law_whole (fun X B cx hc e1 e2 e3 e4 e5 hN hsc hfn hr hfr => ?_), hm, F.kp, hb, F.at⟩
  subst e1 e2 e3 e4 e5
  exact d_law_whole cx hc hN hsc hfn hr.units T.b_bool T.b_int T.b_isinstance
theorem ok_law (T : TX K mg κ) (o_law_built : MC P w K mg base κ ("_law_built" : Str) [("_law_cell" : Str), ("_law_mixed" : Str)] m_law_built 2) (o_law_at : MC P w K mg base κ ("_law_at" : Str) [("_law_script" : Str), ("_law_k" : Str)] m_law_at 1) (o_law_form : MC P w K mg base κ ("_law_form" : Str) [("_law_parts" : Str)] m_law_form 1) (o_law_pieces : MC P w K mg base κ ("_law_pieces" : Str) [("_law_parts" : Str)] m_law_pieces 1) (o_read_form : MC P w K mg base κ ("read_form" : Str) [("form" : Str)] m_read_form 3) (o_law_whole : MC P w K mg base κ ("_law_whole" : Str) [("_law_found" : Str)] m_law_whole 1) : MC P w K mg base κ ("law" : Str) [("_law_script" : Str)] m_law 4 := by
  obtain ⟨f, fd, F, hm, hb⟩ := T.fn_law
  refine ⟨f, fd, qfn_mirror (k := 3) F s_law (fun X B cx hc e1 e2 e3 e4 e5 hN hsc hfn hr hfr => ?_), hm, F.kp, hb, F.at⟩
  subst e1 e2 e3 e4 e5
  exact d_law cx hc hN hsc hfn hr.units (o_law_built.cal hr (by decide)) (o_law_at.cal hr (by decide)) (o_law_form.cal hr (by decide)) (o_law_pieces.cal hr (by decide)) (o_read_form.cal hr (by decide)) (o_law_whole.cal hr (by decide)) T.b_isinstance T.b_len T.b_list T.b_range T.b_str T.b_tuple
end
def spLaw (K : PySem.W.Frag) : Sp := fun vs H Q _ => ∃ (a : Addr) (ns : List Int), vs = [.ref a] ∧ SqL K H a (ns.map V.int) ∧ ns.length ≤ 63 ∧ ∀ H', Q (.bl true) H'
theorem all_mk {l : PySem.W.OpenLaw} {w : World} {K : PySem.W.Frag} {h : Heap} {mg : Str → Option Value} {fa : Addr} (main : ∀ ns : List Int, ns.length ≤ 63 → m_law [.lst (ns.map D.int)] = .ok (.bl true)) (X : K.In h) (G : h.Ns mainGlobals mg) (hfa : mg "law" = some (.ref fa))
    {f_law_draws : Addr} {oc_law_draws kV_law_draws dc_law_draws pm_law_draws cd_law_draws ct_law_draws : Value} {od_law_draws an_law_draws : Option Addr} {sl_law_draws : Array (Option Value)}
    {f_law_built : Addr} {oc_law_built kV_law_built dc_law_built pm_law_built cd_law_built ct_law_built : Value} {od_law_built an_law_built : Option Addr} {sl_law_built : Array (Option Value)}
    {f_law_at : Addr} {oc_law_at kV_law_at dc_law_at pm_law_at cd_law_at ct_law_at : Value} {od_law_at an_law_at : Option Addr} {sl_law_at : Array (Option Value)}
    {f_law_form : Addr} {oc_law_form kV_law_form dc_law_form pm_law_form cd_law_form ct_law_form : Value} {od_law_form an_law_form : Option Addr} {sl_law_form : Array (Option Value)}
    {f_law_pieces : Addr} {oc_law_pieces kV_law_pieces dc_law_pieces pm_law_pieces cd_law_pieces ct_law_pieces : Value} {od_law_pieces an_law_pieces : Option Addr} {sl_law_pieces : Array (Option Value)}
    {f_token_at : Addr} {oc_token_at kV_token_at dc_token_at pm_token_at cd_token_at ct_token_at : Value} {od_token_at an_token_at : Option Addr} {sl_token_at : Array (Option Value)}
    {f_cut_into_tokens : Addr} {oc_cut_into_tokens kV_cut_into_tokens dc_cut_into_tokens pm_cut_into_tokens cd_cut_into_tokens ct_cut_into_tokens : Value} {od_cut_into_tokens an_cut_into_tokens : Option Addr} {sl_cut_into_tokens : Array (Option Value)}
    {f_piece_of : Addr} {oc_piece_of kV_piece_of dc_piece_of pm_piece_of cd_piece_of ct_piece_of : Value} {od_piece_of an_piece_of : Option Addr} {sl_piece_of : Array (Option Value)}
    {f_number_pieces : Addr} {oc_number_pieces kV_number_pieces dc_number_pieces pm_number_pieces cd_number_pieces ct_number_pieces : Value} {od_number_pieces an_number_pieces : Option Addr} {sl_number_pieces : Array (Option Value)}
    {f_read_form : Addr} {oc_read_form kV_read_form dc_read_form pm_read_form cd_read_form ct_read_form : Value} {od_read_form an_read_form : Option Addr} {sl_read_form : Array (Option Value)}
    {f_law_whole : Addr} {oc_law_whole kV_law_whole dc_law_whole pm_law_whole cd_law_whole ct_law_whole : Value} {od_law_whole an_law_whole : Option Addr} {sl_law_whole : Array (Option Value)}
    {f_law : Addr} {oc_law kV_law dc_law pm_law cd_law ct_law : Value} {od_law an_law : Option Addr} {sl_law : Array (Option Value)}
    {a_PLACES' : Addr} {dd_PLACES : Option Addr} {its_PLACES : Array Value} {n_PLACES : Nat} {sl_PLACES : Array (Option Value)}
    {t_PLAIN_SIGNS : Tok} {qy_PLAIN_SIGNS : Str}
    {t_MOST_LACKING_PARTS : Tok}
    {t_LONGEST_FORM : Tok}
    {C_InkError : Addr}
    {C_BadForm : Addr}
    (a_law_draws : PySem.W.nsIn K mainGlobals ("_law_draws" : Str) = some (some (.ref f_law_draws)))
    (l_law_draws : K.lookup f_law_draws = some ⟨oc_law_draws, od_law_draws, .func (PySem.W.fnOf ("_law_draws" : Str) ("_law_draws" : Str) (defArgs (top 16)) (defBody (top 16)) (defScope (top 16)) .none kV_law_draws dc_law_draws pm_law_draws an_law_draws cd_law_draws ct_law_draws), sl_law_draws⟩)
    (d_law_draws : PySem.W.codeIn K cd_law_draws ("_law_draws" : Str) = true)
    (p_law_draws : PySem.W.keepIn K (.ref f_law_draws) = true)
    (a_law_built : PySem.W.nsIn K mainGlobals ("_law_built" : Str) = some (some (.ref f_law_built)))
    (l_law_built : K.lookup f_law_built = some ⟨oc_law_built, od_law_built, .func (PySem.W.fnOf ("_law_built" : Str) ("_law_built" : Str) (defArgs (top 17)) (defBody (top 17)) (defScope (top 17)) .none kV_law_built dc_law_built pm_law_built an_law_built cd_law_built ct_law_built), sl_law_built⟩)
    (d_law_built : PySem.W.codeIn K cd_law_built ("_law_built" : Str) = true)
    (p_law_built : PySem.W.keepIn K (.ref f_law_built) = true)
    (a_law_at : PySem.W.nsIn K mainGlobals ("_law_at" : Str) = some (some (.ref f_law_at)))
    (l_law_at : K.lookup f_law_at = some ⟨oc_law_at, od_law_at, .func (PySem.W.fnOf ("_law_at" : Str) ("_law_at" : Str) (defArgs (top 14)) (defBody (top 14)) (defScope (top 14)) .none kV_law_at dc_law_at pm_law_at an_law_at cd_law_at ct_law_at), sl_law_at⟩)
    (d_law_at : PySem.W.codeIn K cd_law_at ("_law_at" : Str) = true)
    (p_law_at : PySem.W.keepIn K (.ref f_law_at) = true)
    (a_law_form : PySem.W.nsIn K mainGlobals ("_law_form" : Str) = some (some (.ref f_law_form)))
    (l_law_form : K.lookup f_law_form = some ⟨oc_law_form, od_law_form, .func (PySem.W.fnOf ("_law_form" : Str) ("_law_form" : Str) (defArgs (top 18)) (defBody (top 18)) (defScope (top 18)) .none kV_law_form dc_law_form pm_law_form an_law_form cd_law_form ct_law_form), sl_law_form⟩)
    (d_law_form : PySem.W.codeIn K cd_law_form ("_law_form" : Str) = true)
    (p_law_form : PySem.W.keepIn K (.ref f_law_form) = true)
    (a_law_pieces : PySem.W.nsIn K mainGlobals ("_law_pieces" : Str) = some (some (.ref f_law_pieces)))
    (l_law_pieces : K.lookup f_law_pieces = some ⟨oc_law_pieces, od_law_pieces, .func (PySem.W.fnOf ("_law_pieces" : Str) ("_law_pieces" : Str) (defArgs (top 19)) (defBody (top 19)) (defScope (top 19)) .none kV_law_pieces dc_law_pieces pm_law_pieces an_law_pieces cd_law_pieces ct_law_pieces), sl_law_pieces⟩)
    (d_law_pieces : PySem.W.codeIn K cd_law_pieces ("_law_pieces" : Str) = true)
    (p_law_pieces : PySem.W.keepIn K (.ref f_law_pieces) = true)
    (a_token_at : PySem.W.nsIn K mainGlobals ("token_at" : Str) = some (some (.ref f_token_at)))
    (l_token_at : K.lookup f_token_at = some ⟨oc_token_at, od_token_at, .func (PySem.W.fnOf ("token_at" : Str) ("token_at" : Str) (defArgs (top 8)) (defBody (top 8)) (defScope (top 8)) .none kV_token_at dc_token_at pm_token_at an_token_at cd_token_at ct_token_at), sl_token_at⟩)
    (d_token_at : PySem.W.codeIn K cd_token_at ("token_at" : Str) = true)
    (p_token_at : PySem.W.keepIn K (.ref f_token_at) = true)
    (a_cut_into_tokens : PySem.W.nsIn K mainGlobals ("cut_into_tokens" : Str) = some (some (.ref f_cut_into_tokens)))
    (l_cut_into_tokens : K.lookup f_cut_into_tokens = some ⟨oc_cut_into_tokens, od_cut_into_tokens, .func (PySem.W.fnOf ("cut_into_tokens" : Str) ("cut_into_tokens" : Str) (defArgs (top 9)) (defBody (top 9)) (defScope (top 9)) .none kV_cut_into_tokens dc_cut_into_tokens pm_cut_into_tokens an_cut_into_tokens cd_cut_into_tokens ct_cut_into_tokens), sl_cut_into_tokens⟩)
    (d_cut_into_tokens : PySem.W.codeIn K cd_cut_into_tokens ("cut_into_tokens" : Str) = true)
    (p_cut_into_tokens : PySem.W.keepIn K (.ref f_cut_into_tokens) = true)
    (a_piece_of : PySem.W.nsIn K mainGlobals ("piece_of" : Str) = some (some (.ref f_piece_of)))
    (l_piece_of : K.lookup f_piece_of = some ⟨oc_piece_of, od_piece_of, .func (PySem.W.fnOf ("piece_of" : Str) ("piece_of" : Str) (defArgs (top 10)) (defBody (top 10)) (defScope (top 10)) .none kV_piece_of dc_piece_of pm_piece_of an_piece_of cd_piece_of ct_piece_of), sl_piece_of⟩)
    (d_piece_of : PySem.W.codeIn K cd_piece_of ("piece_of" : Str) = true)
    (p_piece_of : PySem.W.keepIn K (.ref f_piece_of) = true)
    (a_number_pieces : PySem.W.nsIn K mainGlobals ("number_pieces" : Str) = some (some (.ref f_number_pieces)))
    (l_number_pieces : K.lookup f_number_pieces = some ⟨oc_number_pieces, od_number_pieces, .func (PySem.W.fnOf ("number_pieces" : Str) ("number_pieces" : Str) (defArgs (top 11)) (defBody (top 11)) (defScope (top 11)) .none kV_number_pieces dc_number_pieces pm_number_pieces an_number_pieces cd_number_pieces ct_number_pieces), sl_number_pieces⟩)
    (d_number_pieces : PySem.W.codeIn K cd_number_pieces ("number_pieces" : Str) = true)
    (p_number_pieces : PySem.W.keepIn K (.ref f_number_pieces) = true)
    (a_read_form : PySem.W.nsIn K mainGlobals ("read_form" : Str) = some (some (.ref f_read_form)))
    (l_read_form : K.lookup f_read_form = some ⟨oc_read_form, od_read_form, .func (PySem.W.fnOf ("read_form" : Str) ("read_form" : Str) (defArgs (top 12)) (defBody (top 12)) (defScope (top 12)) .none kV_read_form dc_read_form pm_read_form an_read_form cd_read_form ct_read_form), sl_read_form⟩)
    (d_read_form : PySem.W.codeIn K cd_read_form ("read_form" : Str) = true)
    (p_read_form : PySem.W.keepIn K (.ref f_read_form) = true)
    (a_law_whole : PySem.W.nsIn K mainGlobals ("_law_whole" : Str) = some (some (.ref f_law_whole)))
    (l_law_whole : K.lookup f_law_whole = some ⟨oc_law_whole, od_law_whole, .func (PySem.W.fnOf ("_law_whole" : Str) ("_law_whole" : Str) (defArgs (top 15)) (defBody (top 15)) (defScope (top 15)) .none kV_law_whole dc_law_whole pm_law_whole an_law_whole cd_law_whole ct_law_whole), sl_law_whole⟩)
    (d_law_whole : PySem.W.codeIn K cd_law_whole ("_law_whole" : Str) = true)
    (p_law_whole : PySem.W.keepIn K (.ref f_law_whole) = true)
    (a_law : PySem.W.nsIn K mainGlobals ("law" : Str) = some (some (.ref f_law)))
    (l_law : K.lookup f_law = some ⟨oc_law, od_law, .func (PySem.W.fnOf ("law" : Str) ("law" : Str) (defArgs (top 20)) (defBody (top 20)) (defScope (top 20)) .none kV_law dc_law pm_law an_law cd_law ct_law), sl_law⟩)
    (d_law : PySem.W.codeIn K cd_law ("law" : Str) = true)
    (p_law : PySem.W.keepIn K (.ref f_law) = true)
    (a_PLACES : PySem.W.nsIn K mainGlobals ("PLACES" : Str) = some (some (.ref a_PLACES')))
    (l_PLACES : K.lookup a_PLACES' = some ⟨.type "tuple", dd_PLACES, .seq its_PLACES n_PLACES, sl_PLACES⟩)
    (v_PLACES : Vals ([stV [60, 100, 62], stV [60, 109, 62], stV [60, 121, 62], stV [60, 89, 62], stV [60, 110, 62], stV [60, 119, 62]] : List V) its_PLACES.toList)
    (a_PLAIN_SIGNS : PySem.W.nsIn K mainGlobals ("PLAIN_SIGNS" : Str) = some (some (.str qy_PLAIN_SIGNS t_PLAIN_SIGNS)))
    (qy_PLAIN_SIGNS' : qy_PLAIN_SIGNS = ⟨([97, 98, 99, 100, 101, 102, 103, 104, 105, 106, 107, 108, 109, 110, 111, 112, 113, 114, 115, 116, 117, 118, 119, 120, 121, 122, 48, 49, 50, 51, 52, 53, 54, 55, 56, 57, 32, 46, 47, 45, 44] : List Nat).toArray⟩)
    (a_MOST_LACKING_PARTS : PySem.W.nsIn K mainGlobals ("MOST_LACKING_PARTS" : Str) = some (some (.int 3 t_MOST_LACKING_PARTS)))
    (a_LONGEST_FORM : PySem.W.nsIn K mainGlobals ("LONGEST_FORM" : Str) = some (some (.int 30 t_LONGEST_FORM)))
    (a_bool : PySem.W.nsIn K mainGlobals ("bool" : Str) = some none)
    (a_enumerate : PySem.W.nsIn K mainGlobals ("enumerate" : Str) = some none)
    (a_int : PySem.W.nsIn K mainGlobals ("int" : Str) = some none)
    (a_isinstance : PySem.W.nsIn K mainGlobals ("isinstance" : Str) = some none)
    (a_len : PySem.W.nsIn K mainGlobals ("len" : Str) = some none)
    (a_list : PySem.W.nsIn K mainGlobals ("list" : Str) = some none)
    (a_range : PySem.W.nsIn K mainGlobals ("range" : Str) = some none)
    (a_str : PySem.W.nsIn K mainGlobals ("str" : Str) = some none)
    (a_tuple : PySem.W.nsIn K mainGlobals ("tuple" : Str) = some none)
    (a_InkError : PySem.W.nsIn K mainGlobals ("InkError" : Str) = some (some (.ref C_InkError)))
    (a_BadForm : PySem.W.nsIn K mainGlobals ("BadForm" : Str) = some (some (.ref C_BadForm)))
    (e_BadForm : PySem.W.excIn K C_BadForm [.type "ValueError", .type "Exception", .type "BaseException", .type "object"] "ValueError.__new__" = true)
    : ∃ fd : FuncData, (∀ (s : Shared) (v : Value), BindsTo s fd ⟨[v], []⟩ [(("_law_script" : Str), v)]) ∧ ∀ base : Heap, K.In base → base.Ns mainGlobals mg → FnOk l.prog w K mg base (CXR l.prog w) 4 fa fd [("_law_script" : Str)] (spLaw K) := by
  have T : TX K mg (fun n : Nat => if n = 0 then C_InkError else if n = 3 then C_BadForm else 0) := ⟨⟨_, _, fun_mk (st := (top 16)) l_law_draws d_law_draws p_law_draws, PySem.W.mg_of X G a_law_draws, (fun_mk (st := (top 16)) l_law_draws d_law_draws p_law_draws).binds (ps := [("_law_cell" : Str), ("_law_mixed" : Str), ("_law_many" : Str), ("_law_most" : Str)]) fun _ _ _ _ _ _ us hl => match us, hl with | [_, _, _, _], _ => rfl⟩, ⟨_, _, fun_mk (st := (top 17)) l_law_built d_law_built p_law_built, PySem.W.mg_of X G a_law_built, (fun_mk (st := (top 17)) l_law_built d_law_built p_law_built).binds (ps := [("_law_cell" : Str), ("_law_mixed" : Str)]) fun _ _ _ _ _ _ us hl => match us, hl with | [_, _], _ => rfl⟩, ⟨_, _, fun_mk (st := (top 14)) l_law_at d_law_at p_law_at, PySem.W.mg_of X G a_law_at, (fun_mk (st := (top 14)) l_law_at d_law_at p_law_at).binds (ps := [("_law_script" : Str), ("_law_k" : Str)]) fun _ _ _ _ _ _ us hl => match us, hl with | [_, _], _ => rfl⟩, ⟨_, _, fun_mk (st := (top 18)) l_law_form d_law_form p_law_form, PySem.W.mg_of X G a_law_form, (fun_mk (st := (top 18)) l_law_form d_law_form p_law_form).binds (ps := [("_law_parts" : Str)]) fun _ _ _ _ _ _ us hl => match us, hl with | [_], _ => rfl⟩, ⟨_, _, fun_mk (st := (top 19)) l_law_pieces d_law_pieces p_law_pieces, PySem.W.mg_of X G a_law_pieces, (fun_mk (st := (top 19)) l_law_pieces d_law_pieces p_law_pieces).binds (ps := [("_law_parts" : Str)]) fun _ _ _ _ _ _ us hl => match us, hl with | [_], _ => rfl⟩, ⟨_, _, fun_mk (st := (top 8)) l_token_at d_token_at p_token_at, PySem.W.mg_of X G a_token_at, (fun_mk (st := (top 8)) l_token_at d_token_at p_token_at).binds (ps := [("form" : Str), ("start" : Str)]) fun _ _ _ _ _ _ us hl => match us, hl with | [_, _], _ => rfl⟩, ⟨_, _, fun_mk (st := (top 9)) l_cut_into_tokens d_cut_into_tokens p_cut_into_tokens, PySem.W.mg_of X G a_cut_into_tokens, (fun_mk (st := (top 9)) l_cut_into_tokens d_cut_into_tokens p_cut_into_tokens).binds (ps := [("form" : Str)]) fun _ _ _ _ _ _ us hl => match us, hl with | [_], _ => rfl⟩, ⟨_, _, fun_mk (st := (top 10)) l_piece_of d_piece_of p_piece_of, PySem.W.mg_of X G a_piece_of, (fun_mk (st := (top 10)) l_piece_of d_piece_of p_piece_of).binds (ps := [("token" : Str), ("part" : Str)]) fun _ _ _ _ _ _ us hl => match us, hl with | [_, _], _ => rfl⟩, ⟨_, _, fun_mk (st := (top 11)) l_number_pieces d_number_pieces p_number_pieces, PySem.W.mg_of X G a_number_pieces, (fun_mk (st := (top 11)) l_number_pieces d_number_pieces p_number_pieces).binds (ps := [("tokens" : Str)]) fun _ _ _ _ _ _ us hl => match us, hl with | [_], _ => rfl⟩, ⟨_, _, fun_mk (st := (top 12)) l_read_form d_read_form p_read_form, PySem.W.mg_of X G a_read_form, (fun_mk (st := (top 12)) l_read_form d_read_form p_read_form).binds (ps := [("form" : Str)]) fun _ _ _ _ _ _ us hl => match us, hl with | [_], _ => rfl⟩, ⟨_, _, fun_mk (st := (top 15)) l_law_whole d_law_whole p_law_whole, PySem.W.mg_of X G a_law_whole, (fun_mk (st := (top 15)) l_law_whole d_law_whole p_law_whole).binds (ps := [("_law_found" : Str)]) fun _ _ _ _ _ _ us hl => match us, hl with | [_], _ => rfl⟩, ⟨_, _, fun_mk (st := (top 20)) l_law d_law p_law, PySem.W.mg_of X G a_law, (fun_mk (st := (top 20)) l_law d_law p_law).binds (ps := [("_law_script" : Str)]) fun _ _ _ _ _ _ us hl => match us, hl with | [_], _ => rfl⟩, tup_const (PySem.W.mg_of X G a_PLACES) l_PLACES v_PLACES (by decide) (by intro G; repeat (first | exact dens_nil | refine dens_cons (by unfold Den; rfl) ?_)), ⟨_, .str qy_PLAIN_SIGNS, PySem.W.mg_of X G a_PLAIN_SIGNS, ⟨_, rfl⟩, fun _ => by unfold Lw.c_PLAIN_SIGNS Den; rw [qy_PLAIN_SIGNS']⟩, ⟨_, .int 3, PySem.W.mg_of X G a_MOST_LACKING_PARTS, ⟨_, rfl⟩, fun _ => by unfold Lw.c_MOST_LACKING_PARTS Den; rfl⟩, ⟨_, .int 30, PySem.W.mg_of X G a_LONGEST_FORM, ⟨_, rfl⟩, fun _ => by unfold Lw.c_LONGEST_FORM Den; rfl⟩, PySem.W.mg_none_of X G a_bool, PySem.W.mg_none_of X G a_enumerate, PySem.W.mg_none_of X G a_int, PySem.W.mg_none_of X G a_isinstance, PySem.W.mg_none_of X G a_len, PySem.W.mg_none_of X G a_list, PySem.W.mg_none_of X G a_range, PySem.W.mg_none_of X G a_str, PySem.W.mg_none_of X G a_tuple, ⟨PySem.W.mg_of X G a_BadForm, e_BadForm⟩⟩
  have e := hfa.symm.trans (PySem.W.mg_of X G a_law)
  cases e
  refine ⟨PySem.W.fnOf "law" "law" (defArgs (top 20)) (defBody (top 20)) (defScope (top 20)) .none kV_law dc_law pm_law an_law cd_law ct_law, fun s v => .of_eq rfl, fun base _ _ => ?_⟩
  have o_law_draws := ok_law_draws (P := l.prog) (w := w) (base := base) T 
  have o_law_built := ok_law_built (P := l.prog) (w := w) (base := base) T o_law_draws
  have o_law_at := ok_law_at (P := l.prog) (w := w) (base := base) T 
  have o_law_form := ok_law_form (P := l.prog) (w := w) (base := base) T 
  have o_law_pieces := ok_law_pieces (P := l.prog) (w := w) (base := base) T 
  have o_token_at := ok_token_at (P := l.prog) (w := w) (base := base) T 
  have o_cut_into_tokens := ok_cut_into_tokens (P := l.prog) (w := w) (base := base) T o_token_at
  have o_piece_of := ok_piece_of (P := l.prog) (w := w) (base := base) T 
  have o_number_pieces := ok_number_pieces (P := l.prog) (w := w) (base := base) T o_piece_of
  have o_read_form := ok_read_form (P := l.prog) (w := w) (base := base) T o_cut_into_tokens o_number_pieces
  have o_law_whole := ok_law_whole (P := l.prog) (w := w) (base := base) T 
  have o_law := ok_law (P := l.prog) (w := w) (base := base) T o_law_built o_law_at o_law_form o_law_pieces o_read_form o_law_whole
  have FL := fun_mk (st := top 20) l_law d_law p_law
  exact law_fn (PySem.W.mg_of X G a_law) l_law o_law main
theorem walk {l : PySem.W.OpenLaw} {q : Program} {loose : List Str} {XP : (Str → Option Value) → Heap → Prop} {YP : World → Heap → Prop} {d : DefRec} {K : Params → PySem.W.Frag} (hn : l.most = some 63) (hdf : d.params.defaults = [])
    (hY : ∀ (w : World) (h : Heap), YP w h → (K w.params).In h)
    (F : ∀ (w : World) (mg : Str → Option Value) (fa : Addr) (h : Heap), (K w.params).In h → h.Ns mainGlobals mg → mg d.name = some (.ref fa) →
      ∃ fd : FuncData, (∀ (s : Shared) (u : Value), BindsTo s fd ⟨[u], []⟩ [(("_law_script" : Str), u)]) ∧ ∀ base : Heap, (K w.params).In base → base.Ns mainGlobals mg → FnOk l.prog w (K w.params) mg base (CXR l.prog w) 4 fa fd [("_law_script" : Str)] (spLaw (K w.params))) :
    PySem.W.WalkO q loose XP YP l.row.toRowW d [] (fun f vs => PySem.call f vs) :=
  L2.walk_of (n := 63) (k := 4) (x := ("_law_script" : Str)) (CX := fun w => CXR l.prog w) (sp := fun w => spLaw (K w.params)) hn (by decide) hdf ⟨rfl, by decide, by decide⟩ hY F (fun _ _ a ns hl _ hS => ⟨a, ns, rfl, hS, hl, fun _ => rfl⟩) fun _ _ _ _ _ z => by obtain ⟨_, _, _, _, _, _, _, _, _, _, z⟩ := z; exact z
end Lw

-- part K07_main.lean
set_option Elab.async false
set_option linter.all false
set_option maxRecDepth 100000
set_option maxHeartbeats 400000
namespace Lw
open PySem L2 L3
theorem at_eq (ns : List Int) (k : Nat) : m_law_at [.lst (ns.map D.int), .int (k : Int)] = .ok (.int (cell ns k)) := by
  unfold m_law_at F_law_at startE cell
  by_cases h : k < ns.length
  · have e : atI (ns.map D.int) (k : Int) = some (D.int (ns.getD k 0)) := atI_some (by simp [h])
    have h' : (k : Int) < (ns.length : Int) := by omega
    simp [zSeq, oIx_lst e, h']
  · have h' : ¬ (k : Int) < (ns.length : Int) := by omega
    simp [zSeq, F_law_at_1, h', List.getElem?_eq_none (Nat.le_of_not_lt h)]
theorem at0 (ns : List Int) : m_law_at [.lst (ns.map D.int), .int 0] = .ok (.int (cell ns 0)) := by simpa using at_eq ns 0
theorem at1 (ns : List Int) : m_law_at [.lst (ns.map D.int), .int 1] = .ok (.int (cell ns 1)) := by simpa using at_eq ns 1
theorem at2 (ns : List Int) : m_law_at [.lst (ns.map D.int), .int 2] = .ok (.int (cell ns 2)) := by simpa using at_eq ns 2
theorem at3 (ns : List Int) : m_law_at [.lst (ns.map D.int), .int 3] = .ok (.int (cell ns 3)) := by simpa using at_eq ns 3
theorem whole_eq (i : Int) : m_law_whole [.int i] = .ok (.bl true) := by
  simp [m_law_whole, F_law_whole, startE, isTy]
theorem draws_eq (c : Int) (mx : Bool) {n m : Nat} (hn : n ≤ 1000) (hm : 0 < m) (hm2 : m ≤ 1000) : ∃ ps : List Int, m_law_draws [.int c, .bl mx, .int n, .int m] = .ok (rowD ps) ∧ ps.length = n ∧ ∀ x ∈ ps, 0 ≤ x ∧ x < m := by
  unfold m_law_draws F_law_draws
  rw [zSeq_next (δ' := [some (.sh (.int c)), some (.sh (.bl mx)), some (.sh (.int n)), some (.sh (.int m)), some (.ow []), none, none]) (by simp [S_law_draws_0, startE, lim])]
  unfold F_law_draws_1
  rw [zSeq_next (δ' := [some (.sh (.int c)), some (.sh (.bl mx)), some (.sh (.int n)), some (.sh (.int m)), some (.ow []), some (.sh (.int c)), none]) (by simp [S_law_draws_1])]
  have hm' : (0 : Int) < m := by omega
  have hmod : ∀ x : Int, oMod (.int x) (.int (m : Int)) = .ok (.int (x % m)) := fun x => oMod_int _ hm'
  have hdiv : ∀ x : Int, oDiv (.int x) (.int (m : Int)) = .ok (.int (x / m)) := fun x => oDiv_int _ hm' (by omega)
  obtain ⟨δ', e, ps, r, x6, hl, hb, h3⟩ := zFor_next (fit := fun δ => ((mCons (mVar 2) (mNil)) δ).bind iR1) (bd := bN 6) (F := L_law_draws_1) (δ := [some (.sh (.int c)), some (.sh (.bl mx)), some (.sh (.int n)), some (.sh (.int m)), some (.ow []), some (.sh (.int c)), none]) (ds := rngD 0 n)
    (fun k δ => ∃ (ps : List Int) (r : Int) (x6 : Option Sl), ps.length = k ∧ (∀ x ∈ ps, 0 ≤ x ∧ x < (m : Int)) ∧ δ = [some (.sh (.int c)), some (.sh (.bl mx)), some (.sh (.int n)), some (.sh (.int m)), some (.ow (ps.map D.int)), some (.sh (.int r)), x6])
    (fit1_var rfl (by omega)) ⟨[], c, none, rfl, by simp, rfl⟩ (by
      rintro k d δ hd ⟨ps, r, x6, hl, hb, rfl⟩
      obtain ⟨rfl, hk⟩ := rngD_get hd
      have hlen : (ps.map D.int).length < 1000000 := by rw [List.length_map]; omega
      have good : ∀ y : Int, ∀ x ∈ ps ++ [y % m], 0 ≤ x ∧ x < (m : Int) := fun y x hx => by
        rcases List.mem_append.mp hx with hx | hx
        · exact hb x hx
        · have : x = y % m := by simpa using hx
          rw [this]
          exact ⟨Int.emod_nonneg _ (by omega), Int.emod_lt_of_pos _ hm'⟩
      cases mx with
      | true =>
        have h1 : oMul (.int r) (.int 48271) = .ok (.int (r * 48271)) := oMul_r _ (by decide) (by decide)
        have h2 : oMul (.int 7919) (.int (0 + (k : Int))) = .ok (.int (7919 * (0 + k))) := oMul_l _ (by decide) (by decide)
        have h3 : ∀ x : Int, oMod (.int x) (.int 2147483647) = .ok (.int (x % 2147483647)) := fun x => oMod_int _ (by decide)
        have h4 : ∀ x : Int, oMod (.int x) (.int 2147483629) = .ok (.int (x % 2147483629)) := fun x => oMod_int _ (by decide)
        have h5 : ∀ x : Int, oMul (.int x) (.int 16807) = .ok (.int (x * 16807)) := fun x => oMul_r _ (by decide) (by decide)
        refine ⟨_, [some (.sh (.int c)), some (.sh (.bl true)), some (.sh (.int n)), some (.sh (.int m)), some (.ow ((ps ++ [((r * 48271 + 7919 * (0 + k) + 11) % 2147483647) * 16807 % 2147483629 % m]).map D.int)), some (.sh (.int ((r * 48271 + 7919 * (0 + k) + 11) % 2147483647))), some (.sh (.int (0 + k)))], rfl, .inl ?_, _, _, _, by simp [hl], good _, rfl⟩
        unfold L_law_draws_1
        rw [zIf_yes (by simp)]
        rw [zSeq_next (δ' := [some (.sh (.int c)), some (.sh (.bl true)), some (.sh (.int n)), some (.sh (.int m)), some (.ow (ps.map D.int)), some (.sh (.int ((r * 48271 + 7919 * (0 + k) + 11) % 2147483647))), some (.sh (.int (0 + k)))]) (by
          simp only [e_bN, List.set_cons_succ, List.set_cons_zero, e_zSet, e_m2, e_mC, e_mVar, List.getElem?_cons_succ, List.getElem?_cons_zero, R.bind_ok, h1, h2, h3, oAdd_int, bS_ok])]
        simp only [e_zApp, e_m2, e_mC, e_mVar, List.getElem?_cons_succ, List.getElem?_cons_zero, R.bind_ok, h4, h5, hmod, bS_ok, hlen, if_true, List.set_cons_succ, List.set_cons_zero]
        simp
      | false =>
        refine ⟨_, [some (.sh (.int c)), some (.sh (.bl false)), some (.sh (.int n)), some (.sh (.int m)), some (.ow ((ps ++ [r % m]).map D.int)), some (.sh (.int (r / m))), some (.sh (.int (0 + k)))], rfl, .inl ?_, _, _, _, by simp [hl], good _, rfl⟩
        unfold L_law_draws_1
        rw [zIf_no (by simp)]
        rw [zSeq_next (δ' := [some (.sh (.int c)), some (.sh (.bl false)), some (.sh (.int n)), some (.sh (.int m)), some (.ow ((ps ++ [r % m]).map D.int)), some (.sh (.int r)), some (.sh (.int (0 + k)))]) (by
          simp only [e_bN, List.set_cons_succ, List.set_cons_zero, e_zApp, e_m2, e_mC, e_mVar, List.getElem?_cons_succ, List.getElem?_cons_zero, R.bind_ok, hmod, bS_ok, hlen, if_true]
          simp)]
        simp only [e_zSet, e_m2, e_mC, e_mVar, List.getElem?_cons_succ, List.getElem?_cons_zero, R.bind_ok, hdiv, bS_ok, List.set_cons_succ, List.set_cons_zero])
  unfold F_law_draws_2 S_law_draws_2
  rw [zSeq_next e, h3]
  refine ⟨ps, by simp [F_law_draws_3, S_law_draws_3, frzE], ?_, hb⟩
  rw [hl, rngD_length]
  omega
/-! ### tokens, parts, forms -/
def places : List (List Nat) := [[60, 100, 62], [60, 109, 62], [60, 121, 62], [60, 89, 62], [60, 110, 62], [60, 119, 62]]
def signs : List Nat := [97, 98, 99, 100, 101, 102, 103, 104, 105, 106, 107, 108, 109, 110, 111, 112, 113, 114, 115, 116, 117, 118, 119, 120, 121, 122, 48, 49, 50, 51, 52, 53, 54, 55, 56, 57, 32, 46, 47, 45, 44]
def allT : List (List Nat) := places ++ signs.map fun c => [c]
def isPl (t : List Nat) : Bool := places.any fun a => a == t
abbrev Part := Bool × List (List Nat)
def partD (p : Part) : D := .tup [.int (if p.1 then 1 else 0), .lst (p.2.map D.str)]
abbrev partsD (ps : List Part) : D := .lst (ps.map partD)
def inner (p : Part) : List Nat := if p.1 then [91] ++ p.2.flatten ++ [93] else p.2.flatten
def form (ps : List Part) : List Nat := ps.flatMap inner
def tks (p : Part) : List (List Nat) := if p.1 then [91] :: (p.2 ++ [[93]]) else p.2
def toks (ps : List Part) : List (List Nat) := ps.flatMap tks
theorem form_toks (ps : List Part) : form ps = (toks ps).flatten := by
  induction ps with
  | nil => rfl
  | cons p ps ih =>
    unfold form toks at ih ⊢
    rw [List.flatMap_cons, List.flatMap_cons, List.flatten_append, ih]
    congr 1
    unfold inner tks
    cases p.1 <;> simp
def pieceD (k : Int) (t : List Nat) : D := if t.length = 3 then .tup [.str [112, 108, 97, 99, 101], .str [t.getD 1 0], .int k] else .tup [.str [115, 105, 103, 110], .str t, .int k]
def pcs : Nat → List Part → List D
  | _, [] => []
  | n, p :: ps => p.2.map (pieceD (if p.1 then ((n + 1 : Nat) : Int) else 0)) ++ pcs (if p.1 then n + 1 else n) ps
theorem strsD_map (ts : List (List Nat)) : strsD (ts.map D.str) = some ts := by
  induction ts with
  | nil => rfl
  | cons t ts ih => simp [strsD, ih]
structure Small (ps : List Part) : Prop where
  n : ps.length ≤ 1000
  f : (form ps).length ≤ 1000
theorem form_take_le (ps : List Part) (k : Nat) : (form (ps.take k)).length ≤ (form ps).length := by
  have : form ps = form (ps.take k) ++ form (ps.drop k) := by
    unfold form
    rw [← List.flatMap_append, List.take_append_drop]
  rw [this, List.length_append]
  omega
theorem form_snoc {ps : List Part} {k : Nat} {p : Part} (q : ps[k]? = some p) : form (ps.take (k + 1)) = form (ps.take k) ++ inner p := by
  unfold form
  rw [List.take_add_one, q]
  simp
theorem form_eq {ps : List Part} (h : (form ps).length ≤ 1000) : m_law_form [partsD ps] = .ok (.str (form ps)) := by
  unfold m_law_form F_law_form
  rw [zSeq_next (δ' := [some (.sh (partsD ps)), some (.sh (.str [])), none, none, none]) (by simp [S_law_form_0, startE])]
  obtain ⟨δ', e, x2, x3, x4, h3⟩ := zFor_next (fit := fun δ => ((mVar 0) δ).bind itemsD) (bd := bTup 2 (bsCons (bN 2) (bsCons (bN 3) (bsNil)))) (F := L_law_form_1) (δ := [some (.sh (partsD ps)), some (.sh (.str [])), none, none, none]) (ds := ps.map partD)
    (fun k δ => ∃ x2 x3 x4, δ = [some (.sh (partsD ps)), some (.sh (.str (form (ps.take k)))), x2, x3, x4]) rfl ⟨none, none, none, by simp [form]⟩ (by
      rintro k d δ hd ⟨x2, x3, x4, rfl⟩
      rw [List.getElem?_map] at hd
      cases q : ps[k]? with
      | none => rw [q] at hd; cases hd
      | some p =>
        rw [q] at hd
        cases hd
        have hf := form_take_le ps (k + 1)
        rw [form_snoc q, List.length_append] at hf
        refine ⟨[some (.sh (partsD ps)), some (.sh (.str (form (ps.take k)))), some (.sh (.int (if p.1 then 1 else 0))), some (.sh (.lst (p.2.map D.str))), x4], [some (.sh (partsD ps)), some (.sh (.str (form (ps.take (k + 1))))), some (.sh (.int (if p.1 then 1 else 0))), some (.sh (.lst (p.2.map D.str))), some (.sh (.str (inner p)))], rfl, .inl ?_, _, _, _, rfl⟩
        have hfl : p.2.flatten.length ≤ (inner p).length := by
          unfold inner
          cases p.1 with
          | true => rw [if_pos rfl, List.length_append, List.length_append]; omega
          | false => rw [if_neg (by decide)]; omega
        have hj : mBS oJoin (mC (.str [])) (mCons (mVar 3) (mNil)) [some (.sh (partsD ps)), some (.sh (.str (form (ps.take k)))), some (.sh (.int (if p.1 then 1 else 0))), some (.sh (.lst (p.2.map D.str))), x4] = .ok (.str p.2.flatten) := by
          have e1 : (mCons (mVar 3) (mNil)) [some (.sh (partsD ps)), some (.sh (.str (form (ps.take k)))), some (.sh (.int (if p.1 then 1 else 0))), some (.sh (.lst (p.2.map D.str))), x4] = .ok [.lst (p.2.map D.str)] := rfl
          unfold mBS
          rw [e_mC, R.bind_ok]
          dsimp only
          rw [e1, R.bind_ok]
          unfold oJoin
          simp only [strsD_map]
          rw [if_pos (by omega)]
        have hadd : ∀ a b : List Nat, a.length + b.length ≤ 1000000 → oAdd (.str a) (.str b) = .ok (.str (a ++ b)) := fun a b hab => by simp only [oAdd]; rw [if_pos hab]
        unfold L_law_form_1
        rw [zSeq_next (δ' := [some (.sh (partsD ps)), some (.sh (.str (form (ps.take k)))), some (.sh (.int (if p.1 then 1 else 0))), some (.sh (.lst (p.2.map D.str))), some (.sh (.str p.2.flatten))]) (by
          simp only [e_zSet, hj, bS_ok]
          rfl)]
        rw [zSeq_next (δ' := [some (.sh (partsD ps)), some (.sh (.str (form (ps.take k)))), some (.sh (.int (if p.1 then 1 else 0))), some (.sh (.lst (p.2.map D.str))), some (.sh (.str (inner p)))]) (by
          unfold inner at hfl hf ⊢
          cases hp : p.1 with
          | true =>
            rw [hp] at hfl hf
            simp at hfl hf
            rw [zIf_yes (by simp)]
            simp only [e_zSet, e_m2, e_mC, e_mVar, List.getElem?_cons_succ, List.getElem?_cons_zero, R.bind_ok]
            rw [hadd _ _ (by simp; omega), R.bind_ok, hadd _ _ (by simp; omega)]
            simp
          | false =>
            rw [zIf_no (by simp)]
            simp)]
        simp only [e_zSet, e_m2, e_mVar, List.getElem?_cons_succ, List.getElem?_cons_zero, R.bind_ok]
        rw [hadd _ _ (by omega), form_snoc q]
        simp)
  unfold F_law_form_1 S_law_form_1
  rw [zSeq_next e, h3]
  simp [F_law_form_2, S_law_form_2]
def cnt (ps : List Part) : Nat := ps.countP (·.1)
def allTk (ps : List Part) : List (List Nat) := ps.flatMap (·.2)
theorem pcs_append (p : Part) : ∀ (ps : List Part) (n : Nat), pcs n (ps ++ [p]) = pcs n ps ++ p.2.map (pieceD (if p.1 then ((n + cnt ps + 1 : Nat) : Int) else 0))
  | [], n => by simp [pcs, cnt]
  | q :: ps, n => by
    have ih := pcs_append p ps (if q.1 then n + 1 else n)
    have hN : (if q.1 then n + 1 else n) + cnt ps + 1 = n + cnt (q :: ps) + 1 := by
      unfold cnt
      rw [List.countP_cons]
      cases q.1 <;> simp
      omega
    rw [hN] at ih
    simp only [List.cons_append, pcs, ih, List.append_assoc]
theorem pcs_len : ∀ (ps : List Part) (n : Nat), (pcs n ps).length = (allTk ps).length
  | [], _ => rfl
  | p :: ps, n => by
    have ih := pcs_len ps (if p.1 then n + 1 else n)
    simp only [pcs]
    rw [List.length_append, List.length_map, ih]
    unfold allTk
    rw [List.flatMap_cons, List.length_append]
theorem cnt_snoc {ps : List Part} {k : Nat} {p : Part} (q : ps[k]? = some p) : cnt (ps.take (k + 1)) = cnt (ps.take k) + (if p.1 then 1 else 0) := by
  unfold cnt
  rw [List.take_add_one, q]
  simp only [Option.toList_some, List.countP_append]
  obtain ⟨l, ts⟩ := p
  cases l <;> simp
theorem allTk_take_le (ps : List Part) (k : Nat) : (allTk (ps.take k)).length ≤ (allTk ps).length := by
  have : allTk ps = allTk (ps.take k) ++ allTk (ps.drop k) := by
    unfold allTk
    rw [← List.flatMap_append, List.take_append_drop]
  rw [this, List.length_append]
  omega
theorem len_tok {t : List Nat} (h : t ∈ allT) : t.length = 3 ∨ t.length = 1 := by
  have : ∀ t ∈ allT, t.length = 3 ∨ t.length = 1 := by decide +kernel
  exact this t h
theorem pieces_one {P0 nn la tt : D} {num lac : Int} (hn : nn = .int num) (hl : la = .int lac) (hb : -1000 ≤ lac ∧ lac ≤ 1000) (made : List D) (t : List Nat) (ht : t ∈ allT) (hm : made.length < 1000000) :
    L_law_pieces_1 [some (.sh P0), some (.ow made), some (.sh nn), some (.sh la), some (.sh tt), some (.sh (.str t))] = .next [some (.sh P0), some (.ow (made ++ [pieceD (num * lac) t])), some (.sh nn), some (.sh la), some (.sh tt), some (.sh (.str t))] := by
  subst hn hl
  have hmul : oMul (.int num) (.int lac) = .ok (.int (num * lac)) := oMul_r _ (by omega) (by omega)
  have hlen : oLen (.str t) = .ok (.int t.length) := by
    simp only [oLen]
    rw [if_pos (by have := len_tok ht; omega)]
  unfold L_law_pieces_1
  rcases len_tok ht with h3 | h1
  · have hix : oIx (.str t) (.int 1) = .ok (.str [t.getD 1 0]) := by
      obtain ⟨a, b, c, rfl⟩ : ∃ a b c, t = [a, b, c] := by
        match t, h3 with
        | [a, b, c], _ => exact ⟨a, b, c, rfl⟩
      rfl
    rw [zIf_yes (by simp only [e_m2t, e_m1, e_mC, e_mVar, List.getElem?_cons_succ, List.getElem?_cons_zero, R.bind_ok, hlen, h3]; rfl)]
    simp only [e_zApp, e_mTup, e_mCons, e_mC, e_m2, e_mVar, e_mNil, List.getElem?_cons_succ, List.getElem?_cons_zero, R.bind_ok, hix, hmul, List.length_cons, List.length_nil]
    rw [if_pos (by decide)]
    simp [hm, pieceD, h3]
  · rw [zIf_no (by simp only [e_m2t, e_m1, e_mC, e_mVar, List.getElem?_cons_succ, List.getElem?_cons_zero, R.bind_ok, hlen, h1]; rfl)]
    simp only [e_zApp, e_mTup, e_mCons, e_mC, e_m2, e_mVar, e_mNil, List.getElem?_cons_succ, List.getElem?_cons_zero, R.bind_ok, hmul, List.length_cons, List.length_nil]
    rw [if_pos (by decide)]
    simp [hm, pieceD, h1]
theorem pieces_eq {ps : List Part} (hv : ∀ p ∈ ps, ∀ t ∈ p.2, t ∈ allT) (hn : (allTk ps).length ≤ 1000) (hps : ps.length ≤ 900) : m_law_pieces [partsD ps] = .ok (.lst (pcs 0 ps)) := by
  unfold m_law_pieces F_law_pieces
  rw [zSeq_next (δ' := [some (.sh (partsD ps)), some (.ow []), none, none, none, none]) (by simp [S_law_pieces_0, startE, lim])]
  unfold F_law_pieces_1
  rw [zSeq_next (δ' := [some (.sh (partsD ps)), some (.ow []), some (.sh (.int 0)), none, none, none]) (by simp [S_law_pieces_1])]
  obtain ⟨δ', e, x3, x4, x5, h3⟩ := zFor_next (fit := fun δ => ((mVar 0) δ).bind itemsD) (bd := bTup 2 (bsCons (bN 3) (bsCons (bN 4) (bsNil)))) (F := L_law_pieces_2) (δ := [some (.sh (partsD ps)), some (.ow []), some (.sh (.int 0)), none, none, none]) (ds := ps.map partD)
    (fun k δ => ∃ x3 x4 x5, δ = [some (.sh (partsD ps)), some (.ow (pcs 0 (ps.take k))), some (.sh (.int (cnt (ps.take k)))), x3, x4, x5]) rfl ⟨none, none, none, by simp [pcs, cnt]⟩ (by
      rintro k d δ hd ⟨x3, x4, x5, rfl⟩
      rw [List.getElem?_map] at hd
      cases q : ps[k]? with
      | none => rw [q] at hd; cases hd
      | some p =>
        rw [q] at hd
        cases hd
        have hk := (List.getElem?_eq_some_iff.mp q).1
        have hpm : p ∈ ps := List.mem_of_getElem? q
        have hc : cnt (ps.take k) ≤ 900 := by
          unfold cnt
          refine Nat.le_trans List.countP_le_length ?_
          rw [List.length_take]
          omega
        have hlen := allTk_take_le ps (k + 1)
        have hsn : allTk (ps.take (k + 1)) = allTk (ps.take k) ++ p.2 := by
          unfold allTk
          rw [List.take_add_one, q]
          simp
        rw [hsn, List.length_append] at hlen
        have hlac : (-1000 : Int) ≤ (if p.1 then 1 else 0) ∧ (if p.1 then 1 else 0 : Int) ≤ 1000 := by cases p.1 <;> simp
        obtain ⟨δ2, e2, y5, h2⟩ := zFor_next (fit := fun δ => ((mVar 4) δ).bind itemsD) (bd := bN 5) (F := L_law_pieces_1) (δ := [some (.sh (partsD ps)), some (.ow (pcs 0 (ps.take k))), some (.sh (.int (cnt (ps.take k) + (if p.1 then 1 else 0)))), some (.sh (.int (if p.1 then 1 else 0))), some (.sh (.lst (p.2.map D.str))), x5]) (ds := p.2.map D.str)
          (fun j δ => ∃ y5, δ = [some (.sh (partsD ps)), some (.ow (pcs 0 (ps.take k) ++ (p.2.take j).map (pieceD ((cnt (ps.take k) + (if p.1 then 1 else 0)) * (if p.1 then 1 else 0))))), some (.sh (.int (cnt (ps.take k) + (if p.1 then 1 else 0)))), some (.sh (.int (if p.1 then 1 else 0))), some (.sh (.lst (p.2.map D.str))), y5]) rfl ⟨x5, by simp⟩ (by
            rintro j t δ ht ⟨y5, rfl⟩
            rw [List.getElem?_map] at ht
            cases q2 : p.2[j]? with
            | none => rw [q2] at ht; cases ht
            | some t =>
              rw [q2] at ht
              cases ht
              have hj := (List.getElem?_eq_some_iff.mp q2).1
              refine ⟨_, _, rfl, .inl (pieces_one rfl rfl hlac _ t (hv p hpm t (List.mem_of_getElem? q2)) ?_), some (.sh (.str t)), ?_⟩
              · rw [List.length_append, pcs_len, List.length_map, List.length_take]
                omega
              · rw [List.take_add_one, q2]
                simp)
        refine ⟨[some (.sh (partsD ps)), some (.ow (pcs 0 (ps.take k))), some (.sh (.int (cnt (ps.take k)))), some (.sh (.int (if p.1 then 1 else 0))), some (.sh (.lst (p.2.map D.str))), x5], [some (.sh (partsD ps)), some (.ow (pcs 0 (ps.take (k + 1)))), some (.sh (.int (cnt (ps.take (k + 1))))), some (.sh (.int (if p.1 then 1 else 0))), some (.sh (.lst (p.2.map D.str))), y5], rfl, .inl ?_, _, _, _, rfl⟩
        unfold L_law_pieces_2
        rw [zSeq_next (δ' := [some (.sh (partsD ps)), some (.ow (pcs 0 (ps.take k))), some (.sh (.int (cnt (ps.take k) + (if p.1 then 1 else 0)))), some (.sh (.int (if p.1 then 1 else 0))), some (.sh (.lst (p.2.map D.str))), x5]) (by simp)]
        rw [e2, h2, cnt_snoc q]
        have tk : ps.take (k + 1) = ps.take k ++ [p] := by rw [List.take_add_one, q]; rfl
        rw [tk, pcs_append, List.length_map, List.take_length]
        cases p.1 <;> simp)
  unfold F_law_pieces_2 S_law_pieces_2
  rw [zSeq_next e, h3]
  simp [F_law_pieces_3, S_law_pieces_3, frzE]
/-! ### a form cut into its tokens -/
def allB : List (List Nat) := allT ++ [[91], [93]]
theorem cutD_over {α : Type} (xs : List α) {a b : Nat} (h : a ≤ xs.length) (h2 : a ≤ b) : cutD xs (some (a : Int)) (some (b : Int)) = (xs.drop a).take (b - a) := by
  unfold cutD
  rw [HT.sIx_nat, HT.sIx_nat, Nat.min_eq_left h]
  by_cases hb : b ≤ xs.length
  · rw [Nat.min_eq_left hb]
  · rw [Nat.min_eq_right (by omega), List.take_of_length_le (by rw [List.length_drop]; omega), List.take_of_length_le (by rw [List.length_drop]; omega)]
theorem inB_places (s : List Nat) : inB (.str s) c_PLACES = .ok (isPl s) := by
  unfold inB c_PLACES
  simp only [flatD, List.all_cons, List.all_nil, Bool.and_self, if_true, List.any_cons, List.any_nil, eqF, Bool.or_false]
  congr 1
  unfold isPl places
  simp only [List.any_cons, List.any_nil, Bool.or_false]
theorem isPl_head {s : List Nat} (h : isPl s = true) : s.head? = some 60 ∧ s.length = 3 := by
  have : ∀ s ∈ places, s.head? = some 60 ∧ s.length = 3 := by decide
  exact this s (by simpa [isPl] using h)
theorem plain_in : ∀ c ∈ signs, (!(Builtin.Str.occurrences ⟨signs.toArray⟩ ⟨[c].toArray⟩ 0 (⟨signs.toArray⟩ : Str).length 1).isEmpty) = true := by decide +kernel
theorem plain_not : ∀ c ∈ [91, 93], (!(Builtin.Str.occurrences ⟨signs.toArray⟩ ⟨[c].toArray⟩ 0 (⟨signs.toArray⟩ : Str).length 1).isEmpty) = false := by decide +kernel
theorem brack_in : ∀ c ∈ [91, 93], (!(Builtin.Str.occurrences ⟨[91, 93].toArray⟩ ⟨[c].toArray⟩ 0 (⟨[91, 93].toArray⟩ : Str).length 1).isEmpty) = true := by decide +kernel
theorem allB_cases {t : List Nat} (h : t ∈ allB) : (isPl t = true ∧ t.length = 3) ∨ (∃ c ∈ signs, t = [c]) ∨ (∃ c ∈ [91, 93], t = [c]) := by
  unfold allB allT at h
  rcases List.mem_append.mp h with h | h
  · rcases List.mem_append.mp h with h | h
    · have hp : isPl t = true := by simpa [isPl] using h
      exact .inl ⟨hp, (isPl_head hp).2⟩
    · obtain ⟨c, hc, rfl⟩ := List.mem_map.mp h
      exact .inr (.inl ⟨c, hc, rfl⟩)
  · refine .inr (.inr ?_)
    rcases List.mem_cons.mp h with rfl | h
    · exact ⟨91, by simp, rfl⟩
    · have : t = [93] := by simpa using h
      exact ⟨93, by simp, this⟩
theorem no60 : ∀ c, (c ∈ signs ∨ c ∈ [91, 93]) → c ≠ 60 := by
  have h1 : ∀ c ∈ signs, c ≠ 60 := by decide
  have h2 : ∀ c ∈ [91, 93], c ≠ 60 := by decide
  exact fun c h => h.elim (h1 c) (h2 c)
theorem token_at_eq {pre post t : List Nat} (ht : t ∈ allB) (hl : (pre ++ t ++ post).length ≤ 1000) : m_token_at [.str (pre ++ t ++ post), .int pre.length] = .ok (.str t) := by
  have hsl : ∀ l : List Nat, l.length ≤ 1000 → pre.length ≤ l.length → oSl (.str l) (some (pre.length : Int)) (some ((pre.length : Int) + 3)) = .ok (.str ((l.drop pre.length).take 3)) := fun l h1 h2 => by
    simp only [oSl]
    rw [if_pos (by omega), show (pre.length : Int) + 3 = ((pre.length + 3 : Nat) : Int) by push_cast; rfl, cutD_over _ h2 (by omega), show pre.length + 3 - pre.length = 3 by omega]
  have hd : (pre ++ t ++ post).drop pre.length = t ++ post := by simp
  have h0 := hsl _ hl (by simp)
  rw [hd] at h0
  generalize hL : pre ++ t ++ post = L at *
  unfold m_token_at F_token_at
  rw [zSeq_next (δ' := [some (.sh (.str L)), some (.sh (.int pre.length)), some (.sh (.str ((t ++ post).take 3))), none]) (by
    simp only [S_token_at_0, startE, List.map_cons, List.map_nil, List.length_cons, List.length_nil, List.cons_append, List.nil_append, e_zSet, e_mSl, e_mP, e_m2, e_mC, e_mVar, List.getElem?_cons_succ, List.getElem?_cons_zero, R.bind_ok, oAdd_int, h0, bS_ok]
    rfl)]
  have tst : m2t oIn (mVar 2) (mC c_PLACES) [some (.sh (.str L)), some (.sh (.int pre.length)), some (.sh (.str ((t ++ post).take 3))), none] = .ok (isPl ((t ++ post).take 3)) := by
    simp only [e_m2t, e_mC, e_mVar, List.getElem?_cons_succ, List.getElem?_cons_zero, R.bind_ok, oIn, inB_places]
  unfold F_token_at_1 S_token_at_1
  rcases allB_cases ht with ⟨h1, h2⟩ | hs
  · have : (t ++ post).take 3 = t := by rw [List.take_append, List.take_of_length_le (by omega)]; simp [h2]
    rw [this] at tst ⊢
    rw [zSeq_ret (d := .str t) (by rw [zIf_yes (tst.trans (by rw [h1]))]; simp)]
    rfl
  · obtain ⟨c, hc, rfl⟩ : ∃ c, (c ∈ signs ∨ c ∈ [91, 93]) ∧ t = [c] := by
      rcases hs with ⟨c, h, e⟩ | ⟨c, h, e⟩
      · exact ⟨c, .inl h, e⟩
      · exact ⟨c, .inr h, e⟩
    have hno : isPl (([c] ++ post).take 3) = false := by
      cases z : isPl (([c] ++ post).take 3) with
      | false => rfl
      | true =>
        have := (isPl_head z).1
        simp at this
        exact absurd this (no60 c hc)
    rw [zSeq_next (δ' := [some (.sh (.str L)), some (.sh (.int pre.length)), some (.sh (.str (([c] ++ post).take 3))), none]) (by rw [zIf_no (tst.trans (by rw [hno]))])]
    have hix : oIx (.str L) (.int (pre.length : Int)) = .ok (.str [c]) := by
      have : atI L (pre.length : Int) = some c := atI_some (by rw [← hL]; simp)
      simp only [oIx]
      rw [if_pos (by omega), this]
    unfold F_token_at_2
    rw [zSeq_next (δ' := [some (.sh (.str L)), some (.sh (.int pre.length)), some (.sh (.str (([c] ++ post).take 3))), some (.sh (.str [c]))]) (by
      simp only [S_token_at_2, e_zSet, e_m2, e_mVar, List.getElem?_cons_succ, List.getElem?_cons_zero, R.bind_ok, hix, bS_ok]
      rfl)]
    have ok : mOr (m2t oIn (mVar 3) (mC c_PLAIN_SIGNS)) (m2t oIn (mVar 3) (mC (.str [91, 93]))) [some (.sh (.str L)), some (.sh (.int pre.length)), some (.sh (.str (([c] ++ post).take 3))), some (.sh (.str [c]))] = .ok true := by
      have p1 : inB (.str [c]) c_PLAIN_SIGNS = .ok (!(Builtin.Str.occurrences ⟨signs.toArray⟩ ⟨[c].toArray⟩ 0 (⟨signs.toArray⟩ : Str).length 1).isEmpty) := rfl
      have p2 : inB (.str [c]) (.str [91, 93]) = .ok (!(Builtin.Str.occurrences ⟨[91, 93].toArray⟩ ⟨[c].toArray⟩ 0 (⟨[91, 93].toArray⟩ : Str).length 1).isEmpty) := rfl
      simp only [e_mOr, e_m2t, e_mC, e_mVar, List.getElem?_cons_succ, List.getElem?_cons_zero, R.bind_ok, oIn, p1, p2]
      rcases hc with hc | hc
      · rw [plain_in c hc]; rfl
      · rw [plain_not c hc, brack_in c hc]; rfl
    unfold F_token_at_3 S_token_at_3
    rw [zSeq_ret (d := .str [c]) (by rw [zIf_yes ok]; simp)]
    rfl
theorem allB_pos {t : List Nat} (h : t ∈ allB) : 0 < t.length := by
  rcases allB_cases h with ⟨_, h⟩ | ⟨c, _, rfl⟩ | ⟨c, _, rfl⟩
  · omega
  · simp
  · simp
theorem cut_loop : ∀ (rest done : List (List Nat)) (n : Nat) (x3 : Option Sl), (∀ t ∈ rest, t ∈ allB) → rest.length < n → (done ++ rest).flatten.length ≤ 1000 → done.length + rest.length ≤ 1000 → ∃ y3,
    whileZ (m2t oLt (mVar 2) (m1 oLen (mVar 0))) L_cut_into_tokens_1 n [some (.sh (.str (done ++ rest).flatten)), some (.ow (done.map D.str)), some (.sh (.int done.flatten.length)), x3]
      = .next [some (.sh (.str (done ++ rest).flatten)), some (.ow ((done ++ rest).map D.str)), some (.sh (.int (done ++ rest).flatten.length)), y3]
  | [], done, n + 1, x3, _, _, hl, _ => by
    refine ⟨x3, ?_⟩
    rw [List.append_nil] at hl ⊢
    have : oLen (.str done.flatten) = .ok (.int done.flatten.length) := by simp only [oLen]; rw [if_pos (by omega)]
    rw [whileZ_false (by
      simp only [e_m2t, e_m1, e_mVar, List.getElem?_cons_succ, List.getElem?_cons_zero, R.bind_ok, this, oLt_int]
      simp)]
  | t :: rest, done, n + 1, x3, hv, hn, hl, hk => by
    have ht := hv t List.mem_cons_self
    have hpos := allB_pos ht
    have e1 : (done ++ t :: rest).flatten = done.flatten ++ t ++ rest.flatten := by simp
    have hll : ((done ++ t :: rest).flatten.length : Int) = done.flatten.length + t.length + rest.flatten.length := by rw [e1, List.length_append, List.length_append]; push_cast; rfl
    have hlen : oLen (.str (done ++ t :: rest).flatten) = .ok (.int (done ++ t :: rest).flatten.length) := by simp only [oLen]; rw [if_pos (by omega)]
    have hlt : oLen (.str t) = .ok (.int t.length) := by simp only [oLen]; rw [if_pos (by omega)]
    have htk : m_token_at [.str (done ++ t :: rest).flatten, .int done.flatten.length] = .ok (.str t) := by
      rw [e1]
      exact token_at_eq ht (by rw [← e1]; exact hl)
    have ih := cut_loop rest (done ++ [t]) n (some (.sh (.str t))) (fun z hz => hv z (List.mem_cons_of_mem _ hz)) (by simp at hn; omega) (by simpa using hl) (by simp at hk ⊢; omega)
    obtain ⟨y3, ih⟩ := ih
    refine ⟨y3, ?_⟩
    rw [whileZ_true (δ' := [some (.sh (.str (done ++ t :: rest).flatten)), some (.ow ((done ++ [t]).map D.str)), some (.sh (.int (done.flatten.length + t.length))), some (.sh (.str t))]) (by
      simp only [e_m2t, e_m1, e_mVar, List.getElem?_cons_succ, List.getElem?_cons_zero, R.bind_ok, hlen, oLt_int]
      rw [decide_eq_true (by omega)]) (by
      unfold L_cut_into_tokens_1
      rw [zSeq_next (δ' := [some (.sh (.str (done ++ t :: rest).flatten)), some (.ow (done.map D.str)), some (.sh (.int done.flatten.length)), some (.sh (.str t))]) (by
        simp only [e_zSet, e_mCall, e_mCons, e_mVar, e_mNil, List.getElem?_cons_succ, List.getElem?_cons_zero, R.bind_ok, htk, bS_ok]
        rfl)]
      rw [zSeq_next (δ' := [some (.sh (.str (done ++ t :: rest).flatten)), some (.ow ((done ++ [t]).map D.str)), some (.sh (.int done.flatten.length)), some (.sh (.str t))]) (by
        have : (done.map D.str).length < 1000000 := by rw [List.length_map]; omega
        simp only [e_zApp, e_mVar, List.getElem?_cons_succ, List.getElem?_cons_zero, bS_ok, this, if_true]
        simp)]
      simp only [zAug, List.getElem?_cons_succ, List.getElem?_cons_zero, e_m1, e_mVar, R.bind_ok, hlt, bS_ok]
      rfl)]
    have e2 : done ++ t :: rest = done ++ [t] ++ rest := by simp
    have e3 : ((done.flatten.length : Int) + t.length) = ((done ++ [t]).flatten.length : Int) := by simp
    rw [e2, e3]
    exact ih
theorem cut_eq {ts : List (List Nat)} (hv : ∀ t ∈ ts, t ∈ allB) (hl : ts.flatten.length ≤ 30) : m_cut_into_tokens [.str ts.flatten] = .ok (.lst (ts.map D.str)) := by
  have hn : ∀ l : List (List Nat), (∀ t ∈ l, t ∈ allB) → l.length ≤ l.flatten.length := by
    intro l
    induction l with
    | nil => intro _; simp
    | cons t l ih =>
      intro h
      have h1 := ih fun z hz => h z (List.mem_cons_of_mem _ hz)
      have h2 := allB_pos (h t List.mem_cons_self)
      rw [List.flatten_cons, List.length_append, List.length_cons]
      omega
  have hts := hn ts hv
  unfold m_cut_into_tokens F_cut_into_tokens
  rw [zSeq_next (δ' := [some (.sh (.str ts.flatten)), some (.ow []), none, none]) (by simp [S_cut_into_tokens_0, startE, lim])]
  unfold F_cut_into_tokens_1
  rw [zSeq_next (δ' := [some (.sh (.str ts.flatten)), some (.ow []), some (.sh (.int 0)), none]) (by simp [S_cut_into_tokens_1])]
  obtain ⟨y3, e⟩ := cut_loop ts [] 40 none hv (by omega) (by simpa using (by omega : ts.flatten.length ≤ 1000)) (by simp; omega)
  unfold F_cut_into_tokens_2 S_cut_into_tokens_2
  rw [zSeq_next (δ' := [some (.sh (.str ts.flatten)), some (.ow (ts.map D.str)), some (.sh (.int ts.flatten.length)), y3]) (by simpa using e)]
  simp [F_cut_into_tokens_3, S_cut_into_tokens_3, frzE]
/-! ### pieces with their numbers -/
def Run (bd : D → Ev → Option Ev) (F : Ev → SR) : List D → Ev → Ev → Prop
  | [], δ, δ' => δ' = δ
  | d :: ds, δ, δ' => ∃ δ1 δ2, bd d δ = some δ1 ∧ F δ1 = .next δ2 ∧ Run bd F ds δ2 δ'
theorem run_loop {bd : D → Ev → Option Ev} {F : Ev → SR} : ∀ {xs : List D} {δ δ' : Ev}, Run bd F xs δ δ' → loopZ bd F xs δ = .next δ'
  | [], _, _, h => by rw [h]; rfl
  | d :: xs, δ, δ', ⟨δ1, δ2, h1, h2, h3⟩ => by
    rw [loopZ]
    simp only [h1, h2]
    exact run_loop h3
theorem run_append {bd : D → Ev → Option Ev} {F : Ev → SR} : ∀ {xs ys : List D} {δ δ1 δ2 : Ev}, Run bd F xs δ δ1 → Run bd F ys δ1 δ2 → Run bd F (xs ++ ys) δ δ2
  | [], _, _, _, _, h, k => by rw [h] at k; exact k
  | d :: xs, _, _, _, _, ⟨a, b, h1, h2, h3⟩, k => ⟨a, b, h1, h2, run_append h3 k⟩
theorem enumFrom_append : ∀ (xs ys : List D) (n : Nat), enumFrom n (xs ++ ys) = enumFrom n xs ++ enumFrom (n + xs.length) ys
  | [], ys, n => by simp [enumFrom]
  | x :: xs, ys, n => by simp [enumFrom, enumFrom_append xs ys (n + 1), Nat.add_assoc, Nat.add_comm 1]
theorem okP_tok : ∀ t ∈ allB, okP (.str t) = true := by decide +kernel
theorem eq_open : ∀ t ∈ allB, oEq (.str t) (.str [91]) = .ok (t == [91]) := by
  have h : ∀ t ∈ allB, eqD (.str t) (.str [91]) = (t == [91]) := by decide +kernel
  intro t ht
  unfold oEq
  rw [okP_tok t ht, okP_tok [91] (by decide), h t ht]
  rfl
theorem eq_close : ∀ t ∈ allB, oEq (.str t) (.str [93]) = .ok (t == [93]) := by
  have h : ∀ t ∈ allB, eqD (.str t) (.str [93]) = (t == [93]) := by decide +kernel
  intro t ht
  unfold oEq
  rw [okP_tok t ht, okP_tok [93] (by decide), h t ht]
  rfl
theorem allT_no : ∀ t ∈ allT, (t == [91]) = false ∧ (t == [93]) = false := by decide +kernel
theorem allT_sub {t : List Nat} (h : t ∈ allT) : t ∈ allB := List.mem_append_left _ h
theorem allT_pl : ∀ t ∈ allT, isPl t = decide (t.length = 3) := by decide +kernel
theorem piece_of_eq {t : List Nat} (ht : t ∈ allT) (k : Int) : m_piece_of [.str t, .int k] = .ok (pieceD k t) := by
  have tst : m2t oIn (mVar 0) (mC c_PLACES) (startE 2 [.str t, .int k]) = .ok (isPl t) := by
    simp only [startE, List.map_cons, List.map_nil, List.cons_append, List.nil_append, e_m2t, e_mC, e_mVar, List.getElem?_cons_zero, R.bind_ok, oIn, inB_places]
  unfold m_piece_of F_piece_of
  rw [allT_pl t ht] at tst
  by_cases h3 : t.length = 3
  · have hix : oIx (.str t) (.int 1) = .ok (.str [t.getD 1 0]) := by
      obtain ⟨a, b, c, rfl⟩ : ∃ a b c, t = [a, b, c] := by
        match t, h3 with
        | [a, b, c], _ => exact ⟨a, b, c, rfl⟩
      rfl
    rw [zSeq_ret (d := pieceD k t) (by
      rw [zIf_yes (tst.trans (by rw [decide_eq_true h3]))]
      simp only [startE, List.map_cons, List.map_nil, List.cons_append, List.nil_append, e_zRet, e_mTup, e_mCons, e_mC, e_m2, e_mVar, e_mNil, List.getElem?_cons_succ, List.getElem?_cons_zero, R.bind_ok, hix, List.length_cons, List.length_nil]
      rw [if_pos (by decide)]
      simp [pieceD, h3])]
    rfl
  · rw [zSeq_next (δ' := startE 2 [.str t, .int k]) (by rw [zIf_no (tst.trans (by rw [decide_eq_false h3]))])]
    simp only [F_piece_of_1, startE, List.map_cons, List.map_nil, List.cons_append, List.nil_append, e_zRet, e_mTup, e_mCons, e_mC, e_m2, e_mVar, e_mNil, List.getElem?_cons_succ, List.getElem?_cons_zero, R.bind_ok, List.length_cons, List.length_nil]
    rw [if_pos (by decide)]
    simp [pieceD, h3]
def stN (TL : List (List Nat)) (made : List D) (n : Int) (b : Bool) (x4 x5 : Option Sl) : Ev := [some (.sh (.lst (TL.map D.str))), some (.ow made), some (.sh (.int n)), some (.sh (.bl b)), x4, x5]
theorem np_plain {TL : List (List Nat)} {made : List D} {n : Int} {b : Bool} {i : Nat} {t : List Nat} (ht : t ∈ allT) (hm : made.length < 1000000) :
    L_number_pieces_1 (stN TL made n b (some (.sh (.int i))) (some (.sh (.str t)))) = .next (stN TL (made ++ [pieceD (if b then n else 0) t]) n b (some (.sh (.int i))) (some (.sh (.str t)))) := by
  have h1 := eq_open t (allT_sub ht)
  have h2 := eq_close t (allT_sub ht)
  rw [(allT_no t ht).1] at h1
  rw [(allT_no t ht).2] at h2
  unfold L_number_pieces_1 stN
  rw [zIf_no (by simp only [e_m2t, e_mC, e_mVar, List.getElem?_cons_succ, List.getElem?_cons_zero, R.bind_ok, h1])]
  rw [zIf_no (by simp only [e_m2t, e_mC, e_mVar, List.getElem?_cons_succ, List.getElem?_cons_zero, R.bind_ok, h2])]
  have hp : mCall m_piece_of (mCons (mVar 5) (mCons (mIf (mT (mVar 3)) (mVar 2) (mC (.int 0))) (mNil))) [some (.sh (.lst (TL.map D.str))), some (.ow made), some (.sh (.int n)), some (.sh (.bl b)), some (.sh (.int i)), some (.sh (.str t))] = .ok (pieceD (if b then n else 0) t) := by
    cases b <;> simp only [e_mCall, e_mCons, e_mIf, e_mT, e_mVar, e_mC, e_mNil, List.getElem?_cons_succ, List.getElem?_cons_zero, R.bind_ok, tru_bl, if_true, Bool.false_eq_true, if_false, piece_of_eq ht]
  simp only [e_zApp, List.getElem?_cons_succ, List.getElem?_cons_zero, hp, bS_ok, hm, if_true, List.set_cons_succ, List.set_cons_zero]
theorem np_open {TL : List (List Nat)} {made : List D} {n : Int} {i : Nat} :
    L_number_pieces_1 (stN TL made n false (some (.sh (.int i))) (some (.sh (.str [91])))) = .next (stN TL made (n + 1) true (some (.sh (.int i))) (some (.sh (.str [91])))) := by
  have h1 := eq_open [91] (by decide)
  unfold L_number_pieces_1 stN
  rw [zIf_yes (by simp only [e_m2t, e_mC, e_mVar, List.getElem?_cons_succ, List.getElem?_cons_zero, R.bind_ok, h1]; rfl)]
  simp [zSeq, zAug]
theorem np_close {TL : List (List Nat)} {made : List D} {n : Int} {i : Nat} {t : List Nat} (hi : TL[i]? = some t) (ht : t ∈ allT) :
    L_number_pieces_1 (stN TL made n true (some (.sh (.int ((i + 1 : Nat) : Int)))) (some (.sh (.str [93])))) = .next (stN TL made n false (some (.sh (.int ((i + 1 : Nat) : Int)))) (some (.sh (.str [93])))) := by
  have h1 := eq_open [93] (by decide)
  have h2 := eq_close [93] (by decide)
  have h3 := eq_open t (allT_sub ht)
  rw [(allT_no t ht).1] at h3
  have hix : oIx (.lst (TL.map D.str)) (.int (((i + 1 : Nat) : Int) - 1)) = .ok (.str t) := by
    rw [show ((i + 1 : Nat) : Int) - 1 = (i : Int) by push_cast; omega]
    exact oIx_lst (atI_some (by simp [hi]))
  unfold L_number_pieces_1 stN
  rw [zIf_no (by simp only [e_m2t, e_mC, e_mVar, List.getElem?_cons_succ, List.getElem?_cons_zero, R.bind_ok, h1]; rfl)]
  rw [zIf_yes (by simp only [e_m2t, e_mC, e_mVar, List.getElem?_cons_succ, List.getElem?_cons_zero, R.bind_ok, h2]; rfl)]
  rw [zSeq_next (δ' := [some (.sh (.lst (TL.map D.str))), some (.ow made), some (.sh (.int n)), some (.sh (.bl true)), some (.sh (.int ((i + 1 : Nat) : Int))), some (.sh (.str [93]))]) (by rw [zIf_no (by simp)])]
  rw [zSeq_next (δ' := [some (.sh (.lst (TL.map D.str))), some (.ow made), some (.sh (.int n)), some (.sh (.bl true)), some (.sh (.int ((i + 1 : Nat) : Int))), some (.sh (.str [93]))]) (by
    rw [zIf_no (by simp only [e_m2t, e_m2, e_mC, e_mVar, List.getElem?_cons_succ, List.getElem?_cons_zero, R.bind_ok, oSub_int, hix, h3])])]
  simp
abbrev bdN : D → Ev → Option Ev := bTup 2 (bsCons (bN 4) (bsCons (bN 5) (bsNil)))
theorem np_run {TL : List (List Nat)} {n : Int} {b : Bool} : ∀ (ts : List (List Nat)) (made : List D) (i : Nat) (x4 x5 : Option Sl), (∀ t ∈ ts, t ∈ allT) → made.length + ts.length < 1000000 → ∃ y4 y5,
    Run bdN L_number_pieces_1 (enumFrom i (ts.map D.str)) (stN TL made n b x4 x5) (stN TL (made ++ ts.map (pieceD (if b then n else 0))) n b y4 y5)
  | [], made, i, x4, x5, _, _ => ⟨x4, x5, by simp [enumFrom, Run]⟩
  | t :: ts, made, i, x4, x5, hv, hm => by
    rw [List.length_cons] at hm
    obtain ⟨y4, y5, ih⟩ := np_run (TL := TL) (n := n) (b := b) ts (made ++ [pieceD (if b then n else 0) t]) (i + 1) (some (.sh (.int i))) (some (.sh (.str t))) (fun z hz => hv z (List.mem_cons_of_mem _ hz)) (by simp; omega)
    refine ⟨y4, y5, stN TL made n b (some (.sh (.int i))) (some (.sh (.str t))), _, rfl, np_plain (hv t List.mem_cons_self) (by omega), ?_⟩
    simpa using ih
theorem np_part {TL : List (List Nat)} {i : Nat} {p : Part} {rest : List (List Nat)} {made : List D} {n : Nat} (x4 x5 : Option Sl) (hT : TL.drop i = tks p ++ rest) (hv : ∀ t ∈ p.2, t ∈ allT) (hne : p.1 = true → p.2 ≠ []) (hm : made.length + p.2.length < 1000000) : ∃ y4 y5,
    Run bdN L_number_pieces_1 (enumFrom i ((tks p).map D.str)) (stN TL made n false x4 x5) (stN TL (made ++ p.2.map (pieceD (if p.1 then ((n + 1 : Nat) : Int) else 0))) ((if p.1 then n + 1 else n : Nat) : Int) false y4 y5) := by
  obtain ⟨l, ts⟩ := p
  cases l with
  | false =>
    obtain ⟨y4, y5, h⟩ := np_run (TL := TL) (n := n) (b := false) ts made i x4 x5 hv hm
    exact ⟨y4, y5, by simpa [tks] using h⟩
  | true =>
    have hne' : ts ≠ [] := hne rfl
    obtain ⟨y4, y5, h⟩ := np_run (TL := TL) (n := ((n : Nat) : Int) + 1) (b := true) ts made (i + 1) (some (.sh (.int i))) (some (.sh (.str [91]))) hv hm
    have hix : TL[i + ts.length]? = some (ts.getLast hne') := by
      have : (TL.drop i)[ts.length]? = some (ts.getLast hne') := by
        rw [hT]
        simp only [tks, if_true]
        rw [List.getLast_eq_getElem]
        have hpos : 0 < ts.length := List.length_pos_iff.mpr hne'
        obtain ⟨m, hm⟩ : ∃ m, ts.length = m + 1 := ⟨ts.length - 1, by omega⟩
        simp only [hm, List.cons_append, List.append_assoc, List.getElem?_cons_succ]
        rw [List.getElem?_append_left (by omega)]
        simp [hm]
      rw [List.getElem?_drop] at this
      exact this
    have hc := np_close (TL := TL) (made := made ++ ts.map (pieceD (((n : Nat) : Int) + 1))) (n := ((n : Nat) : Int) + 1) hix (hv _ (List.getLast_mem hne'))
    refine ⟨some (.sh (.int ((i + ts.length + 1 : Nat) : Int))), some (.sh (.str [93])), ?_⟩
    have e : (tks (true, ts)).map D.str = D.str [91] :: (ts.map D.str ++ [D.str [93]]) := by simp [tks]
    rw [e]
    refine ⟨stN TL made n false (some (.sh (.int i))) (some (.sh (.str [91]))), _, rfl, np_open, ?_⟩
    rw [enumFrom_append]
    refine run_append h ?_
    rw [List.length_map, show i + 1 + ts.length = i + ts.length + 1 by omega]
    refine ⟨_, _, rfl, hc, ?_⟩
    show _ = _
    simp
theorem np_parts {TL : List (List Nat)} : ∀ (ps : List Part) (i : Nat) (made : List D) (n : Nat) (x4 x5 : Option Sl), TL.drop i = toks ps → (∀ p ∈ ps, ∀ t ∈ p.2, t ∈ allT) → (∀ p ∈ ps, p.1 = true → p.2 ≠ []) → made.length + (allTk ps).length < 1000000 → ∃ y4 y5,
    Run bdN L_number_pieces_1 (enumFrom i ((toks ps).map D.str)) (stN TL made n false x4 x5) (stN TL (made ++ pcs n ps) ((n + cnt ps : Nat) : Int) false y4 y5)
  | [], i, made, n, x4, x5, _, _, _, _ => ⟨x4, x5, by simp [toks, enumFrom, Run, pcs, cnt]⟩
  | p :: ps, i, made, n, x4, x5, hT, hv, hne, hm => by
    have e : toks (p :: ps) = tks p ++ toks ps := by unfold toks; rw [List.flatMap_cons]
    have e2 : allTk (p :: ps) = p.2 ++ allTk ps := by unfold allTk; rw [List.flatMap_cons]
    rw [e2, List.length_append] at hm
    rw [e] at hT
    obtain ⟨y4, y5, h1⟩ := np_part (n := n) (made := made) x4 x5 hT (hv p List.mem_cons_self) (hne p List.mem_cons_self) (by omega)
    have hT2 : TL.drop (i + (tks p).length) = toks ps := by
      rw [← List.drop_drop, hT]
      simp
    obtain ⟨z4, z5, h2⟩ := np_parts ps (i + (tks p).length) (made ++ p.2.map (pieceD (if p.1 then ((n + 1 : Nat) : Int) else 0))) (if p.1 then n + 1 else n) y4 y5 hT2 (fun q hq => hv q (List.mem_cons_of_mem _ hq)) (fun q hq => hne q (List.mem_cons_of_mem _ hq)) (by rw [List.length_append, List.length_map]; omega)
    refine ⟨z4, z5, ?_⟩
    rw [e, List.map_append, enumFrom_append, List.length_map]
    have hN : (if p.1 then n + 1 else n) + cnt ps = n + cnt (p :: ps) := by
      unfold cnt
      rw [List.countP_cons]
      cases p.1 <;> simp
      omega
    rw [hN, List.append_assoc] at h2
    exact run_append h1 h2
theorem number_pieces_eq {ps : List Part} (hv : ∀ p ∈ ps, ∀ t ∈ p.2, t ∈ allT) (hne : ∀ p ∈ ps, p.1 = true → p.2 ≠ []) (hc : cnt ps ≤ 3) (hm : (allTk ps).length ≤ 1000) : m_number_pieces [.lst ((toks ps).map D.str)] = .ok (.lst (pcs 0 ps)) := by
  unfold m_number_pieces F_number_pieces
  rw [zSeq_next (δ' := [some (.sh (.lst ((toks ps).map D.str))), some (.ow []), none, none, none, none]) (by simp [S_number_pieces_0, startE, lim])]
  unfold F_number_pieces_1
  rw [zSeq_next (δ' := [some (.sh (.lst ((toks ps).map D.str))), some (.ow []), some (.sh (.int 0)), none, none, none]) (by simp [S_number_pieces_1])]
  unfold F_number_pieces_2
  rw [zSeq_next (δ' := stN (toks ps) [] ((0 : Nat) : Int) false none none) (by simp [S_number_pieces_2, stN])]
  obtain ⟨y4, y5, h⟩ := np_parts (TL := toks ps) ps 0 [] 0 none none rfl hv hne (by simp; omega)
  unfold F_number_pieces_3 S_number_pieces_3
  rw [zSeq_next (δ' := stN (toks ps) (pcs 0 ps) (cnt ps : Int) false y4 y5) (by
    unfold zFor
    have e : (fun δ => ((mVar 0) δ).bind enumD) (stN (toks ps) [] ((0 : Nat) : Int) false none none) = .ok (enumFrom 0 ((toks ps).map D.str)) := rfl
    rw [e, bS_ok]
    have := run_loop h
    simpa using this)]
  have hc' : ¬ (3 : Int) < (cnt ps : Int) := by omega
  simp [F_number_pieces_4, S_number_pieces_4, F_number_pieces_5, S_number_pieces_5, F_number_pieces_6, S_number_pieces_6, stN, zSeq, c_MOST_LACKING_PARTS, hc', frzE]
structure OkP (ps : List Part) : Prop where
  v : ∀ p ∈ ps, ∀ t ∈ p.2, t ∈ allT
  ne : ∀ p ∈ ps, p.1 = true → p.2 ≠ []
  c : cnt ps ≤ 3
  nd : ((allTk ps).filter isPl).Nodup
  lo : 1 ≤ (form ps).length
  hi : (form ps).length ≤ 30
theorem nodup_count {p : List Nat} : ∀ {l : List (List Nat)}, l.Nodup → l.countP (fun x => x == p) ≤ 1
  | [], _ => by simp
  | a :: l, h => by
    have hh := List.nodup_cons.mp h
    rw [List.countP_cons]
    by_cases e : a = p
    · subst e
      have : l.countP (fun x => x == a) = 0 := by
        rw [List.countP_eq_zero]
        intro x hx z
        have : x = a := by simpa using z
        subst this
        exact hh.1 hx
      rw [this]
      simp
    · have := nodup_count (p := p) hh.2
      simp [e]
      exact this
theorem toks_count {p : List Nat} (hp : p ∈ places) : ∀ ps : List Part, (toks ps).countP (fun x => x == p) = (allTk ps).countP (fun x => x == p)
  | [] => rfl
  | q :: ps => by
    have h1 : ∀ p ∈ places, ([91] == p) = false ∧ ([93] == p) = false := by decide
    have ih := toks_count hp ps
    unfold toks allTk at ih ⊢
    rw [List.flatMap_cons, List.flatMap_cons, List.countP_append, List.countP_append, ih]
    congr 1
    unfold tks
    cases q.1 with
    | false => rfl
    | true =>
      simp only [if_true]
      rw [List.countP_cons, List.countP_append, (h1 p hp).1, List.countP_singleton, (h1 p hp).2]
      simp
theorem count_le {ps : List Part} (h : ((allTk ps).filter isPl).Nodup) {p : List Nat} (hp : p ∈ places) : (toks ps).countP (fun x => x == p) ≤ 1 := by
  rw [toks_count hp]
  have e : (allTk ps).countP (fun x => x == p) = ((allTk ps).filter isPl).countP (fun x => x == p) := by
    rw [List.countP_filter]
    refine List.countP_congr fun x _ => ?_
    constructor
    · intro hx
      have : x = p := by simpa using hx
      subst this
      have hpl : isPl x = true := by simpa [isPl] using hp
      simp [hpl]
    · intro hx
      simp at hx
      simp [hx.1]
  rw [e]
  exact nodup_count h
theorem toks_allB {ps : List Part} (hv : ∀ p ∈ ps, ∀ t ∈ p.2, t ∈ allT) : ∀ t ∈ toks ps, t ∈ allB := by
  intro t ht
  unfold toks at ht
  obtain ⟨p, hp, ht⟩ := List.mem_flatMap.mp ht
  unfold tks at ht
  cases hl : p.1 with
  | false => rw [hl] at ht; exact allT_sub (hv p hp t ht)
  | true =>
    rw [hl] at ht
    simp only [if_true] at ht
    rcases List.mem_cons.mp ht with rfl | ht
    · decide
    · rcases List.mem_append.mp ht with ht | ht
      · exact allT_sub (hv p hp t ht)
      · have : t = [93] := by simpa using ht
        subst this
        decide
theorem allTk_le {ps : List Part} (hv : ∀ p ∈ ps, ∀ t ∈ p.2, t ∈ allT) : (allTk ps).length ≤ (form ps).length := by
  induction ps with
  | nil => simp [allTk]
  | cons p ps ih =>
    have h1 := ih fun q hq => hv q (List.mem_cons_of_mem _ hq)
    have h2 : ∀ l : List (List Nat), (∀ t ∈ l, t ∈ allT) → l.length ≤ l.flatten.length := by
      intro l
      induction l with
      | nil => intro _; simp
      | cons t l ih =>
        intro h
        have h1 := ih fun z hz => h z (List.mem_cons_of_mem _ hz)
        have h2 := allB_pos (allT_sub (h t List.mem_cons_self))
        rw [List.flatten_cons, List.length_append, List.length_cons]
        omega
    have h3 := h2 p.2 (hv p List.mem_cons_self)
    have h4 : p.2.flatten.length ≤ (inner p).length := by
      unfold inner
      cases p.1 with
      | true => rw [if_pos rfl, List.length_append, List.length_append]; omega
      | false => rw [if_neg (by decide)]; omega
    unfold allTk form at *
    rw [List.flatMap_cons, List.flatMap_cons, List.length_append, List.length_append]
    omega
theorem read_form_eq {ps : List Part} (h : OkP ps) : m_read_form [.str (form ps)] = .ok (.lst (pcs 0 ps)) := by
  have hlen : oLen (.str (form ps)) = .ok (.int (form ps).length) := by simp only [oLen]; rw [if_pos (by have := h.hi; omega)]
  have hcut : m_cut_into_tokens [.str (form ps)] = .ok (.lst ((toks ps).map D.str)) := by
    have hh := h.hi
    rw [form_toks] at hh ⊢
    exact cut_eq (toks_allB h.v) hh
  have hnp := number_pieces_eq h.v h.ne h.c (by have := allTk_le h.v; have := h.hi; omega)
  have t1 : ¬ ((form ps).length : Int) < 1 := by have := h.lo; omega
  have t2 : ¬ (30 : Int) < ((form ps).length : Int) := by have := h.hi; omega
  unfold m_read_form F_read_form
  rw [zSeq_next (δ' := [some (.sh (.str (form ps))), none, none]) (by
    unfold S_read_form_0
    rw [zIf_no (by
      simp only [startE, List.map_cons, List.map_nil, List.cons_append, List.nil_append, e_mOr, e_m2t, e_m1, e_mC, e_mVar, List.getElem?_cons_zero, R.bind_ok, hlen, oLt_int, decide_eq_false t1, Bool.false_eq_true, if_false, c_LONGEST_FORM, oGt_int, decide_eq_false t2])]
    rfl)]
  unfold F_read_form_1
  rw [zSeq_next (δ' := [some (.sh (.str (form ps))), some (.sh (.lst ((toks ps).map D.str))), none]) (by
    simp only [S_read_form_1, e_zSet, e_mCall, e_mCons, e_mVar, e_mNil, List.getElem?_cons_zero, R.bind_ok, hcut, bS_ok]
    rfl)]
  obtain ⟨δ', e, x2, h3⟩ := zFor_next (fit := fun δ => ((mC c_PLACES) δ).bind itemsD) (bd := bN 2) (F := L_read_form_1) (δ := [some (.sh (.str (form ps))), some (.sh (.lst ((toks ps).map D.str))), none]) (ds := places.map D.str)
    (fun k δ => ∃ x2, δ = [some (.sh (.str (form ps))), some (.sh (.lst ((toks ps).map D.str))), x2]) rfl ⟨none, rfl⟩ (by
      rintro k d δ hd ⟨x2, rfl⟩
      rw [List.getElem?_map] at hd
      cases q : places[k]? with
      | none => rw [q] at hd; cases hd
      | some p =>
        rw [q] at hd
        cases hd
        have hp := List.mem_of_getElem? q
        refine ⟨[some (.sh (.str (form ps))), some (.sh (.lst ((toks ps).map D.str))), some (.sh (.str p))], [some (.sh (.str (form ps))), some (.sh (.lst ((toks ps).map D.str))), some (.sh (.str p))], rfl, .inl ?_, _, rfl⟩
        have hcount : mBL oCount (mVar 1) (mCons (mVar 2) (mNil)) [some (.sh (.str (form ps))), some (.sh (.lst ((toks ps).map D.str))), some (.sh (.str p))] = .ok (.int ((toks ps).countP (fun x => x == p) : Nat)) := by
          have e1 : (mCons (mVar 2) (mNil)) [some (.sh (.str (form ps))), some (.sh (.lst ((toks ps).map D.str))), some (.sh (.str p))] = .ok [.str p] := rfl
          have e2 : mVar 1 [some (.sh (.str (form ps))), some (.sh (.lst ((toks ps).map D.str))), some (.sh (.str p))] = .ok (.lst ((toks ps).map D.str)) := rfl
          unfold mBL
          rw [e2, R.bind_ok]
          dsimp only
          rw [e1, R.bind_ok]
          have hf : ((toks ps).map D.str).all flatD = true := by simp [flatD]
          simp only [oCount, hf, flatD, Bool.and_self, if_true]
          rw [List.countP_map]
          rfl
        have hle := count_le h.nd hp
        unfold L_read_form_1
        rw [zIf_no (by
          simp only [e_m2t, hcount, e_mC, R.bind_ok, oGt_int]
          rw [decide_eq_false (by omega)])])
  unfold F_read_form_2 S_read_form_2
  rw [zSeq_next e, h3]
  simp only [F_read_form_3, S_read_form_3, e_zRet, e_mCall, e_mCons, e_mVar, e_mNil, List.getElem?_cons_succ, List.getElem?_cons_zero, R.bind_ok, hnp, bS_ok, finR_ret]
/-! ### a form built -/
def stB (c : Int) (mx : Bool) (pk : List Int) (parts : List Part) (used : List (List Nat)) (lk : Int) (x8 x9 x10 x11 x12 x13 : Option Sl) : Ev :=
  [some (.sh (.int c)), some (.sh (.bl mx)), some (.sh (.lst (places.map D.str))), some (.sh (.str signs)), some (.sh (rowD pk)), some (.ow (parts.map partD)), some (.ow (used.map D.str)), some (.sh (.int lk)), x8, x9, x10, x11, x12, x13]
theorem pk_at {pk : List Int} (hl : pk.length = 40) (hb : ∀ x ∈ pk, 0 ≤ x ∧ x < 41) {i : Nat} (hi : i < 40) : ∃ v : Nat, v < 41 ∧ oIx (rowD pk) (.int (i : Int)) = .ok (.int (v : Int)) := by
  have h := hb pk[i] (List.getElem_mem (by omega))
  exact ⟨pk[i].toNat, by omega, by
    rw [oIx_row (d := pk[i]) (by simp [hl, hi]), Int.toNat_of_nonneg h.1]⟩
theorem sign_mem {v : Nat} (h : v < 41) : ∃ c, signs[v]? = some c ∧ [c] ∈ allT ∧ isPl [c] = false := by
  have : ∀ v : Fin 41, ∃ c, signs[v.1]? = some c ∧ [c] ∈ allT ∧ isPl [c] = false := by
    intro v
    have hl : v.1 < signs.length := v.2
    refine ⟨signs[v.1], by simp [hl], ?_, ?_⟩
    · exact List.mem_append_right _ (List.mem_map.mpr ⟨_, List.getElem_mem hl, rfl⟩)
    · have : ∀ c ∈ signs, isPl [c] = false := by decide
      exact this _ (List.getElem_mem hl)
  exact this ⟨v, h⟩
theorem nin_strs (t : List Nat) (u : List (List Nat)) : oNin (.str t) (.lst (u.map D.str)) = .ok (!decide (t ∈ u)) := by
  have hf : (u.map D.str).all flatD = true := by simp [flatD]
  have e : inB (.str t) (.lst (u.map D.str)) = .ok (decide (t ∈ u)) := by
    unfold inB
    simp only [hf, flatD, Bool.and_self, if_true]
    congr 1
    rw [Bool.eq_iff_iff, List.any_map, List.any_eq_true, decide_eq_true_eq]
    constructor
    · rintro ⟨x, hx, e⟩
      have e' : x = t := by simpa [eqF] using e
      exact e' ▸ hx
    · intro h
      exact ⟨t, h, by simp [eqF]⟩
  unfold oNin
  rw [e]
  rfl
theorem built_one {c : Int} {mx : Bool} {pk : List Int} (hl : pk.length = 40) (hb : ∀ x ∈ pk, 0 ≤ x ∧ x < 41) {parts : List Part} {used ts : List (List Nat)} {lk : Int} {k j : Nat} (hk : k < 4) (hj : j < 3) (x11 x12 x13 : Option Sl) (hu : used.length < 1000) (hts : ts.length < 1000) : ∃ t y11 y12, t ∈ allT ∧ (isPl t = true → t ∉ used) ∧
    L_law_built_1 (stB c mx pk parts used lk (some (.sh (.int k))) (some (.ow (ts.map D.str))) (some (.sh (.int j))) x11 x12 x13) = .next (stB c mx pk parts (used ++ if isPl t then [t] else []) lk (some (.sh (.int k))) (some (.ow ((ts ++ [t]).map D.str))) (some (.sh (.int j))) y11 y12 x13) := by
  obtain ⟨v, hv, h1⟩ := pk_at hl hb (i := 10 + 3 * k + j) (by omega)
  obtain ⟨w, hw, h2⟩ := pk_at hl hb (i := 25 + 3 * k + j) (by omega)
  obtain ⟨s, hs, hsT, hsP⟩ := sign_mem hw
  have m3 : oMul (.int 3) (.int (k : Int)) = .ok (.int (3 * k)) := oMul_l _ (by decide) (by decide)
  have i1 : (10 : Int) + 3 * (k : Int) + (j : Int) = ((10 + 3 * k + j : Nat) : Int) := by push_cast; omega
  have i2 : (25 : Int) + 3 * (k : Int) + (j : Int) = ((25 + 3 * k + j : Nat) : Int) := by push_cast; omega
  have hsg : oIx (.str signs) (.int (w : Int)) = .ok (.str [s]) := by
    simp only [oIx]
    rw [if_pos (by decide), atI_some hs]
  have hmod4 : oMod (.int (v : Int)) (.int 4) = .ok (.int ((v : Int) % 4)) := oMod_int _ (by decide)
  have hdiv4 : oDiv (.int (v : Int)) (.int 4) = .ok (.int ((v : Int) / 4)) := oDiv_int _ (by decide) (by decide)
  have hmod6 : oMod (.int ((v : Int) / 4)) (.int 6) = .ok (.int ((v : Int) / 4 % 6)) := oMod_int _ (by decide)
  have hq : (v : Int) / 4 % 6 = ((v / 4 % 6 : Nat) : Int) := by push_cast; rfl
  have hq6 : v / 4 % 6 < places.length := Nat.mod_lt _ (by decide)
  have hpl : oIx (.lst (places.map D.str)) (.int ((v : Int) / 4 % 6)) = .ok (.str places[v / 4 % 6]) := by
    rw [hq]
    exact oIx_lst (atI_some (by simp [hq6]))
  have hpT : places[v / 4 % 6] ∈ allT := List.mem_append_left _ (List.getElem_mem hq6)
  have hpP : isPl places[v / 4 % 6] = true := by
    have := List.getElem_mem hq6
    simpa [isPl] using this
  generalize hp : places[v / 4 % 6] = pl at *
  have hul : (used.map D.str).length < 1000000 := by rw [List.length_map]; omega
  have htl : (ts.map D.str).length < 1000000 := by rw [List.length_map]; omega
  have st : ∀ F : Ev → SR, (zSeq (zSet 11 (m2 oIx (mVar 4) (m2 oAdd (m2 oAdd (mC (.int 10)) (m2 oMul (mC (.int 3)) (mVar 8))) (mVar 10)))) (zSeq (zSet 12 (m2 oIx (mVar 3) (m2 oIx (mVar 4) (m2 oAdd (m2 oAdd (mC (.int 25)) (m2 oMul (mC (.int 3)) (mVar 8))) (mVar 10))))) F)) (stB c mx pk parts used lk (some (.sh (.int k))) (some (.ow (ts.map D.str))) (some (.sh (.int j))) x11 x12 x13) = F (stB c mx pk parts used lk (some (.sh (.int k))) (some (.ow (ts.map D.str))) (some (.sh (.int j))) (some (.sh (.int v))) (some (.sh (.str [s]))) x13) := fun F => by
    unfold stB
    rw [zSeq_next (δ' := [some (.sh (.int c)), some (.sh (.bl mx)), some (.sh (.lst (places.map D.str))), some (.sh (.str signs)), some (.sh (rowD pk)), some (.ow (parts.map partD)), some (.ow (used.map D.str)), some (.sh (.int lk)), some (.sh (.int k)), some (.ow (ts.map D.str)), some (.sh (.int j)), some (.sh (.int v)), x12, x13]) (by
      simp only [e_zSet, e_m2, e_mC, e_mVar, List.getElem?_cons_succ, List.getElem?_cons_zero, R.bind_ok, m3, oAdd_int, i1, h1, bS_ok, List.set_cons_succ, List.set_cons_zero])]
    rw [zSeq_next (δ' := [some (.sh (.int c)), some (.sh (.bl mx)), some (.sh (.lst (places.map D.str))), some (.sh (.str signs)), some (.sh (rowD pk)), some (.ow (parts.map partD)), some (.ow (used.map D.str)), some (.sh (.int lk)), some (.sh (.int k)), some (.ow (ts.map D.str)), some (.sh (.int j)), some (.sh (.int v)), some (.sh (.str [s])), x13]) (by
      simp only [e_zSet, e_m2, e_mC, e_mVar, List.getElem?_cons_succ, List.getElem?_cons_zero, R.bind_ok, m3, oAdd_int, i2, h2, hsg, bS_ok, List.set_cons_succ, List.set_cons_zero])]
  have tst : mAnd (m2t oGt (m2 oMod (mVar 11) (mC (.int 4))) (mC (.int 0))) (m2t oNin (m2 oIx (mVar 2) (m2 oMod (m2 oDiv (mVar 11) (mC (.int 4))) (mC (.int 6)))) (mVarR 6)) (stB c mx pk parts used lk (some (.sh (.int k))) (some (.ow (ts.map D.str))) (some (.sh (.int j))) (some (.sh (.int v))) (some (.sh (.str [s]))) x13) = .ok (decide (0 < (v : Int) % 4) && !decide (pl ∈ used)) := by
    unfold stB
    simp only [e_mAnd, e_m2t, e_m2, e_mC, e_mVar, e_mVarR, List.getElem?_cons_succ, List.getElem?_cons_zero, R.bind_ok, hmod4, oGt_int, hdiv4, hmod6, hpl, nin_strs]
    by_cases z : 0 < (v : Int) % 4 <;> simp [z]
  unfold L_law_built_1
  by_cases hc : 0 < (v : Int) % 4 ∧ pl ∉ used
  · refine ⟨pl, some (.sh (.int v)), some (.sh (.str pl)), hpT, fun _ => hc.2, ?_⟩
    rw [st]
    rw [zSeq_next (δ' := stB c mx pk parts (used ++ [pl]) lk (some (.sh (.int k))) (some (.ow (ts.map D.str))) (some (.sh (.int j))) (some (.sh (.int v))) (some (.sh (.str pl))) x13) (by
      rw [zIf_yes (tst.trans (by simp [hc]))]
      unfold stB
      rw [zSeq_next (δ' := [some (.sh (.int c)), some (.sh (.bl mx)), some (.sh (.lst (places.map D.str))), some (.sh (.str signs)), some (.sh (rowD pk)), some (.ow (parts.map partD)), some (.ow (used.map D.str)), some (.sh (.int lk)), some (.sh (.int k)), some (.ow (ts.map D.str)), some (.sh (.int j)), some (.sh (.int v)), some (.sh (.str pl)), x13]) (by
        simp only [e_zSet, e_m2, e_mC, e_mVar, List.getElem?_cons_succ, List.getElem?_cons_zero, R.bind_ok, hdiv4, hmod6, hpl, bS_ok, List.set_cons_succ, List.set_cons_zero])]
      simp only [e_zApp, e_mVar, List.getElem?_cons_succ, List.getElem?_cons_zero, bS_ok, hul, if_true, List.set_cons_succ, List.set_cons_zero]
      simp)]
    unfold stB
    simp only [e_zApp, e_mVar, List.getElem?_cons_succ, List.getElem?_cons_zero, bS_ok, htl, if_true, List.set_cons_succ, List.set_cons_zero, hpP]
    simp
  · refine ⟨[s], some (.sh (.int v)), some (.sh (.str [s])), hsT, (fun z => Bool.noConfusion (hsP.symm.trans z)), ?_⟩
    rw [st]
    rw [zSeq_next (δ' := stB c mx pk parts used lk (some (.sh (.int k))) (some (.ow (ts.map D.str))) (some (.sh (.int j))) (some (.sh (.int v))) (some (.sh (.str [s]))) x13) (by
      rw [zIf_no (tst.trans (by
        congr 1
        by_cases z : 0 < (v : Int) % 4
        · have : pl ∈ used := Decidable.byContradiction fun y => hc ⟨z, y⟩
          simp [this]
        · simp [z]))])]
    unfold stB
    simp only [e_zApp, e_mVar, List.getElem?_cons_succ, List.getElem?_cons_zero, bS_ok, htl, if_true, List.set_cons_succ, List.set_cons_zero, hsP, Bool.false_eq_true, if_false, List.append_nil]
    simp

theorem allTk_snoc (ps : List Part) (p : Part) : allTk (ps ++ [p]) = allTk ps ++ p.2 := by unfold allTk; simp
structure BI (k : Nat) (parts : List Part) : Prop where
  n : parts.length = k
  v : ∀ p ∈ parts, ∀ t ∈ p.2, t ∈ allT
  ne : ∀ p ∈ parts, p.2 ≠ []
  l3 : ∀ p ∈ parts, p.2.length ≤ 3
  c : cnt parts ≤ 3
  nd : ((allTk parts).filter isPl).Nodup
theorem nodup_sub {α : Type} [DecidableEq α] : ∀ (l s : List α), l.Nodup → (∀ x ∈ l, x ∈ s) → l.length ≤ s.length
  | [], s, _, _ => Nat.zero_le _
  | a :: l, s, hn, hs => by
    have hh := List.nodup_cons.mp hn
    have ha := hs a List.mem_cons_self
    have ih := nodup_sub l (s.erase a) hh.2 (fun x hx => (List.mem_erase_of_ne (fun (e : x = a) => hh.1 (e ▸ hx))).mpr (hs x (List.mem_cons_of_mem _ hx)))
    rw [List.length_erase_of_mem ha] at ih
    have : 0 < s.length := List.length_pos_of_mem ha
    rw [List.length_cons]
    omega
theorem pl_le {l : List (List Nat)} (h : (l.filter isPl).Nodup) : (l.filter isPl).length ≤ 6 := by
  refine nodup_sub (l.filter isPl) places h (fun x hx => ?_)
  have := (List.mem_filter.mp hx).2
  simpa [isPl] using this
theorem allTk_len {ps : List Part} (h : ∀ p ∈ ps, p.2.length ≤ 3) : (allTk ps).length ≤ 3 * ps.length := by
  induction ps with
  | nil => simp [allTk]
  | cons p ps ih =>
    have h1 := ih fun q hq => h q (List.mem_cons_of_mem _ hq)
    have h2 := h p List.mem_cons_self
    unfold allTk at *
    rw [List.flatMap_cons, List.length_append, List.length_cons]
    omega
theorem flat_len : ∀ (l : List (List Nat)), (∀ t ∈ l, t ∈ allT) → l.flatten.length = l.length + 2 * (l.filter isPl).length
  | [], _ => rfl
  | t :: l, h => by
    have ih := flat_len l fun z hz => h z (List.mem_cons_of_mem _ hz)
    have ht := h t List.mem_cons_self
    have hp := allT_pl t ht
    rw [List.flatten_cons, List.length_append, ih, List.filter_cons, hp, List.length_cons]
    rcases len_tok ht with e | e
    · rw [decide_eq_true e, if_pos rfl, List.length_cons]; omega
    · rw [decide_eq_false (by omega), if_neg (by decide)]; omega
theorem form_len : ∀ (ps : List Part), (form ps).length = (allTk ps).flatten.length + 2 * cnt ps
  | [] => rfl
  | p :: ps => by
    have ih := form_len ps
    have e : (inner p).length = p.2.flatten.length + 2 * (if p.1 then 1 else 0) := by
      unfold inner
      cases p.1 with
      | true => rw [if_pos rfl, if_pos rfl, List.length_append, List.length_append]; simp only [List.length_cons, List.length_nil]; omega
      | false => rw [if_neg (by decide), if_neg (by decide)]; rfl
    unfold form allTk cnt at *
    rw [List.flatMap_cons, List.flatMap_cons, List.length_append, List.flatten_append, List.length_append, List.countP_cons, ih, e]
    omega
theorem BI.ok {k : Nat} {ps : List Part} (h : BI k ps) (h1 : 1 ≤ k) (h4 : k ≤ 4) : OkP ps := by
  have hf := form_len ps
  have ha : ∀ t ∈ allTk ps, t ∈ allT := fun t ht => by
    unfold allTk at ht
    obtain ⟨p, hp, ht⟩ := List.mem_flatMap.mp ht
    exact h.v p hp t ht
  have hfl := flat_len (allTk ps) ha
  have h6 := pl_le h.nd
  have h12 := allTk_len h.l3
  rw [h.n] at h12
  have hc := h.c
  refine ⟨h.v, fun p hp _ => h.ne p hp, hc, h.nd, ?_, by omega⟩
  have : 1 ≤ (allTk ps).length := by
    match ps, h with
    | [], h => have := h.n; simp at this; omega
    | p :: ps, h =>
      have := h.ne p List.mem_cons_self
      have : 0 < p.2.length := List.length_pos_iff.mpr this
      unfold allTk
      rw [List.flatMap_cons, List.length_append]
      omega
  omega
theorem built_two {c : Int} {mx : Bool} {pk : List Int} (hl : pk.length = 40) (hb : ∀ x ∈ pk, 0 ≤ x ∧ x < 41) {parts : List Part} {k : Nat} (hk : k < 4) (h : BI k parts) (x9 x10 x11 x12 x13 : Option Sl) : ∃ p y9 y10 y11 y12 y13, BI (k + 1) (parts ++ [p]) ∧
    L_law_built_2 (stB c mx pk parts ((allTk parts).filter isPl) (cnt parts : Int) (some (.sh (.int k))) x9 x10 x11 x12 x13) = .next (stB c mx pk (parts ++ [p]) ((allTk (parts ++ [p])).filter isPl) (cnt (parts ++ [p]) : Int) (some (.sh (.int k))) y9 y10 y11 y12 y13) := by
  obtain ⟨v, hv, h1⟩ := pk_at hl hb (i := 1 + k) (by omega)
  obtain ⟨w, hw, h2⟩ := pk_at hl hb (i := 5 + k) (by omega)
  have i1 : (1 : Int) + (k : Int) = ((1 + k : Nat) : Int) := by push_cast; rfl
  have i2 : (5 : Int) + (k : Int) = ((5 + k : Nat) : Int) := by push_cast; rfl
  have hmod3 : oMod (.int (v : Int)) (.int 3) = .ok (.int ((v : Int) % 3)) := oMod_int _ (by decide)
  have hmod5 : oMod (.int (w : Int)) (.int 5) = .ok (.int ((w : Int) % 5)) := oMod_int _ (by decide)
  have hn : (1 : Int) + (v : Int) % 3 = ((1 + v % 3 : Nat) : Int) := by push_cast; rfl
  have h12 := allTk_len h.l3
  rw [h.n] at h12
  have hul : ((allTk parts).filter isPl).length ≤ 6 := pl_le h.nd
  unfold L_law_built_2
  rw [zSeq_next (δ' := stB c mx pk parts ((allTk parts).filter isPl) (cnt parts : Int) (some (.sh (.int k))) (some (.ow [])) x10 x11 x12 x13) (by simp [stB, lim])]
  obtain ⟨δ', e, ts, y10, y11, y12, g1, g2, g3, g4⟩ := zFor_next (fit := fun δ => ((mCons (m2 oAdd (mC (.int 1)) (m2 oMod (m2 oIx (mVar 4) (m2 oAdd (mC (.int 1)) (mVar 8))) (mC (.int 3)))) (mNil)) δ).bind iR1) (bd := bN 10) (F := L_law_built_1) (δ := stB c mx pk parts ((allTk parts).filter isPl) (cnt parts : Int) (some (.sh (.int k))) (some (.ow [])) x10 x11 x12 x13) (ds := rngD 0 ((1 + v % 3 : Nat) : Int))
    (fun j δ => ∃ ts y10 y11 y12, ts.length = j ∧ (∀ t ∈ ts, t ∈ allT) ∧ (((allTk parts).filter isPl) ++ ts.filter isPl).Nodup ∧ δ = stB c mx pk parts (((allTk parts).filter isPl) ++ ts.filter isPl) (cnt parts : Int) (some (.sh (.int k))) (some (.ow (ts.map D.str))) y10 y11 y12 x13)
    (fit1 (by
      simp only [stB, e_mCons, e_m2, e_mC, e_mVar, e_mNil, List.getElem?_cons_succ, List.getElem?_cons_zero, R.bind_ok, oAdd_int, i1, h1, hmod3, hn]) (by omega)) ⟨[], x10, x11, x12, rfl, by simp, by simpa using h.nd, by simp⟩ (by
      rintro j d δ hd ⟨ts, y10, y11, y12, g1, g2, g3, rfl⟩
      obtain ⟨rfl, hj⟩ := rngD_get hd
      have hj3 : j < 3 := by omega
      have hu2 : (((allTk parts).filter isPl) ++ ts.filter isPl).length < 1000 := by
        have := List.length_filter_le isPl ts
        rw [List.length_append]
        omega
      obtain ⟨t, z11, z12, t1, t2, t3⟩ := built_one (c := c) (mx := mx) hl hb (parts := parts) (used := ((allTk parts).filter isPl) ++ ts.filter isPl) (ts := ts) (lk := (cnt parts : Int)) (k := k) (j := j) hk hj3 y11 y12 x13 hu2 (by omega)
      refine ⟨stB c mx pk parts (((allTk parts).filter isPl) ++ ts.filter isPl) (cnt parts : Int) (some (.sh (.int k))) (some (.ow (ts.map D.str))) (some (.sh (.int j))) y11 y12 x13, _, by simp [stB], .inl t3, ts ++ [t], some (.sh (.int j)), z11, z12, by simp [g1], fun x hx => ?_, ?_, ?_⟩
      · rcases List.mem_append.mp hx with hx | hx
        · exact g2 x hx
        · have : x = t := by simpa using hx
          exact this ▸ t1
      · rw [List.filter_append]
        cases ip : isPl t with
        | false => simpa [ip] using g3
        | true =>
          have nt := t2 ip
          simp only [List.filter_cons, ip, if_true, List.filter_nil]
          rw [← List.append_assoc]
          rw [List.nodup_append]
          refine ⟨g3, by simp, fun a ha b hb' => ?_⟩
          have : b = t := by simpa using hb'
          subst this
          exact fun e => nt (e ▸ ha)
      · rw [List.filter_append]
        cases ip : isPl t <;> simp [ip])
  have hlen3 : ts.length = 1 + v % 3 := by rw [g1, rngD_length]; omega
  have hv3 : v % 3 < 3 := Nat.mod_lt _ (by decide)
  rw [zSeq_next e, g4]
  obtain ⟨b, hbv⟩ : ∃ b : Bool, b = (decide ((w : Int) % 5 < 2) && decide ((cnt parts : Int) < 3)) := ⟨_, rfl⟩
  have hcb : b = true → cnt parts < 3 := fun z => by
    rw [hbv] at z
    have := (Bool.and_eq_true_iff.mp z).2
    have := of_decide_eq_true this
    omega
  have hcnt : cnt (parts ++ [(b, ts)]) = cnt parts + (if b then 1 else 0) := by
    unfold cnt
    rw [List.countP_append, List.countP_singleton]
  refine ⟨(b, ts), some (.sh (.lst (ts.map D.str))), y10, y11, y12, some (.sh (.int (if b then 1 else 0))), ⟨?_, ?_, ?_, ?_, ?_, ?_⟩, ?_⟩
  · rw [List.length_append, h.n]; rfl
  · intro p hp
    rcases List.mem_append.mp hp with hp | hp
    · exact h.v p hp
    · have : p = (b, ts) := by simpa using hp
      subst this
      exact g2
  · intro p hp
    rcases List.mem_append.mp hp with hp | hp
    · exact h.ne p hp
    · have : p = (b, ts) := by simpa using hp
      subst this
      exact List.ne_nil_of_length_pos (by show 0 < ts.length; omega)
  · intro p hp
    rcases List.mem_append.mp hp with hp | hp
    · exact h.l3 p hp
    · have : p = (b, ts) := by simpa using hp
      subst this
      show ts.length ≤ 3
      omega
  · rw [hcnt]
    have := h.c
    cases hbb : b with
    | false => simpa using this
    | true => have := hcb hbb; simp; omega
  · rw [allTk_snoc, List.filter_append]; exact g3
  · have hpl : (parts.map partD).length < 1000000 := by rw [List.length_map, h.n]; omega
    rw [zSeq_next (δ' := stB c mx pk parts (((allTk parts).filter isPl) ++ ts.filter isPl) (cnt parts : Int) (some (.sh (.int k))) (some (.ow (ts.map D.str))) y10 y11 y12 (some (.sh (.int (if b then 1 else 0))))) (by
      have hval : mCB oInt (mCons (mAndV (m2 (op2 oLt) (m2 oMod (m2 oIx (mVar 4) (m2 oAdd (mC (.int 5)) (mVar 8))) (mC (.int 5))) (mC (.int 2))) (m2 (op2 oLt) (mVar 7) (mC (.int 3)))) (mNil)) (stB c mx pk parts (((allTk parts).filter isPl) ++ ts.filter isPl) (cnt parts : Int) (some (.sh (.int k))) (some (.ow (ts.map D.str))) y10 y11 y12 x13) = .ok (.int (if b then 1 else 0)) := by
        unfold mCB
        simp only [stB, e_mCons, e_mAndV, e_m2, e_mC, e_mVar, e_mNil, List.getElem?_cons_succ, List.getElem?_cons_zero, R.bind_ok, oAdd_int, i2, h2, hmod5, op2_int_lt, boolD_bl]
        rw [hbv]
        by_cases z : (w : Int) % 5 < 2
        · simp only [z, decide_true, if_true, Bool.true_and, R.bind_ok, oInt]
        · simp only [z, decide_false, Bool.false_eq_true, if_false, Bool.false_and, R.bind_ok, oInt]
      simp only [e_zSet, hval, bS_ok]
      simp [stB])]
    rw [zSeq_next (δ' := stB c mx pk parts (((allTk parts).filter isPl) ++ ts.filter isPl) ((cnt parts : Int) + (if b then 1 else 0)) (some (.sh (.int k))) (some (.ow (ts.map D.str))) y10 y11 y12 (some (.sh (.int (if b then 1 else 0))))) (by simp [stB])]
    have e2 : ((cnt (parts ++ [(b, ts)]) : Nat) : Int) = (cnt parts : Int) + (if b then 1 else 0) := by rw [hcnt]; cases b <;> simp
    rw [allTk_snoc, List.filter_append, e2]
    simp only [stB, frzE, List.getElem?_cons_succ, List.getElem?_cons_zero, List.set_cons_succ, List.set_cons_zero, e_zApp, e_mTup, e_mCons, e_mVar, e_mNil, R.bind_ok, List.length_cons, List.length_nil]
    rw [if_pos (by decide)]
    simp only [bS_ok, hpl, if_true, List.set_cons_succ, List.set_cons_zero]
    simp [partD]
theorem built_eq (c : Int) (mx : Bool) : ∃ ps, m_law_built [.int c, .bl mx] = .ok (partsD ps) ∧ ∃ k, BI k ps ∧ 1 ≤ k ∧ k ≤ 4 := by
  obtain ⟨pk, hd, hl, hb⟩ := draws_eq c mx (n := 40) (m := 41) (by decide) (by decide) (by decide)
  have hb' : ∀ x ∈ pk, 0 ≤ x ∧ x < 41 := fun x hx => by have := hb x hx; omega
  obtain ⟨v, hv, h1⟩ := pk_at hl hb' (i := 0) (by omega)
  have hmod4 : oMod (.int (v : Int)) (.int 4) = .ok (.int ((v : Int) % 4)) := oMod_int _ (by decide)
  have hn : (1 : Int) + (v : Int) % 4 = ((1 + v % 4 : Nat) : Int) := by push_cast; rfl
  have hv4 : v % 4 < 4 := Nat.mod_lt _ (by decide)
  unfold m_law_built F_law_built
  rw [zSeq_next (δ' := [some (.sh (.int c)), some (.sh (.bl mx)), some (.sh (.lst (places.map D.str))), none, none, none, none, none, none, none, none, none, none, none]) (by simp [S_law_built_0, startE, places])]
  unfold F_law_built_1
  rw [zSeq_next (δ' := [some (.sh (.int c)), some (.sh (.bl mx)), some (.sh (.lst (places.map D.str))), some (.sh (.str signs)), none, none, none, none, none, none, none, none, none, none]) (by
    unfold S_law_built_1
    rw [e_zSet, e_mC, bS_ok]
    rfl)]
  unfold F_law_built_2
  rw [zSeq_next (δ' := [some (.sh (.int c)), some (.sh (.bl mx)), some (.sh (.lst (places.map D.str))), some (.sh (.str signs)), some (.sh (rowD pk)), none, none, none, none, none, none, none, none, none]) (by
    have hd' : m_law_draws [.int c, .bl mx, .int 40, .int 41] = .ok (rowD pk) := hd
    simp only [S_law_built_2, e_zSet, e_mCall, e_mCons, e_mC, e_mVar, e_mNil, List.getElem?_cons_succ, List.getElem?_cons_zero, R.bind_ok, hd', bS_ok, List.set_cons_succ, List.set_cons_zero])]
  unfold F_law_built_3
  rw [zSeq_next (δ' := [some (.sh (.int c)), some (.sh (.bl mx)), some (.sh (.lst (places.map D.str))), some (.sh (.str signs)), some (.sh (rowD pk)), some (.ow []), none, none, none, none, none, none, none, none]) (by simp [S_law_built_3, lim])]
  unfold F_law_built_4
  rw [zSeq_next (δ' := [some (.sh (.int c)), some (.sh (.bl mx)), some (.sh (.lst (places.map D.str))), some (.sh (.str signs)), some (.sh (rowD pk)), some (.ow []), some (.ow []), none, none, none, none, none, none, none]) (by simp [S_law_built_4, lim])]
  unfold F_law_built_5
  rw [zSeq_next (δ' := stB c mx pk [] ((allTk []).filter isPl) (cnt [] : Int) none none none none none none) (by simp [S_law_built_5, stB, allTk, cnt])]
  obtain ⟨δ', e, ps, x8, x9, x10, x11, x12, x13, g1, g2⟩ := zFor_next (fit := fun δ => ((mCons (m2 oAdd (mC (.int 1)) (m2 oMod (m2 oIx (mVar 4) (mC (.int 0))) (mC (.int 4)))) (mNil)) δ).bind iR1) (bd := bN 8) (F := L_law_built_2) (δ := stB c mx pk [] ((allTk []).filter isPl) (cnt [] : Int) none none none none none none) (ds := rngD 0 ((1 + v % 4 : Nat) : Int))
    (fun k δ => ∃ ps x8 x9 x10 x11 x12 x13, BI k ps ∧ δ = stB c mx pk ps ((allTk ps).filter isPl) (cnt ps : Int) x8 x9 x10 x11 x12 x13)
    (fit1 (by
      have h1' : oIx (rowD pk) (.int 0) = .ok (.int (v : Int)) := by simpa using h1
      simp only [stB, e_mCons, e_m2, e_mC, e_mVar, e_mNil, List.getElem?_cons_succ, List.getElem?_cons_zero, R.bind_ok, oAdd_int, h1', hmod4, hn]) (by omega)) ⟨[], none, none, none, none, none, none, ⟨rfl, by simp, by simp, by simp, by decide, by simp [allTk]⟩, rfl⟩ (by
      rintro k d δ hd2 ⟨ps, x8, x9, x10, x11, x12, x13, g1, rfl⟩
      obtain ⟨rfl, hk⟩ := rngD_get hd2
      obtain ⟨p, y9, y10, y11, y12, y13, b1, b2⟩ := built_two (c := c) (mx := mx) hl hb' (by omega) g1 x9 x10 x11 x12 x13
      exact ⟨stB c mx pk ps ((allTk ps).filter isPl) (cnt ps : Int) (some (.sh (.int k))) x9 x10 x11 x12 x13, _, by simp [stB], .inl b2, ps ++ [p], _, _, _, _, _, _, b1, rfl⟩)
  have hlen : (rngD 0 ((1 + v % 4 : Nat) : Int)).length = 1 + v % 4 := by rw [rngD_length]; omega
  rw [hlen] at g1
  unfold F_law_built_6 S_law_built_6
  rw [zSeq_next e, g2]
  exact ⟨ps, by simp [F_law_built_7, S_law_built_7, stB, frzE], _, g1, by omega, by omega⟩

theorem okP_tup3 {a b : List Nat} {k : Int} (ha : okP (.str a) = true) (hb : okP (.str b) = true) : okP (.tup [.str a, .str b, .int k]) = true := by
  have f : ∀ {x : List Nat}, okP (.str x) = true → PyData.canLay0 (.str ⟨x.toArray⟩) = true := fun {x} h => by
    unfold okP SeqAt.shaped at h
    have := (Bool.and_eq_true_iff.mp h).2
    exact (Bool.and_eq_true_iff.mp this).1
  have h1 := f ha
  have h2 := f hb
  unfold okP SeqAt.shaped
  simp only [plainD, plainDs, Bool.and_self, toP, toPs, PyData.canLay0, PyData.canLayAll0, PyData.depth, PyData.depthAll, Bool.true_and] at h1 h2 ⊢
  rw [h1, h2]
  rfl
theorem eqD_tup3 (a b : List Nat) (k : Int) : eqD (.tup [.str a, .str b, .int k]) (.tup [.str a, .str b, .int k]) = true := by
  simp [eqD, toP, toPs, PyData.eqv, PyData.eqvAll]
theorem okP_mid : ∀ t ∈ places, okP (.str [t.getD 1 0]) = true := by decide +kernel
theorem piece_shape {k : Int} {t : List Nat} (ht : t ∈ allT) : ∃ a b, pieceD k t = .tup [.str a, .str b, .int k] ∧ okP (.str a) = true ∧ okP (.str b) = true := by
  unfold pieceD
  by_cases h : t.length = 3
  · have hp : t ∈ places := by
      have := allT_pl t ht
      rw [decide_eq_true h] at this
      simpa [isPl] using this
    exact ⟨_, _, if_pos h, by decide +kernel, okP_mid t hp⟩
  · exact ⟨_, _, if_neg h, by decide +kernel, okP_tok t (allT_sub ht)⟩
theorem pcs_mem : ∀ (ps : List Part) (n : Nat) (d : D), (∀ p ∈ ps, ∀ t ∈ p.2, t ∈ allT) → d ∈ pcs n ps → ∃ k t, t ∈ allT ∧ d = pieceD k t
  | [], _, _, _, h => by cases h
  | p :: ps, n, d, hv, h => by
    simp only [pcs] at h
    rcases List.mem_append.mp h with h | h
    · obtain ⟨t, ht, rfl⟩ := List.mem_map.mp h
      exact ⟨_, t, hv p List.mem_cons_self t ht, rfl⟩
    · exact pcs_mem ps _ d (fun q hq => hv q (List.mem_cons_of_mem _ hq)) h
theorem check_one {S P0 x2 : D} {L : List D} {k : Nat} {a b : List Nat} {n : Int} (hk : L[k]? = some (.tup [.str a, .str b, .int n])) (ha : okP (.str a) = true) (hb : okP (.str b) = true) (y2 : Option Sl) :
    L_law_1 [some (.sh S), some (.sh P0), y2, some (.sh (.lst L)), some (.sh (.lst L)), some (.sh (.int k))] = .next [some (.sh S), some (.sh P0), y2, some (.sh (.lst L)), some (.sh (.lst L)), some (.sh (.int k))] := by
  have hix : oIx (.lst L) (.int (k : Int)) = .ok (.tup [.str a, .str b, .int n]) := oIx_lst (atI_some hk)
  have i0 : oIx (.tup [.str a, .str b, .int n]) (.int 0) = .ok (.str a) := oIx_tup rfl
  have i1 : oIx (.tup [.str a, .str b, .int n]) (.int 1) = .ok (.str b) := oIx_tup rfl
  have i2 : oIx (.tup [.str a, .str b, .int n]) (.int 2) = .ok (.int n) := oIx_tup rfl
  have hne : oNe (.tup [.str a, .str b, .int n]) (.tup [.str a, .str b, .int n]) = .ok false := by
    unfold oNe
    rw [okP_tup3 ha hb, eqD_tup3]
    rfl
  unfold L_law_1
  rw [zSeq_next (δ' := [some (.sh S), some (.sh P0), y2, some (.sh (.lst L)), some (.sh (.lst L)), some (.sh (.int k))]) (by
    rw [zIf_no (by
      simp only [e_mOr, e_mNot, e_mT, e_m1, e_m2, e_m2t, e_mC, e_mVar, List.getElem?_cons_succ, List.getElem?_cons_zero, R.bind_ok, hix, isTy, blR_ok, tru_bl, Bool.not_true, Bool.false_eq_true, if_false, oLen_tup, List.length_cons, List.length_nil]
      rfl)])]
  rw [zSeq_next (δ' := [some (.sh S), some (.sh P0), y2, some (.sh (.lst L)), some (.sh (.lst L)), some (.sh (.int k))]) (by
    rw [zIf_no (by
      simp only [e_mOr, e_mNot, e_mT, e_m1, e_m2, e_m2t, e_mC, e_mVar, List.getElem?_cons_succ, List.getElem?_cons_zero, R.bind_ok, hix, i0, i1, isTy, blR_ok, tru_bl, Bool.not_true, Bool.false_eq_true, if_false])])]
  rw [zIf_no (by
    simp only [e_mOr, e_mNot, e_mT, e_mCall, e_mCons, e_mNil, e_m1, e_m2, e_m2t, e_mC, e_mVar, List.getElem?_cons_succ, List.getElem?_cons_zero, R.bind_ok, hix, i2, whole_eq, tru_bl, Bool.not_true, Bool.false_eq_true, if_false, hne])]
theorem tail_ok {S : D} {ps : List Part} (h : OkP ps) (hn : ps.length ≤ 900) (y2 : Option Sl) : finR (F_law_3 [some (.sh S), some (.sh (partsD ps)), y2, none, none, none]) = .ok (.bl true) := by
  have hlen := allTk_le h.v
  have hhi := h.hi
  have hpc : ps.length ≤ 900 := hn
  have hps : m_law_pieces [partsD ps] = .ok (.lst (pcs 0 ps)) := pieces_eq h.v (by omega) hpc
  have hfm := form_eq (ps := ps) (by omega)
  have hrf := read_form_eq h
  have hL : (pcs 0 ps).length ≤ 30 := by rw [pcs_len]; omega
  have sh : ∀ d ∈ pcs 0 ps, ∃ a b n, d = .tup [.str a, .str b, .int n] ∧ okP (.str a) = true ∧ okP (.str b) = true := fun d hd => by
    obtain ⟨k, t, ht, rfl⟩ := pcs_mem ps 0 d h.v hd
    obtain ⟨a, b, e, h1, h2⟩ := piece_shape (k := k) ht
    exact ⟨a, b, k, e, h1, h2⟩
  generalize pcs 0 ps = L at *
  unfold F_law_3
  rw [zSeq_next (δ' := [some (.sh S), some (.sh (partsD ps)), y2, some (.sh (.lst L)), none, none]) (by
    simp only [S_law_3, e_zSet, e_mCall, e_mCons, e_mVar, e_mNil, List.getElem?_cons_succ, List.getElem?_cons_zero, R.bind_ok, hps, bS_ok]
    rfl)]
  unfold F_law_4
  rw [zSeq_next (δ' := [some (.sh S), some (.sh (partsD ps)), y2, some (.sh (.lst L)), some (.sh (.lst L)), none]) (by
    simp only [S_law_4, e_zSet, e_mCall, e_mCons, e_mVar, e_mNil, List.getElem?_cons_succ, List.getElem?_cons_zero, R.bind_ok, hfm, hrf, bS_ok]
    rfl)]
  unfold F_law_5
  rw [zSeq_next (δ' := [some (.sh S), some (.sh (partsD ps)), y2, some (.sh (.lst L)), some (.sh (.lst L)), none]) (by
    unfold S_law_5
    rw [zIf_no (by
      simp only [e_mOr, e_mNot, e_mT, e_m1, e_m2t, e_mVar, List.getElem?_cons_succ, List.getElem?_cons_zero, R.bind_ok, isTy, blR_ok, tru_bl, Bool.not_true, Bool.false_eq_true, if_false, oLen_lst, oNe_int]
      simp)])]
  obtain ⟨δ', e, x5, h3⟩ := zFor_next (fit := fun δ => ((mCons (m1 oLen (mVar 3)) (mNil)) δ).bind iR1) (bd := bN 5) (F := L_law_1) (δ := [some (.sh S), some (.sh (partsD ps)), y2, some (.sh (.lst L)), some (.sh (.lst L)), none]) (ds := rngD 0 L.length)
    (fun k δ => ∃ x5, δ = [some (.sh S), some (.sh (partsD ps)), y2, some (.sh (.lst L)), some (.sh (.lst L)), x5]) (fit1_len rfl rfl (by omega)) ⟨none, rfl⟩ (by
      rintro k d δ hd ⟨x5, rfl⟩
      obtain ⟨rfl, hk⟩ := rngD_get hd
      have hk' : k < L.length := by omega
      obtain ⟨a, b, n, e, h1, h2⟩ := sh L[k] (List.getElem_mem hk')
      refine ⟨[some (.sh S), some (.sh (partsD ps)), y2, some (.sh (.lst L)), some (.sh (.lst L)), some (.sh (.int k))], _, by simp, .inl (check_one (S := S) (P0 := partsD ps) (x2 := .non) (L := L) (k := k) (a := a) (b := b) (n := n) (by simp [hk', e]) h1 h2 y2), _, rfl⟩)
  unfold F_law_6 S_law_6
  rw [zSeq_next e, h3]
  simp [F_law_7, S_law_7]
theorem oRep_nat {xs : List D} {n : Nat} (h : xs.length * n ≤ 1000000) (hn : n ≤ 1000000) : oRep (.lst xs) (.int (n : Int)) = .ok (.lst (List.replicate n xs).flatten) := by
  simp only [oRep, Int.toNat_natCast]
  exact if_pos ⟨by omega, by omega, h⟩
theorem rep_z (k : Nat) : (List.replicate k [D.str [122]]).flatten = (List.replicate k ([122] : List Nat)).map D.str := by
  induction k with
  | zero => rfl
  | succ k ih => rw [List.replicate_succ, List.flatten_cons, ih, List.replicate_succ, List.map_cons]; rfl
theorem fill_ok {ps : List Part} (h : OkP ps) {a b : Nat} (hab : a + b = 30 - (form ps).length) : OkP ((false, List.replicate a [122]) :: (ps ++ [(false, List.replicate b [122])])) := by
  have hz : ([122] : List Nat) ∈ allT := by decide
  have hfz : ∀ k : Nat, (List.replicate k ([122] : List Nat)).filter isPl = [] := fun k => by
    rw [List.filter_eq_nil_iff]
    intro x hx
    rw [(List.mem_replicate.mp hx).2]
    decide
  have hfl : ∀ k : Nat, (List.replicate k ([122] : List Nat)).flatten.length = k := fun k => by
    induction k with
    | zero => rfl
    | succ k ih => rw [List.replicate_succ, List.flatten_cons, List.length_append, ih]; simp; omega
  have hform : (form ((false, List.replicate a [122]) :: (ps ++ [(false, List.replicate b [122])]))).length = a + (form ps).length + b := by
    unfold form
    rw [List.flatMap_cons, List.flatMap_append, List.length_append, List.length_append]
    simp only [List.flatMap_cons, List.flatMap_nil, inner, Bool.false_eq_true, if_false, List.append_nil, hfl]
    omega
  have hlo := h.lo
  have hhi := h.hi
  refine ⟨fun p hp => ?_, fun p hp hl => ?_, ?_, ?_, by omega, by omega⟩
  · rcases List.mem_cons.mp hp with rfl | hp
    · intro t ht
      rw [(List.mem_replicate.mp ht).2]
      exact hz
    · rcases List.mem_append.mp hp with hp | hp
      · exact h.v p hp
      · have : p = (false, List.replicate b [122]) := by simpa using hp
        subst this
        intro t ht
        rw [(List.mem_replicate.mp ht).2]
        exact hz
  · rcases List.mem_cons.mp hp with rfl | hp
    · cases hl
    · rcases List.mem_append.mp hp with hp | hp
      · exact h.ne p hp hl
      · have : p = (false, List.replicate b [122]) := by simpa using hp
        subst this
        cases hl
  · have := h.c
    unfold cnt at this ⊢
    rw [List.countP_cons, List.countP_append]
    simpa using this
  · have := h.nd
    unfold allTk at this ⊢
    rw [List.flatMap_cons, List.flatMap_append]
    simp only [List.flatMap_cons, List.flatMap_nil, List.append_nil, List.filter_append, hfz, List.nil_append]
    exact this
def fixP : List Part := [(false, [[60, 119, 62], [60, 110, 62]]), (true, [[60, 89, 62]]), (true, [[60, 121, 62], [60, 100, 62]]), (true, [[60, 109, 62]])]
theorem fix_ok : OkP fixP := ⟨by decide +kernel, by decide +kernel, by decide +kernel, by decide +kernel, by decide +kernel, by decide +kernel⟩
theorem fix_step {S P0 : D} {x2 x3 x4 x5 : Option Sl} : zSet 1 (mLst (mCons (mTup (mCons (mC (.int 0)) (mCons (mLst (mCons (mC (.str [60, 119, 62])) (mCons (mC (.str [60, 110, 62])) (mNil)))) (mNil)))) (mCons (mTup (mCons (mC (.int 1)) (mCons (mLst (mCons (mC (.str [60, 89, 62])) (mNil))) (mNil)))) (mCons (mTup (mCons (mC (.int 1)) (mCons (mLst (mCons (mC (.str [60, 121, 62])) (mCons (mC (.str [60, 100, 62])) (mNil)))) (mNil)))) (mCons (mTup (mCons (mC (.int 1)) (mCons (mLst (mCons (mC (.str [60, 109, 62])) (mNil))) (mNil)))) (mNil)))))) [some (.sh S), some (.sh P0), x2, x3, x4, x5] = .next [some (.sh S), some (.sh (partsD fixP)), x2, x3, x4, x5] := by
  simp [fixP, partD]
theorem z_one {δ : Ev} {f : Ev → R D} {n : Nat} (h : f δ = .ok (.int (n : Int))) (hn : n ≤ 30) : (mLst (mCons (mTup (mCons (mC (.int 0)) (mCons (m2 oRep (mLst (mCons (mC (.str [122])) (mNil))) f) (mNil)))) (mNil))) δ = .ok (.lst [partD (false, List.replicate n [122])]) := by
  have e1 : (mLst (mCons (mC (.str [122])) (mNil))) δ = .ok (.lst [.str [122]]) := by simp
  have e2 : m2 oRep (mLst (mCons (mC (.str [122])) (mNil))) f δ = .ok (.lst ((List.replicate n ([122] : List Nat)).map D.str)) := by
    rw [e_m2, e1, R.bind_ok, h, R.bind_ok, oRep_nat (by simp; omega) (by omega), rep_z]
  have e3 : (mTup (mCons (mC (.int 0)) (mCons (m2 oRep (mLst (mCons (mC (.str [122])) (mNil))) f) (mNil)))) δ = .ok (.tup [.int 0, .lst ((List.replicate n ([122] : List Nat)).map D.str)]) := by
    rw [e_mTup, e_mCons, e_mC, R.bind_ok, e_mCons, e2, R.bind_ok, e_mNil]
    simp
  rw [e_mLst, e_mCons, e3, R.bind_ok, e_mNil]
  simp [partD]
theorem main : ∀ ns : List Int, ns.length ≤ 63 → m_law [.lst (ns.map D.int)] = .ok (.bl true) := by
  intro ns _
  obtain ⟨ps, hbu, k, hbi, k1, k4⟩ := built_eq (cell ns 1) (cell ns 0 % 2 == 0)
  have hok := hbi.ok k1 k4
  have hm2 : oMod (.int (cell ns 0)) (.int 2) = .ok (.int (cell ns 0 % 2)) := oMod_int _ (by decide)
  have hm6 : oMod (.int (cell ns 2)) (.int 6) = .ok (.int (cell ns 2 % 6)) := oMod_int _ (by decide)
  unfold m_law F_law
  rw [zSeq_next (δ' := [some (.sh (.lst (ns.map D.int))), some (.sh (partsD ps)), none, none, none, none]) (by
    simp only [S_law_0, startE, List.map_cons, List.map_nil, List.cons_append, List.nil_append, e_zSet, e_mCall, e_mCons, e_m2, e_mC, e_mVar, e_mNil, List.getElem?_cons_zero, R.bind_ok, at0, at1, hm2, op2_int_eq, hbu, bS_ok]
    rfl)]
  have t1 : ∀ P0 x2, m2t oEq (m2 oMod (mCall m_law_at (mCons (mVar 0) (mCons (mC (.int 2)) (mNil)))) (mC (.int 6))) (mC (.int 1)) [some (.sh (.lst (ns.map D.int))), P0, x2, none, none, none] = .ok (cell ns 2 % 6 == 1) := fun P0 x2 => by
    simp only [e_m2t, e_m2, e_mC, e_mCall, e_mCons, e_mVar, e_mNil, List.getElem?_cons_zero, R.bind_ok, at2, hm6, oEq_int]
  have t2 : ∀ P0 x2, m2t oEq (m2 oMod (mCall m_law_at (mCons (mVar 0) (mCons (mC (.int 2)) (mNil)))) (mC (.int 6))) (mC (.int 2)) [some (.sh (.lst (ns.map D.int))), P0, x2, none, none, none] = .ok (cell ns 2 % 6 == 2) := fun P0 x2 => by
    simp only [e_m2t, e_m2, e_mC, e_mCall, e_mCons, e_mVar, e_mNil, List.getElem?_cons_zero, R.bind_ok, at2, hm6, oEq_int]
  unfold F_law_1
  by_cases c1 : cell ns 2 % 6 = 1
  · obtain ⟨room, hroom⟩ : ∃ r : Nat, r = 30 - (form ps).length := ⟨_, rfl⟩
    have hhi := hok.hi
    have hlen : oLen (.str (form ps)) = .ok (.int (form ps).length) := by simp only [oLen]; rw [if_pos (by omega)]
    have hfm := form_eq (ps := ps) (by omega)
    have hr : (30 : Int) - ((form ps).length : Int) = (room : Int) := by omega
    have hd2 : oDiv (.int (room : Int)) (.int 2) = .ok (.int ((room / 2 : Nat) : Int)) := by rw [oDiv_int _ (by decide) (by decide)]; push_cast; rfl
    have hsub : (room : Int) - ((room / 2 : Nat) : Int) = ((room - room / 2 : Nat) : Int) := by omega
    have hcat : ∀ xs ys : List D, xs.length + ys.length ≤ 1000 → oCat (.lst xs) (.lst ys) = .ok (.lst (xs ++ ys)) := fun xs ys h => oCat_ok (by omega)
    have hpl : ps.length ≤ 4 := by rw [hbi.n]; exact k4
    have hz1 := z_one (δ := [some (.sh (.lst (ns.map D.int))), some (.sh (partsD ps)), some (.sh (.int (room : Int))), none, none, none]) (f := m2 oDiv (mVar 2) (mC (.int 2))) (n := room / 2) (by simp only [e_m2, e_mC, e_mVar, List.getElem?_cons_succ, List.getElem?_cons_zero, R.bind_ok, hd2]) (by omega)
    have hz2 := z_one (δ := [some (.sh (.lst (ns.map D.int))), some (.sh (partsD ps)), some (.sh (.int (room : Int))), none, none, none]) (f := m2 oSub (mVar 2) (m2 oDiv (mVar 2) (mC (.int 2)))) (n := room - room / 2) (by simp only [e_m2, e_mC, e_mVar, List.getElem?_cons_succ, List.getElem?_cons_zero, R.bind_ok, hd2, oSub_int, hsub]) (by omega)
    rw [zSeq_next (δ' := [some (.sh (.lst (ns.map D.int))), some (.sh (partsD ((false, List.replicate (room / 2) [122]) :: (ps ++ [(false, List.replicate (room - room / 2) [122])])))), some (.sh (.int (room : Int))), none, none, none]) (by
      unfold S_law_1
      rw [zIf_yes ((t1 _ _).trans (by simp [c1]))]
      rw [zSeq_next (δ' := [some (.sh (.lst (ns.map D.int))), some (.sh (partsD ps)), some (.sh (.int (room : Int))), none, none, none]) (by
        simp only [e_zSet, e_m2, e_m1, e_mC, e_mCall, e_mCons, e_mVar, e_mNil, List.getElem?_cons_succ, List.getElem?_cons_zero, R.bind_ok, hfm, hlen, oSub_int, hr, bS_ok]
        rfl)]
      rw [e_zSet, e_m2, e_m2, hz1, R.bind_ok, e_mVar]
      simp only [List.getElem?_cons_succ, List.getElem?_cons_zero, R.bind_ok]
      rw [hcat _ _ (by simp; omega), R.bind_ok, hz2, R.bind_ok, hcat _ _ (by simp; omega)]
      simp)]
    unfold F_law_2
    rw [zSeq_next (δ' := [some (.sh (.lst (ns.map D.int))), some (.sh (partsD ((false, List.replicate (room / 2) [122]) :: (ps ++ [(false, List.replicate (room - room / 2) [122])])))), some (.sh (.int (room : Int))), none, none, none]) (by
      unfold S_law_2
      rw [zIf_no ((t2 _ _).trans (by simp [c1]))])]
    exact tail_ok (fill_ok hok (by omega)) (by simp; omega) _
  · rw [zSeq_next (δ' := [some (.sh (.lst (ns.map D.int))), some (.sh (partsD ps)), none, none, none, none]) (by
      unfold S_law_1
      rw [zIf_no ((t1 _ _).trans (by simp [c1]))])]
    unfold F_law_2
    by_cases c2 : cell ns 2 % 6 = 2
    · rw [zSeq_next (δ' := [some (.sh (.lst (ns.map D.int))), some (.sh (partsD fixP)), none, none, none, none]) (by
        unfold S_law_2
        rw [zIf_yes ((t2 _ _).trans (by simp [c2]))]
        exact fix_step)]
      exact tail_ok fix_ok (by decide) _
    · rw [zSeq_next (δ' := [some (.sh (.lst (ns.map D.int))), some (.sh (partsD ps)), none, none, none, none]) (by
        unfold S_law_2
        rw [zIf_no ((t2 _ _).trans (by simp [c2]))])]
      exact tail_ok hok (by rw [hbi.n]; omega) _

end Lw

-- part K07_fin.lean
open PySem PySem.W PyProof.Rows
set_option maxRecDepth 100000 in
set_option maxHeartbeats 0 in
theorem PySem.Challenge.cw_inkdays_k07_pieces_of_a_form_holds : PySem.Challenge.rw_inkdays_k07_pieces_of_a_form.Holds := by
  w_on; o_law; k_head; (case hw => w_witness2)
  k_fill
  refine Lw.walk (l := PySem.Challenge.rw_inkdays_k07_pieces_of_a_form) rfl rfl (fun w h Y => PySem.W.kIn_of Y) ?F
  case F =>
    intro w mg fa h KX G hmg
    refine' Lw.all_mk Lw.main KX G hmg ?a_law_draws ?l_law_draws ?d_law_draws ?p_law_draws ?a_law_built ?l_law_built ?d_law_built ?p_law_built ?a_law_at ?l_law_at ?d_law_at ?p_law_at ?a_law_form ?l_law_form ?d_law_form ?p_law_form ?a_law_pieces ?l_law_pieces ?d_law_pieces ?p_law_pieces ?a_token_at ?l_token_at ?d_token_at ?p_token_at ?a_cut_into_tokens ?l_cut_into_tokens ?d_cut_into_tokens ?p_cut_into_tokens ?a_piece_of ?l_piece_of ?d_piece_of ?p_piece_of ?a_number_pieces ?l_number_pieces ?d_number_pieces ?p_number_pieces ?a_read_form ?l_read_form ?d_read_form ?p_read_form ?a_law_whole ?l_law_whole ?d_law_whole ?p_law_whole ?a_law ?l_law ?d_law ?p_law ?a_PLACES ?l_PLACES ?v_PLACES ?a_PLAIN_SIGNS ?y_PLAIN_SIGNS' ?a_MOST_LACKING_PARTS ?a_LONGEST_FORM ?a_bool ?a_enumerate ?a_int ?a_isinstance ?a_len ?a_list ?a_range ?a_str ?a_tuple ?a_InkError ?a_BadForm ?e_BadForm
    (case a_law_draws => k_is)
    (case l_law_draws => k_is)
    (case d_law_draws => k_is)
    (case p_law_draws => k_is)
    (case a_law_built => k_is)
    (case l_law_built => k_is)
    (case d_law_built => k_is)
    (case p_law_built => k_is)
    (case a_law_at => k_is)
    (case l_law_at => k_is)
    (case d_law_at => k_is)
    (case p_law_at => k_is)
    (case a_law_form => k_is)
    (case l_law_form => k_is)
    (case d_law_form => k_is)
    (case p_law_form => k_is)
    (case a_law_pieces => k_is)
    (case l_law_pieces => k_is)
    (case d_law_pieces => k_is)
    (case p_law_pieces => k_is)
    (case a_token_at => k_is)
    (case l_token_at => k_is)
    (case d_token_at => k_is)
    (case p_token_at => k_is)
    (case a_cut_into_tokens => k_is)
    (case l_cut_into_tokens => k_is)
    (case d_cut_into_tokens => k_is)
    (case p_cut_into_tokens => k_is)
    (case a_piece_of => k_is)
    (case l_piece_of => k_is)
    (case d_piece_of => k_is)
    (case p_piece_of => k_is)
    (case a_number_pieces => k_is)
    (case l_number_pieces => k_is)
    (case d_number_pieces => k_is)
    (case p_number_pieces => k_is)
    (case a_read_form => k_is)
    (case l_read_form => k_is)
    (case d_read_form => k_is)
    (case p_read_form => k_is)
    (case a_law_whole => k_is)
    (case l_law_whole => k_is)
    (case d_law_whole => k_is)
    (case p_law_whole => k_is)
    (case a_law => k_is)
    (case l_law => k_is)
    (case d_law => k_is)
    (case p_law => k_is)
    (case a_PLACES => k_is)
    (case l_PLACES => k_is)
    (case v_PLACES => repeat (first | exact .nil | refine .cons ⟨_, rfl⟩ ?_))
    (case a_PLAIN_SIGNS => k_is)
    (case y_PLAIN_SIGNS' => decide +kernel)
    (case a_MOST_LACKING_PARTS => k_is)
    (case a_LONGEST_FORM => k_is)
    (case a_bool => k_is)
    (case a_enumerate => k_is)
    (case a_int => k_is)
    (case a_isinstance => k_is)
    (case a_len => k_is)
    (case a_list => k_is)
    (case a_range => k_is)
    (case a_str => k_is)
    (case a_tuple => k_is)
    (case a_InkError => k_is)
    (case a_BadForm => k_is)
    (case e_BadForm => k_exc)
