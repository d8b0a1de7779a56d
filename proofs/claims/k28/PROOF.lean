import PyProof.Rows.All
import Wide.All
import OpenK.AllK
import Wide.FinOn
import Lean
import PyProof.EqAt
import PyProof.EqKinds
import PyProof.TupleCall
import KE.KTryMore
import PyProof.EnumFor
import PyProof.EnumMake
import PyProof.EnumStmt
import PyProof.Rows.EnumRows
import PyProof.StrWalks
import PyProof.StrCalls
import PyProof.FString
import PyProof.ConsumeWalk
import PyProof.ListRange
import PyProof.SumWalkG
import PyProof.Rows.SeqCalls
import KE.KRevIter
import KE.KRevSl
import PyProof.Rows.FactsT2
import PyProof.SetKind
import PyProof.Rows.SetFrom
import PyProof.Rows.SortShell
import PyProof.SetRoads
import PyProof.CollectWalk
import KE.KDictSum
import PyProof.Rows.SortWalk
import PyProof.P3In
import PyProof.ZipIter
import PyProof.Rows.ZipMeets
import PyProof.Rows.MinMaxN
import PySem.Challenge.RW_inkdays_k28_whole_fewest_blots
set_option Elab.async false
set_option linter.all false
set_option maxRecDepth 100000
namespace L2
open PySem PySem.Spec PyProof.Rows
abbrev Key := Sum Int Str
def keyIs : Key → Value → Bool
 | .inl k, v => Value.isInt k v
 | .inr x, v => Value.isStrOf x v
def keyH (w : World) : Key → Int
 | .inl k => hashInt k
 | .inr x => hashStr w x
theorem keyIs_shape : ∀ {k : Key} {v : Value}, keyIs k v = true → (∃ i t, k = Sum.inl i ∧ v = Value.int i t) ∨ (∃ x t, k = Sum.inr x ∧ v = Value.str x t)
 | .inl i, v, h => by
  obtain ⟨t, e⟩ := Value.isInt_shape (k := i) (v := v) h
  exact .inl ⟨i, t, rfl, e⟩
 | .inr x, v, h => by
  obtain ⟨t, e⟩ := Value.isStrOf_shape (x := x) (v := v) h
  exact .inr ⟨x, t, rfl, e⟩
theorem keyIs_int (i : Int) (t : Tok) : keyIs (.inl i) (.int i t) = true := by simp [keyIs, Value.isInt]
theorem keyIs_str (x : Str) (t : Tok) : keyIs (.inr x) (.str x t) = true := by simp [keyIs, Value.isStrOf]
theorem key_ll (a b : Int) : decide ((Sum.inl a : Key) = Sum.inl b) = (a == b) := by
 by_cases e : a = b
 ·subst e; simp
 ·have h : ¬ (Sum.inl a : Key) = Sum.inl b := λ q => e (Sum.inl.inj q)
  rw [decide_eq_false h]
  exact (beq_eq_false_iff_ne.mpr e).symm
theorem key_rr (a b : Str) : decide ((Sum.inr a : Key) = Sum.inr b) = decide (a = b) := by
 by_cases e : a = b
 ·subst e; simp
 ·have h : ¬ (Sum.inr a : Key) = Sum.inr b := λ q => e (Sum.inr.inj q)
  rw [decide_eq_false h, decide_eq_false e]
theorem key_lr (a : Int) (b : Str) : decide ((Sum.inl a : Key) = Sum.inr b) = false := decide_eq_false (λ q => nomatch q)
theorem key_rl (a : Str) (b : Int) : decide ((Sum.inr a : Key) = Sum.inl b) = false := decide_eq_false (λ q => nomatch q)
def mixKind (prog : Program) (w : World) : PySem.KeyKind prog w Key where
 is := keyIs
 hash := keyH w
 inj := λ v a b ha hb => by
  rcases keyIs_shape ha with ⟨i, t, rfl, rfl⟩ | ⟨x, t, rfl, rfl⟩
  ·rcases keyIs_shape hb with ⟨j, u, rfl, e⟩ | ⟨y, u, rfl, e⟩
   ·injection e with e1 _; rw [e1]
   ·exact nomatch e
  ·rcases keyIs_shape hb with ⟨j, u, rfl, e⟩ | ⟨y, u, rfl, e⟩
   ·exact nomatch e
   ·injection e with e1 _; rw [e1]
 byValue := λ k v h => by
  rcases keyIs_shape h with ⟨i, t, rfl, rfl⟩ | ⟨x, t, rfl, rfl⟩ <;> rfl
 pyHash := λ hv h => by
  rcases keyIs_shape hv with ⟨i, t, rfl, rfl⟩ | ⟨x, t, rfl, rfl⟩
  ·exact wpAny_pyHash_int h
  ·exact wpAny_pyHash_str h
 eqBool := λ hu hv h => by
  rcases keyIs_shape hu with ⟨i, t, rfl, rfl⟩ | ⟨x, t, rfl, rfl⟩
  ·rcases keyIs_shape hv with ⟨j, u, rfl, rfl⟩ | ⟨y, u, rfl, rfl⟩
   ·rw [key_ll] at h; exact wpAny_eqBool_int h
   ·rw [key_lr] at h; exact SeqAt.EqAt.int_str i t y u _ _ _ _ h
  ·rcases keyIs_shape hv with ⟨j, u, rfl, rfl⟩ | ⟨y, u, rfl, rfl⟩
   ·rw [key_rl] at h; exact SeqAt.EqAt.str_int x t j u _ _ _ _ h
   ·rw [key_rr] at h; exact wpAny_eqBool_str h
 «strs» := λ k x t v h => by
  rcases keyIs_shape h with ⟨i, u, rfl, e⟩ | ⟨y, u, rfl, e⟩
  ·exact nomatch e
  ·injection e with e1 _
   subst e1
   cases v <;> rfl
theorem mixKind_int (prog : Program) (w : World) (i : Int) (t : Tok) : (mixKind prog w).is (.inl i) (.int i t) = true := keyIs_int i t
theorem mixKind_str (prog : Program) (w : World) (x : Str) (t : Tok) : (mixKind prog w).is (.inr x) (.str x t) = true := keyIs_str x t
end L2
namespace L2
open PySem PySem.Spec PyProof.Rows
inductive V where
 | non | bl (b : Bool) | int (i : Int) | str (x : Str) | byt (b : Array UInt8) | flt (b : UInt64) | ref (a : Addr) | ty (n : String)
 deriving DecidableEq
def RelV : V → Value → Prop
 | .non, u => u = Value.none
 | .bl b, u => u = Value.bool b
 | .int i, u => ∃ t, u = Value.int i t
 | .str x, u => ∃ t, u = Value.str x t
 | .byt b, u => ∃ t, u = Value.bytes b t
 | .flt b, u => ∃ t, u = Value.float b t
 | .ref a, u => u = Value.ref a
 | .ty n, u => u = Value.type n
abbrev Vals : List V → List Value → Prop := Paired RelV
theorem Vals.length {xs : List V} {us : List Value} (r : Vals xs us) : xs.length = us.length := Paired.length r
theorem Vals.get : ∀ {xs : List V} {us : List Value} {i : Nat} {x : V}, Vals xs us → xs[i]? = some x → ∃ u, us[i]? = some u ∧ RelV x u
 | _, _, _, _, .nil, e => by simp at e
 | _, _, 0, _, .cons r _, e => by simp at e; subst e; exact ⟨_, rfl, r⟩
 | _, _, i + 1, x, .cons _ t, e => by
  obtain ⟨u, h1, h2⟩ := Vals.get (i := i) (x := x) t (by simpa using e)
  exact ⟨u, by simpa using h1, h2⟩
theorem Vals.set {x : V} {u : Value} (r : RelV x u) : ∀ {xs : List V} {us : List Value} (i : Nat), Vals xs us → Vals (xs.set i x) (us.set i u)
 | _, _, _, .nil => .nil
 | _, _, 0, .cons _ t => .cons r t
 | _, _, i + 1, .cons q t => .cons q (Vals.set r i t)
theorem Vals.append : ∀ {xs ys : List V} {us ws : List Value}, Vals xs us → Vals ys ws → Vals (xs ++ ys) (us ++ ws)
 | _, _, _, _, .nil, s => s
 | _, _, _, _, .cons r t, s => .cons r (Vals.append t s)
theorem Vals.take : ∀ {xs : List V} {us : List Value} (n : Nat), Vals xs us → Vals (xs.take n) (us.take n)
 | _, _, 0, _ => .nil
 | _, _, _ + 1, .nil => .nil
 | _, _, n + 1, .cons r t => .cons r (Vals.take n t)
theorem Vals.drop : ∀ {xs : List V} {us : List Value} (n : Nat), Vals xs us → Vals (xs.drop n) (us.drop n)
 | _, _, 0, r => r
 | _, _, _ + 1, .nil => .nil
 | _, _, n + 1, .cons _ t => Vals.drop n t
def RelO : Option V → Option Value → Prop
 | some v, some u => RelV v u
 | none, none => True
 | _, _ => False
def KV {κ : Type} : List (κ × V) → List (κ × Value) → Prop := Paired λ (p : κ × V) (q : κ × Value) => p.1 = q.1 ∧ RelV p.2 q.2
def kV : Key → V
 | .inl i => .int i
 | .inr x => .str x
inductive HO where
  | lst (xs : List V)
  | tup (xs : List V)
  | dK (kvs : List (Key × V)) | dT (kvs : List (List Key × V))
  | set (S : Int → Bool) (n : Nat)
  | ins (C dx : Addr) (fs : List (Str × V))
  | own (x : Addr)
  | xd (fs : List (Str × V))
  | met (f x : Addr)
  | rng (lo hi : Int)
  | frz (o : Obj) (u : HO)
  | tbl (ps : Array Value)
  | ext (φ : Heap → Prop)
abbrev Hp := Addr → Option HO
def upd (H : Hp) (a : Addr) (o : HO) : Hp := λ b => if b = a then some o else H b
theorem upd_same {H : Hp} {a : Addr} {o : HO} : upd H a o a = some o := by unfold upd; rw [if_pos rfl]
theorem upd_ne {H : Hp} {a b : Addr} {o : HO} (h : b ≠ a) : upd H a o b = H b := by unfold upd; rw [if_neg h]
theorem ne_of {H : Hp} {a b : Addr} {o u : HO} (h : H a = some o) (h' : H b = some u) (d : o ≠ u) : a ≠ b := by
 intro e; subst e; rw [h] at h'; exact d (Option.some.inj h')
theorem ne_of_none {H : Hp} {a b : Addr} {o : HO} (h : H a = some o) (h' : H b = none) : a ≠ b := by
 intro e; subst e; rw [h] at h'; cases h'
section
variable (P : Program) (w : World)
def ObjOk (H : Hp) (h : Heap) (a : Addr) : HO → Prop
 | .lst xs => xs.length ≤ sizeLine ∧ ∃ (its : List Value) (n : Nat), Vals xs its ∧ h.get? a = some { cls := .type "list", data := .seq its.toArray n }
 | .tup xs => xs.length ≤ sizeLine ∧ ∃ its : List Value, Vals xs its ∧ IsTup h a its.toArray
 | .dK kvs => kvs.length ≤ sizeLine ∧ (a == sysModules) = false ∧ ∃ vs, KV kvs vs ∧ h.DictOf (mixKind P w) a vs
 | .dT kvs => kvs.length ≤ sizeLine ∧ (a == sysModules) = false ∧ ∃ xs : List (List Key × Addr × Value),
   Paired (λ (p : List Key × V) (q : List Key × Addr × Value) => p.1 = q.1 ∧ H q.2.1 = some (.tup (p.1.map kV)) ∧ RelV p.2 q.2.2) kvs xs ∧
   ∃ o es ep, h.get? a = some o ∧ o.ExactDict ∧ o.data = .dict es ep ∧ es.toList = xs.map (entryOfKey (tupleKind (mixKind P w))) ∧ (xs.map (·.1)).Nodup
 | .set S n => h.SetOf (intKind P w) a S n
 | .ins C dx fs => H dx = some (.own a) ∧ fs.length ≤ 1000 ∧ dx ≠ a ∧ h.get? a = some (PySem.W.instObj C dx) ∧
   ∃ mA, h.Ns1 dx mA ∧ (∀ f, RelO (fs.lookup f) (mA f)) ∧ PySem.Within mA (fs.map (·.1))
 | .own _ => ∃ o, h.get? a = some o
 | .xd fs => ∃ mA, h.Ns1 a mA ∧ ∀ f, RelO (fs.lookup f) (mA f)
 | .rng lo hi => ∃ t u v, h.get? a = some { cls := .type "range", data := .fields #[.int lo t, .int hi u, .int 1 v] }
 | .frz o u => h.get? a = some o ∧ ObjOk H h a u
 | .tbl ps => h.get? a = some { cls := .none, data := .fields ps }
 | .met f x => h.get? a = some (PySem.W.methodObj (.ref f) (.ref x))
 | .ext φ => φ h ∧ (∃ o, h.get? a = some o) ∧ ∀ h1 h2 : Heap, φ h1 → (∀ o, h1.get? a = some o → h2.get? a = some o) → φ h2
def HOk (H : Hp) (h : Heap) : Prop := ∀ a o, H a = some o → ObjOk P w H h a o
end
section
variable {P : Program} {w : World} {H H' : Hp} {h h' : Heap} {a : Addr} {o : HO}
theorem ObjOk.lt (x : ObjOk P w H h a o) : a < h.objs.size := by
 cases o with
 | lst xs => obtain ⟨_, _, _, _, e⟩ := x; exact Heap.lt_size e
 | tup xs => obtain ⟨_, _, _, p⟩ := x; exact p.lt
 | dK kvs => obtain ⟨_, _, _, _, o, _, _, e, _⟩ := x; exact Heap.lt_size e
 | dT kvs => obtain ⟨_, _, _, _, o, _, _, e, _⟩ := x; exact Heap.lt_size e
 | set S n => obtain ⟨o, _, _, _, e, _⟩ := x; exact Heap.lt_size e
 | ins C dx fs => obtain ⟨_, _, _, e, _⟩ := x; exact Heap.lt_size e
 | own y => obtain ⟨_, e⟩ := x; exact Heap.lt_size e
 | xd fs => obtain ⟨_, ⟨_, _, _, e, _⟩, _⟩ := x; exact Heap.lt_size e
 | rng lo hi => obtain ⟨_, _, _, e⟩ := x; exact Heap.lt_size e
 | frz ob u => obtain ⟨e, _⟩ := x; exact Heap.lt_size e
 | tbl ps => exact Heap.lt_size (show h.get? a = some _ from x)
 | met f y => exact Heap.lt_size (show h.get? a = some _ from x)
 | ext φ => obtain ⟨_, ⟨_, e⟩, _⟩ := x; exact Heap.lt_size e
theorem Paired.mapP {α β : Type} {F G : α → β → Prop} : ∀ {l₁ : List α} {l₂ : List β}, Paired F l₁ l₂ → (∀ a b, F a b → G a b) → Paired G l₁ l₂
 | _, _, .nil, _ => .nil
 | _, _, .cons r t, f => .cons (f _ _ r) (Paired.mapP t f)
theorem ObjOk.stay (x : ObjOk P w H h a o) (k : ∀ b u, (b = a ∨ H b = some (.own a)) → h.get? b = some u → h'.get? b = some u)
  (ho : ∀ b, H b = some (.own a) → H' b = some (.own a)) (ht : ∀ b xs, H b = some (.tup xs) → H' b = some (.tup xs)) : ObjOk P w H' h' a o := by
 induction o with
 | lst xs => obtain ⟨z, its, n, r, e⟩ := x; exact ⟨z, its, n, r, k _ _ (.inl rfl) e⟩
 | tup xs => obtain ⟨z, its, r, ob, e, c⟩ := x; exact ⟨z, its, r, ob, k _ _ (.inl rfl) e, c⟩
 | dK kvs => obtain ⟨z, y, vs, r, ob, es, ep, e, c⟩ := x; exact ⟨z, y, vs, r, ob, es, ep, k _ _ (.inl rfl) e, c⟩
 | dT kvs =>
  obtain ⟨z, y, xs, r, ob, es, ep, e, c⟩ := x
  exact ⟨z, y, xs, Paired.mapP r λ p q z => ⟨z.1, ht _ _ z.2.1, z.2.2⟩, ob, es, ep, k _ _ (.inl rfl) e, c⟩
 | set S n => obtain ⟨ob, es, ep, t, e, c⟩ := x; exact ⟨ob, es, ep, t, k _ _ (.inl rfl) e, c⟩
 | ins C dx fs =>
  obtain ⟨d, z, ne, e, mA, ⟨od, es, ep, e2, c⟩, r⟩ := x
  exact ⟨ho _ d, z, ne, k _ _ (.inl rfl) e, mA, ⟨od, es, ep, k _ _ (.inr d) e2, c⟩, r⟩
 | own y => obtain ⟨ob, e⟩ := x; exact ⟨ob, k _ _ (.inl rfl) e⟩
 | xd fs => obtain ⟨mA, ⟨od, es, ep, e, c⟩, r⟩ := x; exact ⟨mA, ⟨od, es, ep, k _ _ (.inl rfl) e, c⟩, r⟩
 | rng lo hi => obtain ⟨t, u, v, e⟩ := x; exact ⟨t, u, v, k _ _ (.inl rfl) e⟩
 | frz ob u ih => obtain ⟨e, q⟩ := x; exact ⟨k _ _ (.inl rfl) e, ih q⟩
 | tbl ps =>
  have e : h.get? a = some { cls := .none, data := .fields ps } := x
  show h'.get? a = some { cls := .none, data := .fields ps }
  exact k a _ (.inl rfl) e
 | met f y =>
  have e : h.get? a = some (PySem.W.methodObj (.ref f) (.ref y)) := x
  show h'.get? a = some (PySem.W.methodObj (.ref f) (.ref y))
  exact k a _ (.inl rfl) e
 | ext φ => obtain ⟨p, ⟨o, e⟩, st⟩ := x; exact ⟨st _ _ p λ o q => k _ _ (.inl rfl) q, ⟨o, k _ _ (.inl rfl) e⟩, st⟩
theorem HOk.lt (x : HOk P w H h) (e : H a = some o) : a < h.objs.size := (x a o e).lt
theorem HOk.fresh (x : HOk P w H h) (e : h.objs.size ≤ a) : H a = none := by
 cases q : H a with
 | none => rfl
 | some u => exact absurd (Nat.lt_of_lt_of_le (x.lt q) e) (Nat.lt_irrefl _)
theorem HOk.kept (x : HOk P w H h) (k : ∀ b u, h.get? b = some u → h'.get? b = some u) : HOk P w H h' := λ a o e =>
 (x a o e).stay (λ b u _ q => k b u q) (λ _ q => q) λ _ _ q => q
theorem HOk.laid (x : HOk P w H h) (k : ∀ b u, h.get? b = some u → h'.get? b = some u) (hp : h.objs.size ≤ a) (new : ObjOk P w (upd H a o) h' a o) : HOk P w (upd H a o) h' := λ b u e => by
 have hn := x.fresh hp
 by_cases hb : b = a
 ·subst hb; rw [upd_same] at e; cases e; exact new
 ·rw [upd_ne hb] at e
  exact (x b u e).stay (λ c v _ q => k c v q) (λ c q => by rw [upd_ne (ne_of_none q hn)]; exact q) λ c xs q => by rw [upd_ne (ne_of_none q hn)]; exact q
end
def Rd (H : Hp) (a : Addr) (u : HO) : Prop := H a = some u ∨ ∃ o, H a = some (.frz o u)
theorem Rd.of {H : Hp} {a : Addr} {u : HO} (h : H a = some u) : Rd H a u := .inl h
theorem Rd.ok {P : Program} {w : World} {H : Hp} {h : Heap} {a : Addr} {u : HO} (r : Rd H a u) (x : HOk P w H h) : ObjOk P w H h a u := by
 rcases r with r | ⟨o, r⟩
 ·exact x a u r
 ·obtain ⟨_, q⟩ := x a _ r
  exact q
def Mut : Option HO → Prop
 | some (.lst _) => True
 | some (.dK _) => True
 | some (.dT _) => True
 | some (.set _ _) => True
 | some (.ins _ _ _) => True
 | some (.ext _) => True
 | _ => False
section
variable {P : Program} {w : World} {H : Hp} {h h' : Heap} {x e : Addr} {o' : HO}
theorem HOk.write (ok : HOk P w H h) (mu : Mut (H x)) (he : e = x ∨ H e = some (.own x)) (k : ∀ b u, b ≠ e → h.get? b = some u → h'.get? b = some u) (heo : ∃ u, h'.get? e = some u)
  (new : ObjOk P w (upd H x o') h' x o') : HOk P w (upd H x o') h' := λ b u q => by
 have nown : ∀ c y, H c = some (.own y) → c ≠ x := λ c y r z => by subst z; rw [r] at mu; exact mu
 have ntup : ∀ c xs, H c = some (.tup xs) → c ≠ x := λ c xs r z => by subst z; rw [r] at mu; exact mu
 by_cases hb : b = x
 ·subst hb; rw [upd_same] at q; cases q; exact new
 ·rw [upd_ne hb] at q
  by_cases hbe : b = e
  ·have q' : H b = some (.own x) := by
    rcases he with z | z
    ·exact absurd (hbe.trans z) hb
    ·rw [hbe]; exact z
   rw [q] at q'; cases q'
   obtain ⟨v, hv⟩ := heo
   exact ⟨v, by rw [hbe]; exact hv⟩
  ·refine (ok b u q).stay (λ c v hc r => k c v ?_ r) (λ c r => by rw [upd_ne (nown c b r)]; exact r) λ c xs r => by rw [upd_ne (ntup c xs r)]; exact r
   rcases hc with rfl | hc
   ·exact hbe
   ·rintro rfl
    rcases he with z | z
    ·exact nown c b hc z
    ·rw [hc] at z; cases z; exact hb rfl
end
structure Un (fs ex : List Addr) (H H' : Hp) (h h' : Heap) : Prop where
 keep : ∀ b o, h.get? b = some o → H b = none → b ∉ fs → b ∉ ex → h'.get? b = some o
 slot : ∀ b o, h.get? b = some o → H b = none → b ∈ fs → b ∉ ex → ∃ sl, h'.get? b = some { o with slots := sl }
 free : ∀ b o, h.get? b = some o → H b = none → b ∉ ex → H' b = none
 there : ∀ b o, h.get? b = some o → b ∉ ex → ∃ o', h'.get? b = some o'
 tups : ∀ b xs, H b = some (.tup xs) → H' b = some (.tup xs)
 frzs : ∀ b o u, H b = some (.frz o u) → H' b = some (.frz o u)
 tbls : ∀ b ps, H b = some (.tbl ps) → ∃ more, H' b = some (.tbl (ps ++ more))
section
variable {fs fs' ex ex' : List Addr} {H H1 H2 : Hp} {h h1 h2 h' : Heap} {a x e : Addr} {o : HO}
theorem Un.any (u : Un fs ex H H1 h h1) {b : Addr} {ob : Obj} (q : h.get? b = some ob) (n : H b = none) (hx : b ∉ ex) : ∃ sl, h1.get? b = some { ob with slots := sl } := by
 by_cases hb : b ∈ fs
 ·exact u.slot b ob q n hb hx
 ·exact ⟨ob.slots, u.keep b ob q n hb hx⟩
theorem Un.trans (a : Un fs ex H H1 h h1) (b : Un fs ex H1 H2 h1 h2) : Un fs ex H H2 h h2 where
 keep := λ c ob q n hc hx => b.keep c ob (a.keep c ob q n hc hx) (a.free c ob q n hx) hc hx
 slot := λ c ob q n hc hx => by
  obtain ⟨sl, e1⟩ := a.slot c ob q n hc hx
  obtain ⟨sl', e2⟩ := b.slot c _ e1 (a.free c ob q n hx) hc hx
  exact ⟨sl', e2⟩
 free := λ c ob q n hx => by
  obtain ⟨o', e1⟩ := a.there c ob q hx
  exact b.free c o' e1 (a.free c ob q n hx) hx
 there := λ c ob q hx => by
  obtain ⟨o', e1⟩ := a.there c ob q hx
  exact b.there c o' e1 hx
 tups := λ c xs q => b.tups c xs (a.tups c xs q)
 frzs := λ c ob xs q => b.frzs c ob xs (a.frzs c ob xs q)
 tbls := λ c ps q => by
  obtain ⟨m1, e1⟩ := a.tbls c ps q
  obtain ⟨m2, e2⟩ := b.tbls c _ e1
  exact ⟨m1 ++ m2, by rw [e2, Array.append_assoc]⟩
theorem Un.kept (k : ∀ b u, h.get? b = some u → h'.get? b = some u) : Un fs ex H H h h' :=
 ⟨λ b ob q _ _ _ => k b ob q, λ b ob q _ _ _ => ⟨ob.slots, k b ob q⟩, λ _ _ _ n _ => n, λ b ob q _ => ⟨ob, k b ob q⟩, λ _ _ q => q, λ _ _ _ q => q, λ _ ps q => ⟨#[], by rw [q]; simp⟩⟩
theorem Un.refl : Un fs ex H H h h := Un.kept λ _ _ q => q
theorem Un.laid (k : ∀ b u, h.get? b = some u → h'.get? b = some u) (hp : h.objs.size ≤ a) (hn : H a = none) : Un fs ex H (upd H a o) h h' where
 keep := λ b u q _ _ _ => k b u q
 slot := λ b u q _ _ _ => ⟨u.slots, k b u q⟩
 free := λ b u q n _ => by rw [upd_ne (Nat.ne_of_lt (Nat.lt_of_lt_of_le (Heap.lt_size q) hp))]; exact n
 there := λ b u q _ => ⟨u, k b u q⟩
 tups := λ b xs q => by rw [upd_ne (ne_of_none q hn)]; exact q
 frzs := λ b u xs q => by rw [upd_ne (ne_of_none q hn)]; exact q
 tbls := λ b ps q => ⟨#[], by rw [upd_ne (ne_of_none q hn), q]; simp⟩
theorem Un.write (mu : Mut (H x)) (he : e = x ∨ H e = some (.own x)) (k : ∀ b u, b ≠ e → h.get? b = some u → h'.get? b = some u) (heo : ∃ u, h'.get? e = some u) : Un fs ex H (upd H x o) h h' := by
 have hx : ∀ b, H b = none → b ≠ x := λ b n z => by subst z; rw [n] at mu; exact mu
 have hb : ∀ b, H b = none → b ≠ e := λ b n z => by
  subst z
  rcases he with r | r
  ·exact hx b n r
  ·rw [n] at r; cases r
 have hm : ∀ b u, H b = some u → ¬ Mut (some u) → b ≠ x := λ b u q nm z => by subst z; rw [q] at mu; exact nm mu
 refine ⟨λ b u q n _ _ => k b u (hb b n) q, λ b u q n _ _ => ⟨u.slots, k b u (hb b n) q⟩, λ b u q n _ => by rw [upd_ne (hx b n)]; exact n, λ b u q _ => ?_,
  λ b xs q => by rw [upd_ne (hm b _ q λ z => z)]; exact q, λ b u xs q => by rw [upd_ne (hm b _ q λ z => z)]; exact q, λ b ps q => ⟨#[], by rw [upd_ne (hm b _ q λ z => z), q]; simp⟩⟩
 by_cases hbe : b = e
 ·subst hbe; exact heo
 ·exact ⟨u, k b u hbe q⟩
theorem Un.mono (u : Un fs ex H H1 h h1) (hs : ∀ b ∈ fs, b ∈ fs') (hx : ∀ b ∈ ex, b ∈ ex') : Un fs' ex' H H1 h h1 :=
 ⟨λ b ob q n hb he => u.keep b ob q n (λ z => hb (hs b z)) λ z => he (hx b z), λ _ _ q n _ he => u.any q n λ z => he (hx _ z), λ b ob q n he => u.free b ob q n λ z => he (hx b z), λ b ob q he => u.there b ob q λ z => he (hx b z), u.tups, u.frzs, u.tbls⟩
end
def trk (h : Heap) (H : Hp) : List Addr := (List.range h.objs.size).filter λ a => (H a).isSome
def hidT (h : Heap) (H : Hp) : Heap := PySem.W.hideAll h (trk h H)
theorem hidT_size (h : Heap) (H : Hp) : (hidT h H).objs.size = h.objs.size := PySem.W.hideAll_size _ _
theorem hidT_get {h : Heap} {H : Hp} {b : Addr} {o : Obj} (e : h.get? b = some o) (n : H b = none) : (hidT h H).get? b = some o :=
 PySem.W.hideAll_get _ e λ hm => by
  have q : (H b).isSome = true := (List.mem_filter.mp hm).2
  rw [n] at q; simp at q
theorem of_hidT {h : Heap} {H : Hp} {b : Addr} {o : Obj} (e : (hidT h H).get? b = some o) : h.get? b = some o ∧ H b = none := by
 have e' : h.get? b = some o := PySem.W.of_hideAll (trk h H) e
 refine ⟨e', ?_⟩
 cases q : H b with
 | none => rfl
 | some x =>
  have hm : b ∈ trk h H := List.mem_filter.mpr ⟨List.mem_range.mpr (Heap.lt_size e'), by simp [q]⟩
  have z : (hidT h H).get? b = none := PySem.W.hideAll_none (trk h H) hm
  rw [z] at e; cases e
def allNews (g h : Heap) (L : Addr) : List (Addr × Obj) := (List.range h.objs.size).filterMap λ a => if a = L ∨ (g.get? a).isSome = true then none else (h.get? a).map λ o => (a, o)
def rest (g h : Heap) (L d : Addr) : List (Addr × Obj) := (allNews g h L).filter λ p => decide (p.1 ≠ d)
end L2
namespace L2
open PySem PySem.Spec PyProof.Rows
structure Mod (K : PySem.W.Frag) (mg : Str → Option Value) (base : Heap) : Prop where
 kin : K.In base
 glob : base.Ns mainGlobals mg
 blt : ∃ mb, base.Ns builtinsNs mb ∧ ∀ x : Str, x ≠ "__name__" → mb x = bootBuiltins x
 nolimit : base.NoLimit
structure Cx where
 prog : Program
 w : World
 K : PySem.W.Frag
 mg : Str → Option Value
 base : Heap
 A : Around
 N : List Str
 s₀ : Shared
 H₀ : Hp
 env : Env
 outer : List Env
 stack : List Env
 ex : List Addr
 fn : Str → Bool
 calm : Bool
 pn : List (Addr × Obj)
 xe : Value → Shared → Prop
 sg : List (Addr × Obj) → List (Option V) → Prop := λ _ _ => True
def frs (l : List Env) : List Addr := l.filterMap (·.frame)
abbrev Cx.fs (X : Cx) : List Addr := frs X.outer
def Vis (sc : Scope) (x : Str) : Prop := sc.names.lookup x = some .local ∨ sc.names.lookup x = some .cell ∨ sc.names.lookup x = some .free
def Loc (sc : Scope) (x : Str) : Prop := sc.names.lookup x = some .local ∨ sc.names.lookup x = some .cell
def Look (env : Env) (h : Heap) (m : Str → Option Value) (x : Str) (u : Value) : Prop :=
 (env.kindOf x = some .local ∧ m x = some u) ∨ ((env.kindOf x = some .cell ∨ env.kindOf x = some .free) ∧ ∃ c, env.cells.lookup x = some c ∧ h.IsCell c (some u))
structure Cx.Ok (X : Cx) : Prop where
 mod : Mod X.K X.mg X.base
 kind : X.env.scope.kind = .function
 glob : X.env.globals = mainGlobals
 blt : X.env.builtins = builtinsNs
 above : X.s₀.heap.objs.size ≤ X.env.locals
 inj : ∀ x y c, X.env.cells.lookup x = some c → X.env.cells.lookup y = some c → x = y
 has : ∀ x, (X.env.kindOf x = some .cell ∨ X.env.kindOf x = some .free) → ∃ c, X.env.cells.lookup x = some c
 cab : ∀ x c, X.fn x = true → X.env.cells.lookup x = some c → X.s₀.heap.objs.size ≤ c
 hd : X.calm = true → X.A.handled = none
 frames : X.A.frames = some X.stack
 stk : X.stack = X.outer ∨ (X.stack = X.env :: X.outer ∧ X.env.frame = some X.env.locals)
 exf : ∀ b ∈ X.ex, b ≠ X.env.locals ∧ ∀ x c, X.env.cells.lookup x = some c → c ≠ b
 bs : ∀ b o, X.base.get? b = some o → X.s₀.heap.get? b = some o ∧ X.H₀ b = none
 bsz : X.base.objs.size ≤ X.s₀.heap.objs.size
 noex : ∀ b o, X.base.get? b = some o → b ∉ X.ex
 exfs : ∀ b ∈ X.ex, b ∉ X.fs
 funs : X.s₀.heap.FunFrames X.base X.outer
 frf : ∀ b ∈ X.fs, X.H₀ b = none
structure Inv (X : Cx) (pins : List (Addr × Obj)) (σ : List (Option V)) (H : Hp) (s : Shared) : Prop where
 ok : X.Ok
 os : s.os = X.s₀.os
 bare : AllBare s.gens
 base : Un X.fs X.ex X.H₀ H X.s₀.heap s.heap
 loc : ∃ m, s.heap.Ns X.env.locals m ∧ ∀ (i : Nat) (x : Str) (v : V), X.N[i]? = some x → σ[i]? = some (some v) → Vis X.env.scope x → ∃ u, RelV v u ∧ Look X.env s.heap m x u
 cell : ∀ x c, X.env.cells.lookup x = some c → ∃ v, s.heap.IsCell c v
 free : H X.env.locals = none
 freeC : ∀ x c, X.env.cells.lookup x = some c → H c = none
 pin : ∀ p ∈ X.pn ++ pins, s.heap.get? p.1 = some p.2 ∧ H p.1 = none ∧ p.1 ≠ X.env.locals ∧ p.1 ∉ X.fs ∧ ∀ v, p.2.data ≠ .cell v
 hok : HOk X.prog X.w H s.heap
 len : σ.length = X.N.length
 sgm : X.sg pins σ
section
variable {X : Cx} {pins : List (Addr × Obj)} {σ : List (Option V)} {H H' : Hp} {s : Shared} {h' : Heap}
theorem Cx.Ok.nofr (ok : X.Ok) {b : Addr} {o : Obj} (e : X.base.get? b = some o) : b ∉ X.fs := λ hb => by
 have := (ok.funs.mem hb).1
 rw [e] at this; cases this
theorem Inv.bs (I : Inv X pins σ H s) : ∀ b o, X.base.get? b = some o → s.heap.get? b = some o ∧ H b = none := λ b o e =>
 ⟨I.base.keep b o (I.ok.bs b o e).1 (I.ok.bs b o e).2 (I.ok.nofr e) (I.ok.noex b o e), I.base.free b o (I.ok.bs b o e).1 (I.ok.bs b o e).2 (I.ok.noex b o e)⟩
theorem Inv.bk (I : Inv X pins σ H s) : ∀ b o, X.base.get? b = some o → s.heap.get? b = some o := λ b o e => (I.bs b o e).1
theorem Inv.mod (I : Inv X pins σ H s) : Mod X.K X.mg X.base := I.ok.mod
theorem Inv.kIn (I : Inv X pins σ H s) : X.K.In s.heap := I.ok.mod.kin.keeps I.bk
theorem Inv.nolimit (I : Inv X pins σ H s) : s.heap.NoLimit := I.ok.mod.nolimit.keeps I.bk
theorem Inv.fr (I : Inv X pins σ H s) : ∃ m, Fr X.base X.env.locals s.heap m :=
 let ⟨m, hn, _⟩ := I.loc
 ⟨m, hn, I.bk, Nat.le_trans I.ok.bsz I.ok.above⟩
theorem Inv.lt (I : Inv X pins σ H s) : X.env.locals < s.heap.objs.size := let ⟨_, hn, _⟩ := I.loc; hn.lt
theorem Inv.sz (I : Inv X pins σ H s) : X.s₀.heap.objs.size ≤ s.heap.objs.size := Nat.le_trans I.ok.above (Nat.le_of_lt I.lt)
theorem Inv.nofs (I : Inv X pins σ H s) {a : Addr} (h : s.heap.objs.size ≤ a) : a ∉ X.fs := λ hb => by
 obtain ⟨_, o, ho, _⟩ := I.ok.funs.mem hb
 exact absurd (Nat.lt_of_lt_of_le (Heap.lt_size ho) (Nat.le_trans I.sz h)) (Nat.lt_irrefl _)
theorem Inv.cne (I : Inv X pins σ H s) : ∀ x c, X.env.cells.lookup x = some c → c ≠ X.env.locals := λ x c e z => by
 obtain ⟨v, o, ho, hd⟩ := I.cell x c e
 obtain ⟨m, ⟨o', es, ep, ho', hd', _⟩, _⟩ := I.loc
 rw [z, ho'] at ho; cases ho; rw [hd'] at hd; cases hd
theorem Inv.funs (I : Inv X pins σ H s) : s.heap.FunFrames X.base X.outer := by
 have all : ∀ (l : List Env), (∀ b ∈ frs l, b ∈ X.fs) → X.s₀.heap.FunFrames X.base l → s.heap.FunFrames X.base l := by
  intro l
  induction l with
  | nil => intro _ _; trivial
  | cons env r ih =>
   intro hs hl
   obtain ⟨hk, ⟨L, o, hf, hn, ho, hd⟩, hr⟩ := hl
   have hL : L ∈ X.fs := hs L (by unfold frs; rw [List.filterMap_cons, hf]; exact List.mem_cons_self)
   obtain ⟨sl, e⟩ := I.base.slot L o ho (I.ok.frf L hL) hL λ z => I.ok.exfs L z hL
   exact ⟨hk, ⟨L, _, hf, hn, e, hd⟩, ih (λ b hb => hs b (by unfold frs; rw [List.filterMap_cons, hf]; exact List.mem_cons_of_mem _ hb)) hr⟩
 exact all X.outer (λ _ hb => hb) I.ok.funs
theorem Inv.stack (I : Inv X pins σ H s) : s.heap.FunFrames X.base X.stack := by
 rcases I.ok.stk with e | ⟨e, hf⟩
 ·rw [e]; exact I.funs
 ·rw [e]
  obtain ⟨m, hn, _⟩ := I.loc
  refine .cons (by rw [I.ok.kind]; decide) hf hn ?_ I.funs
  exact Heap.get?_none_of_le (Nat.le_trans I.ok.bsz I.ok.above)
theorem Inv.stkSub (I : Inv X pins σ H s) : ∀ b ∈ frs X.stack, b ∈ X.env.locals :: X.fs := λ b hb => by
 rcases I.ok.stk with e | ⟨e, hf⟩
 ·rw [e] at hb; exact List.mem_cons_of_mem _ hb
 ·rw [e] at hb
  unfold frs at hb
  rw [List.filterMap_cons, hf] at hb
  exact hb
theorem Inv.stkFree (I : Inv X pins σ H s) : ∀ b ∈ frs X.stack, H b = none := λ b hb => by
 rcases List.mem_cons.mp (I.stkSub b hb) with e | hb
 ·rw [e]; exact I.free
 ·obtain ⟨_, o, ho, _⟩ := I.ok.funs.mem hb
  exact I.base.free b o ho (I.ok.frf b hb) λ z => I.ok.exfs b z hb
theorem Inv.step {g' : Array GenState} {t' : Nat} {d' : Drawn} {ch : List Addr} (I : Inv X pins σ H s)
  (hch : ∀ b ∈ ch, (b ∈ X.ex ∨ X.s₀.heap.get? b = none) ∧ b ≠ X.env.locals ∧ (∀ x c, X.env.cells.lookup x = some c → c ≠ b) ∧ ∀ p ∈ X.pn ++ pins, p.1 ≠ b)
  (keep : ∀ b o, b ≠ X.env.locals → b ∉ X.fs → b ∉ ch → s.heap.get? b = some o → H b = none → h'.get? b = some o)
  (slot : ∀ b o, b ≠ X.env.locals → b ∈ X.fs → b ∉ ch → s.heap.get? b = some o → H b = none → ∃ sl, h'.get? b = some { o with slots := sl }) (free : ∀ b o, b ∉ ch → s.heap.get? b = some o → H b = none → H' b = none)
  (there : ∀ b o, b ∉ ch → s.heap.get? b = some o → ∃ o', h'.get? b = some o')
  (tups : ∀ b xs, H b = some (.tup xs) → H' b = some (.tup xs)) (frzs : ∀ b o u, H b = some (.frz o u) → H' b = some (.frz o u)) (tbls : ∀ b ps, H b = some (.tbl ps) → ∃ more, H' b = some (.tbl (ps ++ more)))
  (ns : ∀ m, s.heap.Ns X.env.locals m → h'.Ns X.env.locals m) (hok : HOk X.prog X.w H' h') (hg : AllBare g') :
  Inv X pins σ H' { s with heap := h', gens := g', drawn := d', toks := t' } := by
 have neL : ∀ b o, X.s₀.heap.get? b = some o → b ≠ X.env.locals := λ b o e => Nat.ne_of_lt (Nat.lt_of_lt_of_le (Heap.lt_size e) I.ok.above)
 have neC : ∀ b o, X.s₀.heap.get? b = some o → b ∉ X.ex → b ∉ ch := λ b o e hx hb => by
  rcases (hch b hb).1 with z | z
  ·exact hx z
  ·rw [z] at e; cases e
 have cellK : ∀ x c, X.env.cells.lookup x = some c → ∀ v, s.heap.IsCell c v → h'.IsCell c v := λ x c e v ⟨o, ho, hd⟩ => by
  have nch : c ∉ ch := λ z => (hch c z).2.2.1 x c e rfl
  by_cases hc : c ∈ X.fs
  ·obtain ⟨sl, q⟩ := slot c o (I.cne x c e) hc nch ho (I.freeC x c e)
   exact ⟨_, q, hd⟩
  ·exact ⟨o, keep c o (I.cne x c e) hc nch ho (I.freeC x c e), hd⟩
 refine ⟨I.ok, I.os, hg, ⟨λ b o e n hb hx => ?_, λ b o e n hb hx => ?_, λ b o e n hx => ?_, λ b o e hx => ?_, λ b xs e => tups b xs (I.base.tups b xs e), λ b o xs e => frzs b o xs (I.base.frzs b o xs e), λ b ps e => ?_⟩, ?_, λ x c e => ?_, ?_, λ x c e => ?_, λ p hp => ?_, hok, I.len, I.sgm⟩
 ·exact keep b o (neL b o e) hb (neC b o e hx) (I.base.keep b o e n hb hx) (I.base.free b o e n hx)
 ·obtain ⟨sl, e1⟩ := I.base.slot b o e n hb hx
  obtain ⟨sl', e2⟩ := slot b _ (neL b o e) hb (neC b o e hx) e1 (I.base.free b o e n hx)
  exact ⟨sl', e2⟩
 ·obtain ⟨o', e1⟩ := I.base.there b o e hx
  exact free b o' (neC b o e hx) e1 (I.base.free b o e n hx)
 ·obtain ⟨o', e1⟩ := I.base.there b o e hx
  exact there b o' (neC b o e hx) e1
 ·obtain ⟨m1, e1⟩ := I.base.tbls b ps e
  obtain ⟨m2, e2⟩ := tbls b _ e1
  exact ⟨m1 ++ m2, by rw [e2, Array.append_assoc]⟩
 ·obtain ⟨m, hn, hl⟩ := I.loc
  refine ⟨m, ns m hn, λ i x v e1 e2 e3 => ?_⟩
  obtain ⟨u, r, l⟩ := hl i x v e1 e2 e3
  refine ⟨u, r, ?_⟩
  rcases l with l | ⟨k, c, e, z⟩
  ·exact .inl l
  ·exact .inr ⟨k, c, e, cellK x c e _ z⟩
 ·obtain ⟨v, z⟩ := I.cell x c e
  exact ⟨v, cellK x c e v z⟩
 ·obtain ⟨m, ⟨o, _, _, ho, _⟩, _⟩ := I.loc
  exact free _ o (λ z => (hch _ z).2.1 rfl) ho I.free
 ·obtain ⟨v, o, ho, hd⟩ := I.cell x c e
  exact free c o (λ z => (hch c z).2.2.1 x c e rfl) ho (I.freeC x c e)
 ·obtain ⟨e, n, ne, nf, d⟩ := I.pin p hp
  have nch : p.1 ∉ ch := λ z => (hch p.1 z).2.2.2 p hp rfl
  exact ⟨keep p.1 p.2 ne nf nch e n, free p.1 p.2 nch e n, ne, nf, d⟩
theorem Inv.un {t' : Nat} (I : Inv X pins σ H s) (u : Un X.fs [] H H' s.heap h') (hok : HOk X.prog X.w H' h') : Inv X pins σ H' { s with heap := h', toks := t' } := by
 obtain ⟨m, ⟨o, es, ep, ho, r⟩, _⟩ := id I.loc
 obtain ⟨sl, hL⟩ := u.any ho I.free (by simp)
 exact I.step (g' := s.gens) (d' := s.drawn) (ch := []) (λ _ z => nomatch z) (λ b o _ hb _ e n => u.keep b o e n hb (by simp)) (λ b o _ hb _ e n => u.slot b o e n hb (by simp)) (λ b o _ e n => u.free b o e n (by simp)) (λ b o _ e => u.there b o e (by simp)) u.tups u.frzs u.tbls (λ m' hm => by
  obtain ⟨o', es', ep', ho', r'⟩ := hm
  rw [ho] at ho'; cases ho'
  exact ⟨_, es', ep', hL, r'⟩) hok I.bare
theorem Inv.call {g' : Array GenState} {t' : Nat} {d' : Drawn} {ch : List Addr} (I : Inv X pins σ H s) (u : Un (frs X.stack) ch H H' s.heap h') (hok : HOk X.prog X.w H' h') (hg : AllBare g')
  (hch : ∀ b ∈ ch, (b ∈ X.ex ∨ X.s₀.heap.get? b = none) ∧ b ≠ X.env.locals ∧ (∀ x c, X.env.cells.lookup x = some c → c ≠ b) ∧ ∀ p ∈ X.pn ++ pins, p.1 ≠ b) :
  Inv X pins σ H' { s with heap := h', gens := g', drawn := d', toks := t' } := by
 obtain ⟨m, ⟨o, es, ep, ho, r⟩, _⟩ := id I.loc
 obtain ⟨sl, hL⟩ := u.any ho I.free λ z => (hch _ z).2.1 rfl
 exact I.step (ch := ch) hch (λ b o hL hb hc e n => u.keep b o e n (λ z => (List.mem_cons.mp (I.stkSub b z)).elim hL hb) hc) (λ b o _ _ hc e n => u.any e n hc) (λ b o hc e n => u.free b o e n hc) (λ b o hc e => u.there b o e hc) u.tups u.frzs u.tbls (λ m' hm => by
  obtain ⟨o', es', ep', ho', r'⟩ := hm
  rw [ho] at ho'; cases ho'
  exact ⟨_, es', ep', hL, r'⟩) hok hg
theorem Inv.turned {t' : Nat} {it : Addr} (I : Inv X pins σ H s) (k : ∀ b o, b ≠ it → s.heap.get? b = some o → h'.get? b = some o) (hn : H it = none) (hL : it ≠ X.env.locals)
  (h1 : it ∈ X.ex ∨ X.s₀.heap.objs.size ≤ it) (h2 : ∀ x c, X.env.cells.lookup x = some c → c ≠ it) (h3 : ∀ p ∈ X.pn ++ pins, p.1 ≠ it) : Inv X pins σ H { s with heap := h', toks := t' } := by
 have nit : ∀ b u, H b = some u → b ≠ it := λ b u e z => by rw [z, hn] at e; cases e
 refine I.step (g' := s.gens) (d' := s.drawn) (ch := [it]) (λ b hb => ?_) (λ b o _ _ hc e _ => k b o (λ z => hc (by simp [z])) e) (λ b o _ _ hc e _ => ⟨o.slots, k b o (λ z => hc (by simp [z])) e⟩) (λ _ _ _ _ n => n)
  (λ b o hc e => ⟨o, k b o (λ z => hc (by simp [z])) e⟩) (λ _ _ e => e) (λ _ _ _ e => e) (λ b ps e => ⟨#[], by rw [e]; simp⟩) (λ m hm => ?_) (λ b u e => ?_) I.bare
 ·have e : b = it := by simpa using hb
  subst e
  exact ⟨h1.imp id Heap.get?_none_of_le, hL, h2, h3⟩
 ·obtain ⟨o, es, ep, ho, r⟩ := hm
  exact ⟨o, es, ep, k _ o (Ne.symm hL) ho, r⟩
 ·refine (I.hok b u e).stay (λ c v hc q => k c v ?_ q) (λ _ q => q) λ _ _ q => q
  rcases hc with z | z
  ·rw [z]; exact nit b u e
  ·exact nit c _ z
theorem Inv.tok (I : Inv X pins σ H s) (t : Nat) : Inv X pins σ H { s with toks := t } := I.un (h' := s.heap) (t' := t) Un.refl I.hok
theorem Inv.kept {t' : Nat} (I : Inv X pins σ H s) (k : ∀ b u, s.heap.get? b = some u → h'.get? b = some u) : Inv X pins σ H { s with heap := h', toks := t' } := I.un (Un.kept k) (I.hok.kept k)
theorem Inv.laid {a : Addr} {o : HO} {t' : Nat} (I : Inv X pins σ H s) (k : ∀ b u, s.heap.get? b = some u → h'.get? b = some u) (hp : s.heap.objs.size ≤ a) (new : ObjOk X.prog X.w (upd H a o) h' a o) :
  Inv X pins σ (upd H a o) { s with heap := h', toks := t' } := I.un (Un.laid k hp (I.hok.fresh hp)) (I.hok.laid k hp new)
theorem Inv.write {x e : Addr} {o : HO} {t' : Nat} (I : Inv X pins σ H s) (mu : Mut (H x)) (he : e = x ∨ H e = some (.own x)) (k : ∀ b u, b ≠ e → s.heap.get? b = some u → h'.get? b = some u) (heo : ∃ u, h'.get? e = some u)
  (new : ObjOk X.prog X.w (upd H x o) h' x o) : Inv X pins σ (upd H x o) { s with heap := h', toks := t' } := I.un (Un.write mu he k heo) (I.hok.write mu he k heo new)
theorem Inv.pins_of {pins' : List (Addr × Obj)} (I : Inv X pins σ H s) (h : ∀ p ∈ pins', s.heap.get? p.1 = some p.2 ∧ H p.1 = none ∧ p.1 ≠ X.env.locals ∧ p.1 ∉ X.fs ∧ ∀ v, p.2.data ≠ .cell v) (hsg : X.sg pins' σ) : Inv X pins' σ H s :=
 ⟨I.ok, I.os, I.bare, I.base, I.loc, I.cell, I.free, I.freeC, λ p hp => (List.mem_append.mp hp).elim (λ z => I.pin p (List.mem_append_left _ z)) (h p), I.hok, I.len, hsg⟩
theorem nodup_ix {N : List Str} (hN : N.Nodup) {i j : Nat} {x : Str} (a : N[i]? = some x) (b : N[j]? = some x) : i = j := by
 obtain ⟨h1, e1⟩ := List.getElem?_eq_some_iff.mp a
 obtain ⟨h2, e2⟩ := List.getElem?_eq_some_iff.mp b
 exact (List.getElem_inj hN).mp (e1.trans e2.symm)
theorem store_ok2 {M : Model} {A : Around} {E : Value → Shared → Prop} {i : Nat} {x : Str} {v : V} {u : Value} {Q : Unit → Shared → Prop} (I : Inv X pins σ H s) (hN : X.N.Nodup) (hi : X.N[i]? = some x) (hx : Loc X.env.scope x) (r : RelV v u)
  (h : ∀ s', Inv X pins (σ.set i (some v)) H s' → (∃ a, Heap.SameBut a s.heap s'.heap ∧ (a = X.env.locals ∨ X.env.cells.lookup x = some a)) → Q () s') (hf : X.fn x = true ∨ X.env.scope.names.lookup x = some .local := by first | exact .inl rfl | exact .inr rfl | assumption) (hsg : ∀ p σ v, X.sg p σ → X.sg p (σ.set i (some v)) := by first | exact λ _ _ _ _ => trivial | assumption) : wpAny M A (storeName X.env x u) Q E s := by
 obtain ⟨m, hn, hl⟩ := id I.loc
 have hcls : (X.env.scope.kind == .class || (X.env.scope.kind == .module && X.env.locals != X.env.globals)) = false := by rw [I.ok.kind]; rfl
 have hiσ : i < σ.length := by rw [I.len]; exact (List.getElem?_eq_some_iff.mp hi).1
 have cne := I.cne
 have tracked : ∀ {a : Addr} {h' : Heap}, (∃ o, s.heap.get? a = some o ∧ H a = none) → Heap.SameBut a s.heap h' → HOk X.prog X.w H h' := λ {a h'} ha hs b ob e => by
  obtain ⟨_, _, hfree⟩ := ha
  refine (I.hok b ob e).stay (λ c w' hc q => (hs.2 c ?_).trans q) (λ _ q => q) λ _ _ q => q
  rintro rfl
  rcases hc with rfl | hc
  ·rw [hfree] at e; cases e
  ·rw [hfree] at hc; cases hc
 rcases hx with hk | hk
 ·refine wpAny_storeName_local hk hn (λ h' hn' hs => ?_) hcls
  obtain ⟨oL, _, _, hoL, _⟩ := id hn
  refine h _ ⟨I.ok, I.os, I.bare, ⟨λ b o e n hb hx => ?_, λ b o e n hb hx => ?_, I.base.free, λ b o e hx => ?_, I.base.tups, I.base.frzs, I.base.tbls⟩, ⟨_, hn', λ j y v' e1 e2 e3 => ?_⟩, λ y c e => ?_, I.free, I.freeC, λ p hp => ?_, tracked ⟨oL, hoL, I.free⟩ hs, by simpa using I.len, hsg _ _ _ I.sgm⟩ ⟨_, hs, .inl rfl⟩
  ·exact (hs.2 b (Nat.ne_of_lt (Nat.lt_of_lt_of_le (Heap.lt_size e) I.ok.above))).trans (I.base.keep b o e n hb hx)
  ·obtain ⟨sl, e1⟩ := I.base.slot b o e n hb hx
   exact ⟨sl, (hs.2 b (Nat.ne_of_lt (Nat.lt_of_lt_of_le (Heap.lt_size e) I.ok.above))).trans e1⟩
  ·obtain ⟨o', e1⟩ := I.base.there b o e hx
   exact ⟨o', (hs.2 b (Nat.ne_of_lt (Nat.lt_of_lt_of_le (Heap.lt_size e) I.ok.above))).trans e1⟩
  ·by_cases hj : j = i
   ·subst hj
    rw [hi] at e1; cases e1
    rw [List.getElem?_set_self hiσ] at e2
    cases e2
    exact ⟨u, r, .inl ⟨hk, by simp⟩⟩
   ·rw [List.getElem?_set_ne (Ne.symm hj)] at e2
    obtain ⟨u', r', q⟩ := hl j y v' e1 e2 e3
    refine ⟨u', r', ?_⟩
    rcases q with ⟨k, e⟩ | ⟨k, c, e, z⟩
    ·refine .inl ⟨k, ?_⟩
     have : y ≠ x := λ e => hj (nodup_ix hN e1 (e ▸ hi))
     simp [this, e]
    ·exact .inr ⟨k, c, e, z.sameBut hs (cne y c e)⟩
  ·obtain ⟨w', z⟩ := I.cell y c e
   exact ⟨w', z.sameBut hs (cne y c e)⟩
  ·obtain ⟨e, n, ne, nf, d⟩ := I.pin p hp
   exact ⟨(hs.2 p.1 ne).trans e, n, ne, nf, d⟩
 ·have hfn : X.fn x = true := by
   rcases hf with z | z
   ·exact z
   ·rw [z] at hk; cases hk
  obtain ⟨c, hc⟩ := I.ok.has x (.inl hk)
  obtain ⟨w', z⟩ := I.cell x c hc
  refine wpAny_storeName_cell I.ok.kind hk hc z (λ h' hc' hs => ?_)
  obtain ⟨oc, hoc, hocd⟩ := id z
  refine h { s with heap := h' } ⟨I.ok, I.os, I.bare, ⟨λ b o e n hb hx => ?_, λ b o e n hb hx => ?_, I.base.free, λ b o e hx => ?_, I.base.tups, I.base.frzs, I.base.tbls⟩, ⟨m, hn.sameBut hs (Ne.symm (cne x c hc)), λ j y v' e1 e2 e3 => ?_⟩, λ y c' e => ?_, I.free, I.freeC, λ p hp => ?_, tracked ⟨oc, hoc, I.freeC x c hc⟩ hs, by simpa using I.len, hsg _ _ _ I.sgm⟩ ⟨c, hs, .inr hc⟩
  ·exact (hs.2 b (Nat.ne_of_lt (Nat.lt_of_lt_of_le (Heap.lt_size e) (I.ok.cab x c hfn hc)))).trans (I.base.keep b o e n hb hx)
  ·obtain ⟨sl, e1⟩ := I.base.slot b o e n hb hx
   exact ⟨sl, (hs.2 b (Nat.ne_of_lt (Nat.lt_of_lt_of_le (Heap.lt_size e) (I.ok.cab x c hfn hc)))).trans e1⟩
  ·obtain ⟨o', e1⟩ := I.base.there b o e hx
   exact ⟨o', (hs.2 b (Nat.ne_of_lt (Nat.lt_of_lt_of_le (Heap.lt_size e) (I.ok.cab x c hfn hc)))).trans e1⟩
  ·by_cases hj : j = i
   ·subst hj
    rw [hi] at e1; cases e1
    rw [List.getElem?_set_self hiσ] at e2
    cases e2
    exact ⟨u, r, .inr ⟨.inl hk, c, hc, hc'⟩⟩
   ·rw [List.getElem?_set_ne (Ne.symm hj)] at e2
    obtain ⟨u', r', q⟩ := hl j y v' e1 e2 e3
    refine ⟨u', r', ?_⟩
    rcases q with q | ⟨k, c', e, z'⟩
    ·exact .inl q
    ·refine .inr ⟨k, c', e, z'.sameBut hs ?_⟩
     rintro rfl
     exact hj (nodup_ix hN e1 (I.ok.inj _ _ _ e hc ▸ hi))
  ·by_cases hcc : c' = c
   ·subst hcc; exact ⟨_, hc'⟩
   ·obtain ⟨w2, z2⟩ := I.cell y c' e
    exact ⟨w2, z2.sameBut hs hcc⟩
  ·obtain ⟨e, n, ne, nf, d⟩ := I.pin p hp
   refine ⟨(hs.2 p.1 ?_).trans e, n, ne, nf, d⟩
   intro q
   rw [q, hoc] at e
   have q' : oc = p.2 := Option.some.inj e
   exact d w' (by rw [← q']; exact hocd)
theorem store_ok {M : Model} {A : Around} {E : Value → Shared → Prop} {i : Nat} {x : Str} {v : V} {u : Value} {Q : Unit → Shared → Prop} (I : Inv X pins σ H s) (hN : X.N.Nodup) (hi : X.N[i]? = some x) (hx : Loc X.env.scope x) (r : RelV v u)
  (h : ∀ s', Inv X pins (σ.set i (some v)) H s' → Q () s') (hf : X.fn x = true ∨ X.env.scope.names.lookup x = some .local := by first | exact .inl rfl | exact .inr rfl | assumption) (hsg : ∀ p σ v, X.sg p σ → X.sg p (σ.set i (some v)) := by first | exact λ _ _ _ _ => trivial | assumption) : wpAny M A (storeName X.env x u) Q E s :=
 store_ok2 I hN hi hx r (λ s' I' _ => h s' I') hf hsg
theorem Inv.call' {s' : Shared} {ch : List Addr} (I : Inv X pins σ H s) (ho : s'.os = s.os) (u : Un (frs X.stack) ch H H' s.heap s'.heap) (hok : HOk X.prog X.w H' s'.heap) (hg : AllBare s'.gens)
  (hch : ∀ b ∈ ch, (b ∈ X.ex ∨ X.s₀.heap.get? b = none) ∧ b ≠ X.env.locals ∧ (∀ x c, X.env.cells.lookup x = some c → c ≠ b) ∧ ∀ p ∈ X.pn ++ pins, p.1 ≠ b) : Inv X pins σ H' s' := by
 obtain ⟨h', g', d', t', o'⟩ := s'
 have e : o' = s.os := ho
 subst e
 exact I.call (g' := g') (t' := t') (d' := d') u hok hg hch
end
abbrev XK := Value → Option Addr → Hp → Prop
abbrev St := List (Option V)
abbrev VK := V → Hp → Prop
abbrev TE := St → Hp → VK → Prop
abbrev TT := St → Hp → (Bool → Hp → Prop) → Prop
abbrev TA := St → Hp → (List V → Hp → Prop) → Prop
structure Ends where
 nx : St → Hp → Prop
 rt : VK
 bk : St → Hp → Prop := λ _ _ => False
 ct : St → Hp → Prop := λ _ _ => False
abbrev TS := Ends → St → Hp → Prop
def EP (X : Cx) (pins : List (Addr × Obj)) (σ : St) (Q : VK) (u : Value) (s' : Shared) : Prop := ∃ v H', Inv X pins σ H' s' ∧ RelV v u ∧ Q v H'
def TP (X : Cx) (pins : List (Addr × Obj)) (σ : St) (Q : Bool → Hp → Prop) (b : Bool) (s' : Shared) : Prop := ∃ H', Inv X pins σ H' s' ∧ Q b H'
def AP (X : Cx) (pins : List (Addr × Obj)) (σ : St) (Q : List V → Hp → Prop) (us : List Value) (s' : Shared) : Prop := ∃ vs H', Inv X pins σ H' s' ∧ Vals vs us ∧ Q vs H'
def SP (X : Cx) (pins : List (Addr × Obj)) (D : Ends) (f : Flow) (s' : Shared) : Prop :=
 match f with
 | .next => ∃ σ' H', Inv X pins σ' H' s' ∧ D.nx σ' H'
 | .brk => ∃ σ' H', Inv X pins σ' H' s' ∧ D.bk σ' H'
 | .cont => ∃ σ' H', Inv X pins σ' H' s' ∧ D.ct σ' H'
 | .ret u => ∃ v σ' H', Inv X pins σ' H' s' ∧ RelV v u ∧ D.rt v H'
def PE (X : Cx) (e : Expr) (t : TE) : Prop :=
 ∀ (pins : List (Addr × Obj)) (s : Shared) (σ : St) (H : Hp) (Q : VK), Inv X pins σ H s → t σ H Q → wpAny (model X.prog X.w) X.A (eval e X.env) (EP X pins σ Q) X.xe s
def PT (X : Cx) (e : Expr) (t : TT) : Prop :=
 ∀ (pins : List (Addr × Obj)) (s : Shared) (σ : St) (H : Hp) (Q : Bool → Hp → Prop), Inv X pins σ H s → t σ H Q → wpAny (model X.prog X.w) X.A (isTrue e X.env (eval e X.env)) (TP X pins σ Q) X.xe s
def PW (X : Cx) (e : Expr) (t : TT) : Prop :=
 ∀ (whole : Sem Value) (pins : List (Addr × Obj)) (s : Shared) (σ : St) (H : Hp) (Q : Bool → Hp → Prop), Inv X pins σ H s → t σ H Q → wpAny (model X.prog X.w) X.A (isTrue e X.env whole) (TP X pins σ Q) X.xe s
theorem PW.pt {X : Cx} {e : Expr} {t : TT} (h : PW X e t) : PT X e t := h _
def PA (X : Cx) (es : List Expr) (t : TA) : Prop :=
 ∀ (pos : Pos) (pins : List (Addr × Obj)) (s : Shared) (σ : St) (H : Hp) (Q : List V → Hp → Prop), Inv X pins σ H s → t σ H Q → wpAny (model X.prog X.w) X.A (spliced (backTo pos (starEach es X.env))) (AP X pins σ Q) X.xe s
def PS (X : Cx) (st : Stmt) (t : TS) : Prop :=
 ∀ (pins : List (Addr × Obj)) (s : Shared) (σ : St) (H : Hp) (D : Ends), Inv X pins σ H s → t D σ H → wpAny (model X.prog X.w) X.A (exec st X.env) (SP X pins D) X.xe s
def PSs (X : Cx) (st : List Stmt) (t : TS) : Prop :=
 ∀ (pins : List (Addr × Obj)) (s : Shared) (σ : St) (H : Hp) (D : Ends), Inv X pins σ H s → t D σ H → wpAny (model X.prog X.w) X.A (execs st X.env) (SP X pins D) X.xe s
theorem thn {α : Type} {t : Sem α} {Q Q' : α → Shared → Prop} {M : Model} {A : Around} {E : Value → Shared → Prop} {s : Shared} (h : wpAny M A t Q E s) (hQ : ∀ a s, Q a s → Q' a s) : wpAny M A t Q' E s := wpAny_mono h hQ λ _ _ x => x
end L2
namespace L2
open PySem PySem.Spec PyProof.Rows
section
variable {X : Cx}
def tVar (i : Nat) : TE := λ σ H Q => ∃ v, σ[i]? = some (some v) ∧ Q v H
def tC (v : V) : TE := λ _ H Q => Q v H
theorem pe_var {i : Nat} {x : Str} {pos : Pos} (hN : X.N[i]? = some x) (hv : Vis X.env.scope x) (hd : (x == ("__debug__" : Str)) = false := by decide) (hcd : (x == ("__classdict__" : Str)) = false := by decide) : PE X (.Name x pos) (tVar i) := by
 intro pins s σ H Q I h
 obtain ⟨v, e, h⟩ := h
 obtain ⟨m, hn, hl⟩ := I.loc
 obtain ⟨u, r, l⟩ := hl i x v hN e hv
 have fin : EP X pins σ Q u s := ⟨v, H, I, r, h⟩
 rcases l with ⟨hk, hm⟩ | ⟨hk, c, hc, hcell⟩
 ·exact wpAny_Name (wpAny_loadName_local I.ok.kind hk hn hm fin) hd
 ·rcases hk with hk | hk
  ·exact wpAny_Name (wpAny_loadName_cell I.ok.kind hk hc hcell fin) hd
  ·exact wpAny_Name (wpAny_loadName_free I.ok.kind hk hc hcell fin hcd) hd
theorem pe_int {i j pos} : PE X (.Constant (.int i) j pos) (tC (.int i)) := λ _ _ _ H _ I h => wpAny_Constant_int ⟨.int i, H, I.tok _, ⟨_, rfl⟩, h⟩
theorem pe_bl {b j pos} : PE X (.Constant (.bool b) j pos) (tC (.bl b)) := λ _ _ _ H _ I h => Constant_bool ⟨.bl b, H, I, rfl, h⟩
def Gl (X : Cx) (x : Str) : Prop := X.env.kindOf x = some .globalImplicit
theorem ld_glob {E : Value → Shared → Prop} {pins : List (Addr × Obj)} {s : Shared} {σ : St} {H : Hp} {x : Str} {u : Value} {pos : Pos} {Q : Value → Shared → Prop} (I : Inv X pins σ H s) (hg : Gl X x) (hm : X.mg x = some u) (h : Q u s)
  (hd : (x == ("__debug__" : Str)) = false := by decide) : wpAny (model X.prog X.w) X.A (eval (.Name x pos) X.env) Q E s :=
 Calls.Name_function_global I.ok.kind hg (Calls.loadGlobal_global (by rw [I.ok.glob]; exact I.mod.glob.keeps I.bk) hm h) hd
theorem ld_blt {E : Value → Shared → Prop} {pins : List (Addr × Obj)} {s : Shared} {σ : St} {H : Hp} {x : Str} {u : Value} {pos : Pos} {Q : Value → Shared → Prop} (I : Inv X pins σ H s) (hg : Gl X x) (hm : X.mg x = none) (hv : bootBuiltins x = some u) (h : Q u s)
  (hn : x ≠ "__name__" := by decide) (hd : (x == ("__debug__" : Str)) = false := by decide) : wpAny (model X.prog X.w) X.A (eval (.Name x pos) X.env) Q E s := by
 obtain ⟨mb, h1, h2⟩ := I.mod.blt
 exact Calls.Name_function_global I.ok.kind hg (Calls.loadGlobal_builtin (by rw [I.ok.glob]; exact I.mod.glob.keeps I.bk) hm (by rw [I.ok.blt]; exact h1.keeps I.bk) ((h2 x hn).trans hv) h) hd
theorem pe_bltn {x : Str} {v : V} {u : Value} {pos : Pos} (hg : Gl X x) (hm : X.mg x = none) (hv : bootBuiltins x = some u) (r : RelV v u) (hn : x ≠ "__name__" := by decide) (hd : (x == ("__debug__" : Str)) = false := by decide) : PE X (.Name x pos) (tC v) :=
 λ _ _ _ H _ I h => ld_blt I hg hm hv ⟨v, H, I, r, h⟩ hn hd
variable {a b : Expr} {ta tb : TE} {pos : Pos}
variable {tA tB' : TT} {rest : List Expr}
def tAnd (t u : TT) : TT := λ σ H Q => t σ H λ c H1 => if c = true then u σ H1 Q else Q false H1
def tOr (t u : TT) : TT := λ σ H Q => t σ H λ c H1 => if c = true then Q true H1 else u σ H1 Q
def tNot (t : TT) : TT := λ σ H Q => t σ H λ c H1 => Q (!c) H1
theorem pw_and1 (ha : PT X a tA) : PW X (.BoolOp .And [a] pos) tA := by
 intro wh pins s σ H Q I h
 refine isTrue_and (thn (ha pins s σ H Q I h) λ c s1 e => ?_)
 cases c with
 | true => exact isTrue_and_nil e
 | false => exact e
theorem pw_or1 (ha : PT X a tA) : PW X (.BoolOp .Or [a] pos) tA := by
 intro wh pins s σ H Q I h
 refine isTrue_or (thn (ha pins s σ H Q I h) λ c s1 e => ?_)
 cases c with
 | false => exact isTrue_or_nil e
 | true => exact e
theorem pw_and (ha : PT X a tA) (hb : PW X (.BoolOp .And (b :: rest) pos) tB') : PW X (.BoolOp .And (a :: b :: rest) pos) (tAnd tA tB') := by
 intro wh pins s σ H Q I h
 refine isTrue_and (thn (ha pins s σ H _ I h) λ c s1 ⟨H1, I1, q1⟩ => ?_)
 cases c with
 | true => exact hb wh pins s1 σ H1 Q I1 q1
 | false => exact ⟨H1, I1, q1⟩
theorem pw_or (ha : PT X a tA) (hb : PW X (.BoolOp .Or (b :: rest) pos) tB') : PW X (.BoolOp .Or (a :: b :: rest) pos) (tOr tA tB') := by
 intro wh pins s σ H Q I h
 refine isTrue_or (thn (ha pins s σ H _ I h) λ c s1 ⟨H1, I1, q1⟩ => ?_)
 cases c with
 | true => exact ⟨H1, I1, q1⟩
 | false => exact hb wh pins s1 σ H1 Q I1 q1
theorem pt_not (ha : PT X a tA) : PT X (.UnaryOp .Not a pos) (tNot tA) := by
 intro pins s σ H Q I h
 exact isTrue_not (ha pins s σ H (λ c H1 => Q (!c) H1) I h)
def tAndV (ta tb : TE) : TE := λ σ H Q => ta σ H λ x H1 => ∃ c, x = .bl c ∧ if c = true then tb σ H1 Q else Q (.bl false) H1
def tNotV (ta : TE) : TE := λ σ H Q => ta σ H λ x H1 => ∃ c, x = .bl c ∧ Q (.bl (!c)) H1
theorem pe_one {op} {t : TE} (h : PE X a t) : PE X (.BoolOp op [a] pos) t := λ pins s σ H Q I hw => BoolOp_one (h pins s σ H Q I hw)
theorem pe_and (ha : PE X a ta) (hb : PE X (.BoolOp .And (b :: rest) pos) tb) : PE X (.BoolOp .And (a :: b :: rest) pos) (tAndV ta tb) := by
 intro pins s σ H Q I h
 refine BoolOp_and (thn (ha pins s σ H _ I h) λ v s1 ⟨x, H1, I1, r1, q1⟩ => ?_)
 obtain ⟨c, rfl, q1⟩ := q1
 cases r1
 refine wpAny_truthy_bool ?_
 cases c with
 | true => exact hb pins s1 σ H1 Q I1 q1
 | false => exact ⟨.bl false, H1, I1, rfl, q1⟩
theorem pe_not (ha : PE X a ta) : PE X (.UnaryOp .Not a pos) (tNotV ta) := by
 intro pins s σ H Q I h
 refine UnaryOp_ (thn (ha pins s σ H _ I h) λ v s1 ⟨x, H1, I1, r1, q1⟩ => ?_)
 obtain ⟨c, rfl, q1⟩ := q1
 cases r1
 exact not_of (wpAny_truthy_bool ⟨.bl (!c), H1, I1, rfl, q1⟩)
def tIf (t : TT) (ta tb : TE) : TE := λ σ H Q => t σ H λ c H1 => if c = true then ta σ H1 Q else tb σ H1 Q
theorem pe_ifExp {c : Expr} (hc : PT X c tA) (ha : PE X a ta) (hb : PE X b tb) : PE X (.IfExp c a b pos) (tIf tA ta tb) := by
 intro pins s σ H Q I h
 refine wpAny_IfExp (thn (hc pins s σ H _ I h) λ d s1 ⟨H1, I1, q1⟩ => ?_)
 cases d with
 | true => exact ha pins s1 σ H1 Q I1 q1
 | false => exact hb pins s1 σ H1 Q I1 q1
end
end L2
namespace L2
open PySem PySem.Spec PyProof.Rows
def SqL (K : PySem.W.Frag) (H : Hp) (a : Addr) (xs : List V) : Prop :=
 Rd H a (.lst xs) ∨
  ∃ (o : Obj) (its : Array Value) (n : Nat), K.lookup a = some o ∧ o.cls = .type "list" ∧ (o.dict = none ∧ o.slots = #[]) ∧ o.data = .seq its n ∧ its.size ≤ sizeLine ∧ Vals xs its.toList
def SqT (K : PySem.W.Frag) (H : Hp) (a : Addr) (xs : List V) : Prop :=
 Rd H a (.tup xs) ∨
  ∃ (o : Obj) (its : Array Value) (n : Nat), K.lookup a = some o ∧ o.cls = .type "tuple" ∧ o.data = .seq its n ∧ its.size ≤ sizeLine ∧ Vals xs its.toList
def absV : Value → Option V
 | .none => some .non
 | .bool b => some (.bl b)
 | .int i _ => some (.int i)
 | .str x _ => some (.str x)
 | .bytes b _ => some (.byt b)
 | .float b _ => some (.flt b)
 | .ref a => some (.ref a)
 | .type n => some (.ty n)
 | _ => none
theorem RelV.abs {x : V} {u : Value} (r : RelV x u) : absV u = some x := by
 cases x with
 | non => cases r; rfl
 | bl _ => cases r; rfl
 | int _ => obtain ⟨t, rfl⟩ := r; rfl
 | str _ => obtain ⟨t, rfl⟩ := r; rfl
 | byt _ => obtain ⟨t, rfl⟩ := r; rfl
 | flt _ => obtain ⟨t, rfl⟩ := r; rfl
 | ref _ => cases r; rfl
 | ty _ => cases r; rfl
theorem RelV.inj {x y : V} {u : Value} (r : RelV x u) (q : RelV y u) : x = y := Option.some.inj (r.abs.symm.trans q.abs)
theorem Vals.inj : ∀ {xs ys : List V} {us : List Value}, Vals xs us → Vals ys us → xs = ys
 | _, _, _, .nil, .nil => rfl
 | _, _, _, .cons r t, .cons r' t' => by rw [r.inj r', Vals.inj t t']
section
variable {X : Cx} {pins : List (Addr × Obj)} {σ : St} {H : Hp} {s : Shared} {a : Addr} {xs ys : List V}
theorem SqL.of {K : PySem.W.Frag} (h : H a = some (.lst xs)) : SqL K H a xs := .inl (.inl h)
theorem SqT.of {K : PySem.W.Frag} (h : H a = some (.tup xs)) : SqT K H a xs := .inl (.inl h)
theorem Inv.list (I : Inv X pins σ H s) (h : SqL X.K H a xs) : ∃ its : List Value, Vals xs its ∧ PlainL s.heap a its.toArray ∧ xs.length ≤ sizeLine := by
 rcases h with h | ⟨o, its, n, hk, hc, hd, hs, hz, r⟩
 ·obtain ⟨z, its, n, r, e⟩ := h.ok I.hok
  exact ⟨its, r, ⟨_, n, e, rfl, rfl, rfl⟩, z⟩
 ·refine ⟨its.toList, r, ⟨o, n, I.kIn a o hk, hc, hd.1, by simpa using hs⟩, ?_⟩
  have e := r.length
  simp only [Array.length_toList] at e
  omega
theorem Inv.tuple (I : Inv X pins σ H s) (h : SqT X.K H a xs) : ∃ its : List Value, Vals xs its ∧ IsTup s.heap a its.toArray ∧ xs.length ≤ sizeLine := by
 rcases h with h | ⟨o, its, n, hk, hc, hs, hz, r⟩
 ·obtain ⟨z, its, r, p⟩ := h.ok I.hok
  exact ⟨its, r, p, z⟩
 ·refine ⟨its.toList, r, ⟨o, I.kIn a o hk, hc, n, by simpa using hs⟩, ?_⟩
  have e := r.length
  simp only [Array.length_toList] at e
  omega
theorem Inv.list_inj (I : Inv X pins σ H s) (h : SqL X.K H a xs) (h' : SqL X.K H a ys) : xs = ys := by
 obtain ⟨its, r, ⟨o, n, e, _, _, d⟩, _⟩ := I.list h
 obtain ⟨its', r', ⟨o', n', e', _, _, d'⟩, _⟩ := I.list h'
 rw [e] at e'; cases e'
 rw [d] at d'
 injection d' with d1 _
 have : its = its' := by simpa using congrArg Array.toList d1
 subst this
 exact r.inj r'
theorem Inv.tuple_inj (I : Inv X pins σ H s) (h : SqT X.K H a xs) (h' : SqT X.K H a ys) : xs = ys := by
 obtain ⟨its, r, ⟨o, e, _, n, d⟩, _⟩ := I.tuple h
 obtain ⟨its', r', ⟨o', e', _, n', d'⟩, _⟩ := I.tuple h'
 rw [e] at e'; cases e'
 rw [d] at d'
 injection d' with d1 _
 have : its = its' := by simpa using congrArg Array.toList d1
 subst this
 exact r.inj r'
end
abbrev Cx.wish (X : Cx) (E : Value → Shared → Prop) : Cx := { X with xe := E }
abbrev Cx.nox (X : Cx) : Cx := X.wish λ _ _ => False
theorem Cx.Ok.wish {X : Cx} (ok : X.Ok) (E : Value → Shared → Prop) : (X.wish E).Ok :=
 ⟨ok.mod, ok.kind, ok.glob, ok.blt, ok.above, ok.inj, ok.has, ok.cab, ok.hd, ok.frames, ok.stk, ok.exf, ok.bs, ok.bsz, ok.noex, ok.exfs, ok.funs, ok.frf⟩
theorem Cx.Ok.unwish {X : Cx} {E : Value → Shared → Prop} (ok : (X.wish E).Ok) : X.Ok :=
 ⟨ok.mod, ok.kind, ok.glob, ok.blt, ok.above, ok.inj, ok.has, ok.cab, ok.hd, ok.frames, ok.stk, ok.exf, ok.bs, ok.bsz, ok.noex, ok.exfs, ok.funs, ok.frf⟩
section
variable {X : Cx} {pins : List (Addr × Obj)} {σ : St} {H : Hp} {s : Shared} {E : Value → Shared → Prop}
theorem Inv.wish (I : Inv X pins σ H s) (E : Value → Shared → Prop) : Inv (X.wish E) pins σ H s := ⟨I.ok.wish E, I.os, I.bare, I.base, I.loc, I.cell, I.free, I.freeC, I.pin, I.hok, I.len, I.sgm⟩
theorem Inv.unwish (I : Inv (X.wish E) pins σ H s) : Inv X pins σ H s := ⟨I.ok.unwish, I.os, I.bare, I.base, I.loc, I.cell, I.free, I.freeC, I.pin, I.hok, I.len, I.sgm⟩
theorem SP.unwish {D : Ends} {f : Flow} {s' : Shared} (h : SP (X.wish E) pins D f s') : SP X pins D f s' := by
 cases f with
 | next => obtain ⟨σ', H', I, q⟩ := h; exact ⟨σ', H', I.unwish, q⟩
 | brk => obtain ⟨σ', H', I, q⟩ := h; exact ⟨σ', H', I.unwish, q⟩
 | cont => obtain ⟨σ', H', I, q⟩ := h; exact ⟨σ', H', I.unwish, q⟩
 | ret u => obtain ⟨v, σ', H', I, r, q⟩ := h; exact ⟨v, σ', H', I.unwish, r, q⟩
theorem PE.nox {e : Expr} {t : TE} (h : PE X.nox e t) : PE X e t := λ pins s σ H Q I hw =>
 wpAny_mono (h pins s σ H Q (I.wish _) hw) (λ _ _ ⟨v, H', I', r, q⟩ => ⟨v, H', I'.unwish, r, q⟩) λ _ _ z => False.elim z
theorem PT.nox {e : Expr} {t : TT} (h : PT X.nox e t) : PT X e t := λ pins s σ H Q I hw =>
 wpAny_mono (h pins s σ H Q (I.wish _) hw) (λ _ _ ⟨H', I', q⟩ => ⟨H', I'.unwish, q⟩) λ _ _ z => False.elim z
theorem PSs.nox {st : List Stmt} {t : TS} (h : PSs X.nox st t) : PSs X st t := λ pins s σ H D I hw =>
 wpAny_mono (h pins s σ H D (I.wish _) hw) (λ _ _ q => q.unwish) λ _ _ z => False.elim z
end
section
variable {X : Cx} {st : Stmt} {rest : List Stmt} {t u : TS} {e : Expr} {te : TE} {pos : Pos}
theorem pss_one (h1 : PS X st t) : PSs X [st] t := by
 intro pins s σ H D I h
 refine wpAny_execs_cons (thn (h1 pins s σ H D I h) λ f s1 q => ?_)
 cases f with
 | next => exact wpAny_execs_nil q
 | ret v => exact q
 | brk => exact q
 | cont => exact q
theorem Inv.quiet {pins : List (Addr × Obj)} {σ : St} {H : Hp} {s : Shared} (I : Inv X pins σ H s) : interactive X.env = false := by simp [interactive, I.ok.kind]
end
abbrev TG := V → St → Hp → (St → Hp → Prop) → Prop
abbrev TGs := List V → St → Hp → (St → Hp → Prop) → Prop
def PG (X : Cx) (target : Expr) (t : TG) : Prop :=
 ∀ (pins : List (Addr × Obj)) (s : Shared) (σ : St) (H : Hp) (v : V) (u : Value) (Q : St → Hp → Prop), Inv X pins σ H s → RelV v u → t v σ H Q →
  wpAny (model X.prog X.w) X.A (assign target X.env u) (λ _ s' => ∃ σ' H', Inv X pins σ' H' s' ∧ Q σ' H') X.xe s
def PGs (X : Cx) (ts : List Expr) (t : TGs) : Prop :=
 ∀ (pins : List (Addr × Obj)) (s : Shared) (σ : St) (H : Hp) (vs : List V) (us : List Value) (Q : St → Hp → Prop), Inv X pins σ H s → Vals vs us → t vs σ H Q →
  wpAny (model X.prog X.w) X.A (assignInOrder ((assignEach ts X.env).map (·.2)) us) (λ _ s' => ∃ σ' H', Inv X pins σ' H' s' ∧ Q σ' H') X.xe s
abbrev TSet := V → V → V → Hp → (Hp → Prop) → Prop
def PSet (X : Cx) (t : TSet) : Prop :=
 ∀ (pins : List (Addr × Obj)) (s : Shared) (σ : St) (H : Hp) (o i v : V) (ov iv u : Value) (Q : Hp → Prop), Inv X pins σ H s → RelV o ov → RelV i iv → RelV v u → t o i v H Q →
  wpAny (model X.prog X.w) X.A (setItem ov iv u) (λ _ s' => ∃ H', Inv X pins σ H' s' ∧ Q H') X.xe s
abbrev TIp := V → V → Hp → VK → Prop
def PIp (X : Cx) (op : Operator) (t : TIp) : Prop :=
 ∀ (pins : List (Addr × Obj)) (s : Shared) (σ : St) (H : Hp) (x y : V) (v u : Value) (Q : VK), Inv X pins σ H s → RelV x v → RelV y u → t x y H Q →
  wpAny (model X.prog X.w) X.A (inplaceOp op v u) (EP X pins σ Q) X.xe s
section
variable {X : Cx} {pos : Pos}
def gName (i : Nat) : TG := λ v σ H Q => Q (σ.set i (some v)) H
theorem pg_name {i : Nat} {x : Str} (hN : X.N.Nodup) (hi : X.N[i]? = some x) (hx : Loc X.env.scope x) (hf : X.fn x = true ∨ X.env.scope.names.lookup x = some .local := by first | exact .inl rfl | exact .inr rfl | assumption) (hsg : ∀ p σ v, X.sg p σ → X.sg p (σ.set i (some v)) := by first | exact λ _ _ _ _ => trivial | assumption) : PG X (.Name x pos) (gName i) := by
 intro pins s σ H v u Q I r h
 exact wpAny_assign_Name (store_ok I hN hi hx r (λ s' I' => ⟨_, H, I', h⟩) hf)
def gNil : TGs := λ vs σ H Q => vs = [] ∧ Q σ H
def gCons (t : TG) (u : TGs) : TGs := λ vs σ H Q => ∃ v r, vs = v :: r ∧ t v σ H λ σ' H' => u r σ' H' Q
theorem pgs_nil : PGs X [] gNil := by
 intro pins s σ H vs us Q I r h
 obtain ⟨e, h⟩ := h
 subst e
 cases r
 exact assignInOrder_nil ⟨σ, H, I, h⟩
theorem pgs_cons {e : Expr} {es : List Expr} {t : TG} {u : TGs} (h1 : PG X e t) (h2 : PGs X es u)
  (hs : (assignEach (e :: es) X.env).map (·.2) = assign e X.env :: (assignEach es X.env).map (·.2) := by rfl) : PGs X (e :: es) (gCons t u) := by
 intro pins s σ H vs us Q I r h
 obtain ⟨v, vr, e1, h⟩ := h
 subst e1
 cases r with
 | cons r rr =>
  rw [hs]
  refine assignInOrder_cons (thn (h1 pins s σ H _ _ _ I r h) λ _ s1 ⟨σ1, H1, I1, q1⟩ => ?_)
  exact h2 pins s1 σ1 H1 _ _ Q I1 rr q1
def gTup (K : PySem.W.Frag) (n : Nat) (t : TGs) : TG := λ v σ H Q => ∃ a xs, v = .ref a ∧ SqT K H a xs ∧ xs.length = n ∧ t xs σ H Q
theorem pg_tup {es : List Expr} {k : Nat} {t : TGs} {n : Nat} (hc : X.calm = true) (h : PGs X es t)
  (hn : (assignEach es X.env).length = n := by rfl) (hst : (assignEach es X.env).findIdx? (·.1) = none := by rfl) : PG X (.Tuple es k pos) (gTup X.K n t) := by
 intro pins s σ H v u Q I r hw
 obtain ⟨a, xs, e1, hq, hl, hw⟩ := hw
 subst e1
 cases r
 obtain ⟨its, rv, ht, hz⟩ := I.tuple hq
 refine assign_Tuple_tuple (I.ok.hd hc) ht (by simp [hn, ← hl, rv.length]) hst λ h' hx => ?_
 have I1 : Inv X pins σ H { s with heap := h' } := I.kept (t' := s.toks) λ b o e => hx b o (Nat.ne_of_lt (Heap.lt_size e)) e
 exact h pins _ σ H xs _ Q I1 (by simpa using rv) hw
def gSub (to ti : TE) (t : TSet) : TG := λ v σ H Q => to σ H λ o H1 => ti σ H1 λ i H2 => t o i v H2 λ H3 => Q σ H3
theorem pg_sub {o i : Expr} {to ti : TE} {t : TSet} (ho : PE X o to) (hi : PE X i ti) (hs : PSet X t)
  (ha : ∀ v, assign (.Subscript o i pos) X.env v = (do
   let ov ← holding [v] (eval o X.env)
   let iv ← holding [v, ov] (eval i X.env)
   standAt pos
   holding [v, ov, iv] (setItem ov iv v)
   release [v, ov, iv] []) := by intro _; rfl) : PG X (.Subscript o i pos) (gSub to ti t) := by
 intro pins s σ H v u Q I r h
 rw [ha]
 refine wpAny_bind (wpAny_holding (thn (ho pins s σ H _ I h) λ ov s1 ⟨x, H1, I1, r1, q1⟩ => ?_))
 refine wpAny_bind (wpAny_holding (thn (hi pins s1 σ H1 _ I1 q1) λ iv s2 ⟨y, H2, I2, r2, q2⟩ => ?_))
 refine wpAny_bind (wpAny_standAt (wpAny_bind (wpAny_holding (thn (hs pins s2 σ H2 x y v ov iv u _ I2 r1 r2 r q2) λ _ s3 ⟨H3, I3, q3⟩ => ?_))))
 exact wpAny_release ⟨σ, H3, I3, q3⟩
def tAsg (te : TE) (g : TG) : TS := λ D σ H => te σ H λ x H1 => g x σ H1 D.nx
theorem ps_set {i : Nat} {x : Str} {e : Expr} {te : TE} {pos' : Pos} (hN : X.N.Nodup) (hi : X.N[i]? = some x) (hx : Loc X.env.scope x) (he : PE X e te) (hs : swapsWith e (some (.Name x pos')) pos.line X.env = pure false := by rfl) (hf : X.fn x = true ∨ X.env.scope.names.lookup x = some .local := by first | exact .inl rfl | exact .inr rfl | assumption) (hsg : ∀ p σ v, X.sg p σ → X.sg p (σ.set i (some v)) := by first | exact λ _ _ _ _ => trivial | assumption) :
  PS X (.Assign [.Name x pos'] e pos) (tAsg te (gName i)) := by
 intro pins s σ H D I h
 refine wpAny_Assign_Name (thn (he pins s σ H _ I h) λ v s1 ⟨y, H1, I1, r1, q1⟩ => ?_) hs
 exact store_ok I1 hN hi hx r1 (λ s2 I2 => ⟨_, H1, I2, q1⟩) hf
def ipI (f : Int → Int → Int) : TIp := λ x y H Q => ∃ i j, x = .int i ∧ y = .int j ∧ Q (.int (f i j)) H
theorem ip_add : PIp X .Add (ipI λ i j => i + j) := by
 intro pins s σ H x y v u Q I r1 r2 h
 obtain ⟨i, j, e1, e2, q⟩ := h
 subst e1; subst e2
 obtain ⟨t, rfl⟩ := r1
 obtain ⟨t', rfl⟩ := r2
 exact iadd_int ⟨.int _, H, I.tok _, ⟨_, rfl⟩, q⟩
theorem ip_sub : PIp X .Sub (ipI λ i j => i - j) := by
 intro pins s σ H x y v u Q I r1 r2 h
 obtain ⟨i, j, e1, e2, q⟩ := h
 subst e1; subst e2
 obtain ⟨t, rfl⟩ := r1
 obtain ⟨t', rfl⟩ := r2
 exact isub_int ⟨.int _, H, I.tok _, ⟨_, rfl⟩, q⟩
end
section
variable {X : Cx} {pos : Pos}
end
structure It where
 go : Nat → Hp → Prop
 yld : Nat → Hp → V → Hp → Prop
 stop : Nat → Hp → Prop
def FpOk (X : Cx) (pins : List (Addr × Obj)) (H : Hp) (b : Addr) : Prop :=
 H b = none ∧ b ≠ X.env.locals ∧ b ∉ X.fs ∧ (b ∈ X.ex ∨ X.s₀.heap.objs.size ≤ b) ∧ (∀ x c, X.env.cells.lookup x = some c → c ≠ b) ∧ ∀ p ∈ X.pn ++ pins, p.1 ≠ b
theorem Inv.fpOk {X : Cx} {pins : List (Addr × Obj)} {σ : St} {H H' : Hp} {s : Shared} {b : Addr} (I : Inv X pins σ H s) (hb : s.heap.objs.size ≤ b) (hn : H' b = none) : FpOk X pins H' b := by
 refine ⟨hn, Nat.ne_of_gt (Nat.lt_of_lt_of_le I.lt hb), I.nofs hb, .inr (Nat.le_trans I.sz hb), λ x c e z => ?_, λ p hp z => ?_⟩
 ·obtain ⟨v, q⟩ := I.cell x c e
  exact absurd (Nat.lt_of_lt_of_le q.lt (by rw [z]; exact hb)) (Nat.lt_irrefl _)
 ·exact absurd (Nat.lt_of_lt_of_le (Heap.lt_size (I.pin p hp).1) (by rw [z]; exact hb)) (Nat.lt_irrefl _)
structure Turn (P : Program) (w : World) (K : PySem.W.Frag) (tg : Expr) (J : It) (fp : List Addr) (it : Addr) (tn : Nat → Heap → Prop) : Prop where
 mem : it ∈ fp
 obj : ∀ i h, tn i h → ∀ b ∈ fp, ∃ o, h.get? b = some o ∧ ∀ v, o.data ≠ .cell v
 keep : ∀ i h h', tn i h → (∀ b ∈ fp, ∀ o, h.get? b = some o → h'.get? b = some o) → tn i h'
 item : ∀ (X : Cx), X.prog = P → X.w = w → X.K = K → X.calm = true → ∀ (i : Nat) (pins : List (Addr × Obj)) (s : Shared) (σ : St) (H : Hp) (E : Value → Shared → Prop), Inv X pins σ H s → (∀ b ∈ fp, FpOk X pins H b) → tn i s.heap → J.go i H →
  wpAny (model P w) X.A (pyNext (.ref it)) (λ r s1 => ∃ u, r = some u ∧
   wpAny (model P w) X.A (letOwnedTupleGo tg (.ref it) u) (λ _ s2 => ∃ x H', Inv X pins σ H' s2 ∧ RelV x u ∧ J.yld i H x H' ∧ tn (i + 1) s2.heap ∧ ∀ b ∈ fp, H' b = none) E s1) E s
 done : ∀ (X : Cx), X.prog = P → X.w = w → X.K = K → X.calm = true → ∀ (i : Nat) (pins : List (Addr × Obj)) (s : Shared) (σ : St) (H : Hp) (E : Value → Shared → Prop), Inv X pins σ H s → (∀ b ∈ fp, FpOk X pins H b) → tn i s.heap → J.stop i H →
  wpAny (model P w) X.A (pyNext (.ref it)) (λ r s1 => r = none ∧ Inv X pins σ H s1) E s
 self : ∀ (A : Around) (i : Nat) (s : Shared) (Q : Value → Shared → Prop) (E : Value → Shared → Prop), tn i s.heap → Q (.ref it) s → wpAny (model P w) A (pyIter (.ref it)) Q E s
abbrev TI := St → Hp → (It → Hp → Prop) → Prop
def PIE (X : Cx) (pins : List (Addr × Obj)) (σ : St) (tg : Expr) (R : It → Hp → Prop) (itv : Value) (s2 : Shared) : Prop :=
 ∃ (it : Addr) (fp : List Addr) (tn : Nat → Heap → Prop) (J : It) (H' : Hp), itv = .ref it ∧ Inv X pins σ H' s2 ∧ Turn X.prog X.w X.K tg J fp it tn ∧ tn 0 s2.heap ∧ (∀ b ∈ fp, FpOk X pins H' b) ∧ R J H'
def PI (X : Cx) (tg iter : Expr) (wi : TI) : Prop :=
 ∀ (pins : List (Addr × Obj)) (s : Shared) (σ : St) (H : Hp) (R : It → Hp → Prop), Inv X pins σ H s → wi σ H R →
  wpAny (model X.prog X.w) X.A (eval iter X.env) (λ v s1 => wpAny (model X.prog X.w) X.A (pyIter v) (PIE X pins σ tg R) X.xe s1) X.xe s
theorem go_of {M : Model} {A : Around} {E : Value → Shared → Prop} {s : Shared} {tg : Expr} {it : Addr} {u : Value} {o : Obj} {n : String} {vs : Array Value} {Q : Unit → Shared → Prop} (ho : s.heap.get? it = some o) (hc : o.cls = .type n) (hd : o.data = .fields vs)
    (hn : ["enumerate", "zip", "dict_itemiterator", "dict_reverseitemiterator", "odict_iterator", "itertools.zip_longest", "itertools.pairwise"].contains n = false) (hQ : Q () s) : wpAny M A (letOwnedTupleGo tg (.ref it) u) Q E s := by
  unfold letOwnedTupleGo
  cases tg <;> first
    | exact wpAny_pure hQ
    | (cases u <;> first
        | exact wpAny_pure hQ
        | (refine wpAny_bind (wpAny_load ho ?_)
           rw [hc, hd]
           show wpAny M A (if (["enumerate", "zip", "dict_itemiterator", "dict_reverseitemiterator", "odict_iterator", "itertools.zip_longest", "itertools.pairwise"].contains n && vs[0]? == some (rawInt _)) = true then _ else _) Q E s
           rw [if_neg (by intro h; rw [hn, Bool.false_and] at h; cases h)]
           exact wpAny_pure hQ))
def Itl (K : PySem.W.Frag) (a : Addr) : It :=
 ⟨λ i H => ∃ xs x, SqL K H a xs ∧ xs[i]? = some x, λ i H x H' => H' = H ∧ ∀ xs, SqL K H a xs → xs[i]? = some x, λ i H => ∃ xs, SqL K H a xs ∧ xs.length ≤ i⟩
def Itt (K : PySem.W.Frag) (a : Addr) : It :=
 ⟨λ i H => ∃ xs x, SqT K H a xs ∧ xs[i]? = some x, λ i H x H' => H' = H ∧ ∀ xs, SqT K H a xs → xs[i]? = some x, λ i H => ∃ xs, SqT K H a xs ∧ xs.length ≤ i⟩
def Itr (lo : Int) (n : Nat) : It := ⟨λ i _ => i < n, λ i H x H' => H' = H ∧ x = .int (lo + i), λ i _ => n ≤ i⟩
theorem turn_list {P : Program} {w : World} {K : PySem.W.Frag} {tg : Expr} (a it : Addr) : Turn P w K tg (Itl K a) [it] it (λ i h => h.IsListIter it a i) where
 mem := by simp
 obj := λ i h st b hb => by
  have e : b = it := by simpa using hb
  subst e
  obtain ⟨o, e, c, d⟩ := st
  exact ⟨o, e, λ v z => by rw [d] at z; cases z⟩
 keep := λ i h h' st k => st.at λ o e => k it (by simp) o e
 item := by
  intro X hP hw hK hc i pins s σ H E I hf st hg
  subst hP hw hK
  obtain ⟨xs, x, hq, hx⟩ := hg
  obtain ⟨its, rv, p, hz⟩ := I.list hq
  obtain ⟨u, hu, ru⟩ := rv.get hx
  obtain ⟨f0, f1, f2, f3, f4, f5⟩ := hf it (by simp)
  refine wpAny_pyNext_list_item st p.isList (x := u) (by simpa using hu) λ h' st' sb => ?_
  have I1 : Inv X pins σ H { s with heap := h' } := I.turned (t' := s.toks) (λ b o hb e => (sb.2 b hb).trans e) f0 f1 f3 f4 f5
  obtain ⟨o, e, c, d⟩ := id st'
  exact ⟨u, rfl, go_of (s := { s with heap := h' }) e c d (by decide) ⟨x, H, I1, ru, ⟨rfl, λ ys hy => by rw [I.list_inj hy hq]; exact hx⟩, st', λ b hb => (hf b hb).1⟩⟩
 done := by
  intro X hP hw hK hc i pins s σ H E I hf st hg
  subst hP hw hK
  obtain ⟨xs, hq, hx⟩ := hg
  obtain ⟨its, rv, p, hz⟩ := I.list hq
  obtain ⟨f0, f1, f2, f3, f4, f5⟩ := hf it (by simp)
  have hl := rv.length
  exact wpAny_pyNext_list_end (I.ok.hd hc) st p.isList (by simp; omega) λ h' eb => ⟨rfl, I.turned (t' := s.toks) (λ b o hb e => eb b o hb e) f0 f1 f3 f4 f5⟩
 self := λ _ _ _ _ _ st h => wpAny_pyIter_listiter st h
theorem turn_tuple {P : Program} {w : World} {K : PySem.W.Frag} {tg : Expr} (a it : Addr) : Turn P w K tg (Itt K a) [it] it (λ i h => h.IsTupleIter it a i) where
 mem := by simp
 obj := λ i h st b hb => by
  have e : b = it := by simpa using hb
  subst e
  obtain ⟨o, e, c, d⟩ := st
  exact ⟨o, e, λ v z => by rw [d] at z; cases z⟩
 keep := λ i h h' st k => st.at λ o e => k it (by simp) o e
 item := by
  intro X hP hw hK hc i pins s σ H E I hf st hg
  subst hP hw hK
  obtain ⟨xs, x, hq, hx⟩ := hg
  obtain ⟨its, rv, p, hz⟩ := I.tuple hq
  obtain ⟨u, hu, ru⟩ := rv.get hx
  obtain ⟨f0, f1, f2, f3, f4, f5⟩ := hf it (by simp)
  refine wpAny_pyNext_tuple_item st (show s.heap.IsTuple a its.toArray from p) (x := u) (by simpa using hu) λ h' st' sb => ?_
  have I1 : Inv X pins σ H { s with heap := h' } := I.turned (t' := s.toks) (λ b o hb e => (sb.2 b hb).trans e) f0 f1 f3 f4 f5
  obtain ⟨o, e, c, d⟩ := id st'
  exact ⟨u, rfl, go_of (s := { s with heap := h' }) e c d (by decide) ⟨x, H, I1, ru, ⟨rfl, λ ys hy => by rw [I.tuple_inj hy hq]; exact hx⟩, st', λ b hb => (hf b hb).1⟩⟩
 done := by
  intro X hP hw hK hc i pins s σ H E I hf st hg
  subst hP hw hK
  obtain ⟨xs, hq, hx⟩ := hg
  obtain ⟨its, rv, p, hz⟩ := I.tuple hq
  obtain ⟨f0, f1, f2, f3, f4, f5⟩ := hf it (by simp)
  have hl := rv.length
  exact wpAny_pyNext_tuple_end (I.ok.hd hc) st (show s.heap.IsTuple a its.toArray from p) (by simp; omega) λ h' eb => ⟨rfl, I.turned (t' := s.toks) (λ b o hb e => eb b o hb e) f0 f1 f3 f4 f5⟩
 self := λ _ _ _ _ _ st h => wpAny_pyIter_tupleiter st h
theorem turn_range {P : Program} {w : World} {K : PySem.W.Frag} {tg : Expr} (it : Addr) (lo : Int) (n : Nat) : Turn P w K tg (Itr lo n) [it] it (λ i h => IsRangeIter h it (lo + (i : Nat) * 1) ((n : Int) - (i : Nat)) 1) where
 mem := by simp
 obj := λ i h st b hb => by
  have e : b = it := by simpa using hb
  subst e
  exact ⟨_, st, λ v z => by
   have z' : Data.fields _ = Data.cell v := z
   cases z'⟩
 keep := λ i h h' st k => k it (by simp) _ st
 item := by
  intro X hP hw hK hc i pins s σ H E I hf st hg
  subst hP hw hK
  obtain ⟨f0, f1, f2, f3, f4, f5⟩ := hf it (by simp)
  have W := Walks.range (prog := X.prog) (w := X.w) (I.ok.hd hc) it lo 1 n
  refine W.item i s _ _ hg st λ v h' tk hv st' kk => ?_
  obtain ⟨t, rfl⟩ := hv
  have I1 : Inv X pins σ H { s with heap := h', toks := tk } := I.turned (λ b o hb e => kk b o (by simpa using hb) e) f0 f1 f3 f4 f5
  refine ⟨_, rfl, go_of (s := { s with heap := h', toks := tk }) (n := "range_iterator") st' rfl rfl (by decide) ⟨.int (lo + i), H, I1, ⟨t, ?_⟩, ⟨rfl, rfl⟩, st', λ b hb => (hf b hb).1⟩⟩
  rw [Int.mul_one]
 done := by
  intro X hP hw hK hc i pins s σ H E I hf st hg
  subst hP hw hK
  obtain ⟨f0, f1, f2, f3, f4, f5⟩ := hf it (by simp)
  exact wpAny_pyNext_range_end (I.ok.hd hc) st (by have : n ≤ i := hg; omega) λ h' eb => ⟨rfl, I.turned (t' := s.toks) (λ b o hb e => eb b o hb e) f0 f1 f3 f4 f5⟩
 self := λ _ _ _ _ _ st h => wpAny_pyIter_rangeiter st h
end L2
namespace L2
open PySem PySem.Spec PyProof.Rows
section
variable {X : Cx} {tg : Expr}
def iList (K : PySem.W.Frag) (tl : TE) : TI := λ σ H R => tl σ H λ x H1 => ∃ a, x = .ref a ∧ (∃ xs, SqL K H1 a xs) ∧ R (Itl K a) H1
def iTup (K : PySem.W.Frag) (tl : TE) : TI := λ σ H R => tl σ H λ x H1 => ∃ a, x = .ref a ∧ (∃ xs, SqT K H1 a xs) ∧ R (Itt K a) H1
theorem pi_list {l : Expr} {tl : TE} (hl : PE X l tl) : PI X tg l (iList X.K tl) := by
 intro pins s σ H R I h
 refine thn (hl pins s σ H _ I h) λ v s1 ⟨x, H1, I1, r1, q1⟩ => ?_
 obtain ⟨a, e, ⟨xs, hq⟩, q⟩ := q1
 subst e
 cases r1
 obtain ⟨its, rv, p, hz⟩ := I1.list hq
 refine wpAny_pyIter_list p.isList ?_
 refine ⟨s1.heap.objs.size, [s1.heap.objs.size], _, _, H1, rfl, I1.kept (t' := s1.toks) λ b o e => Heap.get?_push_of_some _ e, turn_list a _, ⟨_, Heap.get?_push_size _ rfl, rfl, rfl⟩, λ b hb => ?_, q⟩
 have e : b = s1.heap.objs.size := by simpa using hb
 subst e
 exact I1.fpOk (Nat.le_refl _) (I1.hok.fresh (Nat.le_refl _))
theorem pi_tup {l : Expr} {tl : TE} (hl : PE X l tl) : PI X tg l (iTup X.K tl) := by
 intro pins s σ H R I h
 refine thn (hl pins s σ H _ I h) λ v s1 ⟨x, H1, I1, r1, q1⟩ => ?_
 obtain ⟨a, e, ⟨xs, hq⟩, q⟩ := q1
 subst e
 cases r1
 obtain ⟨its, rv, p, hz⟩ := I1.tuple hq
 refine wpAny_pyIter_tuple (show s1.heap.IsTuple a its.toArray from p) ?_
 refine ⟨s1.heap.objs.size, [s1.heap.objs.size], _, _, H1, rfl, I1.kept (t' := s1.toks) λ b o e => Heap.get?_push_of_some _ e, turn_tuple a _, ⟨_, Heap.get?_push_size _ rfl, rfl, rfl⟩, λ b hb => ?_, q⟩
 have e : b = s1.heap.objs.size := by simpa using hb
 subst e
 exact I1.fpOk (Nat.le_refl _) (I1.hok.fresh (Nat.le_refl _))
theorem range_it {pins : List (Addr × Obj)} {σ : St} {H : Hp} {s : Shared} {R : It → Hp → Prop} {E : Value → Shared → Prop} {lo hi : Int} {t u v : Tok} {tk : Nat} (I : Inv X pins σ H s) (h1 : -(2 ^ 62) ≤ lo) (h2 : lo < 2 ^ 62) (h3 : -(2 ^ 62) ≤ hi) (h4 : hi < 2 ^ 62)
  (q : R (Itr lo (hi - lo).toNat) H) : wpAny (model X.prog X.w) X.A (pyIter (.ref s.heap.objs.size)) (PIE X pins σ tg R) E { s with heap := s.heap.push { cls := .type "range", data := .fields #[.int lo t, .int hi u, .int 1 v] }, toks := tk } := by
 refine wpAny_pyIter_range (IsRange.new ..) (small_one h1 h2 h3 h4) ?_
 have I1 : Inv X pins σ H { s with heap := s.heap.push { cls := .type "range", data := .fields #[.int lo t, .int hi u, .int 1 v] }, toks := tk } := I.kept λ b o e => Heap.get?_push_of_some _ e
 refine ⟨(s.heap.push { cls := .type "range", data := .fields #[.int lo t, .int hi u, .int 1 v] }).objs.size, [(s.heap.push { cls := .type "range", data := .fields #[.int lo t, .int hi u, .int 1 v] }).objs.size], _, _, H, rfl,
  I1.kept (t' := tk) λ b o e => Heap.get?_push_of_some _ e, turn_range _ lo (hi - lo).toNat, ?_, λ b hb => ?_, q⟩
 ·have e1 : lo + ((0 : Nat) : Int) * 1 = lo := by simp
  have e2 : (((hi - lo).toNat : Nat) : Int) - ((0 : Nat) : Int) = Builtin.Range.rangeSize lo hi 1 := by rw [rangeSize_one]; split <;> omega
  show IsRangeIter _ _ (lo + ((0 : Nat) : Int) * 1) ((((hi - lo).toNat : Nat) : Int) - ((0 : Nat) : Int)) 1
  rw [e1, e2]
  exact Heap.get?_push_size _ rfl
 ·have e : b = (s.heap.push { cls := .type "range", data := .fields #[.int lo t, .int hi u, .int 1 v] }).objs.size := by simpa using hb
  subst e
  exact I1.fpOk (Nat.le_refl _) (I1.hok.fresh (Nat.le_refl _))
def iRng1 (ta : TA) : TI := λ σ H R => ta σ H λ vs H1 => ∃ j : Int, vs = [.int j] ∧ -(2 ^ 62) ≤ j ∧ j < 2 ^ 62 ∧ R (Itr 0 j.toNat) H1
def iRng2 (ta : TA) : TI := λ σ H R => ta σ H λ vs H1 => ∃ i j : Int, vs = [.int i, .int j] ∧ (-(2 ^ 62) ≤ i ∧ i < 2 ^ 62 ∧ -(2 ^ 62) ≤ j ∧ j < 2 ^ 62) ∧ R (Itr i (j - i).toNat) H1
theorem pi_range1 {a : Expr} {ta : TA} {p pos : Pos} (hg : Gl X "range") (hm : X.mg "range" = none) (ha : PA X [a] ta) (hs : starEach [a] X.env = [(false, eval a X.env)] := by rfl) : PI X tg (.Call (.Name "range" p) [a] [] pos) (iRng1 ta) := by
 intro pins s σ H R I h
 refine Call_ (ld_blt I hg hm boot_range (PyProof.Rows.callWith_type1 (thn (ha pos pins s σ H _ I h) λ us s1 ⟨vs, H1, I1, r1, q1⟩ => ?_) hs rfl))
 obtain ⟨j, e, q1, q2, q⟩ := q1
 subst e
 cases r1 with
 | cons r rr =>
  cases rr
  obtain ⟨t, rfl⟩ := r
  exact call_range_1 (range_it I1 (by omega) (by omega) q1 q2 (by simpa using q))
theorem pi_range2 {a b : Expr} {ta : TA} {p pos : Pos} (hg : Gl X "range") (hm : X.mg "range" = none) (ha : PA X [a, b] ta) (hs : starEach [a, b] X.env = [(false, eval a X.env), (false, eval b X.env)] := by rfl) (hs2 : starEach [b] X.env = [(false, eval b X.env)] := by rfl) :
  PI X tg (.Call (.Name "range" p) [a, b] [] pos) (iRng2 ta) := by
 intro pins s σ H R I h
 refine Call_ (ld_blt I hg hm boot_range (PyProof.Rows.callWith_type1 (thn (ha pos pins s σ H _ I h) λ us s1 ⟨vs, H1, I1, r1, q1⟩ => ?_) (by rw [hs, hs2]) (by rw [hs2]; rfl)))
 obtain ⟨i, j, e, ⟨q1, q2, q3, q4⟩, q⟩ := q1
 subst e
 cases r1 with
 | cons r rr =>
  cases rr with
  | cons r' rr =>
   cases rr
   obtain ⟨t, rfl⟩ := r
   obtain ⟨t', rfl⟩ := r'
   exact call_range_2 (range_it I1 q1 q2 q3 q4 q)
def tFor (wi : TI) (g : TG) (tb : TS) : TS := λ D σ H => wi σ H λ J H1 => ∃ W : Nat → Nat → St → Hp → Prop, (∃ m, W 0 m σ H1) ∧ ∀ i m σ H, W i m σ H →
 (J.stop i H ∧ D.nx σ H) ∨ (J.go i H ∧ ∃ N : St → Hp → Prop, (∀ σ' H', N σ' H' → ∃ m', m' < m ∧ W (i + 1) m' σ' H') ∧ ∀ x H', J.yld i H x H' → g x σ H' λ σ2 H2 => tb { D with nx := N, ct := N, bk := D.nx } σ2 H2)
def pinsAt (fp : List Addr) (h : Heap) : List (Addr × Obj) := fp.filterMap λ b => (h.get? b).map λ o => (b, o)
theorem mem_pinsAt {fp : List Addr} {h : Heap} {b : Addr} {o : Obj} (hb : b ∈ fp) (e : h.get? b = some o) : (b, o) ∈ pinsAt fp h := List.mem_filterMap.mpr ⟨b, hb, by rw [e]; rfl⟩
theorem of_pinsAt {fp : List Addr} {h : Heap} {p : Addr × Obj} (hp : p ∈ pinsAt fp h) : p.1 ∈ fp ∧ h.get? p.1 = some p.2 := by
 obtain ⟨b, hb, e⟩ := List.mem_filterMap.mp hp
 cases q : h.get? b with
 | none => rw [q] at e; cases e
 | some o =>
  rw [q] at e
  have e' : (b, o) = p := Option.some.inj e
  subst e'
  exact ⟨hb, q⟩
theorem Inv.pinned (hsgA : ∀ p σ, X.sg p σ) {pins : List (Addr × Obj)} {σ : St} {H : Hp} {s : Shared} {fp : List Addr} (I : Inv X pins σ H s) (hf : ∀ b ∈ fp, FpOk X pins H b) (ho : ∀ b ∈ fp, ∃ o, s.heap.get? b = some o ∧ ∀ v, o.data ≠ .cell v) : Inv X (pins ++ pinsAt fp s.heap) σ H s :=
 I.pins_of (hsg := hsgA _ _) λ p hp => (List.mem_append.mp hp).elim (λ z => I.pin p (List.mem_append_right _ z)) λ z => by
  obtain ⟨hb, e⟩ := of_pinsAt z
  obtain ⟨f0, f1, f2, _⟩ := hf p.1 hb
  obtain ⟨o, e', d⟩ := ho p.1 hb
  rw [e] at e'; cases e'
  exact ⟨e, f0, f1, f2, d⟩
theorem Inv.unpinned (hsgA : ∀ p σ, X.sg p σ) {pins pl : List (Addr × Obj)} {σ : St} {H : Hp} {s : Shared} (I : Inv X (pins ++ pl) σ H s) : Inv X pins σ H s := I.pins_of (hsg := hsgA _ _) λ p hp => I.pin p (List.mem_append_right _ (List.mem_append_left _ hp))
theorem ps_for (hsgA : ∀ p σ, X.sg p σ) {iter : Expr} {body : List Stmt} {wi : TI} {g : TG} {tb : TS} {pos : Pos} (hp : PassesOwn (model X.prog X.w) X.A X.env X.xe) (hc : X.calm = true) (hi : PI X tg iter wi) (hg : PG X tg g) (hb : PSs X body tb)
  (hs : ∀ x, foldedSetIterable iter X.env x = pure x := by intro _; rfl) : PS X (.For tg iter body [] pos) (tFor wi g tb) := by
 intro pins s σ H D I h
 refine wpAny_For (thn (hi pins s σ H _ I h) λ v s1 h1 => thn h1 λ itv s2 h2 => ?_) hs
 obtain ⟨it, fp, tn, J, H2, e, I2, T, st2, f2, W, ⟨m0, w0⟩, turn⟩ := h2
 subst e
 have stat : ∀ {H' : Hp}, (∀ b ∈ fp, H' b = none) → ∀ b ∈ fp, FpOk X pins H' b := λ hn b hb => ⟨hn b hb, (f2 b hb).2⟩
 refine codeAny_forLoop_any (λ n s' => ∃ i σ' H', Inv X pins σ' H' s' ∧ tn i s'.heap ∧ (∀ b ∈ fp, H' b = none) ∧ W i n σ' H') ?_ m0 ⟨0, σ, H2, I2, st2, λ b hb => (f2 b hb).1, w0⟩
 rintro n s3 ⟨i, σ3, H3, I3, st3, fr3, w3⟩
 rcases turn i n σ3 H3 w3 with ⟨stop, qn⟩ | ⟨go, N, hN, step⟩
 ·refine wpAny_passesOwn hp (thn (T.done X rfl rfl rfl hc i pins s3 σ3 H3 X.xe I3 (stat fr3) st3 stop) λ r s4 ⟨hr, I4⟩ => ?_)
  subst hr
  exact wpAny_execs_nil ⟨σ3, H3, I4, qn⟩
 ·refine wpAny_passesOwn hp (thn (T.item X rfl rfl rfl hc i pins s3 σ3 H3 X.xe I3 (stat fr3) st3 go) λ r s4 ⟨u, hr, h4⟩ => ?_)
  subst hr
  refine wpAny_passesOwn hp (thn h4 λ _ s5 ⟨x, H5, I5, r5, y5, st5, fr5⟩ => ?_)
  have I5' := Inv.pinned hsgA I5 (stat fr5) (T.obj _ _ st5)
  refine wpAny_passesOwn hp (thn (hg _ s5 σ3 H5 x u _ I5' r5 (step x H5 y5)) λ _ s6 ⟨σ6, H6, I6, q6⟩ => ?_)
  refine wpAny_passesOwn hp (thn (hb _ s6 σ6 H6 _ I6 q6) λ f s7 q7 => ?_)
  have again : ∀ {σ7 : St} {H7 : Hp}, Inv X (pins ++ pinsAt fp s5.heap) σ7 H7 s7 → N σ7 H7 → ∃ m, m < n ∧ ∃ i σ' H', Inv X pins σ' H' s7 ∧ tn i s7.heap ∧ (∀ b ∈ fp, H' b = none) ∧ W i m σ' H' := λ {σ7 H7} I7 n7 => by
   obtain ⟨m', hm, w7⟩ := hN σ7 H7 n7
   refine ⟨m', hm, i + 1, σ7, H7, (Inv.unpinned hsgA I7), T.keep _ _ _ st5 λ b hb o e => (I7.pin (b, o) (List.mem_append_right _ (List.mem_append_right _ (mem_pinsAt hb e)))).1, λ b hb => ?_, w7⟩
   obtain ⟨o, e, d⟩ := T.obj _ _ st5 b hb
   exact (I7.pin (b, o) (List.mem_append_right _ (List.mem_append_right _ (mem_pinsAt hb e)))).2.1
  cases f with
  | next => obtain ⟨σ7, H7, I7, n7⟩ := q7; exact again I7 n7
  | cont => obtain ⟨σ7, H7, I7, n7⟩ := q7; exact again I7 n7
  | brk => obtain ⟨σ7, H7, I7, q7⟩ := q7; exact ⟨σ7, H7, (Inv.unpinned hsgA I7), q7⟩
  | ret v => obtain ⟨x7, σ7, H7, I7, r7, q7⟩ := q7; exact ⟨x7, σ7, H7, (Inv.unpinned hsgA I7), r7, q7⟩
end
theorem for_list {K : PySem.W.Frag} {a : Addr} {xs : List V} {g : TG} {tb : TS} {D : Ends} {σ : St} {H : Hp} (Pv : Nat → St → Hp → Prop) (h0 : Pv 0 σ H) (hl : ∀ i σ H, i ≤ xs.length → Pv i σ H → SqL K H a xs)
  (hs : ∀ i x σ H, xs[i]? = some x → Pv i σ H → g x σ H λ σ2 H2 => tb { D with nx := Pv (i + 1), ct := Pv (i + 1), bk := D.nx } σ2 H2) (hd : ∀ σ H, Pv xs.length σ H → D.nx σ H) :
  ∃ W : Nat → Nat → St → Hp → Prop, (∃ m, W 0 m σ H) ∧ ∀ i m σ H, W i m σ H →
   ((Itl K a).stop i H ∧ D.nx σ H) ∨ ((Itl K a).go i H ∧ ∃ N : St → Hp → Prop, (∀ σ' H', N σ' H' → ∃ m', m' < m ∧ W (i + 1) m' σ' H') ∧ ∀ x H', (Itl K a).yld i H x H' → g x σ H' λ σ2 H2 => tb { D with nx := N, ct := N, bk := D.nx } σ2 H2) := by
 refine ⟨λ i m σ H => m = xs.length - i ∧ i ≤ xs.length ∧ Pv i σ H, ⟨xs.length, by simp, Nat.zero_le _, h0⟩, ?_⟩
 rintro i m σ H ⟨rfl, hi, p⟩
 have q := hl i σ H hi p
 by_cases hlt : i < xs.length
 ·refine .inr ⟨⟨xs, xs[i], q, by simp [hlt]⟩, Pv (i + 1), λ σ' H' p' => ⟨xs.length - (i + 1), by omega, rfl, hlt, p'⟩, λ x H' y => ?_⟩
  obtain ⟨e, y⟩ := y
  subst e
  exact hs i x σ _ (y xs q) p
 ·have e : i = xs.length := by omega
  subst e
  exact .inl ⟨⟨xs, q, Nat.le_refl _⟩, hd σ H p⟩
end L2
namespace L2
open PySem PySem.Spec PyProof.Rows
abbrev R2 := V → V → Hp → VK → Prop
def OpR (X : Cx) (f : Value → Value → Sem Value) (r : R2) : Prop :=
 ∀ (pins : List (Addr × Obj)) (s : Shared) (σ : St) (H : Hp) (x y : V) (v u : Value) (Q : VK), Inv X pins σ H s → RelV x v → RelV y u → r x y H Q →
  wpAny (model X.prog X.w) X.A (f v u) (EP X pins σ Q) X.xe s
def UnR (X : Cx) (f : Value → Sem Value) (r : V → Hp → VK → Prop) : Prop :=
 ∀ (pins : List (Addr × Obj)) (s : Shared) (σ : St) (H : Hp) (x : V) (v : Value) (Q : VK), Inv X pins σ H s → RelV x v → r x H Q →
  wpAny (model X.prog X.w) X.A (f v) (EP X pins σ Q) X.xe s
def CallR (X : Cx) (f : Value) (r : List V → Hp → VK → Prop) : Prop :=
 ∀ (pins : List (Addr × Obj)) (s : Shared) (σ : St) (H : Hp) (xs : List V) (us : List Value) (Q : VK), Inv X pins σ H s → Vals xs us → r xs H Q →
  wpAny (model X.prog X.w) X.A (call f us) (EP X pins σ Q) X.xe s
def TruR (X : Cx) (r : V → Hp → (Bool → Hp → Prop) → Prop) : Prop :=
 ∀ (pins : List (Addr × Obj)) (s : Shared) (σ : St) (H : Hp) (x : V) (v : Value) (Q : Bool → Hp → Prop), Inv X pins σ H s → RelV x v → r x H Q →
  wpAny (model X.prog X.w) X.A (truthy v) (TP X pins σ Q) X.xe s
def tOp (r : R2) (ta tb : TE) : TE := λ σ H Q => ta σ H λ x H1 => tb σ H1 λ y H2 => r x y H2 Q
def tUn (r : V → Hp → VK → Prop) (ta : TE) : TE := λ σ H Q => ta σ H λ x H1 => r x H1 Q
def rI (C : Int → Int → Prop) (g : Int → Int → V) : R2 := λ x y H Q => ∃ i j, x = .int i ∧ y = .int j ∧ C i j ∧ Q (g i j) H
def rI0 (g : Int → Int → V) : R2 := λ x y H Q => ∃ i j, x = .int i ∧ y = .int j ∧ Q (g i j) H
def rU (g : Int → V) : V → Hp → VK → Prop := λ x H Q => ∃ i, x = .int i ∧ Q (g i) H
section
variable {X : Cx} {a b c : Expr} {ta tb tc : TE} {pos : Pos}
theorem binT (ha : PE X a ta) (hb : PE X b tb) {pins : List (Addr × Obj)} {s : Shared} {σ : St} {H : Hp} {R : V → V → Hp → Prop} (I : Inv X pins σ H s)
  (h : ta σ H λ x H1 => tb σ H1 λ y H2 => R x y H2) {Q : Value → Shared → Prop} {f : Value → Value → Sem Value}
  (hf : ∀ v u s2 x y H2, Inv X pins σ H2 s2 → RelV x v → RelV y u → R x y H2 → wpAny (model X.prog X.w) X.A (f v u) Q X.xe s2) :
  wpAny (model X.prog X.w) X.A (eval a X.env) (λ v s₁ => wpAny (model X.prog X.w) X.A (eval b X.env) (λ u s₂ => wpAny (model X.prog X.w) X.A (f v u) Q X.xe s₂) X.xe s₁) X.xe s := by
 refine thn (ha pins s σ H _ I h) λ v s1 ⟨x, H1, I1, r1, q1⟩ => ?_
 refine thn (hb pins s1 σ H1 _ I1 q1) λ u s2 ⟨y, H2, I2, r2, q2⟩ => ?_
 exact hf v u s2 x y H2 I2 r1 r2 q2
theorem pe_op {op : Operator} {r : R2} (ho : OpR X (binaryOp op) r) (ha : PE X a ta) (hb : PE X b tb) : PE X (.BinOp a op b pos) (tOp r ta tb) := by
 intro pins s σ H Q I h
 exact wpAny_BinOp (binT ha hb I h λ v u s2 x y H2 I2 rx ry q => ho pins s2 σ H2 x y v u Q I2 rx ry q)
theorem pe_un {op : UnaryOp} {r : V → Hp → VK → Prop} (ho : UnR X (unaryOp op) r) (ha : PE X a ta) : PE X (.UnaryOp op a pos) (tUn r ta) := by
 intro pins s σ H Q I h
 exact UnaryOp_ (thn (ha pins s σ H _ I h) λ v s1 ⟨x, H1, I1, r1, q1⟩ => ho pins s1 σ H1 x v Q I1 r1 q1)
theorem opI {f : Value → Value → Sem Value} {C : Int → Int → Prop} {g : Int → Int → Int}
  (rule : ∀ (i j : Int) (t u : Tok) (s : Shared) (Q : Value → Shared → Prop) (E : Value → Shared → Prop), C i j → Q (.int (g i j) s.toks) { s with toks := s.toks + 1 } → wpAny (model X.prog X.w) X.A (f (.int i t) (.int j u)) Q E s) :
  OpR X f (rI C λ i j => .int (g i j)) := by
 intro pins s σ H x y v u Q I rx ry h
 obtain ⟨i, j, rfl, rfl, hc, q⟩ := h
 obtain ⟨t, rfl⟩ := rx
 obtain ⟨t', rfl⟩ := ry
 exact rule i j t t' s _ _ hc ⟨.int (g i j), H, I.tok _, ⟨_, rfl⟩, q⟩
theorem opI0 {f : Value → Value → Sem Value} {g : Int → Int → Int}
  (rule : ∀ (i j : Int) (t u : Tok) (s : Shared) (Q : Value → Shared → Prop) (E : Value → Shared → Prop), Q (.int (g i j) s.toks) { s with toks := s.toks + 1 } → wpAny (model X.prog X.w) X.A (f (.int i t) (.int j u)) Q E s) :
  OpR X f (rI0 λ i j => .int (g i j)) := by
 intro pins s σ H x y v u Q I rx ry h
 obtain ⟨i, j, rfl, rfl, q⟩ := h
 obtain ⟨t, rfl⟩ := rx
 obtain ⟨t', rfl⟩ := ry
 exact rule i j t t' s _ _ ⟨.int (g i j), H, I.tok _, ⟨_, rfl⟩, q⟩
theorem opB0 {f : Value → Value → Sem Value} {g : Int → Int → Bool}
  (rule : ∀ (i j : Int) (t u : Tok) (s : Shared) (Q : Value → Shared → Prop) (E : Value → Shared → Prop), Q (.bool (g i j)) s → wpAny (model X.prog X.w) X.A (f (.int i t) (.int j u)) Q E s) :
  OpR X f (rI0 λ i j => .bl (g i j)) := by
 intro pins s σ H x y v u Q I rx ry h
 obtain ⟨i, j, rfl, rfl, q⟩ := h
 obtain ⟨t, rfl⟩ := rx
 obtain ⟨t', rfl⟩ := ry
 exact rule i j t t' s _ _ ⟨.bl (g i j), H, I, rfl, q⟩
def CDiv (i j : Int) : Prop := 0 < j ∧ j < 1073741824
def CMul (i j : Int) : Prop := (-(2 ^ 64) < i ∧ i < 2 ^ 64) ∨ (-(2 ^ 64) < j ∧ j < 2 ^ 64)
theorem CMul.ok {i j : Int} (h : CMul i j) : IntMulOk i j := by
 rcases h with ⟨h1, h2⟩ | ⟨h1, h2⟩
 ·exact .of_left (intBits_le_64 h1 h2)
 ·exact .of_right (intBits_le_64 h1 h2)
theorem op_add : OpR X (binaryOp .Add) (rI0 λ i j => .int (i + j)) := opI0 λ _ _ _ _ _ _ _ q => add_int q
theorem op_sub : OpR X (binaryOp .Sub) (rI0 λ i j => .int (i - j)) := opI0 λ _ _ _ _ _ _ _ q => sub_int q
theorem op_mul : OpR X (binaryOp .Mult) (rI CMul λ i j => .int (i * j)) := opI λ _ _ _ _ _ _ _ hc q => mul_int q hc.ok
theorem op_fdiv : OpR X (binaryOp .FloorDiv) (rI CDiv λ i j => .int (i / j)) := opI λ i j _ _ _ _ _ hc q => by
 have h1 : (0 : Int) < j := hc.1
 have h2 : j < 1073741824 := hc.2
 exact floordiv_int (by omega) (by rw [Int.fdiv_eq_ediv_of_nonneg i (by omega)]; exact q) (.inl (PyProof.noPylong_small (by omega)))
theorem op_mod : OpR X (binaryOp .Mod) (rI (λ _ j => 0 < j) λ i j => .int (i % j)) := opI λ i j _ _ _ _ _ hc q => by
 have h1 : (0 : Int) < j := hc
 exact mod_int' (by omega) (by rw [Int.fmod_eq_emod_of_nonneg i (by omega)]; exact q)
theorem unI {f : Value → Sem Value} {g : Int → Int}
  (rule : ∀ (i : Int) (t : Tok) (s : Shared) (Q : Value → Shared → Prop) (E : Value → Shared → Prop), Q (.int (g i) s.toks) { s with toks := s.toks + 1 } → wpAny (model X.prog X.w) X.A (f (.int i t)) Q E s) :
  UnR X f (rU λ i => .int (g i)) := by
 intro pins s σ H x v Q I rx h
 obtain ⟨i, rfl, q⟩ := h
 obtain ⟨t, rfl⟩ := rx
 exact rule i t s _ _ ⟨.int (g i), H, I.tok _, ⟨_, rfl⟩, q⟩
theorem un_neg : UnR X (unaryOp .USub) (rU λ i => .int (-i)) := unI λ _ _ _ _ _ q => neg_int q
end
section
variable {X : Cx} {a b c : Expr} {ta tb tc : TE} {pos : Pos}
theorem op_lt : OpR X (compareOp .Lt) (rI0 λ i j => .bl (decide (i < j))) := opB0 λ _ _ _ _ _ _ _ q => lt_int q
theorem op_le : OpR X (compareOp .LtE) (rI0 λ i j => .bl (decide (i ≤ j))) := opB0 λ _ _ _ _ _ _ _ q => le_int q
theorem op_gt : OpR X (compareOp .Gt) (rI0 λ i j => .bl (decide (j < i))) := opB0 λ _ _ _ _ _ _ _ q => gt_int q
theorem op_ge : OpR X (compareOp .GtE) (rI0 λ i j => .bl (decide (j ≤ i))) := opB0 λ _ _ _ _ _ _ _ q => ge_int q
theorem OpR.or {f : Value → Value → Sem Value} {r r' : R2} (h : OpR X f r) (h' : OpR X f r') : OpR X f (λ x y H Q => r x y H Q ∨ r' x y H Q) := by
 intro pins s σ H x y v u Q I rx ry q
 rcases q with q | q
 ·exact h pins s σ H x y v u Q I rx ry q
 ·exact h' pins s σ H x y v u Q I rx ry q
theorem nomark (b : Expr) {op : CmpOp} (h : op ≠ .In := by decide) (h2 : op ≠ .NotIn := by decide) : behindInMarks op b = false := by
 have e1 : (op == CmpOp.In) = false := by cases op <;> first | rfl | exact absurd rfl h
 have e2 : (op == CmpOp.NotIn) = false := by cases op <;> first | rfl | exact absurd rfl h2
 cases b <;> simp [behindInMarks, e1, e2]
theorem pe_cmpR {op : CmpOp} {r : R2} (ho : OpR X (compareOp op) r) (ha : PE X a ta) (hb : PE X b tb) (hm : behindInMarks op b = false) : PE X (.Compare a [op] [b] pos) (tOp r ta tb) := by
 intro pins s σ H Q I h
 exact wpAny_Compare1 (binT ha hb I h λ v u s2 x y H2 I2 rx ry q => ho pins s2 σ H2 x y v u Q I2 rx ry q) hm
def tTest (t : TE) : TT := λ σ H Q => t σ H λ x H' => ∃ k, x = .bl k ∧ Q k H'
theorem pt_cmpR {op : CmpOp} {r : R2} (ho : OpR X (compareOp op) r) (ha : PE X a ta) (hb : PE X b tb) (hm : behindInMarks op b = false) : PT X (.Compare a [op] [b] pos) (tTest (tOp r ta tb)) := by
 intro pins s σ H Q I h
 refine wpAny_isTrue_Compare1 (thn (ha pins s σ H _ I h) λ v s1 ⟨x, H1, I1, r1, q1⟩ => thn (hb pins s1 σ H1 _ I1 q1) λ u s2 ⟨y, H2, I2, r2, q2⟩ =>
  thn (ho pins s2 σ H2 x y v u _ I2 r1 r2 q2) λ c s3 ⟨z, H3, I3, r3, k, e, q3⟩ => ?_) hm
 subst e
 cases r3
 exact wpAny_truthy_bool ⟨H3, I3, q3⟩
def TruV (K : PySem.W.Frag) (x : V) (H : Hp) (k : Bool) : Prop :=
 match x with
 | .non => k = false
 | .bl b => k = b
 | .int i => k = (i != 0)
 | .str y => y.length ≤ sizeLine ∧ k = ((y.length : Int) != 0)
 | .byt y => y.size ≤ sizeLine ∧ k = ((y.size : Int) != 0)
 | .ref p => (∃ xs, SqL K H p xs ∧ k = !xs.isEmpty) ∨ (∃ xs, SqT K H p xs ∧ k = !xs.isEmpty) ∨ ∃ kvs, H p = some (.dK kvs) ∧ k = !kvs.isEmpty
 | _ => False
theorem isEmpty_kv {κ : Type} {kvs : List (κ × V)} {vs : List (κ × Value)} (r : KV kvs vs) : (!vs.isEmpty) = !kvs.isEmpty := by
 cases r <;> rfl
theorem isEmpty_of {xs : List V} {its : List Value} (r : Vals xs its) : (!its.toArray.isEmpty) = !xs.isEmpty := by
 cases r <;> simp
theorem line63 : (sizeLine : Nat) < 2 ^ 63 := by rw [sizeLine_eq]; decide
theorem tru_ok : TruR X (λ x H Q => ∃ k, TruV X.K x H k ∧ Q k H) := by
 intro pins s σ H x v Q I rx h
 obtain ⟨k, e, q⟩ := h
 have hl := line63
 have hs : sizeLine = 16777216 := sizeLine_eq
 cases x with
 | non =>
  cases rx
  have e' : k = false := e
  subst e'
  exact truthy_none ⟨H, I, q⟩
 | bl b =>
  cases rx
  have e' : k = b := e
  subst e'
  exact wpAny_truthy_bool ⟨H, I, q⟩
 | int i =>
  obtain ⟨t, rfl⟩ := rx
  have e' : k = (i != 0) := e
  subst e'
  exact PySem.P.truthy_int ⟨H, I, q⟩
 | str y =>
  obtain ⟨t, rfl⟩ := rx
  obtain ⟨hy, e'⟩ : y.length ≤ sizeLine ∧ k = ((y.length : Int) != 0) := e
  subst e'
  exact PySem.P.truthy_str (by omega) ⟨H, I.tok _, q⟩
 | byt y =>
  obtain ⟨t, rfl⟩ := rx
  obtain ⟨hy, e'⟩ : y.size ≤ sizeLine ∧ k = ((y.size : Int) != 0) := e
  subst e'
  exact PySem.W.truthy_bytes (by omega) ⟨H, I.tok _, q⟩
 | ref p =>
  cases rx
  have e' : (∃ xs, SqL X.K H p xs ∧ k = !xs.isEmpty) ∨ (∃ xs, SqT X.K H p xs ∧ k = !xs.isEmpty) ∨ ∃ kvs, H p = some (.dK kvs) ∧ k = !kvs.isEmpty := e
  rcases e' with ⟨xs, hx, e'⟩ | ⟨xs, hx, e'⟩ | ⟨kvs, hx, e'⟩
  ·subst e'
   obtain ⟨its, r, pl, hz⟩ := I.list hx
   have hlen := r.length
   exact wpAny_truthy_list pl.isList (by simp only [List.size_toArray]; omega) ⟨H, I.tok _, by rw [isEmpty_of r]; exact q⟩
  ·subst e'
   obtain ⟨its, r, pl, hz⟩ := I.tuple hx
   have hlen := r.length
   exact truthy_tuple pl (by simp only [List.size_toArray]; omega) ⟨H, I.tok _, by rw [isEmpty_of r]; exact q⟩
  ·subst e'
   obtain ⟨hz, hS, vs, r, m⟩ : kvs.length ≤ sizeLine ∧ (p == sysModules) = false ∧ ∃ vs, KV kvs vs ∧ s.heap.DictOf (mixKind X.prog X.w) p vs := I.hok p _ hx
   have hlen : kvs.length = vs.length := Paired.length r
   exact wpAny_truthy_dict hS m (by omega) ⟨H, I.tok _, by rw [isEmpty_kv r]; exact q⟩
 | _ => exact (show False from e).elim
theorem pt_truth (ha : PE X a ta) (he : ∀ whole, isTrue a X.env whole = (do let v ← whole; standAt a.pos; holding [v] (truthy v))) :
  PT X a (λ σ H Q => ta σ H λ x H' => ∃ k, TruV X.K x H' k ∧ Q k H') := by
 intro pins s σ H Q I h
 exact isTrue_plain (thn (ha pins s σ H _ I h) λ v s1 ⟨x, H1, I1, r1, q1⟩ => tru_ok pins s1 σ H1 x v Q I1 r1 q1) (he _)
theorem op_add_str : OpR X (binaryOp .Add) (λ x y H Q => ∃ i j, x = .str i ∧ y = .str j ∧ i.length + j.length ≤ sizeLine ∧ Q (.str (i ++ j)) H) := by
 intro pins s σ H x y v u Q I rx ry h
 obtain ⟨i, j, rfl, rfl, hz, q⟩ := h
 obtain ⟨t, rfl⟩ := rx
 obtain ⟨t', rfl⟩ := ry
 exact add_str (λ t' tk => ⟨.str (i ++ j), H, I.tok _, ⟨_, rfl⟩, q⟩) hz
theorem vals1 {x : V} {us : List Value} (r : Vals [x] us) : ∃ u, us = [u] ∧ RelV x u := by
 cases r with
 | cons r1 r2 => cases r2; exact ⟨_, rfl, r1⟩
theorem vals2 {x y : V} {us : List Value} (r : Vals [x, y] us) : ∃ u w', us = [u, w'] ∧ RelV x u ∧ RelV y w' := by
 cases r with
 | cons r1 r2 =>
  cases r2 with
  | cons r3 r4 => cases r4; exact ⟨_, _, rfl, r1, r3⟩
theorem call_max2 (hc : X.calm = true) : CallR X (.builtin "max") (λ xs H Q => ∃ i j, xs = [.int i, .int j] ∧ Q (.int (if j > i then j else i)) H) := by
 intro pins s σ H xs us Q I r h
 obtain ⟨i, j, rfl, q⟩ := h
 obtain ⟨u, w', rfl, ⟨t, rfl⟩, ⟨t', rfl⟩⟩ := vals2 r
 refine max_two_ints (I.ok.hd hc) λ h' tk k => ⟨_, H, I.kept k, ?_, q⟩
 by_cases hj : j > i
 ·rw [if_pos hj, if_pos hj]; exact ⟨_, rfl⟩
 ·rw [if_neg hj, if_neg hj]; exact ⟨_, rfl⟩
theorem call_min2 (hc : X.calm = true) : CallR X (.builtin "min") (λ xs H Q => ∃ i j, xs = [.int i, .int j] ∧ Q (.int (if j < i then j else i)) H) := by
 intro pins s σ H xs us Q I r h
 obtain ⟨i, j, rfl, q⟩ := h
 obtain ⟨u, w', rfl, ⟨t, rfl⟩, ⟨t', rfl⟩⟩ := vals2 r
 refine min_two_ints (I.ok.hd hc) λ h' tk k => ⟨_, H, I.kept k, ?_, q⟩
 by_cases hj : j < i
 ·rw [if_pos hj, if_pos hj]; exact ⟨_, rfl⟩
 ·rw [if_neg hj, if_neg hj]; exact ⟨_, rfl⟩
theorem call_int1 : CallR X (.type "int") (λ xs H Q => (∃ i, xs = [.int i] ∧ Q (.int i) H) ∨ ∃ k, xs = [.bl k] ∧ Q (.int (if k then 1 else 0)) H) := by
 intro pins s σ H xs us Q I r h
 rcases h with ⟨i, rfl, q⟩ | ⟨k, rfl, q⟩
 ·obtain ⟨u, rfl, t, rfl⟩ := vals1 r
  exact call_int_int ⟨.int i, H, I, ⟨_, rfl⟩, q⟩
 ·obtain ⟨u, rfl, r1⟩ := vals1 r
  cases r1
  exact call_int_bool ⟨.int (if k then 1 else 0), H, I.tok _, ⟨_, rfl⟩, q⟩
end
end L2
namespace L2
open PySem PySem.Spec PyProof.Rows
structure ObjM (h : Heap) (x dx C : Addr) (mA : Str → Option Value) : Prop where
 obj : h.get? x = some (PySem.W.instObj C dx)
 ns : h.Ns1 dx mA
 ne : dx ≠ x
theorem lookIn_ns {h : Heap} {dx : Addr} {mA : Str → Option Value} (n : h.Ns1 dx mA) : ∃ od, h.get? dx = some od ∧ ∀ name, PySem.W.lookIn name od = some (mA name) := by
 obtain ⟨o, es, ep, ho, hd, hk, _, hm⟩ := n
 refine ⟨o, ho, λ name => ?_⟩
 have e := hm name
 unfold nsFind findBy at e
 rw [← Array.find?_toList] at e
 unfold PySem.W.lookIn
 rw [hd]
 dsimp only
 split
 ·rename_i y q
  rw [q] at e
  exact congrArg some e
 ·rename_i q
  rw [q] at e
  have a : es.toList.any (·.refKey) = false := by
   rw [List.any_eq_false]
   intro y hy
   obtain ⟨z, t, hkey⟩ := hk y (Array.mem_toList_iff.mp hy)
   simp [DictEntry.refKey, hkey]
  have a' : ¬ es.toList.any (·.refKey) = true := by rw [a]; exact Bool.false_ne_true
  rw [if_neg a']
  exact congrArg some e
theorem ObjM.look {h : Heap} {x dx C : Addr} {mA : Str → Option Value} (I : ObjM h x dx C mA) : ∃ od, PySem.W.InstAt h x (PySem.W.instObj C dx) C (some od) ∧ ∀ name, PySem.W.lookIn name od = some (mA name) :=
 let ⟨od, ho, hl⟩ := lookIn_ns I.ns
 ⟨od, ⟨I.obj, rfl, rfl, ho⟩, hl⟩
section
variable {prog : Program} {w : World} {A : Around} {E : Value → Shared → Prop} {s : Shared} {K : PySem.W.Frag} {x dx C f : Addr} {mA : Str → Option Value} {name : Str} {v : Value}
end
section
variable {P : Program} {w : World} {H H' : Hp} {h h' : Heap} {a C dx : Addr} {fs fs' : List (Str × V)}
end
structure Cls (K : PySem.W.Frag) (C : Addr) : Prop where
 pg : PySem.W.plainGet K C Str.empty = true
 hd : PySem.W.hasDictIn K C = true
 po : PySem.W.plainOver K C = true
 sa : PySem.W.findIn K (.ref C) "__setattr__" = some (some (.builtin "object.__setattr__"))
theorem Cls.get {K : PySem.W.Frag} {C : Addr} (c : Cls K C) (f : Str) : PySem.W.plainGet K C f = true := c.pg
def NoAttr (K : PySem.W.Frag) (C : Addr) (f : Str) : Prop := PySem.W.findIn K (.ref C) f = some none
structure Meth (K : PySem.W.Frag) (C : Addr) (m : Str) (f : Addr) : Prop where
 at_ : PySem.W.findIn K (.ref C) m = some (some (.ref f))
 fn : PySem.W.isFn K (.ref f) = true
 kp : PySem.W.keepIn K (.ref f) = true
section
variable {X : Cx} {pins : List (Addr × Obj)} {σ : St} {H : Hp} {s : Shared} {a C dx : Addr} {fs : List (Str × V)} {f : Str} {v : V} {A : Around} {E : Value → Shared → Prop}
theorem Inv.made (I : Inv X pins σ H s) : Inv X pins σ (upd (upd H s.heap.objs.size (.own (s.heap.objs.size + 1))) (s.heap.objs.size + 1) (.ins C s.heap.objs.size []))
  { s with heap := (s.heap.push PySem.W.emptyDict).push (PySem.W.instObj C s.heap.objs.size) } := by
 have e1 : (s.heap.push PySem.W.emptyDict).get? s.heap.objs.size = some PySem.W.emptyDict := Heap.get?_push_size s.heap rfl
 have e2 : ((s.heap.push PySem.W.emptyDict).push (PySem.W.instObj C s.heap.objs.size)).get? (s.heap.objs.size + 1) = some (PySem.W.instObj C s.heap.objs.size) := by
  have := Heap.get?_push_size (s.heap.push PySem.W.emptyDict) (o := PySem.W.instObj C s.heap.objs.size) rfl
  rwa [Heap.size_push] at this
 have e3 : (s.heap.push PySem.W.emptyDict).Ns s.heap.objs.size (λ _ => none) := ⟨PySem.W.emptyDict, #[], _, e1, rfl, (λ e he => absurd he (by simp)), λ _ => rfl⟩
 have I1 := I.laid (a := s.heap.objs.size) (o := .own (s.heap.objs.size + 1)) (h' := s.heap.push PySem.W.emptyDict) (t' := s.toks) (λ b u q => Heap.get?_push_of_some _ q) (Nat.le_refl _) ⟨_, e1⟩
 refine I1.laid (a := s.heap.objs.size + 1) (o := .ins C s.heap.objs.size []) (t' := s.toks) (λ b u q => Heap.get?_push_of_some _ q) (Nat.le_of_eq (Heap.size_push _ _)) ?_
 have ne : s.heap.objs.size ≠ s.heap.objs.size + 1 := Nat.ne_of_lt (Nat.lt_succ_self _)
 refine ⟨by rw [upd_ne ne, upd_same], Nat.zero_le _, ne, e2, λ _ => none, (Heap.Ns1.of_empty e3).at λ o q => Heap.get?_push_of_some _ q, λ _ => True.intro, λ y hy => absurd rfl hy⟩
end
section
variable {X : Cx} {o e value : Expr} {f : Str} {pos pos' tpos : Pos} {ta tv : TE}
end
section
variable {X : Cx} {pins : List (Addr × Obj)} {σ : St} {H : Hp} {s : Shared} {A : Around} {E : Value → Shared → Prop} {Q : Value → Shared → Prop} {c : Value} {b : Bool}
end
end L2
namespace L2
open PySem PySem.Spec PyProof.Rows
structure Room (k : Nat) (A : Around) : Prop where
 hd : A.handled = none
 dp : A.depth + 3 * k + 5 < recursionLimit
 un : A.units + 16 * k + 200 < cLine
theorem Room.mono {j k : Nat} {A : Around} (r : Room k A) (h : j ≤ k) : Room j A := ⟨r.hd, by have := r.dp; omega, by have := r.un; omega⟩
theorem Room.deeper {k : Nat} {A : Around} (r : Room (k + 1) A) (env : Env) : Room k (A.deeper env) :=
 ⟨r.hd, by have := r.dp; show A.depth + 1 + 3 * k + 5 < _; omega, by have := r.un; show A.units + 3 + 16 * k + 200 < _; omega⟩
theorem Room.in1 {k : Nat} {A : Around} (r : Room (k + 1) A) : Room k A.in1 :=
 ⟨r.hd, by have := r.dp; show A.depth + 3 * k + 5 < _; omega, by have := r.un; show A.units + 1 + 16 * k + 200 < _; omega⟩
theorem Room.depth {k : Nat} {A : Around} (r : Room k A) : A.depth < recursionLimit := by have := r.dp; omega
theorem Room.units {k : Nat} {A : Around} (r : Room k A) : A.units + 64 < cLine := by have := r.un; omega
def tNil : TA := λ _ H Q => Q [] H
def tCons (ta : TE) (tr : TA) : TA := λ σ H Q => ta σ H λ x H1 => tr σ H1 λ xs H2 => Q (x :: xs) H2
section
variable {X : Cx} {e : Expr} {es : List Expr} {te : TE} {t : TA} {pos : Pos}
theorem pa_nil : PA X [] tNil := λ _ _ _ _ H Q I h => Calls.spliced_nil ⟨[], H, I, .nil, h⟩
theorem pa_cons (ha : PE X e te) (hr : PA X es t) (hs : starEach (e :: es) X.env = (false, eval e X.env) :: starEach es X.env := by rfl) : PA X (e :: es) (tCons te t) := by
 intro pos pins s σ H Q I h
 rw [hs]
 show wpAny _ _ (spliced ((false, eval e X.env) :: backTo pos (starEach es X.env))) _ _ s
 refine Calls.spliced_cons (thn (ha pins s σ H _ I h) λ u s1 ⟨x, H1, I1, r1, q1⟩ => ?_)
 exact thn (hr pos pins s1 σ H1 _ I1 q1) λ us s2 ⟨xs, H2, I2, r2, q2⟩ => ⟨x :: xs, H2, I2, .cons r1 r2, q2⟩
def tTup (t : TA) : TE := λ σ H Q => t σ H λ xs H1 => xs.length ≤ sizeLine ∧ ∀ p, H1 p = none → Q (.ref p) (upd H1 p (.tup xs))
def tLst (t : TA) : TE := λ σ H Q => t σ H λ xs H1 => xs.length ≤ sizeLine ∧ ∀ p, H1 p = none → Q (.ref p) (upd H1 p (.lst xs))
theorem pe_tup {x1} (h : PA X es t) : PE X (.Tuple es x1 pos) (tTup t) := by
 intro pins s σ H Q I hq
 refine wpAny_Tuple_spliced (thn (h pos pins s σ H _ I hq) λ us s1 ⟨xs, H1, I1, r, z, q⟩ => ⟨by rw [← r.length]; exact z, ?_⟩)
 have hf : H1 s1.heap.objs.size = none := I1.hok.fresh (Nat.le_refl _)
 refine ⟨.ref s1.heap.objs.size, upd H1 s1.heap.objs.size (.tup xs), I1.laid (t' := s1.toks) (λ b u e => Heap.get?_push_of_some _ e) (Nat.le_refl _) ?_, rfl, q _ hf⟩
 exact ⟨z, us, r, ⟨_, Heap.get?_push_size _ rfl, rfl, _, rfl⟩⟩
theorem pe_lst (h : PA X es t) : PE X (.List es pos) (tLst t) := by
 intro pins s σ H Q I hq
 refine wpAny_List_spliced (thn (h pos pins s σ H _ I hq) λ us s1 ⟨xs, H1, I1, r, z, q⟩ => ⟨by rw [← r.length]; exact z, ?_⟩)
 have hf : H1 s1.heap.objs.size = none := I1.hok.fresh (Nat.le_refl _)
 refine ⟨.ref s1.heap.objs.size, upd H1 s1.heap.objs.size (.lst xs), I1.laid (t' := s1.toks) (λ b u e => Heap.get?_push_of_some _ e) (Nat.le_refl _) ?_, rfl, q _ hf⟩
 exact ⟨z, us, 0, r, Heap.get?_push_size _ rfl⟩
end
abbrev Sp := List V → Hp → VK → XK → Prop
abbrev CXT := List Env → Hp → Shared → XK → Value → Shared → Prop
structure Env0 (P : Program) (w : World) (K : PySem.W.Frag) (mg : Str → Option Value) (base : Heap) (A : Around) (outer : List Env) (s : Shared) (H : Hp) : Prop where
 frames : A.frames = some outer
 mod : Mod K mg base
 bs : ∀ b o, base.get? b = some o → s.heap.get? b = some o ∧ H b = none
 bsz : base.objs.size ≤ s.heap.objs.size
 funs : s.heap.FunFrames base outer
 frf : ∀ b ∈ frs outer, H b = none
 hok : HOk P w H s.heap
 bare : AllBare s.gens
def CE (outer : List Env) (P : Program) (w : World) (H : Hp) (s : Shared) (Q : VK) (u : Value) (s' : Shared) : Prop :=
 ∃ v H', s'.os = s.os ∧ AllBare s'.gens ∧ Un (frs outer) [] H H' s.heap s'.heap ∧ HOk P w H' s'.heap ∧ RelV v u ∧ Q v H'
def CR (CX : CXT) (outer : List Env) (P : Program) (w : World) (H : Hp) (s : Shared) (Q : VK) (E : XK) (r : Result) (s' : Shared) : Prop :=
 match r with
 | .ok (.ret u) => CE outer P w H s Q u s'
 | .ok _ => False
 | .error e => CX outer H s E e s'
structure FnOk (P : Program) (w : World) (K : PySem.W.Frag) (mg : Str → Option Value) (base : Heap) (CX : CXT) (k : Nat) (f : Addr) (fd : FuncData) (ps : List Str) (sp : Sp) : Prop where
 len : ∀ vs H Q E, sp vs H Q E → vs.length = ps.length
 run : ∀ (A : Around) (outer : List Env) (s : Shared) (H : Hp) (args : Args) (us : List Value) (vs : List V) (Q : VK) (E : XK), Room k A → Env0 P w K mg base A outer s H → BindsTo s fd args (ps.zip us) → Vals vs us → sp vs H Q E →
  codeAny (model P w) A (.call (.ref f) args) (CR CX outer P w H s Q E) s
theorem FnOk.mono {P : Program} {w : World} {K : PySem.W.Frag} {mg : Str → Option Value} {base : Heap} {CX : CXT} {j k : Nat} {f : Addr} {fd : FuncData} {ps : List Str} {sp : Sp} (F : FnOk P w K mg base CX j f fd ps sp) (h : j ≤ k) :
  FnOk P w K mg base CX k f fd ps sp := ⟨F.len, λ A outer s H args us vs Q E hr => F.run A outer s H args us vs Q E (hr.mono h)⟩
theorem FnOk.imp {P : Program} {w : World} {K : PySem.W.Frag} {mg : Str → Option Value} {base : Heap} {CX : CXT} {k : Nat} {f : Addr} {fd : FuncData} {ps : List Str} {sp sp' : Sp} (F : FnOk P w K mg base CX k f fd ps sp)
  (h : ∀ vs H Q E, sp' vs H Q E → sp vs H Q E) : FnOk P w K mg base CX k f fd ps sp' :=
 ⟨λ vs H Q E q => F.len vs H Q E (h _ _ _ _ q), λ A outer s H args us vs Q E hr he hb hv hs => F.run A outer s H args us vs Q E hr he hb hv (h _ _ _ _ hs)⟩
theorem Env0.in1 {P : Program} {w : World} {K : PySem.W.Frag} {mg : Str → Option Value} {base : Heap} {A : Around} {outer : List Env} {s : Shared} {H : Hp} (e : Env0 P w K mg base A outer s H) :
  Env0 P w K mg base A.in1 outer s H := ⟨e.frames, e.mod, e.bs, e.bsz, e.funs, e.frf, e.hok, e.bare⟩
section
variable {X : Cx} {pins : List (Addr × Obj)} {σ : St} {H : Hp} {s s' : Shared}
theorem Inv.env0 (I : Inv X pins σ H s) : Env0 X.prog X.w X.K X.mg X.base X.A X.stack s H :=
 ⟨I.ok.frames, I.ok.mod, I.bs, Nat.le_trans I.ok.bsz I.sz, I.stack, I.stkFree, I.hok, I.bare⟩
theorem Inv.after {Q : VK} {u : Value} (I : Inv X pins σ H s) (h : CE X.stack X.prog X.w H s Q u s') : EP X pins σ Q u s' := by
 obtain ⟨v, H', os, bare, un, hok, r, q⟩ := h
 obtain ⟨hh, g, d, t, os'⟩ := s'
 obtain rfl : os' = s.os := os
 exact ⟨v, H', I.call (h' := hh) (g' := g) (d' := d) (t' := t) (ch := []) un hok bare (λ b z => absurd z (by simp)), r, q⟩
end
def tCall (sp : Sp) (dvs : List V) (E : XK) (t : TA) : TE := λ σ H Q => t σ H λ vs H1 => sp (vs ++ dvs) H1 Q E
def Binds (K : PySem.W.Frag) (fd : FuncData) (ps : List Str) (ds : List Value) : Prop :=
 ∀ (s : Shared) (us : List Value), K.In s.heap → (us ++ ds).length = ps.length → BindsTo s fd ⟨us, []⟩ (ps.zip (us ++ ds))
theorem Binds.all {K : PySem.W.Frag} {fd : FuncData} {ps : List Str} (h : ∀ us : List Value, us.length = ps.length → bindArgs fd ⟨us, []⟩ = pure (ps.zip us)) : Binds K fd ps [] := λ s us _ hl => by
 rw [List.append_nil] at hl ⊢
 exact .of_eq (h us hl)
def Passes (CX : CXT) (X : Cx) (E : XK) : Prop := ∀ (pins : List (Addr × Obj)) (σ : St) (H : Hp) (s : Shared) (e : Value) (s' : Shared), Inv X pins σ H s → CX X.stack H s E e s' → X.xe e s'
section
variable {X : Cx} {CX : CXT} {k : Nat} {f C : Addr} {fd : FuncData} {ps : List Str} {sp : Sp} {dvs : List V} {ds : List Value} {E : XK} {x m : Str} {p pos apos : Pos} {e o : Expr} {es : List Expr} {ta : TE} {t : TA}
theorem run_fn {pins : List (Addr × Obj)} {σ : St} {H : Hp} {s : Shared} {Q : VK} {us : List Value} {vs : List V} (F : FnOk X.prog X.w X.K X.mg X.base CX k f fd ps sp) (hr : Room k X.A) (hb : Binds X.K fd ps ds) (hd : Vals dvs ds) (hx : Passes CX X E)
  (I : Inv X pins σ H s) (r : Vals vs us) (h : sp (vs ++ dvs) H Q E) : wpAny (model X.prog X.w) X.A (call (.ref f) us) (EP X pins σ Q) X.xe s := by
 have r2 : Vals (vs ++ dvs) (us ++ ds) := r.append hd
 have hl : (us ++ ds).length = ps.length := by rw [← r2.length]; exact F.len _ _ _ _ h
 refine wpAny_call (codeAny_mono (F.run X.A X.stack s H ⟨us, []⟩ (us ++ ds) (vs ++ dvs) Q E hr I.env0 (hb s us I.kIn hl) r2 h) λ r s' hq => ?_)
 cases r with
 | error e => exact hx pins σ H s e s' I hq
 | ok fl =>
  cases fl with
  | ret u => exact I.after hq
  | next => exact False.elim hq
  | brk => exact False.elim hq
  | cont => exact False.elim hq
theorem pe_call (F : FnOk X.prog X.w X.K X.mg X.base CX k f fd ps sp) (hr : Room k X.A) (hg : Gl X x) (hm : X.mg x = some (.ref f)) (hk : PySem.W.keepIn X.K (.ref f) = true) (hb : Binds X.K fd ps ds) (hd : Vals dvs ds) (hx : Passes CX X E)
  (ha : PA X (e :: es) t) (hdb : (x == ("__debug__" : Str)) = false := by decide) (he : starEach (e :: es) X.env = (false, eval e X.env) :: starEach es X.env := by rfl) (hpl : (backTo pos (starEach es X.env)).any (·.1) = false := by rfl) :
  PE X (.Call (.Name x p) (e :: es) [] pos) (tCall sp dvs E t) := by
 intro pins s σ H Q I h
 refine wpAny_Call_Name_kw (ld_glob I hg hm ?_ hdb)
 refine PySem.W.callWith_K (h₀ := X.base) I.ok.mod.kin hk (thn (ha pos pins s σ H _ I h) λ us s1 ⟨vs, H1, I1, r, q⟩ => ⟨I1.kIn, ?_⟩) he hpl
 exact run_fn F hr hb hd hx I1 r q
structure Mk (K : PySem.W.Frag) (C f : Addr) : Prop where
 makes : PySem.W.makesIn K C = true
 init : PySem.W.findIn K (.ref C) "__init__" = some (some (.ref f))
 fn : PySem.W.isFn K (.ref f) = true
 kp : PySem.W.keepIn K (.ref C) = true
end
section
variable {X : Cx} {CX : CXT} {k : Nat} {f C : Addr} {fd : FuncData} {ps ks : List Str} {sp : Sp} {E : XK} {x m : Str} {p pos apos kpos : Pos} {e o : Expr} {es : List Expr} {kws : List Keyword} {te ta : TE} {t tk : TA} {nm : Option Str}
variable {g : List Value → List Value → List Value} {gV : List V → List V → List V}
end
structure FnScope (N P : List Str) (sc : Scope) : Prop where
 kind : sc.kind = .function
 co : sc.isCoroutine = false
 gen : sc.isGenerator = false
 nd : N.Nodup
 pre : N.take P.length = P
 par : ∀ x ∈ P, sc.names.lookup x = some .local ∨ sc.names.lookup x = some .cell
 nofree : ∀ y ∈ sc.names, y.2 ≠ .free
theorem bindL_out {kindOf : Str → Option NameKind} {x : Str} : ∀ {binds : List (Str × Value)} {m : Str → Option Value}, (∀ v, (x, v) ∉ binds) → bindL kindOf binds m x = m x
 | [], _, _ => rfl
 | (n, v) :: r, m, h => by
  unfold bindL
  rw [bindL_out λ w hw => h w (List.mem_cons_of_mem _ hw)]
  split
  ·have : x ≠ n := by rintro rfl; exact h v List.mem_cons_self
   simp [this]
  ·rfl
theorem bindC_out {kindOf : Str → Option NameKind} {x : Str} : ∀ {binds : List (Str × Value)} {m : Str → Option Value}, (∀ v, (x, v) ∉ binds) → bindC kindOf binds m x = m x
 | [], _, _ => rfl
 | (n, v) :: r, m, h => by
  unfold bindC
  rw [bindC_out λ w hw => h w (List.mem_cons_of_mem _ hw)]
  split
  ·rfl
  ·have : x ≠ n := by rintro rfl; exact h v List.mem_cons_self
   simp [this]
theorem bindL_get {kindOf : Str → Option NameKind} {x : Str} {v : Value} : ∀ {P : List Str} {vs : List Value} {i : Nat} {m : Str → Option Value}, P.Nodup → P[i]? = some x → vs[i]? = some v → kindOf x = some .local →
  bindL kindOf (P.zip vs) m x = some v
 | [], _, _, _, _, h, _, _ => by simp at h
 | _ :: _, [], _, _, _, _, h, _ => by simp at h
 | p :: P, w :: vs, 0, m, nd, h1, h2, hk => by
  simp at h1 h2; subst h1; subst h2
  show bindL kindOf ((p, w) :: P.zip vs) m p = _
  unfold bindL
  rw [bindL_out λ v hv => (List.nodup_cons.mp nd).1 (List.of_mem_zip hv).1, if_pos hk]
  simp
 | p :: P, w :: vs, i + 1, m, nd, h1, h2, hk => by
  show bindL kindOf ((p, w) :: P.zip vs) m x = _
  unfold bindL
  exact bindL_get (i := i) (List.nodup_cons.mp nd).2 (by simpa using h1) (by simpa using h2) hk
theorem bindC_get {kindOf : Str → Option NameKind} {x : Str} {v : Value} : ∀ {P : List Str} {vs : List Value} {i : Nat} {m : Str → Option Value}, P.Nodup → P[i]? = some x → vs[i]? = some v → kindOf x ≠ some .local →
  bindC kindOf (P.zip vs) m x = some v
 | [], _, _, _, _, h, _, _ => by simp at h
 | _ :: _, [], _, _, _, _, h, _ => by simp at h
 | p :: P, w :: vs, 0, m, nd, h1, h2, hk => by
  simp at h1 h2; subst h1; subst h2
  show bindC kindOf ((p, w) :: P.zip vs) m p = _
  unfold bindC
  rw [bindC_out λ v hv => (List.nodup_cons.mp nd).1 (List.of_mem_zip hv).1, if_neg hk]
  simp
 | p :: P, w :: vs, i + 1, m, nd, h1, h2, hk => by
  show bindC kindOf ((p, w) :: P.zip vs) m x = _
  unfold bindC
  exact bindC_get (i := i) (List.nodup_cons.mp nd).2 (by simpa using h1) (by simpa using h2) hk
def start (N : List Str) (vs : List V) : St := vs.map some ++ List.replicate (N.length - vs.length) none
def cxOf (CX : CXT) (P : Program) (w : World) (K : PySem.W.Frag) (mg : Str → Option Value) (base : Heap) (N : List Str) (qual : Str) (scope : Scope) (f : Addr) (cd : Value) (A : Around) (outer : List Env) (s : Shared) (H : Hp) (E : XK) : Cx where
 prog := P
 w := w
 K := K
 mg := mg
 base := base
 A := A.deeper (envOfC qual scope s.heap.objs.size f cd)
 N := N
 s₀ := s
 H₀ := H
 env := envOfC qual scope s.heap.objs.size f cd
 outer := outer
 stack := envOfC qual scope s.heap.objs.size f cd :: outer
 ex := []
 calm := true
 fn := λ _ => true
 pn := []
 xe := λ e s' => wpAny (model P w) (A.deeper (envOfC qual scope s.heap.objs.size f cd)) (leaving (envOfC qual scope s.heap.objs.size f cd) e) (λ _ s'' => CX outer H s E e s'') (λ e' s'' => CX outer H s E e' s'') s'
theorem cell_has {sc : Scope} {n : Nat} {x : Str} (h : sc.names.lookup x = some .cell) : ∃ c, (cellsFrom n sc.names []).lookup x = some c := by
 have q := PySem.W.cellsFrom_some sc.names n [] (.inl h)
 exact Option.isSome_iff_exists.mp q
theorem inv_start {CX : CXT} {P : Program} {w : World} {K : PySem.W.Frag} {mg : Str → Option Value} {base : Heap} {N ps : List Str} {qual : Str} {scope : Scope} {f : Addr} {cd : Value} {A : Around} {outer : List Env} {s s1 : Shared} {H : Hp} {E : XK} {us : List Value} {vs : List V}
  (S : FnScope N ps scope) (hd : A.handled = none) (e0 : Env0 P w K mg base A outer s H) (hl : vs.length = ps.length) (r : Vals vs us)
  (x : InCallC s s.heap.objs.size (bindL (envOfC qual scope s.heap.objs.size f cd).kindOf (ps.zip us) λ _ => none) (cellsFrom (s.heap.objs.size + 1) scope.names []) (bindC (envOfC qual scope s.heap.objs.size f cd).kindOf (ps.zip us) λ _ => none) s1) :
  Inv (cxOf CX P w K mg base N qual scope f cd A outer s H E) [] (start N vs) H s1 := by
 have hpl : ps.length ≤ N.length := by have := congrArg List.length S.pre; rw [List.length_take] at this; omega
 obtain ⟨h1, tk, rfl, hk⟩ := x.done
 have noA : ∀ b : Addr, b ∉ (cxOf CX P w K mg base N qual scope f cd A outer s H E).ex := λ b z => absurd (show b ∈ ([] : List Addr) from z) (by simp)
 refine ⟨⟨e0.mod, S.kind, rfl, rfl, Nat.le_refl _, λ y z c h1 h2 => ?_, λ y hy => ?_, λ y c _ h => ?_, λ _ => hd, Around.frames_deeper e0.frames, .inr ⟨rfl, rfl⟩, λ b z => absurd z (noA b), e0.bs, e0.bsz, λ b _ _ => noA b, λ b z => absurd z (noA b), e0.funs, e0.frf⟩,
  rfl, e0.bare, Un.kept hk, ⟨_, x.toInCall.ns, λ i y v h1 h2 h3 => ?_⟩, λ y c h => ⟨_, x.cell y c h⟩, e0.hok.fresh (Nat.le_refl _), λ y c h => ?_, λ p hp => absurd (show p ∈ ([] : List (Addr × Obj)) from hp) (by simp), e0.hok.kept hk, ?_, trivial⟩
 ·exact name_of_addr x.apart (PySem.mem_of_lookup h1) (PySem.mem_of_lookup h2)
 ·have hy : scope.names.lookup y = some .cell ∨ scope.names.lookup y = some .free := hy
  rcases hy with hy | hy
  ·exact cell_has hy
  ·exact absurd rfl (S.nofree _ (PySem.mem_of_lookup hy))
 ·exact Nat.le_of_lt (x.above y c (PySem.mem_of_lookup h))
 ·have hi : i < vs.length := by
   unfold start at h2
   by_cases hi : i < vs.length
   ·exact hi
   ·rw [List.getElem?_append_right (by simpa using hi)] at h2
    rw [List.getElem?_replicate] at h2
    split at h2 <;> cases h2
  have ha : vs[i]? = some v := by
   unfold start at h2
   rw [List.getElem?_append_left (by simpa using hi), List.getElem?_map] at h2
   cases e : vs[i]? with
   | none => rw [e] at h2; cases h2
   | some a => rw [e] at h2; cases h2; rfl
  obtain ⟨u, hu, rv⟩ := r.get ha
  have hp : ps[i]? = some y := by
   rw [← S.pre, List.getElem?_take_of_lt (by omega)]; exact h1
  have ndP : ps.Nodup := by rw [← S.pre]; exact S.nd.sublist (List.take_sublist _ _)
  refine ⟨u, rv, ?_⟩
  rcases S.par y (List.mem_of_getElem? hp) with k | k
  ·exact .inl ⟨k, bindL_get ndP hp hu k⟩
  ·obtain ⟨c, e⟩ := cell_has (n := s.heap.objs.size + 1) k
   refine .inr ⟨.inl k, c, e, ?_⟩
   have q := x.cell y c e
   rw [bindC_get ndP hp hu (by show scope.names.lookup y ≠ _; rw [k]; decide)] at q
   exact q
 ·exact e0.hok.fresh (Nat.le_of_lt (x.above y c (PySem.mem_of_lookup h)))
 ·unfold start
  show _ = N.length
  rw [List.length_append, List.length_map, List.length_replicate]
  omega
theorem fn_of {CX : CXT} {P : Program} {w : World} {K : PySem.W.Frag} {mg : Str → Option Value} {base : Heap} {k : Nat} {f : Addr} {name qual : Str} {params : Arguments} {body : List Stmt} {scope : Scope} {dV kV doc pm cdv ct oc : Value} {an od : Option Addr}
  {osl : Array (Option Value)} {N ps : List Str} {sp : Sp} (lk : K.lookup f = some ⟨oc, od, .func (PySem.W.fnOf name qual params body scope dV kV doc pm an cdv ct), osl⟩) (hcd : PySem.W.codeIn K cdv qual = true) (S : FnScope N ps scope)
  (len : ∀ vs H Q E, sp vs H Q E → vs.length = ps.length)
  (hbody : ∀ (A : Around) (outer : List Env) (s : Shared) (H : Hp) (vs : List V) (Q : VK) (E : XK), Room k (A.deeper (envOfC qual scope s.heap.objs.size f cdv)) → sp vs H Q E →
   ∃ t, PSs (cxOf CX P w K mg base N qual scope f cdv A outer s H E) body t ∧ t { nx := λ _ H' => Q .non H', rt := Q } (start N vs) H) :
  FnOk P w K mg base CX (k + 1) f (PySem.W.fnOf name qual params body scope dV kV doc pm an cdv ct) ps sp := by
 refine ⟨len, λ A outer s H args us vs Q E hr e0 hb r hsp => ?_⟩
 have hl := len _ _ _ _ hsp
 have KX : K.In s.heap := e0.mod.kin.keeps λ b o e => (e0.bs b o e).1
 have lim : s.heap.NoLimit := e0.mod.nolimit.keeps λ b o e => (e0.bs b o e).1
 have hkind : ∀ y ∈ ps.zip us, scope.names.lookup y.1 = some .local ∨ (scope.names.lookup y.1 = some .cell ∧ ((cellsFrom (s.heap.objs.size + 1) scope.names []).lookup y.1).isSome = true) := λ ⟨n, v⟩ hy => by
  rcases S.par n (List.of_mem_zip hy).1 with q | q
  ·exact .inl q
  ·exact .inr ⟨q, PySem.W.cellsFrom_some _ _ _ (.inl q)⟩
 refine codeAny_call_function hr.depth (KX _ _ lk) rfl S.co S.gen rfl (PySem.W.codeRec_of KX hcd) (hb _ _ _ _ ?_)
 refine wpAny_newFunctionEnv_cells S.kind hkind λ env he s1 x => ?_
 subst he
 refine ⟨lim.keeps x.toInCall.keep, codeAny_func ?_⟩
 obtain ⟨t, ht, hq⟩ := hbody A outer s H vs Q E (hr.deeper _) hsp
 have I : Inv (cxOf CX P w K mg base N qual scope f cdv A outer s H E) [] (start N vs) H s1 := inv_start S hr.hd e0 hl r x
 refine wpAny_mono (ht [] s1 (start N vs) H _ I hq) (λ fl s' hs => ?_) λ e s' hs => hs
 have fin : ∀ {σ' : St} {H' : Hp} {v : V} {u : Value}, Inv (cxOf CX P w K mg base N qual scope f cdv A outer s H E) [] σ' H' s' → RelV v u → Q v H' → CE outer P w H s Q u s' :=
  λ {σ' H' v u} J rv q => ⟨v, H', J.os, J.bare, J.base, J.hok, rv, q⟩
 cases fl with
 | ret u =>
  obtain ⟨v, σ', H', J, rv, q⟩ := hs
  exact fin J rv q
 | next =>
  obtain ⟨σ', H', J, q⟩ := hs
  exact fin (v := V.non) (u := Value.none) J rfl q
 | brk =>
  obtain ⟨_, _, _, q⟩ := hs
  exact False.elim q
 | cont =>
  obtain ⟨_, _, _, q⟩ := hs
  exact False.elim q
end L2
namespace L2
open PySem PySem.Spec PyProof.Rows
section
variable {X : Cx} {x : Str} {p pos : Pos} {e : Expr} {es : List Expr} {t : TA} {id T : String} {r : List V → Hp → VK → Prop}
def tCB (r : List V → Hp → VK → Prop) (t : TA) : TE := λ σ H Q => t σ H λ vs H1 => r vs H1 Q
theorem pe_callB (hc : CallR X (.builtin id) r) (hg : Gl X x) (hm : X.mg x = none) (hv : bootBuiltins x = some (.builtin id)) (ha : PA X (e :: es) t) (hn : x ≠ "__name__" := by decide) (hdb : (x == ("__debug__" : Str)) = false := by decide)
  (he : starEach (e :: es) X.env = (false, eval e X.env) :: starEach es X.env := by rfl) (hpl : (backTo pos (starEach es X.env)).any (·.1) = false := by rfl) : PE X (.Call (.Name x p) (e :: es) [] pos) (tCB r t) := by
 intro pins s σ H Q I h
 refine wpAny_Call_Name_kw (ld_blt I hg hm hv ?_ hn hdb)
 exact PyProof.Rows.callWith_builtin1 (thn (ha pos pins s σ H _ I h) λ us s1 ⟨vs, H1, I1, r1, q1⟩ => hc pins s1 σ H1 vs us Q I1 r1 q1) he hpl
theorem pe_callTy (hc : CallR X (.type T) r) (hg : Gl X x) (hm : X.mg x = none) (hv : bootBuiltins x = some (.type T)) (ha : PA X (e :: es) t) (hn : x ≠ "__name__" := by decide) (hdb : (x == ("__debug__" : Str)) = false := by decide)
  (he : starEach (e :: es) X.env = (false, eval e X.env) :: starEach es X.env := by rfl) (hpl : (backTo pos (starEach es X.env)).any (·.1) = false := by rfl) : PE X (.Call (.Name x p) (e :: es) [] pos) (tCB r t) := by
 intro pins s σ H Q I h
 refine wpAny_Call_Name_kw (ld_blt I hg hm hv ?_ hn hdb)
 exact PyProof.Rows.callWith_type1 (thn (ha pos pins s σ H _ I h) λ us s1 ⟨vs, H1, I1, r1, q1⟩ => hc pins s1 σ H1 vs us Q I1 r1 q1) he hpl
end
end L2
namespace HT
open PySem PyProof.Rows
section
open PySem.SeqAt
open PySem.AutoSeq1 (wpAny_loadPart')
open PySem.MeetsSeq PySem.MeetsSeq2 PySem.MeetsSeq3
end
section
variable {prog : Program} {w : World} {A : Around} {E : Value → Shared → Prop} {s : Shared}
def sIx (n d : Nat) : Option Int → Nat
 | none => d
 | some v => if v < 0 then (v + (n : Int)).toNat else min v.toNat n
theorem sIx_none (n d : Nat) : sIx n d none = d := rfl
theorem sIx_nat (n d k : Nat) : sIx n d (some (k : Int)) = min k n := by
 show (if (k : Int) < 0 then ((k : Int) + (n : Int)).toNat else min (k : Int).toNat n) = min k n
 rw [if_neg (by omega), Int.toNat_natCast]
theorem sIx_le (n d : Nat) (hd : d ≤ n) (o : Option Int) : sIx n d o ≤ n := by
 cases o with
 | none => exact hd
 | some v =>
  show (if v < 0 then (v + (n : Int)).toNat else min v.toNat n) ≤ n
  by_cases hv : v < 0
  ·rw [if_pos hv]; omega
  ·rw [if_neg hv]; exact Nat.min_le_right _ _
theorem clip_eq (v : Int) (n d : Nat) : (if v < 0 then max (v + (n : Int)) 0 else min v (n : Int)) = ((sIx n d (some v) : Nat) : Int) := by
 show (if v < 0 then max (v + (n : Int)) 0 else min v (n : Int)) = (((if v < 0 then (v + (n : Int)).toNat else min v.toNat n) : Nat) : Int)
 by_cases hv : v < 0
 ·simp only [if_pos hv]; omega
 ·simp only [if_neg hv]; omega
theorem adjust_gen (lo hi : Option Int) (n : Nat) : Builtin.Slice.sliceAdjust lo hi 1 (n : Int) = (((sIx n 0 lo : Nat) : Int), ((sIx n n hi : Nat) : Int)) := by
 have h1 : ¬ ((1 : Int) < 0) := by omega
 unfold Builtin.Slice.sliceAdjust
 simp only [h1, if_false]
 refine Prod.ext ?_ ?_
 ·cases lo with
  | none => rfl
  | some v => exact clip_eq v n 0
 ·cases hi with
  | none => rfl
  | some v => exact clip_eq v n n
theorem places_gen (i j : Nat) : Builtin.Slice.slicePlaces (i : Int) (j : Int) 1 = j - i := by
 unfold Builtin.Slice.slicePlaces
 have h1 : (1 : Int) > 0 := by omega
 simp only [h1, if_true, Int.ediv_one]
 split <;> omega
theorem slicePart_ {v : Value} {o : Option Int} {Q : Option Int → Shared → Prop} (p : IsPart v o) (h : Q o s) : wpAny (model prog w) A (Builtin.Slice.slicePartIndex v) Q E s := by
 cases p with
 | none => exact slicePart_none h
 | int i t => exact slicePart_int h
theorem sliceApplied_gen {sl : Addr} {vl vu : Value} {lo hi : Option Int} {n : Nat} {Q : Int × Int × Nat → Shared → Prop} (hs : s.heap.IsSliceOf sl vl vu .none) (pl : IsPart vl lo) (pu : IsPart vu hi)
  (h : Q (((sIx n 0 lo : Nat) : Int), 1, sIx n n hi - sIx n 0 lo) s) : wpAny (model prog w) A (Builtin.Slice.sliceApplied (.ref sl) (pure (n : Int))) Q E s := by
 obtain ⟨os, hos, hcs, hds⟩ := id hs
 unfold Builtin.Slice.sliceApplied Builtin.Slice.sliceFields
 refine wpAny_bind (wpAny_bind (wpAny_field hos hds (x := vl) rfl (wpAny_bind (wpAny_field hos hds (x := vu) rfl (wpAny_bind (wpAny_field hos hds (x := .none) rfl (wpAny_pure ?_)))))))
 refine wpAny_bind (slicePart_none ?_)
 show wpAny _ _ (if ((1 : Int) == 0) = true then _ else _) _ _ s
 rw [if_neg (by decide)]
 refine wpAny_bind (slicePart_ pl (wpAny_bind (slicePart_ pu (wpAny_bind (wpAny_pure ?_)))))
 show wpAny _ _ (match Builtin.Slice.sliceAdjust lo hi 1 (n : Int) with | (lo, hi) => pure (lo, (1 : Int), Builtin.Slice.slicePlaces lo hi 1)) _ _ s
 rw [adjust_gen lo hi n]
 show wpAny _ _ (pure (((sIx n 0 lo : Nat) : Int), (1 : Int), Builtin.Slice.slicePlaces ((sIx n 0 lo : Nat) : Int) ((sIx n n hi : Nat) : Int) 1)) _ _ s
 rw [places_gen]
 exact wpAny_pure h
theorem pick_gen (xs : Array Value) (i k : Nat) : ((List.range k).filterMap λ (m : Nat) => xs[((i : Int) + (m : Int) * 1).toNat]?).toArray = ((xs.toList.drop i).take k).toArray := by
 have e : (λ (m : Nat) => xs[((i : Int) + (m : Int) * 1).toNat]?) = λ m => xs[i + m]? := by
  funext m
  have : ((i : Int) + (m : Int) * 1).toNat = i + m := by omega
  rw [this]
 rw [e]
 have := pick_run xs i k
 rw [List.filterMap_map] at this
 have e2 : ((λ x => xs[x]?) ∘ λ x => i + x) = λ m => xs[i + m]? := rfl
 rw [e2] at this
 rw [this]
theorem getItem_tuple_cut {t sl : Addr} {items : Array Value} {vl vu : Value} {lo hi : Option Int} {Q : Value → Shared → Prop} (ht : IsTup s.heap t items) (hs : s.heap.IsSliceOf sl vl vu .none) (pl : IsPart vl lo) (pu : IsPart vu hi)
  (hw : ¬ (sIx items.size 0 lo = 0 ∧ sIx items.size items.size hi = items.size))
  (h : Q (.ref s.heap.objs.size) { s with heap := s.heap.push { cls := .type "tuple", data := .seq ((items.toList.drop (sIx items.size 0 lo)).take (sIx items.size items.size hi - sIx items.size 0 lo)).toArray } })
  (hsz : items.size ≤ sizeLine) : wpAny (model prog w) A (getItem (.ref t) (.ref sl)) Q E s := by
 have htake : sizeOk (.seq ((items.toList.drop (sIx items.size 0 lo)).take (sIx items.size items.size hi - sIx items.size 0 lo)).toArray) := by
  show ((items.toList.drop (sIx items.size 0 lo)).take (sIx items.size items.size hi - sIx items.size 0 lo)).toArray.size ≤ sizeLine
  rw [List.size_toArray, List.length_take, List.length_drop, Array.length_toList]
  omega
 have hj : sIx items.size items.size hi ≤ items.size := sIx_le _ _ (Nat.le_refl _) hi
 obtain ⟨os, hos, hcs, hds⟩ := id hs
 have hTs : s.TypeIs (.ref sl) "slice" := ⟨os, hos, hcs⟩
 unfold getItem
 try with_reducible refine wpAny_holding ?_
 first | refine wpAny_bind (wpAny_pure ?_) | skip
 refine wpAny_bind (wpAny_sequenceKey ht.typeIs (by decide) ?_)
 refine wpAny_bind (wpAny_callSpecial?_slot (name := Str.ofString "__getitem__") ht.typeIs PyProof.Rows.slot_tuple_getitem
  (wpAny_call_entry PyProof.Rows.slot_tuple_getitem ht.typeIs entry_tuple_getitem ?_ (args_tuple_getitem _ _)))
 show wpAny _ _ (Builtin.Tuple.tupleItemsOf (.ref t) >>= _) _ _ s
 refine wpAny_bind (tupleItemsOf_ ht ?_)
 refine wpAny_bind (wpAny_typeOf hTs ?_)
 rw [if_pos (by decide)]
 refine wpAny_bind (sliceApplied_gen hs pl pu ?_)
 have hno : ¬ ((((sIx items.size 0 lo : Nat) : Int) == 0 && (1 : Int) == 1 && (sIx items.size items.size hi - sIx items.size 0 lo) == items.size) = true) := by
  intro q
  rw [Bool.and_eq_true, Bool.and_eq_true] at q
  have q1 : ((sIx items.size 0 lo : Nat) : Int) = 0 := eq_of_beq q.1.1
  have q2 : sIx items.size items.size hi - sIx items.size 0 lo = items.size := eq_of_beq q.2
  exact hw ⟨by omega, by omega⟩
 show wpAny _ _ (if (((sIx items.size 0 lo : Nat) : Int) == 0 && (1 : Int) == 1 && (sIx items.size items.size hi - sIx items.size 0 lo) == items.size) = true then _ else _) _ _ s
 rw [if_neg hno, pick_gen]
 first
  | exact wpAny_bind (m := Builtin.Tuple.tupleExact _) (wpAny_newObj_type (wpAny_pure ⟨_, rfl, wpAny_pure h⟩) htake)
  | exact wpAny_bind (m := Builtin.Tuple.tupleExact _) (wpAny_newObj_type (wpAny_bind (wpAny_pure (wpAny_pure ⟨_, rfl, wpAny_pure h⟩))) htake)
  | exact wpAny_bind (wpAny_bind (m := Builtin.Tuple.tupleExact _) (wpAny_newObj_type (wpAny_pure (wpAny_pure ⟨_, rfl, wpAny_pure h⟩)) htake))
  | exact wpAny_bind (wpAny_bind (m := Builtin.Tuple.tupleExact _) (wpAny_newObj_type (wpAny_pure ⟨_, rfl, wpAny_pure h⟩) htake))
end
end HT
namespace L2
open PySem PySem.Spec PyProof.Rows
abbrev TO := St → Hp → (Option Int → Hp → Prop) → Prop
def PO (X : Cx) (e : Option Expr) (t : TO) : Prop :=
 ∀ (pins : List (Addr × Obj)) (s : Shared) (σ : St) (H : Hp) (Q : Option Int → Hp → Prop), Inv X pins σ H s → t σ H Q →
  wpAny (model X.prog X.w) X.A (evalPart e X.env) (λ u s' => ∃ o H', Inv X pins σ H' s' ∧ IsPart u o ∧ Q o H') X.xe s
def tNoPart : TO := λ _ H Q => Q none H
def tPart (t : TE) : TO := λ σ H Q => t σ H λ x H1 => ∃ i, x = .int i ∧ Q (some i) H1
section
variable {X : Cx} {e : Expr} {te : TE} {lo hi : Option Expr} {tl th : TO} {pos p2 : Pos}
theorem po_none : PO X none tNoPart := by
 intro pins s σ H Q I h
 rw [evalPart_none]
 exact wpAny_pure ⟨none, H, I, .none, h⟩
theorem po_some (h : PE X e te) : PO X (some e) (tPart te) := by
 intro pins s σ H Q I hw
 rw [evalPart_some]
 refine thn (h pins s σ H _ I hw) λ u s1 ⟨x, H1, I1, r1, q1⟩ => ?_
 obtain ⟨i, rfl, q⟩ := q1
 obtain ⟨t, rfl⟩ := r1
 exact ⟨some i, H1, I1, .int i t, q⟩
def SlR (X : Cx) (r : V → Option Int → Option Int → Hp → VK → Prop) : Prop :=
 ∀ (pins : List (Addr × Obj)) (s : Shared) (σ : St) (H : Hp) (x : V) (v vl vu : Value) (lo hi : Option Int) (sl : Addr) (Q : VK), Inv X pins σ H s → RelV x v → s.heap.IsSliceOf sl vl vu .none → IsPart vl lo → IsPart vu hi → r x lo hi H Q →
  ∃ T id, typeLookup (.type T) "__getitem__" = pure (some (.builtin id)) ∧ s.TypeIs v T ∧ wpAny (model X.prog X.w) X.A (getItem v (.ref sl)) (EP X pins σ Q) X.xe s
theorem SlR.or {r r' : V → Option Int → Option Int → Hp → VK → Prop} (h : SlR X r) (h' : SlR X r') : SlR X (λ x lo hi H Q => r x lo hi H Q ∨ r' x lo hi H Q) := by
 intro pins s σ H x v vl vu lo hi sl Q I rx hs pl pu q
 rcases q with q | q
 ·exact h pins s σ H x v vl vu lo hi sl Q I rx hs pl pu q
 ·exact h' pins s σ H x v vl vu lo hi sl Q I rx hs pl pu q
def tSl (r : V → Option Int → Option Int → Hp → VK → Prop) (te : TE) (tl th : TO) : TE := λ σ H Q => te σ H λ x H1 => tl σ H1 λ l H2 => th σ H2 λ u H3 => r x l u H3 Q
theorem pe_slice {r : V → Option Int → Option Int → Hp → VK → Prop} (hr : SlR X r) (he : PE X e te) (hl : PO X lo tl) (hu : PO X hi th) : PE X (.Subscript e (.Slice lo hi none p2) pos) (tSl r te tl th) := by
 intro pins s σ H Q I h
 refine Subscript_ (thn (he pins s σ H _ I h) λ v s1 ⟨x, H1, I1, r1, q1⟩ => ?_)
 refine wpAny_Slice (thn (hl pins s1 σ H1 _ I1 q1) λ vl s2 ⟨l, H2, I2, pl, q2⟩ => thn (hu pins s2 σ H2 _ I2 q2) λ vu s3 ⟨u, H3, I3, pu, q3⟩ => ?_)
 rw [evalPart_none]
 refine wpAny_pure ?_
 have I4 : Inv X pins σ H3 { s3 with heap := s3.heap.push { cls := .type "slice", data := .fields #[vl, vu, .none] } } := I3.kept (t' := s3.toks) λ b ob q => Heap.get?_push_of_some _ q
 obtain ⟨T, id, hT, ht, hg⟩ := hr pins { s3 with heap := s3.heap.push { cls := .type "slice", data := .fields #[vl, vu, .none] } } σ H3 x v vl vu l u s3.heap.objs.size Q I4 r1 (Heap.IsSliceOf.new ..) pl pu q3
 show wpAny (model X.prog X.w) X.A (subscriptTail e (.Slice lo hi none p2) v (.ref s3.heap.objs.size)) (EP X pins σ Q) X.xe { s3 with heap := s3.heap.push { cls := .type "slice", data := .fields #[vl, vu, .none] } }
 exact tail_any (ops := [.ref s3.heap.objs.size, v]) ht hT hg (by with_unfolding_all rfl)
def cutV (xs : List V) (lo hi : Option Int) : List V := (xs.drop (HT.sIx xs.length 0 lo)).take (HT.sIx xs.length xs.length hi - HT.sIx xs.length 0 lo)
theorem cutV_length (xs : List V) (lo hi : Option Int) : (cutV xs lo hi).length ≤ xs.length := by
 unfold cutV
 rw [List.length_take, List.length_drop]
 omega
def rSlT (K : PySem.W.Frag) : V → Option Int → Option Int → Hp → VK → Prop := λ x lo hi H Q => ∃ a xs, x = .ref a ∧ SqT K H a xs ∧
 ¬ (HT.sIx xs.length 0 lo = 0 ∧ HT.sIx xs.length xs.length hi = xs.length) ∧ ∀ p, H p = none → Q (.ref p) (upd H p (.tup (cutV xs lo hi)))
theorem sl_tup : SlR X (rSlT X.K) := by
 intro pins s σ H x v vl vu lo hi sl Q I rx hs pl pu h
 obtain ⟨a, xs, rfl, hx, hw, q⟩ := h
 cases rx
 obtain ⟨its, r, ht, hz⟩ := I.tuple hx
 have hlen : its.toArray.size = xs.length := by rw [List.size_toArray]; exact r.length.symm
 refine ⟨"tuple", _, PyProof.Rows.slot_tuple_getitem.lookup, ht.typeIs, ?_⟩
 refine HT.getItem_tuple_cut ht hs pl pu (by rw [hlen]; exact hw) ?_ (by rw [hlen]; exact hz)
 rw [hlen]
 refine ⟨.ref s.heap.objs.size, _, I.laid (t' := s.toks) (o := .tup (cutV xs lo hi)) (λ b ob q => Heap.get?_push_of_some _ q) (Nat.le_refl _) ?_, rfl, q _ (I.hok.fresh (Nat.le_refl _))⟩
 exact ⟨Nat.le_trans (cutV_length xs lo hi) hz, _, (r.drop (HT.sIx xs.length 0 lo)).take (HT.sIx xs.length xs.length hi - HT.sIx xs.length 0 lo), IsTup.new _ _⟩
end
end L2
namespace L2
open PySem PySem.Spec PyProof.Rows
def ixN (n : Nat) (i : Int) : Option Nat := if 0 ≤ i then (if i < n then some i.toNat else none) else if -(n : Int) ≤ i then some (i + n).toNat else none
def atI {α : Type} (xs : List α) (i : Int) : Option α := (ixN xs.length i).bind λ j => xs[j]?
theorem ixN_seq {n : Nat} {i : Int} {j : Nat} (h : ixN n i = some j) : seqIndex? i n = some j ∧ j < n ∧ -(n : Int) ≤ i ∧ i < n := by
 unfold ixN at h
 by_cases h0 : 0 ≤ i
 ·rw [if_pos h0] at h
  by_cases h1 : i < n
  ·rw [if_pos h1] at h
   have e : i.toNat = j := Option.some.inj h
   exact ⟨by rw [seqIndex_of h0 h1, e], by omega, by omega, h1⟩
  ·rw [if_neg h1] at h; cases h
 ·rw [if_neg h0] at h
  by_cases h1 : -(n : Int) ≤ i
  ·rw [if_pos h1] at h
   have e : (i + n).toNat = j := Option.some.inj h
   exact ⟨by rw [seqIndex_neg (by omega) h1, e], by omega, h1, by omega⟩
  ·rw [if_neg h1] at h; cases h
theorem atI_get {α : Type} {xs : List α} {i : Int} {v : α} (h : atI xs i = some v) : ∃ j, seqIndex? i xs.length = some j ∧ xs[j]? = some v ∧ j < xs.length ∧ -(xs.length : Int) ≤ i ∧ i < xs.length := by
 unfold atI at h
 cases e : ixN xs.length i with
 | none => rw [e] at h; cases h
 | some j =>
  rw [e] at h
  obtain ⟨h1, h2, h3, h4⟩ := ixN_seq e
  exact ⟨j, h1, h, h2, h3, h4⟩
theorem atI_nat {α : Type} {xs : List α} {j : Nat} {v : α} (h : xs[j]? = some v) : atI xs (j : Int) = some v := by
 have hj : j < xs.length := (List.getElem?_eq_some_iff.mp h).1
 have e : ixN xs.length (j : Int) = some j := by
  unfold ixN
  rw [if_pos (by omega), if_pos (by omega)]; simp
 unfold atI; rw [e]; exact h
def PlainIx (b : Expr) : Prop := ∀ o i, subscripted b false o i = operate [o, i] (getItem o i)
def IxR (X : Cx) (r : R2) : Prop :=
 ∀ (value slice : Expr) (pins : List (Addr × Obj)) (s : Shared) (σ : St) (H : Hp) (x y : V) (v u : Value) (Q : VK), Inv X pins σ H s → RelV x v → RelV y u → r x y H Q →
  subscripted slice false v u = operate [v, u] (getItem v u) → wpAny (model X.prog X.w) X.A (subscriptTail value slice v u) (EP X pins σ Q) X.xe s
def MtR (X : Cx) (id : String) (r : V → List V → Hp → VK → Prop) : Prop :=
 ∀ (pins : List (Addr × Obj)) (s : Shared) (σ : St) (H : Hp) (x : V) (xs : List V) (v : Value) (us : List Value) (Q : VK), Inv X pins σ H s → RelV x v → Vals xs us → r x xs H Q →
  wpAny (model X.prog X.w) X.A (call (.builtin id) (v :: us)) (EP X pins σ Q) X.xe s
section
variable {X : Cx} {a b : Expr} {ta tb : TE} {pos : Pos}
theorem IxR.or {r r' : R2} (h : IxR X r) (h' : IxR X r') : IxR X (λ x y H Q => r x y H Q ∨ r' x y H Q) := by
 intro value slice pins s σ H x y v u Q I rx ry q hs
 rcases q with q | q
 ·exact h value slice pins s σ H x y v u Q I rx ry q hs
 ·exact h' value slice pins s σ H x y v u Q I rx ry q hs
theorem MtR.or {id : String} {r r' : V → List V → Hp → VK → Prop} (h : MtR X id r) (h' : MtR X id r') : MtR X id (λ x xs H Q => r x xs H Q ∨ r' x xs H Q) := by
 intro pins s σ H x xs v us Q I rx rs q
 rcases q with q | q
 ·exact h pins s σ H x xs v us Q I rx rs q
 ·exact h' pins s σ H x xs v us Q I rx rs q
theorem pe_ix {r : R2} (hr : IxR X r) (ha : PE X a ta) (hb : PE X b tb) (hs : PlainIx b) : PE X (.Subscript a b pos) (tOp r ta tb) := by
 intro pins s σ H Q I h
 exact Subscript_ (binT ha hb I h λ v u s2 x y H2 I2 rx ry q => hr a b pins s2 σ H2 x y v u Q I2 rx ry q (hs _ _))
def rIxL (K : PySem.W.Frag) : R2 := λ x y H Q => ∃ p xs i v, x = .ref p ∧ y = .int i ∧ SqL K H p xs ∧ atI xs i = some v ∧ Q v H
def rIxT (K : PySem.W.Frag) : R2 := λ x y H Q => ∃ p xs i v, x = .ref p ∧ y = .int i ∧ SqT K H p xs ∧ atI xs i = some v ∧ Q v H
def rIxS : R2 := λ x y H Q => ∃ z i c, x = .str z ∧ y = .int i ∧ z.length ≤ sizeLine ∧ atI z.cps.toList i = some c ∧ Q (.str ⟨#[c]⟩) H
theorem ix_list : IxR X (rIxL X.K) := by
 intro value slice pins s σ H x y v u Q I rx ry h hs
 obtain ⟨p, xs, i, z, rfl, rfl, hq, he, q⟩ := h
 cases rx
 obtain ⟨t, rfl⟩ := ry
 obtain ⟨its, r, pl, hz⟩ := I.list hq
 obtain ⟨j, h1, h2, h3, h4, h5⟩ := atI_get he
 obtain ⟨w, ew, rw'⟩ := r.get h2
 have hl := r.length
 have hn := line63
 have fin : EP X pins σ Q w s := ⟨z, H, I, rw', q⟩
 by_cases h0 : 0 ≤ i
 ·have hj : i.toNat = j := by
   rw [seqIndex_of h0 h5] at h1
   exact Option.some.inj h1
  exact item_listR pl.isList h0 (by omega) (by rw [hj]; simpa using ew) fin hs
 ·have hj : (i + (its.toArray.size : Int)).toNat = j := by
   rw [seqIndex_neg (by omega) h4] at h1
   rw [List.size_toArray, ← hl]
   exact Option.some.inj h1
  exact subscriptTail_builtinR (x := w) pl.isList.typeIs slot_list_getitem.lookup
   (wpAny_getItem_list_neg (Q := λ r s' => r = w ∧ EP X pins σ Q r s') pl.isList (by omega) (by rw [List.size_toArray] <;> omega) (by omega) (by rw [hj]; simpa using ew) ⟨rfl, fin⟩) hs
theorem ix_tup : IxR X (rIxT X.K) := by
 intro value slice pins s σ H x y v u Q I rx ry h hs
 obtain ⟨p, xs, i, z, rfl, rfl, hq, he, q⟩ := h
 cases rx
 obtain ⟨t, rfl⟩ := ry
 obtain ⟨its, r, pl, hz⟩ := I.tuple hq
 obtain ⟨j, h1, h2, h3, h4, h5⟩ := atI_get he
 obtain ⟨w, ew, rw'⟩ := r.get h2
 have hl := r.length
 have hn := line63
 have fin : EP X pins σ Q w s := ⟨z, H, I, rw', q⟩
 exact subscriptTail_builtinR (x := w) pl.typeIs slot_tuple_getitem.lookup
  (getItem_tuple (j := j) (Q := λ r s' => r = w ∧ EP X pins σ Q r s') pl (by omega) (by omega) (by rw [List.size_toArray, ← hl]; exact h1) (by simpa using ew) ⟨rfl, fin⟩) hs
theorem ix_str : IxR X rIxS := by
 intro value slice pins s σ H x y v u Q I rx ry h hs
 obtain ⟨z, i, c, rfl, rfl, hz, he, q⟩ := h
 obtain ⟨t, rfl⟩ := rx
 obtain ⟨t', rfl⟩ := ry
 obtain ⟨j, h1, h2, h3, h4, h5⟩ := atI_get he
 have hl : z.cps.toList.length = z.length := by simp [Str.length]
 rw [hl] at h1 h4 h5
 have hn := line63
 exact tail_any (typeIs_str s z t) slot_str_getitem.lookup (getItem_str (c := c) (by
  have e1 : decide (i < -(2 ^ 63 : Int)) = false := decide_eq_false (by omega)
  have e2 : decide (i ≥ 2 ^ 63) = false := decide_eq_false (by omega)
  rw [e1, e2, Bool.or_false]) (by rw [h1]; simpa using h2) ⟨.str ⟨#[c]⟩, H, I.tok _, ⟨_, rfl⟩, q⟩) hs
def rIx (K : PySem.W.Frag) : R2 := λ x y H Q => rIxL K x y H Q ∨ rIxT K x y H Q ∨ rIxS x y H Q
theorem ix_seq : IxR X (rIx X.K) := ix_list.or (ix_tup.or ix_str)
theorem mapSeq_set (its : List Value) (n j : Nat) (u : Value) : Obj.mapSeq (·.setIfInBounds j u) { cls := .type "list", data := .seq its.toArray n } = { cls := .type "list", data := .seq (its.set j u).toArray n } := by
 simp [Obj.mapSeq]
theorem Inv.lst {pins : List (Addr × Obj)} {σ : St} {H : Hp} {s : Shared} {p : Addr} {xs : List V} (I : Inv X pins σ H s) (h : H p = some (.lst xs)) :
  ∃ (its : List Value) (n : Nat), Vals xs its ∧ s.heap.get? p = some { cls := .type "list", data := .seq its.toArray n } ∧ xs.length ≤ sizeLine := by
 obtain ⟨z, its, n, r, e⟩ := I.hok p _ h
 exact ⟨its, n, r, e, z⟩
theorem Inv.lstUpd {pins : List (Addr × Obj)} {σ : St} {H : Hp} {s : Shared} {p : Addr} {xs ys : List V} {its its' : List Value} {n n' : Nat} {f : Obj → Obj} (I : Inv X pins σ H s) (h : H p = some (.lst xs))
  (ho : s.heap.get? p = some { cls := .type "list", data := .seq its.toArray n }) (hf : f { cls := .type "list", data := .seq its.toArray n } = { cls := .type "list", data := .seq its'.toArray n' }) (r : Vals ys its') (hz : ys.length ≤ sizeLine) (t : Nat) :
  Inv X pins σ (upd H p (.lst ys)) { s with heap := s.heap.update p f, toks := t } := by
 have e : (s.heap.update p f).get? p = some { cls := .type "list", data := .seq its'.toArray n' } := by
  rw [Heap.get?_update_self f ho (by rw [hf] <;> rfl), hf]
 refine I.write (x := p) (e := p) (by rw [h]; trivial) (.inl rfl) (λ b u hb q => (Heap.get?_update_other _ _ (Ne.symm hb)).trans q) ⟨_, e⟩ ?_
 exact ⟨hz, its', n', r, e⟩
def rSetL : V → V → V → Hp → (Hp → Prop) → Prop := λ o i v H Q => ∃ p xs k j, o = .ref p ∧ i = .int k ∧ H p = some (.lst xs) ∧ ixN xs.length k = some j ∧ Q (upd H p (.lst (xs.set j v)))
theorem set_list : PSet X rSetL := by
 intro pins s σ H o i v ov iv u Q I ro ri rv h
 obtain ⟨p, xs, k, j, rfl, rfl, hp, hj, q⟩ := h
 cases ro
 obtain ⟨t, rfl⟩ := ri
 obtain ⟨its, n, r, ho, hz⟩ := I.lst hp
 obtain ⟨h1, h2, h3, h4⟩ := ixN_seq hj
 have hl := r.length
 have hn := line63
 have I' : Inv X pins σ (upd H p (.lst (xs.set j v))) { s with heap := s.heap.update p (Obj.mapSeq (·.setIfInBounds j u)) } :=
  I.lstUpd hp ho (mapSeq_set its n j u) (r.set rv j) (by rw [List.length_set]; exact hz) s.toks
 by_cases h0 : 0 ≤ k
 ·have hk : k.toNat = j := by
   rw [seqIndex_of h0 h4] at h1
   exact Option.some.inj h1
  exact PySem.W.ki_setAt ho h0 (by omega) (by rw [List.size_toArray, ← hl]; exact h4) (by rw [hk]; exact ⟨_, I', q⟩)
 ·have hk : (k + (its.toArray.size : Int)).toNat = j := by
   rw [seqIndex_neg (by omega) h3] at h1
   rw [List.size_toArray, ← hl]
   exact Option.some.inj h1
  exact PySem.W.ki_setBack ho (by omega) (by rw [List.size_toArray, ← hl]; exact h3) (by omega) (by rw [hk]; exact ⟨_, I', q⟩)
theorem slice_bounds (lo hi : Option Int) (n : Nat) : (sliceBounds lo hi none n).1 = ((HT.sIx n 0 lo : Nat) : Int) ∧ (sliceBounds lo hi none n).2.1 = ((HT.sIx n n hi : Nat) : Int) ∧ (sliceBounds lo hi none n).2.2 = 1 := by
 refine ⟨?_, ?_, rfl⟩
 ·cases lo with
  | none => simp [sliceBounds, HT.sIx]
  | some i =>
   simp only [sliceBounds, HT.sIx, Option.getD_none, show (1 : Int) > 0 by decide, if_true]
   by_cases h : i < 0
   ·simp only [h, if_true] <;> omega
   ·simp only [h, if_false] <;> omega
 ·cases hi with
  | none => simp [sliceBounds, HT.sIx]
  | some i =>
   simp only [sliceBounds, HT.sIx, Option.getD_none, show (1 : Int) > 0 by decide, if_true]
   by_cases h : i < 0
   ·simp only [h, if_true] <;> omega
   ·simp only [h, if_false] <;> omega
theorem slicePick_cut (its : List Value) (lo hi : Option Int) : slicePick its.toArray lo hi none = ((its.drop (HT.sIx its.length 0 lo)).take (HT.sIx its.length its.length hi - HT.sIx its.length 0 lo)).toArray := by
 obtain ⟨h1, h2, h3⟩ := slice_bounds lo hi its.toArray.size
 unfold slicePick
 rw [h1, h2, h3]
 simp only [sliceRange_one, pick_run, List.size_toArray] <;> rfl
def rSlL (K : PySem.W.Frag) : V → Option Int → Option Int → Hp → VK → Prop := λ x lo hi H Q => ∃ a xs, x = .ref a ∧ SqL K H a xs ∧ ∀ p, H p = none → Q (.ref p) (upd H p (.lst (cutV xs lo hi)))
theorem sl_list : SlR X (rSlL X.K) := by
 intro pins s σ H x v vl vu lo hi sl Q I rx hs pl pu h
 obtain ⟨a, xs, rfl, hx, q⟩ := h
 cases rx
 obtain ⟨its, r, ht, hz⟩ := I.list hx
 have hlen := r.length
 refine ⟨"list", _, slot_list_getitem.lookup, ht.isList.typeIs, ?_⟩
 refine wpAny_getItem_list_slice ht.isList hs pl pu .none (by simp) ?_ (by rw [List.size_toArray] <;> omega)
 rw [slicePick_cut, ← hlen]
 refine ⟨.ref s.heap.objs.size, _, I.laid (t' := s.toks) (o := .lst (cutV xs lo hi)) (λ b ob q => Heap.get?_push_of_some _ q) (Nat.le_refl _) ?_, rfl, q _ (I.hok.fresh (Nat.le_refl _))⟩
 exact ⟨Nat.le_trans (cutV_length xs lo hi) hz, _, 0, (r.drop (HT.sIx xs.length 0 lo)).take (HT.sIx xs.length xs.length hi - HT.sIx xs.length 0 lo), Heap.get?_push_size _ rfl⟩
def flatV : V → Bool
 | .non => true
 | .bl _ => true
 | .int _ => true
 | .str _ => true
 | _ => false
def eqV : V → V → Bool
 | .non, .non => true
 | .bl a, .bl b => a == b
 | .bl a, .int b => (if a then 1 else 0) == b
 | .int a, .bl b => a == (if b then 1 else 0)
 | .int a, .int b => a == b
 | .str a, .str b => a == b
 | _, _ => false
theorem eqAt_V {A : Around} {s : Shared} {y x : V} {u v : Value} (ry : RelV y u) (rx : RelV x v) (fy : flatV y = true) (fx : flatV x = true) : SeqAt.EqAt A s u v (eqV y x) := by
 cases y with
 | non =>
  cases ry
  cases x with
  | non => cases rx; exact SeqAt.EqAt.same _
  | bl b => cases rx; exact SeqAt.EqAt.none_bool b
  | int b => obtain ⟨t, rfl⟩ := rx; exact SeqAt.EqAt.none_int b t
  | str b => obtain ⟨t, rfl⟩ := rx; exact SeqAt.EqAt.none_str b t
  | _ => exact absurd (show false = true from fx) Bool.false_ne_true
 | bl a =>
  cases ry
  cases x with
  | non => cases rx; exact SeqAt.EqAt.bool_none a
  | bl b => cases rx; exact SeqAt.EqAt.bool_bool a b
  | int b => obtain ⟨t, rfl⟩ := rx; exact SeqAt.EqAt.bool_int a b t
  | str b => obtain ⟨t, rfl⟩ := rx; exact SeqAt.EqAt.bool_str a b t
  | _ => exact absurd (show false = true from fx) Bool.false_ne_true
 | int a =>
  obtain ⟨t', rfl⟩ := ry
  cases x with
  | non => cases rx; exact SeqAt.EqAt.int_none a t'
  | bl b => cases rx; exact SeqAt.EqAt.int_bool a t' b
  | int b => obtain ⟨t, rfl⟩ := rx; exact SeqAt.EqAt.int_int a t' b t
  | str b => obtain ⟨t, rfl⟩ := rx; exact SeqAt.EqAt.int_str a t' b t
  | _ => exact absurd (show false = true from fx) Bool.false_ne_true
 | str a =>
  obtain ⟨t', rfl⟩ := ry
  cases x with
  | non => cases rx; exact SeqAt.EqAt.str_none a t'
  | bl b => cases rx; exact SeqAt.EqAt.str_bool a t' b
  | int b => obtain ⟨t, rfl⟩ := rx; exact SeqAt.EqAt.str_int a t' b t
  | str b => obtain ⟨t, rfl⟩ := rx; exact SeqAt.EqAt.str_str a t' b t
  | _ => exact absurd (show false = true from fx) Bool.false_ne_true
 | _ => exact absurd (show false = true from fy) Bool.false_ne_true
def eqU (x : V) (u : Value) : Bool := match u with
 | .none => eqV .non x
 | .bool b => eqV (.bl b) x
 | .int i _ => eqV (.int i) x
 | .str z _ => eqV (.str z) x
 | _ => false
theorem eqU_of {x y : V} {u : Value} (r : RelV y u) (f : flatV y = true) : eqU x u = eqV y x := by
 cases y with
 | non => cases r; rfl
 | bl b => cases r; rfl
 | int i => obtain ⟨t, rfl⟩ := r; rfl
 | str z => obtain ⟨t, rfl⟩ := r; rfl
 | _ => exact absurd (show false = true from f) Bool.false_ne_true
theorem any_eqU {x : V} : ∀ {xs : List V} {us : List Value}, Vals xs us → xs.all flatV = true → us.any (eqU x) = xs.any λ y => eqV y x
 | _, _, .nil, _ => rfl
 | y :: xs, u :: us, .cons r t, f => by
  rw [List.all_cons, Bool.and_eq_true] at f
  rw [List.any_cons, List.any_cons, eqU_of r f.1, any_eqU t f.2]
theorem mem_eqAt {A : Around} {s : Shared} {x : V} {v : Value} (rx : RelV x v) (fx : flatV x = true) : ∀ {xs : List V} {us : List Value}, Vals xs us → xs.all flatV = true → ∀ u ∈ us, SeqAt.EqAt A s u v (eqU x u)
 | _, _, .nil, _ => λ u hu => by cases hu
 | y :: xs, u :: us, .cons r t, f => λ u' hu => by
  rw [List.all_cons, Bool.and_eq_true] at f
  rcases List.mem_cons.mp hu with rfl | hu
  ·rw [eqU_of r f.1]; exact eqAt_V r rx f.1 fx
  ·exact mem_eqAt rx fx t f.2 u' hu
def inV (x : V) (xs : List V) : Bool := xs.any λ y => eqV y x
def rIn (K : PySem.W.Frag) (neg : Bool) : R2 := λ x y H Q => ∃ p xs, y = .ref p ∧ (SqL K H p xs ∨ SqT K H p xs) ∧ flatV x = true ∧ xs.all flatV = true ∧ Q (.bl (if neg then !inV x xs else inV x xs)) H
theorem op_notIn_seq : OpR X (compareOp .NotIn) (rIn X.K true) := by
 intro pins s σ H x y v u Q I rx ry h
 obtain ⟨p, xs, rfl, hq, fx, fs, q⟩ := h
 cases ry
 rcases hq with hq | hq
 ·obtain ⟨its, r, pl, hz⟩ := I.list hq
  refine SeqAt.notIn_listAt (eqU x) pl.isList (λ w hw => mem_eqAt rx fx r fs w (by simpa using hw)) ⟨.bl _, H, I, rfl, ?_⟩
  rw [show its.toArray.any (eqU x) = its.any (eqU x) by simp, any_eqU r fs]
  exact q
 ·obtain ⟨its, r, pl, hz⟩ := I.tuple hq
  refine SeqAt.notIn_tupleAt (eqU x) pl (λ w hw => mem_eqAt rx fx r fs w (by simpa using hw)) ⟨.bl _, H, I, rfl, ?_⟩
  rw [show its.toArray.any (eqU x) = its.any (eqU x) by simp, any_eqU r fs]
  exact q
theorem op_notIn_str : OpR X (compareOp .NotIn) (λ x y H Q => ∃ i j, x = .str i ∧ y = .str j ∧ Q (.bl (!(!(Builtin.Str.occurrences j i 0 j.length 1).isEmpty))) H) := by
 intro pins s σ H x y v u Q I rx ry h
 obtain ⟨i, j, rfl, rfl, q⟩ := h
 obtain ⟨t, rfl⟩ := rx
 obtain ⟨t', rfl⟩ := ry
 exact notIn_str ⟨.bl _, H, I, rfl, q⟩
theorem call_len_seq : CallR X (.builtin "len") (λ xs H Q => ∃ p ys, xs = [.ref p] ∧ (SqL X.K H p ys ∨ SqT X.K H p ys) ∧ Q (.int ys.length) H) := by
 intro pins s σ H xs us Q I r h
 obtain ⟨p, ys, rfl, hq, q⟩ := h
 obtain ⟨u, rfl, rx⟩ := vals1 r
 cases rx
 have hn := line63
 rcases hq with hq | hq
 ·obtain ⟨its, r', pl, hz⟩ := I.list hq
  have hlen := r'.length
  exact Calls.call_len_list pl.isList (by simp only [List.size_toArray] <;> omega) ⟨.int ys.length, H, I.tok _, ⟨s.toks + 1, by rw [List.size_toArray, hlen]⟩, q⟩
 ·obtain ⟨its, r', pl, hz⟩ := I.tuple hq
  have hlen := r'.length
  exact len_tuple pl (by simp only [List.size_toArray] <;> omega) ⟨.int ys.length, H, I.tok _, ⟨s.toks + 1, by rw [List.size_toArray, hlen]⟩, q⟩
theorem call_len_str : CallR X (.builtin "len") (λ xs H Q => ∃ z, xs = [.str z] ∧ z.length ≤ sizeLine ∧ Q (.int z.length) H) := by
 intro pins s σ H xs us Q I r h
 obtain ⟨z, rfl, hz, q⟩ := h
 obtain ⟨u, rfl, t, rfl⟩ := vals1 r
 have hn := line63
 exact len_str (by omega) ⟨.int z.length, H, I.tok _, ⟨_, rfl⟩, q⟩
theorem CallR.or {f : Value} {r r' : List V → Hp → VK → Prop} (h : CallR X f r) (h' : CallR X f r') : CallR X f (λ xs H Q => r xs H Q ∨ r' xs H Q) := by
 intro pins s σ H xs us Q I rs q
 rcases q with q | q
 ·exact h pins s σ H xs us Q I rs q
 ·exact h' pins s σ H xs us Q I rs q
theorem call_list_of : CallR X (.type "list") (λ xs H Q => ∃ p ys, xs = [.ref p] ∧ (SqL X.K H p ys ∨ SqT X.K H p ys) ∧ ∀ l, H l = none → Q (.ref l) (upd H l (.lst ys))) := by
 intro pins s σ H xs us Q I r h
 obtain ⟨p, ys, rfl, hq, q⟩ := h
 obtain ⟨u, rfl, rx⟩ := vals1 r
 cases rx
 have fin : ∀ (its : List Value), Vals ys its → ys.length ≤ sizeLine → ∀ (h' : Heap) (c' : Nat), (∀ b o', s.heap.get? b = some o' → h'.get? b = some o') →
   h'.get? s.heap.objs.size = some { cls := .type "list", dict := none, data := .seq its.toArray c', slots := #[] } → EP X pins σ Q (.ref s.heap.objs.size) { s with heap := h' } := λ its r' hz h' c' kp e =>
  ⟨.ref s.heap.objs.size, _, I.laid (t' := s.toks) kp (Nat.le_refl _) (show ObjOk X.prog X.w _ h' _ (.lst ys) from ⟨hz, its, c', r', e⟩), rfl, q _ (I.hok.fresh (Nat.le_refl _))⟩
 rcases hq with hq | hq
 ·obtain ⟨its, r', pl, hz⟩ := I.list hq
  have hlen := r'.length
  obtain ⟨o, ho, hc, n, hd⟩ := pl.isList
  exact call_list_seq p (.inl rfl) ho hc hd (λ h' c' kp e => fin its r' hz h' c' kp e) (by simp only [List.size_toArray] <;> omega)
 ·obtain ⟨its, r', pl, hz⟩ := I.tuple hq
  have hlen := r'.length
  obtain ⟨o, ho, hc, n, hd⟩ := pl
  exact call_list_seq p (.inr rfl) ho hc hd (λ h' c' kp e => fin its r' hz h' c' kp e) (by simp only [List.size_toArray] <;> omega)
def tyV (K : PySem.W.Frag) (T : String) (x : V) (H : Hp) : Prop := match x with
 | .str _ => T = "str"
 | .int _ => T = "int"
 | .ref p => (T = "list" ∧ ∃ xs, SqL K H p xs) ∨ (T = "tuple" ∧ ∃ o, K.lookup p = some o ∧ o.cls = .type "tuple" ∧ o.dict = none) ∨
   (T = "dict" ∧ ((∃ kvs, H p = some (.dK kvs)) ∨ ∃ kvs, H p = some (.dT kvs))) ∨ (T = "set" ∧ ∃ S n, H p = some (.set S n))
 | _ => False
theorem tyV_is {pins : List (Addr × Obj)} {σ : St} {H : Hp} {s : Shared} {T : String} {x : V} {v : Value} (I : Inv X pins σ H s) (r : RelV x v) (ty : tyV X.K T x H) :
  s.TypeIs v T ∧ ∀ a, v = .ref a → ∃ ob, s.heap.get? a = some ob ∧ ob.dict = none := by
 cases x with
 | str z =>
  obtain ⟨t, rfl⟩ := r
  cases (show T = "str" from ty)
  exact ⟨typeIs_str s z t, λ _ e => nomatch e⟩
 | int i =>
  obtain ⟨t, rfl⟩ := r
  cases (show T = "int" from ty)
  exact ⟨typeIs_int s i t, λ _ e => nomatch e⟩
 | ref p =>
  cases r
  rcases ty with ⟨rfl, xs, hq⟩ | ⟨rfl, o, hk, hc, hd⟩ | ⟨rfl, hk⟩ | ⟨rfl, S, n, hk⟩
  ·obtain ⟨its, _, pl, _⟩ := I.list hq
   refine ⟨pl.isList.typeIs, λ a e => ?_⟩
   cases e
   obtain ⟨o, n, e, c, hd, _⟩ := pl
   exact ⟨o, e, hd⟩
  ·refine ⟨⟨o, I.kIn p o hk, hc⟩, λ a e => ?_⟩
   cases e
   exact ⟨o, I.kIn _ o hk, hd⟩
  ·have z : ∃ o, s.heap.get? p = some o ∧ o.ExactDict := by
    rcases hk with ⟨kvs, hk⟩ | ⟨kvs, hk⟩
    ·obtain ⟨_, _, _, _, o, _, _, e, ex, _⟩ := I.hok p _ hk
     exact ⟨o, e, ex⟩
    ·obtain ⟨_, _, _, _, o, _, _, e, ex, _⟩ := I.hok p _ hk
     exact ⟨o, e, ex⟩
   obtain ⟨o, e, ex⟩ := z
   refine ⟨⟨o, e, ex.1⟩, λ a e2 => ?_⟩
   cases e2
   exact ⟨o, e, ex.2.1⟩
  ·obtain ⟨o, _, _, _, e, ex, _⟩ := I.hok p _ hk
   refine ⟨⟨o, e, ex.1⟩, λ a e2 => ?_⟩
   cases e2
   exact ⟨o, e, ex.2.1⟩
 | _ => exact False.elim ty
def tBM0 (K : PySem.W.Frag) (T : String) (r : V → List V → Hp → VK → Prop) (to : TE) : TE := λ σ H Q => to σ H λ x H1 => tyV K T x H1 ∧ r x [] H1 Q
def tBM (K : PySem.W.Frag) (T : String) (r : V → List V → Hp → VK → Prop) (to : TE) (t : TA) : TE := λ σ H Q => to σ H λ x H1 => tyV K T x H1 ∧ t σ H1 λ xs H2 => r x xs H2 Q
variable {o e : Expr} {es : List Expr} {to : TE} {t : TA} {name : Str} {apos cpos : Pos} {T id : String} {r : V → List V → Hp → VK → Prop}
theorem pe_bm0 (pa : PlainAttrs T) (slot : Slot T name id) (hty : typeOf (.builtin id) = pure (.type "method_descriptor")) (hm : MtR X id r) (ho : PE X o to)
  (hbase : attributeBase o name X.env (eval o X.env) = eval o X.env := by rfl) (hline : (apos.endLine == cpos.line) = true := by rfl) : PE X (.Call (.Attribute o name apos) [] [] cpos) (tBM0 X.K T r to) := by
 intro pins s σ H Q I h
 refine wpAny_Call_method0_late hbase hline (thn (ho pins s σ H _ I h) λ v s1 ⟨x, H1, I1, r1, ty, q1⟩ => ?_)
 obtain ⟨h1, h2⟩ := tyV_is I1 r1 ty
 exact ⟨T, id, pa, slot, hty, h1, h2, Calls.callWith_builtin rfl (PySem.evalArgs_none (hm pins s1 σ H1 x [] v [] Q I1 r1 .nil q1))⟩
theorem pe_bm (pa : PlainAttrs T) (slot : Slot T name id) (hty : typeOf (.builtin id) = pure (.type "method_descriptor")) (hm : MtR X id r) (ho : PE X o to) (ha : PA X (e :: es) t)
  (hbase : attributeBase o name X.env (eval o X.env) = eval o X.env := by rfl)
  (hfew : ((backTo cpos (starEach (e :: es) X.env)).all (λ x => !x.1) && (backToKw cpos (keywordEach [] X.env)).all (λ x => x.1.isSome)
   && decide ((e :: es).length + ([] : List Keyword).length + (if ([] : List Keyword).isEmpty then 0 else 1) < 30)) = true := by rfl)
  (hline : (apos.endLine == cpos.line) = true := by rfl) (hs : starEach (e :: es) X.env = (false, eval e X.env) :: starEach es X.env := by rfl) (hplain : (backTo cpos (starEach es X.env)).any (·.1) = false := by rfl) :
  PE X (.Call (.Attribute o name apos) (e :: es) [] cpos) (tBM X.K T r to t) := by
 intro pins s σ H Q I h
 refine wpAny_Call_method_late hbase hfew hline rfl (thn (ho pins s σ H _ I h) λ v s1 ⟨x, H1, I1, r1, ty, q1⟩ => ?_)
 obtain ⟨h1, h2⟩ := tyV_is I1 r1 ty
 refine ⟨T, id, pa, slot, hty, h1, h2, ?_⟩
 have hA := ha cpos pins s1 σ H1 _ I1 q1
 rw [hs] at hA ⊢
 refine Calls.callWith_builtin (by show (false || (backTo cpos (starEach es X.env)).any (·.1)) = false; rw [hplain] <;> rfl) (Calls.evalArgs_plain ?_)
 exact thn hA λ us s2 ⟨vs, H2, I2, r2, q2⟩ => hm pins s2 σ H2 x vs v us Q I2 r1 r2 q2
end
end L2
namespace L2
open PySem PySem.Spec PyProof.Rows
def MtM (X : Cx) (id : String) (r : V → List V → Hp → VK → Prop) : Prop :=
 ∀ (pins : List (Addr × Obj)) (s : Shared) (σ : St) (H : Hp) (x : V) (xs : List V) (v : Value) (us : List Value) (Q : VK), Inv X pins σ H s → RelV x v → Vals xs us → r x xs H Q →
  wpAny (model X.prog X.w) X.A (call (.builtin id) (v :: us)) (EP X pins σ Q) X.xe s
theorem Vals.one : ∀ {x : V} {us : List Value}, Vals [x] us → ∃ u, us = [u] ∧ RelV x u
 | _, _, .cons r .nil => ⟨_, rfl, r⟩
theorem Vals.two : ∀ {x y : V} {us : List Value}, Vals [x, y] us → ∃ u v, us = [u, v] ∧ RelV x u ∧ RelV y v
 | _, _, _, .cons r (.cons q .nil) => ⟨_, _, rfl, r, q⟩
theorem Vals.zero : ∀ {us : List Value}, Vals [] us → us = []
 | _, .nil => rfl
theorem Vals.dropLast {xs : List V} {us : List Value} (h : Vals xs us) : Vals xs.dropLast us.dropLast := by
 induction h with
 | nil => exact .nil
 | cons r t ih =>
  cases t with
  | nil => exact .nil
  | cons q t' => exact .cons r ih
theorem Vals.eraseIdx : ∀ {xs : List V} {us : List Value} (i : Nat), Vals xs us → Vals (xs.eraseIdx i) (us.eraseIdx i)
 | _, _, _, .nil => .nil
 | _, _, 0, .cons _ t => t
 | _, _, i + 1, .cons r t => .cons r (Vals.eraseIdx i t)
theorem Vals.reverse {xs : List V} {us : List Value} (h : Vals xs us) : Vals xs.reverse us.reverse := by
 induction h with
 | nil => exact .nil
 | cons r t ih => rw [List.reverse_cons, List.reverse_cons]; exact Vals.append ih (.cons r .nil)
theorem erase_last {α : Type} (l : List α) : l.eraseIdx (l.length - 1) = l.dropLast := by
 induction l with
 | nil => rfl
 | cons a r ih =>
  cases r with
  | nil => rfl
  | cons b r =>
   have e : (a :: b :: r).length - 1 = ((b :: r).length - 1) + 1 := by
    have h1 : (a :: b :: r).length = r.length + 2 := rfl
    have h2 : (b :: r).length = r.length + 1 := rfl
    omega
   rw [e, List.eraseIdx_cons_succ, ih]
   all_goals rfl
section
variable {X : Cx} {pins : List (Addr × Obj)} {σ : St} {H : Hp} {s : Shared} {l b : Addr} {xs ys zs : List V}
theorem Inv.lset {its its' : List Value} {n : Nat} {f : Array Value → Array Value} {t' : Nat} (I : Inv X pins σ H s) (hH : H l = some (.lst xs))
  (e : s.heap.get? l = some { cls := .type "list", data := .seq its.toArray n }) (hf : f its.toArray = its'.toArray) (hv : Vals ys its') (hz : ys.length ≤ sizeLine) :
  Inv X pins σ (upd H l (.lst ys)) { s with heap := s.heap.update l (Obj.mapSeq f), toks := t' } := by
 have q := PySem.IsL.update e f
 rw [hf] at q
 refine I.write (x := l) (e := l) (by rw [hH]; exact trivial) (.inl rfl) (λ b' u hb hu => (Heap.get?_update_other s.heap (Obj.mapSeq f) (Ne.symm hb)).trans hu) ⟨_, q⟩ ?_
 exact ⟨hz, its', _, hv, q⟩
theorem Inv.lnew {its : List Value} {t' : Nat} (I : Inv X pins σ H s) (hv : Vals ys its) (hz : ys.length ≤ sizeLine) :
  Inv X pins σ (upd H s.heap.objs.size (.lst ys)) { s with heap := s.heap.push { cls := .type "list", data := .seq its.toArray }, toks := t' } :=
 I.laid (λ _ _ q => Heap.get?_push_of_some _ q) (Nat.le_refl _) ⟨hz, its, 0, hv, Heap.get?_push_size _ rfl⟩
theorem Inv.fresh (I : Inv X pins σ H s) : H s.heap.objs.size = none := I.hok.fresh (Nat.le_refl _)
theorem Inv.lstM (I : Inv X pins σ H s) (hH : H l = some (.lst xs)) : xs.length ≤ sizeLine ∧ ∃ (its : List Value) (n : Nat), Vals xs its ∧ xs.length = its.length ∧ s.heap.get? l = some { cls := .type "list", data := .seq its.toArray n } := by
 obtain ⟨z, its, n, r, e⟩ := I.hok l _ hH
 exact ⟨z, its, n, r, r.length, e⟩
end
section
variable {X : Cx}
def rAppend : V → List V → Hp → VK → Prop := λ x vs H Q => ∃ l xs y, x = .ref l ∧ vs = [y] ∧ H l = some (.lst xs) ∧ xs.length < sizeLine ∧ Q .non (upd H l (.lst (xs ++ [y])))
theorem mt_append : MtM X "list.append" rAppend := by
 intro pins s σ H x vs v us Q I rx rv h
 obtain ⟨l, xs, y, rfl, rfl, hH, hz, q⟩ := h
 cases rx
 obtain ⟨u, rfl, ru⟩ := rv.one
 obtain ⟨z, its, n, r, hl, e⟩ := I.lstM hH
 refine call_meets F.slot_list_append ⟨_, e, rfl⟩ F.entry_list_append (F.args_list_append_2 _ _) (PySem.list_append l its.toArray n u (by rw [List.size_toArray]; omega)) ⟨e, ?_⟩
 refine ⟨.non, _, I.lset (its' := its ++ [u]) hH e (by simp) (r.append (.cons ru .nil)) ?_, rfl, q⟩
 rw [List.length_append, List.length_singleton]
 omega
def rPop : V → List V → Hp → VK → Prop := λ x vs H Q => ∃ l xs y, x = .ref l ∧ vs = [] ∧ H l = some (.lst xs) ∧ xs[xs.length - 1]? = some y ∧ Q y (upd H l (.lst xs.dropLast))
theorem mt_pop : MtM X "list.pop" rPop := by
 intro pins s σ H x vs v us Q I rx rv h
 obtain ⟨l, xs, y, rfl, rfl, hH, hy, q⟩ := h
 cases rx
 have hus := rv.zero
 subst hus
 obtain ⟨z, its, n, r, hl, e⟩ := I.lstM hH
 obtain ⟨u, hu, ru⟩ := r.get hy
 have hy' : its.toArray[its.toArray.size - 1]? = some u := by
  show its.toArray[its.length - 1]? = some u
  rw [← Array.getElem?_toList, ← hl]
  exact hu
 refine call_meets F.slot_list_pop ⟨_, e, rfl⟩ F.entry_list_pop (F.args_list_pop_1 _) (MeetsSeq.list_pop_last l its.toArray n u hy' (by rw [List.size_toArray]; omega)) ⟨e, ?_⟩
 refine ⟨y, _, I.lset (its' := its.dropLast) hH e ?_ r.dropLast ?_, ru, q⟩
 ·show its.toArray.eraseIdxIfInBounds (its.toArray.size - 1) = its.dropLast.toArray
  rw [List.size_toArray, List.eraseIdxIfInBounds_toArray, erase_last]
 ·rw [List.length_dropLast]
  omega
def rReverse : V → List V → Hp → VK → Prop := λ x vs H Q => ∃ l xs, x = .ref l ∧ vs = [] ∧ H l = some (.lst xs) ∧ Q .non (upd H l (.lst xs.reverse))
theorem mt_reverse : MtM X "list.reverse" rReverse := by
 intro pins s σ H x vs v us Q I rx rv h
 obtain ⟨l, xs, rfl, rfl, hH, q⟩ := h
 cases rx
 have hus := rv.zero
 subst hus
 obtain ⟨z, its, n, r, hl, e⟩ := I.lstM hH
 refine call_meets F.slot_list_reverse ⟨_, e, rfl⟩ F.entry_list_reverse (F.args_list_reverse_1 _) (AutoSeq1.list_reverse_list_0 l its.toArray n (by rw [List.size_toArray]; omega)) ⟨e, ?_⟩
 refine ⟨.non, _, I.lset (its' := its.reverse) hH e (by simp) r.reverse ?_, rfl, q⟩
 rw [List.length_reverse]
 omega
end
section
variable {prog : Program} {w : World} {A : Around} {E : Value → Shared → Prop} {s : Shared}
end
section
variable {X : Cx}
end
end L2
namespace Att
open PySem PySem.W PySem.Calls PyProof.Rows
theorem ints_of_wellAll {P : Params} {h : Heap} : ∀ (ns : List Int) (vs : List Value), WellAll P h vs (ns.map WData.int) → IntsAre vs ns := by
 intro ns
 induction ns with
 | nil =>
  intro vs w
  rw [List.map_nil] at w
  cases w
  exact .nil
 | cons n ns ih =>
  intro vs w
  rw [List.map_cons] at w
  cases w with
  | cons a b =>
   cases a
   exact .cons _ _ (ih _ b)
theorem script_of {l : OpenLaw} {n : Nat} (hn : l.most = some n) {P : Params} {h : Heap} {args : List WData} {vals : List Value}
  (hpre : l.row.toRowW.claim.pre args = true) (hwl : WellAll P h vals args) :
  ∃ a vs ns, vals = [Value.ref a] ∧ args = [WData.list (ns.map WData.int)] ∧ h.get? a = some { cls := .type "list", data := .seq vs.toArray } ∧ IntsAre vs ns ∧ ns.length ≤ n := by
 have hsh : WShape.hasAll [] args [.list .int] = true := (pre_splitW hpre).1
 have hc : l.pre.holds [] { args := args } = true := (pre_splitW hpre).2
 obtain ⟨d, r, rfl, h1, h2⟩ := hasAllW_cons hsh
 obtain rfl := hasAllW_nil h2
 obtain ⟨xs, rfl, h3⟩ := hasW_list h1
 obtain ⟨ns, rfl⟩ := items_int h3
 have hlen : ns.length ≤ n := by
  unfold OpenLaw.pre at hc
  have h4 : (WTm.not (.lt (.lit (.int (n : Int))) (.len (.arg 0)))).holds [] { args := [.list (ns.map .int)] } = true := by
   have h4 := (holds_andW hc).1
   rw [hn] at h4
   exact h4
  have h5 := condW_of h4 (w_not (w_lt w_lit (w_len_list (w_arg rfl))))
  rw [List.length_map] at h5
  refine Nat.le_of_not_lt λ q => ?_
  have q' : (n : Int) < ((ns.length : Nat) : Int) := by omega
  first
   | (rw [decide_eq_true q'] at h5; exact absurd h5 (by decide))
   | (simp at h5; omega)
 cases hwl with
 | cons w1 w2 =>
  cases w2
  cases w1 with
  | list ho hall => exact ⟨_, _, ns, rfl, rfl, ho, ints_of_wellAll ns _ hall, hlen⟩
theorem post_true (l : OpenLaw) (args : List WData) : l.row.toRowW.claim.post args (.bool true) args = true :=
 postW_of (r := l.row.toRowW) (X := (true == true))
  (show WShape.has [] (.bool true) .bool = true by first | rfl | decide | simp [WShape.has, WShape.arms, WShape.armsAll])
  (show (WTm.eq .res (.lit (.bool true))).value [] { args := args, res := some (.bool true), after := args } = some (.bool (true == true)) from w_eq_bool (w_res rfl) w_lit) rfl
theorem attach_call {l : OpenLaw} {n : Nat} {q : Program} {loose : List Str} {XP : (Str → Option Value) → Heap → Prop} {YP : World → Heap → Prop} {d : DefRec}
  (hn : l.most = some n) (hdf : d.params.defaults = [])
  (call : ∀ (w : World) (s₀ s₁ : Shared) (mg mb : Str → Option Value) (fa : Addr) (o : Obj) (pm cd doc : Value) (a : Addr) (vs : List Value) (ns : List Int),
   Ground q loose [] XP w s₀ mg mb s₁.heap → YP w s₁.heap →
   s₁.heap.get? fa = some o → o.data = .func (docDef d.name d.params d.body d.scope pm cd doc) → s₁.heap.CodeRec cd d.name → mg d.name = some (.ref fa) →
   s₁.heap.get? a = some { cls := .type "list", data := .seq vs.toArray } → IntsAre vs ns → ns.length ≤ n → s₁.gens = #[] →
   codeAny (model l.prog w) callerA (.call (.ref fa) ⟨[.ref a], []⟩) (λ r s' => r = .ok (.ret (.bool true)) ∧ OldK s₁.heap s'.heap ∧ s'.os = s₁.os ∧ AllBare s'.gens) s₁) :
  WalkO q loose XP YP l.row.toRowW d [] (λ f vs => PySem.call f vs) := by
 intro w s₀ s₁ mg mb G Y fa o pm cd doc dV kV ho hd hcd hD hmg hg args vals as hpre hlay hrd hwl hlo
 obtain rfl : dV = .none := Dflts.none hD hdf
 obtain rfl : kV = .none := Dflts.noKw hD
 obtain ⟨a, vs, ns, rfl, rfl, hobj, hints, hlen⟩ := script_of hn hpre hwl
 refine enter_call (codeAny_mono (call w s₀ s₁ mg mb fa o pm cd doc a vs ns G Y ho (fd_plain hd) hcd hmg hobj hints hlen hg) λ r s' hq => ?_)
 obtain ⟨rfl, h2, h3, h4⟩ := hq
 exact ⟨.inl ⟨.bool true, .bool true, [], rfl, λ _ => rfl, .bool true, post_true l _, λ _ => ⟨List.Pairwise.nil, λ _ hm => (nomatch hm)⟩⟩, h2, h3, h4⟩
section
variable {prog : Program} {w : World} {A : Around} {E : Value → Shared → Prop} {s : Shared} {K : Frag}
end
end Att
namespace L2
open PySem PySem.Spec PyProof.Rows
theorem vals_ints : ∀ {vs : List Value} {ns : List Int}, IntsAre vs ns → Vals (ns.map V.int) vs
 | _, _, .nil => .nil
 | _, _, .cons n t h => .cons ⟨t, rfl⟩ (vals_ints h)
def Only (H : Hp) : Prop := ∀ b, H b = none ∨ ∃ o xs, H b = some (.frz o (.lst xs))
theorem law_call {P : Program} {w : World} {K : PySem.W.Frag} {mg mb : Str → Option Value} {CX : CXT} {k : Nat} {fa a : Addr} {fd : FuncData} {x : Str} {sp : Sp} {s₁ : Shared} {vs : List Value} {ns : List Int}
  (KX : K.In s₁.heap) (hns : s₁.heap.Ns mainGlobals mg) (hb : s₁.heap.Ns builtinsNs mb) (hbb : ∀ x : Str, x ≠ "__name__" → mb x = bootBuiltins x) (hlim : s₁.heap.NoLimit) (hg : s₁.gens = #[])
  (ha : s₁.heap.get? a = some { cls := .type "list", data := .seq vs.toArray }) (hi : IntsAre vs ns) (hl : ns.length ≤ sizeLine) (hr : Room k callerA)
  (F : ∀ base : Heap, K.In base → base.Ns mainGlobals mg → FnOk P w K mg base CX k fa fd [x] sp) (hbind : ∀ (s : Shared) (u : Value), BindsTo s fd ⟨[u], []⟩ [(x, u)])
  (hsp : ∀ H : Hp, Only H → SqL K H a (ns.map V.int) → sp [.ref a] H (λ v _ => v = .bl true) λ _ _ _ => False)
  (hCX : ∀ H e s', CX [] H s₁ (λ _ _ _ => False) e s' → False) :
  codeAny (model P w) callerA (.call (.ref fa) ⟨[.ref a], []⟩) (λ r s' => r = .ok (.ret (.bool true)) ∧ OldK s₁.heap s'.heap ∧ s'.os = s₁.os ∧ AllBare s'.gens) s₁ := by
 have rv := vals_ints hi
 have lenV := hi.length
 have core : ∀ H : Hp, Only H → SqL K H a (ns.map V.int) → HOk P w H s₁.heap → (∀ b, H b ≠ none → b = a) → (H a ≠ none → K.lookup a = none) →
   codeAny (model P w) callerA (.call (.ref fa) ⟨[.ref a], []⟩) (λ r s' => r = .ok (.ret (.bool true)) ∧ OldK s₁.heap s'.heap ∧ s'.os = s₁.os ∧ AllBare s'.gens) s₁ := by
  intro H hO hS hok hA hK
  have base_of : ∀ {b : Addr} {o : Obj}, s₁.heap.get? b = some o → H b = none → (hidT s₁.heap H).get? b = some o := λ e n => hidT_get e n
  have noA : ∀ {b : Addr} {o : Obj} {es : Array DictEntry} {ep : Nat}, s₁.heap.get? b = some o → o.data = .dict es ep → H b = none := λ {b o es ep} e d => by
   cases q : H b with
   | none => rfl
   | some u =>
    have e' : b = a := hA b (by rw [q]; simp)
    subst e'
    rw [ha] at e; cases e
    have d' : Data.seq vs.toArray _ = Data.dict es ep := d
    cases d'
  have nsK : ∀ {b : Addr} {m : Str → Option Value}, s₁.heap.Ns b m → (hidT s₁.heap H).Ns b m := λ {b m} ⟨o, es, ep, e, d, r⟩ => ⟨o, es, ep, base_of e (noA e d), d, r⟩
  have hKb : K.In (hidT s₁.heap H) := λ b o e => base_of (KX b o e) (by
   cases q : H b with
   | none => rfl
   | some u =>
    have e' : b = a := hA b (by rw [q]; simp)
    subst e'
    rw [hK (by rw [q]; simp)] at e; cases e)
  have hM : Mod K mg (hidT s₁.heap H) := ⟨hKb, nsK hns, ⟨mb, nsK hb, hbb⟩, let ⟨mc, h1, h2⟩ := hlim; ⟨mc, nsK h1, h2⟩⟩
  have e0 : Env0 P w K mg (hidT s₁.heap H) callerA [] s₁ H := ⟨rfl, hM, λ b o e => of_hidT e, Nat.le_of_eq (hidT_size _ _), trivial, λ b hb => absurd (show b ∈ ([] : List Addr) from hb) (by simp), hok, .of_eq hg⟩
  refine codeAny_mono ((F _ hKb (nsK hns)).run callerA [] s₁ H ⟨[.ref a], []⟩ [.ref a] [.ref a] _ _ hr e0 (hbind s₁ (.ref a)) (.cons rfl .nil) (hsp H hO hS)) λ r s' h => ?_
  cases r with
  | error e => exact (hCX H e s' h).elim
  | ok fl =>
   cases fl with
   | next => exact False.elim h
   | brk => exact False.elim h
   | cont => exact False.elim h
   | ret u =>
    obtain ⟨v, H', os, bare, un, hok', r', q⟩ := h
    have q' : v = .bl true := q
    subst q'
    obtain rfl : u = Value.bool true := r'
    refine ⟨rfl, OldK.of_keep λ b o e => ?_, os, bare⟩
    cases q : H b with
    | none => exact un.keep b o e q (by intro z; exact absurd (show b ∈ ([] : List Addr) from z) (by simp)) (by simp)
    | some u =>
     rcases hO b with z | ⟨ob, xs, z⟩
     ·rw [q] at z; cases z
     ·have z2 := un.frzs b ob _ z
      obtain ⟨e1, _⟩ := hok b _ z
      obtain ⟨e2, _⟩ := hok' b _ z2
      rw [e] at e1; cases e1
      exact e2
 cases hk : K.lookup a with
 | some o =>
  have e := KX a o hk
  rw [ha] at e
  cases e
  refine core (λ _ => none) (λ _ => .inl rfl) (.inr ⟨_, vs.toArray, _, hk, rfl, ⟨rfl, rfl⟩, rfl, by rw [List.size_toArray, lenV]; exact hl, by simpa using rv⟩) (λ b u z => by have z' : (none : Option HO) = some u := z; cases z') (λ b z => absurd rfl z) λ z => absurd rfl z
 | none =>
  refine core (λ b => if b = a then some (.frz { cls := .type "list", data := .seq vs.toArray } (.lst (ns.map V.int))) else none) (λ b => ?_) (.inl (.inr ⟨{ cls := .type "list", data := .seq vs.toArray }, if_pos rfl⟩)) (λ b u z => ?_) (λ b z => ?_) λ _ => hk
  ·by_cases hb : b = a
   ·exact .inr ⟨_, _, if_pos hb⟩
   ·exact .inl (if_neg hb)
  ·by_cases hb : b = a
   ·have z' := (if_pos hb).symm.trans z
    cases z'
    subst hb
    exact ⟨ha, by rw [List.length_map]; exact hl, vs, _, rv, ha⟩
   ·have z' := (if_neg hb).symm.trans z
    cases z'
  ·by_cases hb : b = a
   ·exact hb
   ·exact absurd (if_neg hb) z
end L2
namespace L2
open PySem PySem.Spec PyProof.Rows
theorem walk_of {l : PySem.W.OpenLaw} {n k : Nat} {q : Program} {loose : List Str} {XP : (Str → Option Value) → Heap → Prop} {YP : World → Heap → Prop} {d : DefRec} {K : Params → PySem.W.Frag} {CX : World → CXT} {sp : World → Sp} {x : Str}
  (hn : l.most = some n) (hn2 : n ≤ sizeLine) (hdf : d.params.defaults = []) (hr : Room k callerA)
  (hY : ∀ (w : World) (h : Heap), YP w h → (K w.params).In h)
  (F : ∀ (w : World) (mg : Str → Option Value) (fa : Addr) (h : Heap), (K w.params).In h → h.Ns mainGlobals mg → mg d.name = some (.ref fa) →
   ∃ fd : FuncData, (∀ (s : Shared) (u : Value), BindsTo s fd ⟨[u], []⟩ [(x, u)]) ∧
    ∀ base : Heap, (K w.params).In base → base.Ns mainGlobals mg → FnOk l.prog w (K w.params) mg base (CX w) k fa fd [x] (sp w))
  (hsp : ∀ (w : World) (H : Hp) (a : Addr) (ns : List Int), ns.length ≤ n → Only H → SqL (K w.params) H a (ns.map V.int) → sp w [.ref a] H (λ v _ => v = .bl true) λ _ _ _ => False)
  (hCX : ∀ (w : World) (H : Hp) (s : Shared) (e : Value) (s' : Shared), CX w [] H s (λ _ _ _ => False) e s' → False) :
  PySem.W.WalkO q loose XP YP l.row.toRowW d [] (λ f vs => PySem.call f vs) := by
 refine Att.attach_call hn hdf λ w s₀ s₁ mg mb fa o pm cd doc a vs ns G Y ho hd hcd hmg hobj hints hlen hg => ?_
 have KX := hY w _ Y
 obtain ⟨fd, hb, hF⟩ := F w mg fa _ KX G.T.g hmg
 exact law_call KX G.T.g G.T.b G.T.builtins G.T.nolimit hg hobj hints (Nat.le_trans hlen hn2) hr hF hb (λ H hO hS => hsp w H a ns hlen hO hS) λ H e s' => hCX w H s₁ e s'
end L2
namespace L2
open PySem PySem.Spec PyProof.Rows
def defArgs (s : Stmt) : Arguments := match s with
 | .FunctionDef _ a _ _ _ _ _ _ _ _ => a
 | _ => { posonlyargs := [], args := [], vararg := none, kwonlyargs := [], kw_defaults := [], kwarg := none, defaults := [] }
def defBody (s : Stmt) : List Stmt := match s with
 | .FunctionDef _ _ b _ _ _ _ _ _ _ => b
 | _ => []
def defScope (s : Stmt) : Scope := match s with
 | .FunctionDef _ _ _ _ _ _ sc _ _ _ => sc
 | _ => { kind := .function, names := [], isGenerator := false, isCoroutine := false }
abbrev CX0 : CXT := λ _ _ _ _ _ _ => False
structure Fun (K : PySem.W.Frag) (x qual : Str) (st : Stmt) (f : Addr) (fd : FuncData) : Prop where
 ex : ∃ (oc : Value) (od : Option Addr) (kV doc pm : Value) (an : Option Addr) (cdv ct : Value) (osl : Array (Option Value)),
  fd = PySem.W.fnOf x qual (defArgs st) (defBody st) (defScope st) .none kV doc pm an cdv ct ∧ K.lookup f = some ⟨oc, od, .func fd, osl⟩ ∧ PySem.W.codeIn K cdv qual = true
 kp : PySem.W.keepIn K (.ref f) = true
section
variable {P : Program} {w : World} {K : PySem.W.Frag} {mg : Str → Option Value} {base : Heap}
theorem Fun.ok {x qual : Str} {st : Stmt} {f : Addr} {fd : FuncData} {N ps : List Str} {k : Nat} {sp : Sp} (F : Fun K x qual st f fd) (S : FnScope N ps (defScope st)) (len : ∀ vs H Q E, sp vs H Q E → vs.length = ps.length)
  (hbody : ∀ (cdv : Value) (A : Around) (outer : List Env) (s : Shared) (H : Hp) (vs : List V) (Q : VK) (E : XK), Room k (A.deeper (envOfC qual (defScope st) s.heap.objs.size f cdv)) → sp vs H Q E →
   ∃ t, PSs (cxOf CX0 P w K mg base N qual (defScope st) f cdv A outer s H E).nox (defBody st) t ∧ t { nx := λ _ H' => Q .non H', rt := Q } (start N vs) H) : FnOk P w K mg base CX0 (k + 1) f fd ps sp := by
 obtain ⟨oc, od, kV, doc, pm, an, cdv, ct, osl, rfl, lk, hcd⟩ := F.ex
 refine fn_of lk hcd S len λ A outer s H vs Q E hr hsp => ?_
 obtain ⟨t, h, q⟩ := hbody cdv A outer s H vs Q E hr hsp
 exact ⟨t, h.nox, q⟩
theorem Fun.binds {x qual : Str} {st : Stmt} {f : Addr} {fd : FuncData} {ps : List Str} (F : Fun K x qual st f fd)
  (h : ∀ (kV doc pm : Value) (an : Option Addr) (cdv ct : Value) (us : List Value), us.length = ps.length → bindArgs (PySem.W.fnOf x qual (defArgs st) (defBody st) (defScope st) .none kV doc pm an cdv ct) ⟨us, []⟩ = pure (ps.zip us)) : Binds K fd ps [] := by
 obtain ⟨oc, od, kV, doc, pm, an, cdv, ct, osl, rfl, lk, hcd⟩ := F.ex
 exact .all (h kV doc pm an cdv ct)
theorem fun_mk {x qual : Str} {st : Stmt} {f : Addr} {oc : Value} {od an : Option Addr} {osl : Array (Option Value)} {kV doc pm cdv ct : Value} (l : K.lookup f = some ⟨oc, od, .func (PySem.W.fnOf x qual (defArgs st) (defBody st) (defScope st) .none kV doc pm an cdv ct), osl⟩)
  (c : PySem.W.codeIn K cdv qual = true) (k : PySem.W.keepIn K (.ref f) = true) : Fun K x qual st f (PySem.W.fnOf x qual (defArgs st) (defBody st) (defScope st) .none kV doc pm an cdv ct) := ⟨⟨oc, od, kV, doc, pm, an, cdv, ct, osl, rfl, l, c⟩, k⟩
end
section
variable {X : Cx}
end
def Same (H H' : Hp) : Prop := ∀ b o, H b = some o → H' b = some o
theorem Same.refl (H : Hp) : Same H H := λ _ _ h => h
theorem Same.trans {H H1 H2 : Hp} (a : Same H H1) (b : Same H1 H2) : Same H H2 := λ c o h => b c o (a c o h)
theorem Same.free {H H' : Hp} (e : Same H H') {l : Addr} (h : H' l = Option.none) : H l = Option.none := by
 cases q : H l with
 | none => rfl
 | some o =>
  rw [e l o q] at h
  cases h
theorem Same.seq {K : PySem.W.Frag} {H H' : Hp} {a : Addr} {xs : List V} (e : Same H H') (h : SqL K H a xs) : SqL K H' a xs := by
 rcases h with (h | ⟨o, h⟩) | h
 ·exact .inl (.inl (e _ _ h))
 ·exact .inl (.inr ⟨o, e _ _ h⟩)
 ·exact .inr h
end L2
namespace L2
open PySem PySem.Spec PyProof.Rows
section
variable {κ : Type} [DecidableEq κ]
def valV (kvs : List (κ × V)) (k : κ) : Option V := (kvs.find? λ kv => decide (kv.1 = k)).map (·.2)
def putK (kvs : List (κ × V)) (k : κ) (v : V) : List (κ × V) :=
 if (kvs.any λ kv => decide (kv.1 = k)) = true then kvs.map (λ kv => if kv.1 = k then (kv.1, v) else kv) else kvs ++ [(k, v)]
def dropK (kvs : List (κ × V)) (k : κ) : List (κ × V) := kvs.filter λ kv => decide (kv.1 ≠ k)
theorem valV_pos {p : κ × V} {r : List (κ × V)} {k : κ} (e : p.1 = k) : valV (p :: r) k = some p.2 := by simp [valV, List.find?_cons, e]
theorem valV_neg {p : κ × V} {r : List (κ × V)} {k : κ} (e : ¬ p.1 = k) : valV (p :: r) k = valV r k := by simp [valV, List.find?_cons, e]
theorem valV_any (k : κ) : ∀ kvs : List (κ × V), (kvs.any λ kv => decide (kv.1 = k)) = (valV kvs k).isSome
 | [] => rfl
 | p :: r => by
  rw [List.any_cons]
  by_cases e : p.1 = k
  ·simp only [valV_pos e, decide_eq_true e, Bool.true_or, Option.isSome_some]
  ·rw [valV_neg e, decide_eq_false e, Bool.false_or]; exact valV_any k r
theorem length_putK (kvs : List (κ × V)) (k : κ) (v : V) : (putK kvs k v).length ≤ kvs.length + 1 := by
 unfold putK
 split
 ·rw [List.length_map]; omega
 ·rw [List.length_append, List.length_cons, List.length_nil]; omega
theorem RelO.isSome_eq {o : Option V} {u : Option Value} (r : RelO o u) : o.isSome = u.isSome := by
 cases o with
 | none => cases u with
  | none => rfl
  | some _ => exact (show False from r).elim
 | some _ => cases u with
  | none => exact (show False from r).elim
  | some _ => rfl
theorem RelO.getD {o : Option V} {u : Option Value} {d : V} {d' : Value} (r : RelO o u) (rd : RelV d d') : RelV (o.getD d) (u.getD d') := by
 cases o with
 | none => cases u with
  | none => exact rd
  | some _ => exact (show False from r).elim
 | some _ => cases u with
  | none => exact (show False from r).elim
  | some _ => exact r
theorem KV.val {kvs : List (κ × V)} {vs : List (κ × Value)} (r : KV kvs vs) (k : κ) : RelO (valV kvs k) (valueAt vs k) := by
 unfold KV at r
 induction r with
 | nil => exact True.intro
 | @cons p q ps qs h t ih =>
  obtain ⟨h1, h2⟩ := h
  by_cases e : p.1 = k
  ·have e' : q.1 = k := h1.symm.trans e
   have b : valueAt (q :: qs) k = some q.2 := by simp [valueAt, List.find?_cons, e']
   rw [valV_pos e, b]; exact h2
  ·have e' : ¬ q.1 = k := λ z => e (h1.trans z)
   have b : valueAt (q :: qs) k = valueAt qs k := by simp [valueAt, List.find?_cons, e']
   rw [valV_neg e, b]; exact ih
theorem KV.any {kvs : List (κ × V)} {vs : List (κ × Value)} (r : KV kvs vs) (k : κ) : (kvs.any λ kv => decide (kv.1 = k)) = vs.any λ kv => decide (kv.1 = k) := by
 unfold KV at r
 induction r with
 | nil => rfl
 | cons h t ih => rw [List.any_cons, List.any_cons, ih, h.1]
theorem KV.repl {kvs : List (κ × V)} {vs : List (κ × Value)} (r : KV kvs vs) (k : κ) {y : V} {u : Value} (ry : RelV y u) :
  KV (kvs.map λ kv => if kv.1 = k then (kv.1, y) else kv) (vs.map λ kv => if kv.1 = k then (kv.1, u) else kv) := by
 unfold KV at r ⊢
 induction r with
 | nil => exact .nil
 | @cons p q ps qs h t ih =>
  rw [List.map_cons, List.map_cons]
  refine .cons ?_ ih
  obtain ⟨h1, h2⟩ := h
  by_cases e : p.1 = k
  ·rw [if_pos e, if_pos (h1.symm.trans e)]; exact ⟨h1, ry⟩
  ·rw [if_neg e, if_neg (λ z => e (h1.trans z))]; exact ⟨h1, h2⟩
theorem KV.put {kvs : List (κ × V)} {vs : List (κ × Value)} (r : KV kvs vs) (k : κ) {y : V} {u : Value} (ry : RelV y u) : KV (putK kvs k y) (stored vs k u) := by
 unfold putK stored
 rw [r.any k]
 by_cases e : (vs.any λ kv => decide (kv.1 = k)) = true
 ·rw [if_pos e, if_pos e]; exact r.repl k ry
 ·rw [if_neg e, if_neg e]; exact Paired.snoc r ⟨rfl, ry⟩
theorem KV.drop {kvs : List (κ × V)} {vs : List (κ × Value)} (r : KV kvs vs) (k : κ) : KV (dropK kvs k) (without vs k) := by
 unfold KV at r ⊢
 unfold dropK without
 induction r with
 | nil => exact .nil
 | @cons p q ps qs h t ih =>
  obtain ⟨h1, h2⟩ := h
  rw [List.filter_cons, List.filter_cons]
  by_cases e : p.1 = k
  ·have a : ¬ decide (p.1 ≠ k) = true := by simp [e]
   have b : ¬ decide (q.1 ≠ k) = true := by simp [h1.symm.trans e]
   rw [if_neg a, if_neg b]; exact ih
  ·have e' : ¬ q.1 = k := λ z => e (h1.trans z)
   have a : decide (p.1 ≠ k) = true := by simp [e]
   have b : decide (q.1 ≠ k) = true := by simp [e']
   rw [if_pos a, if_pos b]; exact .cons ⟨h1, h2⟩ ih
theorem KV.keys {kvs : List (κ × V)} {vs : List (κ × Value)} (r : KV kvs vs) : kvs.map (·.1) = vs.map (·.1) := by
 unfold KV at r
 induction r with
 | nil => rfl
 | cons h t ih => rw [List.map_cons, List.map_cons, ih, h.1]
theorem KV.length {kvs : List (κ × V)} {vs : List (κ × Value)} (r : KV kvs vs) : kvs.length = vs.length := Paired.length r
end
theorem kV_is {P : Program} {w : World} {k : Key} {u : Value} (r : RelV (kV k) u) : (mixKind P w).is k u = true := by
 cases k with
 | inl i => obtain ⟨t, e⟩ := (show ∃ t, u = Value.int i t from r); subst e; exact mixKind_int P w i t
 | inr x => obtain ⟨t, e⟩ := (show ∃ t, u = Value.str x t from r); subst e; exact mixKind_str P w x t
theorem items_are {P : Program} {w : World} : ∀ {ks : List Key} {us : List Value}, Vals (ks.map kV) us → ItemsAre (mixKind P w) ks us
 | [], _, r => by rw [List.map_nil] at r; cases r; exact .nil
 | k :: ks, _, r => by
  rw [List.map_cons] at r
  cases r with
  | cons h t => exact .cons (kV_is h) (items_are t)
abbrev KT (H : Hp) : List (List Key × V) → List (List Key × Addr × Value) → Prop := Paired λ p q => p.1 = q.1 ∧ H q.2.1 = some (.tup (p.1.map kV)) ∧ RelV p.2 q.2.2
theorem KT.val {H : Hp} {kvs : List (List Key × V)} {xs : List (List Key × Addr × Value)} (r : KT H kvs xs) (k : List Key) : RelO (valV kvs k) ((atKey xs k).map (·.2)) := by
 induction r with
 | nil => exact True.intro
 | @cons p q ps qs h t ih =>
  obtain ⟨h1, _, h2⟩ := h
  by_cases e : p.1 = k
  ·have e' : q.1 = k := h1.symm.trans e
   have b : atKey (q :: qs) k = some q.2 := by simp [atKey, List.find?_cons, e']
   rw [valV_pos e, b]; exact h2
  ·have e' : ¬ q.1 = k := λ z => e (h1.trans z)
   have b : atKey (q :: qs) k = atKey qs k := by simp [atKey, List.find?_cons, e']
   rw [valV_neg e, b]; exact ih
theorem KT.repl {H : Hp} {kvs : List (List Key × V)} {xs : List (List Key × Addr × Value)} (r : KT H kvs xs) (k : List Key) {y : V} {u : Value} (ry : RelV y u) :
  KT H (kvs.map λ kv => if kv.1 = k then (kv.1, y) else kv) (xs.map (putAt k u)) := by
 induction r with
 | nil => exact .nil
 | @cons p q ps qs h t ih =>
  rw [List.map_cons, List.map_cons]
  refine .cons ?_ ih
  obtain ⟨h1, h2, h3⟩ := h
  unfold putAt
  by_cases e : p.1 = k
  ·rw [if_pos e, if_pos (h1.symm.trans e)]; exact ⟨h1, h2, ry⟩
  ·rw [if_neg e, if_neg (λ z => e (h1.trans z))]; exact ⟨h1, h2, h3⟩
theorem KT.put {H : Hp} {kvs : List (List Key × V)} {xs : List (List Key × Addr × Value)} (r : KT H kvs xs) (k : List Key) {b : Addr} {y : V} {u : Value} (hb : H b = some (.tup (k.map kV))) (ry : RelV y u) :
  KT H (putK kvs k y) (storedH xs k b u) := by
 have e : (kvs.any λ kv => decide (kv.1 = k)) = (atKey xs k).isSome := by
  rw [valV_any, (r.val k).isSome_eq, Option.isSome_map]
 unfold putK storedH
 rw [e]
 by_cases q : (atKey xs k).isSome = true
 ·rw [if_pos q, if_pos q]; exact r.repl k ry
 ·rw [if_neg q, if_neg q]; exact Paired.snoc r ⟨rfl, hb, ry⟩
theorem KT.keeps {H H' : Hp} {kvs : List (List Key × V)} {xs : List (List Key × Addr × Value)} (r : KT H kvs xs) (ht : ∀ b ys, H b = some (.tup ys) → H' b = some (.tup ys)) : KT H' kvs xs :=
 Paired.mapP r λ _ _ z => ⟨z.1, ht _ _ z.2.1, z.2.2⟩
section
variable {P : Program} {w : World} {H : Hp} {h : Heap} {a : Addr}
theorem rd_of {u : HO} (ok : HOk P w H h) (e : Rd H a u) : ObjOk P w H h a u := e.ok ok
theorem dk_rd {kvs : List (Key × V)} (ok : HOk P w H h) (e : Rd H a (.dK kvs)) : kvs.length ≤ sizeLine ∧ (a == sysModules) = false ∧ ∃ vs, KV kvs vs ∧ h.DictOf (mixKind P w) a vs :=
 show ObjOk P w H h a (.dK kvs) from rd_of ok e
theorem dk_of {kvs : List (Key × V)} (ok : HOk P w H h) (e : H a = some (.dK kvs)) : kvs.length ≤ sizeLine ∧ (a == sysModules) = false ∧ ∃ vs, KV kvs vs ∧ h.DictOf (mixKind P w) a vs := dk_rd ok (.inl e)
theorem key_of {ks : List Key} (ok : HOk P w H h) (e : H a = some (.tup (ks.map kV))) : (tupleKind (mixKind P w)).is h ks a := by
 obtain ⟨_, its, r, o, h1, h2, n, h3⟩ := (show ObjOk P w H h a (.tup (ks.map kV)) from ok a _ e)
 exact ⟨o, its.toArray, n, h1, h2, h3, by simpa using items_are r⟩
theorem dt_rd {kvs : List (List Key × V)} (ok : HOk P w H h) (e : Rd H a (.dT kvs)) : kvs.length ≤ sizeLine ∧ (a == sysModules) = false ∧
  ∃ xs, KT H kvs xs ∧ h.DictOfH (tupleKind (mixKind P w)) a xs := by
 obtain ⟨z, y, xs, r, o, es, ep, h1, h2, h3, h4, h5⟩ := (show ObjOk P w H h a (.dT kvs) from rd_of ok e)
 refine ⟨z, y, xs, r, o, es, ep, h1, h2, h3, h4, λ x hx => ?_, h5⟩
 have all : ∀ {l : List (List Key × V)} {m : List (List Key × Addr × Value)}, KT H l m → ∀ x ∈ m, (tupleKind (mixKind P w)).is h x.1 x.2.1 := by
  intro l m q
  induction q with
  | nil => intro x hx; exact nomatch hx
  | @cons p q ps qs hq t ih =>
   intro x hx
   rcases List.mem_cons.mp hx with e | hx
   ·subst e
    exact key_of ok (by rw [← hq.1]; exact hq.2.1)
   ·exact ih x hx
 exact all r x hx
theorem dt_of {kvs : List (List Key × V)} (ok : HOk P w H h) (e : H a = some (.dT kvs)) : kvs.length ≤ sizeLine ∧ (a == sysModules) = false ∧
  ∃ xs, KT H kvs xs ∧ h.DictOfH (tupleKind (mixKind P w)) a xs := dt_rd ok (.inl e)
end
def DGet (H : Hp) (a : Addr) (y : V) (r : Option V) : Prop :=
 (∃ kvs k, Rd H a (.dK kvs) ∧ y = kV k ∧ r = valV kvs k) ∨ ∃ kvs k b, Rd H a (.dT kvs) ∧ y = .ref b ∧ H b = some (.tup (k.map kV)) ∧ r = valV kvs k
def DPut (H : Hp) (a : Addr) (y v : V) (H' : Hp) : Prop :=
 (∃ kvs k, H a = some (.dK kvs) ∧ y = kV k ∧ kvs.length < sizeLine ∧ H' = upd H a (.dK (putK kvs k v))) ∨
 ∃ kvs k b, H a = some (.dT kvs) ∧ y = .ref b ∧ H b = some (.tup (k.map kV)) ∧ kvs.length < sizeLine ∧ H' = upd H a (.dT (putK kvs k v))
theorem DGet.k {H : Hp} {a : Addr} {kvs : List (Key × V)} {k : Key} (e : H a = some (.dK kvs)) : DGet H a (kV k) (valV kvs k) := .inl ⟨kvs, k, .inl e, rfl, rfl⟩
theorem DGet.t {H : Hp} {a b : Addr} {kvs : List (List Key × V)} {k : List Key} (e : H a = some (.dT kvs)) (eb : H b = some (.tup (k.map kV))) : DGet H a (.ref b) (valV kvs k) := .inr ⟨kvs, k, b, .inl e, rfl, eb, rfl⟩
theorem DPut.k {H : Hp} {a : Addr} {kvs : List (Key × V)} {k : Key} {v : V} (e : H a = some (.dK kvs)) (hl : kvs.length < sizeLine) : DPut H a (kV k) v (upd H a (.dK (putK kvs k v))) := .inl ⟨kvs, k, e, rfl, hl, rfl⟩
theorem DPut.t {H : Hp} {a b : Addr} {kvs : List (List Key × V)} {k : List Key} {v : V} (e : H a = some (.dT kvs)) (eb : H b = some (.tup (k.map kV))) (hl : kvs.length < sizeLine) :
  DPut H a (.ref b) v (upd H a (.dT (putK kvs k v))) := .inr ⟨kvs, k, b, e, rfl, eb, hl, rfl⟩
section
variable {X : Cx} {pins : List (Addr × Obj)} {σ : St} {H : Hp} {s : Shared} {a : Addr} {y v : V} {u r : Value} {o : Option V} {A : Around} {E : Value → Shared → Prop}
theorem Inv.big (I : Inv X pins σ H s) : sysModules < s.heap.objs.size := by
 have h : mainGlobals < s.heap.objs.size := (I.mod.glob.keeps I.bk).lt
 exact Nat.lt_trans (by decide) h
theorem d_in {Q : Value → Shared → Prop} (hu : A.units + 1 < cLine) (I : Inv X pins σ H s) (g : DGet H a y o) (ry : RelV y u) (h : ∀ s', Inv X pins σ H s' → Q (.bool o.isSome) s') :
  wpAny (model X.prog X.w) A (compareOp .In u (.ref a)) Q E s := by
 rcases g with ⟨kvs, k, e, ey, l⟩ | ⟨kvs, k, b, e, ey, eb, l⟩
 ·subst ey
  obtain ⟨z, hd, vs, rel, dd⟩ := dk_rd I.hok e
  refine wpAny_in_of (kV_is ry) hd dd.mapOf ?_
  rw [← (rel.val k).isSome_eq, ← l]
  exact h _ (I.tok _)
 ·subst ey
  cases (show u = Value.ref b from ry)
  obtain ⟨z, hd, xs, rel, dd⟩ := dt_rd I.hok e
  refine wpAny_in_heap (tupleKind_room_in1 hu) (key_of I.hok eb) hd dd ?_
  have q := (rel.val k).isSome_eq
  rw [Option.isSome_map] at q
  rw [← q, ← l]
  exact h _ (I.tok _)
theorem d_write {h' : Heap} {t' : Nat} {ob : HO} (I : Inv X pins σ H s) (mu : Mut (H a)) (hs : Heap.SameBut a s.heap h') (he : ∃ q, h'.get? a = some q) (new : ObjOk X.prog X.w (upd H a ob) h' a ob) :
  Inv X pins σ (upd H a ob) { s with heap := h', toks := t' } :=
 I.write (x := a) (e := a) mu (.inl rfl) (λ b q hb z => (hs.2 b hb).trans z) he new
theorem dk_new {P : Program} {w : World} {H' : Hp} {h' : Heap} {kvs : List (Key × V)} {vs : List (Key × Value)} (z : kvs.length ≤ sizeLine) (hd : (a == sysModules) = false) (rel : KV kvs vs) (dd : h'.DictOf (mixKind P w) a vs) :
  ObjOk P w H' h' a (.dK kvs) := ⟨z, hd, vs, rel, dd⟩
theorem d_setItem {H' : Hp} {Q : Unit → Shared → Prop} (hu : A.units + 1 < cLine) (I : Inv X pins σ H s) (g : DPut H a y v H') (ry : RelV y u) (rv : RelV v r) (h : ∀ s', Inv X pins σ H' s' → Q () s') :
  wpAny (model X.prog X.w) A (setItem (.ref a) u r) Q E s := by
 rcases g with ⟨kvs, k, e, ey, l, eH⟩ | ⟨kvs, k, b, e, ey, eb, l, eH⟩
 ·subst ey eH
  obtain ⟨z, hd, vs, rel, dd⟩ := dk_of I.hok e
  have hz : vs.length ≤ sizeLine := by rw [← rel.length]; exact z
  have hl : (putK kvs k v).length ≤ sizeLine := by have := length_putK kvs k v; omega
  refine wpAny_setItem_pairs (hsz := hz) (kV_is ry) dd λ h' dd' hs => h _ ?_
  have he : ∃ q, h'.get? a = some q := let ⟨q, _, _, hq, _⟩ := dd'; ⟨q, hq⟩
  exact d_write I (by rw [e]; exact True.intro) hs he (dk_new hl hd (rel.put k rv) dd')
 ·subst ey eH
  cases (show u = Value.ref b from ry)
  obtain ⟨z, hd, xs, rel, dd⟩ := dt_of I.hok e
  have hz : xs.length ≤ sizeLine := by rw [← Paired.length rel]; exact z
  have hl : (putK kvs k v).length ≤ sizeLine := by have := length_putK kvs k v; omega
  refine wpAny_setItem_heap (hsz := hz) (tupleKind_room_in1 hu) (key_of I.hok eb) dd λ h' dd' hs => h _ ?_
  obtain ⟨q, es, ep, hq, h2, h3, h4, _, h5⟩ := dd'
  refine d_write I (by rw [e]; exact True.intro) hs ⟨q, hq⟩ ⟨hl, hd, _, (rel.put k eb rv).keeps λ c ys ec => ?_, q, es, ep, hq, h2, h3, h4, h5⟩
  rw [upd_ne (ne_of ec e (λ z => nomatch z))]
  exact ec
end
section
variable {X : Cx} {pins : List (Addr × Obj)} {σ : St} {H : Hp} {s : Shared} {a : Addr} {kvs : List (Key × V)} {k : Key} {u : Value} {A : Around} {E : Value → Shared → Prop}
end
def sDPut (td ty tv : TE) : TS := λ D σ H => tv σ H λ v H1 => td σ H1 λ x H2 => ty σ H2 λ y H3 => ∃ a H4, x = .ref a ∧ DPut H3 a y v H4 ∧ D.nx σ H4
section
variable {X : Cx} {o i e value : Expr} {pos pos' tpos : Pos} {td ty tv : TE}
theorem ps_dput (hu : X.A.units + 1 < cLine) (ho : PE X o td) (hi : PE X i ty) (hv : PE X value tv) (hs : swapsWith value (some (.Subscript o i pos')) pos.line X.env = pure false) :
  PS X (.Assign [.Subscript o i pos'] value pos) (sDPut td ty tv) := by
 intro pins s σ H D I h
 refine wpAny_Assign_Subscript (thn (hv pins s σ H _ I h) λ r s1 ⟨v, H1, I1, rv, q1⟩ => thn (ho pins s1 σ H1 _ I1 q1) λ u s2 ⟨x, H2, I2, rx, q2⟩ => thn (hi pins s2 σ H2 _ I2 q2) λ iv s3 ⟨y, H3, I3, ry, a, H4, ex, g, q3⟩ => ?_) hs
 subst ex
 obtain rfl : u = Value.ref a := rx
 exact d_setItem hu I3 g ry rv λ s4 I4 => ⟨σ, H4, I4, q3⟩
end
theorem dk_empty {P : Program} {w : World} {H : Hp} (h : Heap) (hb : sysModules < h.objs.size) : ObjOk P w H (h.push { cls := .type "dict", data := .dict #[] }) h.objs.size (.dK []) :=
 ⟨Nat.zero_le _, beq_eq_false_iff_ne.mpr (Ne.symm (Nat.ne_of_lt hb)), [], .nil, Heap.DictOf.new h⟩
def tDNewK : TE := λ _ H Q => ∀ p, H p = none → Q (.ref p) (upd H p (.dK []))
section
variable {X : Cx} {pos : Pos}
theorem pe_dnewK : PE X (.Dict [] [] pos) tDNewK := λ pins s σ H Q I h =>
 wpAny_Dict_empty ⟨.ref s.heap.objs.size, _, I.laid (a := s.heap.objs.size) (o := .dK []) (t' := s.toks) (λ _ _ q => Heap.get?_push_of_some _ q) (Nat.le_refl _) (dk_empty s.heap I.big), rfl, h _ (I.hok.fresh (Nat.le_refl _))⟩
end
end L2
namespace L3
open PySem PySem.Spec PyProof.Rows L2
abbrev St := L2.St
structure FreshX (X : Cx) (pins : List (Addr × Obj)) (H : Hp) (b : Addr) : Prop where
 nl : b ≠ X.env.locals
 nc : ∀ x c, X.env.cells.lookup x = some c → c ≠ b
 np : ∀ p ∈ X.pn ++ pins, p.1 ≠ b
 n0 : X.s₀.heap.get? b = none
 nh : H b = none
structure Flies (X : Cx) (pins : List (Addr × Obj)) (H : Hp) (s : Shared) (ea : Addr) (C : Value) : Prop where
 ex : ∃ oe vs a0, s.heap.get? ea = some oe ∧ oe.cls = C ∧ oe.data = .fields vs ∧ vs[0]? = some a0 ∧
  (vs[1]? = some .none ∨ ∃ T oT ts, vs[1]? = some (.ref T) ∧ T ≠ ea ∧ s.heap.get? T = some oT ∧ oT.data = .fields ts ∧ ts[3]? = some .none ∧ FreshX X pins H T)
 fr : FreshX X pins H ea
def CXR (P : Program) (w : World) : CXT := λ outer H s E e s' => ∃ (ea : Addr) (C : Value) (H' : Hp), e = .ref ea ∧ s'.os = s.os ∧ AllBare s'.gens ∧ Un (frs outer) [] H H' s.heap s'.heap ∧ HOk P w H' s'.heap ∧
 (s.heap.get? ea = none ∧ H' ea = none) ∧
 (∃ oe vs a0 T oT ts, s'.heap.get? ea = some oe ∧ oe.cls = C ∧ oe.data = .fields vs ∧ vs[0]? = some a0 ∧ vs[1]? = some (.ref T) ∧ T ≠ ea ∧ s'.heap.get? T = some oT ∧ oT.data = .fields ts ∧ ts[3]? = some .none ∧ s.heap.get? T = none ∧ H' T = none) ∧
 E C none H'
theorem objOk_some {P : Program} {w : World} {H : Hp} {h : Heap} {a : Addr} {o : HO} (x : ObjOk P w H h a o) : ∃ u, h.get? a = some u := by
 cases o with
 | lst xs => obtain ⟨_, _, _, _, e⟩ := x; exact ⟨_, e⟩
 | tup xs => obtain ⟨_, _, _, ob, e, _⟩ := x; exact ⟨_, e⟩
 | dK kvs => obtain ⟨_, _, _, _, o, _, _, e, _⟩ := x; exact ⟨_, e⟩
 | dT kvs => obtain ⟨_, _, _, _, o, _, _, e, _⟩ := x; exact ⟨_, e⟩
 | set S n => obtain ⟨o, _, _, _, e, _⟩ := x; exact ⟨_, e⟩
 | ins C dx fs => obtain ⟨_, _, _, e, _⟩ := x; exact ⟨_, e⟩
 | own y => exact x
 | xd fs => obtain ⟨_, ⟨_, _, _, e, _⟩, _⟩ := x; exact ⟨_, e⟩
 | rng lo hi => obtain ⟨_, _, _, e⟩ := x; exact ⟨_, e⟩
 | frz ob u => obtain ⟨e, _⟩ := x; exact ⟨_, e⟩
 | tbl ps => exact ⟨_, x⟩
 | met f y => exact ⟨_, x⟩
 | ext φ => obtain ⟨_, e, _⟩ := x; exact e
section
variable {X : Cx} {pins : List (Addr × Obj)} {σ : St} {H H' : Hp} {s s' : Shared} {ea : Addr} {C : Value}
theorem freshX_of (I : Inv X pins σ H s) (hex : X.ex = []) {b : Addr} (e : s.heap.get? b = none) (n : H' b = none) : FreshX X pins H' b where
 nl := λ z => by
  obtain ⟨m, ⟨o, _, _, ho, _⟩, _⟩ := I.loc
  rw [← z, e] at ho; cases ho
 nc := λ x c h z => by
  obtain ⟨v, o, ho, _⟩ := I.cell x c h
  rw [z, e] at ho; cases ho
 np := λ p hp z => by
  have := (I.pin p hp).1
  rw [z, e] at this; cases this
 n0 := by
  cases q : X.s₀.heap.get? b with
  | none => rfl
  | some o =>
   obtain ⟨o', h'⟩ := I.base.there b o q (by rw [hex]; simp)
   rw [e] at h'; cases h'
 nh := n
theorem inv_flies (I : Inv X pins σ H s) (hex : X.ex = []) {E : XK} {e : Value} (h : CXR X.prog X.w X.stack H s E e s') :
  ∃ ea C H', e = .ref ea ∧ Inv X pins σ H' s' ∧ Flies X pins H' s' ea C ∧ E C none H' := by
 obtain ⟨ea, C, H', rfl, os, bare, un, hok, ⟨n1, n2⟩, ⟨oe, vs, a0, T, oT, ts, t1, t2, t3, t4, t5, t6, t7, t8, t9, t10, t11⟩, hE⟩ := h
 refine ⟨ea, C, H', rfl, I.call' os un hok bare (ch := []) (λ b z => absurd z (by simp)), ⟨⟨oe, vs, a0, t1, t2, t3, t4, .inr ⟨T, oT, ts, t5, t6, t7, t8, t9, freshX_of I hex t10 t11⟩⟩, freshX_of I hex n1 n2⟩, hE⟩
def gnd (X : Cx) (s : Shared) (l : List Addr) : Heap := PySem.W.hideAll s.heap (frs X.stack ++ l)
theorem gnd_stays {l : List Addr} : (gnd X s l).StaysIn s.heap := λ b o q => PySem.W.of_hideAll _ q
theorem gnd_none {l : List Addr} {b : Addr} (h : b ∈ l) : (gnd X s l).get? b = none := PySem.W.hideAll_none _ (List.mem_append_right _ h)
theorem gnd_get {l : List Addr} {b : Addr} {o : Obj} (e : s.heap.get? b = some o) (h1 : b ∉ frs X.stack) (h2 : b ∉ l) : (gnd X s l).get? b = some o :=
 PySem.W.hideAll_get _ e λ z => (List.mem_append.mp z).elim h1 h2
theorem gnd_frames (I : Inv X pins σ H s) {l : List Addr} : s.heap.FunFrames (gnd X s l) X.stack :=
 PySem.W.funFrames_hide I.stack λ env he a ha => List.mem_append_left _ (List.mem_filterMap.mpr ⟨env, he, ha⟩)
theorem leave_ok {M : Model} {E : XK} {E' : Value → Shared → Prop} (I : Inv X pins σ H s) (hex : X.ex = []) (hst : X.stack = X.env :: X.outer) (hf : X.env.frame = some X.env.locals) (F : Flies X pins H s ea C) (h : E C none H) :
  wpAny M X.A (leaving X.env (.ref ea)) (λ _ s'' => CXR X.prog X.w X.outer X.H₀ X.s₀ E (.ref ea) s'') E' s := by
 obtain ⟨oe, vs, a0, t1, t2, t3, t4, t5⟩ := F.ex
 have hfr : X.A.frames = some (X.env :: X.outer) := by rw [← hst]; exact I.ok.frames
 have fin : ∀ (l : List Addr) (h' : Heap), (∀ b ∈ l, FreshX X pins H b) → ea ∈ l → Heap.LeftW (gnd X s l) (X.env :: X.outer) ea C a0 s.heap h' → CXR X.prog X.w X.outer X.H₀ X.s₀ E (.ref ea) { s with heap := h' } := by
  intro l h' hl he hL
  obtain ⟨k1, k2, ⟨oe', vs', T, oT, ts, g1, ⟨g2, g3⟩, g4, g5, g6, g7, g8, g9, g10⟩, k4⟩ := hL
  have stk0 : ∀ b o, b ∈ frs X.stack → s.heap.get? b = some o → ∀ vs, o.data ≠ .fields vs := λ b o hb e => by
   obtain ⟨_, o', e', d⟩ := I.stack.mem hb
   rw [e] at e'; cases e'; exact d
  have keep : ∀ b o, b ∉ frs X.stack → b ∉ l → s.heap.get? b = some o → h'.get? b = some o := λ b o n1 n2 e => k1 b o (gnd_get e n1 n2)
  have up : ∀ b o, b ∈ frs X.stack → s.heap.get? b = some o → ∃ sl, h'.get? b = some { o with slots := sl } := λ b o hb e => k4 b o e (stk0 b o hb e)
  have trk : ∀ b o, H b = some o → b ∉ frs X.stack ∧ b ∉ l := λ b o e =>
   ⟨λ z => (by rw [I.stkFree b z] at e; cases e), λ z => (by rw [(hl b z).nh] at e; cases e)⟩
  have old : ∀ b o, X.s₀.heap.get? b = some o → b ∉ l ∧ b ≠ X.env.locals := λ b o e =>
   ⟨λ z => (by rw [(hl b z).n0] at e; cases e), Nat.ne_of_lt (Nat.lt_of_lt_of_le (Heap.lt_size e) I.ok.above)⟩
  have stk : ∀ b, b ≠ X.env.locals → b ∉ frs X.outer → b ∉ frs X.stack := λ b n1 n2 hb => (List.mem_cons.mp (I.stkSub b hb)).elim n1 n2
  have inst : ∀ b, b ∈ frs X.outer → b ∈ frs X.stack := λ b hb => by
   rw [hst]
   unfold frs
   rw [List.filterMap_cons, hf]
   exact List.mem_cons_of_mem _ hb
  have Tn : ∀ o, s.heap.get? T = some o → T ∈ l := λ o e => by
   refine Classical.byContradiction λ n => ?_
   have ns : T ∉ frs X.stack := λ z => by
    obtain ⟨_, o', e', d⟩ := k2.mem (by rw [hst] at z; exact z)
    rw [g8] at e'; cases e'; exact d ts g9
   have := gnd_get (X := X) e ns n
   rw [g6] at this; cases this
  refine ⟨ea, C, H, rfl, I.os, I.bare, ⟨λ b o e n hb _ => ?_, λ b o e n hb _ => ?_, λ b o e n _ => ?_, λ b o e _ => ?_, I.base.tups, I.base.frzs, I.base.tbls⟩, λ a o e => ?_, ⟨(hl ea he).n0, (hl ea he).nh⟩, ⟨oe', vs', a0, T, oT, ts, g1, g2, g4, g3, g5, g7, g8, g9, g10, ?_, ?_⟩, h⟩
  ·exact keep b o (stk b (old b o e).2 hb) (old b o e).1 (I.base.keep b o e n hb (by rw [hex]; simp))
  ·obtain ⟨sl, e1⟩ := I.base.slot b o e n hb (by rw [hex]; simp)
   obtain ⟨sl', e2⟩ := up b _ (inst b hb) e1
   exact ⟨sl', e2⟩
  ·exact I.base.free b o e n (by rw [hex]; simp)
  ·obtain ⟨o', e1⟩ := I.base.there b o e (by rw [hex]; simp)
   by_cases hb : b ∈ frs X.stack
   ·obtain ⟨sl, q⟩ := up b o' hb e1
    exact ⟨_, q⟩
   ·exact ⟨_, keep b o' hb (old b o e).1 e1⟩
  ·refine (I.hok a o e).stay (λ b u hb q => ?_) (λ _ q => q) λ _ _ q => q
   rcases hb with rfl | hb
   ·exact keep b u (trk b o e).1 (trk b o e).2 q
   ·exact keep b u (trk b _ hb).1 (trk b _ hb).2 q
  ·cases q : X.s₀.heap.get? T with
   | none => rfl
   | some o =>
    obtain ⟨o', e1⟩ := I.base.there T o q (by rw [hex]; simp)
    have := (hl T (Tn o' e1)).n0
    rw [q] at this; cases this
  ·cases q : H T with
   | none => rfl
   | some o =>
    obtain ⟨u, e1⟩ := objOk_some (I.hok T o q)
    have := (hl T (Tn u e1)).nh
    rw [q] at this; cases this
 rcases t5 with t5 | ⟨T, oT, ts, t5, t6, t7, t8, t9, fT⟩
 ·have fl := gnd_frames I (l := [ea])
  rw [hst] at fl
  refine wpAny_leaving_firstW (base := gnd X s [ea]) (a0 := a0) hfr fl hf t1 gnd_stays (gnd_none (by simp)) t3 t5 t4 λ h' hL => ?_
  rw [t2] at hL
  exact fin [ea] h' (λ b hb => by simp at hb; subst hb; exact F.fr) (by simp) hL
 ·have fl := gnd_frames I (l := [ea, T])
  rw [hst] at fl
  refine wpAny_leaving_nextW (base := gnd X s [ea, T]) (cls := C) (a0 := a0) hfr fl hf ⟨oe, vs, T, oT, ts, t1, ⟨t2, t4⟩, t3, t5, gnd_none (by simp), t6, t7, t8, t9⟩ gnd_stays (gnd_none (by simp)) λ h' hL => ?_
  exact fin [ea, T] h' (λ b hb => by
   simp at hb
   rcases hb with rfl | rfl
   ·exact F.fr
   ·exact fT) (by simp) hL
end
end L3
namespace L3
open PySem PySem.Spec PyProof.Rows L2
inductive D where
 | non | bl (b : Bool) | int (i : Int) | str (x : List Nat) | tup (ds : List D) | lst (ds : List D) | ob (c : Nat) (ns : List Str) (ds : List D) | dic (ks : List Key) (ds : List D)
inductive R (α : Type) where
 | ok (a : α) | exc (c : Nat) | stuck
def R.bind {α β : Type} : R α → (α → R β) → R β
 | .ok a, f => f a
 | .exc c, _ => .exc c
 | .stuck, _ => .stuck
@[simp] theorem R.bind_ok {α β : Type} (a : α) (f : α → R β) : (R.ok a).bind f = f a := rfl
@[simp] theorem R.bind_exc {α β : Type} (c : Nat) (f : α → R β) : (R.exc c : R α).bind f = R.exc c := rfl
@[simp] theorem R.bind_stuck {α β : Type} (f : α → R β) : (R.stuck : R α).bind f = R.stuck := rfl
structure Zx where
 K : PySem.W.Frag
 κ : Nat → Addr
abbrev stV (x : List Nat) : V := .str ⟨x.toArray⟩
mutual
def Den (Z : Zx) (G : Hp) : V → D → Prop
 | v, .non => v = .non
 | v, .bl b => v = .bl b
 | v, .int i => v = .int i
 | v, .str x => v = stV x
 | v, .tup ds => ∃ a vs, v = .ref a ∧ SqT Z.K G a vs ∧ Dens Z G vs ds
 | v, .lst ds => ∃ a vs, v = .ref a ∧ SqL Z.K G a vs ∧ Dens Z G vs ds
 | v, .ob c ns ds => ∃ a dx vs, v = .ref a ∧ G a = some (.ins (Z.κ c) dx (ns.zip vs)) ∧ ns.length = vs.length ∧ Dens Z G vs ds
 | v, .dic ks ds => ∃ a vs, v = .ref a ∧ G a = some (.dK (ks.zip vs)) ∧ ks.length = vs.length ∧ Dens Z G vs ds
def Dens (Z : Zx) (G : Hp) : List V → List D → Prop
 | [], [] => True
 | v :: vs, d :: ds => Den Z G v d ∧ Dens Z G vs ds
 | [], _ :: _ => False
 | _ :: _, [] => False
end
theorem same_seqT {K : PySem.W.Frag} {H H' : Hp} {a : Addr} {xs : List V} (e : Same H H') (h : SqT K H a xs) : SqT K H' a xs := by
 rcases h with (h | ⟨o, h⟩) | h
 ·exact .inl (.inl (e _ _ h))
 ·exact .inl (.inr ⟨o, e _ _ h⟩)
 ·exact .inr h
section
variable {Z : Zx} {G G' : Hp}
mutual
theorem Den.mono (s : Same G G') : ∀ {v : V} {d : D}, Den Z G v d → Den Z G' v d
 | v, .non, h => by unfold Den at h ⊢; exact h
 | v, .bl b, h => by unfold Den at h ⊢; exact h
 | v, .int i, h => by unfold Den at h ⊢; exact h
 | v, .str x, h => by unfold Den at h ⊢; exact h
 | v, .tup ds, h => by
  unfold Den at h ⊢
  obtain ⟨a, vs, e, q, r⟩ := h
  exact ⟨a, vs, e, same_seqT s q, Dens.mono s r⟩
 | v, .lst ds, h => by
  unfold Den at h ⊢
  obtain ⟨a, vs, e, q, r⟩ := h
  exact ⟨a, vs, e, s.seq q, Dens.mono s r⟩
 | v, .ob c ns ds, h => by
  unfold Den at h ⊢
  obtain ⟨a, dx, vs, e, q, l, r⟩ := h
  exact ⟨a, dx, vs, e, s _ _ q, l, Dens.mono s r⟩
 | v, .dic ks ds, h => by
  unfold Den at h ⊢
  obtain ⟨a, vs, e, q, l, r⟩ := h
  exact ⟨a, vs, e, s _ _ q, l, Dens.mono s r⟩
theorem Dens.mono (s : Same G G') : ∀ {vs : List V} {ds : List D}, Dens Z G vs ds → Dens Z G' vs ds
 | [], [], h => by unfold Dens; trivial
 | v :: vs, d :: ds, h => by
  unfold Dens at h ⊢
  exact ⟨Den.mono s h.1, Dens.mono s h.2⟩
 | [], _ :: _, h => by unfold Dens at h; exact h.elim
 | _ :: _, [], h => by unfold Dens at h; exact h.elim
end
theorem dens_nil : Dens Z G [] [] := by unfold Dens; trivial
theorem dens_cons {v : V} {vs : List V} {d : D} {ds : List D} (h : Den Z G v d) (r : Dens Z G vs ds) : Dens Z G (v :: vs) (d :: ds) := by unfold Dens; exact ⟨h, r⟩
theorem Dens.length : ∀ {vs : List V} {ds : List D}, Dens Z G vs ds → vs.length = ds.length
 | [], [], _ => rfl
 | _ :: _, _ :: _, h => by unfold Dens at h; simp [Dens.length h.2]
 | [], _ :: _, h => by unfold Dens at h; exact h.elim
 | _ :: _, [], h => by unfold Dens at h; exact h.elim
theorem Dens.get : ∀ {vs : List V} {ds : List D} {i : Nat} {d : D}, Dens Z G vs ds → ds[i]? = some d → ∃ v, vs[i]? = some v ∧ Den Z G v d
 | [], [], _, _, _, e => by simp at e
 | v :: _, _ :: _, 0, _, h, e => by unfold Dens at h; simp at e; subst e; exact ⟨v, rfl, h.1⟩
 | _ :: _, _ :: _, i + 1, _, h, e => by unfold Dens at h; simpa using Dens.get h.2 (by simpa using e)
 | [], _ :: _, _, _, h, _ => by unfold Dens at h; exact h.elim
 | _ :: _, [], _, _, h, _ => by unfold Dens at h; exact h.elim
theorem Dens.append : ∀ {vs : List V} {ds : List D} {us : List V} {es : List D}, Dens Z G vs ds → Dens Z G us es → Dens Z G (vs ++ us) (ds ++ es)
 | [], [], _, _, _, h => h
 | _ :: _, _ :: _, _, _, h, k => by unfold Dens at h; exact dens_cons h.1 (Dens.append h.2 k)
 | [], _ :: _, _, _, h, _ => by unfold Dens at h; exact h.elim
 | _ :: _, [], _, _, h, _ => by unfold Dens at h; exact h.elim
theorem Dens.drop : ∀ {vs : List V} {ds : List D} (n : Nat), Dens Z G vs ds → Dens Z G (vs.drop n) (ds.drop n)
 | _, _, 0, h => h
 | [], [], _ + 1, _ => by simp; exact dens_nil
 | _ :: _, _ :: _, n + 1, h => by unfold Dens at h; simpa using Dens.drop n h.2
 | [], _ :: _, _ + 1, h => by unfold Dens at h; exact h.elim
 | _ :: _, [], _ + 1, h => by unfold Dens at h; exact h.elim
theorem Dens.take : ∀ {vs : List V} {ds : List D} (n : Nat), Dens Z G vs ds → Dens Z G (vs.take n) (ds.take n)
 | _, _, 0, _ => by simp; exact dens_nil
 | [], [], _ + 1, _ => by simp; exact dens_nil
 | _ :: _, _ :: _, n + 1, h => by unfold Dens at h; simpa using dens_cons h.1 (Dens.take n h.2)
 | [], _ :: _, _ + 1, h => by unfold Dens at h; exact h.elim
 | _ :: _, [], _ + 1, h => by unfold Dens at h; exact h.elim
theorem Dens.set {v : V} {d : D} (x : Den Z G v d) : ∀ {vs : List V} {ds : List D} (n : Nat), Dens Z G vs ds → Dens Z G (vs.set n v) (ds.set n d)
 | [], [], _, _ => by simp; exact dens_nil
 | _ :: _, _ :: _, 0, h => by unfold Dens at h; simpa using dens_cons x h.2
 | _ :: _, _ :: _, n + 1, h => by unfold Dens at h; simpa using dens_cons h.1 (Dens.set x n h.2)
 | [], _ :: _, _, h => by unfold Dens at h; exact h.elim
 | _ :: _, [], _, h => by unfold Dens at h; exact h.elim
theorem dens_ints (ns : List Int) : Dens Z G (ns.map V.int) (ns.map D.int) := by
 induction ns with
 | nil => exact dens_nil
 | cons n r ih => exact dens_cons (by unfold Den; rfl) ih
end
inductive Sl where
 | sh (d : D) | ow (ds : List D) | oo (c : Nat) (ns : List Str) (ds : List D)
abbrev Ev := List (Option Sl)
structure Gd where
 g : Hp
 m : Addr → Prop
structure Hold (B : Gd) (H₀ G H : Hp) : Prop where
 gG : Same B.g G
 GH : Same G H
 old : ∀ b o, H₀ b = some o → ¬ B.m b → H b = some o
 there : ∀ b, H₀ b ≠ none → H b ≠ none
 lent : ∀ b, H₀ b ≠ none → B.g b = none → G b = none
structure Rep (Z : Zx) (B : Gd) (H₀ G H : Hp) (σ : St) (δ : Ev) : Prop extends Hold B H₀ G H where
 len : σ.length = δ.length
 sh : ∀ (i : Nat) d, δ[i]? = some (some (.sh d)) → ∃ v, σ[i]? = some (some v) ∧ Den Z G v d
 ow : ∀ (i : Nat) ds, δ[i]? = some (some (.ow ds)) → ∃ a vs, σ[i]? = some (some (.ref a)) ∧ H a = some (.lst vs) ∧ Dens Z G vs ds ∧ G a = none ∧ H₀ a = none
 sep : ∀ (i j : Nat) ds es a, i ≠ j → δ[i]? = some (some (.ow ds)) → δ[j]? = some (some (.ow es)) → σ[i]? = some (some (.ref a)) → σ[j]? = some (some (.ref a)) → False
 oo : ∀ (i : Nat) c ns ds, δ[i]? = some (some (.oo c ns ds)) → ∃ x dx vs, σ[i]? = some (some (.ref x)) ∧ H x = some (.ins (Z.κ c) dx (ns.zip vs)) ∧ ns.length = vs.length ∧ Dens Z G vs ds ∧ G x = none ∧ B.m x
 oo1 : ∀ (i j : Nat) c ns ds c' ns' ds' x, i ≠ j → δ[i]? = some (some (.oo c ns ds)) → δ[j]? = some (some (.oo c' ns' ds')) → σ[i]? = some (some (.ref x)) → σ[j]? = some (some (.ref x)) → False
structure Ext (G H G' H' : Hp) : Prop where
 sG : Same G G'
 sH : Same H H'
 GH : Same G' H'
 new : ∀ a, G' a ≠ none → G a ≠ none ∨ H a = none
theorem Ext.refl {G H : Hp} (h : Same G H) : Ext G H G H := ⟨Same.refl _, Same.refl _, h, λ _ z => .inl z⟩
theorem Ext.trans {G H G1 H1 G2 H2 : Hp} (a : Ext G H G1 H1) (b : Ext G1 H1 G2 H2) : Ext G H G2 H2 :=
 ⟨a.sG.trans b.sG, a.sH.trans b.sH, b.GH, λ x z => (b.new x z).elim (a.new x) λ q => .inr (a.sH.free q)⟩
section
variable {Z : Zx} {B : Gd} {H₀ G H G' H' : Hp} {σ : St} {δ : Ev}
theorem Hold.ext (h : Hold B H₀ G H) (e : Ext G H G' H') : Hold B H₀ G' H' where
 gG := h.gG.trans e.sG
 GH := e.GH
 old := λ b o q n => e.sH _ _ (h.old b o q n)
 there := λ b q => by
  have := h.there b q
  cases z : H b with
  | none => exact absurd z this
  | some o => rw [e.sH _ _ z]; simp
 lent := λ b q n => by
  cases z : G' b with
  | none => rfl
  | some o =>
   rcases e.new b (by rw [z]; simp) with y | y
   ·exact absurd (h.lent b q n) y
   ·exact absurd y (h.there b q)
theorem Rep.ext (r : Rep Z B H₀ G H σ δ) (e : Ext G H G' H') : Rep Z B H₀ G' H' σ δ where
 toHold := r.toHold.ext e
 len := r.len
 sh := λ i d q => let ⟨v, a, b⟩ := r.sh i d q; ⟨v, a, b.mono e.sG⟩
 ow := λ i ds q => by
  obtain ⟨a, vs, x1, x2, x3, x4, x5⟩ := r.ow i ds q
  refine ⟨a, vs, x1, e.sH _ _ x2, x3.mono e.sG, ?_, x5⟩
  cases z : G' a with
  | none => rfl
  | some o =>
   rcases e.new a (by rw [z]; simp) with y | y
   ·exact absurd x4 y
   ·rw [x2] at y; cases y
 sep := r.sep
 oo := λ i c ns ds q => by
  obtain ⟨x, dx, vs, x1, x2, x3, x4, x5, x6⟩ := r.oo i c ns ds q
  refine ⟨x, dx, vs, x1, e.sH _ _ x2, x3, x4.mono e.sG, ?_, x6⟩
  cases z : G' x with
  | none => rfl
  | some o =>
   rcases e.new x (by rw [z]; simp) with y | y
   ·exact absurd x5 y
   ·rw [x2] at y; cases y
 oo1 := r.oo1
theorem getset {α : Type} {l : List α} {i j : Nat} {x y : α} (h : (l.set i x)[j]? = some y) : (j = i ∧ y = x ∧ i < l.length) ∨ (j ≠ i ∧ l[j]? = some y) := by
 by_cases e : j = i
 ·subst e
  by_cases hl : j < l.length
  ·rw [List.getElem?_set_self hl] at h; exact .inl ⟨rfl, (Option.some.inj h).symm, hl⟩
  ·rw [List.getElem?_eq_none (by simpa using hl)] at h; cases h
 ·rw [List.getElem?_set_ne (Ne.symm e)] at h; exact .inr ⟨e, h⟩
theorem Rep.setSh (r : Rep Z B H₀ G H σ δ) {i : Nat} {v : V} {d : D} (h : Den Z G v d) : Rep Z B H₀ G H (σ.set i (some v)) (δ.set i (some (.sh d))) where
 toHold := r.toHold
 len := by simpa using r.len
 sh := λ j e q => by
  rcases getset q with ⟨rfl, e1, hl⟩ | ⟨n, q⟩
  ·cases e1
   exact ⟨v, List.getElem?_set_self (by rw [r.len]; exact hl), h⟩
  ·obtain ⟨u, a, b⟩ := r.sh j e q
   exact ⟨u, by rw [List.getElem?_set_ne (Ne.symm n)]; exact a, b⟩
 ow := λ j ds q => by
  rcases getset q with ⟨rfl, e1, hl⟩ | ⟨n, q⟩
  ·cases e1
  ·obtain ⟨a, vs, x1, x2⟩ := r.ow j ds q
   exact ⟨a, vs, by rw [List.getElem?_set_ne (Ne.symm n)]; exact x1, x2⟩
 sep := λ j k ds es a n q1 q2 s1 s2 => by
  rcases getset q1 with ⟨_, e1, _⟩ | ⟨n1, q1⟩
  ·cases e1
  ·rcases getset q2 with ⟨_, e1, _⟩ | ⟨n2, q2⟩
   ·cases e1
   ·rw [List.getElem?_set_ne (Ne.symm n1)] at s1
    rw [List.getElem?_set_ne (Ne.symm n2)] at s2
    exact r.sep j k ds es a n q1 q2 s1 s2
 oo := λ j c ns ds q => by
  rcases getset q with ⟨rfl, e1, hl⟩ | ⟨n, q⟩
  ·cases e1
  ·obtain ⟨x, dx, vs, x1, x2⟩ := r.oo j c ns ds q
   exact ⟨x, dx, vs, by rw [List.getElem?_set_ne (Ne.symm n)]; exact x1, x2⟩
 oo1 := λ j k c ns ds c' ns' ds' x n q1 q2 s1 s2 => by
  rcases getset q1 with ⟨_, e1, _⟩ | ⟨n1, p1⟩
  ·cases e1
  ·rcases getset q2 with ⟨_, e2, _⟩ | ⟨n2, p2⟩
   ·cases e2
   ·rw [List.getElem?_set_ne (Ne.symm n1)] at s1
    rw [List.getElem?_set_ne (Ne.symm n2)] at s2
    exact r.oo1 j k c ns ds c' ns' ds' x n p1 p2 s1 s2
theorem Rep.setOw (r : Rep Z B H₀ G H σ δ) {i : Nat} {a : Addr} {vs : List V} {ds : List D} (h1 : H a = some (.lst vs)) (h2 : Dens Z G vs ds) (h3 : G a = none) (h4 : H₀ a = none)
  (h5 : ∀ (j : Nat) es, δ[j]? = some (some (.ow es)) → j ≠ i → σ[j]? ≠ some (some (.ref a))) : Rep Z B H₀ G H (σ.set i (some (.ref a))) (δ.set i (some (.ow ds))) where
 toHold := r.toHold
 len := by simpa using r.len
 sh := λ j e q => by
  rcases getset q with ⟨rfl, e1, hl⟩ | ⟨n, q⟩
  ·cases e1
  ·obtain ⟨u, a, b⟩ := r.sh j e q
   exact ⟨u, by rw [List.getElem?_set_ne (Ne.symm n)]; exact a, b⟩
 ow := λ j es q => by
  rcases getset q with ⟨rfl, e1, hl⟩ | ⟨n, q⟩
  ·cases e1
   exact ⟨a, vs, List.getElem?_set_self (by rw [r.len]; exact hl), h1, h2, h3, h4⟩
  ·obtain ⟨b, us, x1, x2⟩ := r.ow j es q
   exact ⟨b, us, by rw [List.getElem?_set_ne (Ne.symm n)]; exact x1, x2⟩
 sep := λ j k es fs b n q1 q2 s1 s2 => by
  rcases getset q1 with ⟨ej, e1, l1⟩ | ⟨n1, p1⟩
  ·rcases getset q2 with ⟨ek, _⟩ | ⟨n2, p2⟩
   ·exact n (ej.trans ek.symm)
   ·rw [ej, List.getElem?_set_self (by rw [r.len]; exact l1)] at s1
    rw [List.getElem?_set_ne (Ne.symm n2)] at s2
    cases s1
    exact h5 k fs p2 n2 s2
  ·rcases getset q2 with ⟨ek, e1, l2⟩ | ⟨n2, p2⟩
   ·rw [ek, List.getElem?_set_self (by rw [r.len]; exact l2)] at s2
    rw [List.getElem?_set_ne (Ne.symm n1)] at s1
    cases s2
    exact h5 j es p1 n1 s1
   ·rw [List.getElem?_set_ne (Ne.symm n1)] at s1
    rw [List.getElem?_set_ne (Ne.symm n2)] at s2
    exact r.sep j k es fs b n p1 p2 s1 s2
 oo := λ j c ns es q => by
  rcases getset q with ⟨rfl, e1, hl⟩ | ⟨n, q⟩
  ·cases e1
  ·obtain ⟨x, dx, us, x1, x2⟩ := r.oo j c ns es q
   exact ⟨x, dx, us, by rw [List.getElem?_set_ne (Ne.symm n)]; exact x1, x2⟩
 oo1 := λ j k c ns es c' ns' es' x n q1 q2 s1 s2 => by
  rcases getset q1 with ⟨_, e1, _⟩ | ⟨n1, p1⟩
  ·cases e1
  ·rcases getset q2 with ⟨_, e2, _⟩ | ⟨n2, p2⟩
   ·cases e2
   ·rw [List.getElem?_set_ne (Ne.symm n1)] at s1
    rw [List.getElem?_set_ne (Ne.symm n2)] at s2
    exact r.oo1 j k c ns es c' ns' es' x n p1 p2 s1 s2
theorem Rep.updOw (r : Rep Z B H₀ G H σ δ) {i : Nat} {a : Addr} {ds es : List D} {us : List V} (q : δ[i]? = some (some (.ow ds))) (s : σ[i]? = some (some (.ref a))) (h2 : Dens Z G us es) :
  Rep Z B H₀ G (upd H a (.lst us)) σ (δ.set i (some (.ow es))) := by
 obtain ⟨a', vs, x1, x2, x3, x4, x5⟩ := r.ow i ds q
 rw [s] at x1; cases x1
 have ha : ∀ b o, G b = some o → b ≠ a := λ b o z e => by rw [e, x4] at z; cases z
 refine ⟨⟨r.gG, λ b o z => by rw [upd_ne (ha b o z)]; exact r.GH b o z, λ b o z n => ?_, λ b z => ?_, r.lent⟩, by simpa using r.len, λ j e q' => ?_, λ j fs q' => ?_, λ j k fs gs b n q1 q2 s1 s2 => ?_, λ j c ns fs q' => ?_, λ j k c ns fs c' ns' fs' x n q1 q2 s1 s2 => ?_⟩
 ·rw [upd_ne (by rintro rfl; rw [x5] at z; cases z)]; exact r.old b o z n
 ·by_cases hb : b = a
  ·subst hb; rw [upd_same]; simp
  ·rw [upd_ne hb]; exact r.there b z
 ·rcases getset q' with ⟨_, e1, _⟩ | ⟨n, q'⟩
  ·cases e1
  ·exact r.sh j e q'
 ·rcases getset q' with ⟨rfl, e1, _⟩ | ⟨n, q'⟩
  ·cases e1
   exact ⟨a, us, s, upd_same, h2, x4, x5⟩
  ·obtain ⟨b, ws, y1, y2, y3⟩ := r.ow j fs q'
   have : b ≠ a := by rintro rfl; exact r.sep j i fs ds b n q' q y1 s
   exact ⟨b, ws, y1, by rw [upd_ne this]; exact y2, y3⟩
 ·have f : ∀ (l : Nat) es', (δ.set i (some (.ow es)))[l]? = some (some (.ow es')) → ∃ es'', δ[l]? = some (some (.ow es'')) := λ l es' z => by
   rcases getset z with ⟨rfl, _⟩ | ⟨_, z⟩
   ·exact ⟨ds, q⟩
   ·exact ⟨_, z⟩
  obtain ⟨_, z1⟩ := f j fs q1
  obtain ⟨_, z2⟩ := f k gs q2
  exact r.sep j k _ _ b n z1 z2 s1 s2
 ·rcases getset q' with ⟨_, e1, _⟩ | ⟨n, q'⟩
  ·cases e1
  ·obtain ⟨x, dx, ws, y1, y2, y3⟩ := r.oo j c ns fs q'
   have : x ≠ a := ne_of y2 x2 (by intro z; cases z)
   exact ⟨x, dx, ws, y1, by rw [upd_ne this]; exact y2, y3⟩
 ·rcases getset q1 with ⟨_, e1, _⟩ | ⟨_, p1⟩
  ·cases e1
  ·rcases getset q2 with ⟨_, e2, _⟩ | ⟨_, p2⟩
   ·cases e2
   ·exact r.oo1 j k c ns fs c' ns' fs' x n p1 p2 s1 s2
def frzE (i : Nat) (δ : Ev) : Ev := match δ[i]? with
 | some (some (.ow ds)) => δ.set i (some (.sh (.lst ds)))
 | _ => δ
theorem Rep.freeze (r : Rep Z B H₀ G H σ δ) (i : Nat) : ∃ G', Rep Z B H₀ G' H σ (frzE i δ) := by
 unfold frzE
 split
 ·rename_i ds q
  obtain ⟨a, vs, x1, x2, x3, x4, x5⟩ := r.ow i ds q
  have sg : Same G (upd G a (.lst vs)) := λ b o z => by
   rw [upd_ne (by rintro rfl; rw [x4] at z; cases z)]; exact z
  have sh' : Same (upd G a (.lst vs)) H := λ b o z => by
   by_cases hb : b = a
   ·subst hb; rw [upd_same] at z; cases z; exact x2
   ·rw [upd_ne hb] at z; exact r.GH b o z
  refine ⟨upd G a (.lst vs), ⟨⟨r.gG.trans sg, sh', r.old, r.there, λ b z n => ?_⟩, by simpa using r.len, λ j e q' => ?_, λ j fs q' => ?_, λ j k fs gs b n q1 q2 s1 s2 => ?_, λ j c ns fs q' => ?_, λ j k c ns fs c' ns' fs' x n q1 q2 s1 s2 => ?_⟩⟩
  ·rw [upd_ne (by rintro rfl; exact z x5)]; exact r.lent b z n
  ·rcases getset q' with ⟨rfl, e1, _⟩ | ⟨n, q'⟩
   ·cases e1
    exact ⟨.ref a, x1, by unfold Den; exact ⟨a, vs, rfl, SqL.of upd_same, x3.mono sg⟩⟩
   ·obtain ⟨u, y1, y2⟩ := r.sh j e q'
    exact ⟨u, y1, y2.mono sg⟩
  ·rcases getset q' with ⟨_, e1, _⟩ | ⟨n, q'⟩
   ·cases e1
   ·obtain ⟨b, ws, y1, y2, y3, y4, y5⟩ := r.ow j fs q'
    have : b ≠ a := by rintro rfl; exact r.sep j i fs ds b n q' q y1 x1
    exact ⟨b, ws, y1, y2, y3.mono sg, by rw [upd_ne this]; exact y4, y5⟩
  ·rcases getset q1 with ⟨_, e1, _⟩ | ⟨n1, q1⟩
   ·cases e1
   ·rcases getset q2 with ⟨_, e1, _⟩ | ⟨n2, q2⟩
    ·cases e1
    ·exact r.sep j k fs gs b n q1 q2 s1 s2
  ·rcases getset q' with ⟨_, e1, _⟩ | ⟨n, q'⟩
   ·cases e1
   ·obtain ⟨x, dx, ws, y1, y2, y3, y4, y5, y6⟩ := r.oo j c ns fs q'
    have : x ≠ a := ne_of y2 x2 (by intro z; cases z)
    exact ⟨x, dx, ws, y1, y2, y3, y4.mono sg, by rw [upd_ne this]; exact y5, y6⟩
  ·rcases getset q1 with ⟨_, e1, _⟩ | ⟨_, p1⟩
   ·cases e1
   ·rcases getset q2 with ⟨_, e2, _⟩ | ⟨_, p2⟩
    ·cases e2
    ·exact r.oo1 j k c ns fs c' ns' fs' x n p1 p2 s1 s2
 ·exact ⟨G, r⟩
end
end L3
namespace L3
open PySem PySem.Spec PyProof.Rows L2
abbrev At (X : Cx) (pins : List (Addr × Obj)) (σ : St) (Ex : Value → Shared → Prop) : Cx := { X with xe := Ex, sg := λ p τ => p = pins ∧ τ = σ }
theorem ok_at {X : Cx} {pins : List (Addr × Obj)} {σ : St} {Ex : Value → Shared → Prop} (ok : X.Ok) : (At X pins σ Ex).Ok :=
 ⟨ok.mod, ok.kind, ok.glob, ok.blt, ok.above, ok.inj, ok.has, ok.cab, ok.hd, ok.frames, ok.stk, ok.exf, ok.bs, ok.bsz, ok.noex, ok.exfs, ok.funs, ok.frf⟩
theorem ok_unat {X : Cx} {pins : List (Addr × Obj)} {σ : St} {Ex Ex' : Value → Shared → Prop} (ok : (At X pins σ Ex).Ok) : (X.wish Ex').Ok :=
 ⟨ok.mod, ok.kind, ok.glob, ok.blt, ok.above, ok.inj, ok.has, ok.cab, ok.hd, ok.frames, ok.stk, ok.exf, ok.bs, ok.bsz, ok.noex, ok.exfs, ok.funs, ok.frf⟩
theorem inv_at {X : Cx} {pins : List (Addr × Obj)} {σ : St} {Ex Ex' : Value → Shared → Prop} {H : Hp} {s : Shared} (I : Inv (X.wish Ex') pins σ H s) : Inv (At X pins σ Ex) pins σ H s :=
 ⟨ok_at I.ok.unwish, I.os, I.bare, I.base, I.loc, I.cell, I.free, I.freeC, I.pin, I.hok, I.len, ⟨rfl, rfl⟩⟩
theorem inv_unat {X : Cx} {pins pins' : List (Addr × Obj)} {σ σ' : St} {Ex : Value → Shared → Prop} {H : Hp} {s : Shared} (hsg : ∀ p τ, X.sg p τ) (I : Inv (At X pins σ Ex) pins' σ' H s) : Inv (X.wish Ex) pins σ H s := by
 obtain ⟨rfl, rfl⟩ := I.sgm
 exact ⟨ok_unat I.ok, I.os, I.bare, I.base, I.loc, I.cell, I.free, I.freeC, I.pin, I.hok, I.len, hsg _ _⟩
def EX (X : Cx) (pins : List (Addr × Obj)) (σ : St) (Ex : Value → Shared → Prop) : XK := λ C _ H' => ∀ ea s', Inv (X.wish Ex) pins σ H' s' → Flies X pins H' s' ea C → Ex (.ref ea) s'
theorem flies_at {X : Cx} {pins pins' : List (Addr × Obj)} {σ : St} {Ex : Value → Shared → Prop} {H : Hp} {s : Shared} {ea : Addr} {C : Value} (F : Flies (At X pins σ Ex) pins' H s ea C) : Flies X pins' H s ea C := by
 have c : ∀ {b}, FreshX (At X pins σ Ex) pins' H b → FreshX X pins' H b := λ f => ⟨f.nl, f.nc, f.np, f.n0, f.nh⟩
 obtain ⟨⟨oe, vs, a0, t1, t2, t3, t4, t5⟩, fr⟩ := F
 refine ⟨⟨oe, vs, a0, t1, t2, t3, t4, t5.imp id ?_⟩, c fr⟩
 rintro ⟨T, oT, ts, x1, x2, x3, x4, x5, x6⟩
 exact ⟨T, oT, ts, x1, x2, x3, x4, x5, c x6⟩
structure Cxo (X : Cx) : Prop where
 sg : ∀ p τ, X.sg p τ
 ex : X.ex = []
theorem passes_at {X : Cx} (c : Cxo X) {pins : List (Addr × Obj)} {σ : St} {Ex : Value → Shared → Prop} : Passes (CXR X.prog X.w) (At X pins σ Ex) (EX X pins σ Ex) := by
 intro pins' σ' H s e s' I h
 obtain ⟨rfl, rfl⟩ := I.sgm
 obtain ⟨ea, C, H', rfl, I', F, hE⟩ := inv_flies I c.ex h
 exact hE ea s' (inv_unat c.sg I') (flies_at F)
theorem pe_imp {X : Cx} {e : Expr} {t t' : TE} (h : PE X e t) (k : ∀ σ H Q, t' σ H Q → t σ H Q) : PE X e t' := λ pins s σ H Q I q => h pins s σ H Q I (k σ H Q q)
theorem pt_imp {X : Cx} {e : Expr} {t t' : TT} (h : PT X e t) (k : ∀ σ H Q, t' σ H Q → t σ H Q) : PT X e t' := λ pins s σ H Q I q => h pins s σ H Q I (k σ H Q q)
theorem pw_imp {X : Cx} {e : Expr} {t t' : TT} (h : PW X e t) (k : ∀ σ H Q, t' σ H Q → t σ H Q) : PW X e t' := λ wh pins s σ H Q I q => h wh pins s σ H Q I (k σ H Q q)
theorem pa_imp {X : Cx} {e : List Expr} {t t' : TA} (h : PA X e t) (k : ∀ σ H Q, t' σ H Q → t σ H Q) : PA X e t' := λ pos pins s σ H Q I q => h pos pins s σ H Q I (k σ H Q q)
def Out {α β : Type} (rel : Hp → Hp → β → α → Prop) (κ : Nat → Addr) (E : XK) (G H : Hp) (r : R α) (Q : β → Hp → Prop) : Prop := match r with
 | .ok d => ∀ v H' G', Ext G H G' H' → rel G' H' v d → Q v H'
 | .exc c => ∀ H' G', Ext G H G' H' → E (.ref (κ c)) none H'
 | .stuck => False
section
variable {α α' β β' : Type} {rel : Hp → Hp → β → α → Prop} {rel' : Hp → Hp → β' → α' → Prop} {κ : Nat → Addr} {E : XK} {G H G' H' : Hp}
theorem Out.pre {r : R α} {Q : β → Hp → Prop} (e : Ext G H G' H') (h : Out rel κ E G H r Q) : Out rel κ E G' H' r Q := by
 cases r with
 | ok d => exact λ v H2 G2 e2 q => h v H2 G2 (e.trans e2) q
 | exc c => exact λ H2 G2 e2 => h H2 G2 (e.trans e2)
 | stuck => exact h
theorem Out.seq {ra : R α} {k : α → R α'} {P : β → Hp → Prop} {Q : β' → Hp → Prop} (h : Out rel' κ E G H (ra.bind k) Q)
  (hk : ∀ a v H1 G1, Ext G H G1 H1 → rel G1 H1 v a → Out rel' κ E G1 H1 (k a) Q → P v H1) : Out rel κ E G H ra P := by
 cases ra with
 | ok d => exact λ v H2 G2 e2 q => hk d v H2 G2 e2 q (Out.pre e2 h)
 | exc c => exact h
 | stuck => exact h
end
abbrev dRel (X : Cx) (κ : Nat → Addr) : Hp → Hp → V → D → Prop := λ G _ v d => Den ⟨X.K, κ⟩ G v d
abbrev dsRel (X : Cx) (κ : Nat → Addr) : Hp → Hp → List V → List D → Prop := λ G _ v d => Dens ⟨X.K, κ⟩ G v d
abbrev bRel : Hp → Hp → Bool → Bool → Prop := λ _ _ b d => b = d
def rRel (X : Cx) (κ : Nat → Addr) : Hp → Hp → V → D → Prop := λ G H v d => Den ⟨X.K, κ⟩ G v d ∨ ∃ a vs ds, v = .ref a ∧ d = .lst ds ∧ H a = some (.lst vs) ∧ Dens ⟨X.K, κ⟩ G vs ds
theorem rRel_mono {X : Cx} {κ : Nat → Addr} {G H G' H' : Hp} {v : V} {d : D} (e : Ext G H G' H') (h : rRel X κ G H v d) : rRel X κ G' H' v d := by
 rcases h with h | ⟨a, vs, ds, h1, h2, h3, h4⟩
 ·exact .inl (h.mono e.sG)
 ·exact .inr ⟨a, vs, ds, h1, h2, e.sH _ _ h3, h4.mono e.sG⟩
def tO {α β : Type} (rel : Hp → Hp → β → α → Prop) (X : Cx) (κ : Nat → Addr) (B : Gd) (E : XK) (f : Ev → R α) : St → Hp → (β → Hp → Prop) → Prop :=
 λ σ H Q => ∃ G δ, Rep ⟨X.K, κ⟩ B X.H₀ G H σ δ ∧ Out rel κ E G H (f δ) Q
def PX (κ : Nat → Addr) (B : Gd) (X : Cx) (e : Expr) (f : Ev → R D) : Prop := ∀ pins σ Ex, PE (At X pins σ Ex) e (tO (dRel X κ) X κ B (EX X pins σ Ex) f)
def PXr (κ : Nat → Addr) (B : Gd) (X : Cx) (e : Expr) (f : Ev → R D) : Prop := ∀ pins σ Ex, PE (At X pins σ Ex) e (tO (rRel X κ) X κ B (EX X pins σ Ex) f)
def PXs (κ : Nat → Addr) (B : Gd) (X : Cx) (es : List Expr) (f : Ev → R (List D)) : Prop := ∀ pins σ Ex, PA (At X pins σ Ex) es (tO (dsRel X κ) X κ B (EX X pins σ Ex) f)
def PXt (κ : Nat → Addr) (B : Gd) (X : Cx) (e : Expr) (f : Ev → R Bool) : Prop := ∀ pins σ Ex, PT (At X pins σ Ex) e (tO bRel X κ B (EX X pins σ Ex) f)
def PXw (κ : Nat → Addr) (B : Gd) (X : Cx) (e : Expr) (f : Ev → R Bool) : Prop := ∀ pins σ Ex, PW (At X pins σ Ex) e (tO bRel X κ B (EX X pins σ Ex) f)
section
variable {κ : Nat → Addr} {B : Gd} {X : Cx} {a b c : Expr} {fa fb fc : Ev → R D} {pos : Pos}
theorem PX.read (h : PX κ B X a fa) : PXr κ B X a fa := λ pins σ Ex => pe_imp (h pins σ Ex) λ τ H Q ⟨G, δ, r, q⟩ => ⟨G, δ, r, by
 cases e : fa δ with
 | ok d => rw [e] at q; exact λ v H' G' x y => q v H' G' x (.inl y)
 | exc c => rw [e] at q; exact q
 | stuck => rw [e] at q; exact q⟩
def mC (d : D) : Ev → R D := λ _ => .ok d
theorem px_c {e : Expr} {v : V} {d : D} (h : ∀ pins σ Ex, PE (At X pins σ Ex) e (tC v)) (hd : ∀ G, Den ⟨X.K, κ⟩ G v d) : PX κ B X e (mC d) := λ pins σ Ex => pe_imp (h pins σ Ex) λ τ H Q ⟨G, δ, r, q⟩ => q v H G (Ext.refl r.GH) (hd G)
theorem px_int {i : Int} {j pos} : PX κ B X (.Constant (.int i) j pos) (mC (.int i)) := px_c (λ _ _ _ => pe_int) λ _ => by unfold Den; rfl
theorem px_bl {i : Bool} {j pos} : PX κ B X (.Constant (.bool i) j pos) (mC (.bl i)) := px_c (λ _ _ _ => pe_bl) λ _ => by unfold Den; rfl
def mVar (i : Nat) : Ev → R D := λ δ => match δ[i]? with
 | some (some (.sh d)) => .ok d
 | _ => .stuck
def mVarR (i : Nat) : Ev → R D := λ δ => match δ[i]? with
 | some (some (.sh d)) => .ok d
 | some (some (.ow ds)) => .ok (.lst ds)
 | _ => .stuck
theorem px_var (i : Nat) {x : Str} (hN : X.N[i]? = some x) (hv : Vis X.env.scope x) (hd : (x == ("__debug__" : Str)) = false) (hcd : (x == ("__classdict__" : Str)) = false) : PX κ B X (.Name x pos) (mVar i) := λ pins σ Ex =>
 pe_imp (pe_var (X := At X pins σ Ex) hN hv hd hcd) λ τ H Q ⟨G, δ, r, q⟩ => by
  unfold mVar at q
  split at q
  ·rename_i d e
   obtain ⟨v, e1, e2⟩ := r.sh i d e
   exact ⟨v, e1, q v H G (Ext.refl r.GH) e2⟩
  ·exact q.elim
theorem px_varR (i : Nat) {x : Str} (hN : X.N[i]? = some x) (hv : Vis X.env.scope x) (hd : (x == ("__debug__" : Str)) = false) (hcd : (x == ("__classdict__" : Str)) = false) : PXr κ B X (.Name x pos) (mVarR i) := λ pins σ Ex =>
 pe_imp (pe_var (X := At X pins σ Ex) hN hv hd hcd) λ τ H Q ⟨G, δ, r, q⟩ => by
  unfold mVarR at q
  split at q
  ·rename_i d e
   obtain ⟨v, e1, e2⟩ := r.sh i d e
   exact ⟨v, e1, q v H G (Ext.refl r.GH) (.inl e2)⟩
  ·rename_i ds e
   obtain ⟨l, vs, e1, e2, e3, _⟩ := r.ow i ds e
   exact ⟨.ref l, e1, q _ H G (Ext.refl r.GH) (.inr ⟨l, vs, ds, rfl, rfl, e2, e3⟩)⟩
  ·exact q.elim
def m2 (op : D → D → R D) (fa fb : Ev → R D) : Ev → R D := λ δ => (fa δ).bind λ x => (fb δ).bind λ y => op x y
def m1 (op : D → R D) (fa : Ev → R D) : Ev → R D := λ δ => (fa δ).bind op
def OpOk (κ : Nat → Addr) (X : Cx) (r : R2) (op : D → D → R D) : Prop := ∀ x y v u G H Q E, Same G H → rRel X κ G H v x → rRel X κ G H u y → Out (dRel X κ) κ E G H (op x y) Q → r v u H Q
theorem px_op {o : Operator} {r : R2} {op : D → D → R D} (ho : ∀ Y : Cx, Y.K = X.K → OpR Y (binaryOp o) r) (hop : OpOk κ X r op) (ha : PXr κ B X a fa) (hb : PXr κ B X b fb) : PX κ B X (.BinOp a o b pos) (m2 op fa fb) := λ pins σ Ex =>
 pe_imp (pe_op (ho (At X pins σ Ex) rfl) (ha pins σ Ex) (hb pins σ Ex)) λ τ H Q ⟨G, δ, rp, q⟩ => ⟨G, δ, rp, q.seq λ x v H1 G1 e1 d1 q1 => ⟨G1, δ, rp.ext e1, q1.seq λ y u H2 G2 e2 d2 q2 =>
  hop x y v u G2 H2 Q _ e2.GH (rRel_mono e2 d1) d2 q2⟩⟩
theorem px_cmp {o : CmpOp} {r : R2} {op : D → D → R D} (ho : ∀ Y : Cx, Y.K = X.K → Y.A = X.A → OpR Y (compareOp o) r) (hop : OpOk κ X r op) (ha : PXr κ B X a fa) (hb : PXr κ B X b fb) (hm : behindInMarks o b = false) : PX κ B X (.Compare a [o] [b] pos) (m2 op fa fb) := λ pins σ Ex =>
 pe_imp (pe_cmpR (ho (At X pins σ Ex) rfl rfl) (ha pins σ Ex) (hb pins σ Ex) hm) λ τ H Q ⟨G, δ, rp, q⟩ => ⟨G, δ, rp, q.seq λ x v H1 G1 e1 d1 q1 => ⟨G1, δ, rp.ext e1, q1.seq λ y u H2 G2 e2 d2 q2 =>
  hop x y v u G2 H2 Q _ e2.GH (rRel_mono e2 d1) d2 q2⟩⟩
def m2t (op : D → D → R Bool) (fa fb : Ev → R D) : Ev → R Bool := λ δ => (fa δ).bind λ x => (fb δ).bind λ y => op x y
def blR : R Bool → R D
 | .ok b => .ok (.bl b)
 | .exc c => .exc c
 | .stuck => .stuck
def op2 (op : D → D → R Bool) : D → D → R D := λ x y => blR (op x y)
theorem pxt_cmp {o : CmpOp} {r : R2} {op : D → D → R Bool} (ho : ∀ Y : Cx, Y.K = X.K → Y.A = X.A → OpR Y (compareOp o) r) (hop : OpOk κ X r (op2 op)) (ha : PXr κ B X a fa) (hb : PXr κ B X b fb) (hm : behindInMarks o b = false) : PXt κ B X (.Compare a [o] [b] pos) (m2t op fa fb) := λ pins σ Ex =>
 pt_imp (pt_cmpR (ho (At X pins σ Ex) rfl rfl) (ha pins σ Ex) (hb pins σ Ex) hm) λ τ H Q ⟨G, δ, rp, q⟩ => ⟨G, δ, rp, q.seq λ x v H1 G1 e1 d1 q1 => ⟨G1, δ, rp.ext e1, q1.seq λ y u H2 G2 e2 d2 q2 =>
  hop x y v u G2 H2 _ _ e2.GH (rRel_mono e2 d1) d2 (by
   unfold op2
   cases e : op x y with
   | ok k =>
    rw [e] at q2
    intro z H3 G3 e3 d3
    have d3' : z = .bl k := by simpa [Den] using d3
    exact ⟨k, d3', q2 k H3 G3 e3 rfl⟩
   | exc c => rw [e] at q2; exact q2
   | stuck => rw [e] at q2; exact q2)⟩⟩
theorem rInt {G H : Hp} {v : V} {i : Int} (h : rRel X κ G H v (.int i)) : v = .int i := by
 rcases h with h | ⟨_, _, _, _, e, _⟩
 ·simpa [Den] using h
 ·cases e
theorem dInt {Z : Zx} {G : Hp} {i : Int} : Den Z G (.int i) (.int i) := by unfold Den; rfl
theorem dBl {Z : Zx} {G : Hp} {i : Bool} : Den Z G (.bl i) (.bl i) := by unfold Den; rfl
theorem dNon {Z : Zx} {G : Hp} : Den Z G .non .non := by unfold Den; rfl
def oI (C : Int → Int → Bool) (g : Int → Int → Int) : D → D → R D
 | .int i, .int j => if C i j then .ok (.int (g i j)) else .stuck
 | _, _ => .stuck
theorem opOk_I {C : Int → Int → Prop} {C' : Int → Int → Bool} {g : Int → Int → Int} (hc : ∀ i j, C' i j = true → C i j) : OpOk κ X (rI C λ i j => .int (g i j)) (oI C' g) := by
 intro x y v u G H Q E s d1 d2 q
 unfold oI at q
 split at q
 ·rename_i i j
  split at q
  ·rename_i h
   exact ⟨i, j, rInt d1, rInt d2, hc _ _ h, q _ H G (Ext.refl s) dInt⟩
  ·exact q.elim
 ·exact q.elim
def oI0 (g : Int → Int → Int) : D → D → R D
 | .int i, .int j => .ok (.int (g i j))
 | _, _ => .stuck
theorem opOk_I0 {g : Int → Int → Int} : OpOk κ X (rI0 λ i j => .int (g i j)) (oI0 g) := by
 intro x y v u G H Q E s d1 d2 q
 unfold oI0 at q
 split at q
 ·exact ⟨_, _, rInt d1, rInt d2, q _ H G (Ext.refl s) dInt⟩
 ·exact q.elim
def oSub : D → D → R D := oI0 λ i j => i - j
def oMul : D → D → R D := oI (λ i j => (decide (-(2 ^ 64) < i) && decide (i < 2 ^ 64)) || (decide (-(2 ^ 64) < j) && decide (j < 2 ^ 64))) λ i j => i * j
def oDiv : D → D → R D := oI (λ _ j => decide (0 < j) && decide (j < 1073741824)) λ i j => i / j
def oMod : D → D → R D := oI (λ _ j => decide (0 < j)) λ i j => i % j
theorem px_sub (ha : PXr κ B X a fa) (hb : PXr κ B X b fb) : PX κ B X (.BinOp a .Sub b pos) (m2 oSub fa fb) := px_op (λ _ _ => op_sub) opOk_I0 ha hb
theorem px_mulI (ha : PXr κ B X a fa) (hb : PXr κ B X b fb) : PX κ B X (.BinOp a .Mult b pos) (m2 oMul fa fb) := px_op (λ _ _ => op_mul) (opOk_I λ i j h => by unfold CMul; simpa using h) ha hb
theorem px_div (ha : PXr κ B X a fa) (hb : PXr κ B X b fb) : PX κ B X (.BinOp a .FloorDiv b pos) (m2 oDiv fa fb) := px_op (λ _ _ => op_fdiv) (opOk_I λ i j h => by unfold CDiv; simpa using h) ha hb
theorem px_mod (ha : PXr κ B X a fa) (hb : PXr κ B X b fb) : PX κ B X (.BinOp a .Mod b pos) (m2 oMod fa fb) := px_op (λ _ _ => op_mod) (opOk_I λ i j h => by simpa using h) ha hb
def oAdd : D → D → R D
 | .int i, .int j => .ok (.int (i + j))
 | .str x, .str y => if x.length + y.length ≤ 1000000 then .ok (.str (x ++ y)) else .stuck
 | _, _ => .stuck
theorem rStr {G H : Hp} {v : V} {x : List Nat} (h : rRel X κ G H v (.str x)) : v = stV x := by
 rcases h with h | ⟨_, _, _, _, e, _⟩
 ·simpa [Den] using h
 ·cases e
theorem opR_or {Y : Cx} {f : Value → Value → Sem Value} {r r' : R2} (h : OpR Y f r) (h' : OpR Y f r') : OpR Y f (λ x y H Q => r x y H Q ∨ r' x y H Q) := by
 intro pins s σ H x y v u Q I rx ry q
 rcases q with q | q
 ·exact h pins s σ H x y v u Q I rx ry q
 ·exact h' pins s σ H x y v u Q I rx ry q
theorem big1 {n : Nat} (h : n ≤ 1000000) : n ≤ sizeLine := Nat.le_trans h (by rw [sizeLine_eq]; decide)
theorem px_add (ha : PXr κ B X a fa) (hb : PXr κ B X b fb) : PX κ B X (.BinOp a .Add b pos) (m2 oAdd fa fb) := px_op (λ _ _ => opR_or op_add op_add_str) (by
 intro x y v u G H Q E s d1 d2 q
 unfold oAdd at q
 split at q
 ·exact .inl ⟨_, _, rInt d1, rInt d2, q _ H G (Ext.refl s) dInt⟩
 ·rename_i x y
  split at q
  ·rename_i h
   refine .inr ⟨_, _, rStr d1, rStr d2, big1 (by simpa [Str.length] using h), ?_⟩
   exact q _ H G (Ext.refl s) (by unfold Den; show V.str ⟨x.toArray ++ y.toArray⟩ = V.str ⟨(x ++ y).toArray⟩; simp)
  ·exact q.elim
 ·exact q.elim) ha hb
def oCmp (p : Int → Int → Bool) : D → D → R Bool
 | .int i, .int j => .ok (p i j)
 | _, _ => .stuck
theorem opOk_cmp {p : Int → Int → Bool} : OpOk κ X (rI0 λ i j => .bl (p i j)) (op2 (oCmp p)) := by
 intro x y v u G H Q E s d1 d2 q
 unfold op2 oCmp at q
 split at q
 ·exact ⟨_, _, rInt d1, rInt d2, q _ H G (Ext.refl s) dBl⟩
 ·exact False.elim q
def oLt : D → D → R Bool := oCmp λ i j => decide (i < j)
def oLe : D → D → R Bool := oCmp λ i j => decide (i ≤ j)
def oGt : D → D → R Bool := oCmp λ i j => decide (j < i)
def oGe : D → D → R Bool := oCmp λ i j => decide (j ≤ i)
theorem px_gt (ha : PXr κ B X a fa) (hb : PXr κ B X b fb) (hm : behindInMarks .Gt b = false) : PX κ B X (.Compare a [.Gt] [b] pos) (m2 (op2 oGt) fa fb) := px_cmp (λ _ _ _ => op_gt) opOk_cmp ha hb hm
theorem pxt_lt (ha : PXr κ B X a fa) (hb : PXr κ B X b fb) (hm : behindInMarks .Lt b = false) : PXt κ B X (.Compare a [.Lt] [b] pos) (m2t oLt fa fb) := pxt_cmp (λ _ _ _ => op_lt) opOk_cmp ha hb hm
theorem pxt_le (ha : PXr κ B X a fa) (hb : PXr κ B X b fb) (hm : behindInMarks .LtE b = false) : PXt κ B X (.Compare a [.LtE] [b] pos) (m2t oLe fa fb) := pxt_cmp (λ _ _ _ => op_le) opOk_cmp ha hb hm
theorem pxt_gt (ha : PXr κ B X a fa) (hb : PXr κ B X b fb) (hm : behindInMarks .Gt b = false) : PXt κ B X (.Compare a [.Gt] [b] pos) (m2t oGt fa fb) := pxt_cmp (λ _ _ _ => op_gt) opOk_cmp ha hb hm
theorem pxt_ge (ha : PXr κ B X a fa) (hb : PXr κ B X b fb) (hm : behindInMarks .GtE b = false) : PXt κ B X (.Compare a [.GtE] [b] pos) (m2t oGe fa fb) := pxt_cmp (λ _ _ _ => op_ge) opOk_cmp ha hb hm
def tru : D → R Bool
 | .non => .ok false
 | .bl b => .ok b
 | .int i => .ok (i != 0)
 | .str x => if x.length ≤ 1000000 then .ok (!x.isEmpty) else .stuck
 | .tup ds => .ok (!ds.isEmpty)
 | .lst ds => .ok (!ds.isEmpty)
 | .ob _ _ _ => .stuck
 | .dic _ _ => .stuck
theorem isEmpty_dens {Z : Zx} {G : Hp} {vs : List V} {ds : List D} (h : Dens Z G vs ds) : vs.isEmpty = ds.isEmpty := by
 have := h.length
 cases vs <;> cases ds <;> simp_all
def mT (f : Ev → R D) : Ev → R Bool := λ δ => (f δ).bind tru
theorem truV {G H : Hp} {v : V} {d : D} {k : Bool} (s : Same G H) (h : rRel X κ G H v d) (e : tru d = .ok k) : TruV X.K v H k := by
 have seq : ∀ {a : Addr} {vs : List V} {ds : List D}, SqL X.K H a vs → Dens ⟨X.K, κ⟩ G vs ds → R.ok (!ds.isEmpty) = R.ok k → TruV X.K (.ref a) H k := λ h1 h2 e => by
  injection e with e
  exact .inl ⟨_, h1, by rw [isEmpty_dens h2, e]⟩
 rcases h with h | ⟨a, vs, ds, rfl, rfl, h3, h4⟩
 ·cases d with
  | non => unfold Den at h; subst h; injection e with e; exact e.symm
  | bl b => unfold Den at h; subst h; injection e with e; exact e.symm
  | int i => unfold Den at h; subst h; injection e with e; exact e.symm
  | str x =>
   unfold Den at h; subst h
   simp only [tru] at e
   split at e
   ·rename_i hx
    injection e with e
    refine ⟨big1 (by simpa [Str.length] using hx), ?_⟩
    rw [← e]
    cases x with
    | nil => rfl
    | cons c l =>
     have : ((l.length + 1 : Nat) : Int) ≠ 0 := by omega
     simp [Str.length]
     exact this
   ·cases e
  | tup ds =>
   unfold Den at h
   obtain ⟨a, vs, rfl, h1, h2⟩ := h
   injection e with e
   exact .inr (.inl ⟨_, same_seqT s h1, by rw [isEmpty_dens h2, e]⟩)
  | lst ds =>
   unfold Den at h
   obtain ⟨a, vs, rfl, h1, h2⟩ := h
   exact seq (s.seq h1) h2 e
  | ob _ _ _ => cases e
  | dic _ _ => cases e
 ·exact seq (SqL.of h3) h4 e
theorem pxt_val (ha : PXr κ B X a fa) (he : ∀ whole, isTrue a X.env whole = (do let v ← whole; standAt a.pos; holding [v] (truthy v))) : PXt κ B X a (mT fa) := λ pins σ Ex =>
 pt_imp (pt_truth (X := At X pins σ Ex) (ha pins σ Ex) he) λ τ H Q ⟨G, δ, rp, q⟩ => ⟨G, δ, rp, q.seq λ x v H1 G1 e1 d1 q1 => by
  cases e : tru x with
  | ok k => rw [e] at q1; exact ⟨k, truV e1.GH d1 e, q1 k H1 G1 (Ext.refl e1.GH) rfl⟩
  | exc c =>
   exfalso
   cases x <;> simp [tru] at e
   split at e <;> cases e
  | stuck => rw [e] at q1; exact q1.elim⟩
def mNot (f : Ev → R Bool) : Ev → R Bool := λ δ => (f δ).bind λ k => .ok (!k)
def mAnd (f g : Ev → R Bool) : Ev → R Bool := λ δ => (f δ).bind λ k => if k then g δ else .ok false
def mOr (f g : Ev → R Bool) : Ev → R Bool := λ δ => (f δ).bind λ k => if k then .ok true else g δ
variable {ta tb : Ev → R Bool} {rest : List Expr}
theorem pxt_not (ha : PXt κ B X a ta) : PXt κ B X (.UnaryOp .Not a pos) (mNot ta) := λ pins σ Ex =>
 pt_imp (pt_not (ha pins σ Ex)) λ τ H Q ⟨G, δ, rp, q⟩ => ⟨G, δ, rp, q.seq λ x v H1 G1 e1 d1 q1 => by
  cases d1
  exact q1 (!x) H1 G1 (Ext.refl e1.GH) rfl⟩
theorem pxw_and1 (ha : PXt κ B X a ta) : PXw κ B X (.BoolOp .And [a] pos) ta := λ pins σ Ex => pw_and1 (ha pins σ Ex)
theorem pxw_or1 (ha : PXt κ B X a ta) : PXw κ B X (.BoolOp .Or [a] pos) ta := λ pins σ Ex => pw_or1 (ha pins σ Ex)
theorem pxw_and (ha : PXt κ B X a ta) (hb : PXw κ B X (.BoolOp .And (b :: rest) pos) tb) : PXw κ B X (.BoolOp .And (a :: b :: rest) pos) (mAnd ta tb) := λ pins σ Ex =>
 pw_imp (pw_and (ha pins σ Ex) (hb pins σ Ex)) λ τ H Q ⟨G, δ, rp, q⟩ => ⟨G, δ, rp, q.seq λ x v H1 G1 e1 d1 q1 => by
  cases d1
  cases x with
  | true => exact ⟨G1, δ, rp.ext e1, q1⟩
  | false => exact q1 false H1 G1 (Ext.refl e1.GH) rfl⟩
theorem pxw_or (ha : PXt κ B X a ta) (hb : PXw κ B X (.BoolOp .Or (b :: rest) pos) tb) : PXw κ B X (.BoolOp .Or (a :: b :: rest) pos) (mOr ta tb) := λ pins σ Ex =>
 pw_imp (pw_or (ha pins σ Ex) (hb pins σ Ex)) λ τ H Q ⟨G, δ, rp, q⟩ => ⟨G, δ, rp, q.seq λ x v H1 G1 e1 d1 q1 => by
  cases d1
  cases x with
  | true => exact q1 true H1 G1 (Ext.refl e1.GH) rfl
  | false => exact ⟨G1, δ, rp.ext e1, q1⟩⟩
theorem PXw.t (h : PXw κ B X a ta) : PXt κ B X a ta := λ pins σ Ex => (h pins σ Ex).pt
def boolD : D → R Bool
 | .bl b => .ok b
 | _ => .stuck
def mAndV (f g : Ev → R D) : Ev → R D := λ δ => (f δ).bind λ x => (boolD x).bind λ k => if k then g δ else .ok (.bl false)
def mOrV (f g : Ev → R D) : Ev → R D := λ δ => (f δ).bind λ x => (boolD x).bind λ k => if k then .ok (.bl true) else g δ
def mNotV (f : Ev → R D) : Ev → R D := λ δ => (f δ).bind λ x => (boolD x).bind λ k => .ok (.bl (!k))
theorem boolD_of {x : D} {α : Type} {k : Bool → R α} {rel : Hp → Hp → V → α → Prop} {E : XK} {G H : Hp} {Q : V → Hp → Prop} {v : V} {Z : Zx} {G' : Hp} (d : Den Z G' v x) (h : Out rel κ E G H ((boolD x).bind k) Q) : ∃ c, v = .bl c ∧ x = .bl c ∧ Out rel κ E G H (k c) Q := by
 cases x with
 | bl c => exact ⟨c, by simpa [Den] using d, rfl, h⟩
 | _ => exact h.elim
theorem px_one {op} (h : PX κ B X a fa) : PX κ B X (.BoolOp op [a] pos) fa := λ pins σ Ex => pe_one (h pins σ Ex)
theorem px_and (ha : PX κ B X a fa) (hb : PX κ B X (.BoolOp .And (b :: rest) pos) fb) : PX κ B X (.BoolOp .And (a :: b :: rest) pos) (mAndV fa fb) := λ pins σ Ex =>
 pe_imp (pe_and (ha pins σ Ex) (hb pins σ Ex)) λ τ H Q ⟨G, δ, rp, q⟩ => ⟨G, δ, rp, q.seq λ x v H1 G1 e1 d1 q1 => by
  obtain ⟨k, rfl, rfl, q1⟩ := boolD_of d1 q1
  refine ⟨k, rfl, ?_⟩
  cases k with
  | true => exact ⟨G1, δ, rp.ext e1, q1⟩
  | false => exact q1 _ H1 G1 (Ext.refl e1.GH) dBl⟩
theorem px_not (ha : PX κ B X a fa) : PX κ B X (.UnaryOp .Not a pos) (mNotV fa) := λ pins σ Ex =>
 pe_imp (pe_not (ha pins σ Ex)) λ τ H Q ⟨G, δ, rp, q⟩ => ⟨G, δ, rp, q.seq λ x v H1 G1 e1 d1 q1 => by
  obtain ⟨k, rfl, rfl, q1⟩ := boolD_of d1 q1
  exact ⟨k, rfl, q1 _ H1 G1 (Ext.refl e1.GH) dBl⟩⟩
def mIf (t : Ev → R Bool) (f g : Ev → R D) : Ev → R D := λ δ => (t δ).bind λ k => if k then f δ else g δ
theorem px_if (hc : PXt κ B X c ta) (ha : PX κ B X a fa) (hb : PX κ B X b fb) : PX κ B X (.IfExp c a b pos) (mIf ta fa fb) := λ pins σ Ex =>
 pe_imp (pe_ifExp (hc pins σ Ex) (ha pins σ Ex) (hb pins σ Ex)) λ τ H Q ⟨G, δ, rp, q⟩ => ⟨G, δ, rp, q.seq λ x v H1 G1 e1 d1 q1 => by
  cases d1
  cases x with
  | true => exact ⟨G1, δ, rp.ext e1, q1⟩
  | false => exact ⟨G1, δ, rp.ext e1, q1⟩⟩
def oIx : D → D → R D
 | .lst ds, .int i => match atI ds i with | some d => .ok d | none => .stuck
 | .tup ds, .int i => match atI ds i with | some d => .ok d | none => .stuck
 | .str x, .int i => if x.length ≤ 1000000 then (match atI x i with | some c => .ok (.str [c]) | none => .stuck) else .stuck
 | _, _ => .stuck
theorem dens_atI {Z : Zx} {G : Hp} {vs : List V} {ds : List D} {i : Int} {d : D} (h : Dens Z G vs ds) (e : atI ds i = some d) : ∃ v, atI vs i = some v ∧ Den Z G v d := by
 unfold atI at e ⊢
 rw [h.length]
 cases q : ixN ds.length i with
 | none => rw [q] at e; cases e
 | some j =>
  rw [q] at e
  exact h.get e
theorem px_ix (ha : PXr κ B X a fa) (hb : PXr κ B X b fb) (hs : PlainIx b) : PX κ B X (.Subscript a b pos) (m2 oIx fa fb) := λ pins σ Ex =>
 pe_imp (pe_ix (ix_seq (X := At X pins σ Ex)) (ha pins σ Ex) (hb pins σ Ex) hs) λ τ H Q ⟨G, δ, rp, q⟩ => ⟨G, δ, rp, q.seq λ x v H1 G1 e1 d1 q1 => ⟨G1, δ, rp.ext e1, q1.seq λ y u H2 G2 e2 d2 q2 => by
  have d1 := rRel_mono e2 d1
  have lst : ∀ {p : Addr} {vs : List V} {ds : List D} {i : Int}, SqL X.K H2 p vs → Dens ⟨X.K, κ⟩ G2 vs ds → u = .int i → Out (dRel X κ) κ (EX X pins σ Ex) G2 H2 (match atI ds i with | some d => .ok d | none => .stuck) Q → rIx X.K (.ref p) u H2 Q := λ {p vs ds i} h1 h2 h3 q => by
   cases e : atI ds i with
   | none => rw [e] at q; exact q.elim
   | some d =>
    rw [e] at q
    obtain ⟨w, x1, x2⟩ := dens_atI h2 e
    exact .inl ⟨p, vs, i, w, rfl, h3, h1, x1, q w H2 G2 (Ext.refl e2.GH) x2⟩
  cases y with
  | int i =>
   cases x with
   | lst ds =>
    rcases d1 with d1 | ⟨p, vs, es, rfl, e, h3, h4⟩
    ·unfold Den at d1
     obtain ⟨p, vs, rfl, h1, h2⟩ := d1
     exact lst (e2.GH.seq h1) h2 (rInt d2) q2
    ·cases e
     exact lst (SqL.of h3) h4 (rInt d2) q2
   | tup ds =>
    rcases d1 with d1 | ⟨p, vs, es, rfl, e, h3, h4⟩
    ·unfold Den at d1
     obtain ⟨p, vs, rfl, h1, h2⟩ := d1
     simp only [oIx] at q2
     cases e : atI ds i with
     | none => rw [e] at q2; exact False.elim q2
     | some d =>
      rw [e] at q2
      obtain ⟨w, x1, x2⟩ := dens_atI h2 e
      exact .inr (.inl ⟨p, vs, i, w, rfl, rInt d2, same_seqT e2.GH h1, x1, q2 w H2 G2 (Ext.refl e2.GH) x2⟩)
    ·cases e
   | str x =>
    simp only [oIx] at q2
    split at q2
    ·rename_i hx
     cases e : atI x i with
     | none => rw [e] at q2; exact False.elim q2
     | some d =>
      rw [e] at q2
      have ev := rStr d1
      subst ev
      exact .inr (.inr ⟨_, i, d, rfl, rInt d2, big1 (by simpa [Str.length] using hx), by simpa using e, q2 _ H2 G2 (Ext.refl e2.GH) (by unfold Den; rfl)⟩)
    ·exact False.elim q2
   | _ => exact False.elim q2
  | _ => cases x <;> exact False.elim q2⟩⟩
def mNil : Ev → R (List D) := λ _ => .ok []
def mCons (f : Ev → R D) (g : Ev → R (List D)) : Ev → R (List D) := λ δ => (f δ).bind λ x => (g δ).bind λ xs => .ok (x :: xs)
variable {es : List Expr} {fs : Ev → R (List D)}
theorem pxs_nil : PXs κ B X [] mNil := λ pins σ Ex => pa_imp pa_nil λ τ H Q ⟨G, δ, rp, q⟩ => q [] H G (Ext.refl rp.GH) dens_nil
theorem pxs_cons (ha : PX κ B X a fa) (hr : PXs κ B X es fs) (hs : starEach (a :: es) X.env = (false, eval a X.env) :: starEach es X.env) : PXs κ B X (a :: es) (mCons fa fs) := λ pins σ Ex =>
 pa_imp (pa_cons (X := At X pins σ Ex) (ha pins σ Ex) (hr pins σ Ex) hs) λ τ H Q ⟨G, δ, rp, q⟩ => ⟨G, δ, rp, q.seq λ x v H1 G1 e1 d1 q1 => ⟨G1, δ, rp.ext e1, q1.seq λ y u H2 G2 e2 d2 q2 =>
  q2 (v :: u) H2 G2 (Ext.refl e2.GH) (dens_cons (d1.mono e2.sG) d2)⟩⟩
theorem ext_new {G H : Hp} {p : Addr} {o : HO} (s : Same G H) (n : H p = none) : Ext G H (upd G p o) (upd H p o) := by
 have ng := s.free n
 refine ⟨λ b u e => ?_, λ b u e => ?_, λ b u e => ?_, λ b e => ?_⟩
 ·rw [upd_ne (ne_of_none e ng)]; exact e
 ·rw [upd_ne (ne_of_none e n)]; exact e
 ·by_cases hb : b = p
  ·subst hb; rw [upd_same] at e ⊢; exact e
  ·rw [upd_ne hb] at e ⊢; exact s b u e
 ·by_cases hb : b = p
  ·subst hb; exact .inr n
  ·rw [upd_ne hb] at e; exact .inl e
def mTup (f : Ev → R (List D)) : Ev → R D := λ δ => (f δ).bind λ xs => if xs.length ≤ 1000000 then .ok (.tup xs) else .stuck
def mLst (f : Ev → R (List D)) : Ev → R D := λ δ => (f δ).bind λ xs => if xs.length ≤ 1000000 then .ok (.lst xs) else .stuck
theorem px_tup {k : Nat} (h : PXs κ B X es fs) : PX κ B X (.Tuple es k pos) (mTup fs) := λ pins σ Ex =>
 pe_imp (pe_tup (h pins σ Ex)) λ τ H Q ⟨G, δ, rp, q⟩ => ⟨G, δ, rp, q.seq λ x v H1 G1 e1 d1 q1 => by
  split at q1
  ·rename_i hl
   refine ⟨big1 (by rw [d1.length]; exact hl), λ p hp => ?_⟩
   have e := ext_new (o := .tup v) e1.GH hp
   exact q1 _ _ _ e (by unfold Den; exact ⟨p, v, rfl, SqT.of upd_same, d1.mono e.sG⟩)
  ·exact q1.elim⟩
theorem px_lst (h : PXs κ B X es fs) : PX κ B X (.List es pos) (mLst fs) := λ pins σ Ex =>
 pe_imp (pe_lst (h pins σ Ex)) λ τ H Q ⟨G, δ, rp, q⟩ => ⟨G, δ, rp, q.seq λ x v H1 G1 e1 d1 q1 => by
  split at q1
  ·rename_i hl
   refine ⟨big1 (by rw [d1.length]; exact hl), λ p hp => ?_⟩
   have e := ext_new (o := .lst v) e1.GH hp
   exact q1 _ _ _ e (by unfold Den; exact ⟨p, v, rfl, SqL.of upd_same, d1.mono e.sG⟩)
  ·exact q1.elim⟩
end
def spM (K : PySem.W.Frag) (κ : Nat → Addr) (n : Nat) (m : List D → R D) : Sp := λ vs H Q E => vs.length = n ∧ ∃ G ds, Same G H ∧ Dens ⟨K, κ⟩ G vs ds ∧ Out (λ G _ v d => Den ⟨K, κ⟩ G v d) κ E G H (m ds) Q
structure Cal (κ : Nat → Addr) (X : Cx) (x : Str) (n : Nat) (m : List D → R D) : Prop where
 ex : ∃ f fd ps k, FnOk X.prog X.w X.K X.mg X.base (CXR X.prog X.w) k f fd ps (spM X.K κ n m) ∧ Room k X.A ∧ X.mg x = some (.ref f) ∧ PySem.W.keepIn X.K (.ref f) = true ∧ Binds X.K fd ps []
section
variable {κ : Nat → Addr} {B : Gd} {X : Cx} {a : Expr} {es : List Expr} {fs : Ev → R (List D)} {p pos : Pos} {x : Str} {m : List D → R D} {n : Nat}
def mCall (m : List D → R D) (fs : Ev → R (List D)) : Ev → R D := λ δ => (fs δ).bind m
theorem px_call (c : Cxo X) (C : Cal κ X x n m) (hn : (a :: es).length = n) (hg : Gl X x) (ha : PXs κ B X (a :: es) fs) (hdb : (x == ("__debug__" : Str)) = false) (he : starEach (a :: es) X.env = (false, eval a X.env) :: starEach es X.env) (hpl : (backTo pos (starEach es X.env)).any (·.1) = false)
  (hlen : ∀ δ ds, fs δ = .ok ds → ds.length = n) : PX κ B X (.Call (.Name x p) (a :: es) [] pos) (mCall m fs) := λ pins σ Ex => by
 obtain ⟨f, fd, ps, k, F, hr, hm, hk, hb⟩ := C.ex
 refine pe_imp (pe_call (X := At X pins σ Ex) (E := EX X pins σ Ex) F hr hg hm hk hb .nil (passes_at c) (ha pins σ Ex) hdb he hpl) λ τ H Q ⟨G, δ, rp, q⟩ => ⟨G, δ, rp, ?_⟩
 unfold mCall at q
 cases e : fs δ with
 | ok ds =>
  rw [e] at q
  intro v H1 G1 e1 d1
  rw [List.append_nil]
  exact ⟨by rw [Dens.length d1, hlen δ ds e], G1, ds, e1.GH, d1, Out.pre e1 q⟩
 | exc c => rw [e] at q; exact q
 | stuck => rw [e] at q; exact q
end
end L3
namespace L3
open PySem PySem.Spec PyProof.Rows L2
inductive SR where
 | next (δ : Ev) | brk (δ : Ev) | cont (δ : Ev) | ret (d : D) | exc (c : Nat) (δ : Ev) | stuck
def bS {α : Type} (r : R α) (δ : Ev) (k : α → SR) : SR := match r with
 | .ok d => k d
 | .exc c => .exc c δ
 | .stuck => .stuck
@[simp] theorem bS_ok {α : Type} (d : α) (δ : Ev) (k : α → SR) : bS (.ok d) δ k = k d := rfl
@[simp] theorem bS_exc {α : Type} (c : Nat) (δ : Ev) (k : α → SR) : bS (.exc c) δ k = .exc c δ := rfl
@[simp] theorem bS_stuck {α : Type} (δ : Ev) (k : α → SR) : bS .stuck δ k = .stuck := rfl
def SPost (κ : Nat → Addr) (B : Gd) (X : Cx) (Ex : Value → Shared → Prop) (pins : List (Addr × Obj)) (Dn : Ends) (r : SR) : Prop := match r with
 | .next δ' => ∀ σ' H' G', Rep ⟨X.K, κ⟩ B X.H₀ G' H' σ' δ' → Dn.nx σ' H'
 | .brk δ' => ∀ σ' H' G', Rep ⟨X.K, κ⟩ B X.H₀ G' H' σ' δ' → Dn.bk σ' H'
 | .cont δ' => ∀ σ' H' G', Rep ⟨X.K, κ⟩ B X.H₀ G' H' σ' δ' → Dn.ct σ' H'
 | .ret d => ∀ v H' G', Hold B X.H₀ G' H' → Den ⟨X.K, κ⟩ G' v d → Dn.rt v H'
 | .exc c δ' => ∀ ea s' σ' H' G', Inv (X.wish Ex) pins σ' H' s' → Flies X pins H' s' ea (.ref (κ c)) → Rep ⟨X.K, κ⟩ B X.H₀ G' H' σ' δ' → Ex (.ref ea) s'
 | .stuck => False
def PZ (κ : Nat → Addr) (B : Gd) (X : Cx) (st : Stmt) (F : Ev → SR) : Prop := ∀ Ex pins s σ H G δ Dn, PassesOwn (model X.prog X.w) X.A X.env Ex → Inv (X.wish Ex) pins σ H s → Rep ⟨X.K, κ⟩ B X.H₀ G H σ δ → SPost κ B X Ex pins Dn (F δ) →
 wpAny (model X.prog X.w) X.A (exec st X.env) (SP (X.wish Ex) pins Dn) Ex s
def PZs (κ : Nat → Addr) (B : Gd) (X : Cx) (st : List Stmt) (F : Ev → SR) : Prop := ∀ Ex pins s σ H G δ Dn, PassesOwn (model X.prog X.w) X.A X.env Ex → Inv (X.wish Ex) pins σ H s → Rep ⟨X.K, κ⟩ B X.H₀ G H σ δ → SPost κ B X Ex pins Dn (F δ) →
 wpAny (model X.prog X.w) X.A (execs st X.env) (SP (X.wish Ex) pins Dn) Ex s
section
variable {κ : Nat → Addr} {B : Gd} {X : Cx} {e a b c : Expr} {f fa fb : Ev → R D} {pos pos' : Pos} {Ex : Value → Shared → Prop} {pins : List (Addr × Obj)} {s : Shared} {σ : St} {H G : Hp} {δ : Ev} {Dn : Ends}
theorem PX.stm (cx : Cxo X) (h : PX κ B X e f) (I : Inv (X.wish Ex) pins σ H s) (rp : Rep ⟨X.K, κ⟩ B X.H₀ G H σ δ) {k : D → SR} (hp : SPost κ B X Ex pins Dn (bS (f δ) δ k)) :
  wpAny (model X.prog X.w) X.A (eval e X.env) (λ u s' => ∃ d v H' G', Inv (X.wish Ex) pins σ H' s' ∧ RelV v u ∧ Rep ⟨X.K, κ⟩ B X.H₀ G' H' σ δ ∧ Den ⟨X.K, κ⟩ G' v d ∧ SPost κ B X Ex pins Dn (k d)) Ex s := by
 refine thn (h pins σ Ex pins s σ H (λ v H' => ∃ d G', Rep ⟨X.K, κ⟩ B X.H₀ G' H' σ δ ∧ Den ⟨X.K, κ⟩ G' v d ∧ SPost κ B X Ex pins Dn (k d)) (inv_at I) ⟨G, δ, rp, ?_⟩) λ u s' ⟨v, H', I', r, d, G', x1, x2, x3⟩ => ⟨d, v, H', G', inv_unat cx.sg I', r, x1, x2, x3⟩
 cases q : f δ with
 | ok d => rw [q] at hp; exact λ v H' G' e1 d1 => ⟨d, G', rp.ext e1, d1, hp⟩
 | exc c => rw [q] at hp; exact λ H' G' e1 ea s' I' F => hp ea s' σ H' G' I' F (rp.ext e1)
 | stuck => rw [q] at hp; exact hp
theorem PXt.stm (cx : Cxo X) {f : Ev → R Bool} (h : PXt κ B X e f) (I : Inv (X.wish Ex) pins σ H s) (rp : Rep ⟨X.K, κ⟩ B X.H₀ G H σ δ) {k : Bool → SR} (hp : SPost κ B X Ex pins Dn (bS (f δ) δ k)) :
  wpAny (model X.prog X.w) X.A (isTrue e X.env (eval e X.env)) (λ u s' => ∃ H' G', Inv (X.wish Ex) pins σ H' s' ∧ Rep ⟨X.K, κ⟩ B X.H₀ G' H' σ δ ∧ SPost κ B X Ex pins Dn (k u)) Ex s := by
 refine thn (h pins σ Ex pins s σ H (λ v H' => ∃ G', Rep ⟨X.K, κ⟩ B X.H₀ G' H' σ δ ∧ SPost κ B X Ex pins Dn (k v)) (inv_at I) ⟨G, δ, rp, ?_⟩) λ u s' ⟨H', I', G', x1, x2⟩ => ⟨H', G', inv_unat cx.sg I', x1, x2⟩
 cases q : f δ with
 | ok d =>
  rw [q] at hp
  intro v H' G' e1 d1
  cases d1
  exact ⟨G', rp.ext e1, hp⟩
 | exc c => rw [q] at hp; exact λ H' G' e1 ea s' I' F => hp ea s' σ H' G' I' F (rp.ext e1)
 | stuck => rw [q] at hp; exact hp
def zSeq (F1 F2 : Ev → SR) : Ev → SR := λ δ => match F1 δ with
 | .next δ' => F2 δ'
 | r => r
theorem pzs_nil : PZs κ B X [] SR.next := λ Ex pins s σ H G δ Dn hp I rp h => wpAny_execs_nil ⟨σ, H, I, h σ H G rp⟩
theorem pzs_cons {st : Stmt} {rest : List Stmt} {F1 F2 : Ev → SR} (h1 : PZ κ B X st F1) (h2 : PZs κ B X rest F2) : PZs κ B X (st :: rest) (zSeq F1 F2) := λ Ex pins s σ H G δ Dn hp I rp h => by
 refine wpAny_execs_cons (thn (h1 Ex pins s σ H G δ { Dn with nx := λ σ' H' => ∃ G' δ', Rep ⟨X.K, κ⟩ B X.H₀ G' H' σ' δ' ∧ SPost κ B X Ex pins Dn (F2 δ') } hp I rp ?_) λ f s1 q => ?_)
 ·unfold zSeq at h
  cases q : F1 δ with
  | next δ' => rw [q] at h; exact λ σ' H' G' r => ⟨G', δ', r, h⟩
  | brk δ' => rw [q] at h; exact h
  | cont δ' => rw [q] at h; exact h
  | ret d => rw [q] at h; exact h
  | exc c δ' => rw [q] at h; exact h
  | stuck => rw [q] at h; exact h
 ·cases f with
  | next =>
   obtain ⟨σ', H', I', G', δ', r, q⟩ := q
   exact h2 Ex pins s1 σ' H' G' δ' Dn hp I' r q
  | ret v => exact q
  | brk => exact q
  | cont => exact q
theorem pzs_one {st : Stmt} {F : Ev → SR} (h1 : PZ κ B X st F) : PZs κ B X [st] F := λ Ex pins s σ H G δ Dn hp I rp h => by
 refine wpAny_execs_cons (thn (h1 Ex pins s σ H G δ Dn hp I rp h) λ f s1 q => ?_)
 cases f with
 | next => exact wpAny_execs_nil q
 | ret v => exact q
 | brk => exact q
 | cont => exact q
theorem pzs_frz (i : Nat) {sts : List Stmt} {F : Ev → SR} (h : PZs κ B X sts F) : PZs κ B X sts (λ δ => F (frzE i δ)) := λ Ex pins s σ H G δ Dn hp I rp q => by
 obtain ⟨G', r'⟩ := rp.freeze i
 exact h Ex pins s σ H G' _ Dn hp I r' q
def zRet (f : Ev → R D) : Ev → SR := λ δ => bS (f δ) δ .ret
theorem pz_ret (cx : Cxo X) (h : PX κ B X e f) : PZ κ B X (.Return (some e) pos) (zRet f) := λ Ex pins s σ H G δ Dn hp I rp q =>
 wpAny_Return_some (thn (h.stm cx I rp q) λ v s1 ⟨d, x, H', G', I', r, rp', dn, q⟩ => ⟨x, σ, H', I', r, q x H' G' rp'.toHold dn⟩)
def zDrop (f : Ev → R D) : Ev → SR := λ δ => bS (f δ) δ λ _ => .next δ
def zSet (i : Nat) (f : Ev → R D) : Ev → SR := λ δ => bS (f δ) δ λ d => .next (δ.set i (some (.sh d)))
theorem pz_set (cx : Cxo X) {i : Nat} {x : Str} (hN : X.N.Nodup) (hi : X.N[i]? = some x) (hx : Loc X.env.scope x) (hf : X.fn x = true ∨ X.env.scope.names.lookup x = some .local) (h : PX κ B X e f) (hs : swapsWith e (some (.Name x pos')) pos.line X.env = pure false) :
  PZ κ B X (.Assign [.Name x pos'] e pos) (zSet i f) := λ Ex pins s σ H G δ Dn hp I rp q => by
 refine wpAny_Assign_Name (thn (h.stm cx I rp q) λ v s1 ⟨d, y, H', G', I', r, rp', dn, q⟩ => ?_) hs
 exact store_ok (X := X.wish Ex) I' hN hi hx r (λ s2 I2 => ⟨_, H', I2, q _ H' G' (rp'.setSh dn)⟩) hf (λ p σ v _ => cx.sg p _)
def zIf (t : Ev → R Bool) (F1 F2 : Ev → SR) : Ev → SR := λ δ => bS (t δ) δ λ k => if k then F1 δ else F2 δ
theorem pz_if (cx : Cxo X) {t : Ev → R Bool} {s1 s2 : List Stmt} {F1 F2 : Ev → SR} (hc : PXt κ B X c t) (h1 : PZs κ B X s1 F1) (h2 : PZs κ B X s2 F2) : PZ κ B X (.If c s1 s2 pos) (zIf t F1 F2) := λ Ex pins s σ H G δ Dn hp I rp q => by
 refine wpAny_If (thn (hc.stm cx I rp q) λ d s1 ⟨H', G', I', rp', q⟩ => ?_)
 cases d with
 | true => exact h1 Ex pins s1 σ H' G' δ Dn hp I' rp' q
 | false => exact h2 Ex pins s1 σ H' G' δ Dn hp I' rp' q
def zAug (i : Nat) (g : Int → Int → Int) (f : Ev → R D) : Ev → SR := λ δ => match δ[i]? with
 | some (some (.sh (.int x))) => bS (f δ) δ λ d => match d with
  | .int y => .next (δ.set i (some (.sh (.int (g x y)))))
  | _ => .stuck
 | _ => .stuck
theorem pz_aug (cx : Cxo X) {i : Nat} {x : Str} {op : Operator} {g : Int → Int → Int} (ho : ∀ Y : Cx, PIp Y op (ipI g)) (hN : X.N.Nodup) (hi : X.N[i]? = some x) (hx : Loc X.env.scope x) (hf : X.fn x = true ∨ X.env.scope.names.lookup x = some .local) (h : PX κ B X e f) :
  PZ κ B X (.AugAssign (.Name x pos') op e pos) (zAug i g f) := λ Ex pins s σ H G δ Dn hp I rp q => by
 unfold zAug at q
 split at q
 ·rename_i z ez
  obtain ⟨v, e1, e2⟩ := rp.sh i _ ez
  have e2' : v = .int z := by simpa [Den] using e2
  subst e2'
  obtain ⟨m, hn, hl⟩ := I.loc
  have vis : Vis X.env.scope x := by rcases hx with k | k; exact .inl k; exact .inr (.inl k)
  obtain ⟨u, r, l⟩ := hl i x _ hi e1 vis
  refine wpAny_AugAssign_Name ?_
  have go : wpAny (model X.prog X.w) X.A (eval e X.env) (λ w s₂ => wpAny (model X.prog X.w) X.A (inplaceOp op u w) (λ r s₃ => wpAny (model X.prog X.w) X.A (storeName X.env x r) (λ _ => SP (X.wish Ex) pins Dn .next) Ex s₃) Ex s₂) Ex s := by
   refine thn (h.stm cx I rp q) λ w s1 ⟨d, y, H1, G1, I1, r1, rp1, dn, q1⟩ => ?_
   cases d with
   | int j =>
    have dn' : y = .int j := by simpa [Den] using dn
    subst dn'
    refine thn (ho (X.wish Ex) pins s1 σ H1 (.int z) (.int j) u w (λ v H' => H' = H1 ∧ v = .int (g z j)) I1 r r1 ⟨z, j, rfl, rfl, rfl, rfl⟩) λ w2 s2 ⟨zv, H2, I2, r2, e3, e4⟩ => ?_
    subst e3
    subst e4
    exact store_ok (X := X.wish Ex) I2 hN hi hx r2 (λ s3 I3 => ⟨_, _, I3, q1 _ _ G1 (rp1.setSh dInt)⟩) hf (λ p σ v _ => cx.sg p _)
   | _ => exact False.elim q1
  rcases l with ⟨hk, hm⟩ | ⟨hk, c, hc, hcell⟩
  ·exact wpAny_loadName_local I.ok.kind hk hn hm go
  ·rcases hk with hk | hk
   ·exact wpAny_loadName_cell I.ok.kind hk hc hcell go
   ·rcases hx with k | k
    ·have : X.env.scope.names.lookup x = some .free := hk
     rw [k] at this; cases this
    ·have : X.env.scope.names.lookup x = some .free := hk
     rw [k] at this; cases this
 ·exact False.elim q
def gZ (κ : Nat → Addr) (B : Gd) (X : Cx) (bnd : D → Ev → Option Ev) : TG := λ v σ H Q => ∃ G δ d δ', Rep ⟨X.K, κ⟩ B X.H₀ G H σ δ ∧ Den ⟨X.K, κ⟩ G v d ∧ bnd d δ = some δ' ∧ ∀ σ', Rep ⟨X.K, κ⟩ B X.H₀ G H σ' δ' → Q σ' H
def PGz (κ : Nat → Addr) (B : Gd) (X : Cx) (tg : Expr) (bnd : D → Ev → Option Ev) : Prop := ∀ Ex, PG (X.wish Ex) tg (gZ κ B X bnd)
def gsZ (κ : Nat → Addr) (B : Gd) (X : Cx) (bnd : List D → Ev → Option Ev) : TGs := λ vs σ H Q => ∃ G δ ds δ', Rep ⟨X.K, κ⟩ B X.H₀ G H σ δ ∧ Dens ⟨X.K, κ⟩ G vs ds ∧ bnd ds δ = some δ' ∧ ∀ σ', Rep ⟨X.K, κ⟩ B X.H₀ G H σ' δ' → Q σ' H
def PGzs (κ : Nat → Addr) (B : Gd) (X : Cx) (tg : List Expr) (bnd : List D → Ev → Option Ev) : Prop := ∀ Ex, PGs (X.wish Ex) tg (gsZ κ B X bnd)
theorem pg_imp {Y : Cx} {t : Expr} {g g' : TG} (h : PG Y t g) (k : ∀ v σ H Q, g' v σ H Q → g v σ H Q) : PG Y t g' := λ pins s σ H v u Q I r q => h pins s σ H v u Q I r (k v σ H Q q)
theorem pgs_imp {Y : Cx} {t : List Expr} {g g' : TGs} (h : PGs Y t g) (k : ∀ v σ H Q, g' v σ H Q → g v σ H Q) : PGs Y t g' := λ pins s σ H v u Q I r q => h pins s σ H v u Q I r (k v σ H Q q)
def bN (i : Nat) : D → Ev → Option Ev := λ d δ => some (δ.set i (some (.sh d)))
theorem pgz_name (cx : Cxo X) {i : Nat} {x : Str} (hN : X.N.Nodup) (hi : X.N[i]? = some x) (hx : Loc X.env.scope x) (hf : X.fn x = true ∨ X.env.scope.names.lookup x = some .local) : PGz κ B X (.Name x pos) (bN i) := λ Ex =>
 pg_imp (pg_name (X := X.wish Ex) hN hi hx hf (λ p σ v _ => cx.sg p _)) λ v σ H Q ⟨G, δ, d, δ', rp, dn, e, k⟩ => by
  cases e
  exact k _ (rp.setSh dn)
def bsNil : List D → Ev → Option Ev := λ ds δ => match ds with | [] => some δ | _ => none
def bsCons (b : D → Ev → Option Ev) (bs : List D → Ev → Option Ev) : List D → Ev → Option Ev := λ ds δ => match ds with | d :: r => (b d δ).bind (bs r) | _ => none
theorem pgzs_nil : PGzs κ B X [] bsNil := λ Ex => pgs_imp pgs_nil λ vs σ H Q ⟨G, δ, ds, δ', rp, dn, e, k⟩ => by
 cases ds with
 | nil =>
  cases vs with
  | nil => cases e; exact ⟨rfl, k σ rp⟩
  | cons _ _ => unfold Dens at dn; exact dn.elim
 | cons _ _ => cases e
theorem pgzs_cons {tg : Expr} {tgs : List Expr} {bd : D → Ev → Option Ev} {bs : List D → Ev → Option Ev} (h1 : PGz κ B X tg bd) (h2 : PGzs κ B X tgs bs)
  (hs : (assignEach (tg :: tgs) X.env).map (·.2) = assign tg X.env :: (assignEach tgs X.env).map (·.2)) : PGzs κ B X (tg :: tgs) (bsCons bd bs) := λ Ex =>
 pgs_imp (pgs_cons (X := X.wish Ex) (h1 Ex) (h2 Ex) hs) λ vs σ H Q ⟨G, δ, ds, δ', rp, dn, e, k⟩ => by
  cases ds with
  | nil => cases e
  | cons d r =>
   cases vs with
   | nil => unfold Dens at dn; exact dn.elim
   | cons v vr =>
    unfold Dens at dn
    simp only [bsCons] at e
    cases q : bd d δ with
    | none => rw [q] at e; cases e
    | some δ1 =>
     rw [q] at e
     exact ⟨v, vr, rfl, G, δ, d, δ1, rp, dn.1, q, λ σ' r' => ⟨G, δ1, r, δ', r', dn.2, e, k⟩⟩
theorem draw_lst {P : Program} {w : World} {A : Around} {E : Value → Shared → Prop} {it l : Addr} {its : Array Value} (hne : l ≠ it) : ∀ (n i : Nat) (s : Shared) (Q : List Value → Shared → Prop), s.heap.IsListIter it l i → s.heap.IsList l its → i + n ≤ its.size →
  (∀ h', h'.IsListIter it l (i + n) → Heap.SameBut it s.heap h' → Q ((its.toList.drop i).take n) { s with heap := h' }) → wpAny (model P w) A (draw (.ref it) n) Q E s
 | 0, i, s, Q, hi, _, _, q => by
  have z := q s.heap hi (Heap.SameBut.refl ..)
  rw [List.take_zero] at z
  exact wpAny_pure z
 | n + 1, i, s, Q, hi, hl, hle, q => by
  have lt : i < its.size := by omega
  show wpAny _ _ (pyNext (.ref it) >>= _) Q E s
  refine wpAny_bind (wpAny_pyNext_list_item hi hl (x := its[i]) (by simp [lt]) λ g hg sg => wpAny_bind (wpAny_holding (draw_lst hne n (i + 1) _ _ hg (hl.extBut sg.extBut hne) (by omega) λ g2 hg2 sg2 => wpAny_pure ?_)))
  have z := q g2 (by rw [show i + (n + 1) = i + 1 + n by omega]; exact hg2) (sg.trans sg2)
  rw [show its.toList.drop i = its[i] :: its.toList.drop (i + 1) by simp [List.drop_eq_getElem_cons, lt], List.take_succ_cons] at z
  exact z
theorem unpack_lst {P : Program} {w : World} {A : Around} {E : Value → Shared → Prop} {s : Shared} {l : Addr} {its : Array Value} {tgs : List (Bool × (Value → Sem Unit))} {Q : Unit → Shared → Prop} (hh : A.handled = none) (hl : s.heap.IsList l its)
  (hn : tgs.length = its.size) (hs : tgs.findIdx? (·.1) = none) (h : ∀ h', Heap.ExtBut s.heap.objs.size s.heap h' → wpAny (model P w) A (assignInOrder (tgs.map (·.2)) its.toList) Q E { s with heap := h' }) : wpAny (model P w) A (unpack (.ref l) tgs) Q E s := by
 have ne : l ≠ s.heap.objs.size := by
  obtain ⟨o, ho, _⟩ := hl
  exact Nat.ne_of_lt (Heap.lt_size ho)
 unfold unpack
 rw [hn, hs]
 refine wpAny_bind (wpAny_holding ?_)
 unfold unpackItems
 refine wpAny_bind ?_
 unfold notIterableAtAll
 refine wpAny_bind (wpAny_specialOf hl.typeIs slot_list_iter.lookup (wpAny_pure ?_))
 simp only [Bool.false_eq_true, if_false]
 refine wpAny_bind (wpAny_holding (wpAny_pyIter_list hl (wpAny_bind (wpAny_holding (draw_lst ne its.size 0 _ _ ⟨_, Heap.get?_push_size _ rfl, rfl, rfl⟩ (hl.push _) (by omega) λ g hg sg => ?_)))))
 rw [List.drop_zero, List.take_of_length_le (by simp), if_neg (by simp)]
 refine wpAny_bind (wpAny_holding (wpAny_pyNext_list_end hh hg ((hl.push _).extBut sg.extBut ne) (by simp) λ g2 e2 => ?_))
 simp only [Option.isSome_none, Bool.false_eq_true, if_false]
 exact wpAny_pure (h g2 λ b o hb e => e2 b o hb (sg.extBut b o hb (Heap.get?_push_of_some _ e)))
def gLst (K : PySem.W.Frag) (n : Nat) (t : TGs) : TG := λ v σ H Q => ∃ a xs, v = .ref a ∧ SqL K H a xs ∧ xs.length = n ∧ t xs σ H Q
theorem pg_lst {X : Cx} {pos : Pos} {es : List Expr} {k : Nat} {t : TGs} {n : Nat} (hc : X.calm = true) (h : PGs X es t) (hn : (assignEach es X.env).length = n) (hst : (assignEach es X.env).findIdx? (·.1) = none) : PG X (.Tuple es k pos) (gLst X.K n t) := by
 intro pins s σ H v u Q I r ⟨a, xs, e1, hq, hl, hw⟩
 subst e1
 cases r
 obtain ⟨its, rv, ht, hz⟩ := I.list hq
 rw [assign_Tuple]
 refine wpAny_bind (wpAny_standAt (unpack_lst (I.ok.hd hc) ht.isList (by simp [hn, ← hl, rv.length]) hst λ h' hx => ?_))
 exact h pins _ σ H xs _ Q (I.kept (t' := s.toks) λ b o e => hx b o (Nat.ne_of_lt (Heap.lt_size e)) e) (by simpa using rv) hw
def bTup (n : Nat) (bs : List D → Ev → Option Ev) : D → Ev → Option Ev := λ d δ => match d with | .tup ds => (if ds.length = n then bs ds δ else none) | .lst ds => (if ds.length = n then bs ds δ else none) | _ => none
theorem pg_either {X : Cx} {e : Expr} {t t' : TG} (h : PG X e t) (h' : PG X e t') : PG X e (λ v σ H Q => t v σ H Q ∨ t' v σ H Q) := λ pins s σ H v u Q I r q => q.elim (h pins s σ H v u Q I r) (h' pins s σ H v u Q I r)
theorem pgz_tup {tgs : List Expr} {k n : Nat} {bs : List D → Ev → Option Ev} (hc : X.calm = true) (h : PGzs κ B X tgs bs) (hn : (assignEach tgs X.env).length = n) (hst : (assignEach tgs X.env).findIdx? (·.1) = none) : PGz κ B X (.Tuple tgs k pos) (bTup n bs) := λ Ex =>
 pg_imp (pg_either (pg_tup (X := X.wish Ex) hc (h Ex) hn hst) (pg_lst (X := X.wish Ex) hc (h Ex) hn hst)) λ v σ H Q ⟨G, δ, d, δ', rp, dn, e, kk⟩ => by
  unfold bTup at e
  split at e
  ·rename_i ds
   split at e
   ·rename_i hl
    unfold Den at dn
    obtain ⟨l, vs, rfl, h1, h2⟩ := dn
    exact .inl ⟨l, vs, rfl, same_seqT rp.GH h1, by rw [h2.length]; exact hl, G, δ, ds, δ', rp, h2, e, kk⟩
   ·cases e
  ·rename_i ds
   split at e
   ·rename_i hl
    unfold Den at dn
    obtain ⟨l, vs, rfl, h1, h2⟩ := dn
    exact .inr ⟨l, vs, rfl, rp.GH.seq h1, by rw [h2.length]; exact hl, G, δ, ds, δ', rp, h2, e, kk⟩
   ·cases e
  ·cases e
def zAsg (bd : D → Ev → Option Ev) (f : Ev → R D) : Ev → SR := λ δ => bS (f δ) δ λ d => match bd d δ with | some δ' => .next δ' | none => .stuck
end
end L3
namespace L3
open PySem PySem.Spec PyProof.Rows L2
def loopZ (bd : D → Ev → Option Ev) (F : Ev → SR) : List D → Ev → SR
 | [], δ => .next δ
 | d :: ds, δ => match bd d δ with
  | none => .stuck
  | some δ1 => match F δ1 with
   | .next δ2 => loopZ bd F ds δ2
   | .cont δ2 => loopZ bd F ds δ2
   | .brk δ2 => .next δ2
   | r => r
def IsIt (X : Cx) (κ : Nat → Addr) (J : It) (G : Hp) (ds : List D) : Prop := ∃ vs, Dens ⟨X.K, κ⟩ G vs ds ∧ ∀ H', Same G H' → ∀ i, (i < vs.length → J.go i H' ∧ ∀ x H'', J.yld i H' x H'' → H'' = H' ∧ vs[i]? = some x) ∧ (vs.length ≤ i → J.stop i H')
def PIz (κ : Nat → Addr) (B : Gd) (X : Cx) (tg e : Expr) (f : Ev → R (List D)) : Prop := ∀ pins σ Ex, PI (At X pins σ Ex) tg e (tO (λ G _ J ds => IsIt X κ J G ds) X κ B (EX X pins σ Ex) f)
theorem pi_imp {Y : Cx} {tg e : Expr} {w w' : TI} (h : PI Y tg e w) (k : ∀ σ H R, w' σ H R → w σ H R) : PI Y tg e w' := λ pins s σ H R I q => h pins s σ H R I (k σ H R q)
theorem pi_or {Y : Cx} {tg e : Expr} {w w' : TI} (h : PI Y tg e w) (h' : PI Y tg e w') : PI Y tg e (λ σ H R => w σ H R ∨ w' σ H R) := λ pins s σ H R I q => q.elim (h pins s σ H R I) (h' pins s σ H R I)
section
variable {κ : Nat → Addr} {B : Gd} {X : Cx} {e tg : Expr} {f : Ev → R D} {pos : Pos}
theorem isIt_list {G H : Hp} {a : Addr} {vs : List V} {ds : List D} (h : SqL X.K G a vs) (d : Dens ⟨X.K, κ⟩ G vs ds) : IsIt X κ (Itl X.K a) G ds :=
 ⟨vs, d, λ H' s i => ⟨λ hi => ⟨⟨vs, vs[i], s.seq h, by simp [hi]⟩, λ x H'' y => ⟨y.1, y.2 vs (s.seq h)⟩⟩, λ hi => ⟨vs, s.seq h, hi⟩⟩⟩
theorem isIt_tup {G H : Hp} {a : Addr} {vs : List V} {ds : List D} (h : SqT X.K G a vs) (d : Dens ⟨X.K, κ⟩ G vs ds) : IsIt X κ (Itt X.K a) G ds :=
 ⟨vs, d, λ H' s i => ⟨λ hi => ⟨⟨vs, vs[i], same_seqT s h, by simp [hi]⟩, λ x H'' y => ⟨y.1, y.2 vs (same_seqT s h)⟩⟩, λ hi => ⟨vs, same_seqT s h, hi⟩⟩⟩
def itemsD : D → R (List D)
 | .lst ds => .ok ds
 | .tup ds => .ok ds
 | _ => .stuck
theorem piz_seq (h : PX κ B X e f) : PIz κ B X tg e (λ δ => (f δ).bind itemsD) := λ pins σ Ex =>
 pi_imp (pi_or (pi_list (X := At X pins σ Ex) (h pins σ Ex)) (pi_tup (X := At X pins σ Ex) (h pins σ Ex))) λ τ H R ⟨G, δ, rp, q⟩ => by
  dsimp only at q
  cases e : f δ with
  | ok d =>
   rw [e] at q
   cases d with
   | lst ds =>
    refine .inl ⟨G, δ, rp, ?_⟩
    rw [e]
    intro v H' G' e1 d1
    unfold Den at d1
    obtain ⟨a, vs, rfl, h1, h2⟩ := d1
    exact ⟨a, rfl, ⟨vs, e1.GH.seq h1⟩, q _ H' G' e1 (isIt_list (H := H') h1 h2)⟩
   | tup ds =>
    refine .inr ⟨G, δ, rp, ?_⟩
    rw [e]
    intro v H' G' e1 d1
    unfold Den at d1
    obtain ⟨a, vs, rfl, h1, h2⟩ := d1
    exact ⟨a, rfl, ⟨vs, same_seqT e1.GH h1⟩, q _ H' G' e1 (isIt_tup (H := H') h1 h2)⟩
   | _ => exact False.elim q
  | exc c =>
   rw [e] at q
   refine .inl ⟨G, δ, rp, ?_⟩
   rw [e]
   exact q
  | stuck => rw [e] at q; exact False.elim q
theorem isIt_rng {G : Hp} {lo : Int} {n : Nat} : IsIt X κ (Itr lo n) G ((List.range n).map λ i => D.int (lo + (i : Nat))) := by
 refine ⟨(List.range n).map λ i => V.int (lo + (i : Nat)), ?_, λ H' s i => ⟨λ hi => ⟨?_, λ x H'' y => ?_⟩, λ hi => ?_⟩⟩
 ·generalize List.range n = l
  induction l with
  | nil => exact dens_nil
  | cons a l ih => exact dens_cons dInt ih
 ·simpa [Itr] using hi
 ·obtain ⟨y1, y2⟩ := y
  refine ⟨y1, ?_⟩
  rw [y2]
  have : i < n := by simpa using hi
  simp [this]
 ·simpa [Itr] using hi
def rngD (lo hi : Int) : List D := (List.range (hi - lo).toNat).map λ i => D.int (lo + (i : Nat))
def iR1 : List D → R (List D)
 | [.int j] => if -(2 ^ 62) ≤ j ∧ j < 2 ^ 62 then .ok (rngD 0 j) else .stuck
 | _ => .stuck
def iR2 : List D → R (List D)
 | [.int i, .int j] => if (-(2 ^ 62) ≤ i ∧ i < 2 ^ 62) ∧ (-(2 ^ 62) ≤ j ∧ j < 2 ^ 62) then .ok (rngD i j) else .stuck
 | _ => .stuck
theorem dens_int1 {Z : Zx} {G : Hp} {vs : List V} {i : Int} (h : Dens Z G vs [.int i]) : vs = [.int i] := by
 match vs, h with
 | [v], h => unfold Dens at h; have := h.1; unfold Den at this; rw [this]
 | [], h => unfold Dens at h; exact h.elim
 | _ :: _ :: _, h => unfold Dens at h; have := h.2; unfold Dens at this; exact this.elim
theorem dens_int2 {Z : Zx} {G : Hp} {vs : List V} {i j : Int} (h : Dens Z G vs [.int i, .int j]) : vs = [.int i, .int j] := by
 match vs, h with
 | [], h => unfold Dens at h; exact h.elim
 | v :: vr, h => unfold Dens at h; have h1 := h.1; unfold Den at h1; rw [h1, dens_int1 h.2]
theorem piz_range1 {a : Expr} {fs : Ev → R (List D)} {p pos : Pos} (hg : Gl X "range") (hm : X.mg "range" = none) (ha : PXs κ B X [a] fs) (hs : starEach [a] X.env = [(false, eval a X.env)]) : PIz κ B X tg (.Call (.Name "range" p) [a] [] pos) (λ δ => (fs δ).bind iR1) := λ pins σ Ex =>
 pi_imp (pi_range1 (X := At X pins σ Ex) hg hm (ha pins σ Ex) hs) λ τ H R ⟨G, δ, rp, q⟩ => ⟨G, δ, rp, q.seq λ x v H1 G1 e1 d1 q1 => by
  unfold iR1 at q1
  split at q1
  ·rename_i j
   split at q1
   ·rename_i hj
    refine ⟨j, dens_int1 d1, hj.1, hj.2, ?_⟩
    have := q1 _ H1 G1 (Ext.refl e1.GH) (isIt_rng (lo := 0) (n := (j - 0).toNat))
    simpa using this
   ·exact False.elim q1
  ·exact False.elim q1⟩
theorem piz_range2 {a b : Expr} {fs : Ev → R (List D)} {p pos : Pos} (hg : Gl X "range") (hm : X.mg "range" = none) (ha : PXs κ B X [a, b] fs) (hs : starEach [a, b] X.env = [(false, eval a X.env), (false, eval b X.env)]) (hs2 : starEach [b] X.env = [(false, eval b X.env)]) : PIz κ B X tg (.Call (.Name "range" p) [a, b] [] pos) (λ δ => (fs δ).bind iR2) := λ pins σ Ex =>
 pi_imp (pi_range2 (X := At X pins σ Ex) hg hm (ha pins σ Ex) hs hs2) λ τ H R ⟨G, δ, rp, q⟩ => ⟨G, δ, rp, q.seq λ x v H1 G1 e1 d1 q1 => by
  unfold iR2 at q1
  split at q1
  ·rename_i i j
   split at q1
   ·rename_i hj
    exact ⟨i, j, dens_int2 d1, ⟨hj.1.1, hj.1.2, hj.2.1, hj.2.2⟩, q1 _ H1 G1 (Ext.refl e1.GH) (isIt_rng (lo := i) (n := (j - i).toNat))⟩
   ·exact False.elim q1
  ·exact False.elim q1⟩
theorem Rep.raise {Z : Zx} {H₀ G H : Hp} {σ : St} {δ : Ev} (r : Rep Z B H₀ G H σ δ) : Rep Z ⟨G, B.m⟩ H₀ G H σ δ := ⟨⟨Same.refl _, r.GH, r.old, r.there, λ _ _ n => n⟩, r.len, r.sh, r.ow, r.sep, r.oo, r.oo1⟩
theorem Hold.lower {H₀ G G' H' : Hp} (g : Same B.g G) (l : ∀ b, H₀ b ≠ none → B.g b = none → G b = none) (r : Hold ⟨G, B.m⟩ H₀ G' H') : Hold B H₀ G' H' := ⟨g.trans r.gG, r.GH, r.old, r.there, λ b z n => r.lent b z (l b z n)⟩
theorem Rep.lower {Z : Zx} {H₀ G G' H' : Hp} {σ : St} {δ : Ev} (g : Same B.g G) (l : ∀ b, H₀ b ≠ none → B.g b = none → G b = none) (r : Rep Z ⟨G, B.m⟩ H₀ G' H' σ δ) : Rep Z B H₀ G' H' σ δ := ⟨r.toHold.lower g l, r.len, r.sh, r.ow, r.sep, r.oo, r.oo1⟩
theorem flies_pins {pins pl : List (Addr × Obj)} {H : Hp} {s : Shared} {ea : Addr} {C : Value} (F : Flies X (pins ++ pl) H s ea C) : Flies X pins H s ea C := by
 have c : ∀ {b}, FreshX X (pins ++ pl) H b → FreshX X pins H b := λ f => ⟨f.nl, f.nc, λ p hp => f.np p ((List.mem_append.mp hp).elim (λ z => List.mem_append_left _ z) λ z => List.mem_append_right _ (List.mem_append_left _ z)), f.n0, f.nh⟩
 obtain ⟨⟨oe, vs, a0, t1, t2, t3, t4, t5⟩, fr⟩ := F
 refine ⟨⟨oe, vs, a0, t1, t2, t3, t4, t5.imp id ?_⟩, c fr⟩
 rintro ⟨T, oT, ts, x1, x2, x3, x4, x5, x6⟩
 exact ⟨T, oT, ts, x1, x2, x3, x4, x5, c x6⟩
def zFor (fit : Ev → R (List D)) (bd : D → Ev → Option Ev) (F : Ev → SR) : Ev → SR := λ δ => bS (fit δ) δ λ ds => loopZ bd F ds δ
theorem pz_for (cx : Cxo X) (hc : X.calm = true) {iter : Expr} {body : List Stmt} {fit : Ev → R (List D)} {bd : D → Ev → Option Ev} {F : Ev → SR} (hi : PIz κ B X tg iter fit) (hg : ∀ B, PGz κ B X tg bd) (hb : ∀ B, PZs κ B X body F)
  (hs : ∀ x, foldedSetIterable iter X.env x = pure x) : PZ κ B X (.For tg iter body [] pos) (zFor fit bd F) := λ Ex pins s σ H G δ Dn hp I rp h => by
 have hsgA : ∀ p τ, (X.wish Ex).sg p τ := cx.sg
 refine wpAny_For (thn (hi pins σ Ex pins s σ H (λ J H' => ∃ G' ds, Rep ⟨X.K, κ⟩ B X.H₀ G' H' σ δ ∧ IsIt X κ J G' ds ∧ SPost κ B X Ex pins Dn (loopZ bd F ds δ)) (inv_at I) ⟨G, δ, rp, ?_⟩) λ v s1 h1 => thn h1 λ itv s2 h2 => ?_) hs
 ·unfold zFor at h
  cases q : fit δ with
  | ok ds => rw [q] at h; exact λ J H' G' e1 d1 => ⟨G', ds, rp.ext e1, d1, h⟩
  | exc c => rw [q] at h; exact λ H' G' e1 ea s' I' F' => h ea s' σ H' G' I' F' (rp.ext e1)
  | stuck => rw [q] at h; exact h
 obtain ⟨it, fp, tn, J, H2, e, I2, T, st2, f2, G2, ds, rp2, hJ, q2⟩ := h2
 subst e
 have I2' := inv_unat cx.sg I2
 obtain ⟨vs, dvs, hJ⟩ := hJ
 have hlen := dvs.length
 have stat : ∀ {H' : Hp}, (∀ b ∈ fp, H' b = none) → ∀ b ∈ fp, FpOk (X.wish Ex) pins H' b := λ hn b hb => ⟨hn b hb, (f2 b hb).2⟩
 refine codeAny_forLoop_any (λ n s' => ∃ i σ' H' G' δ', Inv (X.wish Ex) pins σ' H' s' ∧ tn i s'.heap ∧ (∀ b ∈ fp, H' b = none) ∧ n = ds.length - i ∧ i ≤ ds.length ∧ Rep ⟨X.K, κ⟩ ⟨G2, B.m⟩ X.H₀ G' H' σ' δ' ∧ SPost κ B X Ex pins Dn (loopZ bd F (ds.drop i) δ')) ?_ ds.length
  ⟨0, σ, H2, G2, δ, I2', st2, λ b hb => (f2 b hb).1, rfl, Nat.zero_le _, rp2.raise, q2⟩
 rintro n s3 ⟨i, σ3, H3, G3, δ3, I3, st3, fr3, rfl, hi3, rp3, q3⟩
 have low : ∀ {G' H' : Hp} {σ' : St} {δ' : Ev}, Rep ⟨X.K, κ⟩ ⟨G2, B.m⟩ X.H₀ G' H' σ' δ' → Rep ⟨X.K, κ⟩ B X.H₀ G' H' σ' δ' := λ r => r.lower rp2.gG rp2.lent
 have same3 : Same G2 H3 := rp3.gG.trans rp3.GH
 by_cases hlt : i < ds.length
 ·obtain ⟨go, yl⟩ := (hJ H3 same3 i).1 (by omega)
  refine wpAny_passesOwn hp (thn (T.item (X.wish Ex) rfl rfl rfl hc i pins s3 σ3 H3 Ex I3 (stat fr3) st3 go) λ r s4 ⟨u, hr, h4⟩ => ?_)
  subst hr
  refine wpAny_passesOwn hp (thn h4 λ _ s5 ⟨x, H5, I5, r5, y5, st5, fr5⟩ => ?_)
  obtain ⟨e5, vx⟩ := yl x H5 y5
  subst e5
  have I5' := Inv.pinned hsgA I5 (stat fr5) (T.obj _ _ st5)
  obtain ⟨dx, hdx⟩ : ∃ d, ds[i]? = some d := ⟨ds[i], by simp [hlt]⟩
  have dd : Den ⟨X.K, κ⟩ G3 x dx := by
   obtain ⟨v', e1, e2⟩ := dvs.get hdx
   rw [vx] at e1; cases e1
   exact e2.mono rp3.gG
  have hdrop : ds.drop i = dx :: ds.drop (i + 1) := by
   rw [List.drop_eq_getElem_cons hlt]
   simp [hlt] at hdx
   rw [hdx]
  rw [hdrop] at q3
  unfold loopZ at q3
  cases eb : bd dx δ3 with
  | none => rw [eb] at q3; exact False.elim q3
  | some δ4 =>
   rw [eb] at q3
   refine wpAny_passesOwn hp (thn (hg ⟨G2, B.m⟩ Ex _ s5 σ3 _ x u (λ σ' H' => H' = H5 ∧ Rep ⟨X.K, κ⟩ ⟨G2, B.m⟩ X.H₀ G3 H5 σ' δ4) I5' r5 ⟨G3, δ3, dx, δ4, rp3, dd, eb, λ σ' r' => ⟨rfl, r'⟩⟩) λ _ s6 ⟨σ6, H6, I6, e6, rp6⟩ => ?_)
   subst e6
   refine wpAny_passesOwn hp (thn (hb ⟨G2, B.m⟩ Ex _ s6 σ6 _ G3 δ4 { Dn with nx := λ σ' H' => ∃ G' δ', Rep ⟨X.K, κ⟩ ⟨G2, B.m⟩ X.H₀ G' H' σ' δ' ∧ SPost κ B X Ex pins Dn (loopZ bd F (ds.drop (i + 1)) δ'), ct := λ σ' H' => ∃ G' δ', Rep ⟨X.K, κ⟩ ⟨G2, B.m⟩ X.H₀ G' H' σ' δ' ∧ SPost κ B X Ex pins Dn (loopZ bd F (ds.drop (i + 1)) δ'), bk := Dn.nx } hp I6 rp6 ?_) λ fl s7 q7 => ?_)
   ·cases ef : F δ4 with
    | next δ5 => simp only [ef] at q3; exact λ σ' H' G' r => ⟨G', δ5, r, q3⟩
    | cont δ5 => simp only [ef] at q3; exact λ σ' H' G' r => ⟨G', δ5, r, q3⟩
    | brk δ5 => simp only [ef] at q3; exact λ σ' H' G' r => q3 σ' H' G' (low r)
    | ret d => simp only [ef] at q3; exact λ v H' G' r => q3 v H' G' (r.lower rp2.gG rp2.lent)
    | exc c δ5 => simp only [ef] at q3; exact λ ea s' σ' H' G' I' F' r => q3 ea s' σ' H' G' (Inv.unpinned hsgA I') (flies_pins F') (low r)
    | stuck => simp only [ef] at q3; exact q3
   ·have again : ∀ {σ7 : St} {H7 : Hp}, Inv (X.wish Ex) (pins ++ pinsAt fp s5.heap) σ7 H7 s7 → (∃ G' δ', Rep ⟨X.K, κ⟩ ⟨G2, B.m⟩ X.H₀ G' H7 σ7 δ' ∧ SPost κ B X Ex pins Dn (loopZ bd F (ds.drop (i + 1)) δ')) →
      ∃ m, m < ds.length - i ∧ ∃ i σ' H' G' δ', Inv (X.wish Ex) pins σ' H' s7 ∧ tn i s7.heap ∧ (∀ b ∈ fp, H' b = none) ∧ m = ds.length - i ∧ i ≤ ds.length ∧ Rep ⟨X.K, κ⟩ ⟨G2, B.m⟩ X.H₀ G' H' σ' δ' ∧ SPost κ B X Ex pins Dn (loopZ bd F (ds.drop i) δ') := λ {σ7 H7} I7 ⟨G7, δ7, r7, n7⟩ => by
     refine ⟨ds.length - (i + 1), by omega, i + 1, σ7, H7, G7, δ7, Inv.unpinned hsgA I7, T.keep _ _ _ st5 λ b hb o e => (I7.pin (b, o) (List.mem_append_right _ (List.mem_append_right _ (mem_pinsAt hb e)))).1, λ b hb => ?_, rfl, hlt, r7, n7⟩
     obtain ⟨o, e, d⟩ := T.obj _ _ st5 b hb
     exact (I7.pin (b, o) (List.mem_append_right _ (List.mem_append_right _ (mem_pinsAt hb e)))).2.1
    cases fl with
    | next => obtain ⟨σ7, H7, I7, n7⟩ := q7; exact again I7 n7
    | cont => obtain ⟨σ7, H7, I7, n7⟩ := q7; exact again I7 n7
    | brk => obtain ⟨σ7, H7, I7, q7⟩ := q7; exact ⟨σ7, H7, Inv.unpinned hsgA I7, q7⟩
    | ret v => obtain ⟨x7, σ7, H7, I7, r7, q7⟩ := q7; exact ⟨x7, σ7, H7, Inv.unpinned hsgA I7, r7, q7⟩
 ·have hie : i = ds.length := by omega
  refine wpAny_passesOwn hp (thn (T.done (X.wish Ex) rfl rfl rfl hc i pins s3 σ3 H3 Ex I3 (stat fr3) st3 ((hJ H3 same3 i).2 (by omega))) λ r s4 ⟨hr, I4⟩ => ?_)
  subst hr
  rw [hie, List.drop_length] at q3
  exact wpAny_execs_nil ⟨σ3, H3, I4, q3 σ3 H3 G3 (low rp3)⟩
def whileZ (t : Ev → R Bool) (F : Ev → SR) : Nat → Ev → SR
 | 0, _ => .stuck
 | n + 1, δ => bS (t δ) δ λ k => if k then (match F δ with
  | .next δ' => whileZ t F n δ'
  | .cont δ' => whileZ t F n δ'
  | .brk δ' => .next δ'
  | r => r) else .next δ
theorem pz_while (cx : Cxo X) (N : Nat) {c : Expr} {body : List Stmt} {t : Ev → R Bool} {F : Ev → SR} (hc : PXt κ B X c t) (hb : PZs κ B X body F) : PZ κ B X (.While c body [] pos) (whileZ t F N) := λ Ex pins s σ H G δ Dn hp I rp h => by
 refine wpAny_While (codeAny_whileLoop (λ n s' => ∃ σ' H' G' δ', Inv (X.wish Ex) pins σ' H' s' ∧ Rep ⟨X.K, κ⟩ B X.H₀ G' H' σ' δ' ∧ SPost κ B X Ex pins Dn (whileZ t F n δ')) ?_ N ⟨σ, H, G, δ, I, rp, h⟩)
 rintro n s1 ⟨σ1, H1, G1, δ1, I1, rp1, q1⟩
 cases n with
 | zero => exact False.elim q1
 | succ n =>
  unfold whileZ at q1
  refine wpAny_passesOwn hp (thn (hc.stm cx I1 rp1 q1) λ b s2 ⟨H2, G2, I2, rp2, q2⟩ => ?_)
  cases b with
  | true =>
   rw [if_pos rfl]
   rw [if_pos rfl] at q2
   refine wpAny_passesOwn hp (thn (hb Ex pins s2 σ1 H2 G2 δ1 { Dn with nx := λ σ' H' => ∃ G' δ', Rep ⟨X.K, κ⟩ B X.H₀ G' H' σ' δ' ∧ SPost κ B X Ex pins Dn (whileZ t F n δ'), ct := λ σ' H' => ∃ G' δ', Rep ⟨X.K, κ⟩ B X.H₀ G' H' σ' δ' ∧ SPost κ B X Ex pins Dn (whileZ t F n δ'), bk := Dn.nx } hp I2 rp2 ?_) λ f s3 q3 => ?_)
   ·cases ef : F δ1 with
    | next δ5 => simp only [ef] at q2; exact λ σ' H' G' r => ⟨G', δ5, r, q2⟩
    | cont δ5 => simp only [ef] at q2; exact λ σ' H' G' r => ⟨G', δ5, r, q2⟩
    | brk δ5 => simp only [ef] at q2; exact q2
    | ret d => simp only [ef] at q2; exact q2
    | exc c δ5 => simp only [ef] at q2; exact q2
    | stuck => simp only [ef] at q2; exact q2
   ·cases f with
    | next => obtain ⟨σ3, H3, I3, G3, δ3, r3, n3⟩ := q3; exact ⟨n, Nat.lt_succ_self n, σ3, H3, G3, δ3, I3, r3, n3⟩
    | cont => obtain ⟨σ3, H3, I3, G3, δ3, r3, n3⟩ := q3; exact ⟨n, Nat.lt_succ_self n, σ3, H3, G3, δ3, I3, r3, n3⟩
    | brk => exact q3
    | ret v => exact q3
  | false =>
   rw [if_neg Bool.false_ne_true]
   exact wpAny_execs_nil ⟨σ1, H2, I2, q2 σ1 H2 G2 rp2⟩
end
def finR : SR → R D
 | .next _ => .ok .non
 | .ret d => .ok d
 | .exc c _ => .exc c
 | _ => .stuck
def startE (n : Nat) (ds : List D) : Ev := ds.map (λ d => some (.sh d)) ++ List.replicate (n - ds.length) none
structure FrmOk (X : Cx) : Prop where
 st : X.stack = X.env :: X.outer
 fr : X.env.frame = some X.env.locals
theorem fn_mirrorN {P : Program} {w : World} {K : PySem.W.Frag} {mg : Str → Option Value} {base : Heap} {κ : Nat → Addr} {x qual : Str} {st : Stmt} {f : Addr} {fd : FuncData} {N ps : List Str} {k : Nat} {F : Ev → SR}
  (Fn : Fun K x qual st f fd) (S : FnScope N ps (defScope st))
  (hb : ∀ (X : Cx) (B : Gd), Cxo X → X.calm = true → X.prog = P → X.w = w → X.K = K → X.mg = mg → X.base = base → X.N = N → X.env.scope = defScope st → (∀ y, X.fn y = true) → Room k X.A → FrmOk X → (∀ b, X.H₀ b = none → B.m b) → PZs κ B X (defBody st) F) :
  FnOk P w K mg base (CXR P w) (k + 1) f fd ps (spM K κ ps.length λ ds => finR (F (startE N.length ds))) := by
 obtain ⟨oc, od, kV, doc, pm, an, cdv, ct, osl, rfl, lk, hcd⟩ := Fn.ex
 refine fn_of lk hcd S (λ vs H Q E h => h.1) λ A outer s H vs Q E hr hsp => ?_
 obtain ⟨hl, G, ds, sm, dn, hq⟩ := hsp
 dsimp only at hq
 generalize hX : cxOf (CXR P w) P w K mg base N qual (defScope st) f cdv A outer s H E = X
 have eP : X.prog = P := by rw [← hX]; rfl
 have ew : X.w = w := by rw [← hX]; rfl
 have eK : X.K = K := by rw [← hX]; rfl
 have cx : Cxo X := by rw [← hX]; exact ⟨λ _ _ => trivial, rfl⟩
 have body := λ B hB => hb X B cx (by rw [← hX]; rfl) eP ew eK (by rw [← hX]; rfl) (by rw [← hX]; rfl) (by rw [← hX]; rfl) (by rw [← hX]; rfl) (λ y => by rw [← hX]; rfl) (by rw [← hX]; exact hr) (by rw [← hX]; exact ⟨rfl, rfl⟩) hB
 have e0 : X.H₀ = H := by rw [← hX]; rfl
 refine ⟨λ Dn σ H => ∃ B G δ, (∀ b, X.H₀ b = none → B.m b) ∧ Rep ⟨X.K, κ⟩ B X.H₀ G H σ δ ∧ ∀ pins, SPost κ B X X.xe pins Dn (F δ), λ pins s' σ H' Dn I ⟨B, G, δ, hB, rp, h⟩ => ?_, ⟨G, λ b => H b = none⟩, G, startE N.length ds, (λ b z => by rw [e0] at z; exact z), ?_, λ pins => ?_⟩
 ·refine body B hB X.xe pins s' σ H' G δ Dn ?_ I rp (h pins)
  rw [← hX]
  exact PassesOwn.leaving
 ·rw [e0, eK]
  have hld : ds.length = vs.length := dn.length.symm
  refine ⟨⟨Same.refl _, sm, λ _ _ e _ => e, λ _ e => e, λ _ _ e => e⟩, ?_, λ i d e => ?_, λ i es e => ?_, λ i j es fs a n e => ?_, λ i c ns es e => ?_, λ i j c ns es c' ns' es' x0 n0 e => ?_⟩
  ·unfold L2.start startE
   simp [hld]
  ·unfold startE at e
   by_cases hi : i < ds.length
   ·rw [List.getElem?_append_left (by simpa using hi), List.getElem?_map] at e
    cases q : ds[i]? with
    | none => rw [q] at e; cases e
    | some d' =>
     rw [q] at e
     cases e
     obtain ⟨v, e1, e2⟩ := dn.get q
     refine ⟨v, ?_, e2⟩
     unfold L2.start
     rw [List.getElem?_append_left (by simp; omega), List.getElem?_map, e1]
     rfl
   ·rw [List.getElem?_append_right (by simpa using hi), List.getElem?_replicate] at e
    split at e <;> cases e
  ·unfold startE at e
   by_cases hi : i < ds.length
   ·rw [List.getElem?_append_left (by simpa using hi), List.getElem?_map] at e
    cases q : ds[i]? with
    | none => rw [q] at e; cases e
    | some d' => rw [q] at e; cases e
   ·rw [List.getElem?_append_right (by simpa using hi), List.getElem?_replicate] at e
    split at e <;> cases e
  ·unfold startE at e
   by_cases hi : i < ds.length
   ·rw [List.getElem?_append_left (by simpa using hi), List.getElem?_map] at e
    cases q : ds[i]? with
    | none => rw [q] at e; cases e
    | some d' => rw [q] at e; cases e
   ·rw [List.getElem?_append_right (by simpa using hi), List.getElem?_replicate] at e
    split at e <;> cases e
  ·unfold startE at e
   by_cases hi : i < ds.length
   ·rw [List.getElem?_append_left (by simpa using hi), List.getElem?_map] at e
    cases q : ds[i]? with
    | none => rw [q] at e; cases e
    | some d' => rw [q] at e; cases e
   ·rw [List.getElem?_append_right (by simpa using hi), List.getElem?_replicate] at e
    split at e <;> cases e
  ·unfold startE at e
   by_cases hi : i < ds.length
   ·rw [List.getElem?_append_left (by simpa using hi), List.getElem?_map] at e
    cases q : ds[i]? with
    | none => rw [q] at e; cases e
    | some d' => rw [q] at e; cases e
   ·rw [List.getElem?_append_right (by simpa using hi), List.getElem?_replicate] at e
    split at e <;> cases e
 ·have ext : ∀ {G' H' : Hp}, Hold ⟨G, λ b => H b = none⟩ X.H₀ G' H' → Ext G H G' H' := λ {G' H'} h => by
   rw [e0] at h
   refine ⟨h.gG, λ b o e => h.old b o e (by dsimp only; rw [e]; simp), h.GH, λ a n => ?_⟩
   cases q : H a with
   | none => exact .inr rfl
   | some o =>
    refine .inl λ z => n ?_
    exact h.lent a (by rw [q]; simp) z
  cases q : F (startE N.length ds) with
  | next δ' => rw [q] at hq; exact λ σ' H' G' r => hq .non H' G' (ext r.toHold) dNon
  | ret d => rw [q] at hq; exact λ v H' G' r dd => hq v H' G' (ext r) (by rw [eK] at dd; exact dd)
  | exc c δ' =>
   rw [q] at hq
   intro ea s' σ' H' G' I' F' r
   have hE : E (.ref (κ c)) none H' := hq H' G' (ext r.toHold)
   have I2 : Inv X pins σ' H' s' := by
    have := I'.unwish
    exact this
   have := leave_ok (M := model P w) (E := E) (E' := λ e' s'' => CXR P w outer H s E e' s'') I2 cx.ex (by rw [← hX]; rfl) (by rw [← hX]; rfl) F' hE
   rw [← hX] at this ⊢
   exact this
  | brk δ' => rw [q] at hq; exact False.elim hq
  | cont δ' => rw [q] at hq; exact False.elim hq
  | stuck => rw [q] at hq; exact False.elim hq
theorem fn_mirror {P : Program} {w : World} {K : PySem.W.Frag} {mg : Str → Option Value} {base : Heap} {κ : Nat → Addr} {x qual : Str} {st : Stmt} {f : Addr} {fd : FuncData} {N ps : List Str} {k : Nat} {F : Ev → SR}
  (Fn : Fun K x qual st f fd) (S : FnScope N ps (defScope st))
  (hb : ∀ (X : Cx) (B : Gd), Cxo X → X.calm = true → X.prog = P → X.w = w → X.K = K → X.mg = mg → X.base = base → X.N = N → X.env.scope = defScope st → (∀ y, X.fn y = true) → Room k X.A → FrmOk X → PZs κ B X (defBody st) F) :
  FnOk P w K mg base (CXR P w) (k + 1) f fd ps (spM K κ ps.length λ ds => finR (F (startE N.length ds))) := fn_mirrorN Fn S λ X B a1 a2 a3 a4 a5 a6 a7 a8 a9 a10 a11 a12 _ => hb X B a1 a2 a3 a4 a5 a6 a7 a8 a9 a10 a11 a12
end L3
namespace L3
open PySem PySem.Spec PyProof.Rows L2
def fOut (X : Cx) (κ : Nat → Addr) (E : XK) (G H : Hp) (r : R (List D)) (Q : VK) : Prop := match r with
 | .ok ds => ∀ a vs H' G', Ext G H G' H' → H' a = some (.lst vs) → G' a = none → H a = none → Dens ⟨X.K, κ⟩ G' vs ds → Q (.ref a) H'
 | .exc c => ∀ H' G', Ext G H G' H' → E (.ref (κ c)) none H'
 | .stuck => False
def PXf (κ : Nat → Addr) (B : Gd) (X : Cx) (e : Expr) (f : Ev → R (List D)) : Prop := ∀ pins σ Ex, PE (At X pins σ Ex) e (λ τ H Q => ∃ G δ, Rep ⟨X.K, κ⟩ B X.H₀ G H τ δ ∧ fOut X κ (EX X pins σ Ex) G H (f δ) Q)
section
variable {κ : Nat → Addr} {B : Gd} {X : Cx} {e : Expr} {es : List Expr} {f : Ev → R D} {fl fs : Ev → R (List D)} {pos pos' pos'' apos : Pos}
theorem fOut.pre {E : XK} {G H G' H' : Hp} {r : R (List D)} {Q : VK} (e : Ext G H G' H') (h : fOut X κ E G H r Q) : fOut X κ E G' H' r Q := by
 cases r with
 | ok d => exact λ a vs H2 G2 e2 h1 h2 h3 h4 => h a vs H2 G2 (e.trans e2) h1 h2 (e.sH.free h3) h4
 | exc c => exact λ H2 G2 e2 => h H2 G2 (e.trans e2)
 | stuck => exact h
theorem ext_own {G H : Hp} {p : Addr} {o : HO} (s : Same G H) (n : H p = none) : Ext G H G (upd H p o) := by
 refine ⟨Same.refl _, λ b u e => ?_, λ b u e => ?_, λ b e => .inl e⟩
 ·rw [upd_ne (ne_of_none e n)]; exact e
 ·rw [upd_ne (ne_of_none (s b u e) n)]; exact s b u e
def lim (r : R (List D)) : R (List D) := r.bind λ xs => if xs.length ≤ 1000000 then .ok xs else .stuck
theorem pxf_lst (h : PXs κ B X es fs) : PXf κ B X (.List es pos) (λ δ => lim (fs δ)) := λ pins σ Ex =>
 pe_imp (pe_lst (h pins σ Ex)) λ τ H Q ⟨G, δ, rp, q⟩ => ⟨G, δ, rp, by
  unfold lim at q
  dsimp only at q
  cases e : fs δ with
  | ok xs =>
   rw [e] at q
   intro v H1 G1 e1 d1
   simp only [R.bind_ok] at q
   split at q
   ·rename_i hl
    refine ⟨big1 (by rw [Dens.length d1]; exact hl), λ p hp => ?_⟩
    exact q p v _ G1 (e1.trans (ext_own e1.GH hp)) upd_same (e1.GH.free hp) (e1.sH.free hp) d1
   ·exact False.elim q
  | exc c => rw [e] at q; exact q
  | stuck => rw [e] at q; exact q⟩
theorem ext_frz {G H G' H' : Hp} {a : Addr} {vs : List V} (e : Ext G H G' H') (h1 : H' a = some (.lst vs)) (h2 : G' a = none) (h3 : H a = none) : Ext G H (upd G' a (.lst vs)) H' := by
 have sg : Same G' (upd G' a (.lst vs)) := λ b o z => by rw [upd_ne (ne_of_none z h2)]; exact z
 refine ⟨e.sG.trans sg, e.sH, λ b o z => ?_, λ b z => ?_⟩
 ·by_cases hb : b = a
  ·subst hb; rw [upd_same] at z; cases z; exact h1
  ·rw [upd_ne hb] at z; exact e.GH b o z
 ·by_cases hb : b = a
  ·subst hb; exact .inr h3
  ·rw [upd_ne hb] at z; exact e.new b z
def mL (fl : Ev → R (List D)) : Ev → R D := λ δ => (fl δ).bind λ ds => .ok (.lst ds)
theorem PXf.px (h : PXf κ B X e fl) : PX κ B X e (mL fl) := λ pins σ Ex => pe_imp (h pins σ Ex) λ τ H Q ⟨G, δ, rp, q⟩ => ⟨G, δ, rp, by
 unfold mL at q
 cases e : fl δ with
 | ok ds =>
  rw [e] at q
  intro a vs H' G' e1 h1 h2 h3 h4
  have sg : Same G' (upd G' a (.lst vs)) := λ b o z => by rw [upd_ne (ne_of_none z h2)]; exact z
  exact q _ H' _ (ext_frz e1 h1 h2 h3) (by unfold Den; exact ⟨a, vs, rfl, SqL.of upd_same, h4.mono sg⟩)
 | exc c => rw [e] at q; exact q
 | stuck => rw [e] at q; exact q⟩
def zOwn (i : Nat) (fl : Ev → R (List D)) : Ev → SR := λ δ => bS (fl δ) δ λ ds => .next (δ.set i (some (.ow ds)))
theorem pz_own (cx : Cxo X) {i : Nat} {x : Str} (hN : X.N.Nodup) (hi : X.N[i]? = some x) (hx : Loc X.env.scope x) (hf : X.fn x = true ∨ X.env.scope.names.lookup x = some .local) (h : PXf κ B X e fl) (hs : swapsWith e (some (.Name x pos')) pos.line X.env = pure false) :
  PZ κ B X (.Assign [.Name x pos'] e pos) (zOwn i fl) := λ Ex pins s σ H G δ Dn hp I rp q => by
 unfold zOwn at q
 refine wpAny_Assign_Name (thn (h pins σ Ex pins s σ H (λ v H' => ∃ a ds vs G', v = .ref a ∧ Ext G H G' H' ∧ H' a = some (.lst vs) ∧ G' a = none ∧ H a = none ∧ Dens ⟨X.K, κ⟩ G' vs ds ∧ SPost κ B X Ex pins Dn (.next (δ.set i (some (.ow ds))))) (inv_at I) ⟨G, δ, rp, ?_⟩)
  λ v s1 ⟨y, H', I', r, a, ds, vs, G', e0, e1, h1, h2, h3, h4, q⟩ => ?_) hs
 ·cases e : fl δ with
  | ok ds => rw [e] at q; exact λ a vs H' G' e1 h1 h2 h3 h4 => ⟨a, ds, vs, G', rfl, e1, h1, h2, h3, h4, q⟩
  | exc c => rw [e] at q; exact λ H' G' e1 ea s' I' F => q ea s' σ H' G' I' F (rp.ext e1)
  | stuck => rw [e] at q; exact q
 ·subst e0
  have rp' := rp.ext e1
  refine store_ok (X := X.wish Ex) (inv_unat cx.sg I') hN hi hx r (λ s2 I2 => ⟨_, H', I2, q _ H' G' (rp'.setOw h1 h4 h2 ?_ λ j es z n z2 => ?_)⟩) hf (λ p σ v _ => cx.sg p _)
  ·cases q0 : X.H₀ a with
   | none => rfl
   | some o => exact absurd h3 (rp.there a (by rw [q0]; simp))
  ·obtain ⟨b, us, y1, y2, _⟩ := rp.ow j es z
   rw [y1] at z2
   cases z2
   rw [h3] at y2; cases y2
def zApp (i : Nat) (f : Ev → R D) : Ev → SR := λ δ => match δ[i]? with
 | some (some (.ow ds)) => bS (f δ) δ λ d => if ds.length < 1000000 then .next (δ.set i (some (.ow (ds ++ [d])))) else .stuck
 | _ => .stuck
theorem pz_append (cx : Cxo X) {i : Nat} {x : Str} (hN : X.N[i]? = some x) (hv : Vis X.env.scope x) (hd : (x == ("__debug__" : Str)) = false) (hcd : (x == ("__classdict__" : Str)) = false) (h : PX κ B X e f)
  (hsw : swapsWith (.Call (.Attribute (.Name x pos) "append" apos) [e] [] pos') none pos''.line X.env = pure false)
  (hbase : attributeBase (.Name x pos) "append" X.env (eval (.Name x pos) X.env) = eval (.Name x pos) X.env)
  (hfew : ((backTo pos' (starEach [e] X.env)).all (λ x => !x.1) && (backToKw pos' (keywordEach [] X.env)).all (λ x => x.1.isSome)
   && decide (([e] : List Expr).length + ([] : List Keyword).length + (if ([] : List Keyword).isEmpty then 0 else 1) < 30)) = true)
  (hline : (apos.endLine == pos'.line) = true) (hs : starEach [e] X.env = (false, eval e X.env) :: starEach [] X.env) (hpl : (backTo pos' (starEach [] X.env)).any (·.1) = false) :
  PZ κ B X (.Expr (.Call (.Attribute (.Name x pos) "append" apos) [e] [] pos') pos'') (zApp i f) := λ Ex pins s σ H G δ Dn hp I rp q => by
 unfold zApp at q
 split at q
 ·rename_i ds ed
  obtain ⟨a, vs, x1, x2, x3, x4, x5⟩ := rp.ow i ds ed
  have pe := pe_bm (X := At X pins σ Ex) PySem.F.plainAttrs_list PySem.F.slot_list_append PySem.F.type_list_append mt_append (pe_var (X := At X pins σ Ex) (pos := pos) hN hv hd hcd) (pxs_cons h pxs_nil hs pins σ Ex) hbase hfew hline hs hpl
  refine wpAny_Expr_any (thn (pe pins s σ H (λ _ H' => ∃ G' δ', Rep ⟨X.K, κ⟩ B X.H₀ G' H' σ δ' ∧ SPost κ B X Ex pins Dn (.next δ')) (inv_at I) ⟨.ref a, x1, .inl ⟨rfl, vs, SqL.of x2⟩, G, δ, rp, ?_⟩) λ v s1 ⟨y, H', I', r, G', δ', rp', q⟩ => ⟨σ, H', inv_unat cx.sg I', q σ H' G' rp'⟩) I.quiet hsw
  unfold mCons mNil
  cases e : f δ with
  | ok d =>
   rw [e] at q
   simp only [R.bind_ok]
   intro us H1 G1 e1 d1
   simp only [bS_ok] at q
   split at q
   ·rename_i hl
    obtain ⟨y, rfl, dy⟩ : ∃ y, us = [y] ∧ Den ⟨X.K, κ⟩ G1 y d := by
     match us, d1 with
     | [y], d1 => unfold dsRel Dens at d1; exact ⟨y, rfl, d1.1⟩
     | [], d1 => unfold dsRel Dens at d1; exact d1.elim
     | _ :: _ :: _, d1 => unfold dsRel Dens at d1; have := d1.2; unfold Dens at this; exact this.elim
    have rp1 := rp.ext e1
    refine ⟨a, vs, y, rfl, rfl, e1.sH _ _ x2, ?_, G1, _, rp1.updOw ed x1 ((x3.mono e1.sG).append (dens_cons dy dens_nil)), q⟩
    have := x3.length
    rw [sizeLine_eq]
    omega
   ·exact False.elim q
  | exc c =>
   rw [e] at q
   exact λ H' G' e1 ea s' I' F => q ea s' σ H' G' I' F (rp.ext e1)
  | stuck => rw [e] at q; exact q
 ·exact False.elim q
def zPut (i : Nat) (fk f : Ev → R D) : Ev → SR := λ δ => match δ[i]? with
 | some (some (.ow ds)) => bS (f δ) δ λ d => bS (fk δ) δ λ k => match k with
  | .int k => (match ixN ds.length k with
   | some j => .next (δ.set i (some (.ow (ds.set j d))))
   | none => .stuck)
  | _ => .stuck
 | _ => .stuck
theorem pz_put (cx : Cxo X) {i : Nat} {x : Str} {k : Expr} {fk : Ev → R D} (hN : X.N[i]? = some x) (hv : Vis X.env.scope x) (hd : (x == ("__debug__" : Str)) = false) (hcd : (x == ("__classdict__" : Str)) = false) (h : PX κ B X e f) (hk : PX κ B X k fk)
  (hs : swapsWithSole [.Subscript (.Name x pos) k apos] e pos'.line X.env = pure false) (hw : swappedStores [.Subscript (.Name x pos) k apos] e X.env = pure none)
  (h1 : (assignEach [.Subscript (.Name x pos) k apos] X.env).map (·.2) = [assign (.Subscript (.Name x pos) k apos) X.env])
  (ha : ∀ v, assign (.Subscript (.Name x pos) k apos) X.env v = (do
   let ov ← holding [v] (eval (.Name x pos) X.env)
   let iv ← holding [v, ov] (eval k X.env)
   standAt apos
   holding [v, ov, iv] (setItem ov iv v)
   release [v, ov, iv] [])) : PZ κ B X (.Assign [.Subscript (.Name x pos) k apos] e pos') (zPut i fk f) := λ Ex pins s σ H G δ Dn hp I rp q => by
 unfold zPut at q
 split at q
 ·rename_i ds ed
  refine wpAny_Assign_stores (thn (h.stm cx I rp q) λ v s1 ⟨d, y, H', G', I', r, rp', dn, q⟩ => ?_) hs hw
  rw [h1]
  obtain ⟨a, vs, x1, x2, x3, x4, x5⟩ := rp'.ow i ds ed
  have pg := pg_sub (X := At X pins σ Ex) (pe_var (X := At X pins σ Ex) (pos := pos) hN hv hd hcd) (hk pins σ Ex) set_list ha
  refine thn (pg pins s1 σ H' y v (λ σ' H'' => ∃ G'' δ', Rep ⟨X.K, κ⟩ B X.H₀ G'' H'' σ' δ' ∧ SPost κ B X Ex pins Dn (.next δ')) (inv_at I') r ⟨.ref a, x1, G', δ, rp', ?_⟩) λ _ s2 ⟨σ2, H2, I2, G2, δ2, rp2, q2⟩ => ?_
  ·cases e : fk δ with
   | ok kd =>
    rw [e] at q
    intro kv H1 G1 e1 d1
    simp only [bS_ok] at q
    split at q
    ·rename_i n
     have ek : kv = .int n := by simpa [dRel, Den] using d1
     subst ek
     have hlen := (x3).length
     split at q
     ·rename_i j ej
      refine ⟨a, vs, n, j, rfl, rfl, e1.sH _ _ x2, by rw [hlen]; exact ej, G1, _, (rp'.ext e1).updOw ed x1 ((x3.mono e1.sG).set (dn.mono e1.sG) j), q⟩
     ·exact False.elim q
    ·exact False.elim q
   | exc c =>
    rw [e] at q
    exact λ H1 G1 e1 ea s' I' F => q ea s' σ H1 G1 I' F (rp'.ext e1)
   | stuck => rw [e] at q; exact q
  ·obtain ⟨_, es⟩ := I2.sgm
   subst es
   exact ⟨_, H2, inv_unat cx.sg I2, q2 _ H2 G2 rp2⟩
 ·exact False.elim q
end
end L3
namespace L3
open PySem PySem.Spec PyProof.Rows L2
mutual
def toP : D → PyData
 | .non => .none
 | .bl b => .bool b
 | .int i => .int i
 | .str x => .str ⟨x.toArray⟩
 | .tup ds => .tuple (toPs ds)
 | .lst ds => .list (toPs ds)
 | .ob _ _ _ => .none
 | .dic _ _ => .none
def toPs : List D → List PyData
 | [] => []
 | d :: ds => toP d :: toPs ds
end
mutual
def plainD : D → Bool
 | .non | .bl _ | .int _ | .str _ => true
 | .tup ds => plainDs ds
 | .lst ds => plainDs ds
 | .ob _ _ _ => false
 | .dic _ _ => false
def plainDs : List D → Bool
 | [] => true
 | d :: ds => plainD d && plainDs ds
end
section
variable {κ : Nat → Addr} {Y : Cx} {pins : List (Addr × Obj)} {σ : St} {H G : Hp} {s : Shared}
mutual
theorem reads_of (I : Inv Y pins σ H s) (sm : Same G H) : ∀ {d : D} {v : V} {u : Value}, Den ⟨Y.K, κ⟩ G v d → plainD d = true → RelV v u → ∃ as, Reads s.heap u (toP d) as
 | .non, v, u, h, _, r => by unfold Den at h; subst h; cases r; exact ⟨_, .none⟩
 | .bl b, v, u, h, _, r => by unfold Den at h; subst h; cases r; exact ⟨_, .bool b⟩
 | .int i, v, u, h, _, r => by unfold Den at h; subst h; obtain ⟨t, rfl⟩ := r; exact ⟨_, .int i t⟩
 | .str x, v, u, h, _, r => by unfold Den at h; subst h; obtain ⟨t, rfl⟩ := r; exact ⟨_, .str _ t⟩
 | .tup ds, v, u, h, p, r => by
  unfold Den at h
  obtain ⟨a, vs, rfl, h1, h2⟩ := h
  cases r
  obtain ⟨its, rv, ⟨o, e, hc, n, hd⟩, _⟩ := I.tuple (same_seqT sm h1)
  obtain ⟨as, q⟩ := reads_ofs I sm h2 (by unfold plainD at p; exact p) rv
  exact ⟨as, reads_tuple_at e hc hd (by simpa using q)⟩
 | .lst ds, v, u, h, p, r => by
  unfold Den at h
  obtain ⟨a, vs, rfl, h1, h2⟩ := h
  cases r
  obtain ⟨its, rv, ⟨o, n, e, hc, _, hd⟩, _⟩ := I.list (sm.seq h1)
  obtain ⟨as, q⟩ := reads_ofs I sm h2 (by unfold plainD at p; exact p) rv
  exact ⟨a :: as, reads_list_at e hc hd (by simpa using q)⟩
 | .ob _ _ _, _, _, _, p, _ => by unfold plainD at p; cases p
 | .dic _ _, _, _, _, p, _ => by unfold plainD at p; cases p
theorem reads_ofs (I : Inv Y pins σ H s) (sm : Same G H) : ∀ {ds : List D} {vs : List V} {us : List Value}, Dens ⟨Y.K, κ⟩ G vs ds → plainDs ds = true → Vals vs us → ∃ as, ReadsAll s.heap us (toPs ds) as
 | [], [], us, _, _, r => by cases r; exact ⟨_, .nil⟩
 | d :: ds, v :: vs, us, h, p, r => by
  unfold Dens at h
  unfold plainDs at p
  have p := Bool.and_eq_true_iff.mp p
  cases r with
  | cons r1 r2 =>
   obtain ⟨as, q1⟩ := reads_of I sm h.1 p.1 r1
   obtain ⟨bs, q2⟩ := reads_ofs I sm h.2 p.2 r2
   exact ⟨_, .cons q1 q2⟩
 | [], _ :: _, _, h, _, _ => by unfold Dens at h; exact h.elim
 | _ :: _, [], _, h, _, _ => by unfold Dens at h; exact h.elim
end
theorem reads_rel (I : Inv Y pins σ H s) (sm : Same G H) {d : D} {v : V} {u : Value} (h : rRel Y κ G H v d) (p : plainD d = true) (r : RelV v u) : ∃ as, Reads s.heap u (toP d) as := by
 rcases h with h | ⟨a, vs, ds, rfl, rfl, h3, h4⟩
 ·exact reads_of I sm h p r
 ·cases r
  obtain ⟨its, rv, ⟨o, n, e, hc, _, hd⟩, _⟩ := I.list (SqL.of h3)
  obtain ⟨as, q⟩ := reads_ofs I sm h4 (by unfold plainD at p; exact p) rv
  exact ⟨a :: as, reads_list_at e hc hd (by simpa using q)⟩
end
def okP (d : D) : Bool := plainD d && SeqAt.shaped (toP d)
def eqD (x y : D) : Bool := (toP x).eqv (toP y)
def oEq (x y : D) : R Bool := if okP x && okP y then .ok (eqD x y) else .stuck
def oNe (x y : D) : R Bool := if okP x && okP y then .ok (!eqD x y) else .stuck
def rEqD (X : Cx) (κ : Nat → Addr) (neg : Bool) : R2 := λ v u H Q => ∃ G x y, Same G H ∧ rRel X κ G H v x ∧ rRel X κ G H u y ∧ okP x = true ∧ okP y = true ∧ Q (.bl (neg ^^ eqD x y)) H
section
variable {κ : Nat → Addr} {B : Gd} {X : Cx} {a b c : Expr} {fa fb : Ev → R D} {pos p p' : Pos}
theorem rRel_K {X Y : Cx} {κ : Nat → Addr} (e : Y.K = X.K) {G H : Hp} {v : V} {d : D} (h : rRel X κ G H v d) : rRel Y κ G H v d := by
 unfold rRel at h ⊢
 rw [e]; exact h
theorem opR_eq (hu : X.A.units + 64 < cLine) : ∀ Y : Cx, Y.K = X.K → Y.A = X.A → OpR Y (compareOp .Eq) (rEqD X κ false) := by
 intro Y eK eA pins s σ H v u v' u' Q I r1 r2 ⟨G, x, y, sm, d1, d2, o1, o2, q⟩
 have o1 := Bool.and_eq_true_iff.mp o1
 have o2 := Bool.and_eq_true_iff.mp o2
 obtain ⟨as, q1⟩ := reads_rel I sm (rRel_K eK d1) o1.1 r1
 obtain ⟨bs, q2⟩ := reads_rel I sm (rRel_K eK d2) o2.1 r2
 exact eq_dataH q1 q2 o1.2 o2.2 (by rw [eA]; exact hu) ⟨.bl _, H, I, rfl, by simpa [eqD] using q⟩
theorem opR_ne (hu : X.A.units + 64 < cLine) : ∀ Y : Cx, Y.K = X.K → Y.A = X.A → OpR Y (compareOp .NotEq) (rEqD X κ true) := by
 intro Y eK eA pins s σ H v u v' u' Q I r1 r2 ⟨G, x, y, sm, d1, d2, o1, o2, q⟩
 have o1 := Bool.and_eq_true_iff.mp o1
 have o2 := Bool.and_eq_true_iff.mp o2
 obtain ⟨as, q1⟩ := reads_rel I sm (rRel_K eK d1) o1.1 r1
 obtain ⟨bs, q2⟩ := reads_rel I sm (rRel_K eK d2) o2.1 r2
 exact ne_dataH q1 q2 o1.2 o2.2 (by rw [eA]; exact hu) ⟨.bl _, H, I, rfl, by simpa [eqD] using q⟩
theorem opOk_eq : OpOk κ X (rEqD X κ false) (op2 oEq) := by
 intro x y v u G H Q E s d1 d2 q
 unfold op2 oEq at q
 split at q
 ·rename_i h
  have h := Bool.and_eq_true_iff.mp h
  exact ⟨G, x, y, s, d1, d2, h.1, h.2, by simpa using q _ H G (Ext.refl s) dBl⟩
 ·exact False.elim q
theorem opOk_ne : OpOk κ X (rEqD X κ true) (op2 oNe) := by
 intro x y v u G H Q E s d1 d2 q
 unfold op2 oNe at q
 split at q
 ·rename_i h
  have h := Bool.and_eq_true_iff.mp h
  exact ⟨G, x, y, s, d1, d2, h.1, h.2, by simpa using q _ H G (Ext.refl s) dBl⟩
 ·exact False.elim q
theorem px_eq (hu : X.A.units + 64 < cLine) (ha : PXr κ B X a fa) (hb : PXr κ B X b fb) (hm : behindInMarks .Eq b = false) : PX κ B X (.Compare a [.Eq] [b] pos) (m2 (op2 oEq) fa fb) := px_cmp (opR_eq hu) opOk_eq ha hb hm
theorem pxt_eq (hu : X.A.units + 64 < cLine) (ha : PXr κ B X a fa) (hb : PXr κ B X b fb) (hm : behindInMarks .Eq b = false) : PXt κ B X (.Compare a [.Eq] [b] pos) (m2t oEq fa fb) := pxt_cmp (opR_eq hu) opOk_eq ha hb hm
theorem pxt_ne (hu : X.A.units + 64 < cLine) (ha : PXr κ B X a fa) (hb : PXr κ B X b fb) (hm : behindInMarks .NotEq b = false) : PXt κ B X (.Compare a [.NotEq] [b] pos) (m2t oNe fa fb) := pxt_cmp (opR_ne hu) opOk_ne ha hb hm
@[simp] theorem oEq_int (i j : Int) : oEq (.int i) (.int j) = .ok (i == j) := rfl
@[simp] theorem oNe_int (i j : Int) : oNe (.int i) (.int j) = .ok (!(i == j)) := rfl
@[simp] theorem oEq_bl (i j : Bool) : oEq (.bl i) (.bl j) = .ok (i == j) := rfl
@[simp] theorem oNe_bl (i j : Bool) : oNe (.bl i) (.bl j) = .ok (!(i == j)) := rfl
def oLen : D → R D
 | .lst ds => .ok (.int ds.length)
 | .tup ds => .ok (.int ds.length)
 | .str x => if x.length ≤ 1000000 then .ok (.int x.length) else .stuck
 | _ => .stuck
theorem callR_or {Y : Cx} {f : Value} {r r' : List V → Hp → VK → Prop} (h : CallR Y f r) (h' : CallR Y f r') : CallR Y f (λ xs H Q => r xs H Q ∨ r' xs H Q) := by
 intro pins s σ H xs us Q I rx q
 rcases q with q | q
 ·exact h pins s σ H xs us Q I rx q
 ·exact h' pins s σ H xs us Q I rx q
theorem px_len (hg : Gl X "len") (hm : X.mg "len" = none) (ha : PXr κ B X a fa) (hs : starEach [a] X.env = (false, eval a X.env) :: starEach [] X.env) (hpl : (backTo pos (starEach [] X.env)).any (·.1) = false) : PX κ B X (.Call (.Name "len" p) [a] [] pos) (m1 oLen fa) := λ pins σ Ex =>
 pe_imp (pe_callB (X := At X pins σ Ex) (callR_or call_len_seq call_len_str) hg hm PySem.boot_len (pa_cons (X := At X pins σ Ex) (ha pins σ Ex) pa_nil hs) (by decide) (by decide) hs hpl) λ τ H Q ⟨G, δ, rp, q⟩ => ⟨G, δ, rp, q.seq λ x v H1 G1 e1 d1 q1 => by
  have lst : ∀ {q : Addr} {vs : List V} {ds : List D}, (SqL X.K H1 q vs ∨ SqT X.K H1 q vs) → Dens ⟨X.K, κ⟩ G1 vs ds → Out (dRel X κ) κ (EX X pins σ Ex) G1 H1 (.ok (.int ds.length)) Q →
   (∃ p ys, [V.ref q] = [.ref p] ∧ (SqL X.K H1 p ys ∨ SqT X.K H1 p ys) ∧ Q (.int ys.length) H1) := λ {q vs ds} h1 h2 h3 => ⟨q, vs, rfl, h1, by
    rw [h2.length]; exact h3 _ H1 G1 (Ext.refl e1.GH) dInt⟩
  cases x with
  | lst ds =>
   rcases d1 with d1 | ⟨l, vs, es, rfl, e, h3, h4⟩
   ·unfold Den at d1
    obtain ⟨l, vs, rfl, h1, h2⟩ := d1
    exact .inl (lst (.inl (e1.GH.seq h1)) h2 q1)
   ·cases e
    exact .inl (lst (.inl (SqL.of h3)) h4 q1)
  | tup ds =>
   rcases d1 with d1 | ⟨l, vs, es, rfl, e, h3, h4⟩
   ·unfold Den at d1
    obtain ⟨l, vs, rfl, h1, h2⟩ := d1
    exact .inl (lst (.inr (same_seqT e1.GH h1)) h2 q1)
   ·cases e
  | str x =>
   simp only [oLen] at q1
   split at q1
   ·rename_i hx
    have ev := rStr d1
    subst ev
    refine .inr ⟨_, rfl, big1 (by simpa [Str.length] using hx), ?_⟩
    have := q1 _ H1 G1 (Ext.refl e1.GH) dInt
    simpa [Str.length] using this
   ·exact False.elim q1
  | _ => exact False.elim q1⟩
inductive Ty where
 | int | bool | str | tuple | list
def Ty.nm : Ty → String
 | .int => "int" | .bool => "bool" | .str => "str" | .tuple => "tuple" | .list => "list"
def isTy : D → Ty → R Bool
 | .non, _ => .ok false
 | .bl _, .int => .ok true
 | .bl _, .bool => .ok true
 | .bl _, _ => .ok false
 | .int _, .int => .ok true
 | .int _, _ => .ok false
 | .str _, .str => .ok true
 | .str _, _ => .ok false
 | .tup _, .tuple => .ok true
 | .tup _, _ => .ok false
 | .lst _, .list => .ok true
 | .lst _, _ => .ok false
 | .ob _ _ _, _ => .stuck
 | .dic _ _, _ => .stuck
theorem kit_all {K : PySem.W.Frag} (T : Ty) : PySem.W.kitOne K (.type "NoneType") (.type T.nm) = some false ∧ PySem.W.kitOne K (.type "bool") (.type T.nm) = some (match T with | .int => true | .bool => true | _ => false) ∧
  PySem.W.kitOne K (.type "int") (.type T.nm) = some (match T with | .int => true | _ => false) ∧ PySem.W.kitOne K (.type "str") (.type T.nm) = some (match T with | .str => true | _ => false) ∧
  PySem.W.kitOne K (.type "tuple") (.type T.nm) = some (match T with | .tuple => true | _ => false) ∧ PySem.W.kitOne K (.type "list") (.type T.nm) = some (match T with | .list => true | _ => false) := by
 cases T <;> exact ⟨rfl, rfl, rfl, rfl, rfl, rfl⟩
theorem boot_ty (T : Ty) : bootBuiltins (Str.ofString T.nm) = some (.type T.nm) := by
 cases T <;> decide +kernel
def rIs (X : Cx) (κ : Nat → Addr) (T : Ty) : List V → Hp → VK → Prop := λ xs H Q => ∃ G v x k, xs = [v, .ty T.nm] ∧ Same G H ∧ rRel X κ G H v x ∧ isTy x T = .ok k ∧ Q (.bl k) H
theorem callR_is (T : Ty) : ∀ Y : Cx, Y.K = X.K → CallR Y (.builtin "isinstance") (rIs X κ T) := by
 intro Y eK pins s σ H xs us Q I rx ⟨G, v, x, k, e, sm, d, hk, q⟩
 subst e
 obtain ⟨k1, k2, k3, k4, k5, k6⟩ := kit_all (K := Y.K) T
 have d := rRel_K eK d
 match us, rx with
 | [u, t], .cons r1 (.cons r2 .nil) =>
  cases r2
  have fin : ∀ (b : Bool), R.ok b = R.ok k → ∀ tk, EP Y pins σ Q (.bool b) { s with toks := tk } := λ b e tk => by
   injection e with e
   subst e
   exact ⟨.bl b, H, I.tok tk, rfl, q⟩
  have lst : ∀ {l : Addr} {vs : List V}, v = .ref l → SqL Y.K H l vs → isTy (.lst []) T = .ok k → wpAny (model Y.prog Y.w) Y.A (call (.builtin "isinstance") [u, .type T.nm]) (EP Y pins σ Q) Y.xe s := λ {l vs} e0 h1 e => by
   subst e0
   cases r1
   obtain ⟨its, _, ⟨o, n, e1, hc, _⟩, _⟩ := I.list h1
   exact PySem.W.kia_one (PySem.W.kitx_list (K := Y.K)) I.kIn ⟨o, e1, hc⟩ k6 (by intro z; cases z) (fin _ (by rw [← e]; cases T <;> rfl))
  rcases d with d | ⟨l, vs, ds, e0, e, h3, h4⟩
  ·cases x with
   | non => unfold Den at d; subst d; cases r1; exact PySem.W.kia_one (PySem.W.kitx_none (K := Y.K)) I.kIn trivial k1 (by intro z; cases z) (fin _ (by rw [← hk]; cases T <;> rfl))
   | bl b => unfold Den at d; subst d; cases r1; exact PySem.W.kia_one (PySem.W.kitx_bool (K := Y.K)) I.kIn trivial k2 (by intro z; cases z) (fin _ (by rw [← hk]; cases T <;> rfl))
   | int i => unfold Den at d; subst d; obtain ⟨tk, rfl⟩ := r1; exact PySem.W.kia_one (PySem.W.kitx_int (K := Y.K)) I.kIn trivial k3 (by intro z; cases z) (fin _ (by rw [← hk]; cases T <;> rfl))
   | str i => unfold Den at d; subst d; obtain ⟨tk, rfl⟩ := r1; exact PySem.W.kia_one (PySem.W.kitx_str (K := Y.K)) I.kIn trivial k4 (by intro z; cases z) (fin _ (by rw [← hk]; cases T <;> rfl))
   | tup ds =>
    unfold Den at d
    obtain ⟨l, vs, rfl, h1, _⟩ := d
    cases r1
    obtain ⟨its, _, ⟨o, e1, hc, _⟩, _⟩ := I.tuple (same_seqT sm h1)
    exact PySem.W.kia_one (PySem.W.kitx_tuple (K := Y.K)) I.kIn ⟨o, e1, hc⟩ k5 (by intro z; cases z) (fin _ (by rw [← hk]; cases T <;> rfl))
   | lst ds =>
    unfold Den at d
    obtain ⟨l, vs, e0, h1, _⟩ := d
    exact lst e0 (sm.seq h1) (by rw [← hk]; cases T <;> rfl)
   | ob _ _ _ => cases hk
   | dic _ _ => cases hk
  ·subst e
   exact lst e0 (SqL.of h3) (by rw [← hk]; cases T <;> rfl)
theorem px_isinst (T : Ty) {y : Str} (hy : y = Str.ofString T.nm) (hg : Gl X "isinstance") (hm : X.mg "isinstance" = none) (hgT : Gl X y) (hmT : X.mg y = none) (hn : y ≠ "__name__") (hdb : (y == ("__debug__" : Str)) = false) (ha : PXr κ B X a fa)
  (hs : starEach [a, .Name y p'] X.env = (false, eval a X.env) :: starEach [.Name y p'] X.env) (hs2 : starEach [.Name y p'] X.env = (false, eval (.Name y p') X.env) :: starEach [] X.env) (hpl : (backTo pos (starEach [.Name y p'] X.env)).any (·.1) = false) :
  PX κ B X (.Call (.Name "isinstance" p) [a, .Name y p'] [] pos) (m1 (λ x => blR (isTy x T)) fa) := λ pins σ Ex =>
 pe_imp (pe_callB (X := At X pins σ Ex) (callR_is (κ := κ) (X := X) T (At X pins σ Ex) rfl) hg hm PyProof.Rows.boot_isinstance (pa_cons (X := At X pins σ Ex) (ha pins σ Ex) (pa_cons (X := At X pins σ Ex) (pe_bltn (X := At X pins σ Ex) (v := .ty T.nm) hgT hmT (by rw [hy]; exact boot_ty T) rfl hn hdb) pa_nil hs2) hs) (by decide) (by decide) hs hpl) λ τ H Q ⟨G, δ, rp, q⟩ => ⟨G, δ, rp, q.seq λ x v H1 G1 e1 d1 q1 => by
  cases e : isTy x T with
  | ok k => rw [e] at q1; exact ⟨G1, v, x, k, rfl, e1.GH, d1, e, q1 _ H1 G1 (Ext.refl e1.GH) dBl⟩
  | exc c => cases x <;> cases T <;> cases e
  | stuck => rw [e] at q1; exact False.elim q1⟩
end
end L3
namespace L2
theorem Fun.at {K : PySem.W.Frag} {x qual : PySem.Str} {st : PySem.Stmt} {f : PySem.Addr} {fd : PySem.FuncData} (F : Fun K x qual st f fd) : ∃ oc od osl, K.lookup f = some ⟨oc, od, .func fd, osl⟩ := by
 obtain ⟨oc, od, _, _, _, _, _, _, osl, _, l, _⟩ := F.ex
 exact ⟨oc, od, osl, l⟩
end L2
namespace L3
open PySem PySem.Spec PyProof.Rows L2
def MC (P : Program) (w : World) (K : PySem.W.Frag) (mg : Str → Option Value) (base : Heap) (κ : Nat → Addr) (x : Str) (ps : List Str) (m : List D → R D) (k : Nat) : Prop :=
 ∃ f fd, FnOk P w K mg base (CXR P w) k f fd ps (spM K κ ps.length m) ∧ mg x = some (.ref f) ∧ PySem.W.keepIn K (.ref f) = true ∧ Binds K fd ps [] ∧ ∃ oc od osl, K.lookup f = some ⟨oc, od, .func fd, osl⟩
theorem MC.cal {κ : Nat → Addr} {X : Cx} {x : Str} {ps : List Str} {n : Nat} {m : List D → R D} {k j : Nat} (h : MC X.prog X.w X.K X.mg X.base κ x ps m k) (hr : Room j X.A) (hj : k ≤ j) (hn : ps.length = n := by rfl) : Cal κ X x n m := by
 obtain ⟨f, fd, F, h1, h2, h3, _⟩ := h
 subst hn
 exact ⟨f, fd, ps, k, F, hr.mono hj, h1, h2, h3⟩
theorem mlen_nil : ∀ (δ : Ev) (ds : List D), mNil δ = .ok ds → ds.length = 0 := λ δ ds h => by
 unfold mNil at h; injection h with h; subst h; rfl
theorem mlen_cons {f : Ev → R D} {fs : Ev → R (List D)} {n : Nat} (h : ∀ δ ds, fs δ = .ok ds → ds.length = n) : ∀ (δ : Ev) (ds : List D), mCons f fs δ = .ok ds → ds.length = n + 1 := λ δ ds e => by
 unfold mCons at e
 cases q : f δ with
 | ok x =>
  rw [q] at e
  cases q2 : fs δ with
  | ok xs =>
   rw [q2] at e
   injection e with e
   subst e
   simp [h δ xs q2]
  | exc c => rw [q2] at e; cases e
  | stuck => rw [q2] at e; cases e
 | exc c => rw [q] at e; cases e
 | stuck => rw [q] at e; cases e
theorem law_fn {P : Program} {w : World} {K : PySem.W.Frag} {mg : Str → Option Value} {base : Heap} {κ : Nat → Addr} {y : Str} {m : List D → R D} {k : Nat} {f : Addr} {fd : FuncData} {oc : Value} {od : Option Addr} {osl : Array (Option Value)}
  (hm : mg "law" = some (.ref f)) (l : K.lookup f = some ⟨oc, od, .func fd, osl⟩) (o : MC P w K mg base κ "law" [y] m k) (main : ∀ ns : List Int, ns.length ≤ 63 → m [.lst (ns.map D.int)] = .ok (.bl true)) :
  FnOk P w K mg base (CXR P w) k f fd [y] (λ vs H Q _ => ∃ (a : Addr) (ns : List Int), vs = [.ref a] ∧ SqL K H a (ns.map V.int) ∧ ns.length ≤ 63 ∧ ∀ H', Q (.bl true) H') := by
 obtain ⟨f', fd', F, h1, _, _, oc', od', osl', l'⟩ := o
 rw [hm] at h1; cases h1
 rw [l] at l'; cases l'
 refine F.imp λ vs H Q E ⟨a, ns, e, hS, hl, hq⟩ => ?_
 subst e
 refine ⟨rfl, H, [.lst (ns.map D.int)], Same.refl _, dens_cons (by unfold Den; exact ⟨a, _, rfl, hS, dens_ints ns⟩) dens_nil, ?_⟩
 rw [main ns hl]
 intro v H' G' _ d
 have : v = .bl true := by simpa [Den] using d
 subst this
 exact hq H'
end L3
namespace L3
open PySem PySem.Spec PyProof.Rows L2
def noStar : Expr → Bool
 | .Starred _ _ => false
 | _ => true
theorem star_cons {e : Expr} {es : List Expr} {env : Env} (h : noStar e = true) : starEach (e :: es) env = (false, eval e env) :: starEach es env := by
 cases e <;> first | rfl | exact Bool.noConfusion h
theorem back_any {pos : Pos} {env : Env} : ∀ {es : List Expr}, es.all noStar = true → (backTo pos (starEach es env)).any (·.1) = false
 | [], _ => rfl
 | e :: es, h => by
  simp only [List.all_cons, Bool.and_eq_true] at h
  rw [star_cons h.1]
  show (false || (backTo pos (starEach es env)).any (·.1)) = false
  rw [back_any h.2]; rfl
theorem back_all {pos : Pos} {env : Env} {e : Expr} (h : noStar e = true) : ((backTo pos (starEach [e] env)).all (λ x => !x.1) && (backToKw pos (keywordEach [] env)).all (λ x => x.1.isSome)
   && decide (([e] : List Expr).length + ([] : List Keyword).length + (if ([] : List Keyword).isEmpty then 0 else 1) < 30)) = true := by
 rw [star_cons h]; rfl
def noComp : Expr → Bool
 | .ListComp _ _ _ _ => false
 | .SetComp _ _ _ _ => false
 | .DictComp _ _ _ _ _ => false
 | _ => true
theorem swaps_no {e : Expr} {t : Option Expr} {n : Nat} {env : Env} (h : noComp e = true) : swapsWith e t n env = pure false := by
 cases e <;> first | rfl | exact Bool.noConfusion h
def noTup : Expr → Bool
 | .Tuple _ _ _ => false
 | _ => true
theorem stores_no {t e : Expr} {env : Env} (h : noTup e = true) : swappedStores [t] e env = pure none := by
 cases t <;> cases e <;> first | rfl | exact Bool.noConfusion h
theorem each_one {t : Expr} {env : Env} (h : noStar t = true) : (assignEach [t] env).map (·.2) = [assign t env] := by
 cases t <;> first | rfl | exact Bool.noConfusion h
theorem each_cons {t : Expr} {ts : List Expr} {env : Env} (h : noStar t = true) : (assignEach (t :: ts) env).map (·.2) = assign t env :: (assignEach ts env).map (·.2) := by
 cases t <;> first | rfl | exact Bool.noConfusion h
theorem each_len {env : Env} : ∀ {ts : List Expr}, ts.all noStar = true → (assignEach ts env).length = ts.length ∧ (assignEach ts env).findIdx? (·.1) = none
 | [], _ => ⟨rfl, rfl⟩
 | t :: ts, h => by
  simp only [List.all_cons, Bool.and_eq_true] at h
  obtain ⟨h1, h2⟩ := each_len (env := env) h.2
  have e : assignEach (t :: ts) env = (false, assign t env) :: assignEach ts env := by
   have := h.1
   cases t <;> first | rfl | exact Bool.noConfusion this
  rw [e]
  refine ⟨by simp [h1], ?_⟩
  rw [List.findIdx?_cons]
  simp [h2]
def plT : Expr → Bool
 | .Name _ _ | .Call _ _ _ _ | .Subscript _ _ _ | .Attribute _ _ _ | .BinOp _ _ _ _ | .Tuple _ _ _ | .List _ _ => true
 | _ => false
theorem true_pl {a : Expr} {env : Env} (h : plT a = true) : ∀ whole, isTrue a env whole = (do let v ← whole; standAt a.pos; holding [v] (truthy v)) := by
 intro w
 cases a <;> first | rfl | exact Bool.noConfusion h
def plI : Expr → Bool
 | .Name _ _ | .Call _ _ _ _ | .Subscript _ _ _ | .Attribute _ _ _ | .BinOp _ _ _ _ | .List _ _ | .Constant _ _ _ | .IfExp _ _ _ _ | .UnaryOp _ _ _ | .Compare _ _ _ _ | .BoolOp _ _ _ => true
 | _ => false
theorem fold_no {a : Expr} {env : Env} (h : plI a = true) : ∀ x, foldedSetIterable a env x = pure x := by
 intro x
 cases a <;> first | rfl | exact Bool.noConfusion h
theorem ix_pl {b : Expr} (h : plI b = true) : PlainIx b := by
 intro o i
 cases b <;> first | rfl | exact Bool.noConfusion h
def plM : Expr → Bool
 | .Set _ _ _ => false
 | _ => true
theorem mark_no {o : CmpOp} {b : Expr} (h : plM b = true) : behindInMarks o b = false := by
 cases b <;> first | rfl | exact Bool.noConfusion h
section
variable {κ : Nat → Addr} {B : Gd} {X : Cx} {a b e k tg : Expr} {es tgs : List Expr} {f fa fb fk : Ev → R D} {fs fl : Ev → R (List D)} {pos pos' pos'' apos p p' : Pos} {x : Str} {m : List D → R D} {n i : Nat}
theorem ys_cons (ha : PX κ B X a fa) (hr : PXs κ B X es fs) (h : noStar a = true) : PXs κ B X (a :: es) (mCons fa fs) := pxs_cons ha hr (star_cons h)
theorem y_call (c : Cxo X) (C : Cal κ X x n m) (hn : (a :: es).length = n) (hg : Gl X x) (ha : PXs κ B X (a :: es) fs) (hdb : (x == ("__debug__" : Str)) = false) (h : (a :: es).all noStar = true) (hlen : ∀ δ ds, fs δ = .ok ds → ds.length = n) :
  PX κ B X (.Call (.Name x p) (a :: es) [] pos) (mCall m fs) := by
 have h' := h
 simp only [List.all_cons, Bool.and_eq_true] at h'
 exact px_call c C hn hg ha hdb (star_cons h'.1) (back_any h'.2) hlen
theorem y_set (cx : Cxo X) (hN : X.N.Nodup) (hi : X.N[i]? = some x) (hx : Loc X.env.scope x) (hf : X.fn x = true ∨ X.env.scope.names.lookup x = some .local) (h : PX κ B X e f) (hs : noComp e = true) : PZ κ B X (.Assign [.Name x pos'] e pos) (zSet i f) := pz_set cx hN hi hx hf h (swaps_no hs)
theorem y_own (cx : Cxo X) (hN : X.N.Nodup) (hi : X.N[i]? = some x) (hx : Loc X.env.scope x) (hf : X.fn x = true ∨ X.env.scope.names.lookup x = some .local) (h : PXf κ B X e fl) (hs : noComp e = true) : PZ κ B X (.Assign [.Name x pos'] e pos) (zOwn i fl) := pz_own cx hN hi hx hf h (swaps_no hs)
theorem y_append (cx : Cxo X) (hN : X.N[i]? = some x) (hv : Vis X.env.scope x) (hd : (x == ("__debug__" : Str)) = false) (hcd : (x == ("__classdict__" : Str)) = false) (h : PX κ B X e f) (hs : noStar e = true) (hline : (apos.endLine == pos'.line) = true) :
  PZ κ B X (.Expr (.Call (.Attribute (.Name x pos) "append" apos) [e] [] pos') pos'') (zApp i f) := pz_append cx hN hv hd hcd h (swaps_no rfl) rfl (back_all hs) hline (star_cons hs) rfl
theorem y_tup {kk : Nat} {bs : List D → Ev → Option Ev} (hc : X.calm = true) (h : PGzs κ B X tgs bs) (hn : tgs.length = n) (hst : tgs.all noStar = true) : PGz κ B X (.Tuple tgs kk pos) (bTup n bs) := pgz_tup hc h ((each_len hst).1.trans hn) (each_len hst).2
theorem y_cons {bd : D → Ev → Option Ev} {bs : List D → Ev → Option Ev} (h1 : PGz κ B X tg bd) (h2 : PGzs κ B X tgs bs) (h : noStar tg = true) : PGzs κ B X (tg :: tgs) (bsCons bd bs) := pgzs_cons h1 h2 (each_cons h)
theorem yt_val (ha : PXr κ B X a fa) (h : plT a = true) : PXt κ B X a (mT fa) := pxt_val ha (true_pl h)
theorem y_ix (ha : PXr κ B X a fa) (hb : PXr κ B X b fb) (h : plI b = true) : PX κ B X (.Subscript a b pos) (m2 oIx fa fb) := px_ix ha hb (ix_pl h)
theorem y_len (hg : Gl X "len") (hm : X.mg "len" = none) (ha : PXr κ B X a fa) (h : noStar a = true) : PX κ B X (.Call (.Name "len" p) [a] [] pos) (m1 oLen fa) := px_len hg hm ha (star_cons h) rfl
theorem y_isinst (T : Ty) {y : Str} (hy : y = Str.ofString T.nm) (hg : Gl X "isinstance") (hm : X.mg "isinstance" = none) (hgT : Gl X y) (hmT : X.mg y = none) (hn : y ≠ "__name__") (hdb : (y == ("__debug__" : Str)) = false) (ha : PXr κ B X a fa) (h : noStar a = true) :
  PX κ B X (.Call (.Name "isinstance" p) [a, .Name y p'] [] pos) (m1 (λ x => blR (isTy x T)) fa) := px_isinst T hy hg hm hgT hmT hn hdb ha (star_cons h) rfl rfl
theorem yi_range1 (hg : Gl X "range") (hm : X.mg "range" = none) (ha : PXs κ B X [a] fs) (h : noStar a = true) : PIz κ B X tg (.Call (.Name "range" p) [a] [] pos) (λ δ => (fs δ).bind iR1) := piz_range1 hg hm ha (star_cons h)
theorem yi_range2 (hg : Gl X "range") (hm : X.mg "range" = none) (ha : PXs κ B X [a, b] fs) (h : noStar a = true) (h' : noStar b = true) : PIz κ B X tg (.Call (.Name "range" p) [a, b] [] pos) (λ δ => (fs δ).bind iR2) := piz_range2 hg hm ha (by rw [star_cons h, star_cons h']; rfl) (star_cons h')
theorem y_for (cx : Cxo X) (hc : X.calm = true) {iter : Expr} {body : List Stmt} {fit : Ev → R (List D)} {bd : D → Ev → Option Ev} {F : Ev → SR} (hi : PIz κ B X tg iter fit) (hg : ∀ B, PGz κ B X tg bd) (hb : ∀ B, PZs κ B X body F) (h : plI iter = true) : PZ κ B X (.For tg iter body [] pos) (zFor fit bd F) := pz_for cx hc hi hg hb (fold_no h)
end
end L3
namespace L3
open PySem PySem.Spec PyProof.Rows L2
abbrev bmV : List Value := [.type "ValueError", .type "Exception", .type "BaseException", .type "object"]
def ExcM (κ : Nat → Addr) (K : PySem.W.Frag) (mg : Str → Option Value) (x : Str) (c : Nat) : Prop := mg x = some (.ref (κ c)) ∧ PySem.W.excIn K (κ c) bmV "ValueError.__new__" = true
def ExcAt (κ : Nat → Addr) (X : Cx) (x : Str) (c : Nat) : Prop := ExcM κ X.K X.mg x c
theorem ExcM.at {κ : Nat → Addr} {K : PySem.W.Frag} {mg : Str → Option Value} {X : Cx} {x : Str} {c : Nat} (h : ExcM κ K mg x c) (e1 : X.K = K) (e2 : X.mg = mg) : ExcAt κ X x c := by
 unfold ExcAt; rw [e1, e2]; exact h
section
variable {κ : Nat → Addr} {B : Gd} {X : Cx} {pos : Pos} {x : Str}
end
abbrev Mk (X : Cx) (ea : Addr) : Cx := { X with A := X.A.mark (some (.ref ea)), calm := false }
section
variable {κ : Nat → Addr} {B : Gd} {X : Cx} {pos : Pos} {Ex : Value → Shared → Prop} {pins : List (Addr × Obj)} {s : Shared} {σ : St} {H G : Hp} {δ : Ev} {Dn : Ends} {ea : Addr} {C : Value}
end
end L3
namespace L3
open PySem PySem.Spec PyProof.Rows L2
section
variable {κ : Nat → Addr} {B : Gd} {X : Cx} {a b c : Expr} {fa fb : Ev → R D} {fs : Ev → R (List D)} {es : List Expr} {pos p : Pos}
def mCB (o : List D → R D) (fs : Ev → R (List D)) : Ev → R D := λ δ => (fs δ).bind o
def oMin : List D → R D
 | [.int i, .int j] => .ok (.int (if j < i then j else i))
 | _ => .stuck
def oMax : List D → R D
 | [.int i, .int j] => .ok (.int (if j > i then j else i))
 | _ => .stuck
theorem boot_min' : bootBuiltins "min" = some (.builtin "min") := by decide +kernel
theorem boot_max' : bootBuiltins "max" = some (.builtin "max") := by decide +kernel
theorem y_min (hc : X.calm = true) (hg : Gl X "min") (hm : X.mg "min" = none) (ha : PXs κ B X [a, b] fs) (h : noStar a = true) (h' : noStar b = true) : PX κ B X (.Call (.Name "min" p) [a, b] [] pos) (mCB oMin fs) := λ pins σ Ex =>
 pe_imp (pe_callB (X := At X pins σ Ex) (call_min2 hc) hg hm boot_min' (ha pins σ Ex) (by decide) (by decide) (star_cons h) (back_any (by simp [h']))) λ τ H Q ⟨G, δ, rp, q⟩ => ⟨G, δ, rp, q.seq λ x v H1 G1 e1 d1 q1 => by
  unfold oMin at q1
  split at q1
  ·rename_i i j
   exact ⟨i, j, dens_int2 d1, q1 _ H1 G1 (Ext.refl e1.GH) dInt⟩
  ·exact False.elim q1⟩
theorem y_max (hc : X.calm = true) (hg : Gl X "max") (hm : X.mg "max" = none) (ha : PXs κ B X [a, b] fs) (h : noStar a = true) (h' : noStar b = true) : PX κ B X (.Call (.Name "max" p) [a, b] [] pos) (mCB oMax fs) := λ pins σ Ex =>
 pe_imp (pe_callB (X := At X pins σ Ex) (call_max2 hc) hg hm boot_max' (ha pins σ Ex) (by decide) (by decide) (star_cons h) (back_any (by simp [h']))) λ τ H Q ⟨G, δ, rp, q⟩ => ⟨G, δ, rp, q.seq λ x v H1 G1 e1 d1 q1 => by
  unfold oMax at q1
  split at q1
  ·rename_i i j
   exact ⟨i, j, dens_int2 d1, q1 _ H1 G1 (Ext.refl e1.GH) dInt⟩
  ·exact False.elim q1⟩
def oInt : List D → R D
 | [.int i] => .ok (.int i)
 | [.bl k] => .ok (.int (if k then 1 else 0))
 | _ => .stuck
theorem y_toint (hg : Gl X "int") (hm : X.mg "int" = none) (ha : PXs κ B X [a] fs) (h : noStar a = true) : PX κ B X (.Call (.Name "int" p) [a] [] pos) (mCB oInt fs) := λ pins σ Ex =>
 pe_imp (pe_callTy (X := At X pins σ Ex) call_int1 hg hm (boot_ty .int) (ha pins σ Ex) (by decide) (by decide) (star_cons h) (back_any rfl)) λ τ H Q ⟨G, δ, rp, q⟩ => ⟨G, δ, rp, q.seq λ x v H1 G1 e1 d1 q1 => by
  unfold oInt at q1
  split at q1
  ·rename_i i
   exact .inl ⟨i, dens_int1 d1, q1 _ H1 G1 (Ext.refl e1.GH) dInt⟩
  ·rename_i k
   refine .inr ⟨k, ?_, q1 _ H1 G1 (Ext.refl e1.GH) dInt⟩
   match v, d1 with
   | [w], d1 => unfold dsRel Dens at d1; have := d1.1; unfold Den at this; rw [this]
   | [], d1 => unfold dsRel Dens at d1; exact d1.elim
   | _ :: _ :: _, d1 => unfold dsRel Dens at d1; have := d1.2; unfold Dens at this; exact this.elim
  ·exact False.elim q1⟩
def PXo (κ : Nat → Addr) (B : Gd) (X : Cx) (e : Option Expr) (f : Ev → R (Option Int)) : Prop := ∀ pins σ Ex, PO (At X pins σ Ex) e (tO (λ _ _ (a : Option Int) b => a = b) X κ B (EX X pins σ Ex) f)
theorem po_imp {Y : Cx} {e : Option Expr} {t t' : TO} (h : PO Y e t) (k : ∀ σ H Q, t' σ H Q → t σ H Q) : PO Y e t' := λ pins s σ H Q I q => h pins s σ H Q I (k σ H Q q)
def mNoP : Ev → R (Option Int) := λ _ => .ok none
def mP (f : Ev → R D) : Ev → R (Option Int) := λ δ => (f δ).bind λ d => match d with
 | .int i => .ok (some i)
 | _ => .stuck
theorem pxo_none : PXo κ B X none mNoP := λ pins σ Ex => po_imp po_none λ τ H Q ⟨G, δ, rp, q⟩ => q none H G (Ext.refl rp.GH) rfl
theorem pxo_some (h : PX κ B X a fa) : PXo κ B X (some a) (mP fa) := λ pins σ Ex => po_imp (po_some (h pins σ Ex)) λ τ H Q ⟨G, δ, rp, q⟩ => ⟨G, δ, rp, q.seq λ x v H1 G1 e1 d1 q1 => by
 cases x with
 | int i =>
  unfold dRel Den at d1
  exact ⟨i, d1, q1 _ H1 G1 (Ext.refl e1.GH) rfl⟩
 | _ => exact False.elim q1⟩
def cutD {α : Type} (xs : List α) (lo hi : Option Int) : List α := (xs.drop (HT.sIx xs.length 0 lo)).take (HT.sIx xs.length xs.length hi - HT.sIx xs.length 0 lo)
theorem dens_cut {Z : Zx} {G : Hp} {vs : List V} {ds : List D} (h : Dens Z G vs ds) (lo hi : Option Int) : Dens Z G (cutV vs lo hi) (cutD ds lo hi) := by
 unfold cutV cutD
 rw [h.length]
 exact (h.drop _).take _
end
end L3
namespace L3
open PySem PySem.Spec PyProof.Rows L2
theorem clip_sIx (n d : Nat) (v : Option Int) (hd : d ≤ n) : (match v with | none => ((d : Nat) : Int) | some i => (if (1 : Int) > 0 then max 0 (min (if i < 0 then i + (n : Int) else i) (n : Int)) else max (-1) (min (if i < 0 then i + (n : Int) else i) ((n : Int) - 1)))) = ((HT.sIx n d v : Nat) : Int) := by
 cases v with
 | none => rfl
 | some i =>
  simp only [show (1 : Int) > 0 by decide, if_true, HT.sIx]
  by_cases h : i < 0
  ·simp only [h, if_true]; omega
  ·simp only [h, if_false]; omega
theorem idx_sIx (lo hi : Option Int) (n : Nat) : Builtin.Str.strSliceIndices lo hi 1 n = sliceRange ((HT.sIx n 0 lo : Nat) : Int) ((HT.sIx n n hi : Nat) : Int) 1 := by
 rw [← clip_sIx n 0 lo (Nat.zero_le _), ← clip_sIx n n hi (Nat.le_refl _)]
 cases lo <;> cases hi <;> rfl
theorem sIx_le (n d : Nat) (v : Option Int) (hd : d ≤ n) (hv : ∀ i, v = some i → i < 0 → i + n ≤ n) : HT.sIx n d v ≤ n := by
 cases v with
 | none => exact hd
 | some i =>
  show (if i < 0 then (i + (n : Int)).toNat else min i.toNat n) ≤ n
  split <;> omega
theorem txt_cut (l : List Nat) (lo hi : Option Int) : Txt.slice ⟨l.toArray⟩ lo hi = ⟨(cutD l lo hi).toArray⟩ := by
 have hlen : (⟨l.toArray⟩ : Str).length = l.length := by simp [Str.length]
 unfold Txt.slice cutD
 rw [hlen, idx_sIx, sliceRange_one]
 have hb : HT.sIx l.length l.length hi ≤ l.length := sIx_le _ _ _ (Nat.le_refl _) λ i _ h => by omega
 generalize HT.sIx l.length 0 lo = a
 generalize HT.sIx l.length l.length hi = b at hb
 by_cases c : b - a = l.length
 ·rw [if_pos (by simp [c])]
  have e : l.length = 0 ∨ (a = 0 ∧ b = l.length) := by omega
  rcases e with e | ⟨rfl, rfl⟩
  ·have : l = [] := List.length_eq_zero_iff.mp e
   subst this
   simp
  ·simp
 ·rw [if_neg (by simp [c])]
  rw [pick_run]
def rSlS : V → Option Int → Option Int → Hp → VK → Prop := λ x lo hi H Q => ∃ l : List Nat, x = stV l ∧ l.length ≤ 1000000 ∧ Q (stV (cutD l lo hi)) H
def partO : Value → Option (Int × Tok)
 | .int i t => some (i, t)
 | _ => none
theorem cutD_len {α : Type} (l : List α) (lo hi : Option Int) : (cutD l lo hi).length ≤ l.length := by
 unfold cutD
 rw [List.length_take, List.length_drop]
 omega
theorem sl_str {X : Cx} : SlR X rSlS := by
 intro pins s σ H x v vl vu lo hi sl Q I rx hs pl pu ⟨l, e, hz, q⟩
 subst e
 obtain ⟨t, rfl⟩ := rx
 refine ⟨"str", _, slot_str_getitem.lookup, typeIs_str _ _ _, ?_⟩
 obtain ⟨o, ho, hc, hd⟩ := hs
 have h1 : vl = partValue (partO vl) ∧ (partO vl).map (·.1) = lo := by cases pl <;> exact ⟨rfl, rfl⟩
 have h2 : vu = partValue (partO vu) ∧ (partO vu).map (·.1) = hi := by cases pu <;> exact ⟨rfl, rfl⟩
 refine wpAny_getItem_str_slice (l := partO vl) (u := partO vu) (st := none) ⟨o, ho, hc, by rw [hd, ← h1.1, ← h2.1]; rfl⟩ rfl ?_
 have e2 : Txt.slice ⟨l.toArray⟩ lo hi = ⟨(cutD l lo hi).toArray⟩ := txt_cut l lo hi
 unfold sliceMade slicePicked
 rw [h1.2, h2.2]
 refine post_val_or_str ?_
 have e3 : ∀ P : Str → Prop, P (Txt.slice ⟨l.toArray⟩ lo hi) → P (if ((Option.map (λ x : Int × Tok => x.fst) none).getD 1 == 1 && (Builtin.Str.strSliceIndices lo hi ((Option.map (λ x : Int × Tok => x.fst) none).getD 1) (⟨l.toArray⟩ : Str).length).length == (⟨l.toArray⟩ : Str).length) = true then ⟨l.toArray⟩ else ⟨((Builtin.Str.strSliceIndices lo hi ((Option.map (λ x : Int × Tok => x.fst) none).getD 1) (⟨l.toArray⟩ : Str).length).filterMap ((⟨l.toArray⟩ : Str).cps[·]?)).toArray⟩) := λ P h => h
 refine e3 (λ z => z.length ≤ sizeLine ∧ ∀ t' k, (EP X pins σ Q) (.str z t') { s with toks := k }) ?_
 rw [e2]
 refine ⟨?_, λ t' k => ⟨stV (cutD l lo hi), H, I.tok _, ⟨_, rfl⟩, q⟩⟩
 have := cutD_len l lo hi
 simp only [Str.length, List.size_toArray]
 have : (1000000 : Nat) ≤ sizeLine := by decide
 omega
section
variable {κ : Nat → Addr} {B : Gd} {X : Cx} {a b : Expr} {fa fb : Ev → R D} {pos : Pos}
def oSl (x : D) (lo hi : Option Int) : R D := match x with
 | .tup ds => if HT.sIx ds.length 0 lo = 0 ∧ HT.sIx ds.length ds.length hi = ds.length then .stuck else .ok (.tup (cutD ds lo hi))
 | .lst ds => .ok (.lst (cutD ds lo hi))
 | .str l => if l.length ≤ 1000000 then .ok (.str (cutD l lo hi)) else .stuck
 | _ => .stuck
def mSl (fa : Ev → R D) (fl fh : Ev → R (Option Int)) : Ev → R D := λ δ => (fa δ).bind λ x => (fl δ).bind λ l => (fh δ).bind λ u => oSl x l u
theorem y_sl {lo hi : Option Expr} {fl fh : Ev → R (Option Int)} {p2 : Pos} (ha : PXr κ B X a fa) (hl : PXo κ B X lo fl) (hh : PXo κ B X hi fh) : PX κ B X (.Subscript a (.Slice lo hi none p2) pos) (mSl fa fl fh) := λ pins σ Ex =>
 pe_imp (pe_slice (X := At X pins σ Ex) (SlR.or sl_tup (SlR.or sl_list sl_str)) (ha pins σ Ex) (hl pins σ Ex) (hh pins σ Ex)) λ τ H Q ⟨G, δ, rp, q⟩ => ⟨G, δ, rp, q.seq λ x v H1 G1 e1 d1 q1 => ⟨G1, δ, rp.ext e1, q1.seq λ l lv H2 G2 e2 d2 q2 => ⟨G2, δ, (rp.ext e1).ext e2, q2.seq λ u uv H3 G3 e3 d3 q3 => by
  subst d2
  subst d3
  have d1' := rRel_mono (e2.trans e3) d1
  cases x with
  | tup ds =>
   rcases d1' with d | ⟨_, _, _, _, z, _⟩
   ·unfold Den at d
    obtain ⟨y, vs, rfl, h1, h2⟩ := d
    simp only [oSl] at q3
    split at q3
    ·exact False.elim q3
    ·rename_i hw
     refine .inl ⟨y, vs, rfl, same_seqT e3.GH h1, by rw [h2.length]; exact hw, λ p hp => ?_⟩
     have e := ext_new (o := .tup (cutV vs lv uv)) e3.GH hp
     exact q3 _ _ _ e (by unfold dRel Den; exact ⟨p, _, rfl, SqT.of upd_same, (dens_cut h2 lv uv).mono e.sG⟩)
   ·cases z
  | lst ds =>
   have main : ∀ (y : Addr) (vs : List V), SqL X.K H3 y vs → Dens ⟨X.K, κ⟩ G3 vs ds → rSlL X.K (.ref y) lv uv H3 Q := λ y vs h1 h2 => by
    refine ⟨y, vs, rfl, h1, λ p hp => ?_⟩
    have e := ext_new (o := .lst (cutV vs lv uv)) e3.GH hp
    exact q3 _ _ _ e (by unfold dRel Den; exact ⟨p, _, rfl, SqL.of upd_same, (dens_cut h2 lv uv).mono e.sG⟩)
   rcases d1' with d | ⟨y, vs, _, rfl, z, h1, h2⟩
   ·unfold Den at d
    obtain ⟨y, vs, rfl, h1, h2⟩ := d
    exact .inr (.inl (main y vs (e3.GH.seq h1) h2))
   ·cases z
    exact .inr (.inl (main y vs (SqL.of h1) h2))
  | str l =>
   simp only [oSl] at q3
   split at q3
   ·rename_i hz
    have dd : v = stV l := by
     rcases d1' with d | ⟨_, _, _, _, z, _⟩
     ·unfold Den at d; exact d
     ·cases z
    exact .inr (.inr ⟨l, dd, hz, q3 _ _ _ (Ext.refl e3.GH) (by unfold dRel Den; rfl)⟩)
   ·exact False.elim q3
  | _ => exact False.elim q3⟩⟩⟩
def flatD : D → Bool
 | .non | .bl _ | .int _ | .str _ => true
 | _ => false
def eqF : D → D → Bool
 | .non, .non => true
 | .bl a, .bl b => a == b
 | .bl a, .int b => (if a then 1 else 0) == b
 | .int a, .bl b => a == (if b then 1 else 0)
 | .int a, .int b => a == b
 | .str a, .str b => a == b
 | _, _ => false
theorem den_flat {Z : Zx} {G : Hp} {v : V} {d : D} (h : Den Z G v d) (f : flatD d = true) : flatV v = true := by
 cases d with
 | non => unfold Den at h; subst h; rfl
 | bl _ => unfold Den at h; subst h; rfl
 | int _ => unfold Den at h; subst h; rfl
 | str _ => unfold Den at h; subst h; rfl
 | _ => cases f
theorem str_beq (a b : List Nat) : ((⟨a.toArray⟩ : Str) == ⟨b.toArray⟩) = (a == b) := by
 rw [Bool.eq_iff_iff, beq_iff_eq, beq_iff_eq]
 constructor
 ·intro h
  have := congrArg (λ z : Str => z.cps.toList) h
  simpa using this
 ·intro h; rw [h]
theorem den_eqF {Z : Zx} {G : Hp} {v u : V} {d e : D} (h : Den Z G v d) (h' : Den Z G u e) (f : flatD d = true) (f' : flatD e = true) : eqV v u = eqF d e := by
 cases d <;> first | (cases f; done) | (cases e <;> first | (cases f'; done) | (unfold Den at h h'; subst h; subst h'; first | rfl | exact str_beq _ _))
theorem dens_in {Z : Zx} {G : Hp} {v : V} {d : D} (h : Den Z G v d) (f : flatD d = true) : ∀ {vs : List V} {ds : List D}, Dens Z G vs ds → ds.all flatD = true → vs.all flatV = true ∧ inV v vs = ds.any λ e => eqF e d
 | [], [], _, _ => ⟨rfl, rfl⟩
 | w :: vs, e :: ds, hd, hf => by
  unfold Dens at hd
  simp only [List.all_cons, Bool.and_eq_true] at hf
  obtain ⟨i1, i2⟩ := dens_in h f hd.2 hf.2
  refine ⟨by simp only [List.all_cons, Bool.and_eq_true]; exact ⟨den_flat hd.1 hf.1, i1⟩, ?_⟩
  show (eqV w v || inV v vs) = _
  rw [i2, den_eqF hd.1 h hf.1 f]
  rfl
 | [], _ :: _, hd, _ => by unfold Dens at hd; exact hd.elim
 | _ :: _, [], hd, _ => by unfold Dens at hd; exact hd.elim
def inB (x y : D) : R Bool := match y with
 | .lst ds => if flatD x && ds.all flatD then .ok (ds.any λ e => eqF e x) else .stuck
 | .tup ds => if flatD x && ds.all flatD then .ok (ds.any λ e => eqF e x) else .stuck
 | .str j => match x with
  | .str i => .ok (!(Builtin.Str.occurrences ⟨j.toArray⟩ ⟨i.toArray⟩ 0 (⟨j.toArray⟩ : Str).length 1).isEmpty)
  | _ => .stuck
 | _ => .stuck
def oNin (x y : D) : R Bool := (inB x y).bind λ k => .ok (!k)
theorem inB_rel {x y : D} {v u : V} {G H : Hp} {k : Bool} (sm : Same G H) (d1 : rRel X κ G H v x) (d2 : rRel X κ G H u y) (h : inB x y = .ok k) :
  (∃ p xs, u = .ref p ∧ (SqL X.K H p xs ∨ SqT X.K H p xs) ∧ flatV v = true ∧ xs.all flatV = true ∧ inV v xs = k) ∨ (∃ i j, v = .str i ∧ u = .str j ∧ (!(Builtin.Str.occurrences j i 0 j.length 1).isEmpty) = k) := by
 have seq : ∀ {ds : List D} {vs : List V}, Dens ⟨X.K, κ⟩ G vs ds → (if flatD x && ds.all flatD then R.ok (ds.any λ e => eqF e x) else .stuck) = .ok k → flatV v = true ∧ vs.all flatV = true ∧ inV v vs = k := λ {ds vs} hd e => by
  split at e
  ·rename_i hf
   rw [Bool.and_eq_true] at hf
   have dx : Den ⟨X.K, κ⟩ G v x := by
    rcases d1 with d | ⟨_, _, _, _, z, _⟩
    ·exact d
    ·rw [z] at hf; cases hf.1
   obtain ⟨i1, i2⟩ := dens_in dx hf.1 hd hf.2
   cases e
   exact ⟨den_flat dx hf.1, i1, i2⟩
  ·cases e
 cases y with
 | lst ds =>
  simp only [inB] at h
  rcases d2 with d | ⟨p, vs, ds', rfl, z, h1, h2⟩
  ·unfold Den at d
   obtain ⟨p, vs, rfl, h1, h2⟩ := d
   obtain ⟨a1, a2, a3⟩ := seq h2 h
   exact .inl ⟨p, vs, rfl, .inl (sm.seq h1), a1, a2, a3⟩
  ·cases z
   obtain ⟨a1, a2, a3⟩ := seq h2 h
   exact .inl ⟨p, vs, rfl, .inl (SqL.of h1), a1, a2, a3⟩
 | tup ds =>
  simp only [inB] at h
  rcases d2 with d | ⟨p, vs, ds', rfl, z, h1, h2⟩
  ·unfold Den at d
   obtain ⟨p, vs, rfl, h1, h2⟩ := d
   obtain ⟨a1, a2, a3⟩ := seq h2 h
   exact .inl ⟨p, vs, rfl, .inr (same_seqT sm h1), a1, a2, a3⟩
  ·cases z
 | str j =>
  cases x with
  | str i =>
   simp only [inB] at h
   cases h
   exact .inr ⟨_, _, rStr d1, rStr d2, rfl⟩
  | _ => cases h
 | _ => cases h
def rInD (X : Cx) (neg : Bool) : R2 := λ x y H Q => rIn X.K neg x y H Q ∨ ∃ i j, x = .str i ∧ y = .str j ∧ Q (.bl (neg ^^ (!(Builtin.Str.occurrences j i 0 j.length 1).isEmpty))) H
theorem opR_nin {Y : Cx} (eK : Y.K = X.K) : OpR Y (compareOp .NotIn) (rInD X true) := by
 intro pins s σ H x y v u Q I rx ry h
 rcases h with h | ⟨i, j, e1, e2, q⟩
 ·exact op_notIn_seq pins s σ H x y v u Q I rx ry (by rw [eK]; exact h)
 ·exact op_notIn_str pins s σ H x y v u Q I rx ry ⟨i, j, e1, e2, by simpa using q⟩
theorem opOk_nin : OpOk κ X (rInD X true) (op2 oNin) := by
 intro x y v u G H Q E sm d1 d2 q
 unfold op2 oNin at q
 cases e : inB x y with
 | ok k =>
  rw [e] at q
  have q' : Q (.bl (!k)) H := q _ H G (Ext.refl sm) (by unfold dRel Den; rfl)
  rcases inB_rel sm d1 d2 e with ⟨p, xs, z1, z2, z3, z4, z5⟩ | ⟨i, j, z1, z2, z3⟩
  ·exact .inl ⟨p, xs, z1, z2, z3, z4, by simpa [z5] using q'⟩
  ·exact .inr ⟨i, j, z1, z2, by rw [z3]; simpa using q'⟩
 | exc c => unfold inB at e; split at e <;> (try split at e) <;> cases e
 | stuck => rw [e] at q; exact q.elim
theorem px_nin (hu : X.A.units + 64 < cLine) (ha : PXr κ B X a fa) (hb : PXr κ B X b fb) (hm : behindInMarks .NotIn b = false) : PX κ B X (.Compare a [.NotIn] [b] pos) (m2 (op2 oNin) fa fb) := px_cmp (λ _ eK _ => opR_nin eK) opOk_nin ha hb hm
theorem pxt_nin (hu : X.A.units + 64 < cLine) (ha : PXr κ B X a fa) (hb : PXr κ B X b fb) (hm : behindInMarks .NotIn b = false) : PXt κ B X (.Compare a [.NotIn] [b] pos) (m2t oNin fa fb) := pxt_cmp (λ _ eK _ => opR_nin eK) opOk_nin ha hb hm
theorem _root_.L2.Inv.lstS {X : Cx} {pins : List (Addr × Obj)} {σ : St} {H : Hp} {s : Shared} {l : Addr} {xs : List V} (I : Inv X pins σ H s) (h : SqL X.K H l xs) :
  xs.length ≤ sizeLine ∧ ∃ (its : List Value) (n : Nat), Vals xs its ∧ xs.length = its.length ∧ s.heap.get? l = some { cls := .type "list", data := .seq its.toArray n } := by
 rcases h with h | ⟨o, its, n, hk, hc, hd, hs, hz, r⟩
 ·obtain ⟨z, its, n, r, e⟩ := h.ok I.hok
  exact ⟨z, its, n, r, r.length, e⟩
 ·have e := I.kIn l o hk
  have lr := r.length
  refine ⟨by simp only [Array.length_toList] at lr; omega, its.toList, n, r, lr, ?_⟩
  obtain ⟨oc, od, dt, sl⟩ := o
  dsimp only at hc hd hs
  obtain ⟨rfl, rfl⟩ := hd
  subst hc
  subst hs
  exact e
def rCatL (K : PySem.W.Frag) : R2 := λ x y H Q => ∃ l b xs zs, x = .ref l ∧ y = .ref b ∧ SqL K H l xs ∧ SqL K H b zs ∧ xs.length + zs.length ≤ sizeLine ∧ ∀ p, H p = none → Q (.ref p) (upd H p (.lst (xs ++ zs)))
theorem op_catL {X : Cx} : OpR X (binaryOp .Add) (rCatL X.K) := by
 intro pins s σ H x y v u Q I rx ry ⟨l, b, xs, zs, e1, e2, hH, hB, hz, q⟩
 subst e1
 subst e2
 cases rx
 cases ry
 obtain ⟨z, its, n, r, hl, e⟩ := I.lstS hH
 obtain ⟨z2, its2, n2, r2, hl2, e2⟩ := I.lstS hB
 refine PySem.P.add_list e e2 ?_ (by rw [List.size_toArray, List.size_toArray]; omega)
 rw [show its.toArray ++ its2.toArray = (its ++ its2).toArray by simp]
 exact ⟨.ref _, _, I.lnew (t' := s.toks) (r.append r2) (by rw [List.length_append]; omega), rfl, q _ I.fresh⟩
def oCat (x y : D) : R D := match x, y with
 | .lst xs, .lst ys => if xs.length + ys.length ≤ 1000000 then .ok (.lst (xs ++ ys)) else .stuck
 | _, _ => .stuck
theorem rLst {G H : Hp} {v : V} {ds : List D} (sm : Same G H) (h : rRel X κ G H v (.lst ds)) : ∃ l vs, v = .ref l ∧ SqL X.K H l vs ∧ Dens ⟨X.K, κ⟩ G vs ds := by
 rcases h with h | ⟨l, vs, ds', e, z, h1, h2⟩
 ·unfold Den at h
  obtain ⟨l, vs, e, h1, h2⟩ := h
  exact ⟨l, vs, e, sm.seq h1, h2⟩
 ·cases z
  exact ⟨l, vs, e, SqL.of h1, h2⟩
theorem opOk_cat : OpOk κ X (rCatL X.K) oCat := by
 intro x y v u G H Q E sm d1 d2 q
 unfold oCat at q
 split at q
 ·rename_i xs ys
  split at q
  ·rename_i hl
   obtain ⟨l, vs, e1, h1, h2⟩ := rLst sm d1
   obtain ⟨b, us, e2, h3, h4⟩ := rLst sm d2
   have : (1000000 : Nat) ≤ sizeLine := by decide
   refine ⟨l, b, vs, us, e1, e2, h1, h3, by rw [h2.length, h4.length]; omega, λ p hp => ?_⟩
   have e := ext_new (o := .lst (vs ++ us)) sm hp
   exact q _ _ _ e (by unfold dRel Den; exact ⟨p, _, rfl, SqL.of upd_same, (h2.append h4).mono e.sG⟩)
  ·exact q.elim
 ·exact q.elim
theorem px_cat (ha : PXr κ B X a fa) (hb : PXr κ B X b fb) : PX κ B X (.BinOp a .Add b pos) (m2 oCat fa fb) := px_op (λ Y eK => by rw [← eK]; exact op_catL) opOk_cat ha hb
def mBL (op : D → List D → R D) (fo : Ev → R D) (fs : Ev → R (List D)) : Ev → R D := λ δ => (fo δ).bind λ x => match x with
 | .lst ds => (fs δ).bind λ ys => op (.lst ds) ys
 | _ => .stuck
end
end L3
namespace L3
open PySem PySem.Spec PyProof.Rows L2
structure ClsM (κ : Nat → Addr) (K : PySem.W.Frag) (c : Nat) (ns : List Str) : Prop where
 cl : Cls K (κ c)
 na : ∀ f ∈ ns, NoAttr K (κ c) f
section
variable {κ : Nat → Addr} {B : Gd} {X : Cx} {a e : Expr} {es : List Expr} {f fa : Ev → R D} {fs : Ev → R (List D)} {pos pos' apos p : Pos} {x : Str}
structure Mth (κ : Nat → Addr) (X : Cx) (c : Nat) (x : Str) (n : Nat) (m : List D → R D) : Prop where
 ex : ∃ f fd ps k, FnOk X.prog X.w X.K X.mg X.base (CXR X.prog X.w) k f fd ps (spM X.K κ n m) ∧ Room k X.A ∧ Meth X.K (κ c) x f ∧ Binds X.K fd ps []
def spI (K : PySem.W.Frag) (κ : Nat → Addr) (c n : Nat) (m : List D → R (List Str × List D)) : Sp := λ vs H Q E => vs.length = n ∧ ∃ x dx vr G ds, vs = .ref x :: vr ∧ H x = some (.ins (κ c) dx []) ∧ G x = none ∧ Same G H ∧ Dens ⟨K, κ⟩ G vr ds ∧ (match m ds with
 | .ok r => ∀ us H' G' dx', Same G G' → (∀ b o, H b = some o → b ≠ x → H' b = some o) → Same G' H' → G' x = none → (∀ a, G' a ≠ none → G a ≠ none ∨ H a = none) → r.1.length = us.length → Dens ⟨K, κ⟩ G' us r.2 → H' x = some (.ins (κ c) dx' (r.1.zip us)) → Q .non H'
 | .exc c' => ∀ H', (∀ b o, H b = some o → b ≠ x → H' b = some o) → E (.ref (κ c')) none H'
 | .stuck => False)
structure Maker (κ : Nat → Addr) (X : Cx) (x : Str) (c n : Nat) (m : List D → R (List Str × List D)) : Prop where
 ex : ∃ f fd ps k, FnOk X.prog X.w X.K X.mg X.base (CXR X.prog X.w) k f fd ps (spI X.K κ c n m) ∧ Room (k + 1) X.A ∧ L2.Mk X.K (κ c) f ∧ X.mg x = some (.ref (κ c)) ∧ Binds X.K fd ps []
end
def MM (P : Program) (w : World) (K : PySem.W.Frag) (mg : Str → Option Value) (base : Heap) (κ : Nat → Addr) (c : Nat) (x : Str) (ps : List Str) (m : List D → R D) (k : Nat) : Prop :=
 ∃ f fd, FnOk P w K mg base (CXR P w) k f fd ps (spM K κ ps.length m) ∧ Meth K (κ c) x f ∧ Binds K fd ps []
theorem MM.at {κ : Nat → Addr} {X : Cx} {c : Nat} {x : Str} {ps : List Str} {n : Nat} {m : List D → R D} {k j : Nat} (h : MM X.prog X.w X.K X.mg X.base κ c x ps m k) (hr : Room j X.A) (hj : k ≤ j) (hn : ps.length = n := by rfl) : Mth κ X c x n m := by
 obtain ⟨f, fd, F, h1, h2⟩ := h
 subst hn
 exact ⟨f, fd, ps, k, F, hr.mono hj, h1, h2⟩
def MI (P : Program) (w : World) (K : PySem.W.Frag) (mg : Str → Option Value) (base : Heap) (κ : Nat → Addr) (x : Str) (c : Nat) (ps : List Str) (m : List D → R (List Str × List D)) (k : Nat) : Prop :=
 ∃ f fd, FnOk P w K mg base (CXR P w) k f fd ps (spI K κ c ps.length m) ∧ L2.Mk K (κ c) f ∧ mg x = some (.ref (κ c)) ∧ Binds K fd ps []
theorem MI.at {κ : Nat → Addr} {X : Cx} {c : Nat} {x : Str} {ps : List Str} {n : Nat} {m : List D → R (List Str × List D)} {k j : Nat} (h : MI X.prog X.w X.K X.mg X.base κ x c ps m k) (hr : Room j X.A) (hj : k + 1 ≤ j) (hn : ps.length = n := by rfl) : Maker κ X x c n m := by
 obtain ⟨f, fd, F, h1, h2, h3⟩ := h
 subst hn
 exact ⟨f, fd, ps, k, F, hr.mono hj, h1, h2, h3⟩
end L3
namespace L3
open PySem PySem.Spec PyProof.Rows L2
theorem closure_ok {env : Env} : ∀ (ns : List (Str × NameKind)) (acc : List (Str × Addr)), (∀ y ∈ ns, y.2 = .free → ∃ c, env.cells.lookup y.1 = some c) → (∀ y c, acc.lookup y = some c → env.cells.lookup y = some c) →
  ∃ cl, (forIn ns acc (λ (p : Str × NameKind) (cs : List (Str × Addr)) => (match p with | (name, kind) => if (kind == NameKind.free) = true then do let c ← cellOf env name; pure (ForInStep.yield ((name, c) :: cs)) else pure (ForInStep.yield cs) : Sem (ForInStep (List (Str × Addr))))) : Sem _) = pure cl ∧
   (∀ y c, cl.lookup y = some c → env.cells.lookup y = some c) ∧ (∀ y, (∃ c, acc.lookup y = some c) ∨ (y, NameKind.free) ∈ ns → ∃ c, cl.lookup y = some c)
 | [], acc, _, h2 => ⟨acc, rfl, h2, λ y h => h.elim id λ z => by simp at z⟩
 | (n, k) :: r, acc, h1, h2 => by
  rw [List.forIn_cons]
  by_cases hk : k = .free
  ·subst hk
   obtain ⟨c, hc⟩ := h1 (n, .free) List.mem_cons_self rfl
   obtain ⟨cl, e, p, q⟩ := closure_ok r ((n, c) :: acc) (λ y hy => h1 y (List.mem_cons_of_mem _ hy)) (λ y d hd => by
    rw [List.lookup_cons] at hd
    cases hy : y == n with
    | true => rw [hy] at hd; cases hd; rw [eq_of_beq hy]; exact hc
    | false => rw [hy] at hd; exact h2 y d hd)
   refine ⟨cl, ?_, p, λ y h => q y ?_⟩
   ·rw [← e]
    have : cellOf env n = pure c := by unfold cellOf; rw [hc]
    simp only [beq_self_eq_true, if_true, this, pure_bind]
   ·rcases h with ⟨d, hd⟩ | h
    ·rw [List.lookup_cons]
     cases hy : y == n with
     | true => exact .inl ⟨c, rfl⟩
     | false => exact .inl ⟨d, hd⟩
    ·rcases List.mem_cons.mp h with h | h
     ·cases h; rw [List.lookup_cons]; exact .inl ⟨c, by simp⟩
     ·exact .inr h
  ·obtain ⟨cl, e, p, q⟩ := closure_ok r acc (λ y hy => h1 y (List.mem_cons_of_mem _ hy)) h2
   have hb : (k == NameKind.free) = false := by simpa using hk
   refine ⟨cl, ?_, p, λ y h => q y ?_⟩
   ·rw [← e]
    simp only [hb, Bool.false_eq_true, if_false, pure_bind]
   ·rcases h with h | h
    ·exact .inl h
    ·rcases List.mem_cons.mp h with h | h
     ·cases h; exact absurd rfl hk
     ·exact .inr h
theorem relabel_lookup {env : Env} : ∀ {names : List (Str × NameKind)} {y : Str},
  (names.map λ (n, k) => if (k == NameKind.free && env.scope.kind == .function && env.kindOf n == some .cell) then (n, NameKind.cell) else (n, k)).lookup y = (names.lookup y).map λ k => if (k == NameKind.free && env.scope.kind == .function && env.kindOf y == some .cell) then NameKind.cell else k
 | [], _ => rfl
 | (n, k) :: r, y => by
  have ih := @relabel_lookup env r y
  show List.lookup y ((if (k == NameKind.free && env.scope.kind == .function && env.kindOf n == some .cell) = true then (n, NameKind.cell) else (n, k)) :: _) = _
  cases hy : y == n with
  | true =>
   have e := eq_of_beq hy
   subst e
   by_cases hc : (k == NameKind.free && env.scope.kind == .function && env.kindOf y == some .cell) = true
   ·rw [if_pos hc]; simp only [List.lookup_cons, beq_self_eq_true, Option.map_some]; rw [if_pos hc]
   ·rw [if_neg hc]; simp only [List.lookup_cons, beq_self_eq_true, Option.map_some]; rw [if_neg hc]
  | false =>
   by_cases hc : (k == NameKind.free && env.scope.kind == .function && env.kindOf n == some .cell) = true
   ·rw [if_pos hc]; simp only [List.lookup_cons, hy]; exact ih
   ·rw [if_neg hc]; simp only [List.lookup_cons, hy]; exact ih
theorem mem_look {α : Type} {y : Str} {a : α} : ∀ {l : List (Str × α)}, l.lookup y = some a → (y, a) ∈ l
 | [], h => by cases h
 | (n, k) :: r, h => by
  rw [List.lookup_cons] at h
  cases hy : y == n with
  | true => rw [hy] at h; cases h; rw [eq_of_beq hy]; exact List.mem_cons_self
  | false => rw [hy] at h; exact List.mem_cons_of_mem _ (mem_look h)
abbrev CmpX (X : Cx) (sc : Scope) (cl : List (Str × Addr)) (C : Addr) (s₁ : Shared) (H₁ : Hp) (pn : List (Addr × Obj)) (x : Str) : Cx :=
 { X with env := compEnvC sc cl C X.env, N := X.N ++ [x], s₀ := s₁, H₀ := H₁, outer := X.stack, stack := X.stack, ex := [], fn := λ _ => false, pn := pn, xe := λ _ _ => False, sg := λ _ _ => True }
structure CompOk (X : Cx) (sc : Scope) (x : Str) : Prop where
 cell : ∀ y ∈ sc.names, y.2 ≠ .cell
 kind : sc.kind = .function
 names : ∀ y ∈ sc.names, y.2 = .local → sc.names.lookup y.1 = some .local
 hx : sc.names.lookup x = some .local
 loc : ∀ y ∈ X.N, sc.names.lookup y ≠ some .local
 fr : ∀ y ∈ sc.names, y.2 = .free → X.env.scope.names.lookup y.1 = some .cell
 nd : X.N.Nodup
section
variable {κ : Nat → Addr} {B : Gd} {X : Cx} {sc : Scope} {x y : Str} {cl : List (Str × Addr)} {C : Addr} {s₁ : Shared} {H₁ : Hp} {pn : List (Addr × Obj)}
theorem cmp_cxo : Cxo (CmpX X sc cl C s₁ H₁ pn x) := ⟨λ _ _ => trivial, rfl⟩
theorem cmp_look {k : NameKind} (h : sc.names.lookup y = some k) (hk : k ≠ .free) : (CmpX X sc cl C s₁ H₁ pn x).env.scope.names.lookup y = some k := by
 show List.lookup y (sc.names.map _) = _
 have := @relabel_lookup X.env sc.names y
 refine this.trans ?_
 rw [h]
 have hb : (k == NameKind.free) = false := by simpa using hk
 simp only [Option.map_some, hb, Bool.false_and, Bool.false_eq_true, if_false]
theorem cmp_vis (h : sc.names.lookup y = some .free) : Vis (CmpX X sc cl C s₁ H₁ pn x).env.scope y := by
 have := @relabel_lookup X.env sc.names y
 rw [h] at this
 simp only [Option.map_some] at this
 by_cases hc : (NameKind.free == NameKind.free && X.env.scope.kind == .function && X.env.kindOf y == some .cell) = true
 ·rw [if_pos hc] at this; exact .inr (.inl this)
 ·rw [if_neg hc] at this; exact .inr (.inr this)
theorem cmp_n {i : Nat} (h : X.N[i]? = some y) : (CmpX X sc cl C s₁ H₁ pn x).N[i]? = some y := by
 show (X.N ++ [x])[i]? = _
 rw [List.getElem?_append_left (List.getElem?_eq_some_iff.mp h).1]; exact h
theorem cmp_x {i : Nat} (h : X.N.length = i) : (CmpX X sc cl C s₁ H₁ pn x).N[i]? = some x := by
 show (X.N ++ [x])[i]? = _
 rw [List.getElem?_append_right (by omega)]
 simp [h]
theorem cmp_cal {n : Nat} {m : List D → R D} (c : Cal κ X y n m) : Cal κ (CmpX X sc cl C s₁ H₁ pn x) y n m := ⟨c.ex⟩
end
section
variable {X : Cx} {sc : Scope} {x : Str} {cl : List (Str × Addr)} {C : Addr} {sb s4 : Shared} {Hb H4 : Hp} {pins : List (Addr × Obj)} {σ : St} {m : Str → Option Value} {E : Value → Shared → Prop}
theorem cmp_enter (I : Inv X pins σ Hb sb) (I4 : Inv X pins σ H4 s4) (u : Un (frs X.stack) [] Hb H4 sb.heap s4.heap) (ho : s4.os = sb.os) (co : CompOk X sc x)
  (cl1 : ∀ y c, cl.lookup y = some c → X.env.cells.lookup y = some c) (cl2 : ∀ y, (y, NameKind.free) ∈ sc.names → ∃ c, cl.lookup y = some c)
  (hC : sb.heap.objs.size ≤ C) (hns : s4.heap.Ns C m) (hCn : H4 C = none) : Inv ((CmpX X sc cl C sb Hb (X.pn ++ pins) x).wish E) [] (σ ++ [none]) H4 s4 := by
 have lt : ∀ {b o}, sb.heap.get? b = some o → b ≠ C := λ {b o} e z => absurd (Nat.lt_of_lt_of_le (Heap.lt_size e) (z ▸ hC)) (Nat.lt_irrefl _)
 have frs_ne : ∀ b ∈ frs X.stack, b ≠ C := λ b hb => by
  obtain ⟨_, o, ho, _⟩ := I.stack.mem hb
  exact lt ho
 have free_of : ∀ {y}, ((CmpX X sc cl C sb Hb (X.pn ++ pins) x).env.scope.names.lookup y = some .cell ∨ (CmpX X sc cl C sb Hb (X.pn ++ pins) x).env.scope.names.lookup y = some .free) → sc.names.lookup y = some .free := λ {y} h => by
  have r := @relabel_lookup X.env sc.names y
  cases q : sc.names.lookup y with
  | none => rw [q] at r; rcases h with h | h <;> (have := h.symm.trans r; cases this)
  | some k =>
   rw [q] at r
   simp only [Option.map_some] at r
   by_cases hk : k = .free
   ·rw [hk]
   ·exfalso
    have hb : (k == NameKind.free) = false := by simpa using hk
    simp only [hb, Bool.false_and, Bool.false_eq_true, if_false] at r
    have hc := co.cell
    rcases h with h | h
    ·have e := h.symm.trans r
     cases e
     have := mem_look q
     exact hc _ this rfl
    ·have e := h.symm.trans r
     cases e
     exact hk rfl
 refine ⟨⟨I.ok.mod, co.kind, I.ok.glob, I.ok.blt, hC, λ y z c h1 h2 => I.ok.inj y z c (cl1 y c h1) (cl1 z c h2), λ y h => ?_, (λ y c h => Bool.noConfusion h), I.ok.hd, I.ok.frames, .inl rfl, (λ b hb => by cases hb), λ b o e => I.bs b o e, Nat.le_trans I.ok.bsz I.sz, (λ b o e hb => by cases hb), (λ b hb => by cases hb), I.stack, I.stkFree⟩,
  ho, I4.bare, u, ⟨m, hns, λ i y v e1 e2 e3 => ?_⟩, λ y c h => I4.cell y c (cl1 y c h), hCn, λ y c h => I4.freeC y c (cl1 y c h), λ p hp => ?_, I4.hok, ?_, trivial⟩
 ·have := free_of h
  exact cl2 y (mem_look this)
 ·by_cases hi : i < σ.length
  ·rw [List.getElem?_append_left hi] at e2
   have hlen : i < X.N.length := by have := I4.len; omega
   have e1' : X.N[i]? = some y := by
    have : (X.N ++ [x])[i]? = some y := e1
    rwa [List.getElem?_append_left hlen] at this
   obtain ⟨hm, e0⟩ := List.getElem?_eq_some_iff.mp e1'
   have hy : y ∈ X.N := e0 ▸ List.getElem_mem hm
   rcases e3 with e3 | e3
   ·exfalso
    have r := @relabel_lookup X.env sc.names y
    cases q : sc.names.lookup y with
    | none => rw [q] at r; have := (show List.lookup y _ = _ from e3).symm.trans r; cases this
    | some k =>
     rw [q] at r
     simp only [Option.map_some] at r
     have e := (show List.lookup y _ = _ from e3).symm.trans r
     injection e with e
     split at e
     ·cases e
     ·rw [← e] at q
      exact co.loc y hy q
   ·have hf := free_of e3
    have hcell := co.fr (y, .free) (mem_look hf) rfl
    obtain ⟨c, hc⟩ := cl2 y (mem_look hf)
    obtain ⟨m', _, hl⟩ := I4.loc
    obtain ⟨w, r, l⟩ := hl i y v e1' e2 (.inr (.inl hcell))
    refine ⟨w, r, .inr ⟨e3, c, hc, ?_⟩⟩
    rcases l with ⟨hk, _⟩ | ⟨_, c', hc', z⟩
    ·have : X.env.scope.names.lookup y = some .local := hk
     rw [hcell] at this; cases this
    ·have := (cl1 y c hc).symm.trans hc'
     cases this
     exact z
  ·rw [List.getElem?_append_right (by omega)] at e2
   cases q : i - σ.length with
   | zero => rw [q] at e2; simp at e2
   | succ k => rw [q] at e2; simp at e2
 ·have hp : p ∈ X.pn ++ pins := by simpa using hp
  obtain ⟨a1, a2, a3, a4, a5⟩ := I4.pin p hp
  obtain ⟨b1, _⟩ := I.pin p hp
  exact ⟨a1, a2, lt b1, λ z => by
   rcases List.mem_cons.mp (I.stkSub _ z) with e | e
   ·exact a3 e
   ·exact a4 e, a5⟩
 ·show (σ ++ [none]).length = (X.N ++ [x]).length
  simp [I4.len]
theorem cmp_leave {pins' : List (Addr × Obj)} {σ' : St} {s' : Shared} {H' : Hp} {h' : Heap} (I : Inv X pins σ Hb sb) (J : Inv ((CmpX X sc cl C sb Hb (X.pn ++ pins) x).wish E) pins' σ' H' s') (hC : sb.heap.objs.size ≤ C) (sbt : Heap.SameBut C s'.heap h') : Inv X pins σ H' { s' with heap := h' } := by
 have I1 : Inv X pins σ H' s' := I.call' (ch := []) J.os J.base J.hok J.bare (λ b z => by cases z)
 have lt : ∀ {b o}, sb.heap.get? b = some o → b ≠ C := λ {b o} e z => absurd (Nat.lt_of_lt_of_le (Heap.lt_size e) (z ▸ hC)) (Nat.lt_irrefl _)
 refine I1.turned (t' := s'.toks) (it := C) (λ b o hb e => sbt.extBut b o hb e) J.free (λ z => ?_) (.inr (Nat.le_trans I.sz hC)) (λ y c h z => ?_) (λ p hp z => ?_)
 ·obtain ⟨mm, ⟨o, _, _, ho, _⟩, _⟩ := I.loc
  exact lt ho z.symm
 ·obtain ⟨v, o, ho, _⟩ := I.cell y c h
  exact lt ho z
 ·exact lt (I.pin p hp).1 z
end
def PIcE (X : Cx) (pins : List (Addr × Obj)) (σ : St) (tg : Expr) (R : It → Hp → Prop) (itv : Value) (s2 : Shared) : Prop :=
 ∃ (sb : Shared) (Hb : Hp) (it : Addr) (fp : List Addr) (tn : Nat → Heap → Prop) (J : It), itv = .ref it ∧ Inv X pins σ Hb sb ∧ Inv X pins σ Hb s2 ∧ (∀ b o, sb.heap.get? b = some o → s2.heap.get? b = some o) ∧ s2.os = sb.os ∧ sb.heap.objs.size ≤ s2.heap.objs.size ∧
  Turn X.prog X.w X.K tg J fp it tn ∧ tn 0 s2.heap ∧ (∀ b ∈ fp, sb.heap.objs.size ≤ b ∧ b < s2.heap.objs.size) ∧ R J Hb
def PIc (X : Cx) (tg iter : Expr) (wi : TI) : Prop :=
 ∀ (pins : List (Addr × Obj)) (s : Shared) (σ : St) (H : Hp) (R : It → Hp → Prop), Inv X pins σ H s → wi σ H R →
  wpAny (model X.prog X.w) X.A (eval iter X.env) (λ v s1 => wpAny (model X.prog X.w) X.A (pyIter v) (PIcE X pins σ tg R) X.xe s1) X.xe s
section
variable {X : Cx} {tg : Expr}
theorem pic_list {l : Expr} {tl : TE} (hl : PE X l tl) : PIc X tg l (iList X.K tl) := by
 intro pins s σ H R I h
 refine thn (hl pins s σ H _ I h) λ v s1 ⟨x, H1, I1, r1, q1⟩ => ?_
 obtain ⟨a, e, ⟨xs, hq⟩, q⟩ := q1
 subst e
 cases r1
 obtain ⟨its, rv, p, hz⟩ := I1.list hq
 refine wpAny_pyIter_list p.isList ?_
 refine ⟨s1, H1, s1.heap.objs.size, [s1.heap.objs.size], _, _, rfl, I1, I1.kept (t' := s1.toks) λ b o e => Heap.get?_push_of_some _ e, λ b o e => Heap.get?_push_of_some _ e, rfl, by simp [Heap.size_push], turn_list a _, ⟨_, Heap.get?_push_size _ rfl, rfl, rfl⟩, λ b hb => ?_, q⟩
 have e : b = s1.heap.objs.size := by simpa using hb
 subst e
 simp [Heap.size_push]
theorem pic_tup {l : Expr} {tl : TE} (hl : PE X l tl) : PIc X tg l (iTup X.K tl) := by
 intro pins s σ H R I h
 refine thn (hl pins s σ H _ I h) λ v s1 ⟨x, H1, I1, r1, q1⟩ => ?_
 obtain ⟨a, e, ⟨xs, hq⟩, q⟩ := q1
 subst e
 cases r1
 obtain ⟨its, rv, p, hz⟩ := I1.tuple hq
 refine wpAny_pyIter_tuple (show s1.heap.IsTuple a its.toArray from p) ?_
 refine ⟨s1, H1, s1.heap.objs.size, [s1.heap.objs.size], _, _, rfl, I1, I1.kept (t' := s1.toks) λ b o e => Heap.get?_push_of_some _ e, λ b o e => Heap.get?_push_of_some _ e, rfl, by simp [Heap.size_push], turn_tuple a _, ⟨_, Heap.get?_push_size _ rfl, rfl, rfl⟩, λ b hb => ?_, q⟩
 have e : b = s1.heap.objs.size := by simpa using hb
 subst e
 simp [Heap.size_push]
theorem rangeC_it {pins : List (Addr × Obj)} {σ : St} {H : Hp} {s : Shared} {R : It → Hp → Prop} {E : Value → Shared → Prop} {lo hi : Int} {t u v : Tok} {tk : Nat} (I : Inv X pins σ H s) (h1 : -(2 ^ 62) ≤ lo) (h2 : lo < 2 ^ 62) (h3 : -(2 ^ 62) ≤ hi) (h4 : hi < 2 ^ 62)
  (q : R (Itr lo (hi - lo).toNat) H) : wpAny (model X.prog X.w) X.A (pyIter (.ref s.heap.objs.size)) (PIcE X pins σ tg R) E { s with heap := s.heap.push { cls := .type "range", data := .fields #[.int lo t, .int hi u, .int 1 v] }, toks := tk } := by
 refine wpAny_pyIter_range (IsRange.new ..) (small_one h1 h2 h3 h4) ?_
 have I1 : Inv X pins σ H { s with heap := s.heap.push { cls := .type "range", data := .fields #[.int lo t, .int hi u, .int 1 v] }, toks := tk } := I.kept λ b o e => Heap.get?_push_of_some _ e
 refine ⟨s, H, (s.heap.push { cls := .type "range", data := .fields #[.int lo t, .int hi u, .int 1 v] }).objs.size, [(s.heap.push { cls := .type "range", data := .fields #[.int lo t, .int hi u, .int 1 v] }).objs.size], _, _, rfl, I,
  I1.kept (t' := tk) λ b o e => Heap.get?_push_of_some _ e, λ b o e => Heap.get?_push_of_some _ (Heap.get?_push_of_some _ e), rfl, by simp [Heap.size_push]; omega, turn_range _ lo (hi - lo).toNat, ?_, λ b hb => ?_, q⟩
 ·have e1 : lo + ((0 : Nat) : Int) * 1 = lo := by simp
  have e2 : (((hi - lo).toNat : Nat) : Int) - ((0 : Nat) : Int) = Builtin.Range.rangeSize lo hi 1 := by rw [rangeSize_one]; split <;> omega
  show IsRangeIter _ _ (lo + ((0 : Nat) : Int) * 1) ((((hi - lo).toNat : Nat) : Int) - ((0 : Nat) : Int)) 1
  rw [e1, e2]
  exact Heap.get?_push_size _ rfl
 ·have e : b = (s.heap.push { cls := .type "range", data := .fields #[.int lo t, .int hi u, .int 1 v] }).objs.size := by simpa using hb
  subst e
  simp [Heap.size_push]
theorem pic_range1 {a : Expr} {ta : TA} {p pos : Pos} (hg : Gl X "range") (hm : X.mg "range" = none) (ha : PA X [a] ta) (hs : starEach [a] X.env = [(false, eval a X.env)]) : PIc X tg (.Call (.Name "range" p) [a] [] pos) (iRng1 ta) := by
 intro pins s σ H R I h
 refine Call_ (ld_blt I hg hm boot_range (PyProof.Rows.callWith_type1 (thn (ha pos pins s σ H _ I h) λ us s1 ⟨vs, H1, I1, r1, q1⟩ => ?_) hs rfl))
 obtain ⟨j, e, q1, q2, q⟩ := q1
 subst e
 cases r1 with
 | cons r rr =>
  cases rr
  obtain ⟨t, rfl⟩ := r
  exact call_range_1 (rangeC_it I1 (by omega) (by omega) q1 q2 (by simpa using q))
end
def PIcz (κ : Nat → Addr) (B : Gd) (X : Cx) (tg e : Expr) (f : Ev → R (List D)) : Prop := ∀ pins σ Ex, PIc (At X pins σ Ex) tg e (tO (λ G _ J ds => IsIt X κ J G ds) X κ B (EX X pins σ Ex) f)
theorem pic_imp {Y : Cx} {tg e : Expr} {w w' : TI} (h : PIc Y tg e w) (k : ∀ σ H R, w' σ H R → w σ H R) : PIc Y tg e w' := λ pins s σ H R I q => h pins s σ H R I (k σ H R q)
theorem pic_or {Y : Cx} {tg e : Expr} {w w' : TI} (h : PIc Y tg e w) (h' : PIc Y tg e w') : PIc Y tg e (λ σ H R => w σ H R ∨ w' σ H R) := λ pins s σ H R I q => q.elim (h pins s σ H R I) (h' pins s σ H R I)
section
variable {κ : Nat → Addr} {B : Gd} {X : Cx} {e tg : Expr} {f : Ev → R D} {pos : Pos}
theorem picz_seq (h : PX κ B X e f) : PIcz κ B X tg e (λ δ => (f δ).bind itemsD) := λ pins σ Ex =>
 pic_imp (pic_or (pic_list (X := At X pins σ Ex) (h pins σ Ex)) (pic_tup (X := At X pins σ Ex) (h pins σ Ex))) λ τ H R ⟨G, δ, rp, q⟩ => by
  dsimp only at q
  cases e : f δ with
  | ok d =>
   rw [e] at q
   cases d with
   | lst ds =>
    refine .inl ⟨G, δ, rp, ?_⟩
    rw [e]
    intro v H' G' e1 d1
    unfold Den at d1
    obtain ⟨a, vs, rfl, h1, h2⟩ := d1
    exact ⟨a, rfl, ⟨vs, e1.GH.seq h1⟩, q _ H' G' e1 (isIt_list (H := H') h1 h2)⟩
   | tup ds =>
    refine .inr ⟨G, δ, rp, ?_⟩
    rw [e]
    intro v H' G' e1 d1
    unfold Den at d1
    obtain ⟨a, vs, rfl, h1, h2⟩ := d1
    exact ⟨a, rfl, ⟨vs, same_seqT e1.GH h1⟩, q _ H' G' e1 (isIt_tup (H := H') h1 h2)⟩
   | _ => exact False.elim q
  | exc c =>
   rw [e] at q
   refine .inl ⟨G, δ, rp, ?_⟩
   rw [e]
   exact q
  | stuck => rw [e] at q; exact False.elim q
theorem picz_range1 {a : Expr} {fs : Ev → R (List D)} {p pos : Pos} (hg : Gl X "range") (hm : X.mg "range" = none) (ha : PXs κ B X [a] fs) (h : noStar a = true) : PIcz κ B X tg (.Call (.Name "range" p) [a] [] pos) (λ δ => (fs δ).bind iR1) := λ pins σ Ex =>
 pic_imp (pic_range1 (X := At X pins σ Ex) hg hm (ha pins σ Ex) (star_cons h)) λ τ H R ⟨G, δ, rp, q⟩ => ⟨G, δ, rp, q.seq λ x v H1 G1 e1 d1 q1 => by
  unfold iR1 at q1
  split at q1
  ·rename_i j
   split at q1
   ·rename_i hj
    refine ⟨j, dens_int1 d1, hj.1, hj.2, ?_⟩
    have := q1 _ H1 G1 (Ext.refl e1.GH) (isIt_rng (lo := 0) (n := (j - 0).toNat))
    simpa using this
   ·exact False.elim q1
  ·exact False.elim q1⟩
end
def shE (δ : Ev) : Ev := δ.map λ o => match o with
 | some (.sh d) => some (.sh d)
 | _ => none
def compZ (t : Ev → R Bool) (f : Ev → R D) (δ : Ev) : List D → R (List D)
 | [] => .ok []
 | d :: ds => (t (δ ++ [some (.sh d)])).bind λ k => if k then (f (δ ++ [some (.sh d)])).bind λ y => (compZ t f δ ds).bind λ ys => .ok (y :: ys) else compZ t f δ ds
def noX : R (List D) → R (List D)
 | .ok l => .ok l
 | _ => .stuck
def mComp (fit : Ev → R (List D)) (t : Ev → R Bool) (f : Ev → R D) : Ev → R (List D) := λ δ => (fit δ).bind λ ds => if ds.length ≤ 1000000 then noX (compZ t f (shE δ) ds) else .stuck
def PTs (κ : Nat → Addr) (B : Gd) (X : Cx) (ifs : List Expr) (t : Ev → R Bool) : Prop := ∀ pins σ Ex s H Q, Inv (At X pins σ Ex) pins σ H s → tO bRel X κ B (EX X pins σ Ex) t σ H Q →
 wpAny (model X.prog X.w) X.A (forIn ifs true λ c r => if r = true then do let ok ← isTrue c X.env (eval c X.env); pure (ForInStep.yield ok) else pure (ForInStep.yield r)) (TP (At X pins σ Ex) pins σ Q) Ex s
theorem pts_nil {κ : Nat → Addr} {B : Gd} {X : Cx} : PTs κ B X [] (λ _ => .ok true) := λ pins σ Ex s H Q I ⟨G, δ, rp, q⟩ => wpAny_tests_nil ⟨H, I, q true H G (Ext.refl rp.GH) rfl⟩
theorem pts_one {κ : Nat → Addr} {B : Gd} {X : Cx} {c : Expr} {t : Ev → R Bool} (h : PXt κ B X c t) : PTs κ B X [c] t := λ pins σ Ex s H Q I q => wpAny_tests_one (h pins σ Ex pins s σ H Q I q)
theorem rep_comp {Z : Zx} {B : Gd} {H₀ G₁ H₁ G H : Hp} {σ : St} {δ : Ev} {v : V} {d : D} (rp : Rep Z B H₀ G₁ H₁ σ δ) (e : Ext G₁ H₁ G H) (dv : Den Z G v d) : Rep Z ⟨G₁, λ _ => False⟩ H₁ G H (σ ++ [some v]) (shE δ ++ [some (.sh d)]) := by
 have hl : (shE δ).length = δ.length := by simp [shE]
 have cases' : ∀ {i : Nat} {o : Sl}, (shE δ ++ [some (.sh d)])[i]? = some (some o) → ∃ d', o = .sh d' ∧ ∃ w, (σ ++ [some v])[i]? = some (some w) ∧ Den Z G w d' := λ {i o} q => by
  by_cases hi : i < δ.length
  ·rw [List.getElem?_append_left (by omega)] at q
   simp only [shE, List.getElem?_map] at q
   cases z : δ[i]? with
   | none => rw [z] at q; cases q
   | some o' =>
    rw [z] at q
    simp only [Option.map_some, Option.some.injEq] at q
    split at q
    ·rename_i d'
     cases q
     obtain ⟨w, e1, e2⟩ := rp.sh i d' z
     exact ⟨d', rfl, w, by rw [List.getElem?_append_left (by rw [rp.len]; exact hi)]; exact e1, e2.mono e.sG⟩
    ·cases q
  ·rw [List.getElem?_append_right (by omega), hl] at q
   cases z : i - δ.length with
   | succ k => rw [z] at q; simp at q
   | zero =>
    rw [z] at q
    simp at q
    refine ⟨d, q.symm, v, ?_, dv⟩
    rw [List.getElem?_append_right (by rw [rp.len]; omega), rp.len, z]
    rfl
 refine ⟨⟨e.sG, e.GH, λ b o q _ => e.sH _ _ q, λ b q => ?_, λ b q n => ?_⟩, by simp [hl, rp.len], λ i d' q => ?_, λ i ds q => ?_, λ i j ds es a n q1 => ?_, λ i c ns ds q => ?_, λ i j c ns ds c' ns' ds' x0 n0 q => ?_⟩
 ·cases z : H₁ b with
  | none => exact absurd z q
  | some o => rw [e.sH _ _ z]; simp
 ·cases z : G b with
  | none => rfl
  | some o => exact ((e.new b (by rw [z]; simp)).elim (λ y => y n) λ y => q y).elim
 ·obtain ⟨d'', e1, w, e2, e3⟩ := cases' q
  cases e1
  exact ⟨w, e2, e3⟩
 ·obtain ⟨d'', e1, _⟩ := cases' q; cases e1
 ·obtain ⟨d'', e1, _⟩ := cases' q1; cases e1
 ·obtain ⟨d'', e1, _⟩ := cases' q; cases e1
 ·obtain ⟨d'', e1, _⟩ := cases' q; cases e1
section
variable {κ : Nat → Addr} {B : Gd} {X : Cx} {sc : Scope} {x : Str} {px pos : Pos} {iter elt : Expr} {ifs : List Expr} {fit : Ev → R (List D)} {t : Ev → R Bool} {f : Ev → R D}
def CompEnd (κ : Nat → Addr) (X : Cx) (sc : Scope) (x : Str) (pins : List (Addr × Obj)) (σ : St) (Ex : Value → Shared → Prop) (G H : Hp) (l : List D) (Da C : Addr) (s1 : Shared) : Prop :=
 ∃ (sb : Shared) (Hb : Hp) (cl : List (Str × Addr)) (E' : Value → Shared → Prop) (ov : Option V) (H3 G3 : Hp) (vs : List V), Inv (At X pins σ Ex) pins σ Hb sb ∧ sb.heap.objs.size ≤ C ∧ Inv ((CmpX X sc cl C sb Hb (X.pn ++ pins) x).wish E') [] (σ ++ [ov]) H3 s1 ∧ Ext G H G3 H3 ∧ H3 Da = some (.lst vs) ∧ G3 Da = none ∧ H Da = none ∧ Dens ⟨X.K, κ⟩ G3 vs l
theorem comp_core {pins : List (Addr × Obj)} {τ : St} {Ex : Value → Shared → Prop} {s : Shared} {H G : Hp} {δ : Ev} {use : Option (Value → Sem Unit)} {Qv : Value → Shared → Prop} {cpos : Pos} (hc : X.calm = true) (co : CompOk X sc x) (hi : PIcz κ B X (.Name x px) iter fit)
  (ht : ∀ B' cl C s₁ H₁ pn, PTs κ B' (CmpX X sc cl C s₁ H₁ pn x) ifs t) (he : ∀ B' cl C s₁ H₁ pn, PX κ B' (CmpX X sc cl C s₁ H₁ pn x) elt f)
  (hs : ∀ x, foldedSetIterable iter X.env x = pure x) (I : Inv (At X pins τ Ex) pins τ H s) (rp : Rep ⟨X.K, κ⟩ B X.H₀ G H τ δ)
  (q : match mComp fit t f δ with
   | .ok l => ∀ Da C s1, CompEnd κ X sc x pins τ Ex G H l Da C s1 → compPost (model X.prog X.w) X.A Ex use Qv (.ref Da) C (.ok .next) s1
   | .exc c => ∀ H' G', Ext G H G' H' → EX X pins τ Ex (.ref (κ c)) none H'
   | .stuck => False) :
  wpAny (model X.prog X.w) X.A (comprehension (.ListComp elt [⟨.Name x px, iter, ifs, 0⟩] sc pos) sc X.env cpos (newList []) false (eval iter X.env) use) Qv Ex s := by
 obtain ⟨cl, hcl, cl1, cl2⟩ := closure_ok (env := X.env) sc.names [] (λ y hy hk => by
  have := co.fr y hy hk
  exact I.ok.has y.1 (.inl this)) (λ y c h => by cases h)
 have hclos : closureFor sc X.env = pure cl := by
  unfold closureFor
  simp only [bind_pure]
  exact hcl
 refine wpAny_comprehension_free (use := use) rfl hs hclos co.kind co.names ?_
 refine thn (hi pins τ Ex pins s τ H (λ J H' => ∃ G' ds, Ext G H G' H' ∧ IsIt X κ J G' ds ∧ (match (if ds.length ≤ 1000000 then noX (compZ t f (shE δ) ds) else .stuck) with | .ok l => ∀ Da C s1, CompEnd κ X sc x pins τ Ex G H l Da C s1 → compPost (model X.prog X.w) X.A Ex use Qv (.ref Da) C (.ok .next) s1 | _ => False)) I ⟨G, δ, rp, ?_⟩) λ v s1 h1 => thn h1 λ itv s2 h2 => ?_
 ·unfold mComp at q
  cases e : fit δ with
  | ok ds =>
   rw [e] at q
   simp only [R.bind_ok] at q
   refine λ J H' G' e1 d1 => ⟨G', ds, e1, d1, ?_⟩
   by_cases hb : ds.length ≤ 1000000
   ·rw [if_pos hb] at q ⊢
    cases ez : compZ t f (shE δ) ds with
    | ok l => rw [ez] at q; exact q
    | exc c => rw [ez] at q; exact False.elim q
    | stuck => rw [ez] at q; exact False.elim q
   ·rw [if_neg hb] at q; exact False.elim q
  | exc c => rw [e] at q; exact q
  | stuck => rw [e] at q; exact q
 obtain ⟨sb, Hb, it, fp, tn, J, rfl, Ib, I2, kb, hos, hsz, T, st2, hfp, Gb, ds, e1, ⟨us, dus, hJ⟩, q2⟩ := h2
 have rpb : Rep ⟨X.K, κ⟩ B X.H₀ Gb Hb τ δ := rp.ext e1
 have hlen := dus.length
 by_cases hbig : ds.length ≤ 1000000
 case neg => rw [if_neg hbig] at q2; exact False.elim q2
 rw [if_pos hbig] at q2
 cases ez : compZ t f (shE δ) ds with
 | exc c => rw [ez] at q2; exact False.elim q2
 | stuck => rw [ez] at q2; exact False.elim q2
 | ok l =>
 rw [ez] at q2
 have hf2 : Hb s2.heap.objs.size = none := I2.hok.fresh (Nat.le_refl _)
 have I3 := I2.laid (a := s2.heap.objs.size) (o := .lst []) (t' := s2.toks) (h' := s2.heap.push { cls := .type "list", dict := none, data := .seq ([] : List Value).toArray }) (λ b u e => Heap.get?_push_of_some _ e) (Nat.le_refl _) ⟨by decide, [], 0, .nil, Heap.get?_push_size _ rfl⟩
 refine wpAny_newObj_type (wpAny_newFunctionEnv co.cell (by intro y hy; simp at hy) (λ h4 hns4 hsb4 => ?_) co.kind)
 dsimp only at hns4 hsb4 ⊢
 generalize hH3 : s2.heap.push { cls := .type "list", dict := none, data := .seq ([] : List Value).toArray } = H3 at hns4 hsb4 I3 ⊢
 have hC : H3.objs.size = s2.heap.objs.size + 1 := by rw [← hH3, Heap.size_push]
 have k34 : ∀ b o, H3.get? b = some o → h4.get? b = some o := λ b o e => hsb4.extBut b o (Nat.ne_of_lt (Heap.lt_size e)) (Heap.get?_push_of_some _ e)
 generalize hs4 : ({ s2 with heap := h4, toks := s2.toks + ([] : List (Str × Value)).length } : Shared) = s4
 have I4 : Inv (At X pins τ Ex) pins τ (upd Hb s2.heap.objs.size (.lst [])) s4 := by
  have := I3.kept (t' := s2.toks + ([] : List (Str × Value)).length) k34
  rw [← hs4]; exact this
 have hh4 : s4.heap = h4 := by rw [← hs4]
 have kb4 : ∀ b o, sb.heap.get? b = some o → s4.heap.get? b = some o := λ b o e => by
  rw [hh4]; exact k34 b o (by rw [← hH3]; exact Heap.get?_push_of_some _ (kb b o e))
 have ub4 : Un (frs X.stack) [] Hb (upd Hb s2.heap.objs.size (.lst [])) sb.heap s4.heap := Un.laid kb4 hsz hf2
 have hCb : sb.heap.objs.size ≤ H3.objs.size := by omega
 have hfpD : ∀ b ∈ fp, b ≠ s2.heap.objs.size := λ b hb => Nat.ne_of_lt (hfp b hb).2
 have hfpC : ∀ b ∈ fp, b ≠ H3.objs.size := λ b hb => Nat.ne_of_lt (Nat.lt_trans (hfp b hb).2 (by rw [hC]; exact Nat.lt_succ_self _))
 have hDC0 : s2.heap.objs.size ≠ H3.objs.size := by omega
 generalize hD : s2.heap.objs.size = Da at *
 generalize hCC : H3.objs.size = C at *
 have hDC : Da ≠ C := hDC0
 let R := compPost (model X.prog X.w) X.A Ex use Qv (.ref Da) C
 let E' := notedBy (model X.prog X.w) X.A (compEnvC sc cl C X.env) λ e s' => R (.error e) s'
 have ent := λ (E : Value → Shared → Prop) => cmp_enter (E := E) Ib I4 ub4 (by rw [← hs4]; exact hos) (x := x) (sc := sc) (cl := cl) (C := C) ⟨co.cell, co.kind, co.names, co.hx, co.loc, co.fr, co.nd⟩ cl1 (λ y hy => cl2 y (.inr hy)) hCb (by rw [hh4]; exact hns4) (by
  rw [upd_ne (Ne.symm hDC)]
  exact Ib.hok.fresh hCb)
 let X' : Cx := CmpX X sc cl C sb Hb (X.pn ++ pins) x
 have lt : ∀ {b o}, sb.heap.get? b = some o → ∀ c ∈ fp, b ≠ c := λ {b o} e c hc z => absurd (Nat.lt_of_lt_of_le (Heap.lt_size e) (z ▸ (hfp c hc).1)) (Nat.lt_irrefl _)
 have fok : ∀ (E : Value → Shared → Prop) (pl : List (Addr × Obj)) (H' : Hp), pl = [] → (∀ b ∈ fp, H' b = none) → ∀ b ∈ fp, FpOk (X'.wish E) pl H' b := λ E pl H' epl hn b hb => by
  subst epl
  refine ⟨hn b hb, λ z => ?_, λ z => ?_, .inr (hfp b hb).1, λ y c e => ?_, λ p hp => ?_⟩
  ·exact hfpC b hb z
  ·obtain ⟨_, o, ho, _⟩ := Ib.stack.mem z
   exact lt ho b hb rfl
  ·obtain ⟨v, o, ho, _⟩ := Ib.cell y c (cl1 y c e)
   exact lt ho b hb
  ·have hp : p ∈ (X.pn ++ pins) ++ [] := hp
   rw [List.append_nil] at hp
   exact lt (Ib.pin p hp).1 b hb
 have sgA : ∀ (E : Value → Shared → Prop) p τ', (X'.wish E).sg p τ' := λ _ _ _ => trivial
 have hN' : X'.N.Nodup := by
  show (X.N ++ [x]).Nodup
  rw [List.nodup_append]
  refine ⟨co.nd, by simp, λ a ha b hb z => ?_⟩
  have : b = x := by simpa using hb
  subst this
  subst z
  exact co.loc _ ha co.hx
 have hlt : τ.length = X.N.length := I4.len
 have loop : codeAny (model X.prog X.w) X.A (.compLoop (.ListComp elt [⟨.Name x px, iter, ifs, 0⟩] sc pos) 0 (.ref it) (.ref Da) (compEnvC sc cl C X.env)) R s4 := by
  refine codeAny_compLoop_tests (λ n s' => ∃ i ov H' G' acc vs rest, Inv (X'.wish E') [] (τ ++ [ov]) H' s' ∧ tn i s'.heap ∧ (∀ b ∈ fp, H' b = none) ∧ n = ds.length - i ∧ i ≤ ds.length ∧ Ext Gb Hb G' H' ∧ H' Da = some (.lst vs) ∧ G' Da = none ∧ Dens ⟨X.K, κ⟩ G' vs acc ∧ acc.length ≤ i ∧ compZ t f (shE δ) (ds.drop i) = .ok rest ∧ acc ++ rest = l) ?_ ds.length ?_ (by intro _; rfl)
  case refine_2 =>
   refine ⟨0, none, _, Gb, [], [], l, ent E', T.keep 0 _ _ st2 (λ b _ o e => ?_), λ b hb => ?_, rfl, Nat.zero_le _, ext_own e1.GH hf2, upd_same, e1.GH.free hf2, dens_nil, Nat.le_refl _, by simpa using ez, rfl⟩
   ·rw [hh4]; exact k34 b o (by rw [← hH3]; exact Heap.get?_push_of_some _ e)
   ·rw [upd_ne (hfpD b hb)]
    exact Ib.hok.fresh (hfp b hb).1
  rintro n s3 ⟨i, ov, H3', G3, acc, vs, rest, Iv, st3, fr3, rfl, hi3, ext3, hD3, gD3, dacc, hacc, hz, hl⟩
  have same3 : Same Gb H3' := ext3.sG.trans ext3.GH
  by_cases hlt3 : i < ds.length
  ·obtain ⟨go, yl⟩ := (hJ H3' same3 i).1 (by omega)
   refine thn (T.item (X'.wish E') rfl rfl rfl hc i [] s3 _ H3' E' Iv (fok E' [] H3' rfl fr3) st3 go) λ r s4' ⟨u, hr, h4'⟩ => ?_
   subst hr
   intro Γ pp hΓ
   obtain ⟨xv, H5, I5, r5, y5, st5, fr5⟩ := h4' Γ pp hΓ
   refine (?_ : wpAny (model X.prog X.w) X.A (assign (.Name x px) (compEnvC sc cl C X.env) u) _ E' s4') Γ pp hΓ
   obtain ⟨e5, vx⟩ := yl xv H5 y5
   subst e5
   have I5' := Inv.pinned (sgA E') I5 (fok E' [] _ rfl fr5) (T.obj _ _ st5)
   obtain ⟨dx, hdx⟩ : ∃ d, ds[i]? = some d := ⟨ds[i], by simp [hlt3]⟩
   have dd : Den ⟨X.K, κ⟩ G3 xv dx := by
    obtain ⟨v', z1, z2⟩ := dus.get hdx
    rw [vx] at z1; cases z1
    exact z2.mono ext3.sG
   have hdrop : ds.drop i = dx :: ds.drop (i + 1) := by
    rw [List.drop_eq_getElem_cons hlt3]
    simp [hlt3] at hdx
    rw [hdx]
   rw [hdrop] at hz
   unfold compZ at hz
   have hxl : (X'.wish E').env.scope.names.lookup x = some .local := cmp_look (cl := cl) (C := C) (s₁ := sb) (H₁ := Hb) (pn := X.pn ++ pins) (x := x) co.hx (by decide)
   refine thn (pg_name (X := X'.wish E') (i := X.N.length) (pos := px) hN' (cmp_x (sc := sc) (cl := cl) (C := C) (s₁ := sb) (H₁ := Hb) (pn := X.pn ++ pins) rfl) (.inl hxl) (.inr hxl) (λ _ _ _ _ => trivial) _ s4' _ _ xv u (λ σ' H' => σ' = τ ++ [some xv] ∧ H' = H5) I5' r5 ⟨?_, rfl⟩) λ _ s6 ⟨σ6, H6, I6, e6, e6'⟩ => ?_
   ·rw [← hlt, List.set_append_right _ _ (Nat.le_refl _)]; simp
   subst e6 e6'
   have rp6 := rep_comp rpb ext3 dd
   have back : ∀ {s7 : Shared} {H7 : Hp} {ov' : Option V}, Inv (X'.wish E') ([] ++ pinsAt fp s4'.heap) (τ ++ [ov']) H7 s7 → Inv (X'.wish E') [] (τ ++ [ov']) H7 s7 ∧ tn (i + 1) s7.heap ∧ ∀ b ∈ fp, H7 b = none := λ {s7 H7 ov'} I7 =>
    ⟨Inv.unpinned (sgA E') I7, T.keep _ _ _ st5 λ b hb o e => (I7.pin (b, o) (List.mem_append_right _ (List.mem_append_right _ (mem_pinsAt hb e)))).1, λ b hb => by
     obtain ⟨o, e, _⟩ := T.obj _ _ st5 b hb
     exact (I7.pin (b, o) (List.mem_append_right _ (List.mem_append_right _ (mem_pinsAt hb e)))).2.1⟩
   have keepD : ∀ {Ga Ha G' H' : Hp} {ws : List V}, Ext Ga Ha G' H' → Ha Da = some (.lst ws) → Ga Da = none → H' Da = some (.lst ws) ∧ G' Da = none := λ {Ga Ha G' H' ws} ee h1 h2 => by
    refine ⟨ee.sH _ _ h1, ?_⟩
    cases z : G' Da with
    | none => rfl
    | some o =>
     rcases ee.new Da (by rw [z]; simp) with y | y
     ·exact absurd h2 y
     ·rw [h1] at y; cases y
   cases et : t (shE δ ++ [some (.sh dx)]) with
   | exc c => rw [et] at hz; cases hz
   | stuck => rw [et] at hz; cases hz
   | ok k =>
   rw [et] at hz
   simp only [L3.R.bind_ok] at hz
   refine thn (ht ⟨Gb, λ _ => False⟩ cl C sb Hb (X.pn ++ pins) _ _ E' s6 _ (λ b H' => b = k ∧ ∃ G', Ext G3 H6 G' H') (inv_at I6) ⟨G3, _, rp6, ?_⟩) λ ok s7 ⟨H7, I7, eok, G7, e7⟩ => ?_
   ·rw [et]; exact λ b H' G' ee eb => ⟨eb, G', ee⟩
   subst eok
   have I7 := inv_unat (sgA (λ _ _ => False)) I7
   obtain ⟨hD7, gD7⟩ := keepD e7 hD3 gD3
   cases ok with
   | false =>
    simp only [Bool.false_eq_true, if_false] at hz ⊢
    obtain ⟨j1, j2, j3⟩ := back I7
    exact ⟨ds.length - (i + 1), by omega, i + 1, some xv, H7, G7, acc, vs, rest, j1, j2, j3, rfl, hlt3, ext3.trans e7, hD7, gD7, dacc.mono e7.sG, by omega, hz, hl⟩
   | true =>
    simp only [if_true] at hz ⊢
    cases ef : f (shE δ ++ [some (.sh dx)]) with
    | exc c => rw [ef] at hz; cases hz
    | stuck => rw [ef] at hz; cases hz
    | ok dy =>
    rw [ef] at hz
    simp only [L3.R.bind_ok] at hz
    refine thn (he ⟨Gb, λ _ => False⟩ cl C sb Hb (X.pn ++ pins) _ _ E' _ s7 _ H7 (λ y H' => ∃ G', Ext G7 H7 G' H' ∧ Den ⟨X.K, κ⟩ G' y dy) (inv_at I7) ⟨G7, _, rp6.ext e7, ?_⟩) λ yu s8 ⟨yv, H8, I8, ry, G8, e8, dy8⟩ => ?_
    ·rw [ef]; exact λ y H' G' ee d => ⟨G', ee, d⟩
    have I8 := inv_unat (sgA (λ _ _ => False)) I8
    obtain ⟨hD8, gD8⟩ := keepD e8 hD7 gD7
    have lacc := dacc.length
    refine thn (mt_append (X := X'.wish E') _ s8 _ H8 (.ref Da) [yv] (.ref Da) [yu] (λ _ H' => H' = upd H8 Da (.lst (vs ++ [yv]))) I8 rfl (.cons ry .nil) ⟨Da, vs, yv, rfl, rfl, hD8, by rw [sizeLine_eq]; omega, rfl⟩) λ _ s9 ⟨_, H9, I9, _, e9⟩ => ?_
    subst e9
    obtain ⟨j1, j2, j3⟩ := back I9
    cases ez2 : compZ t f (shE δ) (ds.drop (i + 1)) with
    | exc c => rw [ez2] at hz; cases hz
    | stuck => rw [ez2] at hz; cases hz
    | ok rest' =>
    rw [ez2] at hz
    simp only [L3.R.bind_ok] at hz
    injection hz with hz
    have ex8 := (ext3.trans e7).trans e8
    refine ⟨ds.length - (i + 1), by omega, i + 1, some xv, _, G8, acc ++ [dy], vs ++ [yv], rest', j1, j2, j3, rfl, hlt3, ⟨ex8.sG, λ b o z => ?_, λ b o z => ?_, ex8.new⟩, upd_same, gD8, ((dacc.mono e7.sG).mono e8.sG).append (dens_cons dy8 dens_nil), by simp; omega, ez2, by rw [← hl, ← hz]; simp⟩
    ·rw [upd_ne (by rintro rfl; rw [hf2] at z; cases z)]; exact ex8.sH b o z
    ·rw [upd_ne (by rintro rfl; rw [gD8] at z; cases z)]; exact ex8.GH b o z
  ·have hie : i = ds.length := by omega
   refine thn (T.done (X'.wish E') rfl rfl rfl hc i [] s3 _ H3' E' Iv (fok E' [] H3' rfl fr3) st3 ((hJ H3' same3 i).2 (by omega))) λ r s4' ⟨hr, I4'⟩ => ?_
   subst hr
   rw [hie, List.drop_length] at hz
   unfold compZ at hz
   injection hz with hz
   subst hz
   rw [List.append_nil] at hl
   subst hl
   exact q2 Da C s4' ⟨sb, Hb, cl, E', ov, H3', G3, vs, Ib, hCb, I4', e1.trans ext3, hD3, gD3, e1.sH.free hf2, dacc⟩
 have stn : tn 0 s4.heap := T.keep 0 _ _ st2 (λ b _ o e => by rw [hh4]; exact k34 b o (by rw [← hH3]; exact Heap.get?_push_of_some _ e))
 exact codeAny_compStart_list loop (T.self X.A 0 s4 _ _ stn loop)
theorem pxf_comp (hc : X.calm = true) (co : CompOk X sc x) (hi : PIcz κ B X (.Name x px) iter fit)
  (ht : ∀ B' cl C s₁ H₁ pn, PTs κ B' (CmpX X sc cl C s₁ H₁ pn x) ifs t) (he : ∀ B' cl C s₁ H₁ pn, PX κ B' (CmpX X sc cl C s₁ H₁ pn x) elt f)
  (hs : ∀ x, foldedSetIterable iter X.env x = pure x) : PXf κ B X (.ListComp elt [⟨.Name x px, iter, ifs, 0⟩] sc pos) (mComp fit t f) := λ pins σ Ex pins' s τ H Q I ⟨G, δ, rp, q⟩ => by
 obtain ⟨rfl, rfl⟩ := I.sgm
 show wpAny (model X.prog X.w) X.A (eval (.ListComp elt [⟨.Name x px, iter, ifs, 0⟩] sc pos) X.env) _ Ex s
 rw [eval_ListComp]
 refine comp_core (use := none) hc co hi ht he hs I rp ?_
 cases e : mComp fit t f δ with
 | ok l =>
  rw [e] at q
  rintro Da C s1 ⟨sb, Hb, cl, E', ov, H3, G3, vs, Ib, hCb, J, ex, h1, h2, h3, h4⟩
  obtain ⟨mm, hnn, _⟩ := J.loc
  exact ⟨mm, hnn, λ h' sbt => ⟨.ref Da, H3, cmp_leave (X := At X pins' τ Ex) (sc := sc) (cl := cl) (x := x) (E := E') Ib J hCb sbt, rfl, q Da vs H3 G3 ex h1 h2 h3 h4⟩⟩
 | exc c => rw [e] at q; exact q
 | stuck => rw [e] at q; exact q
theorem comp_use (cx : Cxo X) {y : Str} {py spos : Pos} {i : Nat} (hN : X.N.Nodup) (hy : X.N[i]? = some y) (hx : Loc X.env.scope y) (hf : X.fn y = true ∨ X.env.scope.names.lookup y = some .local)
  (hsw : swapsWith (.ListComp elt [⟨.Name x px, iter, ifs, 0⟩] sc pos) (some (.Name y py)) spos.line X.env = pure true) (hc : X.calm = true) (co : CompOk X sc x) (hi : PIcz κ B X (.Name x px) iter fit)
  (ht : ∀ B' cl C s₁ H₁ pn, PTs κ B' (CmpX X sc cl C s₁ H₁ pn x) ifs t) (he : ∀ B' cl C s₁ H₁ pn, PX κ B' (CmpX X sc cl C s₁ H₁ pn x) elt f)
  (hs : ∀ x, foldedSetIterable iter X.env x = pure x) {Ex : Value → Shared → Prop} {pins : List (Addr × Obj)} {s : Shared} {σ : St} {H G : Hp} {δ : Ev} {Dn : Ends} (I : Inv (X.wish Ex) pins σ H s) (rp : Rep ⟨X.K, κ⟩ B X.H₀ G H σ δ)
  (q : match mComp fit t f δ with
   | .ok l => ∀ Da vs H3 G3, Ext G H G3 H3 → H3 Da = some (.lst vs) → G3 Da = none → H Da = none → Dens ⟨X.K, κ⟩ G3 vs l → Dn.nx (σ.set i (some (.ref Da))) H3
   | .exc c => ∀ ea s' σ' H' G', Inv (X.wish Ex) pins σ' H' s' → Flies X pins H' s' ea (.ref (κ c)) → Rep ⟨X.K, κ⟩ B X.H₀ G' H' σ' δ → Ex (.ref ea) s'
   | .stuck => False) :
  wpAny (model X.prog X.w) X.A (exec (.Assign [.Name y py] (.ListComp elt [⟨.Name x px, iter, ifs, 0⟩] sc pos) spos) X.env) (SP (X.wish Ex) pins Dn) Ex s := by
 rw [exec_Assign_Name_used _ _ _ _ hsw]
 refine wpAny_bind (wpAny_standAt (wpAny_bind ?_))
 show wpAny _ X.A (do let _ ← comprehension (.ListComp elt [⟨.Name x px, iter, ifs, 0⟩] sc pos) sc X.env _ (newList []) false (eval iter X.env) (some (assign (.Name y py) X.env))) _ _ s
 refine wpAny_bind (wpAny_mono (comp_core (use := some (assign (.Name y py) X.env)) (Qv := λ _ s' => SP (X.wish Ex) pins Dn .next s') (Ex := Ex) (pins := pins) (τ := σ) hc co hi ht he hs (inv_at I) rp ?_) (λ _ s' hq => wpAny_pure (wpAny_pure hq)) λ _ _ e => e)
 cases e : mComp fit t f δ with
 | ok l =>
  rw [e] at q
  rintro Da C s1 ⟨sb, Hb, cl, E', ov, H3, G3, vs, Ib, hCb, J, ex, h1, h2, h3, h4⟩
  have lt : ∀ {b o}, sb.heap.get? b = some o → b ≠ C := λ {b o} e z => absurd (Nat.lt_of_lt_of_le (Heap.lt_size e) (z ▸ hCb)) (Nat.lt_irrefl _)
  have I0 := cmp_leave (X := At X pins σ Ex) (sc := sc) (cl := cl) (x := x) (E := E') Ib J hCb (Heap.SameBut.refl ..)
  have I1 : Inv (X.wish Ex) pins σ H3 s1 := inv_unat cx.sg I0
  show wpAny _ _ (assign (.Name y py) X.env (.ref Da)) _ _ s1
  refine wpAny_assign_Name (store_ok2 (X := X.wish Ex) (v := .ref Da) I1 hN hy hx rfl (λ s2 I2 ⟨a, sba, ha⟩ => ?_) hf (λ p σ v _ => cx.sg p _))
  obtain ⟨mm, hnn, _⟩ := J.loc
  have hLC : X.env.locals ≠ C := by
   obtain ⟨m', ⟨o, _, _, ho, _⟩, _⟩ := Ib.loc
   exact lt ho
  have hcC : ∀ z c, X.env.cells.lookup z = some c → c ≠ C := λ z c hz => by
   obtain ⟨v, o, ho, _⟩ := Ib.cell z c hz
   exact lt ho
  have haC : C ≠ a := by
   rcases ha with rfl | ha
   ·exact Ne.symm hLC
   ·exact Ne.symm (hcC y a ha)
  refine ⟨mm, hnn.sameBut sba haC, λ h' sbt => ⟨_, H3, ?_, q Da vs H3 G3 ex h1 h2 h3 h4⟩⟩
  exact I2.turned (t' := s2.toks) (it := C) (λ b o hb e => sbt.extBut b o hb e) J.free (Ne.symm hLC) (.inr (Nat.le_trans Ib.sz hCb)) (λ z c hz => hcC z c hz) (λ p hp => lt (Ib.pin p hp).1)
 | exc c =>
  rw [e] at q
  exact λ H' G' e1 ea s' I' F => q ea s' σ H' G' I' F (rp.ext e1)
 | stuck => rw [e] at q; exact q
theorem pz_setC (cx : Cxo X) {y : Str} {py spos : Pos} {i : Nat} (hN : X.N.Nodup) (hy : X.N[i]? = some y) (hx : Loc X.env.scope y) (hf : X.fn y = true ∨ X.env.scope.names.lookup y = some .local)
  (hsw : swapsWith (.ListComp elt [⟨.Name x px, iter, ifs, 0⟩] sc pos) (some (.Name y py)) spos.line X.env = pure true) (hc : X.calm = true) (co : CompOk X sc x) (hi : PIcz κ B X (.Name x px) iter fit)
  (ht : ∀ B' cl C s₁ H₁ pn, PTs κ B' (CmpX X sc cl C s₁ H₁ pn x) ifs t) (he : ∀ B' cl C s₁ H₁ pn, PX κ B' (CmpX X sc cl C s₁ H₁ pn x) elt f)
  (hs : ∀ x, foldedSetIterable iter X.env x = pure x) : PZ κ B X (.Assign [.Name y py] (.ListComp elt [⟨.Name x px, iter, ifs, 0⟩] sc pos) spos) (zSet i (mL (mComp fit t f))) := λ Ex pins s σ H G δ Dn hp I rp q => by
 refine comp_use cx hN hy hx hf hsw hc co hi ht he hs I rp ?_
 unfold zSet mL at q
 cases e : mComp fit t f δ with
 | ok l =>
  rw [e] at q
  intro Da vs H3 G3 ex h1 h2 h3 h4
  have sg : Same G3 (upd G3 Da (.lst vs)) := λ b o z => by rw [upd_ne (ne_of_none z h2)]; exact z
  exact q _ H3 _ ((rp.ext (ext_frz ex h1 h2 h3)).setSh (by unfold Den; exact ⟨Da, vs, rfl, SqL.of upd_same, h4.mono sg⟩))
 | exc c => rw [e] at q; exact q
 | stuck => rw [e] at q; exact q
end
end L3
namespace L3
open PySem PySem.Spec PyProof.Rows L2
abbrev RRel (α : Type) := PySem.W.Frag → (Nat → Addr) → Hp → Hp → Hp → V → α → Prop
def ρ1 : RRel (List D) := λ K κ H₀ G' H' v ds => ∃ a vs, v = .ref a ∧ H' a = some (.lst vs) ∧ G' a = none ∧ H₀ a = none ∧ Dens ⟨K, κ⟩ G' vs ds
def PR {α : Type} (κ : Nat → Addr) (B : Gd) (X : Cx) (e : Expr) (ρ : RRel α) (f : Ev → R α) : Prop := ∀ pins σ Ex, PE (At X pins σ Ex) e (λ τ H Q => ∃ G δ, Rep ⟨X.K, κ⟩ B X.H₀ G H τ δ ∧ match f δ with
 | .ok r => ∀ v H' G', Hold B X.H₀ G' H' → ρ X.K κ X.H₀ G' H' v r → Q v H'
 | _ => False)
def PZr {α : Type} (κ : Nat → Addr) (B : Gd) (X : Cx) (st : List Stmt) (ρ : RRel α) (F : Ev → R α) : Prop := ∀ Ex pins s σ H G δ Dn, PassesOwn (model X.prog X.w) X.A X.env Ex → Inv (X.wish Ex) pins σ H s → Rep ⟨X.K, κ⟩ B X.H₀ G H σ δ → (match F δ with
 | .ok r => ∀ v H' G', Hold B X.H₀ G' H' → ρ X.K κ X.H₀ G' H' v r → Dn.rt v H'
 | _ => False) → wpAny (model X.prog X.w) X.A (execs st X.env) (SP (X.wish Ex) pins Dn) Ex s
section
variable {α : Type} {ρ : RRel α} {κ : Nat → Addr} {B : Gd} {X : Cx} {e : Expr} {f : Ev → R α} {pos : Pos}
theorem pr_of {fl : Ev → R (List D)} (h : PXf κ B X e fl) : PR κ B X e ρ1 fl := λ pins σ Ex => pe_imp (h pins σ Ex) λ τ H Q ⟨G, δ, rp, q⟩ => ⟨G, δ, rp, by
 cases z : fl δ with
 | ok ds =>
  rw [z] at q
  intro a vs H' G' e1 h1 h2 h3 h4
  refine q _ H' G' (rp.toHold.ext e1) ⟨a, vs, rfl, h1, h2, ?_, h4⟩
  cases q0 : X.H₀ a with
  | none => rfl
  | some o => exact absurd h3 (rp.there a (by rw [q0]; simp))
 | exc c => rw [z] at q; exact False.elim q
 | stuck => rw [z] at q; exact False.elim q⟩
theorem pzr_ret (cx : Cxo X) (h : PR κ B X e ρ f) : PZr κ B X [.Return (some e) pos] ρ f := λ Ex pins s σ H G δ Dn hp I rp q => by
 refine wpAny_execs_cons (wpAny_Return_some (thn (h pins σ Ex pins s σ H (λ v H' => Dn.rt v H') (inv_at I) ⟨G, δ, rp, q⟩) λ v s1 ⟨x, H', I', r, q⟩ => ?_))
 exact ⟨x, σ, H', inv_unat cx.sg I', r, q⟩
def zSeqR (F1 : Ev → SR) (F2 : Ev → R α) : Ev → R α := λ δ => match F1 δ with
 | .next δ' => F2 δ'
 | _ => .stuck
theorem pzr_cons {st : Stmt} {rest : List Stmt} {F1 : Ev → SR} {F2 : Ev → R α} (h1 : PZ κ B X st F1) (h2 : PZr κ B X rest ρ F2) : PZr κ B X (st :: rest) ρ (zSeqR F1 F2) := λ Ex pins s σ H G δ Dn hp I rp h => by
 refine wpAny_execs_cons (thn (h1 Ex pins s σ H G δ { nx := λ σ' H' => ∃ G' δ', Rep ⟨X.K, κ⟩ B X.H₀ G' H' σ' δ' ∧ (match F2 δ' with | .ok r => ∀ v H' G', Hold B X.H₀ G' H' → ρ X.K κ X.H₀ G' H' v r → Dn.rt v H' | _ => False), rt := λ _ _ => False } hp I rp ?_) λ f s1 q => ?_)
 ·unfold zSeqR at h
  cases q : F1 δ with
  | next δ' => rw [q] at h; exact λ σ' H' G' r => ⟨G', δ', r, h⟩
  | brk δ' => rw [q] at h; exact False.elim h
  | cont δ' => rw [q] at h; exact False.elim h
  | ret d => rw [q] at h; exact False.elim h
  | exc c δ' => rw [q] at h; exact False.elim h
  | stuck => rw [q] at h; exact False.elim h
 ·cases f with
  | next =>
   obtain ⟨σ', H', I', G', δ', r, q⟩ := q
   exact h2 Ex pins s1 σ' H' G' δ' Dn hp I' r q
  | ret v => obtain ⟨_, _, _, _, _, q⟩ := q; exact False.elim q
  | brk => obtain ⟨_, _, _, q⟩ := q; exact False.elim q
  | cont => obtain ⟨_, _, _, q⟩ := q; exact False.elim q
theorem pzr_frz (i : Nat) {sts : List Stmt} {F : Ev → R α} (h : PZr κ B X sts ρ F) : PZr κ B X sts ρ (λ δ => F (frzE i δ)) := λ Ex pins s σ H G δ Dn hp I rp q => by
 obtain ⟨G', r'⟩ := rp.freeze i
 exact h Ex pins s σ H G' _ Dn hp I r' q
end
def spR {α : Type} (K : PySem.W.Frag) (κ : Nat → Addr) (n : Nat) (ρ : RRel α) (m : List D → R α) : Sp := λ vs H Q E => vs.length = n ∧ ∃ G ds, Same G H ∧ Dens ⟨K, κ⟩ G vs ds ∧ Out (λ G' H' v d => ρ K κ H G' H' v d) κ E G H (m ds) Q
theorem rep_start {Z : Zx} {N : List Str} {G H : Hp} {vs : List V} {ds : List D} (sm : Same G H) (dn : Dens Z G vs ds) : Rep Z ⟨G, λ _ => False⟩ H G H (L2.start N vs) (startE N.length ds) := by
 have hld : ds.length = vs.length := dn.length.symm
 have none' : ∀ {i : Nat} {o : Sl}, (startE N.length ds)[i]? = some (some o) → ∃ d, o = .sh d ∧ ∃ v, (L2.start N vs)[i]? = some (some v) ∧ Den Z G v d := λ {i o} e => by
  unfold startE at e
  by_cases hi : i < ds.length
  ·rw [List.getElem?_append_left (by simpa using hi), List.getElem?_map] at e
   cases q : ds[i]? with
   | none => rw [q] at e; cases e
   | some d' =>
    rw [q] at e
    cases e
    obtain ⟨v, e1, e2⟩ := dn.get q
    refine ⟨d', rfl, v, ?_, e2⟩
    unfold L2.start
    rw [List.getElem?_append_left (by simp; omega), List.getElem?_map, e1]
    rfl
  ·rw [List.getElem?_append_right (by simpa using hi), List.getElem?_replicate] at e
   split at e <;> cases e
 refine ⟨⟨Same.refl _, sm, λ _ _ e _ => e, λ _ e => e, λ _ _ e => e⟩, ?_, λ i d e => ?_, λ i es e => ?_, λ i j es fs a n e => ?_, λ i c ns es e => ?_, λ i j c ns es c' ns' es' x0 n0 e => ?_⟩
 ·unfold L2.start startE
  simp [hld]
 ·obtain ⟨d', e1, v, e2, e3⟩ := none' e
  cases e1
  exact ⟨v, e2, e3⟩
 ·obtain ⟨_, e1, _⟩ := none' e; cases e1
 ·obtain ⟨_, e1, _⟩ := none' e; cases e1
 ·obtain ⟨_, e1, _⟩ := none' e; cases e1
 ·obtain ⟨_, e1, _⟩ := none' e; cases e1
def noE {α : Type} : R α → R α
 | .ok a => .ok a
 | _ => .stuck
theorem fn_mirrorR {α : Type} {ρ : RRel α} {P : Program} {w : World} {K : PySem.W.Frag} {mg : Str → Option Value} {base : Heap} {κ : Nat → Addr} {x qual : Str} {st : Stmt} {f : Addr} {fd : FuncData} {N ps : List Str} {k : Nat} {F : Ev → R α}
  (Fn : Fun K x qual st f fd) (S : FnScope N ps (defScope st))
  (hb : ∀ (X : Cx) (B : Gd), Cxo X → X.calm = true → X.prog = P → X.w = w → X.K = K → X.mg = mg → X.base = base → X.N = N → X.env.scope = defScope st → (∀ y, X.fn y = true) → Room k X.A → FrmOk X → PZr κ B X (defBody st) ρ F) :
  FnOk P w K mg base (CXR P w) (k + 1) f fd ps (spR K κ ps.length ρ λ ds => noE (F (startE N.length ds))) := by
 obtain ⟨oc, od, kV, doc, pm, an, cdv, ct, osl, rfl, lk, hcd⟩ := Fn.ex
 refine fn_of lk hcd S (λ vs H Q E h => h.1) λ A outer s H vs Q E hr hsp => ?_
 obtain ⟨hl, G, ds, sm, dn, hq⟩ := hsp
 dsimp only at hq
 generalize hX : cxOf (CXR P w) P w K mg base N qual (defScope st) f cdv A outer s H E = X
 have eP : X.prog = P := by rw [← hX]; rfl
 have ew : X.w = w := by rw [← hX]; rfl
 have eK : X.K = K := by rw [← hX]; rfl
 have cx : Cxo X := by rw [← hX]; exact ⟨λ _ _ => trivial, rfl⟩
 have e0 : X.H₀ = H := by rw [← hX]; rfl
 have body := λ B => hb X B cx (by rw [← hX]; rfl) eP ew eK (by rw [← hX]; rfl) (by rw [← hX]; rfl) (by rw [← hX]; rfl) (by rw [← hX]; rfl) (λ y => by rw [← hX]; rfl) (by rw [← hX]; exact hr) (by rw [← hX]; exact ⟨rfl, rfl⟩)
 refine ⟨λ Dn σ H => ∃ B G δ, Rep ⟨X.K, κ⟩ B X.H₀ G H σ δ ∧ (match F δ with | .ok r => ∀ v H' G', Hold B X.H₀ G' H' → ρ X.K κ X.H₀ G' H' v r → Dn.rt v H' | _ => False), λ pins s' σ H' Dn I ⟨B, G, δ, rp, h⟩ => ?_, ⟨G, λ _ => False⟩, G, startE N.length ds, ?_, ?_⟩
 ·refine body B X.xe pins s' σ H' G δ Dn ?_ I rp h
  rw [← hX]
  exact PassesOwn.leaving
 ·rw [e0, eK]
  exact rep_start sm dn
 ·cases q : F (startE N.length ds) with
  | ok r =>
   rw [q] at hq
   intro v H' G' hh hρ
   rw [e0] at hh hρ
   rw [eK] at hρ
   refine hq v H' G' ⟨hh.gG, λ b o e => hh.old b o e id, hh.GH, λ a n => ?_⟩ hρ
   cases z : H a with
   | none => exact .inr rfl
   | some o => exact .inl λ y => n (hh.lent a (by rw [z]; simp) y)
  | exc c => rw [q] at hq; exact False.elim hq
  | stuck => rw [q] at hq; exact False.elim hq
structure CalR {α : Type} (κ : Nat → Addr) (X : Cx) (x : Str) (n : Nat) (ρ : RRel α) (m : List D → R α) : Prop where
 ex : ∃ f fd ps k, FnOk X.prog X.w X.K X.mg X.base (CXR X.prog X.w) k f fd ps (spR X.K κ n ρ m) ∧ Room k X.A ∧ X.mg x = some (.ref f) ∧ PySem.W.keepIn X.K (.ref f) = true ∧ Binds X.K fd ps []
def MCR {α : Type} (P : Program) (w : World) (K : PySem.W.Frag) (mg : Str → Option Value) (base : Heap) (κ : Nat → Addr) (x : Str) (ps : List Str) (ρ : RRel α) (m : List D → R α) (k : Nat) : Prop :=
 ∃ f fd, FnOk P w K mg base (CXR P w) k f fd ps (spR K κ ps.length ρ m) ∧ mg x = some (.ref f) ∧ PySem.W.keepIn K (.ref f) = true ∧ Binds K fd ps [] ∧ ∃ oc od osl, K.lookup f = some ⟨oc, od, .func fd, osl⟩
theorem MCR.cal {α : Type} {ρ : RRel α} {κ : Nat → Addr} {X : Cx} {x : Str} {ps : List Str} {n : Nat} {m : List D → R α} {k j : Nat} (h : MCR X.prog X.w X.K X.mg X.base κ x ps ρ m k) (hr : Room j X.A) (hj : k ≤ j) (hn : ps.length = n := by rfl) : CalR κ X x n ρ m := by
 obtain ⟨f, fd, F, h1, h2, h3, _⟩ := h
 subst hn
 exact ⟨f, fd, ps, k, F, hr.mono hj, h1, h2, h3⟩
def mF (m : List D → R (List D)) : List D → R D := λ ds => (m ds).bind λ l => .ok (.lst l)
theorem spF_imp {K : PySem.W.Frag} {κ : Nat → Addr} {n : Nat} {m : List D → R (List D)} : ∀ vs H Q E, spM K κ n (mF m) vs H Q E → spR K κ n ρ1 m vs H Q E := λ vs H Q E ⟨hl, G, ds, sm, dn, q⟩ => by
 refine ⟨hl, G, ds, sm, dn, ?_⟩
 unfold mF at q
 cases z : m ds with
 | ok l =>
  rw [z] at q
  intro v H' G' e1 ⟨a, ws, e2, h1, h2, h3, h4⟩
  subst e2
  have sg : Same G' (upd G' a (.lst ws)) := λ b o z => by rw [upd_ne (ne_of_none z h2)]; exact z
  exact q _ H' _ (ext_frz e1 h1 h2 h3) (by unfold Den; exact ⟨a, ws, rfl, SqL.of upd_same, h4.mono sg⟩)
 | exc c => rw [z] at q; exact q
 | stuck => rw [z] at q; exact q
theorem MCR.mc {P : Program} {w : World} {K : PySem.W.Frag} {mg : Str → Option Value} {base : Heap} {κ : Nat → Addr} {x : Str} {ps : List Str} {m : List D → R (List D)} {k : Nat} (h : MCR P w K mg base κ x ps ρ1 m k) : MC P w K mg base κ x ps (mF m) k := by
 obtain ⟨f, fd, F, r⟩ := h
 exact ⟨f, fd, F.imp spF_imp, r⟩
section
variable {κ : Nat → Addr} {B : Gd} {X : Cx} {a : Expr} {es : List Expr} {fs : Ev → R (List D)} {p pos : Pos} {x : Str} {m : List D → R (List D)} {n : Nat}
theorem pxf_call (c : Cxo X) (C : CalR κ X x n ρ1 m) (hn : (a :: es).length = n) (hg : Gl X x) (ha : PXs κ B X (a :: es) fs) (hdb : (x == ("__debug__" : Str)) = false) (h : (a :: es).all noStar = true)
  (hlen : ∀ δ ds, fs δ = .ok ds → ds.length = n) : PXf κ B X (.Call (.Name x p) (a :: es) [] pos) (λ δ => (fs δ).bind m) := λ pins σ Ex => by
 have h' := h
 simp only [List.all_cons, Bool.and_eq_true] at h'
 obtain ⟨f, fd, ps, k, F, hr, hm, hk, hb⟩ := C.ex
 refine pe_imp (pe_call (X := At X pins σ Ex) (E := EX X pins σ Ex) F hr hg hm hk hb .nil (passes_at c) (ha pins σ Ex) hdb (star_cons h'.1) (back_any h'.2)) λ τ H Q ⟨G, δ, rp, q⟩ => ⟨G, δ, rp, ?_⟩
 dsimp only at q
 cases e : fs δ with
 | ok ds =>
  rw [e] at q
  intro v H1 G1 e1 d1
  rw [List.append_nil]
  refine ⟨by rw [Dens.length d1, hlen δ ds e], G1, ds, e1.GH, d1, ?_⟩
  have q' := fOut.pre e1 q
  simp only [R.bind_ok] at q'
  cases z : m ds with
  | ok l =>
   rw [z] at q'
   rintro v' H' G' e2 ⟨b, ws, rfl, h1, h2, h3, h4⟩
   exact q' b ws H' G' e2 h1 h2 h3 h4
  | exc c => rw [z] at q'; exact q'
  | stuck => rw [z] at q'; exact q'
 | exc c => rw [e] at q; exact q
 | stuck => rw [e] at q; exact q
end
end L3
namespace L3
open PySem PySem.Spec PyProof.Rows L2
section
variable {κ : Nat → Addr} {B : Gd} {X : Cx} {a b : Expr} {fa fb : Ev → R D} {pos : Pos}
end
section
variable {X : Cx} {tg : Expr}
end
section
variable {κ : Nat → Addr} {B : Gd} {X : Cx} {tg : Expr}
end
structure CmpIs (X : Cx) (sc : Scope) (x : Str) (X' : Cx) : Prop where
 cxo : Cxo X'
 calm : X'.calm = X.calm
 A : X'.A = X.A
 mg : X'.mg = X.mg
 K : X'.K = X.K
 n : ∀ {i : Nat} {y : Str}, X.N[i]? = some y → X'.N[i]? = some y
 x : ∀ {i : Nat}, X.N.length = i → X'.N[i]? = some x
 look : ∀ {y : Str} {k : NameKind}, sc.names.lookup y = some k → k ≠ .free → X'.env.scope.names.lookup y = some k
 vis : ∀ {y : Str}, sc.names.lookup y = some .free → Vis X'.env.scope y
 cal : ∀ {κ : Nat → Addr} {y : Str} {n : Nat} {m : List D → R D}, Cal κ X y n m → Cal κ X' y n m
theorem cmp_is {X : Cx} {sc : Scope} {x : Str} {cl : List (Str × Addr)} {C : Addr} {s₁ : Shared} {H₁ : Hp} {pn : List (Addr × Obj)} : CmpIs X sc x (CmpX X sc cl C s₁ H₁ pn x) where
 cxo := cmp_cxo
 calm := rfl
 A := rfl
 mg := rfl
 K := rfl
 n := cmp_n
 x := cmp_x
 look := cmp_look
 vis := cmp_vis
 cal := cmp_cal
section
variable {κ : Nat → Addr} {B : Gd} {X : Cx} {sc : Scope} {x : Str} {px pos : Pos} {iter elt : Expr} {ifs : List Expr} {fit : Ev → R (List D)} {t : Ev → R Bool} {f : Ev → R D}
theorem comp_by (hc : X.calm = true) (co : CompOk X sc x) (hi : PIcz κ B X (.Name x px) iter fit) (ht : ∀ X' B', CmpIs X sc x X' → PTs κ B' X' ifs t) (he : ∀ X' B', CmpIs X sc x X' → PX κ B' X' elt f)
  (hs : plI iter = true) : PXf κ B X (.ListComp elt [⟨.Name x px, iter, ifs, 0⟩] sc pos) (mComp fit t f) :=
 pxf_comp hc co hi (λ _ _ _ _ _ _ => ht _ _ cmp_is) (λ _ _ _ _ _ _ => he _ _ cmp_is) (fold_no hs)
end
theorem swaps_yes {elt : Expr} {gens : List Comprehension} {sc : Scope} {pos py : Pos} {y : Str} {n : Nat} {env : Env} (hk : env.scope.kind = .function) (h : env.scope.names.lookup y = some .local) (hl : (py.line == pos.line) = true) (hn : (sc.names.any λ p => p.1 == y && (p.2 == .local || p.2 == .cell)) = false) :
  swapsWith (.ListComp elt gens sc pos) (some (.Name y py)) n env = pure true := by
 show (pure (env.blockKind == .function && env.kindOf y == some .local && py.line == pos.line && !(sc.names.any λ (n, k) => n == y && (k == .local || k == .cell))) : Sem Bool) = _
 have e : env.kindOf y = some .local := h
 have hb : env.blockKind = .function := by unfold Env.blockKind; rw [hk]; rfl
 rw [hb, e, hl, hn]
 rfl
section
variable {κ : Nat → Addr} {B : Gd} {X : Cx} {sc : Scope} {x y : Str} {px py pos spos : Pos} {iter elt : Expr} {ifs : List Expr} {fit : Ev → R (List D)} {t : Ev → R Bool} {f : Ev → R D} {i : Nat}
theorem set_comp (cx : Cxo X) (hN : X.N.Nodup) (hy : X.N[i]? = some y) (hk : X.env.scope.kind = .function) (hx : X.env.scope.names.lookup y = some .local) (hl : (py.line == pos.line) = true) (hn : (sc.names.any λ p => p.1 == y && (p.2 == .local || p.2 == .cell)) = false)
  (hc : X.calm = true) (co : CompOk X sc x) (hi : PIcz κ B X (.Name x px) iter fit) (ht : ∀ X' B', CmpIs X sc x X' → PTs κ B' X' ifs t) (he : ∀ X' B', CmpIs X sc x X' → PX κ B' X' elt f) (hs : plI iter = true) :
  PZ κ B X (.Assign [.Name y py] (.ListComp elt [⟨.Name x px, iter, ifs, 0⟩] sc pos) spos) (zSet i (mL (mComp fit t f))) :=
 pz_setC cx hN hy (.inl hx) (.inr hx) (swaps_yes hk hx hl hn) hc co hi (λ _ _ _ _ _ _ => ht _ _ cmp_is) (λ _ _ _ _ _ _ => he _ _ cmp_is) (fold_no hs)
end
theorem swaps_sub {o k e : Expr} {ap : Pos} {n : Nat} {env : Env} : swapsWithSole [.Subscript o k ap] e n env = pure false := by
 cases e <;> rfl
section
variable {κ : Nat → Addr} {B : Gd} {X : Cx} {e k : Expr} {f fk : Ev → R D} {pos pos' apos : Pos} {x : Str} {i : Nat}
theorem y_putA (cx : Cxo X) (hN : X.N[i]? = some x) (hv : Vis X.env.scope x) (hd : (x == ("__debug__" : Str)) = false) (hcd : (x == ("__classdict__" : Str)) = false) (h : PX κ B X e f) (hk : PX κ B X k fk) (ht : noTup e = true)
  (ha : ∀ v, assign (.Subscript (.Name x pos) k apos) X.env v = (do
   let ov ← holding [v] (eval (.Name x pos) X.env)
   let iv ← holding [v, ov] (eval k X.env)
   standAt apos
   holding [v, ov, iv] (setItem ov iv v)
   release [v, ov, iv] [])) : PZ κ B X (.Assign [.Subscript (.Name x pos) k apos] e pos') (zPut i fk f) := pz_put cx hN hv hd hcd h hk swaps_sub (stores_no ht) (each_one rfl) ha
end
def oNeg : D → R D
 | .int i => .ok (.int (-i))
 | _ => .stuck
section
variable {κ : Nat → Addr} {B : Gd} {X : Cx} {a b : Expr} {fa fb : Ev → R D} {p pos : Pos}
theorem px_neg (ha : PXr κ B X a fa) : PX κ B X (.UnaryOp .USub a pos) (m1 oNeg fa) := λ pins σ Ex =>
 pe_imp (pe_un un_neg (ha pins σ Ex)) λ τ H Q ⟨G, δ, rp, q⟩ => ⟨G, δ, rp, q.seq λ x v H1 G1 e1 d1 q1 => by
  unfold oNeg at q1
  split at q1
  ·exact ⟨_, rInt d1, q1 _ H1 G1 (Ext.refl e1.GH) dInt⟩
  ·exact False.elim q1⟩
theorem pxf_list (hg : Gl X "list") (hm : X.mg "list" = none) (ha : PXr κ B X a fa) (h : noStar a = true) : PXf κ B X (.Call (.Name "list" p) [a] [] pos) (λ δ => (fa δ).bind itemsD) := λ pins σ Ex =>
 pe_imp (pe_callTy (X := At X pins σ Ex) call_list_of hg hm (boot_ty .list) (pa_cons (X := At X pins σ Ex) (ha pins σ Ex) pa_nil (star_cons h)) (by decide) (by decide) (star_cons h) rfl) λ τ H Q ⟨G, δ, rp, q⟩ => ⟨G, δ, rp, by
  dsimp only at q
  cases e : fa δ with
  | exc c => rw [e] at q; exact q
  | stuck => rw [e] at q; exact q
  | ok d =>
   rw [e] at q
   intro v H1 G1 e1 d1
   have q1 := fOut.pre e1 q
   have fin : ∀ {p : Addr} {ys : List V} {ds : List D}, (SqL X.K H1 p ys ∨ SqT X.K H1 p ys) → Dens ⟨X.K, κ⟩ G1 ys ds → fOut X κ (EX X pins σ Ex) G1 H1 (.ok ds) Q → ∃ p' ys', [V.ref p] = [V.ref p'] ∧ (SqL X.K H1 p' ys' ∨ SqT X.K H1 p' ys') ∧ ∀ l, H1 l = none → Q (.ref l) (upd H1 l (.lst ys')) := λ {p ys ds} h1 h2 h3 =>
    ⟨p, ys, rfl, h1, λ l hl => h3 l ys _ G1 (ext_own e1.GH hl) upd_same (e1.GH.free hl) hl h2⟩
   cases d with
   | lst ds =>
    rcases d1 with d1 | ⟨l, vs, es, rfl, e2, h3, h4⟩
    ·unfold Den at d1
     obtain ⟨l, vs, rfl, h1, h2⟩ := d1
     exact fin (.inl (e1.GH.seq h1)) h2 q1
    ·cases e2
     exact fin (.inl (SqL.of h3)) h4 q1
   | tup ds =>
    rcases d1 with d1 | ⟨l, vs, es, rfl, e2, h3, h4⟩
    ·unfold Den at d1
     obtain ⟨l, vs, rfl, h1, h2⟩ := d1
     exact fin (.inr (same_seqT e1.GH h1)) h2 q1
    ·cases e2
   | _ => exact False.elim q1⟩
end
end L3
namespace L3
open PySem PySem.Spec PyProof.Rows L2
def IsItG (X : Cx) (κ : Nat → Addr) (J : It) (G : Hp) (ds : List D) : Prop := ∀ H' G', Same G G' → Same G' H' → ∀ i, (∀ d, ds[i]? = some d → J.go i H' ∧ ∀ x H'', J.yld i H' x H'' → ∃ G'', Ext G' H' G'' H'' ∧ Den ⟨X.K, κ⟩ G'' x d) ∧ (ds.length ≤ i → J.stop i H')
def PIg (κ : Nat → Addr) (B : Gd) (X : Cx) (tg e : Expr) (f : Ev → R (List D)) : Prop := ∀ pins σ Ex, PI (At X pins σ Ex) tg e (tO (λ G _ J ds => IsItG X κ J G ds) X κ B (EX X pins σ Ex) f)
section
variable {κ : Nat → Addr} {B : Gd} {X : Cx} {e tg : Expr} {f : Ev → R D} {pos : Pos}
theorem pz_forG (cx : Cxo X) (hc : X.calm = true) {iter : Expr} {body : List Stmt} {fit : Ev → R (List D)} {bd : D → Ev → Option Ev} {F : Ev → SR} (hi : PIg κ B X tg iter fit) (hg : ∀ B, PGz κ B X tg bd) (hb : ∀ B, PZs κ B X body F)
  (hs : ∀ x, foldedSetIterable iter X.env x = pure x) : PZ κ B X (.For tg iter body [] pos) (zFor fit bd F) := λ Ex pins s σ H G δ Dn hp I rp h => by
 have hsgA : ∀ p τ, (X.wish Ex).sg p τ := cx.sg
 refine wpAny_For (thn (hi pins σ Ex pins s σ H (λ J H' => ∃ G' ds, Rep ⟨X.K, κ⟩ B X.H₀ G' H' σ δ ∧ IsItG X κ J G' ds ∧ SPost κ B X Ex pins Dn (loopZ bd F ds δ)) (inv_at I) ⟨G, δ, rp, ?_⟩) λ v s1 h1 => thn h1 λ itv s2 h2 => ?_) hs
 ·unfold zFor at h
  cases q : fit δ with
  | ok ds => rw [q] at h; exact λ J H' G' e1 d1 => ⟨G', ds, rp.ext e1, d1, h⟩
  | exc c => rw [q] at h; exact λ H' G' e1 ea s' I' F' => h ea s' σ H' G' I' F' (rp.ext e1)
  | stuck => rw [q] at h; exact h
 obtain ⟨it, fp, tn, J, H2, e, I2, T, st2, f2, G2, ds, rp2, hJ, q2⟩ := h2
 subst e
 have I2' := inv_unat cx.sg I2
 have stat : ∀ {H' : Hp}, (∀ b ∈ fp, H' b = none) → ∀ b ∈ fp, FpOk (X.wish Ex) pins H' b := λ hn b hb => ⟨hn b hb, (f2 b hb).2⟩
 refine codeAny_forLoop_any (λ n s' => ∃ i σ' H' G' δ', Inv (X.wish Ex) pins σ' H' s' ∧ tn i s'.heap ∧ (∀ b ∈ fp, H' b = none) ∧ n = ds.length - i ∧ i ≤ ds.length ∧ Rep ⟨X.K, κ⟩ ⟨G2, B.m⟩ X.H₀ G' H' σ' δ' ∧ SPost κ B X Ex pins Dn (loopZ bd F (ds.drop i) δ')) ?_ ds.length
  ⟨0, σ, H2, G2, δ, I2', st2, λ b hb => (f2 b hb).1, rfl, Nat.zero_le _, rp2.raise, q2⟩
 rintro n s3 ⟨i, σ3, H3, G3, δ3, I3, st3, fr3, rfl, hi3, rp3, q3⟩
 have low : ∀ {G' H' : Hp} {σ' : St} {δ' : Ev}, Rep ⟨X.K, κ⟩ ⟨G2, B.m⟩ X.H₀ G' H' σ' δ' → Rep ⟨X.K, κ⟩ B X.H₀ G' H' σ' δ' := λ r => r.lower rp2.gG rp2.lent
 have same3 : Same G2 H3 := rp3.gG.trans rp3.GH
 by_cases hlt : i < ds.length
 ·obtain ⟨dx, hdx⟩ : ∃ d, ds[i]? = some d := ⟨ds[i], by simp [hlt]⟩
  obtain ⟨go, yl⟩ := (hJ H3 G3 rp3.gG rp3.GH i).1 dx hdx
  refine wpAny_passesOwn hp (thn (T.item (X.wish Ex) rfl rfl rfl hc i pins s3 σ3 H3 Ex I3 (stat fr3) st3 go) λ r s4 ⟨u, hr, h4⟩ => ?_)
  subst hr
  refine wpAny_passesOwn hp (thn h4 λ _ s5 ⟨x, H5, I5, r5, y5, st5, fr5⟩ => ?_)
  obtain ⟨G5, e5, dd⟩ := yl x H5 y5
  have I5' := Inv.pinned hsgA I5 (stat fr5) (T.obj _ _ st5)
  have hdrop : ds.drop i = dx :: ds.drop (i + 1) := by
   rw [List.drop_eq_getElem_cons hlt]
   simp [hlt] at hdx
   rw [hdx]
  rw [hdrop] at q3
  unfold loopZ at q3
  cases eb : bd dx δ3 with
  | none => rw [eb] at q3; exact False.elim q3
  | some δ4 =>
   rw [eb] at q3
   refine wpAny_passesOwn hp (thn (hg ⟨G2, B.m⟩ Ex _ s5 σ3 _ x u (λ σ' H' => H' = H5 ∧ Rep ⟨X.K, κ⟩ ⟨G2, B.m⟩ X.H₀ G5 H5 σ' δ4) I5' r5 ⟨G5, δ3, dx, δ4, rp3.ext e5, dd, eb, λ σ' r' => ⟨rfl, r'⟩⟩) λ _ s6 ⟨σ6, H6, I6, e6, rp6⟩ => ?_)
   subst e6
   refine wpAny_passesOwn hp (thn (hb ⟨G2, B.m⟩ Ex _ s6 σ6 _ G5 δ4 { Dn with nx := λ σ' H' => ∃ G' δ', Rep ⟨X.K, κ⟩ ⟨G2, B.m⟩ X.H₀ G' H' σ' δ' ∧ SPost κ B X Ex pins Dn (loopZ bd F (ds.drop (i + 1)) δ'), ct := λ σ' H' => ∃ G' δ', Rep ⟨X.K, κ⟩ ⟨G2, B.m⟩ X.H₀ G' H' σ' δ' ∧ SPost κ B X Ex pins Dn (loopZ bd F (ds.drop (i + 1)) δ'), bk := Dn.nx } hp I6 rp6 ?_) λ fl s7 q7 => ?_)
   ·cases ef : F δ4 with
    | next δ5 => simp only [ef] at q3; exact λ σ' H' G' r => ⟨G', δ5, r, q3⟩
    | cont δ5 => simp only [ef] at q3; exact λ σ' H' G' r => ⟨G', δ5, r, q3⟩
    | brk δ5 => simp only [ef] at q3; exact λ σ' H' G' r => q3 σ' H' G' (low r)
    | ret d => simp only [ef] at q3; exact λ v H' G' r => q3 v H' G' (r.lower rp2.gG rp2.lent)
    | exc c δ5 => simp only [ef] at q3; exact λ ea s' σ' H' G' I' F' r => q3 ea s' σ' H' G' (Inv.unpinned hsgA I') (flies_pins F') (low r)
    | stuck => simp only [ef] at q3; exact q3
   ·have again : ∀ {σ7 : St} {H7 : Hp}, Inv (X.wish Ex) (pins ++ pinsAt fp s5.heap) σ7 H7 s7 → (∃ G' δ', Rep ⟨X.K, κ⟩ ⟨G2, B.m⟩ X.H₀ G' H7 σ7 δ' ∧ SPost κ B X Ex pins Dn (loopZ bd F (ds.drop (i + 1)) δ')) →
      ∃ m, m < ds.length - i ∧ ∃ i σ' H' G' δ', Inv (X.wish Ex) pins σ' H' s7 ∧ tn i s7.heap ∧ (∀ b ∈ fp, H' b = none) ∧ m = ds.length - i ∧ i ≤ ds.length ∧ Rep ⟨X.K, κ⟩ ⟨G2, B.m⟩ X.H₀ G' H' σ' δ' ∧ SPost κ B X Ex pins Dn (loopZ bd F (ds.drop i) δ') := λ {σ7 H7} I7 ⟨G7, δ7, r7, n7⟩ => by
     refine ⟨ds.length - (i + 1), by omega, i + 1, σ7, H7, G7, δ7, Inv.unpinned hsgA I7, T.keep _ _ _ st5 λ b hb o e => (I7.pin (b, o) (List.mem_append_right _ (List.mem_append_right _ (mem_pinsAt hb e)))).1, λ b hb => ?_, rfl, hlt, r7, n7⟩
     obtain ⟨o, e, d⟩ := T.obj _ _ st5 b hb
     exact (I7.pin (b, o) (List.mem_append_right _ (List.mem_append_right _ (mem_pinsAt hb e)))).2.1
    cases fl with
    | next => obtain ⟨σ7, H7, I7, n7⟩ := q7; exact again I7 n7
    | cont => obtain ⟨σ7, H7, I7, n7⟩ := q7; exact again I7 n7
    | brk => obtain ⟨σ7, H7, I7, q7⟩ := q7; exact ⟨σ7, H7, Inv.unpinned hsgA I7, q7⟩
    | ret v => obtain ⟨x7, σ7, H7, I7, r7, q7⟩ := q7; exact ⟨x7, σ7, H7, Inv.unpinned hsgA I7, r7, q7⟩
 ·have hie : i = ds.length := by omega
  refine wpAny_passesOwn hp (thn (T.done (X.wish Ex) rfl rfl rfl hc i pins s3 σ3 H3 Ex I3 (stat fr3) st3 ((hJ H3 G3 rp3.gG rp3.GH i).2 (by omega))) λ r s4 ⟨hr, I4⟩ => ?_)
  subst hr
  rw [hie, List.drop_length] at q3
  exact wpAny_execs_nil ⟨σ3, H3, I4, q3 σ3 H3 G3 (low rp3)⟩
end
def Ite (K : PySem.W.Frag) (a : Addr) : It :=
 ⟨λ i H => ∃ xs x, SqL K H a xs ∧ xs[i]? = some x, λ i H x H' => ∃ v p, (∀ xs, SqL K H a xs → xs[i]? = some v) ∧ H p = none ∧ x = .ref p ∧ H' = upd H p (.tup [.int (i : Nat), v]), λ i H => ∃ xs, SqL K H a xs ∧ xs.length ≤ i⟩
theorem turn_enum {P : Program} {w : World} {K : PySem.W.Frag} {tgs : List Expr} {kk : Nat} {tpos : Pos} (l e it : Addr) (hne : e ≠ it) : Turn P w K (.Tuple tgs kk tpos) (Ite K l) [e, it] e (λ i h => (∃ old, IsEnum h e it (i : Nat) old) ∧ h.IsListIter it l i) where
 mem := by simp
 obj := λ i h st b hb => by
  obtain ⟨⟨old, h1⟩, o, h2, _, h3⟩ := st
  rcases List.mem_cons.mp hb with rfl | hb
  ·exact ⟨_, h1, λ v z => by
    have z' : Data.fields _ = Data.cell v := z
    cases z'⟩
  ·have e' : b = it := by simpa using hb
   subst e'
   exact ⟨o, h2, λ v z => by rw [h3] at z; cases z⟩
 keep := λ i h h' st k => by
  obtain ⟨⟨old, h1⟩, h2⟩ := st
  exact ⟨⟨old, k e (by simp) _ h1⟩, h2.at λ o x => k it (by simp) o x⟩
 item := by
  intro X hP hw hK hc i pins s σ H E I hf st hg
  subst hP hw hK
  obtain ⟨⟨old, h1⟩, h2⟩ := st
  obtain ⟨xs, x, hq, hx⟩ := hg
  obtain ⟨its, rv, p, hz⟩ := I.list hq
  obtain ⟨u, hu, ru⟩ := rv.get hx
  obtain ⟨f0, f1, f2, f3, f4, f5⟩ := hf e (by simp)
  obtain ⟨g0, g1, g2, g3, g4, g5⟩ := hf it (by simp)
  have hes : e < s.heap.objs.size := Heap.lt_size h1
  refine wpAny_pyNext_enum_item h1 h2 p.isList (x := u) (by simpa using hu) hne λ h' ho hi ht hs hk => ⟨_, rfl, ?_⟩
  refine wpAny_letOwnedTupleGo_enum ho λ h'' he hsb => ?_
  have hn : H s.heap.objs.size = none := I.hok.fresh (Nat.le_refl _)
  have tup : h''.get? s.heap.objs.size = some { cls := .type "tuple", data := .seq #[.int i s.toks, u] } := hsb.extBut _ _ (Nat.ne_of_gt hes) ht
  have kp : ∀ b o, b ≠ e → b ≠ it → s.heap.get? b = some o → h''.get? b = some o := λ b o hb1 hb2 q => hsb.extBut b o hb1 (hk b o hb1 hb2 q)
  have nin : ∀ {b : Addr}, b ∉ [e, it] → b ≠ e ∧ b ≠ it := λ {b} h => by simpa using h
  have ne_tr : ∀ b o, H b = some o → b ≠ e ∧ b ≠ it := λ b o q => ⟨(by rintro rfl; rw [f0] at q; cases q), (by rintro rfl; rw [g0] at q; cases q)⟩
  have nep : ∀ b o, s.heap.get? b = some o → b ≠ s.heap.objs.size := λ b o q => Nat.ne_of_lt (Heap.lt_size q)
  have J := I.step (H' := upd H s.heap.objs.size (.tup [.int (i : Nat), x])) (h' := h'') (g' := s.gens) (d' := s.drawn) (t' := s.toks + 1) (ch := [e, it]) (λ b hb => by
    rcases List.mem_cons.mp hb with rfl | hb
    ·exact ⟨f3.imp id Heap.get?_none_of_le, f1, f4, f5⟩
    ·have e' : b = it := by simpa using hb
     subst e'
     exact ⟨g3.imp id Heap.get?_none_of_le, g1, g4, g5⟩)
   (λ b o _ _ hch q _ => kp b o (nin hch).1 (nin hch).2 q) (λ b o _ _ hch q _ => ⟨o.slots, kp b o (nin hch).1 (nin hch).2 q⟩) (λ b o _ q n => by rw [upd_ne (nep b o q)]; exact n)
   (λ b o hch q => ⟨o, kp b o (nin hch).1 (nin hch).2 q⟩) (λ b xs q => by rw [upd_ne (ne_of_none q hn)]; exact q) (λ b o u q => by rw [upd_ne (ne_of_none q hn)]; exact q) (λ b ps q => ⟨#[], by rw [upd_ne (ne_of_none q hn), q]; simp⟩)
   (λ m hm => by
    obtain ⟨o, es, ep, ho', r⟩ := hm
    exact ⟨o, es, ep, kp _ o (Ne.symm f1) (Ne.symm g1) ho', r⟩)
   (λ b o q => by
    by_cases hb : b = s.heap.objs.size
    ·subst hb
     rw [upd_same] at q
     cases q
     exact ⟨by simp [sizeLine_eq], [.int i s.toks, u], .cons ⟨_, rfl⟩ (.cons ru .nil), _, tup, rfl, _, rfl⟩
    ·rw [upd_ne hb] at q
     refine (I.hok b o q).stay (λ c v hc q' => ?_) (λ c q' => by rw [upd_ne (ne_of_none q' hn)]; exact q') λ c xs q' => by rw [upd_ne (ne_of_none q' hn)]; exact q'
     have hcc : c ≠ e ∧ c ≠ it := by
      rcases hc with z | z
      ·rw [z]; exact ne_tr b o q
      ·exact ne_tr c _ z
     exact kp c v hcc.1 hcc.2 q') I.bare
  refine ⟨.ref s.heap.objs.size, _, J, rfl, ⟨x, _, λ ys hy => by rw [I.list_inj hy hq]; exact hx, hn, rfl, rfl⟩, ⟨⟨u, ?_⟩, (hi.extBut hsb.extBut (Ne.symm hne))⟩, λ b hb => ?_⟩
  ·have he' : IsEnum h'' e it ((i : Int) + 1) u := he
   rw [show (((i + 1 : Nat)) : Int) = (i : Int) + 1 by push_cast; rfl]
   exact he'
  ·have hlt : b < s.heap.objs.size := by
    rcases List.mem_cons.mp hb with rfl | hb
    ·exact hes
    ·have e' : b = it := by simpa using hb
     subst e'
     obtain ⟨o, ho', _⟩ := h2
     exact Heap.lt_size ho'
   rw [upd_ne (Nat.ne_of_lt hlt)]
   exact (hf b hb).1
 done := by
  intro X hP hw hK hc i pins s σ H E I hf st hg
  subst hP hw hK
  obtain ⟨⟨old, h1⟩, h2⟩ := st
  obtain ⟨xs, hq, hx⟩ := hg
  obtain ⟨its, rv, p, hz⟩ := I.list hq
  obtain ⟨g0, g1, g2, g3, g4, g5⟩ := hf it (by simp)
  have hl := rv.length
  exact wpAny_pyNext_enum_end (I.ok.hd hc) h1 h2 p.isList (by simp; omega) λ h' eb => ⟨rfl, I.turned (t' := s.toks) (λ b o hb e => eb b o hb e) g0 g1 g3 g4 g5⟩
 self := λ _ _ _ _ _ st h => by
  obtain ⟨⟨old, h1⟩, _⟩ := st
  exact wpAny_pyIter_enum h1 h
def enumFrom : Nat → List D → List D
 | _, [] => []
 | n, d :: ds => .tup [.int (n : Int), d] :: enumFrom (n + 1) ds
def enumD : D → R (List D)
 | .lst ds => .ok (enumFrom 0 ds)
 | _ => .stuck
theorem enumFrom_len : ∀ (ds : List D) (n : Nat), (enumFrom n ds).length = ds.length
 | [], _ => rfl
 | d :: ds, n => by simp [enumFrom, enumFrom_len ds (n + 1)]
theorem enumFrom_get : ∀ (ds : List D) (n i : Nat) (d : D), (enumFrom n ds)[i]? = some d → ∃ x, ds[i]? = some x ∧ d = .tup [.int ((n + i : Nat) : Int), x]
 | [], _, _, _, h => by simp [enumFrom] at h
 | x :: ds, n, 0, d, h => by simp [enumFrom] at h; exact ⟨x, rfl, h.symm⟩
 | x :: ds, n, i + 1, d, h => by
  simp only [enumFrom, List.getElem?_cons_succ] at h
  obtain ⟨y, h1, h2⟩ := enumFrom_get ds (n + 1) i d h
  exact ⟨y, by simpa using h1, by rw [h2]; congr 3; omega⟩
theorem isItG_enum {X : Cx} {κ : Nat → Addr} {G : Hp} {a : Addr} {vs : List V} {ds : List D} (h : SqL X.K G a vs) (d : Dens ⟨X.K, κ⟩ G vs ds) : IsItG X κ (Ite X.K a) G (enumFrom 0 ds) := by
 intro H' G' s1 s2 i
 have sq : SqL X.K H' a vs := (s1.trans s2).seq h
 refine ⟨λ e he => ?_, λ hi => ⟨vs, sq, by rw [d.length, ← enumFrom_len ds 0]; exact hi⟩⟩
 obtain ⟨y, hy, rfl⟩ := enumFrom_get ds 0 i e he
 obtain ⟨v, hv, dv⟩ := d.get hy
 refine ⟨⟨vs, v, sq, hv⟩, ?_⟩
 rintro x H'' ⟨v', p, q1, q3, rfl, rfl⟩
 have q2 := q1 vs sq
 rw [hv] at q2
 cases q2
 have ee := ext_new (o := .tup [.int (i : Nat), v]) s2 q3
 refine ⟨_, ee, ?_⟩
 unfold Den
 refine ⟨p, _, rfl, SqT.of upd_same, dens_cons (by unfold Den; simp) (dens_cons ((dv.mono s1).mono ee.sG) dens_nil)⟩
section
variable {κ : Nat → Addr} {B : Gd} {X : Cx} {e : Expr} {f : Ev → R D} {tgs : List Expr} {kk : Nat} {p pos tpos : Pos}
theorem pig_enum (hg : Gl X "enumerate") (hm : X.mg "enumerate" = none) (h : PX κ B X e f) (hs : noStar e = true) : PIg κ B X (.Tuple tgs kk tpos) (.Call (.Name "enumerate" p) [e] [] pos) (λ δ => (f δ).bind enumD) := λ pins σ Ex pins' s τ H R I ⟨G, δ, rp, q⟩ => by
 dsimp only at q
 refine Call_ (ld_blt I hg hm boot_enumerate (PyProof.Rows.callWith_type1 (thn (pa_cons (X := At X pins σ Ex) (h pins σ Ex) pa_nil (star_cons hs) pos pins' s τ H (λ vs H1 => ∃ a xs ds G1, vs = [.ref a] ∧ SqL X.K G1 a xs ∧ Dens ⟨X.K, κ⟩ G1 xs ds ∧ Ext G H G1 H1 ∧ R (Ite X.K a) H1) I ⟨G, δ, rp, ?_⟩) λ us s1 ⟨vs, H1, I1, r1, q1⟩ => ?_) (star_cons hs) rfl))
 ·cases e' : f δ with
  | ok d =>
   rw [e'] at q
   cases d with
   | lst ds =>
    intro v H1 G1 e1 d1
    unfold dRel Den at d1
    obtain ⟨a, xs, rfl, h1, h2⟩ := d1
    exact ⟨a, xs, ds, G1, rfl, h1, h2, e1, q _ H1 G1 e1 (isItG_enum h1 h2)⟩
   | _ => exact False.elim q
  | exc c => rw [e'] at q; exact q
  | stuck => rw [e'] at q; exact False.elim q
 ·obtain ⟨a, xs, ds, G1, rfl, h1, h2, e1, q1⟩ := q1
  cases r1 with
  | cons r rr =>
   cases rr
   cases r
   obtain ⟨its, rv, pl, hz⟩ := I1.list (e1.GH.seq h1)
   refine call_enumerate_list pl.isList λ h' he hi hsz hk => ?_
   refine wpAny_pyIter_enum he ?_
   have I2 : Inv (At X pins σ Ex) pins' τ H1 { s1 with heap := h' } := I1.kept (t' := s1.toks) hk
   refine ⟨s1.heap.objs.size + 1, [s1.heap.objs.size + 1, s1.heap.objs.size], _, _, H1, rfl, I2, turn_enum a _ _ (Nat.succ_ne_self _), ⟨⟨_, he⟩, hi⟩, λ b hb => ?_, q1⟩
   rcases List.mem_cons.mp hb with rfl | hb
   ·exact I1.fpOk (Nat.le_succ _) (I1.hok.fresh (Nat.le_succ _))
   ·have e' : b = s1.heap.objs.size := by simpa using hb
    subst e'
    exact I1.fpOk (Nat.le_refl _) (I1.hok.fresh (Nat.le_refl _))
theorem y_forG (cx : Cxo X) (hc : X.calm = true) {tg iter : Expr} {body : List Stmt} {fit : Ev → R (List D)} {bd : D → Ev → Option Ev} {F : Ev → SR} (hi : PIg κ B X tg iter fit) (hg : ∀ B, PGz κ B X tg bd) (hb : ∀ B, PZs κ B X body F) (h : plI iter = true) : PZ κ B X (.For tg iter body [] pos) (zFor fit bd F) := pz_forG cx hc hi hg hb (fold_no h)
end
end L3
namespace L3
open PySem PySem.Spec PyProof.Rows L2
section
variable {κ : Nat → Addr} {B : Gd} {X : Cx} {a e tg : Expr} {f fa : Ev → R D} {p pos : Pos}
end
end L3
namespace L3
open PySem PySem.Spec PyProof.Rows L2
section
variable {κ : Nat → Addr} {B : Gd} {X : Cx} {a b : Expr} {fa fb : Ev → R D} {p pos : Pos}
end
end L3
namespace L3
open PySem PySem.Spec PyProof.Rows L2
def rngV (lo : Int) (n : Nat) : List V := (List.range n).map λ k => V.int (lo + (k : Nat))
theorem vals_rng {lo : Int} : ∀ {n : Nat} {its : List Value}, ItemsOf (λ i v => ∃ t, v = Value.int (lo + i * 1) t) its.toArray n → Vals (rngV lo n) its := by
 intro n its h
 obtain ⟨h1, h2⟩ := h
 have key : ∀ (its : List Value) (lo : Int), (∀ j v, its[j]? = some v → ∃ t, v = Value.int (lo + (j : Nat)) t) → Vals (rngV lo its.length) its := by
  intro its
  induction its with
  | nil => intro lo _; exact .nil
  | cons x xs ih =>
   intro lo hh
   have e : rngV lo (x :: xs).length = V.int lo :: rngV (lo + 1) xs.length := by
    unfold rngV
    rw [List.length_cons, List.range_succ_eq_map, List.map_cons, List.map_map]
    congr 1
    ·simp
    ·apply List.map_congr_left
     intro a _
     show V.int _ = V.int _
     congr 1
     simp only [Nat.succ_eq_add_one]
     omega
   rw [e]
   refine .cons ?_ (ih (lo + 1) λ j v hv => ?_)
   ·obtain ⟨t, ht⟩ := hh 0 x rfl
    exact ⟨t, by rw [ht]; simp⟩
   ·obtain ⟨t, ht⟩ := hh (j + 1) v (by simpa using hv)
    exact ⟨t, by rw [ht]; congr 1; omega⟩
 have hn : its.length = n := by simpa using h1
 rw [← hn]
 refine key its lo λ j v hv => ?_
 obtain ⟨t, ht⟩ := h2 j v (by simpa using hv)
 exact ⟨t, by rw [ht]; congr 1; omega⟩
theorem list_rng {X : Cx} {pins : List (Addr × Obj)} {σ : St} {H : Hp} {s : Shared} {Q : VK} {lo hi : Int} {t u v : Tok} {tk : Nat} (hc : X.calm = true) (I : Inv X pins σ H s) (h1 : -(2 ^ 62) ≤ lo) (h2 : lo < 2 ^ 62) (h3 : -(2 ^ 62) ≤ hi) (h4 : hi < 2 ^ 62) (h5 : (hi - lo).toNat ≤ 1000000)
  (q : ∀ l, H l = none → Q (.ref l) (upd H l (.lst (rngV lo (hi - lo).toNat)))) : wpAny (model X.prog X.w) X.A (call (.type "list") [.ref s.heap.objs.size]) (EP X pins σ Q) X.xe { s with heap := s.heap.push { cls := .type "range", data := .fields #[.int lo t, .int hi u, .int 1 v] }, toks := tk } := by
 have I1 : Inv X pins σ H { s with heap := s.heap.push { cls := .type "range", data := .fields #[.int lo t, .int hi u, .int 1 v] }, toks := tk } := I.kept λ b o e => Heap.get?_push_of_some _ e
 have hsz : Builtin.Range.rangeSize lo hi 1 = ((hi - lo).toNat : Int) := by rw [rangeSize_one]; split <;> omega
 refine call_list_range (I.ok.hd hc) (IsRange.new ..) (small_one h1 h2 h3 h4) hsz (by omega) λ h' tk' acc' c' kp e it => ?_
 have hv : Vals (rngV lo (hi - lo).toNat) acc'.toList := vals_rng (by simpa using it)
 have hl : (rngV lo (hi - lo).toNat).length = (hi - lo).toNat := by simp [rngV]
 exact ⟨.ref _, _, I1.laid (t' := tk') kp (Nat.le_refl _) (show ObjOk X.prog X.w _ h' _ (.lst _) from ⟨by rw [hl]; exact big1 h5, acc'.toList, c', hv, by simpa using e⟩), rfl, q _ (I1.hok.fresh (Nat.le_refl _))⟩
theorem pe_lrng1 {X : Cx} {a : Expr} {ta : TA} {p pos p' pos' : Pos} (hc : X.calm = true) (hgl : Gl X "list") (hml : X.mg "list" = none) (hg : Gl X "range") (hm : X.mg "range" = none) (ha : PA X [a] ta) (hs : noStar a = true) :
  PE X (.Call (.Name "list" p) [.Call (.Name "range" p') [a] [] pos'] [] pos) (λ σ H Q => ta σ H λ vs H1 => ∃ j : Int, vs = [.int j] ∧ (-(2 ^ 62) ≤ j ∧ j < 2 ^ 62 ∧ j.toNat ≤ 1000000) ∧ ∀ l, H1 l = none → Q (.ref l) (upd H1 l (.lst (rngV 0 j.toNat)))) := by
 intro pins s σ H Q I h
 refine wpAny_Call_Name_kw (ld_blt I hgl hml (boot_ty .list) ?_ (by decide) (by decide))
 refine PyProof.Rows.callWith_type1 ?_ (star_cons rfl) rfl
 rw [star_cons rfl]
 show wpAny _ _ (spliced ((false, eval _ X.env) :: backTo pos (starEach [] X.env))) _ _ s
 refine Calls.spliced_cons (Call_ (ld_blt I hg hm boot_range (PyProof.Rows.callWith_type1 (thn (ha pos' pins s σ H _ I h) λ us s1 ⟨vs, H1, I1, r1, q1⟩ => ?_) (star_cons hs) rfl)))
 obtain ⟨j, e, ⟨q1, q2, q3⟩, q⟩ := q1
 subst e
 cases r1 with
 | cons r rr =>
  cases rr
  obtain ⟨t, rfl⟩ := r
  exact call_range_1 (Calls.spliced_nil (list_rng hc I1 (by omega) (by omega) q1 q2 (by simpa using q3) (by simpa using q)))
end L3
namespace L3
open PySem PySem.Spec PyProof.Rows L2
def lR1 : List D → R (List D)
 | [.int j] => if (-(2 ^ 62) ≤ j ∧ j < 2 ^ 62) ∧ j.toNat ≤ 1000000 then .ok (rngD 0 j) else .stuck
 | _ => .stuck
theorem dens_rng {Z : Zx} {G : Hp} {lo : Int} {n : Nat} : Dens Z G (rngV lo n) ((List.range n).map λ i => D.int (lo + (i : Nat))) := by
 unfold rngV
 generalize List.range n = l
 induction l with
 | nil => simp only [List.map_nil]; unfold Dens; trivial
 | cons a l ih =>
  simp only [List.map_cons]
  unfold Dens
  exact ⟨by unfold Den; rfl, ih⟩
section
variable {κ : Nat → Addr} {B : Gd} {X : Cx} {a b : Expr} {fs : Ev → R (List D)} {p pos p' pos' : Pos}
theorem pxf_lrng1 (hc : X.calm = true) (hgl : Gl X "list") (hml : X.mg "list" = none) (hg : Gl X "range") (hm : X.mg "range" = none) (ha : PXs κ B X [a] fs) (h : noStar a = true) : PXf κ B X (.Call (.Name "list" p) [.Call (.Name "range" p') [a] [] pos'] [] pos) (λ δ => (fs δ).bind lR1) := λ pins σ Ex =>
 pe_imp (pe_lrng1 (X := At X pins σ Ex) hc hgl hml hg hm (ha pins σ Ex) h) λ τ H Q ⟨G, δ, rp, q⟩ => ⟨G, δ, rp, by
  dsimp only at q
  cases e : fs δ with
  | exc c => rw [e] at q; exact q
  | stuck => rw [e] at q; exact q
  | ok d =>
   rw [e] at q
   intro v H1 G1 e1 d1
   have q1 := fOut.pre e1 q
   change fOut X κ (EX X pins σ Ex) G1 H1 (lR1 d) Q at q1
   unfold lR1 at q1
   split at q1
   ·rename_i j
    split at q1
    ·rename_i hj
     refine ⟨j, dens_int1 d1, ⟨hj.1.1, hj.1.2, hj.2⟩, λ l hl => q1 l _ _ G1 (ext_own e1.GH hl) upd_same (e1.GH.free hl) hl ?_⟩
     have := dens_rng (Z := ⟨X.K, κ⟩) (G := G1) (lo := 0) (n := j.toNat)
     simpa [rngD] using this
    ·exact False.elim q1
   ·exact False.elim q1⟩
end
end L3
namespace L3
open PySem PySem.Spec PyProof.Rows L2
theorem Dens.rev {Z : Zx} {G : Hp} : ∀ {vs : List V} {ds : List D}, Dens Z G vs ds → Dens Z G vs.reverse ds.reverse := by
 intro vs
 induction vs with
 | nil => intro ds h; cases ds with
  | nil => exact h
  | cons _ _ => unfold Dens at h; exact h.elim
 | cons v vs ih => intro ds h; cases ds with
  | nil => unfold Dens at h; exact h.elim
  | cons d ds =>
   unfold Dens at h
   rw [List.reverse_cons, List.reverse_cons]
   exact (ih h.2).append (dens_cons h.1 dens_nil)
def zRev (i : Nat) : Ev → SR := λ δ => match δ[i]? with
 | some (some (.ow ds)) => .next (δ.set i (some (.ow ds.reverse)))
 | _ => .stuck
section
variable {κ : Nat → Addr} {B : Gd} {X : Cx} {pos pos' pos'' apos : Pos}
theorem pz_reverse (cx : Cxo X) {i : Nat} {x : Str} (hN : X.N[i]? = some x) (hv : Vis X.env.scope x) (hd : (x == ("__debug__" : Str)) = false) (hcd : (x == ("__classdict__" : Str)) = false) (hline : (apos.endLine == pos'.line) = true) :
  PZ κ B X (.Expr (.Call (.Attribute (.Name x pos) "reverse" apos) [] [] pos') pos'') (zRev i) := λ Ex pins s σ H G δ Dn hp I rp q => by
 unfold zRev at q
 split at q
 ·rename_i ds ed
  obtain ⟨a, vs, x1, x2, x3, x4, x5⟩ := rp.ow i ds ed
  have pe := pe_bm0 (X := At X pins σ Ex) PySem.F.plainAttrs_list PySem.F.slot_list_reverse PySem.F.type_list_reverse mt_reverse (pe_var (X := At X pins σ Ex) (pos := pos) hN hv hd hcd) rfl hline
  refine wpAny_Expr_any (thn (pe pins s σ H (λ _ H' => ∃ G' δ', Rep ⟨X.K, κ⟩ B X.H₀ G' H' σ δ' ∧ SPost κ B X Ex pins Dn (.next δ')) (inv_at I) ⟨.ref a, x1, .inl ⟨rfl, vs, SqL.of x2⟩, ?_⟩) λ v s1 ⟨y, H', I', r, G', δ', rp', q⟩ => ⟨σ, H', inv_unat cx.sg I', q σ H' G' rp'⟩) I.quiet (swaps_no rfl)
  exact ⟨a, vs, rfl, rfl, x2, G, _, rp.updOw ed x1 (Dens.rev x3), q⟩
 ·exact False.elim q
end
end L3
namespace L3
open PySem PySem.Spec PyProof.Rows L2
theorem vals_ints {ns : List Int} {its : List Value} (r : Vals (ns.map V.int) its) : ∀ (i : Nat) (v : Value), its.toArray[i]? = some v → ∃ t, v = .int (ns.getD i 0) t := by
 intro i v h
 rw [List.getElem?_toArray] at h
 induction ns generalizing its i with
 | nil => cases its with
  | nil => simp at h
  | cons _ _ => cases r
 | cons n ns ih => cases its with
  | nil => simp at h
  | cons u us =>
   cases r with
   | cons hu t =>
    cases i with
    | zero =>
     obtain ⟨k, hk⟩ : ∃ k, u = Value.int n k := hu
     have e : u = v := by simpa using h
     exact ⟨k, by rw [← e, hk]; rfl⟩
    | succ i =>
     obtain ⟨k, hk⟩ := ih t i (by simpa using h)
     exact ⟨k, by rw [hk]; rfl⟩
def intsD : List D → Option (List Int)
 | [] => some []
 | .int b :: ds => (intsD ds).map (b :: ·)
 | _ => none
theorem dens_intsD {K} {G : Hp} {vs : List V} {ds : List D} {bs : List Int} (h : Dens K G vs ds) (e : intsD ds = some bs) : vs = bs.map V.int := by
 induction ds generalizing vs bs with
 | nil => cases e; cases vs with
  | nil => rfl
  | cons _ _ => cases h
 | cons d ds ih =>
  cases d with
  | int b =>
   cases e1 : intsD ds with
   | none => simp [intsD, e1] at e
   | some bs1 =>
    have e2 : bs = b :: bs1 := by simpa [intsD, e1] using e.symm
    subst e2
    cases vs with
    | nil => cases h
    | cons v vs =>
     obtain ⟨h1, h2⟩ : Den K G v (.int b) ∧ Dens K G vs ds := by
      first | exact h | (cases h; constructor <;> assumption)
     unfold Den at h1
     subst h1
     rw [ih h2 e1]; rfl
  | _ => simp [intsD] at e
section
variable {κ : Nat → Addr} {B : Gd} {X : Cx} {a b : Expr} {fa fb : Ev → R D} {p pos : Pos}
end
end L3
namespace L3
open PySem PySem.Spec PyProof.Rows L2
def Itv (K : PySem.W.Frag) (a : Addr) (n : Nat) : It :=
 ⟨λ i H => i < n ∧ ∃ xs, SqL K H a xs ∧ xs.length = n, λ i H x H' => H' = H ∧ ∀ xs, SqL K H a xs → xs[n - 1 - i]? = some x, λ i H => n ≤ i⟩
theorem turn_rev {P : Program} {w : World} {K : PySem.W.Frag} {tg : Expr} (a it : Addr) (n : Nat) : Turn P w K tg (Itv K a n) [it] it (λ i h => i ≤ n ∧ h.IsRevIter it a ((n : Int) - 1 - (i : Nat))) where
 mem := by simp
 obj := λ i h st b hb => by
  have e : b = it := by simpa using hb
  subst e
  obtain ⟨_, o, e, c, d⟩ := st
  exact ⟨o, e, λ v z => by rw [d] at z; cases z⟩
 keep := λ i h h' st k => ⟨st.1, st.2.at λ o e => k it (by simp) o e⟩
 item := by
  intro X hP hw hK hc i pins s σ H E I hf st hg
  subst hP hw hK
  obtain ⟨hi, xs, hq, hn⟩ := hg
  obtain ⟨its, rv, p, hz⟩ := I.list hq
  have hx : xs[n - 1 - i]? = some (xs[n - 1 - i]'(by omega)) := List.getElem?_eq_getElem (by omega)
  obtain ⟨u, hu, ru⟩ := rv.get hx
  obtain ⟨f0, f1, f2, f3, f4, f5⟩ := hf it (by simp)
  have hit := st.2
  have e : (n : Int) - 1 - (i : Nat) = ((n - 1 - i : Nat) : Int) := by omega
  rw [e] at hit
  refine wpAny_pyNext_rev_item hit p.isList (x := u) (by simpa using hu) λ h' st' sb => ?_
  have e2 : ((n - 1 - i : Nat) : Int) - 1 = (n : Int) - 1 - ((i + 1 : Nat) : Nat) := by omega
  rw [e2] at st'
  have I1 : Inv X pins σ H { s with heap := h' } := I.turned (t' := s.toks) (λ b o hb e => (sb.2 b hb).trans e) f0 f1 f3 f4 f5
  obtain ⟨o, e, c, d⟩ := id st'
  exact ⟨u, rfl, go_of (s := { s with heap := h' }) e c d (by decide) ⟨_, H, I1, ru, ⟨rfl, λ ys hy => by rw [I.list_inj hy hq]; exact hx⟩, ⟨hi, st'⟩, λ b hb => (hf b hb).1⟩⟩
 done := by
  intro X hP hw hK hc i pins s σ H E I hf st hg
  subst hP hw hK
  have hg' : n ≤ i := hg
  obtain ⟨f0, f1, f2, f3, f4, f5⟩ := hf it (by simp)
  have hit := st.2
  have e : (n : Int) - 1 - (i : Nat) = -1 := by have := st.1; omega
  rw [e] at hit
  exact wpAny_pyNext_rev_end (I.ok.hd hc) hit λ h' eb => ⟨rfl, I.turned (t' := s.toks) (λ b o hb e => eb b o hb e) f0 f1 f3 f4 f5⟩
 self := λ _ _ _ _ _ st h => wpAny_pyIter_revIter st.2 h
def iRev (K : PySem.W.Frag) (ta : TA) : TI := λ σ H R => ta σ H λ vs H1 => ∃ a xs, vs = [.ref a] ∧ SqL K H1 a xs ∧ R (Itv K a xs.length) H1
theorem pi_rev {X : Cx} {tg a : Expr} {ta : TA} {p pos : Pos} (hg : Gl X "reversed") (hm : X.mg "reversed" = none) (ha : PA X [a] ta) (hs : noStar a = true) : PI X tg (.Call (.Name "reversed" p) [a] [] pos) (iRev X.K ta) := by
 intro pins s σ H R I h
 refine Call_ (ld_blt I hg hm boot_reversed (PyProof.Rows.callWith_type1 (thn (ha pos pins s σ H _ I h) λ us s1 ⟨vs, H1, I1, r1, q1⟩ => ?_) (star_cons hs) rfl))
 obtain ⟨l, xs, e, hq, q⟩ := q1
 subst e
 obtain ⟨u, rfl, rx⟩ := vals1 r1
 cases rx
 obtain ⟨its, rv, pl, hz⟩ := I1.list hq
 have hl := rv.length
 refine call_reversed_list pl.isList ?_
 have hit : (s1.heap.push (revObj l ((its.toArray.size : Int) - 1))).IsRevIter s1.heap.objs.size l ((xs.length : Int) - 1 - ((0 : Nat) : Nat)) := by
  refine ⟨_, Heap.get?_push_size _ rfl, rfl, ?_⟩
  show Data.fields _ = _
  rw [List.size_toArray, ← hl]
  simp
 refine wpAny_pyIter_revIter (i := (xs.length : Int) - 1 - ((0 : Nat) : Nat)) hit ?_
 refine ⟨s1.heap.objs.size, [s1.heap.objs.size], _, _, H1, rfl, I1.kept (t' := s1.toks) λ b o e => Heap.get?_push_of_some _ e, turn_rev l _ xs.length, ⟨Nat.zero_le _, hit⟩, λ b hb => ?_, q⟩
 have e : b = s1.heap.objs.size := by simpa using hb
 subst e
 exact I1.fpOk (Nat.le_refl _) (I1.hok.fresh (Nat.le_refl _))
end L3
namespace L3
open PySem PySem.Spec PyProof.Rows L2
def revD : D → R (List D)
 | .lst ds => .ok ds.reverse
 | _ => .stuck
section
variable {κ : Nat → Addr} {B : Gd} {X : Cx} {e tg : Expr} {f : Ev → R D} {p pos : Pos}
theorem isIt_rev {G : Hp} {a : Addr} {vs : List V} {ds : List D} (h : SqL X.K G a vs) (d : Dens ⟨X.K, κ⟩ G vs ds) : IsIt X κ (Itv X.K a vs.length) G ds.reverse := by
 refine ⟨vs.reverse, Dens.rev d, λ H' s i => ⟨λ hi => ⟨?_, λ x H'' y => ?_⟩, λ hi => ?_⟩⟩
 ·rw [List.length_reverse] at hi
  exact ⟨hi, vs, s.seq h, rfl⟩
 ·rw [List.length_reverse] at hi
  obtain ⟨y1, y2⟩ := y
  refine ⟨y1, ?_⟩
  rw [List.getElem?_reverse hi]
  exact y2 vs (s.seq h)
 ·rw [List.length_reverse] at hi
  exact hi
theorem piz_rev (hg : Gl X "reversed") (hm : X.mg "reversed" = none) (h : PX κ B X e f) (hs : noStar e = true) : PIz κ B X tg (.Call (.Name "reversed" p) [e] [] pos) (λ δ => (f δ).bind revD) := λ pins σ Ex =>
 pi_imp (pi_rev (X := At X pins σ Ex) hg hm (pa_cons (X := At X pins σ Ex) (h pins σ Ex) pa_nil (star_cons hs)) hs) λ τ H R ⟨G, δ, rp, q⟩ => ⟨G, δ, rp, q.seq λ x v H1 G1 e1 d1 q1 => by
  cases x with
  | lst ds =>
   unfold dRel Den at d1
   obtain ⟨a, vs, rfl, h1, h2⟩ := d1
   exact ⟨a, vs, rfl, e1.GH.seq h1, q1 _ H1 G1 (Ext.refl e1.GH) (isIt_rev h1 h2)⟩
  | _ => exact False.elim q1⟩
end
end L3
namespace L3
open PySem PySem.Spec PyProof.Rows L2
end L3
namespace L3
open PySem PySem.Spec PyProof.Rows L2
section
variable {κ : Nat → Addr} {B : Gd} {X : Cx} {a : Expr} {fa : Ev → R D} {pos : Pos}
end
end L3
namespace L3
open PySem
theorem below_go (xs : Array Nat) (j : Nat) (hr : ∀ i k : Nat, i < k → k < xs.size → xs.getD i j < xs.getD k j) : ∀ (fuel lo hi : Nat), hi - lo ≤ fuel → lo ≤ hi → hi ≤ xs.size →
  (∀ i, i < lo → xs.getD i j < j) → (∀ i, hi ≤ i → i < xs.size → j ≤ xs.getD i j) →
  (∀ i, i < SetTable.below.go xs j fuel lo hi → xs.getD i j < j) ∧ (∀ i, SetTable.below.go xs j fuel lo hi ≤ i → i < xs.size → j ≤ xs.getD i j) ∧ SetTable.below.go xs j fuel lo hi ≤ xs.size
 | 0, lo, hi, hf, hl, hs, h1, h2 => by
  have : lo = hi := by omega
  subst this
  unfold SetTable.below.go
  exact ⟨h1, h2, hs⟩
 | fuel + 1, lo, hi, hf, hl, hs, h1, h2 => by
  unfold SetTable.below.go
  by_cases c : lo < hi
  ·rw [if_pos c]
   dsimp only
   by_cases d : xs.getD ((lo + hi) / 2) j < j
   ·rw [if_pos d]
    refine below_go xs j hr fuel _ _ (by omega) (by omega) hs (λ i hi' => ?_) h2
    by_cases e : i = (lo + hi) / 2
    ·rw [e]; exact d
    ·have := hr i ((lo + hi) / 2) (by omega) (by omega)
     omega
   ·rw [if_neg d]
    refine below_go xs j hr fuel _ _ (by omega) (by omega) (by omega) h1 λ i hi' hi2 => ?_
    by_cases e : i = (lo + hi) / 2
    ·rw [e]; omega
    ·have := hr ((lo + hi) / 2) i (by omega) hi2
     omega
  ·rw [if_neg c]
   have : lo = hi := by omega
   subst this
   exact ⟨h1, h2, hs⟩
theorem getD_list {xs : Array Nat} {i d : Nat} (h : i < xs.size) : xs.getD i d = xs.toList[i]'(by simpa using h) := by
 simp [Array.getD, h]
theorem ris_get {xs : Array Nat} (h : xs.toList.Pairwise (· < ·)) (j : Nat) : ∀ i k : Nat, i < k → k < xs.size → xs.getD i j < xs.getD k j := by
 intro i k hik hk
 rw [getD_list (by omega), getD_list hk]
 exact List.pairwise_iff_getElem.mp h i k (by simpa using (by omega : i < xs.size)) (by simpa using hk) hik
theorem below_spec {xs : Array Nat} (h : xs.toList.Pairwise (· < ·)) (j : Nat) :
  (∀ i, i < SetTable.below xs j → xs.getD i j < j) ∧ (∀ i, SetTable.below xs j ≤ i → i < xs.size → j ≤ xs.getD i j) ∧ SetTable.below xs j ≤ xs.size := by
 unfold SetTable.below
 exact below_go xs j (ris_get h j) xs.size 0 xs.size (by omega) (by omega) (Nat.le_refl _) (by intro i hi; omega) (by intro i h1 h2; omega)
theorem below_next {xs : Array Nat} (h : xs.toList.Pairwise (· < ·)) {k : Nat} (hk : k < xs.size) : SetTable.below xs (xs.getD k 0 + 1) = k + 1 := by
 obtain ⟨h1, h2, h3⟩ := below_spec h (xs.getD k 0 + 1)
 have g : ∀ d d' i, i < xs.size → xs.getD i d = xs.getD i d' := λ d d' i hi => by rw [getD_list hi, getD_list hi]
 apply Nat.le_antisymm
 ·apply Nat.le_of_not_lt
  intro c
  have := h1 (k + 1) c
  have h4 := ris_get h 0 k (k + 1) (by omega) (by omega)
  rw [g (xs.getD k 0 + 1) 0 (k + 1) (by omega)] at this
  omega
 ·apply Nat.le_of_not_lt
  intro c
  have := h2 k (by omega) hk
  rw [g (xs.getD k 0 + 1) 0 k hk] at this
  omega
theorem below_zero {xs : Array Nat} (h : xs.toList.Pairwise (· < ·)) : SetTable.below xs 0 = 0 := by
 obtain ⟨h1, _, _⟩ := below_spec h 0
 apply Nat.eq_zero_of_not_pos
 intro c
 have := h1 0 c
 omega
def TOk (bt : Bool) (t : SetTable) : Prop := t.dummies = #[] ∧ t.place.toList.Pairwise (· < ·) ∧ (bt = true ∨ t.led = true)
theorem tok_fresh (bt : Bool) : TOk bt (.fresh 0 0 (!bt)) := ⟨rfl, List.Pairwise.nil, by cases bt <;> simp [SetTable.fresh]⟩
theorem slot_nd {t : SetTable} (h : t.dummies = #[]) (j : Nat) : t.slot j ≠ .dummy := by
 unfold SetTable.slot
 have : SetTable.has t.dummies j = false := by rw [h]; simp [SetTable.has, SetTable.below, SetTable.below.go]
 rw [this]
 dsimp only
 split
 ·simp
 ·simp
theorem probe_go {t : SetTable} (hd : t.dummies = #[]) (ha : Nat → Int) (h : Int) : ∀ (fuel : Nat) (p : SetTable.Probe) (j : Nat) (d : Option Nat), p.dummy = none → SetTable.probe.go t ha h fuel p = some (.empty j d) → t.slot j = .empty ∧ d = none
 | 0, p, j, d, _, e => by unfold SetTable.probe.go at e; cases e
 | fuel + 1, p, j, d, hp, e => by
  unfold SetTable.probe.go at e
  split at e
  ·rename_i q
   cases e
   exact ⟨q, hp⟩
  ·rename_i q
   exact absurd q (slot_nd hd _)
  ·split at e
   ·cases e
   ·refine probe_go hd ha h fuel _ j d ?_ e
    unfold SetTable.advance
    split
    ·exact hp
    ·exact hp
theorem free_slot {t : SetTable} (hd : t.dummies = #[]) {h : Int} {j : Nat} {b : Bool} (e : t.freeSlot h = some (j, b)) : t.slot j = .empty ∧ b = false := by
 unfold SetTable.freeSlot at e
 split at e
 ·rename_i j' d q
  unfold SetTable.probe at q
  obtain ⟨h1, h2⟩ := probe_go hd _ _ _ _ _ _ rfl q
  subst h2
  cases e
  exact ⟨h1, rfl⟩
 ·cases e
theorem put_ok {bt : Bool} {t : SetTable} (h : TOk bt t) {j : Nat} (hs : t.slot j = .empty) : TOk bt (t.put j).1 := by
 obtain ⟨h1, h2, h3⟩ := h
 unfold SetTable.put
 dsimp only
 refine ⟨?_, ?_, h3⟩
 ·have : SetTable.has t.dummies j = false := by rw [h1]; simp [SetTable.has, SetTable.below, SetTable.below.go]
  dsimp only
  rw [this]
  exact h1
 ·dsimp only
  rw [SetTable.toList_insertAt]
  obtain ⟨b1, b2, b3⟩ := below_spec h2 j
  have hne : t.place[SetTable.below t.place j]? ≠ some j := by
   intro c
   unfold SetTable.slot at hs
   dsimp only at hs
   rw [c] at hs
   simp at hs
  have hp := h2
  rw [← List.take_append_drop (SetTable.below t.place j) t.place.toList] at hp
  obtain ⟨p1, p2, p3⟩ := List.pairwise_append.mp hp
  refine List.pairwise_append.mpr ⟨p1, List.pairwise_cons.mpr ⟨λ y hy => ?_, p2⟩, λ x hx y hy => ?_⟩
  ·obtain ⟨i, hi, rfl⟩ := List.getElem_of_mem hy
   rw [List.getElem_drop]
   have hlt : SetTable.below t.place j + i < t.place.size := by simp at hi; omega
   have := b2 (SetTable.below t.place j + i) (by omega) hlt
   rw [getD_list hlt] at this
   apply Nat.lt_of_le_of_ne this
   intro e
   cases i with
   | zero =>
    apply hne
    rw [Array.getElem?_eq_getElem (by omega)]
    simp only [Nat.add_zero] at e
    exact congrArg some e.symm
   | succ i =>
    have h5 := ris_get h2 j (SetTable.below t.place j) (SetTable.below t.place j + (i + 1)) (by omega) hlt
    have h6 := b2 (SetTable.below t.place j) (Nat.le_refl _) (by omega)
    rw [getD_list (xs := t.place) (i := SetTable.below t.place j + (i + 1)) hlt] at h5
    omega
  ·have lt : x < j := by
    obtain ⟨i, hi, rfl⟩ := List.getElem_of_mem hx
    rw [List.getElem_take]
    have hi' : i < SetTable.below t.place j := by simp at hi; omega
    have hlt : i < t.place.size := by omega
    have := b1 i hi'
    rwa [getD_list hlt] at this
   rcases List.mem_cons.mp hy with rfl | hy
   ·exact lt
   ·exact p3 x hx y hy
theorem stand_ok {bt : Bool} {t : SetTable} (h : TOk bt t) (n : Nat) : TOk bt (t.standIn n) := by
 refine ⟨rfl, ?_, h.2.2⟩
 unfold SetTable.standIn
 simpa using List.pairwise_lt_range (n := n)
theorem orStand_ok {bt : Bool} {t : SetTable} (h : TOk bt t) (n : Nat) : TOk bt (t.orStandIn n) := by
 unfold SetTable.orStandIn
 split
 ·exact h
 ·exact stand_ok h n
theorem layNew_ok {bt : Bool} {t : SetTable} (h : TOk bt t) (es : Array (Int × Value)) (k : Int) (x : Value) : TOk bt (layNew t es k x).2.1 := by
 unfold layNew
 split
 ·rename_i j b e
  exact orStand_ok (put_ok h (free_slot h.1 e).1) _
 ·exact stand_ok h _
theorem fm_rng {α : Type} (f : Nat → Option α) : ∀ l : List Nat, l.Pairwise (· < ·) → ((l.filterMap λ j => (f j).map (j, ·)).map (·.1)).Pairwise (· < ·) ∧ ∀ y ∈ (l.filterMap λ j => (f j).map (j, ·)).map (·.1), y ∈ l
 | [], _ => ⟨List.Pairwise.nil, by simp⟩
 | a :: l, h => by
  obtain ⟨h1, h2⟩ := List.pairwise_cons.mp h
  obtain ⟨i1, i2⟩ := fm_rng f l h2
  cases e : f a with
  | none =>
   rw [List.filterMap_cons_none (by simp [e])]
   exact ⟨i1, λ y hy => List.mem_cons_of_mem _ (i2 y hy)⟩
  | some b =>
   rw [List.filterMap_cons_some (b := (a, b)) (by simp [e])]
   refine ⟨List.pairwise_cons.mpr ⟨λ y hy => h1 y (i2 y hy), i1⟩, λ y hy => ?_⟩
   rcases List.mem_cons.mp hy with rfl | hy
   ·exact List.mem_cons_self
   ·exact List.mem_cons_of_mem _ (i2 y hy)
theorem relay_ok {bt : Bool} {t : SetTable} (h : TOk bt t) (es : Array (Int × Value)) (n : Nat) : TOk bt (relayAll t es n).2.1 := by
 unfold relayAll
 split
 ·rename_i t' order e
  dsimp only
  split
  ·unfold SetTable.relaid SetTable.laid at e
   simp only [Option.bind_eq_bind, Option.bind_eq_some_iff] at e
   obtain ⟨ow, _, e⟩ := e
   simp only [Option.pure_def, Option.some.injEq, Prod.mk.injEq] at e
   obtain ⟨rfl, _⟩ := e
   refine ⟨rfl, ?_, h.2.2⟩
   dsimp only
   exact (fm_rng (λ j => ow.getD j none) _ List.pairwise_lt_range).1
  ·exact stand_ok h _
 ·exact stand_ok h _
theorem pick_go {α : Type} (next : Nat → Nat) : ∀ (fuel k : Nat) (left : List α) (out : Array α), left.length = fuel → (pickOrder.go next fuel k left out).toList.Perm (out.toList ++ left)
 | 0, k, left, out, h => by
  have : left = [] := List.eq_nil_of_length_eq_zero h
  subst this
  unfold pickOrder.go
  simp
 | fuel + 1, k, left, out, h => by
  unfold pickOrder.go
  have hlt : next k % left.length < left.length := Nat.mod_lt _ (by omega)
  rw [List.getElem?_eq_getElem hlt]
  dsimp only
  refine (pick_go next fuel (k + 1) _ _ (by rw [List.length_eraseIdx_of_lt hlt]; omega)).trans ?_
  rw [Array.toList_push, List.append_assoc]
  refine List.Perm.append_left _ ?_
  have e := List.eraseIdx_eq_take_drop_succ left (next k % left.length)
  rw [e]
  have e2 : left = left.take (next k % left.length) ++ left[next k % left.length] :: left.drop (next k % left.length + 1) := by
   rw [← List.drop_eq_getElem_cons hlt, List.take_append_drop]
  conv => rhs; rw [e2]
  rw [List.singleton_append]
  exact List.perm_middle.symm
theorem pick_perm {α : Type} (next : Nat → Nat) (xs : Array α) : (pickOrder next xs).toList.Perm xs.toList := by
 unfold pickOrder
 have := pick_go next xs.size 0 xs.toList #[] (by simp)
 simpa using this
end L3
namespace L3
open PySem PySem.Spec PyProof.Rows
abbrev bytx (w : World) : Bool := w.params.followText "set-order"
structure SX (prog : Program) (w : World) (o : Obj) (es : Array (Int × Value)) (ep : Nat) (t : SetTable) : Prop where
 ex : o.ExactSet
 dat : o.data = .set es ep t
 el : ElemsOf (intKind prog w) es.toList
 fit : t.fits es.size = true
 tab : TOk (bytx w) t
def ik : Value → Int
 | .int i _ => i
 | _ => 0
def kys (es : List (Int × Value)) : List Int := es.map λ e => ik e.2
section
variable {prog : Program} {w : World} {A : Around} {E : Value → Shared → Prop} {s : Shared}
theorem el_int {l : List (Int × Value)} (h : ElemsOf (intKind prog w) l) {e : Int × Value} (he : e ∈ l) : ∃ t, e.2 = .int (ik e.2) t := by
 obtain ⟨⟨k, hk, _⟩, _⟩ := h e he
 obtain ⟨t, ht⟩ := Value.isInt_shape hk
 exact ⟨t, by rw [ht]; rfl⟩
theorem is_iff {l : List (Int × Value)} (h : ElemsOf (intKind prog w) l) {e : Int × Value} (he : e ∈ l) (k : Int) : (intKind prog w).is k e.2 = decide (k = ik e.2) := by
 obtain ⟨t, ht⟩ := el_int h he
 have : (intKind prog w).is (ik e.2) e.2 = true := by rw [ht]; exact intKind_is _ _ _ _
 exact KeyKind.is_eq_decide this k
theorem find_some {l : List (Int × Value)} (h : ElemsOf (intKind prog w) l) {k : Int} {j : Nat} (e : l.findIdx? (λ e => (intKind prog w).is k e.2) = some j) : k ∈ kys l := by
 obtain ⟨hj, hp, _⟩ := List.findIdx?_eq_some_iff_getElem.mp e
 rw [is_iff h (List.getElem_mem hj)] at hp
 exact List.mem_map.mpr ⟨_, List.getElem_mem hj, (of_decide_eq_true hp).symm⟩
theorem find_none {l : List (Int × Value)} (h : ElemsOf (intKind prog w) l) {k : Int} (e : l.findIdx? (λ e => (intKind prog w).is k e.2) = none) : ¬ k ∈ kys l := by
 intro c
 obtain ⟨x, hx, hk⟩ := List.mem_map.mp c
 have := List.findIdx?_eq_none_iff.mp e x hx
 rw [is_iff h hx, hk] at this
 simp at this
theorem SX.kept {o : Obj} {es : Array (Int × Value)} {ep : Nat} {t : SetTable} {es' : Array (Int × Value)} {t' : SetTable} (h : SX prog w o es ep t) (h1 : ElemsOf (intKind prog w) es'.toList) (h2 : t'.fits es'.size = true) (h3 : TOk (bytx w) t') :
  SX prog w { o with data := .set es' (ep + 1) t' } es' (ep + 1) t' := ⟨h.ex, rfl, h1, h2, h3⟩
theorem upd_at {h : Heap} {a : Addr} {o : Obj} {es : Array (Int × Value)} {ep : Nat} {t : SetTable} (ho : h.get? a = some o) (hd : o.data = .set es ep t) (es' : Array (Int × Value)) (t' : SetTable) :
  (h.update a (Obj.putSet es' t')).get? a = some { o with data := .set es' (ep + 1) t' } := by
 have q := Heap.get?_update_self (Obj.putSet es' t') ho (by rw [putSet_of es' t' hd]; rfl)
 rwa [putSet_of es' t' hd] at q
theorem add_int {a : Addr} {o : Obj} {es : Array (Int × Value)} {ep : Nat} {t : SetTable} {k : Int} {tk : Tok} {Q : Bool → Shared → Prop} (ho : s.heap.get? a = some o) (hx : SX prog w o es ep t) (hb : es.size + 1 < scanBound)
  (h1 : k ∈ kys es.toList → Q false s)
  (h2 : ∀ h' o' es' ep' t', ¬ k ∈ kys es.toList → Heap.SameBut a s.heap h' → h'.get? a = some o' → SX prog w o' es' ep' t' → (kys es'.toList).Perm (kys es.toList ++ [k]) → Q true { s with heap := h' }) :
  wpAny (model prog w) A (setAddHashed a (.int k tk) ((intKind prog w).hash k)) Q E s := by
 have isk : (intKind prog w).is k (.int k tk) = true := intKind_is _ _ _ _
 unfold setAddHashed setAddHashedIn
 refine wpAny_holding (wpAny_bind (wpAny_setState_of ho hx.dat hx.fit ?_))
 dsimp only
 rw [byScan_of (knd := intKind prog w) (x := .int k tk) rfl (by omega) hx.el, if_pos rfl]
 unfold setAddByScan
 refine wpAny_bind (wpAny_bind (wpAny_rule (wpAny_bind (wpAny_setScan_of isk ho hx.dat hx.fit hx.el ?_))))
 cases f : es.toList.findIdx? (λ e => (intKind prog w).is k e.2) with
 | some j => exact wpAny_pure (wpAny_pure (h1 (find_some hx.el f)))
 | none =>
  dsimp only
  have quietly : ∀ (b : Bool) {s₁ : Shared} {Q' : Unit → Shared → Prop}, Q' () s₁ → wpAny (model prog w) A (match b with | true => rule "set.scan.the-table-gave-way" | false => pure ()) Q' E s₁ :=
   λ b s₁ Q' z => by cases b <;> first | exact wpAny_pure z | exact wpAny_rule z
  have nk := find_none hx.el f
  have pm := layNew_perm t es ((intKind prog w).hash k) (.int k tk)
  have ft := layNew_fits t es ((intKind prog w).hash k) (.int k tk)
  have tb := layNew_ok hx.tab es ((intKind prog w).hash k) (.int k tk)
  generalize layNew t es ((intKind prog w).hash k) (.int k tk) = Z at pm ft tb ⊢
  obtain ⟨es1, t1, wd, gv⟩ := Z
  dsimp only at pm ft tb ⊢
  rw [Array.toList_push] at pm
  have el1 : ElemsOf (intKind prog w) es1.toList := (hx.el.push isk rfl).perm pm
  have sz1 : es1.size < scanBound := by
   have := pm.length_eq
   simp at this
   omega
  have ky1 : (kys es1.toList).Perm (kys es.toList ++ [k]) := by
   have := pm.map (λ e : Int × Value => ik e.2)
   simpa [kys, ik] using this
  have rest : wpAny (model prog w) A (do
    storeSet a es1 t1
    if (!wd && t1.tooFull) = true then do
      (match (relayAll t1 es1 (SetTable.grown es1.size)).2.2 with | true => rule "set.scan.the-table-gave-way" | false => pure ())
      storeSet a (relayAll t1 es1 (SetTable.grown es1.size)).1 (relayAll t1 es1 (SetTable.grown es1.size)).2.1
      pure (some true)
     else pure (some true)) (λ r s' => r = some true ∧ Q true s') E s := by
   refine wpAny_bind (wpAny_storeSet_of ho hx.dat ?_ (fits_of_scanBound sz1))
   have o1 := upd_at ho hx.dat es1 t1
   have x1 := hx.kept el1 ft tb
   have b1 := Heap.SameBut.update s.heap a (Obj.putSet es1 t1)
   split
   ·have pm2 := relayAll_perm t1 es1 (SetTable.grown es1.size)
    have ft2 := relayAll_fits t1 es1 (SetTable.grown es1.size)
    have tb2 := relay_ok tb es1 (SetTable.grown es1.size)
    generalize relayAll t1 es1 (SetTable.grown es1.size) = Y at pm2 ft2 tb2 ⊢
    obtain ⟨es2, t2, g2⟩ := Y
    dsimp only at pm2 ft2 tb2 ⊢
    have sz2 : es2.size < scanBound := by
     have := pm2.length_eq
     simp at this
     omega
    refine wpAny_bind (quietly _ (wpAny_bind (wpAny_storeSet_of o1 rfl ?_ (fits_of_scanBound sz2))))
    refine wpAny_pure ⟨rfl, h2 _ _ _ _ _ nk (b1.trans (Heap.SameBut.update _ a _)) (upd_at o1 rfl es2 t2) (x1.kept (el1.perm pm2) ft2 tb2) ?_⟩
    exact (pm2.map (λ e : Int × Value => ik e.2)).trans ky1
   ·exact wpAny_pure ⟨rfl, h2 _ _ _ _ _ nk b1 o1 x1 ky1⟩
  refine wpAny_bind (quietly _ ?_)
  split
  ·refine wpAny_bind ?_
   rw [hashByValue_scannable 8 (x := .int k tk) rfl]
   refine wpAny_pure ?_
   simp only [plainKind, if_true]
   refine wpAny_mono rest (λ r s' z => ?_) λ _ _ z => z
   obtain ⟨rfl, z⟩ := z
   exact wpAny_pure z
  ·refine wpAny_bind (wpAny_pure ?_)
   simp only [if_true]
   refine wpAny_mono rest (λ r s' z => ?_) λ _ _ z => z
   obtain ⟨rfl, z⟩ := z
   exact wpAny_pure z
theorem upd_loop {R : Result → Shared → Prop} {I : Addr} {fp wr : List Addr} {G : Array GenState → Array GenState → Prop} {n : Nat} {P : Nat → Value → Prop} {St : Nat → Shared → Prop} (W : WalksS prog w A.in1 I fp wr G n P St) (S : Addr) (hSf : S ∉ fp)
  (ns : List Int) (hn : ns.length = n) (hv : ∀ i v, P i v → ∃ t, v = .int (ns.getD i 0) t) (hb : ∀ ks : List Int, ks.Nodup → (∀ x ∈ ks, x ∈ ns) → ks.length + 1 < scanBound) :
  ∀ (k i : Nat) (s : Shared) (o : Obj) (es : Array (Int × Value)) (ep : Nat) (t : SetTable), n - i = k → i ≤ n → St i s → s.heap.get? S = some o → SX prog w o es ep t → (kys es.toList).Nodup → (∀ x, x ∈ kys es.toList ↔ x ∈ ns.take i) →
   (∀ s' o' es' ep' t', Moved (S :: wr) G s s' → s'.heap.get? S = some o' → SX prog w o' es' ep' t' → (kys es'.toList).Nodup → (∀ x, x ∈ kys es'.toList ↔ x ∈ ns) → R (.ok (.ret .none)) s') →
   codeAny (model prog w) A (.builtin "set.update.loop" ⟨[.ref S, .ref I], []⟩) R s
 | 0, i, s, o, es, ep, t, hk, hi, st, ho, hx, nd, mm, hR => by
  have e : i = n := by omega
  subst e
  have hSw : S ∉ wr := λ h => hSf (W.sub _ h)
  refine codeAny_builtin F.entry_set_update_loop ?_
  rw [Around.under_plainId F.plain_set_update_loop _]
  refine wpAny_bind (W.done s _ _ st λ s' hm => ?_)
  refine wpAny_pure (hR s' o es ep t (hm.mono λ b hb => List.mem_cons_of_mem _ hb) (hm.heap S _ hSw ho) hx nd λ x => ?_)
  rw [mm x, ← hn, List.take_length]
 | k + 1, i, s, o, es, ep, t, hk, hi, st, ho, hx, nd, mm, hR => by
  have lt : i < n := by omega
  have hSw : S ∉ wr := λ h => hSf (W.sub _ h)
  have hsub : ∀ b ∈ wr, b ∈ S :: wr := λ b hb => List.mem_cons_of_mem _ hb
  refine codeAny_builtin F.entry_set_update_loop ?_
  rw [Around.under_plainId F.plain_set_update_loop _]
  refine wpAny_bind (W.item i s _ _ lt st λ v s' hP st' hm => ?_)
  obtain ⟨tk, rfl⟩ := hv i v hP
  have gi : ns[i]? = some (ns.getD i 0) := by rw [List.getD_eq_getElem?_getD, List.getElem?_eq_getElem (by omega)]; rfl
  have tk1 : ∀ x, x ∈ ns.take (i + 1) ↔ x ∈ ns.take i ∨ x = ns.getD i 0 := λ x => by rw [List.take_add_one, gi]; simp
  have ho' := hm.heap S _ hSw ho
  have cnt : es.size + 1 < scanBound := by
   have := hb _ nd λ x hx => List.mem_of_mem_take ((mm x).mp hx)
   simpa [kys] using this
  show wpAny _ A.in1 (holding [Value.int (ns.getD i 0) tk] (setAdd S (.int (ns.getD i 0) tk)) >>= _) _ _ s'
  refine wpAny_bind (wpAny_holding ?_)
  unfold setAdd
  refine wpAny_holding (wpAny_bind ((intKind prog w).pyHash (k := ns.getD i 0) (intKind_is _ _ _ _) ?_))
  refine add_int (s := { s' with toks := s'.toks + 1 }) ho' hx cnt (λ hin => ?_) λ h' o' es' ep' t' hnin sb ho2 hx2 pm => ?_
  ·refine wpAny_pure ⟨plainId_quiet F.plain_set_update_loop _, upd_loop W S hSf ns hn hv hb k (i + 1) _ o es ep t (by omega) lt (W.frame _ s' _ _ st' (Nat.le_succ _) λ b _ o e => e) ho' hx nd (λ x => ?_) λ s'' o'' es'' ep'' t'' hm2 a b c d => ?_⟩
   ·rw [tk1, ← mm]
    exact ⟨.inl, λ z => z.elim id λ z => z ▸ hin⟩
   ·exact hR s'' o'' es'' ep'' t'' (Moved.trans W.gtrans ((hm.mono hsub).then_heap (Nat.le_succ _) λ b o _ e => e) hm2) a b c d
  ·refine wpAny_pure ⟨plainId_quiet F.plain_set_update_loop _, upd_loop W S hSf ns hn hv hb k (i + 1) _ o' es' ep' t' (by omega) lt (W.frame _ s' _ _ st' (Nat.le_succ _) λ b hb o e => ?_) ho2 hx2 ?_ (λ x => ?_) λ s'' o'' es'' ep'' t'' hm2 a b c d => ?_⟩
   ·rw [sb.2 b λ h : b = S => hSf (h ▸ hb)]; exact e
   ·refine pm.nodup_iff.mpr (List.nodup_append.mpr ⟨nd, by simp, λ a ha b hb => ?_⟩)
    have : b = ns.getD i 0 := by simpa using hb
    subst this
    rintro rfl
    exact hnin ha
   ·rw [pm.mem_iff, tk1, ← mm, List.mem_append]
    simp
   ·refine hR s'' o'' es'' ep'' t'' (Moved.trans W.gtrans ((hm.mono hsub).then_heap (Nat.le_succ _) λ b o hb e => ?_) hm2) a b c d
    rw [sb.2 b λ h : b = S => hb (h ▸ List.mem_cons_self)]; exact e
abbrev setO (w : World) : Obj := { cls := .type "set", dict := none, data := .set #[] 0 (.fresh 0 0 (!bytx w)) }
theorem sx_new : SX prog w (setO w) #[] 0 (.fresh 0 0 (!bytx w)) := ⟨⟨rfl, rfl, rfl⟩, rfl, λ e he => by simp at he, by rfl, tok_fresh _⟩
theorem set_new (a : Value) {Q₁ : Value → Shared → Prop} (h : Q₁ (.ref s.heap.objs.size) { s with heap := s.heap.push (setO w) }) :
  codeAny (model prog w) A (.call (.builtin "set.__new__") ⟨[.type "set", a], []⟩) (wants Q₁ E) s := by
 refine codeAny_of_tree ?_
 refine wpAny_bind (wpAny_of_eq (F.newCall_set_1 a) (wpAny_pure ⟨plainId_quiet F.plain_set_new _, codeAny_builtin F.entry_set_new ?_⟩))
 rw [Around.under_plainId F.plain_set_new _]
 unfold Builtin.«set.__new__» Builtin.Frozenset.newClass
 have sb := sub_set_self
 obtain ⟨hp, g, d, tk, os⟩ := s
 dsimp only
 wp_walk
 refine wpAny_askSetting (wpAny_pure ?_)
 simp only [newObj]
 exact wpAny_bind (wpAny_alloc (wpAny_pure (wpAny_pure h)))
theorem set_init {l : Addr} {items : Array Value} {ns : List Int} (hh : A.handled = none) (hl : s.heap.IsList l items) (hi : IntsAre items.toList ns)
  (hb : ∀ ks : List Int, ks.Nodup → (∀ x ∈ ks, x ∈ ns) → ks.length + 1 < scanBound) {Q : Value → Shared → Prop}
  (h : ∀ (h' : Heap) (tk : Nat) o es ep t, h'.get? s.heap.objs.size = some o → SX prog w o es ep t → (kys es.toList).Nodup → (∀ x, x ∈ kys es.toList ↔ x ∈ ns) → (∀ b o, b < s.heap.objs.size → s.heap.get? b = some o → h'.get? b = some o) → Q .none { s with heap := h', toks := tk }) :
  codeAny (model prog w) A (.call (.builtin "set.__init__") ⟨[.ref s.heap.objs.size, .ref l], []⟩) (wants Q E) { s with heap := s.heap.push (setO w) } := by
 have hS : (s.heap.push (setO w)).get? s.heap.objs.size = some (setO w) := Heap.get?_push_size _ rfl
 have hT : Shared.TypeIs { s with heap := s.heap.push (setO w) } (.ref s.heap.objs.size) "set" := ⟨_, hS, rfl⟩
 refine codeAny_call_builtin F.called_set.init.plain F.entry_set_init (check_set_init_1 hT ?_)
 obtain ⟨ol, hol, hcl, nl, hdl⟩ := hl
 obtain ⟨c1, c2, c3, c4⟩ := ol
 simp only at hcl hdl
 subst hcl; subst hdl
 have hol' : (s.heap.push (setO w)).get? l = some { cls := .type "list", dict := c2, data := .seq items nl, slots := c4 } := Heap.get?_push_of_some _ hol
 have k1 := F.sub_list_set
 have k2 := F.sub_list_frozenset
 have k3 : (Value.type "list" == Value.type "dict") = false := by decide
 have hl1 : (s.heap.push (setO w)).IsList l items := ⟨_, hol', rfl, nl, rfl⟩
 unfold Builtin.«set.__init__» noKeywords Builtin.Frozenset.updateFrom
 generalize hPI : pyIter = PI
 wp_walk
 subst hPI
 refine wpAny_pyIter_list hl1 (wpAny_bind (wpAny_runValue ?_))
 have lS : l < s.heap.objs.size := Heap.lt_size hol
 have hh3 : A.in1.in1.handled = none := by simp [hh]
 have n1 : l ≠ (s.heap.push (setO w)).objs.size := by rw [Heap.size_push]; exact Nat.ne_of_lt (Nat.lt_succ_of_lt lS)
 have n2 : s.heap.objs.size ∉ [(s.heap.push (setO w)).objs.size, l] := by
  rw [Heap.size_push]
  intro z
  rcases List.mem_cons.mp z with z | z
  ·exact Nat.ne_of_lt (Nat.lt_succ_self _) z
  ·exact Nat.ne_of_gt lS (List.mem_singleton.mp z)
 have ln : ns.length = items.size := by have := IntsAre.length hi; simpa using this.symm
 refine upd_loop ((Walks.list hh3 _ l n1 items).toS) s.heap.objs.size n2 ns ln (λ i v hv => IntsAre.int_at hi i v (by rw [Array.getElem?_toList]; exact hv)) hb items.size 0 _ (setO w) #[] 0 _ (by omega) (Nat.zero_le _)
  ⟨⟨_, Heap.get?_push_size _ rfl, rfl, rfl⟩, hl1.push _⟩ (Heap.get?_push_of_some _ hS) sx_new (by simp [kys]) (by simp [kys]) λ s' o' es' ep' t' hm a1 a2 a3 a4 => ?_
 rw [Moved.eq_with hm]
 refine wpAny_pure (wpAny_pure (h _ _ o' es' ep' t' a1 a2 a3 a4 λ b o hb e => ?_))
 refine hm.heap b o ?_ (Heap.get?_push_of_some _ (Heap.get?_push_of_some _ e))
 rw [Heap.size_push]
 intro z
 rcases List.mem_cons.mp z with z | z
 ·exact Nat.ne_of_lt hb z
 ·exact Nat.ne_of_lt (Nat.lt_succ_of_lt hb) (List.mem_singleton.mp z)
end
end L3
namespace L3
open PySem PySem.Spec PyProof.Rows
section
variable {prog : Program} {w : World} {A : Around} {E : Value → Shared → Prop} {s : Shared}
set_option maxHeartbeats 3200000 in
theorem call_set {l : Addr} {items : Array Value} {ns : List Int} {Q : Value → Shared → Prop} (hh : A.handled = none) (hl : s.heap.IsList l items) (hi : IntsAre items.toList ns)
  (hb : ∀ ks : List Int, ks.Nodup → (∀ x ∈ ks, x ∈ ns) → ks.length + 1 < scanBound)
  (h : ∀ (h' : Heap) (tk : Nat) o es ep t, h'.get? s.heap.objs.size = some o → SX prog w o es ep t → (kys es.toList).Nodup → (∀ x, x ∈ kys es.toList ↔ x ∈ ns) → (∀ b o, b < s.heap.objs.size → s.heap.get? b = some o → h'.get? b = some o) → Q (.ref s.heap.objs.size) { s with heap := h', toks := tk }) :
  wpAny (model prog w) A (call (.type "set") [.ref l]) Q E s := by
 obtain ⟨c, tl, m1⟩ := F.called_set.mro
 have m2 := F.called_set.made
 have m3 := F.called_set.sub
 refine wpAny_call (codeAny_of_tree ?_)
 refine wpAny_pure ⟨Code.quiet_builtin _ (by decide +kernel), codeAny_builtin F.entry_type_call ?_⟩
 rw [Around.under_plain (weight_type_call_type "set" [.ref l] []) rfl]
 have m4 := F.called_set.notType
 have m5 := F.called_set.canCreate
 have m6 := F.typeCall_set_1 (.ref l)
 repeat (any_goals (first | assumption | wp_step))
 refine codeAny_mono (set_new (.ref l) (E := E) (Q₁ := λ v s₁ => v = .ref s.heap.objs.size ∧ s₁ = { s with heap := s.heap.push (setO w) }) ⟨rfl, rfl⟩) λ r s₁ z => ?_
 cases r with
 | error e => exact z
 | ok fl =>
  cases fl with
  | ret obj =>
   obtain ⟨rfl, rfl⟩ := z
   have hT : Shared.TypeIs { s with heap := s.heap.push (setO w) } (.ref s.heap.objs.size) "set" := ⟨_, Heap.get?_push_size _ rfl, rfl⟩
   have n1 := F.called_set.init.lookup
   have n2 := F.called_set.init.bind (.ref s.heap.objs.size)
   repeat (any_goals (first | assumption | wp_step))
   refine codeAny_mono (set_init (E := E) (Q := λ v s₂ => v = .none ∧ ∃ (h' : Heap) (tk : Nat) (o : Obj) (es : Array (Int × Value)) (ep : Nat) (t : SetTable), s₂ = { s with heap := h', toks := tk } ∧ h'.get? s.heap.objs.size = some o ∧ SX prog w o es ep t ∧ (kys es.toList).Nodup ∧ (∀ x, x ∈ kys es.toList ↔ x ∈ ns) ∧ (∀ b o, b < s.heap.objs.size → s.heap.get? b = some o → h'.get? b = some o))
    (by simpa using hh) hl hi hb λ h' tk o es ep t a1 a2 a3 a4 a5 => ⟨rfl, h', tk, o, es, ep, t, rfl, a1, a2, a3, a4, a5⟩) λ r₂ s₂ z₂ => ?_
   cases r₂ with
   | error e => exact z₂
   | ok f₂ =>
    cases f₂ with
    | ret v =>
     obtain ⟨rfl, h', tk, o, es, ep, t, rfl, a1, a2, a3, a4, a5⟩ := z₂
     repeat (any_goals (first | assumption | wp_step))
     exact h h' tk o es ep t a1 a2 a3 a4 a5
    | _ => exact z₂.elim
  | _ => exact z.elim
theorem slot_setit : Slot "set_iterator" "__next__" "set_iterator.__next__" :=
 .of (owner := "set_iterator") (n := "__next__") (by rw [typeLookup_type, builtinLookup_eq_fast]; kernel_rfl) (by decide +kernel) (by decide +kernel) (by decide +kernel)
  (by first | exact .inl (by decide +kernel) | exact .inr (by decide +kernel)) (by rw [isSubtype_type]; kernel_rfl)
theorem entry_setit : entryFor table "set_iterator.__next__" = some Builtin.«set_iterator.__next__» := entryFor_of_tree (by kernel_rfl)
theorem owner_setit : Manifest.owners.lookup (String.ofList ['r', 'o', 't', 'a', 'r', 'e', 't', 'i', '_', 't', 'e', 's'].reverse) = some Manifest.sig_set_iterator := by kernel_rfl
theorem args_setit (a : Value) : argsOk "set_iterator.__next__" ⟨[a], []⟩ := by
 unfold argsOk; rw [signature?_of (id := "set_iterator.__next__") (n := ['_', '_', 't', 'x', 'e', 'n', '_', '_']) (o := ['r', 'o', 't', 'a', 'r', 'e', 't', 'i', '_', 't', 'e', 's']) (by kernel_rfl) owner_setit]; kernel_rfl
theorem entry_iter : entryFor table "set.__iter__" = some Builtin.«frozenset.__iter__» :=
 entryFor_alias (id' := "frozenset.__iter__") (by kernel_rfl) rfl (by decide +kernel) (by kernel_rfl)
def SetIt (h : Heap) (I a : Addr) (first : Value) (i n ep : Nat) : Prop := ∃ o, h.get? I = some o ∧ o.cls = .type "set_iterator" ∧ o.data = .fields #[first, .int i 0, .ref a, .int n 0, .int ep 0]
theorem SetIt.ty {I a : Addr} {f : Value} {i n ep : Nat} (h : SetIt s.heap I a f i n ep) : s.TypeIs (.ref I) "set_iterator" := let ⟨o, ho, hc, _⟩ := h; ⟨o, ho, hc⟩
end
end L3
namespace L3
open PySem PySem.Spec PyProof.Rows
section
variable {prog : Program} {w : World} {A : Around} {E : Value → Shared → Prop} {s : Shared}
theorem choose_any {src : Source} {n : Nat} {Q : Nat → Shared → Prop} (hn : n ≠ 0) (h : ∀ i, i < n → ∀ d, Q i { s with drawn := d }) : wpAny (model prog w) A (choose src n) Q E s :=
 λ _ _ _ => ⟨hn, h _ (Nat.mod_lt _ (Nat.pos_of_ne_zero hn)) _⟩
theorem erase_perm {α : Type} {l : List α} {i : Nat} {x : α} (h : l[i]? = some x) : (x :: l.eraseIdx i).Perm l := by
 obtain ⟨hlt, e⟩ := List.getElem?_eq_some_iff.mp h
 rw [List.eraseIdx_eq_take_drop_succ]
 have e2 : l = l.take i ++ l[i] :: l.drop (i + 1) := by rw [← List.drop_eq_getElem_cons hlt, List.take_append_drop]
 conv => rhs; rw [e2, e]
 exact List.perm_middle.symm
theorem draw_any {α : Type} : ∀ (n : Nat) (xs : List α) (s : Shared) (Q : List α → Shared → Prop), xs.length = n → (∀ ys, ys.Perm xs → ∀ d, Q ys { s with drawn := d }) → wpAny (model prog w) A (drawOrder n xs) Q E s
 | 0, xs, s, Q, hn, h => by
  have : xs = [] := List.eq_nil_of_length_eq_zero hn
  subst this
  unfold drawOrder
  exact wpAny_pure (h [] (.refl _) s.drawn)
 | n + 1, [], s, Q, hn, h => by cases hn
 | n + 1, x :: xs, s, Q, hn, h => by
  unfold drawOrder
  refine wpAny_bind (choose_any (by simp) λ i hi d => ?_)
  rw [List.getElem?_eq_getElem hi]
  dsimp only
  refine wpAny_bind (draw_any n _ _ _ (by rw [List.length_eraseIdx_of_lt hi]; simp at hn ⊢; omega) λ ys hp d' => wpAny_pure ?_)
  exact h _ ((hp.cons _).trans (erase_perm (List.getElem?_eq_getElem hi))) d'
inductive Rd (w : World) (a : Addr) (es : Array (Int × Value)) (ep : Nat) (t : SetTable) : List Value → (Nat → Value) → Addr → Option (List Nat) → Prop where
 | text (hb : bytx w = true) : Rd w a es ep t ((pickOrder (w.params.setOrder a ep) es).toList.map (·.2)) (λ _ => .int 0 0) a none
 | drawn (hb : bytx w = false) (ps : List Nat) (hp : ps.Perm (List.range es.size)) (b : Addr) : Rd w a es ep t (ps.map λ j => (es.getD j (0, .none)).2) (λ _ => .ref b) b (some ps)
 | slots (hb : bytx w = false) (hd : (!t.plain && decide (es.size > 1)) = false) : Rd w a es ep t (es.toList.map (·.2)) (λ i => .int (if i = 0 then 0 else ((t.place.getD (i - 1) 0 + 1 : Nat) : Int)) 0) a none
theorem Rd.perm {a : Addr} {es : Array (Int × Value)} {ep : Nat} {t : SetTable} {vs : List Value} {f : Nat → Value} {b : Addr} {tp : Option (List Nat)} (h : Rd w a es ep t vs f b tp) : vs.Perm (es.toList.map (·.2)) := by
 cases h with
 | text hb => exact (pick_perm _ _).map _
 | drawn hb ps hp b =>
  refine (hp.map _).trans ?_
  have : (List.range es.size).map (λ j => (es.getD j (0, .none)).2) = es.toList.map (·.2) := by
   apply List.ext_getElem?
   intro i
   rw [List.getElem?_map, List.getElem?_map]
   by_cases c : i < es.size
   ·rw [List.getElem?_range c]
    simp [Array.getD, c]
   ·rw [List.getElem?_eq_none (by simpa using c), List.getElem?_eq_none (by simpa using c)]
    rfl
  rw [this]
 | slots hb hd => exact .refl _
def Tup (h : Heap) (b : Addr) (tp : Option (List Nat)) : Prop := ∀ ps, tp = some ps → ∃ o n, h.get? b = some o ∧ o.data = .seq (ps.map λ (j : Nat) => Value.int j 0).toArray n ∧ o.cls = .type "tuple"
theorem iter_set {a : Addr} {o : Obj} {es : Array (Int × Value)} {ep : Nat} {t : SetTable} {Q : Value → Shared → Prop} (ho : s.heap.get? a = some o) (hx : SX prog w o es ep t) (hz : es.size ≤ sizeLine)
  (h : ∀ (I : Addr) (s1 : Shared) vs f b tp, Rd w a es ep t vs f b tp → SetIt s1.heap I a (f 0) 0 es.size ep → Tup s1.heap b tp → I ≠ b → (∀ c o, s.heap.get? c = some o → s1.heap.get? c = some o) → s.heap.objs.size ≤ I → (∃ h' d, s1 = { s with heap := h', drawn := d }) → Q (.ref I) s1) :
  wpAny (model prog w) A (pyIter (.ref a)) Q E s := by
 have hT : s.TypeIs (.ref a) "set" := ⟨o, ho, hx.ex.1⟩
 refine wpAny_pyIter_slot hT F.slot_set_iter (wpAny_call_entry F.slot_set_iter hT entry_iter ?_ (F.args_set_iter_1 _))
 unfold Builtin.«frozenset.__iter__» Builtin.Frozenset.slot0 slotArgs
 simp only [List.isEmpty_nil, Bool.not_true, Bool.false_eq_true, ↓reduceIte, bind_assoc, List.length_nil, bne_self_eq_false]
 unfold Builtin.Frozenset.addrOf Builtin.Frozenset.sizeOf setDrawn setsByText
 refine wpAny_bind (wpAny_pure (wpAny_bind (wpAny_pure ?_)))
 refine wpAny_bind (wpAny_bind (wpAny_setEntries_of ho hx.dat hx.fit (wpAny_pure ?_)))
 refine wpAny_bind (wpAny_bind (wpAny_setState_of ho hx.dat hx.fit ?_))
 refine wpAny_bind (wpAny_bind (wpAny_askSetting (wpAny_pure (wpAny_pure ?_))))
 dsimp only
 have plain : ∀ vs f b tp, Rd w a es ep t vs f b tp → f 0 = .int 0 0 → b = a → tp = none → wpAny (model prog w) A.in1 (do
   let first ← pure (rawInt 0)
   ret (← newFields "set_iterator" [first, rawInt 0, .ref a, rawInt es.size, rawInt (← setEpoch a)])) (λ fin s' => ∃ r, fin = Fin.done (.ret r) ∧ ∃ T' r', s'.TypeIs r T' ∧ typeLookup (.type T') "__next__" = pure (some r') ∧ Q r s') E s := by
  intro vs f b tp rd e1 e2 e3
  subst e2 e3
  refine wpAny_bind (wpAny_pure (wpAny_bind (wpAny_setEpoch_of ho hx.dat hx.fit ?_)))
  refine wpAny_bind (wpAny_newObj_type (wpAny_pure ⟨_, rfl, "set_iterator", _, ⟨_, Heap.get?_push_size _ rfl, rfl⟩, slot_setit.lookup, ?_⟩))
  refine h s.heap.objs.size _ vs f b none rd ⟨_, Heap.get?_push_size _ rfl, rfl, by rw [e1]; rfl⟩ (λ _ z => by cases z) (Nat.ne_of_gt (Heap.lt_size ho)) (λ c o e => Heap.get?_push_of_some _ e) (Nat.le_refl _) ⟨_, _, rfl⟩
 cases bt : bytx w with
 | true =>
  have : (!w.params.followText "set-order" && (!t.plain && decide (es.size > 1))) = false := by rw [show w.params.followText "set-order" = true from bt]; rfl
  show wpAny _ _ (if (!w.params.followText "set-order" && (!t.plain && decide (es.size > 1))) = true then _ else _) _ _ _
  rw [if_neg (by rw [this]; exact Bool.false_ne_true)]
  exact plain _ _ _ _ (.text bt) rfl rfl rfl
 | false =>
  cases dr : (!t.plain && decide (es.size > 1)) with
  | false =>
   show wpAny _ _ (if (!w.params.followText "set-order" && (!t.plain && decide (es.size > 1))) = true then _ else _) _ _ _
   rw [if_neg (by rw [dr]; simp)]
   exact plain _ _ _ _ (.slots bt dr) rfl rfl rfl
  | true =>
   show wpAny _ _ (if (!w.params.followText "set-order" && (!t.plain && decide (es.size > 1))) = true then _ else _) _ _ _
   rw [if_pos (by rw [dr, show w.params.followText "set-order" = false from bt]; rfl)]
   refine wpAny_bind (draw_any es.size (List.range es.size) _ _ List.length_range λ ps hp d => ?_)
   refine wpAny_bind (wpAny_newTuple ?_ (by rw [List.length_map, hp.length_eq, List.length_range]; exact hz))
   have ho1 : (s.heap.push { cls := .type "tuple", data := .seq (ps.map λ (i : Nat) => rawInt i).toArray }).get? a = some o := Heap.get?_push_of_some _ ho
   refine wpAny_bind (wpAny_setEpoch_of ho1 hx.dat hx.fit ?_)
   refine wpAny_bind (wpAny_newObj_type (wpAny_pure ⟨_, rfl, "set_iterator", _, ⟨_, Heap.get?_push_size _ rfl, rfl⟩, slot_setit.lookup, ?_⟩))
   refine h _ _ _ _ s.heap.objs.size (some ps) (.drawn bt ps hp s.heap.objs.size) ⟨_, Heap.get?_push_size _ rfl, rfl, rfl⟩ (λ ps' z => ?_) ?_ (λ c o e => Heap.get?_push_of_some _ (Heap.get?_push_of_some _ e)) ?_ ⟨_, _, rfl⟩
   ·cases z
    exact ⟨_, 0, Heap.get?_push_of_some _ (Heap.get?_push_size _ rfl), rfl, rfl⟩
   ·show (s.heap.push _).objs.size ≠ s.heap.objs.size
    rw [Heap.size_push]
    exact Nat.ne_of_gt (Nat.lt_succ_self _)
   ·show s.heap.objs.size ≤ (s.heap.push _).objs.size
    rw [Heap.size_push]
    exact Nat.le_succ _
theorem SetIt.step {h : Heap} {I a : Addr} {f : Value} {i n ep : Nat} (hi : SetIt h I a f i n ep) (g : Value) :
  SetIt ((h.update I (Obj.mapFields (·.setIfInBounds 0 g))).update I (Obj.mapFields (·.setIfInBounds 1 (rawInt ((i : Int) + 1))))) I a g (i + 1) n ep := by
 obtain ⟨o, ho, hc, hd⟩ := hi
 have h1 := Heap.get?_update_self (Obj.mapFields (·.setIfInBounds 0 g)) ho (Obj.isFreed_of_fields (Obj.data_mapFields hd _))
 have d1 := Obj.data_mapFields hd (·.setIfInBounds 0 g)
 have h2 := Heap.get?_update_self (Obj.mapFields (·.setIfInBounds 1 (rawInt ((i : Int) + 1)))) h1 (Obj.isFreed_of_fields (Obj.data_mapFields d1 _))
 exact ⟨_, h2, (Obj.cls_mapFields ..).trans ((Obj.cls_mapFields ..).trans hc), by rw [Obj.data_mapFields d1]; simp [rawInt]⟩
theorem SetIt.step1 {h : Heap} {I a : Addr} {f : Value} {i n ep : Nat} (hi : SetIt h I a f i n ep) :
  SetIt (h.update I (Obj.mapFields (·.setIfInBounds 1 (rawInt ((i : Int) + 1))))) I a f (i + 1) n ep := by
 obtain ⟨o, ho, hc, hd⟩ := hi
 have h1 := Heap.get?_update_self (Obj.mapFields (·.setIfInBounds 1 (rawInt ((i : Int) + 1)))) ho (Obj.isFreed_of_fields (Obj.data_mapFields hd _))
 exact ⟨_, h1, (Obj.cls_mapFields ..).trans hc, by rw [Obj.data_mapFields hd]; simp [rawInt]⟩
theorem led_of {o : Obj} {es : Array (Int × Value)} {ep : Nat} {t : SetTable} (hx : SX prog w o es ep t) (hb : bytx w = false) : t.led = true := hx.tab.2.2.resolve_left (by rw [hb]; exact Bool.false_ne_true)
theorem plc_size {o : Obj} {es : Array (Int × Value)} {ep : Nat} {t : SetTable} (hx : SX prog w o es ep t) : t.place.size = es.size := by
 have := hx.fit
 simp only [SetTable.fits, Bool.and_eq_true, beq_iff_eq] at this
 exact this.1
theorem next_item {I a b : Addr} {o : Obj} {es : Array (Int × Value)} {ep : Nat} {t : SetTable} {vs : List Value} {f : Nat → Value} {tp : Option (List Nat)} {i : Nat} {v : Value} {Q : Option Value → Shared → Prop} (rd : Rd w a es ep t vs f b tp) (hi : SetIt s.heap I a (f i) i es.size ep) (htp : Tup s.heap b tp) (ho : s.heap.get? a = some o) (hx : SX prog w o es ep t) (hv : vs[i]? = some v)
  (hQ : ∀ h', SetIt h' I a (f (i + 1)) (i + 1) es.size ep → Heap.SameBut I s.heap h' → Q (some v) { s with heap := h' }) :
  wpAny (model prog w) A (pyNext (.ref I)) Q E s := by
 have hT := hi.ty
 obtain ⟨oi, hoi, hc, hd⟩ := id hi
 unfold pyNext
 refine wpAny_bind (wpAny_attempt (wpAny_callSpecial?_slot (name := Str.ofString "__next__") hT slot_setit (wpAny_call_entry slot_setit hT entry_setit ?_ (args_setit _))))
 unfold Builtin.«set_iterator.__next__» slotArgs
 simp only [List.isEmpty_nil, Bool.not_true, Bool.false_eq_true, ↓reduceIte, bind_assoc, List.length_nil, bne_self_eq_false]
 refine wpAny_bind (wpAny_pure (wpAny_bind (wpAny_fieldsOf hoi hd ?_)))
 dsimp only
 refine wpAny_bind (wpAny_setEntries_of ho hx.dat hx.fit ?_)
 rw [if_neg (by simp)]
 cases rd with
 | text hb =>
  dsimp only
  refine wpAny_bind ?_
  unfold setNext setWalk setsByText
  refine wpAny_bind (wpAny_setState_of ho hx.dat hx.fit ?_)
  refine wpAny_bind (wpAny_bind (wpAny_askSetting (wpAny_pure ?_)))
  refine wpAny_ite_split (λ _ => ?_) (λ z => absurd hb z)
  dsimp only
  rw [if_neg (by simp)]
  refine wpAny_bind (wpAny_bind (wpAny_setState_of ho hx.dat hx.fit ?_))
  refine wpAny_bind (wpAny_bind (wpAny_askSetting (wpAny_pure ?_)))
  refine wpAny_ite_split (λ _ => ?_) (λ z => absurd hb z)
  refine wpAny_bind (wpAny_askSetting (wpAny_pure (wpAny_pure ?_)))
  have hg : (pickOrder (w.params.setOrder a ep) es)[((i : Int)).toNat]?.map (·.2) = some v := by
   rw [List.getElem?_map, Array.getElem?_toList] at hv
   simpa using hv
  cases q : (pickOrder (w.params.setOrder a ep) es)[((i : Int)).toNat]? with
  | none => rw [q] at hg; cases hg
  | some e =>
   rw [q] at hg
   cases hg
   have q' : (pickOrder ((Setting.mk (model prog w).prog (model prog w).w.params).params.setOrder a (es, ep, t).2.1) (es, ep, t).1)[((i : Int)).toNat]? = some e := q
   rw [q']
   show wpAny _ _ (setField (.ref I) 0 (rawInt ((((0 : Int)).toNat : Nat) : Int)) >>= _) _ _ _
   refine wpAny_bind (wpAny_setField hoi hd (by simp) ?_)
   have h1 := Heap.get?_update_self (Obj.mapFields (·.setIfInBounds 0 (rawInt ((((0 : Int)).toNat : Nat) : Int)))) hoi (Obj.isFreed_of_fields (Obj.data_mapFields hd _))
   refine wpAny_bind (wpAny_setField h1 (Obj.data_mapFields hd _) (by simp) (wpAny_pure ⟨_, rfl, wpAny_pure (hQ _ (hi.step _) ?_)⟩))
   exact (Heap.SameBut.update ..).trans (Heap.SameBut.update ..)
 | drawn hb ps hp b =>
  obtain ⟨ot, n, hot, hdt, _⟩ := htp ps rfl
  dsimp only
  refine wpAny_bind (wpAny_seqItems hot hdt ?_)
  dsimp only
  rw [List.getElem?_map] at hv
  cases q : ps[i]? with
  | none => rw [q] at hv; cases hv
  | some j =>
   rw [q] at hv
   cases hv
   have hj : j < es.size := List.mem_range.mp (hp.mem_iff.mp (List.mem_of_getElem? q))
   have e1 : ((ps.map λ (j : Nat) => Value.int j 0).toArray)[((i : Int)).toNat]? = some (.int j 0) := by simp [q]
   rw [e1]
   dsimp only
   unfold setNextDrawn
   refine wpAny_bind (wpAny_bind (wpAny_setState_of ho hx.dat hx.fit ?_))
   dsimp only
   rw [if_neg (by simp)]
   have e2 : es[((j : Int)).toNat]? = some es[j] := by simp [hj]
   rw [e2]
   refine wpAny_pure (wpAny_bind (wpAny_setField hoi hd (by simp) (wpAny_pure ⟨_, rfl, wpAny_pure ?_⟩)))
   have e3 : es.getD j (0, .none) = es[j] := by simp [Array.getD, hj]
   dsimp only at hQ
   rw [e3] at hQ
   exact hQ _ hi.step1 (Heap.SameBut.update ..)
 | slots hb hdr =>
  have ris := hx.tab.2.1
  have ps := plc_size hx
  have hil : i < es.size := by
   have := (List.getElem?_eq_some_iff.mp hv).1
   simpa using this
  dsimp only
  refine wpAny_bind ?_
  unfold setNext setsByText
  refine wpAny_bind (wpAny_setState_of ho hx.dat hx.fit ?_)
  refine wpAny_bind (wpAny_bind (wpAny_askSetting (wpAny_pure ?_)))
  refine wpAny_ite_split (λ z => absurd (hb.symm.trans z) Bool.false_ne_true) (λ _ => ?_)
  dsimp only
  show wpAny _ _ (if (!t.plain && decide (es.size > 1)) = true then _ else _) _ _ _
  rw [if_neg (by rw [hdr]; exact Bool.false_ne_true)]
  show wpAny _ _ ((if (!t.led && !es.isEmpty) = true then unsupported "set:maker-not-led" else pure PUnit.unit) >>= _) _ _ _
  rw [if_neg (by rw [led_of hx hb]; simp)]
  refine wpAny_bind (wpAny_pure (wpAny_pure ?_))
  have hbl : SetTable.below t.place (if i = 0 then (0 : Int) else ((t.place.getD (i - 1) 0 + 1 : Nat) : Int)).toNat = i := by
   by_cases c : i = 0
   ·subst c
    exact below_zero ris
   ·rw [if_neg c, Int.toNat_natCast, below_next ris (by omega)]
    omega
  rw [hbl]
  have e1 : es[i]? = some es[i] := by simp [hil]
  have e2 : t.place[i]? = some (t.place.getD i 0) := by simp [Array.getD, ps, hil]
  rw [e1, e2]
  dsimp only
  have ev : es[i].2 = v := by
   rw [List.getElem?_map, Array.getElem?_toList, e1] at hv
   simpa using hv
  rw [ev]
  refine wpAny_bind (wpAny_setField hoi hd (by simp) ?_)
  have h1 := Heap.get?_update_self (Obj.mapFields (·.setIfInBounds 0 (rawInt ((t.place.getD i 0 + 1 : Nat) : Int)))) hoi (Obj.isFreed_of_fields (Obj.data_mapFields hd _))
  refine wpAny_bind (wpAny_setField h1 (Obj.data_mapFields hd _) (by simp) (wpAny_pure ⟨_, rfl, wpAny_pure (hQ _ ?_ ((Heap.SameBut.update ..).trans (Heap.SameBut.update ..)))⟩))
  exact hi.step _
theorem next_done {I a b : Addr} {o : Obj} {es : Array (Int × Value)} {ep : Nat} {t : SetTable} {vs : List Value} {f : Nat → Value} {tp : Option (List Nat)} {Q : Option Value → Shared → Prop} (hh : A.handled = none) (rd : Rd w a es ep t vs f b tp) (hi : SetIt s.heap I a (f es.size) es.size es.size ep) (htp : Tup s.heap b tp) (ho : s.heap.get? a = some o) (hx : SX prog w o es ep t)
  (hQ : ∀ h', (∀ c o, c ≠ I → s.heap.get? c = some o → h'.get? c = some o) → Q none { s with heap := h' }) :
  wpAny (model prog w) A (pyNext (.ref I)) Q E s := by
 have hT := hi.ty
 have vl : vs.length = es.size := by have := rd.perm.length_eq; simpa using this
 obtain ⟨oi, hoi, hc, hd⟩ := id hi
 unfold pyNext
 refine wpAny_bind (wpAny_attempt (wpAny_callSpecial?_slot (name := Str.ofString "__next__") hT slot_setit (wpAny_call_entry slot_setit hT entry_setit ?_ (args_setit _))))
 unfold Builtin.«set_iterator.__next__» slotArgs
 simp only [List.isEmpty_nil, Bool.not_true, Bool.false_eq_true, ↓reduceIte, bind_assoc, List.length_nil, bne_self_eq_false]
 refine wpAny_bind (wpAny_pure (wpAny_bind (wpAny_fieldsOf hoi hd ?_)))
 dsimp only
 refine wpAny_bind (wpAny_setEntries_of ho hx.dat hx.fit ?_)
 rw [if_neg (by simp)]
 have fin : ∀ (h1 : Heap), (∀ c o, c ≠ I → s.heap.get? c = some o → h1.get? c = some o) → wpAny (model prog w) A.in1 (newExc (.type "StopIteration") [] >>= λ e => (raiseNew e : Sem PySem.Fin)) (λ fin s' => ∃ v, fin = PySem.Fin.done (.ret v) ∧ wpAny (model prog w) A (pure (some v)) Q E s')
   (λ e s' => wpAny (model prog w) A (do let b ← isInstance e (.type "StopIteration"); if b = true then pure none else throw e) Q E s') { s with heap := h1 } := by
  intro h1 k1
  refine wpAny_bind ?_
  simp only [newExc, newTuple]
  refine wpAny_bind (wpAny_newObj_type ?_ (by size_fits))
  refine wpAny_bind (m := firstArgMember _ _) (wpAny_of_eq (a := Value.none) (by first | rfl | (simp only [firstArgMember]; rfl)) (wpAny_newObj_type ?_ (by size_fits)))
  simp only [raiseNew]
  refine wpAny_bind (wpAny_handled ?_)
  rw [show A.in1.handled = none from hh]
  refine wpAny_bind (wpAny_pure (wpAny_throw ?_))
  refine wpAny_bind (wpAny_isInstance (T := "StopIteration") (b := true) ⟨_, Heap.get?_push_size _ rfl, rfl⟩ isSubtype_stop (wpAny_pure (hQ _ λ c o n e => ?_)))
  exact Heap.get?_push_of_some _ (Heap.get?_push_of_some _ (k1 c o n e))
 cases rd with
 | text hb =>
  dsimp only
  refine wpAny_bind ?_
  unfold setNext setWalk setsByText
  refine wpAny_bind (wpAny_setState_of ho hx.dat hx.fit ?_)
  refine wpAny_bind (wpAny_bind (wpAny_askSetting (wpAny_pure ?_)))
  refine wpAny_ite_split (λ _ => ?_) (λ z => absurd hb z)
  dsimp only
  rw [if_neg (by simp)]
  refine wpAny_bind (wpAny_bind (wpAny_setState_of ho hx.dat hx.fit ?_))
  refine wpAny_bind (wpAny_bind (wpAny_askSetting (wpAny_pure ?_)))
  refine wpAny_ite_split (λ _ => ?_) (λ z => absurd hb z)
  refine wpAny_bind (wpAny_askSetting (wpAny_pure (wpAny_pure ?_)))
  have hg : (pickOrder (w.params.setOrder a ep) es)[((es.size : Int)).toNat]? = none := by
   rw [← Array.getElem?_toList]
   refine List.getElem?_eq_none ?_
   have := (pick_perm (w.params.setOrder a ep) es).length_eq
   simp at this ⊢
   omega
  have hg' : (pickOrder ((Setting.mk (model prog w).prog (model prog w).w.params).params.setOrder a (es, ep, t).2.1) (es, ep, t).1)[((es.size : Int)).toNat]? = none := hg
  rw [hg']
  show wpAny _ _ (setField (.ref I) 2 .none >>= _) _ _ _
  refine wpAny_bind (wpAny_setField hoi hd (by simp) (fin _ λ c o n e => ?_))
  rw [(Heap.SameBut.update s.heap I _).2 c n]; exact e
 | drawn hb ps hp b =>
  obtain ⟨ot, n, hot, hdt, _⟩ := htp ps rfl
  dsimp only
  refine wpAny_bind (wpAny_seqItems hot hdt ?_)
  dsimp only
  have e1 : ((ps.map λ (j : Nat) => Value.int j 0).toArray)[((es.size : Int)).toNat]? = none := by
   have := hp.length_eq
   simp at this
   simp [this]
  rw [e1]
  show wpAny _ _ (setField (.ref I) 0 (rawInt 0) >>= _) _ _ _
  refine wpAny_bind (wpAny_setField hoi hd (by simp) ?_)
  have h1 := Heap.get?_update_self (Obj.mapFields (·.setIfInBounds 0 (rawInt 0))) hoi (Obj.isFreed_of_fields (Obj.data_mapFields hd _))
  refine wpAny_bind (wpAny_setField h1 (Obj.data_mapFields hd _) (by simp) (fin _ λ c o n e => ?_))
  rw [((Heap.SameBut.update s.heap I _).trans (Heap.SameBut.update _ I _)).2 c n]; exact e
 | slots hb hdr =>
  have ris := hx.tab.2.1
  have ps := plc_size hx
  dsimp only
  refine wpAny_bind ?_
  unfold setNext setsByText
  refine wpAny_bind (wpAny_setState_of ho hx.dat hx.fit ?_)
  refine wpAny_bind (wpAny_bind (wpAny_askSetting (wpAny_pure ?_)))
  refine wpAny_ite_split (λ z => absurd (hb.symm.trans z) Bool.false_ne_true) (λ _ => ?_)
  dsimp only
  show wpAny _ _ (if (!t.plain && decide (es.size > 1)) = true then _ else _) _ _ _
  rw [if_neg (by rw [hdr]; exact Bool.false_ne_true)]
  show wpAny _ _ ((if (!t.led && !es.isEmpty) = true then unsupported "set:maker-not-led" else pure PUnit.unit) >>= _) _ _ _
  rw [if_neg (by rw [led_of hx hb]; simp)]
  refine wpAny_bind (wpAny_pure (wpAny_pure ?_))
  have hbl : SetTable.below t.place (if es.size = 0 then (0 : Int) else ((t.place.getD (es.size - 1) 0 + 1 : Nat) : Int)).toNat = es.size := by
   by_cases c : es.size = 0
   ·rw [if_pos c, c]
    exact below_zero ris
   ·rw [if_neg c, Int.toNat_natCast, below_next ris (by omega)]
    omega
  rw [hbl]
  have e1 : es[es.size]? = none := by simp
  rw [e1]
  dsimp only
  refine wpAny_bind (wpAny_setField hoi hd (by simp) (fin _ λ c o n e => ?_))
  rw [(Heap.SameBut.update s.heap I _).2 c n]; exact e
end
end L3
namespace L3
open PySem PySem.Spec PyProof.Rows
section
variable {prog : Program} {w : World} {A : Around} {E : Value → Shared → Prop} {s : Shared}
theorem slot_setit_iter : Slot "set_iterator" "__iter__" "set_iterator.__iter__" :=
 .of (owner := "set_iterator") (n := "__iter__") (by rw [typeLookup_type, builtinLookup_eq_fast]; kernel_rfl) (by decide +kernel) (by decide +kernel) (by decide +kernel)
  (by first | exact .inl (by decide +kernel) | exact .inr (by decide +kernel)) (by rw [isSubtype_type]; kernel_rfl)
theorem entry_setit_iter : entryFor table "set_iterator.__iter__" = some Builtin.«dict_keyiterator.__iter__» :=
 entryFor_alias (id' := "dict_keyiterator.__iter__") (by kernel_rfl) rfl (by decide +kernel) (by kernel_rfl)
theorem args_setit_iter (a : Value) : argsOk "set_iterator.__iter__" ⟨[a], []⟩ := by
 unfold argsOk; rw [signature?_of (id := "set_iterator.__iter__") (n := ['_', '_', 'r', 'e', 't', 'i', '_', '_']) (o := ['r', 'o', 't', 'a', 'r', 'e', 't', 'i', '_', 't', 'e', 's']) (by kernel_rfl) owner_setit]; kernel_rfl
theorem SetIt.keep {h h' : Heap} {I a : Addr} {f : Value} {i n ep : Nat} (x : SetIt h I a f i n ep) (e : ∀ o, h.get? I = some o → h'.get? I = some o) : SetIt h' I a f i n ep := let ⟨o, ho, r⟩ := x; ⟨o, e o ho, r⟩
theorem walk_set {I a b : Addr} {o : Obj} {es : Array (Int × Value)} {ep : Nat} {t : SetTable} {vs : List Value} {f : Nat → Value} {tp : Option (List Nat)} (hh : A.handled = none) (rd : Rd w a es ep t vs f b tp) (hx : SX prog w o es ep t) (na : a ≠ I) (nb : b ≠ I) :
  Walks prog w A I [I, a, b] [I] es.size (λ i v => vs[i]? = some v) (λ i h => SetIt h I a (f i) i es.size ep ∧ h.get? a = some o ∧ Tup h b tp) where
 sub := λ c hc => by rw [List.mem_singleton.mp hc]; exact List.mem_cons_self
 frame := λ i h h' st hk => ⟨st.1.keep (hk I (by simp)), hk a (by simp) _ st.2.1, λ ps e => let ⟨o, n, x, y⟩ := st.2.2 ps e; ⟨o, n, hk b (by simp) _ x, y⟩⟩
 item := λ i s Q E hi st hQ => by
  have vl : vs.length = es.size := by have := rd.perm.length_eq; simpa using this
  refine next_item rd st.1 st.2.2 st.2.1 hx (List.getElem?_eq_getElem (by omega)) λ h' x1 x2 => ?_
  have kp : ∀ c o, c ∉ [I] → s.heap.get? c = some o → h'.get? c = some o := λ c o n e => by rw [x2.2 c λ z => n (by simp [z])]; exact e
  exact hQ _ h' s.toks (List.getElem?_eq_getElem (by omega)) ⟨x1, kp a _ (by simpa using na) st.2.1, λ ps e => let ⟨o, n, x, y⟩ := st.2.2 ps e; ⟨o, n, kp b _ (by simpa using nb) x, y⟩⟩ kp
 done := λ s Q E st hQ => next_done hh rd st.1 st.2.2 st.2.1 hx λ h' x => hQ h' s.toks λ c o n e => x c o (λ z => n (by simp [z])) e
 self := λ i s Q E st hQ => by
  refine wpAny_pyIter_slot st.1.ty slot_setit_iter (wpAny_call_entry slot_setit_iter st.1.ty entry_setit_iter ?_ (args_setit_iter _))
  show wpAny _ _ (ret (.ref I)) _ _ s
  exact wpAny_pure ⟨_, rfl, "set_iterator", _, st.1.ty, slot_setit.lookup, hQ⟩
theorem hint_set {r : Addr} {Q : Bool → Shared → Prop} (hT : s.TypeIs (.ref r) "set") (h : Q false s) : wpAny (model prog w) A (Builtin.List.listLengthHint (.ref r)) Q E s := by
 unfold Builtin.List.listLengthHint
 refine wpAny_bind (wpAny_specialOf hT F.slot_set_len.lookup ?_)
 generalize hid : ("set.__len__" : String) = id0
 wp_delta
 rw [show splitId id0 = some ("set", "__len__") from by subst hid; decide +kernel]
 subst hid
 refine wpAny_bind (wpAny_isInstance (T := "set") (b := true) hT (by rw [isSubtype_type]; kernel_rfl) ?_)
 refine wpAny_ite_split (λ z => absurd z (by decide)) (λ _ => ?_)
 refine wpAny_ite_split (λ _ => ?_) (λ z => absurd (by decide +kernel) z)
 exact wpAny_bind (wpAny_typeOf hT (wpAny_pure h))
structure Kp (s s1 : Shared) : Prop where
 heap : ∀ c o, s.heap.get? c = some o → s1.heap.get? c = some o
 gens : s1.gens = s.gens
 os : s1.os = s.os
theorem extend_set {R : Result → Shared → Prop} {a S : Addr} {o : Obj} {es : Array (Int × Value)} {ep : Nat} {t : SetTable} {res : Value} {c₀ : Nat} (hh : A.handled = none) (ho : s.heap.get? a = some o) (hx : SX prog w o es ep t) (hz : es.size ≤ sizeLine) (nS : S ≠ a)
  (hS : s.heap.get? S = some { cls := .type "list", data := .seq #[] c₀ })
  (hR : ∀ (s1 : Shared) (vs : List Value) acc c, vs.Perm (es.toList.map (·.2)) → ItemsOf (λ i v => vs[i]? = some v) acc es.size → (∀ b o, b ≠ S → s.heap.get? b = some o → s1.heap.get? b = some o) → s1.gens = s.gens → s1.os = s.os → s1.heap.get? S = some { cls := .type "list", dict := none, data := .seq acc c, slots := #[] } → R (.ok (.ret res)) s1) :
  wpAny (model prog w) A.in1 (Builtin.List.listExtendWith (.ref S) (.ref a) res)
   (λ fin s' => match fin with | .done f => R (.ok f) s' | .again c' => c'.quiet = true ∧ codeAny (model prog w) A c' R s') (λ e s' => R (.error e) s') s := by
 have hT : s.TypeIs (.ref a) "set" := ⟨o, ho, hx.ex.1⟩
 unfold Builtin.List.listExtendWith
 refine wpAny_bind (wpAny_typeOf (T := "set") hT ?_)
 have q1 : Builtin.List.listSameRef (.ref S) (.ref a) = false := by simp [Builtin.List.listSameRef, nS]
 have q2 : (Value.type "set" == Value.type "list") = false := by decide
 have q3 : (Value.type "set" == Value.type "tuple") = false := by decide
 simp only [q1, q2, q3, Bool.or_false, Bool.false_eq_true, if_false]
 refine wpAny_bind (iter_set ho hx hz λ I s1 vs f b tp rd hi htp nI kp lI ⟨h', d, e⟩ => ?_)
 have e1 : s1.heap = h' := by rw [e]
 have ho1 := kp a o ho
 have hS1 := kp S _ hS
 have na : a ≠ I := Nat.ne_of_lt (Nat.lt_of_lt_of_le (Heap.lt_size ho) lI)
 have nSI : S ≠ I := Nat.ne_of_lt (Nat.lt_of_lt_of_le (Heap.lt_size hS) lI)
 have nSb : S ≠ b := by
  cases rd with
  | text _ => exact nS
  | slots _ _ => exact nS
  | drawn hb ps hp b =>
   rintro rfl
   obtain ⟨o', n', x, _, y⟩ := htp ps rfl
   rw [hS1] at x
   cases x
   exact absurd (show Value.type "list" = Value.type "tuple" from y) (by decide)
 have hT1 : s1.TypeIs (.ref a) "set" := ⟨o, ho1, hx.ex.1⟩
 have g1 : s1.gens = s.gens := by rw [e]
 have o1 : s1.os = s.os := by rw [e]
 have W := (walk_set (A := A.in1) hh rd hx na (Ne.symm nI)).toS
 have key : ∀ (h : Heap) (c₁ : Nat), (SetIt h I a (f 0) 0 es.size ep ∧ h.get? a = some o ∧ Tup h b tp) → (∀ b o, b ≠ S → s1.heap.get? b = some o → h.get? b = some o) → h.get? S = some { cls := .type "list", data := .seq #[] c₁ } →
   codeAny (model prog w) A (.builtin "list.extend.loop" ⟨[.ref S, .ref I, res], []⟩) R { s1 with heap := h } := by
  intro h c₁ st kp2 hS2
  refine codeAny_extend_loopS W hz S (by simp [nSI, nS, nSb]) res es.size 0 _ #[] c₁ rfl (Nat.zero_le _) st hS2 (ItemsOf.nil _) λ s' acc c hm hS' it => ?_
  refine hR s' vs acc c rd.perm it (λ c o n e => hm.heap c o (λ z => ?_) (kp2 c o n (kp c o e))) (hm.gens.trans g1) (hm.os.trans o1) hS'
  rcases List.mem_cons.mp z with z | z
  ·exact n z
  ·exact Nat.ne_of_lt (Nat.lt_of_lt_of_le (Heap.lt_size e) lI) (List.mem_singleton.mp z)
 refine wpAny_bind (wpAny_holding (hint_set hT1 ?_))
 refine wpAny_ite_split (λ _ => ?_) (λ _ => wpAny_pure ⟨plainId_quiet F.plain_extend_loop _, key s1.heap c₀ ⟨hi, ho1, htp⟩ (λ b o _ e => e) hS1⟩)
 refine wpAny_bind (wpAny_rule (wpAny_bind ?_))
 show wpAny _ _ (updateSeq S (·.push .none) >>= λ _ => updateSeq S (·.pop)) _ _ _
 refine wpAny_bind (wpAny_updateSeq hS1 rfl ?_)
 have hS2 := Heap.get?_update_self (Obj.mapSeq (·.push Value.none)) hS1 rfl
 refine wpAny_updateSeq (hz := by seq_fits) hS2 rfl ?_
 have hS3 := Heap.get?_update_self (Obj.mapSeq (·.pop)) hS2 rfl
 have ot : ∀ b o, b ≠ S → s1.heap.get? b = some o → ((s1.heap.update S (Obj.mapSeq (·.push Value.none))).update S (Obj.mapSeq (·.pop))).get? b = some o := λ b o n e =>
  (Heap.get?_update_other _ _ (Ne.symm n)).trans ((Heap.get?_update_other _ _ (Ne.symm n)).trans e)
 refine wpAny_pure ⟨plainId_quiet F.plain_extend_loop _, key _ _ ⟨hi.keep λ o e => ot I o (Ne.symm nSI) e, ot a _ (Ne.symm nS) ho1, λ ps e => ?_⟩ ot hS3⟩
 obtain ⟨o', n', x, y⟩ := htp ps e
 exact ⟨o', n', ot b o' (Ne.symm nSb) x, y⟩
theorem collect_set {a : Addr} {o : Obj} {es : Array (Int × Value)} {ep : Nat} {t : SetTable} {R : List Value → Shared → Prop} (hh : A.handled = none) (ho : s.heap.get? a = some o) (hx : SX prog w o es ep t) (hz : es.size ≤ sizeLine)
  (h : ∀ (s1 : Shared) (vs : List Value), vs.Perm (es.toList.map (·.2)) → Kp s s1 → R vs s1) : wpAny (model prog w) A (collect (.ref a)) R E s := by
 have lt := Heap.lt_size ho
 unfold collect
 refine wpAny_bind (wpAny_runValue (codeAny_builtin entry_proto_collect' ?_))
 rw [Around.under_plainId PySem.F.plain_proto_collect _]
 refine wpAny_bind (wpAny_newObj_type (wpAny_pure ⟨plainId_quiet PySem.F.plain_list_iadd _, codeAny_builtin entry_list_iadd' ?_⟩))
 rw [Around.under_plainId PySem.F.plain_list_iadd _]
 have hS : (s.heap.push { cls := .type "list", data := .seq ([] : List Value).toArray }).get? s.heap.objs.size = some { cls := .type "list", data := .seq #[] } := Heap.get?_push_size _ rfl
 have main := extend_set (prog := prog) (w := w) (A := A) (s := { s with heap := s.heap.push { cls := .type "list", data := .seq ([] : List Value).toArray } }) (res := .ref s.heap.objs.size) (c₀ := 0)
  (R := λ (q : Result) (s' : Shared) => ∃ (vs : List Value) (acc : Array Value) (c : Nat), q = .ok (.ret (.ref s.heap.objs.size)) ∧ vs.Perm (es.toList.map (·.2)) ∧ acc.toList = vs ∧ Kp s s' ∧ s'.heap.get? s.heap.objs.size = some { cls := .type "list", dict := none, data := .seq acc c, slots := #[] })
  (by simpa using hh) (Heap.get?_push_of_some _ ho) hx hz (Nat.ne_of_gt lt) hS (λ s1 vs acc c pm it kp g os' hg => ⟨vs, acc, c, rfl, pm, ?_, ⟨λ b o e => kp b o (Nat.ne_of_lt (Heap.lt_size e)) (Heap.get?_push_of_some _ e), g, os'⟩, hg⟩)
 ·refine wpAny_mono main (λ fin s' x => ?_) λ e s' x => ?_
  ·cases fin with
   | done f =>
    obtain ⟨vs, acc, c, e, pm, ev, kp, hg⟩ := x
    cases e
    show wpAny _ A (load s.heap.objs.size >>= _) _ _ _
    refine wpAny_bind (wpAny_load hg (wpAny_pure ?_))
    rw [ev]
    exact h s' vs pm kp
   | again c1 =>
    refine ⟨x.1, codeAny_mono x.2 λ q s2 y => ?_⟩
    obtain ⟨vs, acc, c, rfl, pm, ev, kp, hg⟩ := y
    show wpAny _ A (load s.heap.objs.size >>= _) _ _ _
    refine wpAny_bind (wpAny_load hg (wpAny_pure ?_))
    rw [ev]
    exact h s2 vs pm kp
  ·obtain ⟨_, _, _, e', _⟩ := x
   cases e'
 ·apply List.ext_getElem?
  intro i
  have vl : vs.length = es.size := by have := pm.length_eq; simpa using this
  by_cases c : i < es.size
  ·rw [Array.getElem?_toList, Array.getElem?_eq_getElem (by rw [it.1]; exact c)]
   exact (it.2 i _ (Array.getElem?_eq_getElem (by rw [it.1]; exact c))).symm
  ·rw [List.getElem?_eq_none (by simp [it.1]; omega), List.getElem?_eq_none (by omega)]
theorem sorted_set {a : Addr} {o : Obj} {es : Array (Int × Value)} {ep : Nat} {t : SetTable} {Q : Value → Shared → Prop} (hh : A.handled = none) (ho : s.heap.get? a = some o) (hx : SX prog w o es ep t) (h64 : es.size < 64)
  (h : ∀ (s1 : Shared) (h2 : Heap) (out : List Value) (ns : List Int) (e : Nat), IntsAre out ns → ns.Perm (kys es.toList) → ns.Pairwise (· ≤ ·) → Kp s s1 → (∀ c o, s1.heap.get? c = some o → h2.get? c = some o) → h2.get? s1.heap.objs.size = some (seqObj "list" out.toArray e) → Q (.ref s1.heap.objs.size) { s1 with heap := h2 }) :
  wpAny (model prog w) A (call (.builtin "sorted") [.ref a]) Q E s := by
 refine Calls.call_function_entry kind_sorted plain_sorted entry_sorted (args_sorted1 _) ?_
 unfold Builtin.«sorted»
 refine wpAny_bind (m := checkCount "sorted" 1 1 _) (wpAny_pure (wpAny_bind (collect_set (A := A.in1) (by simpa using hh) ho hx (by rw [sizeLine_eq]; omega) λ s1 vs pm kp => ?_)))
 have vl : vs.length = es.size := by have := pm.length_eq; simpa using this
 have hI : ∀ (l : List (Int × Value)), (∀ e ∈ l, ∃ t, e.2 = .int (ik e.2) t) → IntsAre (l.map (·.2)) (kys l) := by
  intro l
  induction l with
  | nil => intro _; exact .nil
  | cons e l ih =>
   intro he
   obtain ⟨t, ht⟩ := he e List.mem_cons_self
   have := ih λ x hx => he x (List.mem_cons_of_mem _ hx)
   show IntsAre (e.2 :: l.map (·.2)) (ik e.2 :: kys l)
   rw [ht]
   exact .cons _ t this
 obtain ⟨ns, hns, hpn⟩ : ∃ ns, IntsAre vs ns ∧ ns.Perm (kys es.toList) := by
  have base := hI es.toList λ e he => el_int hx.el he
  refine ⟨vs.map ik, ?_, ?_⟩
  ·have : ∀ l : List Value, (∀ v ∈ l, ∃ t, v = .int (ik v) t) → IntsAre l (l.map ik) := by
    intro l
    induction l with
    | nil => intro _; exact .nil
    | cons v l ih =>
     intro hv
     obtain ⟨t, ht⟩ := hv v List.mem_cons_self
     have := ih λ x hx => hv x (List.mem_cons_of_mem _ hx)
     rw [List.map_cons]
     rw [ht]
     exact .cons _ t this
   refine this vs λ v hv => ?_
   obtain ⟨e, he, rfl⟩ := List.mem_map.mp (pm.mem_iff.mp hv)
   exact el_int hx.el he
  ·have := pm.map ik
   rw [List.map_map] at this
   exact this
 refine wpAny_bind (wpAny_newList ?_ (by rw [vl, sizeLine_eq]; omega))
 have hoL : (s1.heap.push { cls := .type "list", data := .seq vs.toArray }).get? s1.heap.objs.size = some (seqObj "list" vs.toArray 0) := Heap.get?_push_size _ rfl
 refine wpAny_bind (wpAny_holding (wpAny_call_entry slot_list_sort ⟨_, hoL, rfl⟩ entry_list_sort (list_sort_tree hoL hns (by omega) λ out ns' a1 a2 a3 => ⟨_, rfl, ?_⟩) (args_list_sort _)))
 obtain ⟨e, he⟩ := sortedHeap_at (out := out) hoL
 refine wpAny_pure ⟨_, rfl, h s1 _ out.toList ns' e a1 (a2.trans hpn) a3 kp (λ c o q1 => ?_) (by simpa using he)⟩
 have q2 := Heap.lt_size q1
 rw [sortedHeap_old (Nat.ne_of_lt q2) (by rw [size_push']; exact Nat.lt_succ_of_lt q2)]
 exact Heap.get?_push_of_some _ q1
end
end L3
namespace L3
open PySem PySem.Spec PyProof.Rows L2
def insU (x : Int) : List Int → List Int
 | [] => [x]
 | y :: ys => if x < y then x :: y :: ys else if x = y then y :: ys else y :: insU x ys
def sset (ns : List Int) : List Int := ns.foldr insU []
theorem mem_insU {x z : Int} : ∀ {l : List Int}, z ∈ insU x l ↔ z = x ∨ z ∈ l
 | [] => by simp [insU]
 | y :: ys => by
  unfold insU
  split
  ·simp
  ·split
   ·rename_i e
    subst e
    simp
   ·simp only [List.mem_cons, mem_insU (l := ys)]
    constructor
    ·rintro (h | h | h)
     ·exact .inr (.inl h)
     ·exact .inl h
     ·exact .inr (.inr h)
    ·rintro (h | h | h)
     ·exact .inr (.inl h)
     ·exact .inl h
     ·exact .inr (.inr h)
theorem insU_up {x : Int} : ∀ {l : List Int}, l.Pairwise (· < ·) → (insU x l).Pairwise (· < ·)
 | [], _ => by simp [insU]
 | y :: ys, h => by
  obtain ⟨h1, h2⟩ := List.pairwise_cons.mp h
  unfold insU
  split
  ·rename_i c
   refine List.pairwise_cons.mpr ⟨λ z hz => ?_, h⟩
   rcases List.mem_cons.mp hz with rfl | hz
   ·exact c
   ·exact Int.lt_trans c (h1 z hz)
  ·split
   ·exact h
   ·rename_i c d
    refine List.pairwise_cons.mpr ⟨λ z hz => ?_, insU_up h2⟩
    rcases mem_insU.mp hz with rfl | hz
    ·omega
    ·exact h1 z hz
theorem mem_sset {z : Int} : ∀ {ns : List Int}, z ∈ sset ns ↔ z ∈ ns
 | [] => by simp [sset]
 | n :: ns => by
  have := mem_sset (z := z) (ns := ns)
  unfold sset at this ⊢
  rw [List.foldr_cons, mem_insU, this, List.mem_cons]
theorem sset_up : ∀ ns : List Int, (sset ns).Pairwise (· < ·)
 | [] => List.Pairwise.nil
 | n :: ns => by
  have := sset_up ns
  unfold sset at this ⊢
  rw [List.foldr_cons]
  exact insU_up this
theorem up_ext : ∀ {l m : List Int}, l.Pairwise (· < ·) → m.Pairwise (· < ·) → (∀ z, z ∈ l ↔ z ∈ m) → l = m
 | [], [], _, _, _ => rfl
 | [], b :: m, _, _, h => by have := (h b).mpr List.mem_cons_self; cases this
 | a :: l, [], _, _, h => by have := (h a).mp List.mem_cons_self; cases this
 | a :: l, b :: m, hl, hm, h => by
  obtain ⟨l1, l2⟩ := List.pairwise_cons.mp hl
  obtain ⟨m1, m2⟩ := List.pairwise_cons.mp hm
  have e : a = b := by
   have p := (h a).mp List.mem_cons_self
   have q := (h b).mpr List.mem_cons_self
   rcases List.mem_cons.mp p with p | p
   ·exact p
   ·rcases List.mem_cons.mp q with q | q
    ·exact q.symm
    ·have := m1 a p
     have := l1 b q
     omega
  subst e
  congr 1
  refine up_ext l2 m2 λ z => ?_
  have := h z
  simp only [List.mem_cons] at this
  constructor
  ·intro hz
   have n := l1 z hz
   exact (this.mp (.inr hz)).resolve_left (by omega)
  ·intro hz
   have n := m1 z hz
   exact (this.mpr (.inr hz)).resolve_left (by omega)
theorem nodup_le : ∀ (ks : List Int) (m : List Int), ks.Nodup → (∀ x ∈ ks, x ∈ m) → ks.length ≤ m.length
 | [], m, _, _ => Nat.zero_le _
 | k :: ks, m, h, hs => by
  obtain ⟨h1, h2⟩ := List.nodup_cons.mp h
  have := nodup_le ks (m.erase k) h2 λ x hx => (List.mem_erase_of_ne (by rintro rfl; exact h1 hx)).mpr (hs x (List.mem_cons_of_mem _ hx))
  rw [List.length_erase_of_mem (hs k List.mem_cons_self)] at this
  have := List.length_pos_of_mem (hs k List.mem_cons_self)
  simp
  omega
theorem up_nodup {l : List Int} (h : l.Pairwise (· < ·)) : l.Nodup := h.imp λ h => by omega
theorem boot_set : bootBuiltins "set" = some (.type "set") := by decide +kernel
theorem boot_sorted : bootBuiltins "sorted" = some (.builtin "sorted") := by decide +kernel
theorem inv_kp {X : Cx} {pins : List (Addr × Obj)} {σ : St} {H : Hp} {s s1 : Shared} (I : Inv X pins σ H s) (k : Kp s s1) : Inv X pins σ H s1 := by
 have J := I.kept (t' := 0) k.heap
 exact ⟨J.ok, k.os.trans I.os, by rw [k.gens]; exact I.bare, J.base, J.loc, J.cell, J.free, J.freeC, J.pin, J.hok, J.len, J.sgm⟩
theorem vals_are : ∀ {ns : List Int} {its : List Value}, Vals (ns.map V.int) its → IntsAre its ns
 | [], its, h => by cases h; exact .nil
 | n :: ns, its, h => by
  rw [List.map_cons] at h
  cases h with
  | cons r rr =>
   obtain ⟨t, rfl⟩ := r
   exact .cons n t (vals_are rr)
theorem are_vals : ∀ {its : List Value} {ns : List Int}, IntsAre its ns → Vals (ns.map V.int) its
 | _, _, .nil => .nil
 | _, _, .cons n t r => .cons ⟨t, rfl⟩ (are_vals r)
theorem pe_sset {X : Cx} {a : Expr} {ta : TA} {p pos p' pos' : Pos} (hc : X.calm = true) (hgs : Gl X "sorted") (hms : X.mg "sorted" = none) (hg : Gl X "set") (hm : X.mg "set" = none) (ha : PA X [a] ta) (hs : noStar a = true) :
  PE X (.Call (.Name "sorted" p) [.Call (.Name "set" p') [a] [] pos'] [] pos) (λ σ H Q => ta σ H λ vs H1 => ∃ (q : Addr) (ns : List Int), vs = [.ref q] ∧ SqL X.K H1 q (ns.map V.int) ∧ (sset ns).length < 64 ∧ ∀ l, H1 l = none → Q (.ref l) (upd H1 l (.lst ((sset ns).map V.int)))) := by
 intro pins s σ H Q I h
 refine wpAny_Call_Name_kw (ld_blt I hgs hms boot_sorted ?_ (by decide) (by decide))
 refine PyProof.Rows.callWith_builtin1 ?_ (star_cons rfl) rfl
 rw [star_cons rfl]
 show wpAny _ _ (spliced ((false, eval _ X.env) :: backTo pos (starEach [] X.env))) _ _ s
 refine Calls.spliced_cons (Call_ (ld_blt I hg hm boot_set (PyProof.Rows.callWith_type1 (thn (ha pos' pins s σ H _ I h) λ us s1 ⟨vs, H1, I1, r1, q1⟩ => ?_) (star_cons hs) rfl)))
 obtain ⟨q, ns, e, hq, h64, hQ⟩ := q1
 subst e
 cases r1 with
 | cons r rr =>
  cases rr
  cases r
  obtain ⟨its, r', pl, hz⟩ := I1.list hq
  have ia := vals_are r'
  have hd := I1.ok.hd hc
  refine call_set (items := its.toArray) (ns := ns) hd pl.isList (by simpa using ia) (λ ks nd hk => ?_) λ h' tk o es ep t g1 g2 g3 g4 g5 => ?_
  ·have := nodup_le ks (sset ns) nd λ x hx => mem_sset.mpr (hk x hx)
   unfold scanBound
   omega
  ·have k1 : Kp s1 { s1 with heap := h', toks := tk } := ⟨λ c o e => g5 c o (Heap.lt_size e) e, rfl, rfl⟩
   have I2 := inv_kp I1 k1
   have sz : es.size < 64 := by
    have := nodup_le _ (sset ns) g3 λ x hx => mem_sset.mpr ((g4 x).mp hx)
    simp [kys] at this
    omega
   refine Calls.spliced_nil (sorted_set hd g1 g2 sz λ s2 h2 out ns' e a1 a2 a3 k2 k3 a4 => ?_)
   have I3 := inv_kp I2 k2
   have en : ns' = sset ns := by
    refine up_ext ?_ (sset_up ns) λ z => ?_
    ·have nd : ns'.Nodup := a2.nodup_iff.mpr g3
     have : ns'.Pairwise λ a b => a ≤ b ∧ a ≠ b := a3.and nd
     exact this.imp λ h => by omega
    ·rw [a2.mem_iff, g4, mem_sset]
   subst en
   exact ⟨.ref _, _, I3.laid (t' := s2.toks) k3 (Nat.le_refl _) (show ObjOk X.prog X.w _ h2 _ (.lst _) from ⟨by rw [List.length_map]; exact big1 (by omega), out, e, are_vals a1, by simpa [seqObj] using a4⟩), rfl, hQ _ (I3.hok.fresh (Nat.le_refl _))⟩
def ssetD : D → R (List D)
 | .lst ds => match intsD ds with
  | some ns => if (sset ns).length < 64 then .ok ((sset ns).map D.int) else .stuck
  | none => .stuck
 | _ => .stuck
section
variable {κ : Nat → Addr} {B : Gd} {X : Cx} {a : Expr} {fa : Ev → R D} {p pos p' pos' : Pos}
theorem pxf_sset (hc : X.calm = true) (hgs : Gl X "sorted") (hms : X.mg "sorted" = none) (hg : Gl X "set") (hm : X.mg "set" = none) (ha : PXr κ B X a fa) (h : noStar a = true) : PXf κ B X (.Call (.Name "sorted" p) [.Call (.Name "set" p') [a] [] pos'] [] pos) (λ δ => (fa δ).bind ssetD) := λ pins σ Ex =>
 pe_imp (pe_sset (X := At X pins σ Ex) hc hgs hms hg hm (pa_cons (X := At X pins σ Ex) (ha pins σ Ex) pa_nil (star_cons h)) h) λ τ H Q ⟨G, δ, rp, q⟩ => ⟨G, δ, rp, by
  dsimp only at q
  cases e : fa δ with
  | exc c => rw [e] at q; exact q
  | stuck => rw [e] at q; exact q
  | ok d =>
   rw [e] at q
   intro v H1 G1 e1 d1
   have q1 := fOut.pre e1 q
   change fOut X κ (EX X pins σ Ex) G1 H1 (ssetD d) Q at q1
   cases d with
   | lst ds =>
    simp only [ssetD] at q1
    split at q1
    ·rename_i ns en
     split at q1
     ·rename_i h64
      have fin : ∀ {q : Addr} {vs : List V}, SqL X.K H1 q vs → Dens ⟨X.K, κ⟩ G1 vs ds → ∃ (p : Addr) (ms : List Int), [V.ref q] = [V.ref p] ∧ SqL X.K H1 p (ms.map V.int) ∧ (sset ms).length < 64 ∧ ∀ l, H1 l = none → Q (.ref l) (upd H1 l (.lst ((sset ms).map V.int))) := λ {q vs} h1 h2 =>
       ⟨q, ns, rfl, dens_intsD h2 en ▸ h1, h64, λ l hl => q1 l _ _ G1 (ext_own e1.GH hl) upd_same (e1.GH.free hl) hl (dens_ints _)⟩
      rcases d1 with d1 | ⟨l, vs, es, rfl, e, h3, h4⟩
      ·unfold Den at d1
       obtain ⟨l, vs, rfl, h1, h2⟩ := d1
       exact fin (e1.GH.seq h1) h2
      ·cases e
       exact fin (SqL.of h3) h4
     ·exact False.elim q1
    ·exact False.elim q1
   | _ => exact False.elim q1⟩
end
end L3
namespace L3
open PySem PySem.Spec PyProof.Rows L2
def ρ2 : RRel (D × List D) := λ K κ H₀ G' H' v r => ∃ l x a vs, v = .ref l ∧ H' l = some (.lst [x, .ref a]) ∧ Den ⟨K, κ⟩ G' x r.1 ∧ H' a = some (.lst vs) ∧ G' a = none ∧ H₀ a = none ∧ Dens ⟨K, κ⟩ G' vs r.2
def mTwo (i j : Nat) : Ev → R (D × List D) := λ δ => match δ[i]?, δ[j]? with
 | some (some (.sh d)), some (some (.ow ds)) => .ok (d, ds)
 | _, _ => .stuck
section
variable {κ : Nat → Addr} {B : Gd} {X : Cx} {e : Expr} {pos pos' p1 p2 : Pos}
theorem pr_two (i j : Nat) {x y : Str} (hN : X.N[i]? = some x) (hv : Vis X.env.scope x) (hd : (x == ("__debug__" : Str)) = false) (hcd : (x == ("__classdict__" : Str)) = false)
  (hN2 : X.N[j]? = some y) (hv2 : Vis X.env.scope y) (hd2 : (y == ("__debug__" : Str)) = false) (hcd2 : (y == ("__classdict__" : Str)) = false) : PR κ B X (.List [.Name x p1, .Name y p2] pos) ρ2 (mTwo i j) := λ pins σ Ex =>
 pe_imp (pe_lst (X := At X pins σ Ex) (pa_cons (pe_var (X := At X pins σ Ex) hN hv hd hcd) (pa_cons (pe_var (X := At X pins σ Ex) hN2 hv2 hd2 hcd2) pa_nil))) λ τ H Q ⟨G, δ, rp, q⟩ => by
  unfold mTwo at q
  split at q
  ·rename_i r e
   split at e
   ·rename_i d ds e1 e2
    injection e with e
    subst e
    obtain ⟨v, y1, y2⟩ := rp.sh i _ e1
    obtain ⟨a, vs, x1, x2, x3, x4, x5⟩ := rp.ow j _ e2
    refine ⟨v, y1, .ref a, x1, big1 (by simp), λ p hp => ?_⟩
    have e3 := ext_own (o := .lst [v, .ref a]) rp.GH hp
    have na : a ≠ p := by rintro rfl; rw [x2] at hp; cases hp
    exact q _ _ G (rp.toHold.ext e3) ⟨p, v, a, vs, rfl, upd_same, y2, by rw [upd_ne na]; exact x2, x4, x5, x3⟩
   ·cases e
  ·exact q.elim
def PX2 (κ : Nat → Addr) (B : Gd) (X : Cx) (e : Expr) (f : Ev → R (D × List D)) : Prop := ∀ pins σ Ex, PE (At X pins σ Ex) e (λ τ H Q => ∃ G δ, Rep ⟨X.K, κ⟩ B X.H₀ G H τ δ ∧ Out (λ G' H' v r => ρ2 X.K κ H G' H' v r) κ (EX X pins σ Ex) G H (f δ) Q)
theorem px2_call {a : Expr} {es : List Expr} {fs : Ev → R (List D)} {p : Pos} {x : Str} {m : List D → R (D × List D)} {n : Nat} (c : Cxo X) (C : CalR κ X x n ρ2 m) (hn : (a :: es).length = n) (hg : Gl X x) (ha : PXs κ B X (a :: es) fs) (hdb : (x == ("__debug__" : Str)) = false) (h : (a :: es).all noStar = true)
  (hlen : ∀ δ ds, fs δ = .ok ds → ds.length = n) : PX2 κ B X (.Call (.Name x p) (a :: es) [] pos) (λ δ => (fs δ).bind m) := λ pins σ Ex => by
 have h' := h
 simp only [List.all_cons, Bool.and_eq_true] at h'
 obtain ⟨f, fd, ps, k, F, hr, hm, hk, hb⟩ := C.ex
 refine pe_imp (pe_call (X := At X pins σ Ex) (E := EX X pins σ Ex) F hr hg hm hk hb .nil (passes_at c) (ha pins σ Ex) hdb (star_cons h'.1) (back_any h'.2)) λ τ H Q ⟨G, δ, rp, q⟩ => ⟨G, δ, rp, ?_⟩
 dsimp only at q
 cases e : fs δ with
 | ok ds =>
  rw [e] at q
  intro v H1 G1 e1 d1
  rw [List.append_nil]
  refine ⟨by rw [Dens.length d1, hlen δ ds e], G1, ds, e1.GH, d1, ?_⟩
  have q' := Out.pre e1 q
  simp only [R.bind_ok] at q'
  cases z : m ds with
  | ok r =>
   rw [z] at q'
   rintro v' H' G' e2 ⟨l, x, b, ws, rfl, h1, h2, h3, h4, h5, h6⟩
   exact q' _ H' G' e2 ⟨l, x, b, ws, rfl, h1, h2, h3, h4, e1.sH.free h5, h6⟩
  | exc c => rw [z] at q'; exact q'
  | stuck => rw [z] at q'; exact q'
 | exc c => rw [e] at q; exact q
 | stuck => rw [e] at q; exact q
end
end L3
namespace L3
open PySem PySem.Spec PyProof.Rows L2
theorem toPs_map : ∀ ds : List D, toPs ds = ds.map toP
 | [] => rfl
 | d :: ds => by simp only [toPs, List.map_cons, toPs_map ds]
section
variable {κ : Nat → Addr} {B : Gd} {X : Cx} {a b c : Expr} {fa fb : Ev → R D} {pos p p' : Pos}
end
end L3
namespace L3
open PySem PySem.Spec PyProof.Rows L2
section
variable {κ : Nat → Addr} {B : Gd} {X : Cx} {sc : Scope} {x y : Str} {px py pos spos : Pos} {iter elt : Expr} {ifs : List Expr} {fit : Ev → R (List D)} {t : Ev → R Bool} {f : Ev → R D} {i j : Nat}
end
end L3
namespace L3
open PySem PySem.Spec PyProof.Rows L2
def Itz (K : PySem.W.Frag) (a b : Addr) : It :=
  ⟨λ i H => ∃ xs ys x y, SqL K H a xs ∧ SqL K H b ys ∧ xs[i]? = some x ∧ ys[i]? = some y,
   λ i H x H' => ∃ v w p, (∀ xs, SqL K H a xs → xs[i]? = some v) ∧ (∀ ys, SqL K H b ys → ys[i]? = some w) ∧ H p = none ∧ x = .ref p ∧ H' = upd H p (.tup [v, w]),
   λ i H => ∃ xs ys, SqL K H a xs ∧ SqL K H b ys ∧ (xs.length ≤ i ∨ ys.length ≤ i)⟩
structure ZApart (z TI TO i1 i2 : Addr) : Prop where
 a1 : TI ≠ z
 a2 : TO ≠ z
 a3 : i1 ≠ z
 a4 : i2 ≠ z
 a5 : TI ≠ TO
 a6 : TI ≠ i1
 a7 : TI ≠ i2
 a8 : TO ≠ i1
 a9 : TO ≠ i2
 a10 : i1 ≠ i2
def ZSt (z TI TO i1 i2 l1 l2 : Addr) (i : Nat) (h : Heap) : Prop :=
 IsZip h z TI TO .none ∧ IsPair h TI (.ref i1) (.ref i2) ∧ (∃ a b, IsPair h TO a b) ∧ h.IsListIter i1 l1 i ∧ h.IsListIter i2 l2 i
theorem list_ne_of {h : Heap} {l b : Addr} {its : Array Value} {o : Obj} {n : String} (hl : h.IsList l its) (ho : h.get? b = some o) (hc : o.cls = .type n) (hn : n ≠ "list") : l ≠ b := by
 rintro rfl
 obtain ⟨o', h1, h2, _⟩ := hl
 rw [h1] at ho
 cases ho
 rw [h2] at hc
 cases hc
 exact hn rfl
theorem iter_cls {h : Heap} {it l : Addr} {i : Nat} (hi : h.IsListIter it l i) : ∃ o, h.get? it = some o ∧ o.cls = .type "list_iterator" := by
 obtain ⟨o, h1, h2, _⟩ := hi
 exact ⟨o, h1, h2⟩
theorem ZApart.full {z TI TO i1 i2 l1 l2 : Addr} {h : Heap} {i : Nat} {xs ys : Array Value} (D : ZApart z TI TO i1 i2) (st : ZSt z TI TO i1 i2 l1 l2 i h) (h1 : h.IsList l1 xs) (h2 : h.IsList l2 ys) : ZipApart z TI TO i1 i2 l1 l2 := by
 obtain ⟨s1, s2, ⟨a, b, s3⟩, s4, s5⟩ := st
 obtain ⟨o4, g4, c4⟩ := iter_cls s4
 obtain ⟨o5, g5, c5⟩ := iter_cls s5
 exact ⟨D.a1, D.a2, D.a3, D.a4, D.a5, D.a6, D.a7, D.a8, D.a9, D.a10, list_ne_of h1 s1 rfl (by decide), list_ne_of h1 s3 rfl (by decide), list_ne_of h1 g4 c4 (by decide), list_ne_of h1 g5 c5 (by decide), list_ne_of h2 s1 rfl (by decide), list_ne_of h2 s3 rfl (by decide), list_ne_of h2 g4 c4 (by decide), list_ne_of h2 g5 c5 (by decide)⟩
theorem turn_zip {P : Program} {w : World} {K : PySem.W.Frag} {tgs : List Expr} {kk : Nat} {tpos : Pos} (l1 l2 z TI TO i1 i2 : Addr) (D : ZApart z TI TO i1 i2) : Turn P w K (.Tuple tgs kk tpos) (Itz K l1 l2) [z, TI, TO, i1, i2] z (ZSt z TI TO i1 i2 l1 l2) where
 mem := by simp
 obj := λ i h st b hb => by
  obtain ⟨s1, s2, ⟨a, b', s3⟩, ⟨o4, s4, _, d4⟩, ⟨o5, s5, _, d5⟩⟩ := st
  simp only [List.mem_cons, List.not_mem_nil, or_false] at hb
  rcases hb with rfl | rfl | rfl | rfl | rfl
  ·exact ⟨_, s1, λ v y => nomatch (show Data.fields _ = Data.cell v from y)⟩
  ·exact ⟨_, s2, λ v y => nomatch (show Data.seq _ _ = Data.cell v from y)⟩
  ·exact ⟨_, s3, λ v y => nomatch (show Data.seq _ _ = Data.cell v from y)⟩
  ·exact ⟨o4, s4, λ v y => by rw [d4] at y; cases y⟩
  ·exact ⟨o5, s5, λ v y => by rw [d5] at y; cases y⟩
 keep := λ i h h' st k => by
  obtain ⟨s1, s2, ⟨a, b', s3⟩, s4, s5⟩ := st
  exact ⟨k z (by simp) _ s1, k TI (by simp) _ s2, ⟨a, b', k TO (by simp) _ s3⟩, s4.at λ o x => k i1 (by simp) o x, s5.at λ o x => k i2 (by simp) o x⟩
 item := by
  intro X hP hw hK hc i pins s σ H E I hf st hg
  subst hP hw hK
  obtain ⟨xs, ys, x, y, hq1, hq2, hx, hy⟩ := hg
  obtain ⟨its1, rv1, p1, _⟩ := I.list hq1
  obtain ⟨its2, rv2, p2, _⟩ := I.list hq2
  obtain ⟨u, hu, ru⟩ := rv1.get hx
  obtain ⟨v, hv, rv⟩ := rv2.get hy
  have F := D.full st p1.isList p2.isList
  obtain ⟨s1, s2, ⟨a, b', s3⟩, s4, s5⟩ := st
  have hzs : z < s.heap.objs.size := Heap.lt_size s1
  refine wpAny_pyNext_zip_item F s1 s2 s3 s4 s5 p1.isList p2.isList (x := u) (by simpa using hu) (y := v) (by simpa using hv) λ h' e1 e2 e3 e4 e5 e6 hk => ⟨_, rfl, ?_⟩
  refine wpAny_letOwnedTupleGo_zip e1 λ h'' he hsb => ?_
  have hn : H s.heap.objs.size = none := I.hok.fresh (Nat.le_refl _)
  have tup : h''.get? s.heap.objs.size = some { cls := .type "tuple", data := .seq #[u, v] } := hsb.extBut _ _ (Nat.ne_of_gt hzs) e5
  have kp : ∀ b o, b ≠ z → b ≠ TO → b ≠ i1 → b ≠ i2 → s.heap.get? b = some o → h''.get? b = some o := λ b o n1 n2 n3 n4 q => hsb.extBut b o n1 (hk b o n1 n2 n3 n4 q)
  have nin : ∀ {b : Addr}, b ∉ [z, TO, i1, i2] → b ≠ z ∧ b ≠ TO ∧ b ≠ i1 ∧ b ≠ i2 := λ {b} h => by simpa using h
  have kpc : ∀ b o, b ∉ [z, TO, i1, i2] → s.heap.get? b = some o → h''.get? b = some o := λ b o h q => kp b o (nin h).1 (nin h).2.1 (nin h).2.2.1 (nin h).2.2.2 q
  have sub : ∀ b, b ∈ [z, TO, i1, i2] → b ∈ [z, TI, TO, i1, i2] := λ b h => by
   simp only [List.mem_cons, List.not_mem_nil, or_false] at h ⊢
   rcases h with h | h | h | h <;> simp [h]
  have ne_tr : ∀ b o, H b = some o → b ∉ [z, TO, i1, i2] := λ b o q h => by rw [(hf b (sub b h)).1] at q; cases q
  have nep : ∀ b o, s.heap.get? b = some o → b ≠ s.heap.objs.size := λ b o q => Nat.ne_of_lt (Heap.lt_size q)
  have J := I.step (H' := upd H s.heap.objs.size (.tup [x, y])) (h' := h'') (g' := s.gens) (d' := s.drawn) (t' := s.toks) (ch := [z, TO, i1, i2]) (λ b hb => by
    obtain ⟨f0, f1, f2, f3, f4, f5⟩ := hf b (sub b hb)
    exact ⟨f3.imp id Heap.get?_none_of_le, f1, f4, f5⟩)
   (λ b o _ _ hch q _ => kpc b o hch q) (λ b o _ _ hch q _ => ⟨o.slots, kpc b o hch q⟩) (λ b o _ q n => by rw [upd_ne (nep b o q)]; exact n)
   (λ b o hch q => ⟨o, kpc b o hch q⟩) (λ b xs q => by rw [upd_ne (ne_of_none q hn)]; exact q) (λ b o u q => by rw [upd_ne (ne_of_none q hn)]; exact q) (λ b ps q => ⟨#[], by rw [upd_ne (ne_of_none q hn), q]; simp⟩)
   (λ m hm => by
    obtain ⟨o, es, ep, ho', r⟩ := hm
    exact ⟨o, es, ep, kpc _ o (λ h => (hf _ (sub _ h)).2.1 rfl) ho', r⟩)
   (λ b o q => by
    by_cases hb : b = s.heap.objs.size
    ·subst hb
     rw [upd_same] at q
     cases q
     exact ⟨by simp [sizeLine_eq], [u, v], .cons ru (.cons rv .nil), _, tup, rfl, _, rfl⟩
    ·rw [upd_ne hb] at q
     refine (I.hok b o q).stay (λ c v hc q' => ?_) (λ c q' => by rw [upd_ne (ne_of_none q' hn)]; exact q') λ c xs q' => by rw [upd_ne (ne_of_none q' hn)]; exact q'
     refine kpc c v ?_ q'
     rcases hc with z' | z'
     ·rw [z']; exact ne_tr b o q
     ·exact ne_tr c _ z') I.bare
  refine ⟨.ref s.heap.objs.size, _, J, rfl, ⟨x, y, _, λ zs hz => by rw [I.list_inj hz hq1]; exact hx, λ zs hz => by rw [I.list_inj hz hq2]; exact hy, hn, rfl, rfl⟩, ⟨he, hsb.extBut _ _ D.a1 (hk _ _ D.a1 D.a5 D.a6 D.a7 s2), ⟨_, _, hsb.extBut _ _ D.a2 e2⟩, e3.extBut hsb.extBut D.a3, e4.extBut hsb.extBut D.a4⟩, λ b hb => ?_⟩
  have hlt : b < s.heap.objs.size := by
   simp only [List.mem_cons, List.not_mem_nil, or_false] at hb
   rcases hb with rfl | rfl | rfl | rfl | rfl
   ·exact hzs
   ·exact Heap.lt_size s2
   ·exact Heap.lt_size s3
   ·obtain ⟨o, ho', _⟩ := s4; exact Heap.lt_size ho'
   ·obtain ⟨o, ho', _⟩ := s5; exact Heap.lt_size ho'
  rw [upd_ne (Nat.ne_of_lt hlt)]
  exact (hf b hb).1
 done := by
  intro X hP hw hK hc i pins s σ H E I hf st hg
  subst hP hw hK
  obtain ⟨xs, ys, hq1, hq2, hx⟩ := hg
  obtain ⟨its1, rv1, p1, _⟩ := I.list hq1
  obtain ⟨its2, rv2, p2, _⟩ := I.list hq2
  have F := D.full st p1.isList p2.isList
  obtain ⟨s1, s2, ⟨a, b', s3⟩, s4, s5⟩ := st
  have hl1 := rv1.length
  have hl2 := rv2.length
  have sub : ∀ b, b ∈ [z, TO, i1, i2] → b ∈ [z, TI, TO, i1, i2] := λ b h => by
   simp only [List.mem_cons, List.not_mem_nil, or_false] at h ⊢
   rcases h with h | h | h | h <;> simp [h]
  refine wpAny_pyNext_zip_end (I.ok.hd hc) F s1 s2 s3 s4 s5 p1.isList p2.isList (hx.imp (λ h => by simp; omega) λ h => by simp; omega) λ h' hk => ⟨rfl, ?_⟩
  have nin : ∀ {b : Addr}, b ∉ [z, TO, i1, i2] → b ≠ z ∧ b ≠ TO ∧ b ≠ i1 ∧ b ≠ i2 := λ {b} h => by simpa using h
  have kpc : ∀ b o, b ∉ [z, TO, i1, i2] → s.heap.get? b = some o → h'.get? b = some o := λ b o h q => hk b o (nin h).1 (nin h).2.1 (nin h).2.2.1 (nin h).2.2.2 q
  have ne_tr : ∀ b o, H b = some o → b ∉ [z, TO, i1, i2] := λ b o q h => by rw [(hf b (sub b h)).1] at q; cases q
  refine I.step (g' := s.gens) (d' := s.drawn) (t' := s.toks) (ch := [z, TO, i1, i2]) (λ b hb => ?_) (λ b o _ _ hch e _ => kpc b o hch e) (λ b o _ _ hch e _ => ⟨o.slots, kpc b o hch e⟩) (λ _ _ _ _ n => n)
   (λ b o hch e => ⟨o, kpc b o hch e⟩) (λ _ _ e => e) (λ _ _ _ e => e) (λ b ps e => ⟨#[], by rw [e]; simp⟩) (λ m hm => ?_) (λ b u e => ?_) I.bare
  ·obtain ⟨f0, f1, f2, f3, f4, f5⟩ := hf b (sub b hb)
   exact ⟨f3.imp id Heap.get?_none_of_le, f1, f4, f5⟩
  ·obtain ⟨o, es, ep, ho, r⟩ := hm
   exact ⟨o, es, ep, kpc _ o (λ h => (hf _ (sub _ h)).2.1 rfl) ho, r⟩
  ·refine (I.hok b u e).stay (λ c v hc q => kpc c v ?_ q) (λ _ q => q) λ _ _ q => q
   rcases hc with z' | z'
   ·rw [z']; exact ne_tr b u e
   ·exact ne_tr c _ z'
 self := λ _ _ _ _ _ st h => wpAny_pyIter_zip st.1 h
def zipL : List D → List D → List D
 | x :: xs, y :: ys => .tup [x, y] :: zipL xs ys
 | _, _ => []
def zipD : List D → R (List D)
 | [.lst xs, .lst ys] => .ok (zipL xs ys)
 | _ => .stuck
theorem zipL_get : ∀ (xs ys : List D) (i : Nat) (d : D), (zipL xs ys)[i]? = some d → ∃ x y, xs[i]? = some x ∧ ys[i]? = some y ∧ d = .tup [x, y]
 | [], _, _, _, h => by simp [zipL] at h
 | _ :: _, [], _, _, h => by simp [zipL] at h
 | x :: xs, y :: ys, 0, d, h => by simp [zipL] at h; exact ⟨x, y, rfl, rfl, h.symm⟩
 | x :: xs, y :: ys, i + 1, d, h => by
  simp only [zipL, List.getElem?_cons_succ] at h
  obtain ⟨a, b, h1, h2, h3⟩ := zipL_get xs ys i d h
  exact ⟨a, b, by simpa using h1, by simpa using h2, h3⟩
theorem zipL_len : ∀ (xs ys : List D), (zipL xs ys).length = min xs.length ys.length
 | [], _ => by simp [zipL]
 | _ :: _, [] => by simp [zipL]
 | x :: xs, y :: ys => by simp only [zipL, List.length_cons, zipL_len xs ys]; omega
theorem isItG_zip {X : Cx} {κ : Nat → Addr} {G : Hp} {a b : Addr} {vs us : List V} {ds es : List D} (h1 : SqL X.K G a vs) (d1 : Dens ⟨X.K, κ⟩ G vs ds) (h2 : SqL X.K G b us) (d2 : Dens ⟨X.K, κ⟩ G us es) : IsItG X κ (Itz X.K a b) G (zipL ds es) := by
 intro H' G' s1 s2 i
 have sq1 : SqL X.K H' a vs := (s1.trans s2).seq h1
 have sq2 : SqL X.K H' b us := (s1.trans s2).seq h2
 refine ⟨λ e he => ?_, λ hi => ⟨vs, us, sq1, sq2, by rw [d1.length, d2.length]; rw [zipL_len] at hi; omega⟩⟩
 obtain ⟨x, y, hx, hy, rfl⟩ := zipL_get ds es i e he
 obtain ⟨v, hv, dv⟩ := d1.get hx
 obtain ⟨w, hw, dw⟩ := d2.get hy
 refine ⟨⟨vs, us, v, w, sq1, sq2, hv, hw⟩, ?_⟩
 rintro x H'' ⟨v', w', p, q1, q2, q3, rfl, rfl⟩
 have q1 := q1 vs sq1
 have q2 := q2 us sq2
 rw [hv] at q1
 rw [hw] at q2
 cases q1
 cases q2
 have ee := ext_new (o := .tup [v, w]) s2 q3
 refine ⟨_, ee, ?_⟩
 unfold Den
 exact ⟨p, _, rfl, SqT.of upd_same, dens_cons ((dv.mono s1).mono ee.sG) (dens_cons ((dw.mono s1).mono ee.sG) dens_nil)⟩
theorem boot_zip' : bootBuiltins "zip" = some (.type "zip") := by decide +kernel
section
variable {κ : Nat → Addr} {B : Gd} {X : Cx} {a b : Expr} {fs : Ev → R (List D)} {tgs : List Expr} {kk : Nat} {p pos tpos : Pos}
end
end L3
namespace L3
open PySem PySem.Spec PyProof.Rows L2
section
variable {κ : Nat → Addr} {B : Gd} {X : Cx} {e : Expr} {f : Ev → R D} {t : Ev → R Bool}
end
end L3
namespace L3
open PySem PySem.Spec PyProof.Rows L2
def ixP (ds : List D) (d : D) : Nat := ds.findIdx λ e => eqD e d
def oIndex (x : D) (ys : List D) : R D := match x, ys with
 | .lst ds, [d] => if okP d && okP (.lst ds) && decide (ixP ds d < ds.length) && decide (ds.length ≤ 1000000) then .ok (.int ((ixP ds d : Nat) : Int)) else .stuck
 | _, _ => .stuck
def rIdx (X : Cx) (κ : Nat → Addr) : V → List V → Hp → VK → Prop := λ v us H Q => ∃ G ds d u, us = [u] ∧ Same G H ∧ rRel X κ G H v (.lst ds) ∧ rRel X κ G H u d ∧ okP d = true ∧ okP (.lst ds) = true ∧ ixP ds d < ds.length ∧ ds.length ≤ 1000000 ∧ Q (.int ((ixP ds d : Nat) : Int)) H
section
variable {κ : Nat → Addr} {B : Gd} {X : Cx} {a b c : Expr} {fa fb : Ev → R D} {pos p p' : Pos}
theorem mt_index (hu : X.A.units + 64 < cLine) : ∀ Y : Cx, Y.K = X.K → Y.A = X.A → MtR Y "list.index" (rIdx X κ) := by
 intro Y eK eA pins s σ H x vs v us Q I rx rv ⟨G, ds, d, u, e1, sm, d1, d2, o1, o2, hj, hz, q⟩
 subst e1
 obtain ⟨u', rfl, ru⟩ := rv.one
 have o1 := Bool.and_eq_true_iff.mp o1
 have o2 := Bool.and_eq_true_iff.mp o2
 obtain ⟨as, q1⟩ := reads_rel I sm (rRel_K eK d1) o2.1 rx
 obtain ⟨bs, q2⟩ := reads_rel I sm (rRel_K eK d2) o1.1 ru
 have c2 := SeqAt.canLay_of_shaped o2.2
 have e2 := SeqAt.depth_of_shaped o2.2
 have c2' : PyData.canLayAll0 (toPs ds) = true := by simpa [toP, PyData.canLay0] using c2
 generalize hL : toP (D.lst ds) = L at q1
 have hL' : L = .list (toPs ds) := by rw [← hL]; rfl
 subst hL'
 cases q1 with
 | list h1 h2 h3 h4 =>
  rename_i l o items n as
  have hdep : Y.A.units + 1 + min (PyData.depthAll (toPs ds)) (toP d).depth < cLine := by
   rw [eA]
   simp only [toP, PyData.depth] at e2
   have := Nat.min_le_left (PyData.depthAll (toPs ds)) (toP d).depth
   omega
  have hmap := SeqAt.readsAll_map (toPs ds) _ _ c2' h4
  rw [toPs_map] at hmap
  have hlen : items.size = ds.length := by
   have := congrArg List.length hmap
   simpa using this
  have hval : ∀ m (hm : m < items.size), PyData.eqv (SeqAt.readOf s.heap items[m]) (toP d) = eqD (ds[m]'(by omega)) d := λ m hm => by
   have := congrArg (λ z : List PyData => z[m]?) hmap
   simp [hm, show m < ds.length by omega] at this
   rw [this]
   rfl
  obtain ⟨oc, od, odt, osl⟩ := o
  have h2 : oc = .type "list" := h2
  have h3 : odt = .seq items n := h3
  subst h2 h3
  refine call_meets F.slot_list_index ⟨_, h1, rfl⟩ F.entry_list_index (F.args_list_index_2 _ _) (SeqAt.list_indexAt l items n od osl u' (λ y => PyData.eqv (SeqAt.readOf s.heap y) (toP d)) (ixP ds d) (by omega) (by omega) ?_ ?_) ⟨h1, SeqAt.items_eqAt h4 q2 c2' (SeqAt.canLay_of_shaped o1.2) hdep, ?_⟩
  ·rw [hval _ (by omega)]
   exact List.findIdx_getElem (p := λ e => eqD e d) (w := hj)
  ·intro m hm hlt
   rw [hval m hm]
   have := List.not_of_lt_findIdx (p := λ e => eqD e d) hlt
   simpa using this
  ·exact ⟨.int _, H, I.tok _, ⟨_, rfl⟩, q⟩
theorem y_index {o e : Expr} {fo : Ev → R D} {fs : Ev → R (List D)} {apos : Pos} (hu : X.A.units + 64 < cLine) (ho : PXr κ B X o fo) (ha : PXs κ B X [e] fs) (hs : noStar e = true) (hline : (apos.endLine == pos.line) = true) (hbase : attributeBase o "index" X.env (eval o X.env) = eval o X.env) :
  PX κ B X (.Call (.Attribute o "index" apos) [e] [] pos) (mBL oIndex fo fs) := λ pins σ Ex =>
 pe_imp (pe_bm (X := At X pins σ Ex) F.plainAttrs_list F.slot_list_index F.type_list_index (mt_index (κ := κ) hu (At X pins σ Ex) rfl rfl) (ho pins σ Ex) (ha pins σ Ex) hbase (back_all hs) hline (star_cons hs) rfl) λ τ H Q ⟨G, δ, rp, q⟩ => ⟨G, δ, rp, q.seq λ x v H1 G1 e1 d1 q1 => by
  cases x with
  | lst ds =>
   obtain ⟨l, vs, rfl, h1, h2⟩ := rLst e1.GH d1
   refine ⟨.inl ⟨rfl, vs, h1⟩, G1, δ, rp.ext e1, q1.seq λ ys us H2 G2 e2 d2 q2 => ?_⟩
   unfold oIndex at q2
   split at q2
   ·rename_i ds' d hx
    cases hx
    split at q2
    ·rename_i hf
     simp only [Bool.and_eq_true, decide_eq_true_eq] at hf
     obtain ⟨⟨⟨f1, f2⟩, f3⟩, f4⟩ := hf
     match us, d2 with
     | [u], d2 =>
      unfold dsRel Dens at d2
      exact ⟨G2, ds, d, u, rfl, e2.GH, rRel_mono e2 d1, .inl d2.1, f1, f2, f3, f4, q2 _ H2 G2 (Ext.refl e2.GH) (by unfold dRel Den; rfl)⟩
     | [], d2 => unfold dsRel Dens at d2; exact d2.elim
     | _ :: _ :: _, d2 => unfold dsRel Dens at d2; have := d2.2; unfold Dens at this; exact this.elim
    ·exact q2.elim
   ·exact q2.elim
  | _ => exact False.elim q1⟩
end
end L3
namespace L3
open PySem PySem.Spec PyProof.Rows L2
structure CompOkG (X : Cx) (sc : Scope) (N0 xs : List Str) : Prop where
 cell : ∀ y ∈ sc.names, y.2 ≠ .cell
 kind : sc.kind = .function
 names : ∀ y ∈ sc.names, y.2 = .local → sc.names.lookup y.1 = some .local
 len : N0.length = X.N.length
 old : ∀ (i : Nat) y, N0[i]? = some y → X.N[i]? = some y ∨ sc.names.lookup y = none
 loc : ∀ y ∈ N0, sc.names.lookup y ≠ some .local
 fr : ∀ y ∈ sc.names, y.2 = .free → X.env.scope.names.lookup y.1 = some .cell
abbrev CmpG (X : Cx) (sc : Scope) (cl : List (Str × Addr)) (C : Addr) (s₁ : Shared) (H₁ : Hp) (pn : List (Addr × Obj)) (N' : List Str) : Cx :=
 { X with env := compEnvC sc cl C X.env, N := N', s₀ := s₁, H₀ := H₁, outer := X.stack, stack := X.stack, ex := [], fn := λ _ => false, pn := pn, xe := λ _ _ => False, sg := λ _ _ => True }
structure CmpIsG (X : Cx) (sc : Scope) (N' : List Str) (X' : Cx) : Prop where
 cxo : Cxo X'
 calm : X'.calm = X.calm
 A : X'.A = X.A
 mg : X'.mg = X.mg
 K : X'.K = X.K
 N : X'.N = N'
 look : ∀ {y : Str} {k : NameKind}, sc.names.lookup y = some k → k ≠ .free → X'.env.scope.names.lookup y = some k
 vis : ∀ {y : Str}, sc.names.lookup y = some .free → Vis X'.env.scope y
 cal : ∀ {κ : Nat → Addr} {y : Str} {n : Nat} {m : List D → R D}, Cal κ X y n m → Cal κ X' y n m
 cls : ∀ {κ : Nat → Addr} {c : Nat} {ns : List Str}, ClsM κ X.K c ns → ClsM κ X'.K c ns
 mth : ∀ {κ : Nat → Addr} {c : Nat} {y : Str} {n : Nat} {m : List D → R D}, Mth κ X c y n m → Mth κ X' c y n m
theorem compOld {N0 N : List Str} {ns : List (Str × NameKind)} (h : (decide (N0.length ≤ N.length) && (N0.zip N).all λ p => p.1 == p.2 || (ns.lookup p.1).isNone) = true) : ∀ (i : Nat) y, N0[i]? = some y → N[i]? = some y ∨ ns.lookup y = none := by
 intro i y e
 rw [Bool.and_eq_true, decide_eq_true_eq, List.all_eq_true] at h
 have hi := (List.getElem?_eq_some_iff.mp e).1
 have hi2 : i < N.length := by omega
 have := h.2 (y, N[i]) (by
  rw [List.mem_iff_getElem?]
  refine ⟨i, ?_⟩
  rw [List.getElem?_zip_eq_some]
  exact ⟨e, List.getElem?_eq_getElem hi2⟩)
 simp only [Bool.or_eq_true, beq_iff_eq, Option.isNone_iff_eq_none] at this
 rcases this with h | h
 ·exact .inl (by rw [List.getElem?_eq_getElem hi2, h])
 ·exact .inr h
theorem cmp_isG {X : Cx} {sc : Scope} {N' : List Str} {cl : List (Str × Addr)} {C : Addr} {s₁ : Shared} {H₁ : Hp} {pn : List (Addr × Obj)} : CmpIsG X sc N' (CmpG X sc cl C s₁ H₁ pn N') where
 cxo := ⟨λ _ _ => trivial, rfl⟩
 calm := rfl
 A := rfl
 mg := rfl
 K := rfl
 N := rfl
 look := λ h hk => cmp_look (s₁ := s₁) (H₁ := H₁) (pn := pn) (x := "") h hk
 vis := λ h => cmp_vis (s₁ := s₁) (H₁ := H₁) (pn := pn) (x := "") h
 cal := λ c => ⟨c.ex⟩
 cls := λ c => c
 mth := λ c => ⟨c.ex⟩
section
variable {X : Cx} {sc : Scope} {N0 xs : List Str} {cl : List (Str × Addr)} {C : Addr} {sb s4 : Shared} {Hb H4 : Hp} {pins : List (Addr × Obj)} {σ : St} {m : Str → Option Value} {E : Value → Shared → Prop}
theorem cmp_enterG (I : Inv X pins σ Hb sb) (I4 : Inv X pins σ H4 s4) (u : Un (frs X.stack) [] Hb H4 sb.heap s4.heap) (ho : s4.os = sb.os) (co : CompOkG X sc N0 xs)
  (cl1 : ∀ y c, cl.lookup y = some c → X.env.cells.lookup y = some c) (cl2 : ∀ y, (y, NameKind.free) ∈ sc.names → ∃ c, cl.lookup y = some c)
  (hC : sb.heap.objs.size ≤ C) (hns : s4.heap.Ns C m) (hCn : H4 C = none) : Inv ((CmpG X sc cl C sb Hb (X.pn ++ pins) (N0 ++ xs)).wish E) [] (σ ++ List.replicate xs.length none) H4 s4 := by
 have lt : ∀ {b o}, sb.heap.get? b = some o → b ≠ C := λ {b o} e z => absurd (Nat.lt_of_lt_of_le (Heap.lt_size e) (z ▸ hC)) (Nat.lt_irrefl _)
 have look_of : ∀ {y k}, (CmpG X sc cl C sb Hb (X.pn ++ pins) (N0 ++ xs)).env.scope.names.lookup y = some k → ∃ k', sc.names.lookup y = some k' ∧ k = (if (k' == NameKind.free && X.env.scope.kind == .function && X.env.kindOf y == some .cell) then NameKind.cell else k') := λ {y k} h => by
  have r := @relabel_lookup X.env sc.names y
  cases q : sc.names.lookup y with
  | none => rw [q] at r; have := h.symm.trans r; cases this
  | some k' =>
   rw [q] at r
   have := h.symm.trans r
   injection this with this
   exact ⟨k', rfl, this⟩
 have free_of : ∀ {y}, ((CmpG X sc cl C sb Hb (X.pn ++ pins) (N0 ++ xs)).env.scope.names.lookup y = some .cell ∨ (CmpG X sc cl C sb Hb (X.pn ++ pins) (N0 ++ xs)).env.scope.names.lookup y = some .free) → sc.names.lookup y = some .free := λ {y} h => by
  have key : ∀ k, (k = NameKind.cell ∨ k = .free) → (CmpG X sc cl C sb Hb (X.pn ++ pins) (N0 ++ xs)).env.scope.names.lookup y = some k → sc.names.lookup y = some .free := λ k hk h => by
   obtain ⟨k', q, e⟩ := look_of h
   by_cases hf : k' = .free
   ·rw [q, hf]
   ·exfalso
    have hb : (k' == NameKind.free) = false := by simpa using hf
    simp only [hb, Bool.false_and, Bool.false_eq_true, if_false] at e
    subst e
    rcases hk with rfl | rfl
    ·exact co.cell _ (mem_look q) rfl
    ·exact hf rfl
  rcases h with h | h
  ·exact key _ (.inl rfl) h
  ·exact key _ (.inr rfl) h
 have hlen4 : σ.length = X.N.length := I4.len
 refine ⟨⟨I.ok.mod, co.kind, I.ok.glob, I.ok.blt, hC, λ y z c h1 h2 => I.ok.inj y z c (cl1 y c h1) (cl1 z c h2), λ y h => cl2 y (mem_look (free_of h)), (λ y c h => Bool.noConfusion h), I.ok.hd, I.ok.frames, .inl rfl, (λ b hb => by cases hb), λ b o e => I.bs b o e, Nat.le_trans I.ok.bsz I.sz, (λ b o e hb => by cases hb), (λ b hb => by cases hb), I.stack, I.stkFree⟩,
  ho, I4.bare, u, ⟨m, hns, λ i y v e1 e2 e3 => ?_⟩, λ y c h => I4.cell y c (cl1 y c h), hCn, λ y c h => I4.freeC y c (cl1 y c h), λ p hp => ?_, I4.hok, ?_, trivial⟩
 ·by_cases hi : i < σ.length
  ·rw [List.getElem?_append_left hi] at e2
   have hl0 : i < N0.length := by have := co.len; omega
   have e0 : N0[i]? = some y := by
    have : (N0 ++ xs)[i]? = some y := e1
    rwa [List.getElem?_append_left hl0] at this
   rcases co.old i y e0 with e1' | hno
   ·have hy : y ∈ N0 := List.mem_of_getElem? e0
    rcases e3 with e3 | e3
    ·exfalso
     obtain ⟨k', q, e⟩ := look_of e3
     split at e
     ·cases e
     ·rw [← e] at q
      exact co.loc y hy q
    ·have hf := free_of e3
     have hcell := co.fr (y, .free) (mem_look hf) rfl
     obtain ⟨c, hc⟩ := cl2 y (mem_look hf)
     obtain ⟨m', _, hl⟩ := I4.loc
     obtain ⟨w, r, l⟩ := hl i y v e1' e2 (.inr (.inl hcell))
     refine ⟨w, r, .inr ⟨e3, c, hc, ?_⟩⟩
     rcases l with ⟨hk, _⟩ | ⟨_, c', hc', z⟩
     ·have : X.env.scope.names.lookup y = some .local := hk
      rw [hcell] at this; cases this
     ·have := (cl1 y c hc).symm.trans hc'
      cases this
      exact z
   ·exfalso
    rcases e3 with e3 | e3
    ·obtain ⟨k', q, _⟩ := look_of e3
     rw [hno] at q; cases q
    ·have hf := free_of e3
     rw [hno] at hf; cases hf
  ·rw [List.getElem?_append_right (by omega), List.getElem?_replicate] at e2
   split at e2 <;> cases e2
 ·have hp : p ∈ X.pn ++ pins := by simpa using hp
  obtain ⟨a1, a2, a3, a4, a5⟩ := I4.pin p hp
  obtain ⟨b1, _⟩ := I.pin p hp
  exact ⟨a1, a2, lt b1, λ z => by
   rcases List.mem_cons.mp (I.stkSub _ z) with e | e
   ·exact a3 e
   ·exact a4 e, a5⟩
 ·show (σ ++ List.replicate xs.length none).length = (N0 ++ xs).length
  simp [I4.len, co.len]
theorem cmp_leaveG {N' : List Str} {pins' : List (Addr × Obj)} {σ' : St} {s' : Shared} {H' : Hp} {h' : Heap} (I : Inv X pins σ Hb sb) (J : Inv ((CmpG X sc cl C sb Hb (X.pn ++ pins) N').wish E) pins' σ' H' s') (hC : sb.heap.objs.size ≤ C) (sbt : Heap.SameBut C s'.heap h') : Inv X pins σ H' { s' with heap := h' } := by
 have I1 : Inv X pins σ H' s' := I.call' (ch := []) J.os J.base J.hok J.bare (λ b z => by cases z)
 have lt : ∀ {b o}, sb.heap.get? b = some o → b ≠ C := λ {b o} e z => absurd (Nat.lt_of_lt_of_le (Heap.lt_size e) (z ▸ hC)) (Nat.lt_irrefl _)
 refine I1.turned (t' := s'.toks) (it := C) (λ b o hb e => sbt.extBut b o hb e) J.free (λ z => ?_) (.inr (Nat.le_trans I.sz hC)) (λ y c h z => ?_) (λ p hp z => ?_)
 ·obtain ⟨mm, ⟨o, _, _, ho, _⟩, _⟩ := I.loc
  exact lt ho z.symm
 ·obtain ⟨v, o, ho, _⟩ := I.cell y c h
  exact lt ho z
 ·exact lt (I.pin p hp).1 z
end
theorem dens_lst2 {Z : Zx} {G : Hp} {v : List V} {xs ys : List D} (d1 : Dens Z G v [.lst xs, .lst ys]) : ∃ a b us ws, v = [.ref a, .ref b] ∧ SqL Z.K G a us ∧ Dens Z G us xs ∧ SqL Z.K G b ws ∧ Dens Z G ws ys := by
 match v, d1 with
 | [v1, v2], d1 =>
  unfold Dens at d1
  obtain ⟨d1, d2⟩ := d1
  unfold Dens at d2
  obtain ⟨d2, _⟩ := d2
  unfold Den at d1 d2
  obtain ⟨a, us, rfl, h1, h2⟩ := d1
  obtain ⟨b, ws, rfl, h3, h4⟩ := d2
  exact ⟨a, b, us, ws, rfl, h1, h2, h3, h4⟩
 | [], d1 => unfold Dens at d1; exact d1.elim
 | [_], d1 => unfold Dens at d1; have := d1.2; unfold Dens at this; exact this.elim
 | _ :: _ :: _ :: _, d1 => unfold Dens at d1; have := d1.2; unfold Dens at this; have := this.2; unfold Dens at this; exact this.elim
def PIcg (κ : Nat → Addr) (B : Gd) (X : Cx) (tg e : Expr) (f : Ev → R (List D)) : Prop := ∀ pins σ Ex, PIc (At X pins σ Ex) tg e (tO (λ G _ J ds => IsItG X κ J G ds) X κ B (EX X pins σ Ex) f)
theorem isItG_of {X : Cx} {κ : Nat → Addr} {J : It} {G : Hp} {ds : List D} (h : IsIt X κ J G ds) : IsItG X κ J G ds := by
 obtain ⟨vs, hd, h⟩ := h
 intro H' G' s1 s2 i
 obtain ⟨h1, h2⟩ := h H' (s1.trans s2) i
 have hl := hd.length
 refine ⟨λ d e => ?_, λ hi => h2 (by omega)⟩
 have hi := (List.getElem?_eq_some_iff.mp e).1
 obtain ⟨g1, g2⟩ := h1 (by omega)
 refine ⟨g1, λ x H'' y => ?_⟩
 obtain ⟨rfl, e2⟩ := g2 x H'' y
 obtain ⟨v, e3, dv⟩ := hd.get e
 rw [e2] at e3
 cases e3
 exact ⟨G', Ext.refl s2, dv.mono s1⟩
section
variable {κ : Nat → Addr} {B : Gd} {X : Cx} {e a b tg : Expr} {f : Ev → R D} {fs fit : Ev → R (List D)} {tgs : List Expr} {kk : Nat} {p pos tpos : Pos}
theorem picg_of (h : PIcz κ B X tg e fit) : PIcg κ B X tg e fit := λ pins σ Ex => pic_imp (h pins σ Ex) λ τ H R ⟨G, δ, rp, q⟩ => ⟨G, δ, rp, by
 cases e' : fit δ with
 | ok ds => rw [e'] at q; exact λ J H' G' e1 d1 => q J H' G' e1 (isItG_of d1)
 | exc c => rw [e'] at q; exact q
 | stuck => rw [e'] at q; exact q⟩
theorem picg_enum (hg : Gl X "enumerate") (hm : X.mg "enumerate" = none) (h : PX κ B X e f) (hs : noStar e = true) : PIcg κ B X (.Tuple tgs kk tpos) (.Call (.Name "enumerate" p) [e] [] pos) (λ δ => (f δ).bind enumD) := λ pins σ Ex pins' s τ H R I ⟨G, δ, rp, q⟩ => by
 dsimp only at q
 refine Call_ (ld_blt I hg hm boot_enumerate (PyProof.Rows.callWith_type1 (thn (pa_cons (X := At X pins σ Ex) (h pins σ Ex) pa_nil (star_cons hs) pos pins' s τ H (λ vs H1 => ∃ a xs, vs = [.ref a] ∧ SqL X.K H1 a xs ∧ R (Ite X.K a) H1) I ⟨G, δ, rp, ?_⟩) λ us s1 ⟨vs, H1, I1, r1, q1⟩ => ?_) (star_cons hs) rfl))
 ·cases e' : f δ with
  | ok d =>
   rw [e'] at q
   cases d with
   | lst ds =>
    intro v H1 G1 e1 d1
    unfold dRel Den at d1
    obtain ⟨a, xs, rfl, h1, h2⟩ := d1
    exact ⟨a, xs, rfl, e1.GH.seq h1, q _ H1 G1 e1 (isItG_enum h1 h2)⟩
   | _ => exact False.elim q
  | exc c => rw [e'] at q; exact q
  | stuck => rw [e'] at q; exact False.elim q
 ·obtain ⟨a, xs, rfl, h1, q1⟩ := q1
  cases r1 with
  | cons r rr =>
   cases rr
   cases r
   obtain ⟨its, rv, pl, hz⟩ := I1.list h1
   refine call_enumerate_list pl.isList λ h' he hi hsz hk => ?_
   refine wpAny_pyIter_enum he ?_
   have I2 : Inv (At X pins σ Ex) pins' τ H1 { s1 with heap := h' } := I1.kept (t' := s1.toks) hk
   have hsz' : h'.objs.size = s1.heap.objs.size + 2 := hsz
   refine ⟨s1, H1, s1.heap.objs.size + 1, [s1.heap.objs.size + 1, s1.heap.objs.size], _, _, rfl, I1, I2, hk, rfl, by dsimp only; omega, turn_enum a _ _ (Nat.succ_ne_self _), ⟨⟨_, he⟩, hi⟩, λ b hb => ?_, q1⟩
   simp only [List.mem_cons, List.not_mem_nil, or_false] at hb
   rcases hb with rfl | rfl <;> exact ⟨by simp, by show _ < h'.objs.size; rw [hsz']; simp⟩
theorem picg_zip (hg : Gl X "zip") (hm : X.mg "zip" = none) (h : PXs κ B X [a, b] fs) (hs1 : noStar a = true) (hs2 : noStar b = true) : PIcg κ B X (.Tuple tgs kk tpos) (.Call (.Name "zip" p) [a, b] [] pos) (λ δ => (fs δ).bind zipD) := λ pins σ Ex pins' s τ H R I ⟨G, δ, rp, q⟩ => by
 dsimp only at q
 refine Call_ (ld_blt I hg hm boot_zip' (PyProof.Rows.callWith_type1 (thn (h pins σ Ex pos pins' s τ H (λ vs H1 => ∃ a b xs ys, vs = [.ref a, .ref b] ∧ SqL X.K H1 a xs ∧ SqL X.K H1 b ys ∧ R (Itz X.K a b) H1) I ⟨G, δ, rp, ?_⟩) λ us s1 ⟨vs, H1, I1, r1, q1⟩ => ?_) (star_cons hs1) (back_any (by simp [hs2]))))
 ·cases e' : fs δ with
  | ok d =>
   rw [e'] at q
   simp only [L3.R.bind_ok] at q
   unfold zipD at q
   split at q
   ·rename_i xs ys
    intro v H1 G1 e1 d1
    obtain ⟨a, b, us, ws, rfl, h1, h2, h3, h4⟩ := dens_lst2 d1
    exact ⟨a, b, us, ws, rfl, e1.GH.seq h1, e1.GH.seq h3, q _ H1 G1 e1 (isItG_zip h1 h2 h3 h4)⟩
   ·exact False.elim q
  | exc c => rw [e'] at q; exact q
  | stuck => rw [e'] at q; exact False.elim q
 ·obtain ⟨a, b, xs, ys, rfl, h1, h2, q1⟩ := q1
  cases r1 with
  | cons r rr =>
   cases rr with
   | cons r' rr' =>
    cases rr'
    cases r
    cases r'
    obtain ⟨its1, rv1, p1, _⟩ := I1.list h1
    obtain ⟨its2, rv2, p2, _⟩ := I1.list h2
    refine call_zip_2 p1.isList p2.isList λ h' e1 e2 e3 e4 e5 e6 hk => ?_
    refine wpAny_pyIter_zip e1 ?_
    have I2 : Inv (At X pins σ Ex) pins' τ H1 { s1 with heap := h' } := I1.kept (t' := s1.toks) hk
    have hsz' : h'.objs.size = s1.heap.objs.size + 5 := e6
    refine ⟨s1, H1, s1.heap.objs.size + 4, [s1.heap.objs.size + 4, s1.heap.objs.size + 2, s1.heap.objs.size + 3, s1.heap.objs.size, s1.heap.objs.size + 1], _, _, rfl, I1, I2, hk, rfl, by dsimp only; omega, turn_zip a b (s1.heap.objs.size + 4) (s1.heap.objs.size + 2) (s1.heap.objs.size + 3) s1.heap.objs.size (s1.heap.objs.size + 1) ⟨by simp, by simp, by simp, by simp, by simp, by simp, by simp, by simp, by simp, by simp⟩, ⟨e1, e2, ⟨_, _, e3⟩, e4, e5⟩, λ b hb => ?_, q1⟩
    simp only [List.mem_cons, List.not_mem_nil, or_false] at hb
    rcases hb with rfl | rfl | rfl | rfl | rfl <;> exact ⟨by simp, by show _ < h'.objs.size; rw [hsz']; simp⟩
end
def compG (n : Nat) (bd : D → Ev → Option Ev) (t : Ev → R Bool) (f : Ev → R D) (δ : Ev) : List D → R (List D)
 | [] => .ok []
 | d :: ds => match bd d (δ ++ List.replicate n none) with
  | none => .stuck
  | some δ1 => (t δ1).bind λ k => if k then (f δ1).bind λ y => (compG n bd t f δ ds).bind λ ys => .ok (y :: ys) else compG n bd t f δ ds
def mCompG (n : Nat) (fit : Ev → R (List D)) (bd : D → Ev → Option Ev) (t : Ev → R Bool) (f : Ev → R D) : Ev → R (List D) := λ δ => (fit δ).bind λ ds => if ds.length ≤ 1000000 then noX (compG n bd t f (shE δ) ds) else .stuck
structure BdOk (m n : Nat) (bd : D → Ev → Option Ev) : Prop where
 any : ∀ d (δ es : Ev), δ.length = m → es.length = n → bd d (δ ++ es) = bd d (δ ++ List.replicate n none)
 out : ∀ d (δ δ1 : Ev), δ.length = m → bd d (δ ++ List.replicate n none) = some δ1 → ∃ es : Ev, es.length = n ∧ (∀ e ∈ es, ∀ o, e = some o → ∃ d, o = .sh d) ∧ δ1 = δ ++ es
theorem bdOk_name {m : Nat} : BdOk m 1 (bN m) := by
 constructor
 ·intro d δ es h1 h2
  match es, h2 with
  | [e], _ =>
   unfold bN
   rw [← h1, List.set_append_right _ _ (Nat.le_refl _), List.set_append_right _ _ (Nat.le_refl _)]
   simp
 ·intro d δ δ1 h1 h2
  unfold bN at h2
  rw [← h1, List.set_append_right _ _ (Nat.le_refl _)] at h2
  simp at h2
  exact ⟨[some (.sh d)], rfl, by simp, h2.symm⟩
theorem bdOk_two {m : Nat} : BdOk m 2 (bTup 2 (bsCons (bN m) (bsCons (bN (m + 1)) bsNil))) := by
 have st : ∀ (δ es : Ev) (a b : D), δ.length = m → es.length = 2 → bsCons (bN m) (bsCons (bN (m + 1)) bsNil) [a, b] (δ ++ es) = some (δ ++ [some (.sh a), some (.sh b)]) := by
  intro δ es a b h1 h2
  match es, h2 with
  | [e1, e2], _ =>
   show some (((δ ++ [e1, e2]).set m (some (.sh a))).set (m + 1) (some (.sh b))) = _
   rw [← h1, List.set_append_right _ _ (Nat.le_refl _), List.set_append_right _ _ (by omega)]
   simp
 have key : ∀ (d : D) (δ es : Ev), δ.length = m → es.length = 2 → bTup 2 (bsCons (bN m) (bsCons (bN (m + 1)) bsNil)) d (δ ++ es) = none ∨ ∃ a b, (d = .tup [a, b] ∨ d = .lst [a, b]) := by
  intro d δ es h1 h2
  cases d with
  | tup ds =>
   match ds with
   | [a, b] => exact .inr ⟨a, b, .inl rfl⟩
   | [] => exact .inl rfl
   | [_] => exact .inl rfl
   | _ :: _ :: _ :: _ => exact .inl (by unfold bTup; simp)
  | lst ds =>
   match ds with
   | [a, b] => exact .inr ⟨a, b, .inr rfl⟩
   | [] => exact .inl rfl
   | [_] => exact .inl rfl
   | _ :: _ :: _ :: _ => exact .inl (by unfold bTup; simp)
  | _ => exact .inl rfl
 have val : ∀ (d : D) (δ es : Ev) (a b : D), δ.length = m → es.length = 2 → (d = .tup [a, b] ∨ d = .lst [a, b]) → bTup 2 (bsCons (bN m) (bsCons (bN (m + 1)) bsNil)) d (δ ++ es) = some (δ ++ [some (.sh a), some (.sh b)]) := by
  intro d δ es a b h1 h2 h
  rcases h with rfl | rfl <;> exact st δ es a b h1 h2
 constructor
 ·intro d δ es h1 h2
  rcases key d δ es h1 h2 with h | ⟨a, b, h⟩
  ·rcases key d δ (List.replicate 2 none) h1 rfl with h' | ⟨a, b, h'⟩
   ·rw [h, h']
   ·rw [val d δ es a b h1 h2 h'] at h; cases h
  ·rw [val d δ es a b h1 h2 h, val d δ _ a b h1 rfl h]
 ·intro d δ δ1 h1 h2
  rcases key d δ (List.replicate 2 none) h1 rfl with h | ⟨a, b, h⟩
  ·rw [h] at h2; cases h2
  ·rw [val d δ _ a b h1 rfl h] at h2
   cases h2
   exact ⟨_, rfl, by simp, rfl⟩
theorem rep_shonly {Z : Zx} {G₁ H₁ G H H' : Hp} {σ : St} {δ : Ev} (rp : Rep Z ⟨G₁, λ _ => False⟩ H₁ G H σ δ) (hsh : ∀ (i : Nat) (o : Sl), δ[i]? = some (some o) → ∃ d, o = .sh d) (e : Ext G₁ H₁ G H') : Rep Z ⟨G₁, λ _ => False⟩ H₁ G H' σ δ := by
 refine ⟨⟨e.sG, e.GH, λ b o q _ => e.sH _ _ q, λ b q => ?_, rp.lent⟩, rp.len, rp.sh, λ i ds q => ?_, λ i j ds es a n q1 => ?_, λ i c ns ds q => ?_, λ i j c ns ds c' ns' ds' x0 n0 q => ?_⟩
 ·cases z : H₁ b with
  | none => exact absurd z q
  | some o => rw [e.sH _ _ z]; simp
 ·obtain ⟨_, z⟩ := hsh _ _ q; cases z
 ·obtain ⟨_, z⟩ := hsh _ _ q1; cases z
 ·obtain ⟨_, z⟩ := hsh _ _ q; cases z
 ·obtain ⟨_, z⟩ := hsh _ _ q; cases z
theorem rep_startG {Z : Zx} {B : Gd} {H₀ G₁ H₁ G H : Hp} {σ : St} {δ : Ev} (n : Nat) (rp : Rep Z B H₀ G₁ H₁ σ δ) (e : Ext G₁ H₁ G H) : Rep Z ⟨G₁, λ _ => False⟩ H₁ G H (σ ++ List.replicate n none) (shE δ ++ List.replicate n none) := by
 have hl : (shE δ).length = δ.length := by simp [shE]
 have cases' : ∀ {i : Nat} {o : Sl}, (shE δ ++ List.replicate n none)[i]? = some (some o) → ∃ d', o = .sh d' ∧ ∃ w, (σ ++ List.replicate n none)[i]? = some (some w) ∧ Den Z G w d' := λ {i o} q => by
  by_cases hi : i < δ.length
  ·rw [List.getElem?_append_left (by omega)] at q
   simp only [shE, List.getElem?_map] at q
   cases z : δ[i]? with
   | none => rw [z] at q; cases q
   | some o' =>
    rw [z] at q
    simp only [Option.map_some, Option.some.injEq] at q
    split at q
    ·rename_i d'
     cases q
     obtain ⟨w, e1, e2⟩ := rp.sh i d' z
     exact ⟨d', rfl, w, by rw [List.getElem?_append_left (by rw [rp.len]; exact hi)]; exact e1, e2.mono e.sG⟩
    ·cases q
  ·rw [List.getElem?_append_right (by omega), List.getElem?_replicate] at q
   split at q <;> cases q
 refine ⟨⟨e.sG, e.GH, λ b o q _ => e.sH _ _ q, λ b q => ?_, λ b q n => ?_⟩, by simp [hl, rp.len], λ i d' q => ?_, λ i ds q => ?_, λ i j ds es a n q1 => ?_, λ i c ns ds q => ?_, λ i j c ns ds c' ns' ds' x0 n0 q => ?_⟩
 ·cases z : H₁ b with
  | none => exact absurd z q
  | some o => rw [e.sH _ _ z]; simp
 ·cases z : G b with
  | none => rfl
  | some o => exact ((e.new b (by rw [z]; simp)).elim (λ y => y n) λ y => q y).elim
 ·obtain ⟨d'', e1, w, e2, e3⟩ := cases' q
  cases e1
  exact ⟨w, e2, e3⟩
 ·obtain ⟨d'', e1, _⟩ := cases' q; cases e1
 ·obtain ⟨d'', e1, _⟩ := cases' q1; cases e1
 ·obtain ⟨d'', e1, _⟩ := cases' q; cases e1
 ·obtain ⟨d'', e1, _⟩ := cases' q; cases e1
theorem codeAny_compLoop_go {prog : Program} {w : World} {A : Around} {R : Result → Shared → Prop} {s : Shared} {elt target iter : Expr} {ifs : List Expr} {scope : Scope} {pos : Pos} {it acc : Value} {env : Env} (I : Nat → Shared → Prop)
  (turn : ∀ n s, I n s → wpAny (model prog w) A (pyNext it) (λ r s₁ => match r with
   | none => R (.ok .next) s₁
   | some v => wpAny (model prog w) A (letOwnedTupleGo target it v) (λ _ s₁' => wpAny (model prog w) A (assign target env v) (λ _ s₂ =>
     wpAny (model prog w) A (forIn ifs true λ c r => if r = true then do let ok ← isTrue c env (eval c env); pure (ForInStep.yield ok) else pure (ForInStep.yield r)) (λ ok s₃ =>
      if ok = true then wpAny (model prog w) A (eval elt env) (λ x s₄ =>
       wpAny (model prog w) A (call (.builtin "list.append") [acc, x]) (λ _ s₅ => ∃ m, m < n ∧ I m s₅) (notedBy (model prog w) A env λ e s' => R (.error e) s') s₄) (notedBy (model prog w) A env λ e s' => R (.error e) s') s₃
      else ∃ m, m < n ∧ I m s₃) (notedBy (model prog w) A env λ e s' => R (.error e) s') s₂) (notedBy (model prog w) A env λ e s' => R (.error e) s') s₁') (notedBy (model prog w) A env λ e s' => R (.error e) s') s₁) (notedBy (model prog w) A env λ e s' => R (.error e) s') s)
  (n : Nat) (h : I n s) :
  codeAny (model prog w) A (.compLoop (.ListComp elt [⟨target, iter, ifs, 0⟩] scope pos) 0 it acc env) R s := by
 refine codeAny_loop rfl I (λ n s hI => ?_) n h
 show wpAny _ A ((compTurn (.ListComp elt [⟨target, iter, ifs, 0⟩] scope pos) 0 it acc env).onRaise (λ x => do noteFrame x env; theTreesLotGoes x)) _ _ s
 refine wpAny_noted ?_
 rw [compTurn_list]
 refine wpAny_bind (wpAny_standAt (wpAny_bind (wpAny_mono (turn n s hI) (λ r s₁ h₁ => ?_) λ _ _ h' => h')))
 cases r with
 | none => exact wpAny_pure h₁
 | some v =>
  refine wpAny_bind (wpAny_mono h₁ (λ _ s₁' h₁ => ?_) λ _ _ h' => h')
  refine wpAny_bind (wpAny_mono h₁ (λ _ s₂ h₂ => wpAny_bind (wpAny_mono h₂ (λ ok s₃ h₃ => ?_) λ _ _ h' => h')) λ _ _ h' => h')
  cases ok with
  | false => exact wpAny_pure ⟨rfl, h₃⟩
  | true =>
   exact wpAny_bind (wpAny_bind (wpAny_mono h₃ (λ x s₄ h₄ => wpAny_bind (wpAny_mono h₄ (λ _ s₅ h₅ => wpAny_pure (wpAny_pure ⟨rfl, h₅⟩)) λ _ _ h' => h')) λ _ _ h' => h'))
section
variable {κ : Nat → Addr} {B : Gd} {X : Cx} {sc : Scope} {N0 xs : List Str} {pos : Pos} {tg iter elt : Expr} {ifs : List Expr} {fit : Ev → R (List D)} {bd : D → Ev → Option Ev} {t : Ev → R Bool} {f : Ev → R D}
def CompEndG (κ : Nat → Addr) (X : Cx) (sc : Scope) (N' : List Str) (pins : List (Addr × Obj)) (σ : St) (Ex : Value → Shared → Prop) (G H : Hp) (l : List D) (Da C : Addr) (s1 : Shared) : Prop :=
 ∃ (sb : Shared) (Hb : Hp) (cl : List (Str × Addr)) (E' : Value → Shared → Prop) (σ' : St) (H3 G3 : Hp) (vs : List V), Inv (At X pins σ Ex) pins σ Hb sb ∧ sb.heap.objs.size ≤ C ∧ Inv ((CmpG X sc cl C sb Hb (X.pn ++ pins) N').wish E') [] σ' H3 s1 ∧ Ext G H G3 H3 ∧ H3 Da = some (.lst vs) ∧ G3 Da = none ∧ H Da = none ∧ Dens ⟨X.K, κ⟩ G3 vs l
theorem comp_coreG {pins : List (Addr × Obj)} {τ : St} {Ex : Value → Shared → Prop} {s : Shared} {H G : Hp} {δ : Ev} {use : Option (Value → Sem Unit)} {Qv : Value → Shared → Prop} {cpos : Pos} (hc : X.calm = true) (co : CompOkG X sc N0 xs) (hi : PIcg κ B X tg iter fit) (hbd : BdOk X.N.length xs.length bd)
  (hg : ∀ B' cl C s₁ H₁ pn, PGz κ B' (CmpG X sc cl C s₁ H₁ pn (N0 ++ xs)) tg bd) (ht : ∀ B' cl C s₁ H₁ pn, PTs κ B' (CmpG X sc cl C s₁ H₁ pn (N0 ++ xs)) ifs t) (he : ∀ B' cl C s₁ H₁ pn, PX κ B' (CmpG X sc cl C s₁ H₁ pn (N0 ++ xs)) elt f)
  (hs : ∀ x, foldedSetIterable iter X.env x = pure x) (I : Inv (At X pins τ Ex) pins τ H s) (rp : Rep ⟨X.K, κ⟩ B X.H₀ G H τ δ)
  (q : match mCompG xs.length fit bd t f δ with
   | .ok l => ∀ Da C s1, CompEndG κ X sc (N0 ++ xs) pins τ Ex G H l Da C s1 → compPost (model X.prog X.w) X.A Ex use Qv (.ref Da) C (.ok .next) s1
   | .exc c => ∀ H' G', Ext G H G' H' → EX X pins τ Ex (.ref (κ c)) none H'
   | .stuck => False) :
  wpAny (model X.prog X.w) X.A (comprehension (.ListComp elt [⟨tg, iter, ifs, 0⟩] sc pos) sc X.env cpos (newList []) false (eval iter X.env) use) Qv Ex s := by
 obtain ⟨cl, hcl, cl1, cl2⟩ := closure_ok (env := X.env) sc.names [] (λ y hy hk => by
  have := co.fr y hy hk
  exact I.ok.has y.1 (.inl this)) (λ y c h => by cases h)
 have hclos : closureFor sc X.env = pure cl := by
  unfold closureFor
  simp only [bind_pure]
  exact hcl
 refine wpAny_comprehension_free (use := use) rfl hs hclos co.kind co.names ?_
 refine thn (hi pins τ Ex pins s τ H (λ J H' => ∃ G' ds, Ext G H G' H' ∧ IsItG X κ J G' ds ∧ (match (if ds.length ≤ 1000000 then noX (compG xs.length bd t f (shE δ) ds) else .stuck) with | .ok l => ∀ Da C s1, CompEndG κ X sc (N0 ++ xs) pins τ Ex G H l Da C s1 → compPost (model X.prog X.w) X.A Ex use Qv (.ref Da) C (.ok .next) s1 | _ => False)) I ⟨G, δ, rp, ?_⟩) λ v s1 h1 => thn h1 λ itv s2 h2 => ?_
 ·unfold mCompG at q
  cases e : fit δ with
  | ok ds =>
   rw [e] at q
   simp only [R.bind_ok] at q
   refine λ J H' G' e1 d1 => ⟨G', ds, e1, d1, ?_⟩
   by_cases hb : ds.length ≤ 1000000
   ·rw [if_pos hb] at q ⊢
    cases ez : compG xs.length bd t f (shE δ) ds with
    | ok l => rw [ez] at q; exact q
    | exc c => rw [ez] at q; exact False.elim q
    | stuck => rw [ez] at q; exact False.elim q
   ·rw [if_neg hb] at q; exact False.elim q
  | exc c => rw [e] at q; exact q
  | stuck => rw [e] at q; exact q
 obtain ⟨sb, Hb, it, fp, tn, J, rfl, Ib, I2, kb, hos, hsz, T, st2, hfp, Gb, ds, e1, hJ, q2⟩ := h2
 have rpb : Rep ⟨X.K, κ⟩ B X.H₀ Gb Hb τ δ := rp.ext e1
 by_cases hbig : ds.length ≤ 1000000
 case neg => rw [if_neg hbig] at q2; exact False.elim q2
 rw [if_pos hbig] at q2
 cases ez : compG xs.length bd t f (shE δ) ds with
 | exc c => rw [ez] at q2; exact False.elim q2
 | stuck => rw [ez] at q2; exact False.elim q2
 | ok l =>
 rw [ez] at q2
 have hf2 : Hb s2.heap.objs.size = none := I2.hok.fresh (Nat.le_refl _)
 have I3 := I2.laid (a := s2.heap.objs.size) (o := .lst []) (t' := s2.toks) (h' := s2.heap.push { cls := .type "list", dict := none, data := .seq ([] : List Value).toArray }) (λ b u e => Heap.get?_push_of_some _ e) (Nat.le_refl _) ⟨by decide, [], 0, .nil, Heap.get?_push_size _ rfl⟩
 refine wpAny_newObj_type (wpAny_newFunctionEnv co.cell (by intro y hy; simp at hy) (λ h4 hns4 hsb4 => ?_) co.kind)
 dsimp only at hns4 hsb4 ⊢
 generalize hH3 : s2.heap.push { cls := .type "list", dict := none, data := .seq ([] : List Value).toArray } = H3 at hns4 hsb4 I3 ⊢
 have hC : H3.objs.size = s2.heap.objs.size + 1 := by rw [← hH3, Heap.size_push]
 have k34 : ∀ b o, H3.get? b = some o → h4.get? b = some o := λ b o e => hsb4.extBut b o (Nat.ne_of_lt (Heap.lt_size e)) (Heap.get?_push_of_some _ e)
 generalize hs4 : ({ s2 with heap := h4, toks := s2.toks + ([] : List (Str × Value)).length } : Shared) = s4
 have I4 : Inv (At X pins τ Ex) pins τ (upd Hb s2.heap.objs.size (.lst [])) s4 := by
  have := I3.kept (t' := s2.toks + ([] : List (Str × Value)).length) k34
  rw [← hs4]; exact this
 have hh4 : s4.heap = h4 := by rw [← hs4]
 have kb4 : ∀ b o, sb.heap.get? b = some o → s4.heap.get? b = some o := λ b o e => by
  rw [hh4]; exact k34 b o (by rw [← hH3]; exact Heap.get?_push_of_some _ (kb b o e))
 have ub4 : Un (frs X.stack) [] Hb (upd Hb s2.heap.objs.size (.lst [])) sb.heap s4.heap := Un.laid kb4 hsz hf2
 have hCb : sb.heap.objs.size ≤ H3.objs.size := by omega
 have hfpD : ∀ b ∈ fp, b ≠ s2.heap.objs.size := λ b hb => Nat.ne_of_lt (hfp b hb).2
 have hfpC : ∀ b ∈ fp, b ≠ H3.objs.size := λ b hb => Nat.ne_of_lt (Nat.lt_trans (hfp b hb).2 (by rw [hC]; exact Nat.lt_succ_self _))
 have hDC0 : s2.heap.objs.size ≠ H3.objs.size := by omega
 generalize hD : s2.heap.objs.size = Da at *
 generalize hCC : H3.objs.size = C at *
 have hDC : Da ≠ C := hDC0
 let R := compPost (model X.prog X.w) X.A Ex use Qv (.ref Da) C
 let E' := notedBy (model X.prog X.w) X.A (compEnvC sc cl C X.env) λ e s' => R (.error e) s'
 have ent := λ (E : Value → Shared → Prop) => cmp_enterG (E := E) Ib I4 ub4 (by rw [← hs4]; exact hos) (N0 := N0) (xs := xs) (sc := sc) (cl := cl) (C := C) ⟨co.cell, co.kind, co.names, co.len, co.old, co.loc, co.fr⟩ cl1 (λ y hy => cl2 y (.inr hy)) hCb (by rw [hh4]; exact hns4) (by
  rw [upd_ne (Ne.symm hDC)]
  exact Ib.hok.fresh hCb)
 let X' : Cx := CmpG X sc cl C sb Hb (X.pn ++ pins) (N0 ++ xs)
 have lt : ∀ {b o}, sb.heap.get? b = some o → ∀ c ∈ fp, b ≠ c := λ {b o} e c hc z => absurd (Nat.lt_of_lt_of_le (Heap.lt_size e) (z ▸ (hfp c hc).1)) (Nat.lt_irrefl _)
 have fok : ∀ (E : Value → Shared → Prop) (pl : List (Addr × Obj)) (H' : Hp), pl = [] → (∀ b ∈ fp, H' b = none) → ∀ b ∈ fp, FpOk (X'.wish E) pl H' b := λ E pl H' epl hn b hb => by
  subst epl
  refine ⟨hn b hb, λ z => ?_, λ z => ?_, .inr (hfp b hb).1, λ y c e => ?_, λ p hp => ?_⟩
  ·exact hfpC b hb z
  ·obtain ⟨_, o, ho, _⟩ := Ib.stack.mem z
   exact lt ho b hb rfl
  ·obtain ⟨v, o, ho, _⟩ := Ib.cell y c (cl1 y c e)
   exact lt ho b hb
  ·have hp : p ∈ (X.pn ++ pins) ++ [] := hp
   rw [List.append_nil] at hp
   exact lt (Ib.pin p hp).1 b hb
 have sgA : ∀ (E : Value → Shared → Prop) p τ', (X'.wish E).sg p τ' := λ _ _ _ => trivial
 have hsl : (shE δ).length = X.N.length := by
  have h1 : τ.length = X.N.length := I4.len
  have h2 := rp.len
  simp only [shE, List.length_map]
  omega
 have loop : codeAny (model X.prog X.w) X.A (.compLoop (.ListComp elt [⟨tg, iter, ifs, 0⟩] sc pos) 0 (.ref it) (.ref Da) (compEnvC sc cl C X.env)) R s4 := by
  refine codeAny_compLoop_go (λ n s' => ∃ i σ' es H' G' acc vs rest, Inv (X'.wish E') [] σ' H' s' ∧ tn i s'.heap ∧ (∀ b ∈ fp, H' b = none) ∧ n = ds.length - i ∧ i ≤ ds.length ∧ Ext Gb Hb G' H' ∧ es.length = xs.length ∧ Rep ⟨X.K, κ⟩ ⟨Gb, λ _ => False⟩ Hb G' H' σ' (shE δ ++ es) ∧ H' Da = some (.lst vs) ∧ G' Da = none ∧ Dens ⟨X.K, κ⟩ G' vs acc ∧ acc.length ≤ i ∧ compG xs.length bd t f (shE δ) (ds.drop i) = .ok rest ∧ acc ++ rest = l) ?_ ds.length ?_
  case refine_2 =>
   refine ⟨0, _, List.replicate xs.length none, _, Gb, [], [], l, ent E', T.keep 0 _ _ st2 (λ b _ o e => ?_), λ b hb => ?_, rfl, Nat.zero_le _, ext_own e1.GH hf2, by simp, rep_startG xs.length rpb (ext_own e1.GH hf2), upd_same, e1.GH.free hf2, dens_nil, Nat.le_refl _, by simpa using ez, rfl⟩
   ·rw [hh4]; exact k34 b o (by rw [← hH3]; exact Heap.get?_push_of_some _ e)
   ·rw [upd_ne (hfpD b hb)]
    exact Ib.hok.fresh (hfp b hb).1
  rintro n s3 ⟨i, σ3, es3, H3', G3, acc, vs, rest, Iv, st3, fr3, rfl, hi3, ext3, hes3, rp3, hD3, gD3, dacc, hacc, hz, hl⟩
  by_cases hlt3 : i < ds.length
  ·obtain ⟨dx, hdx⟩ : ∃ d, ds[i]? = some d := ⟨ds[i], by simp [hlt3]⟩
   obtain ⟨go, yl⟩ := (hJ H3' G3 ext3.sG ext3.GH i).1 dx hdx
   refine thn (T.item (X'.wish E') rfl rfl rfl hc i [] s3 _ H3' E' Iv (fok E' [] H3' rfl fr3) st3 go) λ r s4' ⟨u, hr, h4'⟩ => ?_
   subst hr
   have keepD : ∀ {Ga Ha G' H' : Hp} {ws : List V}, Ext Ga Ha G' H' → Ha Da = some (.lst ws) → Ga Da = none → H' Da = some (.lst ws) ∧ G' Da = none := λ {Ga Ha G' H' ws} ee h1 h2 => by
    refine ⟨ee.sH _ _ h1, ?_⟩
    cases z : G' Da with
    | none => rfl
    | some o =>
     rcases ee.new Da (by rw [z]; simp) with y | y
     ·exact absurd h2 y
     ·rw [h1] at y; cases y
   have hdrop : ds.drop i = dx :: ds.drop (i + 1) := by
    rw [List.drop_eq_getElem_cons hlt3]
    simp [hlt3] at hdx
    rw [hdx]
   rw [hdrop] at hz
   unfold compG at hz
   cases eb : bd dx (shE δ ++ List.replicate xs.length none) with
   | none => rw [eb] at hz; cases hz
   | some δ1 =>
   rw [eb] at hz
   simp only at hz
   obtain ⟨es1, hes1, hsh1, rfl⟩ := hbd.out dx (shE δ) δ1 hsl eb
   refine thn h4' λ _ s5 ⟨xv, H5, I5, r5, y5, st5, fr5⟩ => ?_
   obtain ⟨G5, e5, dd⟩ := yl xv H5 y5
   have I5' := Inv.pinned (sgA E') I5 (fok E' [] _ rfl fr5) (T.obj _ _ st5)
   refine thn (hg ⟨Gb, λ _ => False⟩ cl C sb Hb (X.pn ++ pins) E' _ s5 σ3 _ xv u (λ σ' H' => H' = H5 ∧ Rep ⟨X.K, κ⟩ ⟨Gb, λ _ => False⟩ Hb G5 H5 σ' (shE δ ++ es1)) I5' r5 ⟨G5, _, dx, _, rp3.ext e5, dd, by rw [hbd.any dx (shE δ) es3 hsl hes3]; exact eb, λ σ' r' => ⟨rfl, r'⟩⟩) λ _ s6 ⟨σ6, H6, I6, e6, rp6⟩ => ?_
   subst e6
   obtain ⟨hD5, gD5⟩ := keepD e5 hD3 gD3
   have back : ∀ {s7 : Shared} {H7 : Hp}, Inv (X'.wish E') ([] ++ pinsAt fp s5.heap) σ6 H7 s7 → Inv (X'.wish E') [] σ6 H7 s7 ∧ tn (i + 1) s7.heap ∧ ∀ b ∈ fp, H7 b = none := λ {s7 H7} I7 =>
    ⟨Inv.unpinned (sgA E') I7, T.keep _ _ _ st5 λ b hb o e => (I7.pin (b, o) (List.mem_append_right _ (List.mem_append_right _ (mem_pinsAt hb e)))).1, λ b hb => by
     obtain ⟨o, e, _⟩ := T.obj _ _ st5 b hb
     exact (I7.pin (b, o) (List.mem_append_right _ (List.mem_append_right _ (mem_pinsAt hb e)))).2.1⟩
   cases et : t (shE δ ++ es1) with
   | exc c => rw [et] at hz; cases hz
   | stuck => rw [et] at hz; cases hz
   | ok k =>
   rw [et] at hz
   simp only [L3.R.bind_ok] at hz
   refine thn (ht ⟨Gb, λ _ => False⟩ cl C sb Hb (X.pn ++ pins) _ _ E' s6 _ (λ b H' => b = k ∧ ∃ G', Ext G5 H6 G' H') (inv_at I6) ⟨G5, _, rp6, ?_⟩) λ ok s7 ⟨H7, I7, eok, G7, e7⟩ => ?_
   ·rw [et]; exact λ b H' G' ee eb => ⟨eb, G', ee⟩
   subst eok
   have I7 := inv_unat (sgA (λ _ _ => False)) I7
   obtain ⟨hD7, gD7⟩ := keepD e7 hD5 gD5
   cases ok with
   | false =>
    simp only [Bool.false_eq_true, if_false] at hz ⊢
    obtain ⟨j1, j2, j3⟩ := back I7
    exact ⟨ds.length - (i + 1), by omega, i + 1, _, es1, H7, G7, acc, vs, rest, j1, j2, j3, rfl, hlt3, (ext3.trans e5).trans e7, hes1, rp6.ext e7, hD7, gD7, (dacc.mono e5.sG).mono e7.sG, by omega, hz, hl⟩
   | true =>
    simp only [if_true] at hz ⊢
    cases ef : f (shE δ ++ es1) with
    | exc c => rw [ef] at hz; cases hz
    | stuck => rw [ef] at hz; cases hz
    | ok dy =>
    rw [ef] at hz
    simp only [L3.R.bind_ok] at hz
    refine thn (he ⟨Gb, λ _ => False⟩ cl C sb Hb (X.pn ++ pins) _ _ E' _ s7 _ H7 (λ y H' => ∃ G', Ext G7 H7 G' H' ∧ Den ⟨X.K, κ⟩ G' y dy) (inv_at I7) ⟨G7, _, rp6.ext e7, ?_⟩) λ yu s8 ⟨yv, H8, I8, ry, G8, e8, dy8⟩ => ?_
    ·rw [ef]; exact λ y H' G' ee d => ⟨G', ee, d⟩
    have I8 := inv_unat (sgA (λ _ _ => False)) I8
    obtain ⟨hD8, gD8⟩ := keepD e8 hD7 gD7
    have lacc := dacc.length
    refine thn (mt_append (X := X'.wish E') _ s8 _ H8 (.ref Da) [yv] (.ref Da) [yu] (λ _ H' => H' = upd H8 Da (.lst (vs ++ [yv]))) I8 rfl (.cons ry .nil) ⟨Da, vs, yv, rfl, rfl, hD8, by rw [sizeLine_eq]; omega, rfl⟩) λ _ s9 ⟨_, H9, I9, _, e9⟩ => ?_
    subst e9
    obtain ⟨j1, j2, j3⟩ := back I9
    cases ez2 : compG xs.length bd t f (shE δ) (ds.drop (i + 1)) with
    | exc c => rw [ez2] at hz; cases hz
    | stuck => rw [ez2] at hz; cases hz
    | ok rest' =>
    rw [ez2] at hz
    simp only [L3.R.bind_ok] at hz
    injection hz with hz
    have ex8 := ((ext3.trans e5).trans e7).trans e8
    have rp8 := (rp6.ext e7).ext e8
    have hbD : Hb Da = none := hf2
    have ex9 : Ext Gb Hb G8 (upd H8 Da (.lst (vs ++ [yv]))) := ⟨ex8.sG, λ b o z => by rw [upd_ne (by rintro rfl; rw [hf2] at z; cases z)]; exact ex8.sH b o z, λ b o z => by rw [upd_ne (by rintro rfl; rw [gD8] at z; cases z)]; exact ex8.GH b o z, ex8.new⟩
    have rp9 : Rep ⟨X.K, κ⟩ ⟨Gb, λ _ => False⟩ Hb G8 (upd H8 Da (.lst (vs ++ [yv]))) σ6 (shE δ ++ es1) := rep_shonly rp8 (λ i o z => by
     rcases List.mem_append.mp (List.mem_of_getElem? z) with z | z
     ·obtain ⟨o', _, z⟩ := List.mem_map.mp z
      split at z
      ·cases z; exact ⟨_, rfl⟩
      ·cases z
     ·exact hsh1 _ z o rfl) ex9
    refine ⟨ds.length - (i + 1), by omega, i + 1, _, es1, _, G8, acc ++ [dy], vs ++ [yv], rest', j1, j2, j3, rfl, hlt3, ex9, hes1, rp9, upd_same, gD8, (((dacc.mono e5.sG).mono e7.sG).mono e8.sG).append (dens_cons dy8 dens_nil), by simp; omega, ez2, by rw [← hl, ← hz]; simp⟩
  ·have hie : i = ds.length := by omega
   refine thn (T.done (X'.wish E') rfl rfl rfl hc i [] s3 _ H3' E' Iv (fok E' [] H3' rfl fr3) st3 ((hJ H3' G3 ext3.sG ext3.GH i).2 (by omega))) λ r s4' ⟨hr, I4'⟩ => ?_
   subst hr
   rw [hie, List.drop_length] at hz
   unfold compG at hz
   injection hz with hz
   subst hz
   rw [List.append_nil] at hl
   subst hl
   exact q2 Da C s4' ⟨sb, Hb, cl, E', σ3, H3', G3, vs, Ib, hCb, I4', e1.trans ext3, hD3, gD3, e1.sH.free hf2, dacc⟩
 have stn : tn 0 s4.heap := T.keep 0 _ _ st2 (λ b _ o e => by rw [hh4]; exact k34 b o (by rw [← hH3]; exact Heap.get?_push_of_some _ e))
 exact codeAny_compStart_list loop (T.self X.A 0 s4 _ _ stn loop)
end
end L3
namespace L3
open PySem PySem.Spec PyProof.Rows L2
section
variable {κ : Nat → Addr} {B : Gd} {X : Cx} {sc : Scope} {N0 xs : List Str} {pos : Pos} {tg iter elt : Expr} {ifs : List Expr} {fit : Ev → R (List D)} {bd : D → Ev → Option Ev} {t : Ev → R Bool} {f : Ev → R D}
theorem comp_byG (hc : X.calm = true) (co : CompOkG X sc N0 xs) (hi : PIcg κ B X tg iter fit) (hbd : BdOk X.N.length xs.length bd)
  (hg : ∀ X' B', CmpIsG X sc (N0 ++ xs) X' → PGz κ B' X' tg bd) (ht : ∀ X' B', CmpIsG X sc (N0 ++ xs) X' → PTs κ B' X' ifs t) (he : ∀ X' B', CmpIsG X sc (N0 ++ xs) X' → PX κ B' X' elt f)
  (hs : plI iter = true) : PXf κ B X (.ListComp elt [⟨tg, iter, ifs, 0⟩] sc pos) (mCompG xs.length fit bd t f) := λ pins σ Ex pins' s τ H Q I ⟨G, δ, rp, q⟩ => by
 obtain ⟨rfl, rfl⟩ := I.sgm
 show wpAny (model X.prog X.w) X.A (eval (.ListComp elt [⟨tg, iter, ifs, 0⟩] sc pos) X.env) _ Ex s
 rw [eval_ListComp]
 refine comp_coreG (use := none) hc co hi hbd (λ _ _ _ _ _ _ => hg _ _ cmp_isG) (λ _ _ _ _ _ _ => ht _ _ cmp_isG) (λ _ _ _ _ _ _ => he _ _ cmp_isG) (fold_no hs) I rp ?_
 cases e : mCompG xs.length fit bd t f δ with
 | ok l =>
  rw [e] at q
  rintro Da C s1 ⟨sb, Hb, cl, E', σ', H3, G3, vs, Ib, hCb, J, ex, h1, h2, h3, h4⟩
  obtain ⟨mm, hnn, _⟩ := J.loc
  exact ⟨mm, hnn, λ h' sbt => ⟨.ref Da, H3, cmp_leaveG (X := At X pins' τ Ex) (sc := sc) (cl := cl) (E := E') Ib J hCb sbt, rfl, q Da vs H3 G3 ex h1 h2 h3 h4⟩⟩
 | exc c => rw [e] at q; exact q
 | stuck => rw [e] at q; exact q
theorem comp_useG (cx : Cxo X) {y : Str} {py spos : Pos} {i : Nat} (hN : X.N.Nodup) (hy : X.N[i]? = some y) (hk : X.env.scope.kind = .function) (hx : X.env.scope.names.lookup y = some .local) (hl : (py.line == pos.line) = true) (hn : (sc.names.any λ p => p.1 == y && (p.2 == .local || p.2 == .cell)) = false)
  (hc : X.calm = true) (co : CompOkG X sc N0 xs) (hi : PIcg κ B X tg iter fit) (hbd : BdOk X.N.length xs.length bd)
  (hg : ∀ X' B', CmpIsG X sc (N0 ++ xs) X' → PGz κ B' X' tg bd) (ht : ∀ X' B', CmpIsG X sc (N0 ++ xs) X' → PTs κ B' X' ifs t) (he : ∀ X' B', CmpIsG X sc (N0 ++ xs) X' → PX κ B' X' elt f)
  (hs : plI iter = true) {Ex : Value → Shared → Prop} {pins : List (Addr × Obj)} {s : Shared} {σ : St} {H G : Hp} {δ : Ev} {Dn : Ends} (I : Inv (X.wish Ex) pins σ H s) (rp : Rep ⟨X.K, κ⟩ B X.H₀ G H σ δ)
  (q : match mCompG xs.length fit bd t f δ with
   | .ok l => ∀ Da vs H3 G3, Ext G H G3 H3 → H3 Da = some (.lst vs) → G3 Da = none → H Da = none → Dens ⟨X.K, κ⟩ G3 vs l → Dn.nx (σ.set i (some (.ref Da))) H3
   | .exc c => ∀ ea s' σ' H' G', Inv (X.wish Ex) pins σ' H' s' → Flies X pins H' s' ea (.ref (κ c)) → Rep ⟨X.K, κ⟩ B X.H₀ G' H' σ' δ → Ex (.ref ea) s'
   | .stuck => False) :
  wpAny (model X.prog X.w) X.A (exec (.Assign [.Name y py] (.ListComp elt [⟨tg, iter, ifs, 0⟩] sc pos) spos) X.env) (SP (X.wish Ex) pins Dn) Ex s := by
 rw [exec_Assign_Name_used _ _ _ _ (swaps_yes hk hx hl hn)]
 refine wpAny_bind (wpAny_standAt (wpAny_bind ?_))
 show wpAny _ X.A (do let _ ← comprehension (.ListComp elt [⟨tg, iter, ifs, 0⟩] sc pos) sc X.env _ (newList []) false (eval iter X.env) (some (assign (.Name y py) X.env))) _ _ s
 refine wpAny_bind (wpAny_mono (comp_coreG (use := some (assign (.Name y py) X.env)) (Qv := λ _ s' => SP (X.wish Ex) pins Dn .next s') (Ex := Ex) (pins := pins) (τ := σ) hc co hi hbd (λ _ _ _ _ _ _ => hg _ _ cmp_isG) (λ _ _ _ _ _ _ => ht _ _ cmp_isG) (λ _ _ _ _ _ _ => he _ _ cmp_isG) (fold_no hs) (inv_at I) rp ?_) (λ _ s' hq => wpAny_pure (wpAny_pure hq)) λ _ _ e => e)
 cases e : mCompG xs.length fit bd t f δ with
 | ok l =>
  rw [e] at q
  rintro Da C s1 ⟨sb, Hb, cl, E', ov, H3, G3, vs, Ib, hCb, J, ex, h1, h2, h3, h4⟩
  have lt : ∀ {b o}, sb.heap.get? b = some o → b ≠ C := λ {b o} e z => absurd (Nat.lt_of_lt_of_le (Heap.lt_size e) (z ▸ hCb)) (Nat.lt_irrefl _)
  have I0 := cmp_leaveG (X := At X pins σ Ex) (sc := sc) (cl := cl) (E := E') Ib J hCb (Heap.SameBut.refl ..)
  have I1 : Inv (X.wish Ex) pins σ H3 s1 := inv_unat cx.sg I0
  show wpAny _ _ (assign (.Name y py) X.env (.ref Da)) _ _ s1
  refine wpAny_assign_Name (store_ok2 (X := X.wish Ex) (v := .ref Da) I1 hN hy (.inl hx) rfl (λ s2 I2 ⟨a, sba, ha⟩ => ?_) (.inr hx) (λ p σ v _ => cx.sg p _))
  obtain ⟨mm, hnn, _⟩ := J.loc
  have hLC : X.env.locals ≠ C := by
   obtain ⟨m', ⟨o, _, _, ho, _⟩, _⟩ := Ib.loc
   exact lt ho
  have hcC : ∀ z c, X.env.cells.lookup z = some c → c ≠ C := λ z c hz => by
   obtain ⟨v, o, ho, _⟩ := Ib.cell z c hz
   exact lt ho
  have haC : C ≠ a := by
   rcases ha with rfl | ha
   ·exact Ne.symm hLC
   ·exact Ne.symm (hcC y a ha)
  refine ⟨mm, hnn.sameBut sba haC, λ h' sbt => ⟨_, H3, ?_, q Da vs H3 G3 ex h1 h2 h3 h4⟩⟩
  exact I2.turned (t' := s2.toks) (it := C) (λ b o hb e => sbt.extBut b o hb e) J.free (Ne.symm hLC) (.inr (Nat.le_trans Ib.sz hCb)) (λ z c hz => hcC z c hz) (λ p hp => lt (Ib.pin p hp).1)
 | exc c =>
  rw [e] at q
  exact λ H' G' e1 ea s' I' F => q ea s' σ H' G' I' F (rp.ext e1)
 | stuck => rw [e] at q; exact q
theorem set_compG (cx : Cxo X) {y : Str} {py spos : Pos} {i : Nat} (hN : X.N.Nodup) (hy : X.N[i]? = some y) (hk : X.env.scope.kind = .function) (hx : X.env.scope.names.lookup y = some .local) (hl : (py.line == pos.line) = true) (hn : (sc.names.any λ p => p.1 == y && (p.2 == .local || p.2 == .cell)) = false)
  (hc : X.calm = true) (co : CompOkG X sc N0 xs) (hi : PIcg κ B X tg iter fit) (hbd : BdOk X.N.length xs.length bd)
  (hg : ∀ X' B', CmpIsG X sc (N0 ++ xs) X' → PGz κ B' X' tg bd) (ht : ∀ X' B', CmpIsG X sc (N0 ++ xs) X' → PTs κ B' X' ifs t) (he : ∀ X' B', CmpIsG X sc (N0 ++ xs) X' → PX κ B' X' elt f)
  (hs : plI iter = true) : PZ κ B X (.Assign [.Name y py] (.ListComp elt [⟨tg, iter, ifs, 0⟩] sc pos) spos) (zSet i (mL (mCompG xs.length fit bd t f))) := λ Ex pins s σ H G δ Dn hp I rp q => by
 refine comp_useG cx hN hy hk hx hl hn hc co hi hbd hg ht he hs I rp ?_
 unfold zSet mL at q
 cases e : mCompG xs.length fit bd t f δ with
 | ok l =>
  rw [e] at q
  intro Da vs H3 G3 ex h1 h2 h3 h4
  have sg : Same G3 (upd G3 Da (.lst vs)) := λ b o z => by rw [upd_ne (ne_of_none z h2)]; exact z
  exact q _ H3 _ ((rp.ext (ext_frz ex h1 h2 h3)).setSh (by unfold Den; exact ⟨Da, vs, rfl, SqL.of upd_same, h4.mono sg⟩))
 | exc c => rw [e] at q; exact q
 | stuck => rw [e] at q; exact q
end
end L3
namespace L3
open PySem PySem.Spec PyProof.Rows L2
def zPop (i : Nat) : Ev → SR := λ δ => match δ[i]? with
 | some (some (.ow ds)) => if ds.isEmpty then .stuck else .next (δ.set i (some (.ow ds.dropLast)))
 | _ => .stuck
section
variable {κ : Nat → Addr} {B : Gd} {X : Cx} {pos pos' pos'' apos : Pos}
theorem pz_pop (cx : Cxo X) {i : Nat} {x : Str} (hN : X.N[i]? = some x) (hv : Vis X.env.scope x) (hd : (x == ("__debug__" : Str)) = false) (hcd : (x == ("__classdict__" : Str)) = false) (hline : (apos.endLine == pos'.line) = true) :
  PZ κ B X (.Expr (.Call (.Attribute (.Name x pos) "pop" apos) [] [] pos') pos'') (zPop i) := λ Ex pins s σ H G δ Dn hp I rp q => by
 unfold zPop at q
 split at q
 ·rename_i ds ed
  split at q
  ·exact False.elim q
  rename_i hne
  obtain ⟨a, vs, x1, x2, x3, x4, x5⟩ := rp.ow i ds ed
  have pe := pe_bm0 (X := At X pins σ Ex) PySem.F.plainAttrs_list PySem.F.slot_list_pop PySem.F.type_list_pop mt_pop (pe_var (X := At X pins σ Ex) (pos := pos) hN hv hd hcd) rfl hline
  refine wpAny_Expr_any (thn (pe pins s σ H (λ _ H' => ∃ G' δ', Rep ⟨X.K, κ⟩ B X.H₀ G' H' σ δ' ∧ SPost κ B X Ex pins Dn (.next δ')) (inv_at I) ⟨.ref a, x1, .inl ⟨rfl, vs, SqL.of x2⟩, ?_⟩) λ v s1 ⟨y, H', I', r, G', δ', rp', q⟩ => ⟨σ, H', inv_unat cx.sg I', q σ H' G' rp'⟩) I.quiet (swaps_no rfl)
  have hl := x3.length
  have hpos : 0 < ds.length := List.length_pos_iff.mpr (by simpa using hne)
  refine ⟨a, vs, vs[vs.length - 1], rfl, rfl, x2, by simp, G, _, rp.updOw ed x1 (es := ds.dropLast) ?_, q⟩
  rw [List.dropLast_eq_take, List.dropLast_eq_take, hl]
  exact x3.take _
 ·exact False.elim q
end
def minL : List Int → Int
 | [] => 0
 | [a] => a
 | a :: b :: l => if minL (b :: l) < a then minL (b :: l) else a
theorem minL_spec : ∀ {l : List Int}, l ≠ [] → minL l ∈ l ∧ ∀ a ∈ l, minL l ≤ a
 | [], h => absurd rfl h
 | [a], _ => by simp [minL]
 | a :: b :: l, _ => by
  obtain ⟨h1, h2⟩ := minL_spec (l := b :: l) (by simp)
  unfold minL
  split
  ·rename_i c
   refine ⟨List.mem_cons_of_mem _ h1, λ x hx => ?_⟩
   rcases List.mem_cons.mp hx with rfl | hx
   ·omega
   ·exact h2 x hx
  ·rename_i c
   refine ⟨List.mem_cons_self, λ x hx => ?_⟩
   rcases List.mem_cons.mp hx with rfl | hx
   ·exact Int.le_refl _
   ·have := h2 x hx; omega
theorem int_items : ∀ {ns : List Int} {its : List Value}, Vals (ns.map V.int) its → ∃ xs : List (Int × Tok), its = xs.map (λ p => Value.int p.1 p.2) ∧ xs.map (·.1) = ns
 | [], [], _ => ⟨[], rfl, rfl⟩
 | n :: ns, u :: us, r => by
  cases r with
  | cons h t =>
   obtain ⟨k, rfl⟩ := h
   obtain ⟨xs, rfl, rfl⟩ := int_items t
   exact ⟨(n, k) :: xs, rfl, rfl⟩
 | [], _ :: _, r => by cases r
 | _ :: _, [], r => by cases r
theorem call_minL {X : Cx} (hc : X.calm = true) : CallR X (.builtin "min") (λ xs H Q => ∃ p ns, xs = [.ref p] ∧ SqL X.K H p (ns.map V.int) ∧ ns ≠ [] ∧ Q (.int (minL ns)) H) := by
 intro pins s σ H xs us Q I rx ⟨p, ns, e, hq, hne, q⟩
 subst e
 obtain ⟨u, rfl, ru⟩ := rx.one
 cases ru
 obtain ⟨its, r', pl, hz⟩ := I.list hq
 obtain ⟨xs, rfl, e2⟩ := int_items r'
 have hit : (xs.map λ p : Int × Tok => Value.int p.1 p.2).toArray = intItems xs.toArray := by simp [intItems]
 rw [hit] at pl
 have hsz : 0 < xs.toArray.size := by
  rw [List.size_toArray]
  cases xs with
  | nil => simp at e2; exact absurd e2 hne
  | cons _ _ => simp
 refine min_intList (I.ok.hd hc) pl.isList hsz λ v h' tk hv hk => ?_
 obtain ⟨t, rfl⟩ := intItems_at hv
 obtain ⟨h1, h2⟩ := argBest_lt (numAt xs.toArray) (xs.toArray.size - 1)
 refine ⟨.int (minL ns), H, I.kept (t' := tk) hk, ⟨t, ?_⟩, q⟩
 obtain ⟨m1, m2⟩ := minL_spec hne
 have hlt := Nat.lt_of_le_of_lt h1 (Nat.sub_lt hsz Nat.one_pos)
 generalize hM : numAt xs.toArray (argBest (λ i j => decide (numAt xs.toArray i < numAt xs.toArray j)) (xs.toArray.size - 1)) = M at h2 ⊢
 have a1 : M ∈ ns := by
  rw [← hM, ← e2, numAt_eq]; exact getD_mem (by rw [List.length_map, Array.length_toList]; exact hlt)
 have a2 : ∀ a ∈ ns, M ≤ a := λ a ha => by
  rw [← e2] at ha
  obtain ⟨j, hj, rfl⟩ := mem_getD ha
  rw [List.length_map] at hj
  have := h2 j (by rw [List.size_toArray]; omega)
  rw [numAt_eq] at this
  simpa using this
 have b1 := a2 _ m1
 have b2 := m2 _ a1
 congr 1
 omega
def oMinL : D → R D
 | .lst ds => match intsD ds with
  | some (n :: ns) => .ok (.int (minL (n :: ns)))
  | _ => .stuck
 | _ => .stuck
section
variable {κ : Nat → Addr} {B : Gd} {X : Cx} {a b : Expr} {fa fb : Ev → R D} {p pos : Pos}
theorem y_minL (hc : X.calm = true) (hg : Gl X "min") (hm : X.mg "min" = none) (ha : PXr κ B X a fa) (h : noStar a = true) : PX κ B X (.Call (.Name "min" p) [a] [] pos) (m1 oMinL fa) := λ pins σ Ex =>
 pe_imp (pe_callB (X := At X pins σ Ex) (call_minL hc) hg hm boot_min' (pa_cons (X := At X pins σ Ex) (ha pins σ Ex) pa_nil (star_cons h)) (by decide) (by decide) (star_cons h) rfl) λ τ H Q ⟨G, δ, rp, q⟩ => ⟨G, δ, rp, q.seq λ x v H1 G1 e1 d1 q1 => by
  cases x with
  | lst ds =>
   simp only [oMinL] at q1
   split at q1
   ·rename_i n ns eb
    have fin : ∀ {q : Addr} {vs : List V}, SqL X.K H1 q vs → Dens ⟨X.K, κ⟩ G1 vs ds → ∃ (p : Addr) (bs : List Int), [V.ref q] = [V.ref p] ∧ SqL X.K H1 p (bs.map V.int) ∧ bs ≠ [] ∧ Q (.int (minL bs)) H1 := λ {q vs} h1 h2 =>
     ⟨q, _, rfl, dens_intsD h2 eb ▸ h1, by simp, q1 _ H1 G1 (Ext.refl e1.GH) dInt⟩
    rcases d1 with d1 | ⟨l, vs, es, rfl, e, h3, h4⟩
    ·unfold Den at d1
     obtain ⟨l, vs, rfl, h1, h2⟩ := d1
     exact fin (e1.GH.seq h1) h2
    ·cases e
     exact fin (SqL.of h3) h4
   ·exact False.elim q1
  | _ => exact False.elim q1⟩
end
end L3
namespace L3
open PySem PySem.Spec PyProof.Rows L2
def keyOf : D → Option Key
 | .int i => some (.inl i)
 | .str x => some (.inr ⟨x.toArray⟩)
 | _ => none
theorem den_key {Z : Zx} {G : Hp} {v : V} {d : D} {k : Key} (h : Den Z G v d) (e : keyOf d = some k) : v = kV k := by
 cases d <;> simp [keyOf] at e <;> subst e <;> unfold Den at h <;> exact h
theorem rRel_key {X : Cx} {κ : Nat → Addr} {G H : Hp} {v : V} {d : D} {k : Key} (h : rRel X κ G H v d) (e : keyOf d = some k) : v = kV k := by
 rcases h with h | ⟨_, _, _, _, rfl, _⟩
 ·exact den_key h e
 ·cases e
def atK : List Key → List D → Key → Option D
 | k :: ks, d :: ds, x => if k = x then some d else atK ks ds x
 | _, _, _ => none
theorem atK_val {Z : Zx} {G : Hp} {x : Key} : ∀ {ks : List Key} {vs : List V} {ds : List D}, ks.length = vs.length → Dens Z G vs ds → match atK ks ds x with
  | some d => ∃ v, valV (ks.zip vs) x = some v ∧ Den Z G v d
  | none => valV (ks.zip vs) x = none
 | [], [], [], _, _ => rfl
 | k :: ks, v :: vs, d :: ds, hl, hd => by
  unfold Dens at hd
  rw [List.zip_cons_cons]
  unfold atK
  by_cases c : k = x
  ·rw [if_pos c]
   exact ⟨v, valV_pos c, hd.1⟩
  ·rw [if_neg c]
   have ih := atK_val (x := x) (ks := ks) (by simpa using hl) hd.2
   rw [valV_neg (p := (k, v)) (r := ks.zip vs) c]
   exact ih
 | [], _ :: _, _, hl, _ => by simp at hl
 | _ :: _, [], _, hl, _ => by simp at hl
 | _, [], _ :: _, _, hd => by unfold Dens at hd; exact hd.elim
 | _, _ :: _, [], _, hd => by unfold Dens at hd; exact hd.elim
def oInD (k x : D) : R Bool := match x, keyOf k with
 | .dic ks ds, some key => .ok (atK ks ds key).isSome
 | _, _ => .stuck
section
variable {κ : Nat → Addr} {B : Gd} {X : Cx} {a b e o : Expr} {fa fb fo fk : Ev → R D} {pos p : Pos}
def rInDc : R2 := λ v u H Q => ∃ a o, u = .ref a ∧ DGet H a v o ∧ Q (.bl o.isSome) H
theorem opR_ind (hu : X.A.units + 64 < cLine) : ∀ Y : Cx, Y.K = X.K → Y.A = X.A → OpR Y (compareOp .In) rInDc := by
 intro Y eK eA pins s σ H v u v' u' Q I r1 r2 ⟨a, o, e, g, q⟩
 subst e
 cases r2
 exact d_in (by rw [eA]; omega) I g r1 λ s' I' => ⟨.bl _, H, I', rfl, q⟩
theorem opOk_ind : OpOk κ X rInDc (op2 oInD) := by
 intro x y v u G H Q E s d1 d2 q
 unfold op2 oInD at q
 split at q
 ·rename_i ks ds key ek
  rcases d2 with d2 | ⟨_, _, _, _, h, _⟩
  ·unfold Den at d2
   obtain ⟨l, vs, rfl, h1, h2, h3⟩ := d2
   have h4 := atK_val (x := key) h2 h3
   have g := DGet.k (k := key) (s _ _ h1)
   rw [← rRel_key d1 ek] at g
   refine ⟨l, _, rfl, g, ?_⟩
   have : (valV (ks.zip vs) key).isSome = (atK ks ds key).isSome := by
    cases c : atK ks ds key with
    | none => rw [c] at h4; rw [h4]; rfl
    | some d => rw [c] at h4; obtain ⟨w, e4, _⟩ := h4; rw [e4]; rfl
   rw [this]
   exact q _ H G (Ext.refl s) dBl
  ·cases h
 ·exact False.elim q
theorem pxt_ind (hu : X.A.units + 64 < cLine) (ha : PXr κ B X a fa) (hb : PXr κ B X b fb) (hm : behindInMarks .In b = false) : PXt κ B X (.Compare a [.In] [b] pos) (m2t oInD fa fb) := pxt_cmp (opR_ind hu) opOk_ind ha hb hm
end
section
variable {κ : Nat → Addr} {B : Gd} {X : Cx} {e : Expr} {f : Ev → R D} {fs : Ev → R (List D)} {pos p : Pos} {keys : List (Option Expr)} {values : List Expr} {ks : List Key}
end
def addK (ks : List Key) (k : Key) : List Key := if (ks.any λ j => decide (j = k)) = true then ks else ks ++ [k]
def keysI : List Int → List Key → List Key
 | [], ks => ks
 | n :: ns, ks => keysI ns (addK ks (.inl n))
def setLast (k : Nat) (ns : List Int) (δ : Ev) : Ev := match ns.getLast? with
 | none => δ
 | some n => δ.set k (some (.sh (.int n)))
def zDict (i j k : Nat) : Ev → SR := λ δ => match δ[i]? with
 | some (some (.sh (.lst ds))) => match intsD ds with
  | some ns => if ns.length ≤ 1000000 then .next (setLast k ns (δ.set j (some (.sh (.dic (keysI ns []) ((keysI ns []).map λ _ => .bl true)))))) else .stuck
  | none => .stuck
 | _ => .stuck
def truK (ks : List Key) : List (Key × V) := ks.map λ k => (k, .bl true)
theorem putK_true (ks : List Key) (k : Key) : putK (truK ks) k (.bl true) = truK (addK ks k) := by
 have e : ((truK ks).any λ kv => decide (kv.1 = k)) = ks.any λ j => decide (j = k) := by
  unfold truK
  rw [List.any_map]
  rfl
 unfold putK addK
 rw [e]
 split
 ·unfold truK
  rw [List.map_map]
  refine List.map_congr_left λ j _ => ?_
  simp only [Function.comp]
  split <;> rfl
 ·simp [truK]
theorem keysI_snoc : ∀ (ns : List Int) (n : Int) (ks : List Key), keysI (ns ++ [n]) ks = addK (keysI ns ks) (.inl n)
 | [], _, _ => rfl
 | m :: ns, n, ks => keysI_snoc ns n (addK ks (.inl m))
theorem keysI_len : ∀ (ns : List Int) (ks : List Key), (keysI ns ks).length ≤ ks.length + ns.length
 | [], _ => by simp [keysI]
 | m :: ns, ks => by
  have := keysI_len ns (addK ks (.inl m))
  have h2 : (addK ks (.inl m)).length ≤ ks.length + 1 := by unfold addK; split <;> simp
  simp only [keysI, List.length_cons]
  omega
theorem dens_trues {Z : Zx} {G : Hp} (ks : List Key) : Dens Z G (ks.map λ _ => V.bl true) (ks.map λ _ => D.bl true) := by
 induction ks with
 | nil => exact dens_nil
 | cons _ _ ih => exact dens_cons (by unfold Den; rfl) ih
theorem truK_zip (ks : List Key) : ks.zip (ks.map λ _ => V.bl true) = truK ks := by
 induction ks with
 | nil => rfl
 | cons k ks ih => simp [truK] at ih ⊢; exact ih
section
variable {κ : Nat → Addr} {B : Gd} {X : Cx}
theorem pzs_dict {x y z : Str} {i j k : Nat} {p1 p2 p3 p4 p5 p6 p7 p8 p9 p10 p11 : Pos} {rest : List Stmt} {F : Ev → SR} (cx : Cxo X) (hc : X.calm = true) (hu : X.A.units + 64 < cLine) (hND : X.N.Nodup) (hfn : ∀ y, X.fn y = true) (hi : X.N[i]? = some x) (vx : Vis X.env.scope x) (dx : (x == ("__debug__" : Str)) = false) (cdx : (x == ("__classdict__" : Str)) = false)
  (hj : X.N[j]? = some y) (ly : Loc X.env.scope y) (vy : Vis X.env.scope y) (dy : (y == ("__debug__" : Str)) = false) (cdy : (y == ("__classdict__" : Str)) = false)
  (hk : X.N[k]? = some z) (lz : Loc X.env.scope z) (vz : Vis X.env.scope z) (dz : (z == ("__debug__" : Str)) = false) (cdz : (z == ("__classdict__" : Str)) = false) (hij : i ≠ j) (hik : i ≠ k) (hjk : j ≠ k) {c : Nat} (hr : PZs κ B X rest F) :
  PZs κ B X (.Assign [.Name y p1] (.Dict [] [] p2) p3 :: .For (.Name z p4) (.Name x p5) [.Assign [.Subscript (.Name y p6) (.Name z p7) p8] (.Constant (.bool true) c p9) p10] [] p11 :: rest) (zSeq (zDict i j k) F) := λ Ex pins s σ H G δ Dn hp I rp q => by
 have hz : ∃ ds ns, δ[i]? = some (some (.sh (.lst ds))) ∧ intsD ds = some ns ∧ ns.length ≤ 1000000 ∧ SPost κ B X Ex pins Dn (F (setLast k ns (δ.set j (some (.sh (.dic (keysI ns []) ((keysI ns []).map λ _ => .bl true))))))) := by
  unfold zSeq zDict at q
  rcases h : (δ[i]? : Option (Option Sl)) with _ | _ | (d | es | ⟨c', ns', es'⟩)
  ·simp only [h] at q; exact False.elim q
  ·simp only [h] at q; exact False.elim q
  ·cases d with
   | lst ds =>
    cases h2 : intsD ds with
    | none => simp only [h, h2] at q; exact False.elim q
    | some ns =>
     simp only [h, h2] at q
     by_cases h3 : ns.length ≤ 1000000
     ·rw [if_pos h3] at q
      exact ⟨ds, ns, rfl, h2, h3, q⟩
     ·rw [if_neg h3] at q; exact False.elim q
   | _ => simp only [h] at q; exact False.elim q
  ·simp only [h] at q; exact False.elim q
  ·simp only [h] at q; exact False.elim q
 obtain ⟨ds, ns, h1, h2, h3, q⟩ := hz
 have hu1 : (X.wish Ex).A.units + 1 < cLine := by show X.A.units + 1 < cLine; omega
 obtain ⟨vr, e1, d1⟩ := rp.sh i _ h1
 unfold Den at d1
 obtain ⟨a, vs, rfl, sq, dn⟩ := d1
 have hvs := dens_intsD dn h2
 subst hvs
 have s1 := ps_set (X := X.wish Ex) (pos := p3) (pos' := p1) hND hj ly (pe_dnewK (X := X.wish Ex) (pos := p2)) rfl (.inl (hfn _)) (λ p σ v _ => cx.sg p _)
 have s2 := ps_for (X := X.wish Ex) (pos := p11) cx.sg hp hc (pi_list (tg := .Name z p4) (pe_var (X := X.wish Ex) (pos := p5) hi vx dx cdx)) (pg_name (X := X.wish Ex) (pos := p4) hND hk lz (.inl (hfn _)) (λ p σ v _ => cx.sg p _)) (pss_one (ps_dput (X := X.wish Ex) (pos := p10) (pos' := p8) hu1 (pe_var (X := X.wish Ex) (pos := p6) hj vy dy cdy) (pe_var (X := X.wish Ex) (pos := p7) hk vz dz cdz) (pe_bl (X := X.wish Ex) (b := true) (j := c) (pos := p9)) rfl)) (λ _ => rfl)
 have hlenσ : σ.length = X.N.length := I.len
 have hil : i < σ.length := by rw [hlenσ]; exact (List.getElem?_eq_some_iff.mp hi).1
 have hjl : j < σ.length := by rw [hlenσ]; exact (List.getElem?_eq_some_iff.mp hj).1
 have hkl : k < σ.length := by rw [hlenσ]; exact (List.getElem?_eq_some_iff.mp hk).1
 refine wpAny_execs_cons (thn (s1 pins s σ H { nx := λ σ1 H1 => ∃ p, H p = none ∧ σ1 = σ.set j (some (.ref p)) ∧ H1 = upd H p (.dK []), rt := λ _ _ => False } I (λ p hpn => ⟨p, hpn, rfl, rfl⟩)) λ f s3 q3 => ?_)
 cases f with
 | next =>
  obtain ⟨σ1, H1, I1, p, hpn, rfl, rfl⟩ := q3
  have gp : G p = none := rp.GH.free hpn
  let σn : Nat → St := λ n => match (ns.take n).getLast? with
   | none => σ.set j (some (.ref p))
   | some m => (σ.set j (some (.ref p))).set k (some (.int m))
  let Hn : Nat → Hp := λ n => upd H p (.dK (truK (keysI (ns.take n) [])))
  refine wpAny_execs_cons (thn (s2 pins s3 _ _ { nx := λ σ' H' => σ' = σn ns.length ∧ H' = Hn ns.length, rt := λ _ _ => False } I1 ?_) λ f s4 q4 => ?_)
  ·have sqH : ∀ n, SqL X.K (Hn n) a (ns.map V.int) := λ n => by
    have : Same G (Hn n) := λ b o z => by
     show upd H p _ b = _
     rw [upd_ne (ne_of_none z gp)]; exact rp.GH b o z
    exact this.seq sq
   have gi : ∀ n, (σn n)[i]? = some (some (.ref a)) := λ n => by
    show (match (ns.take n).getLast? with | none => σ.set j (some (.ref p)) | some m => (σ.set j (some (.ref p))).set k (some (.int m)))[i]? = _
    split
    ·rw [List.getElem?_set_ne (Ne.symm hij)]; exact e1
    ·rw [List.getElem?_set_ne (Ne.symm hik), List.getElem?_set_ne (Ne.symm hij)]; exact e1
   refine ⟨.ref a, gi 0, a, rfl, ⟨_, sqH 0⟩, for_list (xs := ns.map V.int) (λ n σ' H' => σ' = σn n ∧ H' = Hn n) ⟨rfl, rfl⟩ (λ n σ' H' _ ⟨_, e⟩ => by rw [e]; exact sqH n) (λ n w σ' H' hw ⟨ea, eb⟩ => ?_) (λ σ' H' ⟨ea, eb⟩ => ?_)⟩
   ·subst ea eb
    rw [List.getElem?_map] at hw
    cases hm : ns[n]? with
    | none => rw [hm] at hw; cases hw
    | some m =>
     rw [hm] at hw
     cases hw
     have et : ns.take (n + 1) = ns.take n ++ [m] := by rw [List.take_add_one, hm]; rfl
     have hset : (σn n).set k (some (.int m)) = σn (n + 1) := by
      show (match (ns.take n).getLast? with | none => σ.set j (some (.ref p)) | some m => (σ.set j (some (.ref p))).set k (some (.int m))).set k (some (.int m)) = (match (ns.take (n + 1)).getLast? with | none => σ.set j (some (.ref p)) | some m => (σ.set j (some (.ref p))).set k (some (.int m)))
      rw [et, List.getLast?_append]
      simp only [List.getLast?_singleton, Option.some_or]
      split
      ·rfl
      ·rw [List.set_set]
     show sDPut _ _ _ _ ((σn n).set k (some (.int m))) (Hn n)
     rw [hset]
     have gj : (σn (n + 1))[j]? = some (some (.ref p)) := by
      rw [← hset]
      show ((match (ns.take n).getLast? with | none => σ.set j (some (.ref p)) | some m => (σ.set j (some (.ref p))).set k (some (.int m))).set k (some (.int m)))[j]? = _
      rw [List.getElem?_set_ne (Ne.symm hjk)]
      split
      ·exact List.getElem?_set_self hjl
      ·rw [List.getElem?_set_ne (Ne.symm hjk)]; exact List.getElem?_set_self hjl
     have gk : (σn (n + 1))[k]? = some (some (.int m)) := by
      rw [← hset]
      refine List.getElem?_set_self ?_
      show k < (match (ns.take n).getLast? with | none => σ.set j (some (.ref p)) | some m => (σ.set j (some (.ref p))).set k (some (.int m))).length
      split <;> simp [hkl]
     refine ⟨.ref p, gj, .int m, gk, p, _, rfl, DPut.k (k := Sum.inl m) upd_same ?_, rfl, ?_⟩
     ·have := keysI_len (ns.take n) []
      have hnl := (List.getElem?_eq_some_iff.mp hm).1
      simp only [truK, List.length_map, List.length_nil, List.length_take] at this ⊢
      rw [sizeLine_eq]
      omega
     ·show upd (upd H p _) p _ = upd H p _
      rw [putK_true, et, keysI_snoc]
      funext b
      by_cases hb : b = p
      ·subst hb; rw [upd_same, upd_same]
      ·rw [upd_ne hb, upd_ne hb, upd_ne hb]
   ·rw [List.length_map] at ea eb
    exact ⟨ea, eb⟩
  ·cases f with
   | next =>
    obtain ⟨σ4, H4, I4, rfl, rfl⟩ := q4
    have ht : ns.take ns.length = ns := List.take_length
    have ex := ext_new (o := .dK (truK (keysI ns []))) rp.GH hpn
    have r1 := (rp.ext ex).setSh (i := j) (v := .ref p) (d := .dic (keysI ns []) ((keysI ns []).map λ _ => .bl true)) (by
     unfold Den
     refine ⟨p, (keysI ns []).map λ _ => .bl true, rfl, by rw [truK_zip]; exact upd_same, by simp, dens_trues _⟩)
    have eH : Hn ns.length = upd H p (.dK (truK (keysI ns []))) := by show upd H p _ = _; rw [ht]
    have r2 : ∃ G', Rep ⟨X.K, κ⟩ B X.H₀ G' (Hn ns.length) (σn ns.length) (setLast k ns (δ.set j (some (.sh (.dic (keysI ns []) ((keysI ns []).map λ _ => .bl true)))))) := by
     refine ⟨upd G p (.dK (truK (keysI ns []))), ?_⟩
     rw [eH]
     show Rep _ _ _ _ _ (match (ns.take ns.length).getLast? with | none => σ.set j (some (.ref p)) | some m => (σ.set j (some (.ref p))).set k (some (.int m))) _
     rw [ht]
     unfold setLast
     cases ns.getLast? with
     | none => exact r1
     | some m => exact r1.setSh (by unfold Den; rfl)
    obtain ⟨G', r2⟩ := r2
    exact hr Ex pins s4 _ _ G' _ Dn hp I4 r2 q
   | brk => obtain ⟨_, _, _, z⟩ := q4; exact z.elim
   | cont => obtain ⟨_, _, _, z⟩ := q4; exact z.elim
   | ret u => obtain ⟨_, _, _, _, _, z⟩ := q4; exact z.elim
 | brk => obtain ⟨_, _, _, z⟩ := q3; exact z.elim
 | cont => obtain ⟨_, _, _, z⟩ := q3; exact z.elim
 | ret u => obtain ⟨_, _, _, _, _, z⟩ := q3; exact z.elim
end
end L3
namespace L3
open PySem PySem.Spec PyProof.Rows L2
def Itp (lo st : Int) (n : Nat) : It := ⟨λ i _ => i < n, λ i H x H' => H' = H ∧ x = .int (lo + i * st), λ i _ => n ≤ i⟩
theorem turn_step {P : Program} {w : World} {K : PySem.W.Frag} {tg : Expr} (it : Addr) (lo st : Int) (n : Nat) : Turn P w K tg (Itp lo st n) [it] it (λ i h => IsRangeIter h it (lo + (i : Nat) * st) ((n : Int) - (i : Nat)) st) where
 mem := by simp
 obj := λ i h st b hb => by
  have e : b = it := by simpa using hb
  subst e
  exact ⟨_, st, λ v z => by
   have z' : Data.fields _ = Data.cell v := z
   cases z'⟩
 keep := λ i h h' st k => k it (by simp) _ st
 item := by
  intro X hP hw hK hc i pins s σ H E I hf st' hg
  subst hP hw hK
  obtain ⟨f0, f1, f2, f3, f4, f5⟩ := hf it (by simp)
  have W := Walks.range (prog := X.prog) (w := X.w) (I.ok.hd hc) it lo st n
  refine W.item i s _ _ hg st' λ v h' tk hv st' kk => ?_
  obtain ⟨t, rfl⟩ := hv
  have I1 : Inv X pins σ H { s with heap := h', toks := tk } := I.turned (λ b o hb e => kk b o (by simpa using hb) e) f0 f1 f3 f4 f5
  exact ⟨_, rfl, go_of (s := { s with heap := h', toks := tk }) (n := "range_iterator") st' rfl rfl (by decide) ⟨.int (lo + i * st), H, I1, ⟨t, rfl⟩, ⟨rfl, rfl⟩, st', λ b hb => (hf b hb).1⟩⟩
 done := by
  intro X hP hw hK hc i pins s σ H E I hf st hg
  subst hP hw hK
  obtain ⟨f0, f1, f2, f3, f4, f5⟩ := hf it (by simp)
  exact wpAny_pyNext_range_end (I.ok.hd hc) st (by have : n ≤ i := hg; omega) λ h' eb => ⟨rfl, I.turned (t' := s.toks) (λ b o hb e => eb b o hb e) f0 f1 f3 f4 f5⟩
 self := λ _ _ _ _ _ st h => wpAny_pyIter_rangeiter st h
theorem rangeSize_bd {a b c : Int} (hc : 0 < c) : 0 ≤ Builtin.Range.rangeSize a b c ∧ (Builtin.Range.rangeSize a b c ≤ b - a ∨ Builtin.Range.rangeSize a b c = 0) ∧ (a < b → Builtin.Range.rangeSize a b c * c ≤ b - a - 1 + c) := by
 unfold Builtin.Range.rangeSize
 rw [if_pos hc]
 split
 ·rename_i h
  have h1 : 0 ≤ (b - a - 1) / c := Int.ediv_nonneg (by omega) (by omega)
  have h2 : (b - a - 1) / c ≤ b - a - 1 := Int.ediv_le_self _ (by omega)
  have h3 : (b - a - 1) / c * c ≤ b - a - 1 := Int.ediv_mul_le _ (by omega)
  refine ⟨by omega, .inl (by omega), λ _ => ?_⟩
  rw [Int.add_mul]
  omega
 ·exact ⟨by omega, .inr rfl, λ h => absurd h (by assumption)⟩
theorem small_step {a b c : Int} (ha : -(2 ^ 31) ≤ a) (ha' : a < 2 ^ 31) (hb : -(2 ^ 31) ≤ b) (hb' : b < 2 ^ 31) (hc : 0 < c) (hc' : c < 1000000) : Builtin.Range.small a b c = true := by
 obtain ⟨h1, h2, h3⟩ := rangeSize_bd (a := a) (b := b) hc
 unfold Builtin.Range.small
 generalize Builtin.Range.rangeSize a b c = n at *
 simp only [Builtin.Range.rangeFitsLong, Bool.and_eq_true, Bool.or_eq_true, decide_eq_true_eq, beq_iff_eq, hc, if_true]
 omega
def rngS (lo hi st : Int) : List D := (List.range (Builtin.Range.rangeSize lo hi st).toNat).map λ i : Nat => D.int (lo + (i : Nat) * st)
def iR3p : List D → R (List D)
 | [.int i, .int j, .int k] => if (0 < k ∧ k < 1000000) ∧ (-(2 ^ 31) ≤ i ∧ i < 2 ^ 31) ∧ (-(2 ^ 31) ≤ j ∧ j < 2 ^ 31) then .ok (rngS i j k) else .stuck
 | _ => .stuck
section
variable {X : Cx} {tg : Expr}
def iRng3p (ta : TA) : TI := λ σ H R => ta σ H λ vs H1 => ∃ i j k : Int, vs = [.int i, .int j, .int k] ∧ ((0 < k ∧ k < 1000000) ∧ -(2 ^ 31) ≤ i ∧ i < 2 ^ 31 ∧ -(2 ^ 31) ≤ j ∧ j < 2 ^ 31) ∧ R (Itp i k (Builtin.Range.rangeSize i j k).toNat) H1
theorem step_it {pins : List (Addr × Obj)} {σ : St} {H : Hp} {s : Shared} {R : It → Hp → Prop} {E : Value → Shared → Prop} {lo hi k : Int} {t u v : Tok} {tk : Nat} (I : Inv X pins σ H s) (h1 : -(2 ^ 31) ≤ lo) (h2 : lo < 2 ^ 31) (h3 : -(2 ^ 31) ≤ hi) (h4 : hi < 2 ^ 31) (h5 : 0 < k) (h6 : k < 1000000)
  (q : R (Itp lo k (Builtin.Range.rangeSize lo hi k).toNat) H) : wpAny (model X.prog X.w) X.A (pyIter (.ref s.heap.objs.size)) (PIE X pins σ tg R) E { s with heap := s.heap.push { cls := .type "range", data := .fields #[.int lo t, .int hi u, .int k v] }, toks := tk } := by
 refine wpAny_pyIter_range (IsRange.new ..) (small_step h1 h2 h3 h4 h5 h6) ?_
 have I1 : Inv X pins σ H { s with heap := s.heap.push { cls := .type "range", data := .fields #[.int lo t, .int hi u, .int k v] }, toks := tk } := I.kept λ b o e => Heap.get?_push_of_some _ e
 have hb := (rangeSize_bd (a := lo) (b := hi) h5).1
 refine ⟨(s.heap.push { cls := .type "range", data := .fields #[.int lo t, .int hi u, .int k v] }).objs.size, [(s.heap.push { cls := .type "range", data := .fields #[.int lo t, .int hi u, .int k v] }).objs.size], _, _, H, rfl,
  I1.kept (t' := tk) λ b o e => Heap.get?_push_of_some _ e, turn_step _ lo k (Builtin.Range.rangeSize lo hi k).toNat, ?_, λ b hb => ?_, q⟩
 ·show IsRangeIter _ _ (lo + ((0 : Nat) : Int) * k) ((((Builtin.Range.rangeSize lo hi k).toNat : Nat) : Int) - ((0 : Nat) : Int)) k
  rw [show lo + ((0 : Nat) : Int) * k = lo by simp, show (((Builtin.Range.rangeSize lo hi k).toNat : Nat) : Int) - ((0 : Nat) : Int) = Builtin.Range.rangeSize lo hi k by omega]
  exact Heap.get?_push_size _ rfl
 ·have e : b = (s.heap.push { cls := .type "range", data := .fields #[.int lo t, .int hi u, .int k v] }).objs.size := by simpa using hb
  subst e
  exact I1.fpOk (Nat.le_refl _) (I1.hok.fresh (Nat.le_refl _))
theorem pi_range3p {a b c : Expr} {ta : TA} {p pos : Pos} (hg : Gl X "range") (hm : X.mg "range" = none) (ha : PA X [a, b, c] ta) (hs : starEach [a, b, c] X.env = (false, eval a X.env) :: starEach [b, c] X.env) (hs2 : (backTo pos (starEach [b, c] X.env)).any (·.1) = false) :
  PI X tg (.Call (.Name "range" p) [a, b, c] [] pos) (iRng3p ta) := by
 intro pins s σ H R I h
 refine Call_ (ld_blt I hg hm boot_range (PyProof.Rows.callWith_type1 (thn (ha pos pins s σ H _ I h) λ us s1 ⟨vs, H1, I1, r1, q1⟩ => ?_) hs hs2))
 obtain ⟨i, j, k, e, ⟨⟨q5, q6⟩, q1, q2, q3, q4⟩, q⟩ := q1
 subst e
 cases r1 with
 | cons r rr =>
  cases rr with
  | cons r' rr =>
   cases rr with
   | cons r'' rr =>
    cases rr
    obtain ⟨t, rfl⟩ := r
    obtain ⟨t', rfl⟩ := r'
    obtain ⟨t'', rfl⟩ := r''
    exact call_range_3 (by omega) (step_it I1 q1 q2 q3 q4 q5 q6 q) (.inl (PyProof.noPylong_small (by omega)))
end
theorem isIt_step {X : Cx} {κ : Nat → Addr} {G : Hp} {lo st : Int} {n : Nat} : IsIt X κ (Itp lo st n) G ((List.range n).map λ i : Nat => D.int (lo + (i : Nat) * st)) := by
 refine ⟨(List.range n).map λ i : Nat => V.int (lo + (i : Nat) * st), ?_, λ H' s i => ⟨λ hi => ⟨?_, λ x H'' y => ?_⟩, λ hi => ?_⟩⟩
 ·generalize List.range n = l
  induction l with
  | nil => exact dens_nil
  | cons a l ih => exact dens_cons dInt ih
 ·simpa [Itp] using hi
 ·obtain ⟨y1, y2⟩ := y
  refine ⟨y1, ?_⟩
  rw [y2]
  have : i < n := by simpa using hi
  simp [this]
 ·simpa [Itp] using hi
theorem dens_int3 {Z : Zx} {G : Hp} {v : List V} {i j k : Int} (h : Dens Z G v [.int i, .int j, .int k]) : v = [.int i, .int j, .int k] := by
 match v, h with
 | v :: vr, h =>
  unfold Dens at h
  have h1 := h.1
  unfold Den at h1
  rw [h1, dens_int2 h.2]
 | [], h => unfold Dens at h; exact h.elim
section
variable {κ : Nat → Addr} {B : Gd} {X : Cx} {tg : Expr}
theorem piz_range3p {a b c : Expr} {fs : Ev → R (List D)} {p pos : Pos} (hg : Gl X "range") (hm : X.mg "range" = none) (ha : PXs κ B X [a, b, c] fs) (h : noStar a = true) (h2 : [b, c].all noStar = true) : PIz κ B X tg (.Call (.Name "range" p) [a, b, c] [] pos) (λ δ => (fs δ).bind iR3p) := λ pins σ Ex =>
 pi_imp (pi_range3p (X := At X pins σ Ex) hg hm (ha pins σ Ex) (star_cons h) (back_any h2)) λ τ H R ⟨G, δ, rp, q⟩ => ⟨G, δ, rp, q.seq λ x v H1 G1 e1 d1 q1 => by
  unfold iR3p at q1
  split at q1
  ·rename_i i j k
   split at q1
   ·rename_i hj
    exact ⟨i, j, k, dens_int3 d1, ⟨hj.1, hj.2.1.1, hj.2.1.2, hj.2.2.1, hj.2.2.2⟩, q1 _ H1 G1 (Ext.refl e1.GH) isIt_step⟩
   ·exact False.elim q1
  ·exact False.elim q1⟩
theorem pxf_snd {e : Expr} {f : Ev → R (D × List D)} {pos p1 : Pos} {j} (h : PX2 κ B X e f) : PXf κ B X (.Subscript e (.Constant (.int 1) j p1) pos) (λ δ => (f δ).bind λ r => .ok r.2) := λ pins σ Ex =>
 pe_imp (pe_ix (X := At X pins σ Ex) ix_list (h pins σ Ex) pe_int (λ _ _ => rfl)) λ τ H Q ⟨G, δ, rp, q⟩ => ⟨G, δ, rp, by
  dsimp only at q
  cases e' : f δ with
  | ok r =>
   rw [e'] at q
   rintro v H' G' e1 ⟨l, x, a, vs, rfl, h1, h2, h3, h4, h5, h6⟩
   exact ⟨l, _, 1, .ref a, rfl, rfl, SqL.of h1, rfl, q a vs H' G' e1 h3 h4 h5 h6⟩
  | exc c => rw [e'] at q; exact q
  | stuck => rw [e'] at q; exact q⟩
end
end L3
namespace L3
open PySem PySem.Spec PyProof.Rows L2
structure QX (κ : Nat → Addr) (B : Gd) (X : Cx) (e : Expr) (f : Ev → R D) : Prop where
 h : PX κ B X e f
structure QXr (κ : Nat → Addr) (B : Gd) (X : Cx) (e : Expr) (f : Ev → R D) : Prop where
 h : PXr κ B X e f
structure QXs (κ : Nat → Addr) (B : Gd) (X : Cx) (e : List Expr) (f : Ev → R (List D)) : Prop where
 h : PXs κ B X e f
structure QXf (κ : Nat → Addr) (B : Gd) (X : Cx) (e : Expr) (f : Ev → R (List D)) : Prop where
 h : PXf κ B X e f
structure QXt (κ : Nat → Addr) (B : Gd) (X : Cx) (e : Expr) (f : Ev → R Bool) : Prop where
 h : PXt κ B X e f
structure QXw (κ : Nat → Addr) (B : Gd) (X : Cx) (e : Expr) (f : Ev → R Bool) : Prop where
 h : PXw κ B X e f
structure QIz (κ : Nat → Addr) (B : Gd) (X : Cx) (tg e : Expr) (f : Ev → R (List D)) : Prop where
 h : PIz κ B X tg e f
structure QIg (κ : Nat → Addr) (B : Gd) (X : Cx) (tg e : Expr) (f : Ev → R (List D)) : Prop where
 h : PIg κ B X tg e f
structure QGz (κ : Nat → Addr) (B : Gd) (X : Cx) (tg : Expr) (b : D → Ev → Option Ev) : Prop where
 h : PGz κ B X tg b
structure QGzs (κ : Nat → Addr) (B : Gd) (X : Cx) (tg : List Expr) (b : List D → Ev → Option Ev) : Prop where
 h : PGzs κ B X tg b
structure QZ (κ : Nat → Addr) (B : Gd) (X : Cx) (st : Stmt) (F : Ev → SR) : Prop where
 h : PZ κ B X st F
structure QZs (κ : Nat → Addr) (B : Gd) (X : Cx) (st : List Stmt) (F : Ev → SR) : Prop where
 h : PZs κ B X st F
structure QXo (κ : Nat → Addr) (B : Gd) (X : Cx) (e : Option Expr) (f : Ev → R (Option Int)) : Prop where
 h : PXo κ B X e f
section
variable {κ : Nat → Addr} {B : Gd} {X : Cx} {a b c e k tg : Expr} {es tgs rest : List Expr} {f fa fb fc fk : Ev → R D} {ta tb : Ev → R Bool} {fs fl : Ev → R (List D)} {pos pos' pos'' apos p p' : Pos} {x : Str} {m : List D → R D} {n i : Nat}
theorem QX.read (h : QX κ B X e f) : QXr κ B X e f := ⟨h.h.read⟩
theorem QXw.t (h : QXw κ B X e ta) : QXt κ B X e ta := ⟨h.h.t⟩
theorem QXf.px (h : QXf κ B X e fl) : QX κ B X e (mL fl) := ⟨h.h.px⟩
theorem qpx_int {i : Int} {j pos} : QX κ B X (.Constant (.int i) j pos) (mC (.int i)) := ⟨px_int ⟩
theorem qpx_bl {i : Bool} {j pos} : QX κ B X (.Constant (.bool i) j pos) (mC (.bl i)) := ⟨px_bl ⟩
theorem qpx_var (i : Nat) {x : Str} (hN : X.N[i]? = some x) (hv : Vis X.env.scope x) (hd : (x == ("__debug__" : Str)) = false) (hcd : (x == ("__classdict__" : Str)) = false) : QX κ B X (.Name x pos) (mVar i) := ⟨px_var i hN hv hd hcd⟩
theorem qpx_varR (i : Nat) {x : Str} (hN : X.N[i]? = some x) (hv : Vis X.env.scope x) (hd : (x == ("__debug__" : Str)) = false) (hcd : (x == ("__classdict__" : Str)) = false) : QXr κ B X (.Name x pos) (mVarR i) := ⟨px_varR i hN hv hd hcd⟩
theorem qpx_sub (ha : QXr κ B X a fa) (hb : QXr κ B X b fb) : QX κ B X (.BinOp a .Sub b pos) (m2 oSub fa fb) := ⟨px_sub ha.h hb.h⟩
theorem qpx_mulI (ha : QXr κ B X a fa) (hb : QXr κ B X b fb) : QX κ B X (.BinOp a .Mult b pos) (m2 oMul fa fb) := ⟨px_mulI ha.h hb.h⟩
theorem qpx_div (ha : QXr κ B X a fa) (hb : QXr κ B X b fb) : QX κ B X (.BinOp a .FloorDiv b pos) (m2 oDiv fa fb) := ⟨px_div ha.h hb.h⟩
theorem qpx_mod (ha : QXr κ B X a fa) (hb : QXr κ B X b fb) : QX κ B X (.BinOp a .Mod b pos) (m2 oMod fa fb) := ⟨px_mod ha.h hb.h⟩
theorem qpx_add (ha : QXr κ B X a fa) (hb : QXr κ B X b fb) : QX κ B X (.BinOp a .Add b pos) (m2 oAdd fa fb) := ⟨px_add ha.h hb.h⟩
theorem qpx_gt (ha : QXr κ B X a fa) (hb : QXr κ B X b fb) (hm : behindInMarks .Gt b = false) : QX κ B X (.Compare a [.Gt] [b] pos) (m2 (op2 oGt) fa fb) := ⟨px_gt ha.h hb.h hm⟩
theorem qpxt_lt (ha : QXr κ B X a fa) (hb : QXr κ B X b fb) (hm : behindInMarks .Lt b = false) : QXt κ B X (.Compare a [.Lt] [b] pos) (m2t oLt fa fb) := ⟨pxt_lt ha.h hb.h hm⟩
theorem qpxt_le (ha : QXr κ B X a fa) (hb : QXr κ B X b fb) (hm : behindInMarks .LtE b = false) : QXt κ B X (.Compare a [.LtE] [b] pos) (m2t oLe fa fb) := ⟨pxt_le ha.h hb.h hm⟩
theorem qpxt_gt (ha : QXr κ B X a fa) (hb : QXr κ B X b fb) (hm : behindInMarks .Gt b = false) : QXt κ B X (.Compare a [.Gt] [b] pos) (m2t oGt fa fb) := ⟨pxt_gt ha.h hb.h hm⟩
theorem qpxt_ge (ha : QXr κ B X a fa) (hb : QXr κ B X b fb) (hm : behindInMarks .GtE b = false) : QXt κ B X (.Compare a [.GtE] [b] pos) (m2t oGe fa fb) := ⟨pxt_ge ha.h hb.h hm⟩
theorem qpxt_not (ha : QXt κ B X a ta) : QXt κ B X (.UnaryOp .Not a pos) (mNot ta) := ⟨pxt_not ha.h⟩
theorem qpxw_and1 (ha : QXt κ B X a ta) : QXw κ B X (.BoolOp .And [a] pos) ta := ⟨pxw_and1 ha.h⟩
theorem qpxw_or1 (ha : QXt κ B X a ta) : QXw κ B X (.BoolOp .Or [a] pos) ta := ⟨pxw_or1 ha.h⟩
theorem qpxw_and (ha : QXt κ B X a ta) (hb : QXw κ B X (.BoolOp .And (b :: rest) pos) tb) : QXw κ B X (.BoolOp .And (a :: b :: rest) pos) (mAnd ta tb) := ⟨pxw_and ha.h hb.h⟩
theorem qpxw_or (ha : QXt κ B X a ta) (hb : QXw κ B X (.BoolOp .Or (b :: rest) pos) tb) : QXw κ B X (.BoolOp .Or (a :: b :: rest) pos) (mOr ta tb) := ⟨pxw_or ha.h hb.h⟩
theorem qpx_one {op} (h : QX κ B X a fa) : QX κ B X (.BoolOp op [a] pos) fa := ⟨px_one h.h⟩
theorem qpx_and (ha : QX κ B X a fa) (hb : QX κ B X (.BoolOp .And (b :: rest) pos) fb) : QX κ B X (.BoolOp .And (a :: b :: rest) pos) (mAndV fa fb) := ⟨px_and ha.h hb.h⟩
theorem qpx_not (ha : QX κ B X a fa) : QX κ B X (.UnaryOp .Not a pos) (mNotV fa) := ⟨px_not ha.h⟩
theorem qpx_if (hc : QXt κ B X c ta) (ha : QX κ B X a fa) (hb : QX κ B X b fb) : QX κ B X (.IfExp c a b pos) (mIf ta fa fb) := ⟨px_if hc.h ha.h hb.h⟩
theorem qpxs_nil : QXs κ B X [] mNil := ⟨pxs_nil ⟩
theorem qpx_tup {k : Nat} (h : QXs κ B X es fs) : QX κ B X (.Tuple es k pos) (mTup fs) := ⟨px_tup h.h⟩
theorem qpx_lst (h : QXs κ B X es fs) : QX κ B X (.List es pos) (mLst fs) := ⟨px_lst h.h⟩
theorem qpzs_nil : QZs κ B X [] SR.next := ⟨pzs_nil ⟩
theorem qpzs_cons {st : Stmt} {rest : List Stmt} {F1 F2 : Ev → SR} (h1 : QZ κ B X st F1) (h2 : QZs κ B X rest F2) : QZs κ B X (st :: rest) (zSeq F1 F2) := ⟨pzs_cons h1.h h2.h⟩
theorem qpzs_one {st : Stmt} {F : Ev → SR} (h1 : QZ κ B X st F) : QZs κ B X [st] F := ⟨pzs_one h1.h⟩
theorem qpzs_frz (i : Nat) {sts : List Stmt} {F : Ev → SR} (h : QZs κ B X sts F) : QZs κ B X sts (λ δ => F (frzE i δ)) := ⟨pzs_frz i h.h⟩
theorem qpz_ret (cx : Cxo X) (h : QX κ B X e f) : QZ κ B X (.Return (some e) pos) (zRet f) := ⟨pz_ret cx h.h⟩
theorem qpz_if (cx : Cxo X) {t : Ev → R Bool} {s1 s2 : List Stmt} {F1 F2 : Ev → SR} (hc : QXt κ B X c t) (h1 : QZs κ B X s1 F1) (h2 : QZs κ B X s2 F2) : QZ κ B X (.If c s1 s2 pos) (zIf t F1 F2) := ⟨pz_if cx hc.h h1.h h2.h⟩
theorem qpz_aug (cx : Cxo X) {i : Nat} {x : Str} {op : Operator} {g : Int → Int → Int} (ho : ∀ Y : Cx, PIp Y op (ipI g)) (hN : X.N.Nodup) (hi : X.N[i]? = some x) (hx : Loc X.env.scope x) (hf : X.fn x = true ∨ X.env.scope.names.lookup x = some .local) (h : QX κ B X e f) : QZ κ B X (.AugAssign (.Name x pos') op e pos) (zAug i g f) := ⟨pz_aug cx ho hN hi hx hf h.h⟩
theorem qpgz_name (cx : Cxo X) {i : Nat} {x : Str} (hN : X.N.Nodup) (hi : X.N[i]? = some x) (hx : Loc X.env.scope x) (hf : X.fn x = true ∨ X.env.scope.names.lookup x = some .local) : QGz κ B X (.Name x pos) (bN i) := ⟨pgz_name cx hN hi hx hf⟩
theorem qpgzs_nil : QGzs κ B X [] bsNil := ⟨pgzs_nil ⟩
theorem qpiz_seq (h : QX κ B X e f) : QIz κ B X tg e (λ δ => (f δ).bind itemsD) := ⟨piz_seq h.h⟩
theorem qpz_while (cx : Cxo X) (N : Nat) {c : Expr} {body : List Stmt} {t : Ev → R Bool} {F : Ev → SR} (hc : QXt κ B X c t) (hb : QZs κ B X body F) : QZ κ B X (.While c body [] pos) (whileZ t F N) := ⟨pz_while cx N hc.h hb.h⟩
theorem qpxf_lst (h : QXs κ B X es fs) : QXf κ B X (.List es pos) (λ δ => lim (fs δ)) := ⟨pxf_lst h.h⟩
theorem qpx_eq (hu : X.A.units + 64 < cLine) (ha : QXr κ B X a fa) (hb : QXr κ B X b fb) (hm : behindInMarks .Eq b = false) : QX κ B X (.Compare a [.Eq] [b] pos) (m2 (op2 oEq) fa fb) := ⟨px_eq hu ha.h hb.h hm⟩
theorem qpxt_eq (hu : X.A.units + 64 < cLine) (ha : QXr κ B X a fa) (hb : QXr κ B X b fb) (hm : behindInMarks .Eq b = false) : QXt κ B X (.Compare a [.Eq] [b] pos) (m2t oEq fa fb) := ⟨pxt_eq hu ha.h hb.h hm⟩
theorem qpxt_ne (hu : X.A.units + 64 < cLine) (ha : QXr κ B X a fa) (hb : QXr κ B X b fb) (hm : behindInMarks .NotEq b = false) : QXt κ B X (.Compare a [.NotEq] [b] pos) (m2t oNe fa fb) := ⟨pxt_ne hu ha.h hb.h hm⟩
theorem qys_cons (ha : QX κ B X a fa) (hr : QXs κ B X es fs) (h : noStar a = true) : QXs κ B X (a :: es) (mCons fa fs) := ⟨ys_cons ha.h hr.h h⟩
theorem qy_call (c : Cxo X) (C : Cal κ X x n m) (hn : (a :: es).length = n) (hg : Gl X x) (ha : QXs κ B X (a :: es) fs) (hdb : (x == ("__debug__" : Str)) = false := by decide) (h : (a :: es).all noStar = true := by rfl) (hlen : ∀ δ ds, fs δ = .ok ds → ds.length = n := by repeat (first | exact mlen_nil | refine mlen_cons ?_)) : QX κ B X (.Call (.Name x p) (a :: es) [] pos) (mCall m fs) := ⟨y_call c C hn hg ha.h hdb h hlen⟩
theorem qy_set (cx : Cxo X) (hN : X.N.Nodup) (hi : X.N[i]? = some x) (hx : Loc X.env.scope x) (hf : X.fn x = true ∨ X.env.scope.names.lookup x = some .local) (h : QX κ B X e f) (hs : noComp e = true) : QZ κ B X (.Assign [.Name x pos'] e pos) (zSet i f) := ⟨y_set cx hN hi hx hf h.h hs⟩
theorem qy_own (cx : Cxo X) (hN : X.N.Nodup) (hi : X.N[i]? = some x) (hx : Loc X.env.scope x) (hf : X.fn x = true ∨ X.env.scope.names.lookup x = some .local) (h : QXf κ B X e fl) (hs : noComp e = true) : QZ κ B X (.Assign [.Name x pos'] e pos) (zOwn i fl) := ⟨y_own cx hN hi hx hf h.h hs⟩
theorem qy_append (cx : Cxo X) (hN : X.N[i]? = some x) (hv : Vis X.env.scope x) (hd : (x == ("__debug__" : Str)) = false) (hcd : (x == ("__classdict__" : Str)) = false) (h : QX κ B X e f) (hs : noStar e = true) (hline : (apos.endLine == pos'.line) = true) : QZ κ B X (.Expr (.Call (.Attribute (.Name x pos) "append" apos) [e] [] pos') pos'') (zApp i f) := ⟨y_append cx hN hv hd hcd h.h hs hline⟩
theorem qy_tup {kk : Nat} {bs : List D → Ev → Option Ev} (hc : X.calm = true) (h : QGzs κ B X tgs bs) (hn : tgs.length = n) (hst : tgs.all noStar = true) : QGz κ B X (.Tuple tgs kk pos) (bTup n bs) := ⟨y_tup hc h.h hn hst⟩
theorem qy_cons {bd : D → Ev → Option Ev} {bs : List D → Ev → Option Ev} (h1 : QGz κ B X tg bd) (h2 : QGzs κ B X tgs bs) (h : noStar tg = true) : QGzs κ B X (tg :: tgs) (bsCons bd bs) := ⟨y_cons h1.h h2.h h⟩
theorem qyt_val (ha : QXr κ B X a fa) (h : plT a = true) : QXt κ B X a (mT fa) := ⟨yt_val ha.h h⟩
theorem qy_ix (ha : QXr κ B X a fa) (hb : QXr κ B X b fb) (h : plI b = true) : QX κ B X (.Subscript a b pos) (m2 oIx fa fb) := ⟨y_ix ha.h hb.h h⟩
theorem qy_len (hg : Gl X "len") (hm : X.mg "len" = none) (ha : QXr κ B X a fa) (h : noStar a = true) : QX κ B X (.Call (.Name "len" p) [a] [] pos) (m1 oLen fa) := ⟨y_len hg hm ha.h h⟩
theorem qy_isinst (T : Ty) {y : Str} (hy : y = Str.ofString T.nm) (hg : Gl X "isinstance") (hm : X.mg "isinstance" = none) (hgT : Gl X y) (hmT : X.mg y = none) (hn : y ≠ "__name__") (hdb : (y == ("__debug__" : Str)) = false) (ha : QXr κ B X a fa) (h : noStar a = true) : QX κ B X (.Call (.Name "isinstance" p) [a, .Name y p'] [] pos) (m1 (λ x => blR (isTy x T)) fa) := ⟨y_isinst T hy hg hm hgT hmT hn hdb ha.h h⟩
theorem qyi_range1 (hg : Gl X "range") (hm : X.mg "range" = none) (ha : QXs κ B X [a] fs) (h : noStar a = true) : QIz κ B X tg (.Call (.Name "range" p) [a] [] pos) (λ δ => (fs δ).bind iR1) := ⟨yi_range1 hg hm ha.h h⟩
theorem qyi_range2 (hg : Gl X "range") (hm : X.mg "range" = none) (ha : QXs κ B X [a, b] fs) (h : noStar a = true) (h' : noStar b = true) : QIz κ B X tg (.Call (.Name "range" p) [a, b] [] pos) (λ δ => (fs δ).bind iR2) := ⟨yi_range2 hg hm ha.h h h'⟩
theorem qy_for (cx : Cxo X) (hc : X.calm = true) {iter : Expr} {body : List Stmt} {fit : Ev → R (List D)} {bd : D → Ev → Option Ev} {F : Ev → SR} (hi : QIz κ B X tg iter fit) (hg : ∀ B, QGz κ B X tg bd) (hb : ∀ B, QZs κ B X body F) (h : plI iter = true) : QZ κ B X (.For tg iter body [] pos) (zFor fit bd F) := ⟨y_for cx hc hi.h (λ z => (hg z).h) (λ z => (hb z).h) h⟩
theorem qpiz_range3p {a b c : Expr} {fs : Ev → R (List D)} {p pos : Pos} (hg : Gl X "range") (hm : X.mg "range" = none) (ha : QXs κ B X [a, b, c] fs) (h : noStar a = true) (h2 : [b, c].all noStar = true) : QIz κ B X tg (.Call (.Name "range" p) [a, b, c] [] pos) (λ δ => (fs δ).bind iR3p) := ⟨piz_range3p hg hm ha.h h h2⟩
theorem qpxt_ind (hu : X.A.units + 64 < cLine) (ha : QXr κ B X a fa) (hb : QXr κ B X b fb) (hm : behindInMarks .In b = false) : QXt κ B X (.Compare a [.In] [b] pos) (m2t oInD fa fb) := ⟨pxt_ind hu ha.h hb.h hm⟩
theorem qpzs_dict {x y z : Str} {i j k : Nat} {p1 p2 p3 p4 p5 p6 p7 p8 p9 p10 p11 : Pos} {rest : List Stmt} {F : Ev → SR} (cx : Cxo X) (hc : X.calm = true) (hu : X.A.units + 64 < cLine) (hND : X.N.Nodup) (hfn : ∀ y, X.fn y = true) (hi : X.N[i]? = some x) (vx : Vis X.env.scope x) (dx : (x == ("__debug__" : Str)) = false) (cdx : (x == ("__classdict__" : Str)) = false)
  (hj : X.N[j]? = some y) (ly : Loc X.env.scope y) (vy : Vis X.env.scope y) (dy : (y == ("__debug__" : Str)) = false) (cdy : (y == ("__classdict__" : Str)) = false)
  (hk : X.N[k]? = some z) (lz : Loc X.env.scope z) (vz : Vis X.env.scope z) (dz : (z == ("__debug__" : Str)) = false) (cdz : (z == ("__classdict__" : Str)) = false) (hij : i ≠ j) (hik : i ≠ k) (hjk : j ≠ k) {c : Nat} (hr : QZs κ B X rest F) : QZs κ B X (.Assign [.Name y p1] (.Dict [] [] p2) p3 :: .For (.Name z p4) (.Name x p5) [.Assign [.Subscript (.Name y p6) (.Name z p7) p8] (.Constant (.bool true) c p9) p10] [] p11 :: rest) (zSeq (zDict i j k) F) := ⟨pzs_dict cx hc hu hND hfn hi vx dx cdx hj ly vy dy cdy hk lz vz dz cdz hij hik hjk hr.h⟩
theorem qpz_pop (cx : Cxo X) {i : Nat} {x : Str} (hN : X.N[i]? = some x) (hv : Vis X.env.scope x) (hd : (x == ("__debug__" : Str)) = false) (hcd : (x == ("__classdict__" : Str)) = false) (hline : (apos.endLine == pos'.line) = true) : QZ κ B X (.Expr (.Call (.Attribute (.Name x pos) "pop" apos) [] [] pos') pos'') (zPop i) := ⟨pz_pop cx hN hv hd hcd hline⟩
theorem qy_minL (hc : X.calm = true) (hg : Gl X "min") (hm : X.mg "min" = none) (ha : QXr κ B X a fa) (h : noStar a = true) : QX κ B X (.Call (.Name "min" p) [a] [] pos) (m1 oMinL fa) := ⟨y_minL hc hg hm ha.h h⟩
theorem qy_index {o e : Expr} {fo : Ev → R D} {fs : Ev → R (List D)} {apos : Pos} (hu : X.A.units + 64 < cLine) (ho : QXr κ B X o fo) (ha : QXs κ B X [e] fs) (hs : noStar e = true) (hline : (apos.endLine == pos.line) = true) (hbase : attributeBase o "index" X.env (eval o X.env) = eval o X.env) : QX κ B X (.Call (.Attribute o "index" apos) [e] [] pos) (mBL oIndex fo fs) := ⟨y_index hu ho.h ha.h hs hline hbase⟩
theorem qpxf_sset (hc : X.calm = true) (hgs : Gl X "sorted") (hms : X.mg "sorted" = none) (hg : Gl X "set") (hm : X.mg "set" = none) (ha : QXr κ B X a fa) (h : noStar a = true) : QXf κ B X (.Call (.Name "sorted" p) [.Call (.Name "set" p') [a] [] pos'] [] pos) (λ δ => (fa δ).bind ssetD) := ⟨pxf_sset hc hgs hms hg hm ha.h h⟩
theorem qpiz_rev (hg : Gl X "reversed") (hm : X.mg "reversed" = none) (h : QX κ B X e f) (hs : noStar e = true) : QIz κ B X tg (.Call (.Name "reversed" p) [e] [] pos) (λ δ => (f δ).bind revD) := ⟨piz_rev hg hm h.h hs⟩
theorem qpxf_lrng1 (hc : X.calm = true) (hgl : Gl X "list") (hml : X.mg "list" = none) (hg : Gl X "range") (hm : X.mg "range" = none) (ha : QXs κ B X [a] fs) (h : noStar a = true) : QXf κ B X (.Call (.Name "list" p) [.Call (.Name "range" p') [a] [] pos'] [] pos) (λ δ => (fs δ).bind lR1) := ⟨pxf_lrng1 hc hgl hml hg hm ha.h h⟩
theorem qpz_reverse (cx : Cxo X) {i : Nat} {x : Str} (hN : X.N[i]? = some x) (hv : Vis X.env.scope x) (hd : (x == ("__debug__" : Str)) = false) (hcd : (x == ("__classdict__" : Str)) = false) (hline : (apos.endLine == pos'.line) = true) : QZ κ B X (.Expr (.Call (.Attribute (.Name x pos) "reverse" apos) [] [] pos') pos'') (zRev i) := ⟨pz_reverse cx hN hv hd hcd hline⟩
theorem qpig_enum (hg : Gl X "enumerate") (hm : X.mg "enumerate" = none) (h : QX κ B X e f) (hs : noStar e = true) : QIg κ B X (.Tuple tgs kk tpos) (.Call (.Name "enumerate" p) [e] [] pos) (λ δ => (f δ).bind enumD) := ⟨pig_enum hg hm h.h hs⟩
theorem qy_forG (cx : Cxo X) (hc : X.calm = true) {tg iter : Expr} {body : List Stmt} {fit : Ev → R (List D)} {bd : D → Ev → Option Ev} {F : Ev → SR} (hi : QIg κ B X tg iter fit) (hg : ∀ B, QGz κ B X tg bd) (hb : ∀ B, QZs κ B X body F) (h : plI iter = true) : QZ κ B X (.For tg iter body [] pos) (zFor fit bd F) := ⟨y_forG cx hc hi.h (λ z => (hg z).h) (λ z => (hb z).h) h⟩
theorem qy_putA (cx : Cxo X) (hN : X.N[i]? = some x) (hv : Vis X.env.scope x) (hd : (x == ("__debug__" : Str)) = false) (hcd : (x == ("__classdict__" : Str)) = false) (h : QX κ B X e f) (hk : QX κ B X k fk) (ht : noTup e = true)
  (ha : ∀ v, assign (.Subscript (.Name x pos) k apos) X.env v = (do
   let ov ← holding [v] (eval (.Name x pos) X.env)
   let iv ← holding [v, ov] (eval k X.env)
   standAt apos
   holding [v, ov, iv] (setItem ov iv v)
   release [v, ov, iv] [])) : QZ κ B X (.Assign [.Subscript (.Name x pos) k apos] e pos') (zPut i fk f) := ⟨y_putA cx hN hv hd hcd h.h hk.h ht ha⟩
theorem qpx_neg (ha : QXr κ B X a fa) : QX κ B X (.UnaryOp .USub a pos) (m1 oNeg fa) := ⟨px_neg ha.h⟩
theorem qpxf_list (hg : Gl X "list") (hm : X.mg "list" = none) (ha : QXr κ B X a fa) (h : noStar a = true) : QXf κ B X (.Call (.Name "list" p) [a] [] pos) (λ δ => (fa δ).bind itemsD) := ⟨pxf_list hg hm ha.h h⟩
theorem qy_min (hc : X.calm = true) (hg : Gl X "min") (hm : X.mg "min" = none) (ha : QXs κ B X [a, b] fs) (h : noStar a = true) (h' : noStar b = true) : QX κ B X (.Call (.Name "min" p) [a, b] [] pos) (mCB oMin fs) := ⟨y_min hc hg hm ha.h h h'⟩
theorem qy_max (hc : X.calm = true) (hg : Gl X "max") (hm : X.mg "max" = none) (ha : QXs κ B X [a, b] fs) (h : noStar a = true) (h' : noStar b = true) : QX κ B X (.Call (.Name "max" p) [a, b] [] pos) (mCB oMax fs) := ⟨y_max hc hg hm ha.h h h'⟩
theorem qy_toint (hg : Gl X "int") (hm : X.mg "int" = none) (ha : QXs κ B X [a] fs) (h : noStar a = true) : QX κ B X (.Call (.Name "int" p) [a] [] pos) (mCB oInt fs) := ⟨y_toint hg hm ha.h h⟩
theorem qpxo_none : QXo κ B X none mNoP := ⟨pxo_none ⟩
theorem qpxo_some (h : QX κ B X a fa) : QXo κ B X (some a) (mP fa) := ⟨pxo_some h.h⟩
theorem qy_sl {lo hi : Option Expr} {fl fh : Ev → R (Option Int)} {p2 : Pos} (ha : QXr κ B X a fa) (hl : QXo κ B X lo fl) (hh : QXo κ B X hi fh) : QX κ B X (.Subscript a (.Slice lo hi none p2) pos) (mSl fa fl fh) := ⟨y_sl ha.h hl.h hh.h⟩
theorem qpx_nin (hu : X.A.units + 64 < cLine) (ha : QXr κ B X a fa) (hb : QXr κ B X b fb) (hm : behindInMarks .NotIn b = false) : QX κ B X (.Compare a [.NotIn] [b] pos) (m2 (op2 oNin) fa fb) := ⟨px_nin hu ha.h hb.h hm⟩
theorem qpxt_nin (hu : X.A.units + 64 < cLine) (ha : QXr κ B X a fa) (hb : QXr κ B X b fb) (hm : behindInMarks .NotIn b = false) : QXt κ B X (.Compare a [.NotIn] [b] pos) (m2t oNin fa fb) := ⟨pxt_nin hu ha.h hb.h hm⟩
theorem qpx_cat (ha : QXr κ B X a fa) (hb : QXr κ B X b fb) : QX κ B X (.BinOp a .Add b pos) (m2 oCat fa fb) := ⟨px_cat ha.h hb.h⟩
end
theorem qfn_mirror {P : Program} {w : World} {K : PySem.W.Frag} {mg : Str → Option Value} {base : Heap} {κ : Nat → Addr} {x qual : Str} {st : Stmt} {f : Addr} {fd : FuncData} {N ps : List Str} {k : Nat} {F : Ev → SR}
  (Fn : Fun K x qual st f fd) (S : FnScope N ps (defScope st))
  (hb : ∀ (X : Cx) (B : Gd), Cxo X → X.calm = true → X.prog = P → X.w = w → X.K = K → X.mg = mg → X.base = base → X.N = N → X.env.scope = defScope st → (∀ y, X.fn y = true) → Room k X.A → FrmOk X → QZs κ B X (defBody st) F) :
  FnOk P w K mg base (CXR P w) (k + 1) f fd ps (spM K κ ps.length λ ds => finR (F (startE N.length ds))) := fn_mirror Fn S λ X B a1 a2 a3 a4 a5 a6 a7 a8 a9 a10 a11 a12 => (hb X B a1 a2 a3 a4 a5 a6 a7 a8 a9 a10 a11 a12).h
end L3
namespace L3
open PySem PySem.Spec PyProof.Rows L2
structure QIcz (κ : Nat → Addr) (B : Gd) (X : Cx) (tg e : Expr) (f : Ev → R (List D)) : Prop where
 h : PIcz κ B X tg e f
structure QTs (κ : Nat → Addr) (B : Gd) (X : Cx) (e : List Expr) (f : Ev → R Bool) : Prop where
 h : PTs κ B X e f
structure QR {α : Type} (κ : Nat → Addr) (B : Gd) (X : Cx) (e : Expr) (ρ : RRel α) (f : Ev → R α) : Prop where
 h : PR κ B X e ρ f
structure QZr {α : Type} (κ : Nat → Addr) (B : Gd) (X : Cx) (st : List Stmt) (ρ : RRel α) (F : Ev → R α) : Prop where
 h : PZr κ B X st ρ F
section
variable {κ : Nat → Addr} {B : Gd} {X : Cx} {a b c e tg iter elt : Expr} {es ifs : List Expr} {f : Ev → R D} {t : Ev → R Bool} {fs fl fit : Ev → R (List D)} {pos p px : Pos} {x : Str} {m : List D → R (List D)} {n i : Nat} {sc : Scope}
theorem qpicz_seq (h : QX κ B X e f) : QIcz κ B X tg e (λ δ => (f δ).bind itemsD) := ⟨picz_seq h.h⟩
theorem qpicz_range1 (hg : Gl X "range") (hm : X.mg "range" = none) (ha : QXs κ B X [a] fs) (h : noStar a = true) : QIcz κ B X tg (.Call (.Name "range" p) [a] [] pos) (λ δ => (fs δ).bind iR1) := ⟨picz_range1 hg hm ha.h h⟩
theorem qpts_nil : QTs κ B X [] (λ _ => .ok true) := ⟨pts_nil⟩
theorem qpts_one (h : QXt κ B X c t) : QTs κ B X [c] t := ⟨pts_one h.h⟩
theorem qcomp_by (hc : X.calm = true) (co : CompOk X sc x) (hi : QIcz κ B X (.Name x px) iter fit) (ht : ∀ X' B', CmpIs X sc x X' → QTs κ B' X' ifs t) (he : ∀ X' B', CmpIs X sc x X' → QX κ B' X' elt f)
  (hs : plI iter = true) : QXf κ B X (.ListComp elt [⟨.Name x px, iter, ifs, 0⟩] sc pos) (mComp fit t f) := ⟨comp_by hc co hi.h (λ X' B' h => (ht X' B' h).h) (λ X' B' h => (he X' B' h).h) hs⟩
theorem qset_comp {y : Str} {py spos : Pos} (cx : Cxo X) (hN : X.N.Nodup) (hy : X.N[i]? = some y) (hk : X.env.scope.kind = .function) (hx : X.env.scope.names.lookup y = some .local) (hl : (py.line == pos.line) = true) (hn : (sc.names.any λ p => p.1 == y && (p.2 == .local || p.2 == .cell)) = false)
  (hc : X.calm = true) (co : CompOk X sc x) (hi : QIcz κ B X (.Name x px) iter fit) (ht : ∀ X' B', CmpIs X sc x X' → QTs κ B' X' ifs t) (he : ∀ X' B', CmpIs X sc x X' → QX κ B' X' elt f) (hs : plI iter = true) :
  QZ κ B X (.Assign [.Name y py] (.ListComp elt [⟨.Name x px, iter, ifs, 0⟩] sc pos) spos) (zSet i (mL (mComp fit t f))) := ⟨set_comp cx hN hy hk hx hl hn hc co hi.h (λ X' B' h => (ht X' B' h).h) (λ X' B' h => (he X' B' h).h) hs⟩
theorem qpxf_call (c : Cxo X) (C : CalR κ X x n ρ1 m) (hn : (a :: es).length = n) (hg : Gl X x) (ha : QXs κ B X (a :: es) fs) (hdb : (x == ("__debug__" : Str)) = false) (h : (a :: es).all noStar = true)
  (hlen : ∀ δ ds, fs δ = .ok ds → ds.length = n) : QXf κ B X (.Call (.Name x p) (a :: es) [] pos) (λ δ => (fs δ).bind m) := ⟨pxf_call c C hn hg ha.h hdb h hlen⟩
theorem qpr_of (h : QXf κ B X e fl) : QR κ B X e ρ1 fl := ⟨pr_of h.h⟩
end
structure QIcg (κ : Nat → Addr) (B : Gd) (X : Cx) (tg e : Expr) (f : Ev → R (List D)) : Prop where
 h : PIcg κ B X tg e f
section
variable {κ : Nat → Addr} {B : Gd} {X : Cx} {a b e tg iter elt : Expr} {tgs ifs : List Expr} {f : Ev → R D} {t : Ev → R Bool} {fs fit : Ev → R (List D)} {bd : D → Ev → Option Ev} {pos p tpos : Pos} {kk i : Nat} {sc : Scope} {N0 xs : List Str} {keys : List (Option Expr)} {values : List Expr} {ks : List Key}
theorem qpicg_of (h : QIcz κ B X tg e fit) : QIcg κ B X tg e fit := ⟨picg_of h.h⟩
theorem qpicg_enum (hg : Gl X "enumerate") (hm : X.mg "enumerate" = none) (h : QX κ B X e f) (hs : noStar e = true) : QIcg κ B X (.Tuple tgs kk tpos) (.Call (.Name "enumerate" p) [e] [] pos) (λ δ => (f δ).bind enumD) := ⟨picg_enum hg hm h.h hs⟩
theorem qpicg_zip (hg : Gl X "zip") (hm : X.mg "zip" = none) (h : QXs κ B X [a, b] fs) (hs1 : noStar a = true) (hs2 : noStar b = true) : QIcg κ B X (.Tuple tgs kk tpos) (.Call (.Name "zip" p) [a, b] [] pos) (λ δ => (fs δ).bind zipD) := ⟨picg_zip hg hm h.h hs1 hs2⟩
theorem qcomp_byG (hc : X.calm = true) (co : CompOkG X sc N0 xs) (hi : QIcg κ B X tg iter fit) (hbd : BdOk X.N.length xs.length bd)
  (hg : ∀ X' B', CmpIsG X sc (N0 ++ xs) X' → QGz κ B' X' tg bd) (ht : ∀ X' B', CmpIsG X sc (N0 ++ xs) X' → QTs κ B' X' ifs t) (he : ∀ X' B', CmpIsG X sc (N0 ++ xs) X' → QX κ B' X' elt f)
  (hs : plI iter = true) : QXf κ B X (.ListComp elt [⟨tg, iter, ifs, 0⟩] sc pos) (mCompG xs.length fit bd t f) := ⟨comp_byG hc co hi.h hbd (λ X' B' h => (hg X' B' h).h) (λ X' B' h => (ht X' B' h).h) (λ X' B' h => (he X' B' h).h) hs⟩
theorem qset_compG (cx : Cxo X) {y : Str} {py spos : Pos} {i : Nat} (hN : X.N.Nodup) (hy : X.N[i]? = some y) (hk : X.env.scope.kind = .function) (hx : X.env.scope.names.lookup y = some .local) (hl : (py.line == pos.line) = true) (hn : (sc.names.any λ p => p.1 == y && (p.2 == .local || p.2 == .cell)) = false)
  (hc : X.calm = true) (co : CompOkG X sc N0 xs) (hi : QIcg κ B X tg iter fit) (hbd : BdOk X.N.length xs.length bd)
  (hg : ∀ X' B', CmpIsG X sc (N0 ++ xs) X' → QGz κ B' X' tg bd) (ht : ∀ X' B', CmpIsG X sc (N0 ++ xs) X' → QTs κ B' X' ifs t) (he : ∀ X' B', CmpIsG X sc (N0 ++ xs) X' → QX κ B' X' elt f)
  (hs : plI iter = true) : QZ κ B X (.Assign [.Name y py] (.ListComp elt [⟨tg, iter, ifs, 0⟩] sc pos) spos) (zSet i (mL (mCompG xs.length fit bd t f))) := ⟨set_compG cx hN hy hk hx hl hn hc co hi.h hbd (λ X' B' h => (hg X' B' h).h) (λ X' B' h => (ht X' B' h).h) (λ X' B' h => (he X' B' h).h) hs⟩
end
structure QX2 (κ : Nat → Addr) (B : Gd) (X : Cx) (e : Expr) (f : Ev → R (D × List D)) : Prop where
 h : PX2 κ B X e f
section
variable {κ : Nat → Addr} {B : Gd} {X : Cx} {a e : Expr} {es : List Expr} {fs : Ev → R (List D)} {pos pos' p p1 p2 : Pos} {x y : Str} {n i j k : Nat}
theorem qpr_two (i j : Nat) {x y : Str} (hN : X.N[i]? = some x) (hv : Vis X.env.scope x) (hd : (x == ("__debug__" : Str)) = false) (hcd : (x == ("__classdict__" : Str)) = false) (hN2 : X.N[j]? = some y) (hv2 : Vis X.env.scope y) (hd2 : (y == ("__debug__" : Str)) = false) (hcd2 : (y == ("__classdict__" : Str)) = false) :
  QR κ B X (.List [.Name x p1, .Name y p2] pos) ρ2 (mTwo i j) := ⟨pr_two i j hN hv hd hcd hN2 hv2 hd2 hcd2⟩
theorem qpx2_call {m : List D → R (D × List D)} (c : Cxo X) (C : CalR κ X x n ρ2 m) (hn : (a :: es).length = n) (hg : Gl X x) (ha : QXs κ B X (a :: es) fs) (hdb : (x == ("__debug__" : Str)) = false) (h : (a :: es).all noStar = true)
  (hlen : ∀ δ ds, fs δ = .ok ds → ds.length = n) : QX2 κ B X (.Call (.Name x p) (a :: es) [] pos) (λ δ => (fs δ).bind m) := ⟨px2_call c C hn hg ha.h hdb h hlen⟩
theorem qpxf_snd {f : Ev → R (D × List D)} {j' : Nat} (h : QX2 κ B X e f) : QXf κ B X (.Subscript e (.Constant (.int 1) j' p1) pos) (λ δ => (f δ).bind λ r => .ok r.2) := ⟨pxf_snd h.h⟩
end
section
variable {α : Type} {ρ : RRel α} {κ : Nat → Addr} {B : Gd} {X : Cx} {e : Expr} {f : Ev → R α} {pos : Pos}
theorem qpzr_ret (cx : Cxo X) (h : QR κ B X e ρ f) : QZr κ B X [.Return (some e) pos] ρ f := ⟨pzr_ret cx h.h⟩
theorem qpzr_cons {st : Stmt} {rest : List Stmt} {F1 : Ev → SR} {F2 : Ev → R α} (h1 : QZ κ B X st F1) (h2 : QZr κ B X rest ρ F2) : QZr κ B X (st :: rest) ρ (zSeqR F1 F2) := ⟨pzr_cons h1.h h2.h⟩
theorem qpzr_frz (i : Nat) {sts : List Stmt} {F : Ev → R α} (h : QZr κ B X sts ρ F) : QZr κ B X sts ρ (λ δ => F (frzE i δ)) := ⟨pzr_frz i h.h⟩
end
theorem qfn_mirrorR {α : Type} {ρ : RRel α} {P : Program} {w : World} {K : PySem.W.Frag} {mg : Str → Option Value} {base : Heap} {κ : Nat → Addr} {x qual : Str} {st : Stmt} {f : Addr} {fd : FuncData} {N ps : List Str} {k : Nat} {F : Ev → R α}
  (Fn : Fun K x qual st f fd) (S : FnScope N ps (defScope st))
  (hb : ∀ (X : Cx) (B : Gd), Cxo X → X.calm = true → X.prog = P → X.w = w → X.K = K → X.mg = mg → X.base = base → X.N = N → X.env.scope = defScope st → (∀ y, X.fn y = true) → Room k X.A → FrmOk X → QZr κ B X (defBody st) ρ F) :
  FnOk P w K mg base (CXR P w) (k + 1) f fd ps (spR K κ ps.length ρ λ ds => noE (F (startE N.length ds))) := fn_mirrorR Fn S λ X B a1 a2 a3 a4 a5 a6 a7 a8 a9 a10 a11 a12 => (hb X B a1 a2 a3 a4 a5 a6 a7 a8 a9 a10 a11 a12).h
structure VP (X : Cx) (i : Nat) (x : Str) : Prop where
 cx : Cxo X
 nd : X.N.Nodup
 n : X.N[i]? = some x
 l : Loc X.env.scope x
 vi : Vis X.env.scope x
 fn : X.fn x = true
 d1 : (x == ("__debug__" : Str)) = false
 d2 : (x == ("__classdict__" : Str)) = false
section
variable {κ : Nat → Addr} {B : Gd} {X : Cx} {e k : Expr} {f fk : Ev → R D} {fl : Ev → R (List D)} {pos p p' p2 ap : Pos} {x : Str} {i : Nat} {N : List Str} {sc : Scope}
theorem fsx {N P : List Str} {sc : Scope} (h1 : sc.kind = .function := by rfl) (h2 : sc.isCoroutine = false := by rfl) (h3 : sc.isGenerator = false := by rfl) (h4 : N.Nodup := by decide +kernel) (h5 : N.take P.length = P := by rfl) (h6 : ∀ x ∈ P, sc.names.lookup x = some .local ∨ sc.names.lookup x = some .cell := by decide +kernel) (h7 : ∀ y ∈ sc.names, y.2 ≠ .free := by decide +kernel) : FnScope N P sc := ⟨h1, h2, h3, h4, h5, h6, h7⟩
theorem glx {X : Cx} {x : Str} {sc : Scope} (hsc : X.env.scope = sc) (h : sc.names.lookup x = some .globalImplicit := by rfl) : Gl X x := by
 show X.env.scope.names.lookup x = _
 rw [hsc]; exact h
theorem vpl (cx : Cxo X) (nd : X.N.Nodup) (fn : ∀ y, X.fn y = true) (hN : X.N = N) (hsc : X.env.scope = sc) (n : N[i]? = some x := by rfl) (lv : sc.names.lookup x = some .local := by rfl) (d1 : (x == ("__debug__" : Str)) = false := by decide) (d2 : (x == ("__classdict__" : Str)) = false := by decide) : VP X i x :=
 ⟨cx, nd, by rw [hN]; exact n, .inl (by rw [hsc]; exact lv), .inl (by rw [hsc]; exact lv), fn x, d1, d2⟩
theorem vpc (cx : Cxo X) (nd : X.N.Nodup) (fn : ∀ y, X.fn y = true) (hN : X.N = N) (hsc : X.env.scope = sc) (n : N[i]? = some x) (lv : sc.names.lookup x = some .cell) (d1 : (x == ("__debug__" : Str)) = false) (d2 : (x == ("__classdict__" : Str)) = false) : VP X i x :=
 ⟨cx, nd, by rw [hN]; exact n, .inr (by rw [hsc]; exact lv), .inr (.inl (by rw [hsc]; exact lv)), fn x, d1, d2⟩
theorem VP.v (V : VP X i x) : QX κ B X (.Name x pos) (mVar i) := qpx_var i V.n V.vi V.d1 V.d2
theorem VP.r (V : VP X i x) : QXr κ B X (.Name x pos) (mVarR i) := qpx_varR i V.n V.vi V.d1 V.d2
theorem VP.s (V : VP X i x) (h : QX κ B X e f) (h2 : noComp e = true) : QZ κ B X (.Assign [.Name x p'] e p) (zSet i f) := qy_set V.cx V.nd V.n V.l (.inl V.fn) h h2
theorem VP.w (V : VP X i x) (h : QXf κ B X e fl) (h2 : noComp e = true) : QZ κ B X (.Assign [.Name x p'] e p) (zOwn i fl) := qy_own V.cx V.nd V.n V.l (.inl V.fn) h h2
theorem VP.a (V : VP X i x) (h : QX κ B X e f) (h2 : noStar e = true) (h3 : (ap.endLine == p'.line) = true) : QZ κ B X (.Expr (.Call (.Attribute (.Name x p) "append" ap) [e] [] p') p2) (zApp i f) := qy_append V.cx V.n V.vi V.d1 V.d2 h h2 h3
theorem VP.pu (V : VP X i x) (h : QX κ B X e f) (hk : QX κ B X k fk) (h3 : noTup e = true) (h4 : ∀ v, assign (.Subscript (.Name x p) k ap) X.env v = (do let ov ← holding [v] (eval (.Name x p) X.env); let iv ← holding [v, ov] (eval k X.env); standAt ap; holding [v, ov, iv] (setItem ov iv v); release [v, ov, iv] [])) :
  QZ κ B X (.Assign [.Subscript (.Name x p) k ap] e p') (zPut i fk f) := qy_putA V.cx V.n V.vi V.d1 V.d2 h hk h3 h4
theorem VP.t (V : VP X i x) : QGz κ B X (.Name x p) (bN i) := qpgz_name V.cx V.nd V.n V.l (.inl V.fn)
theorem VP.ua (V : VP X i x) (h : QX κ B X e f) : QZ κ B X (.AugAssign (.Name x p') .Add e p) (zAug i (λ i j => i + j) f) := qpz_aug V.cx (λ _ => ip_add) V.nd V.n V.l (.inl V.fn) h
theorem VP.us (V : VP X i x) (h : QX κ B X e f) : QZ κ B X (.AugAssign (.Name x p') .Sub e p) (zAug i (λ i j => i - j) f) := qpz_aug V.cx (λ _ => ip_sub) V.nd V.n V.l (.inl V.fn) h
end
def FF (K : PySem.W.Frag) (x : Str) (st : Stmt) : Prop := ∃ (f : Addr) (oc kV dc pm cd ct : Value) (od an : Option Addr) (sl : Array (Option Value)), PySem.W.nsIn K mainGlobals x = some (some (.ref f)) ∧
 K.lookup f = some ⟨oc, od, .func (PySem.W.fnOf x x (defArgs st) (defBody st) (defScope st) .none kV dc pm an cd ct), sl⟩ ∧ PySem.W.codeIn K cd x = true ∧ PySem.W.keepIn K (.ref f) = true
theorem FF.mk {K : PySem.W.Frag} {x : Str} {st : Stmt} {f : Addr} {oc kV dc pm cd ct : Value} {od an : Option Addr} {sl : Array (Option Value)} (a : PySem.W.nsIn K mainGlobals x = some (some (.ref f))) (l : K.lookup f = some ⟨oc, od, .func (PySem.W.fnOf x x (defArgs st) (defBody st) (defScope st) .none kV dc pm an cd ct), sl⟩)
  (d : PySem.W.codeIn K cd x = true) (p : PySem.W.keepIn K (.ref f) = true) : FF K x st := ⟨f, oc, kV, dc, pm, cd, ct, od, an, sl, a, l, d, p⟩
theorem FF.ft {K : PySem.W.Frag} {x : Str} {st : Stmt} {h : Heap} {mg : Str → Option Value} {ps : List Str} (F : FF K x st) (X : K.In h) (G : h.Ns mainGlobals mg)
  (hb : ∀ (kV doc pm : Value) (an : Option Addr) (cdv ct : Value) (us : List Value), us.length = ps.length → bindArgs (PySem.W.fnOf x x (defArgs st) (defBody st) (defScope st) .none kV doc pm an cdv ct) ⟨us, []⟩ = pure (ps.zip us)) : ∃ f fd, Fun K x x st f fd ∧ mg x = some (.ref f) ∧ Binds K fd ps [] := by
 obtain ⟨f, oc, kV, dc, pm, cd, ct, od, an, sl, a, l, d, p⟩ := F
 exact ⟨f, _, fun_mk l d p, PySem.W.mg_of X G a, (fun_mk l d p).binds hb⟩
def FT (K : PySem.W.Frag) (mg : Str → Option Value) (x : Str) (st : Stmt) (ps : List Str) : Prop := ∃ f fd, Fun K x x st f fd ∧ mg x = some (.ref f) ∧ Binds K fd ps []
end L3
namespace L3
open L2
theorem zSeq_next {F1 F2 : Ev → SR} {δ δ' : Ev} (h : F1 δ = .next δ') : zSeq F1 F2 δ = F2 δ' := by unfold zSeq; rw [h]
theorem zIf_no {t : Ev → R Bool} {F1 F2 : Ev → SR} {δ : Ev} (h : t δ = .ok false) : zIf t F1 F2 δ = F2 δ := by unfold zIf; rw [h]; rfl
theorem zIf_yes {t : Ev → R Bool} {F1 F2 : Ev → SR} {δ : Ev} (h : t δ = .ok true) : zIf t F1 F2 δ = F1 δ := by unfold zIf; rw [h]; rfl
@[simp] theorem finR_next (δ : Ev) : finR (.next δ) = .ok .non := rfl
@[simp] theorem finR_ret (d : D) : finR (.ret d) = .ok d := rfl
@[simp] theorem finR_exc (c : Nat) (δ : Ev) : finR (.exc c δ) = .exc c := rfl
@[simp] theorem oAdd_int (i j : Int) : oAdd (.int i) (.int j) = .ok (.int (i + j)) := rfl
@[simp] theorem oSub_int (i j : Int) : oSub (.int i) (.int j) = .ok (.int (i - j)) := rfl
theorem oMod_int (i : Int) {j : Int} (h : 0 < j) : oMod (.int i) (.int j) = .ok (.int (i % j)) := by simp [oMod, oI, h]
theorem oDiv_int (i : Int) {j : Int} (h : 0 < j) (h2 : j < 1073741824) : oDiv (.int i) (.int j) = .ok (.int (i / j)) := by simp [oDiv, oI, h, h2]
theorem oMul_l {i : Int} (j : Int) (h : -18446744073709551616 < i) (h2 : i < 18446744073709551616) : oMul (.int i) (.int j) = .ok (.int (i * j)) := by simp [oMul, oI, h, h2]
theorem oMul_r (i : Int) {j : Int} (h : -18446744073709551616 < j) (h2 : j < 18446744073709551616) : oMul (.int i) (.int j) = .ok (.int (i * j)) := by simp [oMul, oI, h, h2]
@[simp] theorem oLt_int (i j : Int) : oLt (.int i) (.int j) = .ok (decide (i < j)) := rfl
@[simp] theorem oLe_int (i j : Int) : oLe (.int i) (.int j) = .ok (decide (i ≤ j)) := rfl
@[simp] theorem oGt_int (i j : Int) : oGt (.int i) (.int j) = .ok (decide (j < i)) := rfl
@[simp] theorem oGe_int (i j : Int) : oGe (.int i) (.int j) = .ok (decide (j ≤ i)) := rfl
@[simp] theorem op2_ok {op : D → D → R Bool} {x y : D} {b : Bool} (h : op x y = .ok b) : op2 op x y = .ok (.bl b) := by unfold op2; rw [h]; rfl
@[simp] theorem blR_ok (b : Bool) : blR (.ok b) = .ok (.bl b) := rfl
@[simp] theorem boolD_bl (b : Bool) : boolD (.bl b) = .ok b := rfl
@[simp] theorem tru_bl (b : Bool) : tru (.bl b) = .ok b := rfl
@[simp] theorem tru_int (i : Int) : tru (.int i) = .ok (i != 0) := rfl
@[simp] theorem tru_lst (ds : List D) : tru (.lst ds) = .ok (!ds.isEmpty) := rfl
@[simp] theorem tru_tup (ds : List D) : tru (.tup ds) = .ok (!ds.isEmpty) := rfl
@[simp] theorem oLen_lst (ds : List D) : oLen (.lst ds) = .ok (.int ds.length) := rfl
@[simp] theorem oLen_tup (ds : List D) : oLen (.tup ds) = .ok (.int ds.length) := rfl
theorem oIx_lst {ds : List D} {i : Int} {d : D} (h : atI ds i = some d) : oIx (.lst ds) (.int i) = .ok d := by simp [oIx, h]
theorem atI_some {α : Type} {l : List α} {k : Nat} {d : α} (h : l[k]? = some d) : atI l (k : Int) = some d := atI_nat h
section
variable (op : D → D → R D) (opb : D → D → R Bool) (o1 : D → R D) (f g h : Ev → R D) (fs gs : Ev → R (List D)) (t u : Ev → R Bool) (m : List D → R D) (δ : Ev) (F1 F2 : Ev → SR)
@[simp] theorem e_mC (d : D) : mC d δ = .ok d := rfl
@[simp] theorem e_mVar (i : Nat) : mVar i δ = (match δ[i]? with | some (some (.sh d)) => .ok d | _ => .stuck) := rfl
@[simp] theorem e_mVarR (i : Nat) : mVarR i δ = (match δ[i]? with | some (some (.sh d)) => .ok d | some (some (.ow ds)) => .ok (.lst ds) | _ => .stuck) := rfl
@[simp] theorem e_m2 : m2 op f g δ = (f δ).bind λ x => (g δ).bind λ y => op x y := rfl
@[simp] theorem e_m2t : m2t opb f g δ = (f δ).bind λ x => (g δ).bind λ y => opb x y := rfl
@[simp] theorem e_m1 : m1 o1 f δ = (f δ).bind o1 := rfl
@[simp] theorem e_mNil : mNil δ = .ok [] := rfl
@[simp] theorem e_mCons : mCons f fs δ = (f δ).bind λ x => (fs δ).bind λ xs => .ok (x :: xs) := rfl
@[simp] theorem e_mCall : mCall m fs δ = (fs δ).bind m := rfl
@[simp] theorem e_mT : mT f δ = (f δ).bind tru := rfl
@[simp] theorem e_mNot : mNot t δ = (t δ).bind λ k => .ok (!k) := rfl
@[simp] theorem e_mAnd : mAnd t u δ = (t δ).bind λ k => if k then u δ else .ok false := rfl
@[simp] theorem e_mOr : mOr t u δ = (t δ).bind λ k => if k then .ok true else u δ := rfl
@[simp] theorem e_mAndV : mAndV f g δ = (f δ).bind λ x => (boolD x).bind λ k => if k then g δ else .ok (.bl false) := rfl
@[simp] theorem e_mOrV : mOrV f g δ = (f δ).bind λ x => (boolD x).bind λ k => if k then .ok (.bl true) else g δ := rfl
@[simp] theorem e_mNotV : mNotV f δ = (f δ).bind λ x => (boolD x).bind λ k => .ok (.bl (!k)) := rfl
@[simp] theorem e_mIf : mIf t f g δ = (t δ).bind λ k => if k then f δ else g δ := rfl
@[simp] theorem e_mTup : mTup fs δ = (fs δ).bind λ xs => if xs.length ≤ 1000000 then .ok (.tup xs) else .stuck := rfl
@[simp] theorem e_mLst : mLst fs δ = (fs δ).bind λ xs => if xs.length ≤ 1000000 then .ok (.lst xs) else .stuck := rfl
@[simp] theorem e_zSet (i : Nat) : zSet i f δ = bS (f δ) δ λ d => .next (δ.set i (some (.sh d))) := rfl
@[simp] theorem e_zIf : zIf t F1 F2 δ = bS (t δ) δ λ k => if k then F1 δ else F2 δ := rfl
@[simp] theorem e_zRet : zRet f δ = bS (f δ) δ .ret := rfl
@[simp] theorem e_zDrop : zDrop f δ = bS (f δ) δ λ _ => .next δ := rfl
@[simp] theorem e_zOwn (i : Nat) : zOwn i fs δ = bS (fs δ) δ λ ds => .next (δ.set i (some (.ow ds))) := rfl
@[simp] theorem e_bN (i : Nat) (d : D) : bN i d δ = some (δ.set i (some (.sh d))) := rfl
@[simp] theorem e_zAsg (bd : D → Ev → Option Ev) : zAsg bd f δ = bS (f δ) δ λ d => match bd d δ with | some δ' => .next δ' | none => .stuck := rfl
@[simp] theorem op2_int_eq (i j : Int) : op2 oEq (.int i) (.int j) = .ok (.bl (i == j)) := rfl
@[simp] theorem op2_int_ne (i j : Int) : op2 oNe (.int i) (.int j) = .ok (.bl (!(i == j))) := rfl
@[simp] theorem op2_int_lt (i j : Int) : op2 oLt (.int i) (.int j) = .ok (.bl (decide (i < j))) := rfl
@[simp] theorem op2_int_le (i j : Int) : op2 oLe (.int i) (.int j) = .ok (.bl (decide (i ≤ j))) := rfl
@[simp] theorem op2_int_gt (i j : Int) : op2 oGt (.int i) (.int j) = .ok (.bl (decide (j < i))) := rfl
@[simp] theorem op2_int_ge (i j : Int) : op2 oGe (.int i) (.int j) = .ok (.bl (decide (j ≤ i))) := rfl
end
theorem loopZ_inv {bd : D → Ev → Option Ev} {F : Ev → SR} (P : Nat → Ev → Prop) : ∀ (ds : List D) (n : Nat) (δ : Ev), P n δ → (∀ k d δ, ds[k]? = some d → P (n + k) δ → ∃ δ1 δ2, bd d δ = some δ1 ∧ (F δ1 = .next δ2 ∨ F δ1 = .cont δ2) ∧ P (n + k + 1) δ2) →
  ∃ δ', loopZ bd F ds δ = .next δ' ∧ P (n + ds.length) δ'
 | [], n, δ, h0, _ => ⟨δ, rfl, h0⟩
 | d :: ds, n, δ, h0, hs => by
  obtain ⟨δ1, δ2, e1, e2, p2⟩ := hs 0 d δ rfl h0
  obtain ⟨δ', e3, p3⟩ := loopZ_inv P ds (n + 1) δ2 p2 λ k d' δ'' e p => by
   have := hs (k + 1) d' δ'' (by simpa using e) (by rw [show n + (k + 1) = n + 1 + k by omega]; exact p)
   rw [show n + (k + 1) + 1 = n + 1 + k + 1 by omega] at this
   exact this
  refine ⟨δ', ?_, by rw [List.length_cons, show n + (ds.length + 1) = n + 1 + ds.length by omega]; exact p3⟩
  unfold loopZ
  simp only [e1]
  rcases e2 with e2 | e2 <;> simp only [e2, e3]
theorem zFor_next {fit : Ev → R (List D)} {bd : D → Ev → Option Ev} {F : Ev → SR} {δ : Ev} {ds : List D} (P : Nat → Ev → Prop) (h : fit δ = .ok ds) (h0 : P 0 δ) (hs : ∀ k d δ, ds[k]? = some d → P k δ → ∃ δ1 δ2, bd d δ = some δ1 ∧ (F δ1 = .next δ2 ∨ F δ1 = .cont δ2) ∧ P (k + 1) δ2) :
  ∃ δ', zFor fit bd F δ = .next δ' ∧ P ds.length δ' := by
 obtain ⟨δ', e, p⟩ := loopZ_inv P ds 0 δ h0 λ k d δ e q => by simpa using hs k d δ e (by simpa using q)
 exact ⟨δ', by unfold zFor; rw [h]; exact e, by simpa using p⟩
theorem rngD_get {lo hi : Int} {k : Nat} {d : D} (h : (rngD lo hi)[k]? = some d) : d = .int (lo + k) ∧ lo + k < hi := by
 unfold rngD at h
 rw [List.getElem?_map] at h
 cases q : (List.range (hi - lo).toNat)[k]? with
 | none => rw [q] at h; cases h
 | some j =>
  rw [q] at h
  have hk := (List.getElem?_eq_some_iff.mp q).1
  rw [List.length_range] at hk
  rw [List.getElem?_range hk] at q
  cases q
  cases h
  exact ⟨rfl, by omega⟩
theorem rngD_length (lo hi : Int) : (rngD lo hi).length = (hi - lo).toNat := by simp [rngD]
theorem whileZ_false {t : Ev → R Bool} {F : Ev → SR} {n : Nat} {δ : Ev} (h : t δ = .ok false) : whileZ t F (n + 1) δ = .next δ := by simp [whileZ, h]
theorem whileZ_true {t : Ev → R Bool} {F : Ev → SR} {n : Nat} {δ δ' : Ev} (h : t δ = .ok true) (h2 : F δ = .next δ') : whileZ t F (n + 1) δ = whileZ t F n δ' := by simp [whileZ, h, h2]
def cell (ns : List Int) (k : Nat) : Int := ns.getD k 0
end L3
namespace L3
open PySem L2
abbrev rowD (r : List Int) : D := .lst (r.map D.int)
abbrev rowsD (rs : List (List Int)) : D := .lst (rs.map rowD)
theorem plainDs_ints (r : List Int) : plainDs (r.map D.int) = true := by
 induction r with
 | nil => rfl
 | cons a r ih => simp [plainDs, plainD, ih]
theorem lay_ints (r : List Int) : PyData.canLayAll0 (toPs (r.map D.int)) = true := by
 induction r with
 | nil => rfl
 | cons a r ih => simp [toPs, toP, PyData.canLayAll0, PyData.canLay0, ih]
theorem depth_ints (r : List Int) : PyData.depthAll (toPs (r.map D.int)) = 0 := by
 induction r with
 | nil => rfl
 | cons a r ih => simp [toPs, toP, PyData.depthAll, PyData.depth, ih]
theorem plainDs_rows (rs : List (List Int)) : plainDs (rs.map rowD) = true := by
 induction rs with
 | nil => rfl
 | cons a r ih =>
  show (plainD (rowD a) && plainDs (r.map rowD)) = true
  rw [ih]
  simp [rowD, plainD, plainDs_ints]
theorem lay_rows (rs : List (List Int)) : PyData.canLayAll0 (toPs (rs.map rowD)) = true := by
 induction rs with
 | nil => rfl
 | cons a r ih =>
  show (PyData.canLay0 (toP (rowD a)) && PyData.canLayAll0 (toPs (r.map rowD))) = true
  rw [ih]
  simp [rowD, toP, PyData.canLay0, lay_ints]
theorem depth_rows (rs : List (List Int)) : PyData.depthAll (toPs (rs.map rowD)) ≤ 1 := by
 induction rs with
 | nil => exact Nat.zero_le _
 | cons a r ih =>
  show max (PyData.depth (toP (rowD a))) (PyData.depthAll (toPs (r.map rowD))) ≤ 1
  simp only [rowD, toP, PyData.depth, depth_ints]
  omega
theorem okP_row (r : List Int) : okP (rowD r) = true := by
 unfold okP SeqAt.shaped
 simp [rowD, plainD, plainDs_ints, toP, PyData.canLay0, lay_ints, PyData.depth, depth_ints]
theorem okP_rows (rs : List (List Int)) : okP (rowsD rs) = true := by
 have := depth_rows rs
 unfold okP SeqAt.shaped
 simp only [rowsD, plainD, plainDs_rows, toP, PyData.canLay0, lay_rows, PyData.depth, Bool.true_and, decide_eq_true_eq]
 omega
theorem eqD_nil (ds : List D) : eqD (.lst ds) (.lst []) = ds.isEmpty := by
 unfold eqD
 cases ds <;> simp [toP, toPs, PyData.eqv, PyData.eqvAll]
@[simp] theorem oEq_row_nil (r : List Int) : oEq (rowD r) (.lst []) = .ok r.isEmpty := by
 unfold oEq
 rw [okP_row, show okP (.lst []) = true from okP_row [], eqD_nil]
 simp
@[simp] theorem oNe_row_nil (r : List Int) : oNe (rowD r) (.lst []) = .ok (!r.isEmpty) := by
 unfold oNe
 rw [okP_row, show okP (.lst []) = true from okP_row [], eqD_nil]
 simp
@[simp] theorem oEq_rows_nil (rs : List (List Int)) : oEq (rowsD rs) (.lst []) = .ok rs.isEmpty := by
 unfold oEq
 rw [okP_rows, show okP (.lst []) = true from okP_row [], eqD_nil]
 simp
theorem atI_neg1 {α : Type} (l : List α) : atI l (-1) = l.getLast? := by
 cases l with
 | nil => rfl
 | cons a l =>
  have : ixN (l.length + 1) (-1) = some l.length := by
   unfold ixN
   rw [if_neg (by omega), if_pos (by omega)]
   congr 1
   omega
  unfold atI
  simp only [List.length_cons, this, Option.bind_some]
  rw [List.getLast?_eq_getElem?]
  simp
theorem oIx_last {ds : List D} {d : D} (h : ds.getLast? = some d) : oIx (.lst ds) (.int (-1)) = .ok d := oIx_lst (by rw [atI_neg1, h])
theorem inB_row (d : Int) (r : List Int) : inB (.int d) (rowD r) = .ok (decide (d ∈ r)) := by
 have hf : (r.map D.int).all flatD = true := by simp [flatD]
 unfold inB
 simp only [rowD, hf]
 simp only [flatD, Bool.and_self, if_true]
 congr 1
 rw [Bool.eq_iff_iff, List.any_map, List.any_eq_true, decide_eq_true_eq]
 constructor
 ·rintro ⟨x, hx, e⟩
  have e' : x = d := by simpa [eqF] using e
  exact e' ▸ hx
 ·intro h
  exact ⟨d, h, by simp [eqF]⟩
@[simp] theorem oNin_row (d : Int) (r : List Int) : oNin (.int d) (rowD r) = .ok (!decide (d ∈ r)) := by unfold oNin; rw [inB_row]; rfl
theorem oIx_rows {rs : List (List Int)} {k : Nat} {r : List Int} (h : rs[k]? = some r) : oIx (rowsD rs) (.int (k : Int)) = .ok (rowD r) := oIx_lst (atI_some (by simp [h]))
theorem oIx_row {r : List Int} {k : Nat} {d : Int} (h : r[k]? = some d) : oIx (rowD r) (.int (k : Int)) = .ok (.int d) := oIx_lst (atI_some (by simp [h]))
section
variable (f : Ev → R D) (fl fh : Ev → R (Option Int)) (δ : Ev) (fs fit : Ev → R (List D)) (t : Ev → R Bool)
@[simp] theorem e_mSl : mSl f fl fh δ = (f δ).bind λ x => (fl δ).bind λ l => (fh δ).bind λ u => oSl x l u := rfl
@[simp] theorem e_mP : mP f δ = (f δ).bind λ d => match d with | .int i => .ok (some i) | _ => .stuck := rfl
@[simp] theorem e_mNoP : mNoP δ = .ok none := rfl
@[simp] theorem e_mL : mL fs δ = (fs δ).bind λ ds => .ok (.lst ds) := rfl
@[simp] theorem e_mComp : mComp fit t f δ = (fit δ).bind λ ds => if ds.length ≤ 1000000 then noX (compZ t f (shE δ) ds) else .stuck := rfl
@[simp] theorem e_zApp (i : Nat) : zApp i f δ = (match δ[i]? with | some (some (.ow ds)) => bS (f δ) δ λ d => if ds.length < 1000000 then .next (δ.set i (some (.ow (ds ++ [d])))) else .stuck | _ => .stuck) := rfl
@[simp] theorem oNeg_int (i : Int) : oNeg (.int i) = .ok (.int (-i)) := rfl
@[simp] theorem itemsD_lst (ds : List D) : itemsD (.lst ds) = .ok ds := rfl
end
theorem oCat_ok {xs ys : List D} (h : xs.length + ys.length ≤ 1000000) : oCat (.lst xs) (.lst ys) = .ok (.lst (xs ++ ys)) := by simp [oCat, h]
theorem sIx_nat {n : Nat} {d k : Nat} (h : k ≤ n) : HT.sIx n d (some (k : Int)) = k := by
 rw [HT.sIx_nat]
 exact Nat.min_eq_left h
theorem cutD_nat {α : Type} (xs : List α) {a b : Nat} (h : a ≤ b) (h2 : b ≤ xs.length) : cutD xs (some (a : Int)) (some (b : Int)) = (xs.drop a).take (b - a) := by
 unfold cutD
 rw [sIx_nat (k := a) (by omega), sIx_nat (k := b) h2]
theorem iR1_nat {n : Nat} (h : n ≤ 1000000) : iR1 [.int (n : Int)] = .ok (rngD 0 n) := by
 simp only [iR1]
 exact if_pos ⟨by omega, by omega⟩
theorem iR2_ok {i j : Int} (h1 : -1000000 ≤ i) (h2 : i ≤ 1000000) (h3 : -1000000 ≤ j) (h4 : j ≤ 1000000) : iR2 [.int i, .int j] = .ok (rngD i j) := by
 simp only [iR2]
 exact if_pos ⟨⟨by omega, by omega⟩, by omega, by omega⟩
theorem fit1_len {δ : Ev} {i n : Nat} {ds : List D} (h : mVar i δ = .ok (.lst ds)) (hn : ds.length = n) (hl : n ≤ 1000000) : (λ δ => ((mCons (m1 oLen (mVar i)) mNil) δ).bind iR1) δ = .ok (rngD 0 n) := by
 have e : (mCons (m1 oLen (mVar i)) mNil) δ = .ok [.int (n : Int)] := by
  unfold mCons m1
  rw [h, R.bind_ok, oLen_lst, hn]
  rfl
 show ((mCons (m1 oLen (mVar i)) mNil) δ).bind iR1 = _
 rw [e, R.bind_ok, iR1_nat hl]
theorem fit1_var {δ : Ev} {i n : Nat} (h : mVar i δ = .ok (.int (n : Int))) (hl : n ≤ 1000000) : (λ δ => ((mCons (mVar i) mNil) δ).bind iR1) δ = .ok (rngD 0 n) := by
 have e : (mCons (mVar i) mNil) δ = .ok [.int (n : Int)] := by
  unfold mCons
  rw [h, R.bind_ok]
  rfl
 show ((mCons (mVar i) mNil) δ).bind iR1 = _
 rw [e, R.bind_ok, iR1_nat hl]
theorem fit2 {δ : Ev} {fs : Ev → R (List D)} {i j : Int} (h : fs δ = .ok [.int i, .int j]) (h1 : -1000000 ≤ i) (h2 : i ≤ 1000000) (h3 : -1000000 ≤ j) (h4 : j ≤ 1000000) : (λ δ => (fs δ).bind iR2) δ = .ok (rngD i j) := by
 show (fs δ).bind iR2 = _
 rw [h, R.bind_ok, iR2_ok h1 h2 h3 h4]
end L3
namespace L3
open PySem L2
theorem zFor_map {α : Type} {f : α → D} {l : List α} {i : Nat} {fit : Ev → R (List D)} {F : Ev → SR} {δ : Ev} (P : Nat → Ev → Prop) (h : fit δ = .ok (l.map f)) (h0 : P 0 δ)
  (hs : ∀ k a δ, l[k]? = some a → P k δ → ∃ δ2, (F (δ.set i (some (.sh (f a)))) = .next δ2 ∨ F (δ.set i (some (.sh (f a)))) = .cont δ2) ∧ P (k + 1) δ2) : ∃ δ', zFor fit (bN i) F δ = .next δ' ∧ P l.length δ' := by
 have := zFor_next (fit := fit) (bd := bN i) (F := F) (δ := δ) (ds := l.map f) P h h0 (by
  intro k d δ1 hd p
  rw [List.getElem?_map] at hd
  cases q : l[k]? with
  | none => rw [q] at hd; cases hd
  | some a =>
   rw [q] at hd
   cases hd
   obtain ⟨δ2, h1, h2⟩ := hs k a δ1 q p
   exact ⟨_, δ2, rfl, h1, h2⟩)
 simpa using this
theorem intsD_map (r : List Int) : intsD (r.map D.int) = some r := by
 induction r with
 | nil => rfl
 | cons a r ih => simp [intsD, ih]
@[simp] theorem revD_lst (ds : List D) : revD (.lst ds) = .ok ds.reverse := rfl
@[simp] theorem e_zRev (i : Nat) (δ : Ev) : zRev i δ = (match δ[i]? with | some (some (.ow ds)) => .next (δ.set i (some (.ow ds.reverse))) | _ => .stuck) := rfl
theorem cutD_from {α : Type} (xs : List α) {a : Nat} (h : a ≤ xs.length) : cutD xs (some (a : Int)) none = xs.drop a := by
 unfold cutD
 rw [HT.sIx_none, sIx_nat h]
 rw [List.take_of_length_le (by rw [List.length_drop]; omega)]
def shO (o : Option Sl) : Option Sl := match o with
 | some (.sh d) => some (.sh d)
 | _ => none
theorem e_mLst0 (δ : Ev) : mLst mNil δ = .ok (.lst []) := rfl
theorem e_mLst1 (f : Ev → R D) (δ : Ev) : mLst (mCons f mNil) δ = (f δ).bind λ x => .ok (.lst [x]) := by
 unfold mLst mCons
 cases f δ <;> simp [mNil]
theorem e_mLst2 (f g : Ev → R D) (δ : Ev) : mLst (mCons f (mCons g mNil)) δ = (f δ).bind λ x => (g δ).bind λ y => .ok (.lst [x, y]) := by
 unfold mLst mCons
 cases f δ <;> cases g δ <;> simp [mNil]
theorem e_mTup2 (f g : Ev → R D) (δ : Ev) : mTup (mCons f (mCons g mNil)) δ = (f δ).bind λ x => (g δ).bind λ y => .ok (.tup [x, y]) := by
 unfold mTup mCons
 cases f δ <;> cases g δ <;> simp [mNil]
theorem e_mTup3 (f g h : Ev → R D) (δ : Ev) : mTup (mCons f (mCons g (mCons h mNil))) δ = (f δ).bind λ x => (g δ).bind λ y => (h δ).bind λ z => .ok (.tup [x, y, z]) := by
 unfold mTup mCons
 cases f δ <;> cases g δ <;> cases h δ <;> simp [mNil]
theorem lR1_nat {n : Nat} (h : n ≤ 1000000) : lR1 [.int (n : Int)] = .ok (rngD 0 n) := by
 simp only [lR1]
 exact if_pos ⟨⟨by omega, by omega⟩, by omega⟩
theorem fitl1_var {δ : Ev} {i n : Nat} (h : mVar i δ = .ok (.int (n : Int))) (hl : n ≤ 1000000) : ((mCons (mVar i) mNil) δ).bind lR1 = .ok (rngD 0 n) := by
 have e : (mCons (mVar i) mNil) δ = .ok [.int (n : Int)] := by
  unfold mCons
  rw [h, R.bind_ok]
  rfl
 rw [e, R.bind_ok, lR1_nat hl]
theorem zSeqR_next {α : Type} {F1 : Ev → SR} {F2 : Ev → R α} {δ δ' : Ev} (h : F1 δ = .next δ') : zSeqR F1 F2 δ = F2 δ' := by unfold zSeqR; rw [h]
def rngI (lo hi : Int) : List Int := (List.range (hi - lo).toNat).map λ k : Nat => lo + (k : Int)
theorem rngD_map (lo hi : Int) : rngD lo hi = (rngI lo hi).map D.int := by
 unfold rngD rngI
 rw [List.map_map]
 rfl
theorem mem_rngI {lo hi d : Int} : d ∈ rngI lo hi ↔ lo ≤ d ∧ d < hi := by
 unfold rngI
 rw [List.mem_map]
 constructor
 ·rintro ⟨k, hk, rfl⟩
  have := List.mem_range.mp hk
  omega
 ·rintro ⟨h1, h2⟩
  exact ⟨(d - lo).toNat, List.mem_range.mpr (by omega), by omega⟩
theorem ssetD_row {r : List Int} (h : r.length < 64) : ssetD (rowD r) = .ok ((sset r).map D.int) := by
 have : (sset r).length ≤ r.length := nodup_le _ _ (up_nodup (sset_up r)) λ x hx => mem_sset.mp hx
 simp only [ssetD, rowD, intsD_map]
 rw [if_pos (by omega)]
theorem sset_len (r : List Int) : (sset r).length ≤ r.length := nodup_le _ _ (up_nodup (sset_up r)) λ x hx => mem_sset.mp hx
@[simp] theorem oMin_int (i j : Int) : oMin [.int i, .int j] = .ok (.int (if j < i then j else i)) := rfl
@[simp] theorem oInt_bl (k : Bool) : oInt [.bl k] = .ok (.int (if k then 1 else 0)) := rfl
@[simp] theorem e_mCB (o : List D → R D) (fs : Ev → R (List D)) (δ : Ev) : mCB o fs δ = (fs δ).bind o := rfl
theorem e_mLst4 (f g h k : Ev → R D) (δ : Ev) : mLst (mCons f (mCons g (mCons h (mCons k mNil)))) δ = (f δ).bind λ x => (g δ).bind λ y => (h δ).bind λ z => (k δ).bind λ w => .ok (.lst [x, y, z, w]) := by
 unfold mLst mCons
 cases f δ <;> cases g δ <;> cases h δ <;> cases k δ <;> simp [mNil]
theorem e_mLstC3 (a b c : D) (δ : Ev) : mLst (λ _ => .ok [a, b, c]) δ = .ok (.lst [a, b, c]) := by simp [mLst]
theorem comp_map {α : Type} {l : List α} {h : α → D} {g : α → D} {f : Ev → R D} {fit : Ev → R (List D)} {δ : Ev} (hf : fit δ = .ok (l.map h)) (hl : l.length ≤ 1000000) (he : ∀ a ∈ l, f (shE δ ++ [some (.sh (h a))]) = .ok (g a)) : mComp fit (λ _ => .ok true) f δ = .ok (l.map g) := by
 have key : ∀ l : List α, (∀ a ∈ l, f (shE δ ++ [some (.sh (h a))]) = .ok (g a)) → compZ (λ _ => .ok true) f (shE δ) (l.map h) = .ok (l.map g) := by
  intro l
  induction l with
  | nil => intro _; rfl
  | cons a l ih =>
   intro he
   rw [List.map_cons, List.map_cons, compZ, R.bind_ok, if_pos rfl, he a List.mem_cons_self, R.bind_ok, ih λ b hb => he b (List.mem_cons_of_mem _ hb)]
   rfl
 unfold mComp
 rw [hf, R.bind_ok, if_pos (by rw [List.length_map]; exact hl), key l he]
 rfl
theorem zApp_ok {i : Nat} {f : Ev → R D} {δ : Ev} {d : D} {ds : List D} (h : f δ = .ok d) (hi : δ[i]? = some (some (.ow ds))) (hl : ds.length < 1000000) : zApp i f δ = .next (δ.set i (some (.ow (ds ++ [d])))) := by
 unfold zApp
 rw [hi, h]
 simp [hl]
theorem zSet_ok {i : Nat} {f : Ev → R D} {δ : Ev} {d : D} (h : f δ = .ok d) : zSet i f δ = .next (δ.set i (some (.sh d))) := by unfold zSet; rw [h]; rfl
theorem zOwn_ok {i : Nat} {f : Ev → R (List D)} {δ : Ev} {ds : List D} (h : f δ = .ok ds) : zOwn i f δ = .next (δ.set i (some (.ow ds))) := by unfold zOwn; rw [h]; rfl
theorem zRet_ok {f : Ev → R D} {δ : Ev} {d : D} (h : f δ = .ok d) : zRet f δ = .ret d := by unfold zRet; rw [h]; rfl
theorem zPut_ok {i : Nat} {fk f : Ev → R D} {δ : Ev} {d : D} {ds : List D} {j : Nat} (h : f δ = .ok d) (hk : fk δ = .ok (.int (j : Int))) (hi : δ[i]? = some (some (.ow ds))) (hj : j < ds.length) : zPut i fk f δ = .next (δ.set i (some (.ow (ds.set j d)))) := by
 have : ixN ds.length (j : Int) = some j := by
  unfold ixN
  rw [if_pos (by omega)]
  simp [hj]
 unfold zPut
 rw [hi, h, hk]
 simp only [bS_ok, this]
end L3
set_option maxHeartbeats 400000
namespace Lw
open PySem PySem.Spec PyProof.Rows L2 L3
def top (i : Nat) : Stmt := PySem.Challenge.pw_inkdays_k28_whole_fewest_blots.main.body.getD i (.Pass ⟨0, 0, 0, 0⟩)
def F_law_at_1 : Ev → SR := zRet (mC (.int 0))
def F_law_at : Ev → SR := zSeq (zIf (m2t oLt (mVar 1) (m1 oLen (mVar 0))) (zRet (m2 oIx (mVar 0) (mVar 1))) (SR.next)) F_law_at_1
def m_law_at (ds : List D) : R D := finR (F_law_at (startE 2 ds))
theorem s_law_at : FnScope ["_law_script", "_law_k"] ["_law_script", "_law_k"] (defScope (top 8)) := fsx
theorem d_law_at {κ : Nat → Addr} {X : Cx} {B : Gd} (cx : Cxo X) (hcalm : X.calm = true) (hN : X.N = [("_law_script" : Str), ("_law_k" : Str)]) (hsc : X.env.scope = defScope (top 8)) (hfn : ∀ y, X.fn y = true) (hu : X.A.units + 64 < cLine) (b_len : X.mg "len" = none) : QZs κ B X (defBody (top 8)) F_law_at := by
 have hnd : X.N.Nodup := by rw [hN]; decide +kernel
 have V0 : VP X 0 "_law_script" := vpl cx hnd hfn hN hsc
 have V1 : VP X 1 "_law_k" := vpl cx hnd hfn hN hsc
 have hg_len : Gl X "len" := glx hsc
 refine qpzs_cons (F1 := zIf (m2t oLt (mVar 1) (m1 oLen (mVar 0))) (zRet (m2 oIx (mVar 0) (mVar 1))) (SR.next)) (F2 := F_law_at_1) ?_ ?_
 ·exact qpz_if cx (qpxt_lt ((V1.v).read) ((qy_len hg_len b_len ((V0.v).read) rfl).read) (mark_no rfl)) (qpzs_one (qpz_ret cx (qy_ix ((V0.v).read) ((V1.v).read) rfl))) (qpzs_nil)
 exact qpzs_one (qpz_ret cx (qpx_int))
def L_law_draws_1 : Ev → SR := zIf (mT (mVar 1)) (zSeq (zSet 5 (m2 oMod (m2 oAdd (m2 oAdd (m2 oMul (mVar 5) (mC (.int 48271))) (m2 oMul (mC (.int 7919)) (mVar 6))) (mC (.int 11))) (mC (.int 2147483647)))) (zApp 4 (m2 oMod (m2 oMod (m2 oMul (mVar 5) (mC (.int 16807))) (mC (.int 2147483629))) (mVar 3)))) (zSeq (zApp 4 (m2 oMod (mVar 5) (mVar 3))) (zSet 5 (m2 oDiv (mVar 5) (mVar 3))))
def S_law_draws_3 : Ev → SR := zRet (mVar 4)
def F_law_draws_3 : Ev → SR := λ δ => (S_law_draws_3) (frzE 4 δ)
def S_law_draws_2 : Ev → SR := zFor (λ δ => ((mCons (mVar 2) (mNil)) δ).bind iR1) (bN 6) (L_law_draws_1)
def F_law_draws_2 : Ev → SR := zSeq (S_law_draws_2) F_law_draws_3
def S_law_draws_1 : Ev → SR := zSet 5 (mVar 0)
def F_law_draws_1 : Ev → SR := zSeq (S_law_draws_1) F_law_draws_2
def S_law_draws_0 : Ev → SR := zOwn 4 (λ δ => lim ((mNil) δ))
def F_law_draws : Ev → SR := zSeq (S_law_draws_0) F_law_draws_1
def m_law_draws (ds : List D) : R D := finR (F_law_draws (startE 7 ds))
theorem s_law_draws : FnScope ["_law_cell", "_law_mixed", "_law_many", "_law_most", "_law_made", "_law_rest", "_law_k"] ["_law_cell", "_law_mixed", "_law_many", "_law_most"] (defScope (top 9)) := fsx
theorem d_law_draws {κ : Nat → Addr} {X : Cx} {B : Gd} (cx : Cxo X) (hcalm : X.calm = true) (hN : X.N = [("_law_cell" : Str), ("_law_mixed" : Str), ("_law_many" : Str), ("_law_most" : Str), ("_law_made" : Str), ("_law_rest" : Str), ("_law_k" : Str)]) (hsc : X.env.scope = defScope (top 9)) (hfn : ∀ y, X.fn y = true) (hu : X.A.units + 64 < cLine) (b_range : X.mg "range" = none) : QZs κ B X (defBody (top 9)) F_law_draws := by
 have hnd : X.N.Nodup := by rw [hN]; decide +kernel
 have V0 : VP X 0 "_law_cell" := vpl cx hnd hfn hN hsc
 have V1 : VP X 1 "_law_mixed" := vpl cx hnd hfn hN hsc
 have V2 : VP X 2 "_law_many" := vpl cx hnd hfn hN hsc
 have V3 : VP X 3 "_law_most" := vpl cx hnd hfn hN hsc
 have V4 : VP X 4 "_law_made" := vpl cx hnd hfn hN hsc
 have V5 : VP X 5 "_law_rest" := vpl cx hnd hfn hN hsc
 have V6 : VP X 6 "_law_k" := vpl cx hnd hfn hN hsc
 have hg_range : Gl X "range" := glx hsc
 refine qpzs_cons (F1 := S_law_draws_0) (F2 := F_law_draws_1) ?_ ?_
 ·exact V4.w (qpxf_lst (qpxs_nil)) rfl
 refine qpzs_cons (F1 := S_law_draws_1) (F2 := F_law_draws_2) ?_ ?_
 ·exact V5.s (V0.v) rfl
 refine qpzs_cons (F1 := S_law_draws_2) (F2 := F_law_draws_3) ?_ ?_
 ·exact qy_for cx hcalm (qyi_range1 hg_range b_range (qys_cons (V2.v) (qpxs_nil) rfl) rfl) (λ B => V6.t) (λ B => qpzs_one (qpz_if cx (qyt_val ((V1.v).read) rfl) (qpzs_cons (V5.s (qpx_mod ((qpx_add ((qpx_add ((qpx_mulI ((V5.v).read) ((qpx_int).read)).read) ((qpx_mulI ((qpx_int).read) ((V6.v).read)).read)).read) ((qpx_int).read)).read) ((qpx_int).read)) rfl) (qpzs_one (V4.a (qpx_mod ((qpx_mod ((qpx_mulI ((V5.v).read) ((qpx_int).read)).read) ((qpx_int).read)).read) ((V3.v).read)) rfl rfl))) (qpzs_cons (V4.a (qpx_mod ((V5.v).read) ((V3.v).read)) rfl rfl) (qpzs_one (V5.s (qpx_div ((V5.v).read) ((V3.v).read)) rfl))))) rfl
 refine qpzs_frz 4 (F := _) ?_
 exact qpzs_one (qpz_ret cx (V4.v))
def L_law_hidden_1 : Ev → SR := zSeq (zSet 11 (mCall m_law_at (mCons (mVar 0) (mCons (m2 oAdd (m2 oAdd (mVar 1) (mC (.int 1))) (mVar 10)) (mNil))))) (zSeq (zIf (mT (mVar 5)) (zSet 11 (m2 oAdd (m2 oAdd (mVar 11) (m2 oMul (mC (.int 1000003)) (mVar 10))) (mCall m_law_at (mCons (mVar 0) (mCons (mC (.int 1)) (mNil)))))) (SR.next)) (zSeq (zSet 12 (mCall m_law_draws (mCons (mVar 11) (mCons (mVar 5) (mCons (mC (.int 8)) (mCons (mVar 3) (mNil))))))) (zSeq (zSet 13 (m2 oMod (m2 oIx (mVar 12) (mC (.int 0))) (m2 oAdd (mVar 4) (mC (.int 1))))) (zSeq (zSet 14 (mSl (mVar 12) (mP (mC (.int 2))) (mP (m2 oAdd (mC (.int 2)) (m2 oMod (m2 oIx (mVar 12) (mC (.int 1))) (mC (.int 6))))))) (zSeq (zIf (mT (mVar 6)) (zSeq (zSet 13 (mCB oInt (mCons (mAndV (m2 (op2 oEq) (m2 oMod (m2 oIx (mVar 12) (mC (.int 0))) (mC (.int 5))) (mC (.int 1))) (m2 (op2 oGt) (mVar 4) (mC (.int 0)))) (mNil)))) (zSet 14 (mL (mComp (λ δ => ((mSl (mVar 12) (mP (mC (.int 2))) (mNoP)) δ).bind itemsD) (λ _ => .ok true) (mCB oMin (mCons (m2 oSub (mVar 3) (mC (.int 1))) (mCons (m2 oAdd (mVar 9) (m2 oMod (mVar 15) (mC (.int 9)))) (mNil)))))))) (SR.next)) (zSeq (zIf (mAnd (m2t oGt (mVar 10) (mC (.int 0))) (m2t oLt (m2 oAdd (mVar 9) (mVar 13)) (mVar 3))) (zSet 9 (m2 oAdd (mVar 9) (mVar 13))) (SR.next)) (zSeq (zApp 7 (mVar 9)) (zApp 8 (mL (λ δ => ((m2 oCat (mVar 14) (mLst (mCons (mVar 9) (mNil)))) δ).bind ssetD))))))))))
def F_law_hidden_6 : Ev → R (D × List D) := λ δ => (mTwo 7 8) (frzE 7 δ)
def S_law_hidden_5 : Ev → SR := zFor (λ δ => ((mCons (mVar 2) (mNil)) δ).bind iR1) (bN 10) (L_law_hidden_1)
def F_law_hidden_5 : Ev → R (D × List D) := zSeqR S_law_hidden_5 F_law_hidden_6
def S_law_hidden_4 : Ev → SR := zSet 9 (m2 oMod (mCall m_law_at (mCons (mVar 0) (mCons (mVar 1) (mNil)))) (mVar 3))
def F_law_hidden_4 : Ev → R (D × List D) := zSeqR S_law_hidden_4 F_law_hidden_5
def S_law_hidden_3 : Ev → SR := zOwn 8 (λ δ => lim ((mNil) δ))
def F_law_hidden_3 : Ev → R (D × List D) := zSeqR S_law_hidden_3 F_law_hidden_4
def S_law_hidden_2 : Ev → SR := zOwn 7 (λ δ => lim ((mNil) δ))
def F_law_hidden_2 : Ev → R (D × List D) := zSeqR S_law_hidden_2 F_law_hidden_3
def S_law_hidden_1 : Ev → SR := zSet 6 (m2 (op2 oEq) (m2 oMod (mCall m_law_at (mCons (mVar 0) (mCons (mC (.int 1)) (mNil)))) (mC (.int 2))) (mC (.int 1)))
def F_law_hidden_1 : Ev → R (D × List D) := zSeqR S_law_hidden_1 F_law_hidden_2
def S_law_hidden_0 : Ev → SR := zSet 5 (m2 (op2 oEq) (m2 oMod (mCall m_law_at (mCons (mVar 0) (mCons (mC (.int 0)) (mNil)))) (mC (.int 2))) (mC (.int 0)))
def F_law_hidden : Ev → R (D × List D) := zSeqR S_law_hidden_0 F_law_hidden_1
def mr_law_hidden (ds : List D) : R (D × List D) := noE (F_law_hidden (startE 15 ds))
theorem s_law_hidden : FnScope ["_law_script", "_law_at_here", "_law_many", "_law_length", "_law_gap", "_law_mixed", "_law_near", "_law_path", "_law_rows", "_law_day", "_law_k", "_law_cell", "_law_picks", "_law_step", "_law_others"] ["_law_script", "_law_at_here", "_law_many", "_law_length", "_law_gap"] (defScope (top 10)) := fsx
theorem d_law_hidden {κ : Nat → Addr} {X : Cx} {B : Gd} (cx : Cxo X) (hcalm : X.calm = true) (hN : X.N = [("_law_script" : Str), ("_law_at_here" : Str), ("_law_many" : Str), ("_law_length" : Str), ("_law_gap" : Str), ("_law_mixed" : Str), ("_law_near" : Str), ("_law_path" : Str), ("_law_rows" : Str), ("_law_day" : Str), ("_law_k" : Str), ("_law_cell" : Str), ("_law_picks" : Str), ("_law_step" : Str), ("_law_others" : Str)]) (hsc : X.env.scope = defScope (top 10)) (hfn : ∀ y, X.fn y = true) (hu : X.A.units + 64 < cLine) (k_law_at : Cal κ X "_law_at" 2 m_law_at) (k_law_draws : Cal κ X "_law_draws" 4 m_law_draws) (b_int : X.mg "int" = none) (b_min : X.mg "min" = none) (b_range : X.mg "range" = none) (b_set : X.mg "set" = none) (b_sorted : X.mg "sorted" = none) : QZr κ B X (defBody (top 10)) ρ2 F_law_hidden := by
 have hnd : X.N.Nodup := by rw [hN]; decide +kernel
 have V0 : VP X 0 "_law_script" := vpl cx hnd hfn hN hsc
 have V1 : VP X 1 "_law_at_here" := vpl cx hnd hfn hN hsc
 have V2 : VP X 2 "_law_many" := vpl cx hnd hfn hN hsc
 have V3 : VP X 3 "_law_length" := vpc cx hnd hfn hN hsc rfl rfl (by decide) (by decide)
 have V4 : VP X 4 "_law_gap" := vpl cx hnd hfn hN hsc
 have V5 : VP X 5 "_law_mixed" := vpl cx hnd hfn hN hsc
 have V6 : VP X 6 "_law_near" := vpl cx hnd hfn hN hsc
 have V7 : VP X 7 "_law_path" := vpl cx hnd hfn hN hsc
 have V8 : VP X 8 "_law_rows" := vpl cx hnd hfn hN hsc
 have V9 : VP X 9 "_law_day" := vpc cx hnd hfn hN hsc rfl rfl (by decide) (by decide)
 have V10 : VP X 10 "_law_k" := vpl cx hnd hfn hN hsc
 have V11 : VP X 11 "_law_cell" := vpl cx hnd hfn hN hsc
 have V12 : VP X 12 "_law_picks" := vpl cx hnd hfn hN hsc
 have V13 : VP X 13 "_law_step" := vpl cx hnd hfn hN hsc
 have lv14 : X.env.scope.names.lookup ("_law_others" : Str) = some .local := by rw [hsc]; rfl
 have V14 : VP X 14 "_law_others" := vpl cx hnd hfn hN hsc
 have hg_law_at : Gl X "_law_at" := glx hsc
 have hg_law_draws : Gl X "_law_draws" := glx hsc
 have hg_int : Gl X "int" := glx hsc
 have hg_range : Gl X "range" := glx hsc
 have hg_set : Gl X "set" := glx hsc
 have hg_sorted : Gl X "sorted" := glx hsc
 refine qpzr_cons (F1 := S_law_hidden_0) (F2 := F_law_hidden_1) ?_ ?_
 ·exact V5.s (qpx_eq hu ((qpx_mod ((qy_call cx k_law_at rfl hg_law_at (qys_cons (V0.v) (qys_cons (qpx_int) (qpxs_nil) rfl) rfl)).read) ((qpx_int).read)).read) ((qpx_int).read) (mark_no rfl)) rfl
 refine qpzr_cons (F1 := S_law_hidden_1) (F2 := F_law_hidden_2) ?_ ?_
 ·exact V6.s (qpx_eq hu ((qpx_mod ((qy_call cx k_law_at rfl hg_law_at (qys_cons (V0.v) (qys_cons (qpx_int) (qpxs_nil) rfl) rfl)).read) ((qpx_int).read)).read) ((qpx_int).read) (mark_no rfl)) rfl
 refine qpzr_cons (F1 := S_law_hidden_2) (F2 := F_law_hidden_3) ?_ ?_
 ·exact V7.w (qpxf_lst (qpxs_nil)) rfl
 refine qpzr_cons (F1 := S_law_hidden_3) (F2 := F_law_hidden_4) ?_ ?_
 ·exact V8.w (qpxf_lst (qpxs_nil)) rfl
 refine qpzr_cons (F1 := S_law_hidden_4) (F2 := F_law_hidden_5) ?_ ?_
 ·exact V9.s (qpx_mod ((qy_call cx k_law_at rfl hg_law_at (qys_cons (V0.v) (qys_cons (V1.v) (qpxs_nil) rfl) rfl)).read) ((V3.v).read)) rfl
 refine qpzr_cons (F1 := S_law_hidden_5) (F2 := F_law_hidden_6) ?_ ?_
 ·exact qy_for cx hcalm (qyi_range1 hg_range b_range (qys_cons (V2.v) (qpxs_nil) rfl) rfl) (λ B => V10.t) (λ B => qpzs_cons (V11.s (qy_call cx k_law_at rfl hg_law_at (qys_cons (V0.v) (qys_cons (qpx_add ((qpx_add ((V1.v).read) ((qpx_int).read)).read) ((V10.v).read)) (qpxs_nil) rfl) rfl)) rfl) (qpzs_cons (qpz_if cx (qyt_val ((V5.v).read) rfl) (qpzs_one (V11.s (qpx_add ((qpx_add ((V11.v).read) ((qpx_mulI ((qpx_int).read) ((V10.v).read)).read)).read) ((qy_call cx k_law_at rfl hg_law_at (qys_cons (V0.v) (qys_cons (qpx_int) (qpxs_nil) rfl) rfl)).read)) rfl)) (qpzs_nil)) (qpzs_cons (V12.s (qy_call cx k_law_draws rfl hg_law_draws (qys_cons (V11.v) (qys_cons (V5.v) (qys_cons (qpx_int) (qys_cons (V3.v) (qpxs_nil) rfl) rfl) rfl) rfl)) rfl) (qpzs_cons (V13.s (qpx_mod ((qy_ix ((V12.v).read) ((qpx_int).read) rfl).read) ((qpx_add ((V4.v).read) ((qpx_int).read)).read)) rfl) (qpzs_cons (V14.s (qy_sl ((V12.v).read) (qpxo_some (qpx_int)) (qpxo_some (qpx_add ((qpx_int).read) ((qpx_mod ((qy_ix ((V12.v).read) ((qpx_int).read) rfl).read) ((qpx_int).read)).read)))) rfl) (qpzs_cons (qpz_if cx (qyt_val ((V6.v).read) rfl) (qpzs_cons (V13.s (qy_toint hg_int b_int (qys_cons (qpx_and (qpx_eq hu ((qpx_mod ((qy_ix ((V12.v).read) ((qpx_int).read) rfl).read) ((qpx_int).read)).read) ((qpx_int).read) (mark_no rfl)) (qpx_one (qpx_gt ((V4.v).read) ((qpx_int).read) (mark_no rfl)))) (qpxs_nil) rfl) rfl) rfl) (qpzs_one (qset_comp cx hnd V14.n (by rw [hsc]; rfl) lv14 rfl (by decide +kernel) hcalm ⟨by decide +kernel, rfl, by decide +kernel, rfl, by rw [hN]; decide +kernel, by rw [hsc]; decide +kernel, hnd⟩ (qpicz_seq (qy_sl ((V12.v).read) (qpxo_some (qpx_int)) (qpxo_none))) (λ X' B' hC => by (have cx : Cxo X' := hC.cxo); (have hcalm : X'.calm = true := hC.calm.trans hcalm); (have hu : X'.A.units + 64 < cLine := by rw [hC.A]; exact hu); exact qpts_nil) (λ X' B' hC => by (have cx : Cxo X' := hC.cxo); (have hcalm : X'.calm = true := hC.calm.trans hcalm); (have hu : X'.A.units + 64 < cLine := by rw [hC.A]; exact hu); (have z3 : ∀ {B : Gd} {pos : Pos}, QX κ B X' (.Name "_law_length" pos) (mVar 3) := qpx_var 3 (hC.n V3.n) (hC.vis rfl) (by decide) (by decide)); (have z9 : ∀ {B : Gd} {pos : Pos}, QX κ B X' (.Name "_law_day" pos) (mVar 9) := qpx_var 9 (hC.n V9.n) (hC.vis rfl) (by decide) (by decide)); (have z15 : ∀ {B : Gd} {pos : Pos}, QX κ B X' (.Name "_law_pick" pos) (mVar 15) := qpx_var 15 (hC.x (by rw [hN]; rfl)) (.inl (hC.look rfl (by decide))) (by decide) (by decide)); (have hg_min : Gl X' "min" := hC.look rfl (by decide)); (have b_min : X'.mg "min" = none := by rw [hC.mg]; exact b_min); exact qy_min hcalm hg_min b_min (qys_cons (qpx_sub ((z3).read) ((qpx_int).read)) (qys_cons (qpx_add ((z9).read) ((qpx_mod ((z15).read) ((qpx_int).read)).read)) (qpxs_nil) rfl) rfl) rfl rfl) rfl))) (qpzs_nil)) (qpzs_cons (qpz_if cx ((qpxw_and (qpxt_gt ((V10.v).read) ((qpx_int).read) (mark_no rfl)) (qpxw_and1 (qpxt_lt ((qpx_add ((V9.v).read) ((V13.v).read)).read) ((V3.v).read) (mark_no rfl)))).t) (qpzs_one (V9.s (qpx_add ((V9.v).read) ((V13.v).read)) rfl)) (qpzs_nil)) (qpzs_cons (V7.a (V9.v) rfl rfl) (qpzs_one (V8.a ((qpxf_sset hcalm hg_sorted b_sorted hg_set b_set ((qpx_cat ((V14.v).read) ((qpx_lst (qys_cons (V9.v) (qpxs_nil) rfl)).read)).read) rfl).px) rfl rfl)))))))))) rfl
 refine qpzr_frz 7 (F := _) ?_
 exact qpzr_ret cx (qpr_two 7 8 V7.n V7.vi (by decide) (by decide) V8.n V8.vi (by decide) (by decide))
def L_law_free_1 : Ev → SR := zSeq (zApp 6 (mVar 5)) (zIf (m2t oLt (m2 oAdd (mVar 5) (mVar 7)) (mVar 3)) (zSet 5 (m2 oAdd (mVar 5) (mVar 7))) (SR.next))
def S_law_free_3 : Ev → SR := zRet (mVar 6)
def F_law_free_3 : Ev → SR := λ δ => (S_law_free_3) (frzE 6 δ)
def S_law_free_2 : Ev → SR := zFor (λ δ => ((mCall m_law_draws (mCons (m2 oDiv (mVar 0) (mVar 3)) (mCons (mVar 1) (mCons (mVar 2) (mCons (m2 oAdd (mVar 4) (mC (.int 1))) (mNil)))))) δ).bind itemsD) (bN 7) (L_law_free_1)
def F_law_free_2 : Ev → SR := zSeq (S_law_free_2) F_law_free_3
def S_law_free_1 : Ev → SR := zOwn 6 (λ δ => lim ((mNil) δ))
def F_law_free_1 : Ev → SR := zSeq (S_law_free_1) F_law_free_2
def S_law_free_0 : Ev → SR := zSet 5 (m2 oMod (mVar 0) (mVar 3))
def F_law_free : Ev → SR := zSeq (S_law_free_0) F_law_free_1
def m_law_free (ds : List D) : R D := finR (F_law_free (startE 8 ds))
theorem s_law_free : FnScope ["_law_cell", "_law_mixed", "_law_many", "_law_length", "_law_gap", "_law_day", "_law_made", "_law_step"] ["_law_cell", "_law_mixed", "_law_many", "_law_length", "_law_gap"] (defScope (top 18)) := fsx
theorem d_law_free {κ : Nat → Addr} {X : Cx} {B : Gd} (cx : Cxo X) (hcalm : X.calm = true) (hN : X.N = [("_law_cell" : Str), ("_law_mixed" : Str), ("_law_many" : Str), ("_law_length" : Str), ("_law_gap" : Str), ("_law_day" : Str), ("_law_made" : Str), ("_law_step" : Str)]) (hsc : X.env.scope = defScope (top 18)) (hfn : ∀ y, X.fn y = true) (hu : X.A.units + 64 < cLine) (k_law_draws : Cal κ X "_law_draws" 4 m_law_draws) : QZs κ B X (defBody (top 18)) F_law_free := by
 have hnd : X.N.Nodup := by rw [hN]; decide +kernel
 have V0 : VP X 0 "_law_cell" := vpl cx hnd hfn hN hsc
 have V1 : VP X 1 "_law_mixed" := vpl cx hnd hfn hN hsc
 have V2 : VP X 2 "_law_many" := vpl cx hnd hfn hN hsc
 have V3 : VP X 3 "_law_length" := vpl cx hnd hfn hN hsc
 have V4 : VP X 4 "_law_gap" := vpl cx hnd hfn hN hsc
 have V5 : VP X 5 "_law_day" := vpl cx hnd hfn hN hsc
 have V6 : VP X 6 "_law_made" := vpl cx hnd hfn hN hsc
 have V7 : VP X 7 "_law_step" := vpl cx hnd hfn hN hsc
 have hg_law_draws : Gl X "_law_draws" := glx hsc
 refine qpzs_cons (F1 := S_law_free_0) (F2 := F_law_free_1) ?_ ?_
 ·exact V5.s (qpx_mod ((V0.v).read) ((V3.v).read)) rfl
 refine qpzs_cons (F1 := S_law_free_1) (F2 := F_law_free_2) ?_ ?_
 ·exact V6.w (qpxf_lst (qpxs_nil)) rfl
 refine qpzs_cons (F1 := S_law_free_2) (F2 := F_law_free_3) ?_ ?_
 ·exact qy_for cx hcalm (qpiz_seq (qy_call cx k_law_draws rfl hg_law_draws (qys_cons (qpx_div ((V0.v).read) ((V3.v).read)) (qys_cons (V1.v) (qys_cons (V2.v) (qys_cons (qpx_add ((V4.v).read) ((qpx_int).read)) (qpxs_nil) rfl) rfl) rfl) rfl))) (λ B => V7.t) (λ B => qpzs_cons (V6.a (V5.v) rfl rfl) (qpzs_one (qpz_if cx (qpxt_lt ((qpx_add ((V5.v).read) ((V7.v).read)).read) ((V3.v).read) (mark_no rfl)) (qpzs_one (V5.s (qpx_add ((V5.v).read) ((V7.v).read)) rfl)) (qpzs_nil)))) rfl
 refine qpzs_frz 6 (F := _) ?_
 exact qpzs_one (qpz_ret cx (V6.v))
def F_law_copies : Ev → R (List D) := mComp (λ δ => ((mVar 0) δ).bind itemsD) (λ _ => .ok true) (mL (λ δ => ((mVar 1) δ).bind itemsD))
def mr_law_copies (ds : List D) : R (List D) := noE (F_law_copies (startE 1 ds))
def m_law_copies : List D → R D := mF mr_law_copies
theorem s_law_copies : FnScope ["_law_rows"] ["_law_rows"] (defScope (top 14)) := fsx
theorem d_law_copies {κ : Nat → Addr} {X : Cx} {B : Gd} (cx : Cxo X) (hcalm : X.calm = true) (hN : X.N = [("_law_rows" : Str)]) (hsc : X.env.scope = defScope (top 14)) (hfn : ∀ y, X.fn y = true) (hu : X.A.units + 64 < cLine) (b_list : X.mg "list" = none) : QZr κ B X (defBody (top 14)) ρ1 F_law_copies := by
 have hnd : X.N.Nodup := by rw [hN]; decide +kernel
 have V0 : VP X 0 "_law_rows" := vpl cx hnd hfn hN hsc
 exact qpzr_ret cx (qpr_of (qcomp_by hcalm ⟨by decide +kernel, rfl, by decide +kernel, rfl, by rw [hN]; decide +kernel, by rw [hsc]; decide +kernel, hnd⟩ (qpicz_seq (V0.v)) (λ X' B' hC => by (have cx : Cxo X' := hC.cxo); (have hcalm : X'.calm = true := hC.calm.trans hcalm); (have hu : X'.A.units + 64 < cLine := by rw [hC.A]; exact hu); exact qpts_nil) (λ X' B' hC => by (have cx : Cxo X' := hC.cxo); (have hcalm : X'.calm = true := hC.calm.trans hcalm); (have hu : X'.A.units + 64 < cLine := by rw [hC.A]; exact hu); (have z1 : ∀ {B : Gd} {pos : Pos}, QX κ B X' (.Name "_law_row" pos) (mVar 1) := qpx_var 1 (hC.x (by rw [hN]; rfl)) (.inl (hC.look rfl (by decide))) (by decide) (by decide)); (have hg_list : Gl X' "list" := hC.look rfl (by decide)); (have b_list : X'.mg "list" = none := by rw [hC.mg]; exact b_list); exact (qpxf_list hg_list b_list ((z1).read) rfl).px) rfl))
def F_own_blots_1 : Ev → SR := zRet (mL (mCompG 1 (λ δ => ((mCons (mVar 1) (mNil)) δ).bind iR1) (bN 4) (λ _ => .ok true) (mIf (m2t oInD (mVar 4) (mVar 2)) (mC (.int 0)) (mC (.int 1)))))
def F_own_blots : Ev → SR := zSeq (zDict 0 2 3) F_own_blots_1
def m_own_blots (ds : List D) : R D := finR (F_own_blots (startE 4 ds))
theorem s_own_blots : FnScope ["row", "length", "own", "day"] ["row", "length"] (defScope (top 1)) := fsx
theorem d_own_blots {κ : Nat → Addr} {X : Cx} {B : Gd} (cx : Cxo X) (hcalm : X.calm = true) (hN : X.N = [("row" : Str), ("length" : Str), ("own" : Str), ("day" : Str)]) (hsc : X.env.scope = defScope (top 1)) (hfn : ∀ y, X.fn y = true) (hu : X.A.units + 64 < cLine) (b_range : X.mg "range" = none) : QZs κ B X (defBody (top 1)) F_own_blots := by
 have hnd : X.N.Nodup := by rw [hN]; decide +kernel
 have V0 : VP X 0 "row" := vpl cx hnd hfn hN hsc
 have V1 : VP X 1 "length" := vpl cx hnd hfn hN hsc
 have V2 : VP X 2 "own" := vpc cx hnd hfn hN hsc rfl rfl (by decide) (by decide)
 have V3 : VP X 3 "day" := vpl cx hnd hfn hN hsc
 have hg_range : Gl X "range" := glx hsc
 refine qpzs_dict cx hcalm hu hnd hfn V0.n V0.vi (by decide) (by decide) V2.n V2.l V2.vi (by decide) (by decide) V3.n V3.l V3.vi (by decide) (by decide) (by decide) (by decide) (by decide) (F := F_own_blots_1) ?_
 exact qpzs_one (qpz_ret cx ((qcomp_byG (N0 := [("row" : Str), ("length" : Str), ("own" : Str), ("~3" : Str)]) (xs := [("day" : Str)]) hcalm ⟨by decide +kernel, rfl, by decide +kernel, (congrArg List.length hN).symm, by rw [hN]; exact compOld (by decide +kernel), by decide +kernel, by rw [hsc]; decide +kernel⟩ (qpicg_of (qpicz_range1 hg_range b_range (qys_cons (V1.v) (qpxs_nil) rfl) rfl)) (by rw [hN]; exact bdOk_name) (λ X' B' hC => by (have cx : Cxo X' := hC.cxo); (have hcalm : X'.calm = true := hC.calm.trans hcalm); (have hu : X'.A.units + 64 < cLine := by rw [hC.A]; exact hu); (have hN' := hC.N); (have tt4 : ∀ {B : Gd} {pos : Pos}, QGz κ B X' (.Name "day" pos) (bN 4) := qpgz_name cx (by rw [hN']; decide +kernel) (by rw [hN']; rfl) (.inl (hC.look rfl (by decide))) (.inr (hC.look rfl (by decide)))); exact tt4) (λ X' B' hC => by (have cx : Cxo X' := hC.cxo); (have hcalm : X'.calm = true := hC.calm.trans hcalm); (have hu : X'.A.units + 64 < cLine := by rw [hC.A]; exact hu); (have hN' := hC.N); exact qpts_nil) (λ X' B' hC => by (have cx : Cxo X' := hC.cxo); (have hcalm : X'.calm = true := hC.calm.trans hcalm); (have hu : X'.A.units + 64 < cLine := by rw [hC.A]; exact hu); (have hN' := hC.N); (have z2 : ∀ {B : Gd} {pos : Pos}, QX κ B X' (.Name "own" pos) (mVar 2) := qpx_var 2 (by rw [hN']; rfl) (hC.vis rfl) (by decide) (by decide)); (have z4 : ∀ {B : Gd} {pos : Pos}, QX κ B X' (.Name "day" pos) (mVar 4) := qpx_var 4 (by rw [hN']; rfl) (.inl (hC.look rfl (by decide))) (by decide) (by decide)); exact qpx_if (qpxt_ind hu ((z4).read) ((z2).read) (mark_no rfl)) (qpx_int) (qpx_int)) rfl).px))
def L_best_ahead_1 : Ev → SR := zPop 3
def L_best_ahead_2 : Ev → SR := zSeq (whileZ (mAnd (m2t oGt (m1 oLen (mVarR 3)) (mVar 4)) (m2t oGe (m2 oIx (mVar 0) (m2 oIx (mVarR 3) (m1 oNeg (mC (.int 1))))) (mVar 6))) (L_best_ahead_1) 1000) (zSeq (zApp 3 (mVar 5)) (zSeq (zIf (m2t oGt (m2 oSub (mVar 5) (m2 oIx (mVarR 3) (mVar 4))) (mVar 1)) (zAug 4 (λ i j => i + j) (mC (.int 1))) (SR.next)) (zApp 2 (m2 oIx (mVarR 3) (mVar 4)))))
def S_best_ahead_4 : Ev → SR := zRet (mVar 2)
def F_best_ahead_4 : Ev → SR := λ δ => (S_best_ahead_4) (frzE 2 δ)
def S_best_ahead_3 : Ev → SR := zFor (λ δ => ((mVar 0) δ).bind enumD) (bTup 2 (bsCons (bN 5) (bsCons (bN 6) (bsNil)))) (L_best_ahead_2)
def F_best_ahead_3 : Ev → SR := zSeq (S_best_ahead_3) F_best_ahead_4
def S_best_ahead_2 : Ev → SR := zSet 4 (mC (.int 0))
def F_best_ahead_2 : Ev → SR := zSeq (S_best_ahead_2) F_best_ahead_3
def S_best_ahead_1 : Ev → SR := zOwn 3 (λ δ => lim ((mNil) δ))
def F_best_ahead_1 : Ev → SR := zSeq (S_best_ahead_1) F_best_ahead_2
def S_best_ahead_0 : Ev → SR := zOwn 2 (λ δ => lim ((mNil) δ))
def F_best_ahead : Ev → SR := zSeq (S_best_ahead_0) F_best_ahead_1
def m_best_ahead (ds : List D) : R D := finR (F_best_ahead (startE 7 ds))
theorem s_best_ahead : FnScope ["numbers", "gap", "told", "kept", "start", "day", "number"] ["numbers", "gap"] (defScope (top 2)) := fsx
theorem d_best_ahead {κ : Nat → Addr} {X : Cx} {B : Gd} (cx : Cxo X) (hcalm : X.calm = true) (hN : X.N = [("numbers" : Str), ("gap" : Str), ("told" : Str), ("kept" : Str), ("start" : Str), ("day" : Str), ("number" : Str)]) (hsc : X.env.scope = defScope (top 2)) (hfn : ∀ y, X.fn y = true) (hu : X.A.units + 64 < cLine) (b_enumerate : X.mg "enumerate" = none) (b_len : X.mg "len" = none) : QZs κ B X (defBody (top 2)) F_best_ahead := by
 have hnd : X.N.Nodup := by rw [hN]; decide +kernel
 have V0 : VP X 0 "numbers" := vpl cx hnd hfn hN hsc
 have V1 : VP X 1 "gap" := vpl cx hnd hfn hN hsc
 have V2 : VP X 2 "told" := vpl cx hnd hfn hN hsc
 have V3 : VP X 3 "kept" := vpl cx hnd hfn hN hsc
 have V4 : VP X 4 "start" := vpl cx hnd hfn hN hsc
 have V5 : VP X 5 "day" := vpl cx hnd hfn hN hsc
 have V6 : VP X 6 "number" := vpl cx hnd hfn hN hsc
 have hg_enumerate : Gl X "enumerate" := glx hsc
 have hg_len : Gl X "len" := glx hsc
 refine qpzs_cons (F1 := S_best_ahead_0) (F2 := F_best_ahead_1) ?_ ?_
 ·exact V2.w (qpxf_lst (qpxs_nil)) rfl
 refine qpzs_cons (F1 := S_best_ahead_1) (F2 := F_best_ahead_2) ?_ ?_
 ·exact V3.w (qpxf_lst (qpxs_nil)) rfl
 refine qpzs_cons (F1 := S_best_ahead_2) (F2 := F_best_ahead_3) ?_ ?_
 ·exact V4.s (qpx_int) rfl
 refine qpzs_cons (F1 := S_best_ahead_3) (F2 := F_best_ahead_4) ?_ ?_
 ·exact qy_forG cx hcalm (qpig_enum hg_enumerate b_enumerate (V0.v) rfl) (λ B => qy_tup hcalm (qy_cons (V5.t) (qy_cons (V6.t) (qpgzs_nil) rfl) rfl) rfl rfl) (λ B => qpzs_cons (qpz_while cx 1000 ((qpxw_and (qpxt_gt ((qy_len hg_len b_len (V3.r) rfl).read) ((V4.v).read) (mark_no rfl)) (qpxw_and1 (qpxt_ge ((qy_ix ((V0.v).read) ((qy_ix (V3.r) ((qpx_neg ((qpx_int).read)).read) rfl).read) rfl).read) ((V6.v).read) (mark_no rfl)))).t) (qpzs_one (qpz_pop cx V3.n V3.vi (by decide) (by decide) rfl))) (qpzs_cons (V3.a (V5.v) rfl rfl) (qpzs_cons (qpz_if cx (qpxt_gt ((qpx_sub ((V5.v).read) ((qy_ix (V3.r) ((V4.v).read) rfl).read)).read) ((V1.v).read) (mark_no rfl)) (qpzs_one (V4.ua (qpx_int))) (qpzs_nil)) (qpzs_one (V2.a (qy_ix (V3.r) ((V4.v).read) rfl) rfl rfl))))) rfl
 refine qpzs_frz 2 (F := _) ?_
 exact qpzs_one (qpz_ret cx (V2.v))
def F_numbers_behind_1 : Ev → SR := zRet (mL (mCompG 2 (λ δ => ((mCons (mCall m_best_ahead (mCons (mVar 0) (mCons (mVar 2) (mNil)))) (mCons (mVar 3) (mNil))) δ).bind zipD) (bTup 2 (bsCons (bN 4) (bsCons (bN 5) (bsNil)))) (λ _ => .ok true) (m2 oAdd (m2 oIx (mVar 0) (mVar 4)) (mVar 5))))
def F_numbers_behind : Ev → SR := zSeq (zSet 3 (mCall m_own_blots (mCons (mVar 1) (mCons (m1 oLen (mVar 0)) (mNil))))) F_numbers_behind_1
def m_numbers_behind (ds : List D) : R D := finR (F_numbers_behind (startE 4 ds))
theorem s_numbers_behind : FnScope ["ahead", "row", "gap", "own"] ["ahead", "row", "gap"] (defScope (top 3)) := fsx
theorem d_numbers_behind {κ : Nat → Addr} {X : Cx} {B : Gd} (cx : Cxo X) (hcalm : X.calm = true) (hN : X.N = [("ahead" : Str), ("row" : Str), ("gap" : Str), ("own" : Str)]) (hsc : X.env.scope = defScope (top 3)) (hfn : ∀ y, X.fn y = true) (hu : X.A.units + 64 < cLine) (k_own_blots : Cal κ X "own_blots" 2 m_own_blots) (k_best_ahead : Cal κ X "best_ahead" 2 m_best_ahead) (b_len : X.mg "len" = none) (b_zip : X.mg "zip" = none) : QZs κ B X (defBody (top 3)) F_numbers_behind := by
 have hnd : X.N.Nodup := by rw [hN]; decide +kernel
 have V0 : VP X 0 "ahead" := vpc cx hnd hfn hN hsc rfl rfl (by decide) (by decide)
 have V1 : VP X 1 "row" := vpl cx hnd hfn hN hsc
 have V2 : VP X 2 "gap" := vpl cx hnd hfn hN hsc
 have V3 : VP X 3 "own" := vpl cx hnd hfn hN hsc
 have hg_own_blots : Gl X "own_blots" := glx hsc
 have hg_best_ahead : Gl X "best_ahead" := glx hsc
 have hg_len : Gl X "len" := glx hsc
 have hg_zip : Gl X "zip" := glx hsc
 refine qpzs_cons (F1 := zSet 3 (mCall m_own_blots (mCons (mVar 1) (mCons (m1 oLen (mVar 0)) (mNil))))) (F2 := F_numbers_behind_1) ?_ ?_
 ·exact V3.s (qy_call cx k_own_blots rfl hg_own_blots (qys_cons (V1.v) (qys_cons (qy_len hg_len b_len ((V0.v).read) rfl) (qpxs_nil) rfl) rfl)) rfl
 exact qpzs_one (qpz_ret cx ((qcomp_byG (N0 := [("ahead" : Str), ("row" : Str), ("gap" : Str), ("own" : Str)]) (xs := [("best" : Str), ("blot" : Str)]) hcalm ⟨by decide +kernel, rfl, by decide +kernel, (congrArg List.length hN).symm, by rw [hN]; exact compOld (by decide +kernel), by decide +kernel, by rw [hsc]; decide +kernel⟩ (qpicg_zip hg_zip b_zip (qys_cons (qy_call cx k_best_ahead rfl hg_best_ahead (qys_cons (V0.v) (qys_cons (V2.v) (qpxs_nil) rfl) rfl)) (qys_cons (V3.v) (qpxs_nil) rfl) rfl) rfl rfl) (by rw [hN]; exact bdOk_two) (λ X' B' hC => by (have cx : Cxo X' := hC.cxo); (have hcalm : X'.calm = true := hC.calm.trans hcalm); (have hu : X'.A.units + 64 < cLine := by rw [hC.A]; exact hu); (have hN' := hC.N); (have tt4 : ∀ {B : Gd} {pos : Pos}, QGz κ B X' (.Name "best" pos) (bN 4) := qpgz_name cx (by rw [hN']; decide +kernel) (by rw [hN']; rfl) (.inl (hC.look rfl (by decide))) (.inr (hC.look rfl (by decide)))); (have tt5 : ∀ {B : Gd} {pos : Pos}, QGz κ B X' (.Name "blot" pos) (bN 5) := qpgz_name cx (by rw [hN']; decide +kernel) (by rw [hN']; rfl) (.inl (hC.look rfl (by decide))) (.inr (hC.look rfl (by decide)))); exact qy_tup hcalm (qy_cons (tt4) (qy_cons (tt5) (qpgzs_nil) rfl) rfl) rfl rfl) (λ X' B' hC => by (have cx : Cxo X' := hC.cxo); (have hcalm : X'.calm = true := hC.calm.trans hcalm); (have hu : X'.A.units + 64 < cLine := by rw [hC.A]; exact hu); (have hN' := hC.N); exact qpts_nil) (λ X' B' hC => by (have cx : Cxo X' := hC.cxo); (have hcalm : X'.calm = true := hC.calm.trans hcalm); (have hu : X'.A.units + 64 < cLine := by rw [hC.A]; exact hu); (have hN' := hC.N); (have z0 : ∀ {B : Gd} {pos : Pos}, QX κ B X' (.Name "ahead" pos) (mVar 0) := qpx_var 0 (by rw [hN']; rfl) (hC.vis rfl) (by decide) (by decide)); (have z4 : ∀ {B : Gd} {pos : Pos}, QX κ B X' (.Name "best" pos) (mVar 4) := qpx_var 4 (by rw [hN']; rfl) (.inl (hC.look rfl (by decide))) (by decide) (by decide)); (have z5 : ∀ {B : Gd} {pos : Pos}, QX κ B X' (.Name "blot" pos) (mVar 5) := qpx_var 5 (by rw [hN']; rfl) (.inl (hC.look rfl (by decide))) (by decide) (by decide)); exact qpx_add ((qy_ix ((z0).read) ((z4).read) rfl).read) ((z5).read)) rfl).px))
def L_fewest_numbers_1 : Ev → SR := zIf (m2t oEq (mVarR 3) (mLst (mNil))) (zApp 3 (mCall m_own_blots (mCons (mVar 4) (mCons (mVar 2) (mNil))))) (zApp 3 (mCall m_numbers_behind (mCons (m2 oIx (mVarR 3) (m1 oNeg (mC (.int 1)))) (mCons (mVar 4) (mCons (mVar 1) (mNil))))))
def S_fewest_numbers_2 : Ev → SR := zRet (mVar 3)
def F_fewest_numbers_2 : Ev → SR := λ δ => (S_fewest_numbers_2) (frzE 3 δ)
def S_fewest_numbers_1 : Ev → SR := zFor (λ δ => ((mVar 0) δ).bind itemsD) (bN 4) (L_fewest_numbers_1)
def F_fewest_numbers_1 : Ev → SR := zSeq (S_fewest_numbers_1) F_fewest_numbers_2
def S_fewest_numbers_0 : Ev → SR := zOwn 3 (λ δ => lim ((mNil) δ))
def F_fewest_numbers : Ev → SR := zSeq (S_fewest_numbers_0) F_fewest_numbers_1
def m_fewest_numbers (ds : List D) : R D := finR (F_fewest_numbers (startE 5 ds))
theorem s_fewest_numbers : FnScope ["rows", "gap", "length", "told", "row"] ["rows", "gap", "length"] (defScope (top 4)) := fsx
theorem d_fewest_numbers {κ : Nat → Addr} {X : Cx} {B : Gd} (cx : Cxo X) (hcalm : X.calm = true) (hN : X.N = [("rows" : Str), ("gap" : Str), ("length" : Str), ("told" : Str), ("row" : Str)]) (hsc : X.env.scope = defScope (top 4)) (hfn : ∀ y, X.fn y = true) (hu : X.A.units + 64 < cLine) (k_own_blots : Cal κ X "own_blots" 2 m_own_blots) (k_numbers_behind : Cal κ X "numbers_behind" 3 m_numbers_behind) : QZs κ B X (defBody (top 4)) F_fewest_numbers := by
 have hnd : X.N.Nodup := by rw [hN]; decide +kernel
 have V0 : VP X 0 "rows" := vpl cx hnd hfn hN hsc
 have V1 : VP X 1 "gap" := vpl cx hnd hfn hN hsc
 have V2 : VP X 2 "length" := vpl cx hnd hfn hN hsc
 have V3 : VP X 3 "told" := vpl cx hnd hfn hN hsc
 have V4 : VP X 4 "row" := vpl cx hnd hfn hN hsc
 have hg_own_blots : Gl X "own_blots" := glx hsc
 have hg_numbers_behind : Gl X "numbers_behind" := glx hsc
 refine qpzs_cons (F1 := S_fewest_numbers_0) (F2 := F_fewest_numbers_1) ?_ ?_
 ·exact V3.w (qpxf_lst (qpxs_nil)) rfl
 refine qpzs_cons (F1 := S_fewest_numbers_1) (F2 := F_fewest_numbers_2) ?_ ?_
 ·exact qy_for cx hcalm (qpiz_seq (V0.v)) (λ B => V4.t) (λ B => qpzs_one (qpz_if cx (qpxt_eq hu (V3.r) ((qpx_lst (qpxs_nil)).read) (mark_no rfl)) (qpzs_one (V3.a (qy_call cx k_own_blots rfl hg_own_blots (qys_cons (V4.v) (qys_cons (V2.v) (qpxs_nil) rfl) rfl)) rfl rfl)) (qpzs_one (V3.a (qy_call cx k_numbers_behind rfl hg_numbers_behind (qys_cons (qy_ix (V3.r) ((qpx_neg ((qpx_int).read)).read) rfl) (qys_cons (V4.v) (qys_cons (V1.v) (qpxs_nil) rfl) rfl) rfl)) rfl rfl)))) rfl
 refine qpzs_frz 3 (F := _) ?_
 exact qpzs_one (qpz_ret cx (V3.v))
def L_days_with_fewest_1 : Ev → SR := zSeq (zIf (m2t oEq (mVarR 2) (mLst (mNil))) (zSet 4 (mBL oIndex (mVar 3) (mCons (m1 oMinL (mVar 3)) (mNil)))) (zSet 4 (m2 oIx (mCall m_best_ahead (mCons (mVar 3) (mCons (mVar 1) (mNil)))) (m2 oIx (mVarR 2) (m1 oNeg (mC (.int 1))))))) (zApp 2 (mVar 4))
def S_days_with_fewest_3 : Ev → SR := zRet (mVar 2)
def F_days_with_fewest_3 : Ev → SR := λ δ => (S_days_with_fewest_3) (frzE 2 δ)
def S_days_with_fewest_2 : Ev → SR := zRev 2
def F_days_with_fewest_2 : Ev → SR := zSeq (S_days_with_fewest_2) F_days_with_fewest_3
def S_days_with_fewest_1 : Ev → SR := zFor (λ δ => ((mVar 0) δ).bind revD) (bN 3) (L_days_with_fewest_1)
def F_days_with_fewest_1 : Ev → SR := zSeq (S_days_with_fewest_1) F_days_with_fewest_2
def S_days_with_fewest_0 : Ev → SR := zOwn 2 (λ δ => lim ((mNil) δ))
def F_days_with_fewest : Ev → SR := zSeq (S_days_with_fewest_0) F_days_with_fewest_1
def m_days_with_fewest (ds : List D) : R D := finR (F_days_with_fewest (startE 5 ds))
theorem s_days_with_fewest : FnScope ["numbers", "gap", "days", "row_numbers", "day"] ["numbers", "gap"] (defScope (top 5)) := fsx
theorem d_days_with_fewest {κ : Nat → Addr} {X : Cx} {B : Gd} (cx : Cxo X) (hcalm : X.calm = true) (hN : X.N = [("numbers" : Str), ("gap" : Str), ("days" : Str), ("row_numbers" : Str), ("day" : Str)]) (hsc : X.env.scope = defScope (top 5)) (hfn : ∀ y, X.fn y = true) (hu : X.A.units + 64 < cLine) (k_best_ahead : Cal κ X "best_ahead" 2 m_best_ahead) (b_min : X.mg "min" = none) (b_reversed : X.mg "reversed" = none) : QZs κ B X (defBody (top 5)) F_days_with_fewest := by
 have hnd : X.N.Nodup := by rw [hN]; decide +kernel
 have V0 : VP X 0 "numbers" := vpl cx hnd hfn hN hsc
 have V1 : VP X 1 "gap" := vpl cx hnd hfn hN hsc
 have V2 : VP X 2 "days" := vpl cx hnd hfn hN hsc
 have V3 : VP X 3 "row_numbers" := vpl cx hnd hfn hN hsc
 have V4 : VP X 4 "day" := vpl cx hnd hfn hN hsc
 have hg_best_ahead : Gl X "best_ahead" := glx hsc
 have hg_min : Gl X "min" := glx hsc
 have hg_reversed : Gl X "reversed" := glx hsc
 refine qpzs_cons (F1 := S_days_with_fewest_0) (F2 := F_days_with_fewest_1) ?_ ?_
 ·exact V2.w (qpxf_lst (qpxs_nil)) rfl
 refine qpzs_cons (F1 := S_days_with_fewest_1) (F2 := F_days_with_fewest_2) ?_ ?_
 ·exact qy_for cx hcalm (qpiz_rev hg_reversed b_reversed (V0.v) rfl) (λ B => V3.t) (λ B => qpzs_cons (qpz_if cx (qpxt_eq hu (V2.r) ((qpx_lst (qpxs_nil)).read) (mark_no rfl)) (qpzs_one (V4.s (qy_index hu ((V3.v).read) (qys_cons (qy_minL hcalm hg_min b_min ((V3.v).read) rfl) (qpxs_nil) rfl) rfl rfl rfl) rfl)) (qpzs_one (V4.s (qy_ix ((qy_call cx k_best_ahead rfl hg_best_ahead (qys_cons (V3.v) (qys_cons (V1.v) (qpxs_nil) rfl) rfl)).read) ((qy_ix (V2.r) ((qpx_neg ((qpx_int).read)).read) rfl).read) rfl) rfl))) (qpzs_one (V2.a (V4.v) rfl rfl))) rfl
 refine qpzs_cons (F1 := S_days_with_fewest_2) (F2 := F_days_with_fewest_3) ?_ ?_
 ·exact qpz_reverse cx V2.n V2.vi (by decide) (by decide) rfl
 refine qpzs_frz 2 (F := _) ?_
 exact qpzs_one (qpz_ret cx (V2.v))
def S_fewest_blots_3 : Ev → SR := zRet (mTup (mCons (mVar 5) (mCons (mVar 4) (mCons (mVar 3) (mNil)))))
def F_fewest_blots_3 : Ev → SR := S_fewest_blots_3
def S_fewest_blots_2 : Ev → SR := zSet 5 (mL (mCompG 2 (λ δ => ((mVar 0) δ).bind enumD) (bTup 2 (bsCons (bN 6) (bsCons (bN 7) (bsNil)))) (m2t oNin (m2 oIx (mVar 4) (mVar 6)) (mVar 7)) (mVar 6)))
def F_fewest_blots_2 : Ev → SR := zSeq (S_fewest_blots_2) F_fewest_blots_3
def S_fewest_blots_1 : Ev → SR := zSet 4 (mCall m_days_with_fewest (mCons (mVar 3) (mCons (mVar 1) (mNil))))
def F_fewest_blots_1 : Ev → SR := zSeq (S_fewest_blots_1) F_fewest_blots_2
def S_fewest_blots_0 : Ev → SR := zSet 3 (mCall m_fewest_numbers (mCons (mVar 0) (mCons (mVar 1) (mCons (mVar 2) (mNil)))))
def F_fewest_blots : Ev → SR := zSeq (S_fewest_blots_0) F_fewest_blots_1
def m_fewest_blots (ds : List D) : R D := finR (F_fewest_blots (startE 6 ds))
theorem s_fewest_blots : FnScope ["rows", "gap", "length", "numbers", "days", "places"] ["rows", "gap", "length"] (defScope (top 6)) := fsx
theorem d_fewest_blots {κ : Nat → Addr} {X : Cx} {B : Gd} (cx : Cxo X) (hcalm : X.calm = true) (hN : X.N = [("rows" : Str), ("gap" : Str), ("length" : Str), ("numbers" : Str), ("days" : Str), ("places" : Str)]) (hsc : X.env.scope = defScope (top 6)) (hfn : ∀ y, X.fn y = true) (hu : X.A.units + 64 < cLine) (k_fewest_numbers : Cal κ X "fewest_numbers" 3 m_fewest_numbers) (k_days_with_fewest : Cal κ X "days_with_fewest" 2 m_days_with_fewest) (b_enumerate : X.mg "enumerate" = none) : QZs κ B X (defBody (top 6)) F_fewest_blots := by
 have hnd : X.N.Nodup := by rw [hN]; decide +kernel
 have V0 : VP X 0 "rows" := vpl cx hnd hfn hN hsc
 have V1 : VP X 1 "gap" := vpl cx hnd hfn hN hsc
 have V2 : VP X 2 "length" := vpl cx hnd hfn hN hsc
 have V3 : VP X 3 "numbers" := vpl cx hnd hfn hN hsc
 have V4 : VP X 4 "days" := vpc cx hnd hfn hN hsc rfl rfl (by decide) (by decide)
 have lv5 : X.env.scope.names.lookup ("places" : Str) = some .local := by rw [hsc]; rfl
 have V5 : VP X 5 "places" := vpl cx hnd hfn hN hsc
 have hg_fewest_numbers : Gl X "fewest_numbers" := glx hsc
 have hg_days_with_fewest : Gl X "days_with_fewest" := glx hsc
 have hg_enumerate : Gl X "enumerate" := glx hsc
 refine qpzs_cons (F1 := S_fewest_blots_0) (F2 := F_fewest_blots_1) ?_ ?_
 ·exact V3.s (qy_call cx k_fewest_numbers rfl hg_fewest_numbers (qys_cons (V0.v) (qys_cons (V1.v) (qys_cons (V2.v) (qpxs_nil) rfl) rfl) rfl)) rfl
 refine qpzs_cons (F1 := S_fewest_blots_1) (F2 := F_fewest_blots_2) ?_ ?_
 ·exact V4.s (qy_call cx k_days_with_fewest rfl hg_days_with_fewest (qys_cons (V3.v) (qys_cons (V1.v) (qpxs_nil) rfl) rfl)) rfl
 refine qpzs_cons (F1 := S_fewest_blots_2) (F2 := F_fewest_blots_3) ?_ ?_
 ·exact qset_compG (N0 := [("rows" : Str), ("gap" : Str), ("length" : Str), ("numbers" : Str), ("days" : Str), ("places" : Str)]) (xs := [("place" : Str), ("row" : Str)]) cx hnd V5.n (by rw [hsc]; rfl) lv5 rfl (by decide +kernel) hcalm ⟨by decide +kernel, rfl, by decide +kernel, (congrArg List.length hN).symm, by rw [hN]; exact compOld (by decide +kernel), by decide +kernel, by rw [hsc]; decide +kernel⟩ (qpicg_enum hg_enumerate b_enumerate (V0.v) rfl) (by rw [hN]; exact bdOk_two) (λ X' B' hC => by (have cx : Cxo X' := hC.cxo); (have hcalm : X'.calm = true := hC.calm.trans hcalm); (have hu : X'.A.units + 64 < cLine := by rw [hC.A]; exact hu); (have hN' := hC.N); (have tt6 : ∀ {B : Gd} {pos : Pos}, QGz κ B X' (.Name "place" pos) (bN 6) := qpgz_name cx (by rw [hN']; decide +kernel) (by rw [hN']; rfl) (.inl (hC.look rfl (by decide))) (.inr (hC.look rfl (by decide)))); (have tt7 : ∀ {B : Gd} {pos : Pos}, QGz κ B X' (.Name "row" pos) (bN 7) := qpgz_name cx (by rw [hN']; decide +kernel) (by rw [hN']; rfl) (.inl (hC.look rfl (by decide))) (.inr (hC.look rfl (by decide)))); exact qy_tup hcalm (qy_cons (tt6) (qy_cons (tt7) (qpgzs_nil) rfl) rfl) rfl rfl) (λ X' B' hC => by (have cx : Cxo X' := hC.cxo); (have hcalm : X'.calm = true := hC.calm.trans hcalm); (have hu : X'.A.units + 64 < cLine := by rw [hC.A]; exact hu); (have hN' := hC.N); (have z4 : ∀ {B : Gd} {pos : Pos}, QX κ B X' (.Name "days" pos) (mVar 4) := qpx_var 4 (by rw [hN']; rfl) (hC.vis rfl) (by decide) (by decide)); (have z6 : ∀ {B : Gd} {pos : Pos}, QX κ B X' (.Name "place" pos) (mVar 6) := qpx_var 6 (by rw [hN']; rfl) (.inl (hC.look rfl (by decide))) (by decide) (by decide)); (have z7 : ∀ {B : Gd} {pos : Pos}, QX κ B X' (.Name "row" pos) (mVar 7) := qpx_var 7 (by rw [hN']; rfl) (.inl (hC.look rfl (by decide))) (by decide) (by decide)); exact qpts_one (qpxt_nin hu ((qy_ix ((z4).read) ((z6).read) rfl).read) ((z7).read) (mark_no rfl))) (λ X' B' hC => by (have cx : Cxo X' := hC.cxo); (have hcalm : X'.calm = true := hC.calm.trans hcalm); (have hu : X'.A.units + 64 < cLine := by rw [hC.A]; exact hu); (have hN' := hC.N); (have z6 : ∀ {B : Gd} {pos : Pos}, QX κ B X' (.Name "place" pos) (mVar 6) := qpx_var 6 (by rw [hN']; rfl) (.inl (hC.look rfl (by decide))) (by decide) (by decide)); exact z6) rfl
 exact qpzs_one (qpz_ret cx (qpx_tup (qys_cons (V5.v) (qys_cons (V4.v) (qys_cons (V3.v) (qpxs_nil) rfl) rfl) rfl)))
def F_law_whole : Ev → SR := zRet (mAndV (m1 (λ x => blR (isTy x .int)) (mVar 0)) (mNotV (m1 (λ x => blR (isTy x .bool)) (mVar 0))))
def m_law_whole (ds : List D) : R D := finR (F_law_whole (startE 1 ds))
theorem s_law_whole : FnScope ["_law_found"] ["_law_found"] (defScope (top 11)) := fsx
theorem d_law_whole {κ : Nat → Addr} {X : Cx} {B : Gd} (cx : Cxo X) (hcalm : X.calm = true) (hN : X.N = [("_law_found" : Str)]) (hsc : X.env.scope = defScope (top 11)) (hfn : ∀ y, X.fn y = true) (hu : X.A.units + 64 < cLine) (b_bool : X.mg "bool" = none) (b_int : X.mg "int" = none) (b_isinstance : X.mg "isinstance" = none) : QZs κ B X (defBody (top 11)) F_law_whole := by
 have hnd : X.N.Nodup := by rw [hN]; decide +kernel
 have V0 : VP X 0 "_law_found" := vpl cx hnd hfn hN hsc
 have hg_bool : Gl X "bool" := glx hsc
 have hg_int : Gl X "int" := glx hsc
 have hg_isinstance : Gl X "isinstance" := glx hsc
 exact qpzs_one (qpz_ret cx (qpx_and (qy_isinst .int (by decide +kernel) hg_isinstance b_isinstance hg_int b_int (by decide) (by decide) ((V0.v).read) rfl) (qpx_one (qpx_not (qy_isinst .bool (by decide +kernel) hg_isinstance b_isinstance hg_bool b_bool (by decide) (by decide) ((V0.v).read) rfl)))))
def L_law_list_1 : Ev → SR := zIf (mOr (mNot (mT (mCall m_law_whole (mCons (m2 oIx (mVar 0) (mVar 2)) (mNil))))) (m2t oNe (m2 oIx (mVar 0) (mVar 2)) (m2 oIx (mVar 1) (mVar 2)))) (zRet (mC (.bl false))) (SR.next)
def S_law_list_2 : Ev → SR := zRet (mC (.bl true))
def F_law_list_2 : Ev → SR := S_law_list_2
def S_law_list_1 : Ev → SR := zFor (λ δ => ((mCons (m1 oLen (mVar 1)) (mNil)) δ).bind iR1) (bN 2) (L_law_list_1)
def F_law_list_1 : Ev → SR := zSeq (S_law_list_1) F_law_list_2
def S_law_list_0 : Ev → SR := zIf (mOr (mNot (mT (m1 (λ x => blR (isTy x .list)) (mVar 0)))) (m2t oNe (m1 oLen (mVar 0)) (m1 oLen (mVar 1)))) (zRet (mC (.bl false))) (SR.next)
def F_law_list : Ev → SR := zSeq (S_law_list_0) F_law_list_1
def m_law_list (ds : List D) : R D := finR (F_law_list (startE 3 ds))
theorem s_law_list : FnScope ["_law_found", "_law_kept", "_law_k"] ["_law_found", "_law_kept"] (defScope (top 12)) := fsx
theorem d_law_list {κ : Nat → Addr} {X : Cx} {B : Gd} (cx : Cxo X) (hcalm : X.calm = true) (hN : X.N = [("_law_found" : Str), ("_law_kept" : Str), ("_law_k" : Str)]) (hsc : X.env.scope = defScope (top 12)) (hfn : ∀ y, X.fn y = true) (hu : X.A.units + 64 < cLine) (k_law_whole : Cal κ X "_law_whole" 1 m_law_whole) (b_isinstance : X.mg "isinstance" = none) (b_len : X.mg "len" = none) (b_list : X.mg "list" = none) (b_range : X.mg "range" = none) : QZs κ B X (defBody (top 12)) F_law_list := by
 have hnd : X.N.Nodup := by rw [hN]; decide +kernel
 have V0 : VP X 0 "_law_found" := vpl cx hnd hfn hN hsc
 have V1 : VP X 1 "_law_kept" := vpl cx hnd hfn hN hsc
 have V2 : VP X 2 "_law_k" := vpl cx hnd hfn hN hsc
 have hg_law_whole : Gl X "_law_whole" := glx hsc
 have hg_isinstance : Gl X "isinstance" := glx hsc
 have hg_len : Gl X "len" := glx hsc
 have hg_list : Gl X "list" := glx hsc
 have hg_range : Gl X "range" := glx hsc
 refine qpzs_cons (F1 := S_law_list_0) (F2 := F_law_list_1) ?_ ?_
 ·exact qpz_if cx ((qpxw_or (qpxt_not (qyt_val ((qy_isinst .list (by decide +kernel) hg_isinstance b_isinstance hg_list b_list (by decide) (by decide) ((V0.v).read) rfl).read) rfl)) (qpxw_or1 (qpxt_ne hu ((qy_len hg_len b_len ((V0.v).read) rfl).read) ((qy_len hg_len b_len ((V1.v).read) rfl).read) (mark_no rfl)))).t) (qpzs_one (qpz_ret cx (qpx_bl))) (qpzs_nil)
 refine qpzs_cons (F1 := S_law_list_1) (F2 := F_law_list_2) ?_ ?_
 ·exact qy_for cx hcalm (qyi_range1 hg_range b_range (qys_cons (qy_len hg_len b_len ((V1.v).read) rfl) (qpxs_nil) rfl) rfl) (λ B => V2.t) (λ B => qpzs_one (qpz_if cx ((qpxw_or (qpxt_not (qyt_val ((qy_call cx k_law_whole rfl hg_law_whole (qys_cons (qy_ix ((V0.v).read) ((V2.v).read) rfl) (qpxs_nil) rfl)).read) rfl)) (qpxw_or1 (qpxt_ne hu ((qy_ix ((V0.v).read) ((V2.v).read) rfl).read) ((qy_ix ((V1.v).read) ((V2.v).read) rfl).read) (mark_no rfl)))).t) (qpzs_one (qpz_ret cx (qpx_bl))) (qpzs_nil))) rfl
 exact qpzs_one (qpz_ret cx (qpx_bl))
def L_law_lists_1 : Ev → SR := zIf (mNot (mT (mCall m_law_list (mCons (m2 oIx (mVar 0) (mVar 2)) (mCons (m2 oIx (mVar 1) (mVar 2)) (mNil)))))) (zRet (mC (.bl false))) (SR.next)
def S_law_lists_2 : Ev → SR := zRet (mC (.bl true))
def F_law_lists_2 : Ev → SR := S_law_lists_2
def S_law_lists_1 : Ev → SR := zFor (λ δ => ((mCons (m1 oLen (mVar 1)) (mNil)) δ).bind iR1) (bN 2) (L_law_lists_1)
def F_law_lists_1 : Ev → SR := zSeq (S_law_lists_1) F_law_lists_2
def S_law_lists_0 : Ev → SR := zIf (mOr (mNot (mT (m1 (λ x => blR (isTy x .list)) (mVar 0)))) (m2t oNe (m1 oLen (mVar 0)) (m1 oLen (mVar 1)))) (zRet (mC (.bl false))) (SR.next)
def F_law_lists : Ev → SR := zSeq (S_law_lists_0) F_law_lists_1
def m_law_lists (ds : List D) : R D := finR (F_law_lists (startE 3 ds))
theorem s_law_lists : FnScope ["_law_found", "_law_kept", "_law_k"] ["_law_found", "_law_kept"] (defScope (top 13)) := fsx
theorem d_law_lists {κ : Nat → Addr} {X : Cx} {B : Gd} (cx : Cxo X) (hcalm : X.calm = true) (hN : X.N = [("_law_found" : Str), ("_law_kept" : Str), ("_law_k" : Str)]) (hsc : X.env.scope = defScope (top 13)) (hfn : ∀ y, X.fn y = true) (hu : X.A.units + 64 < cLine) (k_law_list : Cal κ X "_law_list" 2 m_law_list) (b_isinstance : X.mg "isinstance" = none) (b_len : X.mg "len" = none) (b_list : X.mg "list" = none) (b_range : X.mg "range" = none) : QZs κ B X (defBody (top 13)) F_law_lists := by
 have hnd : X.N.Nodup := by rw [hN]; decide +kernel
 have V0 : VP X 0 "_law_found" := vpl cx hnd hfn hN hsc
 have V1 : VP X 1 "_law_kept" := vpl cx hnd hfn hN hsc
 have V2 : VP X 2 "_law_k" := vpl cx hnd hfn hN hsc
 have hg_law_list : Gl X "_law_list" := glx hsc
 have hg_isinstance : Gl X "isinstance" := glx hsc
 have hg_len : Gl X "len" := glx hsc
 have hg_list : Gl X "list" := glx hsc
 have hg_range : Gl X "range" := glx hsc
 refine qpzs_cons (F1 := S_law_lists_0) (F2 := F_law_lists_1) ?_ ?_
 ·exact qpz_if cx ((qpxw_or (qpxt_not (qyt_val ((qy_isinst .list (by decide +kernel) hg_isinstance b_isinstance hg_list b_list (by decide) (by decide) ((V0.v).read) rfl).read) rfl)) (qpxw_or1 (qpxt_ne hu ((qy_len hg_len b_len ((V0.v).read) rfl).read) ((qy_len hg_len b_len ((V1.v).read) rfl).read) (mark_no rfl)))).t) (qpzs_one (qpz_ret cx (qpx_bl))) (qpzs_nil)
 refine qpzs_cons (F1 := S_law_lists_1) (F2 := F_law_lists_2) ?_ ?_
 ·exact qy_for cx hcalm (qyi_range1 hg_range b_range (qys_cons (qy_len hg_len b_len ((V1.v).read) rfl) (qpxs_nil) rfl) rfl) (λ B => V2.t) (λ B => qpzs_one (qpz_if cx (qpxt_not (qyt_val ((qy_call cx k_law_list rfl hg_law_list (qys_cons (qy_ix ((V0.v).read) ((V2.v).read) rfl) (qys_cons (qy_ix ((V1.v).read) ((V2.v).read) rfl) (qpxs_nil) rfl) rfl)).read) rfl)) (qpzs_one (qpz_ret cx (qpx_bl))) (qpzs_nil))) rfl
 exact qpzs_one (qpz_ret cx (qpx_bl))
def L_law_rising_1 : Ev → SR := zSeq (zIf (mOr (mNot (mT (mCall m_law_whole (mCons (m2 oIx (mVar 0) (mVar 2)) (mNil))))) (mOr (m2t oLt (m2 oIx (mVar 0) (mVar 2)) (mC (.int 0))) (m2t oGe (m2 oIx (mVar 0) (mVar 2)) (mVar 1)))) (zRet (mC (.bl false))) (SR.next)) (zIf (mAnd (m2t oGt (mVar 2) (mC (.int 0))) (m2t oLe (m2 oIx (mVar 0) (mVar 2)) (m2 oIx (mVar 0) (m2 oSub (mVar 2) (mC (.int 1)))))) (zRet (mC (.bl false))) (SR.next))
def S_law_rising_2 : Ev → SR := zRet (mC (.bl true))
def F_law_rising_2 : Ev → SR := S_law_rising_2
def S_law_rising_1 : Ev → SR := zFor (λ δ => ((mCons (m1 oLen (mVar 0)) (mNil)) δ).bind iR1) (bN 2) (L_law_rising_1)
def F_law_rising_1 : Ev → SR := zSeq (S_law_rising_1) F_law_rising_2
def S_law_rising_0 : Ev → SR := zIf (mNot (mT (m1 (λ x => blR (isTy x .list)) (mVar 0)))) (zRet (mC (.bl false))) (SR.next)
def F_law_rising : Ev → SR := zSeq (S_law_rising_0) F_law_rising_1
def m_law_rising (ds : List D) : R D := finR (F_law_rising (startE 3 ds))
theorem s_law_rising : FnScope ["_law_places", "_law_many", "_law_k"] ["_law_places", "_law_many"] (defScope (top 17)) := fsx
theorem d_law_rising {κ : Nat → Addr} {X : Cx} {B : Gd} (cx : Cxo X) (hcalm : X.calm = true) (hN : X.N = [("_law_places" : Str), ("_law_many" : Str), ("_law_k" : Str)]) (hsc : X.env.scope = defScope (top 17)) (hfn : ∀ y, X.fn y = true) (hu : X.A.units + 64 < cLine) (k_law_whole : Cal κ X "_law_whole" 1 m_law_whole) (b_isinstance : X.mg "isinstance" = none) (b_len : X.mg "len" = none) (b_list : X.mg "list" = none) (b_range : X.mg "range" = none) : QZs κ B X (defBody (top 17)) F_law_rising := by
 have hnd : X.N.Nodup := by rw [hN]; decide +kernel
 have V0 : VP X 0 "_law_places" := vpl cx hnd hfn hN hsc
 have V1 : VP X 1 "_law_many" := vpl cx hnd hfn hN hsc
 have V2 : VP X 2 "_law_k" := vpl cx hnd hfn hN hsc
 have hg_law_whole : Gl X "_law_whole" := glx hsc
 have hg_isinstance : Gl X "isinstance" := glx hsc
 have hg_len : Gl X "len" := glx hsc
 have hg_list : Gl X "list" := glx hsc
 have hg_range : Gl X "range" := glx hsc
 refine qpzs_cons (F1 := S_law_rising_0) (F2 := F_law_rising_1) ?_ ?_
 ·exact qpz_if cx (qpxt_not (qyt_val ((qy_isinst .list (by decide +kernel) hg_isinstance b_isinstance hg_list b_list (by decide) (by decide) ((V0.v).read) rfl).read) rfl)) (qpzs_one (qpz_ret cx (qpx_bl))) (qpzs_nil)
 refine qpzs_cons (F1 := S_law_rising_1) (F2 := F_law_rising_2) ?_ ?_
 ·exact qy_for cx hcalm (qyi_range1 hg_range b_range (qys_cons (qy_len hg_len b_len ((V0.v).read) rfl) (qpxs_nil) rfl) rfl) (λ B => V2.t) (λ B => qpzs_cons (qpz_if cx ((qpxw_or (qpxt_not (qyt_val ((qy_call cx k_law_whole rfl hg_law_whole (qys_cons (qy_ix ((V0.v).read) ((V2.v).read) rfl) (qpxs_nil) rfl)).read) rfl)) (qpxw_or (qpxt_lt ((qy_ix ((V0.v).read) ((V2.v).read) rfl).read) ((qpx_int).read) (mark_no rfl)) (qpxw_or1 (qpxt_ge ((qy_ix ((V0.v).read) ((V2.v).read) rfl).read) ((V1.v).read) (mark_no rfl))))).t) (qpzs_one (qpz_ret cx (qpx_bl))) (qpzs_nil)) (qpzs_one (qpz_if cx ((qpxw_and (qpxt_gt ((V2.v).read) ((qpx_int).read) (mark_no rfl)) (qpxw_and1 (qpxt_le ((qy_ix ((V0.v).read) ((V2.v).read) rfl).read) ((qy_ix ((V0.v).read) ((qpx_sub ((V2.v).read) ((qpx_int).read)).read) rfl).read) (mark_no rfl)))).t) (qpzs_one (qpz_ret cx (qpx_bl))) (qpzs_nil)))) rfl
 exact qpzs_one (qpz_ret cx (qpx_bl))
def L_law_chain_1 : Ev → SR := zSeq (zIf (mOr (mNot (mT (mCall m_law_whole (mCons (m2 oIx (mVar 0) (mVar 3)) (mNil))))) (m2t oNin (m2 oIx (mVar 0) (mVar 3)) (m2 oIx (mVar 1) (mVar 3)))) (zRet (mC (.bl false))) (SR.next)) (zSeq (zIf (mAnd (m2t oGt (mVar 3) (mC (.int 0))) (m2t oLt (m2 oIx (mVar 0) (mVar 3)) (m2 oIx (mVar 0) (m2 oSub (mVar 3) (mC (.int 1)))))) (zRet (mC (.bl false))) (SR.next)) (zIf (mAnd (m2t oGt (mVar 3) (mC (.int 0))) (m2t oGt (m2 oIx (mVar 0) (mVar 3)) (m2 oAdd (m2 oIx (mVar 0) (m2 oSub (mVar 3) (mC (.int 1)))) (mVar 2)))) (zRet (mC (.bl false))) (SR.next)))
def S_law_chain_2 : Ev → SR := zRet (mC (.bl true))
def F_law_chain_2 : Ev → SR := S_law_chain_2
def S_law_chain_1 : Ev → SR := zFor (λ δ => ((mCons (m1 oLen (mVar 1)) (mNil)) δ).bind iR1) (bN 3) (L_law_chain_1)
def F_law_chain_1 : Ev → SR := zSeq (S_law_chain_1) F_law_chain_2
def S_law_chain_0 : Ev → SR := zIf (mOr (mNot (mT (m1 (λ x => blR (isTy x .list)) (mVar 0)))) (m2t oNe (m1 oLen (mVar 0)) (m1 oLen (mVar 1)))) (zRet (mC (.bl false))) (SR.next)
def F_law_chain : Ev → SR := zSeq (S_law_chain_0) F_law_chain_1
def m_law_chain (ds : List D) : R D := finR (F_law_chain (startE 4 ds))
theorem s_law_chain : FnScope ["_law_found", "_law_rows", "_law_gap", "_law_k"] ["_law_found", "_law_rows", "_law_gap"] (defScope (top 15)) := fsx
theorem d_law_chain {κ : Nat → Addr} {X : Cx} {B : Gd} (cx : Cxo X) (hcalm : X.calm = true) (hN : X.N = [("_law_found" : Str), ("_law_rows" : Str), ("_law_gap" : Str), ("_law_k" : Str)]) (hsc : X.env.scope = defScope (top 15)) (hfn : ∀ y, X.fn y = true) (hu : X.A.units + 64 < cLine) (k_law_whole : Cal κ X "_law_whole" 1 m_law_whole) (b_isinstance : X.mg "isinstance" = none) (b_len : X.mg "len" = none) (b_list : X.mg "list" = none) (b_range : X.mg "range" = none) : QZs κ B X (defBody (top 15)) F_law_chain := by
 have hnd : X.N.Nodup := by rw [hN]; decide +kernel
 have V0 : VP X 0 "_law_found" := vpl cx hnd hfn hN hsc
 have V1 : VP X 1 "_law_rows" := vpl cx hnd hfn hN hsc
 have V2 : VP X 2 "_law_gap" := vpl cx hnd hfn hN hsc
 have V3 : VP X 3 "_law_k" := vpl cx hnd hfn hN hsc
 have hg_law_whole : Gl X "_law_whole" := glx hsc
 have hg_isinstance : Gl X "isinstance" := glx hsc
 have hg_len : Gl X "len" := glx hsc
 have hg_list : Gl X "list" := glx hsc
 have hg_range : Gl X "range" := glx hsc
 refine qpzs_cons (F1 := S_law_chain_0) (F2 := F_law_chain_1) ?_ ?_
 ·exact qpz_if cx ((qpxw_or (qpxt_not (qyt_val ((qy_isinst .list (by decide +kernel) hg_isinstance b_isinstance hg_list b_list (by decide) (by decide) ((V0.v).read) rfl).read) rfl)) (qpxw_or1 (qpxt_ne hu ((qy_len hg_len b_len ((V0.v).read) rfl).read) ((qy_len hg_len b_len ((V1.v).read) rfl).read) (mark_no rfl)))).t) (qpzs_one (qpz_ret cx (qpx_bl))) (qpzs_nil)
 refine qpzs_cons (F1 := S_law_chain_1) (F2 := F_law_chain_2) ?_ ?_
 ·exact qy_for cx hcalm (qyi_range1 hg_range b_range (qys_cons (qy_len hg_len b_len ((V1.v).read) rfl) (qpxs_nil) rfl) rfl) (λ B => V3.t) (λ B => qpzs_cons (qpz_if cx ((qpxw_or (qpxt_not (qyt_val ((qy_call cx k_law_whole rfl hg_law_whole (qys_cons (qy_ix ((V0.v).read) ((V3.v).read) rfl) (qpxs_nil) rfl)).read) rfl)) (qpxw_or1 (qpxt_nin hu ((qy_ix ((V0.v).read) ((V3.v).read) rfl).read) ((qy_ix ((V1.v).read) ((V3.v).read) rfl).read) (mark_no rfl)))).t) (qpzs_one (qpz_ret cx (qpx_bl))) (qpzs_nil)) (qpzs_cons (qpz_if cx ((qpxw_and (qpxt_gt ((V3.v).read) ((qpx_int).read) (mark_no rfl)) (qpxw_and1 (qpxt_lt ((qy_ix ((V0.v).read) ((V3.v).read) rfl).read) ((qy_ix ((V0.v).read) ((qpx_sub ((V3.v).read) ((qpx_int).read)).read) rfl).read) (mark_no rfl)))).t) (qpzs_one (qpz_ret cx (qpx_bl))) (qpzs_nil)) (qpzs_one (qpz_if cx ((qpxw_and (qpxt_gt ((V3.v).read) ((qpx_int).read) (mark_no rfl)) (qpxw_and1 (qpxt_gt ((qy_ix ((V0.v).read) ((V3.v).read) rfl).read) ((qpx_add ((qy_ix ((V0.v).read) ((qpx_sub ((V3.v).read) ((qpx_int).read)).read) rfl).read) ((V2.v).read)).read) (mark_no rfl)))).t) (qpzs_one (qpz_ret cx (qpx_bl))) (qpzs_nil))))) rfl
 exact qpzs_one (qpz_ret cx (qpx_bl))
def L_law_no_more_1 : Ev → SR := zIf (mAnd (m2t oGt (mVar 4) (mC (.int 0))) (m2t oGt (m2 oIx (m2 oIx (mVar 0) (mVar 4)) (mVar 5)) (m2 oAdd (m2 oIx (m2 oIx (mVar 0) (m2 oSub (mVar 4) (mC (.int 1)))) (mVar 7)) (mVar 6)))) (zRet (mC (.bl false))) (SR.next)
def L_law_no_more_2 : Ev → SR := zSeq (zIf (mNot (mT (mCall m_law_whole (mCons (m2 oIx (m2 oIx (mVar 0) (mVar 4)) (mVar 5)) (mNil))))) (zRet (mC (.bl false))) (SR.next)) (zSeq (zSet 6 (mCB oInt (mCons (m2 (op2 oNin) (mVar 5) (m2 oIx (mVar 1) (mVar 4))) (mNil)))) (zSeq (zIf (mAnd (m2t oEq (mVar 4) (mC (.int 0))) (m2t oGt (m2 oIx (m2 oIx (mVar 0) (mVar 4)) (mVar 5)) (mVar 6))) (zRet (mC (.bl false))) (SR.next)) (zFor (λ δ => ((mCons (mCB oMax (mCons (mC (.int 0)) (mCons (m2 oSub (mVar 5) (mVar 2)) (mNil)))) (mCons (m2 oAdd (mVar 5) (mC (.int 1))) (mNil))) δ).bind iR2) (bN 7) (L_law_no_more_1))))
def L_law_no_more_3 : Ev → SR := zSeq (zIf (mOr (mNot (mT (m1 (λ x => blR (isTy x .list)) (m2 oIx (mVar 0) (mVar 4))))) (m2t oNe (m1 oLen (m2 oIx (mVar 0) (mVar 4))) (mVar 3))) (zRet (mC (.bl false))) (SR.next)) (zFor (λ δ => ((mCons (mVar 3) (mNil)) δ).bind iR1) (bN 5) (L_law_no_more_2))
def S_law_no_more_2 : Ev → SR := zRet (mC (.bl true))
def F_law_no_more_2 : Ev → SR := S_law_no_more_2
def S_law_no_more_1 : Ev → SR := zFor (λ δ => ((mCons (m1 oLen (mVar 1)) (mNil)) δ).bind iR1) (bN 4) (L_law_no_more_3)
def F_law_no_more_1 : Ev → SR := zSeq (S_law_no_more_1) F_law_no_more_2
def S_law_no_more_0 : Ev → SR := zIf (mOr (mNot (mT (m1 (λ x => blR (isTy x .list)) (mVar 0)))) (m2t oNe (m1 oLen (mVar 0)) (m1 oLen (mVar 1)))) (zRet (mC (.bl false))) (SR.next)
def F_law_no_more : Ev → SR := zSeq (S_law_no_more_0) F_law_no_more_1
def m_law_no_more (ds : List D) : R D := finR (F_law_no_more (startE 8 ds))
theorem s_law_no_more : FnScope ["_law_found", "_law_rows", "_law_gap", "_law_length", "_law_k", "_law_day", "_law_price", "_law_ahead"] ["_law_found", "_law_rows", "_law_gap", "_law_length"] (defScope (top 16)) := fsx
theorem d_law_no_more {κ : Nat → Addr} {X : Cx} {B : Gd} (cx : Cxo X) (hcalm : X.calm = true) (hN : X.N = [("_law_found" : Str), ("_law_rows" : Str), ("_law_gap" : Str), ("_law_length" : Str), ("_law_k" : Str), ("_law_day" : Str), ("_law_price" : Str), ("_law_ahead" : Str)]) (hsc : X.env.scope = defScope (top 16)) (hfn : ∀ y, X.fn y = true) (hu : X.A.units + 64 < cLine) (k_law_whole : Cal κ X "_law_whole" 1 m_law_whole) (b_int : X.mg "int" = none) (b_isinstance : X.mg "isinstance" = none) (b_len : X.mg "len" = none) (b_list : X.mg "list" = none) (b_max : X.mg "max" = none) (b_range : X.mg "range" = none) : QZs κ B X (defBody (top 16)) F_law_no_more := by
 have hnd : X.N.Nodup := by rw [hN]; decide +kernel
 have V0 : VP X 0 "_law_found" := vpl cx hnd hfn hN hsc
 have V1 : VP X 1 "_law_rows" := vpl cx hnd hfn hN hsc
 have V2 : VP X 2 "_law_gap" := vpl cx hnd hfn hN hsc
 have V3 : VP X 3 "_law_length" := vpl cx hnd hfn hN hsc
 have V4 : VP X 4 "_law_k" := vpl cx hnd hfn hN hsc
 have V5 : VP X 5 "_law_day" := vpl cx hnd hfn hN hsc
 have V6 : VP X 6 "_law_price" := vpl cx hnd hfn hN hsc
 have V7 : VP X 7 "_law_ahead" := vpl cx hnd hfn hN hsc
 have hg_law_whole : Gl X "_law_whole" := glx hsc
 have hg_int : Gl X "int" := glx hsc
 have hg_isinstance : Gl X "isinstance" := glx hsc
 have hg_len : Gl X "len" := glx hsc
 have hg_list : Gl X "list" := glx hsc
 have hg_max : Gl X "max" := glx hsc
 have hg_range : Gl X "range" := glx hsc
 refine qpzs_cons (F1 := S_law_no_more_0) (F2 := F_law_no_more_1) ?_ ?_
 ·exact qpz_if cx ((qpxw_or (qpxt_not (qyt_val ((qy_isinst .list (by decide +kernel) hg_isinstance b_isinstance hg_list b_list (by decide) (by decide) ((V0.v).read) rfl).read) rfl)) (qpxw_or1 (qpxt_ne hu ((qy_len hg_len b_len ((V0.v).read) rfl).read) ((qy_len hg_len b_len ((V1.v).read) rfl).read) (mark_no rfl)))).t) (qpzs_one (qpz_ret cx (qpx_bl))) (qpzs_nil)
 refine qpzs_cons (F1 := S_law_no_more_1) (F2 := F_law_no_more_2) ?_ ?_
 ·exact qy_for cx hcalm (qyi_range1 hg_range b_range (qys_cons (qy_len hg_len b_len ((V1.v).read) rfl) (qpxs_nil) rfl) rfl) (λ B => V4.t) (λ B => qpzs_cons (qpz_if cx ((qpxw_or (qpxt_not (qyt_val ((qy_isinst .list (by decide +kernel) hg_isinstance b_isinstance hg_list b_list (by decide) (by decide) ((qy_ix ((V0.v).read) ((V4.v).read) rfl).read) rfl).read) rfl)) (qpxw_or1 (qpxt_ne hu ((qy_len hg_len b_len ((qy_ix ((V0.v).read) ((V4.v).read) rfl).read) rfl).read) ((V3.v).read) (mark_no rfl)))).t) (qpzs_one (qpz_ret cx (qpx_bl))) (qpzs_nil)) (qpzs_one (qy_for cx hcalm (qyi_range1 hg_range b_range (qys_cons (V3.v) (qpxs_nil) rfl) rfl) (λ B => V5.t) (λ B => qpzs_cons (qpz_if cx (qpxt_not (qyt_val ((qy_call cx k_law_whole rfl hg_law_whole (qys_cons (qy_ix ((qy_ix ((V0.v).read) ((V4.v).read) rfl).read) ((V5.v).read) rfl) (qpxs_nil) rfl)).read) rfl)) (qpzs_one (qpz_ret cx (qpx_bl))) (qpzs_nil)) (qpzs_cons (V6.s (qy_toint hg_int b_int (qys_cons (qpx_nin hu ((V5.v).read) ((qy_ix ((V1.v).read) ((V4.v).read) rfl).read) (mark_no rfl)) (qpxs_nil) rfl) rfl) rfl) (qpzs_cons (qpz_if cx ((qpxw_and (qpxt_eq hu ((V4.v).read) ((qpx_int).read) (mark_no rfl)) (qpxw_and1 (qpxt_gt ((qy_ix ((qy_ix ((V0.v).read) ((V4.v).read) rfl).read) ((V5.v).read) rfl).read) ((V6.v).read) (mark_no rfl)))).t) (qpzs_one (qpz_ret cx (qpx_bl))) (qpzs_nil)) (qpzs_one (qy_for cx hcalm (qyi_range2 hg_range b_range (qys_cons (qy_max hcalm hg_max b_max (qys_cons (qpx_int) (qys_cons (qpx_sub ((V5.v).read) ((V2.v).read)) (qpxs_nil) rfl) rfl) rfl rfl) (qys_cons (qpx_add ((V5.v).read) ((qpx_int).read)) (qpxs_nil) rfl) rfl) rfl rfl) (λ B => V7.t) (λ B => qpzs_one (qpz_if cx ((qpxw_and (qpxt_gt ((V4.v).read) ((qpx_int).read) (mark_no rfl)) (qpxw_and1 (qpxt_gt ((qy_ix ((qy_ix ((V0.v).read) ((V4.v).read) rfl).read) ((V5.v).read) rfl).read) ((qpx_add ((qy_ix ((qy_ix ((V0.v).read) ((qpx_sub ((V4.v).read) ((qpx_int).read)).read) rfl).read) ((V7.v).read) rfl).read) ((V6.v).read)).read) (mark_no rfl)))).t) (qpzs_one (qpz_ret cx (qpx_bl))) (qpzs_nil))) rfl))))) rfl))) rfl
 exact qpzs_one (qpz_ret cx (qpx_bl))
def L_law_1 : Ev → SR := zPut 5 (mVar 6) (mSl (m2 oIx (mVarR 5) (mVar 6)) (mP (mC (.int 1))) (mNoP))
def L_law_2 : Ev → SR := zPut 10 (mVar 6) (mL (λ δ => ((mCons (mVar 3) (mNil)) δ).bind lR1))
def S_law_16 : Ev → SR := zRet (mAndV (mCall m_law_no_more (mCons (m2 oIx (mVar 9) (mC (.int 2))) (mCons (mVar 5) (mCons (mVar 4) (mCons (mVar 3) (mNil)))))) (m2 (op2 oEq) (m1 oMinL (m2 oIx (m2 oIx (mVar 9) (mC (.int 2))) (m1 oNeg (mC (.int 1))))) (m1 oLen (m2 oIx (mVar 9) (mC (.int 0))))))
def F_law_16 : Ev → SR := λ δ => (S_law_16) (frzE 5 δ)
def S_law_15 : Ev → SR := zIf (m2t oLt (m1 oLen (mL (mCompG 1 (λ δ => ((mCons (mVar 2) (mNil)) δ).bind iR1) (bN 11) (m2t oNin (m2 oIx (mVar 7) (mVar 11)) (m2 oIx (mVar 5) (mVar 11))) (mVar 11)))) (m1 oLen (m2 oIx (mVar 9) (mC (.int 0))))) (zRet (mC (.bl false))) (SR.next)
def F_law_15 : Ev → SR := λ δ => (zSeq (S_law_15) F_law_16) (frzE 5 δ)
def S_law_14 : Ev → SR := zIf (mNot (mT (mCall m_law_chain (mCons (m2 oIx (mVar 9) (mC (.int 1))) (mCons (mVar 10) (mCons (mVar 4) (mNil))))))) (zRet (mC (.bl false))) (SR.next)
def F_law_14 : Ev → SR := λ δ => (zSeq (S_law_14) F_law_15) (frzE 10 δ)
def S_law_13 : Ev → SR := zFor (λ δ => ((m2 oIx (mVar 9) (mC (.int 0))) δ).bind itemsD) (bN 6) (L_law_2)
def F_law_13 : Ev → SR := zSeq (S_law_13) F_law_14
def S_law_12 : Ev → SR := zOwn 10 (λ δ => ((mCons (mVar 5) (mNil)) δ).bind mr_law_copies)
def F_law_12 : Ev → SR := λ δ => (zSeq (S_law_12) F_law_13) (frzE 5 δ)
def S_law_11 : Ev → SR := zIf (mNot (mT (mCall m_law_rising (mCons (m2 oIx (mVar 9) (mC (.int 0))) (mCons (mVar 2) (mNil)))))) (zRet (mC (.bl false))) (SR.next)
def F_law_11 : Ev → SR := zSeq (S_law_11) F_law_12
def S_law_10 : Ev → SR := zIf (mOr (mNot (mT (m1 (λ x => blR (isTy x .tuple)) (mVar 9)))) (mOr (m2t oNe (m1 oLen (mVar 9)) (mC (.int 3))) (mNot (mT (mCall m_law_lists (mCons (mVar 8) (mCons (mVar 5) (mNil)))))))) (zRet (mC (.bl false))) (SR.next)
def F_law_10 : Ev → SR := λ δ => (zSeq (S_law_10) F_law_11) (frzE 5 δ)
def S_law_9 : Ev → SR := zSet 9 (mCall m_fewest_blots (mCons (mVar 8) (mCons (mVar 4) (mCons (mVar 3) (mNil)))))
def F_law_9 : Ev → SR := zSeq (S_law_9) F_law_10
def S_law_8 : Ev → SR := zSet 8 (mCall m_law_copies (mCons (mVar 5) (mNil)))
def F_law_8 : Ev → SR := λ δ => (zSeq (S_law_8) F_law_9) (frzE 5 δ)
def S_law_7 : Ev → SR := zSet 7 (mCall m_law_free (mCons (mCall m_law_at (mCons (mVar 0) (mCons (mC (.int 5)) (mNil)))) (mCons (m2 (op2 oEq) (m2 oMod (mCall m_law_at (mCons (mVar 0) (mCons (mC (.int 0)) (mNil)))) (mC (.int 2))) (mC (.int 0))) (mCons (mVar 2) (mCons (mVar 3) (mCons (mVar 4) (mNil)))))))
def F_law_7 : Ev → SR := zSeq (S_law_7) F_law_8
def S_law_6 : Ev → SR := zFor (λ δ => ((mCons (mC (.int 0)) (mCons (mVar 2) (mCons (m2 oAdd (mC (.int 1)) (m2 oMod (mCall m_law_at (mCons (mVar 0) (mCons (mC (.int 1)) (mNil)))) (mC (.int 7)))) (mNil)))) δ).bind iR3p) (bN 6) (L_law_1)
def F_law_6 : Ev → SR := zSeq (S_law_6) F_law_7
def S_law_5 : Ev → SR := zOwn 5 (λ δ => ((λ δ => ((mCons (mVar 0) (mCons (mC (.int 6)) (mCons (mVar 2) (mCons (mVar 3) (mCons (mVar 4) (mNil)))))) δ).bind mr_law_hidden) δ).bind λ r => .ok r.2)
def F_law_5 : Ev → SR := zSeq (S_law_5) F_law_6
def S_law_4 : Ev → SR := zIf (m2t oEq (m2 oMod (mVar 1) (mC (.int 5))) (mC (.int 1))) (zSeq (zSet 2 (m2 oIx (mLst (mCons (m2 oAdd (mC (.int 1)) (m2 oMod (m2 oDiv (mVar 1) (mC (.int 5))) (mC (.int 4)))) (mCons (mC (.int 2)) (mNil)))) (m2 oMod (m2 oDiv (mVar 1) (mC (.int 20))) (mC (.int 2))))) (zSeq (zSet 3 (m2 oAdd (mC (.int 1)) (m2 oMod (mCall m_law_at (mCons (mVar 0) (mCons (mC (.int 3)) (mNil)))) (mC (.int 800))))) (zSet 4 (m2 oMod (mCall m_law_at (mCons (mVar 0) (mCons (mC (.int 4)) (mNil)))) (m2 oIx (mLst (mCons (mC (.int 26)) (mCons (mC (.int 801)) (mNil)))) (m2 oMod (m2 oDiv (mVar 1) (mC (.int 20))) (mC (.int 2)))))))) (SR.next)
def F_law_4 : Ev → SR := zSeq (S_law_4) F_law_5
def S_law_3 : Ev → SR := zSet 4 (m2 oMod (mCall m_law_at (mCons (mVar 0) (mCons (mC (.int 4)) (mNil)))) (mC (.int 61)))
def F_law_3 : Ev → SR := zSeq (S_law_3) F_law_4
def S_law_2 : Ev → SR := zSet 3 (m2 oAdd (mC (.int 1)) (m2 oMod (mCall m_law_at (mCons (mVar 0) (mCons (mC (.int 3)) (mNil)))) (mC (.int 40))))
def F_law_2 : Ev → SR := zSeq (S_law_2) F_law_3
def S_law_1 : Ev → SR := zSet 2 (m2 oAdd (mC (.int 1)) (m2 oMod (m2 oDiv (mVar 1) (mC (.int 5))) (mC (.int 60))))
def F_law_1 : Ev → SR := zSeq (S_law_1) F_law_2
def S_law_0 : Ev → SR := zSet 1 (mCall m_law_at (mCons (mVar 0) (mCons (mC (.int 2)) (mNil))))
def F_law : Ev → SR := zSeq (S_law_0) F_law_1
def m_law (ds : List D) : R D := finR (F_law (startE 11 ds))
theorem s_law : FnScope ["_law_script", "_law_cell", "_law_many", "_law_length", "_law_gap", "_law_rows", "_law_k", "_law_other", "_law_handed", "_law_found", "_law_opened"] ["_law_script"] (defScope (top 19)) := fsx
theorem d_law {κ : Nat → Addr} {X : Cx} {B : Gd} (cx : Cxo X) (hcalm : X.calm = true) (hN : X.N = [("_law_script" : Str), ("_law_cell" : Str), ("_law_many" : Str), ("_law_length" : Str), ("_law_gap" : Str), ("_law_rows" : Str), ("_law_k" : Str), ("_law_other" : Str), ("_law_handed" : Str), ("_law_found" : Str), ("_law_opened" : Str)]) (hsc : X.env.scope = defScope (top 19)) (hfn : ∀ y, X.fn y = true) (hu : X.A.units + 64 < cLine) (k_law_at : Cal κ X "_law_at" 2 m_law_at) (kr_law_hidden : CalR κ X ("_law_hidden" : Str) 5 ρ2 mr_law_hidden) (k_law_free : Cal κ X "_law_free" 5 m_law_free) (k_law_copies : Cal κ X "_law_copies" 1 m_law_copies) (k_fewest_blots : Cal κ X "fewest_blots" 3 m_fewest_blots) (k_law_lists : Cal κ X "_law_lists" 2 m_law_lists) (k_law_rising : Cal κ X "_law_rising" 2 m_law_rising) (kr_law_copies : CalR κ X ("_law_copies" : Str) 1 ρ1 mr_law_copies) (k_law_chain : Cal κ X "_law_chain" 3 m_law_chain) (k_law_no_more : Cal κ X "_law_no_more" 4 m_law_no_more) (b_isinstance : X.mg "isinstance" = none) (b_len : X.mg "len" = none) (b_list : X.mg "list" = none) (b_min : X.mg "min" = none) (b_range : X.mg "range" = none) (b_tuple : X.mg "tuple" = none) : QZs κ B X (defBody (top 19)) F_law := by
 have hnd : X.N.Nodup := by rw [hN]; decide +kernel
 have V0 : VP X 0 "_law_script" := vpl cx hnd hfn hN hsc
 have V1 : VP X 1 "_law_cell" := vpl cx hnd hfn hN hsc
 have V2 : VP X 2 "_law_many" := vpl cx hnd hfn hN hsc
 have V3 : VP X 3 "_law_length" := vpl cx hnd hfn hN hsc
 have V4 : VP X 4 "_law_gap" := vpl cx hnd hfn hN hsc
 have V5 : VP X 5 "_law_rows" := vpc cx hnd hfn hN hsc rfl rfl (by decide) (by decide)
 have V6 : VP X 6 "_law_k" := vpl cx hnd hfn hN hsc
 have V7 : VP X 7 "_law_other" := vpc cx hnd hfn hN hsc rfl rfl (by decide) (by decide)
 have V8 : VP X 8 "_law_handed" := vpl cx hnd hfn hN hsc
 have V9 : VP X 9 "_law_found" := vpl cx hnd hfn hN hsc
 have V10 : VP X 10 "_law_opened" := vpl cx hnd hfn hN hsc
 have hg_law_at : Gl X "_law_at" := glx hsc
 have hg_law_hidden : Gl X "_law_hidden" := glx hsc
 have hg_law_free : Gl X "_law_free" := glx hsc
 have hg_law_copies : Gl X "_law_copies" := glx hsc
 have hg_fewest_blots : Gl X "fewest_blots" := glx hsc
 have hg_law_lists : Gl X "_law_lists" := glx hsc
 have hg_law_rising : Gl X "_law_rising" := glx hsc
 have hg_law_chain : Gl X "_law_chain" := glx hsc
 have hg_law_no_more : Gl X "_law_no_more" := glx hsc
 have hg_isinstance : Gl X "isinstance" := glx hsc
 have hg_len : Gl X "len" := glx hsc
 have hg_list : Gl X "list" := glx hsc
 have hg_min : Gl X "min" := glx hsc
 have hg_range : Gl X "range" := glx hsc
 have hg_tuple : Gl X "tuple" := glx hsc
 refine qpzs_cons (F1 := S_law_0) (F2 := F_law_1) ?_ ?_
 ·exact V1.s (qy_call cx k_law_at rfl hg_law_at (qys_cons (V0.v) (qys_cons (qpx_int) (qpxs_nil) rfl) rfl)) rfl
 refine qpzs_cons (F1 := S_law_1) (F2 := F_law_2) ?_ ?_
 ·exact V2.s (qpx_add ((qpx_int).read) ((qpx_mod ((qpx_div ((V1.v).read) ((qpx_int).read)).read) ((qpx_int).read)).read)) rfl
 refine qpzs_cons (F1 := S_law_2) (F2 := F_law_3) ?_ ?_
 ·exact V3.s (qpx_add ((qpx_int).read) ((qpx_mod ((qy_call cx k_law_at rfl hg_law_at (qys_cons (V0.v) (qys_cons (qpx_int) (qpxs_nil) rfl) rfl)).read) ((qpx_int).read)).read)) rfl
 refine qpzs_cons (F1 := S_law_3) (F2 := F_law_4) ?_ ?_
 ·exact V4.s (qpx_mod ((qy_call cx k_law_at rfl hg_law_at (qys_cons (V0.v) (qys_cons (qpx_int) (qpxs_nil) rfl) rfl)).read) ((qpx_int).read)) rfl
 refine qpzs_cons (F1 := S_law_4) (F2 := F_law_5) ?_ ?_
 ·exact qpz_if cx (qpxt_eq hu ((qpx_mod ((V1.v).read) ((qpx_int).read)).read) ((qpx_int).read) (mark_no rfl)) (qpzs_cons (V2.s (qy_ix ((qpx_lst (qys_cons (qpx_add ((qpx_int).read) ((qpx_mod ((qpx_div ((V1.v).read) ((qpx_int).read)).read) ((qpx_int).read)).read)) (qys_cons (qpx_int) (qpxs_nil) rfl) rfl)).read) ((qpx_mod ((qpx_div ((V1.v).read) ((qpx_int).read)).read) ((qpx_int).read)).read) rfl) rfl) (qpzs_cons (V3.s (qpx_add ((qpx_int).read) ((qpx_mod ((qy_call cx k_law_at rfl hg_law_at (qys_cons (V0.v) (qys_cons (qpx_int) (qpxs_nil) rfl) rfl)).read) ((qpx_int).read)).read)) rfl) (qpzs_one (V4.s (qpx_mod ((qy_call cx k_law_at rfl hg_law_at (qys_cons (V0.v) (qys_cons (qpx_int) (qpxs_nil) rfl) rfl)).read) ((qy_ix ((qpx_lst (qys_cons (qpx_int) (qys_cons (qpx_int) (qpxs_nil) rfl) rfl)).read) ((qpx_mod ((qpx_div ((V1.v).read) ((qpx_int).read)).read) ((qpx_int).read)).read) rfl).read)) rfl)))) (qpzs_nil)
 refine qpzs_cons (F1 := S_law_5) (F2 := F_law_6) ?_ ?_
 ·exact V5.w (qpxf_snd (qpx2_call cx kr_law_hidden rfl hg_law_hidden (qys_cons (V0.v) (qys_cons (qpx_int) (qys_cons (V2.v) (qys_cons (V3.v) (qys_cons (V4.v) (qpxs_nil) rfl) rfl) rfl) rfl) rfl) (by decide) rfl (mlen_cons (mlen_cons (mlen_cons (mlen_cons (mlen_cons (mlen_nil)))))))) rfl
 refine qpzs_cons (F1 := S_law_6) (F2 := F_law_7) ?_ ?_
 ·exact qy_for cx hcalm (qpiz_range3p hg_range b_range (qys_cons (qpx_int) (qys_cons (V2.v) (qys_cons (qpx_add ((qpx_int).read) ((qpx_mod ((qy_call cx k_law_at rfl hg_law_at (qys_cons (V0.v) (qys_cons (qpx_int) (qpxs_nil) rfl) rfl)).read) ((qpx_int).read)).read)) (qpxs_nil) rfl) rfl) rfl) rfl rfl) (λ B => V6.t) (λ B => qpzs_one (V5.pu (qy_sl ((qy_ix (V5.r) ((V6.v).read) rfl).read) (qpxo_some (qpx_int)) (qpxo_none)) (V6.v) rfl (λ _ => rfl))) rfl
 refine qpzs_cons (F1 := S_law_7) (F2 := F_law_8) ?_ ?_
 ·exact V7.s (qy_call cx k_law_free rfl hg_law_free (qys_cons (qy_call cx k_law_at rfl hg_law_at (qys_cons (V0.v) (qys_cons (qpx_int) (qpxs_nil) rfl) rfl)) (qys_cons (qpx_eq hu ((qpx_mod ((qy_call cx k_law_at rfl hg_law_at (qys_cons (V0.v) (qys_cons (qpx_int) (qpxs_nil) rfl) rfl)).read) ((qpx_int).read)).read) ((qpx_int).read) (mark_no rfl)) (qys_cons (V2.v) (qys_cons (V3.v) (qys_cons (V4.v) (qpxs_nil) rfl) rfl) rfl) rfl) rfl)) rfl
 refine qpzs_frz 5 (F := _) ?_
 refine qpzs_cons (F1 := S_law_8) (F2 := F_law_9) ?_ ?_
 ·exact V8.s (qy_call cx k_law_copies rfl hg_law_copies (qys_cons (V5.v) (qpxs_nil) rfl)) rfl
 refine qpzs_cons (F1 := S_law_9) (F2 := F_law_10) ?_ ?_
 ·exact V9.s (qy_call cx k_fewest_blots rfl hg_fewest_blots (qys_cons (V8.v) (qys_cons (V4.v) (qys_cons (V3.v) (qpxs_nil) rfl) rfl) rfl)) rfl
 refine qpzs_frz 5 (F := _) ?_
 refine qpzs_cons (F1 := S_law_10) (F2 := F_law_11) ?_ ?_
 ·exact qpz_if cx ((qpxw_or (qpxt_not (qyt_val ((qy_isinst .tuple (by decide +kernel) hg_isinstance b_isinstance hg_tuple b_tuple (by decide) (by decide) ((V9.v).read) rfl).read) rfl)) (qpxw_or (qpxt_ne hu ((qy_len hg_len b_len ((V9.v).read) rfl).read) ((qpx_int).read) (mark_no rfl)) (qpxw_or1 (qpxt_not (qyt_val ((qy_call cx k_law_lists rfl hg_law_lists (qys_cons (V8.v) (qys_cons (V5.v) (qpxs_nil) rfl) rfl)).read) rfl))))).t) (qpzs_one (qpz_ret cx (qpx_bl))) (qpzs_nil)
 refine qpzs_cons (F1 := S_law_11) (F2 := F_law_12) ?_ ?_
 ·exact qpz_if cx (qpxt_not (qyt_val ((qy_call cx k_law_rising rfl hg_law_rising (qys_cons (qy_ix ((V9.v).read) ((qpx_int).read) rfl) (qys_cons (V2.v) (qpxs_nil) rfl) rfl)).read) rfl)) (qpzs_one (qpz_ret cx (qpx_bl))) (qpzs_nil)
 refine qpzs_frz 5 (F := _) ?_
 refine qpzs_cons (F1 := S_law_12) (F2 := F_law_13) ?_ ?_
 ·exact V10.w (qpxf_call cx kr_law_copies rfl hg_law_copies (qys_cons (V5.v) (qpxs_nil) rfl) (by decide) rfl (mlen_cons (mlen_nil))) rfl
 refine qpzs_cons (F1 := S_law_13) (F2 := F_law_14) ?_ ?_
 ·exact qy_for cx hcalm (qpiz_seq (qy_ix ((V9.v).read) ((qpx_int).read) rfl)) (λ B => V6.t) (λ B => qpzs_one (V10.pu ((qpxf_lrng1 hcalm hg_list b_list hg_range b_range (qys_cons (V3.v) (qpxs_nil) rfl) rfl).px) (V6.v) rfl (λ _ => rfl))) rfl
 refine qpzs_frz 10 (F := _) ?_
 refine qpzs_cons (F1 := S_law_14) (F2 := F_law_15) ?_ ?_
 ·exact qpz_if cx (qpxt_not (qyt_val ((qy_call cx k_law_chain rfl hg_law_chain (qys_cons (qy_ix ((V9.v).read) ((qpx_int).read) rfl) (qys_cons (V10.v) (qys_cons (V4.v) (qpxs_nil) rfl) rfl) rfl)).read) rfl)) (qpzs_one (qpz_ret cx (qpx_bl))) (qpzs_nil)
 refine qpzs_frz 5 (F := _) ?_
 refine qpzs_cons (F1 := S_law_15) (F2 := F_law_16) ?_ ?_
 ·exact qpz_if cx (qpxt_lt ((qy_len hg_len b_len (((qcomp_byG (N0 := [("_law_script" : Str), ("_law_cell" : Str), ("_law_many" : Str), ("_law_length" : Str), ("_law_gap" : Str), ("_law_rows" : Str), ("~6" : Str), ("_law_other" : Str), ("_law_handed" : Str), ("_law_found" : Str), ("_law_opened" : Str)]) (xs := [("_law_k" : Str)]) hcalm ⟨by decide +kernel, rfl, by decide +kernel, (congrArg List.length hN).symm, by rw [hN]; exact compOld (by decide +kernel), by decide +kernel, by rw [hsc]; decide +kernel⟩ (qpicg_of (qpicz_range1 hg_range b_range (qys_cons (V2.v) (qpxs_nil) rfl) rfl)) (by rw [hN]; exact bdOk_name) (λ X' B' hC => by (have cx : Cxo X' := hC.cxo); (have hcalm : X'.calm = true := hC.calm.trans hcalm); (have hu : X'.A.units + 64 < cLine := by rw [hC.A]; exact hu); (have hN' := hC.N); (have tt11 : ∀ {B : Gd} {pos : Pos}, QGz κ B X' (.Name "_law_k" pos) (bN 11) := qpgz_name cx (by rw [hN']; decide +kernel) (by rw [hN']; rfl) (.inl (hC.look rfl (by decide))) (.inr (hC.look rfl (by decide)))); exact tt11) (λ X' B' hC => by (have cx : Cxo X' := hC.cxo); (have hcalm : X'.calm = true := hC.calm.trans hcalm); (have hu : X'.A.units + 64 < cLine := by rw [hC.A]; exact hu); (have hN' := hC.N); (have z5 : ∀ {B : Gd} {pos : Pos}, QX κ B X' (.Name "_law_rows" pos) (mVar 5) := qpx_var 5 (by rw [hN']; rfl) (hC.vis rfl) (by decide) (by decide)); (have z7 : ∀ {B : Gd} {pos : Pos}, QX κ B X' (.Name "_law_other" pos) (mVar 7) := qpx_var 7 (by rw [hN']; rfl) (hC.vis rfl) (by decide) (by decide)); (have z11 : ∀ {B : Gd} {pos : Pos}, QX κ B X' (.Name "_law_k" pos) (mVar 11) := qpx_var 11 (by rw [hN']; rfl) (.inl (hC.look rfl (by decide))) (by decide) (by decide)); exact qpts_one (qpxt_nin hu ((qy_ix ((z7).read) ((z11).read) rfl).read) ((qy_ix ((z5).read) ((z11).read) rfl).read) (mark_no rfl))) (λ X' B' hC => by (have cx : Cxo X' := hC.cxo); (have hcalm : X'.calm = true := hC.calm.trans hcalm); (have hu : X'.A.units + 64 < cLine := by rw [hC.A]; exact hu); (have hN' := hC.N); (have z11 : ∀ {B : Gd} {pos : Pos}, QX κ B X' (.Name "_law_k" pos) (mVar 11) := qpx_var 11 (by rw [hN']; rfl) (.inl (hC.look rfl (by decide))) (by decide) (by decide)); exact z11) rfl).px).read) rfl).read) ((qy_len hg_len b_len ((qy_ix ((V9.v).read) ((qpx_int).read) rfl).read) rfl).read) (mark_no rfl)) (qpzs_one (qpz_ret cx (qpx_bl))) (qpzs_nil)
 refine qpzs_frz 5 (F := _) ?_
 exact qpzs_one (qpz_ret cx (qpx_and (qy_call cx k_law_no_more rfl hg_law_no_more (qys_cons (qy_ix ((V9.v).read) ((qpx_int).read) rfl) (qys_cons (V5.v) (qys_cons (V4.v) (qys_cons (V3.v) (qpxs_nil) rfl) rfl) rfl) rfl)) (qpx_one (qpx_eq hu ((qy_minL hcalm hg_min b_min ((qy_ix ((qy_ix ((V9.v).read) ((qpx_int).read) rfl).read) ((qpx_neg ((qpx_int).read)).read) rfl).read) rfl).read) ((qy_len hg_len b_len ((qy_ix ((V9.v).read) ((qpx_int).read) rfl).read) rfl).read) (mark_no rfl)))))
structure TX (K : PySem.W.Frag) (mg : Str → Option Value) (κ : Nat → Addr) : Prop where
 fn_law_at : FT K mg "_law_at" (top 8) ["_law_script", "_law_k"]
 fn_law_draws : FT K mg "_law_draws" (top 9) ["_law_cell", "_law_mixed", "_law_many", "_law_most"]
 fn_law_hidden : FT K mg "_law_hidden" (top 10) ["_law_script", "_law_at_here", "_law_many", "_law_length", "_law_gap"]
 fn_law_free : FT K mg "_law_free" (top 18) ["_law_cell", "_law_mixed", "_law_many", "_law_length", "_law_gap"]
 fn_law_copies : FT K mg "_law_copies" (top 14) ["_law_rows"]
 fn_own_blots : FT K mg "own_blots" (top 1) ["row", "length"]
 fn_best_ahead : FT K mg "best_ahead" (top 2) ["numbers", "gap"]
 fn_numbers_behind : FT K mg "numbers_behind" (top 3) ["ahead", "row", "gap"]
 fn_fewest_numbers : FT K mg "fewest_numbers" (top 4) ["rows", "gap", "length"]
 fn_days_with_fewest : FT K mg "days_with_fewest" (top 5) ["numbers", "gap"]
 fn_fewest_blots : FT K mg "fewest_blots" (top 6) ["rows", "gap", "length"]
 fn_law_whole : FT K mg "_law_whole" (top 11) ["_law_found"]
 fn_law_list : FT K mg "_law_list" (top 12) ["_law_found", "_law_kept"]
 fn_law_lists : FT K mg "_law_lists" (top 13) ["_law_found", "_law_kept"]
 fn_law_rising : FT K mg "_law_rising" (top 17) ["_law_places", "_law_many"]
 fn_law_chain : FT K mg "_law_chain" (top 15) ["_law_found", "_law_rows", "_law_gap"]
 fn_law_no_more : FT K mg "_law_no_more" (top 16) ["_law_found", "_law_rows", "_law_gap", "_law_length"]
 fn_law : FT K mg "law" (top 19) ["_law_script"]
 b_bool : mg ("bool" : Str) = none
 b_enumerate : mg ("enumerate" : Str) = none
 b_int : mg ("int" : Str) = none
 b_isinstance : mg ("isinstance" : Str) = none
 b_len : mg ("len" : Str) = none
 b_list : mg ("list" : Str) = none
 b_max : mg ("max" : Str) = none
 b_min : mg ("min" : Str) = none
 b_range : mg ("range" : Str) = none
 b_reversed : mg ("reversed" : Str) = none
 b_set : mg ("set" : Str) = none
 b_sorted : mg ("sorted" : Str) = none
 b_tuple : mg ("tuple" : Str) = none
 b_zip : mg ("zip" : Str) = none
section
variable {P : Program} {w : World} {K : PySem.W.Frag} {mg : Str → Option Value} {base : Heap} {κ : Nat → Addr}
theorem ok_law_at (T : TX K mg κ)  : MC P w K mg base κ "_law_at" ["_law_script", "_law_k"] m_law_at 1 := by
 obtain ⟨f, fd, F, hm, hb⟩ := T.fn_law_at
 refine ⟨f, fd, qfn_mirror (k := 0) F s_law_at (λ X B cx hc e1 e2 e3 e4 e5 hN hsc hfn hr hfr => ?_), hm, F.kp, hb, F.at⟩
 subst e1 e2 e3 e4 e5
 exact d_law_at cx hc hN hsc hfn hr.units T.b_len
theorem ok_law_draws (T : TX K mg κ)  : MC P w K mg base κ "_law_draws" ["_law_cell", "_law_mixed", "_law_many", "_law_most"] m_law_draws 1 := by
 obtain ⟨f, fd, F, hm, hb⟩ := T.fn_law_draws
 refine ⟨f, fd, qfn_mirror (k := 0) F s_law_draws (λ X B cx hc e1 e2 e3 e4 e5 hN hsc hfn hr hfr => ?_), hm, F.kp, hb, F.at⟩
 subst e1 e2 e3 e4 e5
 exact d_law_draws cx hc hN hsc hfn hr.units T.b_range
theorem okr_law_hidden (T : TX K mg κ) (o_law_at : MC P w K mg base κ "_law_at" [("_law_script" : Str), ("_law_k" : Str)] m_law_at 1) (o_law_draws : MC P w K mg base κ "_law_draws" [("_law_cell" : Str), ("_law_mixed" : Str), ("_law_many" : Str), ("_law_most" : Str)] m_law_draws 1) : MCR P w K mg base κ "_law_hidden" [("_law_script" : Str), ("_law_at_here" : Str), ("_law_many" : Str), ("_law_length" : Str), ("_law_gap" : Str)] ρ2 mr_law_hidden 2 := by
 obtain ⟨f, fd, F, hm, hb⟩ := T.fn_law_hidden
 refine ⟨f, fd, qfn_mirrorR (k := 1) F s_law_hidden (λ X B cx hc e1 e2 e3 e4 e5 hN hsc hfn hr hfr => ?_), hm, F.kp, hb, F.at⟩
 subst e1 e2 e3 e4 e5
 exact d_law_hidden cx hc hN hsc hfn hr.units (o_law_at.cal hr (by decide)) (o_law_draws.cal hr (by decide)) T.b_int T.b_min T.b_range T.b_set T.b_sorted
theorem ok_law_free (T : TX K mg κ) (o_law_draws : MC P w K mg base κ "_law_draws" ["_law_cell", "_law_mixed", "_law_many", "_law_most"] m_law_draws 1) : MC P w K mg base κ "_law_free" ["_law_cell", "_law_mixed", "_law_many", "_law_length", "_law_gap"] m_law_free 2 := by
 obtain ⟨f, fd, F, hm, hb⟩ := T.fn_law_free
 refine ⟨f, fd, qfn_mirror (k := 1) F s_law_free (λ X B cx hc e1 e2 e3 e4 e5 hN hsc hfn hr hfr => ?_), hm, F.kp, hb, F.at⟩
 subst e1 e2 e3 e4 e5
 exact d_law_free cx hc hN hsc hfn hr.units (o_law_draws.cal hr (by decide))
theorem okr_law_copies (T : TX K mg κ)  : MCR P w K mg base κ "_law_copies" [("_law_rows" : Str)] ρ1 mr_law_copies 1 := by
 obtain ⟨f, fd, F, hm, hb⟩ := T.fn_law_copies
 refine ⟨f, fd, qfn_mirrorR (k := 0) F s_law_copies (λ X B cx hc e1 e2 e3 e4 e5 hN hsc hfn hr hfr => ?_), hm, F.kp, hb, F.at⟩
 subst e1 e2 e3 e4 e5
 exact d_law_copies cx hc hN hsc hfn hr.units T.b_list
theorem ok_own_blots (T : TX K mg κ)  : MC P w K mg base κ "own_blots" ["row", "length"] m_own_blots 1 := by
 obtain ⟨f, fd, F, hm, hb⟩ := T.fn_own_blots
 refine ⟨f, fd, qfn_mirror (k := 0) F s_own_blots (λ X B cx hc e1 e2 e3 e4 e5 hN hsc hfn hr hfr => ?_), hm, F.kp, hb, F.at⟩
 subst e1 e2 e3 e4 e5
 exact d_own_blots cx hc hN hsc hfn hr.units T.b_range
theorem ok_best_ahead (T : TX K mg κ)  : MC P w K mg base κ "best_ahead" ["numbers", "gap"] m_best_ahead 1 := by
 obtain ⟨f, fd, F, hm, hb⟩ := T.fn_best_ahead
 refine ⟨f, fd, qfn_mirror (k := 0) F s_best_ahead (λ X B cx hc e1 e2 e3 e4 e5 hN hsc hfn hr hfr => ?_), hm, F.kp, hb, F.at⟩
 subst e1 e2 e3 e4 e5
 exact d_best_ahead cx hc hN hsc hfn hr.units T.b_enumerate T.b_len
theorem ok_numbers_behind (T : TX K mg κ) (o_own_blots : MC P w K mg base κ "own_blots" ["row", "length"] m_own_blots 1) (o_best_ahead : MC P w K mg base κ "best_ahead" ["numbers", "gap"] m_best_ahead 1) : MC P w K mg base κ "numbers_behind" ["ahead", "row", "gap"] m_numbers_behind 2 := by
 obtain ⟨f, fd, F, hm, hb⟩ := T.fn_numbers_behind
 refine ⟨f, fd, qfn_mirror (k := 1) F s_numbers_behind (λ X B cx hc e1 e2 e3 e4 e5 hN hsc hfn hr hfr => ?_), hm, F.kp, hb, F.at⟩
 subst e1 e2 e3 e4 e5
 exact d_numbers_behind cx hc hN hsc hfn hr.units (o_own_blots.cal hr (by decide)) (o_best_ahead.cal hr (by decide)) T.b_len T.b_zip
theorem ok_fewest_numbers (T : TX K mg κ) (o_own_blots : MC P w K mg base κ "own_blots" ["row", "length"] m_own_blots 1) (o_numbers_behind : MC P w K mg base κ "numbers_behind" ["ahead", "row", "gap"] m_numbers_behind 2) : MC P w K mg base κ "fewest_numbers" ["rows", "gap", "length"] m_fewest_numbers 3 := by
 obtain ⟨f, fd, F, hm, hb⟩ := T.fn_fewest_numbers
 refine ⟨f, fd, qfn_mirror (k := 2) F s_fewest_numbers (λ X B cx hc e1 e2 e3 e4 e5 hN hsc hfn hr hfr => ?_), hm, F.kp, hb, F.at⟩
 subst e1 e2 e3 e4 e5
 exact d_fewest_numbers cx hc hN hsc hfn hr.units (o_own_blots.cal hr (by decide)) (o_numbers_behind.cal hr (by decide))
theorem ok_days_with_fewest (T : TX K mg κ) (o_best_ahead : MC P w K mg base κ "best_ahead" ["numbers", "gap"] m_best_ahead 1) : MC P w K mg base κ "days_with_fewest" ["numbers", "gap"] m_days_with_fewest 2 := by
 obtain ⟨f, fd, F, hm, hb⟩ := T.fn_days_with_fewest
 refine ⟨f, fd, qfn_mirror (k := 1) F s_days_with_fewest (λ X B cx hc e1 e2 e3 e4 e5 hN hsc hfn hr hfr => ?_), hm, F.kp, hb, F.at⟩
 subst e1 e2 e3 e4 e5
 exact d_days_with_fewest cx hc hN hsc hfn hr.units (o_best_ahead.cal hr (by decide)) T.b_min T.b_reversed
theorem ok_fewest_blots (T : TX K mg κ) (o_fewest_numbers : MC P w K mg base κ "fewest_numbers" ["rows", "gap", "length"] m_fewest_numbers 3) (o_days_with_fewest : MC P w K mg base κ "days_with_fewest" ["numbers", "gap"] m_days_with_fewest 2) : MC P w K mg base κ "fewest_blots" ["rows", "gap", "length"] m_fewest_blots 4 := by
 obtain ⟨f, fd, F, hm, hb⟩ := T.fn_fewest_blots
 refine ⟨f, fd, qfn_mirror (k := 3) F s_fewest_blots (λ X B cx hc e1 e2 e3 e4 e5 hN hsc hfn hr hfr => ?_), hm, F.kp, hb, F.at⟩
 subst e1 e2 e3 e4 e5
 exact d_fewest_blots cx hc hN hsc hfn hr.units (o_fewest_numbers.cal hr (by decide)) (o_days_with_fewest.cal hr (by decide)) T.b_enumerate
theorem ok_law_whole (T : TX K mg κ)  : MC P w K mg base κ "_law_whole" ["_law_found"] m_law_whole 1 := by
 obtain ⟨f, fd, F, hm, hb⟩ := T.fn_law_whole
 refine ⟨f, fd, qfn_mirror (k := 0) F s_law_whole (λ X B cx hc e1 e2 e3 e4 e5 hN hsc hfn hr hfr => ?_), hm, F.kp, hb, F.at⟩
 subst e1 e2 e3 e4 e5
 exact d_law_whole cx hc hN hsc hfn hr.units T.b_bool T.b_int T.b_isinstance
theorem ok_law_list (T : TX K mg κ) (o_law_whole : MC P w K mg base κ "_law_whole" ["_law_found"] m_law_whole 1) : MC P w K mg base κ "_law_list" ["_law_found", "_law_kept"] m_law_list 2 := by
 obtain ⟨f, fd, F, hm, hb⟩ := T.fn_law_list
 refine ⟨f, fd, qfn_mirror (k := 1) F s_law_list (λ X B cx hc e1 e2 e3 e4 e5 hN hsc hfn hr hfr => ?_), hm, F.kp, hb, F.at⟩
 subst e1 e2 e3 e4 e5
 exact d_law_list cx hc hN hsc hfn hr.units (o_law_whole.cal hr (by decide)) T.b_isinstance T.b_len T.b_list T.b_range
theorem ok_law_lists (T : TX K mg κ) (o_law_list : MC P w K mg base κ "_law_list" ["_law_found", "_law_kept"] m_law_list 2) : MC P w K mg base κ "_law_lists" ["_law_found", "_law_kept"] m_law_lists 3 := by
 obtain ⟨f, fd, F, hm, hb⟩ := T.fn_law_lists
 refine ⟨f, fd, qfn_mirror (k := 2) F s_law_lists (λ X B cx hc e1 e2 e3 e4 e5 hN hsc hfn hr hfr => ?_), hm, F.kp, hb, F.at⟩
 subst e1 e2 e3 e4 e5
 exact d_law_lists cx hc hN hsc hfn hr.units (o_law_list.cal hr (by decide)) T.b_isinstance T.b_len T.b_list T.b_range
theorem ok_law_rising (T : TX K mg κ) (o_law_whole : MC P w K mg base κ "_law_whole" ["_law_found"] m_law_whole 1) : MC P w K mg base κ "_law_rising" ["_law_places", "_law_many"] m_law_rising 2 := by
 obtain ⟨f, fd, F, hm, hb⟩ := T.fn_law_rising
 refine ⟨f, fd, qfn_mirror (k := 1) F s_law_rising (λ X B cx hc e1 e2 e3 e4 e5 hN hsc hfn hr hfr => ?_), hm, F.kp, hb, F.at⟩
 subst e1 e2 e3 e4 e5
 exact d_law_rising cx hc hN hsc hfn hr.units (o_law_whole.cal hr (by decide)) T.b_isinstance T.b_len T.b_list T.b_range
theorem ok_law_chain (T : TX K mg κ) (o_law_whole : MC P w K mg base κ "_law_whole" ["_law_found"] m_law_whole 1) : MC P w K mg base κ "_law_chain" ["_law_found", "_law_rows", "_law_gap"] m_law_chain 2 := by
 obtain ⟨f, fd, F, hm, hb⟩ := T.fn_law_chain
 refine ⟨f, fd, qfn_mirror (k := 1) F s_law_chain (λ X B cx hc e1 e2 e3 e4 e5 hN hsc hfn hr hfr => ?_), hm, F.kp, hb, F.at⟩
 subst e1 e2 e3 e4 e5
 exact d_law_chain cx hc hN hsc hfn hr.units (o_law_whole.cal hr (by decide)) T.b_isinstance T.b_len T.b_list T.b_range
theorem ok_law_no_more (T : TX K mg κ) (o_law_whole : MC P w K mg base κ "_law_whole" ["_law_found"] m_law_whole 1) : MC P w K mg base κ "_law_no_more" ["_law_found", "_law_rows", "_law_gap", "_law_length"] m_law_no_more 2 := by
 obtain ⟨f, fd, F, hm, hb⟩ := T.fn_law_no_more
 refine ⟨f, fd, qfn_mirror (k := 1) F s_law_no_more (λ X B cx hc e1 e2 e3 e4 e5 hN hsc hfn hr hfr => ?_), hm, F.kp, hb, F.at⟩
 subst e1 e2 e3 e4 e5
 exact d_law_no_more cx hc hN hsc hfn hr.units (o_law_whole.cal hr (by decide)) T.b_int T.b_isinstance T.b_len T.b_list T.b_max T.b_range
theorem ok_law (T : TX K mg κ) (o_law_at : MC P w K mg base κ "_law_at" ["_law_script", "_law_k"] m_law_at 1) (or_law_hidden : MCR P w K mg base κ "_law_hidden" ["_law_script", "_law_at_here", "_law_many", "_law_length", "_law_gap"] ρ2 mr_law_hidden 2) (o_law_free : MC P w K mg base κ "_law_free" ["_law_cell", "_law_mixed", "_law_many", "_law_length", "_law_gap"] m_law_free 2) (o_law_copies : MC P w K mg base κ "_law_copies" ["_law_rows"] m_law_copies 1) (o_fewest_blots : MC P w K mg base κ "fewest_blots" ["rows", "gap", "length"] m_fewest_blots 4) (o_law_lists : MC P w K mg base κ "_law_lists" ["_law_found", "_law_kept"] m_law_lists 3) (o_law_rising : MC P w K mg base κ "_law_rising" ["_law_places", "_law_many"] m_law_rising 2) (or_law_copies : MCR P w K mg base κ "_law_copies" ["_law_rows"] ρ1 mr_law_copies 1) (o_law_chain : MC P w K mg base κ "_law_chain" ["_law_found", "_law_rows", "_law_gap"] m_law_chain 2) (o_law_no_more : MC P w K mg base κ "_law_no_more" ["_law_found", "_law_rows", "_law_gap", "_law_length"] m_law_no_more 2) : MC P w K mg base κ "law" ["_law_script"] m_law 5 := by
 obtain ⟨f, fd, F, hm, hb⟩ := T.fn_law
 refine ⟨f, fd, qfn_mirror (k := 4) F s_law (λ X B cx hc e1 e2 e3 e4 e5 hN hsc hfn hr hfr => ?_), hm, F.kp, hb, F.at⟩
 subst e1 e2 e3 e4 e5
 exact d_law cx hc hN hsc hfn hr.units (o_law_at.cal hr (by decide)) (or_law_hidden.cal hr (by decide)) (o_law_free.cal hr (by decide)) (o_law_copies.cal hr (by decide)) (o_fewest_blots.cal hr (by decide)) (o_law_lists.cal hr (by decide)) (o_law_rising.cal hr (by decide)) (or_law_copies.cal hr (by decide)) (o_law_chain.cal hr (by decide)) (o_law_no_more.cal hr (by decide)) T.b_isinstance T.b_len T.b_list T.b_min T.b_range T.b_tuple
end
def spLaw (K : PySem.W.Frag) : Sp := λ vs H Q _ => ∃ (a : Addr) (ns : List Int), vs = [.ref a] ∧ SqL K H a (ns.map V.int) ∧ ns.length ≤ 63 ∧ ∀ H', Q (.bl true) H'
theorem all_mk {l : PySem.W.OpenLaw} {w : World} {K : PySem.W.Frag} {h : Heap} {mg : Str → Option Value} {fa : Addr} (main : ∀ ns : List Int, ns.length ≤ 63 → m_law [.lst (ns.map D.int)] = .ok (.bl true)) (X : K.In h) (G : h.Ns mainGlobals mg) (hfa : mg "law" = some (.ref fa))
  {f_law : Addr} {oc_law kV_law dc_law pm_law cd_law ct_law : Value} {od_law an_law : Option Addr} {sl_law : Array (Option Value)}
  (f_law_at : FF K ("_law_at" : Str) (top 8))
  (f_law_draws : FF K ("_law_draws" : Str) (top 9))
  (f_law_hidden : FF K ("_law_hidden" : Str) (top 10))
  (f_law_free : FF K ("_law_free" : Str) (top 18))
  (f_law_copies : FF K ("_law_copies" : Str) (top 14))
  (f_own_blots : FF K ("own_blots" : Str) (top 1))
  (f_best_ahead : FF K ("best_ahead" : Str) (top 2))
  (f_numbers_behind : FF K ("numbers_behind" : Str) (top 3))
  (f_fewest_numbers : FF K ("fewest_numbers" : Str) (top 4))
  (f_days_with_fewest : FF K ("days_with_fewest" : Str) (top 5))
  (f_fewest_blots : FF K ("fewest_blots" : Str) (top 6))
  (f_law_whole : FF K ("_law_whole" : Str) (top 11))
  (f_law_list : FF K ("_law_list" : Str) (top 12))
  (f_law_lists : FF K ("_law_lists" : Str) (top 13))
  (f_law_rising : FF K ("_law_rising" : Str) (top 17))
  (f_law_chain : FF K ("_law_chain" : Str) (top 15))
  (f_law_no_more : FF K ("_law_no_more" : Str) (top 16))
  (a_law : PySem.W.nsIn K mainGlobals ("law" : Str) = some (some (.ref f_law)))
  (l_law : K.lookup f_law = some ⟨oc_law, od_law, .func (PySem.W.fnOf ("law" : Str) ("law" : Str) (defArgs (top 19)) (defBody (top 19)) (defScope (top 19)) .none kV_law dc_law pm_law an_law cd_law ct_law), sl_law⟩)
  (d_law : PySem.W.codeIn K cd_law ("law" : Str) = true)
  (p_law : PySem.W.keepIn K (.ref f_law) = true)
  (a_bool : PySem.W.nsIn K mainGlobals ("bool" : Str) = some none)
  (a_enumerate : PySem.W.nsIn K mainGlobals ("enumerate" : Str) = some none)
  (a_int : PySem.W.nsIn K mainGlobals ("int" : Str) = some none)
  (a_isinstance : PySem.W.nsIn K mainGlobals ("isinstance" : Str) = some none)
  (a_len : PySem.W.nsIn K mainGlobals ("len" : Str) = some none)
  (a_list : PySem.W.nsIn K mainGlobals ("list" : Str) = some none)
  (a_max : PySem.W.nsIn K mainGlobals ("max" : Str) = some none)
  (a_min : PySem.W.nsIn K mainGlobals ("min" : Str) = some none)
  (a_range : PySem.W.nsIn K mainGlobals ("range" : Str) = some none)
  (a_reversed : PySem.W.nsIn K mainGlobals ("reversed" : Str) = some none)
  (a_set : PySem.W.nsIn K mainGlobals ("set" : Str) = some none)
  (a_sorted : PySem.W.nsIn K mainGlobals ("sorted" : Str) = some none)
  (a_tuple : PySem.W.nsIn K mainGlobals ("tuple" : Str) = some none)
  (a_zip : PySem.W.nsIn K mainGlobals ("zip" : Str) = some none)
  : ∃ fd : FuncData, (∀ (s : Shared) (v : Value), BindsTo s fd ⟨[v], []⟩ [(("_law_script" : Str), v)]) ∧ ∀ base : Heap, K.In base → base.Ns mainGlobals mg → FnOk l.prog w K mg base (CXR l.prog w) 5 fa fd [("_law_script" : Str)] (spLaw K) := by
 have T : TX K mg (λ n : Nat => 0) := ⟨f_law_at.ft X G λ _ _ _ _ _ _ us hl => match us, hl with | [_, _], _ => rfl, f_law_draws.ft X G λ _ _ _ _ _ _ us hl => match us, hl with | [_, _, _, _], _ => rfl, f_law_hidden.ft X G λ _ _ _ _ _ _ us hl => match us, hl with | [_, _, _, _, _], _ => rfl, f_law_free.ft X G λ _ _ _ _ _ _ us hl => match us, hl with | [_, _, _, _, _], _ => rfl, f_law_copies.ft X G λ _ _ _ _ _ _ us hl => match us, hl with | [_], _ => rfl, f_own_blots.ft X G λ _ _ _ _ _ _ us hl => match us, hl with | [_, _], _ => rfl, f_best_ahead.ft X G λ _ _ _ _ _ _ us hl => match us, hl with | [_, _], _ => rfl, f_numbers_behind.ft X G λ _ _ _ _ _ _ us hl => match us, hl with | [_, _, _], _ => rfl, f_fewest_numbers.ft X G λ _ _ _ _ _ _ us hl => match us, hl with | [_, _, _], _ => rfl, f_days_with_fewest.ft X G λ _ _ _ _ _ _ us hl => match us, hl with | [_, _], _ => rfl, f_fewest_blots.ft X G λ _ _ _ _ _ _ us hl => match us, hl with | [_, _, _], _ => rfl, f_law_whole.ft X G λ _ _ _ _ _ _ us hl => match us, hl with | [_], _ => rfl, f_law_list.ft X G λ _ _ _ _ _ _ us hl => match us, hl with | [_, _], _ => rfl, f_law_lists.ft X G λ _ _ _ _ _ _ us hl => match us, hl with | [_, _], _ => rfl, f_law_rising.ft X G λ _ _ _ _ _ _ us hl => match us, hl with | [_, _], _ => rfl, f_law_chain.ft X G λ _ _ _ _ _ _ us hl => match us, hl with | [_, _, _], _ => rfl, f_law_no_more.ft X G λ _ _ _ _ _ _ us hl => match us, hl with | [_, _, _, _], _ => rfl, ⟨_, _, fun_mk (st := (top 19)) l_law d_law p_law, PySem.W.mg_of X G a_law, (fun_mk (st := (top 19)) l_law d_law p_law).binds (ps := [("_law_script" : Str)]) λ _ _ _ _ _ _ us hl => match us, hl with | [_], _ => rfl⟩, PySem.W.mg_none_of X G a_bool, PySem.W.mg_none_of X G a_enumerate, PySem.W.mg_none_of X G a_int, PySem.W.mg_none_of X G a_isinstance, PySem.W.mg_none_of X G a_len, PySem.W.mg_none_of X G a_list, PySem.W.mg_none_of X G a_max, PySem.W.mg_none_of X G a_min, PySem.W.mg_none_of X G a_range, PySem.W.mg_none_of X G a_reversed, PySem.W.mg_none_of X G a_set, PySem.W.mg_none_of X G a_sorted, PySem.W.mg_none_of X G a_tuple, PySem.W.mg_none_of X G a_zip⟩
 have e := hfa.symm.trans (PySem.W.mg_of X G a_law)
 cases e
 refine ⟨PySem.W.fnOf "law" "law" (defArgs (top 19)) (defBody (top 19)) (defScope (top 19)) .none kV_law dc_law pm_law an_law cd_law ct_law, λ s v => .of_eq rfl, λ base _ _ => ?_⟩
 have o_law_at := ok_law_at (P := l.prog) (w := w) (base := base) T
 have o_law_draws := ok_law_draws (P := l.prog) (w := w) (base := base) T
 have or_law_hidden := okr_law_hidden (P := l.prog) (w := w) (base := base) T o_law_at o_law_draws
 have o_law_free := ok_law_free (P := l.prog) (w := w) (base := base) T o_law_draws
 have or_law_copies := okr_law_copies (P := l.prog) (w := w) (base := base) T
 have o_law_copies : MC l.prog w K mg base _ ("_law_copies" : Str) [("_law_rows" : Str)] m_law_copies 1 := or_law_copies.mc
 have o_own_blots := ok_own_blots (P := l.prog) (w := w) (base := base) T
 have o_best_ahead := ok_best_ahead (P := l.prog) (w := w) (base := base) T
 have o_numbers_behind := ok_numbers_behind (P := l.prog) (w := w) (base := base) T o_own_blots o_best_ahead
 have o_fewest_numbers := ok_fewest_numbers (P := l.prog) (w := w) (base := base) T o_own_blots o_numbers_behind
 have o_days_with_fewest := ok_days_with_fewest (P := l.prog) (w := w) (base := base) T o_best_ahead
 have o_fewest_blots := ok_fewest_blots (P := l.prog) (w := w) (base := base) T o_fewest_numbers o_days_with_fewest
 have o_law_whole := ok_law_whole (P := l.prog) (w := w) (base := base) T
 have o_law_list := ok_law_list (P := l.prog) (w := w) (base := base) T o_law_whole
 have o_law_lists := ok_law_lists (P := l.prog) (w := w) (base := base) T o_law_list
 have o_law_rising := ok_law_rising (P := l.prog) (w := w) (base := base) T o_law_whole
 have o_law_chain := ok_law_chain (P := l.prog) (w := w) (base := base) T o_law_whole
 have o_law_no_more := ok_law_no_more (P := l.prog) (w := w) (base := base) T o_law_whole
 have o_law := ok_law (P := l.prog) (w := w) (base := base) T o_law_at or_law_hidden o_law_free o_law_copies o_fewest_blots o_law_lists o_law_rising or_law_copies o_law_chain o_law_no_more
 have FL := fun_mk (st := top 19) l_law d_law p_law
 exact law_fn (PySem.W.mg_of X G a_law) l_law o_law main
theorem walk {l : PySem.W.OpenLaw} {q : Program} {loose : List Str} {XP : (Str → Option Value) → Heap → Prop} {YP : World → Heap → Prop} {d : DefRec} {K : Params → PySem.W.Frag} (hn : l.most = some 63) (hdf : d.params.defaults = [])
  (hY : ∀ (w : World) (h : Heap), YP w h → (K w.params).In h)
  (F : ∀ (w : World) (mg : Str → Option Value) (fa : Addr) (h : Heap), (K w.params).In h → h.Ns mainGlobals mg → mg d.name = some (.ref fa) →
   ∃ fd : FuncData, (∀ (s : Shared) (u : Value), BindsTo s fd ⟨[u], []⟩ [(("_law_script" : Str), u)]) ∧ ∀ base : Heap, (K w.params).In base → base.Ns mainGlobals mg → FnOk l.prog w (K w.params) mg base (CXR l.prog w) 5 fa fd [("_law_script" : Str)] (spLaw (K w.params))) :
  PySem.W.WalkO q loose XP YP l.row.toRowW d [] (λ f vs => PySem.call f vs) :=
 L2.walk_of (n := 63) (k := 5) (x := ("_law_script" : Str)) (CX := λ w => CXR l.prog w) (sp := λ w => spLaw (K w.params)) hn (by decide) hdf ⟨rfl, by decide, by decide⟩ hY F (λ _ _ a ns hl _ hS => ⟨a, ns, rfl, hS, hl, λ _ => rfl⟩) λ _ _ _ _ _ z => by obtain ⟨_, _, _, _, _, _, _, _, _, _, z⟩ := z; exact z
end Lw
namespace Lw
open PySem L2 L3
local macro_rules | `(tactic| simp_arith [$ls,*]) => `(tactic| simp -implicitDefEqProofs only [e_zSet, e_zIf, e_zRet, e_zOwn, e_zApp, e_zDrop, e_zAsg, e_mCall, e_mCons, e_mVar, e_mVarR, e_m2, e_m2t, e_m1, e_mC, e_mNil, e_mAnd, e_mOr, e_mNot, e_mT, e_mLst0, e_mLst1, e_mLst2, e_mLst4, e_mLstC3, e_mCB, e_mTup2, e_mTup3, e_mIf, e_bN, e_mAndV, e_mOrV, e_mNotV, e_mL, e_mSl, e_mP, e_mNoP, List.getElem?_cons_succ, List.getElem?_cons_zero, List.set_cons_zero, List.set_cons_succ, R.bind_ok, bS_ok, oAdd_int, oSub_int, oLt_int, oLe_int, oGt_int, oGe_int, oNeg_int, oLen_lst, oLen_tup, tru_bl, boolD_bl, blR_ok, op2_int_eq, op2_int_ne, op2_int_lt, op2_int_le, op2_int_gt, op2_int_ge, itemsD_lst, if_true, Bool.false_eq_true, if_false, decide_true, decide_false, List.length_map, $ls,*])
theorem at_eq (ns : List Int) (k : Nat) : m_law_at [.lst (ns.map D.int), .int (k : Int)] = .ok (.int (cell ns k)) := by
 unfold m_law_at F_law_at startE cell
 by_cases h : k < ns.length
 ·have e : atI (ns.map D.int) (k : Int) = some (D.int (ns.getD k 0)) := atI_some (by simp [h])
  have h' : (k : Int) < (ns.length : Int) := by omega
  simp [zSeq, oIx_lst e, h']
 ·have h' : ¬ (k : Int) < (ns.length : Int) := by omega
  simp [zSeq, F_law_at_1, h', List.getElem?_eq_none (Nat.le_of_not_lt h)]
theorem whole_eq (i : Int) : m_law_whole [.int i] = .ok (.bl true) := by
 simp [m_law_whole, F_law_whole, startE, isTy]
def Up (r : List Int) : Prop := r.Pairwise (· ≤ ·)
theorem Up.nil : Up [] := List.Pairwise.nil
theorem Up.one (x : Int) : Up [x] := List.pairwise_singleton ..
def hd1 (d g : Int) : List Int → Bool
 | [] => false
 | h :: _ => decide (h - d ≤ g)
theorem compZ_map {t : Ev → R Bool} {f : Ev → R D} {δ : Ev} {p : D → Bool} {g : D → D} : ∀ {ds : List D}, (∀ d ∈ ds, t (δ ++ [some (.sh d)]) = .ok (p d)) → (∀ d ∈ ds, p d = true → f (δ ++ [some (.sh d)]) = .ok (g d)) → compZ t f δ ds = .ok ((ds.filter p).map g)
 | [], _, _ => rfl
 | d :: ds, h1, h2 => by
  unfold compZ
  rw [h1 d List.mem_cons_self, compZ_map (λ e he => h1 e (List.mem_cons_of_mem _ he)) (λ e he => h2 e (List.mem_cons_of_mem _ he))]
  cases c : p d with
  | false => simp [c]
  | true => simp [c, h2 d List.mem_cons_self c]
theorem copies_r (rs : List (List Int)) (h : rs.length ≤ 1000000) : mr_law_copies [rowsD rs] = .ok (rs.map rowD) := by
 unfold mr_law_copies F_law_copies
 have := compZ_map (t := λ _ => .ok true) (f := mL (λ δ => ((mVar 1) δ).bind itemsD)) (δ := [some (.sh (rowsD rs))]) (p := λ _ => true) (g := λ d => d) (ds := rs.map rowD) (λ _ _ => rfl) (λ d hd _ => by
  obtain ⟨r, _, rfl⟩ := List.mem_map.mp hd
  simp)
 have e : mComp (λ δ => ((mVar 0) δ).bind itemsD) (λ _ => .ok true) (mL (λ δ => ((mVar 1) δ).bind itemsD)) (startE 1 [rowsD rs]) = .ok (rs.map rowD) := by
  have e0 : startE 1 [rowsD rs] = [some (.sh (rowsD rs))] := rfl
  have e1 : ((mVar 0) [some (.sh (rowsD rs))]).bind itemsD = .ok (rs.map rowD) := rfl
  have e2 : shE [some (.sh (rowsD rs))] = [some (.sh (rowsD rs))] := rfl
  rw [e0]
  unfold mComp
  dsimp only
  rw [e1, R.bind_ok, e2, this, if_pos (by simpa using h)]
  simp [noX]
 rw [e]
 rfl
theorem copies_eq (rs : List (List Int)) (h : rs.length ≤ 1000000) : m_law_copies [rowsD rs] = .ok (rowsD rs) := by
 unfold m_law_copies mF
 rw [copies_r rs h]
 rfl
theorem list_eq (r : List Int) (h : r.length < 1000000) : m_law_list [rowD r, rowD r] = .ok (.bl true) := by
 unfold m_law_list F_law_list
 rw [zSeq_next (δ' := [some (.sh (rowD r)), some (.sh (rowD r)), none]) (by simp [S_law_list_0, startE, isTy])]
 obtain ⟨δ', e, x2, h3⟩ := zFor_next (fit := λ δ => ((mCons (m1 oLen (mVar 1)) (mNil)) δ).bind iR1) (bd := bN 2) (F := L_law_list_1) (δ := [some (.sh (rowD r)), some (.sh (rowD r)), none]) (ds := rngD 0 r.length)
  (λ k δ => ∃ x2, δ = [some (.sh (rowD r)), some (.sh (rowD r)), x2]) (fit1_len rfl (List.length_map _) (by omega)) ⟨none, rfl⟩ (by
   rintro k d δ hd ⟨x2, rfl⟩
   obtain ⟨rfl, hk⟩ := rngD_get hd
   have hk' : k < r.length := by omega
   have hix : oIx (rowD r) (.int (k : Int)) = .ok (.int r[k]) := oIx_row (by simp [hk'])
   refine ⟨[some (.sh (rowD r)), some (.sh (rowD r)), some (.sh (.int (0 + k)))], [some (.sh (rowD r)), some (.sh (rowD r)), some (.sh (.int (0 + k)))], rfl, .inl ?_, _, rfl⟩
   unfold L_law_list_1
   simp only [e_zIf, e_mOr, e_mNot, e_mT, e_mCall, e_mCons, e_m2, e_m2t, e_mVar, e_mNil, List.getElem?_cons_succ, List.getElem?_cons_zero, R.bind_ok, Int.zero_add, hix, whole_eq]
   simp)
 unfold F_law_list_1 S_law_list_1
 rw [zSeq_next e, h3]
 simp [F_law_list_2, S_law_list_2]
theorem lists_eq (rs : List (List Int)) (h : rs.length < 1000000) (h2 : ∀ r ∈ rs, r.length < 1000000) : m_law_lists [rowsD rs, rowsD rs] = .ok (.bl true) := by
 unfold m_law_lists F_law_lists
 rw [zSeq_next (δ' := [some (.sh (rowsD rs)), some (.sh (rowsD rs)), none]) (by simp [S_law_lists_0, startE, isTy])]
 obtain ⟨δ', e, x2, h3⟩ := zFor_next (fit := λ δ => ((mCons (m1 oLen (mVar 1)) (mNil)) δ).bind iR1) (bd := bN 2) (F := L_law_lists_1) (δ := [some (.sh (rowsD rs)), some (.sh (rowsD rs)), none]) (ds := rngD 0 rs.length)
  (λ k δ => ∃ x2, δ = [some (.sh (rowsD rs)), some (.sh (rowsD rs)), x2]) (fit1_len rfl (List.length_map _) (by omega)) ⟨none, rfl⟩ (by
   rintro k d δ hd ⟨x2, rfl⟩
   obtain ⟨rfl, hk⟩ := rngD_get hd
   have hk' : k < rs.length := by omega
   have hix : oIx (rowsD rs) (.int (k : Int)) = .ok (rowD rs[k]) := oIx_rows (by simp [hk'])
   refine ⟨[some (.sh (rowsD rs)), some (.sh (rowsD rs)), some (.sh (.int (0 + k)))], [some (.sh (rowsD rs)), some (.sh (rowsD rs)), some (.sh (.int (0 + k)))], rfl, .inl ?_, _, rfl⟩
   unfold L_law_lists_1
   simp only [e_zIf, e_mOr, e_mNot, e_mT, e_mCall, e_mCons, e_m2, e_m2t, e_mVar, e_mNil, List.getElem?_cons_succ, List.getElem?_cons_zero, R.bind_ok, Int.zero_add, hix, list_eq _ (h2 _ (List.getElem_mem hk'))]
   simp)
 unfold F_law_lists_1 S_law_lists_1
 rw [zSeq_next e, h3]
 simp [F_law_lists_2, S_law_lists_2]
theorem draws_eq (c : Int) (mx : Bool) {n m : Nat} (hn : n ≤ 1000) (hm : 0 < m) (hm2 : m ≤ 1000) : ∃ ps : List Int, m_law_draws [.int c, .bl mx, .int n, .int m] = .ok (rowD ps) ∧ ps.length = n ∧ ∀ x ∈ ps, 0 ≤ x ∧ x < m := by
 unfold m_law_draws F_law_draws
 rw [zSeq_next (δ' := [some (.sh (.int c)), some (.sh (.bl mx)), some (.sh (.int n)), some (.sh (.int m)), some (.ow []), none, none]) (by simp [S_law_draws_0, startE, lim])]
 unfold F_law_draws_1
 rw [zSeq_next (δ' := [some (.sh (.int c)), some (.sh (.bl mx)), some (.sh (.int n)), some (.sh (.int m)), some (.ow []), some (.sh (.int c)), none]) (by simp [S_law_draws_1])]
 have hm' : (0 : Int) < m := by omega
 have hmod : ∀ x : Int, oMod (.int x) (.int (m : Int)) = .ok (.int (x % m)) := λ x => oMod_int _ hm'
 have hdiv : ∀ x : Int, oDiv (.int x) (.int (m : Int)) = .ok (.int (x / m)) := λ x => oDiv_int _ hm' (by omega)
 obtain ⟨δ', e, ps, r, x6, hl, hb, h3⟩ := zFor_next (fit := λ δ => ((mCons (mVar 2) (mNil)) δ).bind iR1) (bd := bN 6) (F := L_law_draws_1) (δ := [some (.sh (.int c)), some (.sh (.bl mx)), some (.sh (.int n)), some (.sh (.int m)), some (.ow []), some (.sh (.int c)), none]) (ds := rngD 0 n)
  (λ k δ => ∃ (ps : List Int) (r : Int) (x6 : Option Sl), ps.length = k ∧ (∀ x ∈ ps, 0 ≤ x ∧ x < (m : Int)) ∧ δ = [some (.sh (.int c)), some (.sh (.bl mx)), some (.sh (.int n)), some (.sh (.int m)), some (.ow (ps.map D.int)), some (.sh (.int r)), x6])
  (fit1_var rfl (by omega)) ⟨[], c, none, rfl, by simp, rfl⟩ (by
   rintro k d δ hd ⟨ps, r, x6, hl, hb, rfl⟩
   obtain ⟨rfl, hk⟩ := rngD_get hd
   have hlen : (ps.map D.int).length < 1000000 := by rw [List.length_map]; omega
   have good : ∀ y : Int, ∀ x ∈ ps ++ [y % m], 0 ≤ x ∧ x < (m : Int) := λ y x hx => by
    rcases List.mem_append.mp hx with hx | hx
    ·exact hb x hx
    ·have : x = y % m := by simpa using hx
     rw [this]
     exact ⟨Int.emod_nonneg _ (by omega), Int.emod_lt_of_pos _ hm'⟩
   cases mx with
   | true =>
    have h1 : oMul (.int r) (.int 48271) = .ok (.int (r * 48271)) := oMul_r _ (by decide) (by decide)
    have h2 : oMul (.int 7919) (.int (0 + (k : Int))) = .ok (.int (7919 * (0 + k))) := oMul_l _ (by decide) (by decide)
    have h3 : ∀ x : Int, oMod (.int x) (.int 2147483647) = .ok (.int (x % 2147483647)) := λ x => oMod_int _ (by decide)
    have h4 : ∀ x : Int, oMod (.int x) (.int 2147483629) = .ok (.int (x % 2147483629)) := λ x => oMod_int _ (by decide)
    have h5 : ∀ x : Int, oMul (.int x) (.int 16807) = .ok (.int (x * 16807)) := λ x => oMul_r _ (by decide) (by decide)
    refine ⟨_, [some (.sh (.int c)), some (.sh (.bl true)), some (.sh (.int n)), some (.sh (.int m)), some (.ow ((ps ++ [((r * 48271 + 7919 * (0 + k) + 11) % 2147483647) * 16807 % 2147483629 % m]).map D.int)), some (.sh (.int ((r * 48271 + 7919 * (0 + k) + 11) % 2147483647))), some (.sh (.int (0 + k)))], rfl, .inl ?_, _, _, _, by simp [hl], good _, rfl⟩
    unfold L_law_draws_1
    rw [zIf_yes (by simp)]
    rw [zSeq_next (δ' := [some (.sh (.int c)), some (.sh (.bl true)), some (.sh (.int n)), some (.sh (.int m)), some (.ow (ps.map D.int)), some (.sh (.int ((r * 48271 + 7919 * (0 + k) + 11) % 2147483647))), some (.sh (.int (0 + k)))]) (by
     simp only [e_bN, List.set_cons_succ, List.set_cons_zero, e_zSet, e_m2, e_mC, e_mVar, List.getElem?_cons_succ, List.getElem?_cons_zero, R.bind_ok, h1, h2, h3, oAdd_int, bS_ok])]
    simp only [e_zApp, e_m2, e_mC, e_mVar, List.getElem?_cons_succ, List.getElem?_cons_zero, R.bind_ok, h4, h5, hmod, bS_ok, hlen, if_true, List.set_cons_succ, List.set_cons_zero]
    simp
   | false =>
    refine ⟨_, [some (.sh (.int c)), some (.sh (.bl false)), some (.sh (.int n)), some (.sh (.int m)), some (.ow ((ps ++ [r % m]).map D.int)), some (.sh (.int (r / m))), some (.sh (.int (0 + k)))], rfl, .inl ?_, _, _, _, by simp [hl], good _, rfl⟩
    unfold L_law_draws_1
    rw [zIf_no (by simp)]
    rw [zSeq_next (δ' := [some (.sh (.int c)), some (.sh (.bl false)), some (.sh (.int n)), some (.sh (.int m)), some (.ow ((ps ++ [r % m]).map D.int)), some (.sh (.int r)), some (.sh (.int (0 + k)))]) (by
     simp only [e_bN, List.set_cons_succ, List.set_cons_zero, e_zApp, e_m2, e_mC, e_mVar, List.getElem?_cons_succ, List.getElem?_cons_zero, R.bind_ok, hmod, bS_ok, hlen, if_true]
     simp)]
    simp only [e_zSet, e_m2, e_mC, e_mVar, List.getElem?_cons_succ, List.getElem?_cons_zero, R.bind_ok, hdiv, bS_ok, List.set_cons_succ, List.set_cons_zero])
 unfold F_law_draws_2 S_law_draws_2
 rw [zSeq_next e, h3]
 refine ⟨ps, by simp [F_law_draws_3, S_law_draws_3, frzE], ?_, hb⟩
 rw [hl, rngD_length]
 omega
def okL (g : Int) (s : List Int) (d : Int) : Bool := match s.getLast? with
 | none => true
 | some l => decide (l ≤ d) && decide (d ≤ l + g)
def stepH (g : Int) (found : List (List Int)) (row : List Int) : List (List Int) := found.flatMap λ s => (row.filter (okL g s)).map λ d => s ++ [d]
def hand (g : Int) (rows : List (List Int)) : List (List Int) := rows.foldl (stepH g) [[]]
theorem stepH_mem {g : Int} {fo : List (List Int)} {row t : List Int} : t ∈ stepH g fo row ↔ ∃ s ∈ fo, ∃ d ∈ row, okL g s d = true ∧ t = s ++ [d] := by
 unfold stepH
 simp only [List.mem_flatMap, List.mem_map, List.mem_filter]
 constructor
 ·rintro ⟨s, hs, d, ⟨hd, hk⟩, rfl⟩
  exact ⟨s, hs, d, hd, hk, rfl⟩
 ·rintro ⟨s, hs, d, hd, hk, rfl⟩
  exact ⟨s, hs, d, ⟨hd, hk⟩, rfl⟩
theorem hand_snoc (g : Int) (rows : List (List Int)) (r : List Int) : hand g (rows ++ [r]) = stepH g (hand g rows) r := by simp [hand]
structure RowOk (r : List Int) : Prop where
 up : r.Pairwise (· < ·)
 bd : ∀ d ∈ r, 0 ≤ d ∧ d < 800
 len : r.length ≤ 60
theorem RowOk.Up {r : List Int} (h : RowOk r) : Up r := h.up.imp (λ h => Int.le_of_lt h)
theorem slice_to (ps : List Int) {a b : Nat} (h : a ≤ b) (h2 : b ≤ ps.length) : oSl (rowD ps) (some (a : Int)) (some (b : Int)) = .ok (rowD ((ps.drop a).take (b - a))) := by
 simp only [oSl, rowD]
 rw [cutD_nat _ h (by rw [List.length_map]; exact h2), ← List.map_drop, ← List.map_take]
theorem slice_from (ps : List Int) {a : Nat} (h : a ≤ ps.length) : oSl (rowD ps) (some (a : Int)) none = .ok (rowD (ps.drop a)) := by
 simp only [oSl, rowD]
 rw [cutD_from _ (by rw [List.length_map]; exact h), ← List.map_drop]
structure HidOk (L : Nat) (g : Int) (day : Int) (k : Nat) (path : List Int) (rs : List (List Int)) : Prop where
 pl : path.length = k
 rl : rs.length = k
 ok : ∀ r ∈ rs, RowOk r ∧ (∀ d ∈ r, d < L) ∧ r.length ≤ 7 ∧ r ≠ []
 wh : path ∈ hand g rs
 last : 0 < k → path.getLast? = some day
 bd : 0 ≤ day ∧ day < L
theorem near_eq {x0 x1 x2 x4 x5 x6 x7 x8 x10 x11 x13 x14 : Option Sl} {L : Nat} {day : Int} {ps : List Int} (hp : 2 ≤ ps.length) (hl : ps.length < 1000) :
  mL (mComp (λ δ => ((mSl (mVar 12) (mP (mC (.int 2))) (mNoP)) δ).bind itemsD) (λ _ => .ok true) (mCB oMin (mCons (m2 oSub (mVar 3) (mC (.int 1))) (mCons (m2 oAdd (mVar 9) (m2 oMod (mVar 15) (mC (.int 9)))) (mNil))))) [x0, x1, x2, some (.sh (.int L)), x4, x5, x6, x7, x8, some (.sh (.int day)), x10, x11, some (.sh (rowD ps)), x13, x14]
   = .ok (rowD ((ps.drop 2).map λ p => if day + p % 9 < (L : Int) - 1 then day + p % 9 else (L : Int) - 1)) := by
 have hs := slice_from ps (a := 2) hp
 rw [show (((2 : Nat)) : Int) = 2 from rfl] at hs
 generalize hδ : ([x0, x1, x2, some (.sh (.int L)), x4, x5, x6, x7, x8, some (.sh (.int day)), x10, x11, some (.sh (rowD ps)), x13, x14] : Ev) = δ
 have sh : shE δ = [shO x0, shO x1, shO x2, some (.sh (.int L)), shO x4, shO x5, shO x6, shO x7, shO x8, some (.sh (.int day)), shO x10, shO x11, some (.sh (rowD ps)), shO x13, shO x14] := by rw [← hδ]; rfl
 have hf : (λ δ => ((mSl (mVar 12) (mP (mC (.int 2))) (mNoP)) δ).bind itemsD) δ = .ok ((ps.drop 2).map D.int) := by
  rw [← hδ]
  show ((mSl (mVar 12) (mP (mC (.int 2))) (mNoP)) _).bind itemsD = _
  simp_arith [hs]
 rw [e_mL, comp_map (l := ps.drop 2) (h := D.int) (g := λ p => D.int (if day + p % 9 < (L : Int) - 1 then day + p % 9 else (L : Int) - 1)) hf (by rw [List.length_drop]; omega) (λ p _ => by
  have hm : oMod (.int p) (.int 9) = .ok (.int (p % 9)) := oMod_int _ (by decide)
  rw [sh]
  simp_arith [List.cons_append, List.nil_append, hm, oMin_int])]
 rw [R.bind_ok]
 congr 2
 rw [List.map_map]
 rfl
theorem hid_turn {ns : List Int} {N : D} (hN : D.lst (ns.map D.int) = N) {ai L n k : Nat} {g day : Int} {mx near : Bool} {path : List Int} {rs : List (List Int)} {x11 x12 x13 x14 : Option Sl} (hL : 1 ≤ L) (hL2 : L ≤ 800) (hg : 0 ≤ g) (hk : k < 1000) (hg2 : g ≤ 800) (h : HidOk L g day k path rs) :
  ∃ day' path' rs', HidOk L g day' (k + 1) path' rs' ∧ ∃ y11 y12 y13 y14,
  L_law_hidden_1 [some (.sh N), some (.sh (.int ai)), some (.sh (.int n)), some (.sh (.int L)), some (.sh (.int g)), some (.sh (.bl mx)), some (.sh (.bl near)), some (.ow (path.map D.int)), some (.ow (rs.map rowD)), some (.sh (.int day)), some (.sh (.int ((0 + (k : Int))))), x11, x12, x13, x14]
   = .next [some (.sh N), some (.sh (.int ai)), some (.sh (.int n)), some (.sh (.int L)), some (.sh (.int g)), some (.sh (.bl mx)), some (.sh (.bl near)), some (.ow (path'.map D.int)), some (.ow (rs'.map rowD)), some (.sh (.int day')), some (.sh (.int ((0 + (k : Int))))), y11, y12, y13, y14] := by
 have h1' : m_law_at [N, .int 1] = .ok (.int (cell ns 1)) := by have := at_eq ns 1; rw [hN] at this; simpa using this
 have hak : m_law_at [N, .int ((ai : Int) + 1 + (0 + (k : Int)))] = .ok (.int (cell ns (ai + 1 + k))) := by
  have := at_eq ns (ai + 1 + k)
  rw [hN] at this
  rw [show (ai : Int) + 1 + (0 + (k : Int)) = ((ai + 1 + k : Nat) : Int) by omega]
  exact this
 have hmk : oMul (.int 1000003) (.int (0 + (k : Int))) = .ok (.int (1000003 * (0 + k))) := oMul_l _ (by decide) (by decide)
 obtain ⟨cl, hcl⟩ : ∃ cl : Int, zIf (mT (mVar 5)) (zSet 11 (m2 oAdd (m2 oAdd (mVar 11) (m2 oMul (mC (.int 1000003)) (mVar 10))) (mCall m_law_at (mCons (mVar 0) (mCons (mC (.int 1)) (mNil)))))) (SR.next) [some (.sh N), some (.sh (.int ai)), some (.sh (.int n)), some (.sh (.int L)), some (.sh (.int g)), some (.sh (.bl mx)), some (.sh (.bl near)), some (.ow (path.map D.int)), some (.ow (rs.map rowD)), some (.sh (.int day)), some (.sh (.int ((0 + (k : Int))))), some (.sh (.int ((cell ns (ai + 1 + k))))), x12, x13, x14]
   = .next [some (.sh N), some (.sh (.int ai)), some (.sh (.int n)), some (.sh (.int L)), some (.sh (.int g)), some (.sh (.bl mx)), some (.sh (.bl near)), some (.ow (path.map D.int)), some (.ow (rs.map rowD)), some (.sh (.int day)), some (.sh (.int ((0 + (k : Int))))), some (.sh (.int cl)), x12, x13, x14] := by
  cases mx with
  | true => exact ⟨cell ns (ai + 1 + k) + 1000003 * (0 + k) + cell ns 1, by rw [zIf_yes (by simp_arith [])]; simp_arith [hmk, h1']⟩
  | false => exact ⟨cell ns (ai + 1 + k), by rw [zIf_no (by simp_arith [])]⟩
 obtain ⟨ps, hps, hpl, hpb⟩ := draws_eq cl mx (n := 8) (m := L) (by decide) (by omega) (by omega)
 have hps' : m_law_draws [.int cl, .bl mx, .int 8, .int (L : Int)] = .ok (rowD ps) := hps
 obtain ⟨p0, p1, rest, rfl⟩ : ∃ p0 p1 rest, ps = p0 :: p1 :: rest := by
  match ps, hpl with
  | p0 :: p1 :: rest, _ => exact ⟨p0, p1, rest, rfl⟩
 have hrl : rest.length = 6 := by simpa using hpl
 have b0 := hpb p0 (by simp)
 have b1 := hpb p1 (by simp)
 have i0 : oIx (rowD (p0 :: p1 :: rest)) (.int 0) = .ok (.int p0) := oIx_row (k := 0) rfl
 have i1 : oIx (rowD (p0 :: p1 :: rest)) (.int 1) = .ok (.int p1) := oIx_row (k := 1) rfl
 have mg : oMod (.int p0) (.int (g + 1)) = .ok (.int (p0 % (g + 1))) := oMod_int _ (by omega)
 have m6 : oMod (.int p1) (.int 6) = .ok (.int (p1 % 6)) := oMod_int _ (by decide)
 have m5 : oMod (.int p0) (.int 5) = .ok (.int (p0 % 5)) := oMod_int _ (by decide)
 obtain ⟨q, hq, hq2⟩ : ∃ q : Nat, p1 % 6 = q ∧ q ≤ 5 := ⟨(p1 % 6).toNat, by omega, by omega⟩
 have sl := slice_to (p0 :: p1 :: rest) (a := 2) (b := 2 + q) (by omega) (by simp; omega)
 rw [show (((2 : Nat)) : Int) = 2 from rfl, show ((2 + q : Nat) : Int) = 2 + (q : Int) by omega, show 2 + q - 2 = q by omega, show (p0 :: p1 :: rest).drop 2 = rest from rfl] at sl
 have hpath : (path.map D.int).length < 1000000 := by rw [List.length_map, h.pl]; omega
 have hrs : (rs.map rowD).length < 1000000 := by rw [List.length_map, h.rl]; omega
 unfold L_law_hidden_1
 rw [zSeq_next (δ' := [some (.sh N), some (.sh (.int ai)), some (.sh (.int n)), some (.sh (.int L)), some (.sh (.int g)), some (.sh (.bl mx)), some (.sh (.bl near)), some (.ow (path.map D.int)), some (.ow (rs.map rowD)), some (.sh (.int day)), some (.sh (.int ((0 + (k : Int))))), some (.sh (.int ((cell ns (ai + 1 + k))))), x12, x13, x14]) (by simp_arith [hak])]
 rw [zSeq_next hcl]
 rw [zSeq_next (δ' := [some (.sh N), some (.sh (.int ai)), some (.sh (.int n)), some (.sh (.int L)), some (.sh (.int g)), some (.sh (.bl mx)), some (.sh (.bl near)), some (.ow (path.map D.int)), some (.ow (rs.map rowD)), some (.sh (.int day)), some (.sh (.int ((0 + (k : Int))))), some (.sh (.int cl)), some (.sh (rowD (p0 :: p1 :: rest))), x13, x14]) (by simp_arith [hps'])]
 rw [zSeq_next (δ' := [some (.sh N), some (.sh (.int ai)), some (.sh (.int n)), some (.sh (.int L)), some (.sh (.int g)), some (.sh (.bl mx)), some (.sh (.bl near)), some (.ow (path.map D.int)), some (.ow (rs.map rowD)), some (.sh (.int day)), some (.sh (.int ((0 + (k : Int))))), some (.sh (.int cl)), some (.sh (rowD (p0 :: p1 :: rest))), some (.sh (.int ((p0 % (g + 1))))), x14]) (by simp_arith [i0, mg])]
 rw [zSeq_next (δ' := [some (.sh N), some (.sh (.int ai)), some (.sh (.int n)), some (.sh (.int L)), some (.sh (.int g)), some (.sh (.bl mx)), some (.sh (.bl near)), some (.ow (path.map D.int)), some (.ow (rs.map rowD)), some (.sh (.int day)), some (.sh (.int ((0 + (k : Int))))), some (.sh (.int cl)), some (.sh (rowD (p0 :: p1 :: rest))), some (.sh (.int ((p0 % (g + 1))))), some (.sh (rowD (rest.take q)))]) (by simp_arith [i1, m6, hq, sl])]
 have hday := h.bd
 obtain ⟨step, oth, hst, hs1, hs2, ho1, ho2⟩ : ∃ (step : Int) (oth : List Int), zIf (mT (mVar 6)) (zSeq (zSet 13 (mCB oInt (mCons (mAndV (m2 (op2 oEq) (m2 oMod (m2 oIx (mVar 12) (mC (.int 0))) (mC (.int 5))) (mC (.int 1))) (m2 (op2 oGt) (mVar 4) (mC (.int 0)))) (mNil)))) (zSet 14 (mL (mComp (λ δ => ((mSl (mVar 12) (mP (mC (.int 2))) (mNoP)) δ).bind itemsD) (λ _ => .ok true) (mCB oMin (mCons (m2 oSub (mVar 3) (mC (.int 1))) (mCons (m2 oAdd (mVar 9) (m2 oMod (mVar 15) (mC (.int 9)))) (mNil)))))))) (SR.next)
   [some (.sh N), some (.sh (.int ai)), some (.sh (.int n)), some (.sh (.int L)), some (.sh (.int g)), some (.sh (.bl mx)), some (.sh (.bl near)), some (.ow (path.map D.int)), some (.ow (rs.map rowD)), some (.sh (.int day)), some (.sh (.int ((0 + (k : Int))))), some (.sh (.int cl)), some (.sh (rowD (p0 :: p1 :: rest))), some (.sh (.int ((p0 % (g + 1))))), some (.sh (rowD (rest.take q)))]
   = .next [some (.sh N), some (.sh (.int ai)), some (.sh (.int n)), some (.sh (.int L)), some (.sh (.int g)), some (.sh (.bl mx)), some (.sh (.bl near)), some (.ow (path.map D.int)), some (.ow (rs.map rowD)), some (.sh (.int day)), some (.sh (.int ((0 + (k : Int))))), some (.sh (.int cl)), some (.sh (rowD (p0 :: p1 :: rest))), some (.sh (.int step)), some (.sh (rowD oth))] ∧ 0 ≤ step ∧ step ≤ g ∧ (∀ d ∈ oth, 0 ≤ d ∧ d < (L : Int)) ∧ oth.length ≤ 6 := by
  cases near with
  | false =>
   refine ⟨p0 % (g + 1), rest.take q, by rw [zIf_no (by simp_arith [])], Int.emod_nonneg _ (by omega), ?_, λ d hd => ?_, ?_⟩
   ·have := Int.emod_lt_of_pos p0 (show 0 < g + 1 by omega)
    omega
   ·exact hpb d (by simp [List.mem_of_mem_take hd])
   ·rw [List.length_take]; omega
  | true =>
   refine ⟨if (p0 % 5 == 1 && decide (0 < g)) = true then 1 else 0, rest.map λ p => if day + p % 9 < (L : Int) - 1 then day + p % 9 else (L : Int) - 1, ?_, ?_, ?_, λ d hd => ?_, ?_⟩
   ·rw [zIf_yes (by simp_arith [])]
    rw [zSeq_next (δ' := [some (.sh N), some (.sh (.int ai)), some (.sh (.int n)), some (.sh (.int L)), some (.sh (.int g)), some (.sh (.bl mx)), some (.sh (.bl true)), some (.ow (path.map D.int)), some (.ow (rs.map rowD)), some (.sh (.int day)), some (.sh (.int ((0 + (k : Int))))), some (.sh (.int cl)), some (.sh (rowD (p0 :: p1 :: rest))), some (.sh (.int ((if (p0 % 5 == 1 && decide (0 < g)) = true then 1 else 0)))), some (.sh (rowD (rest.take q)))]) (by
     cases c : (p0 % 5 == 1) with
     | true => simp_arith [i0, m5, c, oInt_bl, Bool.true_and]
     | false => simp_arith [i0, m5, c, oInt_bl, Bool.false_and])]
    rw [zSet_ok (near_eq (by simp) (by simp; omega))]
    rfl
   ·split <;> omega
   ·split
    ·rename_i c
     simp at c
     omega
    ·omega
   ·obtain ⟨p, hp, rfl⟩ := List.mem_map.mp hd
    split <;> omega
   ·rw [List.length_map]; omega
 rw [zSeq_next hst]
 obtain ⟨day', hdz, hd1, hd2⟩ : ∃ day' : Int, zIf (mAnd (m2t oGt (mVar 10) (mC (.int 0))) (m2t oLt (m2 oAdd (mVar 9) (mVar 13)) (mVar 3))) (zSet 9 (m2 oAdd (mVar 9) (mVar 13))) (SR.next)
   [some (.sh N), some (.sh (.int ai)), some (.sh (.int n)), some (.sh (.int L)), some (.sh (.int g)), some (.sh (.bl mx)), some (.sh (.bl near)), some (.ow (path.map D.int)), some (.ow (rs.map rowD)), some (.sh (.int day)), some (.sh (.int ((0 + (k : Int))))), some (.sh (.int cl)), some (.sh (rowD (p0 :: p1 :: rest))), some (.sh (.int step)), some (.sh (rowD oth))]
   = .next [some (.sh N), some (.sh (.int ai)), some (.sh (.int n)), some (.sh (.int L)), some (.sh (.int g)), some (.sh (.bl mx)), some (.sh (.bl near)), some (.ow (path.map D.int)), some (.ow (rs.map rowD)), some (.sh (.int day')), some (.sh (.int ((0 + (k : Int))))), some (.sh (.int cl)), some (.sh (rowD (p0 :: p1 :: rest))), some (.sh (.int step)), some (.sh (rowD oth))] ∧ (0 ≤ day' ∧ day' < L) ∧ (0 < k → day ≤ day' ∧ day' ≤ day + g) := by
  by_cases c : 0 < k ∧ day + step < L
  ·have c1 : (0 : Int) < 0 + (k : Int) := by omega
   exact ⟨day + step, by rw [zIf_yes (by simp_arith [c1, c.2])]; simp_arith [], by omega, by omega⟩
  ·refine ⟨day, ?_, by omega, by omega⟩
   by_cases c1 : (0 : Int) < 0 + (k : Int)
   ·have c2 : ¬ day + step < (L : Int) := λ z => c ⟨by omega, z⟩
    rw [zIf_no (by simp_arith [c1, c2])]
   ·rw [zIf_no (by simp_arith [c1])]
 rw [zSeq_next hdz]
 have hcat : oCat (rowD oth) (.lst [.int day']) = .ok (rowD (oth ++ [day'])) := by
  rw [oCat_ok (by simp; omega)]
  simp [rowD]
 have hss : ssetD (rowD (oth ++ [day'])) = .ok ((sset (oth ++ [day'])).map D.int) := ssetD_row (by simp; omega)
 rw [zSeq_next (zApp_ok (d := .int day') (by simp_arith []) rfl hpath)]
 rw [zApp_ok (d := rowD (sset (oth ++ [day']))) (by
  simp only [List.set_cons_zero, List.set_cons_succ]
  simp_arith [hcat, hss]) rfl hrs]
 have hmem : ∀ d ∈ sset (oth ++ [day']), 0 ≤ d ∧ d < (L : Int) := λ d hd => by
  rcases List.mem_append.mp (mem_sset.mp hd) with z | z
  ·exact ho1 d z
  ·have : d = day' := by simpa using z
   omega
 have hlen := sset_len (oth ++ [day'])
 rw [List.length_append] at hlen
 have hin : day' ∈ sset (oth ++ [day']) := mem_sset.mpr (by simp)
 refine ⟨day', path ++ [day'], rs ++ [sset (oth ++ [day'])], ⟨by simp [h.pl], by simp [h.rl], λ r hr => ?_, ?_, λ _ => by simp, hd1⟩, some (.sh (.int cl)), some (.sh (rowD (p0 :: p1 :: rest))), some (.sh (.int step)), some (.sh (rowD oth)), ?_⟩
 ·rcases List.mem_append.mp hr with z | z
  ·exact h.ok r z
  ·have : r = sset (oth ++ [day']) := by simpa using z
   subst this
   refine ⟨⟨sset_up _, λ d hd => ?_, ?_⟩, λ d hd => (hmem d hd).2, ?_, ?_⟩
   ·have := hmem d hd
    omega
   ·simp at hlen; omega
   ·simp at hlen; omega
   ·intro z
    rw [z] at hin
    cases hin
 ·rw [hand_snoc]
  refine stepH_mem.mpr ⟨path, h.wh, day', hin, ?_, rfl⟩
  unfold okL
  by_cases c : 0 < k
  ·rw [h.last c]
   have := hd2 c
   simp
   omega
  ·have : path = [] := List.eq_nil_of_length_eq_zero (by rw [h.pl]; omega)
   subst this
   rfl
 ·simp only [List.map_append, List.map_cons, List.map_nil, List.set_cons_zero, List.set_cons_succ]
theorem hidden_eq (ns : List Int) (ai n L : Nat) (g : Int) (hL : 1 ≤ L) (hL2 : L ≤ 800) (hg : 0 ≤ g) (hg2 : g ≤ 800) (hn : n ≤ 60) : ∃ (path : List Int) (rs : List (List Int)) (day : Int), mr_law_hidden [.lst (ns.map D.int), .int ai, .int n, .int L, .int g] = .ok (rowD path, rs.map rowD) ∧ HidOk L g day n path rs := by
 generalize hN : D.lst (ns.map D.int) = N
 have h0 : m_law_at [N, .int 0] = .ok (.int (cell ns 0)) := by have := at_eq ns 0; rw [hN] at this; simpa using this
 have h1 : m_law_at [N, .int 1] = .ok (.int (cell ns 1)) := by have := at_eq ns 1; rw [hN] at this; simpa using this
 have ha : m_law_at [N, .int (ai : Int)] = .ok (.int (cell ns ai)) := by have := at_eq ns ai; rw [hN] at this; exact this
 have m0 : oMod (.int (cell ns 0)) (.int 2) = .ok (.int (cell ns 0 % 2)) := oMod_int _ (by decide)
 have m1 : oMod (.int (cell ns 1)) (.int 2) = .ok (.int (cell ns 1 % 2)) := oMod_int _ (by decide)
 have mL : oMod (.int (cell ns ai)) (.int (L : Int)) = .ok (.int (cell ns ai % L)) := oMod_int _ (by omega)
 unfold mr_law_hidden F_law_hidden
 rw [zSeqR_next (δ' := [some (.sh N), some (.sh (.int ai)), some (.sh (.int n)), some (.sh (.int L)), some (.sh (.int g)), some (.sh (.bl (cell ns 0 % 2 == 0))), none, none, none, none, none, none, none, none, none]) (by
  unfold S_law_hidden_0
  show zSet 5 _ [some (.sh N), some (.sh (.int ai)), some (.sh (.int n)), some (.sh (.int L)), some (.sh (.int g)), none, none, none, none, none, none, none, none, none, none] = _
  simp_arith [h0, m0])]
 unfold F_law_hidden_1
 rw [zSeqR_next (δ' := [some (.sh N), some (.sh (.int ai)), some (.sh (.int n)), some (.sh (.int L)), some (.sh (.int g)), some (.sh (.bl (cell ns 0 % 2 == 0))), some (.sh (.bl (cell ns 1 % 2 == 1))), none, none, none, none, none, none, none, none]) (by
  unfold S_law_hidden_1
  simp_arith [h1, m1])]
 unfold F_law_hidden_2
 rw [zSeqR_next (δ' := [some (.sh N), some (.sh (.int ai)), some (.sh (.int n)), some (.sh (.int L)), some (.sh (.int g)), some (.sh (.bl (cell ns 0 % 2 == 0))), some (.sh (.bl (cell ns 1 % 2 == 1))), some (.ow ([])), none, none, none, none, none, none, none]) (by simp [S_law_hidden_2, lim])]
 unfold F_law_hidden_3
 rw [zSeqR_next (δ' := [some (.sh N), some (.sh (.int ai)), some (.sh (.int n)), some (.sh (.int L)), some (.sh (.int g)), some (.sh (.bl (cell ns 0 % 2 == 0))), some (.sh (.bl (cell ns 1 % 2 == 1))), some (.ow ([])), some (.ow ([])), none, none, none, none, none, none]) (by simp [S_law_hidden_3, lim])]
 unfold F_law_hidden_4
 rw [zSeqR_next (δ' := [some (.sh N), some (.sh (.int ai)), some (.sh (.int n)), some (.sh (.int L)), some (.sh (.int g)), some (.sh (.bl (cell ns 0 % 2 == 0))), some (.sh (.bl (cell ns 1 % 2 == 1))), some (.ow ([])), some (.ow ([])), some (.sh (.int ((cell ns ai % L)))), none, none, none, none, none]) (by
  unfold S_law_hidden_4
  simp_arith [ha, mL])]
 have hday : 0 ≤ cell ns ai % (L : Int) ∧ cell ns ai % (L : Int) < L := ⟨Int.emod_nonneg _ (by omega), Int.emod_lt_of_pos _ (by omega)⟩
 obtain ⟨δ', e, day, path, rs, x10, x11, x12, x13, x14, hk, h3⟩ := zFor_next (fit := λ δ => ((mCons (mVar 2) (mNil)) δ).bind iR1) (bd := bN 10) (F := L_law_hidden_1) (δ := [some (.sh N), some (.sh (.int ai)), some (.sh (.int n)), some (.sh (.int L)), some (.sh (.int g)), some (.sh (.bl (cell ns 0 % 2 == 0))), some (.sh (.bl (cell ns 1 % 2 == 1))), some (.ow ([])), some (.ow ([])), some (.sh (.int ((cell ns ai % L)))), none, none, none, none, none]) (ds := rngD 0 n)
  (λ k δ => ∃ (day : Int) (path : List Int) (rs : List (List Int)) (x10 x11 x12 x13 x14 : Option Sl), HidOk L g day k path rs ∧ δ = [some (.sh N), some (.sh (.int ai)), some (.sh (.int n)), some (.sh (.int L)), some (.sh (.int g)), some (.sh (.bl (cell ns 0 % 2 == 0))), some (.sh (.bl (cell ns 1 % 2 == 1))), some (.ow (path.map D.int)), some (.ow (rs.map rowD)), some (.sh (.int day)), x10, x11, x12, x13, x14])
  (fit1_var rfl (by omega)) ⟨cell ns ai % L, [], [], none, none, none, none, none, ⟨rfl, rfl, by simp, by simp [hand], by simp, hday⟩, rfl⟩ (by
   rintro k d δ hd ⟨day, path, rs, x10, x11, x12, x13, x14, hk, rfl⟩
   obtain ⟨rfl, hkn⟩ := rngD_get hd
   obtain ⟨day', path', rs', hk', y11, y12, y13, y14, ht⟩ := hid_turn (x11 := x11) (x12 := x12) (x13 := x13) (x14 := x14) hN (ai := ai) (n := n) (mx := cell ns 0 % 2 == 0) (near := cell ns 1 % 2 == 1) hL hL2 hg (by omega) hg2 hk
   exact ⟨_, _, rfl, .inl ht, day', path', rs', _, _, _, _, _, hk', rfl⟩)
 unfold F_law_hidden_5 S_law_hidden_5
 rw [zSeqR_next e, h3]
 rw [rngD_length, show ((n : Int) - 0).toNat = n by omega] at hk
 exact ⟨path, rs, day, by simp [F_law_hidden_6, mTwo, noE, frzE], hk⟩
theorem bt2 {i j : Nat} (a b : D) (δ : Ev) : bTup 2 (bsCons (bN i) (bsCons (bN j) (bsNil))) (.tup [a, b]) δ = some ((δ.set i (some (.sh a))).set j (some (.sh b))) := rfl
theorem compG_filter {α : Type} {l : List α} {h : α → D} {g : α → D} {p : α → Bool} {δ1 : α → Ev} {n : Nat} {bd : D → Ev → Option Ev} {t : Ev → R Bool} {f : Ev → R D} {fit : Ev → R (List D)} {δ : Ev} (hf : fit δ = .ok (l.map h)) (hl : l.length ≤ 1000000)
  (hb : ∀ a ∈ l, bd (h a) (shE δ ++ List.replicate n none) = some (δ1 a)) (ht : ∀ a ∈ l, t (δ1 a) = .ok (p a)) (he : ∀ a ∈ l, p a = true → f (δ1 a) = .ok (g a)) : mCompG n fit bd t f δ = .ok ((l.filter p).map g) := by
 have key : ∀ l : List α, (∀ a ∈ l, bd (h a) (shE δ ++ List.replicate n none) = some (δ1 a)) → (∀ a ∈ l, t (δ1 a) = .ok (p a)) → (∀ a ∈ l, p a = true → f (δ1 a) = .ok (g a)) → compG n bd t f (shE δ) (l.map h) = .ok ((l.filter p).map g) := by
  intro l
  induction l with
  | nil => intro _ _ _; rfl
  | cons a l ih =>
   intro hb ht he
   have i := ih (λ b hb' => hb b (List.mem_cons_of_mem _ hb')) (λ b hb' => ht b (List.mem_cons_of_mem _ hb')) (λ b hb' => he b (List.mem_cons_of_mem _ hb'))
   rw [List.map_cons, compG, hb a List.mem_cons_self]
   simp only
   rw [ht a List.mem_cons_self, R.bind_ok, List.filter_cons]
   cases c : p a with
   | true =>
    rw [if_pos rfl, he a List.mem_cons_self c, R.bind_ok, i]
    rfl
   | false => simpa using i
 unfold mCompG
 rw [hf, R.bind_ok, if_pos (by rw [List.length_map]; exact hl), key l hb ht he]
 rfl
theorem compG_map {α : Type} {l : List α} {h : α → D} {g : α → D} {δ1 : α → Ev} {n : Nat} {bd : D → Ev → Option Ev} {f : Ev → R D} {fit : Ev → R (List D)} {δ : Ev} (hf : fit δ = .ok (l.map h)) (hl : l.length ≤ 1000000)
  (hb : ∀ a ∈ l, bd (h a) (shE δ ++ List.replicate n none) = some (δ1 a)) (he : ∀ a ∈ l, f (δ1 a) = .ok (g a)) : mCompG n fit bd (λ _ => .ok true) f δ = .ok (l.map g) := by
 have := compG_filter (p := λ _ => true) (t := λ _ => .ok true) hf hl hb (λ _ _ => rfl) (λ a ha _ => he a ha)
 rw [List.filter_eq_self.mpr (by simp)] at this
 exact this
def ob (r : List Int) (d : Int) : Int := if d ∈ r then 0 else 1
def obs (r : List Int) (L : Nat) : List Int := (List.range L).map λ d : Nat => ob r (d : Int)
theorem atK_trues (x : Key) : ∀ ks : List Key, (atK ks (ks.map λ _ => D.bl true) x).isSome = ks.any λ j => decide (j = x)
 | [] => rfl
 | k :: ks => by
  rw [List.map_cons, atK, List.any_cons, ← atK_trues x ks]
  by_cases c : k = x
  ·simp [c]
  ·simp [c]
theorem keysI_any (x : Key) : ∀ (ns : List Int) (ks : List Key), ((keysI ns ks).any λ j => decide (j = x)) = ((ks.any λ j => decide (j = x)) || ns.any λ n => decide ((Sum.inl n : Key) = x))
 | [], ks => by simp [keysI]
 | n :: ns, ks => by
  rw [keysI, keysI_any x ns, List.any_cons, ← Bool.or_assoc]
  congr 1
  unfold addK
  split
  ·rename_i h
   cases c : decide ((Sum.inl n : Key) = x) with
   | false => simp
   | true =>
    have e := of_decide_eq_true c
    subst e
    rw [h]
    rfl
  ·rw [List.any_append]
   simp
theorem own_in {r : List Int} {d : Int} : oInD (.int d) (.dic (keysI r []) ((keysI r []).map λ _ => .bl true)) = .ok (decide (d ∈ r)) := by
 unfold oInD
 simp only [keyOf]
 rw [atK_trues, keysI_any]
 congr 1
 rw [Bool.eq_iff_iff, Bool.or_eq_true, decide_eq_true_eq]
 simp
theorem obs_len (r : List Int) (L : Nat) : (obs r L).length = L := by simp [obs]
theorem own_blots_eq {r : List Int} {L : Nat} (hr : r.length ≤ 1000000) (hL : L ≤ 1000000) : m_own_blots [rowD r, .int (L : Int)] = .ok (rowD (obs r L)) := by
 unfold m_own_blots F_own_blots
 have hin := λ d : Int => own_in (r := r) (d := d)
 have hz : ∃ x3 : Option Sl, zDict 0 2 3 [some (.sh (rowD r)), some (.sh (.int L)), none, none] = .next [some (.sh (rowD r)), some (.sh (.int L)), some (.sh (.dic (keysI r []) ((keysI r []).map λ _ => .bl true))), x3] := by
  unfold zDict
  simp only [List.getElem?_cons_zero, intsD_map]
  rw [if_pos hr]
  unfold setLast
  cases r.getLast? with
  | none => exact ⟨_, rfl⟩
  | some n => exact ⟨_, rfl⟩
 obtain ⟨x3, hz⟩ := hz
 generalize hD : D.dic (keysI r []) ((keysI r []).map λ _ => .bl true) = dd at *
 show finR (zSeq (zDict 0 2 3) F_own_blots_1 [some (.sh (rowD r)), some (.sh (.int L)), none, none]) = _
 rw [zSeq_next hz]
 unfold F_own_blots_1
 rw [zRet_ok (d := rowD (obs r L)) (by
  rw [e_mL, compG_map (l := List.range L) (h := λ k : Nat => D.int (k : Int)) (g := λ k : Nat => D.int (ob r (k : Int))) (δ1 := λ k : Nat => shE [some (.sh (rowD r)), some (.sh (.int L)), some (.sh dd), x3] ++ [some (.sh (.int (k : Int)))]) (by
   refine (fit1_var (δ := [some (.sh (rowD r)), some (.sh (.int L)), some (.sh dd), x3]) (i := 1) (n := L) rfl hL).trans ?_
   unfold rngD
   simp) (by simpa using hL) (λ k _ => rfl) (λ k _ => by
   show mIf _ _ _ [some (.sh (rowD r)), some (.sh (.int L)), some (.sh dd), shO x3, some (.sh (.int k))] = _
   have := hin (k : Int)
   unfold ob
   by_cases c : (k : Int) ∈ r
   ·rw [decide_eq_true c] at this
    simp_arith [this, c]
   ·rw [decide_eq_false c] at this
    simp_arith [this, c])]
  simp [obs])]
 rfl
structure Best (a : List Int) (g d j : Nat) : Prop where
 le : j ≤ d
 near : d ≤ j + g
 least : ∀ i, i ≤ d → d ≤ i + g → a.getD j 0 ≤ a.getD i 0
structure Qi (a : List Int) (g m : Nat) (q : List Nat) : Prop where
 asc : q.Pairwise λ x y => x < y ∧ a.getD x 0 < a.getD y 0
 bd : ∀ x ∈ q, x < m ∧ m ≤ x + g + 1
 cov : ∀ i, i < m → m ≤ i + g + 1 → ∃ j ∈ q, i ≤ j ∧ a.getD j 0 ≤ a.getD i 0
theorem Qi.start (a : List Int) (g : Nat) : Qi a g 0 [] := ⟨.nil, by simp, by intro i h; omega⟩
def kp (a : List Int) (x : Int) (q : List Nat) : List Nat := q.filter λ j => decide (a.getD j 0 < x)
theorem Qi.next {a : List Int} {g m : Nat} {q : List Nat} (Q : Qi a g m q) : ∃ h t, kp a (a.getD m 0) q ++ [m] = h :: t ∧ (h + g < m → Qi a g (m + 1) t ∧ ∃ h' t', t = h' :: t' ∧ Best a g m h') ∧ (¬ h + g < m → Qi a g (m + 1) (h :: t) ∧ Best a g m h) := by
 have hsub : ∀ y ∈ kp a (a.getD m 0) q, y ∈ q ∧ a.getD y 0 < a.getD m 0 := λ y hy => by
  have := List.mem_filter.mp hy
  exact ⟨this.1, by simpa using this.2⟩
 have asc2 : (kp a (a.getD m 0) q ++ [m]).Pairwise λ x y => x < y ∧ a.getD x 0 < a.getD y 0 := by
  rw [List.pairwise_append]
  refine ⟨Q.asc.filter _, List.pairwise_singleton .., λ x hx y hy => ?_⟩
  have : y = m := by simpa using hy
  subst this
  exact ⟨(Q.bd x (hsub x hx).1).1, (hsub x hx).2⟩
 have cov2 : ∀ i, i ≤ m → m ≤ i + g → ∃ j ∈ kp a (a.getD m 0) q ++ [m], i ≤ j ∧ a.getD j 0 ≤ a.getD i 0 := λ i h1 h2 => by
  rcases Nat.lt_or_ge i m with h | h
  ·obtain ⟨j, hj, hij, hle⟩ := Q.cov i h (by omega)
   by_cases c : a.getD j 0 < a.getD m 0
   ·exact ⟨j, List.mem_append_left _ (List.mem_filter.mpr ⟨hj, by simpa using c⟩), hij, hle⟩
   ·exact ⟨m, by simp, h1, by omega⟩
  ·have : i = m := by omega
   subst this
   exact ⟨i, by simp, Nat.le_refl _, Int.le_refl _⟩
 have bd2 : ∀ x ∈ kp a (a.getD m 0) q ++ [m], x ≤ m ∧ m ≤ x + g + 1 := λ x hx => by
  rcases List.mem_append.mp hx with hx | hx
  ·have := Q.bd x (hsub x hx).1
   omega
  ·have : x = m := by simpa using hx
   omega
 have hlast : ∀ h t, kp a (a.getD m 0) q ++ [m] = h :: t → m ∈ h :: t := λ h t e => by rw [← e]; simp
 have least : ∀ h t, (h :: t).Pairwise (λ x y => x < y ∧ a.getD x 0 < a.getD y 0) → ∀ j ∈ h :: t, a.getD h 0 ≤ a.getD j 0 := λ h t p j hj => by
  rcases List.mem_cons.mp hj with rfl | hj
  ·exact Int.le_refl _
  ·exact Int.le_of_lt ((List.pairwise_cons.mp p).1 j hj).2
 cases e : kp a (a.getD m 0) q ++ [m] with
 | nil => simp at e
 | cons h t =>
  rw [e] at asc2 cov2 bd2
  have hm := hlast h t e
  have hp := List.pairwise_cons.mp asc2
  refine ⟨h, t, rfl, λ c => ?_, λ c => ?_⟩
  ·have hmt : m ∈ t := by
    rcases List.mem_cons.mp hm with rfl | hm
    ·omega
    ·exact hm
   have hh := bd2 h List.mem_cons_self
   have bt : ∀ x ∈ t, x ≤ m ∧ m ≤ x + g := λ x hx => by
    have h1 := bd2 x (List.mem_cons_of_mem _ hx)
    have h2 := (hp.1 x hx).1
    omega
   have ct : ∀ i, i ≤ m → m ≤ i + g → ∃ j ∈ t, i ≤ j ∧ a.getD j 0 ≤ a.getD i 0 := λ i h1 h2 => by
    obtain ⟨j, hj, hij, hle⟩ := cov2 i h1 h2
    rcases List.mem_cons.mp hj with rfl | hj
    ·omega
    ·exact ⟨j, hj, hij, hle⟩
   refine ⟨⟨hp.2, λ x hx => by have := bt x hx; omega, λ i h1 h2 => ct i (by omega) (by omega)⟩, ?_⟩
   cases t with
   | nil => cases hmt
   | cons h' t' =>
    refine ⟨h', t', rfl, (bt h' List.mem_cons_self).1, (bt h' List.mem_cons_self).2, λ i h1 h2 => ?_⟩
    obtain ⟨j, hj, _, hle⟩ := ct i h1 h2
    exact Int.le_trans (least h' t' hp.2 j hj) hle
  ·have bt : ∀ x ∈ h :: t, x ≤ m ∧ m ≤ x + g := λ x hx => by
    have h1 := bd2 x hx
    rcases List.mem_cons.mp hx with rfl | hx
    ·omega
    ·have h2 := (hp.1 x hx).1
     omega
   refine ⟨⟨asc2, λ x hx => by have := bt x hx; omega, λ i h1 h2 => cov2 i (by omega) (by omega)⟩, (bt h List.mem_cons_self).1, (bt h List.mem_cons_self).2, λ i h1 h2 => ?_⟩
   obtain ⟨j, hj, _, hle⟩ := cov2 i h1 h2
   exact Int.le_trans (least h t asc2 j hj) hle
abbrev ntD (l : List Nat) : List D := l.map λ n : Nat => D.int (n : Int)
theorem while_pop {a : List Int} {G T M : Option Sl} {x : Int} {pre : List Nat} (ha : a.length < 1000000) : ∀ (n : Nat) (q : List Nat), q.length < n → (∀ j ∈ q, j < a.length) → q.Pairwise (λ x y => x < y ∧ a.getD x 0 < a.getD y 0) →
  whileZ (mAnd (m2t oGt (m1 oLen (mVarR 3)) (mVar 4)) (m2t oGe (m2 oIx (mVar 0) (m2 oIx (mVarR 3) (m1 oNeg (mC (.int 1))))) (mVar 6))) L_best_ahead_1 n [some (.sh (rowD a)), G, T, some (.ow (ntD (pre ++ q))), some (.sh (.int ((pre.length : Int)))), M, some (.sh (.int x))]
   = .next [some (.sh (rowD a)), G, T, some (.ow (ntD (pre ++ kp a x q))), some (.sh (.int ((pre.length : Int)))), M, some (.sh (.int x))]
 | 0, q, h, _, _ => by omega
 | n + 1, q, h, hb, ha2 => by
  rcases List.eq_nil_or_concat q with rfl | ⟨p, l, rfl⟩
  ·rw [whileZ_false (by
    have : ¬ (pre.length : Int) < ((ntD (pre ++ [])).length : Int) := by simp
    simp only [e_mAnd, e_m2t, e_m1, e_mVarR, e_mVar, List.getElem?_cons_succ, List.getElem?_cons_zero, R.bind_ok, oLen_lst, oGt_int, this, decide_false, Bool.false_eq_true, if_false])]
   rfl
  ·rw [List.concat_eq_append] at *
   have hl : l < a.length := hb l (by simp)
   have g1 : (pre.length : Int) < ((ntD (pre ++ (p ++ [l]))).length : Int) := by simp; omega
   have i1 : oIx (.lst (ntD (pre ++ (p ++ [l])))) (.int (-1)) = .ok (.int (l : Int)) := oIx_last (by simp)
   have i2 : oIx (rowD a) (.int (l : Int)) = .ok (.int (a.getD l 0)) := oIx_row (by rw [List.getD_eq_getElem?_getD, List.getElem?_eq_getElem hl]; rfl)
   have hc : mAnd (m2t oGt (m1 oLen (mVarR 3)) (mVar 4)) (m2t oGe (m2 oIx (mVar 0) (m2 oIx (mVarR 3) (m1 oNeg (mC (.int 1))))) (mVar 6)) [some (.sh (rowD a)), G, T, some (.ow (ntD (pre ++ (p ++ [l])))), some (.sh (.int ((pre.length : Int)))), M, some (.sh (.int x))] = .ok (decide (x ≤ a.getD l 0)) := by
    simp only [e_mAnd, e_m2t, e_m2, e_m1, e_mC, e_mVarR, e_mVar, List.getElem?_cons_succ, List.getElem?_cons_zero, R.bind_ok, oLen_lst, oGt_int, g1, decide_true, if_true, oNeg_int, i1, i2, oGe_int]
   by_cases c : x ≤ a.getD l 0
   ·rw [decide_eq_true c] at hc
    have hpop : L_best_ahead_1 [some (.sh (rowD a)), G, T, some (.ow (ntD (pre ++ (p ++ [l])))), some (.sh (.int ((pre.length : Int)))), M, some (.sh (.int x))] = .next [some (.sh (rowD a)), G, T, some (.ow (ntD (pre ++ p))), some (.sh (.int ((pre.length : Int)))), M, some (.sh (.int x))] := by
     unfold L_best_ahead_1 zPop
     simp only [List.getElem?_cons_succ, List.getElem?_cons_zero]
     rw [if_neg (by simp)]
     have : (ntD (pre ++ (p ++ [l]))).dropLast = ntD (pre ++ p) := by rw [← List.append_assoc]; simp [ntD]
     rw [this]
     rfl
    rw [whileZ_true hc hpop, while_pop ha n p (by simp at h; omega) (λ j hj => hb j (by simp [hj])) (List.pairwise_append.mp ha2).1]
    have : kp a x (p ++ [l]) = kp a x p := by
     unfold kp
     rw [List.filter_append]
     have : ¬ a.getD l 0 < x := by omega
     simp only [List.filter_cons, List.filter_nil, this, decide_false, Bool.false_eq_true, if_false, List.append_nil]
    rw [this]
   ·rw [decide_eq_false c] at hc
    rw [whileZ_false hc]
    have : kp a x (p ++ [l]) = p ++ [l] := by
     unfold kp
     rw [List.filter_eq_self]
     intro j hj
     have hpw := List.pairwise_append.mp ha2
     rcases List.mem_append.mp hj with hj | hj
     ·have := (hpw.2.2 j hj l (by simp)).2
      rw [decide_eq_true_eq]
      omega
     ·have : j = l := by simpa using hj
      subst this
      rw [decide_eq_true_eq]
      omega
    rw [this]
theorem best_turn {a : List Int} {g m : Nat} {pre q t : List Nat} (ha : a.length ≤ 900) (hm : m < a.length) (Q : Qi a g m q) (hk : pre.length + q.length ≤ m) (ht : t.length = m) : ∃ pre' q' j, Qi a g (m + 1) q' ∧ pre'.length + q'.length ≤ m + 1 ∧ Best a g m j ∧
  L_best_ahead_2 [some (.sh (rowD a)), some (.sh (.int g)), some (.ow (ntD t)), some (.ow (ntD (pre ++ q))), some (.sh (.int ((pre.length : Int)))), some (.sh (.int m)), some (.sh (.int ((a.getD m 0))))] = .next [some (.sh (rowD a)), some (.sh (.int g)), some (.ow (ntD (t ++ [j]))), some (.ow (ntD (pre' ++ q'))), some (.sh (.int ((pre'.length : Int)))), some (.sh (.int m)), some (.sh (.int ((a.getD m 0))))] := by
 have hw := while_pop (a := a) (G := some (.sh (.int (g : Int)))) (T := some (.ow (ntD t))) (M := some (.sh (.int (m : Int)))) (x := a.getD m 0) (pre := pre) (by omega) 1000 q (by omega) (λ j hj => by have := (Q.bd j hj).1; omega) Q.asc
 obtain ⟨h, tl, he, hyes, hno⟩ := Q.next
 have hkl : (kp a (a.getD m 0) q).length ≤ q.length := List.length_filter_le ..
 have hlen : (kp a (a.getD m 0) q).length + 1 = tl.length + 1 := by
  have := congrArg List.length he
  simpa using this
 unfold L_best_ahead_2
 rw [zSeq_next hw]
 have happ : zApp 3 (mVar 5) [some (.sh (rowD a)), some (.sh (.int g)), some (.ow (ntD t)), some (.ow (ntD (pre ++ kp a (a.getD m 0) q))), some (.sh (.int ((pre.length : Int)))), some (.sh (.int m)), some (.sh (.int ((a.getD m 0))))] = .next [some (.sh (rowD a)), some (.sh (.int g)), some (.ow (ntD t)), some (.ow (ntD (pre ++ (h :: tl)))), some (.sh (.int ((pre.length : Int)))), some (.sh (.int m)), some (.sh (.int ((a.getD m 0))))] := by
  rw [zApp_ok (d := .int (m : Int)) (by simp_arith []) rfl (by rw [List.length_map, List.length_append]; omega)]
  rw [← he]
  simp [ntD]
 rw [zSeq_next happ]
 have ih : oIx (.lst (ntD (pre ++ (h :: tl)))) (.int (pre.length : Int)) = .ok (.int (h : Int)) := oIx_lst (atI_some (by simp [ntD]))
 by_cases c : h + g < m
 ·obtain ⟨Q', h', t', rfl, B⟩ := hyes c
  have c1 : (g : Int) < (m : Int) - (h : Int) := by omega
  refine ⟨pre ++ [h], h' :: t', h', Q', by rw [List.length_append]; simp only [List.length_cons, List.length_nil] at hlen ⊢; omega, B, ?_⟩
  rw [zSeq_next (δ' := [some (.sh (rowD a)), some (.sh (.int g)), some (.ow (ntD t)), some (.ow (ntD (pre ++ (h :: h' :: t')))), some (.sh (.int (((pre.length : Int) + 1)))), some (.sh (.int m)), some (.sh (.int ((a.getD m 0))))]) (by
   rw [zIf_yes (by simp only [e_m2t, e_m2, e_mVarR, e_mVar, List.getElem?_cons_succ, List.getElem?_cons_zero, R.bind_ok, ih, oSub_int, oGt_int, c1, decide_true])]
   rfl)]
  have ih2 : oIx (.lst (ntD (pre ++ (h :: h' :: t')))) (.int ((pre.length : Int) + 1)) = .ok (.int (h' : Int)) := by
   rw [show (pre.length : Int) + 1 = ((pre.length + 1 : Nat) : Int) by omega]
   refine oIx_lst (atI_some ?_)
   rw [List.getElem?_map, List.getElem?_append_right (by omega), show pre.length + 1 - pre.length = 1 by omega]
   rfl
  rw [zApp_ok (d := .int (h' : Int)) (by simp only [e_m2, e_mVarR, e_mVar, List.getElem?_cons_succ, List.getElem?_cons_zero, R.bind_ok, ih2]) rfl (by rw [List.length_map]; omega)]
  simp [ntD]
 ·obtain ⟨Q', B⟩ := hno c
  have c1 : ¬ (g : Int) < (m : Int) - (h : Int) := by omega
  refine ⟨pre, h :: tl, h, Q', by rw [List.length_cons]; omega, B, ?_⟩
  rw [zSeq_next (zIf_no (by simp only [e_m2t, e_m2, e_mVarR, e_mVar, List.getElem?_cons_succ, List.getElem?_cons_zero, R.bind_ok, ih, oSub_int, oGt_int, c1, decide_false]))]
  rw [zApp_ok (d := .int (h : Int)) (by simp only [e_m2, e_mVarR, e_mVar, List.getElem?_cons_succ, List.getElem?_cons_zero, R.bind_ok, ih]) rfl (by rw [List.length_map]; omega)]
  simp [ntD]
theorem enumFrom_row : ∀ (l : List Int) (n : Nat), enumFrom n (l.map D.int) = (List.range l.length).map λ k : Nat => D.tup [.int ((n + k : Nat) : Int), .int (l.getD k 0)]
 | [], n => rfl
 | a :: l, n => by
  rw [List.map_cons, enumFrom, enumFrom_row l (n + 1), List.length_cons, List.range_succ_eq_map, List.map_cons, List.map_map]
  refine congr (congrArg _ (by simp)) (List.map_congr_left λ k _ => ?_)
  simp
  omega
theorem best_eq {a : List Int} {g : Nat} (ha : a.length ≤ 900) : ∃ t : List Nat, m_best_ahead [rowD a, .int (g : Int)] = .ok (.lst (ntD t)) ∧ t.length = a.length ∧ ∀ d j, t[d]? = some j → Best a g d j := by
 unfold m_best_ahead F_best_ahead
 rw [zSeq_next (δ' := [some (.sh (rowD a)), some (.sh (.int g)), some (.ow ([])), none, none, none, none]) (by simp [S_best_ahead_0, startE, lim])]
 unfold F_best_ahead_1
 rw [zSeq_next (δ' := [some (.sh (rowD a)), some (.sh (.int g)), some (.ow ([])), some (.ow ([])), none, none, none]) (by simp [S_best_ahead_1, lim])]
 unfold F_best_ahead_2
 rw [zSeq_next (δ' := [some (.sh (rowD a)), some (.sh (.int g)), some (.ow ([])), some (.ow ([])), some (.sh (.int 0)), none, none]) (by simp [S_best_ahead_2])]
 obtain ⟨δ', e, t, pre, q, x5, x6, hQ, hk, htl, hB, rfl⟩ := zFor_next (fit := λ δ => ((mVar 0) δ).bind enumD) (bd := bTup 2 (bsCons (bN 5) (bsCons (bN 6) (bsNil)))) (F := L_best_ahead_2) (δ := [some (.sh (rowD a)), some (.sh (.int g)), some (.ow ([])), some (.ow ([])), some (.sh (.int 0)), none, none]) (ds := enumFrom 0 (a.map D.int))
  (λ m δ => ∃ (t pre q : List Nat) (x5 x6 : Option Sl), Qi a g m q ∧ pre.length + q.length ≤ m ∧ t.length = m ∧ (∀ d j, t[d]? = some j → Best a g d j) ∧ δ = [some (.sh (rowD a)), some (.sh (.int g)), some (.ow (ntD t)), some (.ow (ntD (pre ++ q))), some (.sh (.int ((pre.length : Int)))), x5, x6])
  rfl ⟨[], [], [], none, none, Qi.start a g, by simp, rfl, by simp, rfl⟩ (by
   rintro m d δ hd ⟨t, pre, q, x5, x6, hQ, hk, htl, hB, rfl⟩
   rw [enumFrom_row, List.getElem?_map] at hd
   have hm : m < a.length := by
    rcases Nat.lt_or_ge m a.length with h | h
    ·exact h
    ·rw [List.getElem?_eq_none (by simpa using h)] at hd; cases hd
   rw [List.getElem?_range hm] at hd
   simp only [Option.map_some, Nat.zero_add, Option.some.injEq] at hd
   subst hd
   obtain ⟨pre', q', j, Q', hk', hBj, ht⟩ := best_turn ha hm hQ hk htl
   refine ⟨_, _, bt2 .., .inl ht, t ++ [j], pre', q', _, _, Q', hk', by simp [htl], λ d j' hd => ?_, rfl⟩
   rcases Nat.lt_or_ge d t.length with h | h
   ·rw [List.getElem?_append_left h] at hd
    exact hB d j' hd
   ·rw [List.getElem?_append_right h] at hd
    cases hz : d - t.length with
    | zero =>
     rw [hz] at hd
     simp at hd
     subst hd
     rw [show d = m by omega]
     exact hBj
    | succ n => rw [hz] at hd; simp at hd)
 refine ⟨t, ?_, by rw [htl, enumFrom_len]; simp, hB⟩
 unfold F_best_ahead_3 S_best_ahead_3
 rw [zSeq_next e]
 rfl
def mw (a : List Int) (g d : Nat) : Int := minL ((a.take (d + 1)).drop (d - g))
def nxt (g : Nat) (a r : List Int) : List Int := (List.range a.length).map λ d : Nat => mw a g d + ob r (d : Int)
def stepN (g L : Nat) (o : Option (List Int)) (r : List Int) : List Int := match o with
 | none => obs r L
 | some a => nxt g a r
def NB (g L : Nat) : List (List Int) → Option (List Int) → List (List Int)
 | [], _ => []
 | r :: rs, o => stepN g L o r :: NB g L rs (some (stepN g L o r))
theorem NB_len (g L : Nat) : ∀ (rs : List (List Int)) (o : Option (List Int)), (NB g L rs o).length = rs.length
 | [], _ => rfl
 | r :: rs, o => by simp [NB, NB_len g L rs]
theorem stepN_len {g L : Nat} {o : Option (List Int)} {r : List Int} (h : ∀ a, o = some a → a.length = L) : (stepN g L o r).length = L := by
 cases o with
 | none => exact obs_len r L
 | some a => simp [stepN, nxt, h a rfl]
theorem NB_row {g L : Nat} : ∀ {rs : List (List Int)} {o : Option (List Int)}, (∀ a, o = some a → a.length = L) → ∀ b ∈ NB g L rs o, b.length = L
 | [], _, _, b, hb => by simp [NB] at hb
 | r :: rs, o, h, b, hb => by
  rcases List.mem_cons.mp hb with rfl | hb
  ·exact stepN_len h
  ·exact NB_row (rs := rs) (λ a e => by cases e; exact stepN_len h) b hb
theorem NB_snoc {g L : Nat} : ∀ (rs : List (List Int)) (r : List Int) (o : Option (List Int)), NB g L (rs ++ [r]) o = NB g L rs o ++ [stepN g L ((NB g L rs o).getLast?.or o) r]
 | [], r, o => by simp [NB]
 | s :: rs, r, o => by
  rw [List.cons_append, NB, NB_snoc rs r, NB, List.cons_append]
  congr 3
  cases rs with
  | nil => simp [NB]
  | cons s' rs =>
   rw [List.getLast?_cons]
   simp only [NB, List.getLast?_cons, Option.some_or]
   simp
theorem mem_window {a : List Int} {g d : Nat} {v : Int} : v ∈ (a.take (d + 1)).drop (d - g) ↔ ∃ i, i ≤ d ∧ d ≤ i + g ∧ a[i]? = some v := by
 rw [List.mem_iff_getElem?]
 constructor
 ·rintro ⟨k, h⟩
  rw [List.getElem?_drop] at h
  have hlt : d - g + k < d + 1 := by
   rcases Nat.lt_or_ge (d - g + k) (d + 1) with h' | h'
   ·exact h'
   ·rw [List.getElem?_take_eq_none h'] at h; cases h
  rw [List.getElem?_take_of_lt hlt] at h
  exact ⟨d - g + k, by omega, by omega, h⟩
 ·rintro ⟨i, h1, h2, h3⟩
  refine ⟨i - (d - g), ?_⟩
  rw [List.getElem?_drop, show d - g + (i - (d - g)) = i by omega, List.getElem?_take_of_lt (by omega)]
  exact h3
theorem window_ne {a : List Int} {g d : Nat} (h : d < a.length) : (a.take (d + 1)).drop (d - g) ≠ [] := by
 intro e
 have : a[d] ∈ (a.take (d + 1)).drop (d - g) := mem_window.mpr ⟨d, Nat.le_refl _, by omega, List.getElem?_eq_getElem h⟩
 rw [e] at this
 cases this
theorem getD_some {a : List Int} {i : Nat} {v : Int} (h : a[i]? = some v) : a.getD i 0 = v := by rw [List.getD_eq_getElem?_getD, h]; rfl
theorem mw_le {a : List Int} {g d i : Nat} (hd : d < a.length) (h1 : i ≤ d) (h2 : d ≤ i + g) : mw a g d ≤ a.getD i 0 := by
 have hi : i < a.length := by omega
 rw [getD_some (List.getElem?_eq_getElem hi)]
 exact (minL_spec (window_ne hd)).2 _ (mem_window.mpr ⟨i, h1, h2, List.getElem?_eq_getElem hi⟩)
theorem Best.eq {a : List Int} {g d j : Nat} (hd : d < a.length) (B : Best a g d j) : a.getD j 0 = mw a g d := by
 obtain ⟨i, h1, h2, h3⟩ := mem_window.mp (minL_spec (window_ne (g := g) hd)).1
 have e1 := B.least i h1 h2
 have e2 := mw_le hd B.le B.near
 have e3 : a.getD i 0 = mw a g d := getD_some h3
 omega
theorem zipL_map {t : List Nat} {b : List Int} : ∀ (h : t.length = b.length), zipL (ntD t) (b.map D.int) = (List.range t.length).map λ k : Nat => D.tup [.int ((t.getD k 0 : Nat) : Int), .int (b.getD k 0)] := by
 induction t generalizing b with
 | nil => intro h; cases b <;> simp_all [zipL]
 | cons x t ih =>
  intro h
  cases b with
  | nil => simp at h
  | cons y b =>
   rw [List.length_cons, List.range_succ_eq_map]
   show D.tup [.int (x : Int), .int y] :: zipL (ntD t) (b.map D.int) = D.tup [.int (x : Int), .int y] :: ((List.range t.length).map Nat.succ).map _
   rw [ih (by simpa using h), List.map_map]
   rfl
theorem numbers_behind_eq {a r : List Int} {g : Nat} (ha : a.length ≤ 900) (hr : r.length ≤ 1000000) : m_numbers_behind [rowD a, rowD r, .int (g : Int)] = .ok (rowD (nxt g a r)) := by
 obtain ⟨t, ht, htl, hB⟩ := best_eq (a := a) (g := g) ha
 have ho := own_blots_eq (r := r) (L := a.length) hr (by omega)
 unfold m_numbers_behind F_numbers_behind
 rw [zSeq_next (δ' := [some (.sh (rowD a)), some (.sh (rowD r)), some (.sh (.int g)), some (.sh (rowD (obs r a.length)))]) (by
  show zSet _ _ [some (.sh (rowD a)), some (.sh (rowD r)), some (.sh (.int g)), none] = _
  simp_arith [ho])]
 unfold F_numbers_behind_1
 rw [zRet_ok (d := rowD (nxt g a r)) (by
  rw [e_mL, compG_map (l := List.range t.length) (h := λ k : Nat => D.tup [.int ((t.getD k 0 : Nat) : Int), .int ((obs r a.length).getD k 0)]) (g := λ k : Nat => D.int (mw a g k + ob r (k : Int))) (δ1 := λ k : Nat => [some (.sh (rowD a)), some (.sh (rowD r)), some (.sh (.int g)), some (.sh (rowD (obs r a.length))), some (.sh (.int (((t.getD k 0 : Nat) : Int)))), some (.sh (.int (((obs r a.length).getD k 0))))]) (by
   show ((mCons (mCall m_best_ahead (mCons (mVar 0) (mCons (mVar 2) (mNil)))) (mCons (mVar 3) (mNil))) [some (.sh (rowD a)), some (.sh (rowD r)), some (.sh (.int g)), some (.sh (rowD (obs r a.length)))]).bind zipD = _
   simp_arith [ht]
   show R.ok (zipL (ntD t) ((obs r a.length).map D.int)) = _
   rw [zipL_map (by rw [obs_len, htl])]) (by rw [List.length_range]; omega) (λ k _ => rfl) (λ k hk => by
   have hk := List.mem_range.mp hk
   have hka : k < a.length := by omega
   have hj : t[k]? = some (t.getD k 0) := by rw [List.getD_eq_getElem?_getD, List.getElem?_eq_getElem hk]; rfl
   have B := hB k _ hj
   have hjl : t.getD k 0 < a.length := by have := B.le; omega
   have i1 : oIx (rowD a) (.int ((t.getD k 0 : Nat) : Int)) = .ok (.int (a.getD (t.getD k 0) 0)) := oIx_row (by rw [List.getD_eq_getElem?_getD (i := t.getD k 0), List.getElem?_eq_getElem hjl]; rfl)
   have e2 : (obs r a.length).getD k 0 = ob r (k : Int) := getD_some (by simp [obs, hka])
   rw [← B.eq hka, ← e2]
   simp_arith [i1])]
  rw [R.bind_ok]
  simp [nxt, htl])]
 rfl
theorem fewest_numbers_eq {rows : List (List Int)} {g L : Nat} (hL : L ≤ 900) (hn : rows.length < 1000) (hr : ∀ r ∈ rows, r.length ≤ 1000000) : m_fewest_numbers [rowsD rows, .int (g : Int), .int (L : Int)] = .ok (rowsD (NB g L rows none)) := by
 unfold m_fewest_numbers F_fewest_numbers
 rw [zSeq_next (δ' := [some (.sh (rowsD rows)), some (.sh (.int g)), some (.sh (.int L)), some (.ow ([])), none]) (by simp [S_fewest_numbers_0, startE, lim])]
 obtain ⟨δ', e, x4, h⟩ := zFor_map (f := rowD) (l := rows) (i := 4) (fit := λ δ => ((mVar 0) δ).bind itemsD) (F := L_fewest_numbers_1) (δ := [some (.sh (rowsD rows)), some (.sh (.int g)), some (.sh (.int L)), some (.ow ([])), none])
  (λ k δ => ∃ x4, δ = [some (.sh (rowsD rows)), some (.sh (.int g)), some (.sh (.int L)), some (.ow ((NB g L (rows.take k) none).map rowD)), x4]) rfl ⟨none, rfl⟩ (by
   rintro k r δ hk ⟨x4, rfl⟩
   have hkl := (List.getElem?_eq_some_iff.mp hk).1
   have hrm := hr r (List.mem_of_getElem? hk)
   have ho := own_blots_eq (r := r) (L := L) hrm (by omega)
   have et : rows.take (k + 1) = rows.take k ++ [r] := by rw [List.take_add_one, hk]; rfl
   refine ⟨_, .inl ?_, some (.sh (rowD r)), rfl⟩
   rw [et, NB_snoc]
   have hne := oEq_rows_nil (NB g L (rows.take k) none)
   have hll : (NB g L (rows.take k) none).length ≤ 1000 := by rw [NB_len, List.length_take]; omega
   have hrow : ∀ b ∈ NB g L (rows.take k) none, b.length = L := NB_row (λ a e => by cases e)
   generalize NB g L (rows.take k) none = P at *
   show L_fewest_numbers_1 [some (.sh (rowsD rows)), some (.sh (.int g)), some (.sh (.int L)), some (.ow (P.map rowD)), some (.sh (rowD r))] = _
   unfold L_fewest_numbers_1
   rcases List.eq_nil_or_concat P with rfl | ⟨p, b, rfl⟩
   ·rw [zIf_yes (by simp_arith [hne]; rfl), zApp_ok (d := rowD (obs r L)) (by simp_arith [ho]) rfl (by simp)]
    simp [stepN]
   ·rw [List.concat_eq_append] at *
    have hb := hrow b (by simp)
    have hnb := numbers_behind_eq (a := b) (r := r) (g := g) (by omega) hrm
    have il : oIx (.lst ((p ++ [b]).map rowD)) (.int (-1)) = .ok (rowD b) := oIx_last (by simp)
    have hem : (p ++ [b]).isEmpty = false := by simp
    rw [hem] at hne
    rw [zIf_no (by simp_arith [hne]), zApp_ok (d := rowD (nxt g b r)) (by simp_arith [il, hnb]) rfl (by rw [List.length_map]; omega)]
    simp [stepN])
 unfold F_fewest_numbers_1 S_fewest_numbers_1
 rw [zSeq_next e, h, List.take_length]
 rfl
theorem oIndex_ints {r : List Int} {m : Int} (h : m ∈ r) (hl : r.length ≤ 1000000) : oIndex (rowD r) [.int m] = .ok (.int ((r.findIdx (· == m) : Nat) : Int)) := by
 have hix : ixP (r.map D.int) (.int m) = r.findIdx (· == m) := by
  unfold ixP
  rw [List.findIdx_map]
  congr 1
 have hlt : r.findIdx (· == m) < r.length := List.findIdx_lt_length.mpr ⟨m, h, by simp⟩
 unfold oIndex
 simp only
 rw [show okP (.int m) = true from rfl, show okP (.lst (r.map D.int)) = true from okP_row r, hix, List.length_map]
 simp [hlt, hl]
theorem oMinL_row {r : List Int} (h : r ≠ []) : oMinL (rowD r) = .ok (.int (minL r)) := by
 unfold oMinL
 simp only [intsD_map]
 cases r with
 | nil => exact absurd rfl h
 | cons a r => rfl
theorem ntD_eq (l : List Nat) : ntD l = (l.map λ n : Nat => (n : Int)).map D.int := by simp [ntD]
structure Days (g L : Nat) (N : List (List Int)) (ds : List Nat) : Prop where
 len : ds.length = N.length
 bd : ∀ d ∈ ds, d < L
 best : ∀ (k : Nat) a x y, N[k]? = some a → ds[k]? = some x → ds[k + 1]? = some y → Best a g y x
 last : ∀ a x, N.getLast? = some a → ds.getLast? = some x → a.getD x 0 = minL a
theorem Days.cons {g L : Nat} {N : List (List Int)} {ds : List Nat} {a : List Int} {x : Nat} (h : Days g L N ds) (hx : x < L) (h1 : ∀ y, ds.head? = some y → Best a g y x) (h2 : ds = [] → a.getD x 0 = minL a) : Days g L (a :: N) (x :: ds) where
 len := by simp [h.len]
 bd := λ d hd => by
  rcases List.mem_cons.mp hd with rfl | hd
  ·exact hx
  ·exact h.bd d hd
 best := λ k b u v hb hu hv => by
  cases k with
  | zero =>
   cases hb; cases hu
   exact h1 v (by rw [List.head?_eq_getElem?]; simpa using hv)
  | succ k => exact h.best k b u v (by simpa using hb) (by simpa using hu) (by simpa using hv)
 last := λ b u hb hu => by
  rcases List.eq_nil_or_concat ds with rfl | ⟨ds', z, rfl⟩
  ·have hN : N = [] := by have := h.len; simpa using this.symm
   subst hN
   cases hb; cases hu
   exact h2 rfl
  ·rw [List.concat_eq_append] at *
   have hNe : N ≠ [] := by
    intro e
    have := h.len
    rw [e] at this
    simp at this
   refine h.last b u ?_ ?_
   ·rw [List.getLast?_cons_of_ne_nil hNe] at hb; exact hb
   ·rw [List.getLast?_cons_of_ne_nil (by simp)] at hu; exact hu
theorem days_eq {N : List (List Int)} {g L : Nat} (hL : L ≤ 900) (hL1 : 1 ≤ L) (hn : N.length < 1000) (hN : ∀ a ∈ N, a.length = L) : ∃ ds : List Nat, m_days_with_fewest [rowsD N, .int (g : Int)] = .ok (.lst (ntD ds)) ∧ Days g L N ds := by
 unfold m_days_with_fewest F_days_with_fewest
 rw [zSeq_next (δ' := [some (.sh (rowsD N)), some (.sh (.int g)), some (.ow ([])), none, none]) (by simp [S_days_with_fewest_0, startE, lim])]
 obtain ⟨δ', e, ds, x3, x4, hD, rfl⟩ := zFor_map (f := rowD) (l := N.reverse) (i := 3) (fit := λ δ => ((mVar 0) δ).bind revD) (F := L_days_with_fewest_1) (δ := [some (.sh (rowsD N)), some (.sh (.int g)), some (.ow ([])), none, none])
  (λ k δ => ∃ (ds : List Nat) (x3 x4 : Option Sl), Days g L (N.drop (N.length - k)) ds ∧ δ = [some (.sh (rowsD N)), some (.sh (.int g)), some (.ow (ntD ds.reverse)), x3, x4]) (by simp) ⟨[], none, none, ⟨by simp, by simp, by simp, by simp⟩, rfl⟩ (by
   rintro k a δ hk ⟨ds, x3, x4, hD, rfl⟩
   have hkl : k < N.length := by have := (List.getElem?_eq_some_iff.mp hk).1; simpa using this
   have hr : N[N.length - 1 - k]? = some a := by rw [← List.getElem?_reverse hkl]; exact hk
   have ha := hN a (List.mem_of_getElem? hr)
   have hsplit : N.drop (N.length - (k + 1)) = a :: N.drop (N.length - k) := by
    rw [List.drop_eq_getElem_cons (by omega)]
    congr 1
    ·have h2 := (List.getElem?_eq_some_iff.mp hr).2
     rw [← h2]
     congr 1
     omega
    ·congr 1
     omega
   have hdl : ds.length ≤ 1000 := by rw [hD.len, List.length_drop]; omega
   have hne := oEq_row_nil (ds.reverse.map λ n : Nat => (n : Int))
   have hane : a ≠ [] := by intro z; rw [z] at ha; simp at ha; omega
   obtain ⟨t, ht, htl, hB⟩ := best_eq (a := a) (g := g) (by omega)
   rw [hsplit]
   rw [ntD_eq]
   show ∃ δ2, (L_days_with_fewest_1 [some (.sh (rowsD N)), some (.sh (.int g)), some (.ow ((ds.reverse.map λ n : Nat => (n : Int)).map D.int)), some (.sh (rowD a)), x4] = _ ∨ _) ∧ _
   unfold L_days_with_fewest_1
   cases ds with
   | nil =>
    have hmin := oMinL_row hane
    have hm := (minL_spec hane).1
    have hix := oIndex_ints hm (by omega)
    have hlt : a.findIdx (· == minL a) < a.length := List.findIdx_lt_length.mpr ⟨_, hm, by simp⟩
    have hval : a.getD (a.findIdx (· == minL a)) 0 = minL a := by
     have := List.findIdx_getElem (p := (· == minL a)) (w := hlt)
     rw [getD_some (List.getElem?_eq_getElem hlt)]
     simpa using this
    generalize a.findIdx (· == minL a) = x at *
    refine ⟨[some (.sh (rowsD N)), some (.sh (.int g)), some (.ow (ntD [x])), some (.sh (rowD a)), some (.sh (.int x))], .inl ?_, [x], _, _, hD.cons (by omega) (by simp) (λ _ => hval), rfl⟩
    rw [zSeq_next (δ' := [some (.sh (rowsD N)), some (.sh (.int g)), some (.ow ([])), some (.sh (rowD a)), some (.sh (.int x))]) (by
     rw [zIf_yes (by simp_arith [hne]; rfl)]
     have e1 : mBL oIndex (mVar 3) (mCons (m1 oMinL (mVar 3)) (mNil)) [some (.sh (rowsD N)), some (.sh (.int g)), some (.ow (([].reverse.map λ n : Nat => (n : Int)).map D.int)), some (.sh (rowD a)), x4] = .ok (.int (x : Int)) := by
      unfold mBL
      simp_arith [hmin, hix]
     exact (zSet_ok e1).trans rfl)]
    rw [zApp_ok (d := .int (x : Int)) (by simp_arith []) rfl (by simp)]
    rfl
   | cons y ds' =>
    have hy : y < L := hD.bd y List.mem_cons_self
    have hyt : y < t.length := by omega
    have B := hB y _ (List.getElem?_eq_getElem hyt)
    have hem : ((y :: ds').reverse.map λ n : Nat => (n : Int)).isEmpty = false := by simp
    rw [hem] at hne
    have il : oIx (.lst (((y :: ds').reverse.map λ n : Nat => (n : Int)).map D.int)) (.int (-1)) = .ok (.int (y : Int)) := oIx_last (by simp)
    have it : oIx (.lst (ntD t)) (.int (y : Int)) = .ok (.int (t[y] : Int)) := oIx_lst (atI_some (by simp [hyt]))
    generalize t[y] = x at *
    refine ⟨[some (.sh (rowsD N)), some (.sh (.int g)), some (.ow (ntD (x :: y :: ds').reverse)), some (.sh (rowD a)), some (.sh (.int x))], .inl ?_, x :: y :: ds', _, _, hD.cons (by have := B.le; omega) (λ z hz => by cases hz; exact B) (by simp), rfl⟩
    rw [zSeq_next (δ' := [some (.sh (rowsD N)), some (.sh (.int g)), some (.ow (((y :: ds').reverse.map λ n : Nat => (n : Int)).map D.int)), some (.sh (rowD a)), some (.sh (.int x))]) (by
     rw [zIf_no (by simp_arith [hne])]
     simp_arith [ht, il, it])]
    rw [zApp_ok (d := .int (x : Int)) (by simp_arith []) rfl (by simp at hdl ⊢; omega)]
    simp [ntD])
 refine ⟨ds, ?_, by simpa using hD⟩
 unfold F_days_with_fewest_1 S_days_with_fewest_1
 rw [zSeq_next e]
 simp [F_days_with_fewest_2, S_days_with_fewest_2, F_days_with_fewest_3, S_days_with_fewest_3, frzE, zSeq]
def plcs (rows : List (List Int)) (ds : List Nat) : List Nat := (List.range rows.length).filter λ k => !decide (((ds.getD k 0 : Nat) : Int) ∈ rows.getD k [])
theorem enumFrom_rows : ∀ (l : List (List Int)) (n : Nat), enumFrom n (l.map rowD) = (List.range l.length).map λ k : Nat => D.tup [.int ((n + k : Nat) : Int), rowD (l.getD k [])]
 | [], n => rfl
 | a :: l, n => by
  rw [List.map_cons, enumFrom, enumFrom_rows l (n + 1), List.length_cons, List.range_succ_eq_map, List.map_cons, List.map_map]
  refine congr (congrArg _ (by simp)) (List.map_congr_left λ k _ => ?_)
  simp
  omega
theorem fewest_blots_eq {rows : List (List Int)} {g L : Nat} (hL : L ≤ 900) (hL1 : 1 ≤ L) (hn : rows.length < 1000) (hr : ∀ r ∈ rows, r.length ≤ 1000000) : ∃ ds : List Nat, Days g L (NB g L rows none) ds ∧
  m_fewest_blots [rowsD rows, .int (g : Int), .int (L : Int)] = .ok (.tup [.lst (ntD (plcs rows ds)), .lst (ntD ds), rowsD (NB g L rows none)]) := by
 have hf := fewest_numbers_eq (rows := rows) (g := g) hL hn hr
 obtain ⟨ds, hds, hD⟩ := days_eq (N := NB g L rows none) (g := g) hL hL1 (by rw [NB_len]; exact hn) (NB_row (λ a e => by cases e))
 refine ⟨ds, hD, ?_⟩
 have hlen := hD.len
 rw [NB_len] at hlen
 generalize NB g L rows none = N at *
 unfold m_fewest_blots F_fewest_blots
 rw [zSeq_next (δ' := [some (.sh (rowsD rows)), some (.sh (.int g)), some (.sh (.int L)), some (.sh (rowsD N)), none, none]) (by
  show S_fewest_blots_0 [some (.sh (rowsD rows)), some (.sh (.int g)), some (.sh (.int L)), none, none, none] = _
  unfold S_fewest_blots_0
  simp_arith [hf])]
 unfold F_fewest_blots_1
 rw [zSeq_next (δ' := [some (.sh (rowsD rows)), some (.sh (.int g)), some (.sh (.int L)), some (.sh (rowsD N)), some (.sh (.lst (ntD ds))), none]) (by
  unfold S_fewest_blots_1
  simp_arith [hds])]
 unfold F_fewest_blots_2
 rw [zSeq_next (δ' := [some (.sh (rowsD rows)), some (.sh (.int g)), some (.sh (.int L)), some (.sh (rowsD N)), some (.sh (.lst (ntD ds))), some (.sh (.lst (ntD (plcs rows ds))))]) (by
  unfold S_fewest_blots_2
  refine (zSet_ok (d := .lst (ntD (plcs rows ds))) ?_).trans rfl
  rw [e_mL, compG_filter (l := List.range rows.length) (h := λ k : Nat => D.tup [.int ((0 + k : Nat) : Int), rowD (rows.getD k [])]) (g := λ k : Nat => D.int (k : Int)) (p := λ k => !decide (((ds.getD k 0 : Nat) : Int) ∈ rows.getD k [])) (δ1 := λ k : Nat => [some (.sh (rowsD rows)), some (.sh (.int g)), some (.sh (.int L)), some (.sh (rowsD N)), some (.sh (.lst (ntD ds))), none, some (.sh (.int (((0 + k : Nat) : Int)))), some (.sh (rowD (rows.getD k [])))]) (by
   show R.ok (enumFrom 0 (rows.map rowD)) = _
   rw [enumFrom_rows]) (by simp; omega) (λ k _ => rfl) (λ k hk => by
   have hk := List.mem_range.mp hk
   have hkd : k < ds.length := by omega
   have i1 : oIx (.lst (ntD ds)) (.int ((0 + k : Nat) : Int)) = .ok (.int ((ds.getD k 0 : Nat) : Int)) := by
    rw [Nat.zero_add]
    refine oIx_lst (atI_some ?_)
    rw [List.getElem?_map, List.getElem?_eq_getElem hkd, List.getD_eq_getElem?_getD, List.getElem?_eq_getElem hkd]
    rfl
   have hin := oNin_row ((ds.getD k 0 : Nat) : Int) (rows.getD k [])
   simp_arith [i1, hin]) (λ k _ _ => by simp_arith [Nat.zero_add])]
  rfl)]
 unfold F_fewest_blots_3 S_fewest_blots_3
 simp_arith [finR_ret]
def Cn (g : Int) : Option Int → List (List Int) → List Int → Prop
 | _, [], t => t = []
 | o, r :: rs, t => ∃ d u, t = d :: u ∧ d ∈ r ∧ (∀ a, o = some a → a ≤ d ∧ d ≤ a + g) ∧ Cn g (some d) rs u
theorem Cn_ix {g : Int} : ∀ {rs : List (List Int)} {o : Option Int} {t : List Int}, Cn g o rs t → t.length = rs.length ∧ (∀ (k : Nat) r d, rs[k]? = some r → t[k]? = some d → d ∈ r) ∧ (∀ (k : Nat) x y, t[k]? = some x → t[k + 1]? = some y → x ≤ y ∧ y ≤ x + g)
 | [], _, t, h => by
  have : t = [] := h
  subst this
  exact ⟨rfl, by simp, by simp⟩
 | r :: rs, o, t, h => by
  obtain ⟨d, u, rfl, h1, _, h3⟩ := h
  obtain ⟨i1, i2, i3⟩ := Cn_ix h3
  refine ⟨by simp [i1], λ k r' d' hr hd => ?_, λ k x y hx hy => ?_⟩
  ·cases k with
   | zero => cases hr; cases hd; exact h1
   | succ k => exact i2 k r' d' (by simpa using hr) (by simpa using hd)
  ·cases k with
   | zero =>
    cases hx
    cases rs with
    | nil =>
     have : u = [] := h3
     subst this
     cases hy
    | cons r' rs =>
     obtain ⟨y', v, rfl, _, h5, _⟩ := h3
     cases hy
     exact h5 d rfl
   | succ k => exact i3 k x y (by simpa using hx) (by simpa using hy)
theorem Cn_of_ix {g : Int} : ∀ {rs : List (List Int)} {o : Option Int} {t : List Int}, t.length = rs.length → (∀ (k : Nat) r d, rs[k]? = some r → t[k]? = some d → d ∈ r) → (∀ (k : Nat) x y, t[k]? = some x → t[k + 1]? = some y → x ≤ y ∧ y ≤ x + g) → (∀ a d, o = some a → t[0]? = some d → a ≤ d ∧ d ≤ a + g) → Cn g o rs t
 | [], _, t, h, _, _, _ => by
  have : t = [] := by simpa using h
  exact this
 | r :: rs, o, t, h, h2, h3, h4 => by
  cases t with
  | nil => cases h
  | cons d u =>
   refine ⟨d, u, rfl, h2 0 r d rfl rfl, λ a e => h4 a d e rfl, Cn_of_ix (by simpa using h) (λ k r' d' hr hd => h2 (k + 1) r' d' (by simpa using hr) (by simpa using hd)) (λ k x y hx hy => h3 (k + 1) x y (by simpa using hx) (by simpa using hy)) λ a e ha he => ?_⟩
   cases ha
   exact h3 0 d e rfl (by simpa using he)
def cst : List (List Int) → List Nat → Int
 | r :: rs, d :: t => ob r (d : Int) + cst rs t
 | _, _ => 0
def Ch (g L : Nat) : Option Nat → List Nat → Prop
 | _, [] => True
 | o, d :: t => d < L ∧ (∀ p, o = some p → p ≤ d ∧ d ≤ p + g) ∧ Ch g L (some d) t
theorem nxt_get {g : Nat} {a r : List Int} {x : Nat} (h : x < a.length) : (nxt g a r).getD x 0 = mw a g x + ob r (x : Int) := getD_some (by simp [nxt, h])
theorem obs_get {r : List Int} {L x : Nat} (h : x < L) : (obs r L).getD x 0 = ob r (x : Int) := getD_some (by simp [obs, h])
theorem last_cons {α : Type} (b : α) (l : List α) (a : α) : (b :: l).getLast?.getD a = l.getLast?.getD b := by
 rw [List.getLast?_cons]
 rfl
theorem NB_low {g L : Nat} : ∀ (rs : List (List Int)) (a : List Int) (x : Nat) (t : List Nat), a.length = L → t.length = rs.length → Ch g L (some x) t →
  (((NB g L rs (some a)).getLast?.getD a).getD (t.getLast?.getD x) 0) ≤ a.getD x 0 + cst rs t
 | [], a, x, t, _, ht, _ => by
  have : t = [] := by simpa using ht
  subst this
  simp [NB, cst]
 | r :: rs, a, x, [], _, ht, _ => by simp at ht
 | r :: rs, a, x, y :: t, ha, ht, hc => by
  obtain ⟨h1, h2, h3⟩ := hc
  obtain ⟨h4, h5⟩ := h2 x rfl
  have ih := NB_low rs (nxt g a r) y t (by simp [nxt, ha]) (by simpa using ht) h3
  rw [NB, last_cons, last_cons]
  have e1 : (nxt g a r).getD y 0 = mw a g y + ob r (y : Int) := nxt_get (by omega)
  have e2 := mw_le (a := a) (g := g) (d := y) (i := x) (by omega) h4 h5
  have e3 : cst (r :: rs) (y :: t) = ob r (y : Int) + cst rs t := rfl
  have e4 : stepN g L (some a) r = nxt g a r := rfl
  rw [e4]
  omega
theorem NB_exact {g L : Nat} : ∀ (rs : List (List Int)) (a : List Int) (x : Nat) (t : List Nat), a.length = L → Days g L (a :: NB g L rs (some a)) (x :: t) →
  (((NB g L rs (some a)).getLast?.getD a).getD (t.getLast?.getD x) 0) = a.getD x 0 + cst rs t
 | [], a, x, t, _, hd => by
  have : t = [] := by have := hd.len; simpa [NB] using this
  subst this
  simp [NB, cst]
 | r :: rs, a, x, [], _, hd => by have := hd.len; simp [NB] at this
 | r :: rs, a, x, y :: t, ha, hd => by
  have hy : y < L := hd.bd y (by simp)
  have B : Best a g y x := hd.best 0 a x y rfl rfl rfl
  have e4 : stepN g L (some a) r = nxt g a r := rfl
  have hd' : Days g L (nxt g a r :: NB g L rs (some (nxt g a r))) (y :: t) := by
   refine ⟨by have := hd.len; simpa [NB, e4] using this, λ d h => hd.bd d (List.mem_cons_of_mem _ h), λ k b u v h1 h2 h3 => hd.best (k + 1) b u v (by simpa [NB, e4] using h1) (by simpa using h2) (by simpa using h3), λ b u h1 h2 => hd.last b u ?_ ?_⟩
   ·rw [NB, e4, List.getLast?_cons_of_ne_nil (by simp)]; exact h1
   ·rw [List.getLast?_cons_of_ne_nil (by simp)]; exact h2
  have ih := NB_exact rs (nxt g a r) y t (by simp [nxt, ha]) hd'
  rw [NB, last_cons, last_cons]
  have e1 : (nxt g a r).getD y 0 = mw a g y + ob r (y : Int) := nxt_get (by omega)
  have e2 := B.eq (by omega : y < a.length)
  have e3 : cst (r :: rs) (y :: t) = ob r (y : Int) + cst rs t := rfl
  rw [e4]
  omega
theorem plcs_cst : ∀ (rs : List (List Int)) (t : List Nat), t.length = rs.length → ((plcs rs t).length : Int) = cst rs t
 | [], t, h => by
  have : t = [] := by simpa using h
  subst this
  rfl
 | r :: rs, [], h => by simp at h
 | r :: rs, d :: t, h => by
  have ih := plcs_cst rs t (by simpa using h)
  have e : plcs (r :: rs) (d :: t) = (if (d : Int) ∈ r then [] else [0]) ++ (plcs rs t).map Nat.succ := by
   unfold plcs
   rw [List.length_cons, List.range_succ_eq_map, List.filter_cons, List.filter_map]
   by_cases c : (d : Int) ∈ r
   ·simp [c, Function.comp_def]
   ·simp [c, Function.comp_def]
  rw [e, List.length_append, List.length_map]
  show _ = ob r (d : Int) + cst rs t
  rw [← ih]
  unfold ob
  by_cases c : (d : Int) ∈ r
  ·simp [c]
  ·simp [c]
theorem plcs_least {g L : Nat} {rows : List (List Int)} {ds : List Nat} (hd : Days g L (NB g L rows none) ds) {N : List Int} (hN : (NB g L rows none).getLast? = some N) : ((plcs rows ds).length : Int) = minL N := by
 have hlen := hd.len
 rw [NB_len] at hlen
 rw [plcs_cst rows ds hlen]
 cases rows with
 | nil => cases hN
 | cons r rs =>
  cases ds with
  | nil => simp at hlen
  | cons x t =>
   have hx : x < L := hd.bd x (by simp)
   have ex := NB_exact rs (obs r L) x t (obs_len r L) hd
   rw [obs_get hx] at ex
   have hN' : (NB g L rs (some (obs r L))).getLast?.getD (obs r L) = N := by
    have : (NB g L (r :: rs) none).getLast? = some N := hN
    rw [NB, List.getLast?_cons] at this
    exact Option.some.inj this
   have hl := hd.last N (t.getLast?.getD x) hN (by rw [List.getLast?_cons])
   rw [hN', hl] at ex
   rw [ex]
   rfl
theorem least_le {g L : Nat} {rows : List (List Int)} {t : List Nat} (ht : t.length = rows.length) (hc : Ch g L none t) {N : List Int} (hN : (NB g L rows none).getLast? = some N) : minL N ≤ cst rows t := by
 cases rows with
 | nil => cases hN
 | cons r rs =>
  cases t with
  | nil => simp at ht
  | cons x t =>
   obtain ⟨hx, _, h3⟩ := hc
   have ex := NB_low rs (obs r L) x t (obs_len r L) (by simpa using ht) h3
   rw [obs_get hx] at ex
   have hN' : (NB g L rs (some (obs r L))).getLast?.getD (obs r L) = N := by
    have : (NB g L (r :: rs) none).getLast? = some N := hN
    rw [NB, List.getLast?_cons] at this
    exact Option.some.inj this
   rw [hN'] at ex
   have hNl : N.length = L := NB_row (rs := r :: rs) (o := none) (λ a e => by cases e) N (List.mem_of_getLast? hN)
   have hy : t.getLast?.getD x < L := by
    cases hz : t.getLast? with
    | none => exact hx
    | some z =>
     have hm := List.mem_of_getLast? hz
     have key : ∀ (t : List Nat) (o : Option Nat), Ch g L o t → ∀ z ∈ t, z < L := by
      intro t
      induction t with
      | nil => intro o _ z hz; cases hz
      | cons d t ih =>
       intro o h z hz
       rcases List.mem_cons.mp hz with rfl | hz
       ·exact h.1
       ·exact ih _ h.2.2 z hz
     exact key t _ h3 z hm
   have hne : N ≠ [] := by intro e; rw [e] at hNl; simp at hNl; omega
   have := (minL_spec hne).2 (N.getD (t.getLast?.getD x) 0) (by
    rw [getD_some (List.getElem?_eq_getElem (by omega : t.getLast?.getD x < N.length))]
    exact List.getElem_mem _)
   have e3 : cst (r :: rs) (x :: t) = ob r (x : Int) + cst rs t := rfl
   omega
def opn (L : Nat) (rows : List (List Int)) (S : List Nat) : List (List Int) := S.foldl (λ m k => m.set k (rngI 0 L)) rows
theorem opn_len {L : Nat} : ∀ (S : List Nat) (rows : List (List Int)), (opn L rows S).length = rows.length
 | [], _ => rfl
 | k :: S, rows => by
  show (opn L (rows.set k (rngI 0 L)) S).length = _
  rw [opn_len S, List.length_set]
theorem opn_get {L : Nat} : ∀ (S : List Nat) (rows : List (List Int)) (k : Nat), k < rows.length → (opn L rows S)[k]? = if k ∈ S then some (rngI 0 L) else rows[k]?
 | [], _, _, _ => by simp [opn]
 | j :: S, rows, k, h => by
  show (opn L (rows.set j (rngI 0 L)) S)[k]? = _
  rw [opn_get S _ k (by simpa using h)]
  by_cases c : k ∈ S
  ·simp [c]
  ·by_cases c2 : k = j
   ·subst c2
    simp [c, h]
   ·have c3 : ¬ j = k := λ z => c2 z.symm
    simp [c, c2, List.getElem?_set_ne c3]
theorem Days.chain {g L : Nat} {rows : List (List Int)} {ds : List Nat} (hd : Days g L (NB g L rows none) ds) (hN : (NB g L rows none).length = rows.length) : ∀ (k : Nat) x y, ds[k]? = some x → ds[k + 1]? = some y → x ≤ y ∧ y ≤ x + g := λ k x y h1 h2 => by
 have hk := (List.getElem?_eq_some_iff.mp h1).1
 have hkN : k < (NB g L rows none).length := by rw [← hd.len]; exact hk
 have B := hd.best k _ x y (List.getElem?_eq_getElem hkN) h1 h2
 exact ⟨B.le, B.near⟩
theorem blots_chain {g L : Nat} {rows : List (List Int)} {ds : List Nat} (hd : Days g L (NB g L rows none) ds) : Cn (g : Int) none (opn L rows (plcs rows ds)) (ds.map λ n : Nat => (n : Int)) := by
 have hlen := hd.len
 rw [NB_len] at hlen
 refine Cn_of_ix (by rw [List.length_map, opn_len, hlen]) (λ k r d hr hdk => ?_) (λ k x y hx hy => ?_) (λ a d e => by cases e)
 ·rw [List.getElem?_map] at hdk
  cases hz : ds[k]? with
  | none => rw [hz] at hdk; cases hdk
  | some n =>
   rw [hz] at hdk
   have hdk : (n : Int) = d := by simpa using hdk
   subst hdk
   have hk := (List.getElem?_eq_some_iff.mp hz).1
   have hkl : k < rows.length := by omega
   rw [opn_get _ rows k hkl] at hr
   split at hr
   ·cases hr
    exact mem_rngI.mpr ⟨by omega, by have := hd.bd n (List.mem_of_getElem? hz); omega⟩
   ·rename_i hc
    have e1 : ds.getD k 0 = n := by rw [List.getD_eq_getElem?_getD, hz]; rfl
    have e2 : rows.getD k [] = r := by rw [List.getD_eq_getElem?_getD, hr]; rfl
    by_cases c : (n : Int) ∈ r
    ·exact c
    ·exfalso
     refine hc (List.mem_filter.mpr ⟨List.mem_range.mpr hkl, ?_⟩)
     rw [e1, e2]
     simp [c]
 ·rw [List.getElem?_map] at hx hy
  cases h1 : ds[k]? with
  | none => rw [h1] at hx; cases hx
  | some n =>
   cases h2 : ds[k + 1]? with
   | none => rw [h2] at hy; cases hy
   | some m =>
    rw [h1] at hx
    rw [h2] at hy
    have hx : (n : Int) = x := by simpa using hx
    have hy : (m : Int) = y := by simpa using hy
    have := hd.chain (NB_len ..) k n m h1 h2
    omega
theorem oSl_tail (r : List Int) : oSl (rowD r) (some 1) none = .ok (rowD (r.drop 1)) := by
 simp only [oSl, rowD]
 cases r with
 | nil => rfl
 | cons a r =>
  have := cutD_from ((a :: r).map D.int) (a := 1) (by simp)
  rw [show ((1 : Nat) : Int) = 1 from rfl] at this
  rw [this, ← List.map_drop]
theorem rngS_get {n st : Int} {k : Nat} {d : D} (hst : 0 < st) (h : (rngS 0 n st)[k]? = some d) : ∃ j : Nat, d = .int (j : Int) ∧ (j : Int) < n := by
 unfold rngS at h
 rw [List.getElem?_map] at h
 cases q : (List.range (Builtin.Range.rangeSize 0 n st).toNat)[k]? with
 | none => rw [q] at h; cases h
 | some j =>
  rw [q] at h
  have hk := (List.getElem?_eq_some_iff.mp q).1
  rw [List.length_range] at hk
  rw [List.getElem?_range hk] at q
  cases q
  cases h
  obtain ⟨h1, h2, h3⟩ := rangeSize_bd (a := 0) (b := n) hst
  have hn : 0 < n := by
   rcases h2 with h2 | h2 <;> omega
  have h4 := h3 hn
  have h5 : (k : Int) * st ≤ (Builtin.Range.rangeSize 0 n st - 1) * st := Int.mul_le_mul_of_nonneg_right (by omega) (by omega)
  rw [Int.sub_mul] at h5
  have h6 : 0 ≤ (k : Int) * st := Int.mul_nonneg (by omega) (by omega)
  have e1 : (0 : Int) + (k : Int) * st = (k : Int) * st := by omega
  dsimp only
  rw [e1]
  generalize (k : Int) * st = m at *
  refine ⟨m.toNat, by congr 1; omega, ?_⟩
  generalize Builtin.Range.rangeSize 0 n st * st = z at *
  omega
theorem chain_eq {rows : List (List Int)} {g : Int} {t : List Int} (h : Cn g none rows t) (hn : rows.length < 1000) : m_law_chain [rowD t, rowsD rows, .int g] = .ok (.bl true) := by
 obtain ⟨h1, h2, h3⟩ := Cn_ix h
 unfold m_law_chain F_law_chain
 rw [zSeq_next (δ' := [some (.sh (rowD t)), some (.sh (rowsD rows)), some (.sh (.int g)), none]) (by simp [S_law_chain_0, startE, isTy, h1])]
 obtain ⟨δ', e, x3, hx⟩ := zFor_next (fit := λ δ => ((mCons (m1 oLen (mVar 1)) (mNil)) δ).bind iR1) (bd := bN 3) (F := L_law_chain_1) (δ := [some (.sh (rowD t)), some (.sh (rowsD rows)), some (.sh (.int g)), none]) (ds := rngD 0 rows.length)
  (λ k δ => ∃ x3 : Option Sl, δ = [some (.sh (rowD t)), some (.sh (rowsD rows)), some (.sh (.int g)), x3]) (fit1_len rfl (List.length_map _) (by omega)) ⟨none, rfl⟩ (by
   rintro k d δ hd ⟨x3, rfl⟩
   obtain ⟨rfl, hk⟩ := rngD_get hd
   have hk' : k < rows.length := by omega
   rw [Int.zero_add]
   have at1 : t[k]? = some t[k] := List.getElem?_eq_getElem (by omega)
   have ar1 : rows[k]? = some rows[k] := List.getElem?_eq_getElem hk'
   have hm := h2 k _ _ ar1 at1
   have i1 : oIx (rowD t) (.int (k : Int)) = .ok (.int t[k]) := oIx_row at1
   have i2 : oIx (rowsD rows) (.int (k : Int)) = .ok (rowD rows[k]) := oIx_rows ar1
   have hin := oNin_row t[k] rows[k]
   rw [decide_eq_true hm] at hin
   refine ⟨_, [some (.sh (rowD t)), some (.sh (rowsD rows)), some (.sh (.int g)), some (.sh (.int k))], rfl, .inl ?_, _, rfl⟩
   unfold L_law_chain_1
   rw [zSeq_next (zIf_no (by simp_arith [i1, i2, whole_eq, hin, Bool.not_true]))]
   cases k with
   | zero =>
    rw [zSeq_next (zIf_no (by simp_arith [Int.natCast_zero, Int.lt_irrefl]))]
    rw [zIf_no (by simp_arith [Int.natCast_zero, Int.lt_irrefl])]
    rfl
   | succ j =>
    have at0 : t[j]? = some t[j] := List.getElem?_eq_getElem (by omega)
    have i0 : oIx (rowD t) (.int (((j + 1 : Nat) : Int) - 1)) = .ok (.int t[j]) := by
     rw [show (((j + 1 : Nat) : Int) - 1) = (j : Int) by push_cast; omega]
     exact oIx_row at0
    have hb := h3 j _ _ at0 at1
    have g0 : (0 : Int) < ((j + 1 : Nat) : Int) := by omega
    have n1 : ¬ t[j + 1] < t[j] := by omega
    have n2 : ¬ t[j] + g < t[j + 1] := by omega
    rw [zSeq_next (zIf_no (by simp_arith [g0, i0, i1, n1]))]
    rw [zIf_no (by simp_arith [g0, i0, i1, n2])]
    rfl)
 unfold F_law_chain_1 S_law_chain_1
 rw [zSeq_next e, hx]
 simp [F_law_chain_2, S_law_chain_2]
end Lw
namespace Lw
open PySem L2 L3
local macro_rules | `(tactic| simp_arith [$ls,*]) => `(tactic| simp -implicitDefEqProofs only [e_zSet, e_zIf, e_zRet, e_zOwn, e_zApp, e_zDrop, e_zAsg, e_mCall, e_mCons, e_mVar, e_mVarR, e_m2, e_m2t, e_m1, e_mC, e_mNil, e_mAnd, e_mOr, e_mNot, e_mT, e_mLst0, e_mLst1, e_mLst2, e_mLst4, e_mLstC3, e_mCB, e_mTup2, e_mTup3, e_mIf, e_bN, e_mAndV, e_mOrV, e_mNotV, e_mL, e_mSl, e_mP, e_mNoP, List.getElem?_cons_succ, List.getElem?_cons_zero, List.set_cons_zero, List.set_cons_succ, R.bind_ok, bS_ok, oAdd_int, oSub_int, oLt_int, oLe_int, oGt_int, oGe_int, oNeg_int, oLen_lst, oLen_tup, tru_bl, boolD_bl, blR_ok, op2_int_eq, op2_int_ne, op2_int_lt, op2_int_le, op2_int_gt, op2_int_ge, itemsD_lst, if_true, Bool.false_eq_true, if_false, decide_true, decide_false, List.length_map, $ls,*])
theorem rising_eq {P : List Nat} {n : Nat} (hu : P.Pairwise (· < ·)) (hb : ∀ j ∈ P, j < n) (hl : P.length < 1000) : m_law_rising [.lst (ntD P), .int (n : Int)] = .ok (.bl true) := by
 unfold m_law_rising F_law_rising
 have hty : isTy (.lst (ntD P)) .list = .ok true := rfl
 rw [zSeq_next (δ' := [some (.sh (.lst (ntD P))), some (.sh (.int n)), none]) (by
  show S_law_rising_0 [some (.sh (.lst (ntD P))), some (.sh (.int n)), none] = _
  unfold S_law_rising_0
  rw [zIf_no (by simp_arith [hty, Bool.not_true])])]
 obtain ⟨δ', e, x2, h⟩ := zFor_next (fit := λ δ => ((mCons (m1 oLen (mVar 0)) (mNil)) δ).bind iR1) (bd := bN 2) (F := L_law_rising_1) (δ := [some (.sh (.lst (ntD P))), some (.sh (.int n)), none]) (ds := rngD 0 P.length)
  (λ k δ => ∃ x2 : Option Sl, δ = [some (.sh (.lst (ntD P))), some (.sh (.int n)), x2]) (fit1_len rfl (List.length_map _) (by omega)) ⟨none, rfl⟩ (by
   rintro k d δ hd ⟨x2, rfl⟩
   obtain ⟨rfl, hk⟩ := rngD_get hd
   rw [Int.zero_add]
   have hk : k < P.length := by omega
   have i1 : oIx (.lst (ntD P)) (.int (k : Int)) = .ok (.int (P[k] : Int)) := oIx_lst (atI_some (by simp [hk]))
   have h1 := hb P[k] (List.getElem_mem hk)
   have n1 : ¬ (P[k] : Int) < 0 := by omega
   have n2 : ¬ (n : Int) ≤ (P[k] : Int) := by omega
   refine ⟨_, [some (.sh (.lst (ntD P))), some (.sh (.int n)), some (.sh (.int k))], rfl, .inl ?_, _, rfl⟩
   show L_law_rising_1 [some (.sh (.lst (ntD P))), some (.sh (.int n)), some (.sh (.int k))] = _
   unfold L_law_rising_1
   rw [zSeq_next (zIf_no (by simp_arith [i1, whole_eq, Bool.not_true, n1, n2]))]
   cases k with
   | zero => rw [zIf_no (by simp_arith [Int.natCast_zero, Int.lt_irrefl])]
   | succ j =>
    have i0 : oIx (.lst (ntD P)) (.int (((j + 1 : Nat) : Int) - 1)) = .ok (.int (P[j] : Int)) := by
     rw [show (((j + 1 : Nat) : Int) - 1) = (j : Int) by push_cast; omega]
     exact oIx_lst (atI_some (by simp [show j < P.length by omega]))
    have h2 : P[j] < P[j + 1] := List.pairwise_iff_getElem.mp hu j (j + 1) (by omega) hk (by omega)
    have g0 : (0 : Int) < ((j + 1 : Nat) : Int) := by omega
    have n3 : ¬ (P[j + 1] : Int) ≤ (P[j] : Int) := by omega
    rw [zIf_no (by simp_arith [g0, i0, i1, n3])])
 unfold F_law_rising_1 S_law_rising_1
 rw [zSeq_next e, h]
 rfl
theorem NB_at {g L : Nat} : ∀ {rs : List (List Int)} {o : Option (List Int)} {k : Nat} {r : List Int}, rs[k]? = some r → (NB g L rs o)[k]? = some (stepN g L (if k = 0 then o else (NB g L rs o)[k - 1]?) r)
 | [], _, _, _, h => by simp at h
 | s :: rs, o, 0, r, h => by
  have : s = r := by simpa using h
  subst this
  rfl
 | s :: rs, o, k + 1, r, h => by
  have ih := NB_at (g := g) (L := L) (rs := rs) (o := some (stepN g L o s)) (k := k) (by simpa using h)
  rw [NB, List.getElem?_cons_succ, ih]
  cases k with
  | zero => rfl
  | succ k => simp
theorem no_more_eq {rows : List (List Int)} {g L : Nat} (hL : L ≤ 900) (hn : rows.length < 1000) : m_law_no_more [rowsD (NB g L rows none), rowsD rows, .int (g : Int), .int (L : Int)] = .ok (.bl true) := by
 have hrow : ∀ b ∈ NB g L rows none, b.length = L := NB_row (λ a e => by cases e)
 have hNl := NB_len g L rows none
 have hat := λ (k : Nat) r h => NB_at (g := g) (L := L) (rs := rows) (o := none) (k := k) (r := r) h
 generalize NB g L rows none = B at *
 unfold m_law_no_more F_law_no_more
 have hty : isTy (rowsD B) .list = .ok true := rfl
 have hll : (!(((B.length : Nat) : Int) == (rows.length : Int))) = false := by simp [hNl]
 rw [zSeq_next (δ' := [some (.sh (rowsD B)), some (.sh (rowsD rows)), some (.sh (.int g)), some (.sh (.int L)), none, none, none, none]) (by
  show S_law_no_more_0 [some (.sh (rowsD B)), some (.sh (rowsD rows)), some (.sh (.int g)), some (.sh (.int L)), none, none, none, none] = _
  unfold S_law_no_more_0
  rw [zIf_no (by simp_arith [hty, Bool.not_true, oNe_int, hll])])]
 obtain ⟨δ', e, x4, x5, x6, x7, h⟩ := zFor_next (fit := λ δ => ((mCons (m1 oLen (mVar 1)) (mNil)) δ).bind iR1) (bd := bN 4) (F := L_law_no_more_3) (δ := [some (.sh (rowsD B)), some (.sh (rowsD rows)), some (.sh (.int g)), some (.sh (.int L)), none, none, none, none]) (ds := rngD 0 rows.length)
  (λ k δ => ∃ x4 x5 x6 x7 : Option Sl, δ = [some (.sh (rowsD B)), some (.sh (rowsD rows)), some (.sh (.int g)), some (.sh (.int L)), x4, x5, x6, x7]) (fit1_len rfl (List.length_map _) (by omega)) ⟨_, _, _, _, rfl⟩ (by
   rintro k d δ hd ⟨x4, x5, x6, x7, rfl⟩
   obtain ⟨rfl, hk⟩ := rngD_get hd
   rw [Int.zero_add]
   have hk : k < rows.length := by omega
   have hkB : k < B.length := by omega
   have iB : oIx (rowsD B) (.int (k : Int)) = .ok (rowD B[k]) := oIx_rows (List.getElem?_eq_getElem hkB)
   have iR : oIx (rowsD rows) (.int (k : Int)) = .ok (rowD rows[k]) := oIx_rows (List.getElem?_eq_getElem hk)
   have hB := hrow _ (List.getElem_mem hkB)
   have hstep := hat k _ (List.getElem?_eq_getElem hk)
   rw [List.getElem?_eq_getElem hkB] at hstep
   have hstep := Option.some.inj hstep
   have hlk : (!(((B[k].length : Nat) : Int) == (L : Int))) = false := by simp [hB]
   have hty2 : isTy (rowD B[k]) .list = .ok true := rfl
   suffices hs : ∃ y5 y6 y7, L_law_no_more_3 [some (.sh (rowsD B)), some (.sh (rowsD rows)), some (.sh (.int g)), some (.sh (.int L)), some (.sh (.int k)), x5, x6, x7] = .next [some (.sh (rowsD B)), some (.sh (rowsD rows)), some (.sh (.int g)), some (.sh (.int L)), some (.sh (.int k)), y5, y6, y7] by
    obtain ⟨y5, y6, y7, hs⟩ := hs
    exact ⟨_, _, rfl, .inl hs, _, _, _, _, rfl⟩
   unfold L_law_no_more_3
   rw [zSeq_next (zIf_no (by simp_arith [iB, hty2, Bool.not_true, oNe_int, hlk]))]
   obtain ⟨δ', e, y5, y6, y7, h⟩ := zFor_next (fit := λ δ => ((mCons (mVar 3) (mNil)) δ).bind iR1) (bd := bN 5) (F := L_law_no_more_2) (δ := [some (.sh (rowsD B)), some (.sh (rowsD rows)), some (.sh (.int g)), some (.sh (.int L)), some (.sh (.int k)), x5, x6, x7]) (ds := rngD 0 L)
    (λ d δ => ∃ y5 y6 y7 : Option Sl, δ = [some (.sh (rowsD B)), some (.sh (rowsD rows)), some (.sh (.int g)), some (.sh (.int L)), some (.sh (.int k)), y5, y6, y7]) (fit1_var rfl (by omega)) ⟨_, _, _, rfl⟩ (by
     rintro d dd δ hd ⟨y5, y6, y7, rfl⟩
     obtain ⟨rfl, hd'⟩ := rngD_get hd
     rw [Int.zero_add]
     have hdL : d < L := by omega
     have hdB : d < B[k].length := by omega
     have ib : oIx (rowD B[k]) (.int (d : Int)) = .ok (.int (B[k].getD d 0)) := oIx_row (by rw [List.getD_eq_getElem?_getD, List.getElem?_eq_getElem hdB]; rfl)
     have hnin := op2_ok (oNin_row (d : Int) rows[k])
     have hob : (if (!decide ((d : Int) ∈ rows[k])) = true then (1 : Int) else 0) = ob rows[k] (d : Int) := by
      unfold ob
      by_cases c : (d : Int) ∈ rows[k] <;> simp [c]
     suffices hs : ∃ z7, L_law_no_more_2 [some (.sh (rowsD B)), some (.sh (rowsD rows)), some (.sh (.int g)), some (.sh (.int L)), some (.sh (.int k)), some (.sh (.int d)), y6, y7] = .next [some (.sh (rowsD B)), some (.sh (rowsD rows)), some (.sh (.int g)), some (.sh (.int L)), some (.sh (.int k)), some (.sh (.int d)), some (.sh (.int ((ob rows[k] (d : Int))))), z7] by
      obtain ⟨z7, hs⟩ := hs
      exact ⟨_, _, rfl, .inl hs, _, _, _, rfl⟩
     unfold L_law_no_more_2
     rw [zSeq_next (zIf_no (by simp_arith [iB, ib, whole_eq, Bool.not_true]))]
     rw [zSeq_next (δ' := [some (.sh (rowsD B)), some (.sh (rowsD rows)), some (.sh (.int g)), some (.sh (.int L)), some (.sh (.int k)), some (.sh (.int d)), some (.sh (.int ((ob rows[k] (d : Int))))), y7]) (by simp_arith [iR, hnin, oInt_bl, hob])]
     have hzero : k = 0 → ¬ ob rows[k] (d : Int) < B[k].getD d 0 := λ hz => by
      rw [hstep, if_pos hz]
      show ¬ _ < (obs rows[k] L).getD d 0
      rw [obs_get hdL]
      omega
     rw [zSeq_next (zIf_no (by
      by_cases hz : k = 0
      ·have h1 : ((k : Int) == 0) = true := by simp [hz]
       have h2 := hzero hz
       simp_arith [oEq_int, h1, iB, ib, h2]
      ·have h1 : ((k : Int) == 0) = false := by simp [hz]
       simp_arith [oEq_int, h1]))]
     have hmx : oMax [.int 0, .int ((d : Int) - (g : Int))] = .ok (.int ((d - g : Nat) : Int)) := by
      show R.ok (D.int (if (d : Int) - (g : Int) > 0 then (d : Int) - (g : Int) else 0)) = _
      congr 2
      split <;> omega
     obtain ⟨δ', e, z7, h⟩ := zFor_next (fit := λ δ => ((mCons (mCB oMax (mCons (mC (.int 0)) (mCons (m2 oSub (mVar 5) (mVar 2)) (mNil)))) (mCons (m2 oAdd (mVar 5) (mC (.int 1))) (mNil))) δ).bind iR2) (bd := bN 7) (F := L_law_no_more_1) (δ := [some (.sh (rowsD B)), some (.sh (rowsD rows)), some (.sh (.int g)), some (.sh (.int L)), some (.sh (.int k)), some (.sh (.int d)), some (.sh (.int ((ob rows[k] (d : Int))))), y7]) (ds := rngD ((d - g : Nat) : Int) ((d : Int) + 1))
      (λ j δ => ∃ z7 : Option Sl, δ = [some (.sh (rowsD B)), some (.sh (rowsD rows)), some (.sh (.int g)), some (.sh (.int L)), some (.sh (.int k)), some (.sh (.int d)), some (.sh (.int ((ob rows[k] (d : Int))))), z7]) (fit2 (by simp_arith [hmx]) (by omega) (by omega) (by omega) (by omega)) ⟨_, rfl⟩ (by
       rintro j jj δ hj ⟨z7, rfl⟩
       obtain ⟨rfl, hj'⟩ := rngD_get hj
       obtain ⟨w, hw⟩ : ∃ w : Nat, ((d - g : Nat) : Int) + (j : Int) = w := ⟨d - g + j, by omega⟩
       rw [hw]
       refine ⟨_, [some (.sh (rowsD B)), some (.sh (rowsD rows)), some (.sh (.int g)), some (.sh (.int L)), some (.sh (.int k)), some (.sh (.int d)), some (.sh (.int ((ob rows[k] (d : Int))))), some (.sh (.int w))], rfl, .inl ?_, _, rfl⟩
       show L_law_no_more_1 [some (.sh (rowsD B)), some (.sh (rowsD rows)), some (.sh (.int g)), some (.sh (.int L)), some (.sh (.int k)), some (.sh (.int d)), some (.sh (.int ((ob rows[k] (d : Int))))), some (.sh (.int w))] = _
       unfold L_law_no_more_1
       by_cases hk0 : k = 0
       ·have g0 : ¬ (0 : Int) < (k : Int) := by omega
        rw [zIf_no (by simp_arith [g0])]
       ·have hk'B : k - 1 < B.length := by omega
        have iB' : oIx (rowsD B) (.int ((k : Int) - 1)) = .ok (rowD B[k - 1]) := by
         rw [show ((k : Int) - 1) = ((k - 1 : Nat) : Int) by omega]
         exact oIx_rows (List.getElem?_eq_getElem hk'B)
        have hB' := hrow _ (List.getElem_mem hk'B)
        have hwB : w < B[k - 1].length := by omega
        have iw : oIx (rowD B[k - 1]) (.int (w : Int)) = .ok (.int (B[k - 1].getD w 0)) := oIx_row (by rw [List.getD_eq_getElem?_getD, List.getElem?_eq_getElem hwB]; rfl)
        have g0 : (0 : Int) < (k : Int) := by omega
        have hle : ¬ B[k - 1].getD w 0 + ob rows[k] (d : Int) < B[k].getD d 0 := by
         rw [hstep, if_neg hk0, List.getElem?_eq_getElem hk'B]
         show ¬ _ < (nxt g B[k - 1] rows[k]).getD d 0
         rw [nxt_get (by omega)]
         have := mw_le (a := B[k - 1]) (g := g) (d := d) (i := w) (by omega) (by omega) (by omega)
         omega
        rw [zIf_no (by simp_arith [g0, iB, ib, iB', iw, hle])])
     rw [e, h]
     exact ⟨_, rfl⟩)
   rw [e, h]
   exact ⟨_, _, _, rfl⟩)
 unfold F_law_no_more_1 S_law_no_more_1
 rw [zSeq_next e, h]
 rfl
theorem Ch_snoc {g L : Nat} : ∀ (t : List Nat) (o : Option Nat) (d : Nat), Ch g L o t → d < L → (∀ p, t.getLast?.or o = some p → p ≤ d ∧ d ≤ p + g) → Ch g L o (t ++ [d])
 | [], o, d, _, hd, h => ⟨hd, λ p e => h p (by simpa using e), trivial⟩
 | x :: t, o, d, hc, hd, h => by
  refine ⟨hc.1, hc.2.1, Ch_snoc t (some x) d hc.2.2 hd λ p e => h p ?_⟩
  rw [List.getLast?_cons]
  cases q : t.getLast? with
  | none => rw [q] at e; simpa using e
  | some z => rw [q] at e; simpa using e
theorem free_eq {c : Int} {mx : Bool} {n L g : Nat} (hL1 : 1 ≤ L) (hL : L ≤ 900) (hg : g ≤ 900) (hn : n ≤ 900) : ∃ t : List Nat, m_law_free [.int c, .bl mx, .int (n : Int), .int (L : Int), .int (g : Int)] = .ok (.lst (ntD t)) ∧ t.length = n ∧ Ch g L none t := by
 obtain ⟨ps, hps, hpl, hpb⟩ := draws_eq (c / (L : Int)) mx (n := n) (m := g + 1) (by omega) (by omega) (by omega)
 have dv : oDiv (.int c) (.int (L : Int)) = .ok (.int (c / (L : Int))) := oDiv_int _ (by omega) (by omega)
 have md : oMod (.int c) (.int (L : Int)) = .ok (.int (c % (L : Int))) := oMod_int _ (by omega)
 obtain ⟨d0, hd0, hd1⟩ : ∃ d0 : Nat, c % (L : Int) = d0 ∧ d0 < L := ⟨(c % (L : Int)).toNat, by
  have := Int.emod_nonneg c (show (L : Int) ≠ 0 by omega)
  omega, by
  have := Int.emod_lt_of_pos c (show (0 : Int) < L by omega)
  omega⟩
 rw [hd0] at md
 have hps' : m_law_draws [.int (c / (L : Int)), .bl mx, .int (n : Int), .int ((g : Int) + 1)] = .ok (rowD ps) := hps
 unfold m_law_free F_law_free
 rw [zSeq_next (δ' := [some (.sh (.int c)), some (.sh (.bl mx)), some (.sh (.int n)), some (.sh (.int L)), some (.sh (.int g)), some (.sh (.int d0)), none, none]) (by
  show S_law_free_0 [some (.sh (.int c)), some (.sh (.bl mx)), some (.sh (.int n)), some (.sh (.int L)), some (.sh (.int g)), none, none, none] = _
  unfold S_law_free_0
  simp_arith [md])]
 unfold F_law_free_1
 rw [zSeq_next (δ' := [some (.sh (.int c)), some (.sh (.bl mx)), some (.sh (.int n)), some (.sh (.int L)), some (.sh (.int g)), some (.sh (.int d0)), some (.ow ([])), none]) (by simp [S_law_free_1, lim])]
 obtain ⟨δ', e, t, d, x7, h1, h2, h3, h4, rfl⟩ := zFor_map (f := D.int) (l := ps) (i := 7) (fit := λ δ => ((mCall m_law_draws (mCons (m2 oDiv (mVar 0) (mVar 3)) (mCons (mVar 1) (mCons (mVar 2) (mCons (m2 oAdd (mVar 4) (mC (.int 1))) (mNil)))))) δ).bind itemsD) (F := L_law_free_1) (δ := [some (.sh (.int c)), some (.sh (.bl mx)), some (.sh (.int n)), some (.sh (.int L)), some (.sh (.int g)), some (.sh (.int d0)), some (.ow ([])), none])
  (λ k δ => ∃ (t : List Nat) (d : Nat) (x7 : Option Sl), t.length = k ∧ d < L ∧ Ch g L none t ∧ (∀ l, t.getLast? = some l → l ≤ d ∧ d ≤ l + g) ∧ δ = [some (.sh (.int c)), some (.sh (.bl mx)), some (.sh (.int n)), some (.sh (.int L)), some (.sh (.int g)), some (.sh (.int d)), some (.ow (ntD t)), x7]) (by simp_arith [dv, hps']) ⟨[], d0, none, rfl, hd1, trivial, by simp, rfl⟩ (by
   rintro k a δ hk ⟨t, d, x7, h1, h2, h3, h4, rfl⟩
   have hkl := (List.getElem?_eq_some_iff.mp hk).1
   obtain ⟨b1, b2⟩ := hpb a (List.mem_of_getElem? hk)
   obtain ⟨s, rfl⟩ : ∃ s : Nat, a = s := ⟨a.toNat, by omega⟩
   show ∃ δ2, (L_law_free_1 [some (.sh (.int c)), some (.sh (.bl mx)), some (.sh (.int n)), some (.sh (.int L)), some (.sh (.int g)), some (.sh (.int d)), some (.ow (ntD t)), some (.sh (.int s))] = _ ∨ _) ∧ _
   have hsn := Ch_snoc t none d h3 h2 (λ p e => h4 p (by simpa using e))
   unfold L_law_free_1
   rw [zSeq_next (δ' := [some (.sh (.int c)), some (.sh (.bl mx)), some (.sh (.int n)), some (.sh (.int L)), some (.sh (.int g)), some (.sh (.int d)), some (.ow (ntD (t ++ [d]))), some (.sh (.int s))]) (by
    rw [zApp_ok (d := .int (d : Int)) (by simp_arith []) rfl (by rw [List.length_map]; omega)]
    simp [ntD])]
   by_cases cc : (d : Int) + (s : Int) < (L : Int)
   ·refine ⟨_, .inl (by rw [zIf_yes (by simp_arith [cc])]; simp_arith []; rfl), t ++ [d], d + s, _, by simp [h1], by omega, hsn, λ l hl => ?_, rfl⟩
    rw [List.getLast?_append] at hl
    have : d = l := by simpa using hl
    omega
   ·refine ⟨_, .inl (by rw [zIf_no (by simp_arith [cc])]), t ++ [d], d, _, by simp [h1], h2, hsn, λ l hl => ?_, rfl⟩
    rw [List.getLast?_append] at hl
    have : d = l := by simpa using hl
    omega)
 refine ⟨t, ?_, by omega, h3⟩
 unfold F_law_free_2 S_law_free_2
 rw [zSeq_next e]
 rfl
theorem cut_turn {x0 x1 x2 x3 x4 x7 x8 x9 x10 : Option Sl} {rs : List (List Int)} {k : Nat} (hk : k < rs.length) : L_law_1 [x0, x1, x2, x3, x4, some (.ow (rs.map rowD)), some (.sh (.int k)), x7, x8, x9, x10] = .next [x0, x1, x2, x3, x4, some (.ow ((rs.set k (rs[k].drop 1)).map rowD)), some (.sh (.int k)), x7, x8, x9, x10] := by
 have i1 : oIx (.lst (rs.map rowD)) (.int (k : Int)) = .ok (rowD rs[k]) := oIx_rows (List.getElem?_eq_getElem hk)
 have s1 := oSl_tail rs[k]
 unfold L_law_1
 rw [zPut_ok (d := rowD (rs[k].drop 1)) (j := k) (ds := rs.map rowD) (by simp_arith [i1, s1]) (by simp_arith []) rfl (by rw [List.length_map]; exact hk)]
 rw [List.map_set]
 rfl
theorem body_ok {ns : List Int} {N : D} (hN : D.lst (ns.map D.int) = N) {n L g : Nat} (hn1 : 1 ≤ n) (hn : n ≤ 60) (hL1 : 1 ≤ L) (hL : L ≤ 800) (hg : g ≤ 800) : finR (F_law_5 [some (.sh N), some (.sh (.int ((cell ns 2)))), some (.sh (.int n)), some (.sh (.int L)), some (.sh (.int g)), none, none, none, none, none, none]) = .ok (.bl true) := by
 obtain ⟨path, rs0, day, hhid, hok⟩ := hidden_eq ns 6 n L (g : Int) hL1 hL (by omega) (by omega) hn
 have hA := λ k => at_eq ns k
 rw [hN] at hhid
 have a0 : m_law_at [N, .int 0] = .ok (.int (cell ns 0)) := by rw [← hN]; exact hA 0
 have a1 : m_law_at [N, .int 1] = .ok (.int (cell ns 1)) := by rw [← hN]; exact hA 1
 have a5 : m_law_at [N, .int 5] = .ok (.int (cell ns 5)) := by rw [← hN]; exact hA 5
 have m1 : oMod (.int (cell ns 1)) (.int 7) = .ok (.int (cell ns 1 % 7)) := oMod_int _ (by decide)
 have m0 : oMod (.int (cell ns 0)) (.int 2) = .ok (.int (cell ns 0 % 2)) := oMod_int _ (by decide)
 have hst : (0 : Int) < 1 + cell ns 1 % 7 := by omega
 generalize cell ns 2 = c2 at *
 unfold F_law_5
 rw [zSeq_next (δ' := [some (.sh N), some (.sh (.int c2)), some (.sh (.int n)), some (.sh (.int L)), some (.sh (.int g)), some (.ow (rs0.map rowD)), none, none, none, none, none]) (by
  unfold S_law_5
  refine (zOwn_ok (ds := rs0.map rowD) ?_).trans rfl
  have : mr_law_hidden [N, .int 6, .int (n : Int), .int (L : Int), .int (g : Int)] = .ok (rowD path, rs0.map rowD) := hhid
  simp_arith [this])]
 obtain ⟨δ', e, rs, x6, h1, h2, rfl⟩ := zFor_next (fit := λ δ => ((mCons (mC (.int 0)) (mCons (mVar 2) (mCons (m2 oAdd (mC (.int 1)) (m2 oMod (mCall m_law_at (mCons (mVar 0) (mCons (mC (.int 1)) (mNil)))) (mC (.int 7)))) (mNil)))) δ).bind iR3p) (bd := bN 6) (F := L_law_1) (δ := [some (.sh N), some (.sh (.int c2)), some (.sh (.int n)), some (.sh (.int L)), some (.sh (.int g)), some (.ow (rs0.map rowD)), none, none, none, none, none]) (ds := rngS 0 (n : Int) (1 + cell ns 1 % 7))
  (λ _ δ => ∃ (rs2 : List (List Int)) (x6 : Option Sl), rs2.length = n ∧ (∀ r ∈ rs2, r.length ≤ 1000 ∧ ∀ d ∈ r, 0 ≤ d ∧ d < (L : Int)) ∧ δ = [some (.sh N), some (.sh (.int c2)), some (.sh (.int n)), some (.sh (.int L)), some (.sh (.int g)), some (.ow (rs2.map rowD)), x6, none, none, none, none]) (by
   simp_arith [a1, m1]
   show (if _ then _ else _) = _
   rw [if_pos ⟨⟨by omega, by omega⟩, ⟨by omega, by omega⟩, by omega, by omega⟩]) ⟨rs0, none, hok.rl, λ r hr => by
    obtain ⟨o1, o2, o3, _⟩ := hok.ok r hr
    exact ⟨by omega, λ d hd => ⟨(o1.bd d hd).1, o2 d hd⟩⟩, rfl⟩ (by
   rintro k d δ hd ⟨rs2, x6, h1, h2, rfl⟩
   obtain ⟨j, rfl, hj⟩ := rngS_get hst hd
   have hj' : j < rs2.length := by omega
   refine ⟨_, _, rfl, .inl (cut_turn hj'), _, _, by rw [List.length_set]; exact h1, λ r hr => ?_, rfl⟩
   rcases List.mem_or_eq_of_mem_set hr with h | h
   ·exact h2 r h
   ·rw [h]
    have := h2 _ (List.getElem_mem hj')
    exact ⟨by rw [List.length_drop]; omega, λ d hd => this.2 d (List.mem_of_mem_drop hd)⟩)
 unfold F_law_6 S_law_6
 rw [zSeq_next e]
 obtain ⟨ds, hD, hfb⟩ := fewest_blots_eq (rows := rs) (g := g) (L := L) (by omega) hL1 (by omega) (λ r h => by have := (h2 r h).1; omega)
 obtain ⟨t, ht, htl, htc⟩ := free_eq (c := cell ns 5) (mx := (cell ns 0 % 2 == 0)) (n := n) (L := L) (g := g) hL1 (by omega) (by omega) (by omega)
 have hcp := copies_eq rs (by omega)
 have hcr := copies_r rs (by omega)
 have hl3 := lists_eq rs (by omega) (λ r h => by have := (h2 r h).1; omega)
 have hnm := no_more_eq (rows := rs) (g := g) (L := L) (by omega) (by omega)
 have hup : (plcs rs ds).Pairwise (· < ·) := List.pairwise_lt_range.filter _
 have hpb : ∀ j ∈ plcs rs ds, j < rs.length := λ k hk => List.mem_range.mp (List.mem_filter.mp hk).1
 have hplen : (plcs rs ds).length ≤ rs.length := Nat.le_trans (List.length_filter_le ..) (by simp)
 have hri := rising_eq (n := n) hup (λ j hj => by have := hpb j hj; omega) (by omega)
 have hch := chain_eq (blots_chain hD) (by rw [opn_len]; omega)
 have hrw : rowD (ds.map λ n : Nat => (n : Int)) = .lst (ntD ds) := by rw [ntD_eq]
 rw [hrw] at hch
 obtain ⟨Nl, hNl⟩ : ∃ Nl, (NB g L rs none).getLast? = some Nl := by
  cases q : (NB g L rs none).getLast? with
  | some a => exact ⟨a, rfl⟩
  | none =>
   have : NB g L rs none = [] := by simpa using q
   have h0 := NB_len g L rs none
   rw [this] at h0
   simp at h0
   omega
 have hleast := plcs_least hD hNl
 have hlow : minL Nl ≤ cst rs t := least_le (by omega) htc hNl
 rw [← plcs_cst rs t (by omega)] at hlow
 have hNlen : Nl.length = L := NB_row (rs := rs) (o := none) (λ a e => by cases e) Nl (List.mem_of_getLast? hNl)
 have hmin := oMinL_row (r := Nl) (by intro z; rw [z] at hNlen; simp at hNlen; omega)
 have ilast : oIx (rowsD (NB g L rs none)) (.int (-1)) = .ok (rowD Nl) := oIx_last (by rw [List.getLast?_map, hNl]; rfl)
 generalize hT : D.tup [.lst (ntD (plcs rs ds)), .lst (ntD ds), rowsD (NB g L rs none)] = T at *
 have t0 : oIx T (.int 0) = .ok (.lst (ntD (plcs rs ds))) := by rw [← hT]; rfl
 have t1 : oIx T (.int 1) = .ok (.lst (ntD ds)) := by rw [← hT]; rfl
 have t2 : oIx T (.int 2) = .ok (rowsD (NB g L rs none)) := by rw [← hT]; rfl
 have tt : isTy T .tuple = .ok true := by rw [← hT]; rfl
 have tl : oLen T = .ok (.int 3) := by rw [← hT]; rfl
 unfold F_law_7
 rw [zSeq_next (δ' := [some (.sh N), some (.sh (.int c2)), some (.sh (.int n)), some (.sh (.int L)), some (.sh (.int g)), some (.ow (rs.map rowD)), x6, some (.sh (.lst (ntD t))), none, none, none]) (by
  unfold S_law_7
  simp_arith [a5, a0, m0, op2_int_eq, ht])]
 unfold F_law_8
 show finR (zSeq S_law_8 F_law_9 [some (.sh N), some (.sh (.int c2)), some (.sh (.int n)), some (.sh (.int L)), some (.sh (.int g)), some (.sh (rowsD rs)), x6, some (.sh (.lst (ntD t))), none, none, none]) = _
 rw [zSeq_next (δ' := [some (.sh N), some (.sh (.int c2)), some (.sh (.int n)), some (.sh (.int L)), some (.sh (.int g)), some (.sh (rowsD rs)), x6, some (.sh (.lst (ntD t))), some (.sh (rowsD rs)), none, none]) (by
  unfold S_law_8
  simp_arith [hcp])]
 unfold F_law_9
 rw [zSeq_next (δ' := [some (.sh N), some (.sh (.int c2)), some (.sh (.int n)), some (.sh (.int L)), some (.sh (.int g)), some (.sh (rowsD rs)), x6, some (.sh (.lst (ntD t))), some (.sh (rowsD rs)), some (.sh T), none]) (by
  unfold S_law_9
  simp_arith [hfb])]
 unfold F_law_10
 show finR (zSeq S_law_10 F_law_11 [some (.sh N), some (.sh (.int c2)), some (.sh (.int n)), some (.sh (.int L)), some (.sh (.int g)), some (.sh (rowsD rs)), x6, some (.sh (.lst (ntD t))), some (.sh (rowsD rs)), some (.sh T), none]) = _
 rw [zSeq_next (δ' := [some (.sh N), some (.sh (.int c2)), some (.sh (.int n)), some (.sh (.int L)), some (.sh (.int g)), some (.sh (rowsD rs)), x6, some (.sh (.lst (ntD t))), some (.sh (rowsD rs)), some (.sh T), none]) (by
  unfold S_law_10
  rw [zIf_no (by simp_arith [tt, tl, hl3, oNe_int, Bool.not_true]; rfl)])]
 unfold F_law_11
 rw [zSeq_next (δ' := [some (.sh N), some (.sh (.int c2)), some (.sh (.int n)), some (.sh (.int L)), some (.sh (.int g)), some (.sh (rowsD rs)), x6, some (.sh (.lst (ntD t))), some (.sh (rowsD rs)), some (.sh T), none]) (by
  unfold S_law_11
  rw [zIf_no (by simp_arith [t0, hri, Bool.not_true])])]
 unfold F_law_12
 show finR (zSeq S_law_12 F_law_13 [some (.sh N), some (.sh (.int c2)), some (.sh (.int n)), some (.sh (.int L)), some (.sh (.int g)), some (.sh (rowsD rs)), x6, some (.sh (.lst (ntD t))), some (.sh (rowsD rs)), some (.sh T), none]) = _
 rw [zSeq_next (δ' := [some (.sh N), some (.sh (.int c2)), some (.sh (.int n)), some (.sh (.int L)), some (.sh (.int g)), some (.sh (rowsD rs)), x6, some (.sh (.lst (ntD t))), some (.sh (rowsD rs)), some (.sh T), some (.ow (rs.map rowD))]) (by
  unfold S_law_12
  refine (zOwn_ok (ds := rs.map rowD) ?_).trans rfl
  simp_arith [hcr])]
 generalize hP : plcs rs ds = P at *
 obtain ⟨δ', e, y6, rfl⟩ := zFor_map (f := λ n : Nat => D.int (n : Int)) (l := P) (i := 6) (fit := λ δ => ((m2 oIx (mVar 9) (mC (.int 0))) δ).bind itemsD) (F := L_law_2) (δ := [some (.sh N), some (.sh (.int c2)), some (.sh (.int n)), some (.sh (.int L)), some (.sh (.int g)), some (.sh (rowsD rs)), x6, some (.sh (.lst (ntD t))), some (.sh (rowsD rs)), some (.sh T), some (.ow (rs.map rowD))])
  (λ k δ => ∃ y6, δ = [some (.sh N), some (.sh (.int c2)), some (.sh (.int n)), some (.sh (.int L)), some (.sh (.int g)), some (.sh (rowsD rs)), y6, some (.sh (.lst (ntD t))), some (.sh (rowsD rs)), some (.sh T), some (.ow ((opn L rs (P.take k)).map rowD))]) (by simp_arith [t0]) ⟨x6, rfl⟩ (by
   rintro k j δ hk ⟨y6, rfl⟩
   have hj := hpb j (List.mem_of_getElem? hk)
   have et : P.take (k + 1) = P.take k ++ [j] := by rw [List.take_add_one, hk]; rfl
   refine ⟨_, .inl ?_, some (.sh (.int (j : Int))), rfl⟩
   show L_law_2 [some (.sh N), some (.sh (.int c2)), some (.sh (.int n)), some (.sh (.int L)), some (.sh (.int g)), some (.sh (rowsD rs)), some (.sh (.int j)), some (.sh (.lst (ntD t))), some (.sh (rowsD rs)), some (.sh T), some (.ow ((opn L rs (P.take k)).map rowD))] = _
   unfold L_law_2
   rw [zPut_ok (d := rowD (rngI 0 L)) (j := j) (ds := (opn L rs (P.take k)).map rowD) (by
    rw [e_mL]
    have e1 : ((mCons (mVar 3) (mNil)) [some (.sh N), some (.sh (.int c2)), some (.sh (.int n)), some (.sh (.int L)), some (.sh (.int g)), some (.sh (rowsD rs)), some (.sh (.int j)), some (.sh (.lst (ntD t))), some (.sh (rowsD rs)), some (.sh T), some (.ow ((opn L rs (P.take k)).map rowD))]).bind lR1 = .ok (rngD 0 L) := fitl1_var rfl (by omega)
    rw [e1, R.bind_ok, rngD_map]) (by simp_arith []) rfl (by rw [List.length_map, opn_len]; exact hj)]
   rw [et]
   have e2 : opn L rs (P.take k ++ [j]) = (opn L rs (P.take k)).set j (rngI 0 L) := by
    unfold opn
    rw [List.foldl_append]
    rfl
   rw [e2, List.map_set]
   rfl)
 unfold F_law_13 S_law_13
 rw [zSeq_next e, List.take_length]
 unfold F_law_14
 show finR (zSeq S_law_14 F_law_15 [some (.sh N), some (.sh (.int c2)), some (.sh (.int n)), some (.sh (.int L)), some (.sh (.int g)), some (.sh (rowsD rs)), y6, some (.sh (.lst (ntD t))), some (.sh (rowsD rs)), some (.sh T), some (.sh (rowsD (opn L rs P)))]) = _
 rw [zSeq_next (δ' := [some (.sh N), some (.sh (.int c2)), some (.sh (.int n)), some (.sh (.int L)), some (.sh (.int g)), some (.sh (rowsD rs)), y6, some (.sh (.lst (ntD t))), some (.sh (rowsD rs)), some (.sh T), some (.sh (rowsD (opn L rs P)))]) (by
  unfold S_law_14
  rw [zIf_no (by simp_arith [t1, hch, Bool.not_true])])]
 unfold F_law_15
 have hcomp : mL (mCompG 1 (λ δ => ((mCons (mVar 2) (mNil)) δ).bind iR1) (bN 11) (m2t oNin (m2 oIx (mVar 7) (mVar 11)) (m2 oIx (mVar 5) (mVar 11))) (mVar 11)) [some (.sh N), some (.sh (.int c2)), some (.sh (.int n)), some (.sh (.int L)), some (.sh (.int g)), some (.sh (rowsD rs)), y6, some (.sh (.lst (ntD t))), some (.sh (rowsD rs)), some (.sh T), some (.sh (rowsD (opn L rs P)))] = .ok (.lst (ntD (plcs rs t))) := by
  rw [e_mL, compG_filter (l := List.range rs.length) (h := λ k : Nat => D.int (k : Int)) (g := λ k : Nat => D.int (k : Int)) (p := λ k => !decide (((t.getD k 0 : Nat) : Int) ∈ rs.getD k [])) (δ1 := λ k : Nat => shE [some (.sh N), some (.sh (.int c2)), some (.sh (.int n)), some (.sh (.int L)), some (.sh (.int g)), some (.sh (rowsD rs)), y6, some (.sh (.lst (ntD t))), some (.sh (rowsD rs)), some (.sh T), some (.sh (rowsD (opn L rs P)))] ++ [some (.sh (.int (k : Int)))]) (by
   refine (fit1_var (δ := [some (.sh N), some (.sh (.int c2)), some (.sh (.int n)), some (.sh (.int L)), some (.sh (.int g)), some (.sh (rowsD rs)), y6, some (.sh (.lst (ntD t))), some (.sh (rowsD rs)), some (.sh T), some (.sh (rowsD (opn L rs P)))]) (i := 2) (n := n) rfl (by omega)).trans ?_
   rw [h1]
   unfold rngD
   simp) (by simp; omega) (λ k _ => rfl) (λ k hk => by
   have hk := List.mem_range.mp hk
   have hkt : k < t.length := by omega
   show m2t _ _ _ [some (.sh N), some (.sh (.int c2)), some (.sh (.int n)), some (.sh (.int L)), some (.sh (.int g)), some (.sh (rowsD rs)), shO y6, some (.sh (.lst (ntD t))), some (.sh (rowsD rs)), some (.sh T), some (.sh (rowsD (opn L rs P))), some (.sh (.int k))] = _
   have i1 : oIx (.lst (ntD t)) (.int (k : Int)) = .ok (.int ((t.getD k 0 : Nat) : Int)) := oIx_lst (atI_some (by
    rw [List.getElem?_map, List.getElem?_eq_getElem hkt, List.getD_eq_getElem?_getD, List.getElem?_eq_getElem hkt]
    rfl))
   have i2 : oIx (rowsD rs) (.int (k : Int)) = .ok (rowD (rs.getD k [])) := oIx_rows (by rw [List.getD_eq_getElem?_getD, List.getElem?_eq_getElem hk]; rfl)
   have hin := oNin_row ((t.getD k 0 : Nat) : Int) (rs.getD k [])
   simp_arith [i1, i2, hin]) (λ k _ _ => rfl)]
  rfl
 have hnl : ¬ ((plcs rs t).length : Int) < (P.length : Int) := by omega
 show finR (zSeq S_law_15 F_law_16 [some (.sh N), some (.sh (.int c2)), some (.sh (.int n)), some (.sh (.int L)), some (.sh (.int g)), some (.sh (rowsD rs)), y6, some (.sh (.lst (ntD t))), some (.sh (rowsD rs)), some (.sh T), some (.sh (rowsD (opn L rs P)))]) = _
 rw [zSeq_next (δ' := [some (.sh N), some (.sh (.int c2)), some (.sh (.int n)), some (.sh (.int L)), some (.sh (.int g)), some (.sh (rowsD rs)), y6, some (.sh (.lst (ntD t))), some (.sh (rowsD rs)), some (.sh T), some (.sh (rowsD (opn L rs P)))]) (by
  unfold S_law_15
  rw [zIf_no (by
   rw [e_m2t, e_m1, hcomp]
   simp_arith [t0, hnl])])]
 unfold F_law_16
 show finR (S_law_16 [some (.sh N), some (.sh (.int c2)), some (.sh (.int n)), some (.sh (.int L)), some (.sh (.int g)), some (.sh (rowsD rs)), y6, some (.sh (.lst (ntD t))), some (.sh (rowsD rs)), some (.sh T), some (.sh (rowsD (opn L rs P)))]) = _
 unfold S_law_16
 simp_arith [t0, t2, hnm, ilast, hmin, hleast, beq_self_eq_true, finR_ret]
theorem main : ∀ ns : List Int, ns.length ≤ 63 → m_law [.lst (ns.map D.int)] = .ok (.bl true) := by
 intro ns _
 have hA := λ k => at_eq ns k
 have hbody := λ (n L g : Nat) h1 h2 h3 h4 h5 => body_ok (ns := ns) rfl (n := n) (L := L) (g := g) h1 h2 h3 h4 h5
 generalize hN : D.lst (ns.map D.int) = N at *
 have a2 : m_law_at [N, .int 2] = .ok (.int (cell ns 2)) := hA 2
 have a3 : m_law_at [N, .int 3] = .ok (.int (cell ns 3)) := hA 3
 have a4 : m_law_at [N, .int 4] = .ok (.int (cell ns 4)) := hA 4
 obtain ⟨n, hn, hn1, hn2⟩ : ∃ n : Nat, 1 + cell ns 2 / 5 % 60 = n ∧ 1 ≤ n ∧ n ≤ 60 := ⟨(1 + cell ns 2 / 5 % 60).toNat, by omega, by omega, by omega⟩
 obtain ⟨L, hL, hL1, hL2⟩ : ∃ L : Nat, 1 + cell ns 3 % 40 = L ∧ 1 ≤ L ∧ L ≤ 40 := ⟨(1 + cell ns 3 % 40).toNat, by omega, by omega, by omega⟩
 obtain ⟨g, hg, hg2⟩ : ∃ g : Nat, cell ns 4 % 61 = g ∧ g ≤ 60 := ⟨(cell ns 4 % 61).toNat, by omega, by omega⟩
 have d2 : oDiv (.int (cell ns 2)) (.int 5) = .ok (.int (cell ns 2 / 5)) := oDiv_int _ (by decide) (by decide)
 have d20 : oDiv (.int (cell ns 2)) (.int 20) = .ok (.int (cell ns 2 / 20)) := oDiv_int _ (by decide) (by decide)
 have m60 : oMod (.int (cell ns 2 / 5)) (.int 60) = .ok (.int (cell ns 2 / 5 % 60)) := oMod_int _ (by decide)
 have m44 : oMod (.int (cell ns 2 / 5)) (.int 4) = .ok (.int (cell ns 2 / 5 % 4)) := oMod_int _ (by decide)
 have m202 : oMod (.int (cell ns 2 / 20)) (.int 2) = .ok (.int (cell ns 2 / 20 % 2)) := oMod_int _ (by decide)
 have m3 : oMod (.int (cell ns 3)) (.int 40) = .ok (.int (cell ns 3 % 40)) := oMod_int _ (by decide)
 have m38 : oMod (.int (cell ns 3)) (.int 800) = .ok (.int (cell ns 3 % 800)) := oMod_int _ (by decide)
 have m4 : oMod (.int (cell ns 4)) (.int 61) = .ok (.int g) := by rw [oMod_int _ (by decide), hg]
 have m5 : oMod (.int (cell ns 2)) (.int 5) = .ok (.int (cell ns 2 % 5)) := oMod_int _ (by decide)
 unfold m_law F_law
 rw [zSeq_next (δ' := [some (.sh N), some (.sh (.int ((cell ns 2)))), none, none, none, none, none, none, none, none, none]) (by
  show S_law_0 [some (.sh N), none, none, none, none, none, none, none, none, none, none] = _
  unfold S_law_0
  simp_arith [a2])]
 unfold F_law_1
 rw [zSeq_next (δ' := [some (.sh N), some (.sh (.int ((cell ns 2)))), some (.sh (.int n)), none, none, none, none, none, none, none, none]) (by
  unfold S_law_1
  simp_arith [d2, m60, hn])]
 unfold F_law_2
 rw [zSeq_next (δ' := [some (.sh N), some (.sh (.int ((cell ns 2)))), some (.sh (.int n)), some (.sh (.int L)), none, none, none, none, none, none, none]) (by
  unfold S_law_2
  simp_arith [a3, m3, hL])]
 unfold F_law_3
 rw [zSeq_next (δ' := [some (.sh N), some (.sh (.int ((cell ns 2)))), some (.sh (.int n)), some (.sh (.int L)), some (.sh (.int g)), none, none, none, none, none, none]) (by
  unfold S_law_3
  simp_arith [a4, m4])]
 unfold F_law_4
 by_cases c : (cell ns 2 % 5 == 1) = true
 ·obtain ⟨n', hn', hn1', hn2'⟩ : ∃ n : Nat, oIx (.lst [.int (1 + cell ns 2 / 5 % 4), .int 2]) (.int (cell ns 2 / 20 % 2)) = .ok (.int (n : Int)) ∧ 1 ≤ n ∧ n ≤ 60 := by
   have h : cell ns 2 / 20 % 2 = 0 ∨ cell ns 2 / 20 % 2 = 1 := by omega
   rcases h with h | h
   ·rw [h]
    exact ⟨(1 + cell ns 2 / 5 % 4).toNat, by show R.ok (D.int _) = _; congr 2; omega, by omega, by omega⟩
   ·rw [h]
    exact ⟨2, rfl, by omega, by omega⟩
  obtain ⟨L', hL', hL1', hL2'⟩ : ∃ L : Nat, 1 + cell ns 3 % 800 = L ∧ 1 ≤ L ∧ L ≤ 800 := ⟨(1 + cell ns 3 % 800).toNat, by omega, by omega, by omega⟩
  obtain ⟨mm, hmm, hm0, hm1⟩ : ∃ mm : Int, oIx (.lst [.int 26, .int 801]) (.int (cell ns 2 / 20 % 2)) = .ok (.int mm) ∧ 0 < mm ∧ mm ≤ 801 := by
   have h : cell ns 2 / 20 % 2 = 0 ∨ cell ns 2 / 20 % 2 = 1 := by omega
   rcases h with h | h
   ·rw [h]; exact ⟨26, rfl, by omega, by omega⟩
   ·rw [h]; exact ⟨801, rfl, by omega, by omega⟩
  obtain ⟨g', hg', hg2'⟩ : ∃ g : Nat, cell ns 4 % mm = g ∧ g ≤ 800 := ⟨(cell ns 4 % mm).toNat, by
   have := Int.emod_nonneg (cell ns 4) (show mm ≠ 0 by omega)
   omega, by
   have := Int.emod_lt_of_pos (cell ns 4) hm0
   omega⟩
  have m4' : oMod (.int (cell ns 4)) (.int mm) = .ok (.int g') := by rw [oMod_int _ hm0, hg']
  rw [zSeq_next (δ' := [some (.sh N), some (.sh (.int ((cell ns 2)))), some (.sh (.int ((n' : Int)))), some (.sh (.int ((L' : Int)))), some (.sh (.int ((g' : Int)))), none, none, none, none, none, none]) (by
   unfold S_law_4
   rw [zIf_yes (by simp_arith [m5, oEq_int, c])]
   rw [zSeq_next (δ' := [some (.sh N), some (.sh (.int ((cell ns 2)))), some (.sh (.int ((n' : Int)))), some (.sh (.int L)), some (.sh (.int g)), none, none, none, none, none, none]) (by simp_arith [d2, m44, d20, m202, hn'])]
   rw [zSeq_next (δ' := [some (.sh N), some (.sh (.int ((cell ns 2)))), some (.sh (.int ((n' : Int)))), some (.sh (.int ((L' : Int)))), some (.sh (.int g)), none, none, none, none, none, none]) (by simp_arith [a3, m38, hL'])]
   simp_arith [a4, d20, m202, hmm, m4'])]
  exact hbody n' L' g' hn1' hn2' hL1' hL2' hg2'
 ·have c : (cell ns 2 % 5 == 1) = false := by simpa using c
  rw [zSeq_next (δ' := [some (.sh N), some (.sh (.int ((cell ns 2)))), some (.sh (.int n)), some (.sh (.int L)), some (.sh (.int g)), none, none, none, none, none, none]) (by
   unfold S_law_4
   rw [zIf_no (by simp_arith [m5, oEq_int, c])])]
  exact hbody n L g hn1 hn2 hL1 (by omega) (by omega)
end Lw
open PySem PySem.W PyProof.Rows
set_option maxRecDepth 100000 in
set_option maxHeartbeats 0 in
theorem PySem.Challenge.cw_inkdays_k28_whole_fewest_blots_holds : PySem.Challenge.rw_inkdays_k28_whole_fewest_blots.Holds := by
 w_on; o_law; k_head; (case hw => w_witness2)
 k_fill
 refine Lw.walk (l := PySem.Challenge.rw_inkdays_k28_whole_fewest_blots) rfl rfl (λ w h Y => PySem.W.kIn_of Y) ?F
 case F =>
  intro w mg fa h KX G hmg
  refine' Lw.all_mk Lw.main KX G hmg ?f_law_at ?f_law_draws ?f_law_hidden ?f_law_free ?f_law_copies ?f_own_blots ?f_best_ahead ?f_numbers_behind ?f_fewest_numbers ?f_days_with_fewest ?f_fewest_blots ?f_law_whole ?f_law_list ?f_law_lists ?f_law_rising ?f_law_chain ?f_law_no_more ?a_law ?l_law ?d_law ?p_law ?a_bool ?a_enumerate ?a_int ?a_isinstance ?a_len ?a_list ?a_max ?a_min ?a_range ?a_reversed ?a_set ?a_sorted ?a_tuple ?a_zip
  (case f_law_at => (refine' L3.FF.mk ?xa ?xl ?xd ?xp; (case xa => k_is); (case xl => k_is); (case xd => k_is); (case xp => k_is)))
  (case f_law_draws => (refine' L3.FF.mk ?xa ?xl ?xd ?xp; (case xa => k_is); (case xl => k_is); (case xd => k_is); (case xp => k_is)))
  (case f_law_hidden => (refine' L3.FF.mk ?xa ?xl ?xd ?xp; (case xa => k_is); (case xl => k_is); (case xd => k_is); (case xp => k_is)))
  (case f_law_free => (refine' L3.FF.mk ?xa ?xl ?xd ?xp; (case xa => k_is); (case xl => k_is); (case xd => k_is); (case xp => k_is)))
  (case f_law_copies => (refine' L3.FF.mk ?xa ?xl ?xd ?xp; (case xa => k_is); (case xl => k_is); (case xd => k_is); (case xp => k_is)))
  (case f_own_blots => (refine' L3.FF.mk ?xa ?xl ?xd ?xp; (case xa => k_is); (case xl => k_is); (case xd => k_is); (case xp => k_is)))
  (case f_best_ahead => (refine' L3.FF.mk ?xa ?xl ?xd ?xp; (case xa => k_is); (case xl => k_is); (case xd => k_is); (case xp => k_is)))
  (case f_numbers_behind => (refine' L3.FF.mk ?xa ?xl ?xd ?xp; (case xa => k_is); (case xl => k_is); (case xd => k_is); (case xp => k_is)))
  (case f_fewest_numbers => (refine' L3.FF.mk ?xa ?xl ?xd ?xp; (case xa => k_is); (case xl => k_is); (case xd => k_is); (case xp => k_is)))
  (case f_days_with_fewest => (refine' L3.FF.mk ?xa ?xl ?xd ?xp; (case xa => k_is); (case xl => k_is); (case xd => k_is); (case xp => k_is)))
  (case f_fewest_blots => (refine' L3.FF.mk ?xa ?xl ?xd ?xp; (case xa => k_is); (case xl => k_is); (case xd => k_is); (case xp => k_is)))
  (case f_law_whole => (refine' L3.FF.mk ?xa ?xl ?xd ?xp; (case xa => k_is); (case xl => k_is); (case xd => k_is); (case xp => k_is)))
  (case f_law_list => (refine' L3.FF.mk ?xa ?xl ?xd ?xp; (case xa => k_is); (case xl => k_is); (case xd => k_is); (case xp => k_is)))
  (case f_law_lists => (refine' L3.FF.mk ?xa ?xl ?xd ?xp; (case xa => k_is); (case xl => k_is); (case xd => k_is); (case xp => k_is)))
  (case f_law_rising => (refine' L3.FF.mk ?xa ?xl ?xd ?xp; (case xa => k_is); (case xl => k_is); (case xd => k_is); (case xp => k_is)))
  (case f_law_chain => (refine' L3.FF.mk ?xa ?xl ?xd ?xp; (case xa => k_is); (case xl => k_is); (case xd => k_is); (case xp => k_is)))
  (case f_law_no_more => (refine' L3.FF.mk ?xa ?xl ?xd ?xp; (case xa => k_is); (case xl => k_is); (case xd => k_is); (case xp => k_is)))
  (case a_law => k_is)
  (case l_law => k_is)
  (case d_law => k_is)
  (case p_law => k_is)
  (case a_bool => k_is)
  (case a_enumerate => k_is)
  (case a_int => k_is)
  (case a_isinstance => k_is)
  (case a_len => k_is)
  (case a_list => k_is)
  (case a_max => k_is)
  (case a_min => k_is)
  (case a_range => k_is)
  (case a_reversed => k_is)
  (case a_set => k_is)
  (case a_sorted => k_is)
  (case a_tuple => k_is)
  (case a_zip => k_is)
