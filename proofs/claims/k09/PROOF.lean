import PyProof.Rows.All
import Wide.All
import OpenK.AllK
import Wide.FinOn
import Lean
import PyProof.EqAt
import PyProof.EqKinds
import PyProof.TupleCall
import KE.KTryMore
import PyProof.EnumFor
import PyProof.EnumMake
import PyProof.EnumStmt
import PyProof.Rows.EnumRows
import PyProof.StrWalks
import PyProof.StrCalls
import PyProof.FString
import PyProof.ConsumeWalk
import PyProof.ListRange
import PyProof.SumWalkG
import PyProof.Rows.SeqCalls
import KE.KRevIter
import KE.KRevSl
import PyProof.Rows.FactsT2
import PyProof.SetKind
import PyProof.Rows.SetFrom
import PyProof.Rows.SortShell
import PyProof.SetRoads
import PyProof.CollectWalk
import KE.KDictSum
import PyProof.Rows.SortWalk
import PyProof.P3In
import PyProof.ZipIter
import PyProof.Rows.ZipMeets
import PyProof.Rows.MinMaxN
import PySem.Challenge.RW_inkdays_k09_figures
set_option Elab.async false
set_option linter.all false
set_option maxRecDepth 100000
noncomputable section
namespace L2
open PySem PySem.Spec PyProof.Rows
noncomputable abbrev dB := Sum Int Str
noncomputable def oB : dB -> Value -> Bool
 | .inl k, v => Value.isInt k v
 | .inr x, v => Value.isStrOf x v
noncomputable def EJ (w : World) : dB -> Int
 | .inl k => hashInt k
 | .inr x => hashStr w x
theorem bE : ∀ {k : dB} {v : Value}, oB k v = true -> (∃ i t, k = Sum.inl i /\ v = Value.int i t) \/ (∃ x t, k = Sum.inr x /\ v = Value.str x t)
 | .inl i, v, h => by
  obtain ⟨t, e⟩ := Value.isInt_shape (k := i) (v := v) h
  exact .inl ⟨i, t, rfl, e⟩
 | .inr x, v, h => by
  obtain ⟨t, e⟩ := Value.isStrOf_shape (x := x) (v := v) h
  exact .inr ⟨x, t, rfl, e⟩
theorem vk (i : Int) (t : Tok) : oB (.inl i) (.int i t) = true := by simp [oB, Value.isInt]
theorem vm (x : Str) (t : Tok) : oB (.inr x) (.str x t) = true := by simp [oB, Value.isStrOf]
theorem Bt (a b : Int) : decide ((Sum.inl a : dB) = Sum.inl b) = (a == b) := by
 by_cases e : a = b
 ·subst e; simp
 ·have h : ¬ (Sum.inl a : dB) = Sum.inl b := λ q => e (Sum.inl.inj q)
  rw [decide_eq_false h]
  exact (beq_eq_false_iff_ne.mpr e).symm
theorem Bw (a b : Str) : decide ((Sum.inr a : dB) = Sum.inr b) = decide (a = b) := by
 by_cases e : a = b
 ·subst e; simp
 ·have h : ¬ (Sum.inr a : dB) = Sum.inr b := λ q => e (Sum.inr.inj q)
  rw [decide_eq_false h, decide_eq_false e]
theorem Bu (a : Int) (b : Str) : decide ((Sum.inl a : dB) = Sum.inr b) = false := decide_eq_false (λ q => nomatch q)
theorem Bv (a : Str) (b : Int) : decide ((Sum.inr a : dB) = Sum.inl b) = false := decide_eq_false (λ q => nomatch q)
noncomputable def b0 (prog : Program) (w : World) : PySem.KeyKind prog w dB where
 is := oB
 hash := EJ w
 inj := λ v a b ha hb => by
  rcases bE ha with ⟨i, t, rfl, rfl⟩ | ⟨x, t, rfl, rfl⟩
  ·rcases bE hb with ⟨j, u, rfl, e⟩ | ⟨y, u, rfl, e⟩
   ·injection e with e1 _; rw [e1]
   ·exact nomatch e
  ·rcases bE hb with ⟨j, u, rfl, e⟩ | ⟨y, u, rfl, e⟩
   ·exact nomatch e
   ·injection e with e1 _; rw [e1]
 byValue := λ k v h => by
  rcases bE h with ⟨i, t, rfl, rfl⟩ | ⟨x, t, rfl, rfl⟩ <;> rfl
 pyHash := λ hv h => by
  rcases bE hv with ⟨i, t, rfl, rfl⟩ | ⟨x, t, rfl, rfl⟩
  ·exact wpAny_pyHash_int h
  ·exact wpAny_pyHash_str h
 eqBool := λ hu hv h => by
  rcases bE hu with ⟨i, t, rfl, rfl⟩ | ⟨x, t, rfl, rfl⟩
  ·rcases bE hv with ⟨j, u, rfl, rfl⟩ | ⟨y, u, rfl, rfl⟩
   ·rw [Bt] at h; exact wpAny_eqBool_int h
   ·rw [Bu] at h; exact SeqAt.EqAt.int_str i t y u _ _ _ _ h
  ·rcases bE hv with ⟨j, u, rfl, rfl⟩ | ⟨y, u, rfl, rfl⟩
   ·rw [Bv] at h; exact SeqAt.EqAt.str_int x t j u _ _ _ _ h
   ·rw [Bw] at h; exact wpAny_eqBool_str h
 «strs» := λ k x t v h => by
  rcases bE h with ⟨i, u, rfl, e⟩ | ⟨y, u, rfl, e⟩
  ·exact nomatch e
  ·injection e with e1 _
   subst e1
   cases v <;> rfl
theorem rn (prog : Program) (w : World) (i : Int) (t : Tok) : (b0 prog w).is (.inl i) (.int i t) = true := vk i t
theorem ro (prog : Program) (w : World) (x : Str) (t : Tok) : (b0 prog w).is (.inr x) (.str x t) = true := vm x t
end L2
namespace L2
open PySem PySem.Spec PyProof.Rows
inductive V where
 | non | bl (b : Bool) | int (i : Int) | str (x : Str) | byt (b : Array UInt8) | flt (b : UInt64) | ref (a : Addr) | ty (n : String)
 deriving DecidableEq
noncomputable def aM : V -> Value -> Prop
 | .non, u => u = Value.none
 | .bl b, u => u = Value.bool b
 | .int i, u => ∃ t, u = Value.int i t
 | .str x, u => ∃ t, u = Value.str x t
 | .byt b, u => ∃ t, u = Value.bytes b t
 | .flt b, u => ∃ t, u = Value.float b t
 | .ref a, u => u = Value.ref a
 | .ty n, u => u = Value.type n
noncomputable abbrev aU : List V -> List Value -> Prop := Paired aM
theorem aU.length {xs : List V} {us : List Value} (r : aU xs us) : xs.length = us.length := Paired.length r
theorem aU.get : ∀ {xs : List V} {us : List Value} {i : Nat} {x : V}, aU xs us -> xs[i]? = some x -> ∃ u, us[i]? = some u /\ aM x u
 | _, _, _, _, .nil, e => by simp at e
 | _, _, 0, _, .cons r _, e => by simp at e; subst e; exact ⟨_, rfl, r⟩
 | _, _, i + 1, x, .cons _ t, e => by
  obtain ⟨u, h1, h2⟩ := aU.get (i := i) (x := x) t (by simpa using e)
  exact ⟨u, by simpa using h1, h2⟩
theorem aU.append : ∀ {xs ys : List V} {us ws : List Value}, aU xs us -> aU ys ws -> aU (xs ++ ys) (us ++ ws)
 | _, _, _, _, .nil, s => s
 | _, _, _, _, .cons r t, s => .cons r (aU.append t s)
theorem aU.take : ∀ {xs : List V} {us : List Value} (n : Nat), aU xs us -> aU (xs.take n) (us.take n)
 | _, _, 0, _ => .nil
 | _, _, _ + 1, .nil => .nil
 | _, _, n + 1, .cons r t => .cons r (aU.take n t)
theorem aU.drop : ∀ {xs : List V} {us : List Value} (n : Nat), aU xs us -> aU (xs.drop n) (us.drop n)
 | _, _, 0, r => r
 | _, _, _ + 1, .nil => .nil
 | _, _, n + 1, .cons _ t => aU.drop n t
noncomputable def qz : Option V -> Option Value -> Prop
 | some v, some u => aM v u
 | none, none => True
 | _, _ => False
noncomputable def KV {κ : Type} : List (κ × V) -> List (κ × Value) -> Prop := Paired λ (p : κ × V) (q : κ × Value) => p.1 = q.1 /\ aM p.2 q.2
noncomputable def kV : dB -> V
 | .inl i => .int i
 | .inr x => .str x
inductive HO where
  | lst (xs : List V)
  | tup (xs : List V)
  | dK (kvs : List (dB × V)) | dT (kvs : List (List dB × V))
  | set (S : Int -> Bool) (n : Nat)
  | ins (C dx : Addr) (fs : List (Str × V))
  | own (x : Addr)
  | xd (fs : List (Str × V))
  | met (f x : Addr)
  | rng (lo hi : Int)
  | frz (o : Obj) (u : HO)
  | tbl (ps : Array Value)
  | ext (φ : Heap -> Prop)
noncomputable abbrev Hp := Addr -> Option HO
noncomputable def cD (H : Hp) (a : Addr) (o : HO) : Hp := λ b => if b = a then some o else H b
theorem aA {H : Hp} {a : Addr} {o : HO} : cD H a o a = some o := by unfold cD; rw [if_pos rfl]
theorem ar {H : Hp} {a b : Addr} {o : HO} (h : b ≠ a) : cD H a o b = H b := by unfold cD; rw [if_neg h]
theorem AS {H : Hp} {a b : Addr} {o u : HO} (h : H a = some o) (h' : H b = some u) (d : o ≠ u) : a ≠ b := by
 intro e; subst e; rw [h] at h'; exact d (Option.some.inj h')
theorem aC {H : Hp} {a b : Addr} {o : HO} (h : H a = some o) (h' : H b = none) : a ≠ b := by
 intro e; subst e; rw [h] at h'; cases h'
section
variable (P : Program) (w : World)
noncomputable def cP (H : Hp) (h : Heap) (a : Addr) : HO -> Prop
 | .lst xs => xs.length <= sizeLine /\ ∃ (its : List Value) (n : Nat), aU xs its /\ h.get? a = some { cls := .type "list", data := .seq its.toArray n }
 | .tup xs => xs.length <= sizeLine /\ ∃ its : List Value, aU xs its /\ IsTup h a its.toArray
 | .dK kvs => kvs.length <= sizeLine /\ (a == sysModules) = false /\ ∃ vs, KV kvs vs /\ h.DictOf (b0 P w) a vs
 | .dT kvs => kvs.length <= sizeLine /\ (a == sysModules) = false /\ ∃ xs : List (List dB × Addr × Value),
   Paired (λ (p : List dB × V) (q : List dB × Addr × Value) => p.1 = q.1 /\ H q.2.1 = some (.tup (p.1.map kV)) /\ aM p.2 q.2.2) kvs xs ∧
   ∃ o es ep, h.get? a = some o /\ o.ExactDict /\ o.data = .dict es ep /\ es.toList = xs.map (entryOfKey (tupleKind (b0 P w))) /\ (xs.map (·.1)).Nodup
 | .set S n => h.SetOf (intKind P w) a S n
 | .ins C dx fs => H dx = some (.own a) /\ fs.length <= 1000 /\ dx ≠ a /\ h.get? a = some (PySem.W.instObj C dx) ∧
   ∃ mA, h.Ns1 dx mA /\ (∀ f, qz (fs.lookup f) (mA f)) /\ PySem.Within mA (fs.map (·.1))
 | .own _ => ∃ o, h.get? a = some o
 | .xd fs => ∃ mA, h.Ns1 a mA /\ ∀ f, qz (fs.lookup f) (mA f)
 | .rng lo hi => ∃ t u v, h.get? a = some { cls := .type "range", data := .fields #[.int lo t, .int hi u, .int 1 v] }
 | .frz o u => h.get? a = some o /\ cP H h a u
 | .tbl ps => h.get? a = some { cls := .none, data := .fields ps }
 | .met f x => h.get? a = some (PySem.W.methodObj (.ref f) (.ref x))
 | .ext φ => φ h /\ (∃ o, h.get? a = some o) /\ ∀ h1 h2 : Heap, φ h1 -> (∀ o, h1.get? a = some o -> h2.get? a = some o) -> φ h2
noncomputable def kg (H : Hp) (h : Heap) : Prop := ∀ a o, H a = some o -> cP P w H h a o
end
section
variable {P : Program} {w : World} {H H' : Hp} {h h' : Heap} {a : Addr} {o : HO}
theorem cP.lt (x : cP P w H h a o) : a < h.objs.size := by
 cases o with
 | lst xs => obtain ⟨_, _, _, _, e⟩ := x; exact Heap.lt_size e
 | tup xs => obtain ⟨_, _, _, p⟩ := x; exact p.lt
 | dK kvs => obtain ⟨_, _, _, _, o, _, _, e, _⟩ := x; exact Heap.lt_size e
 | dT kvs => obtain ⟨_, _, _, _, o, _, _, e, _⟩ := x; exact Heap.lt_size e
 | set S n => obtain ⟨o, _, _, _, e, _⟩ := x; exact Heap.lt_size e
 | ins C dx fs => obtain ⟨_, _, _, e, _⟩ := x; exact Heap.lt_size e
 | own y => obtain ⟨_, e⟩ := x; exact Heap.lt_size e
 | xd fs => obtain ⟨_, ⟨_, _, _, e, _⟩, _⟩ := x; exact Heap.lt_size e
 | rng lo hi => obtain ⟨_, _, _, e⟩ := x; exact Heap.lt_size e
 | frz ob u => obtain ⟨e, _⟩ := x; exact Heap.lt_size e
 | tbl ps => exact Heap.lt_size (show h.get? a = some _ from x)
 | met f y => exact Heap.lt_size (show h.get? a = some _ from x)
 | ext φ => obtain ⟨_, ⟨_, e⟩, _⟩ := x; exact Heap.lt_size e
theorem Paired.mapP {α β : Type} {F G : α -> β -> Prop} : ∀ {l₁ : List α} {l₂ : List β}, Paired F l₁ l₂ -> (∀ a b, F a b -> G a b) -> Paired G l₁ l₂
 | _, _, .nil, _ => .nil
 | _, _, .cons r t, f => .cons (f _ _ r) (Paired.mapP t f)
theorem cP.stay (x : cP P w H h a o) (k : ∀ b u, (b = a \/ H b = some (.own a)) -> h.get? b = some u -> h'.get? b = some u)
  (ho : ∀ b, H b = some (.own a) -> H' b = some (.own a)) (ht : ∀ b xs, H b = some (.tup xs) -> H' b = some (.tup xs)) : cP P w H' h' a o := by
 induction o with
 | lst xs => obtain ⟨z, its, n, r, e⟩ := x; exact ⟨z, its, n, r, k _ _ (.inl rfl) e⟩
 | tup xs => obtain ⟨z, its, r, ob, e, c⟩ := x; exact ⟨z, its, r, ob, k _ _ (.inl rfl) e, c⟩
 | dK kvs => obtain ⟨z, y, vs, r, ob, es, ep, e, c⟩ := x; exact ⟨z, y, vs, r, ob, es, ep, k _ _ (.inl rfl) e, c⟩
 | dT kvs =>
  obtain ⟨z, y, xs, r, ob, es, ep, e, c⟩ := x
  exact ⟨z, y, xs, Paired.mapP r λ p q z => ⟨z.1, ht _ _ z.2.1, z.2.2⟩, ob, es, ep, k _ _ (.inl rfl) e, c⟩
 | set S n => obtain ⟨ob, es, ep, t, e, c⟩ := x; exact ⟨ob, es, ep, t, k _ _ (.inl rfl) e, c⟩
 | ins C dx fs =>
  obtain ⟨d, z, ne, e, mA, ⟨od, es, ep, e2, c⟩, r⟩ := x
  exact ⟨ho _ d, z, ne, k _ _ (.inl rfl) e, mA, ⟨od, es, ep, k _ _ (.inr d) e2, c⟩, r⟩
 | own y => obtain ⟨ob, e⟩ := x; exact ⟨ob, k _ _ (.inl rfl) e⟩
 | xd fs => obtain ⟨mA, ⟨od, es, ep, e, c⟩, r⟩ := x; exact ⟨mA, ⟨od, es, ep, k _ _ (.inl rfl) e, c⟩, r⟩
 | rng lo hi => obtain ⟨t, u, v, e⟩ := x; exact ⟨t, u, v, k _ _ (.inl rfl) e⟩
 | frz ob u ih => obtain ⟨e, q⟩ := x; exact ⟨k _ _ (.inl rfl) e, ih q⟩
 | tbl ps =>
  have e : h.get? a = some { cls := .none, data := .fields ps } := x
  show h'.get? a = some { cls := .none, data := .fields ps }
  exact k a _ (.inl rfl) e
 | met f y =>
  have e : h.get? a = some (PySem.W.methodObj (.ref f) (.ref y)) := x
  show h'.get? a = some (PySem.W.methodObj (.ref f) (.ref y))
  exact k a _ (.inl rfl) e
 | ext φ => obtain ⟨p, ⟨o, e⟩, st⟩ := x; exact ⟨st _ _ p λ o q => k _ _ (.inl rfl) q, ⟨o, k _ _ (.inl rfl) e⟩, st⟩
theorem kg.lt (x : kg P w H h) (e : H a = some o) : a < h.objs.size := (x a o e).lt
theorem kg.fresh (x : kg P w H h) (e : h.objs.size <= a) : H a = none := by
 cases q : H a with
 | none => rfl
 | some u => exact absurd (Nat.lt_of_lt_of_le (x.lt q) e) (Nat.lt_irrefl _)
theorem kg.kept (x : kg P w H h) (k : ∀ b u, h.get? b = some u -> h'.get? b = some u) : kg P w H h' := λ a o e =>
 (x a o e).stay (λ b u _ q => k b u q) (λ _ q => q) λ _ _ q => q
theorem kg.laid (x : kg P w H h) (k : ∀ b u, h.get? b = some u -> h'.get? b = some u) (hp : h.objs.size <= a) (new : cP P w (cD H a o) h' a o) : kg P w (cD H a o) h' := λ b u e => by
 have hn := x.fresh hp
 by_cases hb : b = a
 ·subst hb; rw [aA] at e; cases e; exact new
 ·rw [ar hb] at e
  exact (x b u e).stay (λ c v _ q => k c v q) (λ c q => by rw [ar (aC q hn)]; exact q) λ c xs q => by rw [ar (aC q hn)]; exact q
end
noncomputable def Rd (H : Hp) (a : Addr) (u : HO) : Prop := H a = some u \/ ∃ o, H a = some (.frz o u)
theorem Rd.ok {P : Program} {w : World} {H : Hp} {h : Heap} {a : Addr} {u : HO} (r : Rd H a u) (x : kg P w H h) : cP P w H h a u := by
 rcases r with r | ⟨o, r⟩
 ·exact x a u r
 ·obtain ⟨_, q⟩ := x a _ r
  exact q
noncomputable def CZ : Option HO -> Prop
 | some (.lst _) => True
 | some (.dK _) => True
 | some (.dT _) => True
 | some (.set _ _) => True
 | some (.ins _ _ _) => True
 | some (.ext _) => True
 | _ => False
section
variable {P : Program} {w : World} {H : Hp} {h h' : Heap} {x e : Addr} {o' : HO}
theorem kg.write (ok : kg P w H h) (mu : CZ (H x)) (he : e = x \/ H e = some (.own x)) (k : ∀ b u, b ≠ e -> h.get? b = some u -> h'.get? b = some u) (heo : ∃ u, h'.get? e = some u)
  (new : cP P w (cD H x o') h' x o') : kg P w (cD H x o') h' := λ b u q => by
 have nown : ∀ c y, H c = some (.own y) -> c ≠ x := λ c y r z => by subst z; rw [r] at mu; exact mu
 have ntup : ∀ c xs, H c = some (.tup xs) -> c ≠ x := λ c xs r z => by subst z; rw [r] at mu; exact mu
 by_cases hb : b = x
 ·subst hb; rw [aA] at q; cases q; exact new
 ·rw [ar hb] at q
  by_cases hbe : b = e
  ·have q' : H b = some (.own x) := by
    rcases he with z | z
    ·exact absurd (hbe.trans z) hb
    ·rw [hbe]; exact z
   rw [q] at q'; cases q'
   obtain ⟨v, hv⟩ := heo
   exact ⟨v, by rw [hbe]; exact hv⟩
  ·refine (ok b u q).stay (λ c v hc r => k c v ?_ r) (λ c r => by rw [ar (nown c b r)]; exact r) λ c xs r => by rw [ar (ntup c xs r)]; exact r
   rcases hc with rfl | hc
   ·exact hbe
   ·rintro rfl
    rcases he with z | z
    ·exact nown c b hc z
    ·rw [hc] at z; cases z; exact hb rfl
end
structure Un (fs ex : List Addr) (H H' : Hp) (h h' : Heap) : Prop where
 keep : ∀ b o, h.get? b = some o -> H b = none -> b ∉ fs -> b ∉ ex -> h'.get? b = some o
 slot : ∀ b o, h.get? b = some o -> H b = none -> b ∈ fs -> b ∉ ex -> ∃ sl, h'.get? b = some { o with slots := sl }
 free : ∀ b o, h.get? b = some o -> H b = none -> b ∉ ex -> H' b = none
 there : ∀ b o, h.get? b = some o -> b ∉ ex -> ∃ o', h'.get? b = some o'
 tups : ∀ b xs, H b = some (.tup xs) -> H' b = some (.tup xs)
 frzs : ∀ b o u, H b = some (.frz o u) -> H' b = some (.frz o u)
 tbls : ∀ b ps, H b = some (.tbl ps) -> ∃ more, H' b = some (.tbl (ps ++ more))
section
variable {fs fs' ex ex' : List Addr} {H H1 H2 : Hp} {h h1 h2 h' : Heap} {a x e : Addr} {o : HO}
theorem Un.any (u : Un fs ex H H1 h h1) {b : Addr} {ob : Obj} (q : h.get? b = some ob) (n : H b = none) (hx : b ∉ ex) : ∃ sl, h1.get? b = some { ob with slots := sl } := by
 by_cases hb : b ∈ fs
 ·exact u.slot b ob q n hb hx
 ·exact ⟨ob.slots, u.keep b ob q n hb hx⟩
theorem Un.kept (k : ∀ b u, h.get? b = some u -> h'.get? b = some u) : Un fs ex H H h h' :=
 ⟨λ b ob q _ _ _ => k b ob q, λ b ob q _ _ _ => ⟨ob.slots, k b ob q⟩, λ _ _ _ n _ => n, λ b ob q _ => ⟨ob, k b ob q⟩, λ _ _ q => q, λ _ _ _ q => q, λ _ ps q => ⟨#[], by rw [q]; simp⟩⟩
theorem Un.refl : Un fs ex H H h h := Un.kept λ _ _ q => q
theorem Un.laid (k : ∀ b u, h.get? b = some u -> h'.get? b = some u) (hp : h.objs.size <= a) (hn : H a = none) : Un fs ex H (cD H a o) h h' where
 keep := λ b u q _ _ _ => k b u q
 slot := λ b u q _ _ _ => ⟨u.slots, k b u q⟩
 free := λ b u q n _ => by rw [ar (Nat.ne_of_lt (Nat.lt_of_lt_of_le (Heap.lt_size q) hp))]; exact n
 there := λ b u q _ => ⟨u, k b u q⟩
 tups := λ b xs q => by rw [ar (aC q hn)]; exact q
 frzs := λ b u xs q => by rw [ar (aC q hn)]; exact q
 tbls := λ b ps q => ⟨#[], by rw [ar (aC q hn), q]; simp⟩
theorem Un.write (mu : CZ (H x)) (he : e = x \/ H e = some (.own x)) (k : ∀ b u, b ≠ e -> h.get? b = some u -> h'.get? b = some u) (heo : ∃ u, h'.get? e = some u) : Un fs ex H (cD H x o) h h' := by
 have hx : ∀ b, H b = none -> b ≠ x := λ b n z => by subst z; rw [n] at mu; exact mu
 have hb : ∀ b, H b = none -> b ≠ e := λ b n z => by
  subst z
  rcases he with r | r
  ·exact hx b n r
  ·rw [n] at r; cases r
 have hm : ∀ b u, H b = some u -> ¬ CZ (some u) -> b ≠ x := λ b u q nm z => by subst z; rw [q] at mu; exact nm mu
 refine ⟨λ b u q n _ _ => k b u (hb b n) q, λ b u q n _ _ => ⟨u.slots, k b u (hb b n) q⟩, λ b u q n _ => by rw [ar (hx b n)]; exact n, λ b u q _ => ?_,
  λ b xs q => by rw [ar (hm b _ q λ z => z)]; exact q, λ b u xs q => by rw [ar (hm b _ q λ z => z)]; exact q, λ b ps q => ⟨#[], by rw [ar (hm b _ q λ z => z), q]; simp⟩⟩
 by_cases hbe : b = e
 ·subst hbe; exact heo
 ·exact ⟨u, k b u hbe q⟩
end
noncomputable def Av (h : Heap) (H : Hp) : List Addr := (List.range h.objs.size).filter λ a => (H a).isSome
noncomputable def pM (h : Heap) (H : Hp) : Heap := PySem.W.hideAll h (Av h H)
theorem vg (h : Heap) (H : Hp) : (pM h H).objs.size = h.objs.size := PySem.W.hideAll_size _ _
theorem wG {h : Heap} {H : Hp} {b : Addr} {o : Obj} (e : h.get? b = some o) (n : H b = none) : (pM h H).get? b = some o :=
 PySem.W.hideAll_get _ e λ hm => by
  have q : (H b).isSome = true := (List.mem_filter.mp hm).2
  rw [n] at q; simp at q
theorem zl {h : Heap} {H : Hp} {b : Addr} {o : Obj} (e : (pM h H).get? b = some o) : h.get? b = some o /\ H b = none := by
 have e' : h.get? b = some o := PySem.W.of_hideAll (Av h H) e
 refine ⟨e', ?_⟩
 cases q : H b with
 | none => rfl
 | some x =>
  have hm : b ∈ Av h H := List.mem_filter.mpr ⟨List.mem_range.mpr (Heap.lt_size e'), by simp [q]⟩
  have z : (pM h H).get? b = none := PySem.W.hideAll_none (Av h H) hm
  rw [z] at e; cases e
end L2
namespace L2
open PySem PySem.Spec PyProof.Rows
structure Mod (K : PySem.W.Frag) (mg : Str -> Option Value) (base : Heap) : Prop where
 kin : K.In base
 glob : base.Ns mainGlobals mg
 blt : ∃ mb, base.Ns builtinsNs mb /\ ∀ x : Str, x ≠ "__name__" -> mb x = bootBuiltins x
 nolimit : base.NoLimit
structure Cx where
 prog : Program
 w : World
 K : PySem.W.Frag
 mg : Str -> Option Value
 base : Heap
 A : Around
 N : List Str
 s₀ : Shared
 H₀ : Hp
 env : Env
 outer : List Env
 stack : List Env
 ex : List Addr
 fn : Str -> Bool
 calm : Bool
 pn : List (Addr × Obj)
 xe : Value -> Shared -> Prop
 sg : List (Addr × Obj) -> List (Option V) -> Prop := λ _ _ => True
noncomputable def kW (l : List Env) : List Addr := l.filterMap (·.frame)
noncomputable abbrev Cx.fs (X : Cx) : List Addr := kW X.outer
noncomputable def og (sc : Scope) (x : Str) : Prop := sc.names.lookup x = some .local \/ sc.names.lookup x = some .cell \/ sc.names.lookup x = some .free
noncomputable def nN (sc : Scope) (x : Str) : Prop := sc.names.lookup x = some .local \/ sc.names.lookup x = some .cell
noncomputable def Ep (env : Env) (h : Heap) (m : Str -> Option Value) (x : Str) (u : Value) : Prop :=
 (env.kindOf x = some .local /\ m x = some u) \/ ((env.kindOf x = some .cell \/ env.kindOf x = some .free) /\ ∃ c, env.cells.lookup x = some c /\ h.IsCell c (some u))
structure Cx.Ok (X : Cx) : Prop where
 mod : Mod X.K X.mg X.base
 kind : X.env.scope.kind = .function
 glob : X.env.globals = mainGlobals
 blt : X.env.builtins = builtinsNs
 above : X.s₀.heap.objs.size <= X.env.locals
 inj : ∀ x y c, X.env.cells.lookup x = some c -> X.env.cells.lookup y = some c -> x = y
 has : ∀ x, (X.env.kindOf x = some .cell \/ X.env.kindOf x = some .free) -> ∃ c, X.env.cells.lookup x = some c
 cab : ∀ x c, X.fn x = true -> X.env.cells.lookup x = some c -> X.s₀.heap.objs.size <= c
 hd : X.calm = true -> X.A.handled = none
 frames : X.A.frames = some X.stack
 stk : X.stack = X.outer \/ (X.stack = X.env :: X.outer /\ X.env.frame = some X.env.locals)
 exf : ∀ b ∈ X.ex, b ≠ X.env.locals /\ ∀ x c, X.env.cells.lookup x = some c -> c ≠ b
 bs : ∀ b o, X.base.get? b = some o -> X.s₀.heap.get? b = some o /\ X.H₀ b = none
 bsz : X.base.objs.size <= X.s₀.heap.objs.size
 noex : ∀ b o, X.base.get? b = some o -> b ∉ X.ex
 exfs : ∀ b ∈ X.ex, b ∉ X.fs
 funs : X.s₀.heap.FunFrames X.base X.outer
 frf : ∀ b ∈ X.fs, X.H₀ b = none
structure Inv (X : Cx) (pins : List (Addr × Obj)) (σ : List (Option V)) (H : Hp) (s : Shared) : Prop where
 ok : X.Ok
 os : s.os = X.s₀.os
 bare : AllBare s.gens
 base : Un X.fs X.ex X.H₀ H X.s₀.heap s.heap
 loc : ∃ m, s.heap.Ns X.env.locals m /\ ∀ (i : Nat) (x : Str) (v : V), X.N[i]? = some x -> σ[i]? = some (some v) -> og X.env.scope x -> ∃ u, aM v u /\ Ep X.env s.heap m x u
 cell : ∀ x c, X.env.cells.lookup x = some c -> ∃ v, s.heap.IsCell c v
 free : H X.env.locals = none
 freeC : ∀ x c, X.env.cells.lookup x = some c -> H c = none
 pin : ∀ p ∈ X.pn ++ pins, s.heap.get? p.1 = some p.2 /\ H p.1 = none /\ p.1 ≠ X.env.locals /\ p.1 ∉ X.fs /\ ∀ v, p.2.data ≠ .cell v
 hok : kg X.prog X.w H s.heap
 len : σ.length = X.N.length
 sgm : X.sg pins σ
section
variable {X : Cx} {pins : List (Addr × Obj)} {σ : List (Option V)} {H H' : Hp} {s : Shared} {h' : Heap}
theorem Cx.Ok.nofr (ok : X.Ok) {b : Addr} {o : Obj} (e : X.base.get? b = some o) : b ∉ X.fs := λ hb => by
 have := (ok.funs.mem hb).1
 rw [e] at this; cases this
theorem Inv.bs (I : Inv X pins σ H s) : ∀ b o, X.base.get? b = some o -> s.heap.get? b = some o /\ H b = none := λ b o e =>
 ⟨I.base.keep b o (I.ok.bs b o e).1 (I.ok.bs b o e).2 (I.ok.nofr e) (I.ok.noex b o e), I.base.free b o (I.ok.bs b o e).1 (I.ok.bs b o e).2 (I.ok.noex b o e)⟩
theorem Inv.bk (I : Inv X pins σ H s) : ∀ b o, X.base.get? b = some o -> s.heap.get? b = some o := λ b o e => (I.bs b o e).1
theorem Inv.mod (I : Inv X pins σ H s) : Mod X.K X.mg X.base := I.ok.mod
theorem Inv.kIn (I : Inv X pins σ H s) : X.K.In s.heap := I.ok.mod.kin.keeps I.bk
theorem Inv.lt (I : Inv X pins σ H s) : X.env.locals < s.heap.objs.size := let ⟨_, hn, _⟩ := I.loc; hn.lt
theorem Inv.sz (I : Inv X pins σ H s) : X.s₀.heap.objs.size <= s.heap.objs.size := Nat.le_trans I.ok.above (Nat.le_of_lt I.lt)
theorem Inv.nofs (I : Inv X pins σ H s) {a : Addr} (h : s.heap.objs.size <= a) : a ∉ X.fs := λ hb => by
 obtain ⟨_, o, ho, _⟩ := I.ok.funs.mem hb
 exact absurd (Nat.lt_of_lt_of_le (Heap.lt_size ho) (Nat.le_trans I.sz h)) (Nat.lt_irrefl _)
theorem Inv.cne (I : Inv X pins σ H s) : ∀ x c, X.env.cells.lookup x = some c -> c ≠ X.env.locals := λ x c e z => by
 obtain ⟨v, o, ho, hd⟩ := I.cell x c e
 obtain ⟨m, ⟨o', es, ep, ho', hd', _⟩, _⟩ := I.loc
 rw [z, ho'] at ho; cases ho; rw [hd'] at hd; cases hd
theorem Inv.funs (I : Inv X pins σ H s) : s.heap.FunFrames X.base X.outer := by
 have all : ∀ (l : List Env), (∀ b ∈ kW l, b ∈ X.fs) -> X.s₀.heap.FunFrames X.base l -> s.heap.FunFrames X.base l := by
  intro l
  induction l with
  | nil => intro _ _; trivial
  | cons env r ih =>
   intro hs hl
   obtain ⟨hk, ⟨L, o, hf, hn, ho, hd⟩, hr⟩ := hl
   have hL : L ∈ X.fs := hs L (by unfold kW; rw [List.filterMap_cons, hf]; exact List.mem_cons_self)
   obtain ⟨sl, e⟩ := I.base.slot L o ho (I.ok.frf L hL) hL λ z => I.ok.exfs L z hL
   exact ⟨hk, ⟨L, _, hf, hn, e, hd⟩, ih (λ b hb => hs b (by unfold kW; rw [List.filterMap_cons, hf]; exact List.mem_cons_of_mem _ hb)) hr⟩
 exact all X.outer (λ _ hb => hb) I.ok.funs
theorem Inv.stack (I : Inv X pins σ H s) : s.heap.FunFrames X.base X.stack := by
 rcases I.ok.stk with e | ⟨e, hf⟩
 ·rw [e]; exact I.funs
 ·rw [e]
  obtain ⟨m, hn, _⟩ := I.loc
  refine .cons (by rw [I.ok.kind]; decide) hf hn ?_ I.funs
  exact Heap.get?_none_of_le (Nat.le_trans I.ok.bsz I.ok.above)
theorem Inv.stkSub (I : Inv X pins σ H s) : ∀ b ∈ kW X.stack, b ∈ X.env.locals :: X.fs := λ b hb => by
 rcases I.ok.stk with e | ⟨e, hf⟩
 ·rw [e] at hb; exact List.mem_cons_of_mem _ hb
 ·rw [e] at hb
  unfold kW at hb
  rw [List.filterMap_cons, hf] at hb
  exact hb
theorem Inv.stkFree (I : Inv X pins σ H s) : ∀ b ∈ kW X.stack, H b = none := λ b hb => by
 rcases List.mem_cons.mp (I.stkSub b hb) with e | hb
 ·rw [e]; exact I.free
 ·obtain ⟨_, o, ho, _⟩ := I.ok.funs.mem hb
  exact I.base.free b o ho (I.ok.frf b hb) λ z => I.ok.exfs b z hb
theorem Inv.step {g' : Array GenState} {t' : Nat} {d' : Drawn} {ch : List Addr} (I : Inv X pins σ H s)
  (hch : ∀ b ∈ ch, (b ∈ X.ex \/ X.s₀.heap.get? b = none) /\ b ≠ X.env.locals /\ (∀ x c, X.env.cells.lookup x = some c -> c ≠ b) /\ ∀ p ∈ X.pn ++ pins, p.1 ≠ b)
  (keep : ∀ b o, b ≠ X.env.locals -> b ∉ X.fs -> b ∉ ch -> s.heap.get? b = some o -> H b = none -> h'.get? b = some o)
  (slot : ∀ b o, b ≠ X.env.locals -> b ∈ X.fs -> b ∉ ch -> s.heap.get? b = some o -> H b = none -> ∃ sl, h'.get? b = some { o with slots := sl }) (free : ∀ b o, b ∉ ch -> s.heap.get? b = some o -> H b = none -> H' b = none)
  (there : ∀ b o, b ∉ ch -> s.heap.get? b = some o -> ∃ o', h'.get? b = some o')
  (tups : ∀ b xs, H b = some (.tup xs) -> H' b = some (.tup xs)) (frzs : ∀ b o u, H b = some (.frz o u) -> H' b = some (.frz o u)) (tbls : ∀ b ps, H b = some (.tbl ps) -> ∃ more, H' b = some (.tbl (ps ++ more)))
  (ns : ∀ m, s.heap.Ns X.env.locals m -> h'.Ns X.env.locals m) (hok : kg X.prog X.w H' h') (hg : AllBare g') :
  Inv X pins σ H' { s with heap := h', gens := g', drawn := d', toks := t' } := by
 have neL : ∀ b o, X.s₀.heap.get? b = some o -> b ≠ X.env.locals := λ b o e => Nat.ne_of_lt (Nat.lt_of_lt_of_le (Heap.lt_size e) I.ok.above)
 have neC : ∀ b o, X.s₀.heap.get? b = some o -> b ∉ X.ex -> b ∉ ch := λ b o e hx hb => by
  rcases (hch b hb).1 with z | z
  ·exact hx z
  ·rw [z] at e; cases e
 have cellK : ∀ x c, X.env.cells.lookup x = some c -> ∀ v, s.heap.IsCell c v -> h'.IsCell c v := λ x c e v ⟨o, ho, hd⟩ => by
  have nch : c ∉ ch := λ z => (hch c z).2.2.1 x c e rfl
  by_cases hc : c ∈ X.fs
  ·obtain ⟨sl, q⟩ := slot c o (I.cne x c e) hc nch ho (I.freeC x c e)
   exact ⟨_, q, hd⟩
  ·exact ⟨o, keep c o (I.cne x c e) hc nch ho (I.freeC x c e), hd⟩
 refine ⟨I.ok, I.os, hg, ⟨λ b o e n hb hx => ?_, λ b o e n hb hx => ?_, λ b o e n hx => ?_, λ b o e hx => ?_, λ b xs e => tups b xs (I.base.tups b xs e), λ b o xs e => frzs b o xs (I.base.frzs b o xs e), λ b ps e => ?_⟩, ?_, λ x c e => ?_, ?_, λ x c e => ?_, λ p hp => ?_, hok, I.len, I.sgm⟩
 ·exact keep b o (neL b o e) hb (neC b o e hx) (I.base.keep b o e n hb hx) (I.base.free b o e n hx)
 ·obtain ⟨sl, e1⟩ := I.base.slot b o e n hb hx
  obtain ⟨sl', e2⟩ := slot b _ (neL b o e) hb (neC b o e hx) e1 (I.base.free b o e n hx)
  exact ⟨sl', e2⟩
 ·obtain ⟨o', e1⟩ := I.base.there b o e hx
  exact free b o' (neC b o e hx) e1 (I.base.free b o e n hx)
 ·obtain ⟨o', e1⟩ := I.base.there b o e hx
  exact there b o' (neC b o e hx) e1
 ·obtain ⟨m1, e1⟩ := I.base.tbls b ps e
  obtain ⟨m2, e2⟩ := tbls b _ e1
  exact ⟨m1 ++ m2, by rw [e2, Array.append_assoc]⟩
 ·obtain ⟨m, hn, hl⟩ := I.loc
  refine ⟨m, ns m hn, λ i x v e1 e2 e3 => ?_⟩
  obtain ⟨u, r, l⟩ := hl i x v e1 e2 e3
  refine ⟨u, r, ?_⟩
  rcases l with l | ⟨k, c, e, z⟩
  ·exact .inl l
  ·exact .inr ⟨k, c, e, cellK x c e _ z⟩
 ·obtain ⟨v, z⟩ := I.cell x c e
  exact ⟨v, cellK x c e v z⟩
 ·obtain ⟨m, ⟨o, _, _, ho, _⟩, _⟩ := I.loc
  exact free _ o (λ z => (hch _ z).2.1 rfl) ho I.free
 ·obtain ⟨v, o, ho, hd⟩ := I.cell x c e
  exact free c o (λ z => (hch c z).2.2.1 x c e rfl) ho (I.freeC x c e)
 ·obtain ⟨e, n, ne, nf, d⟩ := I.pin p hp
  have nch : p.1 ∉ ch := λ z => (hch p.1 z).2.2.2 p hp rfl
  exact ⟨keep p.1 p.2 ne nf nch e n, free p.1 p.2 nch e n, ne, nf, d⟩
theorem Inv.un {t' : Nat} (I : Inv X pins σ H s) (u : Un X.fs [] H H' s.heap h') (hok : kg X.prog X.w H' h') : Inv X pins σ H' { s with heap := h', toks := t' } := by
 obtain ⟨m, ⟨o, es, ep, ho, r⟩, _⟩ := id I.loc
 obtain ⟨sl, hL⟩ := u.any ho I.free (by simp)
 exact I.step (g' := s.gens) (d' := s.drawn) (ch := []) (λ _ z => nomatch z) (λ b o _ hb _ e n => u.keep b o e n hb (by simp)) (λ b o _ hb _ e n => u.slot b o e n hb (by simp)) (λ b o _ e n => u.free b o e n (by simp)) (λ b o _ e => u.there b o e (by simp)) u.tups u.frzs u.tbls (λ m' hm => by
  obtain ⟨o', es', ep', ho', r'⟩ := hm
  rw [ho] at ho'; cases ho'
  exact ⟨_, es', ep', hL, r'⟩) hok I.bare
theorem Inv.call {g' : Array GenState} {t' : Nat} {d' : Drawn} {ch : List Addr} (I : Inv X pins σ H s) (u : Un (kW X.stack) ch H H' s.heap h') (hok : kg X.prog X.w H' h') (hg : AllBare g')
  (hch : ∀ b ∈ ch, (b ∈ X.ex \/ X.s₀.heap.get? b = none) /\ b ≠ X.env.locals /\ (∀ x c, X.env.cells.lookup x = some c -> c ≠ b) /\ ∀ p ∈ X.pn ++ pins, p.1 ≠ b) :
  Inv X pins σ H' { s with heap := h', gens := g', drawn := d', toks := t' } := by
 obtain ⟨m, ⟨o, es, ep, ho, r⟩, _⟩ := id I.loc
 obtain ⟨sl, hL⟩ := u.any ho I.free λ z => (hch _ z).2.1 rfl
 exact I.step (ch := ch) hch (λ b o hL hb hc e n => u.keep b o e n (λ z => (List.mem_cons.mp (I.stkSub b z)).elim hL hb) hc) (λ b o _ _ hc e n => u.any e n hc) (λ b o hc e n => u.free b o e n hc) (λ b o hc e => u.there b o e hc) u.tups u.frzs u.tbls (λ m' hm => by
  obtain ⟨o', es', ep', ho', r'⟩ := hm
  rw [ho] at ho'; cases ho'
  exact ⟨_, es', ep', hL, r'⟩) hok hg
theorem Inv.turned {t' : Nat} {it : Addr} (I : Inv X pins σ H s) (k : ∀ b o, b ≠ it -> s.heap.get? b = some o -> h'.get? b = some o) (hn : H it = none) (hL : it ≠ X.env.locals)
  (h1 : it ∈ X.ex \/ X.s₀.heap.objs.size <= it) (h2 : ∀ x c, X.env.cells.lookup x = some c -> c ≠ it) (h3 : ∀ p ∈ X.pn ++ pins, p.1 ≠ it) : Inv X pins σ H { s with heap := h', toks := t' } := by
 have nit : ∀ b u, H b = some u -> b ≠ it := λ b u e z => by rw [z, hn] at e; cases e
 refine I.step (g' := s.gens) (d' := s.drawn) (ch := [it]) (λ b hb => ?_) (λ b o _ _ hc e _ => k b o (λ z => hc (by simp [z])) e) (λ b o _ _ hc e _ => ⟨o.slots, k b o (λ z => hc (by simp [z])) e⟩) (λ _ _ _ _ n => n)
  (λ b o hc e => ⟨o, k b o (λ z => hc (by simp [z])) e⟩) (λ _ _ e => e) (λ _ _ _ e => e) (λ b ps e => ⟨#[], by rw [e]; simp⟩) (λ m hm => ?_) (λ b u e => ?_) I.bare
 ·have e : b = it := by simpa using hb
  subst e
  exact ⟨h1.imp id Heap.get?_none_of_le, hL, h2, h3⟩
 ·obtain ⟨o, es, ep, ho, r⟩ := hm
  exact ⟨o, es, ep, k _ o (Ne.symm hL) ho, r⟩
 ·refine (I.hok b u e).stay (λ c v hc q => k c v ?_ q) (λ _ q => q) λ _ _ q => q
  rcases hc with z | z
  ·rw [z]; exact nit b u e
  ·exact nit c _ z
theorem Inv.tok (I : Inv X pins σ H s) (t : Nat) : Inv X pins σ H { s with toks := t } := I.un (h' := s.heap) (t' := t) Un.refl I.hok
theorem Inv.kept {t' : Nat} (I : Inv X pins σ H s) (k : ∀ b u, s.heap.get? b = some u -> h'.get? b = some u) : Inv X pins σ H { s with heap := h', toks := t' } := I.un (Un.kept k) (I.hok.kept k)
theorem Inv.laid {a : Addr} {o : HO} {t' : Nat} (I : Inv X pins σ H s) (k : ∀ b u, s.heap.get? b = some u -> h'.get? b = some u) (hp : s.heap.objs.size <= a) (new : cP X.prog X.w (cD H a o) h' a o) :
  Inv X pins σ (cD H a o) { s with heap := h', toks := t' } := I.un (Un.laid k hp (I.hok.fresh hp)) (I.hok.laid k hp new)
theorem Inv.write {x e : Addr} {o : HO} {t' : Nat} (I : Inv X pins σ H s) (mu : CZ (H x)) (he : e = x \/ H e = some (.own x)) (k : ∀ b u, b ≠ e -> s.heap.get? b = some u -> h'.get? b = some u) (heo : ∃ u, h'.get? e = some u)
  (new : cP X.prog X.w (cD H x o) h' x o) : Inv X pins σ (cD H x o) { s with heap := h', toks := t' } := I.un (Un.write mu he k heo) (I.hok.write mu he k heo new)
theorem Inv.pins_of {pins' : List (Addr × Obj)} (I : Inv X pins σ H s) (h : ∀ p ∈ pins', s.heap.get? p.1 = some p.2 /\ H p.1 = none /\ p.1 ≠ X.env.locals /\ p.1 ∉ X.fs /\ ∀ v, p.2.data ≠ .cell v) (hsg : X.sg pins' σ) : Inv X pins' σ H s :=
 ⟨I.ok, I.os, I.bare, I.base, I.loc, I.cell, I.free, I.freeC, λ p hp => (List.mem_append.mp hp).elim (λ z => I.pin p (List.mem_append_left _ z)) (h p), I.hok, I.len, hsg⟩
theorem rz {N : List Str} (hN : N.Nodup) {i j : Nat} {x : Str} (a : N[i]? = some x) (b : N[j]? = some x) : i = j := by
 obtain ⟨h1, e1⟩ := List.getElem?_eq_some_iff.mp a
 obtain ⟨h2, e2⟩ := List.getElem?_eq_some_iff.mp b
 exact (List.getElem_inj hN).mp (e1.trans e2.symm)
theorem vV {M : Model} {A : Around} {E : Value -> Shared -> Prop} {i : Nat} {x : Str} {v : V} {u : Value} {Q : Unit -> Shared -> Prop} (I : Inv X pins σ H s) (hN : X.N.Nodup) (hi : X.N[i]? = some x) (hx : nN X.env.scope x) (r : aM v u)
  (h : ∀ s', Inv X pins (σ.set i (some v)) H s' -> (∃ a, Heap.SameBut a s.heap s'.heap /\ (a = X.env.locals \/ X.env.cells.lookup x = some a)) -> Q () s') (hf : X.fn x = true \/ X.env.scope.names.lookup x = some .local := by first | exact .inl rfl | exact .inr rfl | assumption) (hsg : ∀ p σ v, X.sg p σ -> X.sg p (σ.set i (some v)) := by first | exact λ _ _ _ _ => trivial | assumption) : wpAny M A (storeName X.env x u) Q E s := by
 obtain ⟨m, hn, hl⟩ := id I.loc
 have hcls : (X.env.scope.kind == .class || (X.env.scope.kind == .module && X.env.locals != X.env.globals)) = false := by rw [I.ok.kind]; rfl
 have hiσ : i < σ.length := by rw [I.len]; exact (List.getElem?_eq_some_iff.mp hi).1
 have cne := I.cne
 have tracked : ∀ {a : Addr} {h' : Heap}, (∃ o, s.heap.get? a = some o /\ H a = none) -> Heap.SameBut a s.heap h' -> kg X.prog X.w H h' := λ {a h'} ha hs b ob e => by
  obtain ⟨_, _, hfree⟩ := ha
  refine (I.hok b ob e).stay (λ c w' hc q => (hs.2 c ?_).trans q) (λ _ q => q) λ _ _ q => q
  rintro rfl
  rcases hc with rfl | hc
  ·rw [hfree] at e; cases e
  ·rw [hfree] at hc; cases hc
 rcases hx with hk | hk
 ·refine wpAny_storeName_local hk hn (λ h' hn' hs => ?_) hcls
  obtain ⟨oL, _, _, hoL, _⟩ := id hn
  refine h _ ⟨I.ok, I.os, I.bare, ⟨λ b o e n hb hx => ?_, λ b o e n hb hx => ?_, I.base.free, λ b o e hx => ?_, I.base.tups, I.base.frzs, I.base.tbls⟩, ⟨_, hn', λ j y v' e1 e2 e3 => ?_⟩, λ y c e => ?_, I.free, I.freeC, λ p hp => ?_, tracked ⟨oL, hoL, I.free⟩ hs, by simpa using I.len, hsg _ _ _ I.sgm⟩ ⟨_, hs, .inl rfl⟩
  ·exact (hs.2 b (Nat.ne_of_lt (Nat.lt_of_lt_of_le (Heap.lt_size e) I.ok.above))).trans (I.base.keep b o e n hb hx)
  ·obtain ⟨sl, e1⟩ := I.base.slot b o e n hb hx
   exact ⟨sl, (hs.2 b (Nat.ne_of_lt (Nat.lt_of_lt_of_le (Heap.lt_size e) I.ok.above))).trans e1⟩
  ·obtain ⟨o', e1⟩ := I.base.there b o e hx
   exact ⟨o', (hs.2 b (Nat.ne_of_lt (Nat.lt_of_lt_of_le (Heap.lt_size e) I.ok.above))).trans e1⟩
  ·by_cases hj : j = i
   ·subst hj
    rw [hi] at e1; cases e1
    rw [List.getElem?_set_self hiσ] at e2
    cases e2
    exact ⟨u, r, .inl ⟨hk, by simp⟩⟩
   ·rw [List.getElem?_set_ne (Ne.symm hj)] at e2
    obtain ⟨u', r', q⟩ := hl j y v' e1 e2 e3
    refine ⟨u', r', ?_⟩
    rcases q with ⟨k, e⟩ | ⟨k, c, e, z⟩
    ·refine .inl ⟨k, ?_⟩
     have : y ≠ x := λ e => hj (rz hN e1 (e ▸ hi))
     simp [this, e]
    ·exact .inr ⟨k, c, e, z.sameBut hs (cne y c e)⟩
  ·obtain ⟨w', z⟩ := I.cell y c e
   exact ⟨w', z.sameBut hs (cne y c e)⟩
  ·obtain ⟨e, n, ne, nf, d⟩ := I.pin p hp
   exact ⟨(hs.2 p.1 ne).trans e, n, ne, nf, d⟩
 ·have hfn : X.fn x = true := by
   rcases hf with z | z
   ·exact z
   ·rw [z] at hk; cases hk
  obtain ⟨c, hc⟩ := I.ok.has x (.inl hk)
  obtain ⟨w', z⟩ := I.cell x c hc
  refine wpAny_storeName_cell I.ok.kind hk hc z (λ h' hc' hs => ?_)
  obtain ⟨oc, hoc, hocd⟩ := id z
  refine h { s with heap := h' } ⟨I.ok, I.os, I.bare, ⟨λ b o e n hb hx => ?_, λ b o e n hb hx => ?_, I.base.free, λ b o e hx => ?_, I.base.tups, I.base.frzs, I.base.tbls⟩, ⟨m, hn.sameBut hs (Ne.symm (cne x c hc)), λ j y v' e1 e2 e3 => ?_⟩, λ y c' e => ?_, I.free, I.freeC, λ p hp => ?_, tracked ⟨oc, hoc, I.freeC x c hc⟩ hs, by simpa using I.len, hsg _ _ _ I.sgm⟩ ⟨c, hs, .inr hc⟩
  ·exact (hs.2 b (Nat.ne_of_lt (Nat.lt_of_lt_of_le (Heap.lt_size e) (I.ok.cab x c hfn hc)))).trans (I.base.keep b o e n hb hx)
  ·obtain ⟨sl, e1⟩ := I.base.slot b o e n hb hx
   exact ⟨sl, (hs.2 b (Nat.ne_of_lt (Nat.lt_of_lt_of_le (Heap.lt_size e) (I.ok.cab x c hfn hc)))).trans e1⟩
  ·obtain ⟨o', e1⟩ := I.base.there b o e hx
   exact ⟨o', (hs.2 b (Nat.ne_of_lt (Nat.lt_of_lt_of_le (Heap.lt_size e) (I.ok.cab x c hfn hc)))).trans e1⟩
  ·by_cases hj : j = i
   ·subst hj
    rw [hi] at e1; cases e1
    rw [List.getElem?_set_self hiσ] at e2
    cases e2
    exact ⟨u, r, .inr ⟨.inl hk, c, hc, hc'⟩⟩
   ·rw [List.getElem?_set_ne (Ne.symm hj)] at e2
    obtain ⟨u', r', q⟩ := hl j y v' e1 e2 e3
    refine ⟨u', r', ?_⟩
    rcases q with q | ⟨k, c', e, z'⟩
    ·exact .inl q
    ·refine .inr ⟨k, c', e, z'.sameBut hs ?_⟩
     rintro rfl
     exact hj (rz hN e1 (I.ok.inj _ _ _ e hc ▸ hi))
  ·by_cases hcc : c' = c
   ·subst hcc; exact ⟨_, hc'⟩
   ·obtain ⟨w2, z2⟩ := I.cell y c' e
    exact ⟨w2, z2.sameBut hs hcc⟩
  ·obtain ⟨e, n, ne, nf, d⟩ := I.pin p hp
   refine ⟨(hs.2 p.1 ?_).trans e, n, ne, nf, d⟩
   intro q
   rw [q, hoc] at e
   have q' : oc = p.2 := Option.some.inj e
   exact d w' (by rw [<- q']; exact hocd)
theorem ju {M : Model} {A : Around} {E : Value -> Shared -> Prop} {i : Nat} {x : Str} {v : V} {u : Value} {Q : Unit -> Shared -> Prop} (I : Inv X pins σ H s) (hN : X.N.Nodup) (hi : X.N[i]? = some x) (hx : nN X.env.scope x) (r : aM v u)
  (h : ∀ s', Inv X pins (σ.set i (some v)) H s' -> Q () s') (hf : X.fn x = true \/ X.env.scope.names.lookup x = some .local := by first | exact .inl rfl | exact .inr rfl | assumption) (hsg : ∀ p σ v, X.sg p σ -> X.sg p (σ.set i (some v)) := by first | exact λ _ _ _ _ => trivial | assumption) : wpAny M A (storeName X.env x u) Q E s :=
 vV I hN hi hx r (λ s' I' _ => h s' I') hf hsg
theorem Inv.call' {s' : Shared} {ch : List Addr} (I : Inv X pins σ H s) (ho : s'.os = s.os) (u : Un (kW X.stack) ch H H' s.heap s'.heap) (hok : kg X.prog X.w H' s'.heap) (hg : AllBare s'.gens)
  (hch : ∀ b ∈ ch, (b ∈ X.ex \/ X.s₀.heap.get? b = none) /\ b ≠ X.env.locals /\ (∀ x c, X.env.cells.lookup x = some c -> c ≠ b) /\ ∀ p ∈ X.pn ++ pins, p.1 ≠ b) : Inv X pins σ H' s' := by
 obtain ⟨h', g', d', t', o'⟩ := s'
 have e : o' = s.os := ho
 subst e
 exact I.call (g' := g') (t' := t') (d' := d') u hok hg hch
end
noncomputable abbrev XK := Value -> Option Addr -> Hp -> Prop
noncomputable abbrev St := List (Option V)
noncomputable abbrev VK := V -> Hp -> Prop
noncomputable abbrev TE := St -> Hp -> VK -> Prop
noncomputable abbrev TT := St -> Hp -> (Bool -> Hp -> Prop) -> Prop
noncomputable abbrev TA := St -> Hp -> (List V -> Hp -> Prop) -> Prop
structure Ends where
 nx : St -> Hp -> Prop
 rt : VK
 bk : St -> Hp -> Prop := λ _ _ => False
 ct : St -> Hp -> Prop := λ _ _ => False
noncomputable abbrev TS := Ends -> St -> Hp -> Prop
noncomputable def EP (X : Cx) (pins : List (Addr × Obj)) (σ : St) (Q : VK) (u : Value) (s' : Shared) : Prop := ∃ v H', Inv X pins σ H' s' /\ aM v u /\ Q v H'
noncomputable def TP (X : Cx) (pins : List (Addr × Obj)) (σ : St) (Q : Bool -> Hp -> Prop) (b : Bool) (s' : Shared) : Prop := ∃ H', Inv X pins σ H' s' /\ Q b H'
noncomputable def AP (X : Cx) (pins : List (Addr × Obj)) (σ : St) (Q : List V -> Hp -> Prop) (us : List Value) (s' : Shared) : Prop := ∃ vs H', Inv X pins σ H' s' /\ aU vs us /\ Q vs H'
noncomputable def SP (X : Cx) (pins : List (Addr × Obj)) (D : Ends) (f : Flow) (s' : Shared) : Prop :=
 match f with
 | .next => ∃ σ' H', Inv X pins σ' H' s' /\ D.nx σ' H'
 | .brk => ∃ σ' H', Inv X pins σ' H' s' /\ D.bk σ' H'
 | .cont => ∃ σ' H', Inv X pins σ' H' s' /\ D.ct σ' H'
 | .ret u => ∃ v σ' H', Inv X pins σ' H' s' /\ aM v u /\ D.rt v H'
noncomputable def PE (X : Cx) (e : Expr) (t : TE) : Prop :=
 ∀ (pins : List (Addr × Obj)) (s : Shared) (σ : St) (H : Hp) (Q : VK), Inv X pins σ H s -> t σ H Q -> wpAny (model X.prog X.w) X.A (eval e X.env) (EP X pins σ Q) X.xe s
noncomputable def PT (X : Cx) (e : Expr) (t : TT) : Prop :=
 ∀ (pins : List (Addr × Obj)) (s : Shared) (σ : St) (H : Hp) (Q : Bool -> Hp -> Prop), Inv X pins σ H s -> t σ H Q -> wpAny (model X.prog X.w) X.A (isTrue e X.env (eval e X.env)) (TP X pins σ Q) X.xe s
noncomputable def PW (X : Cx) (e : Expr) (t : TT) : Prop :=
 ∀ (whole : Sem Value) (pins : List (Addr × Obj)) (s : Shared) (σ : St) (H : Hp) (Q : Bool -> Hp -> Prop), Inv X pins σ H s -> t σ H Q -> wpAny (model X.prog X.w) X.A (isTrue e X.env whole) (TP X pins σ Q) X.xe s
theorem PW.pt {X : Cx} {e : Expr} {t : TT} (h : PW X e t) : PT X e t := h _
noncomputable def PA (X : Cx) (es : List Expr) (t : TA) : Prop :=
 ∀ (pos : Pos) (pins : List (Addr × Obj)) (s : Shared) (σ : St) (H : Hp) (Q : List V -> Hp -> Prop), Inv X pins σ H s -> t σ H Q -> wpAny (model X.prog X.w) X.A (spliced (backTo pos (starEach es X.env))) (AP X pins σ Q) X.xe s
noncomputable def PS (X : Cx) (st : Stmt) (t : TS) : Prop :=
 ∀ (pins : List (Addr × Obj)) (s : Shared) (σ : St) (H : Hp) (D : Ends), Inv X pins σ H s -> t D σ H -> wpAny (model X.prog X.w) X.A (exec st X.env) (SP X pins D) X.xe s
noncomputable def AE (X : Cx) (st : List Stmt) (t : TS) : Prop :=
 ∀ (pins : List (Addr × Obj)) (s : Shared) (σ : St) (H : Hp) (D : Ends), Inv X pins σ H s -> t D σ H -> wpAny (model X.prog X.w) X.A (execs st X.env) (SP X pins D) X.xe s
theorem bw {α : Type} {t : Sem α} {Q Q' : α -> Shared -> Prop} {M : Model} {A : Around} {E : Value -> Shared -> Prop} {s : Shared} (h : wpAny M A t Q E s) (hQ : ∀ a s, Q a s -> Q' a s) : wpAny M A t Q' E s := wpAny_mono h hQ λ _ _ x => x
end L2
namespace L2
open PySem PySem.Spec PyProof.Rows
section
variable {X : Cx}
noncomputable def CB (i : Nat) : TE := λ σ H Q => ∃ v, σ[i]? = some (some v) /\ Q v H
noncomputable def tC (v : V) : TE := λ _ H Q => Q v H
theorem j7 {i : Nat} {x : Str} {pos : Pos} (hN : X.N[i]? = some x) (hv : og X.env.scope x) (hd : (x == ("__debug__" : Str)) = false := by decide) (hcd : (x == ("__classdict__" : Str)) = false := by decide) : PE X (.Name x pos) (CB i) := by
 intro pins s σ H Q I h
 obtain ⟨v, e, h⟩ := h
 obtain ⟨m, hn, hl⟩ := I.loc
 obtain ⟨u, r, l⟩ := hl i x v hN e hv
 have fin : EP X pins σ Q u s := ⟨v, H, I, r, h⟩
 rcases l with ⟨hk, hm⟩ | ⟨hk, c, hc, hcell⟩
 ·exact wpAny_Name (wpAny_loadName_local I.ok.kind hk hn hm fin) hd
 ·rcases hk with hk | hk
  ·exact wpAny_Name (wpAny_loadName_cell I.ok.kind hk hc hcell fin) hd
  ·exact wpAny_Name (wpAny_loadName_free I.ok.kind hk hc hcell fin hcd) hd
theorem xm {i j pos} : PE X (.Constant (.int i) j pos) (tC (.int i)) := λ _ _ _ H _ I h => wpAny_Constant_int ⟨.int i, H, I.tok _, ⟨_, rfl⟩, h⟩
theorem Dw {b j pos} : PE X (.Constant (.bool b) j pos) (tC (.bl b)) := λ _ _ _ H _ I h => Constant_bool ⟨.bl b, H, I, rfl, h⟩
theorem xo {x j pos} : PE X (.Constant (.str x) j pos) (tC (.str x)) := λ _ _ _ H _ I h => Calls.Constant_str ⟨.str x, H, I.tok _, ⟨_, rfl⟩, h⟩
noncomputable def Gl (X : Cx) (x : Str) : Prop := X.env.kindOf x = some .globalImplicit
theorem pS {E : Value -> Shared -> Prop} {pins : List (Addr × Obj)} {s : Shared} {σ : St} {H : Hp} {x : Str} {u : Value} {pos : Pos} {Q : Value -> Shared -> Prop} (I : Inv X pins σ H s) (hg : Gl X x) (hm : X.mg x = some u) (h : Q u s)
  (hd : (x == ("__debug__" : Str)) = false := by decide) : wpAny (model X.prog X.w) X.A (eval (.Name x pos) X.env) Q E s :=
 Calls.Name_function_global I.ok.kind hg (Calls.loadGlobal_global (by rw [I.ok.glob]; exact I.mod.glob.keeps I.bk) hm h) hd
theorem jo {E : Value -> Shared -> Prop} {pins : List (Addr × Obj)} {s : Shared} {σ : St} {H : Hp} {x : Str} {u : Value} {pos : Pos} {Q : Value -> Shared -> Prop} (I : Inv X pins σ H s) (hg : Gl X x) (hm : X.mg x = none) (hv : bootBuiltins x = some u) (h : Q u s)
  (hn : x ≠ "__name__" := by decide) (hd : (x == ("__debug__" : Str)) = false := by decide) : wpAny (model X.prog X.w) X.A (eval (.Name x pos) X.env) Q E s := by
 obtain ⟨mb, h1, h2⟩ := I.mod.blt
 exact Calls.Name_function_global I.ok.kind hg (Calls.loadGlobal_builtin (by rw [I.ok.glob]; exact I.mod.glob.keeps I.bk) hm (by rw [I.ok.blt]; exact h1.keeps I.bk) ((h2 x hn).trans hv) h) hd
theorem zB {x : Str} {v : V} {u : Value} {pos : Pos} (hg : Gl X x) (hm : X.mg x = some u) (r : aM v u) (hd : (x == ("__debug__" : Str)) = false := by decide) : PE X (.Name x pos) (tC v) :=
 λ _ _ _ H _ I h => pS I hg hm ⟨v, H, I, r, h⟩ hd
theorem zw {x : Str} {v : V} {u : Value} {pos : Pos} (hg : Gl X x) (hm : X.mg x = none) (hv : bootBuiltins x = some u) (r : aM v u) (hn : x ≠ "__name__" := by decide) (hd : (x == ("__debug__" : Str)) = false := by decide) : PE X (.Name x pos) (tC v) :=
 λ _ _ _ H _ I h => jo I hg hm hv ⟨v, H, I, r, h⟩ hn hd
variable {a b : Expr} {ta tb : TE} {pos : Pos}
variable {tA tB' : TT} {rest : List Expr}
noncomputable def EZ (t u : TT) : TT := λ σ H Q => t σ H λ c H1 => if c = true then u σ H1 Q else Q false H1
noncomputable def Fs (t u : TT) : TT := λ σ H Q => t σ H λ c H1 => if c = true then Q true H1 else u σ H1 Q
noncomputable def E4 (t : TT) : TT := λ σ H Q => t σ H λ c H1 => Q (!c) H1
theorem zP (ha : PT X a tA) : PW X (.BoolOp .And [a] pos) tA := by
 intro wh pins s σ H Q I h
 refine isTrue_and (bw (ha pins s σ H Q I h) λ c s1 e => ?_)
 cases c with
 | true => exact isTrue_and_nil e
 | false => exact e
theorem BW (ha : PT X a tA) : PW X (.BoolOp .Or [a] pos) tA := by
 intro wh pins s σ H Q I h
 refine isTrue_or (bw (ha pins s σ H Q I h) λ c s1 e => ?_)
 cases c with
 | false => exact isTrue_or_nil e
 | true => exact e
theorem BV (ha : PT X a tA) (hb : PW X (.BoolOp .And (b :: rest) pos) tB') : PW X (.BoolOp .And (a :: b :: rest) pos) (EZ tA tB') := by
 intro wh pins s σ H Q I h
 refine isTrue_and (bw (ha pins s σ H _ I h) λ c s1 ⟨H1, I1, q1⟩ => ?_)
 cases c with
 | true => exact hb wh pins s1 σ H1 Q I1 q1
 | false => exact ⟨H1, I1, q1⟩
theorem DC (ha : PT X a tA) (hb : PW X (.BoolOp .Or (b :: rest) pos) tB') : PW X (.BoolOp .Or (a :: b :: rest) pos) (Fs tA tB') := by
 intro wh pins s σ H Q I h
 refine isTrue_or (bw (ha pins s σ H _ I h) λ c s1 ⟨H1, I1, q1⟩ => ?_)
 cases c with
 | true => exact ⟨H1, I1, q1⟩
 | false => exact hb wh pins s1 σ H1 Q I1 q1
theorem BU (ha : PT X a tA) : PT X (.UnaryOp .Not a pos) (E4 tA) := by
 intro pins s σ H Q I h
 exact isTrue_not (ha pins s σ H (λ c H1 => Q (!c) H1) I h)
noncomputable def DS (ta tb : TE) : TE := λ σ H Q => ta σ H λ x H1 => ∃ c, x = .bl c /\ if c = true then tb σ H1 Q else Q (.bl false) H1
noncomputable def E5 (ta tb : TE) : TE := λ σ H Q => ta σ H λ x H1 => ∃ c, x = .bl c /\ if c = true then Q (.bl true) H1 else tb σ H1 Q
theorem BL {op} {t : TE} (h : PE X a t) : PE X (.BoolOp op [a] pos) t := λ pins s σ H Q I hw => BoolOp_one (h pins s σ H Q I hw)
theorem BK (ha : PE X a ta) (hb : PE X (.BoolOp .And (b :: rest) pos) tb) : PE X (.BoolOp .And (a :: b :: rest) pos) (DS ta tb) := by
 intro pins s σ H Q I h
 refine BoolOp_and (bw (ha pins s σ H _ I h) λ v s1 ⟨x, H1, I1, r1, q1⟩ => ?_)
 obtain ⟨c, rfl, q1⟩ := q1
 cases r1
 refine wpAny_truthy_bool ?_
 cases c with
 | true => exact hb pins s1 σ H1 Q I1 q1
 | false => exact ⟨.bl false, H1, I1, rfl, q1⟩
theorem Dy (ha : PE X a ta) (hb : PE X (.BoolOp .Or (b :: rest) pos) tb) : PE X (.BoolOp .Or (a :: b :: rest) pos) (E5 ta tb) := by
 intro pins s σ H Q I h
 refine BoolOp_or (bw (ha pins s σ H _ I h) λ v s1 ⟨x, H1, I1, r1, q1⟩ => ?_)
 obtain ⟨c, rfl, q1⟩ := q1
 cases r1
 refine wpAny_truthy_bool ?_
 cases c with
 | false => exact hb pins s1 σ H1 Q I1 q1
 | true => exact ⟨.bl true, H1, I1, rfl, q1⟩
noncomputable def Fq (t : TT) (ta tb : TE) : TE := λ σ H Q => t σ H λ c H1 => if c = true then ta σ H1 Q else tb σ H1 Q
theorem xk {c : Expr} (hc : PT X c tA) (ha : PE X a ta) (hb : PE X b tb) : PE X (.IfExp c a b pos) (Fq tA ta tb) := by
 intro pins s σ H Q I h
 refine wpAny_IfExp (bw (hc pins s σ H _ I h) λ d s1 ⟨H1, I1, q1⟩ => ?_)
 cases d with
 | true => exact ha pins s1 σ H1 Q I1 q1
 | false => exact hb pins s1 σ H1 Q I1 q1
end
end L2
namespace L2
open PySem PySem.Spec PyProof.Rows
noncomputable def cr (K : PySem.W.Frag) (H : Hp) (a : Addr) (xs : List V) : Prop :=
 Rd H a (.lst xs) ∨
  ∃ (o : Obj) (its : Array Value) (n : Nat), K.lookup a = some o /\ o.cls = .type "list" /\ (o.dict = none /\ o.slots = #[]) /\ o.data = .seq its n /\ its.size <= sizeLine /\ aU xs its.toList
noncomputable def k9 (K : PySem.W.Frag) (H : Hp) (a : Addr) (xs : List V) : Prop :=
 Rd H a (.tup xs) ∨
  ∃ (o : Obj) (its : Array Value) (n : Nat), K.lookup a = some o /\ o.cls = .type "tuple" /\ o.data = .seq its n /\ its.size <= sizeLine /\ aU xs its.toList
noncomputable def Eu : Value -> Option V
 | .none => some .non
 | .bool b => some (.bl b)
 | .int i _ => some (.int i)
 | .str x _ => some (.str x)
 | .bytes b _ => some (.byt b)
 | .float b _ => some (.flt b)
 | .ref a => some (.ref a)
 | .type n => some (.ty n)
 | _ => none
theorem aM.abs {x : V} {u : Value} (r : aM x u) : Eu u = some x := by
 cases x with
 | non => cases r; rfl
 | bl _ => cases r; rfl
 | int _ => obtain ⟨t, rfl⟩ := r; rfl
 | str _ => obtain ⟨t, rfl⟩ := r; rfl
 | byt _ => obtain ⟨t, rfl⟩ := r; rfl
 | flt _ => obtain ⟨t, rfl⟩ := r; rfl
 | ref _ => cases r; rfl
 | ty _ => cases r; rfl
theorem aM.inj {x y : V} {u : Value} (r : aM x u) (q : aM y u) : x = y := Option.some.inj (r.abs.symm.trans q.abs)
theorem aU.inj : ∀ {xs ys : List V} {us : List Value}, aU xs us -> aU ys us -> xs = ys
 | _, _, _, .nil, .nil => rfl
 | _, _, _, .cons r t, .cons r' t' => by rw [r.inj r', aU.inj t t']
section
variable {X : Cx} {pins : List (Addr × Obj)} {σ : St} {H : Hp} {s : Shared} {a : Addr} {xs ys : List V}
theorem cr.of {K : PySem.W.Frag} (h : H a = some (.lst xs)) : cr K H a xs := .inl (.inl h)
theorem k9.of {K : PySem.W.Frag} (h : H a = some (.tup xs)) : k9 K H a xs := .inl (.inl h)
theorem Inv.list (I : Inv X pins σ H s) (h : cr X.K H a xs) : ∃ its : List Value, aU xs its /\ PlainL s.heap a its.toArray /\ xs.length <= sizeLine := by
 rcases h with h | ⟨o, its, n, hk, hc, hd, hs, hz, r⟩
 ·obtain ⟨z, its, n, r, e⟩ := h.ok I.hok
  exact ⟨its, r, ⟨_, n, e, rfl, rfl, rfl⟩, z⟩
 ·refine ⟨its.toList, r, ⟨o, n, I.kIn a o hk, hc, hd.1, by simpa using hs⟩, ?_⟩
  have e := r.length
  simp only [Array.length_toList] at e
  omega
theorem Inv.tuple (I : Inv X pins σ H s) (h : k9 X.K H a xs) : ∃ its : List Value, aU xs its /\ IsTup s.heap a its.toArray /\ xs.length <= sizeLine := by
 rcases h with h | ⟨o, its, n, hk, hc, hs, hz, r⟩
 ·obtain ⟨z, its, r, p⟩ := h.ok I.hok
  exact ⟨its, r, p, z⟩
 ·refine ⟨its.toList, r, ⟨o, I.kIn a o hk, hc, n, by simpa using hs⟩, ?_⟩
  have e := r.length
  simp only [Array.length_toList] at e
  omega
theorem Inv.list_inj (I : Inv X pins σ H s) (h : cr X.K H a xs) (h' : cr X.K H a ys) : xs = ys := by
 obtain ⟨its, r, ⟨o, n, e, _, _, d⟩, _⟩ := I.list h
 obtain ⟨its', r', ⟨o', n', e', _, _, d'⟩, _⟩ := I.list h'
 rw [e] at e'; cases e'
 rw [d] at d'
 injection d' with d1 _
 have : its = its' := by simpa using congrArg Array.toList d1
 subst this
 exact r.inj r'
theorem Inv.tuple_inj (I : Inv X pins σ H s) (h : k9 X.K H a xs) (h' : k9 X.K H a ys) : xs = ys := by
 obtain ⟨its, r, ⟨o, e, _, n, d⟩, _⟩ := I.tuple h
 obtain ⟨its', r', ⟨o', e', _, n', d'⟩, _⟩ := I.tuple h'
 rw [e] at e'; cases e'
 rw [d] at d'
 injection d' with d1 _
 have : its = its' := by simpa using congrArg Array.toList d1
 subst this
 exact r.inj r'
end
noncomputable abbrev Cx.wish (X : Cx) (E : Value -> Shared -> Prop) : Cx := { X with xe := E }
theorem Cx.Ok.unwish {X : Cx} {E : Value -> Shared -> Prop} (ok : (X.wish E).Ok) : X.Ok :=
 ⟨ok.mod, ok.kind, ok.glob, ok.blt, ok.above, ok.inj, ok.has, ok.cab, ok.hd, ok.frames, ok.stk, ok.exf, ok.bs, ok.bsz, ok.noex, ok.exfs, ok.funs, ok.frf⟩
section
variable {X : Cx} {pins : List (Addr × Obj)} {σ : St} {H : Hp} {s : Shared} {E : Value -> Shared -> Prop}
theorem Inv.unwish (I : Inv (X.wish E) pins σ H s) : Inv X pins σ H s := ⟨I.ok.unwish, I.os, I.bare, I.base, I.loc, I.cell, I.free, I.freeC, I.pin, I.hok, I.len, I.sgm⟩
end
section
variable {X : Cx} {st : Stmt} {rest : List Stmt} {t u : TS} {e : Expr} {te : TE} {pos : Pos}
noncomputable def DW : TS := λ D σ H => D.nx σ H
noncomputable def E6 (t u : TS) : TS := λ D σ H => t { D with nx := u D } σ H
theorem zK : AE X [] DW := λ _ _ σ H _ I h => wpAny_execs_nil ⟨σ, H, I, h⟩
theorem xD (h1 : PS X st t) (h2 : AE X rest u) : AE X (st :: rest) (E6 t u) := by
 intro pins s σ H D I h
 refine wpAny_execs_cons (bw (h1 pins s σ H { D with nx := u D } I h) λ f s1 q => ?_)
 cases f with
 | next =>
  obtain ⟨σ', H', I', q⟩ := q
  exact h2 pins s1 σ' H' D I' q
 | ret v => exact q
 | brk => exact q
 | cont => exact q
theorem uK (h1 : PS X st t) : AE X [st] t := by
 intro pins s σ H D I h
 refine wpAny_execs_cons (bw (h1 pins s σ H D I h) λ f s1 q => ?_)
 cases f with
 | next => exact wpAny_execs_nil q
 | ret v => exact q
 | brk => exact q
 | cont => exact q
theorem Inv.quiet {pins : List (Addr × Obj)} {σ : St} {H : Hp} {s : Shared} (I : Inv X pins σ H s) : interactive X.env = false := by simp [interactive, I.ok.kind]
noncomputable def A2 (te : TE) : TS := λ D σ H => te σ H λ _ H1 => D.nx σ H1
theorem uJ (he : PE X e te) (hs : swapsWith e none pos.line X.env = pure false := by rfl) : PS X (.Expr e pos) (A2 te) := by
 intro pins s σ H D I h
 exact wpAny_Expr_any (bw (he pins s σ H _ I h) λ v s1 ⟨x, H1, I1, r1, q1⟩ => ⟨σ, H1, I1, q1⟩) I.quiet hs
noncomputable def E2 (c : TT) (t u : TS) : TS := λ D σ H => c σ H λ b H1 => if b = true then t D σ H1 else u D σ H1
theorem DB {c : Expr} {a b : List Stmt} {tc : TT} (hc : PT X c tc) (ha : AE X a t) (hb : AE X b u) : PS X (.If c a b pos) (E2 tc t u) := by
 intro pins s σ H D I h
 refine wpAny_If (bw (hc pins s σ H _ I h) λ d s1 ⟨H1, I1, q1⟩ => ?_)
 cases d with
 | true => exact ha pins s1 σ H1 D I1 q1
 | false => exact hb pins s1 σ H1 D I1 q1
end
noncomputable abbrev TG := V -> St -> Hp -> (St -> Hp -> Prop) -> Prop
noncomputable abbrev v8 := List V -> St -> Hp -> (St -> Hp -> Prop) -> Prop
noncomputable def PG (X : Cx) (target : Expr) (t : TG) : Prop :=
 ∀ (pins : List (Addr × Obj)) (s : Shared) (σ : St) (H : Hp) (v : V) (u : Value) (Q : St -> Hp -> Prop), Inv X pins σ H s -> aM v u -> t v σ H Q →
  wpAny (model X.prog X.w) X.A (assign target X.env u) (λ _ s' => ∃ σ' H', Inv X pins σ' H' s' /\ Q σ' H') X.xe s
noncomputable def AD (X : Cx) (ts : List Expr) (t : v8) : Prop :=
 ∀ (pins : List (Addr × Obj)) (s : Shared) (σ : St) (H : Hp) (vs : List V) (us : List Value) (Q : St -> Hp -> Prop), Inv X pins σ H s -> aU vs us -> t vs σ H Q →
  wpAny (model X.prog X.w) X.A (assignInOrder ((assignEach ts X.env).map (·.2)) us) (λ _ s' => ∃ σ' H', Inv X pins σ' H' s' /\ Q σ' H') X.xe s
noncomputable abbrev Fb := V -> V -> Hp -> VK -> Prop
noncomputable def Eg (X : Cx) (op : Operator) (t : Fb) : Prop :=
 ∀ (pins : List (Addr × Obj)) (s : Shared) (σ : St) (H : Hp) (x y : V) (v u : Value) (Q : VK), Inv X pins σ H s -> aM x v -> aM y u -> t x y H Q →
  wpAny (model X.prog X.w) X.A (inplaceOp op v u) (EP X pins σ Q) X.xe s
section
variable {X : Cx} {pos : Pos}
noncomputable def AK (i : Nat) : TG := λ v σ H Q => Q (σ.set i (some v)) H
theorem l9 {i : Nat} {x : Str} (hN : X.N.Nodup) (hi : X.N[i]? = some x) (hx : nN X.env.scope x) (hf : X.fn x = true \/ X.env.scope.names.lookup x = some .local := by first | exact .inl rfl | exact .inr rfl | assumption) (hsg : ∀ p σ v, X.sg p σ -> X.sg p (σ.set i (some v)) := by first | exact λ _ _ _ _ => trivial | assumption) : PG X (.Name x pos) (AK i) := by
 intro pins s σ H v u Q I r h
 exact wpAny_assign_Name (ju I hN hi hx r (λ s' I' => ⟨_, H, I', h⟩) hf)
noncomputable def EG : v8 := λ vs σ H Q => vs = [] /\ Q σ H
noncomputable def Dj (t : TG) (u : v8) : v8 := λ vs σ H Q => ∃ v r, vs = v :: r /\ t v σ H λ σ' H' => u r σ' H' Q
theorem uH : AD X [] EG := by
 intro pins s σ H vs us Q I r h
 obtain ⟨e, h⟩ := h
 subst e
 cases r
 exact assignInOrder_nil ⟨σ, H, I, h⟩
theorem nk {e : Expr} {es : List Expr} {t : TG} {u : v8} (h1 : PG X e t) (h2 : AD X es u)
  (hs : (assignEach (e :: es) X.env).map (·.2) = assign e X.env :: (assignEach es X.env).map (·.2) := by rfl) : AD X (e :: es) (Dj t u) := by
 intro pins s σ H vs us Q I r h
 obtain ⟨v, vr, e1, h⟩ := h
 subst e1
 cases r with
 | cons r rr =>
  rw [hs]
  refine assignInOrder_cons (bw (h1 pins s σ H _ _ _ I r h) λ _ s1 ⟨σ1, H1, I1, q1⟩ => ?_)
  exact h2 pins s1 σ1 H1 _ _ Q I1 rr q1
noncomputable def EH (K : PySem.W.Frag) (n : Nat) (t : v8) : TG := λ v σ H Q => ∃ a xs, v = .ref a /\ k9 K H a xs /\ xs.length = n /\ t xs σ H Q
theorem xr {es : List Expr} {k : Nat} {t : v8} {n : Nat} (hc : X.calm = true) (h : AD X es t)
  (hn : (assignEach es X.env).length = n := by rfl) (hst : (assignEach es X.env).findIdx? (·.1) = none := by rfl) : PG X (.Tuple es k pos) (EH X.K n t) := by
 intro pins s σ H v u Q I r hw
 obtain ⟨a, xs, e1, hq, hl, hw⟩ := hw
 subst e1
 cases r
 obtain ⟨its, rv, ht, hz⟩ := I.tuple hq
 refine assign_Tuple_tuple (I.ok.hd hc) ht (by simp [hn, <- hl, rv.length]) hst λ h' hx => ?_
 have I1 : Inv X pins σ H { s with heap := h' } := I.kept (t' := s.toks) λ b o e => hx b o (Nat.ne_of_lt (Heap.lt_size e)) e
 exact h pins _ σ H xs _ Q I1 (by simpa using rv) hw
noncomputable def E0 (te : TE) (g : TG) : TS := λ D σ H => te σ H λ x H1 => g x σ H1 D.nx
theorem BS {i : Nat} {x : Str} {e : Expr} {te : TE} {pos' : Pos} (hN : X.N.Nodup) (hi : X.N[i]? = some x) (hx : nN X.env.scope x) (he : PE X e te) (hs : swapsWith e (some (.Name x pos')) pos.line X.env = pure false := by rfl) (hf : X.fn x = true \/ X.env.scope.names.lookup x = some .local := by first | exact .inl rfl | exact .inr rfl | assumption) (hsg : ∀ p σ v, X.sg p σ -> X.sg p (σ.set i (some v)) := by first | exact λ _ _ _ _ => trivial | assumption) :
  PS X (.Assign [.Name x pos'] e pos) (E0 te (AK i)) := by
 intro pins s σ H D I h
 refine wpAny_Assign_Name (bw (he pins s σ H _ I h) λ v s1 ⟨y, H1, I1, r1, q1⟩ => ?_) hs
 exact ju I1 hN hi hx r1 (λ s2 I2 => ⟨_, H1, I2, q1⟩) hf
noncomputable def Ei (f : Int -> Int -> Int) : Fb := λ x y H Q => ∃ i j, x = .int i /\ y = .int j /\ Q (.int (f i j)) H
theorem Bo : Eg X .Add (Ei λ i j => i + j) := by
 intro pins s σ H x y v u Q I r1 r2 h
 obtain ⟨i, j, e1, e2, q⟩ := h
 subst e1; subst e2
 obtain ⟨t, rfl⟩ := r1
 obtain ⟨t', rfl⟩ := r2
 exact iadd_int ⟨.int _, H, I.tok _, ⟨_, rfl⟩, q⟩
theorem Bp : Eg X .Sub (Ei λ i j => i - j) := by
 intro pins s σ H x y v u Q I r1 r2 h
 obtain ⟨i, j, e1, e2, q⟩ := h
 subst e1; subst e2
 obtain ⟨t, rfl⟩ := r1
 obtain ⟨t', rfl⟩ := r2
 exact isub_int ⟨.int _, H, I.tok _, ⟨_, rfl⟩, q⟩
end
section
variable {X : Cx} {pos : Pos}
end
structure It where
 go : Nat -> Hp -> Prop
 yld : Nat -> Hp -> V -> Hp -> Prop
 stop : Nat -> Hp -> Prop
noncomputable def pc (X : Cx) (pins : List (Addr × Obj)) (H : Hp) (b : Addr) : Prop :=
 H b = none /\ b ≠ X.env.locals /\ b ∉ X.fs /\ (b ∈ X.ex \/ X.s₀.heap.objs.size <= b) /\ (∀ x c, X.env.cells.lookup x = some c -> c ≠ b) /\ ∀ p ∈ X.pn ++ pins, p.1 ≠ b
theorem Inv.fpOk {X : Cx} {pins : List (Addr × Obj)} {σ : St} {H H' : Hp} {s : Shared} {b : Addr} (I : Inv X pins σ H s) (hb : s.heap.objs.size <= b) (hn : H' b = none) : pc X pins H' b := by
 refine ⟨hn, Nat.ne_of_gt (Nat.lt_of_lt_of_le I.lt hb), I.nofs hb, .inr (Nat.le_trans I.sz hb), λ x c e z => ?_, λ p hp z => ?_⟩
 ·obtain ⟨v, q⟩ := I.cell x c e
  exact absurd (Nat.lt_of_lt_of_le q.lt (by rw [z]; exact hb)) (Nat.lt_irrefl _)
 ·exact absurd (Nat.lt_of_lt_of_le (Heap.lt_size (I.pin p hp).1) (by rw [z]; exact hb)) (Nat.lt_irrefl _)
structure Turn (P : Program) (w : World) (K : PySem.W.Frag) (tg : Expr) (J : It) (fp : List Addr) (it : Addr) (tn : Nat -> Heap -> Prop) : Prop where
 mem : it ∈ fp
 obj : ∀ i h, tn i h -> ∀ b ∈ fp, ∃ o, h.get? b = some o /\ ∀ v, o.data ≠ .cell v
 keep : ∀ i h h', tn i h -> (∀ b ∈ fp, ∀ o, h.get? b = some o -> h'.get? b = some o) -> tn i h'
 item : ∀ (X : Cx), X.prog = P -> X.w = w -> X.K = K -> X.calm = true -> ∀ (i : Nat) (pins : List (Addr × Obj)) (s : Shared) (σ : St) (H : Hp) (E : Value -> Shared -> Prop), Inv X pins σ H s -> (∀ b ∈ fp, pc X pins H b) -> tn i s.heap -> J.go i H →
  wpAny (model P w) X.A (pyNext (.ref it)) (λ r s1 => ∃ u, r = some u ∧
   wpAny (model P w) X.A (letOwnedTupleGo tg (.ref it) u) (λ _ s2 => ∃ x H', Inv X pins σ H' s2 /\ aM x u /\ J.yld i H x H' /\ tn (i + 1) s2.heap /\ ∀ b ∈ fp, H' b = none) E s1) E s
 done : ∀ (X : Cx), X.prog = P -> X.w = w -> X.K = K -> X.calm = true -> ∀ (i : Nat) (pins : List (Addr × Obj)) (s : Shared) (σ : St) (H : Hp) (E : Value -> Shared -> Prop), Inv X pins σ H s -> (∀ b ∈ fp, pc X pins H b) -> tn i s.heap -> J.stop i H →
  wpAny (model P w) X.A (pyNext (.ref it)) (λ r s1 => r = none /\ Inv X pins σ H s1) E s
 self : ∀ (A : Around) (i : Nat) (s : Shared) (Q : Value -> Shared -> Prop) (E : Value -> Shared -> Prop), tn i s.heap -> Q (.ref it) s -> wpAny (model P w) A (pyIter (.ref it)) Q E s
noncomputable abbrev TI := St -> Hp -> (It -> Hp -> Prop) -> Prop
noncomputable def Er (X : Cx) (pins : List (Addr × Obj)) (σ : St) (tg : Expr) (R : It -> Hp -> Prop) (itv : Value) (s2 : Shared) : Prop :=
 ∃ (it : Addr) (fp : List Addr) (tn : Nat -> Heap -> Prop) (J : It) (H' : Hp), itv = .ref it /\ Inv X pins σ H' s2 /\ Turn X.prog X.w X.K tg J fp it tn /\ tn 0 s2.heap /\ (∀ b ∈ fp, pc X pins H' b) /\ R J H'
noncomputable def PI (X : Cx) (tg iter : Expr) (wi : TI) : Prop :=
 ∀ (pins : List (Addr × Obj)) (s : Shared) (σ : St) (H : Hp) (R : It -> Hp -> Prop), Inv X pins σ H s -> wi σ H R →
  wpAny (model X.prog X.w) X.A (eval iter X.env) (λ v s1 => wpAny (model X.prog X.w) X.A (pyIter v) (Er X pins σ tg R) X.xe s1) X.xe s
theorem uo {M : Model} {A : Around} {E : Value -> Shared -> Prop} {s : Shared} {tg : Expr} {it : Addr} {u : Value} {o : Obj} {n : String} {vs : Array Value} {Q : Unit -> Shared -> Prop} (ho : s.heap.get? it = some o) (hc : o.cls = .type n) (hd : o.data = .fields vs)
    (hn : ["enumerate", "zip", "dict_itemiterator", "dict_reverseitemiterator", "odict_iterator", "itertools.zip_longest", "itertools.pairwise"].contains n = false) (hQ : Q () s) : wpAny M A (letOwnedTupleGo tg (.ref it) u) Q E s := by
  unfold letOwnedTupleGo
  cases tg <;> first
    | exact wpAny_pure hQ
    | (cases u <;> first
        | exact wpAny_pure hQ
        | (refine wpAny_bind (wpAny_load ho ?_)
           rw [hc, hd]
           show wpAny M A (if (["enumerate", "zip", "dict_itemiterator", "dict_reverseitemiterator", "odict_iterator", "itertools.zip_longest", "itertools.pairwise"].contains n && vs[0]? == some (rawInt _)) = true then _ else _) Q E s
           rw [if_neg (by intro h; rw [hn, Bool.false_and] at h; cases h)]
           exact wpAny_pure hQ))
noncomputable def En (K : PySem.W.Frag) (a : Addr) : It :=
 ⟨λ i H => ∃ xs x, cr K H a xs /\ xs[i]? = some x, λ i H x H' => H' = H /\ ∀ xs, cr K H a xs -> xs[i]? = some x, λ i H => ∃ xs, cr K H a xs /\ xs.length <= i⟩
noncomputable def Eo (K : PySem.W.Frag) (a : Addr) : It :=
 ⟨λ i H => ∃ xs x, k9 K H a xs /\ xs[i]? = some x, λ i H x H' => H' = H /\ ∀ xs, k9 K H a xs -> xs[i]? = some x, λ i H => ∃ xs, k9 K H a xs /\ xs.length <= i⟩
noncomputable def AC (lo : Int) (n : Nat) : It := ⟨λ i _ => i < n, λ i H x H' => H' = H /\ x = .int (lo + i), λ i _ => n <= i⟩
theorem oX {P : Program} {w : World} {K : PySem.W.Frag} {tg : Expr} (a it : Addr) : Turn P w K tg (En K a) [it] it (λ i h => h.IsListIter it a i) where
 mem := by simp
 obj := λ i h st b hb => by
  have e : b = it := by simpa using hb
  subst e
  obtain ⟨o, e, c, d⟩ := st
  exact ⟨o, e, λ v z => by rw [d] at z; cases z⟩
 keep := λ i h h' st k => st.at λ o e => k it (by simp) o e
 item := by
  intro X hP hw hK hc i pins s σ H E I hf st hg
  subst hP hw hK
  obtain ⟨xs, x, hq, hx⟩ := hg
  obtain ⟨its, rv, p, hz⟩ := I.list hq
  obtain ⟨u, hu, ru⟩ := rv.get hx
  obtain ⟨f0, f1, f2, f3, f4, f5⟩ := hf it (by simp)
  refine wpAny_pyNext_list_item st p.isList (x := u) (by simpa using hu) λ h' st' sb => ?_
  have I1 : Inv X pins σ H { s with heap := h' } := I.turned (t' := s.toks) (λ b o hb e => (sb.2 b hb).trans e) f0 f1 f3 f4 f5
  obtain ⟨o, e, c, d⟩ := id st'
  exact ⟨u, rfl, uo (s := { s with heap := h' }) e c d (by decide) ⟨x, H, I1, ru, ⟨rfl, λ ys hy => by rw [I.list_inj hy hq]; exact hx⟩, st', λ b hb => (hf b hb).1⟩⟩
 done := by
  intro X hP hw hK hc i pins s σ H E I hf st hg
  subst hP hw hK
  obtain ⟨xs, hq, hx⟩ := hg
  obtain ⟨its, rv, p, hz⟩ := I.list hq
  obtain ⟨f0, f1, f2, f3, f4, f5⟩ := hf it (by simp)
  have hl := rv.length
  exact wpAny_pyNext_list_end (I.ok.hd hc) st p.isList (by simp; omega) λ h' eb => ⟨rfl, I.turned (t' := s.toks) (λ b o hb e => eb b o hb e) f0 f1 f3 f4 f5⟩
 self := λ _ _ _ _ _ st h => wpAny_pyIter_listiter st h
theorem nH {P : Program} {w : World} {K : PySem.W.Frag} {tg : Expr} (a it : Addr) : Turn P w K tg (Eo K a) [it] it (λ i h => h.IsTupleIter it a i) where
 mem := by simp
 obj := λ i h st b hb => by
  have e : b = it := by simpa using hb
  subst e
  obtain ⟨o, e, c, d⟩ := st
  exact ⟨o, e, λ v z => by rw [d] at z; cases z⟩
 keep := λ i h h' st k => st.at λ o e => k it (by simp) o e
 item := by
  intro X hP hw hK hc i pins s σ H E I hf st hg
  subst hP hw hK
  obtain ⟨xs, x, hq, hx⟩ := hg
  obtain ⟨its, rv, p, hz⟩ := I.tuple hq
  obtain ⟨u, hu, ru⟩ := rv.get hx
  obtain ⟨f0, f1, f2, f3, f4, f5⟩ := hf it (by simp)
  refine wpAny_pyNext_tuple_item st (show s.heap.IsTuple a its.toArray from p) (x := u) (by simpa using hu) λ h' st' sb => ?_
  have I1 : Inv X pins σ H { s with heap := h' } := I.turned (t' := s.toks) (λ b o hb e => (sb.2 b hb).trans e) f0 f1 f3 f4 f5
  obtain ⟨o, e, c, d⟩ := id st'
  exact ⟨u, rfl, uo (s := { s with heap := h' }) e c d (by decide) ⟨x, H, I1, ru, ⟨rfl, λ ys hy => by rw [I.tuple_inj hy hq]; exact hx⟩, st', λ b hb => (hf b hb).1⟩⟩
 done := by
  intro X hP hw hK hc i pins s σ H E I hf st hg
  subst hP hw hK
  obtain ⟨xs, hq, hx⟩ := hg
  obtain ⟨its, rv, p, hz⟩ := I.tuple hq
  obtain ⟨f0, f1, f2, f3, f4, f5⟩ := hf it (by simp)
  have hl := rv.length
  exact wpAny_pyNext_tuple_end (I.ok.hd hc) st (show s.heap.IsTuple a its.toArray from p) (by simp; omega) λ h' eb => ⟨rfl, I.turned (t' := s.toks) (λ b o hb e => eb b o hb e) f0 f1 f3 f4 f5⟩
 self := λ _ _ _ _ _ st h => wpAny_pyIter_tupleiter st h
theorem nG {P : Program} {w : World} {K : PySem.W.Frag} {tg : Expr} (it : Addr) (lo : Int) (n : Nat) : Turn P w K tg (AC lo n) [it] it (λ i h => IsRangeIter h it (lo + (i : Nat) * 1) ((n : Int) - (i : Nat)) 1) where
 mem := by simp
 obj := λ i h st b hb => by
  have e : b = it := by simpa using hb
  subst e
  exact ⟨_, st, λ v z => by
   have z' : Data.fields _ = Data.cell v := z
   cases z'⟩
 keep := λ i h h' st k => k it (by simp) _ st
 item := by
  intro X hP hw hK hc i pins s σ H E I hf st hg
  subst hP hw hK
  obtain ⟨f0, f1, f2, f3, f4, f5⟩ := hf it (by simp)
  have W := Walks.range (prog := X.prog) (w := X.w) (I.ok.hd hc) it lo 1 n
  refine W.item i s _ _ hg st λ v h' tk hv st' kk => ?_
  obtain ⟨t, rfl⟩ := hv
  have I1 : Inv X pins σ H { s with heap := h', toks := tk } := I.turned (λ b o hb e => kk b o (by simpa using hb) e) f0 f1 f3 f4 f5
  refine ⟨_, rfl, uo (s := { s with heap := h', toks := tk }) (n := "range_iterator") st' rfl rfl (by decide) ⟨.int (lo + i), H, I1, ⟨t, ?_⟩, ⟨rfl, rfl⟩, st', λ b hb => (hf b hb).1⟩⟩
  rw [Int.mul_one]
 done := by
  intro X hP hw hK hc i pins s σ H E I hf st hg
  subst hP hw hK
  obtain ⟨f0, f1, f2, f3, f4, f5⟩ := hf it (by simp)
  exact wpAny_pyNext_range_end (I.ok.hd hc) st (by have : n <= i := hg; omega) λ h' eb => ⟨rfl, I.turned (t' := s.toks) (λ b o hb e => eb b o hb e) f0 f1 f3 f4 f5⟩
 self := λ _ _ _ _ _ st h => wpAny_pyIter_rangeiter st h
end L2
namespace L2
open PySem PySem.Spec PyProof.Rows
section
variable {X : Cx} {tg : Expr}
noncomputable def AL (K : PySem.W.Frag) (tl : TE) : TI := λ σ H R => tl σ H λ x H1 => ∃ a, x = .ref a /\ (∃ xs, cr K H1 a xs) /\ R (En K a) H1
noncomputable def Dl (K : PySem.W.Frag) (tl : TE) : TI := λ σ H R => tl σ H λ x H1 => ∃ a, x = .ref a /\ (∃ xs, k9 K H1 a xs) /\ R (Eo K a) H1
theorem zD {l : Expr} {tl : TE} (hl : PE X l tl) : PI X tg l (AL X.K tl) := by
 intro pins s σ H R I h
 refine bw (hl pins s σ H _ I h) λ v s1 ⟨x, H1, I1, r1, q1⟩ => ?_
 obtain ⟨a, e, ⟨xs, hq⟩, q⟩ := q1
 subst e
 cases r1
 obtain ⟨its, rv, p, hz⟩ := I1.list hq
 refine wpAny_pyIter_list p.isList ?_
 refine ⟨s1.heap.objs.size, [s1.heap.objs.size], _, _, H1, rfl, I1.kept (t' := s1.toks) λ b o e => Heap.get?_push_of_some _ e, oX a _, ⟨_, Heap.get?_push_size _ rfl, rfl, rfl⟩, λ b hb => ?_, q⟩
 have e : b = s1.heap.objs.size := by simpa using hb
 subst e
 exact I1.fpOk (Nat.le_refl _) (I1.hok.fresh (Nat.le_refl _))
theorem BP {l : Expr} {tl : TE} (hl : PE X l tl) : PI X tg l (Dl X.K tl) := by
 intro pins s σ H R I h
 refine bw (hl pins s σ H _ I h) λ v s1 ⟨x, H1, I1, r1, q1⟩ => ?_
 obtain ⟨a, e, ⟨xs, hq⟩, q⟩ := q1
 subst e
 cases r1
 obtain ⟨its, rv, p, hz⟩ := I1.tuple hq
 refine wpAny_pyIter_tuple (show s1.heap.IsTuple a its.toArray from p) ?_
 refine ⟨s1.heap.objs.size, [s1.heap.objs.size], _, _, H1, rfl, I1.kept (t' := s1.toks) λ b o e => Heap.get?_push_of_some _ e, nH a _, ⟨_, Heap.get?_push_size _ rfl, rfl, rfl⟩, λ b hb => ?_, q⟩
 have e : b = s1.heap.objs.size := by simpa using hb
 subst e
 exact I1.fpOk (Nat.le_refl _) (I1.hok.fresh (Nat.le_refl _))
theorem rT {pins : List (Addr × Obj)} {σ : St} {H : Hp} {s : Shared} {R : It -> Hp -> Prop} {E : Value -> Shared -> Prop} {lo hi : Int} {t u v : Tok} {tk : Nat} (I : Inv X pins σ H s) (h1 : -(2 ^ 62) <= lo) (h2 : lo < 2 ^ 62) (h3 : -(2 ^ 62) <= hi) (h4 : hi < 2 ^ 62)
  (q : R (AC lo (hi - lo).toNat) H) : wpAny (model X.prog X.w) X.A (pyIter (.ref s.heap.objs.size)) (Er X pins σ tg R) E { s with heap := s.heap.push { cls := .type "range", data := .fields #[.int lo t, .int hi u, .int 1 v] }, toks := tk } := by
 refine wpAny_pyIter_range (IsRange.new ..) (small_one h1 h2 h3 h4) ?_
 have I1 : Inv X pins σ H { s with heap := s.heap.push { cls := .type "range", data := .fields #[.int lo t, .int hi u, .int 1 v] }, toks := tk } := I.kept λ b o e => Heap.get?_push_of_some _ e
 refine ⟨(s.heap.push { cls := .type "range", data := .fields #[.int lo t, .int hi u, .int 1 v] }).objs.size, [(s.heap.push { cls := .type "range", data := .fields #[.int lo t, .int hi u, .int 1 v] }).objs.size], _, _, H, rfl,
  I1.kept (t' := tk) λ b o e => Heap.get?_push_of_some _ e, nG _ lo (hi - lo).toNat, ?_, λ b hb => ?_, q⟩
 ·have e1 : lo + ((0 : Nat) : Int) * 1 = lo := by simp
  have e2 : (((hi - lo).toNat : Nat) : Int) - ((0 : Nat) : Int) = Builtin.Range.rangeSize lo hi 1 := by rw [rangeSize_one]; split <;> omega
  show IsRangeIter _ _ (lo + ((0 : Nat) : Int) * 1) ((((hi - lo).toNat : Nat) : Int) - ((0 : Nat) : Int)) 1
  rw [e1, e2]
  exact Heap.get?_push_size _ rfl
 ·have e : b = (s.heap.push { cls := .type "range", data := .fields #[.int lo t, .int hi u, .int 1 v] }).objs.size := by simpa using hb
  subst e
  exact I1.fpOk (Nat.le_refl _) (I1.hok.fresh (Nat.le_refl _))
noncomputable def Dk (ta : TA) : TI := λ σ H R => ta σ H λ vs H1 => ∃ j : Int, vs = [.int j] /\ -(2 ^ 62) <= j /\ j < 2 ^ 62 /\ R (AC 0 j.toNat) H1
noncomputable def AM (ta : TA) : TI := λ σ H R => ta σ H λ vs H1 => ∃ i j : Int, vs = [.int i, .int j] /\ (-(2 ^ 62) <= i /\ i < 2 ^ 62 /\ -(2 ^ 62) <= j /\ j < 2 ^ 62) /\ R (AC i (j - i).toNat) H1
theorem vG {a : Expr} {ta : TA} {p pos : Pos} (hg : Gl X "range") (hm : X.mg "range" = none) (ha : PA X [a] ta) (hs : starEach [a] X.env = [(false, eval a X.env)] := by rfl) : PI X tg (.Call (.Name "range" p) [a] [] pos) (Dk ta) := by
 intro pins s σ H R I h
 refine Call_ (jo I hg hm boot_range (PyProof.Rows.callWith_type1 (bw (ha pos pins s σ H _ I h) λ us s1 ⟨vs, H1, I1, r1, q1⟩ => ?_) hs rfl))
 obtain ⟨j, e, q1, q2, q⟩ := q1
 subst e
 cases r1 with
 | cons r rr =>
  cases rr
  obtain ⟨t, rfl⟩ := r
  exact call_range_1 (rT I1 (by omega) (by omega) q1 q2 (by simpa using q))
theorem vH {a b : Expr} {ta : TA} {p pos : Pos} (hg : Gl X "range") (hm : X.mg "range" = none) (ha : PA X [a, b] ta) (hs : starEach [a, b] X.env = [(false, eval a X.env), (false, eval b X.env)] := by rfl) (hs2 : starEach [b] X.env = [(false, eval b X.env)] := by rfl) :
  PI X tg (.Call (.Name "range" p) [a, b] [] pos) (AM ta) := by
 intro pins s σ H R I h
 refine Call_ (jo I hg hm boot_range (PyProof.Rows.callWith_type1 (bw (ha pos pins s σ H _ I h) λ us s1 ⟨vs, H1, I1, r1, q1⟩ => ?_) (by rw [hs, hs2]) (by rw [hs2]; rfl)))
 obtain ⟨i, j, e, ⟨q1, q2, q3, q4⟩, q⟩ := q1
 subst e
 cases r1 with
 | cons r rr =>
  cases rr with
  | cons r' rr =>
   cases rr
   obtain ⟨t, rfl⟩ := r
   obtain ⟨t', rfl⟩ := r'
   exact call_range_2 (rT I1 q1 q2 q3 q4 q)
noncomputable def E1 (wi : TI) (g : TG) (tb : TS) : TS := λ D σ H => wi σ H λ J H1 => ∃ W : Nat -> Nat -> St -> Hp -> Prop, (∃ m, W 0 m σ H1) /\ ∀ i m σ H, W i m σ H →
 (J.stop i H /\ D.nx σ H) \/ (J.go i H /\ ∃ N : St -> Hp -> Prop, (∀ σ' H', N σ' H' -> ∃ m', m' < m /\ W (i + 1) m' σ' H') /\ ∀ x H', J.yld i H x H' -> g x σ H' λ σ2 H2 => tb { D with nx := N, ct := N, bk := D.nx } σ2 H2)
noncomputable def j8 (fp : List Addr) (h : Heap) : List (Addr × Obj) := fp.filterMap λ b => (h.get? b).map λ o => (b, o)
theorem cc {fp : List Addr} {h : Heap} {b : Addr} {o : Obj} (hb : b ∈ fp) (e : h.get? b = some o) : (b, o) ∈ j8 fp h := List.mem_filterMap.mpr ⟨b, hb, by rw [e]; rfl⟩
theorem vv {fp : List Addr} {h : Heap} {p : Addr × Obj} (hp : p ∈ j8 fp h) : p.1 ∈ fp /\ h.get? p.1 = some p.2 := by
 obtain ⟨b, hb, e⟩ := List.mem_filterMap.mp hp
 cases q : h.get? b with
 | none => rw [q] at e; cases e
 | some o =>
  rw [q] at e
  have e' : (b, o) = p := Option.some.inj e
  subst e'
  exact ⟨hb, q⟩
theorem Inv.pinned (hsgA : ∀ p σ, X.sg p σ) {pins : List (Addr × Obj)} {σ : St} {H : Hp} {s : Shared} {fp : List Addr} (I : Inv X pins σ H s) (hf : ∀ b ∈ fp, pc X pins H b) (ho : ∀ b ∈ fp, ∃ o, s.heap.get? b = some o /\ ∀ v, o.data ≠ .cell v) : Inv X (pins ++ j8 fp s.heap) σ H s :=
 I.pins_of (hsg := hsgA _ _) λ p hp => (List.mem_append.mp hp).elim (λ z => I.pin p (List.mem_append_right _ z)) λ z => by
  obtain ⟨hb, e⟩ := vv z
  obtain ⟨f0, f1, f2, _⟩ := hf p.1 hb
  obtain ⟨o, e', d⟩ := ho p.1 hb
  rw [e] at e'; cases e'
  exact ⟨e, f0, f1, f2, d⟩
theorem Inv.unpinned (hsgA : ∀ p σ, X.sg p σ) {pins pl : List (Addr × Obj)} {σ : St} {H : Hp} {s : Shared} (I : Inv X (pins ++ pl) σ H s) : Inv X pins σ H s := I.pins_of (hsg := hsgA _ _) λ p hp => I.pin p (List.mem_append_right _ (List.mem_append_left _ hp))
theorem BR (hsgA : ∀ p σ, X.sg p σ) {iter : Expr} {body : List Stmt} {wi : TI} {g : TG} {tb : TS} {pos : Pos} (hp : PassesOwn (model X.prog X.w) X.A X.env X.xe) (hc : X.calm = true) (hi : PI X tg iter wi) (hg : PG X tg g) (hb : AE X body tb)
  (hs : ∀ x, foldedSetIterable iter X.env x = pure x := by intro _; rfl) : PS X (.For tg iter body [] pos) (E1 wi g tb) := by
 intro pins s σ H D I h
 refine wpAny_For (bw (hi pins s σ H _ I h) λ v s1 h1 => bw h1 λ itv s2 h2 => ?_) hs
 obtain ⟨it, fp, tn, J, H2, e, I2, T, st2, f2, W, ⟨m0, w0⟩, turn⟩ := h2
 subst e
 have stat : ∀ {H' : Hp}, (∀ b ∈ fp, H' b = none) -> ∀ b ∈ fp, pc X pins H' b := λ hn b hb => ⟨hn b hb, (f2 b hb).2⟩
 refine codeAny_forLoop_any (λ n s' => ∃ i σ' H', Inv X pins σ' H' s' /\ tn i s'.heap /\ (∀ b ∈ fp, H' b = none) /\ W i n σ' H') ?_ m0 ⟨0, σ, H2, I2, st2, λ b hb => (f2 b hb).1, w0⟩
 rintro n s3 ⟨i, σ3, H3, I3, st3, fr3, w3⟩
 rcases turn i n σ3 H3 w3 with ⟨stop, qn⟩ | ⟨go, N, hN, step⟩
 ·refine wpAny_passesOwn hp (bw (T.done X rfl rfl rfl hc i pins s3 σ3 H3 X.xe I3 (stat fr3) st3 stop) λ r s4 ⟨hr, I4⟩ => ?_)
  subst hr
  exact wpAny_execs_nil ⟨σ3, H3, I4, qn⟩
 ·refine wpAny_passesOwn hp (bw (T.item X rfl rfl rfl hc i pins s3 σ3 H3 X.xe I3 (stat fr3) st3 go) λ r s4 ⟨u, hr, h4⟩ => ?_)
  subst hr
  refine wpAny_passesOwn hp (bw h4 λ _ s5 ⟨x, H5, I5, r5, y5, st5, fr5⟩ => ?_)
  have I5' := Inv.pinned hsgA I5 (stat fr5) (T.obj _ _ st5)
  refine wpAny_passesOwn hp (bw (hg _ s5 σ3 H5 x u _ I5' r5 (step x H5 y5)) λ _ s6 ⟨σ6, H6, I6, q6⟩ => ?_)
  refine wpAny_passesOwn hp (bw (hb _ s6 σ6 H6 _ I6 q6) λ f s7 q7 => ?_)
  have again : ∀ {σ7 : St} {H7 : Hp}, Inv X (pins ++ j8 fp s5.heap) σ7 H7 s7 -> N σ7 H7 -> ∃ m, m < n /\ ∃ i σ' H', Inv X pins σ' H' s7 /\ tn i s7.heap /\ (∀ b ∈ fp, H' b = none) /\ W i m σ' H' := λ {σ7 H7} I7 n7 => by
   obtain ⟨m', hm, w7⟩ := hN σ7 H7 n7
   refine ⟨m', hm, i + 1, σ7, H7, (Inv.unpinned hsgA I7), T.keep _ _ _ st5 λ b hb o e => (I7.pin (b, o) (List.mem_append_right _ (List.mem_append_right _ (cc hb e)))).1, λ b hb => ?_, w7⟩
   obtain ⟨o, e, d⟩ := T.obj _ _ st5 b hb
   exact (I7.pin (b, o) (List.mem_append_right _ (List.mem_append_right _ (cc hb e)))).2.1
  cases f with
  | next => obtain ⟨σ7, H7, I7, n7⟩ := q7; exact again I7 n7
  | cont => obtain ⟨σ7, H7, I7, n7⟩ := q7; exact again I7 n7
  | brk => obtain ⟨σ7, H7, I7, q7⟩ := q7; exact ⟨σ7, H7, (Inv.unpinned hsgA I7), q7⟩
  | ret v => obtain ⟨x7, σ7, H7, I7, r7, q7⟩ := q7; exact ⟨x7, σ7, H7, (Inv.unpinned hsgA I7), r7, q7⟩
end
end L2
namespace L2
open PySem PySem.Spec PyProof.Rows
noncomputable abbrev R2 := V -> V -> Hp -> VK -> Prop
noncomputable def jU (X : Cx) (f : Value -> Value -> Sem Value) (r : R2) : Prop :=
 ∀ (pins : List (Addr × Obj)) (s : Shared) (σ : St) (H : Hp) (x y : V) (v u : Value) (Q : VK), Inv X pins σ H s -> aM x v -> aM y u -> r x y H Q →
  wpAny (model X.prog X.w) X.A (f v u) (EP X pins σ Q) X.xe s
noncomputable def Et (X : Cx) (f : Value -> Sem Value) (r : V -> Hp -> VK -> Prop) : Prop :=
 ∀ (pins : List (Addr × Obj)) (s : Shared) (σ : St) (H : Hp) (x : V) (v : Value) (Q : VK), Inv X pins σ H s -> aM x v -> r x H Q →
  wpAny (model X.prog X.w) X.A (f v) (EP X pins σ Q) X.xe s
noncomputable def iU (X : Cx) (f : Value) (r : List V -> Hp -> VK -> Prop) : Prop :=
 ∀ (pins : List (Addr × Obj)) (s : Shared) (σ : St) (H : Hp) (xs : List V) (us : List Value) (Q : VK), Inv X pins σ H s -> aU xs us -> r xs H Q →
  wpAny (model X.prog X.w) X.A (call f us) (EP X pins σ Q) X.xe s
noncomputable def Es (X : Cx) (r : V -> Hp -> (Bool -> Hp -> Prop) -> Prop) : Prop :=
 ∀ (pins : List (Addr × Obj)) (s : Shared) (σ : St) (H : Hp) (x : V) (v : Value) (Q : Bool -> Hp -> Prop), Inv X pins σ H s -> aM x v -> r x H Q →
  wpAny (model X.prog X.w) X.A (truthy v) (TP X pins σ Q) X.xe s
noncomputable def DY (r : R2) (ta tb : TE) : TE := λ σ H Q => ta σ H λ x H1 => tb σ H1 λ y H2 => r x y H2 Q
noncomputable def Ff (r : V -> Hp -> VK -> Prop) (ta : TE) : TE := λ σ H Q => ta σ H λ x H1 => r x H1 Q
noncomputable def rI (C : Int -> Int -> Prop) (g : Int -> Int -> V) : R2 := λ x y H Q => ∃ i j, x = .int i /\ y = .int j /\ C i j /\ Q (g i j) H
noncomputable def yz (g : Int -> Int -> V) : R2 := λ x y H Q => ∃ i j, x = .int i /\ y = .int j /\ Q (g i j) H
noncomputable def rU (g : Int -> V) : V -> Hp -> VK -> Prop := λ x H Q => ∃ i, x = .int i /\ Q (g i) H
section
variable {X : Cx} {a b c : Expr} {ta tb tc : TE} {pos : Pos}
theorem A7 (ha : PE X a ta) (hb : PE X b tb) {pins : List (Addr × Obj)} {s : Shared} {σ : St} {H : Hp} {R : V -> V -> Hp -> Prop} (I : Inv X pins σ H s)
  (h : ta σ H λ x H1 => tb σ H1 λ y H2 => R x y H2) {Q : Value -> Shared -> Prop} {f : Value -> Value -> Sem Value}
  (hf : ∀ v u s2 x y H2, Inv X pins σ H2 s2 -> aM x v -> aM y u -> R x y H2 -> wpAny (model X.prog X.w) X.A (f v u) Q X.xe s2) :
  wpAny (model X.prog X.w) X.A (eval a X.env) (λ v s₁ => wpAny (model X.prog X.w) X.A (eval b X.env) (λ u s₂ => wpAny (model X.prog X.w) X.A (f v u) Q X.xe s₂) X.xe s₁) X.xe s := by
 refine bw (ha pins s σ H _ I h) λ v s1 ⟨x, H1, I1, r1, q1⟩ => ?_
 refine bw (hb pins s1 σ H1 _ I1 q1) λ u s2 ⟨y, H2, I2, r2, q2⟩ => ?_
 exact hf v u s2 x y H2 I2 r1 r2 q2
theorem Dx {op : Operator} {r : R2} (ho : jU X (binaryOp op) r) (ha : PE X a ta) (hb : PE X b tb) : PE X (.BinOp a op b pos) (DY r ta tb) := by
 intro pins s σ H Q I h
 exact wpAny_BinOp (A7 ha hb I h λ v u s2 x y H2 I2 rx ry q => ho pins s2 σ H2 x y v u Q I2 rx ry q)
theorem Dz {op : UnaryOp} {r : V -> Hp -> VK -> Prop} (ho : Et X (unaryOp op) r) (ha : PE X a ta) : PE X (.UnaryOp op a pos) (Ff r ta) := by
 intro pins s σ H Q I h
 exact UnaryOp_ (bw (ha pins s σ H _ I h) λ v s1 ⟨x, H1, I1, r1, q1⟩ => ho pins s1 σ H1 x v Q I1 r1 q1)
theorem ES {f : Value -> Value -> Sem Value} {C : Int -> Int -> Prop} {g : Int -> Int -> Int}
  (rule : ∀ (i j : Int) (t u : Tok) (s : Shared) (Q : Value -> Shared -> Prop) (E : Value -> Shared -> Prop), C i j -> Q (.int (g i j) s.toks) { s with toks := s.toks + 1 } -> wpAny (model X.prog X.w) X.A (f (.int i t) (.int j u)) Q E s) :
  jU X f (rI C λ i j => .int (g i j)) := by
 intro pins s σ H x y v u Q I rx ry h
 obtain ⟨i, j, rfl, rfl, hc, q⟩ := h
 obtain ⟨t, rfl⟩ := rx
 obtain ⟨t', rfl⟩ := ry
 exact rule i j t t' s _ _ hc ⟨.int (g i j), H, I.tok _, ⟨_, rfl⟩, q⟩
theorem Dt {f : Value -> Value -> Sem Value} {g : Int -> Int -> Int}
  (rule : ∀ (i j : Int) (t u : Tok) (s : Shared) (Q : Value -> Shared -> Prop) (E : Value -> Shared -> Prop), Q (.int (g i j) s.toks) { s with toks := s.toks + 1 } -> wpAny (model X.prog X.w) X.A (f (.int i t) (.int j u)) Q E s) :
  jU X f (yz λ i j => .int (g i j)) := by
 intro pins s σ H x y v u Q I rx ry h
 obtain ⟨i, j, rfl, rfl, q⟩ := h
 obtain ⟨t, rfl⟩ := rx
 obtain ⟨t', rfl⟩ := ry
 exact rule i j t t' s _ _ ⟨.int (g i j), H, I.tok _, ⟨_, rfl⟩, q⟩
theorem zp {f : Value -> Value -> Sem Value} {g : Int -> Int -> Bool}
  (rule : ∀ (i j : Int) (t u : Tok) (s : Shared) (Q : Value -> Shared -> Prop) (E : Value -> Shared -> Prop), Q (.bool (g i j)) s -> wpAny (model X.prog X.w) X.A (f (.int i t) (.int j u)) Q E s) :
  jU X f (yz λ i j => .bl (g i j)) := by
 intro pins s σ H x y v u Q I rx ry h
 obtain ⟨i, j, rfl, rfl, q⟩ := h
 obtain ⟨t, rfl⟩ := rx
 obtain ⟨t', rfl⟩ := ry
 exact rule i j t t' s _ _ ⟨.bl (g i j), H, I, rfl, q⟩
noncomputable def CW (i j : Int) : Prop := 0 < j /\ j < 1073741824
noncomputable def yB (i j : Int) : Prop := (-(2 ^ 64) < i /\ i < 2 ^ 64) \/ (-(2 ^ 64) < j /\ j < 2 ^ 64)
theorem yB.ok {i j : Int} (h : yB i j) : IntMulOk i j := by
 rcases h with ⟨h1, h2⟩ | ⟨h1, h2⟩
 ·exact .of_left (intBits_le_64 h1 h2)
 ·exact .of_right (intBits_le_64 h1 h2)
theorem BF : jU X (binaryOp .Add) (yz λ i j => .int (i + j)) := Dt λ _ _ _ _ _ _ _ q => add_int q
theorem BI : jU X (binaryOp .Sub) (yz λ i j => .int (i - j)) := Dt λ _ _ _ _ _ _ _ q => sub_int q
theorem BH : jU X (binaryOp .Mult) (rI yB λ i j => .int (i * j)) := ES λ _ _ _ _ _ _ _ hc q => mul_int q hc.ok
theorem zu : jU X (binaryOp .FloorDiv) (rI CW λ i j => .int (i / j)) := ES λ i j _ _ _ _ _ hc q => by
 have h1 : (0 : Int) < j := hc.1
 have h2 : j < 1073741824 := hc.2
 exact floordiv_int (by omega) (by rw [Int.fdiv_eq_ediv_of_nonneg i (by omega)]; exact q) (.inl (PyProof.noPylong_small (by omega)))
theorem BG : jU X (binaryOp .Mod) (rI (λ _ j => 0 < j) λ i j => .int (i % j)) := ES λ i j _ _ _ _ _ hc q => by
 have h1 : (0 : Int) < j := hc
 exact mod_int' (by omega) (by rw [Int.fmod_eq_emod_of_nonneg i (by omega)]; exact q)
theorem Fu {f : Value -> Sem Value} {g : Int -> Int}
  (rule : ∀ (i : Int) (t : Tok) (s : Shared) (Q : Value -> Shared -> Prop) (E : Value -> Shared -> Prop), Q (.int (g i) s.toks) { s with toks := s.toks + 1 } -> wpAny (model X.prog X.w) X.A (f (.int i t)) Q E s) :
  Et X f (rU λ i => .int (g i)) := by
 intro pins s σ H x v Q I rx h
 obtain ⟨i, rfl, q⟩ := h
 obtain ⟨t, rfl⟩ := rx
 exact rule i t s _ _ ⟨.int (g i), H, I.tok _, ⟨_, rfl⟩, q⟩
theorem CF : Et X (unaryOp .USub) (rU λ i => .int (-i)) := Fu λ _ _ _ _ _ q => neg_int q
end
section
variable {X : Cx} {a b c : Expr} {ta tb tc : TE} {pos : Pos}
theorem Bl {pins : List (Addr × Obj)} {σ : St} {H : Hp} {s : Shared} {Q : VK} {k k' : Bool} (I : Inv X pins σ H s) (q : Q (.bl k) H) (e : k = k') : EP X pins σ Q (.bool k') s := by
 subst e
 exact ⟨.bl k, H, I, rfl, q⟩
theorem AW : jU X (compareOp .Lt) (yz λ i j => .bl (decide (i < j))) := zp λ _ _ _ _ _ _ _ q => lt_int q
theorem AV : jU X (compareOp .LtE) (yz λ i j => .bl (decide (i <= j))) := zp λ _ _ _ _ _ _ _ q => le_int q
theorem Dv : jU X (compareOp .Gt) (yz λ i j => .bl (decide (j < i))) := zp λ _ _ _ _ _ _ _ q => gt_int q
theorem Du : jU X (compareOp .GtE) (yz λ i j => .bl (decide (j <= i))) := zp λ _ _ _ _ _ _ _ q => ge_int q
theorem vA : jU X (compareOp .In) (λ x y H Q => ∃ i j, x = .str i /\ y = .str j /\ Q (.bl (!(Builtin.Str.occurrences j i 0 j.length 1).isEmpty)) H) := by
 intro pins s σ H x y v u Q I rx ry h
 obtain ⟨i, j, rfl, rfl, q⟩ := h
 obtain ⟨t, rfl⟩ := rx
 obtain ⟨t', rfl⟩ := ry
 exact in_str (Bl I q rfl)
theorem zy {op : CmpOp} {r : R2} (ho : jU X (compareOp op) r) (ha : PE X a ta) (hb : PE X b tb) (hm : behindInMarks op b = false) : PE X (.Compare a [op] [b] pos) (DY r ta tb) := by
 intro pins s σ H Q I h
 exact wpAny_Compare1 (A7 ha hb I h λ v u s2 x y H2 I2 rx ry q => ho pins s2 σ H2 x y v u Q I2 rx ry q) hm
noncomputable def D0 (t : TE) : TT := λ σ H Q => t σ H λ x H' => ∃ k, x = .bl k /\ Q k H'
theorem zL {op : CmpOp} {r : R2} (ho : jU X (compareOp op) r) (ha : PE X a ta) (hb : PE X b tb) (hm : behindInMarks op b = false) : PT X (.Compare a [op] [b] pos) (D0 (DY r ta tb)) := by
 intro pins s σ H Q I h
 refine wpAny_isTrue_Compare1 (bw (ha pins s σ H _ I h) λ v s1 ⟨x, H1, I1, r1, q1⟩ => bw (hb pins s1 σ H1 _ I1 q1) λ u s2 ⟨y, H2, I2, r2, q2⟩ =>
  bw (ho pins s2 σ H2 x y v u _ I2 r1 r2 q2) λ c s3 ⟨z, H3, I3, r3, k, e, q3⟩ => ?_) hm
 subst e
 cases r3
 exact wpAny_truthy_bool ⟨H3, I3, q3⟩
noncomputable def yG (K : PySem.W.Frag) (x : V) (H : Hp) (k : Bool) : Prop :=
 match x with
 | .non => k = false
 | .bl b => k = b
 | .int i => k = (i != 0)
 | .str y => y.length <= sizeLine /\ k = ((y.length : Int) != 0)
 | .byt y => y.size <= sizeLine /\ k = ((y.size : Int) != 0)
 | .ref p => (∃ xs, cr K H p xs /\ k = !xs.isEmpty) \/ (∃ xs, k9 K H p xs /\ k = !xs.isEmpty) \/ ∃ kvs, H p = some (.dK kvs) /\ k = !kvs.isEmpty
 | _ => False
theorem sR {κ : Type} {kvs : List (κ × V)} {vs : List (κ × Value)} (r : KV kvs vs) : (!vs.isEmpty) = !kvs.isEmpty := by
 cases r <;> rfl
theorem mX {xs : List V} {its : List Value} (r : aU xs its) : (!its.toArray.isEmpty) = !xs.isEmpty := by
 cases r <;> simp
theorem li : (sizeLine : Nat) < 2 ^ 63 := by rw [sizeLine_eq]; decide
theorem CC : Es X (λ x H Q => ∃ k, yG X.K x H k /\ Q k H) := by
 intro pins s σ H x v Q I rx h
 obtain ⟨k, e, q⟩ := h
 have hl := li
 have hs : sizeLine = 16777216 := sizeLine_eq
 cases x with
 | non =>
  cases rx
  have e' : k = false := e
  subst e'
  exact truthy_none ⟨H, I, q⟩
 | bl b =>
  cases rx
  have e' : k = b := e
  subst e'
  exact wpAny_truthy_bool ⟨H, I, q⟩
 | int i =>
  obtain ⟨t, rfl⟩ := rx
  have e' : k = (i != 0) := e
  subst e'
  exact PySem.P.truthy_int ⟨H, I, q⟩
 | str y =>
  obtain ⟨t, rfl⟩ := rx
  obtain ⟨hy, e'⟩ : y.length <= sizeLine /\ k = ((y.length : Int) != 0) := e
  subst e'
  exact PySem.P.truthy_str (by omega) ⟨H, I.tok _, q⟩
 | byt y =>
  obtain ⟨t, rfl⟩ := rx
  obtain ⟨hy, e'⟩ : y.size <= sizeLine /\ k = ((y.size : Int) != 0) := e
  subst e'
  exact PySem.W.truthy_bytes (by omega) ⟨H, I.tok _, q⟩
 | ref p =>
  cases rx
  have e' : (∃ xs, cr X.K H p xs /\ k = !xs.isEmpty) \/ (∃ xs, k9 X.K H p xs /\ k = !xs.isEmpty) \/ ∃ kvs, H p = some (.dK kvs) /\ k = !kvs.isEmpty := e
  rcases e' with ⟨xs, hx, e'⟩ | ⟨xs, hx, e'⟩ | ⟨kvs, hx, e'⟩
  ·subst e'
   obtain ⟨its, r, pl, hz⟩ := I.list hx
   have hlen := r.length
   exact wpAny_truthy_list pl.isList (by simp only [List.size_toArray]; omega) ⟨H, I.tok _, by rw [mX r]; exact q⟩
  ·subst e'
   obtain ⟨its, r, pl, hz⟩ := I.tuple hx
   have hlen := r.length
   exact truthy_tuple pl (by simp only [List.size_toArray]; omega) ⟨H, I.tok _, by rw [mX r]; exact q⟩
  ·subst e'
   obtain ⟨hz, hS, vs, r, m⟩ : kvs.length <= sizeLine /\ (p == sysModules) = false /\ ∃ vs, KV kvs vs /\ s.heap.DictOf (b0 X.prog X.w) p vs := I.hok p _ hx
   have hlen : kvs.length = vs.length := Paired.length r
   exact wpAny_truthy_dict hS m (by omega) ⟨H, I.tok _, by rw [sR r]; exact q⟩
 | _ => exact (show False from e).elim
theorem xE (ha : PE X a ta) (he : ∀ whole, isTrue a X.env whole = (do let v ← whole; standAt a.pos; holding [v] (truthy v))) :
  PT X a (λ σ H Q => ta σ H λ x H' => ∃ k, yG X.K x H' k /\ Q k H') := by
 intro pins s σ H Q I h
 exact isTrue_plain (bw (ha pins s σ H _ I h) λ v s1 ⟨x, H1, I1, r1, q1⟩ => CC pins s1 σ H1 x v Q I1 r1 q1) (he _)
theorem tD : jU X (binaryOp .Add) (λ x y H Q => ∃ i j, x = .str i /\ y = .str j /\ i.length + j.length <= sizeLine /\ Q (.str (i ++ j)) H) := by
 intro pins s σ H x y v u Q I rx ry h
 obtain ⟨i, j, rfl, rfl, hz, q⟩ := h
 obtain ⟨t, rfl⟩ := rx
 obtain ⟨t', rfl⟩ := ry
 exact add_str (λ t' tk => ⟨.str (i ++ j), H, I.tok _, ⟨_, rfl⟩, q⟩) hz
theorem so {x : V} {us : List Value} (r : aU [x] us) : ∃ u, us = [u] /\ aM x u := by
 cases r with
 | cons r1 r2 => cases r2; exact ⟨_, rfl, r1⟩
theorem D1 {x y : V} {us : List Value} (r : aU [x, y] us) : ∃ u w', us = [u, w'] /\ aM x u /\ aM y w' := by
 cases r with
 | cons r1 r2 =>
  cases r2 with
  | cons r3 r4 => cases r4; exact ⟨_, _, rfl, r1, r3⟩
theorem uV (hc : X.calm = true) : iU X (.builtin "min") (λ xs H Q => ∃ i j, xs = [.int i, .int j] /\ Q (.int (if j < i then j else i)) H) := by
 intro pins s σ H xs us Q I r h
 obtain ⟨i, j, rfl, q⟩ := h
 obtain ⟨u, w', rfl, ⟨t, rfl⟩, ⟨t', rfl⟩⟩ := D1 r
 refine min_two_ints (I.ok.hd hc) λ h' tk k => ⟨_, H, I.kept k, ?_, q⟩
 by_cases hj : j < i
 ·rw [if_pos hj, if_pos hj]; exact ⟨_, rfl⟩
 ·rw [if_neg hj, if_neg hj]; exact ⟨_, rfl⟩
theorem uU : iU X (.type "int") (λ xs H Q => (∃ i, xs = [.int i] /\ Q (.int i) H) \/ ∃ k, xs = [.bl k] /\ Q (.int (if k then 1 else 0)) H) := by
 intro pins s σ H xs us Q I r h
 rcases h with ⟨i, rfl, q⟩ | ⟨k, rfl, q⟩
 ·obtain ⟨u, rfl, t, rfl⟩ := so r
  exact call_int_int ⟨.int i, H, I, ⟨_, rfl⟩, q⟩
 ·obtain ⟨u, rfl, r1⟩ := so r
  cases r1
  exact call_int_bool ⟨.int (if k then 1 else 0), H, I.tok _, ⟨_, rfl⟩, q⟩
theorem pB : iU X (.type "str") (λ xs H Q => ∃ i, xs = [.int i] /\ i.natAbs.log2 < 1920 /\ Q (.str (toString i)) H) := by
 intro pins s σ H xs us Q I r h
 obtain ⟨i, rfl, hz, q⟩ := h
 obtain ⟨u, rfl, t, rfl⟩ := so r
 exact PySem.P.str_of_int hz ⟨.str _, H, I.tok _, ⟨_, rfl⟩, q⟩
end
end L2
namespace L2
open PySem PySem.Spec PyProof.Rows
section
variable {prog : Program} {w : World} {A : Around} {E : Value -> Shared -> Prop} {s : Shared} {K : PySem.W.Frag} {x dx C f : Addr} {mA : Str -> Option Value} {name : Str} {v : Value}
end
theorem qz.some_of {v : V} {o : Option Value} (r : qz (some v) o) : ∃ u, o = some u /\ aM v u := by
 cases o with
 | none => exact (show False from r).elim
 | some u => exact ⟨u, rfl, r⟩
section
variable {P : Program} {w : World} {H H' : Hp} {h h' : Heap} {a C dx : Addr} {fs fs' : List (Str × V)}
end
section
variable {X : Cx} {pins : List (Addr × Obj)} {σ : St} {H : Hp} {s : Shared} {a C dx : Addr} {fs : List (Str × V)} {f : Str} {v : V} {A : Around} {E : Value -> Shared -> Prop}
end
section
variable {X : Cx} {o e value : Expr} {f : Str} {pos pos' tpos : Pos} {ta tv : TE}
end
section
variable {X : Cx} {pins : List (Addr × Obj)} {σ : St} {H : Hp} {s : Shared} {A : Around} {E : Value -> Shared -> Prop} {Q : Value -> Shared -> Prop} {c : Value} {b : Bool}
end
end L2
namespace L2
open PySem PySem.Spec PyProof.Rows
structure Room (k : Nat) (A : Around) : Prop where
 hd : A.handled = none
 dp : A.depth + 3 * k + 5 < recursionLimit
 un : A.units + 16 * k + 200 < cLine
theorem Room.mono {j k : Nat} {A : Around} (r : Room k A) (h : j <= k) : Room j A := ⟨r.hd, by have := r.dp; omega, by have := r.un; omega⟩
theorem Room.deeper {k : Nat} {A : Around} (r : Room (k + 1) A) (env : Env) : Room k (A.deeper env) :=
 ⟨r.hd, by have := r.dp; show A.depth + 1 + 3 * k + 5 < _; omega, by have := r.un; show A.units + 3 + 16 * k + 200 < _; omega⟩
theorem Room.depth {k : Nat} {A : Around} (r : Room k A) : A.depth < recursionLimit := by have := r.dp; omega
theorem Room.units {k : Nat} {A : Around} (r : Room k A) : A.units + 64 < cLine := by have := r.un; omega
noncomputable def DX : TA := λ _ H Q => Q [] H
noncomputable def A1 (ta : TE) (tr : TA) : TA := λ σ H Q => ta σ H λ x H1 => tr σ H1 λ xs H2 => Q (x :: xs) H2
section
variable {X : Cx} {e : Expr} {es : List Expr} {te : TE} {t : TA} {pos : Pos}
theorem gT : PA X [] DX := λ _ _ _ _ H Q I h => Calls.spliced_nil ⟨[], H, I, .nil, h⟩
theorem fe (ha : PE X e te) (hr : PA X es t) (hs : starEach (e :: es) X.env = (false, eval e X.env) :: starEach es X.env := by rfl) : PA X (e :: es) (A1 te t) := by
 intro pos pins s σ H Q I h
 rw [hs]
 show wpAny _ _ (spliced ((false, eval e X.env) :: backTo pos (starEach es X.env))) _ _ s
 refine Calls.spliced_cons (bw (ha pins s σ H _ I h) λ u s1 ⟨x, H1, I1, r1, q1⟩ => ?_)
 exact bw (hr pos pins s1 σ H1 _ I1 q1) λ us s2 ⟨xs, H2, I2, r2, q2⟩ => ⟨x :: xs, H2, I2, .cons r1 r2, q2⟩
noncomputable def E7 (t : TA) : TE := λ σ H Q => t σ H λ xs H1 => xs.length <= sizeLine /\ ∀ p, H1 p = none -> Q (.ref p) (cD H1 p (.tup xs))
noncomputable def E3 (t : TA) : TE := λ σ H Q => t σ H λ xs H1 => xs.length <= sizeLine /\ ∀ p, H1 p = none -> Q (.ref p) (cD H1 p (.lst xs))
theorem BM {x1} (h : PA X es t) : PE X (.Tuple es x1 pos) (E7 t) := by
 intro pins s σ H Q I hq
 refine wpAny_Tuple_spliced (bw (h pos pins s σ H _ I hq) λ us s1 ⟨xs, H1, I1, r, z, q⟩ => ⟨by rw [<- r.length]; exact z, ?_⟩)
 have hf : H1 s1.heap.objs.size = none := I1.hok.fresh (Nat.le_refl _)
 refine ⟨.ref s1.heap.objs.size, cD H1 s1.heap.objs.size (.tup xs), I1.laid (t' := s1.toks) (λ b u e => Heap.get?_push_of_some _ e) (Nat.le_refl _) ?_, rfl, q _ hf⟩
 exact ⟨z, us, r, ⟨_, Heap.get?_push_size _ rfl, rfl, _, rfl⟩⟩
theorem qa (h : PA X es t) : PE X (.List es pos) (E3 t) := by
 intro pins s σ H Q I hq
 refine wpAny_List_spliced (bw (h pos pins s σ H _ I hq) λ us s1 ⟨xs, H1, I1, r, z, q⟩ => ⟨by rw [<- r.length]; exact z, ?_⟩)
 have hf : H1 s1.heap.objs.size = none := I1.hok.fresh (Nat.le_refl _)
 refine ⟨.ref s1.heap.objs.size, cD H1 s1.heap.objs.size (.lst xs), I1.laid (t' := s1.toks) (λ b u e => Heap.get?_push_of_some _ e) (Nat.le_refl _) ?_, rfl, q _ hf⟩
 exact ⟨z, us, 0, r, Heap.get?_push_size _ rfl⟩
end
noncomputable abbrev Sp := List V -> Hp -> VK -> XK -> Prop
noncomputable abbrev v4 := List Env -> Hp -> Shared -> XK -> Value -> Shared -> Prop
structure Env0 (P : Program) (w : World) (K : PySem.W.Frag) (mg : Str -> Option Value) (base : Heap) (A : Around) (outer : List Env) (s : Shared) (H : Hp) : Prop where
 frames : A.frames = some outer
 mod : Mod K mg base
 bs : ∀ b o, base.get? b = some o -> s.heap.get? b = some o /\ H b = none
 bsz : base.objs.size <= s.heap.objs.size
 funs : s.heap.FunFrames base outer
 frf : ∀ b ∈ kW outer, H b = none
 hok : kg P w H s.heap
 bare : AllBare s.gens
noncomputable def CE (outer : List Env) (P : Program) (w : World) (H : Hp) (s : Shared) (Q : VK) (u : Value) (s' : Shared) : Prop :=
 ∃ v H', s'.os = s.os /\ AllBare s'.gens /\ Un (kW outer) [] H H' s.heap s'.heap /\ kg P w H' s'.heap /\ aM v u /\ Q v H'
noncomputable def CR (CX : v4) (outer : List Env) (P : Program) (w : World) (H : Hp) (s : Shared) (Q : VK) (E : XK) (r : Result) (s' : Shared) : Prop :=
 match r with
 | .ok (.ret u) => CE outer P w H s Q u s'
 | .ok _ => False
 | .error e => CX outer H s E e s'
structure FnOk (P : Program) (w : World) (K : PySem.W.Frag) (mg : Str -> Option Value) (base : Heap) (CX : v4) (k : Nat) (f : Addr) (fd : FuncData) (ps : List Str) (sp : Sp) : Prop where
 len : ∀ vs H Q E, sp vs H Q E -> vs.length = ps.length
 run : ∀ (A : Around) (outer : List Env) (s : Shared) (H : Hp) (args : Args) (us : List Value) (vs : List V) (Q : VK) (E : XK), Room k A -> Env0 P w K mg base A outer s H -> BindsTo s fd args (ps.zip us) -> aU vs us -> sp vs H Q E →
  codeAny (model P w) A (.call (.ref f) args) (CR CX outer P w H s Q E) s
theorem FnOk.imp {P : Program} {w : World} {K : PySem.W.Frag} {mg : Str -> Option Value} {base : Heap} {CX : v4} {k : Nat} {f : Addr} {fd : FuncData} {ps : List Str} {sp sp' : Sp} (F : FnOk P w K mg base CX k f fd ps sp)
  (h : ∀ vs H Q E, sp' vs H Q E -> sp vs H Q E) : FnOk P w K mg base CX k f fd ps sp' :=
 ⟨λ vs H Q E q => F.len vs H Q E (h _ _ _ _ q), λ A outer s H args us vs Q E hr he hb hv hs => F.run A outer s H args us vs Q E hr he hb hv (h _ _ _ _ hs)⟩
section
variable {X : Cx} {pins : List (Addr × Obj)} {σ : St} {H : Hp} {s s' : Shared}
theorem Inv.env0 (I : Inv X pins σ H s) : Env0 X.prog X.w X.K X.mg X.base X.A X.stack s H :=
 ⟨I.ok.frames, I.ok.mod, I.bs, Nat.le_trans I.ok.bsz I.sz, I.stack, I.stkFree, I.hok, I.bare⟩
theorem Inv.after {Q : VK} {u : Value} (I : Inv X pins σ H s) (h : CE X.stack X.prog X.w H s Q u s') : EP X pins σ Q u s' := by
 obtain ⟨v, H', os, bare, un, hok, r, q⟩ := h
 obtain ⟨hh, g, d, t, os'⟩ := s'
 obtain rfl : os' = s.os := os
 exact ⟨v, H', I.call (h' := hh) (g' := g) (d' := d) (t' := t) (ch := []) un hok bare (λ b z => absurd z (by simp)), r, q⟩
end
noncomputable def DT (sp : Sp) (dvs : List V) (E : XK) (t : TA) : TE := λ σ H Q => t σ H λ vs H1 => sp (vs ++ dvs) H1 Q E
noncomputable def ke (K : PySem.W.Frag) (fd : FuncData) (ps : List Str) (ds : List Value) : Prop :=
 ∀ (s : Shared) (us : List Value), K.In s.heap -> (us ++ ds).length = ps.length -> BindsTo s fd ⟨us, []⟩ (ps.zip (us ++ ds))
theorem ke.all {K : PySem.W.Frag} {fd : FuncData} {ps : List Str} (h : ∀ us : List Value, us.length = ps.length -> bindArgs fd ⟨us, []⟩ = pure (ps.zip us)) : ke K fd ps [] := λ s us _ hl => by
 rw [List.append_nil] at hl ⊢
 exact .of_eq (h us hl)
noncomputable def sC (CX : v4) (X : Cx) (E : XK) : Prop := ∀ (pins : List (Addr × Obj)) (σ : St) (H : Hp) (s : Shared) (e : Value) (s' : Shared), Inv X pins σ H s -> CX X.stack H s E e s' -> X.xe e s'
section
variable {X : Cx} {CX : v4} {k : Nat} {f C : Addr} {fd : FuncData} {ps : List Str} {sp : Sp} {dvs : List V} {ds : List Value} {E : XK} {x m : Str} {p pos apos : Pos} {e o : Expr} {es : List Expr} {ta : TE} {t : TA}
theorem Cw {pins : List (Addr × Obj)} {σ : St} {H : Hp} {s : Shared} {Q : VK} {us : List Value} {vs : List V} (F : FnOk X.prog X.w X.K X.mg X.base CX k f fd ps sp) (hr : Room k X.A) (hb : ke X.K fd ps ds) (hd : aU dvs ds) (hx : sC CX X E)
  (I : Inv X pins σ H s) (r : aU vs us) (h : sp (vs ++ dvs) H Q E) : wpAny (model X.prog X.w) X.A (call (.ref f) us) (EP X pins σ Q) X.xe s := by
 have r2 : aU (vs ++ dvs) (us ++ ds) := r.append hd
 have hl : (us ++ ds).length = ps.length := by rw [<- r2.length]; exact F.len _ _ _ _ h
 refine wpAny_call (codeAny_mono (F.run X.A X.stack s H ⟨us, []⟩ (us ++ ds) (vs ++ dvs) Q E hr I.env0 (hb s us I.kIn hl) r2 h) λ r s' hq => ?_)
 cases r with
 | error e => exact hx pins σ H s e s' I hq
 | ok fl =>
  cases fl with
  | ret u => exact I.after hq
  | next => exact False.elim hq
  | brk => exact False.elim hq
  | cont => exact False.elim hq
theorem zx (F : FnOk X.prog X.w X.K X.mg X.base CX k f fd ps sp) (hr : Room k X.A) (hg : Gl X x) (hm : X.mg x = some (.ref f)) (hk : PySem.W.keepIn X.K (.ref f) = true) (hb : ke X.K fd ps ds) (hd : aU dvs ds) (hx : sC CX X E)
  (ha : PA X (e :: es) t) (hdb : (x == ("__debug__" : Str)) = false := by decide) (he : starEach (e :: es) X.env = (false, eval e X.env) :: starEach es X.env := by rfl) (hpl : (backTo pos (starEach es X.env)).any (·.1) = false := by rfl) :
  PE X (.Call (.Name x p) (e :: es) [] pos) (DT sp dvs E t) := by
 intro pins s σ H Q I h
 refine wpAny_Call_Name_kw (pS I hg hm ?_ hdb)
 refine PySem.W.callWith_K (h₀ := X.base) I.ok.mod.kin hk (bw (ha pos pins s σ H _ I h) λ us s1 ⟨vs, H1, I1, r, q⟩ => ⟨I1.kIn, ?_⟩) he hpl
 exact Cw F hr hb hd hx I1 r q
end
section
variable {X : Cx} {CX : v4} {k : Nat} {f C : Addr} {fd : FuncData} {ps ks : List Str} {sp : Sp} {E : XK} {x m : Str} {p pos apos kpos : Pos} {e o : Expr} {es : List Expr} {kws : List Keyword} {te ta : TE} {t tk : TA} {nm : Option Str}
variable {g : List Value -> List Value -> List Value} {gV : List V -> List V -> List V}
end
structure FnScope (N P : List Str) (sc : Scope) : Prop where
 kind : sc.kind = .function
 co : sc.isCoroutine = false
 gen : sc.isGenerator = false
 nd : N.Nodup
 pre : N.take P.length = P
 par : ∀ x ∈ P, sc.names.lookup x = some .local \/ sc.names.lookup x = some .cell
 nofree : ∀ y ∈ sc.names, y.2 ≠ .free
theorem ol {kindOf : Str -> Option NameKind} {x : Str} : ∀ {binds : List (Str × Value)} {m : Str -> Option Value}, (∀ v, (x, v) ∉ binds) -> bindL kindOf binds m x = m x
 | [], _, _ => rfl
 | (n, v) :: r, m, h => by
  unfold bindL
  rw [ol λ w hw => h w (List.mem_cons_of_mem _ hw)]
  split
  ·have : x ≠ n := by rintro rfl; exact h v List.mem_cons_self
   simp [this]
  ·rfl
theorem oi {kindOf : Str -> Option NameKind} {x : Str} : ∀ {binds : List (Str × Value)} {m : Str -> Option Value}, (∀ v, (x, v) ∉ binds) -> bindC kindOf binds m x = m x
 | [], _, _ => rfl
 | (n, v) :: r, m, h => by
  unfold bindC
  rw [oi λ w hw => h w (List.mem_cons_of_mem _ hw)]
  split
  ·rfl
  ·have : x ≠ n := by rintro rfl; exact h v List.mem_cons_self
   simp [this]
theorem oj {kindOf : Str -> Option NameKind} {x : Str} {v : Value} : ∀ {P : List Str} {vs : List Value} {i : Nat} {m : Str -> Option Value}, P.Nodup -> P[i]? = some x -> vs[i]? = some v -> kindOf x = some .local →
  bindL kindOf (P.zip vs) m x = some v
 | [], _, _, _, _, h, _, _ => by simp at h
 | _ :: _, [], _, _, _, _, h, _ => by simp at h
 | p :: P, w :: vs, 0, m, nd, h1, h2, hk => by
  simp at h1 h2; subst h1; subst h2
  show bindL kindOf ((p, w) :: P.zip vs) m p = _
  unfold bindL
  rw [ol λ v hv => (List.nodup_cons.mp nd).1 (List.of_mem_zip hv).1, if_pos hk]
  simp
 | p :: P, w :: vs, i + 1, m, nd, h1, h2, hk => by
  show bindL kindOf ((p, w) :: P.zip vs) m x = _
  unfold bindL
  exact oj (i := i) (List.nodup_cons.mp nd).2 (by simpa using h1) (by simpa using h2) hk
theorem oh {kindOf : Str -> Option NameKind} {x : Str} {v : Value} : ∀ {P : List Str} {vs : List Value} {i : Nat} {m : Str -> Option Value}, P.Nodup -> P[i]? = some x -> vs[i]? = some v -> kindOf x ≠ some .local →
  bindC kindOf (P.zip vs) m x = some v
 | [], _, _, _, _, h, _, _ => by simp at h
 | _ :: _, [], _, _, _, _, h, _ => by simp at h
 | p :: P, w :: vs, 0, m, nd, h1, h2, hk => by
  simp at h1 h2; subst h1; subst h2
  show bindC kindOf ((p, w) :: P.zip vs) m p = _
  unfold bindC
  rw [oi λ v hv => (List.nodup_cons.mp nd).1 (List.of_mem_zip hv).1, if_neg hk]
  simp
 | p :: P, w :: vs, i + 1, m, nd, h1, h2, hk => by
  show bindC kindOf ((p, w) :: P.zip vs) m x = _
  unfold bindC
  exact oh (i := i) (List.nodup_cons.mp nd).2 (by simpa using h1) (by simpa using h2) hk
noncomputable def kR (N : List Str) (vs : List V) : St := vs.map some ++ List.replicate (N.length - vs.length) none
noncomputable def u0 (CX : v4) (P : Program) (w : World) (K : PySem.W.Frag) (mg : Str -> Option Value) (base : Heap) (N : List Str) (qual : Str) (scope : Scope) (f : Addr) (cd : Value) (A : Around) (outer : List Env) (s : Shared) (H : Hp) (E : XK) : Cx where
 prog := P
 w := w
 K := K
 mg := mg
 base := base
 A := A.deeper (envOfC qual scope s.heap.objs.size f cd)
 N := N
 s₀ := s
 H₀ := H
 env := envOfC qual scope s.heap.objs.size f cd
 outer := outer
 stack := envOfC qual scope s.heap.objs.size f cd :: outer
 ex := []
 calm := true
 fn := λ _ => true
 pn := []
 xe := λ e s' => wpAny (model P w) (A.deeper (envOfC qual scope s.heap.objs.size f cd)) (leaving (envOfC qual scope s.heap.objs.size f cd) e) (λ _ s'' => CX outer H s E e s'') (λ e' s'' => CX outer H s E e' s'') s'
theorem qF {sc : Scope} {n : Nat} {x : Str} (h : sc.names.lookup x = some .cell) : ∃ c, (cellsFrom n sc.names []).lookup x = some c := by
 have q := PySem.W.cellsFrom_some sc.names n [] (.inl h)
 exact Option.isSome_iff_exists.mp q
theorem vj {CX : v4} {P : Program} {w : World} {K : PySem.W.Frag} {mg : Str -> Option Value} {base : Heap} {N ps : List Str} {qual : Str} {scope : Scope} {f : Addr} {cd : Value} {A : Around} {outer : List Env} {s s1 : Shared} {H : Hp} {E : XK} {us : List Value} {vs : List V}
  (S : FnScope N ps scope) (hd : A.handled = none) (e0 : Env0 P w K mg base A outer s H) (hl : vs.length = ps.length) (r : aU vs us)
  (x : InCallC s s.heap.objs.size (bindL (envOfC qual scope s.heap.objs.size f cd).kindOf (ps.zip us) λ _ => none) (cellsFrom (s.heap.objs.size + 1) scope.names []) (bindC (envOfC qual scope s.heap.objs.size f cd).kindOf (ps.zip us) λ _ => none) s1) :
  Inv (u0 CX P w K mg base N qual scope f cd A outer s H E) [] (kR N vs) H s1 := by
 have hpl : ps.length <= N.length := by have := congrArg List.length S.pre; rw [List.length_take] at this; omega
 obtain ⟨h1, tk, rfl, hk⟩ := x.done
 have noA : ∀ b : Addr, b ∉ (u0 CX P w K mg base N qual scope f cd A outer s H E).ex := λ b z => absurd (show b ∈ ([] : List Addr) from z) (by simp)
 refine ⟨⟨e0.mod, S.kind, rfl, rfl, Nat.le_refl _, λ y z c h1 h2 => ?_, λ y hy => ?_, λ y c _ h => ?_, λ _ => hd, Around.frames_deeper e0.frames, .inr ⟨rfl, rfl⟩, λ b z => absurd z (noA b), e0.bs, e0.bsz, λ b _ _ => noA b, λ b z => absurd z (noA b), e0.funs, e0.frf⟩,
  rfl, e0.bare, Un.kept hk, ⟨_, x.toInCall.ns, λ i y v h1 h2 h3 => ?_⟩, λ y c h => ⟨_, x.cell y c h⟩, e0.hok.fresh (Nat.le_refl _), λ y c h => ?_, λ p hp => absurd (show p ∈ ([] : List (Addr × Obj)) from hp) (by simp), e0.hok.kept hk, ?_, trivial⟩
 ·exact name_of_addr x.apart (PySem.mem_of_lookup h1) (PySem.mem_of_lookup h2)
 ·have hy : scope.names.lookup y = some .cell \/ scope.names.lookup y = some .free := hy
  rcases hy with hy | hy
  ·exact qF hy
  ·exact absurd rfl (S.nofree _ (PySem.mem_of_lookup hy))
 ·exact Nat.le_of_lt (x.above y c (PySem.mem_of_lookup h))
 ·have hi : i < vs.length := by
   unfold kR at h2
   by_cases hi : i < vs.length
   ·exact hi
   ·rw [List.getElem?_append_right (by simpa using hi)] at h2
    rw [List.getElem?_replicate] at h2
    split at h2 <;> cases h2
  have ha : vs[i]? = some v := by
   unfold kR at h2
   rw [List.getElem?_append_left (by simpa using hi), List.getElem?_map] at h2
   cases e : vs[i]? with
   | none => rw [e] at h2; cases h2
   | some a => rw [e] at h2; cases h2; rfl
  obtain ⟨u, hu, rv⟩ := r.get ha
  have hp : ps[i]? = some y := by
   rw [<- S.pre, List.getElem?_take_of_lt (by omega)]; exact h1
  have ndP : ps.Nodup := by rw [<- S.pre]; exact S.nd.sublist (List.take_sublist _ _)
  refine ⟨u, rv, ?_⟩
  rcases S.par y (List.mem_of_getElem? hp) with k | k
  ·exact .inl ⟨k, oj ndP hp hu k⟩
  ·obtain ⟨c, e⟩ := qF (n := s.heap.objs.size + 1) k
   refine .inr ⟨.inl k, c, e, ?_⟩
   have q := x.cell y c e
   rw [oh ndP hp hu (by show scope.names.lookup y ≠ _; rw [k]; decide)] at q
   exact q
 ·exact e0.hok.fresh (Nat.le_of_lt (x.above y c (PySem.mem_of_lookup h)))
 ·unfold kR
  show _ = N.length
  rw [List.length_append, List.length_map, List.length_replicate]
  omega
theorem Di {CX : v4} {P : Program} {w : World} {K : PySem.W.Frag} {mg : Str -> Option Value} {base : Heap} {k : Nat} {f : Addr} {name qual : Str} {params : Arguments} {body : List Stmt} {scope : Scope} {dV kV doc pm cdv ct oc : Value} {an od : Option Addr}
  {osl : Array (Option Value)} {N ps : List Str} {sp : Sp} (lk : K.lookup f = some ⟨oc, od, .func (PySem.W.fnOf name qual params body scope dV kV doc pm an cdv ct), osl⟩) (hcd : PySem.W.codeIn K cdv qual = true) (S : FnScope N ps scope)
  (len : ∀ vs H Q E, sp vs H Q E -> vs.length = ps.length)
  (hbody : ∀ (A : Around) (outer : List Env) (s : Shared) (H : Hp) (vs : List V) (Q : VK) (E : XK), Room k (A.deeper (envOfC qual scope s.heap.objs.size f cdv)) -> sp vs H Q E →
   ∃ t, AE (u0 CX P w K mg base N qual scope f cdv A outer s H E) body t /\ t { nx := λ _ H' => Q .non H', rt := Q } (kR N vs) H) :
  FnOk P w K mg base CX (k + 1) f (PySem.W.fnOf name qual params body scope dV kV doc pm an cdv ct) ps sp := by
 refine ⟨len, λ A outer s H args us vs Q E hr e0 hb r hsp => ?_⟩
 have hl := len _ _ _ _ hsp
 have KX : K.In s.heap := e0.mod.kin.keeps λ b o e => (e0.bs b o e).1
 have lim : s.heap.NoLimit := e0.mod.nolimit.keeps λ b o e => (e0.bs b o e).1
 have hkind : ∀ y ∈ ps.zip us, scope.names.lookup y.1 = some .local \/ (scope.names.lookup y.1 = some .cell /\ ((cellsFrom (s.heap.objs.size + 1) scope.names []).lookup y.1).isSome = true) := λ ⟨n, v⟩ hy => by
  rcases S.par n (List.of_mem_zip hy).1 with q | q
  ·exact .inl q
  ·exact .inr ⟨q, PySem.W.cellsFrom_some _ _ _ (.inl q)⟩
 refine codeAny_call_function hr.depth (KX _ _ lk) rfl S.co S.gen rfl (PySem.W.codeRec_of KX hcd) (hb _ _ _ _ ?_)
 refine wpAny_newFunctionEnv_cells S.kind hkind λ env he s1 x => ?_
 subst he
 refine ⟨lim.keeps x.toInCall.keep, codeAny_func ?_⟩
 obtain ⟨t, ht, hq⟩ := hbody A outer s H vs Q E (hr.deeper _) hsp
 have I : Inv (u0 CX P w K mg base N qual scope f cdv A outer s H E) [] (kR N vs) H s1 := vj S hr.hd e0 hl r x
 refine wpAny_mono (ht [] s1 (kR N vs) H _ I hq) (λ fl s' hs => ?_) λ e s' hs => hs
 have fin : ∀ {σ' : St} {H' : Hp} {v : V} {u : Value}, Inv (u0 CX P w K mg base N qual scope f cdv A outer s H E) [] σ' H' s' -> aM v u -> Q v H' -> CE outer P w H s Q u s' :=
  λ {σ' H' v u} J rv q => ⟨v, H', J.os, J.bare, J.base, J.hok, rv, q⟩
 cases fl with
 | ret u =>
  obtain ⟨v, σ', H', J, rv, q⟩ := hs
  exact fin J rv q
 | next =>
  obtain ⟨σ', H', J, q⟩ := hs
  exact fin (v := V.non) (u := Value.none) J rfl q
 | brk =>
  obtain ⟨_, _, _, q⟩ := hs
  exact False.elim q
 | cont =>
  obtain ⟨_, _, _, q⟩ := hs
  exact False.elim q
end L2
namespace L2
open PySem PySem.Spec PyProof.Rows
section
variable {X : Cx} {x : Str} {p pos : Pos} {e : Expr} {es : List Expr} {t : TA} {id T : String} {r : List V -> Hp -> VK -> Prop}
noncomputable def Fe (r : List V -> Hp -> VK -> Prop) (t : TA) : TE := λ σ H Q => t σ H λ vs H1 => r vs H1 Q
theorem nj (hc : iU X (.builtin id) r) (hg : Gl X x) (hm : X.mg x = none) (hv : bootBuiltins x = some (.builtin id)) (ha : PA X (e :: es) t) (hn : x ≠ "__name__" := by decide) (hdb : (x == ("__debug__" : Str)) = false := by decide)
  (he : starEach (e :: es) X.env = (false, eval e X.env) :: starEach es X.env := by rfl) (hpl : (backTo pos (starEach es X.env)).any (·.1) = false := by rfl) : PE X (.Call (.Name x p) (e :: es) [] pos) (Fe r t) := by
 intro pins s σ H Q I h
 refine wpAny_Call_Name_kw (jo I hg hm hv ?_ hn hdb)
 exact PyProof.Rows.callWith_builtin1 (bw (ha pos pins s σ H _ I h) λ us s1 ⟨vs, H1, I1, r1, q1⟩ => hc pins s1 σ H1 vs us Q I1 r1 q1) he hpl
theorem oQ (hc : iU X (.type T) r) (hg : Gl X x) (hm : X.mg x = none) (hv : bootBuiltins x = some (.type T)) (ha : PA X (e :: es) t) (hn : x ≠ "__name__" := by decide) (hdb : (x == ("__debug__" : Str)) = false := by decide)
  (he : starEach (e :: es) X.env = (false, eval e X.env) :: starEach es X.env := by rfl) (hpl : (backTo pos (starEach es X.env)).any (·.1) = false := by rfl) : PE X (.Call (.Name x p) (e :: es) [] pos) (Fe r t) := by
 intro pins s σ H Q I h
 refine wpAny_Call_Name_kw (jo I hg hm hv ?_ hn hdb)
 exact PyProof.Rows.callWith_type1 (bw (ha pos pins s σ H _ I h) λ us s1 ⟨vs, H1, I1, r1, q1⟩ => hc pins s1 σ H1 vs us Q I1 r1 q1) he hpl
end
end L2
namespace HT
open PySem PyProof.Rows
section
open PySem.SeqAt
open PySem.AutoSeq1 (wpAny_loadPart')
open PySem.MeetsSeq PySem.MeetsSeq2 PySem.MeetsSeq3
end
section
variable {prog : Program} {w : World} {A : Around} {E : Value -> Shared -> Prop} {s : Shared}
noncomputable def sIx (n d : Nat) : Option Int -> Nat
 | none => d
 | some v => if v < 0 then (v + (n : Int)).toNat else min v.toNat n
theorem sIx_none (n d : Nat) : sIx n d none = d := rfl
theorem sIx_nat (n d k : Nat) : sIx n d (some (k : Int)) = min k n := by
 show (if (k : Int) < 0 then ((k : Int) + (n : Int)).toNat else min (k : Int).toNat n) = min k n
 rw [if_neg (by omega), Int.toNat_natCast]
theorem tR (n d : Nat) (hd : d <= n) (o : Option Int) : sIx n d o <= n := by
 cases o with
 | none => exact hd
 | some v =>
  show (if v < 0 then (v + (n : Int)).toNat else min v.toNat n) <= n
  by_cases hv : v < 0
  ·rw [if_pos hv]; omega
  ·rw [if_neg hv]; exact Nat.min_le_right _ _
theorem ug (v : Int) (n d : Nat) : (if v < 0 then max (v + (n : Int)) 0 else min v (n : Int)) = ((sIx n d (some v) : Nat) : Int) := by
 show (if v < 0 then max (v + (n : Int)) 0 else min v (n : Int)) = (((if v < 0 then (v + (n : Int)).toNat else min v.toNat n) : Nat) : Int)
 by_cases hv : v < 0
 ·simp only [if_pos hv]; omega
 ·simp only [if_neg hv]; omega
theorem sD (lo hi : Option Int) (n : Nat) : Builtin.Slice.sliceAdjust lo hi 1 (n : Int) = (((sIx n 0 lo : Nat) : Int), ((sIx n n hi : Nat) : Int)) := by
 have h1 : ¬ ((1 : Int) < 0) := by omega
 unfold Builtin.Slice.sliceAdjust
 simp only [h1, if_false]
 refine Prod.ext ?_ ?_
 ·cases lo with
  | none => rfl
  | some v => exact ug v n 0
 ·cases hi with
  | none => rfl
  | some v => exact ug v n n
theorem tJ (i j : Nat) : Builtin.Slice.slicePlaces (i : Int) (j : Int) 1 = j - i := by
 unfold Builtin.Slice.slicePlaces
 have h1 : (1 : Int) > 0 := by omega
 simp only [h1, if_true, Int.ediv_one]
 split <;> omega
theorem nD {v : Value} {o : Option Int} {Q : Option Int -> Shared -> Prop} (p : IsPart v o) (h : Q o s) : wpAny (model prog w) A (Builtin.Slice.slicePartIndex v) Q E s := by
 cases p with
 | none => exact slicePart_none h
 | int i t => exact slicePart_int h
theorem lD {sl : Addr} {vl vu : Value} {lo hi : Option Int} {n : Nat} {Q : Int × Int × Nat -> Shared -> Prop} (hs : s.heap.IsSliceOf sl vl vu .none) (pl : IsPart vl lo) (pu : IsPart vu hi)
  (h : Q (((sIx n 0 lo : Nat) : Int), 1, sIx n n hi - sIx n 0 lo) s) : wpAny (model prog w) A (Builtin.Slice.sliceApplied (.ref sl) (pure (n : Int))) Q E s := by
 obtain ⟨os, hos, hcs, hds⟩ := id hs
 unfold Builtin.Slice.sliceApplied Builtin.Slice.sliceFields
 refine wpAny_bind (wpAny_bind (wpAny_field hos hds (x := vl) rfl (wpAny_bind (wpAny_field hos hds (x := vu) rfl (wpAny_bind (wpAny_field hos hds (x := .none) rfl (wpAny_pure ?_)))))))
 refine wpAny_bind (slicePart_none ?_)
 show wpAny _ _ (if ((1 : Int) == 0) = true then _ else _) _ _ s
 rw [if_neg (by decide)]
 refine wpAny_bind (nD pl (wpAny_bind (nD pu (wpAny_bind (wpAny_pure ?_)))))
 show wpAny _ _ (match Builtin.Slice.sliceAdjust lo hi 1 (n : Int) with | (lo, hi) => pure (lo, (1 : Int), Builtin.Slice.slicePlaces lo hi 1)) _ _ s
 rw [sD lo hi n]
 show wpAny _ _ (pure (((sIx n 0 lo : Nat) : Int), (1 : Int), Builtin.Slice.slicePlaces ((sIx n 0 lo : Nat) : Int) ((sIx n n hi : Nat) : Int) 1)) _ _ s
 rw [tJ]
 exact wpAny_pure h
theorem xy (xs : Array Value) (i k : Nat) : ((List.range k).filterMap λ (m : Nat) => xs[((i : Int) + (m : Int) * 1).toNat]?).toArray = ((xs.toList.drop i).take k).toArray := by
 have e : (λ (m : Nat) => xs[((i : Int) + (m : Int) * 1).toNat]?) = λ m => xs[i + m]? := by
  funext m
  have : ((i : Int) + (m : Int) * 1).toNat = i + m := by omega
  rw [this]
 rw [e]
 have := pick_run xs i k
 rw [List.filterMap_map] at this
 have e2 : ((λ x => xs[x]?) ∘ λ x => i + x) = λ m => xs[i + m]? := rfl
 rw [e2] at this
 rw [this]
theorem getItem_tuple_cut {t sl : Addr} {items : Array Value} {vl vu : Value} {lo hi : Option Int} {Q : Value -> Shared -> Prop} (ht : IsTup s.heap t items) (hs : s.heap.IsSliceOf sl vl vu .none) (pl : IsPart vl lo) (pu : IsPart vu hi)
  (hw : ¬ (sIx items.size 0 lo = 0 /\ sIx items.size items.size hi = items.size))
  (h : Q (.ref s.heap.objs.size) { s with heap := s.heap.push { cls := .type "tuple", data := .seq ((items.toList.drop (sIx items.size 0 lo)).take (sIx items.size items.size hi - sIx items.size 0 lo)).toArray } })
  (hsz : items.size <= sizeLine) : wpAny (model prog w) A (getItem (.ref t) (.ref sl)) Q E s := by
 have htake : sizeOk (.seq ((items.toList.drop (sIx items.size 0 lo)).take (sIx items.size items.size hi - sIx items.size 0 lo)).toArray) := by
  show ((items.toList.drop (sIx items.size 0 lo)).take (sIx items.size items.size hi - sIx items.size 0 lo)).toArray.size <= sizeLine
  rw [List.size_toArray, List.length_take, List.length_drop, Array.length_toList]
  omega
 have hj : sIx items.size items.size hi <= items.size := tR _ _ (Nat.le_refl _) hi
 obtain ⟨os, hos, hcs, hds⟩ := id hs
 have hTs : s.TypeIs (.ref sl) "slice" := ⟨os, hos, hcs⟩
 unfold getItem
 try with_reducible refine wpAny_holding ?_
 first | refine wpAny_bind (wpAny_pure ?_) | skip
 refine wpAny_bind (wpAny_sequenceKey ht.typeIs (by decide) ?_)
 refine wpAny_bind (wpAny_callSpecial?_slot (name := Str.ofString "__getitem__") ht.typeIs PyProof.Rows.slot_tuple_getitem
  (wpAny_call_entry PyProof.Rows.slot_tuple_getitem ht.typeIs entry_tuple_getitem ?_ (args_tuple_getitem _ _)))
 show wpAny _ _ (Builtin.Tuple.tupleItemsOf (.ref t) >>= _) _ _ s
 refine wpAny_bind (tupleItemsOf_ ht ?_)
 refine wpAny_bind (wpAny_typeOf hTs ?_)
 rw [if_pos (by decide)]
 refine wpAny_bind (lD hs pl pu ?_)
 have hno : ¬ ((((sIx items.size 0 lo : Nat) : Int) == 0 && (1 : Int) == 1 && (sIx items.size items.size hi - sIx items.size 0 lo) == items.size) = true) := by
  intro q
  rw [Bool.and_eq_true, Bool.and_eq_true] at q
  have q1 : ((sIx items.size 0 lo : Nat) : Int) = 0 := eq_of_beq q.1.1
  have q2 : sIx items.size items.size hi - sIx items.size 0 lo = items.size := eq_of_beq q.2
  exact hw ⟨by omega, by omega⟩
 show wpAny _ _ (if (((sIx items.size 0 lo : Nat) : Int) == 0 && (1 : Int) == 1 && (sIx items.size items.size hi - sIx items.size 0 lo) == items.size) = true then _ else _) _ _ s
 rw [if_neg hno, xy]
 first
  | exact wpAny_bind (m := Builtin.Tuple.tupleExact _) (wpAny_newObj_type (wpAny_pure ⟨_, rfl, wpAny_pure h⟩) htake)
  | exact wpAny_bind (m := Builtin.Tuple.tupleExact _) (wpAny_newObj_type (wpAny_bind (wpAny_pure (wpAny_pure ⟨_, rfl, wpAny_pure h⟩))) htake)
  | exact wpAny_bind (wpAny_bind (m := Builtin.Tuple.tupleExact _) (wpAny_newObj_type (wpAny_pure (wpAny_pure ⟨_, rfl, wpAny_pure h⟩)) htake))
  | exact wpAny_bind (wpAny_bind (m := Builtin.Tuple.tupleExact _) (wpAny_newObj_type (wpAny_pure ⟨_, rfl, wpAny_pure h⟩) htake))
end
end HT
namespace L2
open PySem PySem.Spec PyProof.Rows
noncomputable abbrev TO := St -> Hp -> (Option Int -> Hp -> Prop) -> Prop
noncomputable def PO (X : Cx) (e : Option Expr) (t : TO) : Prop :=
 ∀ (pins : List (Addr × Obj)) (s : Shared) (σ : St) (H : Hp) (Q : Option Int -> Hp -> Prop), Inv X pins σ H s -> t σ H Q →
  wpAny (model X.prog X.w) X.A (evalPart e X.env) (λ u s' => ∃ o H', Inv X pins σ H' s' /\ IsPart u o /\ Q o H') X.xe s
noncomputable def Au : TO := λ _ H Q => Q none H
noncomputable def DZ (t : TE) : TO := λ σ H Q => t σ H λ x H1 => ∃ i, x = .int i /\ Q (some i) H1
section
variable {X : Cx} {e : Expr} {te : TE} {lo hi : Option Expr} {tl th : TO} {pos p2 : Pos}
theorem zH : PO X none Au := by
 intro pins s σ H Q I h
 rw [evalPart_none]
 exact wpAny_pure ⟨none, H, I, .none, h⟩
theorem zI (h : PE X e te) : PO X (some e) (DZ te) := by
 intro pins s σ H Q I hw
 rw [evalPart_some]
 refine bw (h pins s σ H _ I hw) λ u s1 ⟨x, H1, I1, r1, q1⟩ => ?_
 obtain ⟨i, rfl, q⟩ := q1
 obtain ⟨t, rfl⟩ := r1
 exact ⟨some i, H1, I1, .int i t, q⟩
noncomputable def yp (X : Cx) (r : V -> Option Int -> Option Int -> Hp -> VK -> Prop) : Prop :=
 ∀ (pins : List (Addr × Obj)) (s : Shared) (σ : St) (H : Hp) (x : V) (v vl vu : Value) (lo hi : Option Int) (sl : Addr) (Q : VK), Inv X pins σ H s -> aM x v -> s.heap.IsSliceOf sl vl vu .none -> IsPart vl lo -> IsPart vu hi -> r x lo hi H Q →
  ∃ T id, typeLookup (.type T) "__getitem__" = pure (some (.builtin id)) /\ s.TypeIs v T /\ wpAny (model X.prog X.w) X.A (getItem v (.ref sl)) (EP X pins σ Q) X.xe s
theorem yp.or {r r' : V -> Option Int -> Option Int -> Hp -> VK -> Prop} (h : yp X r) (h' : yp X r') : yp X (λ x lo hi H Q => r x lo hi H Q \/ r' x lo hi H Q) := by
 intro pins s σ H x v vl vu lo hi sl Q I rx hs pl pu q
 rcases q with q | q
 ·exact h pins s σ H x v vl vu lo hi sl Q I rx hs pl pu q
 ·exact h' pins s σ H x v vl vu lo hi sl Q I rx hs pl pu q
noncomputable def Ft (r : V -> Option Int -> Option Int -> Hp -> VK -> Prop) (te : TE) (tl th : TO) : TE := λ σ H Q => te σ H λ x H1 => tl σ H1 λ l H2 => th σ H2 λ u H3 => r x l u H3 Q
theorem xn {r : V -> Option Int -> Option Int -> Hp -> VK -> Prop} (hr : yp X r) (he : PE X e te) (hl : PO X lo tl) (hu : PO X hi th) : PE X (.Subscript e (.Slice lo hi none p2) pos) (Ft r te tl th) := by
 intro pins s σ H Q I h
 refine Subscript_ (bw (he pins s σ H _ I h) λ v s1 ⟨x, H1, I1, r1, q1⟩ => ?_)
 refine wpAny_Slice (bw (hl pins s1 σ H1 _ I1 q1) λ vl s2 ⟨l, H2, I2, pl, q2⟩ => bw (hu pins s2 σ H2 _ I2 q2) λ vu s3 ⟨u, H3, I3, pu, q3⟩ => ?_)
 rw [evalPart_none]
 refine wpAny_pure ?_
 have I4 : Inv X pins σ H3 { s3 with heap := s3.heap.push { cls := .type "slice", data := .fields #[vl, vu, .none] } } := I3.kept (t' := s3.toks) λ b ob q => Heap.get?_push_of_some _ q
 obtain ⟨T, id, hT, ht, hg⟩ := hr pins { s3 with heap := s3.heap.push { cls := .type "slice", data := .fields #[vl, vu, .none] } } σ H3 x v vl vu l u s3.heap.objs.size Q I4 r1 (Heap.IsSliceOf.new ..) pl pu q3
 show wpAny (model X.prog X.w) X.A (subscriptTail e (.Slice lo hi none p2) v (.ref s3.heap.objs.size)) (EP X pins σ Q) X.xe { s3 with heap := s3.heap.push { cls := .type "slice", data := .fields #[vl, vu, .none] } }
 exact tail_any (ops := [.ref s3.heap.objs.size, v]) ht hT hg (by with_unfolding_all rfl)
noncomputable def nQ (xs : List V) (lo hi : Option Int) : List V := (xs.drop (HT.sIx xs.length 0 lo)).take (HT.sIx xs.length xs.length hi - HT.sIx xs.length 0 lo)
theorem lH (xs : List V) (lo hi : Option Int) : (nQ xs lo hi).length <= xs.length := by
 unfold nQ
 rw [List.length_take, List.length_drop]
 omega
noncomputable def EW (K : PySem.W.Frag) : V -> Option Int -> Option Int -> Hp -> VK -> Prop := λ x lo hi H Q => ∃ a xs, x = .ref a /\ k9 K H a xs ∧
 ¬ (HT.sIx xs.length 0 lo = 0 /\ HT.sIx xs.length xs.length hi = xs.length) /\ ∀ p, H p = none -> Q (.ref p) (cD H p (.tup (nQ xs lo hi)))
theorem CA : yp X (EW X.K) := by
 intro pins s σ H x v vl vu lo hi sl Q I rx hs pl pu h
 obtain ⟨a, xs, rfl, hx, hw, q⟩ := h
 cases rx
 obtain ⟨its, r, ht, hz⟩ := I.tuple hx
 have hlen : its.toArray.size = xs.length := by rw [List.size_toArray]; exact r.length.symm
 refine ⟨"tuple", _, PyProof.Rows.slot_tuple_getitem.lookup, ht.typeIs, ?_⟩
 refine HT.getItem_tuple_cut ht hs pl pu (by rw [hlen]; exact hw) ?_ (by rw [hlen]; exact hz)
 rw [hlen]
 refine ⟨.ref s.heap.objs.size, _, I.laid (t' := s.toks) (o := .tup (nQ xs lo hi)) (λ b ob q => Heap.get?_push_of_some _ q) (Nat.le_refl _) ?_, rfl, q _ (I.hok.fresh (Nat.le_refl _))⟩
 exact ⟨Nat.le_trans (lH xs lo hi) hz, _, (r.drop (HT.sIx xs.length 0 lo)).take (HT.sIx xs.length xs.length hi - HT.sIx xs.length 0 lo), IsTup.new _ _⟩
end
end L2
namespace L2
open PySem PySem.Spec PyProof.Rows
noncomputable def AN (n : Nat) (i : Int) : Option Nat := if 0 <= i then (if i < n then some i.toNat else none) else if -(n : Int) <= i then some (i + n).toNat else none
noncomputable def lF {α : Type} (xs : List α) (i : Int) : Option α := (AN xs.length i).bind λ j => xs[j]?
theorem zc {n : Nat} {i : Int} {j : Nat} (h : AN n i = some j) : seqIndex? i n = some j /\ j < n /\ -(n : Int) <= i /\ i < n := by
 unfold AN at h
 by_cases h0 : 0 <= i
 ·rw [if_pos h0] at h
  by_cases h1 : i < n
  ·rw [if_pos h1] at h
   have e : i.toNat = j := Option.some.inj h
   exact ⟨by rw [seqIndex_of h0 h1, e], by omega, by omega, h1⟩
  ·rw [if_neg h1] at h; cases h
 ·rw [if_neg h0] at h
  by_cases h1 : -(n : Int) <= i
  ·rw [if_pos h1] at h
   have e : (i + n).toNat = j := Option.some.inj h
   exact ⟨by rw [seqIndex_neg (by omega) h1, e], by omega, h1, by omega⟩
  ·rw [if_neg h1] at h; cases h
theorem pv {α : Type} {xs : List α} {i : Int} {v : α} (h : lF xs i = some v) : ∃ j, seqIndex? i xs.length = some j /\ xs[j]? = some v /\ j < xs.length /\ -(xs.length : Int) <= i /\ i < xs.length := by
 unfold lF at h
 cases e : AN xs.length i with
 | none => rw [e] at h; cases h
 | some j =>
  rw [e] at h
  obtain ⟨h1, h2, h3, h4⟩ := zc e
  exact ⟨j, h1, h, h2, h3, h4⟩
theorem yK {α : Type} {xs : List α} {j : Nat} {v : α} (h : xs[j]? = some v) : lF xs (j : Int) = some v := by
 have hj : j < xs.length := (List.getElem?_eq_some_iff.mp h).1
 have e : AN xs.length (j : Int) = some j := by
  unfold AN
  rw [if_pos (by omega), if_pos (by omega)]; simp
 unfold lF; rw [e]; exact h
noncomputable def pf (b : Expr) : Prop := ∀ o i, subscripted b false o i = operate [o, i] (getItem o i)
noncomputable def yC (X : Cx) (r : R2) : Prop :=
 ∀ (value slice : Expr) (pins : List (Addr × Obj)) (s : Shared) (σ : St) (H : Hp) (x y : V) (v u : Value) (Q : VK), Inv X pins σ H s -> aM x v -> aM y u -> r x y H Q →
  subscripted slice false v u = operate [v, u] (getItem v u) -> wpAny (model X.prog X.w) X.A (subscriptTail value slice v u) (EP X pins σ Q) X.xe s
noncomputable def Ee (X : Cx) (id : String) (r : V -> List V -> Hp -> VK -> Prop) : Prop :=
 ∀ (pins : List (Addr × Obj)) (s : Shared) (σ : St) (H : Hp) (x : V) (xs : List V) (v : Value) (us : List Value) (Q : VK), Inv X pins σ H s -> aM x v -> aU xs us -> r x xs H Q →
  wpAny (model X.prog X.w) X.A (call (.builtin id) (v :: us)) (EP X pins σ Q) X.xe s
section
variable {X : Cx} {a b : Expr} {ta tb : TE} {pos : Pos}
theorem yC.or {r r' : R2} (h : yC X r) (h' : yC X r') : yC X (λ x y H Q => r x y H Q \/ r' x y H Q) := by
 intro value slice pins s σ H x y v u Q I rx ry q hs
 rcases q with q | q
 ·exact h value slice pins s σ H x y v u Q I rx ry q hs
 ·exact h' value slice pins s σ H x y v u Q I rx ry q hs
theorem AX {r : R2} (hr : yC X r) (ha : PE X a ta) (hb : PE X b tb) (hs : pf b) : PE X (.Subscript a b pos) (DY r ta tb) := by
 intro pins s σ H Q I h
 exact Subscript_ (A7 ha hb I h λ v u s2 x y H2 I2 rx ry q => hr a b pins s2 σ H2 x y v u Q I2 rx ry q (hs _ _))
noncomputable def Ct (K : PySem.W.Frag) : R2 := λ x y H Q => ∃ p xs i v, x = .ref p /\ y = .int i /\ cr K H p xs /\ lF xs i = some v /\ Q v H
noncomputable def DN (K : PySem.W.Frag) : R2 := λ x y H Q => ∃ p xs i v, x = .ref p /\ y = .int i /\ k9 K H p xs /\ lF xs i = some v /\ Q v H
noncomputable def DM : R2 := λ x y H Q => ∃ z i c, x = .str z /\ y = .int i /\ z.length <= sizeLine /\ lF z.cps.toList i = some c /\ Q (.str ⟨#[c]⟩) H
theorem uu : yC X (Ct X.K) := by
 intro value slice pins s σ H x y v u Q I rx ry h hs
 obtain ⟨p, xs, i, z, rfl, rfl, hq, he, q⟩ := h
 cases rx
 obtain ⟨t, rfl⟩ := ry
 obtain ⟨its, r, pl, hz⟩ := I.list hq
 obtain ⟨j, h1, h2, h3, h4, h5⟩ := pv he
 obtain ⟨w, ew, rw'⟩ := r.get h2
 have hl := r.length
 have hn := li
 have fin : EP X pins σ Q w s := ⟨z, H, I, rw', q⟩
 by_cases h0 : 0 <= i
 ·have hj : i.toNat = j := by
   rw [seqIndex_of h0 h5] at h1
   exact Option.some.inj h1
  exact item_listR pl.isList h0 (by omega) (by rw [hj]; simpa using ew) fin hs
 ·have hj : (i + (its.toArray.size : Int)).toNat = j := by
   rw [seqIndex_neg (by omega) h4] at h1
   rw [List.size_toArray, <- hl]
   exact Option.some.inj h1
  exact subscriptTail_builtinR (x := w) pl.isList.typeIs slot_list_getitem.lookup
   (wpAny_getItem_list_neg (Q := λ r s' => r = w /\ EP X pins σ Q r s') pl.isList (by omega) (by rw [List.size_toArray] <;> omega) (by omega) (by rw [hj]; simpa using ew) ⟨rfl, fin⟩) hs
theorem Bs : yC X (DN X.K) := by
 intro value slice pins s σ H x y v u Q I rx ry h hs
 obtain ⟨p, xs, i, z, rfl, rfl, hq, he, q⟩ := h
 cases rx
 obtain ⟨t, rfl⟩ := ry
 obtain ⟨its, r, pl, hz⟩ := I.tuple hq
 obtain ⟨j, h1, h2, h3, h4, h5⟩ := pv he
 obtain ⟨w, ew, rw'⟩ := r.get h2
 have hl := r.length
 have hn := li
 have fin : EP X pins σ Q w s := ⟨z, H, I, rw', q⟩
 exact subscriptTail_builtinR (x := w) pl.typeIs slot_tuple_getitem.lookup
  (getItem_tuple (j := j) (Q := λ r s' => r = w /\ EP X pins σ Q r s') pl (by omega) (by omega) (by rw [List.size_toArray, <- hl]; exact h1) (by simpa using ew) ⟨rfl, fin⟩) hs
theorem Br : yC X DM := by
 intro value slice pins s σ H x y v u Q I rx ry h hs
 obtain ⟨z, i, c, rfl, rfl, hz, he, q⟩ := h
 obtain ⟨t, rfl⟩ := rx
 obtain ⟨t', rfl⟩ := ry
 obtain ⟨j, h1, h2, h3, h4, h5⟩ := pv he
 have hl : z.cps.toList.length = z.length := by simp [Str.length]
 rw [hl] at h1 h4 h5
 have hn := li
 exact tail_any (typeIs_str s z t) slot_str_getitem.lookup (getItem_str (c := c) (by
  have e1 : decide (i < -(2 ^ 63 : Int)) = false := decide_eq_false (by omega)
  have e2 : decide (i ≥ 2 ^ 63) = false := decide_eq_false (by omega)
  rw [e1, e2, Bool.or_false]) (by rw [h1]; simpa using h2) ⟨.str ⟨#[c]⟩, H, I.tok _, ⟨_, rfl⟩, q⟩) hs
noncomputable def Fc (K : PySem.W.Frag) : R2 := λ x y H Q => Ct K x y H Q \/ DN K x y H Q \/ DM x y H Q
theorem Bq : yC X (Fc X.K) := uu.or (Bs.or Br)
theorem qm (lo hi : Option Int) (n : Nat) : (sliceBounds lo hi none n).1 = ((HT.sIx n 0 lo : Nat) : Int) /\ (sliceBounds lo hi none n).2.1 = ((HT.sIx n n hi : Nat) : Int) /\ (sliceBounds lo hi none n).2.2 = 1 := by
 refine ⟨?_, ?_, rfl⟩
 ·cases lo with
  | none => simp [sliceBounds, HT.sIx]
  | some i =>
   simp only [sliceBounds, HT.sIx, Option.getD_none, show (1 : Int) > 0 by decide, if_true]
   by_cases h : i < 0
   ·simp only [h, if_true] <;> omega
   ·simp only [h, if_false] <;> omega
 ·cases hi with
  | none => simp [sliceBounds, HT.sIx]
  | some i =>
   simp only [sliceBounds, HT.sIx, Option.getD_none, show (1 : Int) > 0 by decide, if_true]
   by_cases h : i < 0
   ·simp only [h, if_true] <;> omega
   ·simp only [h, if_false] <;> omega
theorem n9 (its : List Value) (lo hi : Option Int) : slicePick its.toArray lo hi none = ((its.drop (HT.sIx its.length 0 lo)).take (HT.sIx its.length its.length hi - HT.sIx its.length 0 lo)).toArray := by
 obtain ⟨h1, h2, h3⟩ := qm lo hi its.toArray.size
 unfold slicePick
 rw [h1, h2, h3]
 simp only [sliceRange_one, pick_run, List.size_toArray] <;> rfl
noncomputable def DP (K : PySem.W.Frag) : V -> Option Int -> Option Int -> Hp -> VK -> Prop := λ x lo hi H Q => ∃ a xs, x = .ref a /\ cr K H a xs /\ ∀ p, H p = none -> Q (.ref p) (cD H p (.lst (nQ xs lo hi)))
theorem Ap : yp X (DP X.K) := by
 intro pins s σ H x v vl vu lo hi sl Q I rx hs pl pu h
 obtain ⟨a, xs, rfl, hx, q⟩ := h
 cases rx
 obtain ⟨its, r, ht, hz⟩ := I.list hx
 have hlen := r.length
 refine ⟨"list", _, slot_list_getitem.lookup, ht.isList.typeIs, ?_⟩
 refine wpAny_getItem_list_slice ht.isList hs pl pu .none (by simp) ?_ (by rw [List.size_toArray] <;> omega)
 rw [n9, <- hlen]
 refine ⟨.ref s.heap.objs.size, _, I.laid (t' := s.toks) (o := .lst (nQ xs lo hi)) (λ b ob q => Heap.get?_push_of_some _ q) (Nat.le_refl _) ?_, rfl, q _ (I.hok.fresh (Nat.le_refl _))⟩
 exact ⟨Nat.le_trans (lH xs lo hi) hz, _, 0, (r.drop (HT.sIx xs.length 0 lo)).take (HT.sIx xs.length xs.length hi - HT.sIx xs.length 0 lo), Heap.get?_push_size _ rfl⟩
noncomputable def dE : V -> Bool
 | .non => true
 | .bl _ => true
 | .int _ => true
 | .str _ => true
 | _ => false
noncomputable def vc : V -> V -> Bool
 | .non, .non => true
 | .bl a, .bl b => a == b
 | .bl a, .int b => (if a then 1 else 0) == b
 | .int a, .bl b => a == (if b then 1 else 0)
 | .int a, .int b => a == b
 | .str a, .str b => a == b
 | _, _ => false
theorem Bk {A : Around} {s : Shared} {y x : V} {u v : Value} (ry : aM y u) (rx : aM x v) (fy : dE y = true) (fx : dE x = true) : SeqAt.EqAt A s u v (vc y x) := by
 cases y with
 | non =>
  cases ry
  cases x with
  | non => cases rx; exact SeqAt.EqAt.same _
  | bl b => cases rx; exact SeqAt.EqAt.none_bool b
  | int b => obtain ⟨t, rfl⟩ := rx; exact SeqAt.EqAt.none_int b t
  | str b => obtain ⟨t, rfl⟩ := rx; exact SeqAt.EqAt.none_str b t
  | _ => exact absurd (show false = true from fx) Bool.false_ne_true
 | bl a =>
  cases ry
  cases x with
  | non => cases rx; exact SeqAt.EqAt.bool_none a
  | bl b => cases rx; exact SeqAt.EqAt.bool_bool a b
  | int b => obtain ⟨t, rfl⟩ := rx; exact SeqAt.EqAt.bool_int a b t
  | str b => obtain ⟨t, rfl⟩ := rx; exact SeqAt.EqAt.bool_str a b t
  | _ => exact absurd (show false = true from fx) Bool.false_ne_true
 | int a =>
  obtain ⟨t', rfl⟩ := ry
  cases x with
  | non => cases rx; exact SeqAt.EqAt.int_none a t'
  | bl b => cases rx; exact SeqAt.EqAt.int_bool a t' b
  | int b => obtain ⟨t, rfl⟩ := rx; exact SeqAt.EqAt.int_int a t' b t
  | str b => obtain ⟨t, rfl⟩ := rx; exact SeqAt.EqAt.int_str a t' b t
  | _ => exact absurd (show false = true from fx) Bool.false_ne_true
 | str a =>
  obtain ⟨t', rfl⟩ := ry
  cases x with
  | non => cases rx; exact SeqAt.EqAt.str_none a t'
  | bl b => cases rx; exact SeqAt.EqAt.str_bool a t' b
  | int b => obtain ⟨t, rfl⟩ := rx; exact SeqAt.EqAt.str_int a t' b t
  | str b => obtain ⟨t, rfl⟩ := rx; exact SeqAt.EqAt.str_str a t' b t
  | _ => exact absurd (show false = true from fx) Bool.false_ne_true
 | _ => exact absurd (show false = true from fy) Bool.false_ne_true
noncomputable def qW (x : V) (u : Value) : Bool := match u with
 | .none => vc .non x
 | .bool b => vc (.bl b) x
 | .int i _ => vc (.int i) x
 | .str z _ => vc (.str z) x
 | _ => false
theorem sP {x y : V} {u : Value} (r : aM y u) (f : dE y = true) : qW x u = vc y x := by
 cases y with
 | non => cases r; rfl
 | bl b => cases r; rfl
 | int i => obtain ⟨t, rfl⟩ := r; rfl
 | str z => obtain ⟨t, rfl⟩ := r; rfl
 | _ => exact absurd (show false = true from f) Bool.false_ne_true
theorem kw {x : V} : ∀ {xs : List V} {us : List Value}, aU xs us -> xs.all dE = true -> us.any (qW x) = xs.any λ y => vc y x
 | _, _, .nil, _ => rfl
 | y :: xs, u :: us, .cons r t, f => by
  rw [List.all_cons, Bool.and_eq_true] at f
  rw [List.any_cons, List.any_cons, sP r f.1, kw t f.2]
theorem hI {A : Around} {s : Shared} {x : V} {v : Value} (rx : aM x v) (fx : dE x = true) : ∀ {xs : List V} {us : List Value}, aU xs us -> xs.all dE = true -> ∀ u ∈ us, SeqAt.EqAt A s u v (qW x u)
 | _, _, .nil, _ => λ u hu => by cases hu
 | y :: xs, u :: us, .cons r t, f => λ u' hu => by
  rw [List.all_cons, Bool.and_eq_true] at f
  rcases List.mem_cons.mp hu with rfl | hu
  ·rw [sP r f.1]; exact Bk r rx f.1 fx
  ·exact hI rx fx t f.2 u' hu
noncomputable def CU (x : V) (xs : List V) : Bool := xs.any λ y => vc y x
noncomputable def EU (K : PySem.W.Frag) (neg : Bool) : R2 := λ x y H Q => ∃ p xs, y = .ref p /\ (cr K H p xs \/ k9 K H p xs) /\ dE x = true /\ xs.all dE = true /\ Q (.bl (if neg then !CU x xs else CU x xs)) H
theorem vz : jU X (compareOp .In) (EU X.K false) := by
 intro pins s σ H x y v u Q I rx ry h
 obtain ⟨p, xs, rfl, hq, fx, fs, q⟩ := h
 cases ry
 rcases hq with hq | hq
 ·obtain ⟨its, r, pl, hz⟩ := I.list hq
  refine SeqAt.in_listAt (qW x) pl.isList (λ w hw => hI rx fx r fs w (by simpa using hw)) ⟨.bl _, H, I, rfl, ?_⟩
  rw [show its.toArray.any (qW x) = its.any (qW x) by simp, kw r fs]
  exact q
 ·obtain ⟨its, r, pl, hz⟩ := I.tuple hq
  refine SeqAt.in_tupleAt (qW x) pl (λ w hw => hI rx fx r fs w (by simpa using hw)) ⟨.bl _, H, I, rfl, ?_⟩
  rw [show its.toArray.any (qW x) = its.any (qW x) by simp, kw r fs]
  exact q
theorem p8 : jU X (compareOp .NotIn) (EU X.K true) := by
 intro pins s σ H x y v u Q I rx ry h
 obtain ⟨p, xs, rfl, hq, fx, fs, q⟩ := h
 cases ry
 rcases hq with hq | hq
 ·obtain ⟨its, r, pl, hz⟩ := I.list hq
  refine SeqAt.notIn_listAt (qW x) pl.isList (λ w hw => hI rx fx r fs w (by simpa using hw)) ⟨.bl _, H, I, rfl, ?_⟩
  rw [show its.toArray.any (qW x) = its.any (qW x) by simp, kw r fs]
  exact q
 ·obtain ⟨its, r, pl, hz⟩ := I.tuple hq
  refine SeqAt.notIn_tupleAt (qW x) pl (λ w hw => hI rx fx r fs w (by simpa using hw)) ⟨.bl _, H, I, rfl, ?_⟩
  rw [show its.toArray.any (qW x) = its.any (qW x) by simp, kw r fs]
  exact q
theorem p9 : jU X (compareOp .NotIn) (λ x y H Q => ∃ i j, x = .str i /\ y = .str j /\ Q (.bl (!(!(Builtin.Str.occurrences j i 0 j.length 1).isEmpty))) H) := by
 intro pins s σ H x y v u Q I rx ry h
 obtain ⟨i, j, rfl, rfl, q⟩ := h
 obtain ⟨t, rfl⟩ := rx
 obtain ⟨t', rfl⟩ := ry
 exact notIn_str ⟨.bl _, H, I, rfl, q⟩
theorem pz : iU X (.builtin "len") (λ xs H Q => ∃ p ys, xs = [.ref p] /\ (cr X.K H p ys \/ k9 X.K H p ys) /\ Q (.int ys.length) H) := by
 intro pins s σ H xs us Q I r h
 obtain ⟨p, ys, rfl, hq, q⟩ := h
 obtain ⟨u, rfl, rx⟩ := so r
 cases rx
 have hn := li
 rcases hq with hq | hq
 ·obtain ⟨its, r', pl, hz⟩ := I.list hq
  have hlen := r'.length
  exact Calls.call_len_list pl.isList (by simp only [List.size_toArray] <;> omega) ⟨.int ys.length, H, I.tok _, ⟨s.toks + 1, by rw [List.size_toArray, hlen]⟩, q⟩
 ·obtain ⟨its, r', pl, hz⟩ := I.tuple hq
  have hlen := r'.length
  exact len_tuple pl (by simp only [List.size_toArray] <;> omega) ⟨.int ys.length, H, I.tok _, ⟨s.toks + 1, by rw [List.size_toArray, hlen]⟩, q⟩
theorem pA : iU X (.builtin "len") (λ xs H Q => ∃ z, xs = [.str z] /\ z.length <= sizeLine /\ Q (.int z.length) H) := by
 intro pins s σ H xs us Q I r h
 obtain ⟨z, rfl, hz, q⟩ := h
 obtain ⟨u, rfl, t, rfl⟩ := so r
 have hn := li
 exact len_str (by omega) ⟨.int z.length, H, I.tok _, ⟨_, rfl⟩, q⟩
noncomputable def Fg (K : PySem.W.Frag) (T : String) (x : V) (H : Hp) : Prop := match x with
 | .str _ => T = "str"
 | .int _ => T = "int"
 | .ref p => (T = "list" /\ ∃ xs, cr K H p xs) \/ (T = "tuple" /\ ∃ o, K.lookup p = some o /\ o.cls = .type "tuple" /\ o.dict = none) ∨
   (T = "dict" /\ ((∃ kvs, H p = some (.dK kvs)) \/ ∃ kvs, H p = some (.dT kvs))) \/ (T = "set" /\ ∃ S n, H p = some (.set S n))
 | _ => False
theorem CD {pins : List (Addr × Obj)} {σ : St} {H : Hp} {s : Shared} {T : String} {x : V} {v : Value} (I : Inv X pins σ H s) (r : aM x v) (ty : Fg X.K T x H) :
  s.TypeIs v T /\ ∀ a, v = .ref a -> ∃ ob, s.heap.get? a = some ob /\ ob.dict = none := by
 cases x with
 | str z =>
  obtain ⟨t, rfl⟩ := r
  cases (show T = "str" from ty)
  exact ⟨typeIs_str s z t, λ _ e => nomatch e⟩
 | int i =>
  obtain ⟨t, rfl⟩ := r
  cases (show T = "int" from ty)
  exact ⟨typeIs_int s i t, λ _ e => nomatch e⟩
 | ref p =>
  cases r
  rcases ty with ⟨rfl, xs, hq⟩ | ⟨rfl, o, hk, hc, hd⟩ | ⟨rfl, hk⟩ | ⟨rfl, S, n, hk⟩
  ·obtain ⟨its, _, pl, _⟩ := I.list hq
   refine ⟨pl.isList.typeIs, λ a e => ?_⟩
   cases e
   obtain ⟨o, n, e, c, hd, _⟩ := pl
   exact ⟨o, e, hd⟩
  ·refine ⟨⟨o, I.kIn p o hk, hc⟩, λ a e => ?_⟩
   cases e
   exact ⟨o, I.kIn _ o hk, hd⟩
  ·have z : ∃ o, s.heap.get? p = some o /\ o.ExactDict := by
    rcases hk with ⟨kvs, hk⟩ | ⟨kvs, hk⟩
    ·obtain ⟨_, _, _, _, o, _, _, e, ex, _⟩ := I.hok p _ hk
     exact ⟨o, e, ex⟩
    ·obtain ⟨_, _, _, _, o, _, _, e, ex, _⟩ := I.hok p _ hk
     exact ⟨o, e, ex⟩
   obtain ⟨o, e, ex⟩ := z
   refine ⟨⟨o, e, ex.1⟩, λ a e2 => ?_⟩
   cases e2
   exact ⟨o, e, ex.2.1⟩
  ·obtain ⟨o, _, _, _, e, ex, _⟩ := I.hok p _ hk
   refine ⟨⟨o, e, ex.1⟩, λ a e2 => ?_⟩
   cases e2
   exact ⟨o, e, ex.2.1⟩
 | _ => exact False.elim ty
noncomputable def Fd (K : PySem.W.Frag) (T : String) (r : V -> List V -> Hp -> VK -> Prop) (to : TE) (t : TA) : TE := λ σ H Q => to σ H λ x H1 => Fg K T x H1 /\ t σ H1 λ xs H2 => r x xs H2 Q
variable {o e : Expr} {es : List Expr} {to : TE} {t : TA} {name : Str} {apos cpos : Pos} {T id : String} {r : V -> List V -> Hp -> VK -> Prop}
theorem oP (pa : PlainAttrs T) (slot : Slot T name id) (hty : typeOf (.builtin id) = pure (.type "method_descriptor")) (hm : Ee X id r) (ho : PE X o to) (ha : PA X (e :: es) t)
  (hbase : attributeBase o name X.env (eval o X.env) = eval o X.env := by rfl)
  (hfew : ((backTo cpos (starEach (e :: es) X.env)).all (λ x => !x.1) && (backToKw cpos (keywordEach [] X.env)).all (λ x => x.1.isSome)
   && decide ((e :: es).length + ([] : List Keyword).length + (if ([] : List Keyword).isEmpty then 0 else 1) < 30)) = true := by rfl)
  (hline : (apos.endLine == cpos.line) = true := by rfl) (hs : starEach (e :: es) X.env = (false, eval e X.env) :: starEach es X.env := by rfl) (hplain : (backTo cpos (starEach es X.env)).any (·.1) = false := by rfl) :
  PE X (.Call (.Attribute o name apos) (e :: es) [] cpos) (Fd X.K T r to t) := by
 intro pins s σ H Q I h
 refine wpAny_Call_method_late hbase hfew hline rfl (bw (ho pins s σ H _ I h) λ v s1 ⟨x, H1, I1, r1, ty, q1⟩ => ?_)
 obtain ⟨h1, h2⟩ := CD I1 r1 ty
 refine ⟨T, id, pa, slot, hty, h1, h2, ?_⟩
 have hA := ha cpos pins s1 σ H1 _ I1 q1
 rw [hs] at hA ⊢
 refine Calls.callWith_builtin (by show (false || (backTo cpos (starEach es X.env)).any (·.1)) = false; rw [hplain] <;> rfl) (Calls.evalArgs_plain ?_)
 exact bw hA λ us s2 ⟨vs, H2, I2, r2, q2⟩ => hm pins s2 σ H2 x vs v us Q I2 r1 r2 q2
end
end L2
namespace L2
open PySem PySem.Spec PyProof.Rows
noncomputable def Fi (X : Cx) (id : String) (r : V -> List V -> Hp -> VK -> Prop) : Prop :=
 ∀ (pins : List (Addr × Obj)) (s : Shared) (σ : St) (H : Hp) (x : V) (xs : List V) (v : Value) (us : List Value) (Q : VK), Inv X pins σ H s -> aM x v -> aU xs us -> r x xs H Q →
  wpAny (model X.prog X.w) X.A (call (.builtin id) (v :: us)) (EP X pins σ Q) X.xe s
theorem aU.one : ∀ {x : V} {us : List Value}, aU [x] us -> ∃ u, us = [u] /\ aM x u
 | _, _, .cons r .nil => ⟨_, rfl, r⟩
section
variable {X : Cx} {pins : List (Addr × Obj)} {σ : St} {H : Hp} {s : Shared} {l b : Addr} {xs ys zs : List V}
theorem Inv.lset {its its' : List Value} {n : Nat} {f : Array Value -> Array Value} {t' : Nat} (I : Inv X pins σ H s) (hH : H l = some (.lst xs))
  (e : s.heap.get? l = some { cls := .type "list", data := .seq its.toArray n }) (hf : f its.toArray = its'.toArray) (hv : aU ys its') (hz : ys.length <= sizeLine) :
  Inv X pins σ (cD H l (.lst ys)) { s with heap := s.heap.update l (Obj.mapSeq f), toks := t' } := by
 have q := PySem.IsL.update e f
 rw [hf] at q
 refine I.write (x := l) (e := l) (by rw [hH]; exact trivial) (.inl rfl) (λ b' u hb hu => (Heap.get?_update_other s.heap (Obj.mapSeq f) (Ne.symm hb)).trans hu) ⟨_, q⟩ ?_
 exact ⟨hz, its', _, hv, q⟩
theorem Inv.lnew {its : List Value} {t' : Nat} (I : Inv X pins σ H s) (hv : aU ys its) (hz : ys.length <= sizeLine) :
  Inv X pins σ (cD H s.heap.objs.size (.lst ys)) { s with heap := s.heap.push { cls := .type "list", data := .seq its.toArray }, toks := t' } :=
 I.laid (λ _ _ q => Heap.get?_push_of_some _ q) (Nat.le_refl _) ⟨hz, its, 0, hv, Heap.get?_push_size _ rfl⟩
theorem Inv.fresh (I : Inv X pins σ H s) : H s.heap.objs.size = none := I.hok.fresh (Nat.le_refl _)
theorem Inv.lstM (I : Inv X pins σ H s) (hH : H l = some (.lst xs)) : xs.length <= sizeLine /\ ∃ (its : List Value) (n : Nat), aU xs its /\ xs.length = its.length /\ s.heap.get? l = some { cls := .type "list", data := .seq its.toArray n } := by
 obtain ⟨z, its, n, r, e⟩ := I.hok l _ hH
 exact ⟨z, its, n, r, r.length, e⟩
end
section
variable {X : Cx}
noncomputable def uM : V -> List V -> Hp -> VK -> Prop := λ x vs H Q => ∃ l xs y, x = .ref l /\ vs = [y] /\ H l = some (.lst xs) /\ xs.length < sizeLine /\ Q .non (cD H l (.lst (xs ++ [y])))
theorem jz : Fi X "list.append" uM := by
 intro pins s σ H x vs v us Q I rx rv h
 obtain ⟨l, xs, y, rfl, rfl, hH, hz, q⟩ := h
 cases rx
 obtain ⟨u, rfl, ru⟩ := rv.one
 obtain ⟨z, its, n, r, hl, e⟩ := I.lstM hH
 refine call_meets F.slot_list_append ⟨_, e, rfl⟩ F.entry_list_append (F.args_list_append_2 _ _) (PySem.list_append l its.toArray n u (by rw [List.size_toArray]; omega)) ⟨e, ?_⟩
 refine ⟨.non, _, I.lset (its' := its ++ [u]) hH e (by simp) (r.append (.cons ru .nil)) ?_, rfl, q⟩
 rw [List.length_append, List.length_singleton]
 omega
end
section
variable {prog : Program} {w : World} {A : Around} {E : Value -> Shared -> Prop} {s : Shared}
end
section
variable {X : Cx}
end
end L2
namespace Att
open PySem PySem.W PySem.Calls PyProof.Rows
theorem lS {P : Params} {h : Heap} : ∀ (ns : List Int) (vs : List Value), WellAll P h vs (ns.map WData.int) -> IntsAre vs ns := by
 intro ns
 induction ns with
 | nil =>
  intro vs w
  rw [List.map_nil] at w
  cases w
  exact .nil
 | cons n ns ih =>
  intro vs w
  rw [List.map_cons] at w
  cases w with
  | cons a b =>
   cases a
   exact .cons _ _ (ih _ b)
theorem vU {l : OpenLaw} {n : Nat} (hn : l.most = some n) {P : Params} {h : Heap} {args : List WData} {vals : List Value}
  (hpre : l.row.toRowW.claim.pre args = true) (hwl : WellAll P h vals args) :
  ∃ a vs ns, vals = [Value.ref a] /\ args = [WData.list (ns.map WData.int)] /\ h.get? a = some { cls := .type "list", data := .seq vs.toArray } /\ IntsAre vs ns /\ ns.length <= n := by
 have hsh : WShape.hasAll [] args [.list .int] = true := (pre_splitW hpre).1
 have hc : l.pre.holds [] { args := args } = true := (pre_splitW hpre).2
 obtain ⟨d, r, rfl, h1, h2⟩ := hasAllW_cons hsh
 obtain rfl := hasAllW_nil h2
 obtain ⟨xs, rfl, h3⟩ := hasW_list h1
 obtain ⟨ns, rfl⟩ := items_int h3
 have hlen : ns.length <= n := by
  unfold OpenLaw.pre at hc
  have h4 : (WTm.not (.lt (.lit (.int (n : Int))) (.len (.arg 0)))).holds [] { args := [.list (ns.map .int)] } = true := by
   have h4 := (holds_andW hc).1
   rw [hn] at h4
   exact h4
  have h5 := condW_of h4 (w_not (w_lt w_lit (w_len_list (w_arg rfl))))
  rw [List.length_map] at h5
  refine Nat.le_of_not_lt λ q => ?_
  have q' : (n : Int) < ((ns.length : Nat) : Int) := by omega
  first
   | (rw [decide_eq_true q'] at h5; exact absurd h5 (by decide))
   | (simp at h5; omega)
 cases hwl with
 | cons w1 w2 =>
  cases w2
  cases w1 with
  | list ho hall => exact ⟨_, _, ns, rfl, rfl, ho, lS ns _ hall, hlen⟩
theorem vJ (l : OpenLaw) (args : List WData) : l.row.toRowW.claim.post args (.bool true) args = true :=
 postW_of (r := l.row.toRowW) (X := (true == true))
  (show WShape.has [] (.bool true) .bool = true by first | rfl | decide | simp [WShape.has, WShape.arms, WShape.armsAll])
  (show (WTm.eq .res (.lit (.bool true))).value [] { args := args, res := some (.bool true), after := args } = some (.bool (true == true)) from w_eq_bool (w_res rfl) w_lit) rfl
theorem attach_call {l : OpenLaw} {n : Nat} {q : Program} {loose : List Str} {XP : (Str -> Option Value) -> Heap -> Prop} {YP : World -> Heap -> Prop} {d : DefRec}
  (hn : l.most = some n) (hdf : d.params.defaults = [])
  (call : ∀ (w : World) (s₀ s₁ : Shared) (mg mb : Str -> Option Value) (fa : Addr) (o : Obj) (pm cd doc : Value) (a : Addr) (vs : List Value) (ns : List Int),
   Ground q loose [] XP w s₀ mg mb s₁.heap -> YP w s₁.heap →
   s₁.heap.get? fa = some o -> o.data = .func (docDef d.name d.params d.body d.scope pm cd doc) -> s₁.heap.CodeRec cd d.name -> mg d.name = some (.ref fa) →
   s₁.heap.get? a = some { cls := .type "list", data := .seq vs.toArray } -> IntsAre vs ns -> ns.length <= n -> s₁.gens = #[] →
   codeAny (model l.prog w) callerA (.call (.ref fa) ⟨[.ref a], []⟩) (λ r s' => r = .ok (.ret (.bool true)) /\ OldK s₁.heap s'.heap /\ s'.os = s₁.os /\ AllBare s'.gens) s₁) :
  WalkO q loose XP YP l.row.toRowW d [] (λ f vs => PySem.call f vs) := by
 intro w s₀ s₁ mg mb G Y fa o pm cd doc dV kV ho hd hcd hD hmg hg args vals as hpre hlay hrd hwl hlo
 obtain rfl : dV = .none := Dflts.none hD hdf
 obtain rfl : kV = .none := Dflts.noKw hD
 obtain ⟨a, vs, ns, rfl, rfl, hobj, hints, hlen⟩ := vU hn hpre hwl
 refine enter_call (codeAny_mono (call w s₀ s₁ mg mb fa o pm cd doc a vs ns G Y ho (fd_plain hd) hcd hmg hobj hints hlen hg) λ r s' hq => ?_)
 obtain ⟨rfl, h2, h3, h4⟩ := hq
 exact ⟨.inl ⟨.bool true, .bool true, [], rfl, λ _ => rfl, .bool true, vJ l _, λ _ => ⟨List.Pairwise.nil, λ _ hm => (nomatch hm)⟩⟩, h2, h3, h4⟩
section
variable {prog : Program} {w : World} {A : Around} {E : Value -> Shared -> Prop} {s : Shared} {K : Frag}
end
end Att
namespace L2
open PySem PySem.Spec PyProof.Rows
theorem oZ : ∀ {vs : List Value} {ns : List Int}, IntsAre vs ns -> aU (ns.map V.int) vs
 | _, _, .nil => .nil
 | _, _, .cons n t h => .cons ⟨t, rfl⟩ (oZ h)
noncomputable def A3 (H : Hp) : Prop := ∀ b, H b = none \/ ∃ o xs, H b = some (.frz o (.lst xs))
theorem wM {P : Program} {w : World} {K : PySem.W.Frag} {mg mb : Str -> Option Value} {CX : v4} {k : Nat} {fa a : Addr} {fd : FuncData} {x : Str} {sp : Sp} {s₁ : Shared} {vs : List Value} {ns : List Int}
  (KX : K.In s₁.heap) (hns : s₁.heap.Ns mainGlobals mg) (hb : s₁.heap.Ns builtinsNs mb) (hbb : ∀ x : Str, x ≠ "__name__" -> mb x = bootBuiltins x) (hlim : s₁.heap.NoLimit) (hg : s₁.gens = #[])
  (ha : s₁.heap.get? a = some { cls := .type "list", data := .seq vs.toArray }) (hi : IntsAre vs ns) (hl : ns.length <= sizeLine) (hr : Room k callerA)
  (F : ∀ base : Heap, K.In base -> base.Ns mainGlobals mg -> FnOk P w K mg base CX k fa fd [x] sp) (hbind : ∀ (s : Shared) (u : Value), BindsTo s fd ⟨[u], []⟩ [(x, u)])
  (hsp : ∀ H : Hp, A3 H -> cr K H a (ns.map V.int) -> sp [.ref a] H (λ v _ => v = .bl true) λ _ _ _ => False)
  (hCX : ∀ H e s', CX [] H s₁ (λ _ _ _ => False) e s' -> False) :
  codeAny (model P w) callerA (.call (.ref fa) ⟨[.ref a], []⟩) (λ r s' => r = .ok (.ret (.bool true)) /\ OldK s₁.heap s'.heap /\ s'.os = s₁.os /\ AllBare s'.gens) s₁ := by
 have rv := oZ hi
 have lenV := hi.length
 have core : ∀ H : Hp, A3 H -> cr K H a (ns.map V.int) -> kg P w H s₁.heap -> (∀ b, H b ≠ none -> b = a) -> (H a ≠ none -> K.lookup a = none) →
   codeAny (model P w) callerA (.call (.ref fa) ⟨[.ref a], []⟩) (λ r s' => r = .ok (.ret (.bool true)) /\ OldK s₁.heap s'.heap /\ s'.os = s₁.os /\ AllBare s'.gens) s₁ := by
  intro H hO hS hok hA hK
  have base_of : ∀ {b : Addr} {o : Obj}, s₁.heap.get? b = some o -> H b = none -> (pM s₁.heap H).get? b = some o := λ e n => wG e n
  have noA : ∀ {b : Addr} {o : Obj} {es : Array DictEntry} {ep : Nat}, s₁.heap.get? b = some o -> o.data = .dict es ep -> H b = none := λ {b o es ep} e d => by
   cases q : H b with
   | none => rfl
   | some u =>
    have e' : b = a := hA b (by rw [q]; simp)
    subst e'
    rw [ha] at e; cases e
    have d' : Data.seq vs.toArray _ = Data.dict es ep := d
    cases d'
  have nsK : ∀ {b : Addr} {m : Str -> Option Value}, s₁.heap.Ns b m -> (pM s₁.heap H).Ns b m := λ {b m} ⟨o, es, ep, e, d, r⟩ => ⟨o, es, ep, base_of e (noA e d), d, r⟩
  have hKb : K.In (pM s₁.heap H) := λ b o e => base_of (KX b o e) (by
   cases q : H b with
   | none => rfl
   | some u =>
    have e' : b = a := hA b (by rw [q]; simp)
    subst e'
    rw [hK (by rw [q]; simp)] at e; cases e)
  have hM : Mod K mg (pM s₁.heap H) := ⟨hKb, nsK hns, ⟨mb, nsK hb, hbb⟩, let ⟨mc, h1, h2⟩ := hlim; ⟨mc, nsK h1, h2⟩⟩
  have e0 : Env0 P w K mg (pM s₁.heap H) callerA [] s₁ H := ⟨rfl, hM, λ b o e => zl e, Nat.le_of_eq (vg _ _), trivial, λ b hb => absurd (show b ∈ ([] : List Addr) from hb) (by simp), hok, .of_eq hg⟩
  refine codeAny_mono ((F _ hKb (nsK hns)).run callerA [] s₁ H ⟨[.ref a], []⟩ [.ref a] [.ref a] _ _ hr e0 (hbind s₁ (.ref a)) (.cons rfl .nil) (hsp H hO hS)) λ r s' h => ?_
  cases r with
  | error e => exact (hCX H e s' h).elim
  | ok fl =>
   cases fl with
   | next => exact False.elim h
   | brk => exact False.elim h
   | cont => exact False.elim h
   | ret u =>
    obtain ⟨v, H', os, bare, un, hok', r', q⟩ := h
    have q' : v = .bl true := q
    subst q'
    obtain rfl : u = Value.bool true := r'
    refine ⟨rfl, OldK.of_keep λ b o e => ?_, os, bare⟩
    cases q : H b with
    | none => exact un.keep b o e q (by intro z; exact absurd (show b ∈ ([] : List Addr) from z) (by simp)) (by simp)
    | some u =>
     rcases hO b with z | ⟨ob, xs, z⟩
     ·rw [q] at z; cases z
     ·have z2 := un.frzs b ob _ z
      obtain ⟨e1, _⟩ := hok b _ z
      obtain ⟨e2, _⟩ := hok' b _ z2
      rw [e] at e1; cases e1
      exact e2
 cases hk : K.lookup a with
 | some o =>
  have e := KX a o hk
  rw [ha] at e
  cases e
  refine core (λ _ => none) (λ _ => .inl rfl) (.inr ⟨_, vs.toArray, _, hk, rfl, ⟨rfl, rfl⟩, rfl, by rw [List.size_toArray, lenV]; exact hl, by simpa using rv⟩) (λ b u z => by have z' : (none : Option HO) = some u := z; cases z') (λ b z => absurd rfl z) λ z => absurd rfl z
 | none =>
  refine core (λ b => if b = a then some (.frz { cls := .type "list", data := .seq vs.toArray } (.lst (ns.map V.int))) else none) (λ b => ?_) (.inl (.inr ⟨{ cls := .type "list", data := .seq vs.toArray }, if_pos rfl⟩)) (λ b u z => ?_) (λ b z => ?_) λ _ => hk
  ·by_cases hb : b = a
   ·exact .inr ⟨_, _, if_pos hb⟩
   ·exact .inl (if_neg hb)
  ·by_cases hb : b = a
   ·have z' := (if_pos hb).symm.trans z
    cases z'
    subst hb
    exact ⟨ha, by rw [List.length_map]; exact hl, vs, _, rv, ha⟩
   ·have z' := (if_neg hb).symm.trans z
    cases z'
  ·by_cases hb : b = a
   ·exact hb
   ·exact absurd (if_neg hb) z
end L2
namespace L2
open PySem PySem.Spec PyProof.Rows
theorem Ay {l : PySem.W.OpenLaw} {n k : Nat} {q : Program} {loose : List Str} {XP : (Str -> Option Value) -> Heap -> Prop} {YP : World -> Heap -> Prop} {d : DefRec} {K : Params -> PySem.W.Frag} {CX : World -> v4} {sp : World -> Sp} {x : Str}
  (hn : l.most = some n) (hn2 : n <= sizeLine) (hdf : d.params.defaults = []) (hr : Room k callerA)
  (hY : ∀ (w : World) (h : Heap), YP w h -> (K w.params).In h)
  (F : ∀ (w : World) (mg : Str -> Option Value) (fa : Addr) (h : Heap), (K w.params).In h -> h.Ns mainGlobals mg -> mg d.name = some (.ref fa) →
   ∃ fd : FuncData, (∀ (s : Shared) (u : Value), BindsTo s fd ⟨[u], []⟩ [(x, u)]) ∧
    ∀ base : Heap, (K w.params).In base -> base.Ns mainGlobals mg -> FnOk l.prog w (K w.params) mg base (CX w) k fa fd [x] (sp w))
  (hsp : ∀ (w : World) (H : Hp) (a : Addr) (ns : List Int), ns.length <= n -> A3 H -> cr (K w.params) H a (ns.map V.int) -> sp w [.ref a] H (λ v _ => v = .bl true) λ _ _ _ => False)
  (hCX : ∀ (w : World) (H : Hp) (s : Shared) (e : Value) (s' : Shared), CX w [] H s (λ _ _ _ => False) e s' -> False) :
  PySem.W.WalkO q loose XP YP l.row.toRowW d [] (λ f vs => PySem.call f vs) := by
 refine Att.attach_call hn hdf λ w s₀ s₁ mg mb fa o pm cd doc a vs ns G Y ho hd hcd hmg hobj hints hlen hg => ?_
 have KX := hY w _ Y
 obtain ⟨fd, hb, hF⟩ := F w mg fa _ KX G.T.g hmg
 exact wM KX G.T.g G.T.b G.T.builtins G.T.nolimit hg hobj hints (Nat.le_trans hlen hn2) hr hF hb (λ H hO hS => hsp w H a ns hlen hO hS) λ H e s' => hCX w H s₁ e s'
end L2
namespace L2
open PySem PySem.Spec PyProof.Rows
noncomputable def cg (s : Stmt) : Arguments := match s with
 | .FunctionDef _ a _ _ _ _ _ _ _ _ => a
 | _ => { posonlyargs := [], args := [], vararg := none, kwonlyargs := [], kw_defaults := [], kwarg := none, defaults := [] }
noncomputable def aw (s : Stmt) : List Stmt := match s with
 | .FunctionDef _ _ b _ _ _ _ _ _ _ => b
 | _ => []
noncomputable def aj (s : Stmt) : Scope := match s with
 | .FunctionDef _ _ _ _ _ _ sc _ _ _ => sc
 | _ => { kind := .function, names := [], isGenerator := false, isCoroutine := false }
structure Fun (K : PySem.W.Frag) (x qual : Str) (st : Stmt) (f : Addr) (fd : FuncData) : Prop where
 ex : ∃ (oc : Value) (od : Option Addr) (kV doc pm : Value) (an : Option Addr) (cdv ct : Value) (osl : Array (Option Value)),
  fd = PySem.W.fnOf x qual (cg st) (aw st) (aj st) .none kV doc pm an cdv ct /\ K.lookup f = some ⟨oc, od, .func fd, osl⟩ /\ PySem.W.codeIn K cdv qual = true
 kp : PySem.W.keepIn K (.ref f) = true
section
variable {P : Program} {w : World} {K : PySem.W.Frag} {mg : Str -> Option Value} {base : Heap}
theorem Fun.binds {x qual : Str} {st : Stmt} {f : Addr} {fd : FuncData} {ps : List Str} (F : Fun K x qual st f fd)
  (h : ∀ (kV doc pm : Value) (an : Option Addr) (cdv ct : Value) (us : List Value), us.length = ps.length -> bindArgs (PySem.W.fnOf x qual (cg st) (aw st) (aj st) .none kV doc pm an cdv ct) ⟨us, []⟩ = pure (ps.zip us)) : ke K fd ps [] := by
 obtain ⟨oc, od, kV, doc, pm, an, cdv, ct, osl, rfl, lk, hcd⟩ := F.ex
 exact .all (h kV doc pm an cdv ct)
theorem mQ {x qual : Str} {st : Stmt} {f : Addr} {oc : Value} {od an : Option Addr} {osl : Array (Option Value)} {kV doc pm cdv ct : Value} (l : K.lookup f = some ⟨oc, od, .func (PySem.W.fnOf x qual (cg st) (aw st) (aj st) .none kV doc pm an cdv ct), osl⟩)
  (c : PySem.W.codeIn K cdv qual = true) (k : PySem.W.keepIn K (.ref f) = true) : Fun K x qual st f (PySem.W.fnOf x qual (cg st) (aw st) (aj st) .none kV doc pm an cdv ct) := ⟨⟨oc, od, kV, doc, pm, an, cdv, ct, osl, rfl, l, c⟩, k⟩
end
section
variable {X : Cx}
end
noncomputable def br (H H' : Hp) : Prop := ∀ b o, H b = some o -> H' b = some o
theorem br.refl (H : Hp) : br H H := λ _ _ h => h
theorem br.trans {H H1 H2 : Hp} (a : br H H1) (b : br H1 H2) : br H H2 := λ c o h => b c o (a c o h)
theorem br.free {H H' : Hp} (e : br H H') {l : Addr} (h : H' l = Option.none) : H l = Option.none := by
 cases q : H l with
 | none => rfl
 | some o =>
  rw [e l o q] at h
  cases h
theorem br.seq {K : PySem.W.Frag} {H H' : Hp} {a : Addr} {xs : List V} (e : br H H') (h : cr K H a xs) : cr K H' a xs := by
 rcases h with (h | ⟨o, h⟩) | h
 ·exact .inl (.inl (e _ _ h))
 ·exact .inl (.inr ⟨o, e _ _ h⟩)
 ·exact .inr h
end L2
namespace L2
open PySem PySem.Spec PyProof.Rows
section
variable {κ : Type} [DecidableEq κ]
noncomputable def iT (kvs : List (κ × V)) (k : κ) : Option V := (kvs.find? λ kv => decide (kv.1 = k)).map (·.2)
noncomputable def nn (kvs : List (κ × V)) (k : κ) (v : V) : List (κ × V) :=
 if (kvs.any λ kv => decide (kv.1 = k)) = true then kvs.map (λ kv => if kv.1 = k then (kv.1, v) else kv) else kvs ++ [(k, v)]
theorem ec {p : κ × V} {r : List (κ × V)} {k : κ} (e : p.1 = k) : iT (p :: r) k = some p.2 := by simp [iT, List.find?_cons, e]
theorem d9 {p : κ × V} {r : List (κ × V)} {k : κ} (e : ¬ p.1 = k) : iT (p :: r) k = iT r k := by simp [iT, List.find?_cons, e]
theorem sk (k : κ) : ∀ kvs : List (κ × V), (kvs.any λ kv => decide (kv.1 = k)) = (iT kvs k).isSome
 | [] => rfl
 | p :: r => by
  rw [List.any_cons]
  by_cases e : p.1 = k
  ·simp only [ec e, decide_eq_true e, Bool.true_or, Option.isSome_some]
  ·rw [d9 e, decide_eq_false e, Bool.false_or]; exact sk k r
theorem oY (k j : κ) (y : V) : ∀ kvs : List (κ × V), iT kvs k = none -> iT (kvs ++ [(k, y)]) j = if j = k then some y else iT kvs j
 | [], _ => by
  by_cases e : k = j
  ·rw [if_pos e.symm]; exact ec (p := (k, y)) e
  ·rw [if_neg (λ z => e z.symm)]; exact d9 (p := (k, y)) e
 | p :: r, hn => by
  rw [List.cons_append]
  have hk : ¬ p.1 = k := λ z => by rw [ec z] at hn; cases hn
  rw [d9 hk] at hn
  have ih := oY k j y r hn
  by_cases e : p.1 = j
  ·rw [ec e, ec e, if_neg (λ z => hk (e.trans z))]
  ·rw [d9 e, d9 e, ih]
theorem rg (kvs : List (κ × V)) (k : κ) (v : V) : (nn kvs k v).length <= kvs.length + 1 := by
 unfold nn
 split
 ·rw [List.length_map]; omega
 ·rw [List.length_append, List.length_cons, List.length_nil]; omega
theorem xF {kvs : List (κ × V)} {k : κ} (v : V) (h : iT kvs k = none) : nn kvs k v = kvs ++ [(k, v)] := by
 unfold nn
 rw [sk, h]
 exact if_neg (by decide)
theorem KV.val {kvs : List (κ × V)} {vs : List (κ × Value)} (r : KV kvs vs) (k : κ) : qz (iT kvs k) (valueAt vs k) := by
 unfold KV at r
 induction r with
 | nil => exact True.intro
 | @cons p q ps qs h t ih =>
  obtain ⟨h1, h2⟩ := h
  by_cases e : p.1 = k
  ·have e' : q.1 = k := h1.symm.trans e
   have b : valueAt (q :: qs) k = some q.2 := by simp [valueAt, List.find?_cons, e']
   rw [ec e, b]; exact h2
  ·have e' : ¬ q.1 = k := λ z => e (h1.trans z)
   have b : valueAt (q :: qs) k = valueAt qs k := by simp [valueAt, List.find?_cons, e']
   rw [d9 e, b]; exact ih
theorem KV.any {kvs : List (κ × V)} {vs : List (κ × Value)} (r : KV kvs vs) (k : κ) : (kvs.any λ kv => decide (kv.1 = k)) = vs.any λ kv => decide (kv.1 = k) := by
 unfold KV at r
 induction r with
 | nil => rfl
 | cons h t ih => rw [List.any_cons, List.any_cons, ih, h.1]
theorem KV.repl {kvs : List (κ × V)} {vs : List (κ × Value)} (r : KV kvs vs) (k : κ) {y : V} {u : Value} (ry : aM y u) :
  KV (kvs.map λ kv => if kv.1 = k then (kv.1, y) else kv) (vs.map λ kv => if kv.1 = k then (kv.1, u) else kv) := by
 unfold KV at r ⊢
 induction r with
 | nil => exact .nil
 | @cons p q ps qs h t ih =>
  rw [List.map_cons, List.map_cons]
  refine .cons ?_ ih
  obtain ⟨h1, h2⟩ := h
  by_cases e : p.1 = k
  ·rw [if_pos e, if_pos (h1.symm.trans e)]; exact ⟨h1, ry⟩
  ·rw [if_neg e, if_neg (λ z => e (h1.trans z))]; exact ⟨h1, h2⟩
theorem KV.put {kvs : List (κ × V)} {vs : List (κ × Value)} (r : KV kvs vs) (k : κ) {y : V} {u : Value} (ry : aM y u) : KV (nn kvs k y) (stored vs k u) := by
 unfold nn stored
 rw [r.any k]
 by_cases e : (vs.any λ kv => decide (kv.1 = k)) = true
 ·rw [if_pos e, if_pos e]; exact r.repl k ry
 ·rw [if_neg e, if_neg e]; exact Paired.snoc r ⟨rfl, ry⟩
end
theorem wJ {P : Program} {w : World} {k : dB} {u : Value} (r : aM (kV k) u) : (b0 P w).is k u = true := by
 cases k with
 | inl i => obtain ⟨t, e⟩ := (show ∃ t, u = Value.int i t from r); subst e; exact rn P w i t
 | inr x => obtain ⟨t, e⟩ := (show ∃ t, u = Value.str x t from r); subst e; exact ro P w x t
theorem oA {P : Program} {w : World} : ∀ {ks : List dB} {us : List Value}, aU (ks.map kV) us -> ItemsAre (b0 P w) ks us
 | [], _, r => by rw [List.map_nil] at r; cases r; exact .nil
 | k :: ks, _, r => by
  rw [List.map_cons] at r
  cases r with
  | cons h t => exact .cons (wJ h) (oA t)
noncomputable abbrev KT (H : Hp) : List (List dB × V) -> List (List dB × Addr × Value) -> Prop := Paired λ p q => p.1 = q.1 /\ H q.2.1 = some (.tup (p.1.map kV)) /\ aM p.2 q.2.2
theorem KT.val {H : Hp} {kvs : List (List dB × V)} {xs : List (List dB × Addr × Value)} (r : KT H kvs xs) (k : List dB) : qz (iT kvs k) ((atKey xs k).map (·.2)) := by
 induction r with
 | nil => exact True.intro
 | @cons p q ps qs h t ih =>
  obtain ⟨h1, _, h2⟩ := h
  by_cases e : p.1 = k
  ·have e' : q.1 = k := h1.symm.trans e
   have b : atKey (q :: qs) k = some q.2 := by simp [atKey, List.find?_cons, e']
   rw [ec e, b]; exact h2
  ·have e' : ¬ q.1 = k := λ z => e (h1.trans z)
   have b : atKey (q :: qs) k = atKey qs k := by simp [atKey, List.find?_cons, e']
   rw [d9 e, b]; exact ih
section
variable {P : Program} {w : World} {H : Hp} {h : Heap} {a : Addr}
theorem A0 {u : HO} (ok : kg P w H h) (e : Rd H a u) : cP P w H h a u := e.ok ok
theorem wq {kvs : List (dB × V)} (ok : kg P w H h) (e : Rd H a (.dK kvs)) : kvs.length <= sizeLine /\ (a == sysModules) = false /\ ∃ vs, KV kvs vs /\ h.DictOf (b0 P w) a vs :=
 show cP P w H h a (.dK kvs) from A0 ok e
theorem Db {kvs : List (dB × V)} (ok : kg P w H h) (e : H a = some (.dK kvs)) : kvs.length <= sizeLine /\ (a == sysModules) = false /\ ∃ vs, KV kvs vs /\ h.DictOf (b0 P w) a vs := wq ok (.inl e)
theorem wL {ks : List dB} (ok : kg P w H h) (e : H a = some (.tup (ks.map kV))) : (tupleKind (b0 P w)).is h ks a := by
 obtain ⟨_, its, r, o, h1, h2, n, h3⟩ := (show cP P w H h a (.tup (ks.map kV)) from ok a _ e)
 exact ⟨o, its.toArray, n, h1, h2, h3, by simpa using oA r⟩
theorem AH {kvs : List (List dB × V)} (ok : kg P w H h) (e : Rd H a (.dT kvs)) : kvs.length <= sizeLine /\ (a == sysModules) = false ∧
  ∃ xs, KT H kvs xs /\ h.DictOfH (tupleKind (b0 P w)) a xs := by
 obtain ⟨z, y, xs, r, o, es, ep, h1, h2, h3, h4, h5⟩ := (show cP P w H h a (.dT kvs) from A0 ok e)
 refine ⟨z, y, xs, r, o, es, ep, h1, h2, h3, h4, λ x hx => ?_, h5⟩
 have all : ∀ {l : List (List dB × V)} {m : List (List dB × Addr × Value)}, KT H l m -> ∀ x ∈ m, (tupleKind (b0 P w)).is h x.1 x.2.1 := by
  intro l m q
  induction q with
  | nil => intro x hx; exact nomatch hx
  | @cons p q ps qs hq t ih =>
   intro x hx
   rcases List.mem_cons.mp hx with e | hx
   ·subst e
    exact wL ok (by rw [<- hq.1]; exact hq.2.1)
   ·exact ih x hx
 exact all r x hx
end
noncomputable def uQ (H : Hp) (a : Addr) (y : V) (r : Option V) : Prop :=
 (∃ kvs k, Rd H a (.dK kvs) /\ y = kV k /\ r = iT kvs k) \/ ∃ kvs k b, Rd H a (.dT kvs) /\ y = .ref b /\ H b = some (.tup (k.map kV)) /\ r = iT kvs k
theorem uQ.k {H : Hp} {a : Addr} {kvs : List (dB × V)} {k : dB} (e : H a = some (.dK kvs)) : uQ H a (kV k) (iT kvs k) := .inl ⟨kvs, k, .inl e, rfl, rfl⟩
section
variable {X : Cx} {pins : List (Addr × Obj)} {σ : St} {H : Hp} {s : Shared} {a : Addr} {y v : V} {u r : Value} {o : Option V} {A : Around} {E : Value -> Shared -> Prop}
theorem Inv.big (I : Inv X pins σ H s) : sysModules < s.heap.objs.size := by
 have h : mainGlobals < s.heap.objs.size := (I.mod.glob.keeps I.bk).lt
 exact Nat.lt_trans (by decide) h
theorem u6 {Q : Value -> Shared -> Prop} (hu : A.units + 1 < cLine) (I : Inv X pins σ H s) (g : uQ H a y (some v)) (ry : aM y u) (h : ∀ w' s', Inv X pins σ H s' -> aM v w' -> Q w' s') :
  wpAny (model X.prog X.w) A (getItem (.ref a) u) Q E s := by
 rcases g with ⟨kvs, k, e, ey, l⟩ | ⟨kvs, k, b, e, ey, eb, l⟩
 ·subst ey
  obtain ⟨z, hd, vs, rel, dd⟩ := wq I.hok e
  obtain ⟨w', hw, rw'⟩ := qz.some_of (v := v) (o := valueAt vs k) (by rw [l]; exact rel.val k)
  exact wpAny_getItem_of (wJ ry) dd.mapOf hw (h w' _ (I.tok _) rw')
 ·subst ey
  cases (show u = Value.ref b from ry)
  obtain ⟨z, hd, xs, rel, dd⟩ := AH I.hok e
  obtain ⟨w', hw, rw'⟩ := qz.some_of (v := v) (o := (atKey xs k).map (·.2)) (by rw [l]; exact rel.val k)
  obtain ⟨p, hp, hp2⟩ := Option.map_eq_some_iff.mp hw
  refine wpAny_getItem_heap (tupleKind_room_in1 hu) (wL I.hok eb) dd hp ?_
  rw [hp2]
  exact h w' _ (I.tok _) rw'
theorem yP {h' : Heap} {t' : Nat} {ob : HO} (I : Inv X pins σ H s) (mu : CZ (H a)) (hs : Heap.SameBut a s.heap h') (he : ∃ q, h'.get? a = some q) (new : cP X.prog X.w (cD H a ob) h' a ob) :
  Inv X pins σ (cD H a ob) { s with heap := h', toks := t' } :=
 I.write (x := a) (e := a) mu (.inl rfl) (λ b q hb z => (hs.2 b hb).trans z) he new
theorem Bb {P : Program} {w : World} {H' : Hp} {h' : Heap} {kvs : List (dB × V)} {vs : List (dB × Value)} (z : kvs.length <= sizeLine) (hd : (a == sysModules) = false) (rel : KV kvs vs) (dd : h'.DictOf (b0 P w) a vs) :
  cP P w H' h' a (.dK kvs) := ⟨z, hd, vs, rel, dd⟩
end
section
variable {X : Cx} {pins : List (Addr × Obj)} {σ : St} {H : Hp} {s : Shared} {a : Addr} {kvs : List (dB × V)} {k : dB} {u : Value} {A : Around} {E : Value -> Shared -> Prop}
end
noncomputable def C0 (i : Expr) : Prop := ∀ ov iv, subscripted i false ov iv = operate [ov, iv] (getItem ov iv)
theorem As {prog : Program} {w : World} {A : Around} {E : Value -> Shared -> Prop} {s : Shared} {env : Env} {value slice : Expr} {pos : Pos} {T id : String} {Q : Value -> Shared -> Prop}
  (hl : typeLookup (.type T) "__getitem__" = pure (some (.builtin id))) (hs : C0 slice)
  (h : wpAny (model prog w) A (eval value env) (λ o s₁ => wpAny (model prog w) A (eval slice env) (λ i s₂ => s₂.TypeIs o T /\ wpAny (model prog w) A (getItem o i) Q E s₂) E s₁) E s) :
  wpAny (model prog w) A (eval (.Subscript value slice pos) env) Q E s := by
 refine Subscript_ (wpAny_mono h (λ o s₁ h₁ => wpAny_mono h₁ (λ i s₂ h₂ => ?_) λ _ _ x => x) λ _ _ x => x)
 obtain ⟨hT, h₂⟩ := h₂
 unfold subscriptTail
 refine wpAny_bind ?_
 rw [getitemInPython_of_ne hT.not_modules]
 refine wpAny_bind (wpAny_specialOf hT hl ?_)
 have fin : wpAny (model prog w) A (subscripted slice false o i) (λ r s₃ => wpAny (model prog w) A (letTemporaryGo value o r >>= λ _ => pure r) Q E s₃) E s₂ := by
  rw [hs o i]
  exact wpAny_operating (wpAny_mono h₂ (λ r s₃ h₃ => wpAny_bind (wpAny_letTemporaryGo (wpAny_pure h₃))) λ _ _ x => x)
 first
  | exact wpAny_pure (wpAny_bind fin)
  | exact wpAny_bind (wpAny_pure (wpAny_bind fin))
  | exact wpAny_bind fin
theorem qU {X : Cx} {pins : List (Addr × Obj)} {σ : St} {H : Hp} {s : Shared} {a : Addr} {y : V} {o : Option V} (I : Inv X pins σ H s) (g : uQ H a y o) : s.TypeIs (.ref a) "dict" := by
 rcases g with ⟨kvs, k, e, _, _⟩ | ⟨kvs, k, b, e, _, _, _⟩
 ·obtain ⟨_, _, vs, _, dd⟩ := wq I.hok e
  exact dd.typeIs
 ·obtain ⟨_, _, xs, _, dd⟩ := AH I.hok e
  exact dd.typeIs
noncomputable def DU (td ty : TE) : TE := λ σ H Q => td σ H λ x H1 => ty σ H1 λ y H2 => ∃ a v, x = .ref a /\ uQ H2 a y (some v) /\ Q v H2
section
variable {X : Cx} {o i e value : Expr} {pos pos' tpos : Pos} {td ty tv : TE}
theorem zz (hu : X.A.units + 1 < cLine) (ho : PE X o td) (hi : PE X i ty) (hs : C0 i) : PE X (.Subscript o i pos) (DU td ty) := by
 intro pins s σ H Q I h
 refine As PySem.F.slot_dict_getitem.lookup hs (bw (ho pins s σ H _ I h) λ u s1 ⟨x, H1, I1, rx, q1⟩ => bw (hi pins s1 σ H1 _ I1 q1) λ iv s2 ⟨y, H2, I2, ry, a, v, ex, g, q2⟩ => ?_)
 subst ex
 obtain rfl : u = Value.ref a := rx
 exact ⟨qU I2 g, u6 hu I2 g ry λ w' s3 I3 rw' => ⟨v, H2, I3, rw', q2⟩⟩
end
theorem wp {P : Program} {w : World} {H : Hp} (h : Heap) (hb : sysModules < h.objs.size) : cP P w H (h.push { cls := .type "dict", data := .dict #[] }) h.objs.size (.dK []) :=
 ⟨Nat.zero_le _, beq_eq_false_iff_ne.mpr (Ne.symm (Nat.ne_of_lt hb)), [], .nil, Heap.DictOf.new h⟩
section
variable {X : Cx} {pos : Pos}
end
noncomputable def qp : List (TE × TE) -> St -> Hp -> (List (V × V) -> Hp -> Prop) -> Prop
 | [], _, H, Q => Q [] H
 | (tk, tv) :: r, σ, H, Q => tk σ H λ x H1 => tv σ H1 λ y H2 => qp r σ H2 λ ps H3 => Q ((x, y) :: ps) H3
noncomputable abbrev VV : List (V × V) -> List (Value × Value) -> Prop := Paired λ p q => aM p.1 q.1 /\ aM p.2 q.2
noncomputable def C2 (X : Cx) (pos : Pos) (keys : List (Option Expr)) (values : List Expr) (trs : List (TE × TE)) : Prop :=
 ∀ (pins : List (Addr × Obj)) (s : Shared) (σ : St) (H : Hp) (Q : List (V × V) -> Hp -> Prop), Inv X pins σ H s -> qp trs σ H Q →
  wpAny (model X.prog X.w) X.A (evalPairs (pairTrees keys values X.env pos)) (λ vs s' => ∃ ps H', Inv X pins σ H' s' /\ VV ps vs /\ Q ps H') X.xe s
theorem zJ {X : Cx} {pos : Pos} : C2 X pos [] [] [] := λ pins s σ H Q I h => pairTrees_nil_walk ⟨[], H, I, .nil, h⟩
theorem xC {X : Cx} {pos : Pos} {k v : Expr} {ks : List (Option Expr)} {vs : List Expr} {tk tv : TE} {trs : List (TE × TE)} (hk : PE X k tk) (hv : PE X v tv) (hr : C2 X pos ks vs trs) :
  C2 X pos (some k :: ks) (v :: vs) ((tk, tv) :: trs) := λ pins s σ H Q I h =>
 pairTrees_cons_walk (bw (hk pins s σ H _ I h) λ u s1 ⟨x, H1, I1, rx, q1⟩ => bw (hv pins s1 σ H1 _ I1 q1) λ w2 s2 ⟨y, H2, I2, ry, q2⟩ =>
  bw (hr pins s2 σ H2 _ I2 q2) λ ws s3 ⟨ps, H3, I3, rel, q3⟩ => ⟨(x, y) :: ps, H3, I3, .cons ⟨rx, ry⟩ rel, q3⟩)
noncomputable def iI (kvs more : List (dB × V)) : List (dB × V) := more.foldl (λ acc kv => nn acc kv.1 kv.2) kvs
theorem KV.merge : ∀ {more : List (dB × V)} {rs : List (dB × Value)} {kvs : List (dB × V)} {vs : List (dB × Value)}, KV more rs -> KV kvs vs -> KV (iI kvs more) (merged vs rs) := by
 intro more rs kvs vs r
 unfold KV at r
 induction r generalizing kvs vs with
 | nil => intro q; exact q
 | @cons p q ps qs h t ih =>
  intro r0
  have e : KV (nn kvs p.1 p.2) (stored vs q.1 q.2) := by
   have := r0.put p.1 h.2
   rw [<- h.1]; exact this
  exact ih e
theorem jN : ∀ (more kvs : List (dB × V)), (iI kvs more).length <= kvs.length + more.length
 | [], kvs => by show kvs.length <= kvs.length + 0; omega
 | p :: r, kvs => by
  have h1 := jN r (nn kvs p.1 p.2)
  have h2 := rg kvs p.1 p.2
  show (iI (nn kvs p.1 p.2) r).length <= _
  rw [List.length_cons]; omega
theorem mz {P : Program} {w : World} : ∀ {kvs : List (dB × V)} {ws : List (Value × Value)}, VV (kvs.map λ kv => (kV kv.1, kv.2)) ws -> ∃ rs, Carries (b0 P w) ws rs /\ KV kvs rs
 | [], _, r => by rw [List.map_nil] at r; cases r; exact ⟨[], True.intro, .nil⟩
 | p :: kvs, _, r => by
  rw [List.map_cons] at r
  cases r with
  | @cons a b as bs h t =>
   obtain ⟨rs, c, q⟩ := mz (P := P) (w := w) t
   obtain ⟨b1, b2⟩ := b
   exact ⟨(p.1, b2) :: rs, ⟨wJ h.1, rfl, c⟩, .cons ⟨rfl, h.2⟩ q⟩
noncomputable def DV (trs : List (TE × TE)) : TE := λ σ H Q => ∀ p, H p = none -> qp trs σ (cD H p (.dK [])) λ ps H2 => H2 p = some (.dK []) /\ ∃ kvs : List (dB × V), ps = kvs.map (λ kv => (kV kv.1, kv.2)) /\ kvs.length <= 15 /\ Q (.ref p) (cD H2 p (.dK (iI [] kvs)))
theorem zA {X : Cx} {pos : Pos} {keys : List (Option Expr)} {values : List Expr} {trs : List (TE × TE)} (h : C2 X pos keys values trs) (hall : keys.all (·.isSome) = true) (hl : keys.length = values.length) (h0 : keys ≠ [])
  (h15 : keys.length <= 15) : PE X (.Dict keys values pos) (DV trs) := by
 intro pins s σ H Q I q
 have hn := I.hok.fresh (Nat.le_refl s.heap.objs.size)
 have I1 := I.laid (a := s.heap.objs.size) (o := .dK []) (h' := s.heap.push { cls := .type "dict", data := .dict #[] }) (t' := s.toks) (λ _ _ q => Heap.get?_push_of_some _ q) (Nat.le_refl _) (wp s.heap I.big)
 refine wpAny_Dict_walk (knd := b0 X.prog X.w) hall hl h0 h15 (bw (h pins _ σ _ _ I1 (q _ hn)) λ ws s2 ⟨ps, H2, I2, rel, e, kvs, ep, lk, q2⟩ => ?_)
 subst ep
 obtain ⟨rs, c, rk⟩ := mz (P := X.prog) (w := X.w) rel
 obtain ⟨z, hd, vs0, r0, dd⟩ := Db I2.hok e
 cases r0
 refine ⟨rs, c, dd, λ h' dd' hs => ⟨.ref s.heap.objs.size, _, ?_, rfl, q2⟩⟩
 have hz : (iI [] kvs).length <= sizeLine := by
  have h1 := jN kvs []
  rw [List.length_nil] at h1
  rw [sizeLine_eq]; omega
 have he : ∃ q, h'.get? s.heap.objs.size = some q := let ⟨q, _, _, hq, _⟩ := dd'; ⟨q, hq⟩
 exact yP I2 (by rw [e]; exact True.intro) hs he (Bb hz hd (rk.merge .nil) dd')
end L2
namespace L3
open PySem PySem.Spec PyProof.Rows L2
noncomputable abbrev St := L2.St
structure FreshX (X : Cx) (pins : List (Addr × Obj)) (H : Hp) (b : Addr) : Prop where
 nl : b ≠ X.env.locals
 nc : ∀ x c, X.env.cells.lookup x = some c -> c ≠ b
 np : ∀ p ∈ X.pn ++ pins, p.1 ≠ b
 n0 : X.s₀.heap.get? b = none
 nh : H b = none
structure Flies (X : Cx) (pins : List (Addr × Obj)) (H : Hp) (s : Shared) (ea : Addr) (C : Value) : Prop where
 ex : ∃ oe vs a0, s.heap.get? ea = some oe /\ oe.cls = C /\ oe.data = .fields vs /\ vs[0]? = some a0 ∧
  (vs[1]? = some .none \/ ∃ T oT ts, vs[1]? = some (.ref T) /\ T ≠ ea /\ s.heap.get? T = some oT /\ oT.data = .fields ts /\ ts[3]? = some .none /\ FreshX X pins H T)
 fr : FreshX X pins H ea
noncomputable def sx (P : Program) (w : World) : v4 := λ outer H s E e s' => ∃ (ea : Addr) (C : Value) (H' : Hp), e = .ref ea /\ s'.os = s.os /\ AllBare s'.gens /\ Un (kW outer) [] H H' s.heap s'.heap /\ kg P w H' s'.heap ∧
 (s.heap.get? ea = none /\ H' ea = none) ∧
 (∃ oe vs a0 T oT ts, s'.heap.get? ea = some oe /\ oe.cls = C /\ oe.data = .fields vs /\ vs[0]? = some a0 /\ vs[1]? = some (.ref T) /\ T ≠ ea /\ s'.heap.get? T = some oT /\ oT.data = .fields ts /\ ts[3]? = some .none /\ s.heap.get? T = none /\ H' T = none) ∧
 E C none H'
theorem m9 {P : Program} {w : World} {H : Hp} {h : Heap} {a : Addr} {o : HO} (x : cP P w H h a o) : ∃ u, h.get? a = some u := by
 cases o with
 | lst xs => obtain ⟨_, _, _, _, e⟩ := x; exact ⟨_, e⟩
 | tup xs => obtain ⟨_, _, _, ob, e, _⟩ := x; exact ⟨_, e⟩
 | dK kvs => obtain ⟨_, _, _, _, o, _, _, e, _⟩ := x; exact ⟨_, e⟩
 | dT kvs => obtain ⟨_, _, _, _, o, _, _, e, _⟩ := x; exact ⟨_, e⟩
 | set S n => obtain ⟨o, _, _, _, e, _⟩ := x; exact ⟨_, e⟩
 | ins C dx fs => obtain ⟨_, _, _, e, _⟩ := x; exact ⟨_, e⟩
 | own y => exact x
 | xd fs => obtain ⟨_, ⟨_, _, _, e, _⟩, _⟩ := x; exact ⟨_, e⟩
 | rng lo hi => obtain ⟨_, _, _, e⟩ := x; exact ⟨_, e⟩
 | frz ob u => obtain ⟨e, _⟩ := x; exact ⟨_, e⟩
 | tbl ps => exact ⟨_, x⟩
 | met f y => exact ⟨_, x⟩
 | ext φ => obtain ⟨_, e, _⟩ := x; exact e
section
variable {X : Cx} {pins : List (Addr × Obj)} {σ : St} {H H' : Hp} {s s' : Shared} {ea : Addr} {C : Value}
theorem lg (I : Inv X pins σ H s) (hex : X.ex = []) {b : Addr} (e : s.heap.get? b = none) (n : H' b = none) : FreshX X pins H' b where
 nl := λ z => by
  obtain ⟨m, ⟨o, _, _, ho, _⟩, _⟩ := I.loc
  rw [<- z, e] at ho; cases ho
 nc := λ x c h z => by
  obtain ⟨v, o, ho, _⟩ := I.cell x c h
  rw [z, e] at ho; cases ho
 np := λ p hp z => by
  have := (I.pin p hp).1
  rw [z, e] at this; cases this
 n0 := by
  cases q : X.s₀.heap.get? b with
  | none => rfl
  | some o =>
   obtain ⟨o', h'⟩ := I.base.there b o q (by rw [hex]; simp)
   rw [e] at h'; cases h'
 nh := n
theorem vh (I : Inv X pins σ H s) (hex : X.ex = []) {E : XK} {e : Value} (h : sx X.prog X.w X.stack H s E e s') :
  ∃ ea C H', e = .ref ea /\ Inv X pins σ H' s' /\ Flies X pins H' s' ea C /\ E C none H' := by
 obtain ⟨ea, C, H', rfl, os, bare, un, hok, ⟨n1, n2⟩, ⟨oe, vs, a0, T, oT, ts, t1, t2, t3, t4, t5, t6, t7, t8, t9, t10, t11⟩, hE⟩ := h
 refine ⟨ea, C, H', rfl, I.call' os un hok bare (ch := []) (λ b z => absurd z (by simp)), ⟨⟨oe, vs, a0, t1, t2, t3, t4, .inr ⟨T, oT, ts, t5, t6, t7, t8, t9, lg I hex t10 t11⟩⟩, lg I hex n1 n2⟩, hE⟩
noncomputable def Bm (X : Cx) (s : Shared) (l : List Addr) : Heap := PySem.W.hideAll s.heap (kW X.stack ++ l)
theorem ox {l : List Addr} : (Bm X s l).StaysIn s.heap := λ b o q => PySem.W.of_hideAll _ q
theorem mS {l : List Addr} {b : Addr} (h : b ∈ l) : (Bm X s l).get? b = none := PySem.W.hideAll_none _ (List.mem_append_right _ h)
theorem um {l : List Addr} {b : Addr} {o : Obj} (e : s.heap.get? b = some o) (h1 : b ∉ kW X.stack) (h2 : b ∉ l) : (Bm X s l).get? b = some o :=
 PySem.W.hideAll_get _ e λ z => (List.mem_append.mp z).elim h1 h2
theorem mR (I : Inv X pins σ H s) {l : List Addr} : s.heap.FunFrames (Bm X s l) X.stack :=
 PySem.W.funFrames_hide I.stack λ env he a ha => List.mem_append_left _ (List.mem_filterMap.mpr ⟨env, he, ha⟩)
theorem wO {M : Model} {E : XK} {E' : Value -> Shared -> Prop} (I : Inv X pins σ H s) (hex : X.ex = []) (hst : X.stack = X.env :: X.outer) (hf : X.env.frame = some X.env.locals) (F : Flies X pins H s ea C) (h : E C none H) :
  wpAny M X.A (leaving X.env (.ref ea)) (λ _ s'' => sx X.prog X.w X.outer X.H₀ X.s₀ E (.ref ea) s'') E' s := by
 obtain ⟨oe, vs, a0, t1, t2, t3, t4, t5⟩ := F.ex
 have hfr : X.A.frames = some (X.env :: X.outer) := by rw [<- hst]; exact I.ok.frames
 have fin : ∀ (l : List Addr) (h' : Heap), (∀ b ∈ l, FreshX X pins H b) -> ea ∈ l -> Heap.LeftW (Bm X s l) (X.env :: X.outer) ea C a0 s.heap h' -> sx X.prog X.w X.outer X.H₀ X.s₀ E (.ref ea) { s with heap := h' } := by
  intro l h' hl he hL
  obtain ⟨k1, k2, ⟨oe', vs', T, oT, ts, g1, ⟨g2, g3⟩, g4, g5, g6, g7, g8, g9, g10⟩, k4⟩ := hL
  have stk0 : ∀ b o, b ∈ kW X.stack -> s.heap.get? b = some o -> ∀ vs, o.data ≠ .fields vs := λ b o hb e => by
   obtain ⟨_, o', e', d⟩ := I.stack.mem hb
   rw [e] at e'; cases e'; exact d
  have keep : ∀ b o, b ∉ kW X.stack -> b ∉ l -> s.heap.get? b = some o -> h'.get? b = some o := λ b o n1 n2 e => k1 b o (um e n1 n2)
  have up : ∀ b o, b ∈ kW X.stack -> s.heap.get? b = some o -> ∃ sl, h'.get? b = some { o with slots := sl } := λ b o hb e => k4 b o e (stk0 b o hb e)
  have Av : ∀ b o, H b = some o -> b ∉ kW X.stack /\ b ∉ l := λ b o e =>
   ⟨λ z => (by rw [I.stkFree b z] at e; cases e), λ z => (by rw [(hl b z).nh] at e; cases e)⟩
  have old : ∀ b o, X.s₀.heap.get? b = some o -> b ∉ l /\ b ≠ X.env.locals := λ b o e =>
   ⟨λ z => (by rw [(hl b z).n0] at e; cases e), Nat.ne_of_lt (Nat.lt_of_lt_of_le (Heap.lt_size e) I.ok.above)⟩
  have stk : ∀ b, b ≠ X.env.locals -> b ∉ kW X.outer -> b ∉ kW X.stack := λ b n1 n2 hb => (List.mem_cons.mp (I.stkSub b hb)).elim n1 n2
  have inst : ∀ b, b ∈ kW X.outer -> b ∈ kW X.stack := λ b hb => by
   rw [hst]
   unfold kW
   rw [List.filterMap_cons, hf]
   exact List.mem_cons_of_mem _ hb
  have Tn : ∀ o, s.heap.get? T = some o -> T ∈ l := λ o e => by
   refine Classical.byContradiction λ n => ?_
   have ns : T ∉ kW X.stack := λ z => by
    obtain ⟨_, o', e', d⟩ := k2.mem (by rw [hst] at z; exact z)
    rw [g8] at e'; cases e'; exact d ts g9
   have := um (X := X) e ns n
   rw [g6] at this; cases this
  refine ⟨ea, C, H, rfl, I.os, I.bare, ⟨λ b o e n hb _ => ?_, λ b o e n hb _ => ?_, λ b o e n _ => ?_, λ b o e _ => ?_, I.base.tups, I.base.frzs, I.base.tbls⟩, λ a o e => ?_, ⟨(hl ea he).n0, (hl ea he).nh⟩, ⟨oe', vs', a0, T, oT, ts, g1, g2, g4, g3, g5, g7, g8, g9, g10, ?_, ?_⟩, h⟩
  ·exact keep b o (stk b (old b o e).2 hb) (old b o e).1 (I.base.keep b o e n hb (by rw [hex]; simp))
  ·obtain ⟨sl, e1⟩ := I.base.slot b o e n hb (by rw [hex]; simp)
   obtain ⟨sl', e2⟩ := up b _ (inst b hb) e1
   exact ⟨sl', e2⟩
  ·exact I.base.free b o e n (by rw [hex]; simp)
  ·obtain ⟨o', e1⟩ := I.base.there b o e (by rw [hex]; simp)
   by_cases hb : b ∈ kW X.stack
   ·obtain ⟨sl, q⟩ := up b o' hb e1
    exact ⟨_, q⟩
   ·exact ⟨_, keep b o' hb (old b o e).1 e1⟩
  ·refine (I.hok a o e).stay (λ b u hb q => ?_) (λ _ q => q) λ _ _ q => q
   rcases hb with rfl | hb
   ·exact keep b u (Av b o e).1 (Av b o e).2 q
   ·exact keep b u (Av b _ hb).1 (Av b _ hb).2 q
  ·cases q : X.s₀.heap.get? T with
   | none => rfl
   | some o =>
    obtain ⟨o', e1⟩ := I.base.there T o q (by rw [hex]; simp)
    have := (hl T (Tn o' e1)).n0
    rw [q] at this; cases this
  ·cases q : H T with
   | none => rfl
   | some o =>
    obtain ⟨u, e1⟩ := m9 (I.hok T o q)
    have := (hl T (Tn u e1)).nh
    rw [q] at this; cases this
 rcases t5 with t5 | ⟨T, oT, ts, t5, t6, t7, t8, t9, fT⟩
 ·have fl := mR I (l := [ea])
  rw [hst] at fl
  refine wpAny_leaving_firstW (base := Bm X s [ea]) (a0 := a0) hfr fl hf t1 ox (mS (by simp)) t3 t5 t4 λ h' hL => ?_
  rw [t2] at hL
  exact fin [ea] h' (λ b hb => by simp at hb; subst hb; exact F.fr) (by simp) hL
 ·have fl := mR I (l := [ea, T])
  rw [hst] at fl
  refine wpAny_leaving_nextW (base := Bm X s [ea, T]) (cls := C) (a0 := a0) hfr fl hf ⟨oe, vs, T, oT, ts, t1, ⟨t2, t4⟩, t3, t5, mS (by simp), t6, t7, t8, t9⟩ ox (mS (by simp)) λ h' hL => ?_
  exact fin [ea, T] h' (λ b hb => by
   simp at hb
   rcases hb with rfl | rfl
   ·exact F.fr
   ·exact fT) (by simp) hL
end
end L3
namespace L3
open PySem PySem.Spec PyProof.Rows L2
inductive D where
 | non | bl (b : Bool) | int (i : Int) | str (x : List Nat) | tup (ds : List D) | lst (ds : List D) | ob (c : Nat) (ns : List Str) (ds : List D) | dic (ks : List dB) (ds : List D)
inductive R (α : Type) where
 | ok (a : α) | exc (c : Nat) | stuck
noncomputable def R.bind {α β : Type} : R α -> (α -> R β) -> R β
 | .ok a, f => f a
 | .exc c, _ => .exc c
 | .stuck, _ => .stuck
@[simp] theorem R.bind_ok {α β : Type} (a : α) (f : α -> R β) : (R.ok a).bind f = f a := rfl
@[simp] theorem R.bind_exc {α β : Type} (c : Nat) (f : α -> R β) : (R.exc c : R α).bind f = R.exc c := rfl
@[simp] theorem R.bind_stuck {α β : Type} (f : α -> R β) : (R.stuck : R α).bind f = R.stuck := rfl
structure Zx where
 K : PySem.W.Frag
 κ : Nat -> Addr
noncomputable abbrev gW (x : List Nat) : V := .str ⟨x.toArray⟩
mutual
noncomputable def aH (Z : Zx) (G : Hp) : V -> D -> Prop
 | v, .non => v = .non
 | v, .bl b => v = .bl b
 | v, .int i => v = .int i
 | v, .str x => v = gW x
 | v, .tup ds => ∃ a vs, v = .ref a /\ k9 Z.K G a vs /\ Dens Z G vs ds
 | v, .lst ds => ∃ a vs, v = .ref a /\ cr Z.K G a vs /\ Dens Z G vs ds
 | v, .ob c ns ds => ∃ a dx vs, v = .ref a /\ G a = some (.ins (Z.κ c) dx (ns.zip vs)) /\ ns.length = vs.length /\ Dens Z G vs ds
 | v, .dic ks ds => ∃ a vs, v = .ref a /\ G a = some (.dK (ks.zip vs)) /\ ks.length = vs.length /\ Dens Z G vs ds
noncomputable def Dens (Z : Zx) (G : Hp) : List V -> List D -> Prop
 | [], [] => True
 | v :: vs, d :: ds => aH Z G v d /\ Dens Z G vs ds
 | [], _ :: _ => False
 | _ :: _, [] => False
end
theorem bt {K : PySem.W.Frag} {H H' : Hp} {a : Addr} {xs : List V} (e : br H H') (h : k9 K H a xs) : k9 K H' a xs := by
 rcases h with (h | ⟨o, h⟩) | h
 ·exact .inl (.inl (e _ _ h))
 ·exact .inl (.inr ⟨o, e _ _ h⟩)
 ·exact .inr h
section
variable {Z : Zx} {G G' : Hp}
mutual
theorem aH.mono (s : br G G') : ∀ {v : V} {d : D}, aH Z G v d -> aH Z G' v d
 | v, .non, h => by unfold aH at h ⊢; exact h
 | v, .bl b, h => by unfold aH at h ⊢; exact h
 | v, .int i, h => by unfold aH at h ⊢; exact h
 | v, .str x, h => by unfold aH at h ⊢; exact h
 | v, .tup ds, h => by
  unfold aH at h ⊢
  obtain ⟨a, vs, e, q, r⟩ := h
  exact ⟨a, vs, e, bt s q, Dens.mono s r⟩
 | v, .lst ds, h => by
  unfold aH at h ⊢
  obtain ⟨a, vs, e, q, r⟩ := h
  exact ⟨a, vs, e, s.seq q, Dens.mono s r⟩
 | v, .ob c ns ds, h => by
  unfold aH at h ⊢
  obtain ⟨a, dx, vs, e, q, l, r⟩ := h
  exact ⟨a, dx, vs, e, s _ _ q, l, Dens.mono s r⟩
 | v, .dic ks ds, h => by
  unfold aH at h ⊢
  obtain ⟨a, vs, e, q, l, r⟩ := h
  exact ⟨a, vs, e, s _ _ q, l, Dens.mono s r⟩
theorem Dens.mono (s : br G G') : ∀ {vs : List V} {ds : List D}, Dens Z G vs ds -> Dens Z G' vs ds
 | [], [], h => by unfold Dens; trivial
 | v :: vs, d :: ds, h => by
  unfold Dens at h ⊢
  exact ⟨aH.mono s h.1, Dens.mono s h.2⟩
 | [], _ :: _, h => by unfold Dens at h; exact h.elim
 | _ :: _, [], h => by unfold Dens at h; exact h.elim
end
theorem aP : Dens Z G [] [] := by unfold Dens; trivial
theorem aR {v : V} {vs : List V} {d : D} {ds : List D} (h : aH Z G v d) (r : Dens Z G vs ds) : Dens Z G (v :: vs) (d :: ds) := by unfold Dens; exact ⟨h, r⟩
theorem Dens.length : ∀ {vs : List V} {ds : List D}, Dens Z G vs ds -> vs.length = ds.length
 | [], [], _ => rfl
 | _ :: _, _ :: _, h => by unfold Dens at h; simp [Dens.length h.2]
 | [], _ :: _, h => by unfold Dens at h; exact h.elim
 | _ :: _, [], h => by unfold Dens at h; exact h.elim
theorem Dens.get : ∀ {vs : List V} {ds : List D} {i : Nat} {d : D}, Dens Z G vs ds -> ds[i]? = some d -> ∃ v, vs[i]? = some v /\ aH Z G v d
 | [], [], _, _, _, e => by simp at e
 | v :: _, _ :: _, 0, _, h, e => by unfold Dens at h; simp at e; subst e; exact ⟨v, rfl, h.1⟩
 | _ :: _, _ :: _, i + 1, _, h, e => by unfold Dens at h; simpa using Dens.get h.2 (by simpa using e)
 | [], _ :: _, _, _, h, _ => by unfold Dens at h; exact h.elim
 | _ :: _, [], _, _, h, _ => by unfold Dens at h; exact h.elim
theorem Dens.append : ∀ {vs : List V} {ds : List D} {us : List V} {es : List D}, Dens Z G vs ds -> Dens Z G us es -> Dens Z G (vs ++ us) (ds ++ es)
 | [], [], _, _, _, h => h
 | _ :: _, _ :: _, _, _, h, k => by unfold Dens at h; exact aR h.1 (Dens.append h.2 k)
 | [], _ :: _, _, _, h, _ => by unfold Dens at h; exact h.elim
 | _ :: _, [], _, _, h, _ => by unfold Dens at h; exact h.elim
theorem Dens.drop : ∀ {vs : List V} {ds : List D} (n : Nat), Dens Z G vs ds -> Dens Z G (vs.drop n) (ds.drop n)
 | _, _, 0, h => h
 | [], [], _ + 1, _ => by simp; exact aP
 | _ :: _, _ :: _, n + 1, h => by unfold Dens at h; simpa using Dens.drop n h.2
 | [], _ :: _, _ + 1, h => by unfold Dens at h; exact h.elim
 | _ :: _, [], _ + 1, h => by unfold Dens at h; exact h.elim
theorem Dens.take : ∀ {vs : List V} {ds : List D} (n : Nat), Dens Z G vs ds -> Dens Z G (vs.take n) (ds.take n)
 | _, _, 0, _ => by simp; exact aP
 | [], [], _ + 1, _ => by simp; exact aP
 | _ :: _, _ :: _, n + 1, h => by unfold Dens at h; simpa using aR h.1 (Dens.take n h.2)
 | [], _ :: _, _ + 1, h => by unfold Dens at h; exact h.elim
 | _ :: _, [], _ + 1, h => by unfold Dens at h; exact h.elim
theorem u8 (ns : List Int) : Dens Z G (ns.map V.int) (ns.map D.int) := by
 induction ns with
 | nil => exact aP
 | cons n r ih => exact aR (by unfold aH; rfl) ih
end
inductive Sl where
 | sh (d : D) | ow (ds : List D) | oo (c : Nat) (ns : List Str) (ds : List D)
noncomputable abbrev Ev := List (Option Sl)
structure Gd where
 g : Hp
 m : Addr -> Prop
structure Hold (B : Gd) (H₀ G H : Hp) : Prop where
 gG : br B.g G
 GH : br G H
 old : ∀ b o, H₀ b = some o -> ¬ B.m b -> H b = some o
 there : ∀ b, H₀ b ≠ none -> H b ≠ none
 lent : ∀ b, H₀ b ≠ none -> B.g b = none -> G b = none
structure Rep (Z : Zx) (B : Gd) (H₀ G H : Hp) (σ : St) (δ : Ev) : Prop extends Hold B H₀ G H where
 len : σ.length = δ.length
 sh : ∀ (i : Nat) d, δ[i]? = some (some (.sh d)) -> ∃ v, σ[i]? = some (some v) /\ aH Z G v d
 ow : ∀ (i : Nat) ds, δ[i]? = some (some (.ow ds)) -> ∃ a vs, σ[i]? = some (some (.ref a)) /\ H a = some (.lst vs) /\ Dens Z G vs ds /\ G a = none /\ H₀ a = none
 sep : ∀ (i j : Nat) ds es a, i ≠ j -> δ[i]? = some (some (.ow ds)) -> δ[j]? = some (some (.ow es)) -> σ[i]? = some (some (.ref a)) -> σ[j]? = some (some (.ref a)) -> False
 oo : ∀ (i : Nat) c ns ds, δ[i]? = some (some (.oo c ns ds)) -> ∃ x dx vs, σ[i]? = some (some (.ref x)) /\ H x = some (.ins (Z.κ c) dx (ns.zip vs)) /\ ns.length = vs.length /\ Dens Z G vs ds /\ G x = none /\ B.m x
 oo1 : ∀ (i j : Nat) c ns ds c' ns' ds' x, i ≠ j -> δ[i]? = some (some (.oo c ns ds)) -> δ[j]? = some (some (.oo c' ns' ds')) -> σ[i]? = some (some (.ref x)) -> σ[j]? = some (some (.ref x)) -> False
structure Ext (G H G' H' : Hp) : Prop where
 sG : br G G'
 sH : br H H'
 GH : br G' H'
 new : ∀ a, G' a ≠ none -> G a ≠ none \/ H a = none
theorem Ext.refl {G H : Hp} (h : br G H) : Ext G H G H := ⟨br.refl _, br.refl _, h, λ _ z => .inl z⟩
theorem Ext.trans {G H G1 H1 G2 H2 : Hp} (a : Ext G H G1 H1) (b : Ext G1 H1 G2 H2) : Ext G H G2 H2 :=
 ⟨a.sG.trans b.sG, a.sH.trans b.sH, b.GH, λ x z => (b.new x z).elim (a.new x) λ q => .inr (a.sH.free q)⟩
section
variable {Z : Zx} {B : Gd} {H₀ G H G' H' : Hp} {σ : St} {δ : Ev}
theorem Hold.ext (h : Hold B H₀ G H) (e : Ext G H G' H') : Hold B H₀ G' H' where
 gG := h.gG.trans e.sG
 GH := e.GH
 old := λ b o q n => e.sH _ _ (h.old b o q n)
 there := λ b q => by
  have := h.there b q
  cases z : H b with
  | none => exact absurd z this
  | some o => rw [e.sH _ _ z]; simp
 lent := λ b q n => by
  cases z : G' b with
  | none => rfl
  | some o =>
   rcases e.new b (by rw [z]; simp) with y | y
   ·exact absurd (h.lent b q n) y
   ·exact absurd y (h.there b q)
theorem Rep.ext (r : Rep Z B H₀ G H σ δ) (e : Ext G H G' H') : Rep Z B H₀ G' H' σ δ where
 toHold := r.toHold.ext e
 len := r.len
 sh := λ i d q => let ⟨v, a, b⟩ := r.sh i d q; ⟨v, a, b.mono e.sG⟩
 ow := λ i ds q => by
  obtain ⟨a, vs, x1, x2, x3, x4, x5⟩ := r.ow i ds q
  refine ⟨a, vs, x1, e.sH _ _ x2, x3.mono e.sG, ?_, x5⟩
  cases z : G' a with
  | none => rfl
  | some o =>
   rcases e.new a (by rw [z]; simp) with y | y
   ·exact absurd x4 y
   ·rw [x2] at y; cases y
 sep := r.sep
 oo := λ i c ns ds q => by
  obtain ⟨x, dx, vs, x1, x2, x3, x4, x5, x6⟩ := r.oo i c ns ds q
  refine ⟨x, dx, vs, x1, e.sH _ _ x2, x3, x4.mono e.sG, ?_, x6⟩
  cases z : G' x with
  | none => rfl
  | some o =>
   rcases e.new x (by rw [z]; simp) with y | y
   ·exact absurd x5 y
   ·rw [x2] at y; cases y
 oo1 := r.oo1
theorem aQ {α : Type} {l : List α} {i j : Nat} {x y : α} (h : (l.set i x)[j]? = some y) : (j = i /\ y = x /\ i < l.length) \/ (j ≠ i /\ l[j]? = some y) := by
 by_cases e : j = i
 ·subst e
  by_cases hl : j < l.length
  ·rw [List.getElem?_set_self hl] at h; exact .inl ⟨rfl, (Option.some.inj h).symm, hl⟩
  ·rw [List.getElem?_eq_none (by simpa using hl)] at h; cases h
 ·rw [List.getElem?_set_ne (Ne.symm e)] at h; exact .inr ⟨e, h⟩
theorem Rep.setSh (r : Rep Z B H₀ G H σ δ) {i : Nat} {v : V} {d : D} (h : aH Z G v d) : Rep Z B H₀ G H (σ.set i (some v)) (δ.set i (some (.sh d))) where
 toHold := r.toHold
 len := by simpa using r.len
 sh := λ j e q => by
  rcases aQ q with ⟨rfl, e1, hl⟩ | ⟨n, q⟩
  ·cases e1
   exact ⟨v, List.getElem?_set_self (by rw [r.len]; exact hl), h⟩
  ·obtain ⟨u, a, b⟩ := r.sh j e q
   exact ⟨u, by rw [List.getElem?_set_ne (Ne.symm n)]; exact a, b⟩
 ow := λ j ds q => by
  rcases aQ q with ⟨rfl, e1, hl⟩ | ⟨n, q⟩
  ·cases e1
  ·obtain ⟨a, vs, x1, x2⟩ := r.ow j ds q
   exact ⟨a, vs, by rw [List.getElem?_set_ne (Ne.symm n)]; exact x1, x2⟩
 sep := λ j k ds es a n q1 q2 s1 s2 => by
  rcases aQ q1 with ⟨_, e1, _⟩ | ⟨n1, q1⟩
  ·cases e1
  ·rcases aQ q2 with ⟨_, e1, _⟩ | ⟨n2, q2⟩
   ·cases e1
   ·rw [List.getElem?_set_ne (Ne.symm n1)] at s1
    rw [List.getElem?_set_ne (Ne.symm n2)] at s2
    exact r.sep j k ds es a n q1 q2 s1 s2
 oo := λ j c ns ds q => by
  rcases aQ q with ⟨rfl, e1, hl⟩ | ⟨n, q⟩
  ·cases e1
  ·obtain ⟨x, dx, vs, x1, x2⟩ := r.oo j c ns ds q
   exact ⟨x, dx, vs, by rw [List.getElem?_set_ne (Ne.symm n)]; exact x1, x2⟩
 oo1 := λ j k c ns ds c' ns' ds' x n q1 q2 s1 s2 => by
  rcases aQ q1 with ⟨_, e1, _⟩ | ⟨n1, p1⟩
  ·cases e1
  ·rcases aQ q2 with ⟨_, e2, _⟩ | ⟨n2, p2⟩
   ·cases e2
   ·rw [List.getElem?_set_ne (Ne.symm n1)] at s1
    rw [List.getElem?_set_ne (Ne.symm n2)] at s2
    exact r.oo1 j k c ns ds c' ns' ds' x n p1 p2 s1 s2
theorem Rep.setOw (r : Rep Z B H₀ G H σ δ) {i : Nat} {a : Addr} {vs : List V} {ds : List D} (h1 : H a = some (.lst vs)) (h2 : Dens Z G vs ds) (h3 : G a = none) (h4 : H₀ a = none)
  (h5 : ∀ (j : Nat) es, δ[j]? = some (some (.ow es)) -> j ≠ i -> σ[j]? ≠ some (some (.ref a))) : Rep Z B H₀ G H (σ.set i (some (.ref a))) (δ.set i (some (.ow ds))) where
 toHold := r.toHold
 len := by simpa using r.len
 sh := λ j e q => by
  rcases aQ q with ⟨rfl, e1, hl⟩ | ⟨n, q⟩
  ·cases e1
  ·obtain ⟨u, a, b⟩ := r.sh j e q
   exact ⟨u, by rw [List.getElem?_set_ne (Ne.symm n)]; exact a, b⟩
 ow := λ j es q => by
  rcases aQ q with ⟨rfl, e1, hl⟩ | ⟨n, q⟩
  ·cases e1
   exact ⟨a, vs, List.getElem?_set_self (by rw [r.len]; exact hl), h1, h2, h3, h4⟩
  ·obtain ⟨b, us, x1, x2⟩ := r.ow j es q
   exact ⟨b, us, by rw [List.getElem?_set_ne (Ne.symm n)]; exact x1, x2⟩
 sep := λ j k es fs b n q1 q2 s1 s2 => by
  rcases aQ q1 with ⟨ej, e1, l1⟩ | ⟨n1, p1⟩
  ·rcases aQ q2 with ⟨ek, _⟩ | ⟨n2, p2⟩
   ·exact n (ej.trans ek.symm)
   ·rw [ej, List.getElem?_set_self (by rw [r.len]; exact l1)] at s1
    rw [List.getElem?_set_ne (Ne.symm n2)] at s2
    cases s1
    exact h5 k fs p2 n2 s2
  ·rcases aQ q2 with ⟨ek, e1, l2⟩ | ⟨n2, p2⟩
   ·rw [ek, List.getElem?_set_self (by rw [r.len]; exact l2)] at s2
    rw [List.getElem?_set_ne (Ne.symm n1)] at s1
    cases s2
    exact h5 j es p1 n1 s1
   ·rw [List.getElem?_set_ne (Ne.symm n1)] at s1
    rw [List.getElem?_set_ne (Ne.symm n2)] at s2
    exact r.sep j k es fs b n p1 p2 s1 s2
 oo := λ j c ns es q => by
  rcases aQ q with ⟨rfl, e1, hl⟩ | ⟨n, q⟩
  ·cases e1
  ·obtain ⟨x, dx, us, x1, x2⟩ := r.oo j c ns es q
   exact ⟨x, dx, us, by rw [List.getElem?_set_ne (Ne.symm n)]; exact x1, x2⟩
 oo1 := λ j k c ns es c' ns' es' x n q1 q2 s1 s2 => by
  rcases aQ q1 with ⟨_, e1, _⟩ | ⟨n1, p1⟩
  ·cases e1
  ·rcases aQ q2 with ⟨_, e2, _⟩ | ⟨n2, p2⟩
   ·cases e2
   ·rw [List.getElem?_set_ne (Ne.symm n1)] at s1
    rw [List.getElem?_set_ne (Ne.symm n2)] at s2
    exact r.oo1 j k c ns es c' ns' es' x n p1 p2 s1 s2
theorem Rep.updOw (r : Rep Z B H₀ G H σ δ) {i : Nat} {a : Addr} {ds es : List D} {us : List V} (q : δ[i]? = some (some (.ow ds))) (s : σ[i]? = some (some (.ref a))) (h2 : Dens Z G us es) :
  Rep Z B H₀ G (cD H a (.lst us)) σ (δ.set i (some (.ow es))) := by
 obtain ⟨a', vs, x1, x2, x3, x4, x5⟩ := r.ow i ds q
 rw [s] at x1; cases x1
 have ha : ∀ b o, G b = some o -> b ≠ a := λ b o z e => by rw [e, x4] at z; cases z
 refine ⟨⟨r.gG, λ b o z => by rw [ar (ha b o z)]; exact r.GH b o z, λ b o z n => ?_, λ b z => ?_, r.lent⟩, by simpa using r.len, λ j e q' => ?_, λ j fs q' => ?_, λ j k fs gs b n q1 q2 s1 s2 => ?_, λ j c ns fs q' => ?_, λ j k c ns fs c' ns' fs' x n q1 q2 s1 s2 => ?_⟩
 ·rw [ar (by rintro rfl; rw [x5] at z; cases z)]; exact r.old b o z n
 ·by_cases hb : b = a
  ·subst hb; rw [aA]; simp
  ·rw [ar hb]; exact r.there b z
 ·rcases aQ q' with ⟨_, e1, _⟩ | ⟨n, q'⟩
  ·cases e1
  ·exact r.sh j e q'
 ·rcases aQ q' with ⟨rfl, e1, _⟩ | ⟨n, q'⟩
  ·cases e1
   exact ⟨a, us, s, aA, h2, x4, x5⟩
  ·obtain ⟨b, ws, y1, y2, y3⟩ := r.ow j fs q'
   have : b ≠ a := by rintro rfl; exact r.sep j i fs ds b n q' q y1 s
   exact ⟨b, ws, y1, by rw [ar this]; exact y2, y3⟩
 ·have f : ∀ (l : Nat) es', (δ.set i (some (.ow es)))[l]? = some (some (.ow es')) -> ∃ es'', δ[l]? = some (some (.ow es'')) := λ l es' z => by
   rcases aQ z with ⟨rfl, _⟩ | ⟨_, z⟩
   ·exact ⟨ds, q⟩
   ·exact ⟨_, z⟩
  obtain ⟨_, z1⟩ := f j fs q1
  obtain ⟨_, z2⟩ := f k gs q2
  exact r.sep j k _ _ b n z1 z2 s1 s2
 ·rcases aQ q' with ⟨_, e1, _⟩ | ⟨n, q'⟩
  ·cases e1
  ·obtain ⟨x, dx, ws, y1, y2, y3⟩ := r.oo j c ns fs q'
   have : x ≠ a := AS y2 x2 (by intro z; cases z)
   exact ⟨x, dx, ws, y1, by rw [ar this]; exact y2, y3⟩
 ·rcases aQ q1 with ⟨_, e1, _⟩ | ⟨_, p1⟩
  ·cases e1
  ·rcases aQ q2 with ⟨_, e2, _⟩ | ⟨_, p2⟩
   ·cases e2
   ·exact r.oo1 j k c ns fs c' ns' fs' x n p1 p2 s1 s2
noncomputable def mO (i : Nat) (δ : Ev) : Ev := match δ[i]? with
 | some (some (.ow ds)) => δ.set i (some (.sh (.lst ds)))
 | _ => δ
theorem Rep.freeze (r : Rep Z B H₀ G H σ δ) (i : Nat) : ∃ G', Rep Z B H₀ G' H σ (mO i δ) := by
 unfold mO
 split
 ·rename_i ds q
  obtain ⟨a, vs, x1, x2, x3, x4, x5⟩ := r.ow i ds q
  have sg : br G (cD G a (.lst vs)) := λ b o z => by
   rw [ar (by rintro rfl; rw [x4] at z; cases z)]; exact z
  have sh' : br (cD G a (.lst vs)) H := λ b o z => by
   by_cases hb : b = a
   ·subst hb; rw [aA] at z; cases z; exact x2
   ·rw [ar hb] at z; exact r.GH b o z
  refine ⟨cD G a (.lst vs), ⟨⟨r.gG.trans sg, sh', r.old, r.there, λ b z n => ?_⟩, by simpa using r.len, λ j e q' => ?_, λ j fs q' => ?_, λ j k fs gs b n q1 q2 s1 s2 => ?_, λ j c ns fs q' => ?_, λ j k c ns fs c' ns' fs' x n q1 q2 s1 s2 => ?_⟩⟩
  ·rw [ar (by rintro rfl; exact z x5)]; exact r.lent b z n
  ·rcases aQ q' with ⟨rfl, e1, _⟩ | ⟨n, q'⟩
   ·cases e1
    exact ⟨.ref a, x1, by unfold aH; exact ⟨a, vs, rfl, cr.of aA, x3.mono sg⟩⟩
   ·obtain ⟨u, y1, y2⟩ := r.sh j e q'
    exact ⟨u, y1, y2.mono sg⟩
  ·rcases aQ q' with ⟨_, e1, _⟩ | ⟨n, q'⟩
   ·cases e1
   ·obtain ⟨b, ws, y1, y2, y3, y4, y5⟩ := r.ow j fs q'
    have : b ≠ a := by rintro rfl; exact r.sep j i fs ds b n q' q y1 x1
    exact ⟨b, ws, y1, y2, y3.mono sg, by rw [ar this]; exact y4, y5⟩
  ·rcases aQ q1 with ⟨_, e1, _⟩ | ⟨n1, q1⟩
   ·cases e1
   ·rcases aQ q2 with ⟨_, e1, _⟩ | ⟨n2, q2⟩
    ·cases e1
    ·exact r.sep j k fs gs b n q1 q2 s1 s2
  ·rcases aQ q' with ⟨_, e1, _⟩ | ⟨n, q'⟩
   ·cases e1
   ·obtain ⟨x, dx, ws, y1, y2, y3, y4, y5, y6⟩ := r.oo j c ns fs q'
    have : x ≠ a := AS y2 x2 (by intro z; cases z)
    exact ⟨x, dx, ws, y1, y2, y3, y4.mono sg, by rw [ar this]; exact y5, y6⟩
  ·rcases aQ q1 with ⟨_, e1, _⟩ | ⟨_, p1⟩
   ·cases e1
   ·rcases aQ q2 with ⟨_, e2, _⟩ | ⟨_, p2⟩
    ·cases e2
    ·exact r.oo1 j k c ns fs c' ns' fs' x n p1 p2 s1 s2
 ·exact ⟨G, r⟩
end
end L3
namespace L3
open PySem PySem.Spec PyProof.Rows L2
noncomputable abbrev At (X : Cx) (pins : List (Addr × Obj)) (σ : St) (Ex : Value -> Shared -> Prop) : Cx := { X with xe := Ex, sg := λ p τ => p = pins /\ τ = σ }
theorem Ds {X : Cx} {pins : List (Addr × Obj)} {σ : St} {Ex : Value -> Shared -> Prop} (ok : X.Ok) : (At X pins σ Ex).Ok :=
 ⟨ok.mod, ok.kind, ok.glob, ok.blt, ok.above, ok.inj, ok.has, ok.cab, ok.hd, ok.frames, ok.stk, ok.exf, ok.bs, ok.bsz, ok.noex, ok.exfs, ok.funs, ok.frf⟩
theorem zo {X : Cx} {pins : List (Addr × Obj)} {σ : St} {Ex Ex' : Value -> Shared -> Prop} (ok : (At X pins σ Ex).Ok) : (X.wish Ex').Ok :=
 ⟨ok.mod, ok.kind, ok.glob, ok.blt, ok.above, ok.inj, ok.has, ok.cab, ok.hd, ok.frames, ok.stk, ok.exf, ok.bs, ok.bsz, ok.noex, ok.exfs, ok.funs, ok.frf⟩
theorem iG {X : Cx} {pins : List (Addr × Obj)} {σ : St} {Ex Ex' : Value -> Shared -> Prop} {H : Hp} {s : Shared} (I : Inv (X.wish Ex') pins σ H s) : Inv (At X pins σ Ex) pins σ H s :=
 ⟨Ds I.ok.unwish, I.os, I.bare, I.base, I.loc, I.cell, I.free, I.freeC, I.pin, I.hok, I.len, ⟨rfl, rfl⟩⟩
theorem cG {X : Cx} {pins pins' : List (Addr × Obj)} {σ σ' : St} {Ex : Value -> Shared -> Prop} {H : Hp} {s : Shared} (hsg : ∀ p τ, X.sg p τ) (I : Inv (At X pins σ Ex) pins' σ' H s) : Inv (X.wish Ex) pins σ H s := by
 obtain ⟨rfl, rfl⟩ := I.sgm
 exact ⟨zo I.ok, I.os, I.bare, I.base, I.loc, I.cell, I.free, I.freeC, I.pin, I.hok, I.len, hsg _ _⟩
noncomputable def EX (X : Cx) (pins : List (Addr × Obj)) (σ : St) (Ex : Value -> Shared -> Prop) : XK := λ C _ H' => ∀ ea s', Inv (X.wish Ex) pins σ H' s' -> Flies X pins H' s' ea C -> Ex (.ref ea) s'
theorem wC {X : Cx} {pins pins' : List (Addr × Obj)} {σ : St} {Ex : Value -> Shared -> Prop} {H : Hp} {s : Shared} {ea : Addr} {C : Value} (F : Flies (At X pins σ Ex) pins' H s ea C) : Flies X pins' H s ea C := by
 have c : ∀ {b}, FreshX (At X pins σ Ex) pins' H b -> FreshX X pins' H b := λ f => ⟨f.nl, f.nc, f.np, f.n0, f.nh⟩
 obtain ⟨⟨oe, vs, a0, t1, t2, t3, t4, t5⟩, fr⟩ := F
 refine ⟨⟨oe, vs, a0, t1, t2, t3, t4, t5.imp id ?_⟩, c fr⟩
 rintro ⟨T, oT, ts, x1, x2, x3, x4, x5, x6⟩
 exact ⟨T, oT, ts, x1, x2, x3, x4, x5, c x6⟩
structure Cxo (X : Cx) : Prop where
 sg : ∀ p τ, X.sg p τ
 ex : X.ex = []
theorem vC {X : Cx} (c : Cxo X) {pins : List (Addr × Obj)} {σ : St} {Ex : Value -> Shared -> Prop} : sC (sx X.prog X.w) (At X pins σ Ex) (EX X pins σ Ex) := by
 intro pins' σ' H s e s' I h
 obtain ⟨rfl, rfl⟩ := I.sgm
 obtain ⟨ea, C, H', rfl, I', F, hE⟩ := vh I c.ex h
 exact hE ea s' (cG c.sg I') (wC F)
theorem bp {X : Cx} {e : Expr} {t t' : TE} (h : PE X e t) (k : ∀ σ H Q, t' σ H Q -> t σ H Q) : PE X e t' := λ pins s σ H Q I q => h pins s σ H Q I (k σ H Q q)
theorem tK {X : Cx} {e : Expr} {t t' : TT} (h : PT X e t) (k : ∀ σ H Q, t' σ H Q -> t σ H Q) : PT X e t' := λ pins s σ H Q I q => h pins s σ H Q I (k σ H Q q)
theorem xG {X : Cx} {e : Expr} {t t' : TT} (h : PW X e t) (k : ∀ σ H Q, t' σ H Q -> t σ H Q) : PW X e t' := λ wh pins s σ H Q I q => h wh pins s σ H Q I (k σ H Q q)
theorem xi {X : Cx} {e : List Expr} {t t' : TA} (h : PA X e t) (k : ∀ σ H Q, t' σ H Q -> t σ H Q) : PA X e t' := λ pos pins s σ H Q I q => h pos pins s σ H Q I (k σ H Q q)
noncomputable def pd {α β : Type} (rel : Hp -> Hp -> β -> α -> Prop) (κ : Nat -> Addr) (E : XK) (G H : Hp) (r : R α) (Q : β -> Hp -> Prop) : Prop := match r with
 | .ok d => ∀ v H' G', Ext G H G' H' -> rel G' H' v d -> Q v H'
 | .exc c => ∀ H' G', Ext G H G' H' -> E (.ref (κ c)) none H'
 | .stuck => False
section
variable {α α' β β' : Type} {rel : Hp -> Hp -> β -> α -> Prop} {rel' : Hp -> Hp -> β' -> α' -> Prop} {κ : Nat -> Addr} {E : XK} {G H G' H' : Hp}
theorem pd.pre {r : R α} {Q : β -> Hp -> Prop} (e : Ext G H G' H') (h : pd rel κ E G H r Q) : pd rel κ E G' H' r Q := by
 cases r with
 | ok d => exact λ v H2 G2 e2 q => h v H2 G2 (e.trans e2) q
 | exc c => exact λ H2 G2 e2 => h H2 G2 (e.trans e2)
 | stuck => exact h
theorem pd.seq {ra : R α} {k : α -> R α'} {P : β -> Hp -> Prop} {Q : β' -> Hp -> Prop} (h : pd rel' κ E G H (ra.bind k) Q)
  (hk : ∀ a v H1 G1, Ext G H G1 H1 -> rel G1 H1 v a -> pd rel' κ E G1 H1 (k a) Q -> P v H1) : pd rel κ E G H ra P := by
 cases ra with
 | ok d => exact λ v H2 G2 e2 q => hk d v H2 G2 e2 q (pd.pre e2 h)
 | exc c => exact h
 | stuck => exact h
end
noncomputable abbrev iF (X : Cx) (κ : Nat -> Addr) : Hp -> Hp -> V -> D -> Prop := λ G _ v d => aH ⟨X.K, κ⟩ G v d
noncomputable abbrev fU (X : Cx) (κ : Nat -> Addr) : Hp -> Hp -> List V -> List D -> Prop := λ G _ v d => Dens ⟨X.K, κ⟩ G v d
noncomputable abbrev A6 : Hp -> Hp -> Bool -> Bool -> Prop := λ _ _ b d => b = d
noncomputable def iM (X : Cx) (κ : Nat -> Addr) : Hp -> Hp -> V -> D -> Prop := λ G H v d => aH ⟨X.K, κ⟩ G v d \/ ∃ a vs ds, v = .ref a /\ d = .lst ds /\ H a = some (.lst vs) /\ Dens ⟨X.K, κ⟩ G vs ds
theorem fg {X : Cx} {κ : Nat -> Addr} {G H G' H' : Hp} {v : V} {d : D} (e : Ext G H G' H') (h : iM X κ G H v d) : iM X κ G' H' v d := by
 rcases h with h | ⟨a, vs, ds, h1, h2, h3, h4⟩
 ·exact .inl (h.mono e.sG)
 ·exact .inr ⟨a, vs, ds, h1, h2, e.sH _ _ h3, h4.mono e.sG⟩
noncomputable def tO {α β : Type} (rel : Hp -> Hp -> β -> α -> Prop) (X : Cx) (κ : Nat -> Addr) (B : Gd) (E : XK) (f : Ev -> R α) : St -> Hp -> (β -> Hp -> Prop) -> Prop :=
 λ σ H Q => ∃ G δ, Rep ⟨X.K, κ⟩ B X.H₀ G H σ δ /\ pd rel κ E G H (f δ) Q
noncomputable def PX (κ : Nat -> Addr) (B : Gd) (X : Cx) (e : Expr) (f : Ev -> R D) : Prop := ∀ pins σ Ex, PE (At X pins σ Ex) e (tO (iF X κ) X κ B (EX X pins σ Ex) f)
noncomputable def cJ (κ : Nat -> Addr) (B : Gd) (X : Cx) (e : Expr) (f : Ev -> R D) : Prop := ∀ pins σ Ex, PE (At X pins σ Ex) e (tO (iM X κ) X κ B (EX X pins σ Ex) f)
noncomputable def mn (κ : Nat -> Addr) (B : Gd) (X : Cx) (es : List Expr) (f : Ev -> R (List D)) : Prop := ∀ pins σ Ex, PA (At X pins σ Ex) es (tO (fU X κ) X κ B (EX X pins σ Ex) f)
noncomputable def k7 (κ : Nat -> Addr) (B : Gd) (X : Cx) (e : Expr) (f : Ev -> R Bool) : Prop := ∀ pins σ Ex, PT (At X pins σ Ex) e (tO A6 X κ B (EX X pins σ Ex) f)
noncomputable def yF (κ : Nat -> Addr) (B : Gd) (X : Cx) (e : Expr) (f : Ev -> R Bool) : Prop := ∀ pins σ Ex, PW (At X pins σ Ex) e (tO A6 X κ B (EX X pins σ Ex) f)
section
variable {κ : Nat -> Addr} {B : Gd} {X : Cx} {a b c : Expr} {fa fb fc : Ev -> R D} {pos : Pos}
theorem PX.read (h : PX κ B X a fa) : cJ κ B X a fa := λ pins σ Ex => bp (h pins σ Ex) λ τ H Q ⟨G, δ, r, q⟩ => ⟨G, δ, r, by
 cases e : fa δ with
 | ok d => rw [e] at q; exact λ v H' G' x y => q v H' G' x (.inl y)
 | exc c => rw [e] at q; exact q
 | stuck => rw [e] at q; exact q⟩
noncomputable def mC (d : D) : Ev -> R D := λ _ => .ok d
theorem zQ {e : Expr} {v : V} {d : D} (h : ∀ pins σ Ex, PE (At X pins σ Ex) e (tC v)) (hd : ∀ G, aH ⟨X.K, κ⟩ G v d) : PX κ B X e (mC d) := λ pins σ Ex => bp (h pins σ Ex) λ τ H Q ⟨G, δ, r, q⟩ => q v H G (Ext.refl r.GH) (hd G)
theorem xH {i : Int} {j pos} : PX κ B X (.Constant (.int i) j pos) (mC (.int i)) := zQ (λ _ _ _ => xm) λ _ => by unfold aH; rfl
theorem AY {i : Bool} {j pos} : PX κ B X (.Constant (.bool i) j pos) (mC (.bl i)) := zQ (λ _ _ _ => Dw) λ _ => by unfold aH; rfl
theorem xI {x : Str} {l : List Nat} {j pos} (h : x = ⟨l.toArray⟩) : PX κ B X (.Constant (.str x) j pos) (mC (.str l)) := zQ (λ _ _ _ => xo) λ _ => by unfold aH; rw [h]
noncomputable def ae (i : Nat) : Ev -> R D := λ δ => match δ[i]? with
 | some (some (.sh d)) => .ok d
 | _ => .stuck
noncomputable def oE (i : Nat) : Ev -> R D := λ δ => match δ[i]? with
 | some (some (.sh d)) => .ok d
 | some (some (.ow ds)) => .ok (.lst ds)
 | _ => .stuck
theorem B7 (i : Nat) {x : Str} (hN : X.N[i]? = some x) (hv : og X.env.scope x) (hd : (x == ("__debug__" : Str)) = false) (hcd : (x == ("__classdict__" : Str)) = false) : PX κ B X (.Name x pos) (ae i) := λ pins σ Ex =>
 bp (j7 (X := At X pins σ Ex) hN hv hd hcd) λ τ H Q ⟨G, δ, r, q⟩ => by
  unfold ae at q
  split at q
  ·rename_i d e
   obtain ⟨v, e1, e2⟩ := r.sh i d e
   exact ⟨v, e1, q v H G (Ext.refl r.GH) e2⟩
  ·exact q.elim
theorem zV (i : Nat) {x : Str} (hN : X.N[i]? = some x) (hv : og X.env.scope x) (hd : (x == ("__debug__" : Str)) = false) (hcd : (x == ("__classdict__" : Str)) = false) : cJ κ B X (.Name x pos) (oE i) := λ pins σ Ex =>
 bp (j7 (X := At X pins σ Ex) hN hv hd hcd) λ τ H Q ⟨G, δ, r, q⟩ => by
  unfold oE at q
  split at q
  ·rename_i d e
   obtain ⟨v, e1, e2⟩ := r.sh i d e
   exact ⟨v, e1, q v H G (Ext.refl r.GH) (.inl e2)⟩
  ·rename_i ds e
   obtain ⟨l, vs, e1, e2, e3, _⟩ := r.ow i ds e
   exact ⟨.ref l, e1, q _ H G (Ext.refl r.GH) (.inr ⟨l, vs, ds, rfl, rfl, e2, e3⟩)⟩
  ·exact q.elim
theorem zT {x : Str} {v : V} {u : Value} {d : D} (hg : Gl X x) (hm : X.mg x = some u) (r : aM v u) (hd : ∀ G, aH ⟨X.K, κ⟩ G v d) (hdb : (x == ("__debug__" : Str)) = false) : PX κ B X (.Name x pos) (mC d) :=
 zQ (λ pins σ Ex => zB (X := At X pins σ Ex) hg hm r hdb) hd
noncomputable def m2 (op : D -> D -> R D) (fa fb : Ev -> R D) : Ev -> R D := λ δ => (fa δ).bind λ x => (fb δ).bind λ y => op x y
noncomputable def m1 (op : D -> R D) (fa : Ev -> R D) : Ev -> R D := λ δ => (fa δ).bind op
noncomputable def ml (κ : Nat -> Addr) (X : Cx) (r : R2) (op : D -> D -> R D) : Prop := ∀ x y v u G H Q E, br G H -> iM X κ G H v x -> iM X κ G H u y -> pd (iF X κ) κ E G H (op x y) Q -> r v u H Q
theorem oS {o : Operator} {r : R2} {op : D -> D -> R D} (ho : ∀ Y : Cx, Y.K = X.K -> jU Y (binaryOp o) r) (hop : ml κ X r op) (ha : cJ κ B X a fa) (hb : cJ κ B X b fb) : PX κ B X (.BinOp a o b pos) (m2 op fa fb) := λ pins σ Ex =>
 bp (Dx (ho (At X pins σ Ex) rfl) (ha pins σ Ex) (hb pins σ Ex)) λ τ H Q ⟨G, δ, rp, q⟩ => ⟨G, δ, rp, q.seq λ x v H1 G1 e1 d1 q1 => ⟨G1, δ, rp.ext e1, q1.seq λ y u H2 G2 e2 d2 q2 =>
  hop x y v u G2 H2 Q _ e2.GH (fg e2 d1) d2 q2⟩⟩
theorem nr {o : CmpOp} {r : R2} {op : D -> D -> R D} (ho : ∀ Y : Cx, Y.K = X.K -> Y.A = X.A -> jU Y (compareOp o) r) (hop : ml κ X r op) (ha : cJ κ B X a fa) (hb : cJ κ B X b fb) (hm : behindInMarks o b = false) : PX κ B X (.Compare a [o] [b] pos) (m2 op fa fb) := λ pins σ Ex =>
 bp (zy (ho (At X pins σ Ex) rfl rfl) (ha pins σ Ex) (hb pins σ Ex) hm) λ τ H Q ⟨G, δ, rp, q⟩ => ⟨G, δ, rp, q.seq λ x v H1 G1 e1 d1 q1 => ⟨G1, δ, rp.ext e1, q1.seq λ y u H2 G2 e2 d2 q2 =>
  hop x y v u G2 H2 Q _ e2.GH (fg e2 d1) d2 q2⟩⟩
noncomputable def bI (op : D -> D -> R Bool) (fa fb : Ev -> R D) : Ev -> R Bool := λ δ => (fa δ).bind λ x => (fb δ).bind λ y => op x y
noncomputable def CQ : R Bool -> R D
 | .ok b => .ok (.bl b)
 | .exc c => .exc c
 | .stuck => .stuck
noncomputable def d6 (op : D -> D -> R Bool) : D -> D -> R D := λ x y => CQ (op x y)
theorem fY {o : CmpOp} {r : R2} {op : D -> D -> R Bool} (ho : ∀ Y : Cx, Y.K = X.K -> Y.A = X.A -> jU Y (compareOp o) r) (hop : ml κ X r (d6 op)) (ha : cJ κ B X a fa) (hb : cJ κ B X b fb) (hm : behindInMarks o b = false) : k7 κ B X (.Compare a [o] [b] pos) (bI op fa fb) := λ pins σ Ex =>
 tK (zL (ho (At X pins σ Ex) rfl rfl) (ha pins σ Ex) (hb pins σ Ex) hm) λ τ H Q ⟨G, δ, rp, q⟩ => ⟨G, δ, rp, q.seq λ x v H1 G1 e1 d1 q1 => ⟨G1, δ, rp.ext e1, q1.seq λ y u H2 G2 e2 d2 q2 =>
  hop x y v u G2 H2 _ _ e2.GH (fg e2 d1) d2 (by
   unfold d6
   cases e : op x y with
   | ok k =>
    rw [e] at q2
    intro z H3 G3 e3 d3
    have d3' : z = .bl k := by simpa [aH] using d3
    exact ⟨k, d3', q2 k H3 G3 e3 rfl⟩
   | exc c => rw [e] at q2; exact q2
   | stuck => rw [e] at q2; exact q2)⟩⟩
theorem kO {G H : Hp} {v : V} {i : Int} (h : iM X κ G H v (.int i)) : v = .int i := by
 rcases h with h | ⟨_, _, _, _, e, _⟩
 ·simpa [aH] using h
 ·cases e
theorem nR {Z : Zx} {G : Hp} {i : Int} : aH Z G (.int i) (.int i) := by unfold aH; rfl
theorem CS {Z : Zx} {G : Hp} {i : Bool} : aH Z G (.bl i) (.bl i) := by unfold aH; rfl
theorem EA {Z : Zx} {G : Hp} {i : List Nat} : aH Z G (gW i) (.str i) := by unfold aH; rfl
theorem Ez {Z : Zx} {G : Hp} : aH Z G .non .non := by unfold aH; rfl
noncomputable def oI (C : Int -> Int -> Bool) (g : Int -> Int -> Int) : D -> D -> R D
 | .int i, .int j => if C i j then .ok (.int (g i j)) else .stuck
 | _, _ => .stuck
theorem tB {C : Int -> Int -> Prop} {C' : Int -> Int -> Bool} {g : Int -> Int -> Int} (hc : ∀ i j, C' i j = true -> C i j) : ml κ X (rI C λ i j => .int (g i j)) (oI C' g) := by
 intro x y v u G H Q E s d1 d2 q
 unfold oI at q
 split at q
 ·rename_i i j
  split at q
  ·rename_i h
   exact ⟨i, j, kO d1, kO d2, hc _ _ h, q _ H G (Ext.refl s) nR⟩
  ·exact q.elim
 ·exact q.elim
noncomputable def EN (g : Int -> Int -> Int) : D -> D -> R D
 | .int i, .int j => .ok (.int (g i j))
 | _, _ => .stuck
theorem zq {g : Int -> Int -> Int} : ml κ X (yz λ i j => .int (g i j)) (EN g) := by
 intro x y v u G H Q E s d1 d2 q
 unfold EN at q
 split at q
 ·exact ⟨_, _, kO d1, kO d2, q _ H G (Ext.refl s) nR⟩
 ·exact q.elim
noncomputable def fN : D -> D -> R D := EN λ i j => i - j
noncomputable def iR : D -> D -> R D := oI (λ i j => (decide (-(2 ^ 64) < i) && decide (i < 2 ^ 64)) || (decide (-(2 ^ 64) < j) && decide (j < 2 ^ 64))) λ i j => i * j
noncomputable def fM : D -> D -> R D := oI (λ _ j => decide (0 < j) && decide (j < 1073741824)) λ i j => i / j
noncomputable def ba : D -> D -> R D := oI (λ _ j => decide (0 < j)) λ i j => i % j
theorem B5 (ha : cJ κ B X a fa) (hb : cJ κ B X b fb) : PX κ B X (.BinOp a .Sub b pos) (m2 fN fa fb) := oS (λ _ _ => BI) zq ha hb
theorem zU (ha : cJ κ B X a fa) (hb : cJ κ B X b fb) : PX κ B X (.BinOp a .Mult b pos) (m2 iR fa fb) := oS (λ _ _ => BH) (tB λ i j h => by unfold yB; simpa using h) ha hb
theorem B0 (ha : cJ κ B X a fa) (hb : cJ κ B X b fb) : PX κ B X (.BinOp a .FloorDiv b pos) (m2 fM fa fb) := oS (λ _ _ => zu) (tB λ i j h => by unfold CW; simpa using h) ha hb
theorem B3 (ha : cJ κ B X a fa) (hb : cJ κ B X b fb) : PX κ B X (.BinOp a .Mod b pos) (m2 ba fa fb) := oS (λ _ _ => BG) (tB λ i j h => by simpa using h) ha hb
noncomputable def bz : D -> D -> R D
 | .int i, .int j => .ok (.int (i + j))
 | .str x, .str y => if x.length + y.length <= 1000000 then .ok (.str (x ++ y)) else .stuck
 | _, _ => .stuck
theorem rS {G H : Hp} {v : V} {x : List Nat} (h : iM X κ G H v (.str x)) : v = gW x := by
 rcases h with h | ⟨_, _, _, _, e, _⟩
 ·simpa [aH] using h
 ·cases e
theorem BE {Y : Cx} {f : Value -> Value -> Sem Value} {r r' : R2} (h : jU Y f r) (h' : jU Y f r') : jU Y f (λ x y H Q => r x y H Q \/ r' x y H Q) := by
 intro pins s σ H x y v u Q I rx ry q
 rcases q with q | q
 ·exact h pins s σ H x y v u Q I rx ry q
 ·exact h' pins s σ H x y v u Q I rx ry q
theorem sF {n : Nat} (h : n <= 1000000) : n <= sizeLine := Nat.le_trans h (by rw [sizeLine_eq]; decide)
theorem BX (ha : cJ κ B X a fa) (hb : cJ κ B X b fb) : PX κ B X (.BinOp a .Add b pos) (m2 bz fa fb) := oS (λ _ _ => BE BF tD) (by
 intro x y v u G H Q E s d1 d2 q
 unfold bz at q
 split at q
 ·exact .inl ⟨_, _, kO d1, kO d2, q _ H G (Ext.refl s) nR⟩
 ·rename_i x y
  split at q
  ·rename_i h
   refine .inr ⟨_, _, rS d1, rS d2, sF (by simpa [Str.length] using h), ?_⟩
   exact q _ H G (Ext.refl s) (by unfold aH; show V.str ⟨x.toArray ++ y.toArray⟩ = V.str ⟨(x ++ y).toArray⟩; simp)
  ·exact q.elim
 ·exact q.elim) ha hb
noncomputable def vp (p : Int -> Int -> Bool) : D -> D -> R Bool
 | .int i, .int j => .ok (p i j)
 | _, _ => .stuck
theorem hU {p : Int -> Int -> Bool} : ml κ X (yz λ i j => .bl (p i j)) (d6 (vp p)) := by
 intro x y v u G H Q E s d1 d2 q
 unfold d6 vp at q
 split at q
 ·exact ⟨_, _, kO d1, kO d2, q _ H G (Ext.refl s) CS⟩
 ·exact False.elim q
noncomputable def sv : D -> D -> R Bool := vp λ i j => decide (i < j)
noncomputable def yx : D -> D -> R Bool := vp λ i j => decide (i <= j)
noncomputable def yw : D -> D -> R Bool := vp λ i j => decide (j < i)
noncomputable def CV : D -> D -> R Bool := vp λ i j => decide (j <= i)
theorem DI (ha : cJ κ B X a fa) (hb : cJ κ B X b fb) (hm : behindInMarks .Lt b = false) : PX κ B X (.Compare a [.Lt] [b] pos) (m2 (d6 sv) fa fb) := nr (λ _ _ _ => AW) hU ha hb hm
theorem DH (ha : cJ κ B X a fa) (hb : cJ κ B X b fb) (hm : behindInMarks .LtE b = false) : PX κ B X (.Compare a [.LtE] [b] pos) (m2 (d6 yx) fa fb) := nr (λ _ _ _ => AV) hU ha hb hm
theorem Cd (ha : cJ κ B X a fa) (hb : cJ κ B X b fb) (hm : behindInMarks .Lt b = false) : k7 κ B X (.Compare a [.Lt] [b] pos) (bI sv fa fb) := fY (λ _ _ _ => AW) hU ha hb hm
theorem Cc (ha : cJ κ B X a fa) (hb : cJ κ B X b fb) (hm : behindInMarks .LtE b = false) : k7 κ B X (.Compare a [.LtE] [b] pos) (bI yx fa fb) := fY (λ _ _ _ => AV) hU ha hb hm
theorem Ca (ha : cJ κ B X a fa) (hb : cJ κ B X b fb) (hm : behindInMarks .Gt b = false) : k7 κ B X (.Compare a [.Gt] [b] pos) (bI yw fa fb) := fY (λ _ _ _ => Dv) hU ha hb hm
theorem B9 (ha : cJ κ B X a fa) (hb : cJ κ B X b fb) (hm : behindInMarks .GtE b = false) : k7 κ B X (.Compare a [.GtE] [b] pos) (bI CV fa fb) := fY (λ _ _ _ => Du) hU ha hb hm
noncomputable def yA : D -> R Bool
 | .non => .ok false
 | .bl b => .ok b
 | .int i => .ok (i != 0)
 | .str x => if x.length <= 1000000 then .ok (!x.isEmpty) else .stuck
 | .tup ds => .ok (!ds.isEmpty)
 | .lst ds => .ok (!ds.isEmpty)
 | .ob _ _ _ => .stuck
 | .dic _ _ => .stuck
theorem kG {Z : Zx} {G : Hp} {vs : List V} {ds : List D} (h : Dens Z G vs ds) : vs.isEmpty = ds.isEmpty := by
 have := h.length
 cases vs <;> cases ds <;> simp_all
noncomputable def mT (f : Ev -> R D) : Ev -> R Bool := λ δ => (f δ).bind yA
theorem E8 {G H : Hp} {v : V} {d : D} {k : Bool} (s : br G H) (h : iM X κ G H v d) (e : yA d = .ok k) : yG X.K v H k := by
 have seq : ∀ {a : Addr} {vs : List V} {ds : List D}, cr X.K H a vs -> Dens ⟨X.K, κ⟩ G vs ds -> R.ok (!ds.isEmpty) = R.ok k -> yG X.K (.ref a) H k := λ h1 h2 e => by
  injection e with e
  exact .inl ⟨_, h1, by rw [kG h2, e]⟩
 rcases h with h | ⟨a, vs, ds, rfl, rfl, h3, h4⟩
 ·cases d with
  | non => unfold aH at h; subst h; injection e with e; exact e.symm
  | bl b => unfold aH at h; subst h; injection e with e; exact e.symm
  | int i => unfold aH at h; subst h; injection e with e; exact e.symm
  | str x =>
   unfold aH at h; subst h
   simp only [yA] at e
   split at e
   ·rename_i hx
    injection e with e
    refine ⟨sF (by simpa [Str.length] using hx), ?_⟩
    rw [<- e]
    cases x with
    | nil => rfl
    | cons c l =>
     have : ((l.length + 1 : Nat) : Int) ≠ 0 := by omega
     simp [Str.length]
     exact this
   ·cases e
  | tup ds =>
   unfold aH at h
   obtain ⟨a, vs, rfl, h1, h2⟩ := h
   injection e with e
   exact .inr (.inl ⟨_, bt s h1, by rw [kG h2, e]⟩)
  | lst ds =>
   unfold aH at h
   obtain ⟨a, vs, rfl, h1, h2⟩ := h
   exact seq (s.seq h1) h2 e
  | ob _ _ _ => cases e
  | dic _ _ => cases e
 ·exact seq (cr.of h3) h4 e
theorem z7 (ha : cJ κ B X a fa) (he : ∀ whole, isTrue a X.env whole = (do let v ← whole; standAt a.pos; holding [v] (truthy v))) : k7 κ B X a (mT fa) := λ pins σ Ex =>
 tK (xE (X := At X pins σ Ex) (ha pins σ Ex) he) λ τ H Q ⟨G, δ, rp, q⟩ => ⟨G, δ, rp, q.seq λ x v H1 G1 e1 d1 q1 => by
  cases e : yA x with
  | ok k => rw [e] at q1; exact ⟨k, E8 e1.GH d1 e, q1 k H1 G1 (Ext.refl e1.GH) rfl⟩
  | exc c =>
   exfalso
   cases x <;> simp [yA] at e
   split at e <;> cases e
  | stuck => rw [e] at q1; exact q1.elim⟩
noncomputable def sX (f : Ev -> R Bool) : Ev -> R Bool := λ δ => (f δ).bind λ k => .ok (!k)
noncomputable def rh (f g : Ev -> R Bool) : Ev -> R Bool := λ δ => (f δ).bind λ k => if k then g δ else .ok false
noncomputable def uw (f g : Ev -> R Bool) : Ev -> R Bool := λ δ => (f δ).bind λ k => if k then .ok true else g δ
variable {ta tb : Ev -> R Bool} {rest : List Expr}
theorem zZ (ha : k7 κ B X a ta) : k7 κ B X (.UnaryOp .Not a pos) (sX ta) := λ pins σ Ex =>
 tK (BU (ha pins σ Ex)) λ τ H Q ⟨G, δ, rp, q⟩ => ⟨G, δ, rp, q.seq λ x v H1 G1 e1 d1 q1 => by
  cases d1
  exact q1 (!x) H1 G1 (Ext.refl e1.GH) rfl⟩
theorem xN (ha : k7 κ B X a ta) : yF κ B X (.BoolOp .And [a] pos) ta := λ pins σ Ex => zP (ha pins σ Ex)
theorem z9 (ha : k7 κ B X a ta) : yF κ B X (.BoolOp .Or [a] pos) ta := λ pins σ Ex => BW (ha pins σ Ex)
theorem z8 (ha : k7 κ B X a ta) (hb : yF κ B X (.BoolOp .And (b :: rest) pos) tb) : yF κ B X (.BoolOp .And (a :: b :: rest) pos) (rh ta tb) := λ pins σ Ex =>
 xG (BV (ha pins σ Ex) (hb pins σ Ex)) λ τ H Q ⟨G, δ, rp, q⟩ => ⟨G, δ, rp, q.seq λ x v H1 G1 e1 d1 q1 => by
  cases d1
  cases x with
  | true => exact ⟨G1, δ, rp.ext e1, q1⟩
  | false => exact q1 false H1 G1 (Ext.refl e1.GH) rfl⟩
theorem Cf (ha : k7 κ B X a ta) (hb : yF κ B X (.BoolOp .Or (b :: rest) pos) tb) : yF κ B X (.BoolOp .Or (a :: b :: rest) pos) (uw ta tb) := λ pins σ Ex =>
 xG (DC (ha pins σ Ex) (hb pins σ Ex)) λ τ H Q ⟨G, δ, rp, q⟩ => ⟨G, δ, rp, q.seq λ x v H1 G1 e1 d1 q1 => by
  cases d1
  cases x with
  | true => exact q1 true H1 G1 (Ext.refl e1.GH) rfl
  | false => exact ⟨G1, δ, rp.ext e1, q1⟩⟩
theorem yF.t (h : yF κ B X a ta) : k7 κ B X a ta := λ pins σ Ex => (h pins σ Ex).pt
noncomputable def lG : D -> R Bool
 | .bl b => .ok b
 | _ => .stuck
noncomputable def mZ (f g : Ev -> R D) : Ev -> R D := λ δ => (f δ).bind λ x => (lG x).bind λ k => if k then g δ else .ok (.bl false)
noncomputable def wQ (f g : Ev -> R D) : Ev -> R D := λ δ => (f δ).bind λ x => (lG x).bind λ k => if k then .ok (.bl true) else g δ
noncomputable def Dp (f : Ev -> R D) : Ev -> R D := λ δ => (f δ).bind λ x => (lG x).bind λ k => .ok (.bl (!k))
theorem qE {x : D} {α : Type} {k : Bool -> R α} {rel : Hp -> Hp -> V -> α -> Prop} {E : XK} {G H : Hp} {Q : V -> Hp -> Prop} {v : V} {Z : Zx} {G' : Hp} (d : aH Z G' v x) (h : pd rel κ E G H ((lG x).bind k) Q) : ∃ c, v = .bl c /\ x = .bl c /\ pd rel κ E G H (k c) Q := by
 cases x with
 | bl c => exact ⟨c, by simpa [aH] using d, rfl, h⟩
 | _ => exact h.elim
theorem B4 {op} (h : PX κ B X a fa) : PX κ B X (.BoolOp op [a] pos) fa := λ pins σ Ex => BL (h pins σ Ex)
theorem BY (ha : PX κ B X a fa) (hb : PX κ B X (.BoolOp .And (b :: rest) pos) fb) : PX κ B X (.BoolOp .And (a :: b :: rest) pos) (mZ fa fb) := λ pins σ Ex =>
 bp (BK (ha pins σ Ex) (hb pins σ Ex)) λ τ H Q ⟨G, δ, rp, q⟩ => ⟨G, δ, rp, q.seq λ x v H1 G1 e1 d1 q1 => by
  obtain ⟨k, rfl, rfl, q1⟩ := qE d1 q1
  refine ⟨k, rfl, ?_⟩
  cases k with
  | true => exact ⟨G1, δ, rp.ext e1, q1⟩
  | false => exact q1 _ H1 G1 (Ext.refl e1.GH) CS⟩
theorem DK (ha : PX κ B X a fa) (hb : PX κ B X (.BoolOp .Or (b :: rest) pos) fb) : PX κ B X (.BoolOp .Or (a :: b :: rest) pos) (wQ fa fb) := λ pins σ Ex =>
 bp (Dy (ha pins σ Ex) (hb pins σ Ex)) λ τ H Q ⟨G, δ, rp, q⟩ => ⟨G, δ, rp, q.seq λ x v H1 G1 e1 d1 q1 => by
  obtain ⟨k, rfl, rfl, q1⟩ := qE d1 q1
  refine ⟨k, rfl, ?_⟩
  cases k with
  | false => exact ⟨G1, δ, rp.ext e1, q1⟩
  | true => exact q1 _ H1 G1 (Ext.refl e1.GH) CS⟩
noncomputable def Bz (t : Ev -> R Bool) (f g : Ev -> R D) : Ev -> R D := λ δ => (t δ).bind λ k => if k then f δ else g δ
theorem DE (hc : k7 κ B X c ta) (ha : PX κ B X a fa) (hb : PX κ B X b fb) : PX κ B X (.IfExp c a b pos) (Bz ta fa fb) := λ pins σ Ex =>
 bp (xk (hc pins σ Ex) (ha pins σ Ex) (hb pins σ Ex)) λ τ H Q ⟨G, δ, rp, q⟩ => ⟨G, δ, rp, q.seq λ x v H1 G1 e1 d1 q1 => by
  cases d1
  cases x with
  | true => exact ⟨G1, δ, rp.ext e1, q1⟩
  | false => exact ⟨G1, δ, rp.ext e1, q1⟩⟩
noncomputable def bV : D -> D -> R D
 | .lst ds, .int i => match lF ds i with | some d => .ok d | none => .stuck
 | .tup ds, .int i => match lF ds i with | some d => .ok d | none => .stuck
 | .str x, .int i => if x.length <= 1000000 then (match lF x i with | some c => .ok (.str [c]) | none => .stuck) else .stuck
 | _, _ => .stuck
theorem qR {Z : Zx} {G : Hp} {vs : List V} {ds : List D} {i : Int} {d : D} (h : Dens Z G vs ds) (e : lF ds i = some d) : ∃ v, lF vs i = some v /\ aH Z G v d := by
 unfold lF at e ⊢
 rw [h.length]
 cases q : AN ds.length i with
 | none => rw [q] at e; cases e
 | some j =>
  rw [q] at e
  exact h.get e
theorem DG (ha : cJ κ B X a fa) (hb : cJ κ B X b fb) (hs : pf b) : PX κ B X (.Subscript a b pos) (m2 bV fa fb) := λ pins σ Ex =>
 bp (AX (Bq (X := At X pins σ Ex)) (ha pins σ Ex) (hb pins σ Ex) hs) λ τ H Q ⟨G, δ, rp, q⟩ => ⟨G, δ, rp, q.seq λ x v H1 G1 e1 d1 q1 => ⟨G1, δ, rp.ext e1, q1.seq λ y u H2 G2 e2 d2 q2 => by
  have d1 := fg e2 d1
  have lst : ∀ {p : Addr} {vs : List V} {ds : List D} {i : Int}, cr X.K H2 p vs -> Dens ⟨X.K, κ⟩ G2 vs ds -> u = .int i -> pd (iF X κ) κ (EX X pins σ Ex) G2 H2 (match lF ds i with | some d => .ok d | none => .stuck) Q -> Fc X.K (.ref p) u H2 Q := λ {p vs ds i} h1 h2 h3 q => by
   cases e : lF ds i with
   | none => rw [e] at q; exact q.elim
   | some d =>
    rw [e] at q
    obtain ⟨w, x1, x2⟩ := qR h2 e
    exact .inl ⟨p, vs, i, w, rfl, h3, h1, x1, q w H2 G2 (Ext.refl e2.GH) x2⟩
  cases y with
  | int i =>
   cases x with
   | lst ds =>
    rcases d1 with d1 | ⟨p, vs, es, rfl, e, h3, h4⟩
    ·unfold aH at d1
     obtain ⟨p, vs, rfl, h1, h2⟩ := d1
     exact lst (e2.GH.seq h1) h2 (kO d2) q2
    ·cases e
     exact lst (cr.of h3) h4 (kO d2) q2
   | tup ds =>
    rcases d1 with d1 | ⟨p, vs, es, rfl, e, h3, h4⟩
    ·unfold aH at d1
     obtain ⟨p, vs, rfl, h1, h2⟩ := d1
     simp only [bV] at q2
     cases e : lF ds i with
     | none => rw [e] at q2; exact False.elim q2
     | some d =>
      rw [e] at q2
      obtain ⟨w, x1, x2⟩ := qR h2 e
      exact .inr (.inl ⟨p, vs, i, w, rfl, kO d2, bt e2.GH h1, x1, q2 w H2 G2 (Ext.refl e2.GH) x2⟩)
    ·cases e
   | str x =>
    simp only [bV] at q2
    split at q2
    ·rename_i hx
     cases e : lF x i with
     | none => rw [e] at q2; exact False.elim q2
     | some d =>
      rw [e] at q2
      have ev := rS d1
      subst ev
      exact .inr (.inr ⟨_, i, d, rfl, kO d2, sF (by simpa [Str.length] using hx), by simpa using e, q2 _ H2 G2 (Ext.refl e2.GH) (by unfold aH; rfl)⟩)
    ·exact False.elim q2
   | _ => exact False.elim q2
  | _ => cases x <;> exact False.elim q2⟩⟩
noncomputable def aq : Ev -> R (List D) := λ _ => .ok []
noncomputable def ag (f : Ev -> R D) (g : Ev -> R (List D)) : Ev -> R (List D) := λ δ => (f δ).bind λ x => (g δ).bind λ xs => .ok (x :: xs)
variable {es : List Expr} {fs : Ev -> R (List D)}
theorem qd : mn κ B X [] aq := λ pins σ Ex => xi gT λ τ H Q ⟨G, δ, rp, q⟩ => q [] H G (Ext.refl rp.GH) aP
theorem rN (ha : PX κ B X a fa) (hr : mn κ B X es fs) (hs : starEach (a :: es) X.env = (false, eval a X.env) :: starEach es X.env) : mn κ B X (a :: es) (ag fa fs) := λ pins σ Ex =>
 xi (fe (X := At X pins σ Ex) (ha pins σ Ex) (hr pins σ Ex) hs) λ τ H Q ⟨G, δ, rp, q⟩ => ⟨G, δ, rp, q.seq λ x v H1 G1 e1 d1 q1 => ⟨G1, δ, rp.ext e1, q1.seq λ y u H2 G2 e2 d2 q2 =>
  q2 (v :: u) H2 G2 (Ext.refl e2.GH) (aR (d1.mono e2.sG) d2)⟩⟩
theorem eX {G H : Hp} {p : Addr} {o : HO} (s : br G H) (n : H p = none) : Ext G H (cD G p o) (cD H p o) := by
 have ng := s.free n
 refine ⟨λ b u e => ?_, λ b u e => ?_, λ b u e => ?_, λ b e => ?_⟩
 ·rw [ar (aC e ng)]; exact e
 ·rw [ar (aC e n)]; exact e
 ·by_cases hb : b = p
  ·subst hb; rw [aA] at e ⊢; exact e
  ·rw [ar hb] at e ⊢; exact s b u e
 ·by_cases hb : b = p
  ·subst hb; exact .inr n
  ·rw [ar hb] at e; exact .inl e
noncomputable def m3 (f : Ev -> R (List D)) : Ev -> R D := λ δ => (f δ).bind λ xs => if xs.length <= 1000000 then .ok (.tup xs) else .stuck
noncomputable def cC (f : Ev -> R (List D)) : Ev -> R D := λ δ => (f δ).bind λ xs => if xs.length <= 1000000 then .ok (.lst xs) else .stuck
theorem B6 {k : Nat} (h : mn κ B X es fs) : PX κ B X (.Tuple es k pos) (m3 fs) := λ pins σ Ex =>
 bp (BM (h pins σ Ex)) λ τ H Q ⟨G, δ, rp, q⟩ => ⟨G, δ, rp, q.seq λ x v H1 G1 e1 d1 q1 => by
  split at q1
  ·rename_i hl
   refine ⟨sF (by rw [d1.length]; exact hl), λ p hp => ?_⟩
   have e := eX (o := .tup v) e1.GH hp
   exact q1 _ _ _ e (by unfold aH; exact ⟨p, v, rfl, k9.of aA, d1.mono e.sG⟩)
  ·exact q1.elim⟩
theorem B2 (h : mn κ B X es fs) : PX κ B X (.List es pos) (cC fs) := λ pins σ Ex =>
 bp (qa (h pins σ Ex)) λ τ H Q ⟨G, δ, rp, q⟩ => ⟨G, δ, rp, q.seq λ x v H1 G1 e1 d1 q1 => by
  split at q1
  ·rename_i hl
   refine ⟨sF (by rw [d1.length]; exact hl), λ p hp => ?_⟩
   have e := eX (o := .lst v) e1.GH hp
   exact q1 _ _ _ e (by unfold aH; exact ⟨p, v, rfl, cr.of aA, d1.mono e.sG⟩)
  ·exact q1.elim⟩
end
noncomputable def DR (K : PySem.W.Frag) (κ : Nat -> Addr) (n : Nat) (m : List D -> R D) : Sp := λ vs H Q E => vs.length = n /\ ∃ G ds, br G H /\ Dens ⟨K, κ⟩ G vs ds /\ pd (λ G _ v d => aH ⟨K, κ⟩ G v d) κ E G H (m ds) Q
structure Cal (κ : Nat -> Addr) (X : Cx) (x : Str) (n : Nat) (m : List D -> R D) : Prop where
 ex : ∃ f fd ps k, FnOk X.prog X.w X.K X.mg X.base (sx X.prog X.w) k f fd ps (DR X.K κ n m) /\ Room k X.A /\ X.mg x = some (.ref f) /\ PySem.W.keepIn X.K (.ref f) = true /\ ke X.K fd ps []
section
variable {κ : Nat -> Addr} {B : Gd} {X : Cx} {a : Expr} {es : List Expr} {fs : Ev -> R (List D)} {p pos : Pos} {x : Str} {m : List D -> R D} {n : Nat}
noncomputable def aF (m : List D -> R D) (fs : Ev -> R (List D)) : Ev -> R D := λ δ => (fs δ).bind m
theorem zR (c : Cxo X) (C : Cal κ X x n m) (hn : (a :: es).length = n) (hg : Gl X x) (ha : mn κ B X (a :: es) fs) (hdb : (x == ("__debug__" : Str)) = false) (he : starEach (a :: es) X.env = (false, eval a X.env) :: starEach es X.env) (hpl : (backTo pos (starEach es X.env)).any (·.1) = false)
  (hlen : ∀ δ ds, fs δ = .ok ds -> ds.length = n) : PX κ B X (.Call (.Name x p) (a :: es) [] pos) (aF m fs) := λ pins σ Ex => by
 obtain ⟨f, fd, ps, k, F, hr, hm, hk, hb⟩ := C.ex
 refine bp (zx (X := At X pins σ Ex) (E := EX X pins σ Ex) F hr hg hm hk hb .nil (vC c) (ha pins σ Ex) hdb he hpl) λ τ H Q ⟨G, δ, rp, q⟩ => ⟨G, δ, rp, ?_⟩
 unfold aF at q
 cases e : fs δ with
 | ok ds =>
  rw [e] at q
  intro v H1 G1 e1 d1
  rw [List.append_nil]
  exact ⟨by rw [Dens.length d1, hlen δ ds e], G1, ds, e1.GH, d1, pd.pre e1 q⟩
 | exc c => rw [e] at q; exact q
 | stuck => rw [e] at q; exact q
end
end L3
namespace L3
open PySem PySem.Spec PyProof.Rows L2
inductive SR where
 | next (δ : Ev) | brk (δ : Ev) | cont (δ : Ev) | ret (d : D) | exc (c : Nat) (δ : Ev) | stuck
noncomputable def bS {α : Type} (r : R α) (δ : Ev) (k : α -> SR) : SR := match r with
 | .ok d => k d
 | .exc c => .exc c δ
 | .stuck => .stuck
@[simp] theorem fI {α : Type} (d : α) (δ : Ev) (k : α -> SR) : bS (.ok d) δ k = k d := rfl
@[simp] theorem Ew {α : Type} (c : Nat) (δ : Ev) (k : α -> SR) : bS (.exc c) δ k = .exc c δ := rfl
@[simp] theorem C8 {α : Type} (δ : Ev) (k : α -> SR) : bS .stuck δ k = .stuck := rfl
noncomputable def bH (κ : Nat -> Addr) (B : Gd) (X : Cx) (Ex : Value -> Shared -> Prop) (pins : List (Addr × Obj)) (Dn : Ends) (r : SR) : Prop := match r with
 | .next δ' => ∀ σ' H' G', Rep ⟨X.K, κ⟩ B X.H₀ G' H' σ' δ' -> Dn.nx σ' H'
 | .brk δ' => ∀ σ' H' G', Rep ⟨X.K, κ⟩ B X.H₀ G' H' σ' δ' -> Dn.bk σ' H'
 | .cont δ' => ∀ σ' H' G', Rep ⟨X.K, κ⟩ B X.H₀ G' H' σ' δ' -> Dn.ct σ' H'
 | .ret d => ∀ v H' G', Hold B X.H₀ G' H' -> aH ⟨X.K, κ⟩ G' v d -> Dn.rt v H'
 | .exc c δ' => ∀ ea s' σ' H' G', Inv (X.wish Ex) pins σ' H' s' -> Flies X pins H' s' ea (.ref (κ c)) -> Rep ⟨X.K, κ⟩ B X.H₀ G' H' σ' δ' -> Ex (.ref ea) s'
 | .stuck => False
noncomputable def PZ (κ : Nat -> Addr) (B : Gd) (X : Cx) (st : Stmt) (F : Ev -> SR) : Prop := ∀ Ex pins s σ H G δ Dn, PassesOwn (model X.prog X.w) X.A X.env Ex -> Inv (X.wish Ex) pins σ H s -> Rep ⟨X.K, κ⟩ B X.H₀ G H σ δ -> bH κ B X Ex pins Dn (F δ) →
 wpAny (model X.prog X.w) X.A (exec st X.env) (SP (X.wish Ex) pins Dn) Ex s
noncomputable def qu (κ : Nat -> Addr) (B : Gd) (X : Cx) (st : List Stmt) (F : Ev -> SR) : Prop := ∀ Ex pins s σ H G δ Dn, PassesOwn (model X.prog X.w) X.A X.env Ex -> Inv (X.wish Ex) pins σ H s -> Rep ⟨X.K, κ⟩ B X.H₀ G H σ δ -> bH κ B X Ex pins Dn (F δ) →
 wpAny (model X.prog X.w) X.A (execs st X.env) (SP (X.wish Ex) pins Dn) Ex s
section
variable {κ : Nat -> Addr} {B : Gd} {X : Cx} {e a b c : Expr} {f fa fb : Ev -> R D} {pos pos' : Pos} {Ex : Value -> Shared -> Prop} {pins : List (Addr × Obj)} {s : Shared} {σ : St} {H G : Hp} {δ : Ev} {Dn : Ends}
theorem PX.stm (cx : Cxo X) (h : PX κ B X e f) (I : Inv (X.wish Ex) pins σ H s) (rp : Rep ⟨X.K, κ⟩ B X.H₀ G H σ δ) {k : D -> SR} (hp : bH κ B X Ex pins Dn (bS (f δ) δ k)) :
  wpAny (model X.prog X.w) X.A (eval e X.env) (λ u s' => ∃ d v H' G', Inv (X.wish Ex) pins σ H' s' /\ aM v u /\ Rep ⟨X.K, κ⟩ B X.H₀ G' H' σ δ /\ aH ⟨X.K, κ⟩ G' v d /\ bH κ B X Ex pins Dn (k d)) Ex s := by
 refine bw (h pins σ Ex pins s σ H (λ v H' => ∃ d G', Rep ⟨X.K, κ⟩ B X.H₀ G' H' σ δ /\ aH ⟨X.K, κ⟩ G' v d /\ bH κ B X Ex pins Dn (k d)) (iG I) ⟨G, δ, rp, ?_⟩) λ u s' ⟨v, H', I', r, d, G', x1, x2, x3⟩ => ⟨d, v, H', G', cG cx.sg I', r, x1, x2, x3⟩
 cases q : f δ with
 | ok d => rw [q] at hp; exact λ v H' G' e1 d1 => ⟨d, G', rp.ext e1, d1, hp⟩
 | exc c => rw [q] at hp; exact λ H' G' e1 ea s' I' F => hp ea s' σ H' G' I' F (rp.ext e1)
 | stuck => rw [q] at hp; exact hp
theorem k7.stm (cx : Cxo X) {f : Ev -> R Bool} (h : k7 κ B X e f) (I : Inv (X.wish Ex) pins σ H s) (rp : Rep ⟨X.K, κ⟩ B X.H₀ G H σ δ) {k : Bool -> SR} (hp : bH κ B X Ex pins Dn (bS (f δ) δ k)) :
  wpAny (model X.prog X.w) X.A (isTrue e X.env (eval e X.env)) (λ u s' => ∃ H' G', Inv (X.wish Ex) pins σ H' s' /\ Rep ⟨X.K, κ⟩ B X.H₀ G' H' σ δ /\ bH κ B X Ex pins Dn (k u)) Ex s := by
 refine bw (h pins σ Ex pins s σ H (λ v H' => ∃ G', Rep ⟨X.K, κ⟩ B X.H₀ G' H' σ δ /\ bH κ B X Ex pins Dn (k v)) (iG I) ⟨G, δ, rp, ?_⟩) λ u s' ⟨H', I', G', x1, x2⟩ => ⟨H', G', cG cx.sg I', x1, x2⟩
 cases q : f δ with
 | ok d =>
  rw [q] at hp
  intro v H' G' e1 d1
  cases d1
  exact ⟨G', rp.ext e1, hp⟩
 | exc c => rw [q] at hp; exact λ H' G' e1 ea s' I' F => hp ea s' σ H' G' I' F (rp.ext e1)
 | stuck => rw [q] at hp; exact hp
noncomputable def av (F1 F2 : Ev -> SR) : Ev -> SR := λ δ => match F1 δ with
 | .next δ' => F2 δ'
 | r => r
theorem Ad : qu κ B X [] SR.next := λ Ex pins s σ H G δ Dn hp I rp h => wpAny_execs_nil ⟨σ, H, I, h σ H G rp⟩
theorem xQ {st : Stmt} {rest : List Stmt} {F1 F2 : Ev -> SR} (h1 : PZ κ B X st F1) (h2 : qu κ B X rest F2) : qu κ B X (st :: rest) (av F1 F2) := λ Ex pins s σ H G δ Dn hp I rp h => by
 refine wpAny_execs_cons (bw (h1 Ex pins s σ H G δ { Dn with nx := λ σ' H' => ∃ G' δ', Rep ⟨X.K, κ⟩ B X.H₀ G' H' σ' δ' /\ bH κ B X Ex pins Dn (F2 δ') } hp I rp ?_) λ f s1 q => ?_)
 ·unfold av at h
  cases q : F1 δ with
  | next δ' => rw [q] at h; exact λ σ' H' G' r => ⟨G', δ', r, h⟩
  | brk δ' => rw [q] at h; exact h
  | cont δ' => rw [q] at h; exact h
  | ret d => rw [q] at h; exact h
  | exc c δ' => rw [q] at h; exact h
  | stuck => rw [q] at h; exact h
 ·cases f with
  | next =>
   obtain ⟨σ', H', I', G', δ', r, q⟩ := q
   exact h2 Ex pins s1 σ' H' G' δ' Dn hp I' r q
  | ret v => exact q
  | brk => exact q
  | cont => exact q
theorem Ae {st : Stmt} {F : Ev -> SR} (h1 : PZ κ B X st F) : qu κ B X [st] F := λ Ex pins s σ H G δ Dn hp I rp h => by
 refine wpAny_execs_cons (bw (h1 Ex pins s σ H G δ Dn hp I rp h) λ f s1 q => ?_)
 cases f with
 | next => exact wpAny_execs_nil q
 | ret v => exact q
 | brk => exact q
 | cont => exact q
theorem Ac (i : Nat) {sts : List Stmt} {F : Ev -> SR} (h : qu κ B X sts F) : qu κ B X sts (λ δ => F (mO i δ)) := λ Ex pins s σ H G δ Dn hp I rp q => by
 obtain ⟨G', r'⟩ := rp.freeze i
 exact h Ex pins s σ H G' _ Dn hp I r' q
noncomputable def bq (f : Ev -> R D) : Ev -> SR := λ δ => bS (f δ) δ .ret
theorem Ck (cx : Cxo X) (h : PX κ B X e f) : PZ κ B X (.Return (some e) pos) (bq f) := λ Ex pins s σ H G δ Dn hp I rp q =>
 wpAny_Return_some (bw (h.stm cx I rp q) λ v s1 ⟨d, x, H', G', I', r, rp', dn, q⟩ => ⟨x, σ, H', I', r, q x H' G' rp'.toHold dn⟩)
noncomputable def ss (f : Ev -> R D) : Ev -> SR := λ δ => bS (f δ) δ λ _ => .next δ
theorem Aa (cx : Cxo X) (h : PX κ B X e f) (hs : swapsWith e none pos.line X.env = pure false) : PZ κ B X (.Expr e pos) (ss f) := λ Ex pins s σ H G δ Dn hp I rp q =>
 wpAny_Expr_any (bw (h.stm cx I rp q) λ v s1 ⟨d, x, H', G', I', r, rp', dn, q⟩ => ⟨σ, H', I', q σ H' G' rp'⟩) I.quiet hs
noncomputable def aV (i : Nat) (f : Ev -> R D) : Ev -> SR := λ δ => bS (f δ) δ λ d => .next (δ.set i (some (.sh d)))
theorem Cm (cx : Cxo X) {i : Nat} {x : Str} (hN : X.N.Nodup) (hi : X.N[i]? = some x) (hx : nN X.env.scope x) (hf : X.fn x = true \/ X.env.scope.names.lookup x = some .local) (h : PX κ B X e f) (hs : swapsWith e (some (.Name x pos')) pos.line X.env = pure false) :
  PZ κ B X (.Assign [.Name x pos'] e pos) (aV i f) := λ Ex pins s σ H G δ Dn hp I rp q => by
 refine wpAny_Assign_Name (bw (h.stm cx I rp q) λ v s1 ⟨d, y, H', G', I', r, rp', dn, q⟩ => ?_) hs
 exact ju (X := X.wish Ex) I' hN hi hx r (λ s2 I2 => ⟨_, H', I2, q _ H' G' (rp'.setSh dn)⟩) hf (λ p σ v _ => cx.sg p _)
noncomputable def eJ (t : Ev -> R Bool) (F1 F2 : Ev -> SR) : Ev -> SR := λ δ => bS (t δ) δ λ k => if k then F1 δ else F2 δ
theorem DL (cx : Cxo X) {t : Ev -> R Bool} {s1 s2 : List Stmt} {F1 F2 : Ev -> SR} (hc : k7 κ B X c t) (h1 : qu κ B X s1 F1) (h2 : qu κ B X s2 F2) : PZ κ B X (.If c s1 s2 pos) (eJ t F1 F2) := λ Ex pins s σ H G δ Dn hp I rp q => by
 refine wpAny_If (bw (hc.stm cx I rp q) λ d s1 ⟨H', G', I', rp', q⟩ => ?_)
 cases d with
 | true => exact h1 Ex pins s1 σ H' G' δ Dn hp I' rp' q
 | false => exact h2 Ex pins s1 σ H' G' δ Dn hp I' rp' q
noncomputable def kT (i : Nat) (g : Int -> Int -> Int) (f : Ev -> R D) : Ev -> SR := λ δ => match δ[i]? with
 | some (some (.sh (.int x))) => bS (f δ) δ λ d => match d with
  | .int y => .next (δ.set i (some (.sh (.int (g x y)))))
  | _ => .stuck
 | _ => .stuck
theorem Ch (cx : Cxo X) {i : Nat} {x : Str} {op : Operator} {g : Int -> Int -> Int} (ho : ∀ Y : Cx, Eg Y op (Ei g)) (hN : X.N.Nodup) (hi : X.N[i]? = some x) (hx : nN X.env.scope x) (hf : X.fn x = true \/ X.env.scope.names.lookup x = some .local) (h : PX κ B X e f) :
  PZ κ B X (.AugAssign (.Name x pos') op e pos) (kT i g f) := λ Ex pins s σ H G δ Dn hp I rp q => by
 unfold kT at q
 split at q
 ·rename_i z ez
  obtain ⟨v, e1, e2⟩ := rp.sh i _ ez
  have e2' : v = .int z := by simpa [aH] using e2
  subst e2'
  obtain ⟨m, hn, hl⟩ := I.loc
  have vis : og X.env.scope x := by rcases hx with k | k; exact .inl k; exact .inr (.inl k)
  obtain ⟨u, r, l⟩ := hl i x _ hi e1 vis
  refine wpAny_AugAssign_Name ?_
  have go : wpAny (model X.prog X.w) X.A (eval e X.env) (λ w s₂ => wpAny (model X.prog X.w) X.A (inplaceOp op u w) (λ r s₃ => wpAny (model X.prog X.w) X.A (storeName X.env x r) (λ _ => SP (X.wish Ex) pins Dn .next) Ex s₃) Ex s₂) Ex s := by
   refine bw (h.stm cx I rp q) λ w s1 ⟨d, y, H1, G1, I1, r1, rp1, dn, q1⟩ => ?_
   cases d with
   | int j =>
    have dn' : y = .int j := by simpa [aH] using dn
    subst dn'
    refine bw (ho (X.wish Ex) pins s1 σ H1 (.int z) (.int j) u w (λ v H' => H' = H1 /\ v = .int (g z j)) I1 r r1 ⟨z, j, rfl, rfl, rfl, rfl⟩) λ w2 s2 ⟨zv, H2, I2, r2, e3, e4⟩ => ?_
    subst e3
    subst e4
    exact ju (X := X.wish Ex) I2 hN hi hx r2 (λ s3 I3 => ⟨_, _, I3, q1 _ _ G1 (rp1.setSh nR)⟩) hf (λ p σ v _ => cx.sg p _)
   | _ => exact False.elim q1
  rcases l with ⟨hk, hm⟩ | ⟨hk, c, hc, hcell⟩
  ·exact wpAny_loadName_local I.ok.kind hk hn hm go
  ·rcases hk with hk | hk
   ·exact wpAny_loadName_cell I.ok.kind hk hc hcell go
   ·rcases hx with k | k
    ·have : X.env.scope.names.lookup x = some .free := hk
     rw [k] at this; cases this
    ·have : X.env.scope.names.lookup x = some .free := hk
     rw [k] at this; cases this
 ·exact False.elim q
noncomputable def gZ (κ : Nat -> Addr) (B : Gd) (X : Cx) (bnd : D -> Ev -> Option Ev) : TG := λ v σ H Q => ∃ G δ d δ', Rep ⟨X.K, κ⟩ B X.H₀ G H σ δ /\ aH ⟨X.K, κ⟩ G v d /\ bnd d δ = some δ' /\ ∀ σ', Rep ⟨X.K, κ⟩ B X.H₀ G H σ' δ' -> Q σ' H
noncomputable def v5 (κ : Nat -> Addr) (B : Gd) (X : Cx) (tg : Expr) (bnd : D -> Ev -> Option Ev) : Prop := ∀ Ex, PG (X.wish Ex) tg (gZ κ B X bnd)
noncomputable def Fk (κ : Nat -> Addr) (B : Gd) (X : Cx) (bnd : List D -> Ev -> Option Ev) : v8 := λ vs σ H Q => ∃ G δ ds δ', Rep ⟨X.K, κ⟩ B X.H₀ G H σ δ /\ Dens ⟨X.K, κ⟩ G vs ds /\ bnd ds δ = some δ' /\ ∀ σ', Rep ⟨X.K, κ⟩ B X.H₀ G H σ' δ' -> Q σ' H
noncomputable def qy (κ : Nat -> Addr) (B : Gd) (X : Cx) (tg : List Expr) (bnd : List D -> Ev -> Option Ev) : Prop := ∀ Ex, AD (X.wish Ex) tg (Fk κ B X bnd)
theorem xq {Y : Cx} {t : Expr} {g g' : TG} (h : PG Y t g) (k : ∀ v σ H Q, g' v σ H Q -> g v σ H Q) : PG Y t g' := λ pins s σ H v u Q I r q => h pins s σ H v u Q I r (k v σ H Q q)
theorem uG {Y : Cx} {t : List Expr} {g g' : v8} (h : AD Y t g) (k : ∀ v σ H Q, g' v σ H Q -> g v σ H Q) : AD Y t g' := λ pins s σ H v u Q I r q => h pins s σ H v u Q I r (k v σ H Q q)
noncomputable def bN (i : Nat) : D -> Ev -> Option Ev := λ d δ => some (δ.set i (some (.sh d)))
theorem xt (cx : Cxo X) {i : Nat} {x : Str} (hN : X.N.Nodup) (hi : X.N[i]? = some x) (hx : nN X.env.scope x) (hf : X.fn x = true \/ X.env.scope.names.lookup x = some .local) : v5 κ B X (.Name x pos) (bN i) := λ Ex =>
 xq (l9 (X := X.wish Ex) hN hi hx hf (λ p σ v _ => cx.sg p _)) λ v σ H Q ⟨G, δ, d, δ', rp, dn, e, k⟩ => by
  cases e
  exact k _ (rp.setSh dn)
noncomputable def om : List D -> Ev -> Option Ev := λ ds δ => match ds with | [] => some δ | _ => none
noncomputable def dr (b : D -> Ev -> Option Ev) (bs : List D -> Ev -> Option Ev) : List D -> Ev -> Option Ev := λ ds δ => match ds with | d :: r => (b d δ).bind (bs r) | _ => none
theorem xu : qy κ B X [] om := λ Ex => uG uH λ vs σ H Q ⟨G, δ, ds, δ', rp, dn, e, k⟩ => by
 cases ds with
 | nil =>
  cases vs with
  | nil => cases e; exact ⟨rfl, k σ rp⟩
  | cons _ _ => unfold Dens at dn; exact dn.elim
 | cons _ _ => cases e
theorem vF {tg : Expr} {tgs : List Expr} {bd : D -> Ev -> Option Ev} {bs : List D -> Ev -> Option Ev} (h1 : v5 κ B X tg bd) (h2 : qy κ B X tgs bs)
  (hs : (assignEach (tg :: tgs) X.env).map (·.2) = assign tg X.env :: (assignEach tgs X.env).map (·.2)) : qy κ B X (tg :: tgs) (dr bd bs) := λ Ex =>
 uG (nk (X := X.wish Ex) (h1 Ex) (h2 Ex) hs) λ vs σ H Q ⟨G, δ, ds, δ', rp, dn, e, k⟩ => by
  cases ds with
  | nil => cases e
  | cons d r =>
   cases vs with
   | nil => unfold Dens at dn; exact dn.elim
   | cons v vr =>
    unfold Dens at dn
    simp only [dr] at e
    cases q : bd d δ with
    | none => rw [q] at e; cases e
    | some δ1 =>
     rw [q] at e
     exact ⟨v, vr, rfl, G, δ, d, δ1, rp, dn.1, q, λ σ' r' => ⟨G, δ1, r, δ', r', dn.2, e, k⟩⟩
theorem qV {P : Program} {w : World} {A : Around} {E : Value -> Shared -> Prop} {it l : Addr} {its : Array Value} (hne : l ≠ it) : ∀ (n i : Nat) (s : Shared) (Q : List Value -> Shared -> Prop), s.heap.IsListIter it l i -> s.heap.IsList l its -> i + n <= its.size →
  (∀ h', h'.IsListIter it l (i + n) -> Heap.SameBut it s.heap h' -> Q ((its.toList.drop i).take n) { s with heap := h' }) -> wpAny (model P w) A (draw (.ref it) n) Q E s
 | 0, i, s, Q, hi, _, _, q => by
  have z := q s.heap hi (Heap.SameBut.refl ..)
  rw [List.take_zero] at z
  exact wpAny_pure z
 | n + 1, i, s, Q, hi, hl, hle, q => by
  have lt : i < its.size := by omega
  show wpAny _ _ (pyNext (.ref it) >>= _) Q E s
  refine wpAny_bind (wpAny_pyNext_list_item hi hl (x := its[i]) (by simp [lt]) λ g hg sg => wpAny_bind (wpAny_holding (qV hne n (i + 1) _ _ hg (hl.extBut sg.extBut hne) (by omega) λ g2 hg2 sg2 => wpAny_pure ?_)))
  have z := q g2 (by rw [show i + (n + 1) = i + 1 + n by omega]; exact hg2) (sg.trans sg2)
  rw [show its.toList.drop i = its[i] :: its.toList.drop (i + 1) by simp [List.drop_eq_getElem_cons, lt], List.take_succ_cons] at z
  exact z
theorem tZ {P : Program} {w : World} {A : Around} {E : Value -> Shared -> Prop} {s : Shared} {l : Addr} {its : Array Value} {tgs : List (Bool × (Value -> Sem Unit))} {Q : Unit -> Shared -> Prop} (hh : A.handled = none) (hl : s.heap.IsList l its)
  (hn : tgs.length = its.size) (hs : tgs.findIdx? (·.1) = none) (h : ∀ h', Heap.ExtBut s.heap.objs.size s.heap h' -> wpAny (model P w) A (assignInOrder (tgs.map (·.2)) its.toList) Q E { s with heap := h' }) : wpAny (model P w) A (unpack (.ref l) tgs) Q E s := by
 have ne : l ≠ s.heap.objs.size := by
  obtain ⟨o, ho, _⟩ := hl
  exact Nat.ne_of_lt (Heap.lt_size ho)
 unfold unpack
 rw [hn, hs]
 refine wpAny_bind (wpAny_holding ?_)
 unfold unpackItems
 refine wpAny_bind ?_
 unfold notIterableAtAll
 refine wpAny_bind (wpAny_specialOf hl.typeIs slot_list_iter.lookup (wpAny_pure ?_))
 simp only [Bool.false_eq_true, if_false]
 refine wpAny_bind (wpAny_holding (wpAny_pyIter_list hl (wpAny_bind (wpAny_holding (qV ne its.size 0 _ _ ⟨_, Heap.get?_push_size _ rfl, rfl, rfl⟩ (hl.push _) (by omega) λ g hg sg => ?_)))))
 rw [List.drop_zero, List.take_of_length_le (by simp), if_neg (by simp)]
 refine wpAny_bind (wpAny_holding (wpAny_pyNext_list_end hh hg ((hl.push _).extBut sg.extBut ne) (by simp) λ g2 e2 => ?_))
 simp only [Option.isSome_none, Bool.false_eq_true, if_false]
 exact wpAny_pure (h g2 λ b o hb e => e2 b o hb (sg.extBut b o hb (Heap.get?_push_of_some _ e)))
noncomputable def EF (K : PySem.W.Frag) (n : Nat) (t : v8) : TG := λ v σ H Q => ∃ a xs, v = .ref a /\ cr K H a xs /\ xs.length = n /\ t xs σ H Q
theorem BN {X : Cx} {pos : Pos} {es : List Expr} {k : Nat} {t : v8} {n : Nat} (hc : X.calm = true) (h : AD X es t) (hn : (assignEach es X.env).length = n) (hst : (assignEach es X.env).findIdx? (·.1) = none) : PG X (.Tuple es k pos) (EF X.K n t) := by
 intro pins s σ H v u Q I r ⟨a, xs, e1, hq, hl, hw⟩
 subst e1
 cases r
 obtain ⟨its, rv, ht, hz⟩ := I.list hq
 rw [assign_Tuple]
 refine wpAny_bind (wpAny_standAt (tZ (I.ok.hd hc) ht.isList (by simp [hn, <- hl, rv.length]) hst λ h' hx => ?_))
 exact h pins _ σ H xs _ Q (I.kept (t' := s.toks) λ b o e => hx b o (Nat.ne_of_lt (Heap.lt_size e)) e) (by simpa using rv) hw
noncomputable def qD (n : Nat) (bs : List D -> Ev -> Option Ev) : D -> Ev -> Option Ev := λ d δ => match d with | .tup ds => (if ds.length = n then bs ds δ else none) | .lst ds => (if ds.length = n then bs ds δ else none) | _ => none
theorem vE {X : Cx} {e : Expr} {t t' : TG} (h : PG X e t) (h' : PG X e t') : PG X e (λ v σ H Q => t v σ H Q \/ t' v σ H Q) := λ pins s σ H v u Q I r q => q.elim (h pins s σ H v u Q I r) (h' pins s σ H v u Q I r)
theorem zC {tgs : List Expr} {k n : Nat} {bs : List D -> Ev -> Option Ev} (hc : X.calm = true) (h : qy κ B X tgs bs) (hn : (assignEach tgs X.env).length = n) (hst : (assignEach tgs X.env).findIdx? (·.1) = none) : v5 κ B X (.Tuple tgs k pos) (qD n bs) := λ Ex =>
 xq (vE (xr (X := X.wish Ex) hc (h Ex) hn hst) (BN (X := X.wish Ex) hc (h Ex) hn hst)) λ v σ H Q ⟨G, δ, d, δ', rp, dn, e, kk⟩ => by
  unfold qD at e
  split at e
  ·rename_i ds
   split at e
   ·rename_i hl
    unfold aH at dn
    obtain ⟨l, vs, rfl, h1, h2⟩ := dn
    exact .inl ⟨l, vs, rfl, bt rp.GH h1, by rw [h2.length]; exact hl, G, δ, ds, δ', rp, h2, e, kk⟩
   ·cases e
  ·rename_i ds
   split at e
   ·rename_i hl
    unfold aH at dn
    obtain ⟨l, vs, rfl, h1, h2⟩ := dn
    exact .inr ⟨l, vs, rfl, rp.GH.seq h1, by rw [h2.length]; exact hl, G, δ, ds, δ', rp, h2, e, kk⟩
   ·cases e
  ·cases e
noncomputable def v2 (bd : D -> Ev -> Option Ev) (f : Ev -> R D) : Ev -> SR := λ δ => bS (f δ) δ λ d => match bd d δ with | some δ' => .next δ' | none => .stuck
theorem Cg (cx : Cxo X) {tg : Expr} {bd : D -> Ev -> Option Ev} (h : PX κ B X e f) (hg : v5 κ B X tg bd) (hs : swapsWithSole [tg] e pos.line X.env = pure false) (hw : swappedStores [tg] e X.env = pure none)
  (h1 : (assignEach [tg] X.env).map (·.2) = [assign tg X.env]) : PZ κ B X (.Assign [tg] e pos) (v2 bd f) := λ Ex pins s σ H G δ Dn hp I rp q => by
 refine wpAny_Assign_stores (bw (h.stm cx I rp q) λ v s1 ⟨d, y, H', G', I', r, rp', dn, q⟩ => ?_) hs hw
 rw [h1]
 cases e2 : bd d δ with
 | none => rw [e2] at q; exact False.elim q
 | some δ' =>
  rw [e2] at q
  exact bw (hg Ex pins s1 σ H' y v (λ σ' H'' => Dn.nx σ' H'') I' r ⟨G', δ, d, δ', rp', dn, e2, λ σ' r' => q σ' H' G' r'⟩) λ _ s2 q => q
end
end L3
namespace L3
open PySem PySem.Spec PyProof.Rows L2
noncomputable def bx (bd : D -> Ev -> Option Ev) (F : Ev -> SR) : List D -> Ev -> SR
 | [], δ => .next δ
 | d :: ds, δ => match bd d δ with
  | none => .stuck
  | some δ1 => match F δ1 with
   | .next δ2 => bx bd F ds δ2
   | .cont δ2 => bx bd F ds δ2
   | .brk δ2 => .next δ2
   | r => r
noncomputable def qx (X : Cx) (κ : Nat -> Addr) (J : It) (G : Hp) (ds : List D) : Prop := ∃ vs, Dens ⟨X.K, κ⟩ G vs ds /\ ∀ H', br G H' -> ∀ i, (i < vs.length -> J.go i H' /\ ∀ x H'', J.yld i H' x H'' -> H'' = H' /\ vs[i]? = some x) /\ (vs.length <= i -> J.stop i H')
noncomputable def yE (κ : Nat -> Addr) (B : Gd) (X : Cx) (tg e : Expr) (f : Ev -> R (List D)) : Prop := ∀ pins σ Ex, PI (At X pins σ Ex) tg e (tO (λ G _ J ds => qx X κ J G ds) X κ B (EX X pins σ Ex) f)
theorem qb {Y : Cx} {tg e : Expr} {w w' : TI} (h : PI Y tg e w) (k : ∀ σ H R, w' σ H R -> w σ H R) : PI Y tg e w' := λ pins s σ H R I q => h pins s σ H R I (k σ H R q)
theorem DA {Y : Cx} {tg e : Expr} {w w' : TI} (h : PI Y tg e w) (h' : PI Y tg e w') : PI Y tg e (λ σ H R => w σ H R \/ w' σ H R) := λ pins s σ H R I q => q.elim (h pins s σ H R I) (h' pins s σ H R I)
section
variable {κ : Nat -> Addr} {B : Gd} {X : Cx} {e tg : Expr} {f : Ev -> R D} {pos : Pos}
theorem oy {G H : Hp} {a : Addr} {vs : List V} {ds : List D} (h : cr X.K G a vs) (d : Dens ⟨X.K, κ⟩ G vs ds) : qx X κ (En X.K a) G ds :=
 ⟨vs, d, λ H' s i => ⟨λ hi => ⟨⟨vs, vs[i], s.seq h, by simp [hi]⟩, λ x H'' y => ⟨y.1, y.2 vs (s.seq h)⟩⟩, λ hi => ⟨vs, s.seq h, hi⟩⟩⟩
theorem rb {G H : Hp} {a : Addr} {vs : List V} {ds : List D} (h : k9 X.K G a vs) (d : Dens ⟨X.K, κ⟩ G vs ds) : qx X κ (Eo X.K a) G ds :=
 ⟨vs, d, λ H' s i => ⟨λ hi => ⟨⟨vs, vs[i], bt s h, by simp [hi]⟩, λ x H'' y => ⟨y.1, y.2 vs (bt s h)⟩⟩, λ hi => ⟨vs, bt s h, hi⟩⟩⟩
noncomputable def bY : D -> R (List D)
 | .lst ds => .ok ds
 | .tup ds => .ok ds
 | _ => .stuck
theorem zF (h : PX κ B X e f) : yE κ B X tg e (λ δ => (f δ).bind bY) := λ pins σ Ex =>
 qb (DA (zD (X := At X pins σ Ex) (h pins σ Ex)) (BP (X := At X pins σ Ex) (h pins σ Ex))) λ τ H R ⟨G, δ, rp, q⟩ => by
  dsimp only at q
  cases e : f δ with
  | ok d =>
   rw [e] at q
   cases d with
   | lst ds =>
    refine .inl ⟨G, δ, rp, ?_⟩
    rw [e]
    intro v H' G' e1 d1
    unfold aH at d1
    obtain ⟨a, vs, rfl, h1, h2⟩ := d1
    exact ⟨a, rfl, ⟨vs, e1.GH.seq h1⟩, q _ H' G' e1 (oy (H := H') h1 h2)⟩
   | tup ds =>
    refine .inr ⟨G, δ, rp, ?_⟩
    rw [e]
    intro v H' G' e1 d1
    unfold aH at d1
    obtain ⟨a, vs, rfl, h1, h2⟩ := d1
    exact ⟨a, rfl, ⟨vs, bt e1.GH h1⟩, q _ H' G' e1 (rb (H := H') h1 h2)⟩
   | _ => exact False.elim q
  | exc c =>
   rw [e] at q
   refine .inl ⟨G, δ, rp, ?_⟩
   rw [e]
   exact q
  | stuck => rw [e] at q; exact False.elim q
theorem mY {G : Hp} {lo : Int} {n : Nat} : qx X κ (AC lo n) G ((List.range n).map λ i => D.int (lo + (i : Nat))) := by
 refine ⟨(List.range n).map λ i => V.int (lo + (i : Nat)), ?_, λ H' s i => ⟨λ hi => ⟨?_, λ x H'' y => ?_⟩, λ hi => ?_⟩⟩
 ·generalize List.range n = l
  induction l with
  | nil => exact aP
  | cons a l ih => exact aR nR ih
 ·simpa [AC] using hi
 ·obtain ⟨y1, y2⟩ := y
  refine ⟨y1, ?_⟩
  rw [y2]
  have : i < n := by simpa using hi
  simp [this]
 ·simpa [AC] using hi
noncomputable def kP (lo hi : Int) : List D := (List.range (hi - lo).toNat).map λ i => D.int (lo + (i : Nat))
noncomputable def yr : List D -> R (List D)
 | [.int j] => if -(2 ^ 62) <= j /\ j < 2 ^ 62 then .ok (kP 0 j) else .stuck
 | _ => .stuck
noncomputable def su : List D -> R (List D)
 | [.int i, .int j] => if (-(2 ^ 62) <= i /\ i < 2 ^ 62) /\ (-(2 ^ 62) <= j /\ j < 2 ^ 62) then .ok (kP i j) else .stuck
 | _ => .stuck
theorem jx {Z : Zx} {G : Hp} {vs : List V} {i : Int} (h : Dens Z G vs [.int i]) : vs = [.int i] := by
 match vs, h with
 | [v], h => unfold Dens at h; have := h.1; unfold aH at this; rw [this]
 | [], h => unfold Dens at h; exact h.elim
 | _ :: _ :: _, h => unfold Dens at h; have := h.2; unfold Dens at this; exact this.elim
theorem lc {Z : Zx} {G : Hp} {vs : List V} {i j : Int} (h : Dens Z G vs [.int i, .int j]) : vs = [.int i, .int j] := by
 match vs, h with
 | [], h => unfold Dens at h; exact h.elim
 | v :: vr, h => unfold Dens at h; have h1 := h.1; unfold aH at h1; rw [h1, jx h.2]
theorem tH {a : Expr} {fs : Ev -> R (List D)} {p pos : Pos} (hg : Gl X "range") (hm : X.mg "range" = none) (ha : mn κ B X [a] fs) (hs : starEach [a] X.env = [(false, eval a X.env)]) : yE κ B X tg (.Call (.Name "range" p) [a] [] pos) (λ δ => (fs δ).bind yr) := λ pins σ Ex =>
 qb (vG (X := At X pins σ Ex) hg hm (ha pins σ Ex) hs) λ τ H R ⟨G, δ, rp, q⟩ => ⟨G, δ, rp, q.seq λ x v H1 G1 e1 d1 q1 => by
  unfold yr at q1
  split at q1
  ·rename_i j
   split at q1
   ·rename_i hj
    refine ⟨j, jx d1, hj.1, hj.2, ?_⟩
    have := q1 _ H1 G1 (Ext.refl e1.GH) (mY (lo := 0) (n := (j - 0).toNat))
    simpa using this
   ·exact False.elim q1
  ·exact False.elim q1⟩
theorem tI {a b : Expr} {fs : Ev -> R (List D)} {p pos : Pos} (hg : Gl X "range") (hm : X.mg "range" = none) (ha : mn κ B X [a, b] fs) (hs : starEach [a, b] X.env = [(false, eval a X.env), (false, eval b X.env)]) (hs2 : starEach [b] X.env = [(false, eval b X.env)]) : yE κ B X tg (.Call (.Name "range" p) [a, b] [] pos) (λ δ => (fs δ).bind su) := λ pins σ Ex =>
 qb (vH (X := At X pins σ Ex) hg hm (ha pins σ Ex) hs hs2) λ τ H R ⟨G, δ, rp, q⟩ => ⟨G, δ, rp, q.seq λ x v H1 G1 e1 d1 q1 => by
  unfold su at q1
  split at q1
  ·rename_i i j
   split at q1
   ·rename_i hj
    exact ⟨i, j, lc d1, ⟨hj.1.1, hj.1.2, hj.2.1, hj.2.2⟩, q1 _ H1 G1 (Ext.refl e1.GH) (mY (lo := i) (n := (j - i).toNat))⟩
   ·exact False.elim q1
  ·exact False.elim q1⟩
theorem Rep.raise {Z : Zx} {H₀ G H : Hp} {σ : St} {δ : Ev} (r : Rep Z B H₀ G H σ δ) : Rep Z ⟨G, B.m⟩ H₀ G H σ δ := ⟨⟨br.refl _, r.GH, r.old, r.there, λ _ _ n => n⟩, r.len, r.sh, r.ow, r.sep, r.oo, r.oo1⟩
theorem Hold.lower {H₀ G G' H' : Hp} (g : br B.g G) (l : ∀ b, H₀ b ≠ none -> B.g b = none -> G b = none) (r : Hold ⟨G, B.m⟩ H₀ G' H') : Hold B H₀ G' H' := ⟨g.trans r.gG, r.GH, r.old, r.there, λ b z n => r.lent b z (l b z n)⟩
theorem Rep.lower {Z : Zx} {H₀ G G' H' : Hp} {σ : St} {δ : Ev} (g : br B.g G) (l : ∀ b, H₀ b ≠ none -> B.g b = none -> G b = none) (r : Rep Z ⟨G, B.m⟩ H₀ G' H' σ δ) : Rep Z B H₀ G' H' σ δ := ⟨r.toHold.lower g l, r.len, r.sh, r.ow, r.sep, r.oo, r.oo1⟩
theorem mK {pins pl : List (Addr × Obj)} {H : Hp} {s : Shared} {ea : Addr} {C : Value} (F : Flies X (pins ++ pl) H s ea C) : Flies X pins H s ea C := by
 have c : ∀ {b}, FreshX X (pins ++ pl) H b -> FreshX X pins H b := λ f => ⟨f.nl, f.nc, λ p hp => f.np p ((List.mem_append.mp hp).elim (λ z => List.mem_append_left _ z) λ z => List.mem_append_right _ (List.mem_append_left _ z)), f.n0, f.nh⟩
 obtain ⟨⟨oe, vs, a0, t1, t2, t3, t4, t5⟩, fr⟩ := F
 refine ⟨⟨oe, vs, a0, t1, t2, t3, t4, t5.imp id ?_⟩, c fr⟩
 rintro ⟨T, oT, ts, x1, x2, x3, x4, x5, x6⟩
 exact ⟨T, oT, ts, x1, x2, x3, x4, x5, c x6⟩
noncomputable def gU (fit : Ev -> R (List D)) (bd : D -> Ev -> Option Ev) (F : Ev -> SR) : Ev -> SR := λ δ => bS (fit δ) δ λ ds => bx bd F ds δ
theorem Ci (cx : Cxo X) (hc : X.calm = true) {iter : Expr} {body : List Stmt} {fit : Ev -> R (List D)} {bd : D -> Ev -> Option Ev} {F : Ev -> SR} (hi : yE κ B X tg iter fit) (hg : ∀ B, v5 κ B X tg bd) (hb : ∀ B, qu κ B X body F)
  (hs : ∀ x, foldedSetIterable iter X.env x = pure x) : PZ κ B X (.For tg iter body [] pos) (gU fit bd F) := λ Ex pins s σ H G δ Dn hp I rp h => by
 have hsgA : ∀ p τ, (X.wish Ex).sg p τ := cx.sg
 refine wpAny_For (bw (hi pins σ Ex pins s σ H (λ J H' => ∃ G' ds, Rep ⟨X.K, κ⟩ B X.H₀ G' H' σ δ /\ qx X κ J G' ds /\ bH κ B X Ex pins Dn (bx bd F ds δ)) (iG I) ⟨G, δ, rp, ?_⟩) λ v s1 h1 => bw h1 λ itv s2 h2 => ?_) hs
 ·unfold gU at h
  cases q : fit δ with
  | ok ds => rw [q] at h; exact λ J H' G' e1 d1 => ⟨G', ds, rp.ext e1, d1, h⟩
  | exc c => rw [q] at h; exact λ H' G' e1 ea s' I' F' => h ea s' σ H' G' I' F' (rp.ext e1)
  | stuck => rw [q] at h; exact h
 obtain ⟨it, fp, tn, J, H2, e, I2, T, st2, f2, G2, ds, rp2, hJ, q2⟩ := h2
 subst e
 have I2' := cG cx.sg I2
 obtain ⟨vs, dvs, hJ⟩ := hJ
 have hlen := dvs.length
 have stat : ∀ {H' : Hp}, (∀ b ∈ fp, H' b = none) -> ∀ b ∈ fp, pc (X.wish Ex) pins H' b := λ hn b hb => ⟨hn b hb, (f2 b hb).2⟩
 refine codeAny_forLoop_any (λ n s' => ∃ i σ' H' G' δ', Inv (X.wish Ex) pins σ' H' s' /\ tn i s'.heap /\ (∀ b ∈ fp, H' b = none) /\ n = ds.length - i /\ i <= ds.length /\ Rep ⟨X.K, κ⟩ ⟨G2, B.m⟩ X.H₀ G' H' σ' δ' /\ bH κ B X Ex pins Dn (bx bd F (ds.drop i) δ')) ?_ ds.length
  ⟨0, σ, H2, G2, δ, I2', st2, λ b hb => (f2 b hb).1, rfl, Nat.zero_le _, rp2.raise, q2⟩
 rintro n s3 ⟨i, σ3, H3, G3, δ3, I3, st3, fr3, rfl, hi3, rp3, q3⟩
 have low : ∀ {G' H' : Hp} {σ' : St} {δ' : Ev}, Rep ⟨X.K, κ⟩ ⟨G2, B.m⟩ X.H₀ G' H' σ' δ' -> Rep ⟨X.K, κ⟩ B X.H₀ G' H' σ' δ' := λ r => r.lower rp2.gG rp2.lent
 have same3 : br G2 H3 := rp3.gG.trans rp3.GH
 by_cases hlt : i < ds.length
 ·obtain ⟨go, yl⟩ := (hJ H3 same3 i).1 (by omega)
  refine wpAny_passesOwn hp (bw (T.item (X.wish Ex) rfl rfl rfl hc i pins s3 σ3 H3 Ex I3 (stat fr3) st3 go) λ r s4 ⟨u, hr, h4⟩ => ?_)
  subst hr
  refine wpAny_passesOwn hp (bw h4 λ _ s5 ⟨x, H5, I5, r5, y5, st5, fr5⟩ => ?_)
  obtain ⟨e5, vx⟩ := yl x H5 y5
  subst e5
  have I5' := Inv.pinned hsgA I5 (stat fr5) (T.obj _ _ st5)
  obtain ⟨dx, hdx⟩ : ∃ d, ds[i]? = some d := ⟨ds[i], by simp [hlt]⟩
  have dd : aH ⟨X.K, κ⟩ G3 x dx := by
   obtain ⟨v', e1, e2⟩ := dvs.get hdx
   rw [vx] at e1; cases e1
   exact e2.mono rp3.gG
  have hdrop : ds.drop i = dx :: ds.drop (i + 1) := by
   rw [List.drop_eq_getElem_cons hlt]
   simp [hlt] at hdx
   rw [hdx]
  rw [hdrop] at q3
  unfold bx at q3
  cases eb : bd dx δ3 with
  | none => rw [eb] at q3; exact False.elim q3
  | some δ4 =>
   rw [eb] at q3
   refine wpAny_passesOwn hp (bw (hg ⟨G2, B.m⟩ Ex _ s5 σ3 _ x u (λ σ' H' => H' = H5 /\ Rep ⟨X.K, κ⟩ ⟨G2, B.m⟩ X.H₀ G3 H5 σ' δ4) I5' r5 ⟨G3, δ3, dx, δ4, rp3, dd, eb, λ σ' r' => ⟨rfl, r'⟩⟩) λ _ s6 ⟨σ6, H6, I6, e6, rp6⟩ => ?_)
   subst e6
   refine wpAny_passesOwn hp (bw (hb ⟨G2, B.m⟩ Ex _ s6 σ6 _ G3 δ4 { Dn with nx := λ σ' H' => ∃ G' δ', Rep ⟨X.K, κ⟩ ⟨G2, B.m⟩ X.H₀ G' H' σ' δ' /\ bH κ B X Ex pins Dn (bx bd F (ds.drop (i + 1)) δ'), ct := λ σ' H' => ∃ G' δ', Rep ⟨X.K, κ⟩ ⟨G2, B.m⟩ X.H₀ G' H' σ' δ' /\ bH κ B X Ex pins Dn (bx bd F (ds.drop (i + 1)) δ'), bk := Dn.nx } hp I6 rp6 ?_) λ fl s7 q7 => ?_)
   ·cases ef : F δ4 with
    | next δ5 => simp only [ef] at q3; exact λ σ' H' G' r => ⟨G', δ5, r, q3⟩
    | cont δ5 => simp only [ef] at q3; exact λ σ' H' G' r => ⟨G', δ5, r, q3⟩
    | brk δ5 => simp only [ef] at q3; exact λ σ' H' G' r => q3 σ' H' G' (low r)
    | ret d => simp only [ef] at q3; exact λ v H' G' r => q3 v H' G' (r.lower rp2.gG rp2.lent)
    | exc c δ5 => simp only [ef] at q3; exact λ ea s' σ' H' G' I' F' r => q3 ea s' σ' H' G' (Inv.unpinned hsgA I') (mK F') (low r)
    | stuck => simp only [ef] at q3; exact q3
   ·have again : ∀ {σ7 : St} {H7 : Hp}, Inv (X.wish Ex) (pins ++ j8 fp s5.heap) σ7 H7 s7 -> (∃ G' δ', Rep ⟨X.K, κ⟩ ⟨G2, B.m⟩ X.H₀ G' H7 σ7 δ' /\ bH κ B X Ex pins Dn (bx bd F (ds.drop (i + 1)) δ')) →
      ∃ m, m < ds.length - i /\ ∃ i σ' H' G' δ', Inv (X.wish Ex) pins σ' H' s7 /\ tn i s7.heap /\ (∀ b ∈ fp, H' b = none) /\ m = ds.length - i /\ i <= ds.length /\ Rep ⟨X.K, κ⟩ ⟨G2, B.m⟩ X.H₀ G' H' σ' δ' /\ bH κ B X Ex pins Dn (bx bd F (ds.drop i) δ') := λ {σ7 H7} I7 ⟨G7, δ7, r7, n7⟩ => by
     refine ⟨ds.length - (i + 1), by omega, i + 1, σ7, H7, G7, δ7, Inv.unpinned hsgA I7, T.keep _ _ _ st5 λ b hb o e => (I7.pin (b, o) (List.mem_append_right _ (List.mem_append_right _ (cc hb e)))).1, λ b hb => ?_, rfl, hlt, r7, n7⟩
     obtain ⟨o, e, d⟩ := T.obj _ _ st5 b hb
     exact (I7.pin (b, o) (List.mem_append_right _ (List.mem_append_right _ (cc hb e)))).2.1
    cases fl with
    | next => obtain ⟨σ7, H7, I7, n7⟩ := q7; exact again I7 n7
    | cont => obtain ⟨σ7, H7, I7, n7⟩ := q7; exact again I7 n7
    | brk => obtain ⟨σ7, H7, I7, q7⟩ := q7; exact ⟨σ7, H7, Inv.unpinned hsgA I7, q7⟩
    | ret v => obtain ⟨x7, σ7, H7, I7, r7, q7⟩ := q7; exact ⟨x7, σ7, H7, Inv.unpinned hsgA I7, r7, q7⟩
 ·have hie : i = ds.length := by omega
  refine wpAny_passesOwn hp (bw (T.done (X.wish Ex) rfl rfl rfl hc i pins s3 σ3 H3 Ex I3 (stat fr3) st3 ((hJ H3 same3 i).2 (by omega))) λ r s4 ⟨hr, I4⟩ => ?_)
  subst hr
  rw [hie, List.drop_length] at q3
  exact wpAny_execs_nil ⟨σ3, H3, I4, q3 σ3 H3 G3 (low rp3)⟩
noncomputable def b7 (t : Ev -> R Bool) (F : Ev -> SR) : Nat -> Ev -> SR
 | 0, _ => .stuck
 | n + 1, δ => bS (t δ) δ λ k => if k then (match F δ with
  | .next δ' => b7 t F n δ'
  | .cont δ' => b7 t F n δ'
  | .brk δ' => .next δ'
  | r => r) else .next δ
theorem xP (cx : Cxo X) (N : Nat) {c : Expr} {body : List Stmt} {t : Ev -> R Bool} {F : Ev -> SR} (hc : k7 κ B X c t) (hb : qu κ B X body F) : PZ κ B X (.While c body [] pos) (b7 t F N) := λ Ex pins s σ H G δ Dn hp I rp h => by
 refine wpAny_While (codeAny_whileLoop (λ n s' => ∃ σ' H' G' δ', Inv (X.wish Ex) pins σ' H' s' /\ Rep ⟨X.K, κ⟩ B X.H₀ G' H' σ' δ' /\ bH κ B X Ex pins Dn (b7 t F n δ')) ?_ N ⟨σ, H, G, δ, I, rp, h⟩)
 rintro n s1 ⟨σ1, H1, G1, δ1, I1, rp1, q1⟩
 cases n with
 | zero => exact False.elim q1
 | succ n =>
  unfold b7 at q1
  refine wpAny_passesOwn hp (bw (hc.stm cx I1 rp1 q1) λ b s2 ⟨H2, G2, I2, rp2, q2⟩ => ?_)
  cases b with
  | true =>
   rw [if_pos rfl]
   rw [if_pos rfl] at q2
   refine wpAny_passesOwn hp (bw (hb Ex pins s2 σ1 H2 G2 δ1 { Dn with nx := λ σ' H' => ∃ G' δ', Rep ⟨X.K, κ⟩ B X.H₀ G' H' σ' δ' /\ bH κ B X Ex pins Dn (b7 t F n δ'), ct := λ σ' H' => ∃ G' δ', Rep ⟨X.K, κ⟩ B X.H₀ G' H' σ' δ' /\ bH κ B X Ex pins Dn (b7 t F n δ'), bk := Dn.nx } hp I2 rp2 ?_) λ f s3 q3 => ?_)
   ·cases ef : F δ1 with
    | next δ5 => simp only [ef] at q2; exact λ σ' H' G' r => ⟨G', δ5, r, q2⟩
    | cont δ5 => simp only [ef] at q2; exact λ σ' H' G' r => ⟨G', δ5, r, q2⟩
    | brk δ5 => simp only [ef] at q2; exact q2
    | ret d => simp only [ef] at q2; exact q2
    | exc c δ5 => simp only [ef] at q2; exact q2
    | stuck => simp only [ef] at q2; exact q2
   ·cases f with
    | next => obtain ⟨σ3, H3, I3, G3, δ3, r3, n3⟩ := q3; exact ⟨n, Nat.lt_succ_self n, σ3, H3, G3, δ3, I3, r3, n3⟩
    | cont => obtain ⟨σ3, H3, I3, G3, δ3, r3, n3⟩ := q3; exact ⟨n, Nat.lt_succ_self n, σ3, H3, G3, δ3, I3, r3, n3⟩
    | brk => exact q3
    | ret v => exact q3
  | false =>
   rw [if_neg Bool.false_ne_true]
   exact wpAny_execs_nil ⟨σ1, H2, I2, q2 σ1 H2 G2 rp2⟩
end
noncomputable def bL : SR -> R D
 | .next _ => .ok .non
 | .ret d => .ok d
 | .exc c _ => .exc c
 | _ => .stuck
noncomputable def am (n : Nat) (ds : List D) : Ev := ds.map (λ d => some (.sh d)) ++ List.replicate (n - ds.length) none
structure FrmOk (X : Cx) : Prop where
 st : X.stack = X.env :: X.outer
 fr : X.env.frame = some X.env.locals
theorem sQ {P : Program} {w : World} {K : PySem.W.Frag} {mg : Str -> Option Value} {base : Heap} {κ : Nat -> Addr} {x qual : Str} {st : Stmt} {f : Addr} {fd : FuncData} {N ps : List Str} {k : Nat} {F : Ev -> SR}
  (Fn : Fun K x qual st f fd) (S : FnScope N ps (aj st))
  (hb : ∀ (X : Cx) (B : Gd), Cxo X -> X.calm = true -> X.prog = P -> X.w = w -> X.K = K -> X.mg = mg -> X.base = base -> X.N = N -> X.env.scope = aj st -> (∀ y, X.fn y = true) -> Room k X.A -> FrmOk X -> (∀ b, X.H₀ b = none -> B.m b) -> qu κ B X (aw st) F) :
  FnOk P w K mg base (sx P w) (k + 1) f fd ps (DR K κ ps.length λ ds => bL (F (am N.length ds))) := by
 obtain ⟨oc, od, kV, doc, pm, an, cdv, ct, osl, rfl, lk, hcd⟩ := Fn.ex
 refine Di lk hcd S (λ vs H Q E h => h.1) λ A outer s H vs Q E hr hsp => ?_
 obtain ⟨hl, G, ds, sm, dn, hq⟩ := hsp
 dsimp only at hq
 generalize hX : u0 (sx P w) P w K mg base N qual (aj st) f cdv A outer s H E = X
 have eP : X.prog = P := by rw [<- hX]; rfl
 have ew : X.w = w := by rw [<- hX]; rfl
 have eK : X.K = K := by rw [<- hX]; rfl
 have cx : Cxo X := by rw [<- hX]; exact ⟨λ _ _ => trivial, rfl⟩
 have body := λ B hB => hb X B cx (by rw [<- hX]; rfl) eP ew eK (by rw [<- hX]; rfl) (by rw [<- hX]; rfl) (by rw [<- hX]; rfl) (by rw [<- hX]; rfl) (λ y => by rw [<- hX]; rfl) (by rw [<- hX]; exact hr) (by rw [<- hX]; exact ⟨rfl, rfl⟩) hB
 have e0 : X.H₀ = H := by rw [<- hX]; rfl
 refine ⟨λ Dn σ H => ∃ B G δ, (∀ b, X.H₀ b = none -> B.m b) /\ Rep ⟨X.K, κ⟩ B X.H₀ G H σ δ /\ ∀ pins, bH κ B X X.xe pins Dn (F δ), λ pins s' σ H' Dn I ⟨B, G, δ, hB, rp, h⟩ => ?_, ⟨G, λ b => H b = none⟩, G, am N.length ds, (λ b z => by rw [e0] at z; exact z), ?_, λ pins => ?_⟩
 ·refine body B hB X.xe pins s' σ H' G δ Dn ?_ I rp (h pins)
  rw [<- hX]
  exact PassesOwn.leaving
 ·rw [e0, eK]
  have hld : ds.length = vs.length := dn.length.symm
  refine ⟨⟨br.refl _, sm, λ _ _ e _ => e, λ _ e => e, λ _ _ e => e⟩, ?_, λ i d e => ?_, λ i es e => ?_, λ i j es fs a n e => ?_, λ i c ns es e => ?_, λ i j c ns es c' ns' es' x0 n0 e => ?_⟩
  ·unfold L2.kR am
   simp [hld]
  ·unfold am at e
   by_cases hi : i < ds.length
   ·rw [List.getElem?_append_left (by simpa using hi), List.getElem?_map] at e
    cases q : ds[i]? with
    | none => rw [q] at e; cases e
    | some d' =>
     rw [q] at e
     cases e
     obtain ⟨v, e1, e2⟩ := dn.get q
     refine ⟨v, ?_, e2⟩
     unfold L2.kR
     rw [List.getElem?_append_left (by simp; omega), List.getElem?_map, e1]
     rfl
   ·rw [List.getElem?_append_right (by simpa using hi), List.getElem?_replicate] at e
    split at e <;> cases e
  ·unfold am at e
   by_cases hi : i < ds.length
   ·rw [List.getElem?_append_left (by simpa using hi), List.getElem?_map] at e
    cases q : ds[i]? with
    | none => rw [q] at e; cases e
    | some d' => rw [q] at e; cases e
   ·rw [List.getElem?_append_right (by simpa using hi), List.getElem?_replicate] at e
    split at e <;> cases e
  ·unfold am at e
   by_cases hi : i < ds.length
   ·rw [List.getElem?_append_left (by simpa using hi), List.getElem?_map] at e
    cases q : ds[i]? with
    | none => rw [q] at e; cases e
    | some d' => rw [q] at e; cases e
   ·rw [List.getElem?_append_right (by simpa using hi), List.getElem?_replicate] at e
    split at e <;> cases e
  ·unfold am at e
   by_cases hi : i < ds.length
   ·rw [List.getElem?_append_left (by simpa using hi), List.getElem?_map] at e
    cases q : ds[i]? with
    | none => rw [q] at e; cases e
    | some d' => rw [q] at e; cases e
   ·rw [List.getElem?_append_right (by simpa using hi), List.getElem?_replicate] at e
    split at e <;> cases e
  ·unfold am at e
   by_cases hi : i < ds.length
   ·rw [List.getElem?_append_left (by simpa using hi), List.getElem?_map] at e
    cases q : ds[i]? with
    | none => rw [q] at e; cases e
    | some d' => rw [q] at e; cases e
   ·rw [List.getElem?_append_right (by simpa using hi), List.getElem?_replicate] at e
    split at e <;> cases e
 ·have ext : ∀ {G' H' : Hp}, Hold ⟨G, λ b => H b = none⟩ X.H₀ G' H' -> Ext G H G' H' := λ {G' H'} h => by
   rw [e0] at h
   refine ⟨h.gG, λ b o e => h.old b o e (by dsimp only; rw [e]; simp), h.GH, λ a n => ?_⟩
   cases q : H a with
   | none => exact .inr rfl
   | some o =>
    refine .inl λ z => n ?_
    exact h.lent a (by rw [q]; simp) z
  cases q : F (am N.length ds) with
  | next δ' => rw [q] at hq; exact λ σ' H' G' r => hq .non H' G' (ext r.toHold) Ez
  | ret d => rw [q] at hq; exact λ v H' G' r dd => hq v H' G' (ext r) (by rw [eK] at dd; exact dd)
  | exc c δ' =>
   rw [q] at hq
   intro ea s' σ' H' G' I' F' r
   have hE : E (.ref (κ c)) none H' := hq H' G' (ext r.toHold)
   have I2 : Inv X pins σ' H' s' := by
    have := I'.unwish
    exact this
   have := wO (M := model P w) (E := E) (E' := λ e' s'' => sx P w outer H s E e' s'') I2 cx.ex (by rw [<- hX]; rfl) (by rw [<- hX]; rfl) F' hE
   rw [<- hX] at this ⊢
   exact this
  | brk δ' => rw [q] at hq; exact False.elim hq
  | cont δ' => rw [q] at hq; exact False.elim hq
  | stuck => rw [q] at hq; exact False.elim hq
theorem vd {P : Program} {w : World} {K : PySem.W.Frag} {mg : Str -> Option Value} {base : Heap} {κ : Nat -> Addr} {x qual : Str} {st : Stmt} {f : Addr} {fd : FuncData} {N ps : List Str} {k : Nat} {F : Ev -> SR}
  (Fn : Fun K x qual st f fd) (S : FnScope N ps (aj st))
  (hb : ∀ (X : Cx) (B : Gd), Cxo X -> X.calm = true -> X.prog = P -> X.w = w -> X.K = K -> X.mg = mg -> X.base = base -> X.N = N -> X.env.scope = aj st -> (∀ y, X.fn y = true) -> Room k X.A -> FrmOk X -> qu κ B X (aw st) F) :
  FnOk P w K mg base (sx P w) (k + 1) f fd ps (DR K κ ps.length λ ds => bL (F (am N.length ds))) := sQ Fn S λ X B a1 a2 a3 a4 a5 a6 a7 a8 a9 a10 a11 a12 _ => hb X B a1 a2 a3 a4 a5 a6 a7 a8 a9 a10 a11 a12
end L3
namespace L3
open PySem PySem.Spec PyProof.Rows L2
noncomputable def ED (X : Cx) (κ : Nat -> Addr) (E : XK) (G H : Hp) (r : R (List D)) (Q : VK) : Prop := match r with
 | .ok ds => ∀ a vs H' G', Ext G H G' H' -> H' a = some (.lst vs) -> G' a = none -> H a = none -> Dens ⟨X.K, κ⟩ G' vs ds -> Q (.ref a) H'
 | .exc c => ∀ H' G', Ext G H G' H' -> E (.ref (κ c)) none H'
 | .stuck => False
noncomputable def AF (κ : Nat -> Addr) (B : Gd) (X : Cx) (e : Expr) (f : Ev -> R (List D)) : Prop := ∀ pins σ Ex, PE (At X pins σ Ex) e (λ τ H Q => ∃ G δ, Rep ⟨X.K, κ⟩ B X.H₀ G H τ δ /\ ED X κ (EX X pins σ Ex) G H (f δ) Q)
section
variable {κ : Nat -> Addr} {B : Gd} {X : Cx} {e : Expr} {es : List Expr} {f : Ev -> R D} {fl fs : Ev -> R (List D)} {pos pos' pos'' apos : Pos}
theorem pK {G H : Hp} {p : Addr} {o : HO} (s : br G H) (n : H p = none) : Ext G H G (cD H p o) := by
 refine ⟨br.refl _, λ b u e => ?_, λ b u e => ?_, λ b e => .inl e⟩
 ·rw [ar (aC e n)]; exact e
 ·rw [ar (aC (s b u e) n)]; exact s b u e
noncomputable def lim (r : R (List D)) : R (List D) := r.bind λ xs => if xs.length <= 1000000 then .ok xs else .stuck
theorem zX (h : mn κ B X es fs) : AF κ B X (.List es pos) (λ δ => lim (fs δ)) := λ pins σ Ex =>
 bp (qa (h pins σ Ex)) λ τ H Q ⟨G, δ, rp, q⟩ => ⟨G, δ, rp, by
  unfold lim at q
  dsimp only at q
  cases e : fs δ with
  | ok xs =>
   rw [e] at q
   intro v H1 G1 e1 d1
   simp only [R.bind_ok] at q
   split at q
   ·rename_i hl
    refine ⟨sF (by rw [Dens.length d1]; exact hl), λ p hp => ?_⟩
    exact q p v _ G1 (e1.trans (pK e1.GH hp)) aA (e1.GH.free hp) (e1.sH.free hp) d1
   ·exact False.elim q
  | exc c => rw [e] at q; exact q
  | stuck => rw [e] at q; exact q⟩
theorem kE {G H G' H' : Hp} {a : Addr} {vs : List V} (e : Ext G H G' H') (h1 : H' a = some (.lst vs)) (h2 : G' a = none) (h3 : H a = none) : Ext G H (cD G' a (.lst vs)) H' := by
 have sg : br G' (cD G' a (.lst vs)) := λ b o z => by rw [ar (aC z h2)]; exact z
 refine ⟨e.sG.trans sg, e.sH, λ b o z => ?_, λ b z => ?_⟩
 ·by_cases hb : b = a
  ·subst hb; rw [aA] at z; cases z; exact h1
  ·rw [ar hb] at z; exact e.GH b o z
 ·by_cases hb : b = a
  ·subst hb; exact .inr h3
  ·rw [ar hb] at z; exact e.new b z
noncomputable def mL (fl : Ev -> R (List D)) : Ev -> R D := λ δ => (fl δ).bind λ ds => .ok (.lst ds)
theorem AF.px (h : AF κ B X e fl) : PX κ B X e (mL fl) := λ pins σ Ex => bp (h pins σ Ex) λ τ H Q ⟨G, δ, rp, q⟩ => ⟨G, δ, rp, by
 unfold mL at q
 cases e : fl δ with
 | ok ds =>
  rw [e] at q
  intro a vs H' G' e1 h1 h2 h3 h4
  have sg : br G' (cD G' a (.lst vs)) := λ b o z => by rw [ar (aC z h2)]; exact z
  exact q _ H' _ (kE e1 h1 h2 h3) (by unfold aH; exact ⟨a, vs, rfl, cr.of aA, h4.mono sg⟩)
 | exc c => rw [e] at q; exact q
 | stuck => rw [e] at q; exact q⟩
noncomputable def oa (i : Nat) (fl : Ev -> R (List D)) : Ev -> SR := λ δ => bS (fl δ) δ λ ds => .next (δ.set i (some (.ow ds)))
theorem Cj (cx : Cxo X) {i : Nat} {x : Str} (hN : X.N.Nodup) (hi : X.N[i]? = some x) (hx : nN X.env.scope x) (hf : X.fn x = true \/ X.env.scope.names.lookup x = some .local) (h : AF κ B X e fl) (hs : swapsWith e (some (.Name x pos')) pos.line X.env = pure false) :
  PZ κ B X (.Assign [.Name x pos'] e pos) (oa i fl) := λ Ex pins s σ H G δ Dn hp I rp q => by
 unfold oa at q
 refine wpAny_Assign_Name (bw (h pins σ Ex pins s σ H (λ v H' => ∃ a ds vs G', v = .ref a /\ Ext G H G' H' /\ H' a = some (.lst vs) /\ G' a = none /\ H a = none /\ Dens ⟨X.K, κ⟩ G' vs ds /\ bH κ B X Ex pins Dn (.next (δ.set i (some (.ow ds))))) (iG I) ⟨G, δ, rp, ?_⟩)
  λ v s1 ⟨y, H', I', r, a, ds, vs, G', e0, e1, h1, h2, h3, h4, q⟩ => ?_) hs
 ·cases e : fl δ with
  | ok ds => rw [e] at q; exact λ a vs H' G' e1 h1 h2 h3 h4 => ⟨a, ds, vs, G', rfl, e1, h1, h2, h3, h4, q⟩
  | exc c => rw [e] at q; exact λ H' G' e1 ea s' I' F => q ea s' σ H' G' I' F (rp.ext e1)
  | stuck => rw [e] at q; exact q
 ·subst e0
  have rp' := rp.ext e1
  refine ju (X := X.wish Ex) (cG cx.sg I') hN hi hx r (λ s2 I2 => ⟨_, H', I2, q _ H' G' (rp'.setOw h1 h4 h2 ?_ λ j es z n z2 => ?_)⟩) hf (λ p σ v _ => cx.sg p _)
  ·cases q0 : X.H₀ a with
   | none => rfl
   | some o => exact absurd h3 (rp.there a (by rw [q0]; simp))
  ·obtain ⟨b, us, y1, y2, _⟩ := rp.ow j es z
   rw [y1] at z2
   cases z2
   rw [h3] at y2; cases y2
noncomputable def nJ (i : Nat) (f : Ev -> R D) : Ev -> SR := λ δ => match δ[i]? with
 | some (some (.ow ds)) => bS (f δ) δ λ d => if ds.length < 1000000 then .next (δ.set i (some (.ow (ds ++ [d])))) else .stuck
 | _ => .stuck
theorem vL (cx : Cxo X) {i : Nat} {x : Str} (hN : X.N[i]? = some x) (hv : og X.env.scope x) (hd : (x == ("__debug__" : Str)) = false) (hcd : (x == ("__classdict__" : Str)) = false) (h : PX κ B X e f)
  (hsw : swapsWith (.Call (.Attribute (.Name x pos) "append" apos) [e] [] pos') none pos''.line X.env = pure false)
  (hbase : attributeBase (.Name x pos) "append" X.env (eval (.Name x pos) X.env) = eval (.Name x pos) X.env)
  (hfew : ((backTo pos' (starEach [e] X.env)).all (λ x => !x.1) && (backToKw pos' (keywordEach [] X.env)).all (λ x => x.1.isSome)
   && decide (([e] : List Expr).length + ([] : List Keyword).length + (if ([] : List Keyword).isEmpty then 0 else 1) < 30)) = true)
  (hline : (apos.endLine == pos'.line) = true) (hs : starEach [e] X.env = (false, eval e X.env) :: starEach [] X.env) (hpl : (backTo pos' (starEach [] X.env)).any (·.1) = false) :
  PZ κ B X (.Expr (.Call (.Attribute (.Name x pos) "append" apos) [e] [] pos') pos'') (nJ i f) := λ Ex pins s σ H G δ Dn hp I rp q => by
 unfold nJ at q
 split at q
 ·rename_i ds ed
  obtain ⟨a, vs, x1, x2, x3, x4, x5⟩ := rp.ow i ds ed
  have pe := oP (X := At X pins σ Ex) PySem.F.plainAttrs_list PySem.F.slot_list_append PySem.F.type_list_append jz (j7 (X := At X pins σ Ex) (pos := pos) hN hv hd hcd) (rN h qd hs pins σ Ex) hbase hfew hline hs hpl
  refine wpAny_Expr_any (bw (pe pins s σ H (λ _ H' => ∃ G' δ', Rep ⟨X.K, κ⟩ B X.H₀ G' H' σ δ' /\ bH κ B X Ex pins Dn (.next δ')) (iG I) ⟨.ref a, x1, .inl ⟨rfl, vs, cr.of x2⟩, G, δ, rp, ?_⟩) λ v s1 ⟨y, H', I', r, G', δ', rp', q⟩ => ⟨σ, H', cG cx.sg I', q σ H' G' rp'⟩) I.quiet hsw
  unfold ag aq
  cases e : f δ with
  | ok d =>
   rw [e] at q
   simp only [R.bind_ok]
   intro us H1 G1 e1 d1
   simp only [fI] at q
   split at q
   ·rename_i hl
    obtain ⟨y, rfl, dy⟩ : ∃ y, us = [y] /\ aH ⟨X.K, κ⟩ G1 y d := by
     match us, d1 with
     | [y], d1 => unfold fU Dens at d1; exact ⟨y, rfl, d1.1⟩
     | [], d1 => unfold fU Dens at d1; exact d1.elim
     | _ :: _ :: _, d1 => unfold fU Dens at d1; have := d1.2; unfold Dens at this; exact this.elim
    have rp1 := rp.ext e1
    refine ⟨a, vs, y, rfl, rfl, e1.sH _ _ x2, ?_, G1, _, rp1.updOw ed x1 ((x3.mono e1.sG).append (aR dy aP)), q⟩
    have := x3.length
    rw [sizeLine_eq]
    omega
   ·exact False.elim q
  | exc c =>
   rw [e] at q
   exact λ H' G' e1 ea s' I' F => q ea s' σ H' G' I' F (rp.ext e1)
  | stuck => rw [e] at q; exact q
 ·exact False.elim q
end
end L3
namespace L3
open PySem PySem.Spec PyProof.Rows L2
mutual
noncomputable def uO : D -> PyData
 | .non => .none
 | .bl b => .bool b
 | .int i => .int i
 | .str x => .str ⟨x.toArray⟩
 | .tup ds => .tuple (toPs ds)
 | .lst ds => .list (toPs ds)
 | .ob _ _ _ => .none
 | .dic _ _ => .none
noncomputable def toPs : List D -> List PyData
 | [] => []
 | d :: ds => uO d :: toPs ds
end
mutual
noncomputable def eI : D -> Bool
 | .non | .bl _ | .int _ | .str _ => true
 | .tup ds => plainDs ds
 | .lst ds => plainDs ds
 | .ob _ _ _ => false
 | .dic _ _ => false
noncomputable def plainDs : List D -> Bool
 | [] => true
 | d :: ds => eI d && plainDs ds
end
section
variable {κ : Nat -> Addr} {Y : Cx} {pins : List (Addr × Obj)} {σ : St} {H G : Hp} {s : Shared}
mutual
theorem rV (I : Inv Y pins σ H s) (sm : br G H) : ∀ {d : D} {v : V} {u : Value}, aH ⟨Y.K, κ⟩ G v d -> eI d = true -> aM v u -> ∃ as, Reads s.heap u (uO d) as
 | .non, v, u, h, _, r => by unfold aH at h; subst h; cases r; exact ⟨_, .none⟩
 | .bl b, v, u, h, _, r => by unfold aH at h; subst h; cases r; exact ⟨_, .bool b⟩
 | .int i, v, u, h, _, r => by unfold aH at h; subst h; obtain ⟨t, rfl⟩ := r; exact ⟨_, .int i t⟩
 | .str x, v, u, h, _, r => by unfold aH at h; subst h; obtain ⟨t, rfl⟩ := r; exact ⟨_, .str _ t⟩
 | .tup ds, v, u, h, p, r => by
  unfold aH at h
  obtain ⟨a, vs, rfl, h1, h2⟩ := h
  cases r
  obtain ⟨its, rv, ⟨o, e, hc, n, hd⟩, _⟩ := I.tuple (bt sm h1)
  obtain ⟨as, q⟩ := reads_ofs I sm h2 (by unfold eI at p; exact p) rv
  exact ⟨as, reads_tuple_at e hc hd (by simpa using q)⟩
 | .lst ds, v, u, h, p, r => by
  unfold aH at h
  obtain ⟨a, vs, rfl, h1, h2⟩ := h
  cases r
  obtain ⟨its, rv, ⟨o, n, e, hc, _, hd⟩, _⟩ := I.list (sm.seq h1)
  obtain ⟨as, q⟩ := reads_ofs I sm h2 (by unfold eI at p; exact p) rv
  exact ⟨a :: as, reads_list_at e hc hd (by simpa using q)⟩
 | .ob _ _ _, _, _, _, p, _ => by unfold eI at p; cases p
 | .dic _ _, _, _, _, p, _ => by unfold eI at p; cases p
theorem reads_ofs (I : Inv Y pins σ H s) (sm : br G H) : ∀ {ds : List D} {vs : List V} {us : List Value}, Dens ⟨Y.K, κ⟩ G vs ds -> plainDs ds = true -> aU vs us -> ∃ as, ReadsAll s.heap us (toPs ds) as
 | [], [], us, _, _, r => by cases r; exact ⟨_, .nil⟩
 | d :: ds, v :: vs, us, h, p, r => by
  unfold Dens at h
  unfold plainDs at p
  have p := Bool.and_eq_true_iff.mp p
  cases r with
  | cons r1 r2 =>
   obtain ⟨as, q1⟩ := rV I sm h.1 p.1 r1
   obtain ⟨bs, q2⟩ := reads_ofs I sm h.2 p.2 r2
   exact ⟨_, .cons q1 q2⟩
 | [], _ :: _, _, h, _, _ => by unfold Dens at h; exact h.elim
 | _ :: _, [], _, h, _, _ => by unfold Dens at h; exact h.elim
end
theorem jC (I : Inv Y pins σ H s) (sm : br G H) {d : D} {v : V} {u : Value} (h : iM Y κ G H v d) (p : eI d = true) (r : aM v u) : ∃ as, Reads s.heap u (uO d) as := by
 rcases h with h | ⟨a, vs, ds, rfl, rfl, h3, h4⟩
 ·exact rV I sm h p r
 ·cases r
  obtain ⟨its, rv, ⟨o, n, e, hc, _, hd⟩, _⟩ := I.list (cr.of h3)
  obtain ⟨as, q⟩ := reads_ofs I sm h4 (by unfold eI at p; exact p) rv
  exact ⟨a :: as, reads_list_at e hc hd (by simpa using q)⟩
end
noncomputable def qv (d : D) : Bool := eI d && SeqAt.shaped (uO d)
noncomputable def va (x y : D) : Bool := (uO x).eqv (uO y)
noncomputable def cE (x y : D) : R Bool := if qv x && qv y then .ok (va x y) else .stuck
noncomputable def nW (x y : D) : R Bool := if qv x && qv y then .ok (!va x y) else .stuck
noncomputable def An (X : Cx) (κ : Nat -> Addr) (neg : Bool) : R2 := λ v u H Q => ∃ G x y, br G H /\ iM X κ G H v x /\ iM X κ G H u y /\ qv x = true /\ qv y = true /\ Q (.bl (neg ^^ va x y)) H
section
variable {κ : Nat -> Addr} {B : Gd} {X : Cx} {a b c : Expr} {fa fb : Ev -> R D} {pos p p' : Pos}
theorem nz {X Y : Cx} {κ : Nat -> Addr} (e : Y.K = X.K) {G H : Hp} {v : V} {d : D} (h : iM X κ G H v d) : iM Y κ G H v d := by
 unfold iM at h ⊢
 rw [e]; exact h
theorem xf (hu : X.A.units + 64 < cLine) : ∀ Y : Cx, Y.K = X.K -> Y.A = X.A -> jU Y (compareOp .Eq) (An X κ false) := by
 intro Y eK eA pins s σ H v u v' u' Q I r1 r2 ⟨G, x, y, sm, d1, d2, o1, o2, q⟩
 have o1 := Bool.and_eq_true_iff.mp o1
 have o2 := Bool.and_eq_true_iff.mp o2
 obtain ⟨as, q1⟩ := jC I sm (nz eK d1) o1.1 r1
 obtain ⟨bs, q2⟩ := jC I sm (nz eK d2) o2.1 r2
 exact eq_dataH q1 q2 o1.2 o2.2 (by rw [eA]; exact hu) ⟨.bl _, H, I, rfl, by simpa [va] using q⟩
theorem xh (hu : X.A.units + 64 < cLine) : ∀ Y : Cx, Y.K = X.K -> Y.A = X.A -> jU Y (compareOp .NotEq) (An X κ true) := by
 intro Y eK eA pins s σ H v u v' u' Q I r1 r2 ⟨G, x, y, sm, d1, d2, o1, o2, q⟩
 have o1 := Bool.and_eq_true_iff.mp o1
 have o2 := Bool.and_eq_true_iff.mp o2
 obtain ⟨as, q1⟩ := jC I sm (nz eK d1) o1.1 r1
 obtain ⟨bs, q2⟩ := jC I sm (nz eK d2) o2.1 r2
 exact ne_dataH q1 q2 o1.2 o2.2 (by rw [eA]; exact hu) ⟨.bl _, H, I, rfl, by simpa [va] using q⟩
theorem uC : ml κ X (An X κ false) (d6 cE) := by
 intro x y v u G H Q E s d1 d2 q
 unfold d6 cE at q
 split at q
 ·rename_i h
  have h := Bool.and_eq_true_iff.mp h
  exact ⟨G, x, y, s, d1, d2, h.1, h.2, by simpa using q _ H G (Ext.refl s) CS⟩
 ·exact False.elim q
theorem uE : ml κ X (An X κ true) (d6 nW) := by
 intro x y v u G H Q E s d1 d2 q
 unfold d6 nW at q
 split at q
 ·rename_i h
  have h := Bool.and_eq_true_iff.mp h
  exact ⟨G, x, y, s, d1, d2, h.1, h.2, by simpa using q _ H G (Ext.refl s) CS⟩
 ·exact False.elim q
theorem DD (hu : X.A.units + 64 < cLine) (ha : cJ κ B X a fa) (hb : cJ κ B X b fb) (hm : behindInMarks .Eq b = false) : PX κ B X (.Compare a [.Eq] [b] pos) (m2 (d6 cE) fa fb) := nr (xf hu) uC ha hb hm
theorem DJ (hu : X.A.units + 64 < cLine) (ha : cJ κ B X a fa) (hb : cJ κ B X b fb) (hm : behindInMarks .NotEq b = false) : PX κ B X (.Compare a [.NotEq] [b] pos) (m2 (d6 nW) fa fb) := nr (xh hu) uE ha hb hm
theorem B8 (hu : X.A.units + 64 < cLine) (ha : cJ κ B X a fa) (hb : cJ κ B X b fb) (hm : behindInMarks .Eq b = false) : k7 κ B X (.Compare a [.Eq] [b] pos) (bI cE fa fb) := fY (xf hu) uC ha hb hm
theorem Ce (hu : X.A.units + 64 < cLine) (ha : cJ κ B X a fa) (hb : cJ κ B X b fb) (hm : behindInMarks .NotEq b = false) : k7 κ B X (.Compare a [.NotEq] [b] pos) (bI nW fa fb) := fY (xh hu) uE ha hb hm
@[simp] theorem bc (i j : Int) : cE (.int i) (.int j) = .ok (i == j) := rfl
@[simp] theorem uy (i j : Int) : nW (.int i) (.int j) = .ok (!(i == j)) := rfl
@[simp] theorem EM (i j : Bool) : cE (.bl i) (.bl j) = .ok (i == j) := rfl
@[simp] theorem EO (i j : Bool) : nW (.bl i) (.bl j) = .ok (!(i == j)) := rfl
noncomputable def b9 : D -> R D
 | .lst ds => .ok (.int ds.length)
 | .tup ds => .ok (.int ds.length)
 | .str x => if x.length <= 1000000 then .ok (.int x.length) else .stuck
 | _ => .stuck
theorem wk {Y : Cx} {f : Value} {r r' : List V -> Hp -> VK -> Prop} (h : iU Y f r) (h' : iU Y f r') : iU Y f (λ xs H Q => r xs H Q \/ r' xs H Q) := by
 intro pins s σ H xs us Q I rx q
 rcases q with q | q
 ·exact h pins s σ H xs us Q I rx q
 ·exact h' pins s σ H xs us Q I rx q
theorem B1 (hg : Gl X "len") (hm : X.mg "len" = none) (ha : cJ κ B X a fa) (hs : starEach [a] X.env = (false, eval a X.env) :: starEach [] X.env) (hpl : (backTo pos (starEach [] X.env)).any (·.1) = false) : PX κ B X (.Call (.Name "len" p) [a] [] pos) (m1 b9 fa) := λ pins σ Ex =>
 bp (nj (X := At X pins σ Ex) (wk pz pA) hg hm PySem.boot_len (fe (X := At X pins σ Ex) (ha pins σ Ex) gT hs) (by decide) (by decide) hs hpl) λ τ H Q ⟨G, δ, rp, q⟩ => ⟨G, δ, rp, q.seq λ x v H1 G1 e1 d1 q1 => by
  have lst : ∀ {q : Addr} {vs : List V} {ds : List D}, (cr X.K H1 q vs \/ k9 X.K H1 q vs) -> Dens ⟨X.K, κ⟩ G1 vs ds -> pd (iF X κ) κ (EX X pins σ Ex) G1 H1 (.ok (.int ds.length)) Q →
   (∃ p ys, [V.ref q] = [.ref p] /\ (cr X.K H1 p ys \/ k9 X.K H1 p ys) /\ Q (.int ys.length) H1) := λ {q vs ds} h1 h2 h3 => ⟨q, vs, rfl, h1, by
    rw [h2.length]; exact h3 _ H1 G1 (Ext.refl e1.GH) nR⟩
  cases x with
  | lst ds =>
   rcases d1 with d1 | ⟨l, vs, es, rfl, e, h3, h4⟩
   ·unfold aH at d1
    obtain ⟨l, vs, rfl, h1, h2⟩ := d1
    exact .inl (lst (.inl (e1.GH.seq h1)) h2 q1)
   ·cases e
    exact .inl (lst (.inl (cr.of h3)) h4 q1)
  | tup ds =>
   rcases d1 with d1 | ⟨l, vs, es, rfl, e, h3, h4⟩
   ·unfold aH at d1
    obtain ⟨l, vs, rfl, h1, h2⟩ := d1
    exact .inl (lst (.inr (bt e1.GH h1)) h2 q1)
   ·cases e
  | str x =>
   simp only [b9] at q1
   split at q1
   ·rename_i hx
    have ev := rS d1
    subst ev
    refine .inr ⟨_, rfl, sF (by simpa [Str.length] using hx), ?_⟩
    have := q1 _ H1 G1 (Ext.refl e1.GH) nR
    simpa [Str.length] using this
   ·exact False.elim q1
  | _ => exact False.elim q1⟩
inductive Ty where
 | int | bool | str | tuple | list
noncomputable def Ty.nm : Ty -> String
 | .int => "int" | .bool => "bool" | .str => "str" | .tuple => "tuple" | .list => "list"
noncomputable def rc : D -> Ty -> R Bool
 | .non, _ => .ok false
 | .bl _, .int => .ok true
 | .bl _, .bool => .ok true
 | .bl _, _ => .ok false
 | .int _, .int => .ok true
 | .int _, _ => .ok false
 | .str _, .str => .ok true
 | .str _, _ => .ok false
 | .tup _, .tuple => .ok true
 | .tup _, _ => .ok false
 | .lst _, .list => .ok true
 | .lst _, _ => .ok false
 | .ob _ _ _, _ => .stuck
 | .dic _ _, _ => .stuck
theorem zd {K : PySem.W.Frag} (T : Ty) : PySem.W.kitOne K (.type "NoneType") (.type T.nm) = some false /\ PySem.W.kitOne K (.type "bool") (.type T.nm) = some (match T with | .int => true | .bool => true | _ => false) ∧
  PySem.W.kitOne K (.type "int") (.type T.nm) = some (match T with | .int => true | _ => false) /\ PySem.W.kitOne K (.type "str") (.type T.nm) = some (match T with | .str => true | _ => false) ∧
  PySem.W.kitOne K (.type "tuple") (.type T.nm) = some (match T with | .tuple => true | _ => false) /\ PySem.W.kitOne K (.type "list") (.type T.nm) = some (match T with | .list => true | _ => false) := by
 cases T <;> exact ⟨rfl, rfl, rfl, rfl, rfl, rfl⟩
theorem pw (T : Ty) : bootBuiltins (Str.ofString T.nm) = some (.type T.nm) := by
 cases T <;> decide +kernel
noncomputable def Fp (X : Cx) (κ : Nat -> Addr) (T : Ty) : List V -> Hp -> VK -> Prop := λ xs H Q => ∃ G v x k, xs = [v, .ty T.nm] /\ br G H /\ iM X κ G H v x /\ rc x T = .ok k /\ Q (.bl k) H
theorem wj (T : Ty) : ∀ Y : Cx, Y.K = X.K -> iU Y (.builtin "isinstance") (Fp X κ T) := by
 rintro Y eK pins s σ H xs us Q I rx ⟨G, v, x, k, e, sm, d, hk, q⟩
 subst e
 obtain ⟨k1, k2, k3, k4, k5, k6⟩ := zd (K := Y.K) T
 have d := nz eK d
 cases rx with | cons r1 rx => cases rx with | cons r2 rx => cases rx with | nil =>
  rename_i u t
  cases r2
  have fin : ∀ (b : Bool), R.ok b = R.ok k -> ∀ tk, EP Y pins σ Q (.bool b) { s with toks := tk } := λ b e tk => by
   injection e with e
   subst e
   exact ⟨.bl b, H, I.tok tk, rfl, q⟩
  have lst : ∀ {l : Addr} {vs : List V}, v = .ref l -> cr Y.K H l vs -> rc (.lst []) T = .ok k -> wpAny (model Y.prog Y.w) Y.A (call (.builtin "isinstance") [u, .type T.nm]) (EP Y pins σ Q) Y.xe s := λ {l vs} e0 h1 e => by
   subst e0
   cases r1
   obtain ⟨its, _, ⟨o, n, e1, hc, _⟩, _⟩ := I.list h1
   exact PySem.W.kia_one (PySem.W.kitx_list (K := Y.K)) I.kIn ⟨o, e1, hc⟩ k6 (by intro z; cases z) (fin _ (by rw [<- e]; cases T <;> rfl))
  rcases d with d | ⟨l, vs, ds, e0, e, h3, h4⟩
  ·cases x with
   | non => unfold aH at d; subst d; cases r1; exact PySem.W.kia_one (PySem.W.kitx_none (K := Y.K)) I.kIn trivial k1 (by intro z; cases z) (fin _ (by rw [<- hk]; cases T <;> rfl))
   | bl b => unfold aH at d; subst d; cases r1; exact PySem.W.kia_one (PySem.W.kitx_bool (K := Y.K)) I.kIn trivial k2 (by intro z; cases z) (fin _ (by rw [<- hk]; cases T <;> rfl))
   | int i => unfold aH at d; subst d; obtain ⟨tk, rfl⟩ := r1; exact PySem.W.kia_one (PySem.W.kitx_int (K := Y.K)) I.kIn trivial k3 (by intro z; cases z) (fin _ (by rw [<- hk]; cases T <;> rfl))
   | str i => unfold aH at d; subst d; obtain ⟨tk, rfl⟩ := r1; exact PySem.W.kia_one (PySem.W.kitx_str (K := Y.K)) I.kIn trivial k4 (by intro z; cases z) (fin _ (by rw [<- hk]; cases T <;> rfl))
   | tup ds =>
    unfold aH at d
    obtain ⟨l, vs, rfl, h1, _⟩ := d
    cases r1
    obtain ⟨its, _, ⟨o, e1, hc, _⟩, _⟩ := I.tuple (bt sm h1)
    exact PySem.W.kia_one (PySem.W.kitx_tuple (K := Y.K)) I.kIn ⟨o, e1, hc⟩ k5 (by intro z; cases z) (fin _ (by rw [<- hk]; cases T <;> rfl))
   | lst ds =>
    unfold aH at d
    obtain ⟨l, vs, e0, h1, _⟩ := d
    exact lst e0 (sm.seq h1) (by rw [<- hk]; cases T <;> rfl)
   | ob _ _ _ => cases hk
   | dic _ _ => cases hk
  ·subst e
   exact lst e0 (cr.of h3) (by rw [<- hk]; cases T <;> rfl)
theorem vK (T : Ty) {y : Str} (hy : y = Str.ofString T.nm) (hg : Gl X "isinstance") (hm : X.mg "isinstance" = none) (hgT : Gl X y) (hmT : X.mg y = none) (hn : y ≠ "__name__") (hdb : (y == ("__debug__" : Str)) = false) (ha : cJ κ B X a fa)
  (hs : starEach [a, .Name y p'] X.env = (false, eval a X.env) :: starEach [.Name y p'] X.env) (hs2 : starEach [.Name y p'] X.env = (false, eval (.Name y p') X.env) :: starEach [] X.env) (hpl : (backTo pos (starEach [.Name y p'] X.env)).any (·.1) = false) :
  PX κ B X (.Call (.Name "isinstance" p) [a, .Name y p'] [] pos) (m1 (λ x => CQ (rc x T)) fa) := λ pins σ Ex =>
 bp (nj (X := At X pins σ Ex) (wj (κ := κ) (X := X) T (At X pins σ Ex) rfl) hg hm PyProof.Rows.boot_isinstance (fe (X := At X pins σ Ex) (ha pins σ Ex) (fe (X := At X pins σ Ex) (zw (X := At X pins σ Ex) (v := .ty T.nm) hgT hmT (by rw [hy]; exact pw T) rfl hn hdb) gT hs2) hs) (by decide) (by decide) hs hpl) λ τ H Q ⟨G, δ, rp, q⟩ => ⟨G, δ, rp, q.seq λ x v H1 G1 e1 d1 q1 => by
  cases e : rc x T with
  | ok k => rw [e] at q1; exact ⟨G1, v, x, k, rfl, e1.GH, d1, e, q1 _ H1 G1 (Ext.refl e1.GH) CS⟩
  | exc c => cases x <;> cases T <;> cases e
  | stuck => rw [e] at q1; exact False.elim q1⟩
end
end L3
namespace L2
theorem Fun.at {K : PySem.W.Frag} {x qual : PySem.Str} {st : PySem.Stmt} {f : PySem.Addr} {fd : PySem.FuncData} (F : Fun K x qual st f fd) : ∃ oc od osl, K.lookup f = some ⟨oc, od, .func fd, osl⟩ := by
 obtain ⟨oc, od, _, _, _, _, _, _, osl, _, l, _⟩ := F.ex
 exact ⟨oc, od, osl, l⟩
end L2
namespace L3
open PySem PySem.Spec PyProof.Rows L2
noncomputable def MC (P : Program) (w : World) (K : PySem.W.Frag) (mg : Str -> Option Value) (base : Heap) (κ : Nat -> Addr) (x : Str) (ps : List Str) (m : List D -> R D) (k : Nat) : Prop :=
 ∃ f fd, FnOk P w K mg base (sx P w) k f fd ps (DR K κ ps.length m) /\ mg x = some (.ref f) /\ PySem.W.keepIn K (.ref f) = true /\ ke K fd ps [] /\ ∃ oc od osl, K.lookup f = some ⟨oc, od, .func fd, osl⟩
theorem MC.cal {κ : Nat -> Addr} {X : Cx} {x : Str} {ps : List Str} {n : Nat} {m : List D -> R D} {k j : Nat} (h : MC X.prog X.w X.K X.mg X.base κ x ps m k) (hr : Room j X.A) (hj : k <= j) (hn : ps.length = n := by rfl) : Cal κ X x n m := by
 obtain ⟨f, fd, F, h1, h2, h3, _⟩ := h
 subst hn
 exact ⟨f, fd, ps, k, F, hr.mono hj, h1, h2, h3⟩
theorem wT : ∀ (δ : Ev) (ds : List D), aq δ = .ok ds -> ds.length = 0 := λ δ ds h => by
 unfold aq at h; injection h with h; subst h; rfl
theorem vo {f : Ev -> R D} {fs : Ev -> R (List D)} {n : Nat} (h : ∀ δ ds, fs δ = .ok ds -> ds.length = n) : ∀ (δ : Ev) (ds : List D), ag f fs δ = .ok ds -> ds.length = n + 1 := λ δ ds e => by
 unfold ag at e
 cases q : f δ with
 | ok x =>
  rw [q] at e
  cases q2 : fs δ with
  | ok xs =>
   rw [q2] at e
   injection e with e
   subst e
   simp [h δ xs q2]
  | exc c => rw [q2] at e; cases e
  | stuck => rw [q2] at e; cases e
 | exc c => rw [q] at e; cases e
 | stuck => rw [q] at e; cases e
theorem jD {K : PySem.W.Frag} {κ : Nat -> Addr} {mg : Str -> Option Value} {x : Str} {a : Addr} {dd : Option Addr} {its : Array Value} {n : Nat} {sl : Array (Option Value)} {vs : List V} {ds : List D} (h1 : mg x = some (.ref a)) (h2 : K.lookup a = some ⟨.type "tuple", dd, .seq its n, sl⟩) (h3 : aU vs its.toList) (h4 : vs.length <= 1000) (h5 : ∀ G, Dens ⟨K, κ⟩ G vs ds) :
  ∃ u v, mg x = some u /\ aM v u /\ ∀ G, aH ⟨K, κ⟩ G v (.tup ds) := by
 refine ⟨_, .ref a, h1, rfl, λ G => ?_⟩
 unfold aH
 refine ⟨a, vs, rfl, .inr ⟨_, its, n, h2, rfl, rfl, ?_, h3⟩, h5 G⟩
 have := h3.length
 simp only [Array.length_toList] at this
 rw [sizeLine_eq]
 omega
theorem Bx {P : Program} {w : World} {K : PySem.W.Frag} {mg : Str -> Option Value} {base : Heap} {κ : Nat -> Addr} {y : Str} {m : List D -> R D} {k : Nat} {f : Addr} {fd : FuncData} {oc : Value} {od : Option Addr} {osl : Array (Option Value)}
  (hm : mg "law" = some (.ref f)) (l : K.lookup f = some ⟨oc, od, .func fd, osl⟩) (o : MC P w K mg base κ "law" [y] m k) (main : ∀ ns : List Int, ns.length <= 63 -> m [.lst (ns.map D.int)] = .ok (.bl true)) :
  FnOk P w K mg base (sx P w) k f fd [y] (λ vs H Q _ => ∃ (a : Addr) (ns : List Int), vs = [.ref a] /\ cr K H a (ns.map V.int) /\ ns.length <= 63 /\ ∀ H', Q (.bl true) H') := by
 obtain ⟨f', fd', F, h1, _, _, oc', od', osl', l'⟩ := o
 rw [hm] at h1; cases h1
 rw [l] at l'; cases l'
 refine F.imp λ vs H Q E ⟨a, ns, e, hS, hl, hq⟩ => ?_
 subst e
 refine ⟨rfl, H, [.lst (ns.map D.int)], br.refl _, aR (by unfold aH; exact ⟨a, _, rfl, hS, u8 ns⟩) aP, ?_⟩
 rw [main ns hl]
 intro v H' G' _ d
 have : v = .bl true := by simpa [aH] using d
 subst this
 exact hq H'
end L3
namespace L3
open PySem PySem.Spec PyProof.Rows L2
noncomputable def aB : Expr -> Bool
 | .Starred _ _ => false
 | _ => true
theorem aJ {e : Expr} {es : List Expr} {env : Env} (h : aB e = true) : starEach (e :: es) env = (false, eval e env) :: starEach es env := by
 cases e <;> first | rfl | exact Bool.noConfusion h
theorem ky {pos : Pos} {env : Env} : ∀ {es : List Expr}, es.all aB = true -> (backTo pos (starEach es env)).any (·.1) = false
 | [], _ => rfl
 | e :: es, h => by
  simp only [List.all_cons, Bool.and_eq_true] at h
  rw [aJ h.1]
  show (false || (backTo pos (starEach es env)).any (·.1)) = false
  rw [ky h.2]; rfl
theorem kx {pos : Pos} {env : Env} {e : Expr} (h : aB e = true) : ((backTo pos (starEach [e] env)).all (λ x => !x.1) && (backToKw pos (keywordEach [] env)).all (λ x => x.1.isSome)
   && decide (([e] : List Expr).length + ([] : List Keyword).length + (if ([] : List Keyword).isEmpty then 0 else 1) < 30)) = true := by
 rw [aJ h]; rfl
noncomputable def eH : Expr -> Bool
 | .ListComp _ _ _ _ => false
 | .SetComp _ _ _ _ => false
 | .DictComp _ _ _ _ _ => false
 | _ => true
theorem jv {e : Expr} {t : Option Expr} {n : Nat} {env : Env} (h : eH e = true) : swapsWith e t n env = pure false := by
 cases e <;> first | rfl | exact Bool.noConfusion h
theorem tX {e t : Expr} {n : Nat} {env : Env} (h : eH e = true) : swapsWithSole [t] e n env = pure false := by
 show swapsWith e (some t) n env = pure false
 exact jv h
noncomputable def wX : Expr -> Bool
 | .Tuple _ _ _ => false
 | _ => true
theorem vW {t e : Expr} {env : Env} (h : wX e = true) : swappedStores [t] e env = pure none := by
 cases t <;> cases e <;> first | rfl | exact Bool.noConfusion h
theorem ww {t : Expr} {env : Env} (h : aB t = true) : (assignEach [t] env).map (·.2) = [assign t env] := by
 cases t <;> first | rfl | exact Bool.noConfusion h
theorem u9 {t : Expr} {ts : List Expr} {env : Env} (h : aB t = true) : (assignEach (t :: ts) env).map (·.2) = assign t env :: (assignEach ts env).map (·.2) := by
 cases t <;> first | rfl | exact Bool.noConfusion h
theorem mI {env : Env} : ∀ {ts : List Expr}, ts.all aB = true -> (assignEach ts env).length = ts.length /\ (assignEach ts env).findIdx? (·.1) = none
 | [], _ => ⟨rfl, rfl⟩
 | t :: ts, h => by
  simp only [List.all_cons, Bool.and_eq_true] at h
  obtain ⟨h1, h2⟩ := mI (env := env) h.2
  have e : assignEach (t :: ts) env = (false, assign t env) :: assignEach ts env := by
   have := h.1
   cases t <;> first | rfl | exact Bool.noConfusion this
  rw [e]
  refine ⟨by simp [h1], ?_⟩
  rw [List.findIdx?_cons]
  simp [h2]
noncomputable def ET : Expr -> Bool
 | .Name _ _ | .Call _ _ _ _ | .Subscript _ _ _ | .Attribute _ _ _ | .BinOp _ _ _ _ | .Tuple _ _ _ | .List _ _ => true
 | _ => false
theorem Aw {a : Expr} {env : Env} (h : ET a = true) : ∀ whole, isTrue a env whole = (do let v ← whole; standAt a.pos; holding [v] (truthy v)) := by
 intro w
 cases a <;> first | rfl | exact Bool.noConfusion h
noncomputable def yy : Expr -> Bool
 | .Name _ _ | .Call _ _ _ _ | .Subscript _ _ _ | .Attribute _ _ _ | .BinOp _ _ _ _ | .List _ _ | .Constant _ _ _ | .IfExp _ _ _ _ | .UnaryOp _ _ _ | .Compare _ _ _ _ | .BoolOp _ _ _ => true
 | _ => false
theorem pL {a : Expr} {env : Env} (h : yy a = true) : ∀ x, foldedSetIterable a env x = pure x := by
 intro x
 cases a <;> first | rfl | exact Bool.noConfusion h
theorem Dm {b : Expr} (h : yy b = true) : pf b := by
 intro o i
 cases b <;> first | rfl | exact Bool.noConfusion h
noncomputable def Fo : Expr -> Bool
 | .Set _ _ _ => false
 | _ => true
theorem ao {o : CmpOp} {b : Expr} (h : Fo b = true) : behindInMarks o b = false := by
 cases b <;> first | rfl | exact Bool.noConfusion h
section
variable {κ : Nat -> Addr} {B : Gd} {X : Cx} {a b e k tg : Expr} {es tgs : List Expr} {f fa fb fk : Ev -> R D} {fs fl : Ev -> R (List D)} {pos pos' pos'' apos p p' : Pos} {x : Str} {m : List D -> R D} {n i : Nat}
theorem uP (ha : PX κ B X a fa) (hr : mn κ B X es fs) (h : aB a = true) : mn κ B X (a :: es) (ag fa fs) := rN ha hr (aJ h)
theorem CG (c : Cxo X) (C : Cal κ X x n m) (hn : (a :: es).length = n) (hg : Gl X x) (ha : mn κ B X (a :: es) fs) (hdb : (x == ("__debug__" : Str)) = false) (h : (a :: es).all aB = true) (hlen : ∀ δ ds, fs δ = .ok ds -> ds.length = n) :
  PX κ B X (.Call (.Name x p) (a :: es) [] pos) (aF m fs) := by
 have h' := h
 simp only [List.all_cons, Bool.and_eq_true] at h'
 exact zR c C hn hg ha hdb (aJ h'.1) (ky h'.2) hlen
theorem D9 (cx : Cxo X) (hN : X.N.Nodup) (hi : X.N[i]? = some x) (hx : nN X.env.scope x) (hf : X.fn x = true \/ X.env.scope.names.lookup x = some .local) (h : PX κ B X e f) (hs : eH e = true) : PZ κ B X (.Assign [.Name x pos'] e pos) (aV i f) := Cm cx hN hi hx hf h (jv hs)
theorem D8 (cx : Cxo X) (hN : X.N.Nodup) (hi : X.N[i]? = some x) (hx : nN X.env.scope x) (hf : X.fn x = true \/ X.env.scope.names.lookup x = some .local) (h : AF κ B X e fl) (hs : eH e = true) : PZ κ B X (.Assign [.Name x pos'] e pos) (oa i fl) := Cj cx hN hi hx hf h (jv hs)
theorem CI (cx : Cxo X) (h : PX κ B X e f) (hs : eH e = true) : PZ κ B X (.Expr e pos) (ss f) := Aa cx h (jv hs)
theorem yj (cx : Cxo X) (hN : X.N[i]? = some x) (hv : og X.env.scope x) (hd : (x == ("__debug__" : Str)) = false) (hcd : (x == ("__classdict__" : Str)) = false) (h : PX κ B X e f) (hs : aB e = true) (hline : (apos.endLine == pos'.line) = true) :
  PZ κ B X (.Expr (.Call (.Attribute (.Name x pos) "append" apos) [e] [] pos') pos'') (nJ i f) := vL cx hN hv hd hcd h (jv rfl) rfl (kx hs) hline (aJ hs) rfl
theorem D3 (cx : Cxo X) {bd : D -> Ev -> Option Ev} (h : PX κ B X e f) (hg : v5 κ B X tg bd) (hs : eH e = true) (ht : wX e = true) (h1 : aB tg = true) : PZ κ B X (.Assign [tg] e pos) (v2 bd f) := Cg cx h hg (tX hs) (vW ht) (ww h1)
theorem Eb {kk : Nat} {bs : List D -> Ev -> Option Ev} (hc : X.calm = true) (h : qy κ B X tgs bs) (hn : tgs.length = n) (hst : tgs.all aB = true) : v5 κ B X (.Tuple tgs kk pos) (qD n bs) := zC hc h ((mI hst).1.trans hn) (mI hst).2
theorem CH {bd : D -> Ev -> Option Ev} {bs : List D -> Ev -> Option Ev} (h1 : v5 κ B X tg bd) (h2 : qy κ B X tgs bs) (h : aB tg = true) : qy κ B X (tg :: tgs) (dr bd bs) := vF h1 h2 (u9 h)
theorem CM (ha : cJ κ B X a fa) (h : ET a = true) : k7 κ B X a (mT fa) := z7 ha (Aw h)
theorem E9 (ha : cJ κ B X a fa) (hb : cJ κ B X b fb) (h : yy b = true) : PX κ B X (.Subscript a b pos) (m2 bV fa fb) := DG ha hb (Dm h)
theorem D6 (hg : Gl X "len") (hm : X.mg "len" = none) (ha : cJ κ B X a fa) (h : aB a = true) : PX κ B X (.Call (.Name "len" p) [a] [] pos) (m1 b9 fa) := B1 hg hm ha (aJ h) rfl
theorem yk (T : Ty) {y : Str} (hy : y = Str.ofString T.nm) (hg : Gl X "isinstance") (hm : X.mg "isinstance" = none) (hgT : Gl X y) (hmT : X.mg y = none) (hn : y ≠ "__name__") (hdb : (y == ("__debug__" : Str)) = false) (ha : cJ κ B X a fa) (h : aB a = true) :
  PX κ B X (.Call (.Name "isinstance" p) [a, .Name y p'] [] pos) (m1 (λ x => CQ (rc x T)) fa) := vK T hy hg hm hgT hmT hn hdb ha (aJ h) rfl rfl
theorem v0 (hg : Gl X "range") (hm : X.mg "range" = none) (ha : mn κ B X [a] fs) (h : aB a = true) : yE κ B X tg (.Call (.Name "range" p) [a] [] pos) (λ δ => (fs δ).bind yr) := tH hg hm ha (aJ h)
theorem v1 (hg : Gl X "range") (hm : X.mg "range" = none) (ha : mn κ B X [a, b] fs) (h : aB a = true) (h' : aB b = true) : yE κ B X tg (.Call (.Name "range" p) [a, b] [] pos) (λ δ => (fs δ).bind su) := tI hg hm ha (by rw [aJ h, aJ h']; rfl) (aJ h')
theorem D5 (cx : Cxo X) (hc : X.calm = true) {iter : Expr} {body : List Stmt} {fit : Ev -> R (List D)} {bd : D -> Ev -> Option Ev} {F : Ev -> SR} (hi : yE κ B X tg iter fit) (hg : ∀ B, v5 κ B X tg bd) (hb : ∀ B, qu κ B X body F) (h : yy iter = true) : PZ κ B X (.For tg iter body [] pos) (gU fit bd F) := Ci cx hc hi hg hb (pL h)
noncomputable def dw : List Expr -> Option (List D)
 | [] => some []
 | .Constant (.int i) _ _ :: es => (dw es).map (D.int i :: ·)
 | .Constant (.bool i) _ _ :: es => (dw es).map (D.bl i :: ·)
 | .Constant (.str x) _ _ :: es => (dw es).map (D.str x.cps.toList :: ·)
 | _ => none
theorem o3 : ∀ {es : List Expr} {ds : List D}, dw es = some ds -> mn κ B X es (λ _ => .ok ds)
 | [], ds, h => by unfold dw at h; cases h; exact qd
 | e :: es, ds, h => by
  have step : ∀ {d : D} {e : Expr}, PX κ B X e (mC d) -> aB e = true -> (dw es).map (d :: ·) = some ds -> mn κ B X (e :: es) (λ _ => .ok ds) := λ {d e} h1 h2 h3 => by
   cases q : dw es with
   | none => rw [q] at h3; cases h3
   | some r =>
    rw [q] at h3
    cases h3
    exact uP h1 (o3 q) h2
  unfold dw at h
  split at h
  ·rename_i e1; cases e1
  ·rename_i e1; cases e1; exact step xH rfl h
  ·rename_i e1; cases e1; exact step AY rfl h
  ·rename_i e1; cases e1; exact step (xI rfl) rfl h
  ·cases h
end
end L3
namespace L3
open PySem PySem.Spec PyProof.Rows L2
noncomputable abbrev Fj : List Value := [.type "ValueError", .type "Exception", .type "BaseException", .type "object"]
noncomputable def uR (κ : Nat -> Addr) (K : PySem.W.Frag) (mg : Str -> Option Value) (x : Str) (c : Nat) : Prop := mg x = some (.ref (κ c)) /\ PySem.W.excIn K (κ c) Fj "ValueError.__new__" = true
noncomputable def jH (κ : Nat -> Addr) (X : Cx) (x : Str) (c : Nat) : Prop := uR κ X.K X.mg x c
theorem uR.at {κ : Nat -> Addr} {K : PySem.W.Frag} {mg : Str -> Option Value} {X : Cx} {x : Str} {c : Nat} (h : uR κ K mg x c) (e1 : X.K = K) (e2 : X.mg = mg) : jH κ X x c := by
 unfold jH; rw [e1, e2]; exact h
theorem y8 {K : PySem.W.Frag} {h : Heap} {C : Addr} {bmB : List Value} {newId : String} (X : K.In h) (q : PySem.W.excIn K C bmB newId = true) :
  ∃ bm N nm qn bs hdct sn sub ab col dd k0 k1 k2 k3 k5 mN, h.get? C = some (excClassObj nm qn C N bs bm hdct sn sub ab col dd k0 k1 k2 k3 k5 newId) /\ h.Ns N mN /\ mN "__init__" = none /\ OwnTail h bmB bm := by
 unfold PySem.W.excIn at q
 split at q
 case h_2 => cases q
 rename_i dct cld slt look
 split at q
 case h_2 => cases q
 rename_i self bm z0 z1 z2 z3 nw z5 hmro hslots
 simp only [Bool.and_eq_true, beq_iff_eq, Bool.not_eq_true'] at q
 obtain ⟨⟨⟨⟨⟨es, en⟩, hdl⟩, htl⟩, hns⟩, hin⟩ := q
 subst es
 subst en
 obtain ⟨f1, f2, f3, f4, f5, f6, f7, f8, f9, f10, f11⟩ := cld
 dsimp only at hmro hdl hns hin
 subst hmro
 subst hdl
 have hsl : slt = #[z0, z1, z2, z3, some (.builtin nw), z5] := by
  cases slt with
  | mk l => simp only at hslots; rw [hslots]
 subst hsl
 exact ⟨bm, f4, f1, f5, f2, f6, f7, f8, f9, f10, dct, z0, z1, z2, z3, z5, _, X _ _ look, .of_isNs (PySem.W.isNs_of_in X hns), PySem.W.nsMap_none_of_in X hns hin, PySem.W.tail_of_in X htl⟩
section
variable {κ : Nat -> Addr} {B : Gd} {X : Cx} {pos : Pos} {x : Str}
theorem xO {cpos np p : Pos} {c : Nat} (cx : Cxo X) (hc : X.calm = true) (C : jH κ X x c) (hg : Gl X x) {y : Str} {j : Nat} (hd : (x == ("__debug__" : Str)) = false) : PZ κ B X (.Raise (some (.Call (.Name x np) [.Constant (.str y) j p] [] cpos)) none pos) (λ δ => .exc c δ) := λ Ex pins s σ H G δ Dn hp I rp h => by
 obtain ⟨hm, hin⟩ := C
 obtain ⟨bm, N, nm, qn, bs, hdct, sn, sub, ab, col, dd, k0, k1, k2, k3, k5, mN, hC, hN, hni, T⟩ := y8 I.kIn hin
 refine wpAny_Raise_call_subT (C := κ c) (nm := nm) (q := qn) (N := N) (bs := bs) (bm := bm) (hdct := hdct) (sn := sn) (sub := sub) (ab := ab) (col := col) (dd := dd) (k0 := k0) (k1 := k1) (k2 := k2) (k3 := k3) (k5 := k5)
  PySem.F.excBase_ValueError (mN := mN) (T.hasType PySem.F.excBase_ValueError.hasBase) (I.ok.hd hc) rfl hni (pS (X := X.wish Ex) I hg hm ⟨rfl, ?_⟩ hd)
 rw [aJ (e := .Constant (.str y) j p) (es := []) rfl]
 refine Calls.evalArgs_plain ?_
 show wpAny _ _ (spliced ((false, eval (.Constant (.str y) j p) X.env) :: backTo cpos (starEach [] X.env))) _ _ s
 refine Calls.spliced_cons (Calls.Constant_str (pos := p) (k := j) ?_)
 refine Calls.spliced_nil ?_
 have I1 : Inv (X.wish Ex) pins σ H { s with toks := s.toks + 1 } := I.tok _
 refine ⟨rfl, by rw [sizeLine_eq]; show 1 <= 16777216; decide, hC, hN, T, λ h' e hmade => ?_⟩
 obtain ⟨t, he, htn, ht⟩ := hmade.there
 have ne : H e = none := by
  cases q : H e with
  | none => rfl
  | some o =>
   obtain ⟨u, hu⟩ := m9 (I.hok e o q)
   have := hmade.new
   rw [hu] at this; cases this
 have fr : FreshX (X.wish Ex) pins H e := lg I1 cx.ex hmade.new ne
 refine h e { s with heap := h', toks := s.toks + 1 } σ H G (I.kept (t' := s.toks + 1) λ b u z => hmade.keeps b u z) ⟨⟨_, _, _, he, rfl, rfl, rfl, .inl rfl⟩, ⟨fr.nl, fr.nc, fr.np, fr.n0, fr.nh⟩⟩ rp
end
section
variable {κ : Nat -> Addr} {B : Gd} {X : Cx} {pos : Pos} {Ex : Value -> Shared -> Prop} {pins : List (Addr × Obj)} {s : Shared} {σ : St} {H G : Hp} {δ : Ev} {Dn : Ends} {ea : Addr} {C : Value}
end
end L3
namespace L3
open PySem PySem.Spec PyProof.Rows L2
section
variable {κ : Nat -> Addr} {B : Gd} {X : Cx} {a b c : Expr} {fa fb : Ev -> R D} {fs : Ev -> R (List D)} {es : List Expr} {pos p : Pos}
noncomputable def AR (o : List D -> R D) (fs : Ev -> R (List D)) : Ev -> R D := λ δ => (fs δ).bind o
noncomputable def w6 : List D -> R D
 | [.int i, .int j] => .ok (.int (if j < i then j else i))
 | _ => .stuck
theorem uT : bootBuiltins "min" = some (.builtin "min") := by decide +kernel
theorem D7 (hc : X.calm = true) (hg : Gl X "min") (hm : X.mg "min" = none) (ha : mn κ B X [a, b] fs) (h : aB a = true) (h' : aB b = true) : PX κ B X (.Call (.Name "min" p) [a, b] [] pos) (AR w6 fs) := λ pins σ Ex =>
 bp (nj (X := At X pins σ Ex) (uV hc) hg hm uT (ha pins σ Ex) (by decide) (by decide) (aJ h) (ky (by simp [h']))) λ τ H Q ⟨G, δ, rp, q⟩ => ⟨G, δ, rp, q.seq λ x v H1 G1 e1 d1 q1 => by
  unfold w6 at q1
  split at q1
  ·rename_i i j
   exact ⟨i, j, lc d1, q1 _ H1 G1 (Ext.refl e1.GH) nR⟩
  ·exact False.elim q1⟩
noncomputable def vt : List D -> R D
 | [.int i] => .ok (.int i)
 | [.bl k] => .ok (.int (if k then 1 else 0))
 | _ => .stuck
theorem AA (hg : Gl X "int") (hm : X.mg "int" = none) (ha : mn κ B X [a] fs) (h : aB a = true) : PX κ B X (.Call (.Name "int" p) [a] [] pos) (AR vt fs) := λ pins σ Ex =>
 bp (oQ (X := At X pins σ Ex) uU hg hm (pw .int) (ha pins σ Ex) (by decide) (by decide) (aJ h) (ky rfl)) λ τ H Q ⟨G, δ, rp, q⟩ => ⟨G, δ, rp, q.seq λ x v H1 G1 e1 d1 q1 => by
  unfold vt at q1
  split at q1
  ·rename_i i
   exact .inl ⟨i, jx d1, q1 _ H1 G1 (Ext.refl e1.GH) nR⟩
  ·rename_i k
   refine .inr ⟨k, ?_, q1 _ H1 G1 (Ext.refl e1.GH) nR⟩
   match v, d1 with
   | [w], d1 => unfold fU Dens at d1; have := d1.1; unfold aH at this; rw [this]
   | [], d1 => unfold fU Dens at d1; exact d1.elim
   | _ :: _ :: _, d1 => unfold fU Dens at d1; have := d1.2; unfold Dens at this; exact this.elim
  ·exact False.elim q1⟩
noncomputable def C4 (κ : Nat -> Addr) (B : Gd) (X : Cx) (e : Option Expr) (f : Ev -> R (Option Int)) : Prop := ∀ pins σ Ex, PO (At X pins σ Ex) e (tO (λ _ _ (a : Option Int) b => a = b) X κ B (EX X pins σ Ex) f)
theorem xB {Y : Cx} {e : Option Expr} {t t' : TO} (h : PO Y e t) (k : ∀ σ H Q, t' σ H Q -> t σ H Q) : PO Y e t' := λ pins s σ H Q I q => h pins s σ H Q I (k σ H Q q)
noncomputable def sW : Ev -> R (Option Int) := λ _ => .ok none
noncomputable def mP (f : Ev -> R D) : Ev -> R (Option Int) := λ δ => (f δ).bind λ d => match d with
 | .int i => .ok (some i)
 | _ => .stuck
theorem xL : C4 κ B X none sW := λ pins σ Ex => xB zH λ τ H Q ⟨G, δ, rp, q⟩ => q none H G (Ext.refl rp.GH) rfl
theorem xM (h : PX κ B X a fa) : C4 κ B X (some a) (mP fa) := λ pins σ Ex => xB (zI (h pins σ Ex)) λ τ H Q ⟨G, δ, rp, q⟩ => ⟨G, δ, rp, q.seq λ x v H1 G1 e1 d1 q1 => by
 cases x with
 | int i =>
  unfold iF aH at d1
  exact ⟨i, d1, q1 _ H1 G1 (Ext.refl e1.GH) rfl⟩
 | _ => exact False.elim q1⟩
noncomputable def eF {α : Type} (xs : List α) (lo hi : Option Int) : List α := (xs.drop (HT.sIx xs.length 0 lo)).take (HT.sIx xs.length xs.length hi - HT.sIx xs.length 0 lo)
theorem qS {Z : Zx} {G : Hp} {vs : List V} {ds : List D} (h : Dens Z G vs ds) (lo hi : Option Int) : Dens Z G (nQ vs lo hi) (eF ds lo hi) := by
 unfold nQ eF
 rw [h.length]
 exact (h.drop _).take _
end
end L3
namespace L3
open PySem PySem.Spec PyProof.Rows L2
theorem qG (n d : Nat) (v : Option Int) (hd : d <= n) : (match v with | none => ((d : Nat) : Int) | some i => (if (1 : Int) > 0 then max 0 (min (if i < 0 then i + (n : Int) else i) (n : Int)) else max (-1) (min (if i < 0 then i + (n : Int) else i) ((n : Int) - 1)))) = ((HT.sIx n d v : Nat) : Int) := by
 cases v with
 | none => rfl
 | some i =>
  simp only [show (1 : Int) > 0 by decide, if_true, HT.sIx]
  by_cases h : i < 0
  ·simp only [h, if_true]; omega
  ·simp only [h, if_false]; omega
theorem zb (lo hi : Option Int) (n : Nat) : Builtin.Str.strSliceIndices lo hi 1 n = sliceRange ((HT.sIx n 0 lo : Nat) : Int) ((HT.sIx n n hi : Nat) : Int) 1 := by
 rw [<- qG n 0 lo (Nat.zero_le _), <- qG n n hi (Nat.le_refl _)]
 cases lo <;> cases hi <;> rfl
theorem tR (n d : Nat) (v : Option Int) (hd : d <= n) (hv : ∀ i, v = some i -> i < 0 -> i + n <= n) : HT.sIx n d v <= n := by
 cases v with
 | none => exact hd
 | some i =>
  show (if i < 0 then (i + (n : Int)).toNat else min i.toNat n) <= n
  split <;> omega
theorem Ax (l : List Nat) (lo hi : Option Int) : Txt.slice ⟨l.toArray⟩ lo hi = ⟨(eF l lo hi).toArray⟩ := by
 have hlen : (⟨l.toArray⟩ : Str).length = l.length := by simp [Str.length]
 unfold Txt.slice eF
 rw [hlen, zb, sliceRange_one]
 have hb : HT.sIx l.length l.length hi <= l.length := tR _ _ _ (Nat.le_refl _) λ i _ h => by omega
 generalize HT.sIx l.length 0 lo = a
 generalize HT.sIx l.length l.length hi = b at hb
 by_cases c : b - a = l.length
 ·rw [if_pos (by simp [c])]
  have e : l.length = 0 \/ (a = 0 /\ b = l.length) := by omega
  rcases e with e | ⟨rfl, rfl⟩
  ·have : l = [] := List.length_eq_zero_iff.mp e
   subst this
   simp
  ·simp
 ·rw [if_neg (by simp [c])]
  rw [pick_run]
noncomputable def EV : V -> Option Int -> Option Int -> Hp -> VK -> Prop := λ x lo hi H Q => ∃ l : List Nat, x = gW l /\ l.length <= 1000000 /\ Q (gW (eF l lo hi)) H
noncomputable def oM : Value -> Option (Int × Tok)
 | .int i t => some (i, t)
 | _ => none
theorem wn {α : Type} (l : List α) (lo hi : Option Int) : (eF l lo hi).length <= l.length := by
 unfold eF
 rw [List.length_take, List.length_drop]
 omega
theorem Cz {X : Cx} : yp X EV := by
 intro pins s σ H x v vl vu lo hi sl Q I rx hs pl pu ⟨l, e, hz, q⟩
 subst e
 obtain ⟨t, rfl⟩ := rx
 refine ⟨"str", _, slot_str_getitem.lookup, typeIs_str _ _ _, ?_⟩
 obtain ⟨o, ho, hc, hd⟩ := hs
 have h1 : vl = partValue (oM vl) /\ (oM vl).map (·.1) = lo := by cases pl <;> exact ⟨rfl, rfl⟩
 have h2 : vu = partValue (oM vu) /\ (oM vu).map (·.1) = hi := by cases pu <;> exact ⟨rfl, rfl⟩
 refine wpAny_getItem_str_slice (l := oM vl) (u := oM vu) (st := none) ⟨o, ho, hc, by rw [hd, <- h1.1, <- h2.1]; rfl⟩ rfl ?_
 have e2 : Txt.slice ⟨l.toArray⟩ lo hi = ⟨(eF l lo hi).toArray⟩ := Ax l lo hi
 unfold sliceMade slicePicked
 rw [h1.2, h2.2]
 refine post_val_or_str ?_
 have e3 : ∀ P : Str -> Prop, P (Txt.slice ⟨l.toArray⟩ lo hi) -> P (if ((Option.map (λ x : Int × Tok => x.fst) none).getD 1 == 1 && (Builtin.Str.strSliceIndices lo hi ((Option.map (λ x : Int × Tok => x.fst) none).getD 1) (⟨l.toArray⟩ : Str).length).length == (⟨l.toArray⟩ : Str).length) = true then ⟨l.toArray⟩ else ⟨((Builtin.Str.strSliceIndices lo hi ((Option.map (λ x : Int × Tok => x.fst) none).getD 1) (⟨l.toArray⟩ : Str).length).filterMap ((⟨l.toArray⟩ : Str).cps[·]?)).toArray⟩) := λ P h => h
 refine e3 (λ z => z.length <= sizeLine /\ ∀ t' k, (EP X pins σ Q) (.str z t') { s with toks := k }) ?_
 rw [e2]
 refine ⟨?_, λ t' k => ⟨gW (eF l lo hi), H, I.tok _, ⟨_, rfl⟩, q⟩⟩
 have := wn l lo hi
 simp only [Str.length, List.size_toArray]
 have : (1000000 : Nat) <= sizeLine := by decide
 omega
section
variable {κ : Nat -> Addr} {B : Gd} {X : Cx} {a b : Expr} {fa fb : Ev -> R D} {pos : Pos}
noncomputable def uz (x : D) (lo hi : Option Int) : R D := match x with
 | .tup ds => if HT.sIx ds.length 0 lo = 0 /\ HT.sIx ds.length ds.length hi = ds.length then .stuck else .ok (.tup (eF ds lo hi))
 | .lst ds => .ok (.lst (eF ds lo hi))
 | .str l => if l.length <= 1000000 then .ok (.str (eF l lo hi)) else .stuck
 | _ => .stuck
noncomputable def yt (fa : Ev -> R D) (fl fh : Ev -> R (Option Int)) : Ev -> R D := λ δ => (fa δ).bind λ x => (fl δ).bind λ l => (fh δ).bind λ u => uz x l u
theorem Fa {lo hi : Option Expr} {fl fh : Ev -> R (Option Int)} {p2 : Pos} (ha : cJ κ B X a fa) (hl : C4 κ B X lo fl) (hh : C4 κ B X hi fh) : PX κ B X (.Subscript a (.Slice lo hi none p2) pos) (yt fa fl fh) := λ pins σ Ex =>
 bp (xn (X := At X pins σ Ex) (yp.or CA (yp.or Ap Cz)) (ha pins σ Ex) (hl pins σ Ex) (hh pins σ Ex)) λ τ H Q ⟨G, δ, rp, q⟩ => ⟨G, δ, rp, q.seq λ x v H1 G1 e1 d1 q1 => ⟨G1, δ, rp.ext e1, q1.seq λ l lv H2 G2 e2 d2 q2 => ⟨G2, δ, (rp.ext e1).ext e2, q2.seq λ u uv H3 G3 e3 d3 q3 => by
  subst d2
  subst d3
  have d1' := fg (e2.trans e3) d1
  cases x with
  | tup ds =>
   rcases d1' with d | ⟨_, _, _, _, z, _⟩
   ·unfold aH at d
    obtain ⟨y, vs, rfl, h1, h2⟩ := d
    simp only [uz] at q3
    split at q3
    ·exact False.elim q3
    ·rename_i hw
     refine .inl ⟨y, vs, rfl, bt e3.GH h1, by rw [h2.length]; exact hw, λ p hp => ?_⟩
     have e := eX (o := .tup (nQ vs lv uv)) e3.GH hp
     exact q3 _ _ _ e (by unfold iF aH; exact ⟨p, _, rfl, k9.of aA, (qS h2 lv uv).mono e.sG⟩)
   ·cases z
  | lst ds =>
   have main : ∀ (y : Addr) (vs : List V), cr X.K H3 y vs -> Dens ⟨X.K, κ⟩ G3 vs ds -> DP X.K (.ref y) lv uv H3 Q := λ y vs h1 h2 => by
    refine ⟨y, vs, rfl, h1, λ p hp => ?_⟩
    have e := eX (o := .lst (nQ vs lv uv)) e3.GH hp
    exact q3 _ _ _ e (by unfold iF aH; exact ⟨p, _, rfl, cr.of aA, (qS h2 lv uv).mono e.sG⟩)
   rcases d1' with d | ⟨y, vs, _, rfl, z, h1, h2⟩
   ·unfold aH at d
    obtain ⟨y, vs, rfl, h1, h2⟩ := d
    exact .inr (.inl (main y vs (e3.GH.seq h1) h2))
   ·cases z
    exact .inr (.inl (main y vs (cr.of h1) h2))
  | str l =>
   simp only [uz] at q3
   split at q3
   ·rename_i hz
    have dd : v = gW l := by
     rcases d1' with d | ⟨_, _, _, _, z, _⟩
     ·unfold aH at d; exact d
     ·cases z
    exact .inr (.inr ⟨l, dd, hz, q3 _ _ _ (Ext.refl e3.GH) (by unfold iF aH; rfl)⟩)
   ·exact False.elim q3
  | _ => exact False.elim q3⟩⟩⟩
noncomputable def bU : D -> Bool
 | .non | .bl _ | .int _ | .str _ => true
 | _ => false
noncomputable def wx : D -> D -> Bool
 | .non, .non => true
 | .bl a, .bl b => a == b
 | .bl a, .int b => (if a then 1 else 0) == b
 | .int a, .bl b => a == (if b then 1 else 0)
 | .int a, .int b => a == b
 | .str a, .str b => a == b
 | _, _ => false
theorem kA {Z : Zx} {G : Hp} {v : V} {d : D} (h : aH Z G v d) (f : bU d = true) : dE v = true := by
 cases d with
 | non => unfold aH at h; subst h; rfl
 | bl _ => unfold aH at h; subst h; rfl
 | int _ => unfold aH at h; subst h; rfl
 | str _ => unfold aH at h; subst h; rfl
 | _ => cases f
theorem Ar (a b : List Nat) : ((⟨a.toArray⟩ : Str) == ⟨b.toArray⟩) = (a == b) := by
 rw [Bool.eq_iff_iff, beq_iff_eq, beq_iff_eq]
 constructor
 ·intro h
  have := congrArg (λ z : Str => z.cps.toList) h
  simpa using this
 ·intro h; rw [h]
theorem uh {Z : Zx} {G : Hp} {v u : V} {d e : D} (h : aH Z G v d) (h' : aH Z G u e) (f : bU d = true) (f' : bU e = true) : vc v u = wx d e := by
 cases d <;> first | (cases f; done) | (cases e <;> first | (cases f'; done) | (unfold aH at h h'; subst h; subst h'; first | rfl | exact Ar _ _))
theorem ui {Z : Zx} {G : Hp} {v : V} {d : D} (h : aH Z G v d) (f : bU d = true) : ∀ {vs : List V} {ds : List D}, Dens Z G vs ds -> ds.all bU = true -> vs.all dE = true /\ CU v vs = ds.any λ e => wx e d
 | [], [], _, _ => ⟨rfl, rfl⟩
 | w :: vs, e :: ds, hd, hf => by
  unfold Dens at hd
  simp only [List.all_cons, Bool.and_eq_true] at hf
  obtain ⟨i1, i2⟩ := ui h f hd.2 hf.2
  refine ⟨by simp only [List.all_cons, Bool.and_eq_true]; exact ⟨kA hd.1 hf.1, i1⟩, ?_⟩
  show (vc w v || CU v vs) = _
  rw [i2, uh hd.1 h hf.1 f]
  rfl
 | [], _ :: _, hd, _ => by unfold Dens at hd; exact hd.elim
 | _ :: _, [], hd, _ => by unfold Dens at hd; exact hd.elim
noncomputable def pN (x y : D) : R Bool := match y with
 | .lst ds => if bU x && ds.all bU then .ok (ds.any λ e => wx e x) else .stuck
 | .tup ds => if bU x && ds.all bU then .ok (ds.any λ e => wx e x) else .stuck
 | .str j => match x with
  | .str i => .ok (!(Builtin.Str.occurrences ⟨j.toArray⟩ ⟨i.toArray⟩ 0 (⟨j.toArray⟩ : Str).length 1).isEmpty)
  | _ => .stuck
 | _ => .stuck
noncomputable def m7 (x y : D) : R Bool := pN x y
noncomputable def j5 (x y : D) : R Bool := (pN x y).bind λ k => .ok (!k)
theorem ut {x y : D} {v u : V} {G H : Hp} {k : Bool} (sm : br G H) (d1 : iM X κ G H v x) (d2 : iM X κ G H u y) (h : pN x y = .ok k) :
  (∃ p xs, u = .ref p /\ (cr X.K H p xs \/ k9 X.K H p xs) /\ dE v = true /\ xs.all dE = true /\ CU v xs = k) \/ (∃ i j, v = .str i /\ u = .str j /\ (!(Builtin.Str.occurrences j i 0 j.length 1).isEmpty) = k) := by
 have seq : ∀ {ds : List D} {vs : List V}, Dens ⟨X.K, κ⟩ G vs ds -> (if bU x && ds.all bU then R.ok (ds.any λ e => wx e x) else .stuck) = .ok k -> dE v = true /\ vs.all dE = true /\ CU v vs = k := λ {ds vs} hd e => by
  split at e
  ·rename_i hf
   rw [Bool.and_eq_true] at hf
   have dx : aH ⟨X.K, κ⟩ G v x := by
    rcases d1 with d | ⟨_, _, _, _, z, _⟩
    ·exact d
    ·rw [z] at hf; cases hf.1
   obtain ⟨i1, i2⟩ := ui dx hf.1 hd hf.2
   cases e
   exact ⟨kA dx hf.1, i1, i2⟩
  ·cases e
 cases y with
 | lst ds =>
  simp only [pN] at h
  rcases d2 with d | ⟨p, vs, ds', rfl, z, h1, h2⟩
  ·unfold aH at d
   obtain ⟨p, vs, rfl, h1, h2⟩ := d
   obtain ⟨a1, a2, a3⟩ := seq h2 h
   exact .inl ⟨p, vs, rfl, .inl (sm.seq h1), a1, a2, a3⟩
  ·cases z
   obtain ⟨a1, a2, a3⟩ := seq h2 h
   exact .inl ⟨p, vs, rfl, .inl (cr.of h1), a1, a2, a3⟩
 | tup ds =>
  simp only [pN] at h
  rcases d2 with d | ⟨p, vs, ds', rfl, z, h1, h2⟩
  ·unfold aH at d
   obtain ⟨p, vs, rfl, h1, h2⟩ := d
   obtain ⟨a1, a2, a3⟩ := seq h2 h
   exact .inl ⟨p, vs, rfl, .inr (bt sm h1), a1, a2, a3⟩
  ·cases z
 | str j =>
  cases x with
  | str i =>
   simp only [pN] at h
   cases h
   exact .inr ⟨_, _, rS d1, rS d2, rfl⟩
  | _ => cases h
 | _ => cases h
noncomputable def Ao (X : Cx) (neg : Bool) : R2 := λ x y H Q => EU X.K neg x y H Q \/ ∃ i j, x = .str i /\ y = .str j /\ Q (.bl (neg ^^ (!(Builtin.Str.occurrences j i 0 j.length 1).isEmpty))) H
theorem xg {Y : Cx} (eK : Y.K = X.K) : jU Y (compareOp .In) (Ao X false) := by
 intro pins s σ H x y v u Q I rx ry h
 rcases h with h | ⟨i, j, e1, e2, q⟩
 ·exact vz pins s σ H x y v u Q I rx ry (by rw [eK]; exact h)
 ·exact vA pins s σ H x y v u Q I rx ry ⟨i, j, e1, e2, by simpa using q⟩
theorem zr {Y : Cx} (eK : Y.K = X.K) : jU Y (compareOp .NotIn) (Ao X true) := by
 intro pins s σ H x y v u Q I rx ry h
 rcases h with h | ⟨i, j, e1, e2, q⟩
 ·exact p8 pins s σ H x y v u Q I rx ry (by rw [eK]; exact h)
 ·exact p9 pins s σ H x y v u Q I rx ry ⟨i, j, e1, e2, by simpa using q⟩
theorem uD : ml κ X (Ao X false) (d6 m7) := by
 intro x y v u G H Q E sm d1 d2 q
 unfold d6 m7 at q
 cases e : pN x y with
 | ok k =>
  rw [e] at q
  have q' : Q (.bl k) H := q _ H G (Ext.refl sm) (by unfold iF aH; rfl)
  rcases ut sm d1 d2 e with ⟨p, xs, z1, z2, z3, z4, z5⟩ | ⟨i, j, z1, z2, z3⟩
  ·exact .inl ⟨p, xs, z1, z2, z3, z4, by simpa [z5] using q'⟩
  ·exact .inr ⟨i, j, z1, z2, by rw [z3]; simpa using q'⟩
 | exc c => unfold pN at e; split at e <;> (try split at e) <;> cases e
 | stuck => rw [e] at q; exact q.elim
theorem xc : ml κ X (Ao X true) (d6 j5) := by
 intro x y v u G H Q E sm d1 d2 q
 unfold d6 j5 at q
 cases e : pN x y with
 | ok k =>
  rw [e] at q
  have q' : Q (.bl (!k)) H := q _ H G (Ext.refl sm) (by unfold iF aH; rfl)
  rcases ut sm d1 d2 e with ⟨p, xs, z1, z2, z3, z4, z5⟩ | ⟨i, j, z1, z2, z3⟩
  ·exact .inl ⟨p, xs, z1, z2, z3, z4, by simpa [z5] using q'⟩
  ·exact .inr ⟨i, j, z1, z2, by rw [z3]; simpa using q'⟩
 | exc c => unfold pN at e; split at e <;> (try split at e) <;> cases e
 | stuck => rw [e] at q; exact q.elim
theorem DF (hu : X.A.units + 64 < cLine) (ha : cJ κ B X a fa) (hb : cJ κ B X b fb) (hm : behindInMarks .In b = false) : PX κ B X (.Compare a [.In] [b] pos) (m2 (d6 m7) fa fb) := nr (λ _ eK _ => xg eK) uD ha hb hm
theorem Cb (hu : X.A.units + 64 < cLine) (ha : cJ κ B X a fa) (hb : cJ κ B X b fb) (hm : behindInMarks .In b = false) : k7 κ B X (.Compare a [.In] [b] pos) (bI m7 fa fb) := fY (λ _ eK _ => xg eK) uD ha hb hm
theorem zY (hu : X.A.units + 64 < cLine) (ha : cJ κ B X a fa) (hb : cJ κ B X b fb) (hm : behindInMarks .NotIn b = false) : k7 κ B X (.Compare a [.NotIn] [b] pos) (bI j5 fa fb) := fY (λ _ eK _ => zr eK) xc ha hb hm
theorem _root_.L2.Inv.lstS {X : Cx} {pins : List (Addr × Obj)} {σ : St} {H : Hp} {s : Shared} {l : Addr} {xs : List V} (I : Inv X pins σ H s) (h : cr X.K H l xs) :
  xs.length <= sizeLine /\ ∃ (its : List Value) (n : Nat), aU xs its /\ xs.length = its.length /\ s.heap.get? l = some { cls := .type "list", data := .seq its.toArray n } := by
 rcases h with h | ⟨o, its, n, hk, hc, hd, hs, hz, r⟩
 ·obtain ⟨z, its, n, r, e⟩ := h.ok I.hok
  exact ⟨z, its, n, r, r.length, e⟩
 ·have e := I.kIn l o hk
  have lr := r.length
  refine ⟨by simp only [Array.length_toList] at lr; omega, its.toList, n, r, lr, ?_⟩
  obtain ⟨oc, od, dt, sl⟩ := o
  dsimp only at hc hd hs
  obtain ⟨rfl, rfl⟩ := hd
  subst hc
  subst hs
  exact e
noncomputable def AZ (K : PySem.W.Frag) : R2 := λ x y H Q => ∃ l b xs zs, x = .ref l /\ y = .ref b /\ cr K H l xs /\ cr K H b zs /\ xs.length + zs.length <= sizeLine /\ ∀ p, H p = none -> Q (.ref p) (cD H p (.lst (xs ++ zs)))
theorem zt {X : Cx} : jU X (binaryOp .Add) (AZ X.K) := by
 intro pins s σ H x y v u Q I rx ry ⟨l, b, xs, zs, e1, e2, hH, hB, hz, q⟩
 subst e1
 subst e2
 cases rx
 cases ry
 obtain ⟨z, its, n, r, hl, e⟩ := I.lstS hH
 obtain ⟨z2, its2, n2, r2, hl2, e2⟩ := I.lstS hB
 refine PySem.P.add_list e e2 ?_ (by rw [List.size_toArray, List.size_toArray]; omega)
 rw [show its.toArray ++ its2.toArray = (its ++ its2).toArray by simp]
 exact ⟨.ref _, _, I.lnew (t' := s.toks) (r.append r2) (by rw [List.length_append]; omega), rfl, q _ I.fresh⟩
noncomputable def rC (x y : D) : R D := match x, y with
 | .lst xs, .lst ys => if xs.length + ys.length <= 1000000 then .ok (.lst (xs ++ ys)) else .stuck
 | _, _ => .stuck
theorem Cu {G H : Hp} {v : V} {ds : List D} (sm : br G H) (h : iM X κ G H v (.lst ds)) : ∃ l vs, v = .ref l /\ cr X.K H l vs /\ Dens ⟨X.K, κ⟩ G vs ds := by
 rcases h with h | ⟨l, vs, ds', e, z, h1, h2⟩
 ·unfold aH at h
  obtain ⟨l, vs, e, h1, h2⟩ := h
  exact ⟨l, vs, e, sm.seq h1, h2⟩
 ·cases z
  exact ⟨l, vs, e, cr.of h1, h2⟩
theorem xb : ml κ X (AZ X.K) rC := by
 intro x y v u G H Q E sm d1 d2 q
 unfold rC at q
 split at q
 ·rename_i xs ys
  split at q
  ·rename_i hl
   obtain ⟨l, vs, e1, h1, h2⟩ := Cu sm d1
   obtain ⟨b, us, e2, h3, h4⟩ := Cu sm d2
   have : (1000000 : Nat) <= sizeLine := by decide
   refine ⟨l, b, vs, us, e1, e2, h1, h3, by rw [h2.length, h4.length]; omega, λ p hp => ?_⟩
   have e := eX (o := .lst (vs ++ us)) sm hp
   exact q _ _ _ e (by unfold iF aH; exact ⟨p, _, rfl, cr.of aA, (h2.append h4).mono e.sG⟩)
  ·exact q.elim
 ·exact q.elim
theorem BZ (ha : cJ κ B X a fa) (hb : cJ κ B X b fb) : PX κ B X (.BinOp a .Add b pos) (m2 rC fa fb) := oS (λ Y eK => by rw [<- eK]; exact zt) xb ha hb
theorem mB {x : V} : ∀ {xs : List V} {us : List Value}, aU xs us -> xs.all dE = true -> us.countP (qW x) = xs.countP λ y => vc y x
 | _, _, .nil, _ => rfl
 | y :: xs, u :: us, .cons r t, f => by
  simp only [List.all_cons, Bool.and_eq_true] at f
  rw [List.countP_cons, List.countP_cons, sP r f.1, mB t f.2]
noncomputable def Cs (K : PySem.W.Frag) : V -> List V -> Hp -> VK -> Prop := λ x vs H Q => ∃ l xs y, x = .ref l /\ vs = [y] /\ cr K H l xs /\ dE y = true /\ xs.all dE = true /\ Q (.int ((xs.countP λ z => vc z y : Nat) : Int)) H
theorem wU {X : Cx} : Ee X "list.count" (Cs X.K) := by
 intro pins s σ H x vs v us Q I rx rv ⟨l, xs, y, e1, e2, hq, fy, fx, q⟩
 subst e1
 subst e2
 cases rx
 obtain ⟨u, rfl, ru⟩ := rv.one
 obtain ⟨z, its, n, r, hl, e⟩ := I.lstS hq
 refine call_meets F.slot_list_count ⟨_, e, rfl⟩ F.entry_list_count (F.args_list_count_2 _ _) (SeqAt.list_countAt l its.toArray n none #[] u (qW y)) ⟨e, λ w hw => hI ru fy r fx w (by simpa using hw), ?_⟩
 refine ⟨.int _, H, I.tok _, ⟨_, rfl⟩, ?_⟩
 rw [List.toList_toArray, mB r fx]
 exact q
theorem mG {Z : Zx} {G : Hp} {v : V} {d : D} (h : aH Z G v d) (f : bU d = true) : ∀ {vs : List V} {ds : List D}, Dens Z G vs ds -> ds.all bU = true -> vs.all dE = true /\ (vs.countP λ y => vc y v) = ds.countP λ e => wx e d
 | [], [], _, _ => ⟨rfl, rfl⟩
 | w :: vs, e :: ds, hd, hf => by
  unfold Dens at hd
  simp only [List.all_cons, Bool.and_eq_true] at hf
  obtain ⟨i1, i2⟩ := mG h f hd.2 hf.2
  refine ⟨by simp only [List.all_cons, Bool.and_eq_true]; exact ⟨kA hd.1 hf.1, i1⟩, ?_⟩
  rw [List.countP_cons, List.countP_cons, i2, uh hd.1 h hf.1 f]
 | [], _ :: _, hd, _ => by unfold Dens at hd; exact hd.elim
 | _ :: _, [], hd, _ => by unfold Dens at hd; exact hd.elim
noncomputable def ln (x : D) (ys : List D) : R D := match x, ys with
 | .lst ds, [d] => if bU d && ds.all bU then .ok (.int ((ds.countP λ e => wx e d : Nat) : Int)) else .stuck
 | _, _ => .stuck
noncomputable def Do (op : D -> List D -> R D) (fo : Ev -> R D) (fs : Ev -> R (List D)) : Ev -> R D := λ δ => (fo δ).bind λ x => match x with
 | .lst ds => (fs δ).bind λ ys => op (.lst ds) ys
 | _ => .stuck
theorem Az {o e : Expr} {fo : Ev -> R D} {fs : Ev -> R (List D)} {apos : Pos} (ho : cJ κ B X o fo) (ha : mn κ B X [e] fs) (hs : aB e = true) (hline : (apos.endLine == pos.line) = true) (hbase : attributeBase o "count" X.env (eval o X.env) = eval o X.env) :
  PX κ B X (.Call (.Attribute o "count" apos) [e] [] pos) (Do ln fo fs) := λ pins σ Ex =>
 bp (oP (X := At X pins σ Ex) F.plainAttrs_list F.slot_list_count F.type_list_count wU (ho pins σ Ex) (ha pins σ Ex) hbase (kx hs) hline (aJ hs) rfl) λ τ H Q ⟨G, δ, rp, q⟩ => ⟨G, δ, rp, q.seq λ x v H1 G1 e1 d1 q1 => by
  cases x with
  | lst ds =>
   obtain ⟨l, vs, rfl, h1, h2⟩ := Cu e1.GH d1
   refine ⟨.inl ⟨rfl, vs, h1⟩, G1, δ, rp.ext e1, q1.seq λ ys us H2 G2 e2 d2 q2 => ?_⟩
   unfold ln at q2
   split at q2
   ·rename_i ds' d hx
    cases hx
    split at q2
    ·rename_i hf
     rw [Bool.and_eq_true] at hf
     match us, d2 with
     | [u], d2 =>
      unfold fU Dens at d2
      obtain ⟨c1, c2⟩ := mG d2.1 hf.1 (h2.mono e2.sG) hf.2
      refine ⟨l, vs, u, rfl, rfl, ?_, kA d2.1 hf.1, c1, ?_⟩
      ·rcases fg e2 d1 with z | ⟨_, _, _, z1, z2, z3, z4⟩
       ·exact e2.sH.seq h1
       ·exact e2.sH.seq h1
      ·rw [c2]
       exact q2 _ H2 G2 (Ext.refl e2.GH) (by unfold iF aH; rfl)
     | [], d2 => unfold fU Dens at d2; exact d2.elim
     | _ :: _ :: _, d2 => unfold fU Dens at d2; have := d2.2; unfold Dens at this; exact this.elim
    ·exact q2.elim
   ·exact q2.elim
  | _ => exact False.elim q1⟩
theorem o0 : ∀ {ls : List (List Nat)} {us : List Value}, aU (ls.map gW) us -> ∃ l : List (Str × Tok), us = strValues l /\ l.map (·.1) = ls.map λ x => (⟨x.toArray⟩ : Str)
 | [], _, .nil => ⟨[], rfl, rfl⟩
 | x :: ls, _, .cons r t => by
  obtain ⟨k, rfl⟩ := r
  obtain ⟨l, e1, e2⟩ := o0 t
  exact ⟨(⟨x.toArray⟩, k) :: l, by rw [e1]; rfl, by rw [List.map_cons, List.map_cons, e2]⟩
theorem vf (ls : List (List Nat)) : Builtin.Str.glued ⟨#[]⟩ (ls.map λ x => (⟨x.toArray⟩ : Str)) = ⟨ls.flatten.toArray⟩ := by
 have f : ∀ (ls : List (List Nat)) (acc : List Nat), (ls.map λ x => (⟨x.toArray⟩ : Str)).foldl (λ a p => a ++ (⟨#[]⟩ : Str).cps ++ p.cps) acc.toArray = (acc ++ ls.flatten).toArray := by
  intro ls
  induction ls with
  | nil => intro acc; simp
  | cons x ls ih =>
   intro acc
   rw [List.map_cons, List.foldl_cons]
   have : acc.toArray ++ (⟨#[]⟩ : Str).cps ++ (⟨x.toArray⟩ : Str).cps = (acc ++ x).toArray := by simp
   rw [this, ih, List.flatten_cons, List.append_assoc]
 unfold Builtin.Str.glued
 cases ls with
 | nil => rfl
 | cons x ls =>
  show (⟨List.foldl _ x.toArray (ls.map _)⟩ : Str) = _
  rw [f ls x, List.flatten_cons]
theorem wD (ls : List (List Nat)) : ((ls.map λ x => (⟨x.toArray⟩ : Str)).toArray.foldl (· + ·.length + (⟨#[]⟩ : Str).length) 0) = ls.flatten.length := by
 have f : ∀ (ls : List (List Nat)) (n : Nat), (ls.map λ x => (⟨x.toArray⟩ : Str)).foldl (λ a p => a + p.length + (⟨#[]⟩ : Str).length) n = n + ls.flatten.length := by
  intro ls
  induction ls with
  | nil => intro n; simp
  | cons x ls ih =>
   intro n
   rw [List.map_cons, List.foldl_cons, ih, List.flatten_cons, List.length_append]
   have e1 : (⟨x.toArray⟩ : Str).length = x.length := by simp [Str.length]
   have e2 : (⟨#[]⟩ : Str).length = 0 := rfl
   rw [e1, e2]
   omega
 rw [List.foldl_toArray]
 rw [f ls 0]
 omega
noncomputable def DO (K : PySem.W.Frag) : V -> List V -> Hp -> VK -> Prop := λ x vs H Q => ∃ (l : Addr) (ls : List (List Nat)), x = gW [] /\ vs = [.ref l] /\ cr K H l (ls.map gW) /\ ls.flatten.length <= 1000000 /\ Q (gW ls.flatten) H
theorem ze {X : Cx} : Ee X "str.join" (DO X.K) := by
 intro pins s σ H x vs v us Q I rx rv ⟨l, ls, e1, e2, hq, hz, q⟩
 subst e1
 subst e2
 obtain ⟨t, rfl⟩ := rx
 obtain ⟨u, rfl, ru⟩ := rv.one
 cases ru
 obtain ⟨z, its, n, r, hl, e⟩ := I.lstS hq
 obtain ⟨pl, rfl, ep⟩ := o0 r
 have big : (1000000 : Nat) <= sizeLine := by decide
 have hlong : Builtin.Str.tooLong ((pl.map (·.1)).toArray.foldl (· + ·.length + (⟨#[]⟩ : Str).length) 0) = false := by
  rw [ep, wD]
  exact decide_eq_false (by omega)
 refine call_meets F.slot_str_join (typeIs_str s _ t) F.entry_str_join (F.args_str_join_2 _ _) (meets_str_join_list ⟨#[]⟩ t l pl hlong) ⟨⟨_, e, rfl, n, rfl⟩, ?_⟩
 have fin : ∀ (z : Str) (tk : Tok) (k : Nat), z = ⟨ls.flatten.toArray⟩ -> EP X pins σ Q (.str z tk) { s with toks := k } := λ z tk k ez => ⟨gW ls.flatten, H, I.tok _, ⟨tk, by rw [ez]⟩, q⟩
 have gl : Builtin.Str.glued ⟨#[]⟩ (pl.map (·.1)) = ⟨ls.flatten.toArray⟩ := by rw [ep, vf]
 have sz : (⟨ls.flatten.toArray⟩ : Str).length <= sizeLine := by simp only [Str.length, List.size_toArray]; omega
 match pl, ep, gl with
 | [p], ep, gl =>
  refine fin p.1 p.2 s.toks ?_
  rw [<- gl]
  rfl
 | [], ep, gl => exact ⟨by show (Builtin.Str.glued ⟨#[]⟩ []).length <= sizeLine; decide, fin _ _ _ gl⟩
 | p :: p2 :: r, ep, gl => exact ⟨by show (Builtin.Str.glued ⟨#[]⟩ ((p :: p2 :: r).map (·.1))).length <= sizeLine; rw [gl]; exact sz, fin _ _ _ gl⟩
noncomputable def lL : List D -> Option (List (List Nat))
 | [] => some []
 | .str x :: r => (lL r).map (x :: ·)
 | _ => none
theorem ot {Z : Zx} {G : Hp} : ∀ {vs : List V} {ds : List D} {ls : List (List Nat)}, Dens Z G vs ds -> lL ds = some ls -> vs = ls.map gW
 | [], [], ls, _, h => by cases h; rfl
 | v :: vs, d :: ds, ls, hd, h => by
  unfold Dens at hd
  cases d with
  | str x =>
   simp only [lL] at h
   cases e : lL ds with
   | none => rw [e] at h; cases h
   | some l2 =>
    rw [e] at h
    cases h
    have := hd.1
    unfold aH at this
    rw [this, ot hd.2 e]
    rfl
  | _ => cases h
 | [], _ :: _, _, hd, _ => by unfold Dens at hd; exact hd.elim
 | _ :: _, [], _, hd, _ => by unfold Dens at hd; exact hd.elim
noncomputable def oJ (x : D) (ys : List D) : R D := match x, ys with
 | .str [], [.lst ds] => match lL ds with
  | some ls => if ls.flatten.length <= 1000000 then .ok (.str ls.flatten) else .stuck
  | none => .stuck
 | _, _ => .stuck
noncomputable def sV (op : D -> List D -> R D) (fo : Ev -> R D) (fs : Ev -> R (List D)) : Ev -> R D := λ δ => (fo δ).bind λ x => match x with
 | .str l => (fs δ).bind λ ys => op (.str l) ys
 | _ => .stuck
theorem CL {o e : Expr} {fo : Ev -> R D} {fs : Ev -> R (List D)} {apos : Pos} (ho : cJ κ B X o fo) (ha : mn κ B X [e] fs) (hs : aB e = true) (hline : (apos.endLine == pos.line) = true) (hbase : attributeBase o "join" X.env (eval o X.env) = eval o X.env) :
  PX κ B X (.Call (.Attribute o "join" apos) [e] [] pos) (sV oJ fo fs) := λ pins σ Ex =>
 bp (oP (X := At X pins σ Ex) F.plainAttrs_str F.slot_str_join F.type_str_join ze (ho pins σ Ex) (ha pins σ Ex) hbase (kx hs) hline (aJ hs) rfl) λ τ H Q ⟨G, δ, rp, q⟩ => ⟨G, δ, rp, q.seq λ x v H1 G1 e1 d1 q1 => by
  cases x with
  | str l =>
   obtain rfl := rS d1
   refine ⟨rfl, G1, δ, rp.ext e1, q1.seq λ ys us H2 G2 e2 d2 q2 => ?_⟩
   unfold oJ at q2
   split at q2
   ·rename_i ds hx
    cases hx
    split at q2
    ·rename_i ls es
     split at q2
     ·rename_i hz
      match us, d2 with
      | [u], d2 =>
       unfold fU Dens at d2
       have du := d2.1
       unfold aH at du
       obtain ⟨a, vs, rfl, h1, h2⟩ := du
       have := ot h2 es
       subst this
       exact ⟨a, ls, rfl, rfl, e2.GH.seq h1, hz, q2 _ H2 G2 (Ext.refl e2.GH) (by unfold iF aH; rfl)⟩
      | [], d2 => unfold fU Dens at d2; exact d2.elim
      | _ :: _ :: _, d2 => unfold fU Dens at d2; have := d2.2; unfold Dens at this; exact this.elim
     ·exact q2.elim
    ·exact q2.elim
   ·exact q2.elim
  | _ => exact False.elim q1⟩
end
end L3
namespace L3
open PySem PySem.Spec PyProof.Rows L2
section
variable {κ : Nat -> Addr} {B : Gd} {X : Cx} {a e : Expr} {es : List Expr} {f fa : Ev -> R D} {fs : Ev -> R (List D)} {pos pos' apos p : Pos} {x : Str}
end
end L3
namespace L3
open PySem PySem.Spec PyProof.Rows L2
theorem jW {env : Env} : ∀ (ns : List (Str × NameKind)) (acc : List (Str × Addr)), (∀ y ∈ ns, y.2 = .free -> ∃ c, env.cells.lookup y.1 = some c) -> (∀ y c, acc.lookup y = some c -> env.cells.lookup y = some c) →
  ∃ cl, (forIn ns acc (λ (p : Str × NameKind) (cs : List (Str × Addr)) => (match p with | (name, kind) => if (kind == NameKind.free) = true then do let c ← cellOf env name; pure (ForInStep.yield ((name, c) :: cs)) else pure (ForInStep.yield cs) : Sem (ForInStep (List (Str × Addr))))) : Sem _) = pure cl ∧
   (∀ y c, cl.lookup y = some c -> env.cells.lookup y = some c) /\ (∀ y, (∃ c, acc.lookup y = some c) \/ (y, NameKind.free) ∈ ns -> ∃ c, cl.lookup y = some c)
 | [], acc, _, h2 => ⟨acc, rfl, h2, λ y h => h.elim id λ z => by simp at z⟩
 | (n, k) :: r, acc, h1, h2 => by
  rw [List.forIn_cons]
  by_cases hk : k = .free
  ·subst hk
   obtain ⟨c, hc⟩ := h1 (n, .free) List.mem_cons_self rfl
   obtain ⟨cl, e, p, q⟩ := jW r ((n, c) :: acc) (λ y hy => h1 y (List.mem_cons_of_mem _ hy)) (λ y d hd => by
    rw [List.lookup_cons] at hd
    cases hy : y == n with
    | true => rw [hy] at hd; cases hd; rw [eq_of_beq hy]; exact hc
    | false => rw [hy] at hd; exact h2 y d hd)
   refine ⟨cl, ?_, p, λ y h => q y ?_⟩
   ·rw [<- e]
    have : cellOf env n = pure c := by unfold cellOf; rw [hc]
    simp only [beq_self_eq_true, if_true, this, pure_bind]
   ·rcases h with ⟨d, hd⟩ | h
    ·rw [List.lookup_cons]
     cases hy : y == n with
     | true => exact .inl ⟨c, rfl⟩
     | false => exact .inl ⟨d, hd⟩
    ·rcases List.mem_cons.mp h with h | h
     ·cases h; rw [List.lookup_cons]; exact .inl ⟨c, by simp⟩
     ·exact .inr h
  ·obtain ⟨cl, e, p, q⟩ := jW r acc (λ y hy => h1 y (List.mem_cons_of_mem _ hy)) h2
   have hb : (k == NameKind.free) = false := by simpa using hk
   refine ⟨cl, ?_, p, λ y h => q y ?_⟩
   ·rw [<- e]
    simp only [hb, Bool.false_eq_true, if_false, pure_bind]
   ·rcases h with h | h
    ·exact .inl h
    ·rcases List.mem_cons.mp h with h | h
     ·cases h; exact absurd rfl hk
     ·exact .inr h
theorem ce {env : Env} : ∀ {names : List (Str × NameKind)} {y : Str},
  (names.map λ (n, k) => if (k == NameKind.free && env.scope.kind == .function && env.kindOf n == some .cell) then (n, NameKind.cell) else (n, k)).lookup y = (names.lookup y).map λ k => if (k == NameKind.free && env.scope.kind == .function && env.kindOf y == some .cell) then NameKind.cell else k
 | [], _ => rfl
 | (n, k) :: r, y => by
  have ih := @ce env r y
  show List.lookup y ((if (k == NameKind.free && env.scope.kind == .function && env.kindOf n == some .cell) = true then (n, NameKind.cell) else (n, k)) :: _) = _
  cases hy : y == n with
  | true =>
   have e := eq_of_beq hy
   subst e
   by_cases hc : (k == NameKind.free && env.scope.kind == .function && env.kindOf y == some .cell) = true
   ·rw [if_pos hc]; simp only [List.lookup_cons, beq_self_eq_true, Option.map_some]; rw [if_pos hc]
   ·rw [if_neg hc]; simp only [List.lookup_cons, beq_self_eq_true, Option.map_some]; rw [if_neg hc]
  | false =>
   by_cases hc : (k == NameKind.free && env.scope.kind == .function && env.kindOf n == some .cell) = true
   ·rw [if_pos hc]; simp only [List.lookup_cons, hy]; exact ih
   ·rw [if_neg hc]; simp only [List.lookup_cons, hy]; exact ih
theorem jp {α : Type} {y : Str} {a : α} : ∀ {l : List (Str × α)}, l.lookup y = some a -> (y, a) ∈ l
 | [], h => by cases h
 | (n, k) :: r, h => by
  rw [List.lookup_cons] at h
  cases hy : y == n with
  | true => rw [hy] at h; cases h; rw [eq_of_beq hy]; exact List.mem_cons_self
  | false => rw [hy] at h; exact List.mem_cons_of_mem _ (jp h)
noncomputable abbrev iV (X : Cx) (sc : Scope) (cl : List (Str × Addr)) (C : Addr) (s₁ : Shared) (H₁ : Hp) (pn : List (Addr × Obj)) (x : Str) : Cx :=
 { X with env := compEnvC sc cl C X.env, N := X.N ++ [x], s₀ := s₁, H₀ := H₁, outer := X.stack, stack := X.stack, ex := [], fn := λ _ => false, pn := pn, xe := λ _ _ => False, sg := λ _ _ => True }
structure CompOk (X : Cx) (sc : Scope) (x : Str) : Prop where
 cell : ∀ y ∈ sc.names, y.2 ≠ .cell
 kind : sc.kind = .function
 names : ∀ y ∈ sc.names, y.2 = .local -> sc.names.lookup y.1 = some .local
 hx : sc.names.lookup x = some .local
 loc : ∀ y ∈ X.N, sc.names.lookup y ≠ some .local
 fr : ∀ y ∈ sc.names, y.2 = .free -> X.env.scope.names.lookup y.1 = some .cell
 nd : X.N.Nodup
section
variable {κ : Nat -> Addr} {B : Gd} {X : Cx} {sc : Scope} {x y : Str} {cl : List (Str × Addr)} {C : Addr} {s₁ : Shared} {H₁ : Hp} {pn : List (Addr × Obj)}
theorem yM : Cxo (iV X sc cl C s₁ H₁ pn x) := ⟨λ _ _ => trivial, rfl⟩
theorem qH {k : NameKind} (h : sc.names.lookup y = some k) (hk : k ≠ .free) : (iV X sc cl C s₁ H₁ pn x).env.scope.names.lookup y = some k := by
 show List.lookup y (sc.names.map _) = _
 have := @ce X.env sc.names y
 refine this.trans ?_
 rw [h]
 have hb : (k == NameKind.free) = false := by simpa using hk
 simp only [Option.map_some, hb, Bool.false_and, Bool.false_eq_true, if_false]
theorem yN (h : sc.names.lookup y = some .free) : og (iV X sc cl C s₁ H₁ pn x).env.scope y := by
 have := @ce X.env sc.names y
 rw [h] at this
 simp only [Option.map_some] at this
 by_cases hc : (NameKind.free == NameKind.free && X.env.scope.kind == .function && X.env.kindOf y == some .cell) = true
 ·rw [if_pos hc] at this; exact .inr (.inl this)
 ·rw [if_neg hc] at this; exact .inr (.inr this)
theorem C9 {i : Nat} (h : X.N[i]? = some y) : (iV X sc cl C s₁ H₁ pn x).N[i]? = some y := by
 show (X.N ++ [x])[i]? = _
 rw [List.getElem?_append_left (List.getElem?_eq_some_iff.mp h).1]; exact h
theorem AG {i : Nat} (h : X.N.length = i) : (iV X sc cl C s₁ H₁ pn x).N[i]? = some x := by
 show (X.N ++ [x])[i]? = _
 rw [List.getElem?_append_right (by omega)]
 simp [h]
theorem yL {n : Nat} {m : List D -> R D} (c : Cal κ X y n m) : Cal κ (iV X sc cl C s₁ H₁ pn x) y n m := ⟨c.ex⟩
end
section
variable {X : Cx} {sc : Scope} {x : Str} {cl : List (Str × Addr)} {C : Addr} {sb s4 : Shared} {Hb H4 : Hp} {pins : List (Addr × Obj)} {σ : St} {m : Str -> Option Value} {E : Value -> Shared -> Prop}
theorem uW (I : Inv X pins σ Hb sb) (I4 : Inv X pins σ H4 s4) (u : Un (kW X.stack) [] Hb H4 sb.heap s4.heap) (ho : s4.os = sb.os) (co : CompOk X sc x)
  (cl1 : ∀ y c, cl.lookup y = some c -> X.env.cells.lookup y = some c) (cl2 : ∀ y, (y, NameKind.free) ∈ sc.names -> ∃ c, cl.lookup y = some c)
  (hC : sb.heap.objs.size <= C) (hns : s4.heap.Ns C m) (hCn : H4 C = none) : Inv ((iV X sc cl C sb Hb (X.pn ++ pins) x).wish E) [] (σ ++ [none]) H4 s4 := by
 have lt : ∀ {b o}, sb.heap.get? b = some o -> b ≠ C := λ {b o} e z => absurd (Nat.lt_of_lt_of_le (Heap.lt_size e) (z ▸ hC)) (Nat.lt_irrefl _)
 have frs_ne : ∀ b ∈ kW X.stack, b ≠ C := λ b hb => by
  obtain ⟨_, o, ho, _⟩ := I.stack.mem hb
  exact lt ho
 have free_of : ∀ {y}, ((iV X sc cl C sb Hb (X.pn ++ pins) x).env.scope.names.lookup y = some .cell \/ (iV X sc cl C sb Hb (X.pn ++ pins) x).env.scope.names.lookup y = some .free) -> sc.names.lookup y = some .free := λ {y} h => by
  have r := @ce X.env sc.names y
  cases q : sc.names.lookup y with
  | none => rw [q] at r; rcases h with h | h <;> (have := h.symm.trans r; cases this)
  | some k =>
   rw [q] at r
   simp only [Option.map_some] at r
   by_cases hk : k = .free
   ·rw [hk]
   ·exfalso
    have hb : (k == NameKind.free) = false := by simpa using hk
    simp only [hb, Bool.false_and, Bool.false_eq_true, if_false] at r
    have hc := co.cell
    rcases h with h | h
    ·have e := h.symm.trans r
     cases e
     have := jp q
     exact hc _ this rfl
    ·have e := h.symm.trans r
     cases e
     exact hk rfl
 refine ⟨⟨I.ok.mod, co.kind, I.ok.glob, I.ok.blt, hC, λ y z c h1 h2 => I.ok.inj y z c (cl1 y c h1) (cl1 z c h2), λ y h => ?_, (λ y c h => Bool.noConfusion h), I.ok.hd, I.ok.frames, .inl rfl, (λ b hb => by cases hb), λ b o e => I.bs b o e, Nat.le_trans I.ok.bsz I.sz, (λ b o e hb => by cases hb), (λ b hb => by cases hb), I.stack, I.stkFree⟩,
  ho, I4.bare, u, ⟨m, hns, λ i y v e1 e2 e3 => ?_⟩, λ y c h => I4.cell y c (cl1 y c h), hCn, λ y c h => I4.freeC y c (cl1 y c h), λ p hp => ?_, I4.hok, ?_, trivial⟩
 ·have := free_of h
  exact cl2 y (jp this)
 ·by_cases hi : i < σ.length
  ·rw [List.getElem?_append_left hi] at e2
   have hlen : i < X.N.length := by have := I4.len; omega
   have e1' : X.N[i]? = some y := by
    have : (X.N ++ [x])[i]? = some y := e1
    rwa [List.getElem?_append_left hlen] at this
   obtain ⟨hm, e0⟩ := List.getElem?_eq_some_iff.mp e1'
   have hy : y ∈ X.N := e0 ▸ List.getElem_mem hm
   rcases e3 with e3 | e3
   ·exfalso
    have r := @ce X.env sc.names y
    cases q : sc.names.lookup y with
    | none => rw [q] at r; have := (show List.lookup y _ = _ from e3).symm.trans r; cases this
    | some k =>
     rw [q] at r
     simp only [Option.map_some] at r
     have e := (show List.lookup y _ = _ from e3).symm.trans r
     injection e with e
     split at e
     ·cases e
     ·rw [<- e] at q
      exact co.loc y hy q
   ·have hf := free_of e3
    have hcell := co.fr (y, .free) (jp hf) rfl
    obtain ⟨c, hc⟩ := cl2 y (jp hf)
    obtain ⟨m', _, hl⟩ := I4.loc
    obtain ⟨w, r, l⟩ := hl i y v e1' e2 (.inr (.inl hcell))
    refine ⟨w, r, .inr ⟨e3, c, hc, ?_⟩⟩
    rcases l with ⟨hk, _⟩ | ⟨_, c', hc', z⟩
    ·have : X.env.scope.names.lookup y = some .local := hk
     rw [hcell] at this; cases this
    ·have := (cl1 y c hc).symm.trans hc'
     cases this
     exact z
  ·rw [List.getElem?_append_right (by omega)] at e2
   cases q : i - σ.length with
   | zero => rw [q] at e2; simp at e2
   | succ k => rw [q] at e2; simp at e2
 ·have hp : p ∈ X.pn ++ pins := by simpa using hp
  obtain ⟨a1, a2, a3, a4, a5⟩ := I4.pin p hp
  obtain ⟨b1, _⟩ := I.pin p hp
  exact ⟨a1, a2, lt b1, λ z => by
   rcases List.mem_cons.mp (I.stkSub _ z) with e | e
   ·exact a3 e
   ·exact a4 e, a5⟩
 ·show (σ ++ [none]).length = (X.N ++ [x]).length
  simp [I4.len]
theorem uX {pins' : List (Addr × Obj)} {σ' : St} {s' : Shared} {H' : Hp} {h' : Heap} (I : Inv X pins σ Hb sb) (J : Inv ((iV X sc cl C sb Hb (X.pn ++ pins) x).wish E) pins' σ' H' s') (hC : sb.heap.objs.size <= C) (sbt : Heap.SameBut C s'.heap h') : Inv X pins σ H' { s' with heap := h' } := by
 have I1 : Inv X pins σ H' s' := I.call' (ch := []) J.os J.base J.hok J.bare (λ b z => by cases z)
 have lt : ∀ {b o}, sb.heap.get? b = some o -> b ≠ C := λ {b o} e z => absurd (Nat.lt_of_lt_of_le (Heap.lt_size e) (z ▸ hC)) (Nat.lt_irrefl _)
 refine I1.turned (t' := s'.toks) (it := C) (λ b o hb e => sbt.extBut b o hb e) J.free (λ z => ?_) (.inr (Nat.le_trans I.sz hC)) (λ y c h z => ?_) (λ p hp z => ?_)
 ·obtain ⟨mm, ⟨o, _, _, ho, _⟩, _⟩ := I.loc
  exact lt ho z.symm
 ·obtain ⟨v, o, ho, _⟩ := I.cell y c h
  exact lt ho z
 ·exact lt (I.pin p hp).1 z
end
noncomputable def C1 (X : Cx) (pins : List (Addr × Obj)) (σ : St) (tg : Expr) (R : It -> Hp -> Prop) (itv : Value) (s2 : Shared) : Prop :=
 ∃ (sb : Shared) (Hb : Hp) (it : Addr) (fp : List Addr) (tn : Nat -> Heap -> Prop) (J : It), itv = .ref it /\ Inv X pins σ Hb sb /\ Inv X pins σ Hb s2 /\ (∀ b o, sb.heap.get? b = some o -> s2.heap.get? b = some o) /\ s2.os = sb.os /\ sb.heap.objs.size <= s2.heap.objs.size ∧
  Turn X.prog X.w X.K tg J fp it tn /\ tn 0 s2.heap /\ (∀ b ∈ fp, sb.heap.objs.size <= b /\ b < s2.heap.objs.size) /\ R J Hb
noncomputable def yD (X : Cx) (tg iter : Expr) (wi : TI) : Prop :=
 ∀ (pins : List (Addr × Obj)) (s : Shared) (σ : St) (H : Hp) (R : It -> Hp -> Prop), Inv X pins σ H s -> wi σ H R →
  wpAny (model X.prog X.w) X.A (eval iter X.env) (λ v s1 => wpAny (model X.prog X.w) X.A (pyIter v) (C1 X pins σ tg R) X.xe s1) X.xe s
section
variable {X : Cx} {tg : Expr}
theorem xx {l : Expr} {tl : TE} (hl : PE X l tl) : yD X tg l (AL X.K tl) := by
 intro pins s σ H R I h
 refine bw (hl pins s σ H _ I h) λ v s1 ⟨x, H1, I1, r1, q1⟩ => ?_
 obtain ⟨a, e, ⟨xs, hq⟩, q⟩ := q1
 subst e
 cases r1
 obtain ⟨its, rv, p, hz⟩ := I1.list hq
 refine wpAny_pyIter_list p.isList ?_
 refine ⟨s1, H1, s1.heap.objs.size, [s1.heap.objs.size], _, _, rfl, I1, I1.kept (t' := s1.toks) λ b o e => Heap.get?_push_of_some _ e, λ b o e => Heap.get?_push_of_some _ e, rfl, by simp [Heap.size_push], oX a _, ⟨_, Heap.get?_push_size _ rfl, rfl, rfl⟩, λ b hb => ?_, q⟩
 have e : b = s1.heap.objs.size := by simpa using hb
 subst e
 simp [Heap.size_push]
theorem zE {l : Expr} {tl : TE} (hl : PE X l tl) : yD X tg l (Dl X.K tl) := by
 intro pins s σ H R I h
 refine bw (hl pins s σ H _ I h) λ v s1 ⟨x, H1, I1, r1, q1⟩ => ?_
 obtain ⟨a, e, ⟨xs, hq⟩, q⟩ := q1
 subst e
 cases r1
 obtain ⟨its, rv, p, hz⟩ := I1.tuple hq
 refine wpAny_pyIter_tuple (show s1.heap.IsTuple a its.toArray from p) ?_
 refine ⟨s1, H1, s1.heap.objs.size, [s1.heap.objs.size], _, _, rfl, I1, I1.kept (t' := s1.toks) λ b o e => Heap.get?_push_of_some _ e, λ b o e => Heap.get?_push_of_some _ e, rfl, by simp [Heap.size_push], nH a _, ⟨_, Heap.get?_push_size _ rfl, rfl, rfl⟩, λ b hb => ?_, q⟩
 have e : b = s1.heap.objs.size := by simpa using hb
 subst e
 simp [Heap.size_push]
theorem vQ {pins : List (Addr × Obj)} {σ : St} {H : Hp} {s : Shared} {R : It -> Hp -> Prop} {E : Value -> Shared -> Prop} {lo hi : Int} {t u v : Tok} {tk : Nat} (I : Inv X pins σ H s) (h1 : -(2 ^ 62) <= lo) (h2 : lo < 2 ^ 62) (h3 : -(2 ^ 62) <= hi) (h4 : hi < 2 ^ 62)
  (q : R (AC lo (hi - lo).toNat) H) : wpAny (model X.prog X.w) X.A (pyIter (.ref s.heap.objs.size)) (C1 X pins σ tg R) E { s with heap := s.heap.push { cls := .type "range", data := .fields #[.int lo t, .int hi u, .int 1 v] }, toks := tk } := by
 refine wpAny_pyIter_range (IsRange.new ..) (small_one h1 h2 h3 h4) ?_
 have I1 : Inv X pins σ H { s with heap := s.heap.push { cls := .type "range", data := .fields #[.int lo t, .int hi u, .int 1 v] }, toks := tk } := I.kept λ b o e => Heap.get?_push_of_some _ e
 refine ⟨s, H, (s.heap.push { cls := .type "range", data := .fields #[.int lo t, .int hi u, .int 1 v] }).objs.size, [(s.heap.push { cls := .type "range", data := .fields #[.int lo t, .int hi u, .int 1 v] }).objs.size], _, _, rfl, I,
  I1.kept (t' := tk) λ b o e => Heap.get?_push_of_some _ e, λ b o e => Heap.get?_push_of_some _ (Heap.get?_push_of_some _ e), rfl, by simp [Heap.size_push]; omega, nG _ lo (hi - lo).toNat, ?_, λ b hb => ?_, q⟩
 ·have e1 : lo + ((0 : Nat) : Int) * 1 = lo := by simp
  have e2 : (((hi - lo).toNat : Nat) : Int) - ((0 : Nat) : Int) = Builtin.Range.rangeSize lo hi 1 := by rw [rangeSize_one]; split <;> omega
  show IsRangeIter _ _ (lo + ((0 : Nat) : Int) * 1) ((((hi - lo).toNat : Nat) : Int) - ((0 : Nat) : Int)) 1
  rw [e1, e2]
  exact Heap.get?_push_size _ rfl
 ·have e : b = (s.heap.push { cls := .type "range", data := .fields #[.int lo t, .int hi u, .int 1 v] }).objs.size := by simpa using hb
  subst e
  simp [Heap.size_push]
theorem tF {a b : Expr} {ta : TA} {p pos : Pos} (hg : Gl X "range") (hm : X.mg "range" = none) (ha : PA X [a, b] ta) (hs : starEach [a, b] X.env = [(false, eval a X.env), (false, eval b X.env)]) (hs2 : starEach [b] X.env = [(false, eval b X.env)]) :
  yD X tg (.Call (.Name "range" p) [a, b] [] pos) (AM ta) := by
 intro pins s σ H R I h
 refine Call_ (jo I hg hm boot_range (PyProof.Rows.callWith_type1 (bw (ha pos pins s σ H _ I h) λ us s1 ⟨vs, H1, I1, r1, q1⟩ => ?_) (by rw [hs, hs2]) (by rw [hs2]; rfl)))
 obtain ⟨i, j, e, ⟨q1, q2, q3, q4⟩, q⟩ := q1
 subst e
 cases r1 with
 | cons r rr =>
  cases rr with
  | cons r' rr =>
   cases rr
   obtain ⟨t, rfl⟩ := r
   obtain ⟨t', rfl⟩ := r'
   exact call_range_2 (vQ I1 q1 q2 q3 q4 q)
end
noncomputable def uS (κ : Nat -> Addr) (B : Gd) (X : Cx) (tg e : Expr) (f : Ev -> R (List D)) : Prop := ∀ pins σ Ex, yD (At X pins σ Ex) tg e (tO (λ G _ J ds => qx X κ J G ds) X κ B (EX X pins σ Ex) f)
theorem uI {Y : Cx} {tg e : Expr} {w w' : TI} (h : yD Y tg e w) (k : ∀ σ H R, w' σ H R -> w σ H R) : yD Y tg e w' := λ pins s σ H R I q => h pins s σ H R I (k σ H R q)
theorem BQ {Y : Cx} {tg e : Expr} {w w' : TI} (h : yD Y tg e w) (h' : yD Y tg e w') : yD Y tg e (λ σ H R => w σ H R \/ w' σ H R) := λ pins s σ H R I q => q.elim (h pins s σ H R I) (h' pins s σ H R I)
section
variable {κ : Nat -> Addr} {B : Gd} {X : Cx} {e tg : Expr} {f : Ev -> R D} {pos : Pos}
theorem xz (h : PX κ B X e f) : uS κ B X tg e (λ δ => (f δ).bind bY) := λ pins σ Ex =>
 uI (BQ (xx (X := At X pins σ Ex) (h pins σ Ex)) (zE (X := At X pins σ Ex) (h pins σ Ex))) λ τ H R ⟨G, δ, rp, q⟩ => by
  dsimp only at q
  cases e : f δ with
  | ok d =>
   rw [e] at q
   cases d with
   | lst ds =>
    refine .inl ⟨G, δ, rp, ?_⟩
    rw [e]
    intro v H' G' e1 d1
    unfold aH at d1
    obtain ⟨a, vs, rfl, h1, h2⟩ := d1
    exact ⟨a, rfl, ⟨vs, e1.GH.seq h1⟩, q _ H' G' e1 (oy (H := H') h1 h2)⟩
   | tup ds =>
    refine .inr ⟨G, δ, rp, ?_⟩
    rw [e]
    intro v H' G' e1 d1
    unfold aH at d1
    obtain ⟨a, vs, rfl, h1, h2⟩ := d1
    exact ⟨a, rfl, ⟨vs, bt e1.GH h1⟩, q _ H' G' e1 (rb (H := H') h1 h2)⟩
   | _ => exact False.elim q
  | exc c =>
   rw [e] at q
   refine .inl ⟨G, δ, rp, ?_⟩
   rw [e]
   exact q
  | stuck => rw [e] at q; exact False.elim q
theorem rK {a b : Expr} {fs : Ev -> R (List D)} {p pos : Pos} (hg : Gl X "range") (hm : X.mg "range" = none) (ha : mn κ B X [a, b] fs) (h : aB a = true) (h' : aB b = true) : uS κ B X tg (.Call (.Name "range" p) [a, b] [] pos) (λ δ => (fs δ).bind su) := λ pins σ Ex =>
 uI (tF (X := At X pins σ Ex) hg hm (ha pins σ Ex) (by rw [aJ h, aJ h']; rfl) (aJ h')) λ τ H R ⟨G, δ, rp, q⟩ => ⟨G, δ, rp, q.seq λ x v H1 G1 e1 d1 q1 => by
  unfold su at q1
  split at q1
  ·rename_i i j
   split at q1
   ·rename_i hj
    exact ⟨i, j, lc d1, ⟨hj.1.1, hj.1.2, hj.2.1, hj.2.2⟩, q1 _ H1 G1 (Ext.refl e1.GH) (mY (lo := i) (n := (j - i).toNat))⟩
   ·exact False.elim q1
  ·exact False.elim q1⟩
end
noncomputable def nL (δ : Ev) : Ev := δ.map λ o => match o with
 | some (.sh d) => some (.sh d)
 | _ => none
noncomputable def fJ (t : Ev -> R Bool) (f : Ev -> R D) (δ : Ev) : List D -> R (List D)
 | [] => .ok []
 | d :: ds => (t (δ ++ [some (.sh d)])).bind λ k => if k then (f (δ ++ [some (.sh d)])).bind λ y => (fJ t f δ ds).bind λ ys => .ok (y :: ys) else fJ t f δ ds
noncomputable def EL : R (List D) -> R (List D)
 | .ok l => .ok l
 | _ => .stuck
noncomputable def dF (fit : Ev -> R (List D)) (t : Ev -> R Bool) (f : Ev -> R D) : Ev -> R (List D) := λ δ => (fit δ).bind λ ds => if ds.length <= 1000000 then EL (fJ t f (nL δ) ds) else .stuck
noncomputable def CP (κ : Nat -> Addr) (B : Gd) (X : Cx) (ifs : List Expr) (t : Ev -> R Bool) : Prop := ∀ pins σ Ex s H Q, Inv (At X pins σ Ex) pins σ H s -> tO A6 X κ B (EX X pins σ Ex) t σ H Q →
 wpAny (model X.prog X.w) X.A (forIn ifs true λ c r => if r = true then do let ok ← isTrue c X.env (eval c X.env); pure (ForInStep.yield ok) else pure (ForInStep.yield r)) (TP (At X pins σ Ex) pins σ Q) Ex s
theorem zN {κ : Nat -> Addr} {B : Gd} {X : Cx} : CP κ B X [] (λ _ => .ok true) := λ pins σ Ex s H Q I ⟨G, δ, rp, q⟩ => wpAny_tests_nil ⟨H, I, q true H G (Ext.refl rp.GH) rfl⟩
theorem zO {κ : Nat -> Addr} {B : Gd} {X : Cx} {c : Expr} {t : Ev -> R Bool} (h : k7 κ B X c t) : CP κ B X [c] t := λ pins σ Ex s H Q I q => wpAny_tests_one (h pins σ Ex pins s σ H Q I q)
theorem yb {Z : Zx} {B : Gd} {H₀ G₁ H₁ G H : Hp} {σ : St} {δ : Ev} {v : V} {d : D} (rp : Rep Z B H₀ G₁ H₁ σ δ) (e : Ext G₁ H₁ G H) (dv : aH Z G v d) : Rep Z ⟨G₁, λ _ => False⟩ H₁ G H (σ ++ [some v]) (nL δ ++ [some (.sh d)]) := by
 have hl : (nL δ).length = δ.length := by simp [nL]
 have cases' : ∀ {i : Nat} {o : Sl}, (nL δ ++ [some (.sh d)])[i]? = some (some o) -> ∃ d', o = .sh d' /\ ∃ w, (σ ++ [some v])[i]? = some (some w) /\ aH Z G w d' := λ {i o} q => by
  by_cases hi : i < δ.length
  ·rw [List.getElem?_append_left (by omega)] at q
   simp only [nL, List.getElem?_map] at q
   cases z : δ[i]? with
   | none => rw [z] at q; cases q
   | some o' =>
    rw [z] at q
    simp only [Option.map_some, Option.some.injEq] at q
    split at q
    ·rename_i d'
     cases q
     obtain ⟨w, e1, e2⟩ := rp.sh i d' z
     exact ⟨d', rfl, w, by rw [List.getElem?_append_left (by rw [rp.len]; exact hi)]; exact e1, e2.mono e.sG⟩
    ·cases q
  ·rw [List.getElem?_append_right (by omega), hl] at q
   cases z : i - δ.length with
   | succ k => rw [z] at q; simp at q
   | zero =>
    rw [z] at q
    simp at q
    refine ⟨d, q.symm, v, ?_, dv⟩
    rw [List.getElem?_append_right (by rw [rp.len]; omega), rp.len, z]
    rfl
 refine ⟨⟨e.sG, e.GH, λ b o q _ => e.sH _ _ q, λ b q => ?_, λ b q n => ?_⟩, by simp [hl, rp.len], λ i d' q => ?_, λ i ds q => ?_, λ i j ds es a n q1 => ?_, λ i c ns ds q => ?_, λ i j c ns ds c' ns' ds' x0 n0 q => ?_⟩
 ·cases z : H₁ b with
  | none => exact absurd z q
  | some o => rw [e.sH _ _ z]; simp
 ·cases z : G b with
  | none => rfl
  | some o => exact ((e.new b (by rw [z]; simp)).elim (λ y => y n) λ y => q y).elim
 ·obtain ⟨d'', e1, w, e2, e3⟩ := cases' q
  cases e1
  exact ⟨w, e2, e3⟩
 ·obtain ⟨d'', e1, _⟩ := cases' q; cases e1
 ·obtain ⟨d'', e1, _⟩ := cases' q1; cases e1
 ·obtain ⟨d'', e1, _⟩ := cases' q; cases e1
 ·obtain ⟨d'', e1, _⟩ := cases' q; cases e1
section
variable {κ : Nat -> Addr} {B : Gd} {X : Cx} {sc : Scope} {x : Str} {px pos : Pos} {iter elt : Expr} {ifs : List Expr} {fit : Ev -> R (List D)} {t : Ev -> R Bool} {f : Ev -> R D}
noncomputable def ub (κ : Nat -> Addr) (X : Cx) (sc : Scope) (x : Str) (pins : List (Addr × Obj)) (σ : St) (Ex : Value -> Shared -> Prop) (G H : Hp) (l : List D) (Da C : Addr) (s1 : Shared) : Prop :=
 ∃ (sb : Shared) (Hb : Hp) (cl : List (Str × Addr)) (E' : Value -> Shared -> Prop) (ov : Option V) (H3 G3 : Hp) (vs : List V), Inv (At X pins σ Ex) pins σ Hb sb /\ sb.heap.objs.size <= C /\ Inv ((iV X sc cl C sb Hb (X.pn ++ pins) x).wish E') [] (σ ++ [ov]) H3 s1 /\ Ext G H G3 H3 /\ H3 Da = some (.lst vs) /\ G3 Da = none /\ H Da = none /\ Dens ⟨X.K, κ⟩ G3 vs l
theorem uY {pins : List (Addr × Obj)} {τ : St} {Ex : Value -> Shared -> Prop} {s : Shared} {H G : Hp} {δ : Ev} {use : Option (Value -> Sem Unit)} {Qv : Value -> Shared -> Prop} {cpos : Pos} (hc : X.calm = true) (co : CompOk X sc x) (hi : uS κ B X (.Name x px) iter fit)
  (ht : ∀ B' cl C s₁ H₁ pn, CP κ B' (iV X sc cl C s₁ H₁ pn x) ifs t) (he : ∀ B' cl C s₁ H₁ pn, PX κ B' (iV X sc cl C s₁ H₁ pn x) elt f)
  (hs : ∀ x, foldedSetIterable iter X.env x = pure x) (I : Inv (At X pins τ Ex) pins τ H s) (rp : Rep ⟨X.K, κ⟩ B X.H₀ G H τ δ)
  (q : match dF fit t f δ with
   | .ok l => ∀ Da C s1, ub κ X sc x pins τ Ex G H l Da C s1 -> compPost (model X.prog X.w) X.A Ex use Qv (.ref Da) C (.ok .next) s1
   | .exc c => ∀ H' G', Ext G H G' H' -> EX X pins τ Ex (.ref (κ c)) none H'
   | .stuck => False) :
  wpAny (model X.prog X.w) X.A (comprehension (.ListComp elt [⟨.Name x px, iter, ifs, 0⟩] sc pos) sc X.env cpos (newList []) false (eval iter X.env) use) Qv Ex s := by
 obtain ⟨cl, hcl, cl1, cl2⟩ := jW (env := X.env) sc.names [] (λ y hy hk => by
  have := co.fr y hy hk
  exact I.ok.has y.1 (.inl this)) (λ y c h => by cases h)
 have hclos : closureFor sc X.env = pure cl := by
  unfold closureFor
  simp only [bind_pure]
  exact hcl
 refine wpAny_comprehension_free (use := use) rfl hs hclos co.kind co.names ?_
 refine bw (hi pins τ Ex pins s τ H (λ J H' => ∃ G' ds, Ext G H G' H' /\ qx X κ J G' ds /\ (match (if ds.length <= 1000000 then EL (fJ t f (nL δ) ds) else .stuck) with | .ok l => ∀ Da C s1, ub κ X sc x pins τ Ex G H l Da C s1 -> compPost (model X.prog X.w) X.A Ex use Qv (.ref Da) C (.ok .next) s1 | _ => False)) I ⟨G, δ, rp, ?_⟩) λ v s1 h1 => bw h1 λ itv s2 h2 => ?_
 ·unfold dF at q
  cases e : fit δ with
  | ok ds =>
   rw [e] at q
   simp only [R.bind_ok] at q
   refine λ J H' G' e1 d1 => ⟨G', ds, e1, d1, ?_⟩
   by_cases hb : ds.length <= 1000000
   ·rw [if_pos hb] at q ⊢
    cases ez : fJ t f (nL δ) ds with
    | ok l => rw [ez] at q; exact q
    | exc c => rw [ez] at q; exact False.elim q
    | stuck => rw [ez] at q; exact False.elim q
   ·rw [if_neg hb] at q; exact False.elim q
  | exc c => rw [e] at q; exact q
  | stuck => rw [e] at q; exact q
 obtain ⟨sb, Hb, it, fp, tn, J, rfl, Ib, I2, kb, hos, hsz, T, st2, hfp, Gb, ds, e1, ⟨us, dus, hJ⟩, q2⟩ := h2
 have rpb : Rep ⟨X.K, κ⟩ B X.H₀ Gb Hb τ δ := rp.ext e1
 have hlen := dus.length
 by_cases hbig : ds.length <= 1000000
 case neg => rw [if_neg hbig] at q2; exact False.elim q2
 rw [if_pos hbig] at q2
 cases ez : fJ t f (nL δ) ds with
 | exc c => rw [ez] at q2; exact False.elim q2
 | stuck => rw [ez] at q2; exact False.elim q2
 | ok l =>
 rw [ez] at q2
 have hf2 : Hb s2.heap.objs.size = none := I2.hok.fresh (Nat.le_refl _)
 have I3 := I2.laid (a := s2.heap.objs.size) (o := .lst []) (t' := s2.toks) (h' := s2.heap.push { cls := .type "list", dict := none, data := .seq ([] : List Value).toArray }) (λ b u e => Heap.get?_push_of_some _ e) (Nat.le_refl _) ⟨by decide, [], 0, .nil, Heap.get?_push_size _ rfl⟩
 refine wpAny_newObj_type (wpAny_newFunctionEnv co.cell (by intro y hy; simp at hy) (λ h4 hns4 hsb4 => ?_) co.kind)
 dsimp only at hns4 hsb4 ⊢
 generalize hH3 : s2.heap.push { cls := .type "list", dict := none, data := .seq ([] : List Value).toArray } = H3 at hns4 hsb4 I3 ⊢
 have hC : H3.objs.size = s2.heap.objs.size + 1 := by rw [<- hH3, Heap.size_push]
 have k34 : ∀ b o, H3.get? b = some o -> h4.get? b = some o := λ b o e => hsb4.extBut b o (Nat.ne_of_lt (Heap.lt_size e)) (Heap.get?_push_of_some _ e)
 generalize hs4 : ({ s2 with heap := h4, toks := s2.toks + ([] : List (Str × Value)).length } : Shared) = s4
 have I4 : Inv (At X pins τ Ex) pins τ (cD Hb s2.heap.objs.size (.lst [])) s4 := by
  have := I3.kept (t' := s2.toks + ([] : List (Str × Value)).length) k34
  rw [<- hs4]; exact this
 have hh4 : s4.heap = h4 := by rw [<- hs4]
 have kb4 : ∀ b o, sb.heap.get? b = some o -> s4.heap.get? b = some o := λ b o e => by
  rw [hh4]; exact k34 b o (by rw [<- hH3]; exact Heap.get?_push_of_some _ (kb b o e))
 have ub4 : Un (kW X.stack) [] Hb (cD Hb s2.heap.objs.size (.lst [])) sb.heap s4.heap := Un.laid kb4 hsz hf2
 have hCb : sb.heap.objs.size <= H3.objs.size := by omega
 have hfpD : ∀ b ∈ fp, b ≠ s2.heap.objs.size := λ b hb => Nat.ne_of_lt (hfp b hb).2
 have hfpC : ∀ b ∈ fp, b ≠ H3.objs.size := λ b hb => Nat.ne_of_lt (Nat.lt_trans (hfp b hb).2 (by rw [hC]; exact Nat.lt_succ_self _))
 have hDC0 : s2.heap.objs.size ≠ H3.objs.size := by omega
 generalize hD : s2.heap.objs.size = Da at *
 generalize hCC : H3.objs.size = C at *
 have hDC : Da ≠ C := hDC0
 let R := compPost (model X.prog X.w) X.A Ex use Qv (.ref Da) C
 let E' := notedBy (model X.prog X.w) X.A (compEnvC sc cl C X.env) λ e s' => R (.error e) s'
 have ent := λ (E : Value -> Shared -> Prop) => uW (E := E) Ib I4 ub4 (by rw [<- hs4]; exact hos) (x := x) (sc := sc) (cl := cl) (C := C) ⟨co.cell, co.kind, co.names, co.hx, co.loc, co.fr, co.nd⟩ cl1 (λ y hy => cl2 y (.inr hy)) hCb (by rw [hh4]; exact hns4) (by
  rw [ar (Ne.symm hDC)]
  exact Ib.hok.fresh hCb)
 let X' : Cx := iV X sc cl C sb Hb (X.pn ++ pins) x
 have lt : ∀ {b o}, sb.heap.get? b = some o -> ∀ c ∈ fp, b ≠ c := λ {b o} e c hc z => absurd (Nat.lt_of_lt_of_le (Heap.lt_size e) (z ▸ (hfp c hc).1)) (Nat.lt_irrefl _)
 have fok : ∀ (E : Value -> Shared -> Prop) (pl : List (Addr × Obj)) (H' : Hp), pl = [] -> (∀ b ∈ fp, H' b = none) -> ∀ b ∈ fp, pc (X'.wish E) pl H' b := λ E pl H' epl hn b hb => by
  subst epl
  refine ⟨hn b hb, λ z => ?_, λ z => ?_, .inr (hfp b hb).1, λ y c e => ?_, λ p hp => ?_⟩
  ·exact hfpC b hb z
  ·obtain ⟨_, o, ho, _⟩ := Ib.stack.mem z
   exact lt ho b hb rfl
  ·obtain ⟨v, o, ho, _⟩ := Ib.cell y c (cl1 y c e)
   exact lt ho b hb
  ·have hp : p ∈ (X.pn ++ pins) ++ [] := hp
   rw [List.append_nil] at hp
   exact lt (Ib.pin p hp).1 b hb
 have sgA : ∀ (E : Value -> Shared -> Prop) p τ', (X'.wish E).sg p τ' := λ _ _ _ => trivial
 have hN' : X'.N.Nodup := by
  show (X.N ++ [x]).Nodup
  rw [List.nodup_append]
  refine ⟨co.nd, by simp, λ a ha b hb z => ?_⟩
  have : b = x := by simpa using hb
  subst this
  subst z
  exact co.loc _ ha co.hx
 have hlt : τ.length = X.N.length := I4.len
 have loop : codeAny (model X.prog X.w) X.A (.compLoop (.ListComp elt [⟨.Name x px, iter, ifs, 0⟩] sc pos) 0 (.ref it) (.ref Da) (compEnvC sc cl C X.env)) R s4 := by
  refine codeAny_compLoop_tests (λ n s' => ∃ i ov H' G' acc vs rest, Inv (X'.wish E') [] (τ ++ [ov]) H' s' /\ tn i s'.heap /\ (∀ b ∈ fp, H' b = none) /\ n = ds.length - i /\ i <= ds.length /\ Ext Gb Hb G' H' /\ H' Da = some (.lst vs) /\ G' Da = none /\ Dens ⟨X.K, κ⟩ G' vs acc /\ acc.length <= i /\ fJ t f (nL δ) (ds.drop i) = .ok rest /\ acc ++ rest = l) ?_ ds.length ?_ (by intro _; rfl)
  case refine_2 =>
   refine ⟨0, none, _, Gb, [], [], l, ent E', T.keep 0 _ _ st2 (λ b _ o e => ?_), λ b hb => ?_, rfl, Nat.zero_le _, pK e1.GH hf2, aA, e1.GH.free hf2, aP, Nat.le_refl _, by simpa using ez, rfl⟩
   ·rw [hh4]; exact k34 b o (by rw [<- hH3]; exact Heap.get?_push_of_some _ e)
   ·rw [ar (hfpD b hb)]
    exact Ib.hok.fresh (hfp b hb).1
  rintro n s3 ⟨i, ov, H3', G3, acc, vs, rest, Iv, st3, fr3, rfl, hi3, ext3, hD3, gD3, dacc, hacc, hz, hl⟩
  have same3 : br Gb H3' := ext3.sG.trans ext3.GH
  by_cases hlt3 : i < ds.length
  ·obtain ⟨go, yl⟩ := (hJ H3' same3 i).1 (by omega)
   refine bw (T.item (X'.wish E') rfl rfl rfl hc i [] s3 _ H3' E' Iv (fok E' [] H3' rfl fr3) st3 go) λ r s4' ⟨u, hr, h4'⟩ => ?_
   subst hr
   intro Γ pp hΓ
   obtain ⟨xv, H5, I5, r5, y5, st5, fr5⟩ := h4' Γ pp hΓ
   refine (?_ : wpAny (model X.prog X.w) X.A (assign (.Name x px) (compEnvC sc cl C X.env) u) _ E' s4') Γ pp hΓ
   obtain ⟨e5, vx⟩ := yl xv H5 y5
   subst e5
   have I5' := Inv.pinned (sgA E') I5 (fok E' [] _ rfl fr5) (T.obj _ _ st5)
   obtain ⟨dx, hdx⟩ : ∃ d, ds[i]? = some d := ⟨ds[i], by simp [hlt3]⟩
   have dd : aH ⟨X.K, κ⟩ G3 xv dx := by
    obtain ⟨v', z1, z2⟩ := dus.get hdx
    rw [vx] at z1; cases z1
    exact z2.mono ext3.sG
   have hdrop : ds.drop i = dx :: ds.drop (i + 1) := by
    rw [List.drop_eq_getElem_cons hlt3]
    simp [hlt3] at hdx
    rw [hdx]
   rw [hdrop] at hz
   unfold fJ at hz
   have hxl : (X'.wish E').env.scope.names.lookup x = some .local := qH (cl := cl) (C := C) (s₁ := sb) (H₁ := Hb) (pn := X.pn ++ pins) (x := x) co.hx (by decide)
   refine bw (l9 (X := X'.wish E') (i := X.N.length) (pos := px) hN' (AG (sc := sc) (cl := cl) (C := C) (s₁ := sb) (H₁ := Hb) (pn := X.pn ++ pins) rfl) (.inl hxl) (.inr hxl) (λ _ _ _ _ => trivial) _ s4' _ _ xv u (λ σ' H' => σ' = τ ++ [some xv] /\ H' = H5) I5' r5 ⟨?_, rfl⟩) λ _ s6 ⟨σ6, H6, I6, e6, e6'⟩ => ?_
   ·rw [<- hlt, List.set_append_right _ _ (Nat.le_refl _)]; simp
   subst e6 e6'
   have rp6 := yb rpb ext3 dd
   have back : ∀ {s7 : Shared} {H7 : Hp} {ov' : Option V}, Inv (X'.wish E') ([] ++ j8 fp s4'.heap) (τ ++ [ov']) H7 s7 -> Inv (X'.wish E') [] (τ ++ [ov']) H7 s7 /\ tn (i + 1) s7.heap /\ ∀ b ∈ fp, H7 b = none := λ {s7 H7 ov'} I7 =>
    ⟨Inv.unpinned (sgA E') I7, T.keep _ _ _ st5 λ b hb o e => (I7.pin (b, o) (List.mem_append_right _ (List.mem_append_right _ (cc hb e)))).1, λ b hb => by
     obtain ⟨o, e, _⟩ := T.obj _ _ st5 b hb
     exact (I7.pin (b, o) (List.mem_append_right _ (List.mem_append_right _ (cc hb e)))).2.1⟩
   have keepD : ∀ {Ga Ha G' H' : Hp} {ws : List V}, Ext Ga Ha G' H' -> Ha Da = some (.lst ws) -> Ga Da = none -> H' Da = some (.lst ws) /\ G' Da = none := λ {Ga Ha G' H' ws} ee h1 h2 => by
    refine ⟨ee.sH _ _ h1, ?_⟩
    cases z : G' Da with
    | none => rfl
    | some o =>
     rcases ee.new Da (by rw [z]; simp) with y | y
     ·exact absurd h2 y
     ·rw [h1] at y; cases y
   cases et : t (nL δ ++ [some (.sh dx)]) with
   | exc c => rw [et] at hz; cases hz
   | stuck => rw [et] at hz; cases hz
   | ok k =>
   rw [et] at hz
   simp only [L3.R.bind_ok] at hz
   refine bw (ht ⟨Gb, λ _ => False⟩ cl C sb Hb (X.pn ++ pins) _ _ E' s6 _ (λ b H' => b = k /\ ∃ G', Ext G3 H6 G' H') (iG I6) ⟨G3, _, rp6, ?_⟩) λ ok s7 ⟨H7, I7, eok, G7, e7⟩ => ?_
   ·rw [et]; exact λ b H' G' ee eb => ⟨eb, G', ee⟩
   subst eok
   have I7 := cG (sgA (λ _ _ => False)) I7
   obtain ⟨hD7, gD7⟩ := keepD e7 hD3 gD3
   cases ok with
   | false =>
    simp only [Bool.false_eq_true, if_false] at hz ⊢
    obtain ⟨j1, j2, j3⟩ := back I7
    exact ⟨ds.length - (i + 1), by omega, i + 1, some xv, H7, G7, acc, vs, rest, j1, j2, j3, rfl, hlt3, ext3.trans e7, hD7, gD7, dacc.mono e7.sG, by omega, hz, hl⟩
   | true =>
    simp only [if_true] at hz ⊢
    cases ef : f (nL δ ++ [some (.sh dx)]) with
    | exc c => rw [ef] at hz; cases hz
    | stuck => rw [ef] at hz; cases hz
    | ok dy =>
    rw [ef] at hz
    simp only [L3.R.bind_ok] at hz
    refine bw (he ⟨Gb, λ _ => False⟩ cl C sb Hb (X.pn ++ pins) _ _ E' _ s7 _ H7 (λ y H' => ∃ G', Ext G7 H7 G' H' /\ aH ⟨X.K, κ⟩ G' y dy) (iG I7) ⟨G7, _, rp6.ext e7, ?_⟩) λ yu s8 ⟨yv, H8, I8, ry, G8, e8, dy8⟩ => ?_
    ·rw [ef]; exact λ y H' G' ee d => ⟨G', ee, d⟩
    have I8 := cG (sgA (λ _ _ => False)) I8
    obtain ⟨hD8, gD8⟩ := keepD e8 hD7 gD7
    have lacc := dacc.length
    refine bw (jz (X := X'.wish E') _ s8 _ H8 (.ref Da) [yv] (.ref Da) [yu] (λ _ H' => H' = cD H8 Da (.lst (vs ++ [yv]))) I8 rfl (.cons ry .nil) ⟨Da, vs, yv, rfl, rfl, hD8, by rw [sizeLine_eq]; omega, rfl⟩) λ _ s9 ⟨_, H9, I9, _, e9⟩ => ?_
    subst e9
    obtain ⟨j1, j2, j3⟩ := back I9
    cases ez2 : fJ t f (nL δ) (ds.drop (i + 1)) with
    | exc c => rw [ez2] at hz; cases hz
    | stuck => rw [ez2] at hz; cases hz
    | ok rest' =>
    rw [ez2] at hz
    simp only [L3.R.bind_ok] at hz
    injection hz with hz
    have ex8 := (ext3.trans e7).trans e8
    refine ⟨ds.length - (i + 1), by omega, i + 1, some xv, _, G8, acc ++ [dy], vs ++ [yv], rest', j1, j2, j3, rfl, hlt3, ⟨ex8.sG, λ b o z => ?_, λ b o z => ?_, ex8.new⟩, aA, gD8, ((dacc.mono e7.sG).mono e8.sG).append (aR dy8 aP), by simp; omega, ez2, by rw [<- hl, <- hz]; simp⟩
    ·rw [ar (by rintro rfl; rw [hf2] at z; cases z)]; exact ex8.sH b o z
    ·rw [ar (by rintro rfl; rw [gD8] at z; cases z)]; exact ex8.GH b o z
  ·have hie : i = ds.length := by omega
   refine bw (T.done (X'.wish E') rfl rfl rfl hc i [] s3 _ H3' E' Iv (fok E' [] H3' rfl fr3) st3 ((hJ H3' same3 i).2 (by omega))) λ r s4' ⟨hr, I4'⟩ => ?_
   subst hr
   rw [hie, List.drop_length] at hz
   unfold fJ at hz
   injection hz with hz
   subst hz
   rw [List.append_nil] at hl
   subst hl
   exact q2 Da C s4' ⟨sb, Hb, cl, E', ov, H3', G3, vs, Ib, hCb, I4', e1.trans ext3, hD3, gD3, e1.sH.free hf2, dacc⟩
 have stn : tn 0 s4.heap := T.keep 0 _ _ st2 (λ b _ o e => by rw [hh4]; exact k34 b o (by rw [<- hH3]; exact Heap.get?_push_of_some _ e))
 exact codeAny_compStart_list loop (T.self X.A 0 s4 _ _ stn loop)
theorem xK (hc : X.calm = true) (co : CompOk X sc x) (hi : uS κ B X (.Name x px) iter fit)
  (ht : ∀ B' cl C s₁ H₁ pn, CP κ B' (iV X sc cl C s₁ H₁ pn x) ifs t) (he : ∀ B' cl C s₁ H₁ pn, PX κ B' (iV X sc cl C s₁ H₁ pn x) elt f)
  (hs : ∀ x, foldedSetIterable iter X.env x = pure x) : AF κ B X (.ListComp elt [⟨.Name x px, iter, ifs, 0⟩] sc pos) (dF fit t f) := λ pins σ Ex pins' s τ H Q I ⟨G, δ, rp, q⟩ => by
 obtain ⟨rfl, rfl⟩ := I.sgm
 show wpAny (model X.prog X.w) X.A (eval (.ListComp elt [⟨.Name x px, iter, ifs, 0⟩] sc pos) X.env) _ Ex s
 rw [eval_ListComp]
 refine uY (use := none) hc co hi ht he hs I rp ?_
 cases e : dF fit t f δ with
 | ok l =>
  rw [e] at q
  rintro Da C s1 ⟨sb, Hb, cl, E', ov, H3, G3, vs, Ib, hCb, J, ex, h1, h2, h3, h4⟩
  obtain ⟨mm, hnn, _⟩ := J.loc
  exact ⟨mm, hnn, λ h' sbt => ⟨.ref Da, H3, uX (X := At X pins' τ Ex) (sc := sc) (cl := cl) (x := x) (E := E') Ib J hCb sbt, rfl, q Da vs H3 G3 ex h1 h2 h3 h4⟩⟩
 | exc c => rw [e] at q; exact q
 | stuck => rw [e] at q; exact q
end
end L3
namespace L3
open PySem PySem.Spec PyProof.Rows L2
noncomputable abbrev C5 (α : Type) := PySem.W.Frag -> (Nat -> Addr) -> Hp -> Hp -> Hp -> V -> α -> Prop
section
variable {α : Type} {ρ : C5 α} {κ : Nat -> Addr} {B : Gd} {X : Cx} {e : Expr} {f : Ev -> R α} {pos : Pos}
end
section
variable {κ : Nat -> Addr} {B : Gd} {X : Cx} {a : Expr} {es : List Expr} {fs : Ev -> R (List D)} {p pos : Pos} {x : Str} {m : List D -> R (List D)} {n : Nat}
end
end L3
namespace L3
open PySem PySem.Spec PyProof.Rows L2
section
variable {κ : Nat -> Addr} {B : Gd} {X : Cx} {a b : Expr} {fa fb : Ev -> R D} {pos : Pos}
end
section
variable {X : Cx} {tg : Expr}
end
section
variable {κ : Nat -> Addr} {B : Gd} {X : Cx} {tg : Expr}
end
structure CmpIs (X : Cx) (sc : Scope) (x : Str) (X' : Cx) : Prop where
 cxo : Cxo X'
 calm : X'.calm = X.calm
 A : X'.A = X.A
 mg : X'.mg = X.mg
 K : X'.K = X.K
 n : ∀ {i : Nat} {y : Str}, X.N[i]? = some y -> X'.N[i]? = some y
 x : ∀ {i : Nat}, X.N.length = i -> X'.N[i]? = some x
 look : ∀ {y : Str} {k : NameKind}, sc.names.lookup y = some k -> k ≠ .free -> X'.env.scope.names.lookup y = some k
 vis : ∀ {y : Str}, sc.names.lookup y = some .free -> og X'.env.scope y
 cal : ∀ {κ : Nat -> Addr} {y : Str} {n : Nat} {m : List D -> R D}, Cal κ X y n m -> Cal κ X' y n m
theorem wl {X : Cx} {sc : Scope} {x : Str} {cl : List (Str × Addr)} {C : Addr} {s₁ : Shared} {H₁ : Hp} {pn : List (Addr × Obj)} : CmpIs X sc x (iV X sc cl C s₁ H₁ pn x) where
 cxo := yM
 calm := rfl
 A := rfl
 mg := rfl
 K := rfl
 n := C9
 x := AG
 look := qH
 vis := yN
 cal := yL
section
variable {κ : Nat -> Addr} {B : Gd} {X : Cx} {sc : Scope} {x : Str} {px pos : Pos} {iter elt : Expr} {ifs : List Expr} {fit : Ev -> R (List D)} {t : Ev -> R Bool} {f : Ev -> R D}
theorem yO (hc : X.calm = true) (co : CompOk X sc x) (hi : uS κ B X (.Name x px) iter fit) (ht : ∀ X' B', CmpIs X sc x X' -> CP κ B' X' ifs t) (he : ∀ X' B', CmpIs X sc x X' -> PX κ B' X' elt f)
  (hs : yy iter = true) : AF κ B X (.ListComp elt [⟨.Name x px, iter, ifs, 0⟩] sc pos) (dF fit t f) :=
 xK hc co hi (λ _ _ _ _ _ _ => ht _ _ wl) (λ _ _ _ _ _ _ => he _ _ wl) (pL hs)
end
section
variable {κ : Nat -> Addr} {B : Gd} {X : Cx} {sc : Scope} {x y : Str} {px py pos spos : Pos} {iter elt : Expr} {ifs : List Expr} {fit : Ev -> R (List D)} {t : Ev -> R Bool} {f : Ev -> R D} {i : Nat}
end
section
variable {κ : Nat -> Addr} {B : Gd} {X : Cx} {e k : Expr} {f fk : Ev -> R D} {pos pos' apos : Pos} {x : Str} {i : Nat}
end
noncomputable def EQ : D -> R D
 | .int i => .ok (.int (-i))
 | _ => .stuck
section
variable {κ : Nat -> Addr} {B : Gd} {X : Cx} {a b : Expr} {fa fb : Ev -> R D} {p pos : Pos}
end
end L3
namespace L3
open PySem PySem.Spec PyProof.Rows L2
noncomputable def v7 (X : Cx) (κ : Nat -> Addr) (J : It) (G : Hp) (ds : List D) : Prop := ∀ H' G', br G G' -> br G' H' -> ∀ i, (∀ d, ds[i]? = some d -> J.go i H' /\ ∀ x H'', J.yld i H' x H'' -> ∃ G'', Ext G' H' G'' H'' /\ aH ⟨X.K, κ⟩ G'' x d) /\ (ds.length <= i -> J.stop i H')
noncomputable def Ef (κ : Nat -> Addr) (B : Gd) (X : Cx) (tg e : Expr) (f : Ev -> R (List D)) : Prop := ∀ pins σ Ex, PI (At X pins σ Ex) tg e (tO (λ G _ J ds => v7 X κ J G ds) X κ B (EX X pins σ Ex) f)
section
variable {κ : Nat -> Addr} {B : Gd} {X : Cx} {e tg : Expr} {f : Ev -> R D} {pos : Pos}
theorem Ab (cx : Cxo X) (hc : X.calm = true) {iter : Expr} {body : List Stmt} {fit : Ev -> R (List D)} {bd : D -> Ev -> Option Ev} {F : Ev -> SR} (hi : Ef κ B X tg iter fit) (hg : ∀ B, v5 κ B X tg bd) (hb : ∀ B, qu κ B X body F)
  (hs : ∀ x, foldedSetIterable iter X.env x = pure x) : PZ κ B X (.For tg iter body [] pos) (gU fit bd F) := λ Ex pins s σ H G δ Dn hp I rp h => by
 have hsgA : ∀ p τ, (X.wish Ex).sg p τ := cx.sg
 refine wpAny_For (bw (hi pins σ Ex pins s σ H (λ J H' => ∃ G' ds, Rep ⟨X.K, κ⟩ B X.H₀ G' H' σ δ /\ v7 X κ J G' ds /\ bH κ B X Ex pins Dn (bx bd F ds δ)) (iG I) ⟨G, δ, rp, ?_⟩) λ v s1 h1 => bw h1 λ itv s2 h2 => ?_) hs
 ·unfold gU at h
  cases q : fit δ with
  | ok ds => rw [q] at h; exact λ J H' G' e1 d1 => ⟨G', ds, rp.ext e1, d1, h⟩
  | exc c => rw [q] at h; exact λ H' G' e1 ea s' I' F' => h ea s' σ H' G' I' F' (rp.ext e1)
  | stuck => rw [q] at h; exact h
 obtain ⟨it, fp, tn, J, H2, e, I2, T, st2, f2, G2, ds, rp2, hJ, q2⟩ := h2
 subst e
 have I2' := cG cx.sg I2
 have stat : ∀ {H' : Hp}, (∀ b ∈ fp, H' b = none) -> ∀ b ∈ fp, pc (X.wish Ex) pins H' b := λ hn b hb => ⟨hn b hb, (f2 b hb).2⟩
 refine codeAny_forLoop_any (λ n s' => ∃ i σ' H' G' δ', Inv (X.wish Ex) pins σ' H' s' /\ tn i s'.heap /\ (∀ b ∈ fp, H' b = none) /\ n = ds.length - i /\ i <= ds.length /\ Rep ⟨X.K, κ⟩ ⟨G2, B.m⟩ X.H₀ G' H' σ' δ' /\ bH κ B X Ex pins Dn (bx bd F (ds.drop i) δ')) ?_ ds.length
  ⟨0, σ, H2, G2, δ, I2', st2, λ b hb => (f2 b hb).1, rfl, Nat.zero_le _, rp2.raise, q2⟩
 rintro n s3 ⟨i, σ3, H3, G3, δ3, I3, st3, fr3, rfl, hi3, rp3, q3⟩
 have low : ∀ {G' H' : Hp} {σ' : St} {δ' : Ev}, Rep ⟨X.K, κ⟩ ⟨G2, B.m⟩ X.H₀ G' H' σ' δ' -> Rep ⟨X.K, κ⟩ B X.H₀ G' H' σ' δ' := λ r => r.lower rp2.gG rp2.lent
 have same3 : br G2 H3 := rp3.gG.trans rp3.GH
 by_cases hlt : i < ds.length
 ·obtain ⟨dx, hdx⟩ : ∃ d, ds[i]? = some d := ⟨ds[i], by simp [hlt]⟩
  obtain ⟨go, yl⟩ := (hJ H3 G3 rp3.gG rp3.GH i).1 dx hdx
  refine wpAny_passesOwn hp (bw (T.item (X.wish Ex) rfl rfl rfl hc i pins s3 σ3 H3 Ex I3 (stat fr3) st3 go) λ r s4 ⟨u, hr, h4⟩ => ?_)
  subst hr
  refine wpAny_passesOwn hp (bw h4 λ _ s5 ⟨x, H5, I5, r5, y5, st5, fr5⟩ => ?_)
  obtain ⟨G5, e5, dd⟩ := yl x H5 y5
  have I5' := Inv.pinned hsgA I5 (stat fr5) (T.obj _ _ st5)
  have hdrop : ds.drop i = dx :: ds.drop (i + 1) := by
   rw [List.drop_eq_getElem_cons hlt]
   simp [hlt] at hdx
   rw [hdx]
  rw [hdrop] at q3
  unfold bx at q3
  cases eb : bd dx δ3 with
  | none => rw [eb] at q3; exact False.elim q3
  | some δ4 =>
   rw [eb] at q3
   refine wpAny_passesOwn hp (bw (hg ⟨G2, B.m⟩ Ex _ s5 σ3 _ x u (λ σ' H' => H' = H5 /\ Rep ⟨X.K, κ⟩ ⟨G2, B.m⟩ X.H₀ G5 H5 σ' δ4) I5' r5 ⟨G5, δ3, dx, δ4, rp3.ext e5, dd, eb, λ σ' r' => ⟨rfl, r'⟩⟩) λ _ s6 ⟨σ6, H6, I6, e6, rp6⟩ => ?_)
   subst e6
   refine wpAny_passesOwn hp (bw (hb ⟨G2, B.m⟩ Ex _ s6 σ6 _ G5 δ4 { Dn with nx := λ σ' H' => ∃ G' δ', Rep ⟨X.K, κ⟩ ⟨G2, B.m⟩ X.H₀ G' H' σ' δ' /\ bH κ B X Ex pins Dn (bx bd F (ds.drop (i + 1)) δ'), ct := λ σ' H' => ∃ G' δ', Rep ⟨X.K, κ⟩ ⟨G2, B.m⟩ X.H₀ G' H' σ' δ' /\ bH κ B X Ex pins Dn (bx bd F (ds.drop (i + 1)) δ'), bk := Dn.nx } hp I6 rp6 ?_) λ fl s7 q7 => ?_)
   ·cases ef : F δ4 with
    | next δ5 => simp only [ef] at q3; exact λ σ' H' G' r => ⟨G', δ5, r, q3⟩
    | cont δ5 => simp only [ef] at q3; exact λ σ' H' G' r => ⟨G', δ5, r, q3⟩
    | brk δ5 => simp only [ef] at q3; exact λ σ' H' G' r => q3 σ' H' G' (low r)
    | ret d => simp only [ef] at q3; exact λ v H' G' r => q3 v H' G' (r.lower rp2.gG rp2.lent)
    | exc c δ5 => simp only [ef] at q3; exact λ ea s' σ' H' G' I' F' r => q3 ea s' σ' H' G' (Inv.unpinned hsgA I') (mK F') (low r)
    | stuck => simp only [ef] at q3; exact q3
   ·have again : ∀ {σ7 : St} {H7 : Hp}, Inv (X.wish Ex) (pins ++ j8 fp s5.heap) σ7 H7 s7 -> (∃ G' δ', Rep ⟨X.K, κ⟩ ⟨G2, B.m⟩ X.H₀ G' H7 σ7 δ' /\ bH κ B X Ex pins Dn (bx bd F (ds.drop (i + 1)) δ')) →
      ∃ m, m < ds.length - i /\ ∃ i σ' H' G' δ', Inv (X.wish Ex) pins σ' H' s7 /\ tn i s7.heap /\ (∀ b ∈ fp, H' b = none) /\ m = ds.length - i /\ i <= ds.length /\ Rep ⟨X.K, κ⟩ ⟨G2, B.m⟩ X.H₀ G' H' σ' δ' /\ bH κ B X Ex pins Dn (bx bd F (ds.drop i) δ') := λ {σ7 H7} I7 ⟨G7, δ7, r7, n7⟩ => by
     refine ⟨ds.length - (i + 1), by omega, i + 1, σ7, H7, G7, δ7, Inv.unpinned hsgA I7, T.keep _ _ _ st5 λ b hb o e => (I7.pin (b, o) (List.mem_append_right _ (List.mem_append_right _ (cc hb e)))).1, λ b hb => ?_, rfl, hlt, r7, n7⟩
     obtain ⟨o, e, d⟩ := T.obj _ _ st5 b hb
     exact (I7.pin (b, o) (List.mem_append_right _ (List.mem_append_right _ (cc hb e)))).2.1
    cases fl with
    | next => obtain ⟨σ7, H7, I7, n7⟩ := q7; exact again I7 n7
    | cont => obtain ⟨σ7, H7, I7, n7⟩ := q7; exact again I7 n7
    | brk => obtain ⟨σ7, H7, I7, q7⟩ := q7; exact ⟨σ7, H7, Inv.unpinned hsgA I7, q7⟩
    | ret v => obtain ⟨x7, σ7, H7, I7, r7, q7⟩ := q7; exact ⟨x7, σ7, H7, Inv.unpinned hsgA I7, r7, q7⟩
 ·have hie : i = ds.length := by omega
  refine wpAny_passesOwn hp (bw (T.done (X.wish Ex) rfl rfl rfl hc i pins s3 σ3 H3 Ex I3 (stat fr3) st3 ((hJ H3 G3 rp3.gG rp3.GH i).2 (by omega))) λ r s4 ⟨hr, I4⟩ => ?_)
  subst hr
  rw [hie, List.drop_length] at q3
  exact wpAny_execs_nil ⟨σ3, H3, I4, q3 σ3 H3 G3 (low rp3)⟩
end
noncomputable def Ed (K : PySem.W.Frag) (a : Addr) : It :=
 ⟨λ i H => ∃ xs x, cr K H a xs /\ xs[i]? = some x, λ i H x H' => ∃ v p, (∀ xs, cr K H a xs -> xs[i]? = some v) /\ H p = none /\ x = .ref p /\ H' = cD H p (.tup [.int (i : Nat), v]), λ i H => ∃ xs, cr K H a xs /\ xs.length <= i⟩
theorem oW {P : Program} {w : World} {K : PySem.W.Frag} {tgs : List Expr} {kk : Nat} {tpos : Pos} (l e it : Addr) (hne : e ≠ it) : Turn P w K (.Tuple tgs kk tpos) (Ed K l) [e, it] e (λ i h => (∃ old, IsEnum h e it (i : Nat) old) /\ h.IsListIter it l i) where
 mem := by simp
 obj := λ i h st b hb => by
  obtain ⟨⟨old, h1⟩, o, h2, _, h3⟩ := st
  rcases List.mem_cons.mp hb with rfl | hb
  ·exact ⟨_, h1, λ v z => by
    have z' : Data.fields _ = Data.cell v := z
    cases z'⟩
  ·have e' : b = it := by simpa using hb
   subst e'
   exact ⟨o, h2, λ v z => by rw [h3] at z; cases z⟩
 keep := λ i h h' st k => by
  obtain ⟨⟨old, h1⟩, h2⟩ := st
  exact ⟨⟨old, k e (by simp) _ h1⟩, h2.at λ o x => k it (by simp) o x⟩
 item := by
  intro X hP hw hK hc i pins s σ H E I hf st hg
  subst hP hw hK
  obtain ⟨⟨old, h1⟩, h2⟩ := st
  obtain ⟨xs, x, hq, hx⟩ := hg
  obtain ⟨its, rv, p, hz⟩ := I.list hq
  obtain ⟨u, hu, ru⟩ := rv.get hx
  obtain ⟨f0, f1, f2, f3, f4, f5⟩ := hf e (by simp)
  obtain ⟨g0, g1, g2, g3, g4, g5⟩ := hf it (by simp)
  have hes : e < s.heap.objs.size := Heap.lt_size h1
  refine wpAny_pyNext_enum_item h1 h2 p.isList (x := u) (by simpa using hu) hne λ h' ho hi ht hs hk => ⟨_, rfl, ?_⟩
  refine wpAny_letOwnedTupleGo_enum ho λ h'' he hsb => ?_
  have hn : H s.heap.objs.size = none := I.hok.fresh (Nat.le_refl _)
  have tup : h''.get? s.heap.objs.size = some { cls := .type "tuple", data := .seq #[.int i s.toks, u] } := hsb.extBut _ _ (Nat.ne_of_gt hes) ht
  have kp : ∀ b o, b ≠ e -> b ≠ it -> s.heap.get? b = some o -> h''.get? b = some o := λ b o hb1 hb2 q => hsb.extBut b o hb1 (hk b o hb1 hb2 q)
  have nin : ∀ {b : Addr}, b ∉ [e, it] -> b ≠ e /\ b ≠ it := λ {b} h => by simpa using h
  have ne_tr : ∀ b o, H b = some o -> b ≠ e /\ b ≠ it := λ b o q => ⟨(by rintro rfl; rw [f0] at q; cases q), (by rintro rfl; rw [g0] at q; cases q)⟩
  have nep : ∀ b o, s.heap.get? b = some o -> b ≠ s.heap.objs.size := λ b o q => Nat.ne_of_lt (Heap.lt_size q)
  have J := I.step (H' := cD H s.heap.objs.size (.tup [.int (i : Nat), x])) (h' := h'') (g' := s.gens) (d' := s.drawn) (t' := s.toks + 1) (ch := [e, it]) (λ b hb => by
    rcases List.mem_cons.mp hb with rfl | hb
    ·exact ⟨f3.imp id Heap.get?_none_of_le, f1, f4, f5⟩
    ·have e' : b = it := by simpa using hb
     subst e'
     exact ⟨g3.imp id Heap.get?_none_of_le, g1, g4, g5⟩)
   (λ b o _ _ hch q _ => kp b o (nin hch).1 (nin hch).2 q) (λ b o _ _ hch q _ => ⟨o.slots, kp b o (nin hch).1 (nin hch).2 q⟩) (λ b o _ q n => by rw [ar (nep b o q)]; exact n)
   (λ b o hch q => ⟨o, kp b o (nin hch).1 (nin hch).2 q⟩) (λ b xs q => by rw [ar (aC q hn)]; exact q) (λ b o u q => by rw [ar (aC q hn)]; exact q) (λ b ps q => ⟨#[], by rw [ar (aC q hn), q]; simp⟩)
   (λ m hm => by
    obtain ⟨o, es, ep, ho', r⟩ := hm
    exact ⟨o, es, ep, kp _ o (Ne.symm f1) (Ne.symm g1) ho', r⟩)
   (λ b o q => by
    by_cases hb : b = s.heap.objs.size
    ·subst hb
     rw [aA] at q
     cases q
     exact ⟨by simp [sizeLine_eq], [.int i s.toks, u], .cons ⟨_, rfl⟩ (.cons ru .nil), _, tup, rfl, _, rfl⟩
    ·rw [ar hb] at q
     refine (I.hok b o q).stay (λ c v hc q' => ?_) (λ c q' => by rw [ar (aC q' hn)]; exact q') λ c xs q' => by rw [ar (aC q' hn)]; exact q'
     have hcc : c ≠ e /\ c ≠ it := by
      rcases hc with z | z
      ·rw [z]; exact ne_tr b o q
      ·exact ne_tr c _ z
     exact kp c v hcc.1 hcc.2 q') I.bare
  refine ⟨.ref s.heap.objs.size, _, J, rfl, ⟨x, _, λ ys hy => by rw [I.list_inj hy hq]; exact hx, hn, rfl, rfl⟩, ⟨⟨u, ?_⟩, (hi.extBut hsb.extBut (Ne.symm hne))⟩, λ b hb => ?_⟩
  ·have he' : IsEnum h'' e it ((i : Int) + 1) u := he
   rw [show (((i + 1 : Nat)) : Int) = (i : Int) + 1 by push_cast; rfl]
   exact he'
  ·have hlt : b < s.heap.objs.size := by
    rcases List.mem_cons.mp hb with rfl | hb
    ·exact hes
    ·have e' : b = it := by simpa using hb
     subst e'
     obtain ⟨o, ho', _⟩ := h2
     exact Heap.lt_size ho'
   rw [ar (Nat.ne_of_lt hlt)]
   exact (hf b hb).1
 done := by
  intro X hP hw hK hc i pins s σ H E I hf st hg
  subst hP hw hK
  obtain ⟨⟨old, h1⟩, h2⟩ := st
  obtain ⟨xs, hq, hx⟩ := hg
  obtain ⟨its, rv, p, hz⟩ := I.list hq
  obtain ⟨g0, g1, g2, g3, g4, g5⟩ := hf it (by simp)
  have hl := rv.length
  exact wpAny_pyNext_enum_end (I.ok.hd hc) h1 h2 p.isList (by simp; omega) λ h' eb => ⟨rfl, I.turned (t' := s.toks) (λ b o hb e => eb b o hb e) g0 g1 g3 g4 g5⟩
 self := λ _ _ _ _ _ st h => by
  obtain ⟨⟨old, h1⟩, _⟩ := st
  exact wpAny_pyIter_enum h1 h
noncomputable def aT : Nat -> List D -> List D
 | _, [] => []
 | n, d :: ds => .tup [.int (n : Int), d] :: aT (n + 1) ds
noncomputable def uk : D -> R (List D)
 | .lst ds => .ok (aT 0 ds)
 | _ => .stuck
theorem kD : ∀ (ds : List D) (n : Nat), (aT n ds).length = ds.length
 | [], _ => rfl
 | d :: ds, n => by simp [aT, kD ds (n + 1)]
theorem kC : ∀ (ds : List D) (n i : Nat) (d : D), (aT n ds)[i]? = some d -> ∃ x, ds[i]? = some x /\ d = .tup [.int ((n + i : Nat) : Int), x]
 | [], _, _, _, h => by simp [aT] at h
 | x :: ds, n, 0, d, h => by simp [aT] at h; exact ⟨x, rfl, h.symm⟩
 | x :: ds, n, i + 1, d, h => by
  simp only [aT, List.getElem?_cons_succ] at h
  obtain ⟨y, h1, h2⟩ := kC ds (n + 1) i d h
  exact ⟨y, by simpa using h1, by rw [h2]; congr 3; omega⟩
theorem sS {X : Cx} {κ : Nat -> Addr} {G : Hp} {a : Addr} {vs : List V} {ds : List D} (h : cr X.K G a vs) (d : Dens ⟨X.K, κ⟩ G vs ds) : v7 X κ (Ed X.K a) G (aT 0 ds) := by
 intro H' G' s1 s2 i
 have sq : cr X.K H' a vs := (s1.trans s2).seq h
 refine ⟨λ e he => ?_, λ hi => ⟨vs, sq, by rw [d.length, <- kD ds 0]; exact hi⟩⟩
 obtain ⟨y, hy, rfl⟩ := kC ds 0 i e he
 obtain ⟨v, hv, dv⟩ := d.get hy
 refine ⟨⟨vs, v, sq, hv⟩, ?_⟩
 rintro x H'' ⟨v', p, q1, q3, rfl, rfl⟩
 have q2 := q1 vs sq
 rw [hv] at q2
 cases q2
 have ee := eX (o := .tup [.int (i : Nat), v]) s2 q3
 refine ⟨_, ee, ?_⟩
 unfold aH
 refine ⟨p, _, rfl, k9.of aA, aR (by unfold aH; simp) (aR ((dv.mono s1).mono ee.sG) aP)⟩
section
variable {κ : Nat -> Addr} {B : Gd} {X : Cx} {e : Expr} {f : Ev -> R D} {tgs : List Expr} {kk : Nat} {p pos tpos : Pos}
theorem xA (hg : Gl X "enumerate") (hm : X.mg "enumerate" = none) (h : PX κ B X e f) (hs : aB e = true) : Ef κ B X (.Tuple tgs kk tpos) (.Call (.Name "enumerate" p) [e] [] pos) (λ δ => (f δ).bind uk) := λ pins σ Ex pins' s τ H R I ⟨G, δ, rp, q⟩ => by
 dsimp only at q
 refine Call_ (jo I hg hm boot_enumerate (PyProof.Rows.callWith_type1 (bw (fe (X := At X pins σ Ex) (h pins σ Ex) gT (aJ hs) pos pins' s τ H (λ vs H1 => ∃ a xs ds G1, vs = [.ref a] /\ cr X.K G1 a xs /\ Dens ⟨X.K, κ⟩ G1 xs ds /\ Ext G H G1 H1 /\ R (Ed X.K a) H1) I ⟨G, δ, rp, ?_⟩) λ us s1 ⟨vs, H1, I1, r1, q1⟩ => ?_) (aJ hs) rfl))
 ·cases e' : f δ with
  | ok d =>
   rw [e'] at q
   cases d with
   | lst ds =>
    intro v H1 G1 e1 d1
    unfold iF aH at d1
    obtain ⟨a, xs, rfl, h1, h2⟩ := d1
    exact ⟨a, xs, ds, G1, rfl, h1, h2, e1, q _ H1 G1 e1 (sS h1 h2)⟩
   | _ => exact False.elim q
  | exc c => rw [e'] at q; exact q
  | stuck => rw [e'] at q; exact False.elim q
 ·obtain ⟨a, xs, ds, G1, rfl, h1, h2, e1, q1⟩ := q1
  cases r1 with
  | cons r rr =>
   cases rr
   cases r
   obtain ⟨its, rv, pl, hz⟩ := I1.list (e1.GH.seq h1)
   refine call_enumerate_list pl.isList λ h' he hi hsz hk => ?_
   refine wpAny_pyIter_enum he ?_
   have I2 : Inv (At X pins σ Ex) pins' τ H1 { s1 with heap := h' } := I1.kept (t' := s1.toks) hk
   refine ⟨s1.heap.objs.size + 1, [s1.heap.objs.size + 1, s1.heap.objs.size], _, _, H1, rfl, I2, oW a _ _ (Nat.succ_ne_self _), ⟨⟨_, he⟩, hi⟩, λ b hb => ?_, q1⟩
   rcases List.mem_cons.mp hb with rfl | hb
   ·exact I1.fpOk (Nat.le_succ _) (I1.hok.fresh (Nat.le_succ _))
   ·have e' : b = s1.heap.objs.size := by simpa using hb
    subst e'
    exact I1.fpOk (Nat.le_refl _) (I1.hok.fresh (Nat.le_refl _))
theorem CJ (cx : Cxo X) (hc : X.calm = true) {tg iter : Expr} {body : List Stmt} {fit : Ev -> R (List D)} {bd : D -> Ev -> Option Ev} {F : Ev -> SR} (hi : Ef κ B X tg iter fit) (hg : ∀ B, v5 κ B X tg bd) (hb : ∀ B, qu κ B X body F) (h : yy iter = true) : PZ κ B X (.For tg iter body [] pos) (gU fit bd F) := Ab cx hc hi hg hb (pL h)
end
end L3
namespace L3
open PySem PySem.Spec PyProof.Rows L2
noncomputable def CY (x : Str) : It := ⟨λ i _ => i < x.cps.size, λ i H v H' => H' = H /\ ∃ c, x.cps[i]? = some c /\ v = .str ⟨#[c]⟩, λ i _ => x.cps.size <= i⟩
theorem yi {P : Program} {w : World} {K : PySem.W.Frag} {tg : Expr} (ty : String) (hty : ty = "str_ascii_iterator" \/ ty = "str_iterator") (it : Addr) (x : Str) (t : Tok) : Turn P w K tg (CY x) [it] it (λ i h => h.IsStrIter it ty x t i) where
 mem := by simp
 obj := λ i h st b hb => by
  have e : b = it := by simpa using hb
  subst e
  obtain ⟨o, e, c, d⟩ := st
  exact ⟨o, e, λ v z => by rw [d] at z; cases z⟩
 keep := λ i h h' st k => let ⟨o, ho, r⟩ := st; ⟨o, k it (by simp) o ho, r⟩
 item := by
  intro X hP hw hK hc i pins s σ H E I hf st hg
  subst hP hw hK
  obtain ⟨f0, f1, f2, f3, f4, f5⟩ := hf it (by simp)
  have W : ∀ {Q : Option Value -> Shared -> Prop}, (∀ v h' tk, SignAt x i v -> h'.IsStrIter it ty x t (i + 1) -> (∀ b o, b ∉ [it] -> s.heap.get? b = some o -> h'.get? b = some o) -> Q (some v) { s with heap := h', toks := tk }) -> wpAny (model X.prog X.w) X.A (pyNext (.ref it)) Q E s := λ {Q} hQ => by
   rcases hty with rfl | rfl
   ·exact (Walks.strAscii (prog := X.prog) (w := X.w) (I.ok.hd hc) it x t).item i s Q E hg st hQ
   ·exact (Walks.strWide (prog := X.prog) (w := X.w) (I.ok.hd hc) it x t).item i s Q E hg st hQ
  refine W λ v h' tk hv st' kk => ?_
  obtain ⟨c, u, hcx, rfl⟩ := hv
  have I1 : Inv X pins σ H { s with heap := h', toks := tk } := I.turned (λ b o hb e => kk b o (by simpa using hb) e) f0 f1 f3 f4 f5
  obtain ⟨o, e, hcl, d⟩ := id st'
  refine ⟨_, rfl, uo (s := { s with heap := h', toks := tk }) (n := ty) e hcl d (by rcases hty with rfl | rfl <;> decide) ⟨.str ⟨#[c]⟩, H, I1, ⟨u, rfl⟩, ⟨rfl, c, hcx, rfl⟩, st', λ b hb => (hf b hb).1⟩⟩
 done := by
  intro X hP hw hK hc i pins s σ H E I hf st hg
  subst hP hw hK
  obtain ⟨f0, f1, f2, f3, f4, f5⟩ := hf it (by simp)
  have hi : x.cps.size <= i := hg
  rcases hty with rfl | rfl
  ·exact wpAny_pyNext_ascii_end (I.ok.hd hc) st (by simp; omega) λ h' eb => ⟨rfl, I.turned (t' := s.toks) (λ b o hb e => eb b o hb e) f0 f1 f3 f4 f5⟩
  ·exact wpAny_pyNext_wide_end (I.ok.hd hc) st (by simp; omega) λ h' eb => ⟨rfl, I.turned (t' := s.toks) (λ b o hb e => eb b o hb e) f0 f1 f3 f4 f5⟩
 self := λ _ _ _ _ _ st h => by
  rcases hty with rfl | rfl
  ·exact wpAny_pyIter_striter_ascii st h
  ·exact wpAny_pyIter_striter_wide st h
noncomputable def EI (tl : TE) : TI := λ σ H R => tl σ H λ v H1 => ∃ x, v = .str x /\ R (CY x) H1
theorem BO {X : Cx} {tg l : Expr} {tl : TE} (hl : PE X l tl) : PI X tg l (EI tl) := by
 intro pins s σ H R I h
 refine bw (hl pins s σ H _ I h) λ v s1 ⟨y, H1, I1, r1, q1⟩ => ?_
 obtain ⟨x, e, q⟩ := q1
 subst e
 obtain ⟨t, rfl⟩ := r1
 have fin : ∀ (ty : String) (o : Obj), (ty = "str_ascii_iterator" \/ ty = "str_iterator") -> (s1.heap.push o).IsStrIter s1.heap.objs.size ty x t 0 -> Er X pins σ tg R (.ref s1.heap.objs.size) { s1 with heap := s1.heap.push o } := λ ty o hty st => by
  refine ⟨s1.heap.objs.size, [s1.heap.objs.size], _, _, H1, rfl, I1.kept (t' := s1.toks) λ b o e => Heap.get?_push_of_some _ e, yi ty hty _ x t, st, λ b hb => ?_, q⟩
  have e : b = s1.heap.objs.size := by simpa using hb
  subst e
  exact I1.fpOk (Nat.le_refl _) (I1.hok.fresh (Nat.le_refl _))
 cases ha : x.cps.all (· < 128)
 ·exact wpAny_pyIter_wide ha (fin "str_iterator" _ (.inr rfl) ⟨_, Heap.get?_push_size _ rfl, rfl, rfl⟩)
 ·exact wpAny_pyIter_ascii ha (fin "str_ascii_iterator" _ (.inl rfl) ⟨_, Heap.get?_push_size _ rfl, rfl, rfl⟩)
noncomputable def pQ : D -> R (List D)
 | .str l => .ok (l.map λ c => .str [c])
 | _ => .stuck
section
variable {κ : Nat -> Addr} {B : Gd} {X : Cx} {a e tg : Expr} {f fa : Ev -> R D} {p pos : Pos}
theorem wI {G : Hp} {l : List Nat} : qx X κ (CY ⟨l.toArray⟩) G (l.map λ c => .str [c]) := by
 refine ⟨l.map λ c => gW [c], ?_, λ H' s i => ⟨λ hi => ⟨?_, λ x H'' y => ?_⟩, λ hi => ?_⟩⟩
 ·induction l with
  | nil => exact aP
  | cons c l ih => exact aR EA ih
 ·simpa [CY] using hi
 ·obtain ⟨y1, c, y2, y3⟩ := y
  refine ⟨y1, ?_⟩
  have y2' : l[i]? = some c := by simpa using y2
  rw [y3, List.getElem?_map, y2']
  rfl
 ·simpa [CY] using hi
theorem zG (h : PX κ B X e f) : yE κ B X tg e (λ δ => (f δ).bind pQ) := λ pins σ Ex =>
 qb (BO (X := At X pins σ Ex) (h pins σ Ex)) λ τ H R ⟨G, δ, rp, q⟩ => ⟨G, δ, rp, q.seq λ x v H1 G1 e1 d1 q1 => by
  cases x with
  | str l =>
   unfold iF aH at d1
   exact ⟨_, d1, q1 _ H1 G1 (Ext.refl e1.GH) wI⟩
  | _ => exact False.elim q1⟩
noncomputable def lY (i : Int) : List Nat := (Str.ofString (toString i)).cps.toList
theorem uN (i : Int) : (⟨(lY i).toArray⟩ : Str) = Str.ofString (toString i) := by unfold lY; simp
noncomputable def dD : D -> R D
 | .int i => if i.natAbs < 10000000000 then .ok (.str (lY i)) else .stuck
 | _ => .stuck
theorem oC {n : Nat} (h : n < 10000000000) : n.log2 < 1920 := by
 by_cases h0 : n = 0
 ·subst h0; decide
 ·refine Nat.lt_of_lt_of_le ((Nat.log2_lt h0).mpr (Nat.lt_of_lt_of_le h (by decide : 10000000000 <= 2 ^ 40))) (by decide)
theorem Ea (hg : Gl X "str") (hm : X.mg "str" = none) (ha : cJ κ B X a fa) (h : aB a = true) : PX κ B X (.Call (.Name "str" p) [a] [] pos) (m1 dD fa) := λ pins σ Ex =>
 bp (oQ (X := At X pins σ Ex) pB hg hm (pw .str) (fe (X := At X pins σ Ex) (ha pins σ Ex) gT (aJ h)) (by decide) (by decide) (aJ h) rfl) λ τ H Q ⟨G, δ, rp, q⟩ => ⟨G, δ, rp, q.seq λ x v H1 G1 e1 d1 q1 => by
  cases x with
  | int i =>
   simp only [dD] at q1
   split at q1
   ·rename_i hi
    refine ⟨i, by rw [kO d1], oC hi, ?_⟩
    exact q1 _ H1 G1 (Ext.refl e1.GH) (by unfold iF aH gW; rw [uN])
   ·exact False.elim q1
  | _ => exact False.elim q1⟩
noncomputable def fO (x : D) (ys : List D) : R D := match x, ys with
 | .str l, [.int i] => if 0 <= i /\ i <= 1000 then .ok (.str (Txt.zfill ⟨l.toArray⟩ i).cps.toList) else .stuck
 | _, _ => .stuck
theorem vB {i : Int} (h : 0 <= i /\ i <= 1000) : PadOk i = true := by
 have h1 : fitsSsize i = true := by
  unfold fitsSsize
  rw [decide_eq_false (by omega), decide_eq_false (by omega)]
  rfl
 have h2 : Builtin.Str.tooLong i.toNat = false := by
  unfold Builtin.Str.tooLong
  have : (1000000 : Nat) <= sizeLine := by decide
  exact decide_eq_false (by omega)
 unfold PadOk
 rw [h1, h2]
 rfl
noncomputable def Cv : V -> List V -> Hp -> VK -> Prop := λ x vs H Q => ∃ (l : List Nat) (i : Int), x = gW l /\ vs = [.int i] /\ 0 <= i /\ i <= 1000 /\ Q (.str (Txt.zfill ⟨l.toArray⟩ i)) H
theorem wV : Ee X "str.zfill" Cv := by
 intro pins s σ H x vs v us Q I rx rv ⟨l, i, e1, e2, h1, h2, q⟩
 subst e1
 subst e2
 obtain ⟨t, rfl⟩ := rx
 obtain ⟨u, rfl, ru⟩ := rv.one
 obtain ⟨t', rfl⟩ := ru
 exact SC.zfill (vB ⟨h1, h2⟩) λ t' k => ⟨.str _, H, I.tok _, ⟨_, rfl⟩, q⟩
theorem AB {o e : Expr} {fo : Ev -> R D} {fs : Ev -> R (List D)} {apos : Pos} (ho : cJ κ B X o fo) (ha : mn κ B X [e] fs) (hs : aB e = true) (hline : (apos.endLine == pos.line) = true) (hbase : attributeBase o "zfill" X.env (eval o X.env) = eval o X.env) :
  PX κ B X (.Call (.Attribute o "zfill" apos) [e] [] pos) (sV fO fo fs) := λ pins σ Ex =>
 bp (oP (X := At X pins σ Ex) F.plainAttrs_str F.slot_str_zfill F.type_str_zfill wV (ho pins σ Ex) (ha pins σ Ex) hbase (kx hs) hline (aJ hs) rfl) λ τ H Q ⟨G, δ, rp, q⟩ => ⟨G, δ, rp, q.seq λ x v H1 G1 e1 d1 q1 => by
  cases x with
  | str l =>
   obtain rfl := rS d1
   refine ⟨rfl, G1, δ, rp.ext e1, q1.seq λ ys us H2 G2 e2 d2 q2 => ?_⟩
   match ys, us, d2, q2 with
   | [.int i], us, d2, q2 =>
    have hu := jx d2
    simp only [fO] at q2
    split at q2
    ·rename_i hi
     exact ⟨l, i, rfl, hu, hi.1, hi.2, q2 _ H2 G2 (Ext.refl e2.GH) (by unfold iF aH gW; simp)⟩
    ·exact False.elim q2
   | [], _, _, q2 => exact False.elim q2
   | [.non], _, _, q2 => exact False.elim q2
   | [.bl _], _, _, q2 => exact False.elim q2
   | [.str _], _, _, q2 => exact False.elim q2
   | [.tup _], _, _, q2 => exact False.elim q2
   | [.lst _], _, _, q2 => exact False.elim q2
   | [.ob _ _ _], _, _, q2 => exact False.elim q2
   | z :: _ :: _, _, _, q2 => cases z <;> exact False.elim q2
  | _ => exact False.elim q1⟩
noncomputable def BB (l : List Nat) : D -> R D := λ x => (dD x).bind λ y => match y with
 | .str r => .ok (.str (l ++ r))
 | _ => .stuck
theorem yg {i : Int} (h : i.natAbs < 10000000000) : (Str.ofString (toString i)).length <= 1000 := by
 have e := int_text_length_le10 (k := 10) (by decide) h
 rw [PySem.ofString_length]
 omega
theorem CK {x : Str} {l : List Nat} {kk : Nat} {cp fp : Pos} (hx : x = ⟨l.toArray⟩) (hl : l.length <= 1000) (ha : cJ κ B X a fa) : PX κ B X (.JoinedStr [.Constant (.str x) kk cp, .FormattedValue a (-1) none fp] pos) (m1 (BB l) fa) := λ pins σ Ex => by
 intro pins' s τ H Q I ⟨G, δ, rp, q⟩
 subst hx
 refine wpAny_JoinedStr ?_
 have q0 := pd.seq (rel := iM X κ) (P := λ v H' => ∃ i G', v = .int i /\ i.natAbs < 10000000000 /\ Ext G H G' H' /\ pd (iF X κ) κ (EX X pins σ Ex) G' H' (.ok (.str (l ++ lY i))) Q) q (λ d v H1 G1 e1 d1 q1 => by
  cases d with
  | int i =>
   simp only [BB, dD] at q1
   split at q1
   ·rename_i hi
    exact ⟨i, G1, kO d1, hi, e1, q1⟩
   ·exact False.elim q1
  | _ => exact False.elim q1)
 have e0 : Str.empty ++ (⟨l.toArray⟩ : Str) = ⟨l.toArray⟩ := by
  show (⟨#[] ++ l.toArray⟩ : Str) = _
  simp
 have big : (1000000 : Nat) <= sizeLine := by decide
 refine Calls.Constant_str ⟨_, _, rfl, by rw [e0]; simp only [Str.length, List.size_toArray]; omega, ?_⟩
 rw [e0]
 refine wpAny_FormattedValue_plain (bw (ha pins σ Ex pins' _ τ H _ (I.tok _) ⟨G, δ, rp, q0⟩) λ v s1 ⟨y, H1, I1, r1, i, G1, ey, hi, ex, qq⟩ => ?_)
 subst ey
 obtain ⟨t, rfl⟩ := r1
 have ecat : (⟨l.toArray⟩ : Str) ++ Str.ofString (toString i) = ⟨(l ++ lY i).toArray⟩ := by
  rw [<- uN i]
  show (⟨l.toArray ++ (lY i).toArray⟩ : Str) = _
  simp
 have hlen : ((⟨l.toArray⟩ : Str) ++ Str.ofString (toString i)).length <= sizeLine := by
  rw [strLen_append]
  have := yg hi
  have h2 : (⟨l.toArray⟩ : Str).length = l.length := by simp [Str.length]
  omega
 refine wpAny_formatField_int (oC hi) ⟨_, _, rfl, hlen, hlen, ?_⟩
 refine ⟨.str _, H1, (I1.tok _).tok _, ⟨_, rfl⟩, ?_⟩
 rw [ecat]
 exact qq _ H1 G1 (Ext.refl ex.GH) (by unfold iF aH; rfl)
end
end L3
namespace L3
open PySem PySem.Spec PyProof.Rows L2
section
variable {κ : Nat -> Addr} {B : Gd} {X : Cx} {a b : Expr} {fa fb : Ev -> R D} {p pos : Pos}
end
end L3
namespace L3
open PySem PySem.Spec PyProof.Rows L2
end L3
namespace L3
open PySem PySem.Spec PyProof.Rows L2
section
variable {κ : Nat -> Addr} {B : Gd} {X : Cx} {a b : Expr} {fs : Ev -> R (List D)} {p pos p' pos' : Pos}
end
end L3
namespace L3
open PySem PySem.Spec PyProof.Rows L2
section
variable {κ : Nat -> Addr} {B : Gd} {X : Cx} {pos pos' pos'' apos : Pos}
end
end L3
namespace L3
open PySem PySem.Spec PyProof.Rows L2
section
variable {κ : Nat -> Addr} {B : Gd} {X : Cx} {a b : Expr} {fa fb : Ev -> R D} {p pos : Pos}
end
end L3
namespace L3
open PySem PySem.Spec PyProof.Rows L2
end L3
namespace L3
open PySem PySem.Spec PyProof.Rows L2
section
variable {κ : Nat -> Addr} {B : Gd} {X : Cx} {e tg : Expr} {f : Ev -> R D} {p pos : Pos}
end
end L3
namespace L3
open PySem PySem.Spec PyProof.Rows L2
end L3
namespace L3
open PySem PySem.Spec PyProof.Rows L2
section
variable {κ : Nat -> Addr} {B : Gd} {X : Cx} {a : Expr} {fa : Ev -> R D} {pos : Pos}
end
end L3
namespace L3
open PySem
end L3
namespace L3
open PySem PySem.Spec PyProof.Rows
section
variable {prog : Program} {w : World} {A : Around} {E : Value -> Shared -> Prop} {s : Shared}
end
end L3
namespace L3
open PySem PySem.Spec PyProof.Rows
section
variable {prog : Program} {w : World} {A : Around} {E : Value -> Shared -> Prop} {s : Shared}
end
end L3
namespace L3
open PySem PySem.Spec PyProof.Rows
section
variable {prog : Program} {w : World} {A : Around} {E : Value -> Shared -> Prop} {s : Shared}
end
end L3
namespace L3
open PySem PySem.Spec PyProof.Rows
section
variable {prog : Program} {w : World} {A : Around} {E : Value -> Shared -> Prop} {s : Shared}
end
end L3
namespace L3
open PySem PySem.Spec PyProof.Rows L2
theorem rA : ∀ (ks : List Int) (m : List Int), ks.Nodup -> (∀ x ∈ ks, x ∈ m) -> ks.length <= m.length
 | [], m, _, _ => Nat.zero_le _
 | k :: ks, m, h, hs => by
  obtain ⟨h1, h2⟩ := List.nodup_cons.mp h
  have := rA ks (m.erase k) h2 λ x hx => (List.mem_erase_of_ne (by rintro rfl; exact h1 hx)).mpr (hs x (List.mem_cons_of_mem _ hx))
  rw [List.length_erase_of_mem (hs k List.mem_cons_self)] at this
  have := List.length_pos_of_mem (hs k List.mem_cons_self)
  simp
  omega
section
variable {κ : Nat -> Addr} {B : Gd} {X : Cx} {a : Expr} {fa : Ev -> R D} {p pos p' pos' : Pos}
end
end L3
namespace L3
open PySem PySem.Spec PyProof.Rows L2
section
variable {κ : Nat -> Addr} {B : Gd} {X : Cx} {e : Expr} {pos pos' p1 p2 : Pos}
end
end L3
namespace L3
open PySem PySem.Spec PyProof.Rows L2
section
variable {κ : Nat -> Addr} {B : Gd} {X : Cx} {a b c : Expr} {fa fb : Ev -> R D} {pos p p' : Pos}
end
end L3
namespace L3
open PySem PySem.Spec PyProof.Rows L2
section
variable {κ : Nat -> Addr} {B : Gd} {X : Cx} {sc : Scope} {x y : Str} {px py pos spos : Pos} {iter elt : Expr} {ifs : List Expr} {fit : Ev -> R (List D)} {t : Ev -> R Bool} {f : Ev -> R D} {i j : Nat}
end
end L3
namespace L3
open PySem PySem.Spec PyProof.Rows L2
section
variable {κ : Nat -> Addr} {B : Gd} {X : Cx} {a b : Expr} {fs : Ev -> R (List D)} {tgs : List Expr} {kk : Nat} {p pos tpos : Pos}
end
end L3
namespace L3
open PySem PySem.Spec PyProof.Rows L2
section
variable {κ : Nat -> Addr} {B : Gd} {X : Cx} {e : Expr} {f : Ev -> R D} {t : Ev -> R Bool}
end
end L3
namespace L3
open PySem PySem.Spec PyProof.Rows L2
section
variable {κ : Nat -> Addr} {B : Gd} {X : Cx} {a b c : Expr} {fa fb : Ev -> R D} {pos p p' : Pos}
end
end L3
namespace L3
open PySem PySem.Spec PyProof.Rows L2
section
variable {X : Cx} {sc : Scope} {N0 xs : List Str} {cl : List (Str × Addr)} {C : Addr} {sb s4 : Shared} {Hb H4 : Hp} {pins : List (Addr × Obj)} {σ : St} {m : Str -> Option Value} {E : Value -> Shared -> Prop}
end
section
variable {κ : Nat -> Addr} {B : Gd} {X : Cx} {e a b tg : Expr} {f : Ev -> R D} {fs fit : Ev -> R (List D)} {tgs : List Expr} {kk : Nat} {p pos tpos : Pos}
end
section
variable {κ : Nat -> Addr} {B : Gd} {X : Cx} {sc : Scope} {N0 xs : List Str} {pos : Pos} {tg iter elt : Expr} {ifs : List Expr} {fit : Ev -> R (List D)} {bd : D -> Ev -> Option Ev} {t : Ev -> R Bool} {f : Ev -> R D}
end
end L3
namespace L3
open PySem PySem.Spec PyProof.Rows L2
section
variable {κ : Nat -> Addr} {B : Gd} {X : Cx} {sc : Scope} {N0 xs : List Str} {pos : Pos} {tg iter elt : Expr} {ifs : List Expr} {fit : Ev -> R (List D)} {bd : D -> Ev -> Option Ev} {t : Ev -> R Bool} {f : Ev -> R D}
end
end L3
namespace L3
open PySem PySem.Spec PyProof.Rows L2
section
variable {κ : Nat -> Addr} {B : Gd} {X : Cx} {pos pos' pos'' apos : Pos}
end
section
variable {κ : Nat -> Addr} {B : Gd} {X : Cx} {a b : Expr} {fa fb : Ev -> R D} {p pos : Pos}
end
end L3
namespace L3
open PySem PySem.Spec PyProof.Rows L2
noncomputable def wK : D -> Option dB
 | .int i => some (.inl i)
 | .str x => some (.inr ⟨x.toArray⟩)
 | _ => none
theorem yQ {Z : Zx} {G : Hp} {v : V} {d : D} {k : dB} (h : aH Z G v d) (e : wK d = some k) : v = kV k := by
 cases d <;> simp [wK] at e <;> subst e <;> unfold aH at h <;> exact h
noncomputable def C7 : List dB -> List D -> dB -> Option D
 | k :: ks, d :: ds, x => if k = x then some d else C7 ks ds x
 | _, _, _ => none
theorem ue {Z : Zx} {G : Hp} {x : dB} : ∀ {ks : List dB} {vs : List V} {ds : List D}, ks.length = vs.length -> Dens Z G vs ds -> match C7 ks ds x with
  | some d => ∃ v, iT (ks.zip vs) x = some v /\ aH Z G v d
  | none => iT (ks.zip vs) x = none
 | [], [], [], _, _ => rfl
 | k :: ks, v :: vs, d :: ds, hl, hd => by
  unfold Dens at hd
  rw [List.zip_cons_cons]
  unfold C7
  by_cases c : k = x
  ·rw [if_pos c]
   exact ⟨v, ec c, hd.1⟩
  ·rw [if_neg c]
   have ih := ue (x := x) (ks := ks) (by simpa using hl) hd.2
   rw [d9 (p := (k, v)) (r := ks.zip vs) c]
   exact ih
 | [], _ :: _, _, hl, _ => by simp at hl
 | _ :: _, [], _, hl, _ => by simp at hl
 | _, [], _ :: _, _, hd => by unfold Dens at hd; exact hd.elim
 | _, _ :: _, [], _, hd => by unfold Dens at hd; exact hd.elim
noncomputable def vq (x k : D) : R D := match x, wK k with
 | .dic ks ds, some key => match C7 ks ds key with
  | some d => .ok d
  | none => .stuck
 | _, _ => .stuck
section
variable {κ : Nat -> Addr} {B : Gd} {X : Cx} {a b e o : Expr} {fa fb fo fk : Ev -> R D} {pos p : Pos}
theorem D4 (hu : X.A.units + 64 < cLine) (ho : PX κ B X o fo) (hk : PX κ B X a fk) (hs : ∀ ov iv, subscripted a false ov iv = operate [ov, iv] (getItem ov iv)) : PX κ B X (.Subscript o a pos) (m2 vq fo fk) := λ pins σ Ex =>
 bp (zz (X := At X pins σ Ex) (show X.A.units + 1 < cLine by omega) (ho pins σ Ex) (hk pins σ Ex) hs) λ τ H Q ⟨G, δ, rp, q⟩ => ⟨G, δ, rp, q.seq λ x v H1 G1 e1 d1 q1 => ⟨G1, δ, rp.ext e1, q1.seq λ y u H2 G2 e2 d2 q2 => by
  unfold vq at q2
  split at q2
  ·rename_i ks ds key ek
   have d1' := d1.mono e2.sG
   unfold aH at d1'
   obtain ⟨l, vs, rfl, h1, h2, h3⟩ := d1'
   have h4 := ue (x := key) h2 h3
   cases c : C7 ks ds key with
   | none => rw [c] at q2; exact False.elim q2
   | some d =>
    rw [c] at q2 h4
    obtain ⟨w, e4, d4⟩ := h4
    have g := uQ.k (k := key) (e2.GH _ _ h1)
    rw [e4, <- yQ d2 ek] at g
    exact ⟨l, w, rfl, g, q2 w H2 G2 (Ext.refl e2.GH) d4⟩
  ·exact False.elim q2⟩⟩
end
noncomputable def C3 (κ : Nat -> Addr) (B : Gd) (X : Cx) (pos : Pos) (keys : List (Option Expr)) (values : List Expr) (ks : List dB) (fs : Ev -> R (List D)) : Prop := ∀ pins σ Ex, ∃ trs, C2 (At X pins σ Ex) pos keys values trs /\ keys.length = ks.length /\ keys.length = values.length /\ keys.all (·.isSome) = true ∧
 ∀ τ H Q G δ, Rep ⟨X.K, κ⟩ B X.H₀ G H τ δ -> pd (fU X κ) κ (EX X pins σ Ex) G H (fs δ) (λ vs H' => vs.length = ks.length -> Q ((ks.map kV).zip vs) H') -> qp trs τ H Q
section
variable {κ : Nat -> Addr} {B : Gd} {X : Cx} {e : Expr} {f : Ev -> R D} {fs : Ev -> R (List D)} {pos p : Pos} {keys : List (Option Expr)} {values : List Expr} {ks : List dB}
theorem zW : C3 κ B X pos [] [] [] aq := λ pins σ Ex => ⟨[], zJ, rfl, rfl, rfl, λ τ H Q G δ rp q => q [] H G (Ext.refl rp.GH) aP rfl⟩
theorem xJ {x : Str} {j} (h : PX κ B X e f) (hr : C3 κ B X pos keys values ks fs) : C3 κ B X pos (some (.Constant (.str x) j p) :: keys) (e :: values) (.inr x :: ks) (ag f fs) := λ pins σ Ex => by
 obtain ⟨trs, h1, h2, h3, h4, h5⟩ := hr pins σ Ex
 refine ⟨_, xC (X := At X pins σ Ex) xo (h pins σ Ex) h1, by simp [h2], by simp [h3], by simp [h4], λ τ H Q G δ rp q => ?_⟩
 refine ⟨G, δ, rp, ?_⟩
 unfold ag at q
 refine q.seq λ d v H1 G1 e1 d1 q1 => ?_
 refine h5 τ H1 _ G1 δ (rp.ext e1) (q1.seq λ ds vs H2 G2 e2 d2 q2 hl => ?_)
 exact q2 (v :: vs) H2 G2 (Ext.refl e2.GH) (aR (d1.mono e2.sG) d2) (by simp [hl])
noncomputable def ri (ks : List dB) (fs : Ev -> R (List D)) : Ev -> R D := λ δ => (fs δ).bind λ ds => if ds.length = ks.length then .ok (.dic ks ds) else .stuck
theorem oH : ∀ (more kvs : List (dB × V)), (more.map (·.1)).Nodup -> (∀ k ∈ more.map (·.1), iT kvs k = none) -> iI kvs more = kvs ++ more
 | [], kvs, _, _ => by simp [iI]
 | (k, v) :: r, kvs, hn, hv => by
  have hn' := List.nodup_cons.mp hn
  have h0 := hv k (by simp)
  show iI (nn kvs k v) r = _
  rw [xF v h0, oH r _ hn'.2 λ j hj => ?_]
  ·simp
  ·rw [oY k j v kvs h0]
   have hne : j ≠ k := by rintro rfl; exact hn'.1 hj
   rw [if_neg hne]
   exact hv j (by simp only [List.map_cons, List.mem_cons]; exact .inr hj)
theorem yn : ∀ (ks : List dB) (vs : List V), (ks.map kV).zip vs = (ks.zip vs).map λ kv => (kV kv.1, kv.2)
 | [], _ => rfl
 | _ :: _, [] => rfl
 | k :: ks, v :: vs => by simp [yn ks vs]
theorem zS (h : C3 κ B X pos keys values ks fs) (h0 : keys ≠ []) (h15 : keys.length <= 15) (hn : ks.Nodup) : PX κ B X (.Dict keys values pos) (ri ks fs) := λ pins σ Ex => by
 obtain ⟨trs, h1, h2, h3, h4, h5⟩ := h pins σ Ex
 refine bp (zA (X := At X pins σ Ex) h1 h4 h3 h0 h15) λ τ H Q ⟨G, δ, rp, q⟩ p hp => ?_
 have ex0 := pK (o := .dK []) rp.GH hp
 have gp : G p = none := rp.GH.free hp
 refine h5 τ _ _ G δ (rp.ext ex0) ?_
 unfold ri at q
 cases e : fs δ with
 | stuck => rw [e] at q; exact False.elim q
 | exc c => rw [e] at q; exact λ H' G' e1 => q H' G' (ex0.trans e1)
 | ok ds =>
  rw [e] at q
  simp only [R.bind_ok] at q
  intro vs H2 G2 e2 d2 hl
  have hp2 : H2 p = some (.dK []) := e2.sH _ _ aA
  have gp2 : G2 p = none := by
   cases z : G2 p with
   | none => rfl
   | some o =>
    rcases e2.new p (by rw [z]; simp) with y | y
    ·exact absurd gp y
    ·rw [aA] at y; cases y
  have hlk : ds.length = ks.length := by rw [<- d2.length]; exact hl
  rw [if_pos hlk] at q
  refine ⟨hp2, ks.zip vs, ?_, ?_, ?_⟩
  ·exact yn ks vs
  ·rw [List.length_zip]; omega
  ·have hm : iI [] (ks.zip vs) = ks.zip vs := by
    rw [oH]
    ·simp
    ·rw [List.map_fst_zip (by omega)]; exact hn
    ·intro k _; rfl
   rw [hm]
   have ee : Ext G H (cD G2 p (.dK (ks.zip vs))) (cD H2 p (.dK (ks.zip vs))) := by
    have t := ex0.trans e2
    refine ⟨λ b o z => ?_, λ b o z => ?_, λ b o z => ?_, λ b z => ?_⟩
    ·rw [ar (aC z gp)]; exact t.sG b o z
    ·rw [ar (aC z hp)]; exact t.sH b o z
    ·by_cases hb : b = p
     ·subst hb; rw [aA] at z ⊢; exact z
     ·rw [ar hb] at z ⊢; exact t.GH b o z
    ·by_cases hb : b = p
     ·subst hb; exact .inr hp
     ·rw [ar hb] at z; exact t.new b z
   refine q _ _ _ ee ?_
   unfold aH
   exact ⟨p, vs, rfl, aA, hl.symm, d2.mono λ b o z => by rw [ar (aC z gp2)]; exact z⟩
end
section
variable {κ : Nat -> Addr} {B : Gd} {X : Cx}
end
end L3
namespace L3
open PySem PySem.Spec PyProof.Rows L2
section
variable {X : Cx} {tg : Expr}
end
section
variable {κ : Nat -> Addr} {B : Gd} {X : Cx} {tg : Expr}
end
end L3
namespace L3
open PySem PySem.Spec PyProof.Rows L2
theorem xw {Y : Cx} {x : Str} {i : Nat} {tgs : List Expr} {kk : Nat} {tpos p px pos : Pos} (hg : Gl Y "enumerate") (hm : Y.mg "enumerate" = none) (hi : Y.N[i]? = some x) (vx : og Y.env.scope x) (dx : (x == ("__debug__" : Str)) = false) (cdx : (x == ("__classdict__" : Str)) = false) :
  PI Y (.Tuple tgs kk tpos) (.Call (.Name "enumerate" p) [.Name x px] [] pos) (λ σ H R => ∃ a xs, σ[i]? = some (some (.ref a)) /\ cr Y.K H a xs /\ R (Ed Y.K a) H) := by
 intro pins s σ H R I ⟨a, xs, e1, hq, q⟩
 refine Call_ (jo I hg hm boot_enumerate (PyProof.Rows.callWith_type1 (bw (fe (X := Y) (j7 (X := Y) (pos := px) hi vx dx cdx) gT rfl pos pins s σ H (λ vs H1 => vs = [.ref a] /\ H1 = H) I ⟨.ref a, e1, rfl, rfl⟩) λ us s1 ⟨vs, H1, I1, r1, q1, q2⟩ => ?_) rfl rfl))
 subst q1 q2
 cases r1 with
 | cons r rr =>
  cases rr
  cases r
  obtain ⟨its, rv, pl, hz⟩ := I1.list hq
  refine call_enumerate_list pl.isList λ h' he hi hsz hk => ?_
  refine wpAny_pyIter_enum he ?_
  have I2 : Inv Y pins σ H1 { s1 with heap := h' } := I1.kept (t' := s1.toks) hk
  refine ⟨s1.heap.objs.size + 1, [s1.heap.objs.size + 1, s1.heap.objs.size], _, _, H1, rfl, I2, oW a _ _ (Nat.succ_ne_self _), ⟨⟨_, he⟩, hi⟩, λ b hb => ?_, q⟩
  rcases List.mem_cons.mp hb with rfl | hb
  ·exact I1.fpOk (Nat.le_succ _) (I1.hok.fresh (Nat.le_succ _))
  ·have e' : b = s1.heap.objs.size := by simpa using hb
   subst e'
   exact I1.fpOk (Nat.le_refl _) (I1.hok.fresh (Nat.le_refl _))
theorem zM {κ : Nat -> Addr} {B : Gd} {X : Cx} {e : Expr} {f : Ev -> R Bool} (cx : Cxo X) (h : k7 κ B X e f) (Ex : Value -> Shared -> Prop) : PT (X.wish Ex) e (λ σ H Q => ∃ G δ b, Rep ⟨X.K, κ⟩ B X.H₀ G H σ δ /\ f δ = .ok b /\ ∀ H' G', Ext G H G' H' -> Q b H') := by
 intro pins s σ H Q I ⟨G, δ, b, rp, ef, q⟩
 refine bw (h pins σ Ex pins s σ H Q (iG I) ⟨G, δ, rp, ?_⟩) λ b' s1 ⟨H1, I1, q1⟩ => ⟨H1, cG cx.sg I1, q1⟩
 rw [ef]
 intro v H' G' e1 ev
 have : v = b := ev
 subst this
 exact q H' G' e1
theorem Rep.setNone {Z : Zx} {B : Gd} {H₀ G H : Hp} {σ : St} {δ : Ev} (r : Rep Z B H₀ G H σ δ) {i : Nat} {w : Option V} : Rep Z B H₀ G H (σ.set i w) (δ.set i none) where
 toHold := r.toHold
 len := by simpa using r.len
 sh := λ j e q => by
  rcases aQ q with ⟨_, e1, _⟩ | ⟨n, q⟩
  ·cases e1
  ·obtain ⟨u, a, b⟩ := r.sh j e q
   exact ⟨u, by rw [List.getElem?_set_ne (Ne.symm n)]; exact a, b⟩
 ow := λ j ds q => by
  rcases aQ q with ⟨_, e1, _⟩ | ⟨n, q⟩
  ·cases e1
  ·obtain ⟨a, vs, x1, x2⟩ := r.ow j ds q
   exact ⟨a, vs, by rw [List.getElem?_set_ne (Ne.symm n)]; exact x1, x2⟩
 sep := λ j k ds es a n q1 q2 s1 s2 => by
  rcases aQ q1 with ⟨_, e1, _⟩ | ⟨n1, q1⟩
  ·cases e1
  ·rcases aQ q2 with ⟨_, e1, _⟩ | ⟨n2, q2⟩
   ·cases e1
   ·rw [List.getElem?_set_ne (Ne.symm n1)] at s1
    rw [List.getElem?_set_ne (Ne.symm n2)] at s2
    exact r.sep j k ds es a n q1 q2 s1 s2
 oo := λ j c ns ds q => by
  rcases aQ q with ⟨_, e1, _⟩ | ⟨n, q⟩
  ·cases e1
  ·obtain ⟨x, dx, vs, x1, x2⟩ := r.oo j c ns ds q
   exact ⟨x, dx, vs, by rw [List.getElem?_set_ne (Ne.symm n)]; exact x1, x2⟩
 oo1 := λ j k c ns ds c' ns' ds' x n q1 q2 s1 s2 => by
  rcases aQ q1 with ⟨_, e1, _⟩ | ⟨n1, p1⟩
  ·cases e1
  ·rcases aQ q2 with ⟨_, e2, _⟩ | ⟨n2, p2⟩
   ·cases e2
   ·rw [List.getElem?_set_ne (Ne.symm n1)] at s1
    rw [List.getElem?_set_ne (Ne.symm n2)] at s2
    exact r.oo1 j k c ns ds c' ns' ds' x n p1 p2 s1 s2
noncomputable def lh (j ia ib : Nat) (δ : Ev) (n : Nat) (d : D) : Ev := ((δ.set j none).set ia (some (.sh (.int (n : Int))))).set ib (some (.sh d))
noncomputable def uq (en : Nat -> D -> Ev) (t : Ev -> R Bool) : Nat -> List D -> List (List D) -> R (List (List D))
 | _, [], gs => .ok gs
 | n, d :: ds, gs => match t (en n d) with
  | .ok true => uq en t (n + 1) ds (gs ++ [[d]])
  | .ok false => match gs.getLast? with
   | none => .stuck
   | some l => uq en t (n + 1) ds (gs.dropLast ++ [l ++ [d]])
  | _ => .stuck
noncomputable def v3 (i j ia ib : Nat) (t : Ev -> R Bool) : Ev -> SR := λ δ => match δ[i]? with
 | some (some (.sh (.lst ds))) => if ds.length <= 100000 then (match uq (lh j ia ib δ) t 0 ds [] with
  | .ok gs => .next ((match ds.getLast? with | none => δ | some d => (δ.set ia (some (.sh (.int ((ds.length - 1 : Nat) : Int))))).set ib (some (.sh d))).set j (some (.sh (.lst (gs.map D.lst)))))
  | _ => .stuck) else .stuck
 | _ => .stuck
structure GrpOk (Z : Zx) (H G' H' : Hp) (p : Addr) (gs : List (List D)) : Prop where
 fr : H p = none
 gp : G' p = none
 ex : ∃ us, H' p = some (.lst us) /\ us.length = gs.length /\ (gs = [] \/ ∃ gs0 l us0 q ws, gs = gs0 ++ [l] /\ us = us0 ++ [.ref q] /\ Dens Z G' us0 (gs0.map D.lst) /\ H' q = some (.lst ws) /\ Dens Z G' ws l /\ H q = none /\ G' q = none /\ q ≠ p)
theorem rd {G H G' H' : Hp} {p : Addr} {o : HO} (e : Ext G H G' H') (h1 : H p = some o) (h2 : G p = none) : G' p = none := by
 cases z : G' p with
 | none => rfl
 | some o' =>
  rcases e.new p (by rw [z]; simp) with y | y
  ·exact absurd h2 y
  ·rw [h1] at y; cases y
theorem GrpOk.ext {Z : Zx} {H G1 H1 G2 H2 : Hp} {p : Addr} {gs : List (List D)} (g : GrpOk Z H G1 H1 p gs) (e : Ext G1 H1 G2 H2) : GrpOk Z H G2 H2 p gs := by
 obtain ⟨us, h1, h2, h3⟩ := g.ex
 refine ⟨g.fr, rd e h1 g.gp, us, e.sH _ _ h1, h2, h3.imp id ?_⟩
 rintro ⟨gs0, l, us0, q, ws, e1, e2, d1, hq, d2, f1, f2, f3⟩
 exact ⟨gs0, l, us0, q, ws, e1, e2, d1.mono e.sG, e.sH _ _ hq, d2.mono e.sG, f1, rd e hq f2, f3⟩
theorem jy {G H G' H' : Hp} {p : Addr} {o : HO} (e : Ext G H G' H') (h1 : H p = none) (h2 : G' p = none) : Ext G H G' (cD H' p o) := by
 refine ⟨e.sG, λ b u z => ?_, λ b u z => ?_, e.new⟩
 ·rw [ar (aC z h1)]; exact e.sH b u z
 ·rw [ar (aC z h2)]; exact e.GH b u z
theorem GrpOk.push {Z : Zx} {G H G' H' : Hp} {p q' : Addr} {gs : List (List D)} {us : List V} (g : GrpOk Z H G' H' p gs) (e : Ext G H G' H') (hu : H' p = some (.lst us)) (hq' : H' q' = none) :
  ∃ G2, Ext G H G2 (cD (cD H' q' (.lst [])) p (.lst (us ++ [.ref q']))) /\ GrpOk Z H G2 (cD (cD H' q' (.lst [])) p (.lst (us ++ [.ref q']))) p (gs ++ [[]]) := by
 have np : q' ≠ p := by rintro rfl; rw [hu] at hq'; cases hq'
 have hq0 : H q' = none := e.sH.free hq'
 have gq : G' q' = none := e.GH.free hq'
 obtain ⟨us1, h1, h2, h3⟩ := g.ex
 rw [hu] at h1
 cases h1
 rcases h3 with rfl | ⟨gs0, l, us0, q, ws, rfl, rfl, d1, hq, d2, f1, f2, f3⟩
 ·have hus : us = [] := by simpa using h2
  subst hus
  refine ⟨G', jy (jy e hq0 gq) g.fr g.gp, g.fr, g.gp, _, aA, by simp, .inr ⟨[], [], [], q', [], rfl, rfl, aP, ?_, aP, hq0, gq, np⟩⟩
  rw [ar np, aA]
 ·have nq : q ≠ q' := by rintro rfl; rw [hq] at hq'; cases hq'
  have sg : br G' (cD G' q (.lst ws)) := λ b o z => by rw [ar (aC z f2)]; exact z
  have e2 : Ext G H (cD G' q (.lst ws)) H' := kE e hq f2 f1
  have gp2 : cD G' q (.lst ws) p = none := by rw [ar (Ne.symm f3)]; exact g.gp
  have gq2 : cD G' q (.lst ws) q' = none := by rw [ar (Ne.symm nq)]; exact gq
  refine ⟨cD G' q (.lst ws), jy (jy e2 hq0 gq2) g.fr gp2, g.fr, gp2, _, aA, (by simp at h2 ⊢; omega), .inr ⟨gs0 ++ [l], [], us0 ++ [.ref q], q', [], by simp, rfl, ?_, ?_, aP, hq0, gq2, np⟩⟩
  ·rw [List.map_append]
   refine (d1.mono sg).append (aR ?_ aP)
   unfold aH
   exact ⟨q, ws, rfl, cr.of aA, d2.mono sg⟩
  ·rw [ar np, aA]
theorem GrpOk.add {Z : Zx} {G H G' H' : Hp} {p : Addr} {gs0 : List (List D)} {l : List D} {v : V} {d : D} (g : GrpOk Z H G' H' p (gs0 ++ [l])) (e : Ext G H G' H') (dv : aH Z G' v d) :
  ∃ us q ws, H' p = some (.lst us) /\ us.length = gs0.length + 1 /\ us.getLast? = some (.ref q) /\ H' q = some (.lst ws) /\ ws.length = l.length /\ Ext G H G' (cD H' q (.lst (ws ++ [v]))) /\ GrpOk Z H G' (cD H' q (.lst (ws ++ [v]))) p (gs0 ++ [l ++ [d]]) := by
 obtain ⟨us, h1, h2, h3⟩ := g.ex
 rcases h3 with h3 | ⟨gs1, l1, us0, q, ws, e1, rfl, d1, hq, d2, f1, f2, f3⟩
 ·simp at h3
 ·obtain ⟨e0, e2⟩ := List.append_inj' e1 rfl
  subst e0
  have e3 : l = l1 := by simpa using e2
  subst e3
  refine ⟨_, q, ws, h1, by simpa using h2, by simp, hq, d2.length, jy e f1 f2, g.fr, g.gp, _, by rw [ar (Ne.symm f3)]; exact h1, by simpa using h2, .inr ⟨gs0, _, us0, q, _, rfl, rfl, d1, aA, d2.append (aR dv aP), f1, f2, f3⟩⟩
theorem GrpOk.den {Z : Zx} {G H G' H' : Hp} {p : Addr} {gs : List (List D)} (g : GrpOk Z H G' H' p gs) (e : Ext G H G' H') : ∃ G2, Ext G H G2 H' /\ aH Z G2 (.ref p) (.lst (gs.map D.lst)) := by
 obtain ⟨us, h1, h2, h3⟩ := g.ex
 rcases h3 with rfl | ⟨gs0, l, us0, q, ws, rfl, rfl, d1, hq, d2, f1, f2, f3⟩
 ·have hus : us = [] := by simpa using h2
  subst hus
  refine ⟨cD G' p (.lst []), kE e h1 g.gp g.fr, ?_⟩
  unfold aH
  exact ⟨p, [], rfl, cr.of aA, aP⟩
 ·have sg : br G' (cD G' q (.lst ws)) := λ b o z => by rw [ar (aC z f2)]; exact z
  have e2 : Ext G H (cD G' q (.lst ws)) H' := kE e hq f2 f1
  have gp2 : cD G' q (.lst ws) p = none := by rw [ar (Ne.symm f3)]; exact g.gp
  have sg2 : br (cD G' q (.lst ws)) (cD (cD G' q (.lst ws)) p (.lst (us0 ++ [.ref q]))) := λ b o z => by rw [ar (aC z gp2)]; exact z
  refine ⟨_, kE e2 h1 gp2 g.fr, ?_⟩
  unfold aH
  refine ⟨p, _, rfl, cr.of aA, ?_⟩
  rw [List.map_append]
  refine ((d1.mono sg).mono sg2).append (aR ?_ aP)
  unfold aH
  exact ⟨q, ws, rfl, cr.of (by rw [ar f3, aA]), (d2.mono sg).mono sg2⟩
noncomputable def lR (j ia ib : Nat) (σ : St) (p : Addr) (vs : List V) : Nat -> St
 | 0 => σ.set j (some (.ref p))
 | n + 1 => ((σ.set j (some (.ref p))).set ia (some (.int (n : Int)))).set ib (vs[n]?)
theorem wF {j ia ib n : Nat} {σ : St} {p : Addr} {vs : List V} {v : V} (hab : ia ≠ ib) (hv : vs[n]? = some v) : ((lR j ia ib σ p vs n).set ia (some (.int (n : Int)))).set ib (some v) = lR j ia ib σ p vs (n + 1) := by
 cases n with
 | zero =>
  show ((σ.set j (some (.ref p))).set ia _).set ib _ = ((σ.set j (some (.ref p))).set ia _).set ib (vs[0]?)
  rw [hv]
 | succ m =>
  show ((((σ.set j (some (.ref p))).set ia (some (.int (m : Int)))).set ib (vs[m]?)).set ia _).set ib _ = ((σ.set j (some (.ref p))).set ia _).set ib (vs[m + 1]?)
  rw [hv, List.set_comm _ _ (Ne.symm hab), List.set_set, List.set_set]
theorem wb {us : List V} {w : V} (h : us.getLast? = some w) : lF us (-1) = some w := by
 have hn : us ≠ [] := by rintro rfl; cases h
 have hl : 0 < us.length := List.length_pos_iff.mpr hn
 unfold lF AN
 rw [if_neg (by omega), if_pos (by omega)]
 show us[((-1 : Int) + us.length).toNat]? = some w
 have : ((-1 : Int) + us.length).toNat = us.length - 1 := by omega
 rw [this, <- List.getLast?_eq_getElem?]
 exact h
section
variable {κ : Nat -> Addr} {B : Gd} {X : Cx}
theorem tL {x y a b : Str} {i j ia ib kk kc : Nat} {p1 p2 p3 pa pb pt p4 p5 p6 q1 q2 q3 q4 q5 q6 r1 r2 r3 r4 r5 r6 r7 r8 r9 : Pos} {c : Expr} {t : Ev -> R Bool} {rest : List Stmt} {F : Ev -> SR} (cx : Cxo X) (hc : X.calm = true) (hND : X.N.Nodup) (hfn : ∀ y, X.fn y = true)
  (hg : Gl X "enumerate") (hm : X.mg "enumerate" = none)
  (hi : X.N[i]? = some x) (vx : og X.env.scope x) (dx : (x == ("__debug__" : Str)) = false) (cdx : (x == ("__classdict__" : Str)) = false)
  (hj : X.N[j]? = some y) (ly : nN X.env.scope y) (vy : og X.env.scope y) (dy : (y == ("__debug__" : Str)) = false) (cdy : (y == ("__classdict__" : Str)) = false)
  (ha : X.N[ia]? = some a) (la : nN X.env.scope a)
  (hb : X.N[ib]? = some b) (lb : nN X.env.scope b) (vb : og X.env.scope b) (db : (b == ("__debug__" : Str)) = false) (cdb : (b == ("__classdict__" : Str)) = false)
  (hij : i ≠ j) (hia : i ≠ ia) (hib : i ≠ ib) (hja : j ≠ ia) (hjb : j ≠ ib) (hab : ia ≠ ib) (ht : k7 κ B X c t)
  (sw1 : swapsWith (.Call (.Attribute (.Name y q1) "append" q2) [.List [] q3] [] q4) none q5.line X.env = pure false)
  (ba1 : attributeBase (.Name y q1) "append" X.env (eval (.Name y q1) X.env) = eval (.Name y q1) X.env) (li1 : (q2.endLine == q4.line) = true)
  (fw1 : ((backTo q4 (starEach [(.List [] q3 : Expr)] X.env)).all (λ x => !x.1) && (backToKw q4 (keywordEach [] X.env)).all (λ x => x.1.isSome) && decide (([(.List [] q3 : Expr)] : List Expr).length + ([] : List Keyword).length + (if ([] : List Keyword).isEmpty then 0 else 1) < 30)) = true)
  (st1 : starEach [(.List [] q3 : Expr)] X.env = (false, eval (.List [] q3) X.env) :: starEach [] X.env) (pl1 : (backTo q4 (starEach [] X.env)).any (·.1) = false)
  (sw2 : swapsWith (.Call (.Attribute (.Subscript (.Name y r1) (.UnaryOp .USub (.Constant (.int 1) kc r2) r3) r4) "append" r5) [.Name b r6] [] r7) none r8.line X.env = pure false)
  (ba2 : attributeBase (.Subscript (.Name y r1) (.UnaryOp .USub (.Constant (.int 1) kc r2) r3) r4) "append" X.env (eval (.Subscript (.Name y r1) (.UnaryOp .USub (.Constant (.int 1) kc r2) r3) r4) X.env) = eval (.Subscript (.Name y r1) (.UnaryOp .USub (.Constant (.int 1) kc r2) r3) r4) X.env) (li2 : (r5.endLine == r7.line) = true)
  (fw2 : ((backTo r7 (starEach [(.Name b r6 : Expr)] X.env)).all (λ x => !x.1) && (backToKw r7 (keywordEach [] X.env)).all (λ x => x.1.isSome) && decide (([(.Name b r6 : Expr)] : List Expr).length + ([] : List Keyword).length + (if ([] : List Keyword).isEmpty then 0 else 1) < 30)) = true)
  (st2 : starEach [(.Name b r6 : Expr)] X.env = (false, eval (.Name b r6) X.env) :: starEach [] X.env) (pl2 : (backTo r7 (starEach [] X.env)).any (·.1) = false)
  (hr : qu κ B X rest F) :
  qu κ B X (.Assign [.Name y p1] (.List [] p2) p3 :: .For (.Tuple [.Name a pa, .Name b pb] kk pt) (.Call (.Name "enumerate" p4) [.Name x p5] [] p6) [.If c [.Expr (.Call (.Attribute (.Name y q1) "append" q2) [.List [] q3] [] q4) q5] [] q6, .Expr (.Call (.Attribute (.Subscript (.Name y r1) (.UnaryOp .USub (.Constant (.int 1) kc r2) r3) r4) "append" r5) [.Name b r6] [] r7) r8] [] r9 :: rest) (av (v3 i j ia ib t) F) := λ Ex pins s σ H G δ Dn hp I rp q => by
 have hz : ∃ ds gs, δ[i]? = some (some (.sh (.lst ds))) /\ ds.length <= 100000 /\ uq (lh j ia ib δ) t 0 ds [] = .ok gs /\ bH κ B X Ex pins Dn (F ((match ds.getLast? with | none => δ | some d => (δ.set ia (some (.sh (.int ((ds.length - 1 : Nat) : Int))))).set ib (some (.sh d))).set j (some (.sh (.lst (gs.map D.lst)))))) := by
  unfold av v3 at q
  rcases h : (δ[i]? : Option (Option Sl)) with _ | _ | (d | es | ⟨c', ns', es'⟩)
  ·simp only [h] at q; exact False.elim q
  ·simp only [h] at q; exact False.elim q
  ·cases d with
   | lst ds =>
    simp only [h] at q
    by_cases h3 : ds.length <= 100000
    ·rw [if_pos h3] at q
     cases h2 : uq (lh j ia ib δ) t 0 ds [] with
     | ok gs => rw [h2] at q; exact ⟨ds, gs, rfl, h3, h2, q⟩
     | exc c' => rw [h2] at q; exact False.elim q
     | stuck => rw [h2] at q; exact False.elim q
    ·rw [if_neg h3] at q; exact False.elim q
   | _ => simp only [h] at q; exact False.elim q
  ·simp only [h] at q; exact False.elim q
  ·simp only [h] at q; exact False.elim q
 obtain ⟨ds, gsE, h1, h3, h2, q⟩ := hz
 obtain ⟨vr, e1, d1⟩ := rp.sh i _ h1
 unfold aH at d1
 obtain ⟨al, vs, rfl, sq, dn⟩ := d1
 have hlen : vs.length = ds.length := dn.length
 have s1 := BS (X := X.wish Ex) (pos := p3) (pos' := p1) hND hj ly (qa (X := X.wish Ex) (pos := p2) gT) rfl (.inl (hfn _)) (λ p σ v _ => cx.sg p _)
 have sA := uJ (X := X.wish Ex) (pos := q5) (oP (X := X.wish Ex) PySem.F.plainAttrs_list PySem.F.slot_list_append PySem.F.type_list_append jz (j7 (X := X.wish Ex) (pos := q1) hj vy dy cdy) (fe (X := X.wish Ex) (qa (X := X.wish Ex) (pos := q3) gT) gT st1) ba1 fw1 li1 st1 pl1) sw1
 have sB := uJ (X := X.wish Ex) (pos := r8) (oP (X := X.wish Ex) PySem.F.plainAttrs_list PySem.F.slot_list_append PySem.F.type_list_append jz (AX (X := X.wish Ex) (pos := r4) uu (j7 (X := X.wish Ex) (pos := r1) hj vy dy cdy) (Dz (X := X.wish Ex) (pos := r3) CF (xm (X := X.wish Ex) (i := 1) (j := kc) (pos := r2))) (λ _ _ => by rfl)) (fe (X := X.wish Ex) (j7 (X := X.wish Ex) (pos := r6) hb vb db cdb) gT st2) ba2 fw2 li2 st2 pl2) sw2
 have s2 := BR (X := X.wish Ex) (pos := r9) cx.sg hp hc (xw (Y := X.wish Ex) (tgs := [.Name a pa, .Name b pb]) (kk := kk) (tpos := pt) (p := p4) (px := p5) (pos := p6) hg hm hi vx dx cdx)
  (xr (X := X.wish Ex) (n := 2) (k := kk) (pos := pt) hc (nk (X := X.wish Ex) (l9 (X := X.wish Ex) (pos := pa) hND ha la (.inl (hfn _)) (λ p σ v _ => cx.sg p _)) (nk (X := X.wish Ex) (l9 (X := X.wish Ex) (pos := pb) hND hb lb (.inl (hfn _)) (λ p σ v _ => cx.sg p _)) uH rfl) rfl) rfl rfl)
  (xD (DB (X := X.wish Ex) (pos := q6) (zM cx ht Ex) (uK sA) zK) (uK sB)) (λ _ => rfl)
 have hlenσ : σ.length = X.N.length := I.len
 have hjl : j < σ.length := by rw [hlenσ]; exact (List.getElem?_eq_some_iff.mp hj).1
 have hal : ia < σ.length := by rw [hlenσ]; exact (List.getElem?_eq_some_iff.mp ha).1
 have hbl : ib < σ.length := by rw [hlenσ]; exact (List.getElem?_eq_some_iff.mp hb).1
 refine wpAny_execs_cons (bw (s1 pins s σ H { nx := λ σ1 H1 => ∃ p, H p = none /\ σ1 = σ.set j (some (.ref p)) /\ H1 = cD H p (.lst []), rt := λ _ _ => False } I ⟨by simp, λ p hpn => ⟨p, hpn, rfl, rfl⟩⟩) λ f s3 q3 => ?_)
 cases f with
 | next =>
  obtain ⟨σ1, H1, I1, p, hpn, rfl, rfl⟩ := q3
  have gp : G p = none := rp.GH.free hpn
  let Pv : Nat -> St -> Hp -> Prop := λ n σ' H' => ∃ G' gs, Ext G H G' H' /\ GrpOk ⟨X.K, κ⟩ H G' H' p gs /\ uq (lh j ia ib δ) t n (ds.drop n) gs = .ok gsE /\ σ' = lR j ia ib σ p vs n /\ gs.length <= n /\ ∀ l ∈ gs, l.length <= n
  have gi : ∀ n, (lR j ia ib σ p vs n)[i]? = some (some (.ref al)) := λ n => by
   cases n with
   | zero => unfold lR; rw [List.getElem?_set_ne (Ne.symm hij)]; exact e1
   | succ n => unfold lR; rw [List.getElem?_set_ne (Ne.symm hib), List.getElem?_set_ne (Ne.symm hia), List.getElem?_set_ne (Ne.symm hij)]; exact e1
  refine wpAny_execs_cons (bw (s2 pins s3 _ _ { nx := Pv vs.length, rt := λ _ _ => False } I1 ⟨al, vs, gi 0, (rp.ext (eX rp.GH hpn)).GH.seq ((eX rp.GH hpn).sG.seq sq), ?_⟩) λ f s4 q4 => ?_)
  ·refine ⟨λ n m σ' H' => m = vs.length - n /\ n <= vs.length /\ Pv n σ' H', ⟨_, rfl, Nat.zero_le _, G, [], ?_, ?_, h2, rfl, Nat.zero_le _, λ l z => by cases z⟩, ?_⟩
   ·exact jy (Ext.refl rp.GH) hpn gp
   ·exact ⟨hpn, gp, [], aA, rfl, .inl rfl⟩
   ·rintro n m σ' H' ⟨rfl, hn, G', gs, ex, gk, eg, rfl, gl, gm⟩
    have sqH : cr X.K H' al vs := ex.GH.seq (ex.sG.seq sq)
    by_cases hlt : n < vs.length
    ·have hd : n < ds.length := hlen ▸ hlt
     have hvn : vs[n]? = some vs[n] := by simp [hlt]
     refine .inr ⟨⟨vs, vs[n], sqH, hvn⟩, Pv (n + 1), λ σ' H' p' => ⟨vs.length - (n + 1), by omega, rfl, hlt, p'⟩, ?_⟩
     rintro xv H5 ⟨v, pt', hv, hpt, rfl, rfl⟩
     have hv1 := hv vs sqH
     rw [hvn] at hv1
     cases hv1
     obtain ⟨dv', hdv, dvn⟩ : ∃ d, ds[n]? = some d /\ aH ⟨X.K, κ⟩ G vs[n] d := by
      have hdn : ds[n]? = some ds[n] := by simp [hd]
      obtain ⟨v, z1, z2⟩ := dn.get hdn
      rw [hvn] at z1
      cases z1
      exact ⟨_, hdn, z2⟩
     have e5 := eX (o := .tup [.int (n : Nat), vs[n]]) (rp.ext ex).GH hpt
     refine ⟨pt', [.int (n : Nat), vs[n]], rfl, k9.of aA, rfl, .int (n : Nat), [vs[n]], rfl, vs[n], [], rfl, rfl, ?_⟩
     rw [wF hab hvn]
     have ex5 := ex.trans e5
     have gk5 := gk.ext e5
     have rp5 : Rep ⟨X.K, κ⟩ B X.H₀ (cD G' pt' (.tup [.int (n : Nat), vs[n]])) (cD H' pt' (.tup [.int (n : Nat), vs[n]])) (lR j ia ib σ p vs (n + 1)) (lh j ia ib δ n dv') := by
      have := ((((rp.ext ex5).setNone (i := j) (w := some (.ref p))).setSh (i := ia) (v := .int (n : Nat)) (d := .int (n : Nat)) (by unfold aH; rfl)).setSh (i := ib) (dvn.mono ex5.sG))
      unfold lh
      show Rep _ _ _ _ _ (((σ.set j (some (.ref p))).set ia _).set ib (vs[n]?)) _
      rw [hvn]
      exact this
     rw [List.drop_eq_getElem_cons hd] at eg
     have hdv2 : ds[n] = dv' := by
      have : ds[n]? = some ds[n] := by simp [hd]
      rw [this] at hdv; exact Option.some.inj hdv
     rw [hdv2] at eg
     unfold uq at eg
     have gj : (lR j ia ib σ p vs (n + 1))[j]? = some (some (.ref p)) := by
      unfold lR
      rw [List.getElem?_set_ne (Ne.symm hjb), List.getElem?_set_ne (Ne.symm hja)]
      exact List.getElem?_set_self hjl
     have gb : (lR j ia ib σ p vs (n + 1))[ib]? = some (some vs[n]) := by
      show (((σ.set j (some (.ref p))).set ia _).set ib (vs[n]?))[ib]? = _
      rw [hvn]
      exact List.getElem?_set_self (by simp [hbl])
     have last : ∀ {G7 H7 : Hp} {gs0 : List (List D)} {l : List D}, Ext G H G7 H7 -> GrpOk ⟨X.K, κ⟩ H G7 H7 p (gs0 ++ [l]) -> l.length <= n -> gs0.length <= n -> (∀ l ∈ gs0, l.length <= n) -> uq (lh j ia ib δ) t (n + 1) (ds.drop (n + 1)) (gs0 ++ [l ++ [dv']]) = .ok gsE →
       A2 (Fd (X.wish Ex).K "list" uM (DY (Ct (X.wish Ex).K) (CB j) (Ff (rU λ i => .int (-i)) (tC (.int 1)))) (A1 (CB ib) DX)) { nx := Pv (n + 1), ct := Pv (n + 1), bk := Pv vs.length, rt := λ _ _ => False } (lR j ia ib σ p vs (n + 1)) H7 := λ {G7 H7 gs0 l} e7 g7 hl hg7 hm7 eq7 => by
      obtain ⟨us, q', ws, hp7, hu7, la7, hq7, hw7, ext7, grp7⟩ := g7.add e7 (dvn.mono e7.sG)
      refine ⟨.ref p, gj, (1 : Int), rfl, p, us, -1, .ref q', rfl, rfl, cr.of hp7, wb la7, .inl ⟨rfl, ws, cr.of hq7⟩, vs[n], gb, q', ws, vs[n], rfl, rfl, hq7, by rw [sizeLine_eq]; omega, G7, _, ext7, grp7, eq7, rfl, by simp; omega, λ l' z => ?_⟩
      rcases List.mem_append.mp z with z | z
      ·have := hm7 l' z; omega
      ·have : l' = l ++ [dv'] := by simpa using z
       subst this
       simp
       omega
     cases et : t (lh j ia ib δ n dv') with
     | ok bb =>
      refine ⟨_, _, bb, rp5, et, λ H6 G6 e6 => ?_⟩
      have ex6 := ex5.trans e6
      have gk6 := gk5.ext e6
      rw [et] at eg
      cases bb with
      | true =>
       have eg' : uq (lh j ia ib δ) t (n + 1) (ds.drop (n + 1)) (gs ++ [[dv']]) = .ok gsE := eg
       obtain ⟨us, u1, u2, u3⟩ := gk6.ex
       refine ⟨.ref p, gj, .inl ⟨rfl, us, cr.of u1⟩, by simp, λ q' hq' => ?_⟩
       have np : q' ≠ p := by rintro rfl; rw [u1] at hq'; cases hq'
       obtain ⟨G7, e7, g7⟩ := gk6.push ex6 u1 hq'
       exact ⟨p, us, .ref q', rfl, rfl, by rw [ar (Ne.symm np)]; exact u1, by rw [sizeLine_eq]; omega, last e7 g7 (Nat.zero_le _) gl gm eg'⟩
      | false =>
       cases el : gs.getLast? with
       | none =>
        have : (R.stuck : R (List (List D))) = .ok gsE := by simpa [el] using eg
        cases this
       | some l =>
        have eg' : uq (lh j ia ib δ) t (n + 1) (ds.drop (n + 1)) (gs.dropLast ++ [l ++ [dv']]) = .ok gsE := by simpa [el] using eg
        have hne : gs ≠ [] := by rintro rfl; cases el
        have hgs : gs.dropLast ++ [l] = gs := by
         have := List.dropLast_concat_getLast hne
         rw [List.getLast?_eq_some_getLast hne] at el
         cases el
         exact this
        rw [<- hgs] at gk6 gl gm
        refine last ex6 gk6 (gm l (by simp)) (by simp at gl ⊢; omega) (λ l' z => gm l' (List.mem_append_left _ z)) eg'
     | exc c' => rw [et] at eg; cases eg
     | stuck => rw [et] at eg; cases eg
    ·have e : n = vs.length := by omega
     subst e
     exact .inl ⟨⟨vs, sqH, Nat.le_refl _⟩, G', gs, ex, gk, eg, rfl, gl, gm⟩
  ·cases f with
   | next =>
    obtain ⟨σ4, H4, I4, G', gs, ex, gk, eg, rfl, _⟩ := q4
    rw [hlen, List.drop_length] at eg
    unfold uq at eg
    cases eg
    obtain ⟨G2, ex2, d2⟩ := gk.den ex
    have r1 := rp.ext ex2
    refine hr Ex pins s4 _ _ G2 _ Dn hp I4 ?_ q
    rw [hlen]
    cases hds : ds.getLast? with
    | none =>
     have : ds = [] := List.getLast?_eq_none_iff.mp hds
     subst this
     exact r1.setSh d2
    | some d =>
     obtain ⟨m, hm⟩ : ∃ m, ds.length = m + 1 := by
      have hne : ds ≠ [] := by rintro rfl; cases hds
      have := List.length_pos_iff.mpr hne
      exact ⟨ds.length - 1, by omega⟩
     rw [hm]
     have hgl : ds[m]? = some d := by rw [List.getLast?_eq_getElem?, hm] at hds; exact hds
     obtain ⟨v, hv, dv⟩ := dn.get hgl
     have r3 := (((r1.setSh (i := ia) (v := .int (m : Nat)) (d := .int (m : Nat)) (by unfold aH; rfl)).setSh (i := ib) (dv.mono ex2.sG)).setSh (i := j) d2)
     have : lR j ia ib σ p vs (m + 1) = ((σ.set ia (some (.int (m : Nat)))).set ib (some v)).set j (some (.ref p)) := by
      show ((σ.set j (some (.ref p))).set ia _).set ib (vs[m]?) = _
      rw [hv, List.set_comm _ _ hja, List.set_comm _ _ hjb]
     rw [this]
     exact r3
   | brk => obtain ⟨_, _, _, z⟩ := q4; exact z.elim
   | cont => obtain ⟨_, _, _, z⟩ := q4; exact z.elim
   | ret u => obtain ⟨_, _, _, _, _, z⟩ := q4; exact z.elim
 | brk => obtain ⟨_, _, _, z⟩ := q3; exact z.elim
 | cont => obtain ⟨_, _, _, z⟩ := q3; exact z.elim
 | ret u => obtain ⟨_, _, _, _, _, z⟩ := q3; exact z.elim
end
end L3
namespace L3
open PySem PySem.Spec PyProof.Rows L2
structure QX (κ : Nat -> Addr) (B : Gd) (X : Cx) (e : Expr) (f : Ev -> R D) : Prop where
 h : PX κ B X e f
structure QXr (κ : Nat -> Addr) (B : Gd) (X : Cx) (e : Expr) (f : Ev -> R D) : Prop where
 h : cJ κ B X e f
structure QXs (κ : Nat -> Addr) (B : Gd) (X : Cx) (e : List Expr) (f : Ev -> R (List D)) : Prop where
 h : mn κ B X e f
structure QXf (κ : Nat -> Addr) (B : Gd) (X : Cx) (e : Expr) (f : Ev -> R (List D)) : Prop where
 h : AF κ B X e f
structure QXt (κ : Nat -> Addr) (B : Gd) (X : Cx) (e : Expr) (f : Ev -> R Bool) : Prop where
 h : k7 κ B X e f
structure QXw (κ : Nat -> Addr) (B : Gd) (X : Cx) (e : Expr) (f : Ev -> R Bool) : Prop where
 h : yF κ B X e f
structure QIz (κ : Nat -> Addr) (B : Gd) (X : Cx) (tg e : Expr) (f : Ev -> R (List D)) : Prop where
 h : yE κ B X tg e f
structure QIg (κ : Nat -> Addr) (B : Gd) (X : Cx) (tg e : Expr) (f : Ev -> R (List D)) : Prop where
 h : Ef κ B X tg e f
structure QGz (κ : Nat -> Addr) (B : Gd) (X : Cx) (tg : Expr) (b : D -> Ev -> Option Ev) : Prop where
 h : v5 κ B X tg b
structure QGzs (κ : Nat -> Addr) (B : Gd) (X : Cx) (tg : List Expr) (b : List D -> Ev -> Option Ev) : Prop where
 h : qy κ B X tg b
structure QZ (κ : Nat -> Addr) (B : Gd) (X : Cx) (st : Stmt) (F : Ev -> SR) : Prop where
 h : PZ κ B X st F
structure QZs (κ : Nat -> Addr) (B : Gd) (X : Cx) (st : List Stmt) (F : Ev -> SR) : Prop where
 h : qu κ B X st F
structure QXo (κ : Nat -> Addr) (B : Gd) (X : Cx) (e : Option Expr) (f : Ev -> R (Option Int)) : Prop where
 h : C4 κ B X e f
section
variable {κ : Nat -> Addr} {B : Gd} {X : Cx} {a b c e k tg : Expr} {es tgs rest : List Expr} {f fa fb fc fk : Ev -> R D} {ta tb : Ev -> R Bool} {fs fl : Ev -> R (List D)} {pos pos' pos'' apos p p' : Pos} {x : Str} {m : List D -> R D} {n i : Nat}
theorem QX.read (h : QX κ B X e f) : QXr κ B X e f := ⟨h.h.read⟩
theorem QXw.t (h : QXw κ B X e ta) : QXt κ B X e ta := ⟨h.h.t⟩
theorem QXf.px (h : QXf κ B X e fl) : QX κ B X e (mL fl) := ⟨h.h.px⟩
theorem aa {i : Int} {j pos} : QX κ B X (.Constant (.int i) j pos) (mC (.int i)) := ⟨xH ⟩
theorem tM {i : Bool} {j pos} : QX κ B X (.Constant (.bool i) j pos) (mC (.bl i)) := ⟨AY ⟩
theorem bK {x : Str} {l : List Nat} {j pos} (h : x = ⟨l.toArray⟩) : QX κ B X (.Constant (.str x) j pos) (mC (.str l)) := ⟨xI h⟩
theorem iK (i : Nat) {x : Str} (hN : X.N[i]? = some x) (hv : og X.env.scope x) (hd : (x == ("__debug__" : Str)) = false) (hcd : (x == ("__classdict__" : Str)) = false) : QX κ B X (.Name x pos) (ae i) := ⟨B7 i hN hv hd hcd⟩
theorem xZ (i : Nat) {x : Str} (hN : X.N[i]? = some x) (hv : og X.env.scope x) (hd : (x == ("__debug__" : Str)) = false) (hcd : (x == ("__classdict__" : Str)) = false) : QXr κ B X (.Name x pos) (oE i) := ⟨zV i hN hv hd hcd⟩
theorem bP {x : Str} {v : V} {u : Value} {d : D} (hg : Gl X x) (hm : X.mg x = some u) (r : aM v u) (hd : ∀ G, aH ⟨X.K, κ⟩ G v d) (hdb : (x == ("__debug__" : Str)) = false) : QX κ B X (.Name x pos) (mC d) := ⟨zT hg hm r hd hdb⟩
theorem cn (ha : QXr κ B X a fa) (hb : QXr κ B X b fb) : QX κ B X (.BinOp a .Sub b pos) (m2 fN fa fb) := ⟨B5 ha.h hb.h⟩
theorem dA (ha : QXr κ B X a fa) (hb : QXr κ B X b fb) : QX κ B X (.BinOp a .Mult b pos) (m2 iR fa fb) := ⟨zU ha.h hb.h⟩
theorem bJ (ha : QXr κ B X a fa) (hb : QXr κ B X b fb) : QX κ B X (.BinOp a .FloorDiv b pos) (m2 fM fa fb) := ⟨B0 ha.h hb.h⟩
theorem aE (ha : QXr κ B X a fa) (hb : QXr κ B X b fb) : QX κ B X (.BinOp a .Mod b pos) (m2 ba fa fb) := ⟨B3 ha.h hb.h⟩
theorem aL (ha : QXr κ B X a fa) (hb : QXr κ B X b fb) : QX κ B X (.BinOp a .Add b pos) (m2 bz fa fb) := ⟨BX ha.h hb.h⟩
theorem Cn (ha : QXr κ B X a fa) (hb : QXr κ B X b fb) (hm : behindInMarks .Lt b = false) : QX κ B X (.Compare a [.Lt] [b] pos) (m2 (d6 sv) fa fb) := ⟨DI ha.h hb.h hm⟩
theorem xW (ha : QXr κ B X a fa) (hb : QXr κ B X b fb) (hm : behindInMarks .LtE b = false) : QX κ B X (.Compare a [.LtE] [b] pos) (m2 (d6 yx) fa fb) := ⟨DH ha.h hb.h hm⟩
theorem kL (ha : QXr κ B X a fa) (hb : QXr κ B X b fb) (hm : behindInMarks .Lt b = false) : QXt κ B X (.Compare a [.Lt] [b] pos) (bI sv fa fb) := ⟨Cd ha.h hb.h hm⟩
theorem Ah (ha : QXr κ B X a fa) (hb : QXr κ B X b fb) (hm : behindInMarks .LtE b = false) : QXt κ B X (.Compare a [.LtE] [b] pos) (bI yx fa fb) := ⟨Cc ha.h hb.h hm⟩
theorem kK (ha : QXr κ B X a fa) (hb : QXr κ B X b fb) (hm : behindInMarks .Gt b = false) : QXt κ B X (.Compare a [.Gt] [b] pos) (bI yw fa fb) := ⟨Ca ha.h hb.h hm⟩
theorem Ag (ha : QXr κ B X a fa) (hb : QXr κ B X b fb) (hm : behindInMarks .GtE b = false) : QXt κ B X (.Compare a [.GtE] [b] pos) (bI CV fa fb) := ⟨B9 ha.h hb.h hm⟩
theorem nv (ha : QXt κ B X a ta) : QXt κ B X (.UnaryOp .Not a pos) (sX ta) := ⟨zZ ha.h⟩
theorem lA (ha : QXt κ B X a ta) : QXw κ B X (.BoolOp .And [a] pos) ta := ⟨xN ha.h⟩
theorem kM (ha : QXt κ B X a ta) : QXw κ B X (.BoolOp .Or [a] pos) ta := ⟨z9 ha.h⟩
theorem ny (ha : QXt κ B X a ta) (hb : QXw κ B X (.BoolOp .And (b :: rest) pos) tb) : QXw κ B X (.BoolOp .And (a :: b :: rest) pos) (rh ta tb) := ⟨z8 ha.h hb.h⟩
theorem me (ha : QXt κ B X a ta) (hb : QXw κ B X (.BoolOp .Or (b :: rest) pos) tb) : QXw κ B X (.BoolOp .Or (a :: b :: rest) pos) (uw ta tb) := ⟨Cf ha.h hb.h⟩
theorem jB {op} (h : QX κ B X a fa) : QX κ B X (.BoolOp op [a] pos) fa := ⟨B4 h.h⟩
theorem ma (ha : QX κ B X a fa) (hb : QX κ B X (.BoolOp .And (b :: rest) pos) fb) : QX κ B X (.BoolOp .And (a :: b :: rest) pos) (mZ fa fb) := ⟨BY ha.h hb.h⟩
theorem xY (ha : QX κ B X a fa) (hb : QX κ B X (.BoolOp .Or (b :: rest) pos) fb) : QX κ B X (.BoolOp .Or (a :: b :: rest) pos) (wQ fa fb) := ⟨DK ha.h hb.h⟩
theorem xU (hc : QXt κ B X c ta) (ha : QX κ B X a fa) (hb : QX κ B X b fb) : QX κ B X (.IfExp c a b pos) (Bz ta fa fb) := ⟨DE hc.h ha.h hb.h⟩
theorem ak : QXs κ B X [] aq := ⟨qd ⟩
theorem kI {k : Nat} (h : QXs κ B X es fs) : QX κ B X (.Tuple es k pos) (m3 fs) := ⟨B6 h.h⟩
theorem bG (h : QXs κ B X es fs) : QX κ B X (.List es pos) (cC fs) := ⟨B2 h.h⟩
theorem az : QZs κ B X [] SR.next := ⟨Ad ⟩
theorem af {st : Stmt} {rest : List Stmt} {F1 F2 : Ev -> SR} (h1 : QZ κ B X st F1) (h2 : QZs κ B X rest F2) : QZs κ B X (st :: rest) (av F1 F2) := ⟨xQ h1.h h2.h⟩
theorem ai {st : Stmt} {F : Ev -> SR} (h1 : QZ κ B X st F) : QZs κ B X [st] F := ⟨Ae h1.h⟩
theorem kN (i : Nat) {sts : List Stmt} {F : Ev -> SR} (h : QZs κ B X sts F) : QZs κ B X sts (λ δ => F (mO i δ)) := ⟨Ac i h.h⟩
theorem ax (cx : Cxo X) (h : QX κ B X e f) : QZ κ B X (.Return (some e) pos) (bq f) := ⟨Ck cx h.h⟩
theorem aO (cx : Cxo X) {t : Ev -> R Bool} {s1 s2 : List Stmt} {F1 F2 : Ev -> SR} (hc : QXt κ B X c t) (h1 : QZs κ B X s1 F1) (h2 : QZs κ B X s2 F2) : QZ κ B X (.If c s1 s2 pos) (eJ t F1 F2) := ⟨DL cx hc.h h1.h h2.h⟩
theorem uL (cx : Cxo X) {i : Nat} {x : Str} {op : Operator} {g : Int -> Int -> Int} (ho : ∀ Y : Cx, Eg Y op (Ei g)) (hN : X.N.Nodup) (hi : X.N[i]? = some x) (hx : nN X.env.scope x) (hf : X.fn x = true \/ X.env.scope.names.lookup x = some .local) (h : QX κ B X e f) : QZ κ B X (.AugAssign (.Name x pos') op e pos) (kT i g f) := ⟨Ch cx ho hN hi hx hf h.h⟩
theorem vM (cx : Cxo X) {i : Nat} {x : Str} (hN : X.N.Nodup) (hi : X.N[i]? = some x) (hx : nN X.env.scope x) (hf : X.fn x = true \/ X.env.scope.names.lookup x = some .local) : QGz κ B X (.Name x pos) (bN i) := ⟨xt cx hN hi hx hf⟩
theorem lx : QGzs κ B X [] om := ⟨xu ⟩
theorem jq (h : QX κ B X e f) : QIz κ B X tg e (λ δ => (f δ).bind bY) := ⟨zF h.h⟩
theorem lB (cx : Cxo X) (N : Nat) {c : Expr} {body : List Stmt} {t : Ev -> R Bool} {F : Ev -> SR} (hc : QXt κ B X c t) (hb : QZs κ B X body F) : QZ κ B X (.While c body [] pos) (b7 t F N) := ⟨xP cx N hc.h hb.h⟩
theorem kJ (h : QXs κ B X es fs) : QXf κ B X (.List es pos) (λ δ => lim (fs δ)) := ⟨zX h.h⟩
theorem jr (hu : X.A.units + 64 < cLine) (ha : QXr κ B X a fa) (hb : QXr κ B X b fb) (hm : behindInMarks .Eq b = false) : QX κ B X (.Compare a [.Eq] [b] pos) (m2 (d6 cE) fa fb) := ⟨DD hu ha.h hb.h hm⟩
theorem xX (hu : X.A.units + 64 < cLine) (ha : QXr κ B X a fa) (hb : QXr κ B X b fb) (hm : behindInMarks .NotEq b = false) : QX κ B X (.Compare a [.NotEq] [b] pos) (m2 (d6 nW) fa fb) := ⟨DJ hu ha.h hb.h hm⟩
theorem bj (hu : X.A.units + 64 < cLine) (ha : QXr κ B X a fa) (hb : QXr κ B X b fb) (hm : behindInMarks .Eq b = false) : QXt κ B X (.Compare a [.Eq] [b] pos) (bI cE fa fb) := ⟨B8 hu ha.h hb.h hm⟩
theorem Ai (hu : X.A.units + 64 < cLine) (ha : QXr κ B X a fa) (hb : QXr κ B X b fb) (hm : behindInMarks .NotEq b = false) : QXt κ B X (.Compare a [.NotEq] [b] pos) (bI nW fa fb) := ⟨Ce hu ha.h hb.h hm⟩
theorem ac (ha : QX κ B X a fa) (hr : QXs κ B X es fs) (h : aB a = true) : QXs κ B X (a :: es) (ag fa fs) := ⟨uP ha.h hr.h h⟩
theorem ay (c : Cxo X) (C : Cal κ X x n m) (hn : (a :: es).length = n) (hg : Gl X x) (ha : QXs κ B X (a :: es) fs) (hdb : (x == ("__debug__" : Str)) = false := by decide) (h : (a :: es).all aB = true := by rfl) (hlen : ∀ δ ds, fs δ = .ok ds -> ds.length = n := by repeat (first | exact wT | refine vo ?_)) : QX κ B X (.Call (.Name x p) (a :: es) [] pos) (aF m fs) := ⟨CG c C hn hg ha.h hdb h hlen⟩
theorem Cr (cx : Cxo X) (hN : X.N.Nodup) (hi : X.N[i]? = some x) (hx : nN X.env.scope x) (hf : X.fn x = true \/ X.env.scope.names.lookup x = some .local) (h : QX κ B X e f) (hs : eH e = true) : QZ κ B X (.Assign [.Name x pos'] e pos) (aV i f) := ⟨D9 cx hN hi hx hf h.h hs⟩
theorem Cq (cx : Cxo X) (hN : X.N.Nodup) (hi : X.N[i]? = some x) (hx : nN X.env.scope x) (hf : X.fn x = true \/ X.env.scope.names.lookup x = some .local) (h : QXf κ B X e fl) (hs : eH e = true) : QZ κ B X (.Assign [.Name x pos'] e pos) (oa i fl) := ⟨D8 cx hN hi hx hf h.h hs⟩
theorem Aj (cx : Cxo X) (h : QX κ B X e f) (hs : eH e = true) : QZ κ B X (.Expr e pos) (ss f) := ⟨CI cx h.h hs⟩
theorem vO (cx : Cxo X) (hN : X.N[i]? = some x) (hv : og X.env.scope x) (hd : (x == ("__debug__" : Str)) = false) (hcd : (x == ("__classdict__" : Str)) = false) (h : QX κ B X e f) (hs : aB e = true) (hline : (apos.endLine == pos'.line) = true) : QZ κ B X (.Expr (.Call (.Attribute (.Name x pos) "append" apos) [e] [] pos') pos'') (nJ i f) := ⟨yj cx hN hv hd hcd h.h hs hline⟩
theorem x9 (cx : Cxo X) {bd : D -> Ev -> Option Ev} (h : QX κ B X e f) (hg : QGz κ B X tg bd) (hs : eH e = true) (ht : wX e = true) (h1 : aB tg = true) : QZ κ B X (.Assign [tg] e pos) (v2 bd f) := ⟨D3 cx h.h hg.h hs ht h1⟩
theorem tN {kk : Nat} {bs : List D -> Ev -> Option Ev} (hc : X.calm = true) (h : QGzs κ B X tgs bs) (hn : tgs.length = n) (hst : tgs.all aB = true) : QGz κ B X (.Tuple tgs kk pos) (qD n bs) := ⟨Eb hc h.h hn hst⟩
theorem fZ {bd : D -> Ev -> Option Ev} {bs : List D -> Ev -> Option Ev} (h1 : QGz κ B X tg bd) (h2 : QGzs κ B X tgs bs) (h : aB tg = true) : QGzs κ B X (tg :: tgs) (dr bd bs) := ⟨CH h1.h h2.h h⟩
theorem d7 (ha : QXr κ B X a fa) (h : ET a = true) : QXt κ B X a (mT fa) := ⟨CM ha.h h⟩
theorem bW (ha : QXr κ B X a fa) (hb : QXr κ B X b fb) (h : yy b = true) : QX κ B X (.Subscript a b pos) (m2 bV fa fb) := ⟨E9 ha.h hb.h h⟩
theorem dP (hg : Gl X "len") (hm : X.mg "len" = none) (ha : QXr κ B X a fa) (h : aB a = true) : QX κ B X (.Call (.Name "len" p) [a] [] pos) (m1 b9 fa) := ⟨D6 hg hm ha.h h⟩
theorem vP (T : Ty) {y : Str} (hy : y = Str.ofString T.nm) (hg : Gl X "isinstance") (hm : X.mg "isinstance" = none) (hgT : Gl X y) (hmT : X.mg y = none) (hn : y ≠ "__name__") (hdb : (y == ("__debug__" : Str)) = false) (ha : QXr κ B X a fa) (h : aB a = true) : QX κ B X (.Call (.Name "isinstance" p) [a, .Name y p'] [] pos) (m1 (λ x => CQ (rc x T)) fa) := ⟨yk T hy hg hm hgT hmT hn hdb ha.h h⟩
theorem tP (hg : Gl X "range") (hm : X.mg "range" = none) (ha : QXs κ B X [a] fs) (h : aB a = true) : QIz κ B X tg (.Call (.Name "range" p) [a] [] pos) (λ δ => (fs δ).bind yr) := ⟨v0 hg hm ha.h h⟩
theorem tQ (hg : Gl X "range") (hm : X.mg "range" = none) (ha : QXs κ B X [a, b] fs) (h : aB a = true) (h' : aB b = true) : QIz κ B X tg (.Call (.Name "range" p) [a, b] [] pos) (λ δ => (fs δ).bind su) := ⟨v1 hg hm ha.h h h'⟩
theorem js (cx : Cxo X) (hc : X.calm = true) {iter : Expr} {body : List Stmt} {fit : Ev -> R (List D)} {bd : D -> Ev -> Option Ev} {F : Ev -> SR} (hi : QIz κ B X tg iter fit) (hg : ∀ B, QGz κ B X tg bd) (hb : ∀ B, QZs κ B X body F) (h : yy iter = true) : QZ κ B X (.For tg iter body [] pos) (gU fit bd F) := ⟨D5 cx hc hi.h (λ z => (hg z).h) (λ z => (hb z).h) h⟩
theorem iL {ds : List D} (hh : dw es = some ds) : QXs κ B X es (λ _ => .ok ds) := ⟨o3 hh⟩
theorem rP {x y a b : Str} {i j ia ib kk kc : Nat} {p1 p2 p3 pa pb pt p4 p5 p6 q1 q2 q3 q4 q5 q6 r1 r2 r3 r4 r5 r6 r7 r8 r9 : Pos} {c : Expr} {t : Ev -> R Bool} {rest : List Stmt} {F : Ev -> SR} (cx : Cxo X) (hc : X.calm = true) (hND : X.N.Nodup) (hfn : ∀ y, X.fn y = true)
  (hg : Gl X "enumerate") (hm : X.mg "enumerate" = none)
  (hi : X.N[i]? = some x) (vx : og X.env.scope x) (dx : (x == ("__debug__" : Str)) = false) (cdx : (x == ("__classdict__" : Str)) = false)
  (hj : X.N[j]? = some y) (ly : nN X.env.scope y) (vy : og X.env.scope y) (dy : (y == ("__debug__" : Str)) = false) (cdy : (y == ("__classdict__" : Str)) = false)
  (ha : X.N[ia]? = some a) (la : nN X.env.scope a)
  (hb : X.N[ib]? = some b) (lb : nN X.env.scope b) (vb : og X.env.scope b) (db : (b == ("__debug__" : Str)) = false) (cdb : (b == ("__classdict__" : Str)) = false)
  (hij : i ≠ j) (hia : i ≠ ia) (hib : i ≠ ib) (hja : j ≠ ia) (hjb : j ≠ ib) (hab : ia ≠ ib) (ht : QXt κ B X c t)
  (sw1 : swapsWith (.Call (.Attribute (.Name y q1) "append" q2) [.List [] q3] [] q4) none q5.line X.env = pure false)
  (ba1 : attributeBase (.Name y q1) "append" X.env (eval (.Name y q1) X.env) = eval (.Name y q1) X.env) (li1 : (q2.endLine == q4.line) = true)
  (fw1 : ((backTo q4 (starEach [(.List [] q3 : Expr)] X.env)).all (λ x => !x.1) && (backToKw q4 (keywordEach [] X.env)).all (λ x => x.1.isSome) && decide (([(.List [] q3 : Expr)] : List Expr).length + ([] : List Keyword).length + (if ([] : List Keyword).isEmpty then 0 else 1) < 30)) = true)
  (st1 : starEach [(.List [] q3 : Expr)] X.env = (false, eval (.List [] q3) X.env) :: starEach [] X.env) (pl1 : (backTo q4 (starEach [] X.env)).any (·.1) = false)
  (sw2 : swapsWith (.Call (.Attribute (.Subscript (.Name y r1) (.UnaryOp .USub (.Constant (.int 1) kc r2) r3) r4) "append" r5) [.Name b r6] [] r7) none r8.line X.env = pure false)
  (ba2 : attributeBase (.Subscript (.Name y r1) (.UnaryOp .USub (.Constant (.int 1) kc r2) r3) r4) "append" X.env (eval (.Subscript (.Name y r1) (.UnaryOp .USub (.Constant (.int 1) kc r2) r3) r4) X.env) = eval (.Subscript (.Name y r1) (.UnaryOp .USub (.Constant (.int 1) kc r2) r3) r4) X.env) (li2 : (r5.endLine == r7.line) = true)
  (fw2 : ((backTo r7 (starEach [(.Name b r6 : Expr)] X.env)).all (λ x => !x.1) && (backToKw r7 (keywordEach [] X.env)).all (λ x => x.1.isSome) && decide (([(.Name b r6 : Expr)] : List Expr).length + ([] : List Keyword).length + (if ([] : List Keyword).isEmpty then 0 else 1) < 30)) = true)
  (st2 : starEach [(.Name b r6 : Expr)] X.env = (false, eval (.Name b r6) X.env) :: starEach [] X.env) (pl2 : (backTo r7 (starEach [] X.env)).any (·.1) = false)
  (hr : QZs κ B X rest F) : QZs κ B X (.Assign [.Name y p1] (.List [] p2) p3 :: .For (.Tuple [.Name a pa, .Name b pb] kk pt) (.Call (.Name "enumerate" p4) [.Name x p5] [] p6) [.If c [.Expr (.Call (.Attribute (.Name y q1) "append" q2) [.List [] q3] [] q4) q5] [] q6, .Expr (.Call (.Attribute (.Subscript (.Name y r1) (.UnaryOp .USub (.Constant (.int 1) kc r2) r3) r4) "append" r5) [.Name b r6] [] r7) r8] [] r9 :: rest) (av (v3 i j ia ib t) F) := ⟨tL cx hc hND hfn hg hm hi vx dx cdx hj ly vy dy cdy ha la hb lb vb db cdb hij hia hib hja hjb hab ht.h sw1 ba1 li1 fw1 st1 pl1 sw2 ba2 li2 fw2 st2 pl2 hr.h⟩
theorem Co (hu : X.A.units + 64 < cLine) (ho : QX κ B X o fo) (hk : QX κ B X a fk) (hs : ∀ ov iv, subscripted a false ov iv = operate [ov, iv] (getItem ov iv)) : QX κ B X (.Subscript o a pos) (m2 vq fo fk) := ⟨D4 hu ho.h hk.h hs⟩
theorem xR (h : QX κ B X e f) : QIz κ B X tg e (λ δ => (f δ).bind pQ) := ⟨zG h.h⟩
theorem fP (hg : Gl X "str") (hm : X.mg "str" = none) (ha : QXr κ B X a fa) (h : aB a = true) : QX κ B X (.Call (.Name "str" p) [a] [] pos) (m1 dD fa) := ⟨Ea hg hm ha.h h⟩
theorem rR {o e : Expr} {fo : Ev -> R D} {fs : Ev -> R (List D)} {apos : Pos} (ho : QXr κ B X o fo) (ha : QXs κ B X [e] fs) (hs : aB e = true) (hline : (apos.endLine == pos.line) = true) (hbase : attributeBase o "zfill" X.env (eval o X.env) = eval o X.env) : QX κ B X (.Call (.Attribute o "zfill" apos) [e] [] pos) (sV fO fo fs) := ⟨AB ho.h ha.h hs hline hbase⟩
theorem Al {x : Str} {l : List Nat} {kk : Nat} {cp fp : Pos} (hx : x = ⟨l.toArray⟩) (hl : l.length <= 1000) (ha : QXr κ B X a fa) : QX κ B X (.JoinedStr [.Constant (.str x) kk cp, .FormattedValue a (-1) none fp] pos) (m1 (BB l) fa) := ⟨CK hx hl ha.h⟩
theorem vN (hg : Gl X "enumerate") (hm : X.mg "enumerate" = none) (h : QX κ B X e f) (hs : aB e = true) : QIg κ B X (.Tuple tgs kk tpos) (.Call (.Name "enumerate" p) [e] [] pos) (λ δ => (f δ).bind uk) := ⟨xA hg hm h.h hs⟩
theorem Ak (cx : Cxo X) (hc : X.calm = true) {tg iter : Expr} {body : List Stmt} {fit : Ev -> R (List D)} {bd : D -> Ev -> Option Ev} {F : Ev -> SR} (hi : QIg κ B X tg iter fit) (hg : ∀ B, QGz κ B X tg bd) (hb : ∀ B, QZs κ B X body F) (h : yy iter = true) : QZ κ B X (.For tg iter body [] pos) (gU fit bd F) := ⟨CJ cx hc hi.h (λ z => (hg z).h) (λ z => (hb z).h) h⟩
theorem Cp (hc : X.calm = true) (hg : Gl X "min") (hm : X.mg "min" = none) (ha : QXs κ B X [a, b] fs) (h : aB a = true) (h' : aB b = true) : QX κ B X (.Call (.Name "min" p) [a, b] [] pos) (AR w6 fs) := ⟨D7 hc hg hm ha.h h h'⟩
theorem rQ (hg : Gl X "int") (hm : X.mg "int" = none) (ha : QXs κ B X [a] fs) (h : aB a = true) : QX κ B X (.Call (.Name "int" p) [a] [] pos) (AR vt fs) := ⟨AA hg hm ha.h h⟩
theorem lz : QXo κ B X none sW := ⟨xL ⟩
theorem cq (h : QX κ B X a fa) : QXo κ B X (some a) (mP fa) := ⟨xM h.h⟩
theorem oV {lo hi : Option Expr} {fl fh : Ev -> R (Option Int)} {p2 : Pos} (ha : QXr κ B X a fa) (hl : QXo κ B X lo fl) (hh : QXo κ B X hi fh) : QX κ B X (.Subscript a (.Slice lo hi none p2) pos) (yt fa fl fh) := ⟨Fa ha.h hl.h hh.h⟩
theorem xV (hu : X.A.units + 64 < cLine) (ha : QXr κ B X a fa) (hb : QXr κ B X b fb) (hm : behindInMarks .In b = false) : QX κ B X (.Compare a [.In] [b] pos) (m2 (d6 m7) fa fb) := ⟨DF hu ha.h hb.h hm⟩
theorem md (hu : X.A.units + 64 < cLine) (ha : QXr κ B X a fa) (hb : QXr κ B X b fb) (hm : behindInMarks .In b = false) : QXt κ B X (.Compare a [.In] [b] pos) (bI m7 fa fb) := ⟨Cb hu ha.h hb.h hm⟩
theorem nu (hu : X.A.units + 64 < cLine) (ha : QXr κ B X a fa) (hb : QXr κ B X b fb) (hm : behindInMarks .NotIn b = false) : QXt κ B X (.Compare a [.NotIn] [b] pos) (bI j5 fa fb) := ⟨zY hu ha.h hb.h hm⟩
theorem Af (ha : QXr κ B X a fa) (hb : QXr κ B X b fb) : QX κ B X (.BinOp a .Add b pos) (m2 rC fa fb) := ⟨BZ ha.h hb.h⟩
theorem ya {o e : Expr} {fo : Ev -> R D} {fs : Ev -> R (List D)} {apos : Pos} (ho : QXr κ B X o fo) (ha : QXs κ B X [e] fs) (hs : aB e = true) (hline : (apos.endLine == pos.line) = true) (hbase : attributeBase o "count" X.env (eval o X.env) = eval o X.env) : QX κ B X (.Call (.Attribute o "count" apos) [e] [] pos) (Do ln fo fs) := ⟨Az ho.h ha.h hs hline hbase⟩
theorem Am {o e : Expr} {fo : Ev -> R D} {fs : Ev -> R (List D)} {apos : Pos} (ho : QXr κ B X o fo) (ha : QXs κ B X [e] fs) (hs : aB e = true) (hline : (apos.endLine == pos.line) = true) (hbase : attributeBase o "join" X.env (eval o X.env) = eval o X.env) : QX κ B X (.Call (.Attribute o "join" apos) [e] [] pos) (sV oJ fo fs) := ⟨CL ho.h ha.h hs hline hbase⟩
theorem bD {cpos np p : Pos} {c : Nat} (cx : Cxo X) (hc : X.calm = true) (C : jH κ X x c) (hg : Gl X x) {y : Str} {j : Nat} (hd : (x == ("__debug__" : Str)) = false) : QZ κ B X (.Raise (some (.Call (.Name x np) [.Constant (.str y) j p] [] cpos)) none pos) (λ δ => .exc c δ) := ⟨xO cx hc C hg hd⟩
end
theorem au {P : Program} {w : World} {K : PySem.W.Frag} {mg : Str -> Option Value} {base : Heap} {κ : Nat -> Addr} {x qual : Str} {st : Stmt} {f : Addr} {fd : FuncData} {N ps : List Str} {k : Nat} {F : Ev -> SR}
  (Fn : Fun K x qual st f fd) (S : FnScope N ps (aj st))
  (hb : ∀ (X : Cx) (B : Gd), Cxo X -> X.calm = true -> X.prog = P -> X.w = w -> X.K = K -> X.mg = mg -> X.base = base -> X.N = N -> X.env.scope = aj st -> (∀ y, X.fn y = true) -> Room k X.A -> FrmOk X -> QZs κ B X (aw st) F) :
  FnOk P w K mg base (sx P w) (k + 1) f fd ps (DR K κ ps.length λ ds => bL (F (am N.length ds))) := vd Fn S λ X B a1 a2 a3 a4 a5 a6 a7 a8 a9 a10 a11 a12 => (hb X B a1 a2 a3 a4 a5 a6 a7 a8 a9 a10 a11 a12).h
end L3
namespace L3
open PySem PySem.Spec PyProof.Rows L2
structure QIcz (κ : Nat -> Addr) (B : Gd) (X : Cx) (tg e : Expr) (f : Ev -> R (List D)) : Prop where
 h : uS κ B X tg e f
structure QTs (κ : Nat -> Addr) (B : Gd) (X : Cx) (e : List Expr) (f : Ev -> R Bool) : Prop where
 h : CP κ B X e f
section
variable {κ : Nat -> Addr} {B : Gd} {X : Cx} {a b c e tg iter elt : Expr} {es ifs : List Expr} {f : Ev -> R D} {t : Ev -> R Bool} {fs fl fit : Ev -> R (List D)} {pos p px : Pos} {x : Str} {m : List D -> R (List D)} {n i : Nat} {sc : Scope}
theorem oU (h : QX κ B X e f) : QIcz κ B X tg e (λ δ => (f δ).bind bY) := ⟨xz h.h⟩
theorem qe (hg : Gl X "range") (hm : X.mg "range" = none) (ha : QXs κ B X [a, b] fs) (h : aB a = true) (h' : aB b = true) : QIcz κ B X tg (.Call (.Name "range" p) [a, b] [] pos) (λ δ => (fs δ).bind su) := ⟨rK hg hm ha.h h h'⟩
theorem rO : QTs κ B X [] (λ _ => .ok true) := ⟨zN⟩
theorem xS (h : QXt κ B X c t) : QTs κ B X [c] t := ⟨zO h.h⟩
theorem nt (hc : X.calm = true) (co : CompOk X sc x) (hi : QIcz κ B X (.Name x px) iter fit) (ht : ∀ X' B', CmpIs X sc x X' -> QTs κ B' X' ifs t) (he : ∀ X' B', CmpIs X sc x X' -> QX κ B' X' elt f)
  (hs : yy iter = true) : QXf κ B X (.ListComp elt [⟨.Name x px, iter, ifs, 0⟩] sc pos) (dF fit t f) := ⟨yO hc co hi.h (λ X' B' h => (ht X' B' h).h) (λ X' B' h => (he X' B' h).h) hs⟩
end
structure QXd (κ : Nat -> Addr) (B : Gd) (X : Cx) (pos : Pos) (keys : List (Option Expr)) (values : List Expr) (ks : List dB) (fs : Ev -> R (List D)) : Prop where
 h : C3 κ B X pos keys values ks fs
section
variable {κ : Nat -> Addr} {B : Gd} {X : Cx} {a b e tg iter elt : Expr} {tgs ifs : List Expr} {f : Ev -> R D} {t : Ev -> R Bool} {fs fit : Ev -> R (List D)} {bd : D -> Ev -> Option Ev} {pos p tpos : Pos} {kk i : Nat} {sc : Scope} {N0 xs : List Str} {keys : List (Option Expr)} {values : List Expr} {ks : List dB}
theorem x8 : QXd κ B X pos [] [] [] aq := ⟨zW⟩
theorem ff {x : Str} {j} (h : QX κ B X e f) (hr : QXd κ B X pos keys values ks fs) : QXd κ B X pos (some (.Constant (.str x) j p) :: keys) (e :: values) (.inr x :: ks) (ag f fs) := ⟨xJ h.h hr.h⟩
theorem xT (h : QXd κ B X pos keys values ks fs) (h0 : keys ≠ []) (h15 : keys.length <= 15) (hn : ks.Nodup) : QX κ B X (.Dict keys values pos) (ri ks fs) := ⟨zS h.h h0 h15 hn⟩
end
section
variable {κ : Nat -> Addr} {B : Gd} {X : Cx} {a e : Expr} {es : List Expr} {fs : Ev -> R (List D)} {pos pos' p p1 p2 : Pos} {x y : Str} {n i j k : Nat}
end
section
variable {α : Type} {ρ : C5 α} {κ : Nat -> Addr} {B : Gd} {X : Cx} {e : Expr} {f : Ev -> R α} {pos : Pos}
end
structure VP (X : Cx) (i : Nat) (x : Str) : Prop where
 cx : Cxo X
 nd : X.N.Nodup
 n : X.N[i]? = some x
 l : nN X.env.scope x
 vi : og X.env.scope x
 fn : X.fn x = true
 d1 : (x == ("__debug__" : Str)) = false
 d2 : (x == ("__classdict__" : Str)) = false
section
variable {κ : Nat -> Addr} {B : Gd} {X : Cx} {e k : Expr} {f fk : Ev -> R D} {fl : Ev -> R (List D)} {pos p p' p2 ap : Pos} {x : Str} {i : Nat} {N : List Str} {sc : Scope}
theorem jZ {N P : List Str} {sc : Scope} (h1 : sc.kind = .function := by rfl) (h2 : sc.isCoroutine = false := by rfl) (h3 : sc.isGenerator = false := by rfl) (h4 : N.Nodup := by decide +kernel) (h5 : N.take P.length = P := by rfl) (h6 : ∀ x ∈ P, sc.names.lookup x = some .local \/ sc.names.lookup x = some .cell := by decide +kernel) (h7 : ∀ y ∈ sc.names, y.2 ≠ .free := by decide +kernel) : FnScope N P sc := ⟨h1, h2, h3, h4, h5, h6, h7⟩
theorem b6 {X : Cx} {x : Str} {sc : Scope} (hsc : X.env.scope = sc) (h : sc.names.lookup x = some .globalImplicit := by rfl) : Gl X x := by
 show X.env.scope.names.lookup x = _
 rw [hsc]; exact h
theorem bh (cx : Cxo X) (nd : X.N.Nodup) (fn : ∀ y, X.fn y = true) (hN : X.N = N) (hsc : X.env.scope = sc) (n : N[i]? = some x := by rfl) (lv : sc.names.lookup x = some .local := by rfl) (d1 : (x == ("__debug__" : Str)) = false := by decide) (d2 : (x == ("__classdict__" : Str)) = false := by decide) : VP X i x :=
 ⟨cx, nd, by rw [hN]; exact n, .inl (by rw [hsc]; exact lv), .inl (by rw [hsc]; exact lv), fn x, d1, d2⟩
theorem Fh (cx : Cxo X) (nd : X.N.Nodup) (fn : ∀ y, X.fn y = true) (hN : X.N = N) (hsc : X.env.scope = sc) (n : N[i]? = some x) (lv : sc.names.lookup x = some .cell) (d1 : (x == ("__debug__" : Str)) = false) (d2 : (x == ("__classdict__" : Str)) = false) : VP X i x :=
 ⟨cx, nd, by rw [hN]; exact n, .inr (by rw [hsc]; exact lv), .inr (.inl (by rw [hsc]; exact lv)), fn x, d1, d2⟩
theorem VP.v (V : VP X i x) : QX κ B X (.Name x pos) (ae i) := iK i V.n V.vi V.d1 V.d2
theorem VP.r (V : VP X i x) : QXr κ B X (.Name x pos) (oE i) := xZ i V.n V.vi V.d1 V.d2
theorem VP.s (V : VP X i x) (h : QX κ B X e f) (h2 : eH e = true) : QZ κ B X (.Assign [.Name x p'] e p) (aV i f) := Cr V.cx V.nd V.n V.l (.inl V.fn) h h2
theorem VP.w (V : VP X i x) (h : QXf κ B X e fl) (h2 : eH e = true) : QZ κ B X (.Assign [.Name x p'] e p) (oa i fl) := Cq V.cx V.nd V.n V.l (.inl V.fn) h h2
theorem VP.a (V : VP X i x) (h : QX κ B X e f) (h2 : aB e = true) (h3 : (ap.endLine == p'.line) = true) : QZ κ B X (.Expr (.Call (.Attribute (.Name x p) "append" ap) [e] [] p') p2) (nJ i f) := vO V.cx V.n V.vi V.d1 V.d2 h h2 h3
theorem VP.t (V : VP X i x) : QGz κ B X (.Name x p) (bN i) := vM V.cx V.nd V.n V.l (.inl V.fn)
theorem VP.ua (V : VP X i x) (h : QX κ B X e f) : QZ κ B X (.AugAssign (.Name x p') .Add e p) (kT i (λ i j => i + j) f) := uL V.cx (λ _ => Bo) V.nd V.n V.l (.inl V.fn) h
theorem VP.us (V : VP X i x) (h : QX κ B X e f) : QZ κ B X (.AugAssign (.Name x p') .Sub e p) (kT i (λ i j => i - j) f) := uL V.cx (λ _ => Bp) V.nd V.n V.l (.inl V.fn) h
end
noncomputable def FF (K : PySem.W.Frag) (x : Str) (st : Stmt) : Prop := ∃ (f : Addr) (oc kV dc pm cd ct : Value) (od an : Option Addr) (sl : Array (Option Value)), PySem.W.nsIn K mainGlobals x = some (some (.ref f)) ∧
 K.lookup f = some ⟨oc, od, .func (PySem.W.fnOf x x (cg st) (aw st) (aj st) .none kV dc pm an cd ct), sl⟩ /\ PySem.W.codeIn K cd x = true /\ PySem.W.keepIn K (.ref f) = true
theorem FF.mk {K : PySem.W.Frag} {x : Str} {st : Stmt} {f : Addr} {oc kV dc pm cd ct : Value} {od an : Option Addr} {sl : Array (Option Value)} (a : PySem.W.nsIn K mainGlobals x = some (some (.ref f))) (l : K.lookup f = some ⟨oc, od, .func (PySem.W.fnOf x x (cg st) (aw st) (aj st) .none kV dc pm an cd ct), sl⟩)
  (d : PySem.W.codeIn K cd x = true) (p : PySem.W.keepIn K (.ref f) = true) : FF K x st := ⟨f, oc, kV, dc, pm, cd, ct, od, an, sl, a, l, d, p⟩
theorem FF.ft {K : PySem.W.Frag} {x : Str} {st : Stmt} {h : Heap} {mg : Str -> Option Value} {ps : List Str} (F : FF K x st) (X : K.In h) (G : h.Ns mainGlobals mg)
  (hb : ∀ (kV doc pm : Value) (an : Option Addr) (cdv ct : Value) (us : List Value), us.length = ps.length -> bindArgs (PySem.W.fnOf x x (cg st) (aw st) (aj st) .none kV doc pm an cdv ct) ⟨us, []⟩ = pure (ps.zip us)) : ∃ f fd, Fun K x x st f fd /\ mg x = some (.ref f) /\ ke K fd ps [] := by
 obtain ⟨f, oc, kV, dc, pm, cd, ct, od, an, sl, a, l, d, p⟩ := F
 exact ⟨f, _, mQ l d p, PySem.W.mg_of X G a, (mQ l d p).binds hb⟩
noncomputable def FT (K : PySem.W.Frag) (mg : Str -> Option Value) (x : Str) (st : Stmt) (ps : List Str) : Prop := ∃ f fd, Fun K x x st f fd /\ mg x = some (.ref f) /\ ke K fd ps []
theorem cH {α : Type} {n : Nat} {us : List α} (h : us.length = n + 1) : ∃ a t, us = a :: t /\ t.length = n := by
 cases us with
 | nil => cases h
 | cons a t => exact ⟨a, t, rfl, Nat.succ.inj h⟩
theorem FF.ft1 {K : PySem.W.Frag} {x : Str} {st : Stmt} {h : Heap} {mg : Str -> Option Value} {p0 : Str} (F : FF K x st) (X : K.In h) (G : h.Ns mainGlobals mg)
  (hb : ∀ (kV doc pm : Value) (an : Option Addr) (cdv ct a : Value), bindArgs (PySem.W.fnOf x x (cg st) (aw st) (aj st) .none kV doc pm an cdv ct) ⟨[a], []⟩ = pure [(p0, a)]) : FT K mg x st [p0] :=
 F.ft (ps := [p0]) X G λ kV doc pm an cdv ct us hl => by
  obtain ⟨a, us1, e1, hl1⟩ := cH (n := 0) hl
  subst e1
  cases List.eq_nil_of_length_eq_zero hl1
  exact hb kV doc pm an cdv ct a
theorem FF.ft2 {K : PySem.W.Frag} {x : Str} {st : Stmt} {h : Heap} {mg : Str -> Option Value} {p0 p1 : Str} (F : FF K x st) (X : K.In h) (G : h.Ns mainGlobals mg)
  (hb : ∀ (kV doc pm : Value) (an : Option Addr) (cdv ct a b : Value), bindArgs (PySem.W.fnOf x x (cg st) (aw st) (aj st) .none kV doc pm an cdv ct) ⟨[a, b], []⟩ = pure [(p0, a), (p1, b)]) : FT K mg x st [p0, p1] :=
 F.ft (ps := [p0, p1]) X G λ kV doc pm an cdv ct us hl => by
  obtain ⟨a, us1, e1, hl1⟩ := cH (n := 1) hl
  subst e1
  obtain ⟨b, us2, e2, hl2⟩ := cH (n := 0) hl1
  subst e2
  cases List.eq_nil_of_length_eq_zero hl2
  exact hb kV doc pm an cdv ct a b
theorem FF.ft3 {K : PySem.W.Frag} {x : Str} {st : Stmt} {h : Heap} {mg : Str -> Option Value} {p0 p1 p2 : Str} (F : FF K x st) (X : K.In h) (G : h.Ns mainGlobals mg)
  (hb : ∀ (kV doc pm : Value) (an : Option Addr) (cdv ct a b c : Value), bindArgs (PySem.W.fnOf x x (cg st) (aw st) (aj st) .none kV doc pm an cdv ct) ⟨[a, b, c], []⟩ = pure [(p0, a), (p1, b), (p2, c)]) : FT K mg x st [p0, p1, p2] :=
 F.ft (ps := [p0, p1, p2]) X G λ kV doc pm an cdv ct us hl => by
  obtain ⟨a, us1, e1, hl1⟩ := cH (n := 2) hl
  subst e1
  obtain ⟨b, us2, e2, hl2⟩ := cH (n := 1) hl1
  subst e2
  obtain ⟨c, us3, e3, hl3⟩ := cH (n := 0) hl2
  subst e3
  cases List.eq_nil_of_length_eq_zero hl3
  exact hb kV doc pm an cdv ct a b c
theorem FF.ft4 {K : PySem.W.Frag} {x : Str} {st : Stmt} {h : Heap} {mg : Str -> Option Value} {p0 p1 p2 p3 : Str} (F : FF K x st) (X : K.In h) (G : h.Ns mainGlobals mg)
  (hb : ∀ (kV doc pm : Value) (an : Option Addr) (cdv ct a b c d : Value), bindArgs (PySem.W.fnOf x x (cg st) (aw st) (aj st) .none kV doc pm an cdv ct) ⟨[a, b, c, d], []⟩ = pure [(p0, a), (p1, b), (p2, c), (p3, d)]) : FT K mg x st [p0, p1, p2, p3] :=
 F.ft (ps := [p0, p1, p2, p3]) X G λ kV doc pm an cdv ct us hl => by
  obtain ⟨a, us1, e1, hl1⟩ := cH (n := 3) hl
  subst e1
  obtain ⟨b, us2, e2, hl2⟩ := cH (n := 2) hl1
  subst e2
  obtain ⟨c, us3, e3, hl3⟩ := cH (n := 1) hl2
  subst e3
  obtain ⟨d, us4, e4, hl4⟩ := cH (n := 0) hl3
  subst e4
  cases List.eq_nil_of_length_eq_zero hl4
  exact hb kV doc pm an cdv ct a b c d
end L3
namespace L3
open L2
theorem ah {F1 F2 : Ev -> SR} {δ δ' : Ev} (h : F1 δ = .next δ') : av F1 F2 δ = F2 δ' := by unfold av; rw [h]
theorem bT {F1 F2 : Ev -> SR} {δ : Ev} {d : D} (h : F1 δ = .ret d) : av F1 F2 δ = .ret d := by unfold av; rw [h]
theorem aX {t : Ev -> R Bool} {F1 F2 : Ev -> SR} {δ : Ev} (h : t δ = .ok false) : eJ t F1 F2 δ = F2 δ := by unfold eJ; rw [h]; rfl
theorem bn {t : Ev -> R Bool} {F1 F2 : Ev -> SR} {δ : Ev} (h : t δ = .ok true) : eJ t F1 F2 δ = F1 δ := by unfold eJ; rw [h]; rfl
@[simp] theorem CT (δ : Ev) : bL (.next δ) = .ok .non := rfl
@[simp] theorem wz (d : D) : bL (.ret d) = .ok d := rfl
@[simp] theorem Dh (c : Nat) (δ : Ev) : bL (.exc c δ) = .exc c := rfl
@[simp] theorem m6 (i j : Int) : bz (.int i) (.int j) = .ok (.int (i + j)) := rfl
@[simp] theorem rD (i j : Int) : fN (.int i) (.int j) = .ok (.int (i - j)) := rfl
theorem aI (i : Int) {j : Int} (h : 0 < j) : ba (.int i) (.int j) = .ok (.int (i % j)) := by simp [ba, oI, h]
theorem b4 (i : Int) {j : Int} (h : 0 < j) (h2 : j < 1073741824) : fM (.int i) (.int j) = .ok (.int (i / j)) := by simp [fM, oI, h, h2]
theorem tf {i : Int} (j : Int) (h : -18446744073709551616 < i) (h2 : i < 18446744073709551616) : iR (.int i) (.int j) = .ok (.int (i * j)) := by simp [iR, oI, h, h2]
theorem m8 (i : Int) {j : Int} (h : -18446744073709551616 < j) (h2 : j < 18446744073709551616) : iR (.int i) (.int j) = .ok (.int (i * j)) := by simp [iR, oI, h, h2]
@[simp] theorem l7 (i j : Int) : sv (.int i) (.int j) = .ok (decide (i < j)) := rfl
@[simp] theorem zk (i j : Int) : yx (.int i) (.int j) = .ok (decide (i <= j)) := rfl
@[simp] theorem pT (i j : Int) : yw (.int i) (.int j) = .ok (decide (j < i)) := rfl
@[simp] theorem zj (i j : Int) : CV (.int i) (.int j) = .ok (decide (j <= i)) := rfl
@[simp] theorem ER {op : D -> D -> R Bool} {x y : D} {b : Bool} (h : op x y = .ok b) : d6 op x y = .ok (.bl b) := by unfold d6; rw [h]; rfl
@[simp] theorem A8 (b : Bool) : CQ (.ok b) = .ok (.bl b) := rfl
@[simp] theorem wf (b : Bool) : lG (.bl b) = .ok b := rfl
@[simp] theorem yh (b : Bool) : yA (.bl b) = .ok b := rfl
@[simp] theorem Ek (i : Int) : yA (.int i) = .ok (i != 0) := rfl
@[simp] theorem El (ds : List D) : yA (.lst ds) = .ok (!ds.isEmpty) := rfl
@[simp] theorem Em (ds : List D) : yA (.tup ds) = .ok (!ds.isEmpty) := rfl
@[simp] theorem w4 (ds : List D) : b9 (.lst ds) = .ok (.int ds.length) := rfl
@[simp] theorem w5 (ds : List D) : b9 (.tup ds) = .ok (.int ds.length) := rfl
theorem fX {ds : List D} {i : Int} {d : D} (h : lF ds i = some d) : bV (.lst ds) (.int i) = .ok d := by simp [bV, h]
theorem pV {ds : List D} {i : Int} {d : D} (h : lF ds i = some d) : bV (.tup ds) (.int i) = .ok d := by simp [bV, h]
theorem cb {α : Type} {l : List α} {k : Nat} {d : α} (h : l[k]? = some d) : lF l (k : Int) = some d := yK h
section
variable (op : D -> D -> R D) (opb : D -> D -> R Bool) (o1 : D -> R D) (f g h : Ev -> R D) (fs gs : Ev -> R (List D)) (t u : Ev -> R Bool) (m : List D -> R D) (δ : Ev) (F1 F2 : Ev -> SR)
@[simp] theorem gR (d : D) : mC d δ = .ok d := rfl
@[simp] theorem bf (i : Nat) : ae i δ = (match δ[i]? with | some (some (.sh d)) => .ok d | _ => .stuck) := rfl
@[simp] theorem yY (i : Nat) : oE i δ = (match δ[i]? with | some (some (.sh d)) => .ok d | some (some (.ow ds)) => .ok (.lst ds) | _ => .stuck) := rfl
@[simp] theorem jY : m2 op f g δ = (f δ).bind λ x => (g δ).bind λ y => op x y := rfl
@[simp] theorem fV : bI opb f g δ = (f δ).bind λ x => (g δ).bind λ y => opb x y := rfl
@[simp] theorem wt : m1 o1 f δ = (f δ).bind o1 := rfl
@[simp] theorem jk : aq δ = .ok [] := rfl
@[simp] theorem fW : ag f fs δ = (f δ).bind λ x => (fs δ).bind λ xs => .ok (x :: xs) := rfl
@[simp] theorem kB : aF m fs δ = (fs δ).bind m := rfl
@[simp] theorem Df : mT f δ = (f δ).bind yA := rfl
@[simp] theorem Bf : sX t δ = (t δ).bind λ k => .ok (!k) := rfl
@[simp] theorem Bd : rh t u δ = (t δ).bind λ k => if k then u δ else .ok false := rfl
@[simp] theorem wu : uw t u δ = (t δ).bind λ k => if k then .ok true else u δ := rfl
@[simp] theorem yR : mZ f g δ = (f δ).bind λ x => (lG x).bind λ k => if k then g δ else .ok (.bl false) := rfl
@[simp] theorem Bg : wQ f g δ = (f δ).bind λ x => (lG x).bind λ k => if k then .ok (.bl true) else g δ := rfl
@[simp] theorem yW : Dp f δ = (f δ).bind λ x => (lG x).bind λ k => .ok (.bl (!k)) := rfl
@[simp] theorem AI : Bz t f g δ = (t δ).bind λ k => if k then f δ else g δ := rfl
@[simp] theorem wv : m3 fs δ = (fs δ).bind λ xs => if xs.length <= 1000000 then .ok (.tup xs) else .stuck := rfl
@[simp] theorem EC : cC fs δ = (fs δ).bind λ xs => if xs.length <= 1000000 then .ok (.lst xs) else .stuck := rfl
@[simp] theorem gS (i : Nat) : aV i f δ = bS (f δ) δ λ d => .next (δ.set i (some (.sh d))) := rfl
@[simp] theorem Dg : eJ t F1 F2 δ = bS (t δ) δ λ k => if k then F1 δ else F2 δ := rfl
@[simp] theorem jl : bq f δ = bS (f δ) δ .ret := rfl
@[simp] theorem yZ : ss f δ = bS (f δ) δ λ _ => .next δ := rfl
@[simp] theorem Bi (i : Nat) : oa i fs δ = bS (fs δ) δ λ ds => .next (δ.set i (some (.ow ds))) := rfl
@[simp] theorem Bc (i : Nat) (d : D) : bN i d δ = some (δ.set i (some (.sh d))) := rfl
@[simp] theorem Bh (bd : D -> Ev -> Option Ev) : v2 bd f δ = bS (f δ) δ λ d => match bd d δ with | some δ' => .next δ' | none => .stuck := rfl
@[simp] theorem tp (i j : Int) : d6 cE (.int i) (.int j) = .ok (.bl (i == j)) := rfl
@[simp] theorem tz (i j : Int) : d6 nW (.int i) (.int j) = .ok (.bl (!(i == j))) := rfl
@[simp] theorem tw (i j : Int) : d6 sv (.int i) (.int j) = .ok (.bl (decide (i < j))) := rfl
@[simp] theorem tu (i j : Int) : d6 yx (.int i) (.int j) = .ok (.bl (decide (i <= j))) := rfl
@[simp] theorem tt (i j : Int) : d6 yw (.int i) (.int j) = .ok (.bl (decide (j < i))) := rfl
@[simp] theorem tq (i j : Int) : d6 CV (.int i) (.int j) = .ok (.bl (decide (j <= i))) := rfl
end
theorem oD {bd : D -> Ev -> Option Ev} {F : Ev -> SR} (P : Nat -> Ev -> Prop) : ∀ (ds : List D) (n : Nat) (δ : Ev), P n δ -> (∀ k d δ, ds[k]? = some d -> P (n + k) δ -> ∃ δ1 δ2, bd d δ = some δ1 /\ (F δ1 = .next δ2 \/ F δ1 = .cont δ2) /\ P (n + k + 1) δ2) →
  ∃ δ', bx bd F ds δ = .next δ' /\ P (n + ds.length) δ'
 | [], n, δ, h0, _ => ⟨δ, rfl, h0⟩
 | d :: ds, n, δ, h0, hs => by
  obtain ⟨δ1, δ2, e1, e2, p2⟩ := hs 0 d δ rfl h0
  obtain ⟨δ', e3, p3⟩ := oD P ds (n + 1) δ2 p2 λ k d' δ'' e p => by
   have := hs (k + 1) d' δ'' (by simpa using e) (by rw [show n + (k + 1) = n + 1 + k by omega]; exact p)
   rw [show n + (k + 1) + 1 = n + 1 + k + 1 by omega] at this
   exact this
  refine ⟨δ', ?_, by rw [List.length_cons, show n + (ds.length + 1) = n + 1 + ds.length by omega]; exact p3⟩
  unfold bx
  simp only [e1]
  rcases e2 with e2 | e2 <;> simp only [e2, e3]
theorem jE {fit : Ev -> R (List D)} {bd : D -> Ev -> Option Ev} {F : Ev -> SR} {δ : Ev} {ds : List D} (P : Nat -> Ev -> Prop) (h : fit δ = .ok ds) (h0 : P 0 δ) (hs : ∀ k d δ, ds[k]? = some d -> P k δ -> ∃ δ1 δ2, bd d δ = some δ1 /\ (F δ1 = .next δ2 \/ F δ1 = .cont δ2) /\ P (k + 1) δ2) :
  ∃ δ', gU fit bd F δ = .next δ' /\ P ds.length δ' := by
 obtain ⟨δ', e, p⟩ := oD P ds 0 δ h0 λ k d δ e q => by simpa using hs k d δ e (by simpa using q)
 exact ⟨δ', by unfold gU; rw [h]; exact e, by simpa using p⟩
theorem rW {lo hi : Int} {k : Nat} {d : D} (h : (kP lo hi)[k]? = some d) : d = .int (lo + k) /\ lo + k < hi := by
 unfold kP at h
 rw [List.getElem?_map] at h
 cases q : (List.range (hi - lo).toNat)[k]? with
 | none => rw [q] at h; cases h
 | some j =>
  rw [q] at h
  have hk := (List.getElem?_eq_some_iff.mp q).1
  rw [List.length_range] at hk
  rw [List.getElem?_range hk] at q
  cases q
  cases h
  exact ⟨rfl, by omega⟩
theorem lK (lo hi : Int) : (kP lo hi).length = (hi - lo).toNat := by simp [kP]
theorem kS {t : Ev -> R Bool} {F : Ev -> SR} {n : Nat} {δ : Ev} (h : t δ = .ok false) : b7 t F (n + 1) δ = .next δ := by simp [b7, h]
theorem lM {t : Ev -> R Bool} {F : Ev -> SR} {n : Nat} {δ δ' : Ev} (h : t δ = .ok true) (h2 : F δ = .next δ') : b7 t F (n + 1) δ = b7 t F n δ' := by simp [b7, h, h2]
theorem kd {t : Ev -> R Bool} {F : Ev -> SR} (P : Nat -> Ev -> Prop) (step : ∀ k δ, P k δ -> t δ = .ok false \/ (t δ = .ok true /\ ∃ δ' k', k' < k /\ F δ = .next δ' /\ P k' δ')) : ∀ (n k : Nat) (δ : Ev), k < n -> P k δ -> ∃ δ' k', b7 t F n δ = .next δ' /\ P k' δ' /\ t δ' = .ok false
 | 0, _, _, h, _ => absurd h (Nat.not_lt_zero _)
 | n + 1, k, δ, h, p => by
  rcases step k δ p with c | ⟨c, δ', k', h1, h2, h3⟩
  ·exact ⟨δ, k, kS c, p, c⟩
  ·obtain ⟨δ2, k2, e, q⟩ := kd P step n k' δ' (by omega) h3
   exact ⟨δ2, k2, by rw [lM c h2]; exact e, q⟩
noncomputable def cell (ns : List Int) (k : Nat) : Int := ns.getD k 0
end L3
namespace L3
open PySem L2
noncomputable abbrev lC (r : List Int) : D := .lst (r.map D.int)
theorem qc (r : List Int) : plainDs (r.map D.int) = true := by
 induction r with
 | nil => rfl
 | cons a r ih => simp [plainDs, eI, ih]
theorem wN (r : List Int) : PyData.canLayAll0 (toPs (r.map D.int)) = true := by
 induction r with
 | nil => rfl
 | cons a r ih => simp [toPs, uO, PyData.canLayAll0, PyData.canLay0, ih]
theorem sO (r : List Int) : PyData.depthAll (toPs (r.map D.int)) = 0 := by
 induction r with
 | nil => rfl
 | cons a r ih => simp [toPs, uO, PyData.depthAll, PyData.depth, ih]
theorem jA (r : List Int) : qv (lC r) = true := by
 unfold qv SeqAt.shaped
 simp [lC, eI, qc, uO, PyData.canLay0, wN, PyData.depth, sO]
theorem pJ (ds : List D) : va (.lst ds) (.lst []) = ds.isEmpty := by
 unfold va
 cases ds <;> simp [uO, toPs, PyData.eqv, PyData.eqvAll]
@[simp] theorem AT (r : List Int) : cE (lC r) (.lst []) = .ok r.isEmpty := by
 unfold cE
 rw [jA, show qv (.lst []) = true from jA [], pJ]
 simp
@[simp] theorem AU (r : List Int) : nW (lC r) (.lst []) = .ok (!r.isEmpty) := by
 unfold nW
 rw [jA, show qv (.lst []) = true from jA [], pJ]
 simp
theorem pP (d : Int) (r : List Int) : pN (.int d) (lC r) = .ok (decide (d ∈ r)) := by
 have hf : (r.map D.int).all bU = true := by simp [bU]
 unfold pN
 simp only [lC, hf]
 simp only [bU, Bool.and_self, if_true]
 congr 1
 rw [Bool.eq_iff_iff, List.any_map, List.any_eq_true, decide_eq_true_eq]
 constructor
 ·rintro ⟨x, hx, e⟩
  have e' : x = d := by simpa [wx] using e
  exact e' ▸ hx
 ·intro h
  exact ⟨d, h, by simp [wx]⟩
@[simp] theorem Ej (d : Int) (r : List Int) : m7 (.int d) (lC r) = .ok (decide (d ∈ r)) := pP d r
@[simp] theorem Dq (d : Int) (r : List Int) : j5 (.int d) (lC r) = .ok (!decide (d ∈ r)) := by unfold j5; rw [pP]; rfl
section
variable (f : Ev -> R D) (fl fh : Ev -> R (Option Int)) (δ : Ev) (fs fit : Ev -> R (List D)) (t : Ev -> R Bool)
@[simp] theorem AJ : yt f fl fh δ = (f δ).bind λ x => (fl δ).bind λ l => (fh δ).bind λ u => uz x l u := rfl
@[simp] theorem De : mP f δ = (f δ).bind λ d => match d with | .int i => .ok (some i) | _ => .stuck := rfl
@[simp] theorem Be : sW δ = .ok none := rfl
@[simp] theorem yS : mL fs δ = (fs δ).bind λ ds => .ok (.lst ds) := rfl
@[simp] theorem Eh : dF fit t f δ = (fit δ).bind λ ds => if ds.length <= 1000000 then EL (fJ t f (nL δ) ds) else .stuck := rfl
@[simp] theorem mH (i : Nat) : nJ i f δ = (match δ[i]? with | some (some (.ow ds)) => bS (f δ) δ λ d => if ds.length < 1000000 then .next (δ.set i (some (.ow (ds ++ [d])))) else .stuck | _ => .stuck) := rfl
@[simp] theorem w9 (i : Int) : EQ (.int i) = .ok (.int (-i)) := rfl
@[simp] theorem sT (ds : List D) : bY (.lst ds) = .ok ds := rfl
end
theorem zi {xs ys : List D} (h : xs.length + ys.length <= 1000000) : rC (.lst xs) (.lst ys) = .ok (.lst (xs ++ ys)) := by simp [rC, h]
theorem sIx_nat {n : Nat} {d k : Nat} (h : k <= n) : HT.sIx n d (some (k : Int)) = k := by
 rw [HT.sIx_nat]
 exact Nat.min_eq_left h
theorem za {n : Nat} (h : n <= 1000000) : yr [.int (n : Int)] = .ok (kP 0 n) := by
 simp only [yr]
 exact if_pos ⟨by omega, by omega⟩
theorem Bn {i j : Int} (h1 : -1000000 <= i) (h2 : i <= 1000000) (h3 : -1000000 <= j) (h4 : j <= 1000000) : su [.int i, .int j] = .ok (kP i j) := by
 simp only [su]
 exact if_pos ⟨⟨by omega, by omega⟩, by omega, by omega⟩
theorem wA {δ : Ev} {i n : Nat} (h : ae i δ = .ok (.int (n : Int))) (hl : n <= 1000000) : (λ δ => ((ag (ae i) aq) δ).bind yr) δ = .ok (kP 0 n) := by
 have e : (ag (ae i) aq) δ = .ok [.int (n : Int)] := by
  unfold ag
  rw [h, R.bind_ok]
  rfl
 show ((ag (ae i) aq) δ).bind yr = _
 rw [e, R.bind_ok, za hl]
theorem EE {δ : Ev} {fs : Ev -> R (List D)} {i j : Int} (h : fs δ = .ok [.int i, .int j]) (h1 : -1000000 <= i) (h2 : i <= 1000000) (h3 : -1000000 <= j) (h4 : j <= 1000000) : (λ δ => (fs δ).bind su) δ = .ok (kP i j) := by
 show (fs δ).bind su = _
 rw [h, R.bind_ok, Bn h1 h2 h3 h4]
end L3
namespace L3
open PySem L2
theorem kU {α : Type} {f : α -> D} {l : List α} {i : Nat} {fit : Ev -> R (List D)} {F : Ev -> SR} {δ : Ev} (P : Nat -> Ev -> Prop) (h : fit δ = .ok (l.map f)) (h0 : P 0 δ)
  (hs : ∀ k a δ, l[k]? = some a -> P k δ -> ∃ δ2, (F (δ.set i (some (.sh (f a)))) = .next δ2 \/ F (δ.set i (some (.sh (f a)))) = .cont δ2) /\ P (k + 1) δ2) : ∃ δ', gU fit (bN i) F δ = .next δ' /\ P l.length δ' := by
 have := jE (fit := fit) (bd := bN i) (F := F) (δ := δ) (ds := l.map f) P h h0 (by
  intro k d δ1 hd p
  rw [List.getElem?_map] at hd
  cases q : l[k]? with
  | none => rw [q] at hd; cases hd
  | some a =>
   rw [q] at hd
   cases hd
   obtain ⟨δ2, h1, h2⟩ := hs k a δ1 q p
   exact ⟨_, δ2, rfl, h1, h2⟩)
 simpa using this
theorem pC {α : Type} (xs : List α) {b : Nat} (h : b <= xs.length) : eF xs none (some (b : Int)) = xs.take b := by
 unfold eF
 rw [HT.sIx_none, sIx_nat h]
 simp
theorem uZ {α : Type} (xs : List α) {a : Nat} (h : a <= xs.length) : eF xs (some (a : Int)) none = xs.drop a := by
 unfold eF
 rw [HT.sIx_none, sIx_nat h]
 rw [List.take_of_length_le (by rw [List.length_drop]; omega)]
theorem yT (δ : Ev) : cC aq δ = .ok (.lst []) := rfl
theorem yU (f : Ev -> R D) (δ : Ev) : cC (ag f aq) δ = (f δ).bind λ x => .ok (.lst [x]) := by
 unfold cC ag
 cases f δ <;> simp [aq]
theorem yV (f g : Ev -> R D) (δ : Ev) : cC (ag f (ag g aq)) δ = (f δ).bind λ x => (g δ).bind λ y => .ok (.lst [x, y]) := by
 unfold cC ag
 cases f δ <;> cases g δ <;> simp [aq]
theorem yX (f g h : Ev -> R D) (δ : Ev) : m3 (ag f (ag g (ag h aq))) δ = (f δ).bind λ x => (g δ).bind λ y => (h δ).bind λ z => .ok (.tup [x, y, z]) := by
 unfold m3 ag
 cases f δ <;> cases g δ <;> cases h δ <;> simp [aq]
noncomputable def nA (lo hi : Int) : List Int := (List.range (hi - lo).toNat).map λ k : Nat => lo + (k : Int)
theorem yc (lo hi : Int) : kP lo hi = (nA lo hi).map D.int := by
 unfold kP nA
 rw [List.map_map]
 rfl
theorem rl {lo hi d : Int} : d ∈ nA lo hi ↔ lo <= d /\ d < hi := by
 unfold nA
 rw [List.mem_map]
 constructor
 ·rintro ⟨k, hk, rfl⟩
  have := List.mem_range.mp hk
  omega
 ·rintro ⟨h1, h2⟩
  exact ⟨(d - lo).toNat, List.mem_range.mpr (by omega), by omega⟩
theorem rX (lo hi : Int) : (nA lo hi).length = (hi - lo).toNat := by simp [nA]
@[simp] theorem w8 (i j : Int) : w6 [.int i, .int j] = .ok (.int (if j < i then j else i)) := rfl
@[simp] theorem pU (k : Bool) : vt [.bl k] = .ok (.int (if k then 1 else 0)) := rfl
@[simp] theorem Dd (o : List D -> R D) (fs : Ev -> R (List D)) (δ : Ev) : AR o fs δ = (fs δ).bind o := rfl
theorem qJ {α : Type} {l : List α} {h : α -> D} {g : α -> D} {f : Ev -> R D} {fit : Ev -> R (List D)} {δ : Ev} (hf : fit δ = .ok (l.map h)) (hl : l.length <= 1000000) (he : ∀ a ∈ l, f (nL δ ++ [some (.sh (h a))]) = .ok (g a)) : dF fit (λ _ => .ok true) f δ = .ok (l.map g) := by
 have key : ∀ l : List α, (∀ a ∈ l, f (nL δ ++ [some (.sh (h a))]) = .ok (g a)) -> fJ (λ _ => .ok true) f (nL δ) (l.map h) = .ok (l.map g) := by
  intro l
  induction l with
  | nil => intro _; rfl
  | cons a l ih =>
   intro he
   rw [List.map_cons, List.map_cons, fJ, R.bind_ok, if_pos rfl, he a List.mem_cons_self, R.bind_ok, ih λ b hb => he b (List.mem_cons_of_mem _ hb)]
   rfl
 unfold dF
 rw [hf, R.bind_ok, if_pos (by rw [List.length_map]; exact hl), key l he]
 rfl
theorem qI {α : Type} {l : List α} {h : α -> D} {g : α -> D} {p : α -> Bool} {t : Ev -> R Bool} {f : Ev -> R D} {fit : Ev -> R (List D)} {δ : Ev} (hf : fit δ = .ok (l.map h)) (hl : l.length <= 1000000) (ht : ∀ a ∈ l, t (nL δ ++ [some (.sh (h a))]) = .ok (p a))
  (he : ∀ a ∈ l, p a = true -> f (nL δ ++ [some (.sh (h a))]) = .ok (g a)) : dF fit t f δ = .ok ((l.filter p).map g) := by
 have key : ∀ l : List α, (∀ a ∈ l, t (nL δ ++ [some (.sh (h a))]) = .ok (p a)) -> (∀ a ∈ l, p a = true -> f (nL δ ++ [some (.sh (h a))]) = .ok (g a)) -> fJ t f (nL δ) (l.map h) = .ok ((l.filter p).map g) := by
  intro l
  induction l with
  | nil => intro _ _; rfl
  | cons a l ih =>
   intro ht he
   have i := ih (λ b hb => ht b (List.mem_cons_of_mem _ hb)) (λ b hb => he b (List.mem_cons_of_mem _ hb))
   rw [List.map_cons, fJ, ht a List.mem_cons_self, R.bind_ok, List.filter_cons]
   cases c : p a with
   | true =>
    rw [if_pos rfl, he a List.mem_cons_self c, R.bind_ok, i]
    rfl
   | false => simpa using i
 unfold dF
 rw [hf, R.bind_ok, if_pos (by rw [List.length_map]; exact hl), key l ht he]
 rfl
theorem iJ (c : Int) {j : Int} (m : Nat) (h : 0 < m := by decide) (e : j = (m : Int) := by rfl) : ∃ k : Nat, c % j = (k : Int) /\ k < m := by
 subst e
 refine ⟨(c % m).toNat, (Int.toNat_of_nonneg (Int.emod_nonneg _ (Int.ofNat_ne_zero.mpr (Nat.ne_of_gt h)))).symm, ?_⟩
 exact (Int.toNat_lt (Int.emod_nonneg _ (Int.ofNat_ne_zero.mpr (Nat.ne_of_gt h)))).mpr (Int.emod_lt_of_pos _ (by omega))
theorem qZ {α β : Type} {f : α -> β} {l : List α} {k : Nat} {d : α} (h : k < l.length) : (l.map f)[k]? = some (f (l.getD k d)) := by
 rw [List.getElem?_map, List.getD_eq_getElem?_getD, List.getElem?_eq_getElem h]
 rfl
end L3
set_option maxHeartbeats 400000
namespace Lw
open PySem PySem.Spec PyProof.Rows L2 L3
noncomputable def aN (i : Nat) : Stmt := PySem.Challenge.pw_inkdays_k09_figures.main.body.getD i (.Pass ⟨0, 0, 0, 0⟩)
noncomputable def c_PLACES : D := .tup [D.str [60, 100, 62], D.str [60, 109, 62], D.str [60, 121, 62], D.str [60, 89, 62], D.str [60, 110, 62], D.str [60, 119, 62]]
noncomputable def c_PLAIN_SIGNS : D := .str [97, 98, 99, 100, 101, 102, 103, 104, 105, 106, 107, 108, 109, 110, 111, 112, 113, 114, 115, 116, 117, 118, 119, 120, 121, 122, 48, 49, 50, 51, 52, 53, 54, 55, 56, 57, 32, 46, 47, 45, 44]
noncomputable def c_MOST_LACKING_PARTS : D := .int 3
noncomputable def c_LONGEST_FORM : D := .int 30
noncomputable def c_LONGEST_TEXT : D := .int 20
noncomputable def c_LAST_NUMBER : D := .int 3652058
noncomputable def c_DAYS_OF_400_YEARS : D := .int 146097
noncomputable def c_COMMON_LENGTHS : D := .tup [D.int 31, D.int 28, D.int 31, D.int 30, D.int 31, D.int 30, D.int 31, D.int 31, D.int 30, D.int 31, D.int 30, D.int 31]
noncomputable def c_WEEKDAYS : D := .tup [D.str [109, 111, 110, 100, 97, 121], D.str [116, 117, 101, 115, 100, 97, 121], D.str [119, 101, 100, 110, 101, 115, 100, 97, 121], D.str [116, 104, 117, 114, 115, 100, 97, 121], D.str [102, 114, 105, 100, 97, 121], D.str [115, 97, 116, 117, 114, 100, 97, 121], D.str [115, 117, 110, 100, 97, 121]]
noncomputable def c_MONTHS : D := .tup [D.str [106, 97, 110, 117, 97, 114, 121], D.str [102, 101, 98, 114, 117, 97, 114, 121], D.str [109, 97, 114, 99, 104], D.str [97, 112, 114, 105, 108], D.str [109, 97, 121], D.str [106, 117, 110, 101], D.str [106, 117, 108, 121], D.str [97, 117, 103, 117, 115, 116], D.str [115, 101, 112, 116, 101, 109, 98, 101, 114], D.str [111, 99, 116, 111, 98, 101, 114], D.str [110, 111, 118, 101, 109, 98, 101, 114], D.str [100, 101, 99, 101, 109, 98, 101, 114]]
noncomputable def jP : Ev -> SR := bq (mZ (m2 (d6 cE) (m2 ba (ae 0) (mC (.int 4))) (mC (.int 0))) (wQ (m2 (d6 nW) (m2 ba (ae 0) (mC (.int 100))) (mC (.int 0))) (m2 (d6 cE) (m2 ba (ae 0) (mC (.int 400))) (mC (.int 0)))))
noncomputable def cL (ds : List D) : R D := bL (jP (am 1 ds))
theorem tS : FnScope ["_law_year"] ["_law_year"] (aj (aN 43)) := jZ
theorem sI {κ : Nat -> Addr} {X : Cx} {B : Gd} (cx : Cxo X) (hcalm : X.calm = true) (hN : X.N = [("_law_year" : Str)]) (hsc : X.env.scope = aj (aN 43)) (hfn : ∀ y, X.fn y = true) (hu : X.A.units + 64 < cLine)  : QZs κ B X (aw (aN 43)) jP := by
 have hnd : X.N.Nodup := by rw [hN]; decide +kernel
 have V0 : VP X 0 "_law_year" := bh cx hnd hfn hN hsc
 exact ai (ax cx (ma (jr hu ((aE ((V0.v).read) ((aa).read)).read) ((aa).read) (ao rfl)) (jB (xY (xX hu ((aE ((V0.v).read) ((aa).read)).read) ((aa).read) (ao rfl)) (jB (jr hu ((aE ((V0.v).read) ((aa).read)).read) ((aa).read) (ao rfl)))))))
noncomputable def dR : Ev -> SR := bq (m2 bV (cC (λ _ => .ok [D.int 31, D.int 28, D.int 31, D.int 30, D.int 31, D.int 30, D.int 31, D.int 31, D.int 30, D.int 31, D.int 30, D.int 31])) (m2 fN (ae 1) (mC (.int 1))))
noncomputable def i7 : Ev -> SR := av (eJ (rh (bI cE (ae 1) (mC (.int 2))) (mT (aF cL (ag (ae 0) (aq))))) (bq (mC (.int 29))) (SR.next)) dR
noncomputable def aZ (ds : List D) : R D := bL (i7 (am 2 ds))
theorem sd : FnScope ["_law_year", "_law_month_here"] ["_law_year", "_law_month_here"] (aj (aN 44)) := jZ
theorem qN {κ : Nat -> Addr} {X : Cx} {B : Gd} (cx : Cxo X) (hcalm : X.calm = true) (hN : X.N = [("_law_year" : Str), ("_law_month_here" : Str)]) (hsc : X.env.scope = aj (aN 44)) (hfn : ∀ y, X.fn y = true) (hu : X.A.units + 64 < cLine) (k_law_leap : Cal κ X "_law_leap" 1 cL) : QZs κ B X (aw (aN 44)) i7 := by
 have hnd : X.N.Nodup := by rw [hN]; decide +kernel
 have V0 : VP X 0 "_law_year" := bh cx hnd hfn hN hsc
 have V1 : VP X 1 "_law_month_here" := bh cx hnd hfn hN hsc
 have hg_law_leap : Gl X "_law_leap" := b6 hsc
 refine af (F1 := eJ (rh (bI cE (ae 1) (mC (.int 2))) (mT (aF cL (ag (ae 0) (aq))))) (bq (mC (.int 29))) (SR.next)) (F2 := dR) ?_ ?_
 ·exact aO cx ((ny (bj hu ((V1.v).read) ((aa).read) (ao rfl)) (lA (d7 ((ay cx k_law_leap rfl hg_law_leap (ac (V0.v) (ak) rfl)).read) rfl))).t) (ai (ax cx (aa))) (az)
 exact ai (ax cx (bW ((bG (iL (ds := [D.int 31, D.int 28, D.int 31, D.int 30, D.int 31, D.int 30, D.int 31, D.int 31, D.int 30, D.int 31, D.int 30, D.int 31]) (by rfl))).read) ((cn ((V1.v).read) ((aa).read)).read) rfl))
noncomputable def gK : Ev -> SR := bq (m3 (ag (ae 3) (ag (ae 4) (ag (ae 5) (aq)))))
noncomputable def dQ : Ev -> SR := gK
noncomputable def dX : Ev -> SR := eJ (bI cE (m2 ba (m2 fM (ae 2) (mC (.int 3718512))) (mC (.int 3))) (mC (.int 1))) (av (aV 3 (m2 iR (mC (.int 4)) (m2 bz (mC (.int 1)) (m2 ba (ae 3) (mC (.int 2499)))))) (av (aV 4 (mC (.int 2))) (aV 5 (m2 bz (mC (.int 20)) (m2 ba (ae 5) (mC (.int 9))))))) (SR.next)
noncomputable def gr : Ev -> SR := av (dX) dQ
noncomputable def gJ : Ev -> SR := aV 5 (m2 bz (mC (.int 1)) (m2 ba (m2 fM (ae 2) (mC (.int 119952))) (aF aZ (ag (ae 3) (ag (ae 4) (aq))))))
noncomputable def gn : Ev -> SR := av (gJ) gr
noncomputable def gI : Ev -> SR := aV 4 (m2 bz (mC (.int 1)) (m2 ba (m2 fM (ae 2) (mC (.int 9996))) (mC (.int 12))))
noncomputable def gh : Ev -> SR := av (gI) gn
noncomputable def gH : Ev -> SR := aV 3 (m2 bz (mC (.int 1)) (m2 ba (ae 2) (mC (.int 9996))))
noncomputable def gg : Ev -> SR := av (gH) gh
noncomputable def cF : Ev -> SR := eJ (mT (ae 1)) (aV 2 (m2 ba (m2 iR (m2 ba (m2 bz (m2 iR (ae 0) (mC (.int 48271))) (mC (.int 4099))) (mC (.int 2147483647))) (mC (.int 16807))) (mC (.int 2147483629)))) (SR.next)
noncomputable def gf : Ev -> SR := av (cF) gg
noncomputable def gF : Ev -> SR := aV 2 (ae 0)
noncomputable def i6 : Ev -> SR := av (gF) gf
noncomputable def cQ (ds : List D) : R D := bL (i6 (am 6 ds))
theorem sa : FnScope ["_law_cell", "_law_mixed", "_law_rest", "_law_year", "_law_month_here", "_law_day"] ["_law_cell", "_law_mixed"] (aj (aN 45)) := jZ
theorem qM {κ : Nat -> Addr} {X : Cx} {B : Gd} (cx : Cxo X) (hcalm : X.calm = true) (hN : X.N = [("_law_cell" : Str), ("_law_mixed" : Str), ("_law_rest" : Str), ("_law_year" : Str), ("_law_month_here" : Str), ("_law_day" : Str)]) (hsc : X.env.scope = aj (aN 45)) (hfn : ∀ y, X.fn y = true) (hu : X.A.units + 64 < cLine) (k_law_month : Cal κ X "_law_month" 2 aZ) : QZs κ B X (aw (aN 45)) i6 := by
 have hnd : X.N.Nodup := by rw [hN]; decide +kernel
 have V0 : VP X 0 "_law_cell" := bh cx hnd hfn hN hsc
 have V1 : VP X 1 "_law_mixed" := bh cx hnd hfn hN hsc
 have V2 : VP X 2 "_law_rest" := bh cx hnd hfn hN hsc
 have V3 : VP X 3 "_law_year" := bh cx hnd hfn hN hsc
 have V4 : VP X 4 "_law_month_here" := bh cx hnd hfn hN hsc
 have V5 : VP X 5 "_law_day" := bh cx hnd hfn hN hsc
 have hg_law_month : Gl X "_law_month" := b6 hsc
 refine af (F1 := gF) (F2 := gf) ?_ ?_
 ·exact V2.s (V0.v) rfl
 refine af (F1 := cF) (F2 := gg) ?_ ?_
 ·exact aO cx (d7 ((V1.v).read) rfl) (ai (V2.s (aE ((dA ((aE ((aL ((dA ((V0.v).read) ((aa).read)).read) ((aa).read)).read) ((aa).read)).read) ((aa).read)).read) ((aa).read)) rfl)) (az)
 refine af (F1 := gH) (F2 := gh) ?_ ?_
 ·exact V3.s (aL ((aa).read) ((aE ((V2.v).read) ((aa).read)).read)) rfl
 refine af (F1 := gI) (F2 := gn) ?_ ?_
 ·exact V4.s (aL ((aa).read) ((aE ((bJ ((V2.v).read) ((aa).read)).read) ((aa).read)).read)) rfl
 refine af (F1 := gJ) (F2 := gr) ?_ ?_
 ·exact V5.s (aL ((aa).read) ((aE ((bJ ((V2.v).read) ((aa).read)).read) ((ay cx k_law_month rfl hg_law_month (ac (V3.v) (ac (V4.v) (ak) rfl) rfl)).read)).read)) rfl
 refine af (F1 := dX) (F2 := dQ) ?_ ?_
 ·exact aO cx (bj hu ((aE ((bJ ((V2.v).read) ((aa).read)).read) ((aa).read)).read) ((aa).read) (ao rfl)) (af (V3.s (dA ((aa).read) ((aL ((aa).read) ((aE ((V3.v).read) ((aa).read)).read)).read)) rfl) (af (V4.s (aa) rfl) (ai (V5.s (aL ((aa).read) ((aE ((V5.v).read) ((aa).read)).read)) rfl)))) (az)
 exact ai (ax cx (kI (ac (V3.v) (ac (V4.v) (ac (V5.v) (ak) rfl) rfl) rfl)))
noncomputable def jO : Ev -> SR := bq (mC (.int 0))
noncomputable def mj : Ev -> SR := av (eJ (bI sv (ae 1) (m1 b9 (ae 0))) (bq (m2 bV (ae 0) (ae 1))) (SR.next)) jO
noncomputable def be (ds : List D) : R D := bL (mj (am 2 ds))
theorem yd : FnScope ["_law_script", "_law_k"] ["_law_script", "_law_k"] (aj (aN 41)) := jZ
theorem wo {κ : Nat -> Addr} {X : Cx} {B : Gd} (cx : Cxo X) (hcalm : X.calm = true) (hN : X.N = [("_law_script" : Str), ("_law_k" : Str)]) (hsc : X.env.scope = aj (aN 41)) (hfn : ∀ y, X.fn y = true) (hu : X.A.units + 64 < cLine) (b_len : X.mg "len" = none) : QZs κ B X (aw (aN 41)) mj := by
 have hnd : X.N.Nodup := by rw [hN]; decide +kernel
 have V0 : VP X 0 "_law_script" := bh cx hnd hfn hN hsc
 have V1 : VP X 1 "_law_k" := bh cx hnd hfn hN hsc
 have hg_len : Gl X "len" := b6 hsc
 refine af (F1 := eJ (bI sv (ae 1) (m1 b9 (ae 0))) (bq (m2 bV (ae 0) (ae 1))) (SR.next)) (F2 := jO) ?_ ?_
 ·exact aO cx (kL ((V1.v).read) ((dP hg_len b_len ((V0.v).read) rfl).read) (ao rfl)) (ai (ax cx (bW ((V0.v).read) ((V1.v).read) rfl))) (az)
 exact ai (ax cx (aa))
noncomputable def kq : Ev -> SR := bq (yt (cC (ag (m1 dD (ae 5)) (ag (m2 bz (mC (.str [48])) (m1 dD (ae 5))) (aq)))) (sW) (mP (m2 bz (mC (.int 1)) (AR vt (ag (m2 (d6 sv) (ae 5) (mC (.int 10))) (aq))))))
noncomputable def iu : Ev -> SR := kq
noncomputable def da : Ev -> SR := aV 5 (m2 bV (cC (ag (ae 4) (ag (ae 3) (aq)))) (AR vt (ag (m2 (d6 cE) (ae 0) (mC (.str [60, 109, 62]))) (aq))))
noncomputable def ir : Ev -> SR := av (da) iu
noncomputable def eV : Ev -> SR := eJ (bI cE (ae 0) (mC (.str [60, 89, 62]))) (bq (cC (ag (yt (m2 bz (mC (.str [48, 48, 48])) (m1 dD (ae 2))) (mP (m2 fN (m1 b9 (m1 dD (ae 2))) (mC (.int 1)))) (sW)) (aq)))) (SR.next)
noncomputable def iq : Ev -> SR := av (eV) ir
noncomputable def eU : Ev -> SR := eJ (bI cE (ae 0) (mC (.str [60, 121, 62]))) (bq (cC (ag (m2 bz (m1 dD (m2 ba (m2 fM (ae 2) (mC (.int 10))) (mC (.int 10)))) (m1 dD (m2 ba (ae 2) (mC (.int 10))))) (aq)))) (SR.next)
noncomputable def ip : Ev -> SR := av (eU) iq
noncomputable def ko : Ev -> SR := v2 (qD 3 (dr (bN 2) (dr (bN 3) (dr (bN 4) (om))))) (ae 1)
noncomputable def jR : Ev -> SR := av (ko) ip
noncomputable def dN (ds : List D) : R D := bL (jR (am 6 ds))
theorem tU : FnScope ["_law_token", "_law_when", "_law_year", "_law_month_here", "_law_day", "_law_number_here"] ["_law_token", "_law_when"] (aj (aN 47)) := jZ
theorem sK {κ : Nat -> Addr} {X : Cx} {B : Gd} (cx : Cxo X) (hcalm : X.calm = true) (hN : X.N = [("_law_token" : Str), ("_law_when" : Str), ("_law_year" : Str), ("_law_month_here" : Str), ("_law_day" : Str), ("_law_number_here" : Str)]) (hsc : X.env.scope = aj (aN 47)) (hfn : ∀ y, X.fn y = true) (hu : X.A.units + 64 < cLine) (b_int : X.mg "int" = none) (b_len : X.mg "len" = none) (b_str : X.mg "str" = none) : QZs κ B X (aw (aN 47)) jR := by
 have hnd : X.N.Nodup := by rw [hN]; decide +kernel
 have V0 : VP X 0 "_law_token" := bh cx hnd hfn hN hsc
 have V1 : VP X 1 "_law_when" := bh cx hnd hfn hN hsc
 have V2 : VP X 2 "_law_year" := bh cx hnd hfn hN hsc
 have V3 : VP X 3 "_law_month_here" := bh cx hnd hfn hN hsc
 have V4 : VP X 4 "_law_day" := bh cx hnd hfn hN hsc
 have V5 : VP X 5 "_law_number_here" := bh cx hnd hfn hN hsc
 have hg_int : Gl X "int" := b6 hsc
 have hg_len : Gl X "len" := b6 hsc
 have hg_str : Gl X "str" := b6 hsc
 refine af (F1 := ko) (F2 := ip) ?_ ?_
 ·exact x9 cx (V1.v) (tN hcalm (fZ (V2.t) (fZ (V3.t) (fZ (V4.t) (lx) rfl) rfl) rfl) rfl rfl) rfl rfl rfl
 refine af (F1 := eU) (F2 := iq) ?_ ?_
 ·exact aO cx (bj hu ((V0.v).read) ((bK (l := [60, 121, 62]) (by decide +kernel)).read) (ao rfl)) (ai (ax cx (bG (ac (aL ((fP hg_str b_str ((aE ((bJ ((V2.v).read) ((aa).read)).read) ((aa).read)).read) rfl).read) ((fP hg_str b_str ((aE ((V2.v).read) ((aa).read)).read) rfl).read)) (ak) rfl)))) (az)
 refine af (F1 := eV) (F2 := ir) ?_ ?_
 ·exact aO cx (bj hu ((V0.v).read) ((bK (l := [60, 89, 62]) (by decide +kernel)).read) (ao rfl)) (ai (ax cx (bG (ac (oV ((aL ((bK (l := [48, 48, 48]) (by decide +kernel)).read) ((fP hg_str b_str ((V2.v).read) rfl).read)).read) (cq (cn ((dP hg_len b_len ((fP hg_str b_str ((V2.v).read) rfl).read) rfl).read) ((aa).read))) (lz)) (ak) rfl)))) (az)
 refine af (F1 := da) (F2 := iu) ?_ ?_
 ·exact V5.s (bW ((bG (ac (V4.v) (ac (V3.v) (ak) rfl) rfl)).read) ((rQ hg_int b_int (ac (jr hu ((V0.v).read) ((bK (l := [60, 109, 62]) (by decide +kernel)).read) (ao rfl)) (ak) rfl) rfl).read) rfl) rfl
 exact ai (ax cx (oV ((bG (ac (fP hg_str b_str ((V5.v).read) rfl) (ac (aL ((bK (l := [48]) (by decide +kernel)).read) ((fP hg_str b_str ((V5.v).read) rfl).read)) (ak) rfl) rfl)).read) (lz) (cq (aL ((aa).read) ((rQ hg_int b_int (ac (Cn ((V5.v).read) ((aa).read) (ao rfl)) (ak) rfl) rfl).read)))))
noncomputable def dW : Ev -> SR := eJ (mT (ae 1)) (av (aV 5 (m2 ba (m2 bz (m2 bz (m2 iR (ae 5) (mC (.int 48271))) (m2 iR (mC (.int 7919)) (ae 6))) (mC (.int 11))) (mC (.int 2147483647)))) (nJ 4 (m2 ba (m2 ba (m2 iR (ae 5) (mC (.int 16807))) (mC (.int 2147483629))) (ae 3)))) (av (nJ 4 (m2 ba (ae 5) (ae 3))) (aV 5 (m2 fM (ae 5) (ae 3))))
noncomputable def jI : Ev -> SR := bq (ae 4)
noncomputable def gd : Ev -> SR := λ δ => (jI) (mO 4 δ)
noncomputable def gE : Ev -> SR := gU (λ δ => ((ag (ae 2) (aq)) δ).bind yr) (bN 6) (dW)
noncomputable def gc : Ev -> SR := av (gE) gd
noncomputable def gC : Ev -> SR := aV 5 (ae 0)
noncomputable def ga : Ev -> SR := av (gC) gc
noncomputable def gB : Ev -> SR := oa 4 (λ δ => lim ((aq) δ))
noncomputable def i5 : Ev -> SR := av (gB) ga
noncomputable def bF (ds : List D) : R D := bL (i5 (am 7 ds))
theorem rZ : FnScope ["_law_cell", "_law_mixed", "_law_many", "_law_most", "_law_made", "_law_rest", "_law_k"] ["_law_cell", "_law_mixed", "_law_many", "_law_most"] (aj (aN 42)) := jZ
theorem qL {κ : Nat -> Addr} {X : Cx} {B : Gd} (cx : Cxo X) (hcalm : X.calm = true) (hN : X.N = [("_law_cell" : Str), ("_law_mixed" : Str), ("_law_many" : Str), ("_law_most" : Str), ("_law_made" : Str), ("_law_rest" : Str), ("_law_k" : Str)]) (hsc : X.env.scope = aj (aN 42)) (hfn : ∀ y, X.fn y = true) (hu : X.A.units + 64 < cLine) (b_range : X.mg "range" = none) : QZs κ B X (aw (aN 42)) i5 := by
 have hnd : X.N.Nodup := by rw [hN]; decide +kernel
 have V0 : VP X 0 "_law_cell" := bh cx hnd hfn hN hsc
 have V1 : VP X 1 "_law_mixed" := bh cx hnd hfn hN hsc
 have V2 : VP X 2 "_law_many" := bh cx hnd hfn hN hsc
 have V3 : VP X 3 "_law_most" := bh cx hnd hfn hN hsc
 have V4 : VP X 4 "_law_made" := bh cx hnd hfn hN hsc
 have V5 : VP X 5 "_law_rest" := bh cx hnd hfn hN hsc
 have V6 : VP X 6 "_law_k" := bh cx hnd hfn hN hsc
 have hg_range : Gl X "range" := b6 hsc
 refine af (F1 := gB) (F2 := ga) ?_ ?_
 ·exact V4.w (kJ (ak)) rfl
 refine af (F1 := gC) (F2 := gc) ?_ ?_
 ·exact V5.s (V0.v) rfl
 refine af (F1 := gE) (F2 := gd) ?_ ?_
 ·exact js cx hcalm (tP hg_range b_range (ac (V2.v) (ak) rfl) rfl) (λ B => V6.t) (λ B => ai (aO cx (d7 ((V1.v).read) rfl) (af (V5.s (aE ((aL ((aL ((dA ((V5.v).read) ((aa).read)).read) ((dA ((aa).read) ((V6.v).read)).read)).read) ((aa).read)).read) ((aa).read)) rfl) (ai (V4.a (aE ((aE ((dA ((V5.v).read) ((aa).read)).read) ((aa).read)).read) ((V3.v).read)) rfl rfl))) (af (V4.a (aE ((V5.v).read) ((V3.v).read)) rfl rfl) (ai (V5.s (bJ ((V5.v).read) ((V3.v).read)) rfl))))) rfl
 refine kN 4 (F := _) ?_
 exact ai (ax cx (V4.v))
noncomputable def kn : Ev -> SR := bq (sV oJ (mC (.str [])) (ag (mL (dF (λ δ => ((aF bF (ag (ae 2) (ag (m2 (d6 cE) (m2 ba (ae 2) (mC (.int 3))) (mC (.int 0))) (ag (m2 bz (mC (.int 1)) (m2 ba (ae 2) (mC (.int 4)))) (ag (mC (.int 10)) (aq)))))) δ).bind bY) (λ _ => .ok true) (m1 dD (ae 4)))) (aq)))
noncomputable def im : Ev -> SR := kn
noncomputable def eT : Ev -> SR := eJ (bI cE (ae 1) (mC (.int 5))) (bq (m2 bz (ae 0) (m2 bV (cC (λ _ => .ok [D.str [97], D.str [46], D.str [32], D.str [45]])) (m2 ba (ae 2) (mC (.int 4)))))) (SR.next)
noncomputable def il : Ev -> SR := av (eT) im
noncomputable def eS : Ev -> SR := eJ (bI cE (ae 1) (mC (.int 4))) (bq (m2 bV (ae 3) (m2 ba (ae 2) (mC (.int 13))))) (SR.next)
noncomputable def ik : Ev -> SR := av (eS) il
noncomputable def eR : Ev -> SR := eJ (bI cE (ae 1) (mC (.int 3))) (bq (m2 bz (ae 0) (m2 bV (mC (.str [48, 49, 50, 51, 52, 53, 54, 55, 56, 57])) (m2 ba (ae 2) (mC (.int 10)))))) (SR.next)
noncomputable def ij : Ev -> SR := av (eR) ik
noncomputable def eQ : Ev -> SR := eJ (bI cE (ae 1) (mC (.int 2))) (bq (yt (m2 bz (ae 0) (ae 0)) (mP (mC (.int 1))) (mP (m2 fN (m2 bz (m1 b9 (ae 0)) (mC (.int 1))) (m2 ba (ae 2) (mC (.int 2))))))) (SR.next)
noncomputable def ii : Ev -> SR := av (eQ) ij
noncomputable def eO : Ev -> SR := eJ (bI cE (ae 1) (mC (.int 1))) (bq (m2 bz (mC (.str [48])) (ae 0))) (SR.next)
noncomputable def ig : Ev -> SR := av (eO) ii
noncomputable def eN : Ev -> SR := eJ (bI cE (ae 1) (mC (.int 0))) (bq (ae 0)) (SR.next)
noncomputable def ie : Ev -> SR := av (eN) ig
noncomputable def km : Ev -> SR := aV 3 (cC (λ _ => .ok [D.str [48], D.str [48, 48], D.str [49], D.str [48, 49], D.str [57], D.str [48, 57], D.str [49, 48], D.str [49, 50], D.str [51, 49], D.str [51, 50], D.str [57, 57], D.str [49, 48, 48], D.str [48, 48, 48, 49]]))
noncomputable def jQ : Ev -> SR := av (km) ie
noncomputable def dM (ds : List D) : R D := bL (jQ (am 4 ds))
theorem tT : FnScope ["_law_way", "_law_pick", "_law_more", "_law_fixed"] ["_law_way", "_law_pick", "_law_more"] (aj (aN 48)) := jZ
theorem sJ {κ : Nat -> Addr} {X : Cx} {B : Gd} (cx : Cxo X) (hcalm : X.calm = true) (hN : X.N = [("_law_way" : Str), ("_law_pick" : Str), ("_law_more" : Str), ("_law_fixed" : Str)]) (hsc : X.env.scope = aj (aN 48)) (hfn : ∀ y, X.fn y = true) (hu : X.A.units + 64 < cLine) (k_law_draws : Cal κ X "_law_draws" 4 bF) (b_len : X.mg "len" = none) (b_str : X.mg "str" = none) : QZs κ B X (aw (aN 48)) jQ := by
 have hnd : X.N.Nodup := by rw [hN]; decide +kernel
 have V0 : VP X 0 "_law_way" := bh cx hnd hfn hN hsc
 have V1 : VP X 1 "_law_pick" := bh cx hnd hfn hN hsc
 have V2 : VP X 2 "_law_more" := bh cx hnd hfn hN hsc
 have V3 : VP X 3 "_law_fixed" := bh cx hnd hfn hN hsc
 have hg_law_draws : Gl X "_law_draws" := b6 hsc
 have hg_len : Gl X "len" := b6 hsc
 refine af (F1 := km) (F2 := ie) ?_ ?_
 ·exact V3.s (bG (iL (ds := [D.str [48], D.str [48, 48], D.str [49], D.str [48, 49], D.str [57], D.str [48, 57], D.str [49, 48], D.str [49, 50], D.str [51, 49], D.str [51, 50], D.str [57, 57], D.str [49, 48, 48], D.str [48, 48, 48, 49]]) (by rfl))) rfl
 refine af (F1 := eN) (F2 := ig) ?_ ?_
 ·exact aO cx (bj hu ((V1.v).read) ((aa).read) (ao rfl)) (ai (ax cx (V0.v))) (az)
 refine af (F1 := eO) (F2 := ii) ?_ ?_
 ·exact aO cx (bj hu ((V1.v).read) ((aa).read) (ao rfl)) (ai (ax cx (aL ((bK (l := [48]) (by decide +kernel)).read) ((V0.v).read)))) (az)
 refine af (F1 := eQ) (F2 := ij) ?_ ?_
 ·exact aO cx (bj hu ((V1.v).read) ((aa).read) (ao rfl)) (ai (ax cx (oV ((aL ((V0.v).read) ((V0.v).read)).read) (cq (aa)) (cq (cn ((aL ((dP hg_len b_len ((V0.v).read) rfl).read) ((aa).read)).read) ((aE ((V2.v).read) ((aa).read)).read)))))) (az)
 refine af (F1 := eR) (F2 := ik) ?_ ?_
 ·exact aO cx (bj hu ((V1.v).read) ((aa).read) (ao rfl)) (ai (ax cx (aL ((V0.v).read) ((bW ((bK (l := [48, 49, 50, 51, 52, 53, 54, 55, 56, 57]) (by decide +kernel)).read) ((aE ((V2.v).read) ((aa).read)).read) rfl).read)))) (az)
 refine af (F1 := eS) (F2 := il) ?_ ?_
 ·exact aO cx (bj hu ((V1.v).read) ((aa).read) (ao rfl)) (ai (ax cx (bW ((V3.v).read) ((aE ((V2.v).read) ((aa).read)).read) rfl))) (az)
 refine af (F1 := eT) (F2 := im) ?_ ?_
 ·exact aO cx (bj hu ((V1.v).read) ((aa).read) (ao rfl)) (ai (ax cx (aL ((V0.v).read) ((bW ((bG (iL (ds := [D.str [97], D.str [46], D.str [32], D.str [45]]) (by rfl))).read) ((aE ((V2.v).read) ((aa).read)).read) rfl).read)))) (az)
 exact ai (ax cx (Am ((bK (l := []) (by decide +kernel)).read) (ac ((nt hcalm ⟨by decide +kernel, rfl, by decide +kernel, rfl, by rw [hN]; decide +kernel, by rw [hsc]; decide +kernel, hnd⟩ (oU (ay cx k_law_draws rfl hg_law_draws (ac (V2.v) (ac (jr hu ((aE ((V2.v).read) ((aa).read)).read) ((aa).read) (ao rfl)) (ac (aL ((aa).read) ((aE ((V2.v).read) ((aa).read)).read)) (ac (aa) (ak) rfl) rfl) rfl) rfl))) (λ X' B' hC => by (have cx : Cxo X' := hC.cxo); (have hcalm : X'.calm = true := hC.calm.trans hcalm); (have hu : X'.A.units + 64 < cLine := by rw [hC.A]; exact hu); exact rO) (λ X' B' hC => by (have cx : Cxo X' := hC.cxo); (have hcalm : X'.calm = true := hC.calm.trans hcalm); (have hu : X'.A.units + 64 < cLine := by rw [hC.A]; exact hu); (have z4 : ∀ {B : Gd} {pos : Pos}, QX κ B X' (.Name "_law_figure" pos) (ae 4) := iK 4 (hC.x (by rw [hN]; rfl)) (.inl (hC.look rfl (by decide))) (by decide) (by decide)); (have hg_str : Gl X' "str" := hC.look rfl (by decide)); (have b_str : X'.mg "str" = none := by rw [hC.mg]; exact b_str); exact fP hg_str b_str ((z4).read) rfl) rfl).px) (ak) rfl) rfl rfl rfl))
noncomputable def d8 : Ev -> SR := bq (ae 1)
noncomputable def cI : Ev -> SR := av (v3 0 1 2 3 (uw (bI cE (ae 2) (mC (.int 0))) (bI nW (m2 bV (ae 3) (mC (.int 2))) (m2 bV (m2 bV (ae 0) (m2 fN (ae 2) (mC (.int 1)))) (mC (.int 2)))))) d8
noncomputable def bg (ds : List D) : R D := bL (cI (am 4 ds))
theorem ka : FnScope ["pieces", "parts", "k", "piece"] ["pieces"] (aj (aN 31)) := jZ
theorem jX {κ : Nat -> Addr} {X : Cx} {B : Gd} (cx : Cxo X) (hcalm : X.calm = true) (hN : X.N = [("pieces" : Str), ("parts" : Str), ("k" : Str), ("piece" : Str)]) (hsc : X.env.scope = aj (aN 31)) (hfn : ∀ y, X.fn y = true) (hu : X.A.units + 64 < cLine) (b_enumerate : X.mg "enumerate" = none) : QZs κ B X (aw (aN 31)) cI := by
 have hnd : X.N.Nodup := by rw [hN]; decide +kernel
 have V0 : VP X 0 "pieces" := bh cx hnd hfn hN hsc
 have V1 : VP X 1 "parts" := bh cx hnd hfn hN hsc
 have V2 : VP X 2 "k" := bh cx hnd hfn hN hsc
 have V3 : VP X 3 "piece" := bh cx hnd hfn hN hsc
 have hg_enumerate : Gl X "enumerate" := b6 hsc
 refine rP cx hcalm hnd hfn hg_enumerate b_enumerate V0.n V0.vi (by decide) (by decide) V1.n V1.l V1.vi (by decide) (by decide) V2.n V2.l V3.n V3.l V3.vi (by decide) (by decide) (by decide) (by decide) (by decide) (by decide) (by decide) (by decide) ((me (bj hu ((V2.v).read) ((aa).read) (ao rfl)) (kM (Ai hu ((bW ((V3.v).read) ((aa).read) rfl).read) ((bW ((bW ((V0.v).read) ((cn ((V2.v).read) ((aa).read)).read) rfl).read) ((aa).read) rfl).read) (ao rfl)))).t) rfl rfl rfl rfl rfl rfl rfl rfl rfl rfl rfl rfl  (F := d8) ?_
 exact ai (ax cx (V1.v))
noncomputable def pq : Ev -> SR := SR.exc 3
noncomputable def kf : Ev -> SR := pq
noncomputable def iE : Ev -> SR := eJ (uw (bI m7 (ae 3) (mC c_PLAIN_SIGNS)) (bI m7 (ae 3) (mC (.str [91, 93])))) (bq (ae 3)) (SR.next)
noncomputable def iz : Ev -> SR := av (iE) kf
noncomputable def iD : Ev -> SR := aV 3 (m2 bV (ae 0) (ae 1))
noncomputable def iy : Ev -> SR := av (iD) iz
noncomputable def iC : Ev -> SR := eJ (bI m7 (ae 2) (mC c_PLACES)) (bq (ae 2)) (SR.next)
noncomputable def ix : Ev -> SR := av (iC) iy
noncomputable def iB : Ev -> SR := aV 2 (yt (ae 0) (mP (ae 1)) (mP (m2 bz (ae 1) (mC (.int 3)))))
noncomputable def jT : Ev -> SR := av (iB) ix
noncomputable def cN (ds : List D) : R D := bL (jT (am 4 ds))
theorem tW : FnScope ["form", "start", "place", "sign"] ["form", "start"] (aj (aN 23)) := jZ
theorem sM {κ : Nat -> Addr} {X : Cx} {B : Gd} (cx : Cxo X) (hcalm : X.calm = true) (hN : X.N = [("form" : Str), ("start" : Str), ("place" : Str), ("sign" : Str)]) (hsc : X.env.scope = aj (aN 23)) (hfn : ∀ y, X.fn y = true) (hu : X.A.units + 64 < cLine) (c_PLACES' : ∃ u v, X.mg "PLACES" = some u /\ aM v u /\ ∀ G, aH ⟨X.K, κ⟩ G v c_PLACES) (c_PLAIN_SIGNS' : ∃ u v, X.mg "PLAIN_SIGNS" = some u /\ aM v u /\ ∀ G, aH ⟨X.K, κ⟩ G v c_PLAIN_SIGNS) (x_BadForm : jH κ X ("BadForm" : Str) 3) : QZs κ B X (aw (aN 23)) jT := by
 have hnd : X.N.Nodup := by rw [hN]; decide +kernel
 have V0 : VP X 0 "form" := bh cx hnd hfn hN hsc
 have V1 : VP X 1 "start" := bh cx hnd hfn hN hsc
 have V2 : VP X 2 "place" := bh cx hnd hfn hN hsc
 have V3 : VP X 3 "sign" := bh cx hnd hfn hN hsc
 have hg_PLACES : Gl X "PLACES" := b6 hsc
 have hg_PLAIN_SIGNS : Gl X "PLAIN_SIGNS" := b6 hsc
 have hg_BadForm : Gl X "BadForm" := b6 hsc
 have g_PLACES : ∀ {B : Gd} {pos : Pos}, QX κ B X (.Name "PLACES" pos) (mC c_PLACES) := let ⟨_, _, h1, h2, h3⟩ := c_PLACES'; bP hg_PLACES h1 h2 h3 (by decide)
 have g_PLAIN_SIGNS : ∀ {B : Gd} {pos : Pos}, QX κ B X (.Name "PLAIN_SIGNS" pos) (mC c_PLAIN_SIGNS) := let ⟨_, _, h1, h2, h3⟩ := c_PLAIN_SIGNS'; bP hg_PLAIN_SIGNS h1 h2 h3 (by decide)
 refine af (F1 := iB) (F2 := ix) ?_ ?_
 ·exact V2.s (oV ((V0.v).read) (cq (V1.v)) (cq (aL ((V1.v).read) ((aa).read)))) rfl
 refine af (F1 := iC) (F2 := iy) ?_ ?_
 ·exact aO cx (md hu ((V2.v).read) ((g_PLACES).read) (ao rfl)) (ai (ax cx (V2.v))) (az)
 refine af (F1 := iD) (F2 := iz) ?_ ?_
 ·exact V3.s (bW ((V0.v).read) ((V1.v).read) rfl) rfl
 refine af (F1 := iE) (F2 := kf) ?_ ?_
 ·exact aO cx ((me (md hu ((V3.v).read) ((g_PLAIN_SIGNS).read) (ao rfl)) (kM (md hu ((V3.v).read) ((bK (l := [91, 93]) (by decide +kernel)).read) (ao rfl)))).t) (ai (ax cx (V3.v))) (az)
 exact ai (bD cx hcalm x_BadForm hg_BadForm (by decide))
noncomputable def cy : Ev -> SR := av (aV 3 (aF cN (ag (ae 0) (ag (ae 2) (aq))))) (av (nJ 1 (ae 3)) (kT 2 (λ i j => i + j) (m1 b9 (ae 3))))
noncomputable def eL : Ev -> SR := bq (ae 1)
noncomputable def cw : Ev -> SR := λ δ => (eL) (mO 1 δ)
noncomputable def cB : Ev -> SR := b7 (bI sv (ae 2) (m1 b9 (ae 0))) (cy) 40
noncomputable def cv : Ev -> SR := av (cB) cw
noncomputable def cA : Ev -> SR := aV 2 (mC (.int 0))
noncomputable def cu : Ev -> SR := av (cA) cv
noncomputable def cz : Ev -> SR := oa 1 (λ δ => lim ((aq) δ))
noncomputable def cU : Ev -> SR := av (cz) cu
noncomputable def aW (ds : List D) : R D := bL (cU (am 4 ds))
theorem kQ : FnScope ["form", "tokens", "start", "token"] ["form"] (aj (aN 24)) := jZ
theorem kz {κ : Nat -> Addr} {X : Cx} {B : Gd} (cx : Cxo X) (hcalm : X.calm = true) (hN : X.N = [("form" : Str), ("tokens" : Str), ("start" : Str), ("token" : Str)]) (hsc : X.env.scope = aj (aN 24)) (hfn : ∀ y, X.fn y = true) (hu : X.A.units + 64 < cLine) (k_token_at : Cal κ X "token_at" 2 cN) (b_len : X.mg "len" = none) : QZs κ B X (aw (aN 24)) cU := by
 have hnd : X.N.Nodup := by rw [hN]; decide +kernel
 have V0 : VP X 0 "form" := bh cx hnd hfn hN hsc
 have V1 : VP X 1 "tokens" := bh cx hnd hfn hN hsc
 have V2 : VP X 2 "start" := bh cx hnd hfn hN hsc
 have V3 : VP X 3 "token" := bh cx hnd hfn hN hsc
 have hg_token_at : Gl X "token_at" := b6 hsc
 have hg_len : Gl X "len" := b6 hsc
 refine af (F1 := cz) (F2 := cu) ?_ ?_
 ·exact V1.w (kJ (ak)) rfl
 refine af (F1 := cA) (F2 := cv) ?_ ?_
 ·exact V2.s (aa) rfl
 refine af (F1 := cB) (F2 := cw) ?_ ?_
 ·exact lB cx 40 (kL ((V2.v).read) ((dP hg_len b_len ((V0.v).read) rfl).read) (ao rfl)) (af (V3.s (ay cx k_token_at rfl hg_token_at (ac (V0.v) (ac (V2.v) (ak) rfl) rfl)) rfl) (af (V1.a (V3.v) rfl rfl) (ai (V2.ua (dP hg_len b_len ((V3.v).read) rfl)))))
 refine kN 1 (F := _) ?_
 exact ai (ax cx (V1.v))
noncomputable def iw : Ev -> SR := bq (m3 (ag (mC (.str [115, 105, 103, 110])) (ag (ae 0) (ag (ae 1) (aq)))))
noncomputable def jS : Ev -> SR := av (eJ (bI m7 (ae 0) (mC c_PLACES)) (bq (m3 (ag (mC (.str [112, 108, 97, 99, 101])) (ag (m2 bV (ae 0) (mC (.int 1))) (ag (ae 1) (aq)))))) (SR.next)) iw
noncomputable def cM (ds : List D) : R D := bL (jS (am 2 ds))
theorem tV : FnScope ["token", "part"] ["token", "part"] (aj (aN 25)) := jZ
theorem sL {κ : Nat -> Addr} {X : Cx} {B : Gd} (cx : Cxo X) (hcalm : X.calm = true) (hN : X.N = [("token" : Str), ("part" : Str)]) (hsc : X.env.scope = aj (aN 25)) (hfn : ∀ y, X.fn y = true) (hu : X.A.units + 64 < cLine) (c_PLACES' : ∃ u v, X.mg "PLACES" = some u /\ aM v u /\ ∀ G, aH ⟨X.K, κ⟩ G v c_PLACES) : QZs κ B X (aw (aN 25)) jS := by
 have hnd : X.N.Nodup := by rw [hN]; decide +kernel
 have V0 : VP X 0 "token" := bh cx hnd hfn hN hsc
 have V1 : VP X 1 "part" := bh cx hnd hfn hN hsc
 have hg_PLACES : Gl X "PLACES" := b6 hsc
 have g_PLACES : ∀ {B : Gd} {pos : Pos}, QX κ B X (.Name "PLACES" pos) (mC c_PLACES) := let ⟨_, _, h1, h2, h3⟩ := c_PLACES'; bP hg_PLACES h1 h2 h3 (by decide)
 refine af (F1 := eJ (bI m7 (ae 0) (mC c_PLACES)) (bq (m3 (ag (mC (.str [112, 108, 97, 99, 101])) (ag (m2 bV (ae 0) (mC (.int 1))) (ag (ae 1) (aq)))))) (SR.next)) (F2 := iw) ?_ ?_
 ·exact aO cx (md hu ((V0.v).read) ((g_PLACES).read) (ao rfl)) (ai (ax cx (kI (ac (bK (l := [112, 108, 97, 99, 101]) (by decide +kernel)) (ac (bW ((V0.v).read) ((aa).read) rfl) (ac (V1.v) (ak) rfl) rfl) rfl)))) (az)
 exact ai (ax cx (kI (ac (bK (l := [115, 105, 103, 110]) (by decide +kernel)) (ac (V0.v) (ac (V1.v) (ak) rfl) rfl) rfl)))
noncomputable def aK : Ev -> SR := eJ (bI cE (ae 5) (mC (.str [91]))) (av (eJ (mT (ae 3)) (SR.exc 3) (SR.next)) (av (aV 3 (mC (.bl true))) (kT 2 (λ i j => i + j) (mC (.int 1))))) (eJ (bI cE (ae 5) (mC (.str [93]))) (av (eJ (sX (mT (ae 3))) (SR.exc 3) (SR.next)) (av (eJ (bI cE (m2 bV (ae 0) (m2 fN (ae 4) (mC (.int 1)))) (mC (.str [91]))) (SR.exc 3) (SR.next)) (aV 3 (mC (.bl false))))) (nJ 1 (aF cM (ag (ae 5) (ag (Bz (mT (ae 3)) (ae 2) (mC (.int 0))) (aq))))))
noncomputable def fS : Ev -> SR := bq (ae 1)
noncomputable def c6 : Ev -> SR := λ δ => (fS) (mO 1 δ)
noncomputable def dk : Ev -> SR := eJ (bI yw (ae 2) (mC c_MOST_LACKING_PARTS)) (SR.exc 3) (SR.next)
noncomputable def c5 : Ev -> SR := av (dk) c6
noncomputable def dj : Ev -> SR := eJ (mT (ae 3)) (SR.exc 3) (SR.next)
noncomputable def cZ : Ev -> SR := av (dj) c5
noncomputable def di : Ev -> SR := gU (λ δ => ((ae 0) δ).bind uk) (qD 2 (dr (bN 4) (dr (bN 5) (om)))) (aK)
noncomputable def cY : Ev -> SR := av (di) cZ
noncomputable def dh : Ev -> SR := aV 3 (mC (.bl false))
noncomputable def cX : Ev -> SR := av (dh) cY
noncomputable def df : Ev -> SR := aV 2 (mC (.int 0))
noncomputable def cW : Ev -> SR := av (df) cX
noncomputable def de : Ev -> SR := oa 1 (λ δ => lim ((aq) δ))
noncomputable def ei : Ev -> SR := av (de) cW
noncomputable def bB (ds : List D) : R D := bL (ei (am 6 ds))
theorem lW : FnScope ["tokens", "pieces", "parts", "inside", "k", "token"] ["tokens"] (aj (aN 26)) := jZ
theorem lO {κ : Nat -> Addr} {X : Cx} {B : Gd} (cx : Cxo X) (hcalm : X.calm = true) (hN : X.N = [("tokens" : Str), ("pieces" : Str), ("parts" : Str), ("inside" : Str), ("k" : Str), ("token" : Str)]) (hsc : X.env.scope = aj (aN 26)) (hfn : ∀ y, X.fn y = true) (hu : X.A.units + 64 < cLine) (k_piece_of : Cal κ X "piece_of" 2 cM) (c_MOST_LACKING_PARTS' : ∃ u v, X.mg "MOST_LACKING_PARTS" = some u /\ aM v u /\ ∀ G, aH ⟨X.K, κ⟩ G v c_MOST_LACKING_PARTS) (b_enumerate : X.mg "enumerate" = none) (x_BadForm : jH κ X ("BadForm" : Str) 3) : QZs κ B X (aw (aN 26)) ei := by
 have hnd : X.N.Nodup := by rw [hN]; decide +kernel
 have V0 : VP X 0 "tokens" := bh cx hnd hfn hN hsc
 have V1 : VP X 1 "pieces" := bh cx hnd hfn hN hsc
 have V2 : VP X 2 "parts" := bh cx hnd hfn hN hsc
 have V3 : VP X 3 "inside" := bh cx hnd hfn hN hsc
 have V4 : VP X 4 "k" := bh cx hnd hfn hN hsc
 have V5 : VP X 5 "token" := bh cx hnd hfn hN hsc
 have hg_piece_of : Gl X "piece_of" := b6 hsc
 have hg_MOST_LACKING_PARTS : Gl X "MOST_LACKING_PARTS" := b6 hsc
 have hg_enumerate : Gl X "enumerate" := b6 hsc
 have hg_BadForm : Gl X "BadForm" := b6 hsc
 have g_MOST_LACKING_PARTS : ∀ {B : Gd} {pos : Pos}, QX κ B X (.Name "MOST_LACKING_PARTS" pos) (mC c_MOST_LACKING_PARTS) := let ⟨_, _, h1, h2, h3⟩ := c_MOST_LACKING_PARTS'; bP hg_MOST_LACKING_PARTS h1 h2 h3 (by decide)
 refine af (F1 := de) (F2 := cW) ?_ ?_
 ·exact V1.w (kJ (ak)) rfl
 refine af (F1 := df) (F2 := cX) ?_ ?_
 ·exact V2.s (aa) rfl
 refine af (F1 := dh) (F2 := cY) ?_ ?_
 ·exact V3.s (tM) rfl
 refine af (F1 := di) (F2 := cZ) ?_ ?_
 ·exact Ak cx hcalm (vN hg_enumerate b_enumerate (V0.v) rfl) (λ B => tN hcalm (fZ (V4.t) (fZ (V5.t) (lx) rfl) rfl) rfl rfl) (λ B => ai (aO cx (bj hu ((V5.v).read) ((bK (l := [91]) (by decide +kernel)).read) (ao rfl)) (af (aO cx (d7 ((V3.v).read) rfl) (ai (bD cx hcalm x_BadForm hg_BadForm (by decide))) (az)) (af (V3.s (tM) rfl) (ai (V2.ua (aa))))) (ai (aO cx (bj hu ((V5.v).read) ((bK (l := [93]) (by decide +kernel)).read) (ao rfl)) (af (aO cx (nv (d7 ((V3.v).read) rfl)) (ai (bD cx hcalm x_BadForm hg_BadForm (by decide))) (az)) (af (aO cx (bj hu ((bW ((V0.v).read) ((cn ((V4.v).read) ((aa).read)).read) rfl).read) ((bK (l := [91]) (by decide +kernel)).read) (ao rfl)) (ai (bD cx hcalm x_BadForm hg_BadForm (by decide))) (az)) (ai (V3.s (tM) rfl)))) (ai (V1.a (ay cx k_piece_of rfl hg_piece_of (ac (V5.v) (ac (xU (d7 ((V3.v).read) rfl) (V2.v) (aa)) (ak) rfl) rfl)) rfl rfl)))))) rfl
 refine af (F1 := dj) (F2 := c5) ?_ ?_
 ·exact aO cx (d7 ((V3.v).read) rfl) (ai (bD cx hcalm x_BadForm hg_BadForm (by decide))) (az)
 refine af (F1 := dk) (F2 := c6) ?_ ?_
 ·exact aO cx (kK ((V2.v).read) ((g_MOST_LACKING_PARTS).read) (ao rfl)) (ai (bD cx hcalm x_BadForm hg_BadForm (by decide))) (az)
 refine kN 1 (F := _) ?_
 exact ai (ax cx (V1.v))
noncomputable def gz : Ev -> SR := eJ (bI yw (Do ln (ae 1) (ag (ae 2) (aq))) (mC (.int 1))) (SR.exc 3) (SR.next)
noncomputable def jJ : Ev -> SR := bq (aF bB (ag (ae 1) (aq)))
noncomputable def gw : Ev -> SR := jJ
noncomputable def gO : Ev -> SR := gU (λ δ => ((mC c_PLACES) δ).bind bY) (bN 2) (gz)
noncomputable def gv : Ev -> SR := av (gO) gw
noncomputable def gN : Ev -> SR := aV 1 (aF aW (ag (ae 0) (aq)))
noncomputable def gu : Ev -> SR := av (gN) gv
noncomputable def gM : Ev -> SR := eJ (uw (bI sv (m1 b9 (ae 0)) (mC (.int 1))) (bI yw (m1 b9 (ae 0)) (mC c_LONGEST_FORM))) (SR.exc 3) (SR.next)
noncomputable def i8 : Ev -> SR := av (gM) gu
noncomputable def cR (ds : List D) : R D := bL (i8 (am 3 ds))
theorem se : FnScope ["form", "tokens", "place"] ["form"] (aj (aN 27)) := jZ
theorem qO {κ : Nat -> Addr} {X : Cx} {B : Gd} (cx : Cxo X) (hcalm : X.calm = true) (hN : X.N = [("form" : Str), ("tokens" : Str), ("place" : Str)]) (hsc : X.env.scope = aj (aN 27)) (hfn : ∀ y, X.fn y = true) (hu : X.A.units + 64 < cLine) (k_cut_into_tokens : Cal κ X "cut_into_tokens" 1 aW) (k_number_pieces : Cal κ X "number_pieces" 1 bB) (c_LONGEST_FORM' : ∃ u v, X.mg "LONGEST_FORM" = some u /\ aM v u /\ ∀ G, aH ⟨X.K, κ⟩ G v c_LONGEST_FORM) (c_PLACES' : ∃ u v, X.mg "PLACES" = some u /\ aM v u /\ ∀ G, aH ⟨X.K, κ⟩ G v c_PLACES) (b_len : X.mg "len" = none) (x_BadForm : jH κ X ("BadForm" : Str) 3) : QZs κ B X (aw (aN 27)) i8 := by
 have hnd : X.N.Nodup := by rw [hN]; decide +kernel
 have V0 : VP X 0 "form" := bh cx hnd hfn hN hsc
 have V1 : VP X 1 "tokens" := bh cx hnd hfn hN hsc
 have V2 : VP X 2 "place" := bh cx hnd hfn hN hsc
 have hg_cut_into_tokens : Gl X "cut_into_tokens" := b6 hsc
 have hg_number_pieces : Gl X "number_pieces" := b6 hsc
 have hg_LONGEST_FORM : Gl X "LONGEST_FORM" := b6 hsc
 have hg_PLACES : Gl X "PLACES" := b6 hsc
 have hg_len : Gl X "len" := b6 hsc
 have hg_BadForm : Gl X "BadForm" := b6 hsc
 have g_LONGEST_FORM : ∀ {B : Gd} {pos : Pos}, QX κ B X (.Name "LONGEST_FORM" pos) (mC c_LONGEST_FORM) := let ⟨_, _, h1, h2, h3⟩ := c_LONGEST_FORM'; bP hg_LONGEST_FORM h1 h2 h3 (by decide)
 have g_PLACES : ∀ {B : Gd} {pos : Pos}, QX κ B X (.Name "PLACES" pos) (mC c_PLACES) := let ⟨_, _, h1, h2, h3⟩ := c_PLACES'; bP hg_PLACES h1 h2 h3 (by decide)
 refine af (F1 := gM) (F2 := gu) ?_ ?_
 ·exact aO cx ((me (kL ((dP hg_len b_len ((V0.v).read) rfl).read) ((aa).read) (ao rfl)) (kM (kK ((dP hg_len b_len ((V0.v).read) rfl).read) ((g_LONGEST_FORM).read) (ao rfl)))).t) (ai (bD cx hcalm x_BadForm hg_BadForm (by decide))) (az)
 refine af (F1 := gN) (F2 := gv) ?_ ?_
 ·exact V1.s (ay cx k_cut_into_tokens rfl hg_cut_into_tokens (ac (V0.v) (ak) rfl)) rfl
 refine af (F1 := gO) (F2 := gw) ?_ ?_
 ·exact js cx hcalm (jq (g_PLACES)) (λ B => V2.t) (λ B => ai (aO cx (kK ((ya ((V1.v).read) (ac (V2.v) (ak) rfl) rfl rfl rfl).read) ((aa).read) (ao rfl)) (ai (bD cx hcalm x_BadForm hg_BadForm (by decide))) (az))) rfl
 exact ai (ax cx (ay cx k_number_pieces rfl hg_number_pieces (ac (V1.v) (ak) rfl)))
noncomputable def eo : Ev -> SR := bq (aF bg (ag (aF cR (ag (ae 0) (aq))) (aq)))
noncomputable def bC (ds : List D) : R D := bL (eo (am 1 ds))
theorem lX : FnScope ["form"] ["form"] (aj (aN 32)) := jZ
theorem lP {κ : Nat -> Addr} {X : Cx} {B : Gd} (cx : Cxo X) (hcalm : X.calm = true) (hN : X.N = [("form" : Str)]) (hsc : X.env.scope = aj (aN 32)) (hfn : ∀ y, X.fn y = true) (hu : X.A.units + 64 < cLine) (k_split_into_parts : Cal κ X "split_into_parts" 1 bg) (k_read_form : Cal κ X "read_form" 1 cR) : QZs κ B X (aw (aN 32)) eo := by
 have hnd : X.N.Nodup := by rw [hN]; decide +kernel
 have V0 : VP X 0 "form" := bh cx hnd hfn hN hsc
 have hg_split_into_parts : Gl X "split_into_parts" := b6 hsc
 have hg_read_form : Gl X "read_form" := b6 hsc
 exact ai (ax cx (ay cx k_split_into_parts rfl hg_split_into_parts (ac (ay cx k_read_form rfl hg_read_form (ac (V0.v) (ak) rfl)) (ak) rfl)))
noncomputable def fB : Ev -> SR := eJ (bI j5 (ae 1) (mC c_PLAIN_SIGNS)) (SR.exc 5) (SR.next)
noncomputable def fi : Ev -> SR := gU (λ δ => ((ae 0) δ).bind pQ) (bN 1) (fB)
noncomputable def hZ : Ev -> SR := av (eJ (uw (bI sv (m1 b9 (ae 0)) (mC (.int 1))) (bI yw (m1 b9 (ae 0)) (mC c_LONGEST_TEXT))) (SR.exc 5) (SR.next)) fi
noncomputable def ci (ds : List D) : R D := bL (hZ (am 2 ds))
theorem qh : FnScope ["text", "sign"] ["text"] (aj (aN 30)) := jZ
theorem pE {κ : Nat -> Addr} {X : Cx} {B : Gd} (cx : Cxo X) (hcalm : X.calm = true) (hN : X.N = [("text" : Str), ("sign" : Str)]) (hsc : X.env.scope = aj (aN 30)) (hfn : ∀ y, X.fn y = true) (hu : X.A.units + 64 < cLine) (c_LONGEST_TEXT' : ∃ u v, X.mg "LONGEST_TEXT" = some u /\ aM v u /\ ∀ G, aH ⟨X.K, κ⟩ G v c_LONGEST_TEXT) (c_PLAIN_SIGNS' : ∃ u v, X.mg "PLAIN_SIGNS" = some u /\ aM v u /\ ∀ G, aH ⟨X.K, κ⟩ G v c_PLAIN_SIGNS) (b_len : X.mg "len" = none) (x_BadText : jH κ X ("BadText" : Str) 5) : QZs κ B X (aw (aN 30)) hZ := by
 have hnd : X.N.Nodup := by rw [hN]; decide +kernel
 have V0 : VP X 0 "text" := bh cx hnd hfn hN hsc
 have V1 : VP X 1 "sign" := bh cx hnd hfn hN hsc
 have hg_LONGEST_TEXT : Gl X "LONGEST_TEXT" := b6 hsc
 have hg_PLAIN_SIGNS : Gl X "PLAIN_SIGNS" := b6 hsc
 have hg_len : Gl X "len" := b6 hsc
 have hg_BadText : Gl X "BadText" := b6 hsc
 have g_LONGEST_TEXT : ∀ {B : Gd} {pos : Pos}, QX κ B X (.Name "LONGEST_TEXT" pos) (mC c_LONGEST_TEXT) := let ⟨_, _, h1, h2, h3⟩ := c_LONGEST_TEXT'; bP hg_LONGEST_TEXT h1 h2 h3 (by decide)
 have g_PLAIN_SIGNS : ∀ {B : Gd} {pos : Pos}, QX κ B X (.Name "PLAIN_SIGNS" pos) (mC c_PLAIN_SIGNS) := let ⟨_, _, h1, h2, h3⟩ := c_PLAIN_SIGNS'; bP hg_PLAIN_SIGNS h1 h2 h3 (by decide)
 refine af (F1 := eJ (uw (bI sv (m1 b9 (ae 0)) (mC (.int 1))) (bI yw (m1 b9 (ae 0)) (mC c_LONGEST_TEXT))) (SR.exc 5) (SR.next)) (F2 := fi) ?_ ?_
 ·exact aO cx ((me (kL ((dP hg_len b_len ((V0.v).read) rfl).read) ((aa).read) (ao rfl)) (kM (kK ((dP hg_len b_len ((V0.v).read) rfl).read) ((g_LONGEST_TEXT).read) (ao rfl)))).t) (ai (bD cx hcalm x_BadText hg_BadText (by decide))) (az)
 exact ai (js cx hcalm (xR (V0.v)) (λ B => V1.t) (λ B => ai (aO cx (nu hu ((V1.v).read) ((g_PLAIN_SIGNS).read) (ao rfl)) (ai (bD cx hcalm x_BadText hg_BadText (by decide))) (az))) rfl)
noncomputable def b8 : Ev -> SR := av (aV 6 (m2 bz (ae 4) (m1 b9 (ae 5)))) (eJ (rh (bI cE (yt (ae 1) (mP (ae 4)) (mP (ae 6))) (ae 5)) (bI j5 (ae 6) (oE 3))) (nJ 3 (ae 6)) (SR.next))
noncomputable def fR : Ev -> SR := gU (λ δ => ((ae 0) δ).bind bY) (bN 5) (b8)
noncomputable def kh : Ev -> SR := bq (ae 3)
noncomputable def fQ : Ev -> SR := λ δ => (kh) (mO 3 δ)
noncomputable def c9 : Ev -> SR := gU (λ δ => ((ae 2) δ).bind bY) (bN 4) (fR)
noncomputable def cV : Ev -> SR := av (c9) fQ
noncomputable def c8 : Ev -> SR := oa 3 (λ δ => lim ((aq) δ))
noncomputable def eh : Ev -> SR := av (c8) cV
noncomputable def bA (ds : List D) : R D := bL (eh (am 7 ds))
theorem lV : FnScope ["written", "text", "starts", "ends", "start", "way", "end"] ["written", "text", "starts"] (aj (aN 36)) := jZ
theorem lN {κ : Nat -> Addr} {X : Cx} {B : Gd} (cx : Cxo X) (hcalm : X.calm = true) (hN : X.N = [("written" : Str), ("text" : Str), ("starts" : Str), ("ends" : Str), ("start" : Str), ("way" : Str), ("end" : Str)]) (hsc : X.env.scope = aj (aN 36)) (hfn : ∀ y, X.fn y = true) (hu : X.A.units + 64 < cLine) (b_len : X.mg "len" = none) : QZs κ B X (aw (aN 36)) eh := by
 have hnd : X.N.Nodup := by rw [hN]; decide +kernel
 have V0 : VP X 0 "written" := bh cx hnd hfn hN hsc
 have V1 : VP X 1 "text" := bh cx hnd hfn hN hsc
 have V2 : VP X 2 "starts" := bh cx hnd hfn hN hsc
 have V3 : VP X 3 "ends" := bh cx hnd hfn hN hsc
 have V4 : VP X 4 "start" := bh cx hnd hfn hN hsc
 have V5 : VP X 5 "way" := bh cx hnd hfn hN hsc
 have V6 : VP X 6 "end" := bh cx hnd hfn hN hsc
 have hg_len : Gl X "len" := b6 hsc
 refine af (F1 := c8) (F2 := cV) ?_ ?_
 ·exact V3.w (kJ (ak)) rfl
 refine af (F1 := c9) (F2 := fQ) ?_ ?_
 ·exact js cx hcalm (jq (V2.v)) (λ B => V4.t) (λ B => ai (js cx hcalm (jq (V0.v)) (λ B => V5.t) (λ B => af (V6.s (aL ((V4.v).read) ((dP hg_len b_len ((V5.v).read) rfl).read)) rfl) (ai (aO cx ((ny (bj hu ((oV ((V1.v).read) (cq (V4.v)) (cq (V6.v))).read) ((V5.v).read) (ao rfl)) (lA (nu hu ((V6.v).read) (V3.r) (ao rfl)))).t) (ai (V3.a (V6.v) rfl rfl)) (az)))) rfl)) rfl
 refine kN 3 (F := _) ?_
 exact ai (ax cx (V3.v))
noncomputable def aS : Ev -> SR := av (aV 6 (Bz (bI cE (m2 bV (ae 5) (mC (.int 0))) (mC (.str [112, 108, 97, 99, 101]))) (m2 vq (ae 1) (m2 bV (ae 5) (mC (.int 1)))) (cC (ag (m2 bV (ae 5) (mC (.int 1))) (aq))))) (av (aV 4 (aF bA (ag (ae 6) (ag (ae 2) (ag (ae 4) (aq)))))) (eJ (bI cE (ae 4) (cC (aq))) (bq (cC (aq))) (SR.next)))
noncomputable def k8 : Ev -> SR := bq (ae 4)
noncomputable def gX : Ev -> SR := k8
noncomputable def dI : Ev -> SR := gU (λ δ => ((ae 0) δ).bind bY) (bN 5) (aS)
noncomputable def dG : Ev -> SR := av (dI) gX
noncomputable def dH : Ev -> SR := aV 4 (ae 3)
noncomputable def fj : Ev -> SR := av (dH) dG
noncomputable def bM (ds : List D) : R D := bL (fj (am 7 ds))
theorem nB : FnScope ["part", "ways", "text", "starts", "ends", "piece", "written"] ["part", "ways", "text", "starts"] (aj (aN 37)) := jZ
theorem mD {κ : Nat -> Addr} {X : Cx} {B : Gd} (cx : Cxo X) (hcalm : X.calm = true) (hN : X.N = [("part" : Str), ("ways" : Str), ("text" : Str), ("starts" : Str), ("ends" : Str), ("piece" : Str), ("written" : Str)]) (hsc : X.env.scope = aj (aN 37)) (hfn : ∀ y, X.fn y = true) (hu : X.A.units + 64 < cLine) (k_ends_of_piece : Cal κ X "ends_of_piece" 3 bA) : QZs κ B X (aw (aN 37)) fj := by
 have hnd : X.N.Nodup := by rw [hN]; decide +kernel
 have V0 : VP X 0 "part" := bh cx hnd hfn hN hsc
 have V1 : VP X 1 "ways" := bh cx hnd hfn hN hsc
 have V2 : VP X 2 "text" := bh cx hnd hfn hN hsc
 have V3 : VP X 3 "starts" := bh cx hnd hfn hN hsc
 have V4 : VP X 4 "ends" := bh cx hnd hfn hN hsc
 have V5 : VP X 5 "piece" := bh cx hnd hfn hN hsc
 have V6 : VP X 6 "written" := bh cx hnd hfn hN hsc
 have hg_ends_of_piece : Gl X "ends_of_piece" := b6 hsc
 refine af (F1 := dH) (F2 := dG) ?_ ?_
 ·exact V4.s (V3.v) rfl
 refine af (F1 := dI) (F2 := gX) ?_ ?_
 ·exact js cx hcalm (jq (V0.v)) (λ B => V5.t) (λ B => af (V6.s (xU (bj hu ((bW ((V5.v).read) ((aa).read) rfl).read) ((bK (l := [112, 108, 97, 99, 101]) (by decide +kernel)).read) (ao rfl)) (Co hu (V1.v) (bW ((V5.v).read) ((aa).read) rfl) (λ _ _ => rfl)) (bG (ac (bW ((V5.v).read) ((aa).read) rfl) (ak) rfl))) rfl) (af (V4.s (ay cx k_ends_of_piece rfl hg_ends_of_piece (ac (V6.v) (ac (V2.v) (ac (V4.v) (ak) rfl) rfl) rfl)) rfl) (ai (aO cx (bj hu ((V4.v).read) ((bG (ak)).read) (ao rfl)) (ai (ax cx (bG (ak)))) (az))))) rfl
 exact ai (ax cx (V4.v))
noncomputable def c7 : Ev -> SR := av (aV 5 (ae 3)) (av (aV 3 (aF bM (ag (ae 4) (ag (ae 1) (ag (ae 2) (ag (ae 5) (aq))))))) (eJ (bI yw (m2 bV (m2 bV (ae 4) (mC (.int 0))) (mC (.int 2))) (mC (.int 0))) (aV 3 (m2 rC (ae 5) (mL (dF (λ δ => ((ae 3) δ).bind bY) (bI j5 (ae 6) (ae 5)) (ae 6))))) (SR.next)))
noncomputable def jg : Ev -> SR := bq (m2 (d6 m7) (m1 b9 (ae 2)) (ae 3))
noncomputable def fq : Ev -> SR := jg
noncomputable def fE : Ev -> SR := gU (λ δ => ((ae 0) δ).bind bY) (bN 4) (c7)
noncomputable def fm : Ev -> SR := av (fE) fq
noncomputable def fD : Ev -> SR := aV 3 (cC (ag (mC (.int 0)) (aq)))
noncomputable def h9 : Ev -> SR := av (fD) fm
noncomputable def ck (ds : List D) : R D := bL (h9 (am 6 ds))
theorem qj : FnScope ["parts", "ways", "text", "ends", "part", "starts"] ["parts", "ways", "text"] (aj (aN 38)) := jZ
theorem pG {κ : Nat -> Addr} {X : Cx} {B : Gd} (cx : Cxo X) (hcalm : X.calm = true) (hN : X.N = [("parts" : Str), ("ways" : Str), ("text" : Str), ("ends" : Str), ("part" : Str), ("starts" : Str)]) (hsc : X.env.scope = aj (aN 38)) (hfn : ∀ y, X.fn y = true) (hu : X.A.units + 64 < cLine) (k_ends_of_part : Cal κ X "ends_of_part" 4 bM) (b_len : X.mg "len" = none) : QZs κ B X (aw (aN 38)) h9 := by
 have hnd : X.N.Nodup := by rw [hN]; decide +kernel
 have V0 : VP X 0 "parts" := bh cx hnd hfn hN hsc
 have V1 : VP X 1 "ways" := bh cx hnd hfn hN hsc
 have V2 : VP X 2 "text" := bh cx hnd hfn hN hsc
 have V3 : VP X 3 "ends" := bh cx hnd hfn hN hsc
 have V4 : VP X 4 "part" := bh cx hnd hfn hN hsc
 have V5 : VP X 5 "starts" := Fh cx hnd hfn hN hsc rfl rfl (by decide) (by decide)
 have hg_ends_of_part : Gl X "ends_of_part" := b6 hsc
 have hg_len : Gl X "len" := b6 hsc
 refine af (F1 := fD) (F2 := fm) ?_ ?_
 ·exact V3.s (bG (ac (aa) (ak) rfl)) rfl
 refine af (F1 := fE) (F2 := fq) ?_ ?_
 ·exact js cx hcalm (jq (V0.v)) (λ B => V4.t) (λ B => af (V5.s (V3.v) rfl) (af (V3.s (ay cx k_ends_of_part rfl hg_ends_of_part (ac (V4.v) (ac (V1.v) (ac (V2.v) (ac (V5.v) (ak) rfl) rfl) rfl) rfl)) rfl) (ai (aO cx (kK ((bW ((bW ((V4.v).read) ((aa).read) rfl).read) ((aa).read) rfl).read) ((aa).read) (ao rfl)) (ai (V3.s (Af ((V5.v).read) (((nt hcalm ⟨by decide +kernel, rfl, by decide +kernel, rfl, by rw [hN]; decide +kernel, by rw [hsc]; decide +kernel, hnd⟩ (oU (V3.v)) (λ X' B' hC => by (have cx : Cxo X' := hC.cxo); (have hcalm : X'.calm = true := hC.calm.trans hcalm); (have hu : X'.A.units + 64 < cLine := by rw [hC.A]; exact hu); (have z5 : ∀ {B : Gd} {pos : Pos}, QX κ B X' (.Name "starts" pos) (ae 5) := iK 5 (hC.n V5.n) (hC.vis rfl) (by decide) (by decide)); (have z6 : ∀ {B : Gd} {pos : Pos}, QX κ B X' (.Name "end" pos) (ae 6) := iK 6 (hC.x (by rw [hN]; rfl)) (.inl (hC.look rfl (by decide))) (by decide) (by decide)); exact xS (nu hu ((z6).read) ((z5).read) (ao rfl))) (λ X' B' hC => by (have cx : Cxo X' := hC.cxo); (have hcalm : X'.calm = true := hC.calm.trans hcalm); (have hu : X'.A.units + 64 < cLine := by rw [hC.A]; exact hu); (have z6 : ∀ {B : Gd} {pos : Pos}, QX κ B X' (.Name "end" pos) (ae 6) := iK 6 (hC.x (by rw [hN]; rfl)) (.inl (hC.look rfl (by decide))) (by decide) (by decide)); exact z6) rfl).px).read)) rfl)) (az))))) rfl
 exact ai (ax cx (xV hu ((dP hg_len b_len ((V2.v).read) rfl).read) ((V3.v).read) (ao rfl)))
noncomputable def h8 : Ev -> SR := bq (mZ (m2 (d6 yx) (mC (.int 0)) (ae 0)) (m2 (d6 yx) (ae 0) (mC c_LAST_NUMBER)))
noncomputable def bi (ds : List D) : R D := bL (h8 (am 1 ds))
theorem qi : FnScope ["number"] ["number"] (aj (aN 14)) := jZ
theorem pF {κ : Nat -> Addr} {X : Cx} {B : Gd} (cx : Cxo X) (hcalm : X.calm = true) (hN : X.N = [("number" : Str)]) (hsc : X.env.scope = aj (aN 14)) (hfn : ∀ y, X.fn y = true) (hu : X.A.units + 64 < cLine) (c_LAST_NUMBER' : ∃ u v, X.mg "LAST_NUMBER" = some u /\ aM v u /\ ∀ G, aH ⟨X.K, κ⟩ G v c_LAST_NUMBER) : QZs κ B X (aw (aN 14)) h8 := by
 have hnd : X.N.Nodup := by rw [hN]; decide +kernel
 have V0 : VP X 0 "number" := bh cx hnd hfn hN hsc
 have hg_LAST_NUMBER : Gl X "LAST_NUMBER" := b6 hsc
 have g_LAST_NUMBER : ∀ {B : Gd} {pos : Pos}, QX κ B X (.Name "LAST_NUMBER" pos) (mC c_LAST_NUMBER) := let ⟨_, _, h1, h2, h3⟩ := c_LAST_NUMBER'; bP hg_LAST_NUMBER h1 h2 h3 (by decide)
 exact ai (ax cx (ma (xW ((aa).read) ((V0.v).read) (ao rfl)) (jB (xW ((V0.v).read) ((g_LAST_NUMBER).read) (ao rfl)))))
noncomputable def bX : Ev -> SR := bq (m2 bz (m2 fN (m2 bz (m2 iR (ae 1) (mC (.int 365))) (m2 fM (ae 1) (mC (.int 4)))) (m2 fM (ae 1) (mC (.int 100)))) (m2 fM (ae 1) (mC (.int 400))))
noncomputable def ca : Ev -> SR := av (aV 1 (m2 fN (ae 0) (mC (.int 1)))) bX
noncomputable def aD (ds : List D) : R D := bL (ca (am 2 ds))
theorem jt : FnScope ["year", "whole"] ["year"] (aj (aN 13)) := jZ
theorem ji {κ : Nat -> Addr} {X : Cx} {B : Gd} (cx : Cxo X) (hcalm : X.calm = true) (hN : X.N = [("year" : Str), ("whole" : Str)]) (hsc : X.env.scope = aj (aN 13)) (hfn : ∀ y, X.fn y = true) (hu : X.A.units + 64 < cLine)  : QZs κ B X (aw (aN 13)) ca := by
 have hnd : X.N.Nodup := by rw [hN]; decide +kernel
 have V0 : VP X 0 "year" := bh cx hnd hfn hN hsc
 have V1 : VP X 1 "whole" := bh cx hnd hfn hN hsc
 refine af (F1 := aV 1 (m2 fN (ae 0) (mC (.int 1)))) (F2 := bX) ?_ ?_
 ·exact V1.s (cn ((V0.v).read) ((aa).read)) rfl
 exact ai (ax cx (aL ((cn ((aL ((dA ((V1.v).read) ((aa).read)).read) ((bJ ((V1.v).read) ((aa).read)).read)).read) ((bJ ((V1.v).read) ((aa).read)).read)).read) ((bJ ((V1.v).read) ((aa).read)).read)))
noncomputable def gA : Ev -> SR := kT 2 (λ i j => i + j) (mC (.int 1))
noncomputable def jK : Ev -> SR := bq (ae 2)
noncomputable def gy : Ev -> SR := jK
noncomputable def gQ : Ev -> SR := b7 (bI yx (aF aD (ag (m2 bz (ae 2) (mC (.int 1))) (aq))) (ae 0)) (gA) 10
noncomputable def dU : Ev -> SR := av (gQ) gy
noncomputable def gP : Ev -> SR := aV 2 (m2 bz (m2 bz (m2 iR (ae 1) (mC (.int 400))) (m2 fM (m2 ba (ae 0) (mC c_DAYS_OF_400_YEARS)) (mC (.int 366)))) (mC (.int 1)))
noncomputable def dS : Ev -> SR := av (gP) dU
noncomputable def dY : Ev -> SR := aV 1 (m2 fM (ae 0) (mC c_DAYS_OF_400_YEARS))
noncomputable def i9 : Ev -> SR := av (dY) dS
noncomputable def cS (ds : List D) : R D := bL (i9 (am 3 ds))
theorem sf : FnScope ["number", "cycles", "year"] ["number"] (aj (aN 15)) := jZ
theorem qP {κ : Nat -> Addr} {X : Cx} {B : Gd} (cx : Cxo X) (hcalm : X.calm = true) (hN : X.N = [("number" : Str), ("cycles" : Str), ("year" : Str)]) (hsc : X.env.scope = aj (aN 15)) (hfn : ∀ y, X.fn y = true) (hu : X.A.units + 64 < cLine) (k_days_ahead_of_year : Cal κ X "days_ahead_of_year" 1 aD) (c_DAYS_OF_400_YEARS' : ∃ u v, X.mg "DAYS_OF_400_YEARS" = some u /\ aM v u /\ ∀ G, aH ⟨X.K, κ⟩ G v c_DAYS_OF_400_YEARS) : QZs κ B X (aw (aN 15)) i9 := by
 have hnd : X.N.Nodup := by rw [hN]; decide +kernel
 have V0 : VP X 0 "number" := bh cx hnd hfn hN hsc
 have V1 : VP X 1 "cycles" := bh cx hnd hfn hN hsc
 have V2 : VP X 2 "year" := bh cx hnd hfn hN hsc
 have hg_days_ahead_of_year : Gl X "days_ahead_of_year" := b6 hsc
 have hg_DAYS_OF_400_YEARS : Gl X "DAYS_OF_400_YEARS" := b6 hsc
 have g_DAYS_OF_400_YEARS : ∀ {B : Gd} {pos : Pos}, QX κ B X (.Name "DAYS_OF_400_YEARS" pos) (mC c_DAYS_OF_400_YEARS) := let ⟨_, _, h1, h2, h3⟩ := c_DAYS_OF_400_YEARS'; bP hg_DAYS_OF_400_YEARS h1 h2 h3 (by decide)
 refine af (F1 := dY) (F2 := dS) ?_ ?_
 ·exact V1.s (bJ ((V0.v).read) ((g_DAYS_OF_400_YEARS).read)) rfl
 refine af (F1 := gP) (F2 := dU) ?_ ?_
 ·exact V2.s (aL ((aL ((dA ((V1.v).read) ((aa).read)).read) ((bJ ((aE ((V0.v).read) ((g_DAYS_OF_400_YEARS).read)).read) ((aa).read)).read)).read) ((aa).read)) rfl
 refine af (F1 := gQ) (F2 := gy) ?_ ?_
 ·exact lB cx 10 (Ah ((ay cx k_days_ahead_of_year rfl hg_days_ahead_of_year (ac (aL ((V2.v).read) ((aa).read)) (ak) rfl)).read) ((V0.v).read) (ao rfl)) (ai (V2.ua (aa)))
 exact ai (ax cx (V2.v))
noncomputable def kZ : Ev -> SR := bq (mZ (m2 (d6 cE) (m2 ba (ae 0) (mC (.int 4))) (mC (.int 0))) (wQ (m2 (d6 nW) (m2 ba (ae 0) (mC (.int 100))) (mC (.int 0))) (m2 (d6 cE) (m2 ba (ae 0) (mC (.int 400))) (mC (.int 0)))))
noncomputable def dL (ds : List D) : R D := bL (kZ (am 1 ds))
theorem vT : FnScope ["year"] ["year"] (aj (aN 11)) := jZ
theorem u7 {κ : Nat -> Addr} {X : Cx} {B : Gd} (cx : Cxo X) (hcalm : X.calm = true) (hN : X.N = [("year" : Str)]) (hsc : X.env.scope = aj (aN 11)) (hfn : ∀ y, X.fn y = true) (hu : X.A.units + 64 < cLine)  : QZs κ B X (aw (aN 11)) kZ := by
 have hnd : X.N.Nodup := by rw [hN]; decide +kernel
 have V0 : VP X 0 "year" := bh cx hnd hfn hN hsc
 exact ai (ax cx (ma (jr hu ((aE ((V0.v).read) ((aa).read)).read) ((aa).read) (ao rfl)) (jB (xY (xX hu ((aE ((V0.v).read) ((aa).read)).read) ((aa).read) (ao rfl)) (jB (jr hu ((aE ((V0.v).read) ((aa).read)).read) ((aa).read) (ao rfl)))))))
noncomputable def cf : Ev -> SR := bq (m2 bV (mC c_COMMON_LENGTHS) (m2 fN (ae 1) (mC (.int 1))))
noncomputable def fz : Ev -> SR := av (eJ (rh (bI cE (ae 1) (mC (.int 2))) (mT (aF dL (ag (ae 0) (aq))))) (bq (mC (.int 29))) (SR.next)) cf
noncomputable def bo (ds : List D) : R D := bL (fz (am 2 ds))
theorem nC : FnScope ["year", "month"] ["year", "month"] (aj (aN 12)) := jZ
theorem mF {κ : Nat -> Addr} {X : Cx} {B : Gd} (cx : Cxo X) (hcalm : X.calm = true) (hN : X.N = [("year" : Str), ("month" : Str)]) (hsc : X.env.scope = aj (aN 12)) (hfn : ∀ y, X.fn y = true) (hu : X.A.units + 64 < cLine) (k_is_leap : Cal κ X "is_leap" 1 dL) (c_COMMON_LENGTHS' : ∃ u v, X.mg "COMMON_LENGTHS" = some u /\ aM v u /\ ∀ G, aH ⟨X.K, κ⟩ G v c_COMMON_LENGTHS) : QZs κ B X (aw (aN 12)) fz := by
 have hnd : X.N.Nodup := by rw [hN]; decide +kernel
 have V0 : VP X 0 "year" := bh cx hnd hfn hN hsc
 have V1 : VP X 1 "month" := bh cx hnd hfn hN hsc
 have hg_is_leap : Gl X "is_leap" := b6 hsc
 have hg_COMMON_LENGTHS : Gl X "COMMON_LENGTHS" := b6 hsc
 have g_COMMON_LENGTHS : ∀ {B : Gd} {pos : Pos}, QX κ B X (.Name "COMMON_LENGTHS" pos) (mC c_COMMON_LENGTHS) := let ⟨_, _, h1, h2, h3⟩ := c_COMMON_LENGTHS'; bP hg_COMMON_LENGTHS h1 h2 h3 (by decide)
 refine af (F1 := eJ (rh (bI cE (ae 1) (mC (.int 2))) (mT (aF dL (ag (ae 0) (aq))))) (bq (mC (.int 29))) (SR.next)) (F2 := cf) ?_ ?_
 ·exact aO cx ((ny (bj hu ((V1.v).read) ((aa).read) (ao rfl)) (lA (d7 ((ay cx k_is_leap rfl hg_is_leap (ac (V0.v) (ak) rfl)).read) rfl))).t) (ai (ax cx (aa))) (az)
 exact ai (ax cx (bW ((g_COMMON_LENGTHS).read) ((cn ((V1.v).read) ((aa).read)).read) rfl))
noncomputable def ja : Ev -> SR := av (kT 2 (λ i j => i - j) (aF bo (ag (ae 1) (ag (ae 3) (aq))))) (kT 3 (λ i j => i + j) (mC (.int 1)))
noncomputable def lE : Ev -> SR := bq (m3 (ag (ae 1) (ag (ae 3) (ag (m2 bz (ae 2) (mC (.int 1))) (aq)))))
noncomputable def i3 : Ev -> SR := lE
noncomputable def jf : Ev -> SR := b7 (bI CV (ae 2) (aF bo (ag (ae 1) (ag (ae 3) (aq))))) (ja) 20
noncomputable def iZ : Ev -> SR := av (jf) i3
noncomputable def je : Ev -> SR := aV 3 (mC (.int 1))
noncomputable def iY : Ev -> SR := av (je) iZ
noncomputable def jd : Ev -> SR := aV 2 (m2 fN (ae 0) (aF aD (ag (ae 1) (aq))))
noncomputable def iX : Ev -> SR := av (jd) iY
noncomputable def jc : Ev -> SR := aV 1 (aF cS (ag (ae 0) (aq)))
noncomputable def iW : Ev -> SR := av (jc) iX
noncomputable def jb : Ev -> SR := eJ (sX (mT (aF bi (ag (ae 0) (aq))))) (SR.exc 1) (SR.next)
noncomputable def kX : Ev -> SR := av (jb) iW
noncomputable def dJ (ds : List D) : R D := bL (kX (am 4 ds))
theorem vR : FnScope ["number", "year", "rest", "month"] ["number"] (aj (aN 16)) := jZ
theorem u4 {κ : Nat -> Addr} {X : Cx} {B : Gd} (cx : Cxo X) (hcalm : X.calm = true) (hN : X.N = [("number" : Str), ("year" : Str), ("rest" : Str), ("month" : Str)]) (hsc : X.env.scope = aj (aN 16)) (hfn : ∀ y, X.fn y = true) (hu : X.A.units + 64 < cLine) (k_has_number : Cal κ X "has_number" 1 bi) (k_year_with : Cal κ X "year_with" 1 cS) (k_days_ahead_of_year : Cal κ X "days_ahead_of_year" 1 aD) (k_month_length : Cal κ X "month_length" 2 bo) (x_NoSuchDay : jH κ X ("NoSuchDay" : Str) 1) : QZs κ B X (aw (aN 16)) kX := by
 have hnd : X.N.Nodup := by rw [hN]; decide +kernel
 have V0 : VP X 0 "number" := bh cx hnd hfn hN hsc
 have V1 : VP X 1 "year" := bh cx hnd hfn hN hsc
 have V2 : VP X 2 "rest" := bh cx hnd hfn hN hsc
 have V3 : VP X 3 "month" := bh cx hnd hfn hN hsc
 have hg_has_number : Gl X "has_number" := b6 hsc
 have hg_year_with : Gl X "year_with" := b6 hsc
 have hg_days_ahead_of_year : Gl X "days_ahead_of_year" := b6 hsc
 have hg_month_length : Gl X "month_length" := b6 hsc
 have hg_NoSuchDay : Gl X "NoSuchDay" := b6 hsc
 refine af (F1 := jb) (F2 := iW) ?_ ?_
 ·exact aO cx (nv (d7 ((ay cx k_has_number rfl hg_has_number (ac (V0.v) (ak) rfl)).read) rfl)) (ai (bD cx hcalm x_NoSuchDay hg_NoSuchDay (by decide))) (az)
 refine af (F1 := jc) (F2 := iX) ?_ ?_
 ·exact V1.s (ay cx k_year_with rfl hg_year_with (ac (V0.v) (ak) rfl)) rfl
 refine af (F1 := jd) (F2 := iY) ?_ ?_
 ·exact V2.s (cn ((V0.v).read) ((ay cx k_days_ahead_of_year rfl hg_days_ahead_of_year (ac (V1.v) (ak) rfl)).read)) rfl
 refine af (F1 := je) (F2 := iZ) ?_ ?_
 ·exact V3.s (aa) rfl
 refine af (F1 := jf) (F2 := i3) ?_ ?_
 ·exact lB cx 20 (Ag ((V2.v).read) ((ay cx k_month_length rfl hg_month_length (ac (V1.v) (ac (V3.v) (ak) rfl) rfl)).read) (ao rfl)) (af (V2.us (ay cx k_month_length rfl hg_month_length (ac (V1.v) (ac (V3.v) (ak) rfl) rfl))) (ai (V3.ua (aa))))
 exact ai (ax cx (kI (ac (V1.v) (ac (V3.v) (ac (aL ((V2.v).read) ((aa).read)) (ak) rfl) rfl) rfl)))
noncomputable def hW : Ev -> SR := bq (mL (dF (λ δ => ((ag (mC (.int 1)) (ag (m2 bz (m1 b9 (ae 0)) (mC (.int 1))) (aq))) δ).bind su) (λ _ => .ok true) (yt (ae 0) (sW) (mP (ae 1)))))
noncomputable def bv (ds : List D) : R D := bL (hW (am 1 ds))
theorem qg : FnScope ["name"] ["name"] (aj (aN 34)) := jZ
theorem pD {κ : Nat -> Addr} {X : Cx} {B : Gd} (cx : Cxo X) (hcalm : X.calm = true) (hN : X.N = [("name" : Str)]) (hsc : X.env.scope = aj (aN 34)) (hfn : ∀ y, X.fn y = true) (hu : X.A.units + 64 < cLine) (b_len : X.mg "len" = none) (b_range : X.mg "range" = none) : QZs κ B X (aw (aN 34)) hW := by
 have hnd : X.N.Nodup := by rw [hN]; decide +kernel
 have V0 : VP X 0 "name" := Fh cx hnd hfn hN hsc rfl rfl (by decide) (by decide)
 have hg_len : Gl X "len" := b6 hsc
 have hg_range : Gl X "range" := b6 hsc
 exact ai (ax cx ((nt hcalm ⟨by decide +kernel, rfl, by decide +kernel, rfl, by rw [hN]; decide +kernel, by rw [hsc]; decide +kernel, hnd⟩ (qe hg_range b_range (ac (aa) (ac (aL ((dP hg_len b_len ((V0.v).read) rfl).read) ((aa).read)) (ak) rfl) rfl) rfl rfl) (λ X' B' hC => by (have cx : Cxo X' := hC.cxo); (have hcalm : X'.calm = true := hC.calm.trans hcalm); (have hu : X'.A.units + 64 < cLine := by rw [hC.A]; exact hu); exact rO) (λ X' B' hC => by (have cx : Cxo X' := hC.cxo); (have hcalm : X'.calm = true := hC.calm.trans hcalm); (have hu : X'.A.units + 64 < cLine := by rw [hC.A]; exact hu); (have z0 : ∀ {B : Gd} {pos : Pos}, QX κ B X' (.Name "name" pos) (ae 0) := iK 0 (hC.n V0.n) (hC.vis rfl) (by decide) (by decide)); (have z1 : ∀ {B : Gd} {pos : Pos}, QX κ B X' (.Name "length" pos) (ae 1) := iK 1 (hC.x (by rw [hN]; rfl)) (.inl (hC.look rfl (by decide))) (by decide) (by decide)); exact oV ((z0).read) (lz) (cq (z1))) rfl).px))
noncomputable def fA : Ev -> SR := bq (m2 ba (ae 0) (mC (.int 7)))
noncomputable def iA : Ev -> SR := av (eJ (sX (mT (aF bi (ag (ae 0) (aq))))) (SR.exc 1) (SR.next)) fA
noncomputable def bZ (ds : List D) : R D := bL (iA (am 1 ds))
theorem ql : FnScope ["number"] ["number"] (aj (aN 17)) := jZ
theorem pI {κ : Nat -> Addr} {X : Cx} {B : Gd} (cx : Cxo X) (hcalm : X.calm = true) (hN : X.N = [("number" : Str)]) (hsc : X.env.scope = aj (aN 17)) (hfn : ∀ y, X.fn y = true) (hu : X.A.units + 64 < cLine) (k_has_number : Cal κ X "has_number" 1 bi) (x_NoSuchDay : jH κ X ("NoSuchDay" : Str) 1) : QZs κ B X (aw (aN 17)) iA := by
 have hnd : X.N.Nodup := by rw [hN]; decide +kernel
 have V0 : VP X 0 "number" := bh cx hnd hfn hN hsc
 have hg_has_number : Gl X "has_number" := b6 hsc
 have hg_NoSuchDay : Gl X "NoSuchDay" := b6 hsc
 refine af (F1 := eJ (sX (mT (aF bi (ag (ae 0) (aq))))) (SR.exc 1) (SR.next)) (F2 := fA) ?_ ?_
 ·exact aO cx (nv (d7 ((ay cx k_has_number rfl hg_has_number (ac (V0.v) (ak) rfl)).read) rfl)) (ai (bD cx hcalm x_NoSuchDay hg_NoSuchDay (by decide))) (az)
 exact ai (ax cx (aE ((V0.v).read) ((aa).read)))
noncomputable def i4 : Ev -> SR := bq (cC (ag (m1 dD (ae 0)) (aq)))
noncomputable def kY : Ev -> SR := av (eJ (bI sv (ae 0) (mC (.int 10))) (bq (cC (ag (m1 dD (ae 0)) (ag (m1 (BB [48]) (ae 0)) (aq))))) (SR.next)) i4
noncomputable def cj (ds : List D) : R D := bL (kY (am 1 ds))
theorem vS : FnScope ["number"] ["number"] (aj (aN 33)) := jZ
theorem u5 {κ : Nat -> Addr} {X : Cx} {B : Gd} (cx : Cxo X) (hcalm : X.calm = true) (hN : X.N = [("number" : Str)]) (hsc : X.env.scope = aj (aN 33)) (hfn : ∀ y, X.fn y = true) (hu : X.A.units + 64 < cLine) (b_str : X.mg "str" = none) : QZs κ B X (aw (aN 33)) kY := by
 have hnd : X.N.Nodup := by rw [hN]; decide +kernel
 have V0 : VP X 0 "number" := bh cx hnd hfn hN hsc
 have hg_str : Gl X "str" := b6 hsc
 refine af (F1 := eJ (bI sv (ae 0) (mC (.int 10))) (bq (cC (ag (m1 dD (ae 0)) (ag (m1 (BB [48]) (ae 0)) (aq))))) (SR.next)) (F2 := i4) ?_ ?_
 ·exact aO cx (kL ((V0.v).read) ((aa).read) (ao rfl)) (ai (ax cx (bG (ac (fP hg_str b_str ((V0.v).read) rfl) (ac (Al (l := [48]) (by decide +kernel) (by decide) ((V0.v).read)) (ak) rfl) rfl)))) (az)
 exact ai (ax cx (bG (ac (fP hg_str b_str ((V0.v).read) rfl) (ak) rfl)))
noncomputable def iN : Ev -> SR := bq (ri ([Sum.inr ("d" : Str), Sum.inr ("m" : Str), Sum.inr ("y" : Str), Sum.inr ("Y" : Str), Sum.inr ("n" : Str), Sum.inr ("w" : Str)]) (ag (aF cj (ag (m2 bV (ae 1) (mC (.int 2))) (aq))) (ag (aF cj (ag (ae 3) (aq))) (ag (cC (ag (sV fO (m1 dD (m2 ba (ae 2) (mC (.int 100)))) (ag (mC (.int 2)) (aq))) (aq))) (ag (cC (ag (sV fO (m1 dD (ae 2)) (ag (mC (.int 4)) (aq))) (aq))) (ag (aF bv (ag (m2 bV (mC c_MONTHS) (m2 fN (ae 3) (mC (.int 1)))) (aq))) (ag (aF bv (ag (m2 bV (mC c_WEEKDAYS) (aF bZ (ag (ae 0) (aq)))) (aq))) (aq))))))))
noncomputable def eB : Ev -> SR := iN
noncomputable def eE : Ev -> SR := aV 3 (m2 bV (ae 1) (mC (.int 1)))
noncomputable def eu : Ev -> SR := av (eE) eB
noncomputable def eD : Ev -> SR := aV 2 (m2 bV (ae 1) (mC (.int 0)))
noncomputable def er : Ev -> SR := av (eD) eu
noncomputable def eC : Ev -> SR := aV 1 (aF dJ (ag (ae 0) (aq)))
noncomputable def gx : Ev -> SR := av (eC) er
noncomputable def b5 (ds : List D) : R D := bL (gx (am 4 ds))
theorem n8 : FnScope ["number", "date", "year", "month"] ["number"] (aj (aN 35)) := jZ
theorem nS {κ : Nat -> Addr} {X : Cx} {B : Gd} (cx : Cxo X) (hcalm : X.calm = true) (hN : X.N = [("number" : Str), ("date" : Str), ("year" : Str), ("month" : Str)]) (hsc : X.env.scope = aj (aN 35)) (hfn : ∀ y, X.fn y = true) (hu : X.A.units + 64 < cLine) (k_date_of : Cal κ X "date_of" 1 dJ) (k_beginnings : Cal κ X "beginnings" 1 bv) (k_weekday_of : Cal κ X "weekday_of" 1 bZ) (k_figures : Cal κ X "figures" 1 cj) (c_WEEKDAYS' : ∃ u v, X.mg "WEEKDAYS" = some u /\ aM v u /\ ∀ G, aH ⟨X.K, κ⟩ G v c_WEEKDAYS) (c_MONTHS' : ∃ u v, X.mg "MONTHS" = some u /\ aM v u /\ ∀ G, aH ⟨X.K, κ⟩ G v c_MONTHS) (b_str : X.mg "str" = none) : QZs κ B X (aw (aN 35)) gx := by
 have hnd : X.N.Nodup := by rw [hN]; decide +kernel
 have V0 : VP X 0 "number" := bh cx hnd hfn hN hsc
 have V1 : VP X 1 "date" := bh cx hnd hfn hN hsc
 have V2 : VP X 2 "year" := bh cx hnd hfn hN hsc
 have V3 : VP X 3 "month" := bh cx hnd hfn hN hsc
 have hg_date_of : Gl X "date_of" := b6 hsc
 have hg_beginnings : Gl X "beginnings" := b6 hsc
 have hg_weekday_of : Gl X "weekday_of" := b6 hsc
 have hg_figures : Gl X "figures" := b6 hsc
 have hg_WEEKDAYS : Gl X "WEEKDAYS" := b6 hsc
 have hg_MONTHS : Gl X "MONTHS" := b6 hsc
 have hg_str : Gl X "str" := b6 hsc
 have g_WEEKDAYS : ∀ {B : Gd} {pos : Pos}, QX κ B X (.Name "WEEKDAYS" pos) (mC c_WEEKDAYS) := let ⟨_, _, h1, h2, h3⟩ := c_WEEKDAYS'; bP hg_WEEKDAYS h1 h2 h3 (by decide)
 have g_MONTHS : ∀ {B : Gd} {pos : Pos}, QX κ B X (.Name "MONTHS" pos) (mC c_MONTHS) := let ⟨_, _, h1, h2, h3⟩ := c_MONTHS'; bP hg_MONTHS h1 h2 h3 (by decide)
 refine af (F1 := eC) (F2 := er) ?_ ?_
 ·exact V1.s (ay cx k_date_of rfl hg_date_of (ac (V0.v) (ak) rfl)) rfl
 refine af (F1 := eD) (F2 := eu) ?_ ?_
 ·exact V2.s (bW ((V1.v).read) ((aa).read) rfl) rfl
 refine af (F1 := eE) (F2 := eB) ?_ ?_
 ·exact V3.s (bW ((V1.v).read) ((aa).read) rfl) rfl
 exact ai (ax cx (xT (ff (ay cx k_figures rfl hg_figures (ac (bW ((V1.v).read) ((aa).read) rfl) (ak) rfl)) (ff (ay cx k_figures rfl hg_figures (ac (V3.v) (ak) rfl)) (ff (bG (ac (rR ((fP hg_str b_str ((aE ((V2.v).read) ((aa).read)).read) rfl).read) (ac (aa) (ak) rfl) rfl rfl rfl) (ak) rfl)) (ff (bG (ac (rR ((fP hg_str b_str ((V2.v).read) rfl).read) (ac (aa) (ak) rfl) rfl rfl rfl) (ak) rfl)) (ff (ay cx k_beginnings rfl hg_beginnings (ac (bW ((g_MONTHS).read) ((cn ((V3.v).read) ((aa).read)).read) rfl) (ak) rfl)) (ff (ay cx k_beginnings rfl hg_beginnings (ac (bW ((g_WEEKDAYS).read) ((ay cx k_weekday_of rfl hg_weekday_of (ac (V0.v) (ak) rfl)).read) rfl) (ak) rfl)) (x8))))))) (by simp) (by decide) (by decide +kernel)))
noncomputable def qA : Ev -> SR := bq (aF ck (ag (ae 3) (ag (aF b5 (ag (ae 2) (aq))) (ag (ae 1) (aq)))))
noncomputable def mi : Ev -> SR := qA
noncomputable def mq : Ev -> SR := ss (aF ci (ag (ae 1) (aq)))
noncomputable def mh : Ev -> SR := av (mq) mi
noncomputable def mo : Ev -> SR := aV 3 (aF bC (ag (ae 0) (aq)))
noncomputable def sy : Ev -> SR := av (mo) mh
noncomputable def j4 (ds : List D) : R D := bL (sy (am 4 ds))
theorem Cy : FnScope ["form", "text", "number", "parts"] ["form", "text", "number"] (aj (aN 39)) := jZ
theorem Ba {κ : Nat -> Addr} {X : Cx} {B : Gd} (cx : Cxo X) (hcalm : X.calm = true) (hN : X.N = [("form" : Str), ("text" : Str), ("number" : Str), ("parts" : Str)]) (hsc : X.env.scope = aj (aN 39)) (hfn : ∀ y, X.fn y = true) (hu : X.A.units + 64 < cLine) (k_parts_of_form : Cal κ X "parts_of_form" 1 bC) (k_check_text : Cal κ X "check_text" 1 ci) (k_is_written : Cal κ X "is_written" 3 ck) (k_ways_of_day : Cal κ X "ways_of_day" 1 b5) : QZs κ B X (aw (aN 39)) sy := by
 have hnd : X.N.Nodup := by rw [hN]; decide +kernel
 have V0 : VP X 0 "form" := bh cx hnd hfn hN hsc
 have V1 : VP X 1 "text" := bh cx hnd hfn hN hsc
 have V2 : VP X 2 "number" := bh cx hnd hfn hN hsc
 have V3 : VP X 3 "parts" := bh cx hnd hfn hN hsc
 have hg_parts_of_form : Gl X "parts_of_form" := b6 hsc
 have hg_check_text : Gl X "check_text" := b6 hsc
 have hg_is_written : Gl X "is_written" := b6 hsc
 have hg_ways_of_day : Gl X "ways_of_day" := b6 hsc
 refine af (F1 := mo) (F2 := mh) ?_ ?_
 ·exact V3.s (ay cx k_parts_of_form rfl hg_parts_of_form (ac (V0.v) (ak) rfl)) rfl
 refine af (F1 := mq) (F2 := mi) ?_ ?_
 ·exact Aj cx (ay cx k_check_text rfl hg_check_text (ac (V1.v) (ak) rfl)) rfl
 exact ai (ax cx (ay cx k_is_written rfl hg_is_written (ac (V3.v) (ac (ay cx k_ways_of_day rfl hg_ways_of_day (ac (V2.v) (ak) rfl)) (ac (V1.v) (ak) rfl) rfl) rfl)))
noncomputable def fC : Ev -> SR := aV 4 (m2 bz (ae 4) (aF aZ (ag (ae 0) (ag (ae 5) (aq)))))
noncomputable def jh : Ev -> SR := bq (ae 4)
noncomputable def fw : Ev -> SR := jh
noncomputable def fH : Ev -> SR := gU (λ δ => ((ag (mC (.int 1)) (ag (ae 1) (aq))) δ).bind su) (bN 5) (fC)
noncomputable def fv : Ev -> SR := av (fH) fw
noncomputable def fG : Ev -> SR := aV 4 (m2 fN (m2 bz (m2 bz (m2 fN (m2 bz (m2 iR (mC (.int 365)) (ae 3)) (m2 fM (ae 3) (mC (.int 4)))) (m2 fM (ae 3) (mC (.int 100)))) (m2 fM (ae 3) (mC (.int 400)))) (ae 2)) (mC (.int 1)))
noncomputable def fu : Ev -> SR := av (fG) fv
noncomputable def fF : Ev -> SR := aV 3 (m2 fN (ae 0) (mC (.int 1)))
noncomputable def ic : Ev -> SR := av (fF) fu
noncomputable def cm (ds : List D) : R D := bL (ic (am 6 ds))
theorem qk : FnScope ["_law_year", "_law_month_here", "_law_day", "_law_past", "_law_number_here", "_law_k"] ["_law_year", "_law_month_here", "_law_day"] (aj (aN 46)) := jZ
theorem pH {κ : Nat -> Addr} {X : Cx} {B : Gd} (cx : Cxo X) (hcalm : X.calm = true) (hN : X.N = [("_law_year" : Str), ("_law_month_here" : Str), ("_law_day" : Str), ("_law_past" : Str), ("_law_number_here" : Str), ("_law_k" : Str)]) (hsc : X.env.scope = aj (aN 46)) (hfn : ∀ y, X.fn y = true) (hu : X.A.units + 64 < cLine) (k_law_month : Cal κ X "_law_month" 2 aZ) (b_range : X.mg "range" = none) : QZs κ B X (aw (aN 46)) ic := by
 have hnd : X.N.Nodup := by rw [hN]; decide +kernel
 have V0 : VP X 0 "_law_year" := bh cx hnd hfn hN hsc
 have V1 : VP X 1 "_law_month_here" := bh cx hnd hfn hN hsc
 have V2 : VP X 2 "_law_day" := bh cx hnd hfn hN hsc
 have V3 : VP X 3 "_law_past" := bh cx hnd hfn hN hsc
 have V4 : VP X 4 "_law_number_here" := bh cx hnd hfn hN hsc
 have V5 : VP X 5 "_law_k" := bh cx hnd hfn hN hsc
 have hg_law_month : Gl X "_law_month" := b6 hsc
 have hg_range : Gl X "range" := b6 hsc
 refine af (F1 := fF) (F2 := fu) ?_ ?_
 ·exact V3.s (cn ((V0.v).read) ((aa).read)) rfl
 refine af (F1 := fG) (F2 := fv) ?_ ?_
 ·exact V4.s (cn ((aL ((aL ((cn ((aL ((dA ((aa).read) ((V3.v).read)).read) ((bJ ((V3.v).read) ((aa).read)).read)).read) ((bJ ((V3.v).read) ((aa).read)).read)).read) ((bJ ((V3.v).read) ((aa).read)).read)).read) ((V2.v).read)).read) ((aa).read)) rfl
 refine af (F1 := fH) (F2 := fw) ?_ ?_
 ·exact js cx hcalm (tQ hg_range b_range (ac (aa) (ac (V1.v) (ak) rfl) rfl) rfl rfl) (λ B => V5.t) (λ B => ai (V4.s (aL ((V4.v).read) ((ay cx k_law_month rfl hg_law_month (ac (V0.v) (ac (V5.v) (ak) rfl) rfl)).read)) rfl)) rfl
 exact ai (ax cx (V4.v))
noncomputable def ud : Ev -> SR := bq (mZ (m1 (λ x => CQ (rc x .bool)) (ae 8)) (m2 (d6 cE) (ae 8) (m2 (d6 m7) (ae 7) (ae 5))))
noncomputable def o9 : Ev -> SR := ud
noncomputable def po : Ev -> SR := aV 8 (aF j4 (ag (ae 4) (ag (ae 7) (ag (aF cm (ag (ae 1) (ag (ae 2) (ag (ae 3) (aq))))) (aq)))))
noncomputable def o8 : Ev -> SR := av (po) o9
noncomputable def kl : Ev -> SR := eJ (bI cE (ae 7) (mC (.str []))) (aV 7 (ae 6)) (SR.next)
noncomputable def o7 : Ev -> SR := av (kl) o8
noncomputable def pk : Ev -> SR := aV 7 (aF dM (ag (ae 6) (ag (m2 ba (aF be (ag (ae 0) (ag (mC (.int 3)) (aq)))) (mC (.int 7))) (ag (aF be (ag (ae 0) (ag (mC (.int 4)) (aq)))) (aq)))))
noncomputable def o6 : Ev -> SR := av (pk) o7
noncomputable def pj : Ev -> SR := aV 6 (m2 bV (ae 5) (m2 ba (m2 fM (aF be (ag (ae 0) (ag (mC (.int 2)) (aq)))) (mC (.int 4))) (m1 b9 (ae 5))))
noncomputable def o5 : Ev -> SR := av (pj) o6
noncomputable def ph : Ev -> SR := aV 5 (aF dN (ag (ae 4) (ag (m3 (ag (ae 1) (ag (ae 2) (ag (ae 3) (aq))))) (aq))))
noncomputable def o4 : Ev -> SR := av (ph) o5
noncomputable def kj : Ev -> SR := aV 4 (m2 bV (cC (λ _ => .ok [D.str [60, 100, 62], D.str [60, 109, 62], D.str [60, 121, 62], D.str [60, 89, 62]])) (m2 ba (aF be (ag (ae 0) (ag (mC (.int 2)) (aq)))) (mC (.int 4))))
noncomputable def jw : Ev -> SR := av (kj) o4
noncomputable def ki : Ev -> SR := eJ (bI cE (m2 ba (m2 fM (aF be (ag (ae 0) (ag (mC (.int 1)) (aq)))) (mC (.int 2))) (mC (.int 3))) (mC (.int 2))) (av (aV 2 (m2 bV (cC (ag (mC (.int 1)) (ag (mC (.int 3)) (ag (mC (.int 5)) (ag (mC (.int 7)) (ag (mC (.int 8)) (ag (mC (.int 10)) (ag (mC (.int 12)) (ag (ae 2) (aq)))))))))) (m2 ba (ae 2) (mC (.int 8))))) (aV 3 (aF aZ (ag (ae 1) (ag (ae 2) (aq)))))) (SR.next)
noncomputable def l0 : Ev -> SR := av (ki) jw
noncomputable def l3 : Ev -> SR := eJ (bI cE (m2 ba (m2 fM (aF be (ag (ae 0) (ag (mC (.int 1)) (aq)))) (mC (.int 2))) (mC (.int 3))) (mC (.int 1))) (av (aV 1 (m2 bz (mC (.int 1)) (m2 ba (ae 1) (mC (.int 20))))) (aV 3 (AR w6 (ag (ae 3) (ag (mC (.int 28)) (aq)))))) (SR.next)
noncomputable def lZ : Ev -> SR := av (l3) l0
noncomputable def pg : Ev -> SR := v2 (qD 3 (dr (bN 1) (dr (bN 2) (dr (bN 3) (om))))) (aF cQ (ag (aF be (ag (ae 0) (ag (mC (.int 0)) (aq)))) (ag (m2 (d6 cE) (m2 ba (aF be (ag (ae 0) (ag (mC (.int 1)) (aq)))) (mC (.int 2))) (mC (.int 0))) (aq))))
noncomputable def v6 : Ev -> SR := av (pg) lZ
noncomputable def ux (ds : List D) : R D := bL (v6 (am 9 ds))
theorem DQ : FnScope ["_law_script", "_law_year", "_law_month_here", "_law_day", "_law_token", "_law_ways_here", "_law_way", "_law_text_here", "_law_found"] ["_law_script"] (aj (aN 49)) := jZ
theorem mE {κ : Nat -> Addr} {X : Cx} {B : Gd} (cx : Cxo X) (hcalm : X.calm = true) (hN : X.N = [("_law_script" : Str), ("_law_year" : Str), ("_law_month_here" : Str), ("_law_day" : Str), ("_law_token" : Str), ("_law_ways_here" : Str), ("_law_way" : Str), ("_law_text_here" : Str), ("_law_found" : Str)]) (hsc : X.env.scope = aj (aN 49)) (hfn : ∀ y, X.fn y = true) (hu : X.A.units + 64 < cLine) (k_law_first : Cal κ X "_law_first" 2 cQ) (k_law_at : Cal κ X "_law_at" 2 be) (k_law_month : Cal κ X "_law_month" 2 aZ) (k_law_ways : Cal κ X "_law_ways" 2 dN) (k_law_text : Cal κ X "_law_text" 3 dM) (k_fits : Cal κ X "fits" 3 j4) (k_law_number : Cal κ X "_law_number" 3 cm) (b_bool : X.mg "bool" = none) (b_isinstance : X.mg "isinstance" = none) (b_len : X.mg "len" = none) (b_min : X.mg "min" = none) : QZs κ B X (aw (aN 49)) v6 := by
 have hnd : X.N.Nodup := by rw [hN]; decide +kernel
 have V0 : VP X 0 "_law_script" := bh cx hnd hfn hN hsc
 have V1 : VP X 1 "_law_year" := bh cx hnd hfn hN hsc
 have V2 : VP X 2 "_law_month_here" := bh cx hnd hfn hN hsc
 have V3 : VP X 3 "_law_day" := bh cx hnd hfn hN hsc
 have V4 : VP X 4 "_law_token" := bh cx hnd hfn hN hsc
 have V5 : VP X 5 "_law_ways_here" := bh cx hnd hfn hN hsc
 have V6 : VP X 6 "_law_way" := bh cx hnd hfn hN hsc
 have V7 : VP X 7 "_law_text_here" := bh cx hnd hfn hN hsc
 have V8 : VP X 8 "_law_found" := bh cx hnd hfn hN hsc
 have hg_law_first : Gl X "_law_first" := b6 hsc
 have hg_law_at : Gl X "_law_at" := b6 hsc
 have hg_law_month : Gl X "_law_month" := b6 hsc
 have hg_law_ways : Gl X "_law_ways" := b6 hsc
 have hg_law_text : Gl X "_law_text" := b6 hsc
 have hg_fits : Gl X "fits" := b6 hsc
 have hg_law_number : Gl X "_law_number" := b6 hsc
 have hg_bool : Gl X "bool" := b6 hsc
 have hg_isinstance : Gl X "isinstance" := b6 hsc
 have hg_len : Gl X "len" := b6 hsc
 have hg_min : Gl X "min" := b6 hsc
 refine af (F1 := pg) (F2 := lZ) ?_ ?_
 ·exact x9 cx (ay cx k_law_first rfl hg_law_first (ac (ay cx k_law_at rfl hg_law_at (ac (V0.v) (ac (aa) (ak) rfl) rfl)) (ac (jr hu ((aE ((ay cx k_law_at rfl hg_law_at (ac (V0.v) (ac (aa) (ak) rfl) rfl)).read) ((aa).read)).read) ((aa).read) (ao rfl)) (ak) rfl) rfl)) (tN hcalm (fZ (V1.t) (fZ (V2.t) (fZ (V3.t) (lx) rfl) rfl) rfl) rfl rfl) rfl rfl rfl
 refine af (F1 := l3) (F2 := l0) ?_ ?_
 ·exact aO cx (bj hu ((aE ((bJ ((ay cx k_law_at rfl hg_law_at (ac (V0.v) (ac (aa) (ak) rfl) rfl)).read) ((aa).read)).read) ((aa).read)).read) ((aa).read) (ao rfl)) (af (V1.s (aL ((aa).read) ((aE ((V1.v).read) ((aa).read)).read)) rfl) (ai (V3.s (Cp hcalm hg_min b_min (ac (V3.v) (ac (aa) (ak) rfl) rfl) rfl rfl) rfl))) (az)
 refine af (F1 := ki) (F2 := jw) ?_ ?_
 ·exact aO cx (bj hu ((aE ((bJ ((ay cx k_law_at rfl hg_law_at (ac (V0.v) (ac (aa) (ak) rfl) rfl)).read) ((aa).read)).read) ((aa).read)).read) ((aa).read) (ao rfl)) (af (V2.s (bW ((bG (ac (aa) (ac (aa) (ac (aa) (ac (aa) (ac (aa) (ac (aa) (ac (aa) (ac (V2.v) (ak) rfl) rfl) rfl) rfl) rfl) rfl) rfl) rfl)).read) ((aE ((V2.v).read) ((aa).read)).read) rfl) rfl) (ai (V3.s (ay cx k_law_month rfl hg_law_month (ac (V1.v) (ac (V2.v) (ak) rfl) rfl)) rfl))) (az)
 refine af (F1 := kj) (F2 := o4) ?_ ?_
 ·exact V4.s (bW ((bG (iL (ds := [D.str [60, 100, 62], D.str [60, 109, 62], D.str [60, 121, 62], D.str [60, 89, 62]]) (by rfl))).read) ((aE ((ay cx k_law_at rfl hg_law_at (ac (V0.v) (ac (aa) (ak) rfl) rfl)).read) ((aa).read)).read) rfl) rfl
 refine af (F1 := ph) (F2 := o5) ?_ ?_
 ·exact V5.s (ay cx k_law_ways rfl hg_law_ways (ac (V4.v) (ac (kI (ac (V1.v) (ac (V2.v) (ac (V3.v) (ak) rfl) rfl) rfl)) (ak) rfl) rfl)) rfl
 refine af (F1 := pj) (F2 := o6) ?_ ?_
 ·exact V6.s (bW ((V5.v).read) ((aE ((bJ ((ay cx k_law_at rfl hg_law_at (ac (V0.v) (ac (aa) (ak) rfl) rfl)).read) ((aa).read)).read) ((dP hg_len b_len ((V5.v).read) rfl).read)).read) rfl) rfl
 refine af (F1 := pk) (F2 := o7) ?_ ?_
 ·exact V7.s (ay cx k_law_text rfl hg_law_text (ac (V6.v) (ac (aE ((ay cx k_law_at rfl hg_law_at (ac (V0.v) (ac (aa) (ak) rfl) rfl)).read) ((aa).read)) (ac (ay cx k_law_at rfl hg_law_at (ac (V0.v) (ac (aa) (ak) rfl) rfl)) (ak) rfl) rfl) rfl)) rfl
 refine af (F1 := kl) (F2 := o8) ?_ ?_
 ·exact aO cx (bj hu ((V7.v).read) ((bK (l := []) (by decide +kernel)).read) (ao rfl)) (ai (V7.s (V6.v) rfl)) (az)
 refine af (F1 := po) (F2 := o9) ?_ ?_
 ·exact V8.s (ay cx k_fits rfl hg_fits (ac (V4.v) (ac (V7.v) (ac (ay cx k_law_number rfl hg_law_number (ac (V1.v) (ac (V2.v) (ac (V3.v) (ak) rfl) rfl) rfl)) (ak) rfl) rfl) rfl)) rfl
 exact ai (ax cx (ma (vP .bool (by decide +kernel) hg_isinstance b_isinstance hg_bool b_bool (by decide) (by decide) ((V8.v).read) rfl) (jB (jr hu ((V8.v).read) ((xV hu ((V7.v).read) ((V5.v).read) (ao rfl)).read) (ao rfl)))))
structure TX (K : PySem.W.Frag) (mg : Str -> Option Value) (κ : Nat -> Addr) : Prop where
 fn_law_leap : FT K mg "_law_leap" (aN 43) ["_law_year"]
 fn_law_month : FT K mg "_law_month" (aN 44) ["_law_year", "_law_month_here"]
 fn_law_first : FT K mg "_law_first" (aN 45) ["_law_cell", "_law_mixed"]
 fn_law_at : FT K mg "_law_at" (aN 41) ["_law_script", "_law_k"]
 fn_law_ways : FT K mg "_law_ways" (aN 47) ["_law_token", "_law_when"]
 fn_law_draws : FT K mg "_law_draws" (aN 42) ["_law_cell", "_law_mixed", "_law_many", "_law_most"]
 fn_law_text : FT K mg "_law_text" (aN 48) ["_law_way", "_law_pick", "_law_more"]
 fn_split_into_parts : FT K mg "split_into_parts" (aN 31) ["pieces"]
 fn_token_at : FT K mg "token_at" (aN 23) ["form", "start"]
 fn_cut_into_tokens : FT K mg "cut_into_tokens" (aN 24) ["form"]
 fn_piece_of : FT K mg "piece_of" (aN 25) ["token", "part"]
 fn_number_pieces : FT K mg "number_pieces" (aN 26) ["tokens"]
 fn_read_form : FT K mg "read_form" (aN 27) ["form"]
 fn_parts_of_form : FT K mg "parts_of_form" (aN 32) ["form"]
 fn_check_text : FT K mg "check_text" (aN 30) ["text"]
 fn_ends_of_piece : FT K mg "ends_of_piece" (aN 36) ["written", "text", "starts"]
 fn_ends_of_part : FT K mg "ends_of_part" (aN 37) ["part", "ways", "text", "starts"]
 fn_is_written : FT K mg "is_written" (aN 38) ["parts", "ways", "text"]
 fn_has_number : FT K mg "has_number" (aN 14) ["number"]
 fn_days_ahead_of_year : FT K mg "days_ahead_of_year" (aN 13) ["year"]
 fn_year_with : FT K mg "year_with" (aN 15) ["number"]
 fn_is_leap : FT K mg "is_leap" (aN 11) ["year"]
 fn_month_length : FT K mg "month_length" (aN 12) ["year", "month"]
 fn_date_of : FT K mg "date_of" (aN 16) ["number"]
 fn_beginnings : FT K mg "beginnings" (aN 34) ["name"]
 fn_weekday_of : FT K mg "weekday_of" (aN 17) ["number"]
 fn_figures : FT K mg "figures" (aN 33) ["number"]
 fn_ways_of_day : FT K mg "ways_of_day" (aN 35) ["number"]
 fn_fits : FT K mg "fits" (aN 39) ["form", "text", "number"]
 fn_law_number : FT K mg "_law_number" (aN 46) ["_law_year", "_law_month_here", "_law_day"]
 fn_law : FT K mg "law" (aN 49) ["_law_script"]
 c_PLACES : ∃ u v, mg ("PLACES" : Str) = some u /\ aM v u /\ ∀ G, aH ⟨K, κ⟩ G v Lw.c_PLACES
 c_PLAIN_SIGNS : ∃ u v, mg ("PLAIN_SIGNS" : Str) = some u /\ aM v u /\ ∀ G, aH ⟨K, κ⟩ G v Lw.c_PLAIN_SIGNS
 c_MOST_LACKING_PARTS : ∃ u v, mg ("MOST_LACKING_PARTS" : Str) = some u /\ aM v u /\ ∀ G, aH ⟨K, κ⟩ G v Lw.c_MOST_LACKING_PARTS
 c_LONGEST_FORM : ∃ u v, mg ("LONGEST_FORM" : Str) = some u /\ aM v u /\ ∀ G, aH ⟨K, κ⟩ G v Lw.c_LONGEST_FORM
 c_LONGEST_TEXT : ∃ u v, mg ("LONGEST_TEXT" : Str) = some u /\ aM v u /\ ∀ G, aH ⟨K, κ⟩ G v Lw.c_LONGEST_TEXT
 c_LAST_NUMBER : ∃ u v, mg ("LAST_NUMBER" : Str) = some u /\ aM v u /\ ∀ G, aH ⟨K, κ⟩ G v Lw.c_LAST_NUMBER
 c_DAYS_OF_400_YEARS : ∃ u v, mg ("DAYS_OF_400_YEARS" : Str) = some u /\ aM v u /\ ∀ G, aH ⟨K, κ⟩ G v Lw.c_DAYS_OF_400_YEARS
 c_COMMON_LENGTHS : ∃ u v, mg ("COMMON_LENGTHS" : Str) = some u /\ aM v u /\ ∀ G, aH ⟨K, κ⟩ G v Lw.c_COMMON_LENGTHS
 c_WEEKDAYS : ∃ u v, mg ("WEEKDAYS" : Str) = some u /\ aM v u /\ ∀ G, aH ⟨K, κ⟩ G v Lw.c_WEEKDAYS
 c_MONTHS : ∃ u v, mg ("MONTHS" : Str) = some u /\ aM v u /\ ∀ G, aH ⟨K, κ⟩ G v Lw.c_MONTHS
 b_bool : mg ("bool" : Str) = none
 b_enumerate : mg ("enumerate" : Str) = none
 b_int : mg ("int" : Str) = none
 b_isinstance : mg ("isinstance" : Str) = none
 b_len : mg ("len" : Str) = none
 b_min : mg ("min" : Str) = none
 b_range : mg ("range" : Str) = none
 b_str : mg ("str" : Str) = none
 x_BadForm : uR κ K mg ("BadForm" : Str) 3
 x_BadText : uR κ K mg ("BadText" : Str) 5
 x_NoSuchDay : uR κ K mg ("NoSuchDay" : Str) 1
section
variable {P : Program} {w : World} {K : PySem.W.Frag} {mg : Str -> Option Value} {base : Heap} {κ : Nat -> Addr}
theorem rE (T : TX K mg κ)  : MC P w K mg base κ "_law_leap" ["_law_year"] cL 1 := by
 obtain ⟨f, fd, F, hm, hb⟩ := T.fn_law_leap
 refine ⟨f, fd, au (k := 0) F tS (λ X B cx hc e1 e2 e3 e4 e5 hN hsc hfn hr hfr => ?_), hm, F.kp, hb, F.at⟩
 subst e1 e2 e3 e4 e5
 exact sI cx hc hN hsc hfn hr.units
theorem pY (T : TX K mg κ) (o_law_leap : MC P w K mg base κ "_law_leap" ["_law_year"] cL 1) : MC P w K mg base κ "_law_month" ["_law_year", "_law_month_here"] aZ 2 := by
 obtain ⟨f, fd, F, hm, hb⟩ := T.fn_law_month
 refine ⟨f, fd, au (k := 1) F sd (λ X B cx hc e1 e2 e3 e4 e5 hN hsc hfn hr hfr => ?_), hm, F.kp, hb, F.at⟩
 subst e1 e2 e3 e4 e5
 exact qN cx hc hN hsc hfn hr.units (o_law_leap.cal hr (by decide))
theorem pX (T : TX K mg κ) (o_law_month : MC P w K mg base κ "_law_month" ["_law_year", "_law_month_here"] aZ 2) : MC P w K mg base κ "_law_first" ["_law_cell", "_law_mixed"] cQ 3 := by
 obtain ⟨f, fd, F, hm, hb⟩ := T.fn_law_first
 refine ⟨f, fd, au (k := 2) F sa (λ X B cx hc e1 e2 e3 e4 e5 hN hsc hfn hr hfr => ?_), hm, F.kp, hb, F.at⟩
 subst e1 e2 e3 e4 e5
 exact qM cx hc hN hsc hfn hr.units (o_law_month.cal hr (by decide))
theorem vw (T : TX K mg κ)  : MC P w K mg base κ "_law_at" ["_law_script", "_law_k"] be 1 := by
 obtain ⟨f, fd, F, hm, hb⟩ := T.fn_law_at
 refine ⟨f, fd, au (k := 0) F yd (λ X B cx hc e1 e2 e3 e4 e5 hN hsc hfn hr hfr => ?_), hm, F.kp, hb, F.at⟩
 subst e1 e2 e3 e4 e5
 exact wo cx hc hN hsc hfn hr.units T.b_len
theorem rG (T : TX K mg κ)  : MC P w K mg base κ "_law_ways" ["_law_token", "_law_when"] dN 1 := by
 obtain ⟨f, fd, F, hm, hb⟩ := T.fn_law_ways
 refine ⟨f, fd, au (k := 0) F tU (λ X B cx hc e1 e2 e3 e4 e5 hN hsc hfn hr hfr => ?_), hm, F.kp, hb, F.at⟩
 subst e1 e2 e3 e4 e5
 exact sK cx hc hN hsc hfn hr.units T.b_int T.b_len T.b_str
theorem pW (T : TX K mg κ)  : MC P w K mg base κ "_law_draws" ["_law_cell", "_law_mixed", "_law_many", "_law_most"] bF 1 := by
 obtain ⟨f, fd, F, hm, hb⟩ := T.fn_law_draws
 refine ⟨f, fd, au (k := 0) F rZ (λ X B cx hc e1 e2 e3 e4 e5 hN hsc hfn hr hfr => ?_), hm, F.kp, hb, F.at⟩
 subst e1 e2 e3 e4 e5
 exact qL cx hc hN hsc hfn hr.units T.b_range
theorem rF (T : TX K mg κ) (o_law_draws : MC P w K mg base κ "_law_draws" ["_law_cell", "_law_mixed", "_law_many", "_law_most"] bF 1) : MC P w K mg base κ "_law_text" ["_law_way", "_law_pick", "_law_more"] dM 2 := by
 obtain ⟨f, fd, F, hm, hb⟩ := T.fn_law_text
 refine ⟨f, fd, au (k := 1) F tT (λ X B cx hc e1 e2 e3 e4 e5 hN hsc hfn hr hfr => ?_), hm, F.kp, hb, F.at⟩
 subst e1 e2 e3 e4 e5
 exact sJ cx hc hN hsc hfn hr.units (o_law_draws.cal hr (by decide)) T.b_len T.b_str
theorem jG (T : TX K mg κ)  : MC P w K mg base κ "split_into_parts" ["pieces"] bg 1 := by
 obtain ⟨f, fd, F, hm, hb⟩ := T.fn_split_into_parts
 refine ⟨f, fd, au (k := 0) F ka (λ X B cx hc e1 e2 e3 e4 e5 hN hsc hfn hr hfr => ?_), hm, F.kp, hb, F.at⟩
 subst e1 e2 e3 e4 e5
 exact jX cx hc hN hsc hfn hr.units T.b_enumerate
theorem rJ (T : TX K mg κ)  : MC P w K mg base κ "token_at" ["form", "start"] cN 1 := by
 obtain ⟨f, fd, F, hm, hb⟩ := T.fn_token_at
 refine ⟨f, fd, au (k := 0) F tW (λ X B cx hc e1 e2 e3 e4 e5 hN hsc hfn hr hfr => ?_), hm, F.kp, hb, F.at⟩
 subst e1 e2 e3 e4 e5
 exact sM cx hc hN hsc hfn hr.units T.c_PLACES T.c_PLAIN_SIGNS (T.x_BadForm.at rfl rfl)
theorem j6 (T : TX K mg κ) (o_token_at : MC P w K mg base κ "token_at" ["form", "start"] cN 1) : MC P w K mg base κ "cut_into_tokens" ["form"] aW 2 := by
 obtain ⟨f, fd, F, hm, hb⟩ := T.fn_cut_into_tokens
 refine ⟨f, fd, au (k := 1) F kQ (λ X B cx hc e1 e2 e3 e4 e5 hN hsc hfn hr hfr => ?_), hm, F.kp, hb, F.at⟩
 subst e1 e2 e3 e4 e5
 exact kz cx hc hN hsc hfn hr.units (o_token_at.cal hr (by decide)) T.b_len
theorem rH (T : TX K mg κ)  : MC P w K mg base κ "piece_of" ["token", "part"] cM 1 := by
 obtain ⟨f, fd, F, hm, hb⟩ := T.fn_piece_of
 refine ⟨f, fd, au (k := 0) F tV (λ X B cx hc e1 e2 e3 e4 e5 hN hsc hfn hr hfr => ?_), hm, F.kp, hb, F.at⟩
 subst e1 e2 e3 e4 e5
 exact sL cx hc hN hsc hfn hr.units T.c_PLACES
theorem lq (T : TX K mg κ) (o_piece_of : MC P w K mg base κ "piece_of" ["token", "part"] cM 1) : MC P w K mg base κ "number_pieces" ["tokens"] bB 2 := by
 obtain ⟨f, fd, F, hm, hb⟩ := T.fn_number_pieces
 refine ⟨f, fd, au (k := 1) F lW (λ X B cx hc e1 e2 e3 e4 e5 hN hsc hfn hr hfr => ?_), hm, F.kp, hb, F.at⟩
 subst e1 e2 e3 e4 e5
 exact lO cx hc hN hsc hfn hr.units (o_piece_of.cal hr (by decide)) T.c_MOST_LACKING_PARTS T.b_enumerate (T.x_BadForm.at rfl rfl)
theorem pZ (T : TX K mg κ) (o_cut_into_tokens : MC P w K mg base κ "cut_into_tokens" ["form"] aW 2) (o_number_pieces : MC P w K mg base κ "number_pieces" ["tokens"] bB 2) : MC P w K mg base κ "read_form" ["form"] cR 3 := by
 obtain ⟨f, fd, F, hm, hb⟩ := T.fn_read_form
 refine ⟨f, fd, au (k := 2) F se (λ X B cx hc e1 e2 e3 e4 e5 hN hsc hfn hr hfr => ?_), hm, F.kp, hb, F.at⟩
 subst e1 e2 e3 e4 e5
 exact qO cx hc hN hsc hfn hr.units (o_cut_into_tokens.cal hr (by decide)) (o_number_pieces.cal hr (by decide)) T.c_LONGEST_FORM T.c_PLACES T.b_len (T.x_BadForm.at rfl rfl)
theorem lu (T : TX K mg κ) (o_split_into_parts : MC P w K mg base κ "split_into_parts" ["pieces"] bg 1) (o_read_form : MC P w K mg base κ "read_form" ["form"] cR 3) : MC P w K mg base κ "parts_of_form" ["form"] bC 4 := by
 obtain ⟨f, fd, F, hm, hb⟩ := T.fn_parts_of_form
 refine ⟨f, fd, au (k := 3) F lX (λ X B cx hc e1 e2 e3 e4 e5 hN hsc hfn hr hfr => ?_), hm, F.kp, hb, F.at⟩
 subst e1 e2 e3 e4 e5
 exact lP cx hc hN hsc hfn hr.units (o_split_into_parts.cal hr (by decide)) (o_read_form.cal hr (by decide))
theorem nY (T : TX K mg κ)  : MC P w K mg base κ "check_text" ["text"] ci 1 := by
 obtain ⟨f, fd, F, hm, hb⟩ := T.fn_check_text
 refine ⟨f, fd, au (k := 0) F qh (λ X B cx hc e1 e2 e3 e4 e5 hN hsc hfn hr hfr => ?_), hm, F.kp, hb, F.at⟩
 subst e1 e2 e3 e4 e5
 exact pE cx hc hN hsc hfn hr.units T.c_LONGEST_TEXT T.c_PLAIN_SIGNS T.b_len (T.x_BadText.at rfl rfl)
theorem lp (T : TX K mg κ)  : MC P w K mg base κ "ends_of_piece" ["written", "text", "starts"] bA 1 := by
 obtain ⟨f, fd, F, hm, hb⟩ := T.fn_ends_of_piece
 refine ⟨f, fd, au (k := 0) F lV (λ X B cx hc e1 e2 e3 e4 e5 hN hsc hfn hr hfr => ?_), hm, F.kp, hb, F.at⟩
 subst e1 e2 e3 e4 e5
 exact lN cx hc hN hsc hfn hr.units T.b_len
theorem lT (T : TX K mg κ) (o_ends_of_piece : MC P w K mg base κ "ends_of_piece" ["written", "text", "starts"] bA 1) : MC P w K mg base κ "ends_of_part" ["part", "ways", "text", "starts"] bM 2 := by
 obtain ⟨f, fd, F, hm, hb⟩ := T.fn_ends_of_part
 refine ⟨f, fd, au (k := 1) F nB (λ X B cx hc e1 e2 e3 e4 e5 hN hsc hfn hr hfr => ?_), hm, F.kp, hb, F.at⟩
 subst e1 e2 e3 e4 e5
 exact mD cx hc hN hsc hfn hr.units (o_ends_of_piece.cal hr (by decide))
theorem n4 (T : TX K mg κ) (o_ends_of_part : MC P w K mg base κ "ends_of_part" ["part", "ways", "text", "starts"] bM 2) : MC P w K mg base κ "is_written" ["parts", "ways", "text"] ck 3 := by
 obtain ⟨f, fd, F, hm, hb⟩ := T.fn_is_written
 refine ⟨f, fd, au (k := 2) F qj (λ X B cx hc e1 e2 e3 e4 e5 hN hsc hfn hr hfr => ?_), hm, F.kp, hb, F.at⟩
 subst e1 e2 e3 e4 e5
 exact pG cx hc hN hsc hfn hr.units (o_ends_of_part.cal hr (by decide)) T.b_len
theorem nZ (T : TX K mg κ)  : MC P w K mg base κ "has_number" ["number"] bi 1 := by
 obtain ⟨f, fd, F, hm, hb⟩ := T.fn_has_number
 refine ⟨f, fd, au (k := 0) F qi (λ X B cx hc e1 e2 e3 e4 e5 hN hsc hfn hr hfr => ?_), hm, F.kp, hb, F.at⟩
 subst e1 e2 e3 e4 e5
 exact pF cx hc hN hsc hfn hr.units T.c_LAST_NUMBER
theorem iS (T : TX K mg κ)  : MC P w K mg base κ "days_ahead_of_year" ["year"] aD 1 := by
 obtain ⟨f, fd, F, hm, hb⟩ := T.fn_days_ahead_of_year
 refine ⟨f, fd, au (k := 0) F jt (λ X B cx hc e1 e2 e3 e4 e5 hN hsc hfn hr hfr => ?_), hm, F.kp, hb, F.at⟩
 subst e1 e2 e3 e4 e5
 exact ji cx hc hN hsc hfn hr.units
theorem p7 (T : TX K mg κ) (o_days_ahead_of_year : MC P w K mg base κ "days_ahead_of_year" ["year"] aD 1) : MC P w K mg base κ "year_with" ["number"] cS 2 := by
 obtain ⟨f, fd, F, hm, hb⟩ := T.fn_year_with
 refine ⟨f, fd, au (k := 1) F sf (λ X B cx hc e1 e2 e3 e4 e5 hN hsc hfn hr hfr => ?_), hm, F.kp, hb, F.at⟩
 subst e1 e2 e3 e4 e5
 exact qP cx hc hN hsc hfn hr.units (o_days_ahead_of_year.cal hr (by decide)) T.c_DAYS_OF_400_YEARS
theorem tm (T : TX K mg κ)  : MC P w K mg base κ "is_leap" ["year"] dL 1 := by
 obtain ⟨f, fd, F, hm, hb⟩ := T.fn_is_leap
 refine ⟨f, fd, au (k := 0) F vT (λ X B cx hc e1 e2 e3 e4 e5 hN hsc hfn hr hfr => ?_), hm, F.kp, hb, F.at⟩
 subst e1 e2 e3 e4 e5
 exact u7 cx hc hN hsc hfn hr.units
theorem lU (T : TX K mg κ) (o_is_leap : MC P w K mg base κ "is_leap" ["year"] dL 1) : MC P w K mg base κ "month_length" ["year", "month"] bo 2 := by
 obtain ⟨f, fd, F, hm, hb⟩ := T.fn_month_length
 refine ⟨f, fd, au (k := 1) F nC (λ X B cx hc e1 e2 e3 e4 e5 hN hsc hfn hr hfr => ?_), hm, F.kp, hb, F.at⟩
 subst e1 e2 e3 e4 e5
 exact mF cx hc hN hsc hfn hr.units (o_is_leap.cal hr (by decide)) T.c_COMMON_LENGTHS
theorem ti (T : TX K mg κ) (o_has_number : MC P w K mg base κ "has_number" ["number"] bi 1) (o_year_with : MC P w K mg base κ "year_with" ["number"] cS 2) (o_days_ahead_of_year : MC P w K mg base κ "days_ahead_of_year" ["year"] aD 1) (o_month_length : MC P w K mg base κ "month_length" ["year", "month"] bo 2) : MC P w K mg base κ "date_of" ["number"] dJ 3 := by
 obtain ⟨f, fd, F, hm, hb⟩ := T.fn_date_of
 refine ⟨f, fd, au (k := 2) F vR (λ X B cx hc e1 e2 e3 e4 e5 hN hsc hfn hr hfr => ?_), hm, F.kp, hb, F.at⟩
 subst e1 e2 e3 e4 e5
 exact u4 cx hc hN hsc hfn hr.units (o_has_number.cal hr (by decide)) (o_year_with.cal hr (by decide)) (o_days_ahead_of_year.cal hr (by decide)) (o_month_length.cal hr (by decide)) (T.x_NoSuchDay.at rfl rfl)
theorem nX (T : TX K mg κ)  : MC P w K mg base κ "beginnings" ["name"] bv 1 := by
 obtain ⟨f, fd, F, hm, hb⟩ := T.fn_beginnings
 refine ⟨f, fd, au (k := 0) F qg (λ X B cx hc e1 e2 e3 e4 e5 hN hsc hfn hr hfr => ?_), hm, F.kp, hb, F.at⟩
 subst e1 e2 e3 e4 e5
 exact pD cx hc hN hsc hfn hr.units T.b_len T.b_range
theorem n6 (T : TX K mg κ) (o_has_number : MC P w K mg base κ "has_number" ["number"] bi 1) : MC P w K mg base κ "weekday_of" ["number"] bZ 2 := by
 obtain ⟨f, fd, F, hm, hb⟩ := T.fn_weekday_of
 refine ⟨f, fd, au (k := 1) F ql (λ X B cx hc e1 e2 e3 e4 e5 hN hsc hfn hr hfr => ?_), hm, F.kp, hb, F.at⟩
 subst e1 e2 e3 e4 e5
 exact pI cx hc hN hsc hfn hr.units (o_has_number.cal hr (by decide)) (T.x_NoSuchDay.at rfl rfl)
theorem tj (T : TX K mg κ)  : MC P w K mg base κ "figures" ["number"] cj 1 := by
 obtain ⟨f, fd, F, hm, hb⟩ := T.fn_figures
 refine ⟨f, fd, au (k := 0) F vS (λ X B cx hc e1 e2 e3 e4 e5 hN hsc hfn hr hfr => ?_), hm, F.kp, hb, F.at⟩
 subst e1 e2 e3 e4 e5
 exact u5 cx hc hN hsc hfn hr.units T.b_str
theorem na (T : TX K mg κ) (o_date_of : MC P w K mg base κ "date_of" ["number"] dJ 3) (o_beginnings : MC P w K mg base κ "beginnings" ["name"] bv 1) (o_weekday_of : MC P w K mg base κ "weekday_of" ["number"] bZ 2) (o_figures : MC P w K mg base κ "figures" ["number"] cj 1) : MC P w K mg base κ "ways_of_day" ["number"] b5 4 := by
 obtain ⟨f, fd, F, hm, hb⟩ := T.fn_ways_of_day
 refine ⟨f, fd, au (k := 3) F n8 (λ X B cx hc e1 e2 e3 e4 e5 hN hsc hfn hr hfr => ?_), hm, F.kp, hb, F.at⟩
 subst e1 e2 e3 e4 e5
 exact nS cx hc hN hsc hfn hr.units (o_date_of.cal hr (by decide)) (o_beginnings.cal hr (by decide)) (o_weekday_of.cal hr (by decide)) (o_figures.cal hr (by decide)) T.c_WEEKDAYS T.c_MONTHS T.b_str
theorem zn (T : TX K mg κ) (o_parts_of_form : MC P w K mg base κ "parts_of_form" ["form"] bC 4) (o_check_text : MC P w K mg base κ "check_text" ["text"] ci 1) (o_is_written : MC P w K mg base κ "is_written" ["parts", "ways", "text"] ck 3) (o_ways_of_day : MC P w K mg base κ "ways_of_day" ["number"] b5 4) : MC P w K mg base κ "fits" ["form", "text", "number"] j4 5 := by
 obtain ⟨f, fd, F, hm, hb⟩ := T.fn_fits
 refine ⟨f, fd, au (k := 4) F Cy (λ X B cx hc e1 e2 e3 e4 e5 hN hsc hfn hr hfr => ?_), hm, F.kp, hb, F.at⟩
 subst e1 e2 e3 e4 e5
 exact Ba cx hc hN hsc hfn hr.units (o_parts_of_form.cal hr (by decide)) (o_check_text.cal hr (by decide)) (o_is_written.cal hr (by decide)) (o_ways_of_day.cal hr (by decide))
theorem n5 (T : TX K mg κ) (o_law_month : MC P w K mg base κ "_law_month" ["_law_year", "_law_month_here"] aZ 2) : MC P w K mg base κ "_law_number" ["_law_year", "_law_month_here", "_law_day"] cm 3 := by
 obtain ⟨f, fd, F, hm, hb⟩ := T.fn_law_number
 refine ⟨f, fd, au (k := 2) F qk (λ X B cx hc e1 e2 e3 e4 e5 hN hsc hfn hr hfr => ?_), hm, F.kp, hb, F.at⟩
 subst e1 e2 e3 e4 e5
 exact pH cx hc hN hsc hfn hr.units (o_law_month.cal hr (by decide)) T.b_range
theorem BD (T : TX K mg κ) (o_law_first : MC P w K mg base κ "_law_first" ["_law_cell", "_law_mixed"] cQ 3) (o_law_at : MC P w K mg base κ "_law_at" ["_law_script", "_law_k"] be 1) (o_law_month : MC P w K mg base κ "_law_month" ["_law_year", "_law_month_here"] aZ 2) (o_law_ways : MC P w K mg base κ "_law_ways" ["_law_token", "_law_when"] dN 1) (o_law_text : MC P w K mg base κ "_law_text" ["_law_way", "_law_pick", "_law_more"] dM 2) (o_fits : MC P w K mg base κ "fits" ["form", "text", "number"] j4 5) (o_law_number : MC P w K mg base κ "_law_number" ["_law_year", "_law_month_here", "_law_day"] cm 3) : MC P w K mg base κ "law" ["_law_script"] ux 6 := by
 obtain ⟨f, fd, F, hm, hb⟩ := T.fn_law
 refine ⟨f, fd, au (k := 5) F DQ (λ X B cx hc e1 e2 e3 e4 e5 hN hsc hfn hr hfr => ?_), hm, F.kp, hb, F.at⟩
 subst e1 e2 e3 e4 e5
 exact mE cx hc hN hsc hfn hr.units (o_law_first.cal hr (by decide)) (o_law_at.cal hr (by decide)) (o_law_month.cal hr (by decide)) (o_law_ways.cal hr (by decide)) (o_law_text.cal hr (by decide)) (o_fits.cal hr (by decide)) (o_law_number.cal hr (by decide)) T.b_bool T.b_isinstance T.b_len T.b_min
end
noncomputable def ye (K : PySem.W.Frag) : Sp := λ vs H Q _ => ∃ (a : Addr) (ns : List Int), vs = [.ref a] /\ cr K H a (ns.map V.int) /\ ns.length <= 63 /\ ∀ H', Q (.bl true) H'
theorem A5 {l : PySem.W.OpenLaw} {w : World} {K : PySem.W.Frag} {h : Heap} {mg : Str -> Option Value} {fa : Addr} (main : ∀ ns : List Int, ns.length <= 63 -> ux [.lst (ns.map D.int)] = .ok (.bl true)) (X : K.In h) (G : h.Ns mainGlobals mg) (hfa : mg "law" = some (.ref fa))
  {f_law : Addr} {oc_law kV_law dc_law pm_law cd_law ct_law : Value} {od_law an_law : Option Addr} {sl_law : Array (Option Value)}
  {a_PLACES' : Addr} {dd_PLACES : Option Addr} {its_PLACES : Array Value} {n_PLACES : Nat} {sl_PLACES : Array (Option Value)}
  {t_PLAIN_SIGNS : Tok} {qy_PLAIN_SIGNS : Str}
  {t_MOST_LACKING_PARTS : Tok}
  {t_LONGEST_FORM : Tok}
  {t_LONGEST_TEXT : Tok}
  {t_LAST_NUMBER : Tok}
  {t_DAYS_OF_400_YEARS : Tok}
  {a_COMMON_LENGTHS' : Addr} {dd_COMMON_LENGTHS : Option Addr} {its_COMMON_LENGTHS : Array Value} {n_COMMON_LENGTHS : Nat} {sl_COMMON_LENGTHS : Array (Option Value)}
  {a_WEEKDAYS' : Addr} {dd_WEEKDAYS : Option Addr} {its_WEEKDAYS : Array Value} {n_WEEKDAYS : Nat} {sl_WEEKDAYS : Array (Option Value)}
  {a_MONTHS' : Addr} {dd_MONTHS : Option Addr} {its_MONTHS : Array Value} {n_MONTHS : Nat} {sl_MONTHS : Array (Option Value)}
  {C_InkError : Addr}
  {C_NoSuchDay : Addr}
  {C_BadForm : Addr}
  {C_BadText : Addr}
  (f_law_leap : FF K ("_law_leap" : Str) (aN 43))
  (f_law_month : FF K ("_law_month" : Str) (aN 44))
  (f_law_first : FF K ("_law_first" : Str) (aN 45))
  (f_law_at : FF K ("_law_at" : Str) (aN 41))
  (f_law_ways : FF K ("_law_ways" : Str) (aN 47))
  (f_law_draws : FF K ("_law_draws" : Str) (aN 42))
  (f_law_text : FF K ("_law_text" : Str) (aN 48))
  (f_split_into_parts : FF K ("split_into_parts" : Str) (aN 31))
  (f_token_at : FF K ("token_at" : Str) (aN 23))
  (f_cut_into_tokens : FF K ("cut_into_tokens" : Str) (aN 24))
  (f_piece_of : FF K ("piece_of" : Str) (aN 25))
  (f_number_pieces : FF K ("number_pieces" : Str) (aN 26))
  (f_read_form : FF K ("read_form" : Str) (aN 27))
  (f_parts_of_form : FF K ("parts_of_form" : Str) (aN 32))
  (f_check_text : FF K ("check_text" : Str) (aN 30))
  (f_ends_of_piece : FF K ("ends_of_piece" : Str) (aN 36))
  (f_ends_of_part : FF K ("ends_of_part" : Str) (aN 37))
  (f_is_written : FF K ("is_written" : Str) (aN 38))
  (f_has_number : FF K ("has_number" : Str) (aN 14))
  (f_days_ahead_of_year : FF K ("days_ahead_of_year" : Str) (aN 13))
  (f_year_with : FF K ("year_with" : Str) (aN 15))
  (f_is_leap : FF K ("is_leap" : Str) (aN 11))
  (f_month_length : FF K ("month_length" : Str) (aN 12))
  (f_date_of : FF K ("date_of" : Str) (aN 16))
  (f_beginnings : FF K ("beginnings" : Str) (aN 34))
  (f_weekday_of : FF K ("weekday_of" : Str) (aN 17))
  (f_figures : FF K ("figures" : Str) (aN 33))
  (f_ways_of_day : FF K ("ways_of_day" : Str) (aN 35))
  (f_fits : FF K ("fits" : Str) (aN 39))
  (f_law_number : FF K ("_law_number" : Str) (aN 46))
  (a_law : PySem.W.nsIn K mainGlobals ("law" : Str) = some (some (.ref f_law)))
  (l_law : K.lookup f_law = some ⟨oc_law, od_law, .func (PySem.W.fnOf ("law" : Str) ("law" : Str) (cg (aN 49)) (aw (aN 49)) (aj (aN 49)) .none kV_law dc_law pm_law an_law cd_law ct_law), sl_law⟩)
  (mE : PySem.W.codeIn K cd_law ("law" : Str) = true)
  (p_law : PySem.W.keepIn K (.ref f_law) = true)
  (a_PLACES : PySem.W.nsIn K mainGlobals ("PLACES" : Str) = some (some (.ref a_PLACES')))
  (l_PLACES : K.lookup a_PLACES' = some ⟨.type "tuple", dd_PLACES, .seq its_PLACES n_PLACES, sl_PLACES⟩)
  (v_PLACES : aU ([gW [60, 100, 62], gW [60, 109, 62], gW [60, 121, 62], gW [60, 89, 62], gW [60, 110, 62], gW [60, 119, 62]] : List V) its_PLACES.toList)
  (a_PLAIN_SIGNS : PySem.W.nsIn K mainGlobals ("PLAIN_SIGNS" : Str) = some (some (.str qy_PLAIN_SIGNS t_PLAIN_SIGNS)))
  (qy_PLAIN_SIGNS' : qy_PLAIN_SIGNS = ⟨([97, 98, 99, 100, 101, 102, 103, 104, 105, 106, 107, 108, 109, 110, 111, 112, 113, 114, 115, 116, 117, 118, 119, 120, 121, 122, 48, 49, 50, 51, 52, 53, 54, 55, 56, 57, 32, 46, 47, 45, 44] : List Nat).toArray⟩)
  (a_MOST_LACKING_PARTS : PySem.W.nsIn K mainGlobals ("MOST_LACKING_PARTS" : Str) = some (some (.int 3 t_MOST_LACKING_PARTS)))
  (a_LONGEST_FORM : PySem.W.nsIn K mainGlobals ("LONGEST_FORM" : Str) = some (some (.int 30 t_LONGEST_FORM)))
  (a_LONGEST_TEXT : PySem.W.nsIn K mainGlobals ("LONGEST_TEXT" : Str) = some (some (.int 20 t_LONGEST_TEXT)))
  (a_LAST_NUMBER : PySem.W.nsIn K mainGlobals ("LAST_NUMBER" : Str) = some (some (.int 3652058 t_LAST_NUMBER)))
  (a_DAYS_OF_400_YEARS : PySem.W.nsIn K mainGlobals ("DAYS_OF_400_YEARS" : Str) = some (some (.int 146097 t_DAYS_OF_400_YEARS)))
  (a_COMMON_LENGTHS : PySem.W.nsIn K mainGlobals ("COMMON_LENGTHS" : Str) = some (some (.ref a_COMMON_LENGTHS')))
  (l_COMMON_LENGTHS : K.lookup a_COMMON_LENGTHS' = some ⟨.type "tuple", dd_COMMON_LENGTHS, .seq its_COMMON_LENGTHS n_COMMON_LENGTHS, sl_COMMON_LENGTHS⟩)
  (v_COMMON_LENGTHS : aU ([V.int 31, V.int 28, V.int 31, V.int 30, V.int 31, V.int 30, V.int 31, V.int 31, V.int 30, V.int 31, V.int 30, V.int 31] : List V) its_COMMON_LENGTHS.toList)
  (a_WEEKDAYS : PySem.W.nsIn K mainGlobals ("WEEKDAYS" : Str) = some (some (.ref a_WEEKDAYS')))
  (l_WEEKDAYS : K.lookup a_WEEKDAYS' = some ⟨.type "tuple", dd_WEEKDAYS, .seq its_WEEKDAYS n_WEEKDAYS, sl_WEEKDAYS⟩)
  (v_WEEKDAYS : aU ([gW [109, 111, 110, 100, 97, 121], gW [116, 117, 101, 115, 100, 97, 121], gW [119, 101, 100, 110, 101, 115, 100, 97, 121], gW [116, 104, 117, 114, 115, 100, 97, 121], gW [102, 114, 105, 100, 97, 121], gW [115, 97, 116, 117, 114, 100, 97, 121], gW [115, 117, 110, 100, 97, 121]] : List V) its_WEEKDAYS.toList)
  (a_MONTHS : PySem.W.nsIn K mainGlobals ("MONTHS" : Str) = some (some (.ref a_MONTHS')))
  (l_MONTHS : K.lookup a_MONTHS' = some ⟨.type "tuple", dd_MONTHS, .seq its_MONTHS n_MONTHS, sl_MONTHS⟩)
  (v_MONTHS : aU ([gW [106, 97, 110, 117, 97, 114, 121], gW [102, 101, 98, 114, 117, 97, 114, 121], gW [109, 97, 114, 99, 104], gW [97, 112, 114, 105, 108], gW [109, 97, 121], gW [106, 117, 110, 101], gW [106, 117, 108, 121], gW [97, 117, 103, 117, 115, 116], gW [115, 101, 112, 116, 101, 109, 98, 101, 114], gW [111, 99, 116, 111, 98, 101, 114], gW [110, 111, 118, 101, 109, 98, 101, 114], gW [100, 101, 99, 101, 109, 98, 101, 114]] : List V) its_MONTHS.toList)
  (a_bool : PySem.W.nsIn K mainGlobals ("bool" : Str) = some none)
  (a_enumerate : PySem.W.nsIn K mainGlobals ("enumerate" : Str) = some none)
  (a_int : PySem.W.nsIn K mainGlobals ("int" : Str) = some none)
  (a_isinstance : PySem.W.nsIn K mainGlobals ("isinstance" : Str) = some none)
  (a_len : PySem.W.nsIn K mainGlobals ("len" : Str) = some none)
  (a_min : PySem.W.nsIn K mainGlobals ("min" : Str) = some none)
  (a_range : PySem.W.nsIn K mainGlobals ("range" : Str) = some none)
  (a_str : PySem.W.nsIn K mainGlobals ("str" : Str) = some none)
  (a_InkError : PySem.W.nsIn K mainGlobals ("InkError" : Str) = some (some (.ref C_InkError)))
  (a_NoSuchDay : PySem.W.nsIn K mainGlobals ("NoSuchDay" : Str) = some (some (.ref C_NoSuchDay)))
  (a_BadForm : PySem.W.nsIn K mainGlobals ("BadForm" : Str) = some (some (.ref C_BadForm)))
  (a_BadText : PySem.W.nsIn K mainGlobals ("BadText" : Str) = some (some (.ref C_BadText)))
  (e_BadForm : PySem.W.excIn K C_BadForm [.type "ValueError", .type "Exception", .type "BaseException", .type "object"] "ValueError.__new__" = true)
  (e_BadText : PySem.W.excIn K C_BadText [.type "ValueError", .type "Exception", .type "BaseException", .type "object"] "ValueError.__new__" = true)
  (e_NoSuchDay : PySem.W.excIn K C_NoSuchDay [.type "ValueError", .type "Exception", .type "BaseException", .type "object"] "ValueError.__new__" = true)
  : ∃ fd : FuncData, (∀ (s : Shared) (v : Value), BindsTo s fd ⟨[v], []⟩ [(("_law_script" : Str), v)]) /\ ∀ base : Heap, K.In base -> base.Ns mainGlobals mg -> FnOk l.prog w K mg base (sx l.prog w) 6 fa fd [("_law_script" : Str)] (ye K) := by
 have T : TX K mg (λ n : Nat => if n = 0 then C_InkError else if n = 1 then C_NoSuchDay else if n = 3 then C_BadForm else if n = 5 then C_BadText else 0) := ⟨f_law_leap.ft1 X G λ _ _ _ _ _ _ _ => rfl, f_law_month.ft2 X G λ _ _ _ _ _ _ _ _ => rfl, f_law_first.ft2 X G λ _ _ _ _ _ _ _ _ => rfl, f_law_at.ft2 X G λ _ _ _ _ _ _ _ _ => rfl, f_law_ways.ft2 X G λ _ _ _ _ _ _ _ _ => rfl, f_law_draws.ft4 X G λ _ _ _ _ _ _ _ _ _ _ => rfl, f_law_text.ft3 X G λ _ _ _ _ _ _ _ _ _ => rfl, f_split_into_parts.ft1 X G λ _ _ _ _ _ _ _ => rfl, f_token_at.ft2 X G λ _ _ _ _ _ _ _ _ => rfl, f_cut_into_tokens.ft1 X G λ _ _ _ _ _ _ _ => rfl, f_piece_of.ft2 X G λ _ _ _ _ _ _ _ _ => rfl, f_number_pieces.ft1 X G λ _ _ _ _ _ _ _ => rfl, f_read_form.ft1 X G λ _ _ _ _ _ _ _ => rfl, f_parts_of_form.ft1 X G λ _ _ _ _ _ _ _ => rfl, f_check_text.ft1 X G λ _ _ _ _ _ _ _ => rfl, f_ends_of_piece.ft3 X G λ _ _ _ _ _ _ _ _ _ => rfl, f_ends_of_part.ft4 X G λ _ _ _ _ _ _ _ _ _ _ => rfl, f_is_written.ft3 X G λ _ _ _ _ _ _ _ _ _ => rfl, f_has_number.ft1 X G λ _ _ _ _ _ _ _ => rfl, f_days_ahead_of_year.ft1 X G λ _ _ _ _ _ _ _ => rfl, f_year_with.ft1 X G λ _ _ _ _ _ _ _ => rfl, f_is_leap.ft1 X G λ _ _ _ _ _ _ _ => rfl, f_month_length.ft2 X G λ _ _ _ _ _ _ _ _ => rfl, f_date_of.ft1 X G λ _ _ _ _ _ _ _ => rfl, f_beginnings.ft1 X G λ _ _ _ _ _ _ _ => rfl, f_weekday_of.ft1 X G λ _ _ _ _ _ _ _ => rfl, f_figures.ft1 X G λ _ _ _ _ _ _ _ => rfl, f_ways_of_day.ft1 X G λ _ _ _ _ _ _ _ => rfl, f_fits.ft3 X G λ _ _ _ _ _ _ _ _ _ => rfl, f_law_number.ft3 X G λ _ _ _ _ _ _ _ _ _ => rfl, ⟨_, _, mQ (st := (aN 49)) l_law mE p_law, PySem.W.mg_of X G a_law, (mQ (st := (aN 49)) l_law mE p_law).binds (ps := [("_law_script" : Str)]) λ _ _ _ _ _ _ us hl => match us, hl with | [_], _ => rfl⟩, jD (PySem.W.mg_of X G a_PLACES) l_PLACES v_PLACES (by decide) (by intro G; repeat (first | exact aP | refine aR (by unfold aH; rfl) ?_)), ⟨_, .str qy_PLAIN_SIGNS, PySem.W.mg_of X G a_PLAIN_SIGNS, ⟨_, rfl⟩, λ _ => by unfold Lw.c_PLAIN_SIGNS aH; rw [qy_PLAIN_SIGNS']⟩, ⟨_, .int 3, PySem.W.mg_of X G a_MOST_LACKING_PARTS, ⟨_, rfl⟩, λ _ => by unfold Lw.c_MOST_LACKING_PARTS aH; rfl⟩, ⟨_, .int 30, PySem.W.mg_of X G a_LONGEST_FORM, ⟨_, rfl⟩, λ _ => by unfold Lw.c_LONGEST_FORM aH; rfl⟩, ⟨_, .int 20, PySem.W.mg_of X G a_LONGEST_TEXT, ⟨_, rfl⟩, λ _ => by unfold Lw.c_LONGEST_TEXT aH; rfl⟩, ⟨_, .int 3652058, PySem.W.mg_of X G a_LAST_NUMBER, ⟨_, rfl⟩, λ _ => by unfold Lw.c_LAST_NUMBER aH; rfl⟩, ⟨_, .int 146097, PySem.W.mg_of X G a_DAYS_OF_400_YEARS, ⟨_, rfl⟩, λ _ => by unfold Lw.c_DAYS_OF_400_YEARS aH; rfl⟩, jD (PySem.W.mg_of X G a_COMMON_LENGTHS) l_COMMON_LENGTHS v_COMMON_LENGTHS (by decide) (by intro G; repeat (first | exact aP | refine aR (by unfold aH; rfl) ?_)), jD (PySem.W.mg_of X G a_WEEKDAYS) l_WEEKDAYS v_WEEKDAYS (by decide) (by intro G; repeat (first | exact aP | refine aR (by unfold aH; rfl) ?_)), jD (PySem.W.mg_of X G a_MONTHS) l_MONTHS v_MONTHS (by decide) (by intro G; repeat (first | exact aP | refine aR (by unfold aH; rfl) ?_)), PySem.W.mg_none_of X G a_bool, PySem.W.mg_none_of X G a_enumerate, PySem.W.mg_none_of X G a_int, PySem.W.mg_none_of X G a_isinstance, PySem.W.mg_none_of X G a_len, PySem.W.mg_none_of X G a_min, PySem.W.mg_none_of X G a_range, PySem.W.mg_none_of X G a_str, ⟨PySem.W.mg_of X G a_BadForm, e_BadForm⟩, ⟨PySem.W.mg_of X G a_BadText, e_BadText⟩, ⟨PySem.W.mg_of X G a_NoSuchDay, e_NoSuchDay⟩⟩
 have e := hfa.symm.trans (PySem.W.mg_of X G a_law)
 cases e
 refine ⟨PySem.W.fnOf "law" "law" (cg (aN 49)) (aw (aN 49)) (aj (aN 49)) .none kV_law dc_law pm_law an_law cd_law ct_law, λ s v => .of_eq rfl, λ base _ _ => ?_⟩
 have o_law_leap := rE (P := l.prog) (w := w) (base := base) T
 have o_law_month := pY (P := l.prog) (w := w) (base := base) T o_law_leap
 have o_law_first := pX (P := l.prog) (w := w) (base := base) T o_law_month
 have o_law_at := vw (P := l.prog) (w := w) (base := base) T
 have o_law_ways := rG (P := l.prog) (w := w) (base := base) T
 have o_law_draws := pW (P := l.prog) (w := w) (base := base) T
 have o_law_text := rF (P := l.prog) (w := w) (base := base) T o_law_draws
 have o_split_into_parts := jG (P := l.prog) (w := w) (base := base) T
 have o_token_at := rJ (P := l.prog) (w := w) (base := base) T
 have o_cut_into_tokens := j6 (P := l.prog) (w := w) (base := base) T o_token_at
 have o_piece_of := rH (P := l.prog) (w := w) (base := base) T
 have o_number_pieces := lq (P := l.prog) (w := w) (base := base) T o_piece_of
 have o_read_form := pZ (P := l.prog) (w := w) (base := base) T o_cut_into_tokens o_number_pieces
 have o_parts_of_form := lu (P := l.prog) (w := w) (base := base) T o_split_into_parts o_read_form
 have o_check_text := nY (P := l.prog) (w := w) (base := base) T
 have o_ends_of_piece := lp (P := l.prog) (w := w) (base := base) T
 have o_ends_of_part := lT (P := l.prog) (w := w) (base := base) T o_ends_of_piece
 have o_is_written := n4 (P := l.prog) (w := w) (base := base) T o_ends_of_part
 have o_has_number := nZ (P := l.prog) (w := w) (base := base) T
 have o_days_ahead_of_year := iS (P := l.prog) (w := w) (base := base) T
 have o_year_with := p7 (P := l.prog) (w := w) (base := base) T o_days_ahead_of_year
 have o_is_leap := tm (P := l.prog) (w := w) (base := base) T
 have o_month_length := lU (P := l.prog) (w := w) (base := base) T o_is_leap
 have o_date_of := ti (P := l.prog) (w := w) (base := base) T o_has_number o_year_with o_days_ahead_of_year o_month_length
 have o_beginnings := nX (P := l.prog) (w := w) (base := base) T
 have o_weekday_of := n6 (P := l.prog) (w := w) (base := base) T o_has_number
 have o_figures := tj (P := l.prog) (w := w) (base := base) T
 have o_ways_of_day := na (P := l.prog) (w := w) (base := base) T o_date_of o_beginnings o_weekday_of o_figures
 have o_fits := zn (P := l.prog) (w := w) (base := base) T o_parts_of_form o_check_text o_is_written o_ways_of_day
 have o_law_number := n5 (P := l.prog) (w := w) (base := base) T o_law_month
 have o_law := BD (P := l.prog) (w := w) (base := base) T o_law_first o_law_at o_law_month o_law_ways o_law_text o_fits o_law_number
 have FL := mQ (st := aN 49) l_law mE p_law
 exact Bx (PySem.W.mg_of X G a_law) l_law o_law main
theorem walk {l : PySem.W.OpenLaw} {q : Program} {loose : List Str} {XP : (Str -> Option Value) -> Heap -> Prop} {YP : World -> Heap -> Prop} {d : DefRec} {K : Params -> PySem.W.Frag} (hn : l.most = some 63) (hdf : d.params.defaults = [])
  (hY : ∀ (w : World) (h : Heap), YP w h -> (K w.params).In h)
  (F : ∀ (w : World) (mg : Str -> Option Value) (fa : Addr) (h : Heap), (K w.params).In h -> h.Ns mainGlobals mg -> mg d.name = some (.ref fa) →
   ∃ fd : FuncData, (∀ (s : Shared) (u : Value), BindsTo s fd ⟨[u], []⟩ [(("_law_script" : Str), u)]) /\ ∀ base : Heap, (K w.params).In base -> base.Ns mainGlobals mg -> FnOk l.prog w (K w.params) mg base (sx l.prog w) 6 fa fd [("_law_script" : Str)] (ye (K w.params))) :
  PySem.W.WalkO q loose XP YP l.row.toRowW d [] (λ f vs => PySem.call f vs) :=
 L2.Ay (n := 63) (k := 6) (x := ("_law_script" : Str)) (CX := λ w => sx l.prog w) (sp := λ w => ye (K w.params)) hn (by decide) hdf ⟨rfl, by decide, by decide⟩ hY F (λ _ _ a ns hl _ hS => ⟨a, ns, rfl, hS, hl, λ _ => rfl⟩) λ _ _ _ _ _ z => by obtain ⟨_, _, _, _, _, _, _, _, _, _, z⟩ := z; exact z
end Lw
namespace Lw
open PySem L2 L3
local macro_rules | `(tactic| simp_arith [$ls,*]) => `(tactic| simp -implicitDefEqProofs only [gS, Dg, jl, Bi, mH, yZ, Bh, kB, fW, bf, yY, jY, fV, wt, gR, jk, Bd, wu, Bf, Df, yT, yU, yV, Dd, yX, AI, Bc, yR, Bg, yW, yS, AJ, De, Be, List.getElem?_cons_succ, List.getElem?_cons_zero, List.set_cons_zero, List.set_cons_succ, R.bind_ok, fI, m6, rD, l7, zk, pT, zj, w9, w4, w5, yh, wf, A8, tp, tz, tw, tu, tt, tq, sT, if_true, Bool.false_eq_true, if_false, decide_true, decide_false, List.length_map, $ls,*])
theorem qC (ns : List Int) (k : Nat) : be [.lst (ns.map D.int), .int (k : Int)] = .ok (.int (cell ns k)) := by
 unfold be mj am cell
 by_cases h : k < ns.length
 ·have e : lF (ns.map D.int) (k : Int) = some (D.int (ns.getD k 0)) := cb (by simp [h])
  have h' : (k : Int) < (ns.length : Int) := by omega
  simp [av, fX e, h']
 ·have h' : ¬ (k : Int) < (ns.length : Int) := by omega
  simp [av, jO, h', List.getElem?_eq_none (Nat.le_of_not_lt h)]
theorem nE (n : Nat) : lY (n : Int) = (Nat.toDigits 10 n).map Char.toNat := by
 unfold lY
 show (Str.ofString (Nat.repr n)).cps.toList = _
 rw [Nat.repr_eq_ofList_toDigits, PySem.W.Fast.ofString_ofList]
theorem ou : ∀ n < 10, (Nat.digitChar n).toNat = 48 + n := by decide
theorem mf {n : Nat} (h : n < 10) : lY (n : Int) = [48 + n] := by
 rw [nE, Nat.toDigits_of_lt_base h]
 simp [ou n h]
theorem qo {n : Nat} (h : 10 <= n) : lY (n : Int) = lY ((n / 10 : Nat) : Int) ++ [48 + n % 10] := by
 rw [nE, nE, Nat.toDigits_of_base_le (by decide) h]
 simp [ou (n % 10) (Nat.mod_lt _ (by decide))]
noncomputable def dg (n : Nat) : List Nat := if n < 10 then [48 + n] else if n < 100 then [48 + n / 10, 48 + n % 10] else if n < 1000 then [48 + n / 100, 48 + n / 10 % 10, 48 + n % 10] else [48 + n / 1000, 48 + n / 100 % 10, 48 + n / 10 % 10, 48 + n % 10]
theorem Aq {n : Nat} (h : n < 10000) : lY (n : Int) = dg n := by
 unfold dg
 by_cases h1 : n < 10
 ·rw [if_pos h1, mf h1]
 ·rw [if_neg h1, qo (by omega)]
  by_cases h2 : n < 100
  ·rw [if_pos h2, mf (by omega)]; rfl
  ·rw [if_neg h2, qo (by omega)]
   by_cases h3 : n < 1000
   ·rw [if_pos h3, mf (by omega), Nat.div_div_eq_div_mul]; rfl
   ·rw [if_neg h3, qo (by omega), mf (by omega), Nat.div_div_eq_div_mul n 10 10, Nat.div_div_eq_div_mul]; rfl
theorem d5 {n : Nat} (h : n < 10000) : dD (.int (n : Int)) = .ok (.str (dg n)) := by
 simp only [dD]
 rw [if_pos (by omega), Aq h]
theorem BC {n : Nat} (h : n < 10000) : BB [48] (.int (n : Int)) = .ok (.str (48 :: dg n)) := by
 unfold BB
 rw [d5 h]
 rfl
theorem Dc {a : Nat} (h : a < 10) : 48 <= 48 + a /\ 48 + a <= 57 := ⟨Nat.le_add_right _ _, Nat.add_le_add_left (Nat.le_of_lt_succ h) 48⟩
theorem nT (a : Nat) : 48 <= 48 + a % 10 /\ 48 + a % 10 <= 57 := Dc (Nat.mod_lt _ (by decide))
theorem dm {y k : Nat} (h : y < k * 10) : y / k % 10 = y / k := Nat.mod_eq_of_lt (Nat.div_lt_of_lt_mul h)
theorem dz {y k : Nat} (h : y < k) : y / k % 10 = 0 := by rw [Nat.div_eq_of_lt h]
theorem qT {n : Nat} (h : n < 10000) : ∀ c ∈ dg n, 48 <= c /\ c <= 57 := by
 unfold dg
 intro c hc
 split at hc
 ·rename_i h1
  simp at hc; subst hc; exact Dc h1
 ·split at hc
  ·rename_i h1
   simp at hc; rcases hc with rfl | rfl
   ·exact Dc (Nat.div_lt_of_lt_mul h1)
   ·exact nT _
  ·split at hc
   ·rename_i h1
    simp at hc; rcases hc with rfl | rfl | rfl
    ·exact Dc (Nat.div_lt_of_lt_mul h1)
    ·exact nT _
    ·exact nT _
   ·simp at hc; rcases hc with rfl | rfl | rfl | rfl
    ·exact Dc (Nat.div_lt_of_lt_mul h)
    ·exact nT _
    ·exact nT _
    ·exact nT _
theorem jj {n : Nat} : 1 <= (dg n).length /\ (dg n).length <= 4 := by
 unfold dg
 split
 ·simp
 ·split
  ·simp
  ·split <;> simp
noncomputable def sw (y : Nat) : List Nat := [48 + y / 10 % 10, 48 + y % 10]
noncomputable def qw (y : Nat) : List Nat := [48 + y / 1000 % 10, 48 + y / 100 % 10, 48 + y / 10 % 10, 48 + y % 10]
theorem nK {l : List Nat} {c : Nat} {r : List Nat} (e : l = c :: r) (hc : 48 <= c) (k : Nat) (h : l.length <= k) : (Txt.zfill ⟨l.toArray⟩ (k : Int)).cps.toList = List.replicate (k - l.length) 48 ++ l := by
 unfold Txt.zfill
 have hl : (⟨l.toArray⟩ : Str).length = l.length := by simp [Str.length]
 rw [hl]
 by_cases h1 : (k : Int) <= l.length
 ·rw [if_pos h1]
  have : k - l.length = 0 := by omega
  rw [this]
  rfl
 ·rw [if_neg h1]
  subst e
  unfold zfilled
  simp
  have h43 : ¬ c = 43 := by omega
  have h45 : ¬ c = 45 := by omega
  simp [h43, h45, Builtin.Str.padded]
theorem CN (y : Nat) : (Txt.zfill ⟨(dg (y % 100)).toArray⟩ 2).cps.toList = sw y := by
 have hm : y % 100 < 100 := Nat.mod_lt _ (by decide)
 have ea : y / 10 % 10 = y % 100 / 10 := (Nat.mod_mul_right_div_self y 10 10).symm
 have eb : y % 10 = y % 100 % 10 := (Nat.mod_mod_of_dvd y (by decide)).symm
 unfold sw
 rw [ea, eb]
 generalize y % 100 = z at hm
 by_cases h : z < 10
 ·have e : dg z = [48 + z] := by unfold dg; rw [if_pos h]
  have := nK e (Nat.le_add_right _ _) 2 (by rw [e]; exact Nat.le_of_ble_eq_true rfl)
  rw [show ((2 : Nat) : Int) = 2 from rfl] at this
  rw [this, e, Nat.div_eq_of_lt h, Nat.mod_eq_of_lt h]
  rfl
 ·have e : dg z = [48 + z / 10, 48 + z % 10] := by unfold dg; rw [if_neg h, if_pos hm]
  have := nK e (Nat.le_add_right _ _) 2 (by rw [e]; exact Nat.le_of_ble_eq_true rfl)
  rw [show ((2 : Nat) : Int) = 2 from rfl] at this
  rw [this, e]
  rfl
theorem CO {y : Nat} (hy : y < 10000) : (Txt.zfill ⟨(dg y).toArray⟩ 4).cps.toList = qw y := by
 have key : ∀ c r, dg y = c :: r -> 48 <= c -> (Txt.zfill ⟨(dg y).toArray⟩ 4).cps.toList = List.replicate (4 - (dg y).length) 48 ++ dg y := λ c r e hc => nK e hc 4 jj.2
 unfold qw
 by_cases h1 : y < 10
 ·have e : dg y = [48 + y] := by unfold dg; rw [if_pos h1]
  rw [key _ _ e (Nat.le_add_right _ _), e, dz (k := 1000) (Nat.lt_of_lt_of_le h1 (by decide)), dz (k := 100) (Nat.lt_of_lt_of_le h1 (by decide)), dz (k := 10) h1, Nat.mod_eq_of_lt h1]
  rfl
 ·by_cases h2 : y < 100
  ·have e : dg y = [48 + y / 10, 48 + y % 10] := by unfold dg; rw [if_neg h1, if_pos h2]
   rw [key _ _ e (Nat.le_add_right _ _), e, dz (k := 1000) (Nat.lt_of_lt_of_le h2 (by decide)), dz (k := 100) h2, dm (k := 10) h2]
   rfl
  ·by_cases h3 : y < 1000
   ·have e : dg y = [48 + y / 100, 48 + y / 10 % 10, 48 + y % 10] := by unfold dg; rw [if_neg h1, if_neg h2, if_pos h3]
    rw [key _ _ e (Nat.le_add_right _ _), e, dz (k := 1000) h3, dm (k := 100) h3]
    rfl
   ·have e : dg y = [48 + y / 1000, 48 + y / 100 % 10, 48 + y / 10 % 10, 48 + y % 10] := by unfold dg; rw [if_neg h1, if_neg h2, if_neg h3]
    rw [key _ _ e (Nat.le_add_right _ _), e, dm (k := 1000) hy]
    rfl
theorem uB {s : List Nat} (h : ∀ c ∈ s, c < 1114112) : qv (.str s) = true := by
 unfold qv SeqAt.shaped
 simp only [eI, uO, PyData.canLay0, PyData.depth, Bool.true_and]
 rw [Bool.and_eq_true]
 refine ⟨?_, by decide⟩
 unfold PySem.PyData.strOk
 simp only [List.all_toArray, List.all_eq_true, decide_eq_true_eq]
 exact h
theorem y7 (a b : List Nat) : va (.str a) (.str b) = (a == b) := by
 simp only [va, uO, PyData.eqv]
 by_cases h : a = b
 ·subst h; rw [beq_self_eq_true, beq_self_eq_true]
 ·have : ¬ (⟨a.toArray⟩ : Str) = ⟨b.toArray⟩ := λ e => h (by injection e with e; simpa using e)
  rw [beq_eq_false_iff_ne.mpr h]
  exact beq_eq_false_iff_ne.mpr this
theorem dZ {a b : List Nat} (ha : ∀ c ∈ a, c < 1114112) (hb : ∀ c ∈ b, c < 1114112) : cE (.str a) (.str b) = .ok (a == b) := by
 unfold cE
 rw [uB ha, uB hb, y7]
 rfl
theorem hR {s : List Nat} (h : s.length <= 1000) : b9 (.str s) = .ok (.int s.length) := by
 simp only [b9]
 rw [if_pos (by omega)]
theorem wH (t : List Nat) (l : List (List Nat)) : pN (.str t) (.lst (l.map D.str)) = .ok (decide (t ∈ l)) := by
 have hf : (l.map D.str).all bU = true := by simp [bU]
 simp only [pN, bU, hf, Bool.and_self, if_true]
 congr 1
 induction l with
 | nil => simp
 | cons a l ih =>
  rw [List.map_cons, List.any_cons, ih (by simp [bU])]
  simp only [wx]
  by_cases h : a = t
  ·subst h; simp
  ·have : ¬ t = a := λ e => h e.symm
   simp [h, this]
noncomputable def b3 : List (List Nat) := [[60, 100, 62], [60, 109, 62], [60, 121, 62], [60, 89, 62], [60, 110, 62], [60, 119, 62]]
noncomputable def bu : List Nat := [97, 98, 99, 100, 101, 102, 103, 104, 105, 106, 107, 108, 109, 110, 111, 112, 113, 114, 115, 116, 117, 118, 119, 120, 121, 122, 48, 49, 50, 51, 52, 53, 54, 55, 56, 57, 32, 46, 47, 45, 44]
noncomputable def dC : List (List Nat) := b3 ++ bu.map λ c => [c]
noncomputable def iQ (t : List Nat) : Bool := b3.any λ a => a == t
noncomputable abbrev eM := Bool × List (List Nat)
noncomputable def mW (p : eM) : List Nat := if p.1 then [91] ++ p.2.flatten ++ [93] else p.2.flatten
noncomputable def cK (ps : List eM) : List Nat := ps.flatMap mW
noncomputable def vY (p : eM) : List (List Nat) := if p.1 then [91] :: (p.2 ++ [[93]]) else p.2
noncomputable def toks (ps : List eM) : List (List Nat) := ps.flatMap vY
theorem ve (ps : List eM) : cK ps = (toks ps).flatten := by
 induction ps with
 | nil => rfl
 | cons p ps ih =>
  unfold cK toks at ih ⊢
  rw [List.flatMap_cons, List.flatMap_cons, List.flatten_append, ih]
  congr 1
  unfold mW vY
  cases p.1 <;> simp
noncomputable def aG (k : Int) (t : List Nat) : D := if t.length = 3 then .tup [.str [112, 108, 97, 99, 101], .str [t.getD 1 0], .int k] else .tup [.str [115, 105, 103, 110], .str t, .int k]
noncomputable def oO : Nat -> List eM -> List D
 | _, [] => []
 | n, p :: ps => p.2.map (aG (if p.1 then ((n + 1 : Nat) : Int) else 0)) ++ oO (if p.1 then n + 1 else n) ps
theorem vX (ts : List (List Nat)) : lL (ts.map D.str) = some ts := by
 induction ts with
 | nil => rfl
 | cons t ts ih => simp [lL, ih]
noncomputable def yq (ps : List eM) : Nat := ps.countP (·.1)
noncomputable def dq (ps : List eM) : List (List Nat) := ps.flatMap (·.2)
theorem uF : ∀ (ps : List eM) (n : Nat), (oO n ps).length = (dq ps).length
 | [], _ => rfl
 | p :: ps, n => by
  have ih := uF ps (if p.1 then n + 1 else n)
  simp only [oO]
  rw [List.length_append, List.length_map, ih]
  unfold dq
  rw [List.flatMap_cons, List.length_append]
theorem sU {bd : D -> Ev -> Option Ev} {F : Ev -> SR} {d : D} {ds : List D} {δ δ1 δ2 : Ev} (h1 : bd d δ = some δ1) (h2 : F δ1 = .next δ2) : bx bd F (d :: ds) δ = bx bd F ds δ2 := by
 rw [bx]
 simp only [h1, h2]
theorem vn {bd : D -> Ev -> Option Ev} {F : Ev -> SR} {d v : D} {ds : List D} {δ δ1 : Ev} (h1 : bd d δ = some δ1) (h2 : F δ1 = .ret v) : bx bd F (d :: ds) δ = .ret v := by
 rw [bx]
 simp only [h1, h2]
noncomputable def ku : List (List Nat) := dC ++ [[91], [93]]
theorem oq {α : Type} (xs : List α) {a b : Nat} (h : a <= xs.length) (h2 : a <= b) : eF xs (some (a : Int)) (some (b : Int)) = (xs.drop a).take (b - a) := by
 unfold eF
 rw [HT.sIx_nat, HT.sIx_nat, Nat.min_eq_left h]
 by_cases hb : b <= xs.length
 ·rw [Nat.min_eq_left hb]
 ·rw [Nat.min_eq_right (by omega), List.take_of_length_le (by rw [List.length_drop]; omega), List.take_of_length_le (by rw [List.length_drop]; omega)]
theorem mV (s : List Nat) : pN (.str s) c_PLACES = .ok (iQ s) := by
 unfold pN c_PLACES
 simp only [bU, List.all_cons, List.all_nil, Bool.and_self, if_true, List.any_cons, List.any_nil, wx, Bool.or_false]
 congr 1
 unfold iQ b3
 simp only [List.any_cons, List.any_nil, Bool.or_false]
theorem oz {s : List Nat} (h : iQ s = true) : s.head? = some 60 /\ s.length = 3 := by
 have : ∀ s ∈ b3, s.head? = some 60 /\ s.length = 3 := by decide
 exact this s (by simpa [iQ] using h)
theorem rM : ∀ c ∈ bu, (!(Builtin.Str.occurrences ⟨bu.toArray⟩ ⟨[c].toArray⟩ 0 (⟨bu.toArray⟩ : Str).length 1).isEmpty) = true := by decide +kernel
theorem vI : ∀ c ∈ [91, 93], (!(Builtin.Str.occurrences ⟨bu.toArray⟩ ⟨[c].toArray⟩ 0 (⟨bu.toArray⟩ : Str).length 1).isEmpty) = false := by decide +kernel
theorem wg : ∀ c ∈ [91, 93], (!(Builtin.Str.occurrences ⟨[91, 93].toArray⟩ ⟨[c].toArray⟩ 0 (⟨[91, 93].toArray⟩ : Str).length 1).isEmpty) = true := by decide +kernel
theorem mw {t : List Nat} (h : t ∈ ku) : (iQ t = true /\ t.length = 3) \/ (∃ c ∈ bu, t = [c]) \/ (∃ c ∈ [91, 93], t = [c]) := by
 unfold ku dC at h
 rcases List.mem_append.mp h with h | h
 ·rcases List.mem_append.mp h with h | h
  ·have hp : iQ t = true := by simpa [iQ] using h
   exact .inl ⟨hp, (oz hp).2⟩
  ·obtain ⟨c, hc, rfl⟩ := List.mem_map.mp h
   exact .inr (.inl ⟨c, hc, rfl⟩)
 ·refine .inr (.inr ?_)
  rcases List.mem_cons.mp h with rfl | h
  ·exact ⟨91, by simp, rfl⟩
  ·have : t = [93] := by simpa using h
   exact ⟨93, by simp, this⟩
theorem EK : ∀ c, (c ∈ bu \/ c ∈ [91, 93]) -> c ≠ 60 := by
 have h1 : ∀ c ∈ bu, c ≠ 60 := by decide
 have h2 : ∀ c ∈ [91, 93], c ≠ 60 := by decide
 exact λ c h => h.elim (h1 c) (h2 c)
theorem sj {pre post t : List Nat} (ht : t ∈ ku) (hl : (pre ++ t ++ post).length <= 1000) : cN [.str (pre ++ t ++ post), .int pre.length] = .ok (.str t) := by
 have hsl : ∀ l : List Nat, l.length <= 1000 -> pre.length <= l.length -> uz (.str l) (some (pre.length : Int)) (some ((pre.length : Int) + 3)) = .ok (.str ((l.drop pre.length).take 3)) := λ l h1 h2 => by
  simp only [uz]
  rw [if_pos (by omega), show (pre.length : Int) + 3 = ((pre.length + 3 : Nat) : Int) by push_cast; rfl, oq _ h2 (by omega), show pre.length + 3 - pre.length = 3 by omega]
 have hd : (pre ++ t ++ post).drop pre.length = t ++ post := by simp
 have h0 := hsl _ hl (by simp)
 rw [hd] at h0
 generalize hL : pre ++ t ++ post = L at *
 unfold cN jT
 rw [ah (δ' := [some (.sh (.str L)), some (.sh (.int pre.length)), some (.sh (.str ((t ++ post).take 3))), none]) (by
  simp only [iB, am, List.map_cons, List.map_nil, List.length_cons, List.length_nil, List.cons_append, List.nil_append, gS, AJ, De, jY, gR, bf, List.getElem?_cons_succ, List.getElem?_cons_zero, R.bind_ok, m6, h0, fI]
  rfl)]
 have tst : bI m7 (ae 2) (mC c_PLACES) [some (.sh (.str L)), some (.sh (.int pre.length)), some (.sh (.str ((t ++ post).take 3))), none] = .ok (iQ ((t ++ post).take 3)) := by
  simp only [fV, gR, bf, List.getElem?_cons_succ, List.getElem?_cons_zero, R.bind_ok, m7, mV]
 unfold ix iC
 rcases mw ht with ⟨h1, h2⟩ | hs
 ·have : (t ++ post).take 3 = t := by rw [List.take_append, List.take_of_length_le (by omega)]; simp [h2]
  rw [this] at tst ⊢
  rw [bT (d := .str t) (by rw [bn (tst.trans (by rw [h1]))]; simp)]
  rfl
 ·obtain ⟨c, hc, rfl⟩ : ∃ c, (c ∈ bu \/ c ∈ [91, 93]) /\ t = [c] := by
   rcases hs with ⟨c, h, e⟩ | ⟨c, h, e⟩
   ·exact ⟨c, .inl h, e⟩
   ·exact ⟨c, .inr h, e⟩
  have hno : iQ (([c] ++ post).take 3) = false := by
   cases z : iQ (([c] ++ post).take 3) with
   | false => rfl
   | true =>
    have := (oz z).1
    simp at this
    exact absurd this (EK c hc)
  rw [ah (δ' := [some (.sh (.str L)), some (.sh (.int pre.length)), some (.sh (.str (([c] ++ post).take 3))), none]) (by rw [aX (tst.trans (by rw [hno]))])]
  have hix : bV (.str L) (.int (pre.length : Int)) = .ok (.str [c]) := by
   have : lF L (pre.length : Int) = some c := cb (by rw [<- hL]; simp)
   simp only [bV]
   rw [if_pos (by omega), this]
  unfold iy
  rw [ah (δ' := [some (.sh (.str L)), some (.sh (.int pre.length)), some (.sh (.str (([c] ++ post).take 3))), some (.sh (.str [c]))]) (by
   simp only [iD, gS, jY, bf, List.getElem?_cons_succ, List.getElem?_cons_zero, R.bind_ok, hix, fI]
   rfl)]
  have ok : uw (bI m7 (ae 3) (mC c_PLAIN_SIGNS)) (bI m7 (ae 3) (mC (.str [91, 93]))) [some (.sh (.str L)), some (.sh (.int pre.length)), some (.sh (.str (([c] ++ post).take 3))), some (.sh (.str [c]))] = .ok true := by
   have p1 : pN (.str [c]) c_PLAIN_SIGNS = .ok (!(Builtin.Str.occurrences ⟨bu.toArray⟩ ⟨[c].toArray⟩ 0 (⟨bu.toArray⟩ : Str).length 1).isEmpty) := rfl
   have p2 : pN (.str [c]) (.str [91, 93]) = .ok (!(Builtin.Str.occurrences ⟨[91, 93].toArray⟩ ⟨[c].toArray⟩ 0 (⟨[91, 93].toArray⟩ : Str).length 1).isEmpty) := rfl
   simp only [wu, fV, gR, bf, List.getElem?_cons_succ, List.getElem?_cons_zero, R.bind_ok, m7, p1, p2]
   rcases hc with hc | hc
   ·rw [rM c hc]; rfl
   ·rw [vI c hc, wg c hc]; rfl
  unfold iz iE
  rw [bT (d := .str [c]) (by rw [bn ok]; simp)]
  rfl
theorem my {t : List Nat} (h : t ∈ ku) : 0 < t.length := by
 rcases mw h with ⟨_, h⟩ | ⟨c, _, rfl⟩ | ⟨c, _, rfl⟩
 ·omega
 ·simp
 ·simp
theorem qK : ∀ (rest done : List (List Nat)) (n : Nat) (x3 : Option Sl), (∀ t ∈ rest, t ∈ ku) -> rest.length < n -> (done ++ rest).flatten.length <= 1000 -> done.length + rest.length <= 1000 -> ∃ y3,
  b7 (bI sv (ae 2) (m1 b9 (ae 0))) cy n [some (.sh (.str (done ++ rest).flatten)), some (.ow (done.map D.str)), some (.sh (.int done.flatten.length)), x3]
   = .next [some (.sh (.str (done ++ rest).flatten)), some (.ow ((done ++ rest).map D.str)), some (.sh (.int (done ++ rest).flatten.length)), y3]
 | [], done, n + 1, x3, _, _, hl, _ => by
  refine ⟨x3, ?_⟩
  rw [List.append_nil] at hl ⊢
  have : b9 (.str done.flatten) = .ok (.int done.flatten.length) := by simp only [b9]; rw [if_pos (by omega)]
  rw [kS (by
   simp only [fV, wt, bf, List.getElem?_cons_succ, List.getElem?_cons_zero, R.bind_ok, this, l7]
   simp)]
 | t :: rest, done, n + 1, x3, hv, hn, hl, hk => by
  have ht := hv t List.mem_cons_self
  have hpos := my ht
  have e1 : (done ++ t :: rest).flatten = done.flatten ++ t ++ rest.flatten := by simp
  have hll : ((done ++ t :: rest).flatten.length : Int) = done.flatten.length + t.length + rest.flatten.length := by rw [e1, List.length_append, List.length_append]; push_cast; rfl
  have hlen : b9 (.str (done ++ t :: rest).flatten) = .ok (.int (done ++ t :: rest).flatten.length) := by simp only [b9]; rw [if_pos (by omega)]
  have hlt : b9 (.str t) = .ok (.int t.length) := by simp only [b9]; rw [if_pos (by omega)]
  have htk : cN [.str (done ++ t :: rest).flatten, .int done.flatten.length] = .ok (.str t) := by
   rw [e1]
   exact sj ht (by rw [<- e1]; exact hl)
  have ih := qK rest (done ++ [t]) n (some (.sh (.str t))) (λ z hz => hv z (List.mem_cons_of_mem _ hz)) (by simp at hn; omega) (by simpa using hl) (by simp at hk ⊢; omega)
  obtain ⟨y3, ih⟩ := ih
  refine ⟨y3, ?_⟩
  rw [lM (δ' := [some (.sh (.str (done ++ t :: rest).flatten)), some (.ow ((done ++ [t]).map D.str)), some (.sh (.int (done.flatten.length + t.length))), some (.sh (.str t))]) (by
   simp only [fV, wt, bf, List.getElem?_cons_succ, List.getElem?_cons_zero, R.bind_ok, hlen, l7]
   rw [decide_eq_true (by omega)]) (by
   unfold cy
   rw [ah (δ' := [some (.sh (.str (done ++ t :: rest).flatten)), some (.ow (done.map D.str)), some (.sh (.int done.flatten.length)), some (.sh (.str t))]) (by
    simp only [gS, kB, fW, bf, jk, List.getElem?_cons_succ, List.getElem?_cons_zero, R.bind_ok, htk, fI]
    rfl)]
   rw [ah (δ' := [some (.sh (.str (done ++ t :: rest).flatten)), some (.ow ((done ++ [t]).map D.str)), some (.sh (.int done.flatten.length)), some (.sh (.str t))]) (by
    have : (done.map D.str).length < 1000000 := by rw [List.length_map]; omega
    simp only [mH, bf, List.getElem?_cons_succ, List.getElem?_cons_zero, fI, this, if_true]
    simp)]
   simp only [kT, List.getElem?_cons_succ, List.getElem?_cons_zero, wt, bf, R.bind_ok, hlt, fI]
   rfl)]
  have e2 : done ++ t :: rest = done ++ [t] ++ rest := by simp
  have e3 : ((done.flatten.length : Int) + t.length) = ((done ++ [t]).flatten.length : Int) := by simp
  rw [e2, e3]
  exact ih
theorem A9 {ts : List (List Nat)} (hv : ∀ t ∈ ts, t ∈ ku) (hl : ts.flatten.length <= 30) : aW [.str ts.flatten] = .ok (.lst (ts.map D.str)) := by
 have hn : ∀ l : List (List Nat), (∀ t ∈ l, t ∈ ku) -> l.length <= l.flatten.length := by
  intro l
  induction l with
  | nil => intro _; simp
  | cons t l ih =>
   intro h
   have h1 := ih λ z hz => h z (List.mem_cons_of_mem _ hz)
   have h2 := my (h t List.mem_cons_self)
   rw [List.flatten_cons, List.length_append, List.length_cons]
   omega
 have hts := hn ts hv
 unfold aW cU
 rw [ah (δ' := [some (.sh (.str ts.flatten)), some (.ow []), none, none]) (by simp [cz, am, lim])]
 unfold cu
 rw [ah (δ' := [some (.sh (.str ts.flatten)), some (.ow []), some (.sh (.int 0)), none]) (by simp [cA])]
 obtain ⟨y3, e⟩ := qK ts [] 40 none hv (by omega) (by simpa using (by omega : ts.flatten.length <= 1000)) (by simp; omega)
 unfold cv cB
 rw [ah (δ' := [some (.sh (.str ts.flatten)), some (.ow (ts.map D.str)), some (.sh (.int ts.flatten.length)), y3]) (by simpa using e)]
 simp [cw, eL, mO]
noncomputable def yo (bd : D -> Ev -> Option Ev) (F : Ev -> SR) : List D -> Ev -> Ev -> Prop
 | [], δ, δ' => δ' = δ
 | d :: ds, δ, δ' => ∃ δ1 δ2, bd d δ = some δ1 /\ F δ1 = .next δ2 /\ yo bd F ds δ2 δ'
theorem rY {bd : D -> Ev -> Option Ev} {F : Ev -> SR} : ∀ {xs : List D} {δ δ' : Ev}, yo bd F xs δ δ' -> bx bd F xs δ = .next δ'
 | [], _, _, h => by rw [h]; rfl
 | d :: xs, δ, δ', ⟨δ1, δ2, h1, h2, h3⟩ => by
  rw [bx]
  simp only [h1, h2]
  exact rY h3
theorem j9 {bd : D -> Ev -> Option Ev} {F : Ev -> SR} : ∀ {xs ys : List D} {δ δ1 δ2 : Ev}, yo bd F xs δ δ1 -> yo bd F ys δ1 δ2 -> yo bd F (xs ++ ys) δ δ2
 | [], _, _, _, _, h, k => by rw [h] at k; exact k
 | d :: xs, _, _, _, _, ⟨a, b, h1, h2, h3⟩, k => ⟨a, b, h1, h2, j9 h3 k⟩
theorem eG : ∀ (xs ys : List D) (n : Nat), aT n (xs ++ ys) = aT n xs ++ aT (n + xs.length) ys
 | [], ys, n => by simp [aT]
 | x :: xs, ys, n => by simp [aT, eG xs ys (n + 1), Nat.add_assoc, Nat.add_comm 1]
theorem l8 : ∀ t ∈ ku, qv (.str t) = true := by decide +kernel
theorem l4 : ∀ t ∈ ku, cE (.str t) (.str [91]) = .ok (t == [91]) := by
 have h : ∀ t ∈ ku, va (.str t) (.str [91]) = (t == [91]) := by decide +kernel
 intro t ht
 unfold cE
 rw [l8 t ht, l8 [91] (by decide), h t ht]
 rfl
theorem qX : ∀ t ∈ ku, cE (.str t) (.str [93]) = .ok (t == [93]) := by
 have h : ∀ t ∈ ku, va (.str t) (.str [93]) = (t == [93]) := by decide +kernel
 intro t ht
 unfold cE
 rw [l8 t ht, l8 [93] (by decide), h t ht]
 rfl
theorem pr : ∀ t ∈ dC, (t == [91]) = false /\ (t == [93]) = false := by decide +kernel
theorem gY {t : List Nat} (h : t ∈ dC) : t ∈ ku := List.mem_append_left _ h
theorem yJ : ∀ t ∈ dC, iQ t = decide (t.length = 3) := by decide +kernel
theorem rL {t : List Nat} (ht : t ∈ dC) (k : Int) : cM [.str t, .int k] = .ok (aG k t) := by
 have tst : bI m7 (ae 0) (mC c_PLACES) (am 2 [.str t, .int k]) = .ok (iQ t) := by
  simp only [am, List.map_cons, List.map_nil, List.cons_append, List.nil_append, fV, gR, bf, List.getElem?_cons_zero, R.bind_ok, m7, mV]
 unfold cM jS
 rw [yJ t ht] at tst
 by_cases h3 : t.length = 3
 ·have hix : bV (.str t) (.int 1) = .ok (.str [t.getD 1 0]) := by
   obtain ⟨a, b, c, rfl⟩ : ∃ a b c, t = [a, b, c] := by
    match t, h3 with
    | [a, b, c], _ => exact ⟨a, b, c, rfl⟩
   rfl
  rw [bT (d := aG k t) (by
   rw [bn (tst.trans (by rw [decide_eq_true h3]))]
   simp only [am, List.map_cons, List.map_nil, List.cons_append, List.nil_append, jl, wv, fW, gR, jY, bf, jk, List.getElem?_cons_succ, List.getElem?_cons_zero, R.bind_ok, hix, List.length_cons, List.length_nil]
   rw [if_pos (by decide)]
   simp [aG, h3])]
  rfl
 ·rw [ah (δ' := am 2 [.str t, .int k]) (by rw [aX (tst.trans (by rw [decide_eq_false h3]))])]
  simp only [iw, am, List.map_cons, List.map_nil, List.cons_append, List.nil_append, jl, wv, fW, gR, jY, bf, jk, List.getElem?_cons_succ, List.getElem?_cons_zero, R.bind_ok, List.length_cons, List.length_nil]
  rw [if_pos (by decide)]
  simp [aG, h3]
noncomputable def nM (TL : List (List Nat)) (made : List D) (n : Int) (b : Bool) (x4 x5 : Option Sl) : Ev := [some (.sh (.lst (TL.map D.str))), some (.ow made), some (.sh (.int n)), some (.sh (.bl b)), x4, x5]
theorem wZ {TL : List (List Nat)} {made : List D} {n : Int} {b : Bool} {i : Nat} {t : List Nat} (ht : t ∈ dC) (hm : made.length < 1000000) :
  aK (nM TL made n b (some (.sh (.int i))) (some (.sh (.str t)))) = .next (nM TL (made ++ [aG (if b then n else 0) t]) n b (some (.sh (.int i))) (some (.sh (.str t)))) := by
 have h1 := l4 t (gY ht)
 have h2 := qX t (gY ht)
 rw [(pr t ht).1] at h1
 rw [(pr t ht).2] at h2
 unfold aK nM
 rw [aX (by simp only [fV, gR, bf, List.getElem?_cons_succ, List.getElem?_cons_zero, R.bind_ok, h1])]
 rw [aX (by simp only [fV, gR, bf, List.getElem?_cons_succ, List.getElem?_cons_zero, R.bind_ok, h2])]
 have hp : aF cM (ag (ae 5) (ag (Bz (mT (ae 3)) (ae 2) (mC (.int 0))) (aq))) [some (.sh (.lst (TL.map D.str))), some (.ow made), some (.sh (.int n)), some (.sh (.bl b)), some (.sh (.int i)), some (.sh (.str t))] = .ok (aG (if b then n else 0) t) := by
  cases b <;> simp only [kB, fW, AI, Df, bf, gR, jk, List.getElem?_cons_succ, List.getElem?_cons_zero, R.bind_ok, yh, if_true, Bool.false_eq_true, if_false, rL ht]
 simp only [mH, List.getElem?_cons_succ, List.getElem?_cons_zero, hp, fI, hm, if_true, List.set_cons_succ, List.set_cons_zero]
theorem zf {TL : List (List Nat)} {made : List D} {n : Int} {i : Nat} :
  aK (nM TL made n false (some (.sh (.int i))) (some (.sh (.str [91])))) = .next (nM TL made (n + 1) true (some (.sh (.int i))) (some (.sh (.str [91])))) := by
 have h1 := l4 [91] (by decide)
 unfold aK nM
 rw [bn (by simp only [fV, gR, bf, List.getElem?_cons_succ, List.getElem?_cons_zero, R.bind_ok, h1]; rfl)]
 simp [av, kT]
theorem wY {TL : List (List Nat)} {made : List D} {n : Int} {i : Nat} {t : List Nat} (hi : TL[i]? = some t) (ht : t ∈ dC) :
  aK (nM TL made n true (some (.sh (.int ((i + 1 : Nat) : Int)))) (some (.sh (.str [93])))) = .next (nM TL made n false (some (.sh (.int ((i + 1 : Nat) : Int)))) (some (.sh (.str [93])))) := by
 have h1 := l4 [93] (by decide)
 have h2 := qX [93] (by decide)
 have h3 := l4 t (gY ht)
 rw [(pr t ht).1] at h3
 have hix : bV (.lst (TL.map D.str)) (.int (((i + 1 : Nat) : Int) - 1)) = .ok (.str t) := by
  rw [show ((i + 1 : Nat) : Int) - 1 = (i : Int) by push_cast; omega]
  exact fX (cb (by simp [hi]))
 unfold aK nM
 rw [aX (by simp only [fV, gR, bf, List.getElem?_cons_succ, List.getElem?_cons_zero, R.bind_ok, h1]; rfl)]
 rw [bn (by simp only [fV, gR, bf, List.getElem?_cons_succ, List.getElem?_cons_zero, R.bind_ok, h2]; rfl)]
 rw [ah (δ' := [some (.sh (.lst (TL.map D.str))), some (.ow made), some (.sh (.int n)), some (.sh (.bl true)), some (.sh (.int ((i + 1 : Nat) : Int))), some (.sh (.str [93]))]) (by rw [aX (by simp)])]
 rw [ah (δ' := [some (.sh (.lst (TL.map D.str))), some (.ow made), some (.sh (.int n)), some (.sh (.bl true)), some (.sh (.int ((i + 1 : Nat) : Int))), some (.sh (.str [93]))]) (by
  rw [aX (by simp only [fV, jY, gR, bf, List.getElem?_cons_succ, List.getElem?_cons_zero, R.bind_ok, rD, hix, h3])])]
 simp
noncomputable abbrev Ey : D -> Ev -> Option Ev := qD 2 (dr (bN 4) (dr (bN 5) (om)))
theorem sZ {TL : List (List Nat)} {n : Int} {b : Bool} : ∀ (ts : List (List Nat)) (made : List D) (i : Nat) (x4 x5 : Option Sl), (∀ t ∈ ts, t ∈ dC) -> made.length + ts.length < 1000000 -> ∃ y4 y5,
  yo Ey aK (aT i (ts.map D.str)) (nM TL made n b x4 x5) (nM TL (made ++ ts.map (aG (if b then n else 0))) n b y4 y5)
 | [], made, i, x4, x5, _, _ => ⟨x4, x5, by simp [aT, yo]⟩
 | t :: ts, made, i, x4, x5, hv, hm => by
  rw [List.length_cons] at hm
  obtain ⟨y4, y5, ih⟩ := sZ (TL := TL) (n := n) (b := b) ts (made ++ [aG (if b then n else 0) t]) (i + 1) (some (.sh (.int i))) (some (.sh (.str t))) (λ z hz => hv z (List.mem_cons_of_mem _ hz)) (by simp; omega)
  refine ⟨y4, y5, nM TL made n b (some (.sh (.int i))) (some (.sh (.str t))), _, rfl, wZ (hv t List.mem_cons_self) (by omega), ?_⟩
  simpa using ih
theorem zg {TL : List (List Nat)} {i : Nat} {p : eM} {rest : List (List Nat)} {made : List D} {n : Nat} (x4 x5 : Option Sl) (hT : TL.drop i = vY p ++ rest) (hv : ∀ t ∈ p.2, t ∈ dC) (hne : p.1 = true -> p.2 ≠ []) (hm : made.length + p.2.length < 1000000) : ∃ y4 y5,
  yo Ey aK (aT i ((vY p).map D.str)) (nM TL made n false x4 x5) (nM TL (made ++ p.2.map (aG (if p.1 then ((n + 1 : Nat) : Int) else 0))) ((if p.1 then n + 1 else n : Nat) : Int) false y4 y5) := by
 obtain ⟨l, ts⟩ := p
 cases l with
 | false =>
  obtain ⟨y4, y5, h⟩ := sZ (TL := TL) (n := n) (b := false) ts made i x4 x5 hv hm
  exact ⟨y4, y5, by simpa [vY] using h⟩
 | true =>
  have hne' : ts ≠ [] := hne rfl
  obtain ⟨y4, y5, h⟩ := sZ (TL := TL) (n := ((n : Nat) : Int) + 1) (b := true) ts made (i + 1) (some (.sh (.int i))) (some (.sh (.str [91]))) hv hm
  have hix : TL[i + ts.length]? = some (ts.getLast hne') := by
   have : (TL.drop i)[ts.length]? = some (ts.getLast hne') := by
    rw [hT]
    simp only [vY, if_true]
    rw [List.getLast_eq_getElem]
    have hpos : 0 < ts.length := List.length_pos_iff.mpr hne'
    obtain ⟨m, hm⟩ : ∃ m, ts.length = m + 1 := ⟨ts.length - 1, by omega⟩
    simp only [hm, List.cons_append, List.append_assoc, List.getElem?_cons_succ]
    rw [List.getElem?_append_left (by omega)]
    simp [hm]
   rw [List.getElem?_drop] at this
   exact this
  have hc := wY (TL := TL) (made := made ++ ts.map (aG (((n : Nat) : Int) + 1))) (n := ((n : Nat) : Int) + 1) hix (hv _ (List.getLast_mem hne'))
  refine ⟨some (.sh (.int ((i + ts.length + 1 : Nat) : Int))), some (.sh (.str [93])), ?_⟩
  have e : (vY (true, ts)).map D.str = D.str [91] :: (ts.map D.str ++ [D.str [93]]) := by simp [vY]
  rw [e]
  refine ⟨nM TL made n false (some (.sh (.int i))) (some (.sh (.str [91]))), _, rfl, zf, ?_⟩
  rw [eG]
  refine j9 h ?_
  rw [List.length_map, show i + 1 + ts.length = i + ts.length + 1 by omega]
  refine ⟨_, _, rfl, hc, ?_⟩
  show _ = _
  simp
theorem rB {TL : List (List Nat)} : ∀ (ps : List eM) (i : Nat) (made : List D) (n : Nat) (x4 x5 : Option Sl), TL.drop i = toks ps -> (∀ p ∈ ps, ∀ t ∈ p.2, t ∈ dC) -> (∀ p ∈ ps, p.1 = true -> p.2 ≠ []) -> made.length + (dq ps).length < 1000000 -> ∃ y4 y5,
  yo Ey aK (aT i ((toks ps).map D.str)) (nM TL made n false x4 x5) (nM TL (made ++ oO n ps) ((n + yq ps : Nat) : Int) false y4 y5)
 | [], i, made, n, x4, x5, _, _, _, _ => ⟨x4, x5, by simp [toks, aT, yo, oO, yq]⟩
 | p :: ps, i, made, n, x4, x5, hT, hv, hne, hm => by
  have e : toks (p :: ps) = vY p ++ toks ps := by unfold toks; rw [List.flatMap_cons]
  have e2 : dq (p :: ps) = p.2 ++ dq ps := by unfold dq; rw [List.flatMap_cons]
  rw [e2, List.length_append] at hm
  rw [e] at hT
  obtain ⟨y4, y5, h1⟩ := zg (n := n) (made := made) x4 x5 hT (hv p List.mem_cons_self) (hne p List.mem_cons_self) (by omega)
  have hT2 : TL.drop (i + (vY p).length) = toks ps := by
   rw [<- List.drop_drop, hT]
   simp
  obtain ⟨z4, z5, h2⟩ := rB ps (i + (vY p).length) (made ++ p.2.map (aG (if p.1 then ((n + 1 : Nat) : Int) else 0))) (if p.1 then n + 1 else n) y4 y5 hT2 (λ q hq => hv q (List.mem_cons_of_mem _ hq)) (λ q hq => hne q (List.mem_cons_of_mem _ hq)) (by rw [List.length_append, List.length_map]; omega)
  refine ⟨z4, z5, ?_⟩
  rw [e, List.map_append, eG, List.length_map]
  have hN : (if p.1 then n + 1 else n) + yq ps = n + yq (p :: ps) := by
   unfold yq
   rw [List.countP_cons]
   cases p.1 <;> simp
   omega
  rw [hN, List.append_assoc] at h2
  exact j9 h1 h2
theorem lm {ps : List eM} (hv : ∀ p ∈ ps, ∀ t ∈ p.2, t ∈ dC) (hne : ∀ p ∈ ps, p.1 = true -> p.2 ≠ []) (hc : yq ps <= 3) (hm : (dq ps).length <= 1000) : bB [.lst ((toks ps).map D.str)] = .ok (.lst (oO 0 ps)) := by
 unfold bB ei
 rw [ah (δ' := [some (.sh (.lst ((toks ps).map D.str))), some (.ow []), none, none, none, none]) (by simp [de, am, lim])]
 unfold cW
 rw [ah (δ' := [some (.sh (.lst ((toks ps).map D.str))), some (.ow []), some (.sh (.int 0)), none, none, none]) (by simp [df])]
 unfold cX
 rw [ah (δ' := nM (toks ps) [] ((0 : Nat) : Int) false none none) (by simp [dh, nM])]
 obtain ⟨y4, y5, h⟩ := rB (TL := toks ps) ps 0 [] 0 none none rfl hv hne (by simp; omega)
 unfold cY di
 rw [ah (δ' := nM (toks ps) (oO 0 ps) (yq ps : Int) false y4 y5) (by
  unfold gU
  have e : (λ δ => ((ae 0) δ).bind uk) (nM (toks ps) [] ((0 : Nat) : Int) false none none) = .ok (aT 0 ((toks ps).map D.str)) := rfl
  rw [e, fI]
  have := rY h
  simpa using this)]
 have hc' : ¬ (3 : Int) < (yq ps : Int) := by omega
 simp [cZ, dj, c5, dk, c6, fS, nM, av, c_MOST_LACKING_PARTS, hc', mO]
structure OkP (ps : List eM) : Prop where
 v : ∀ p ∈ ps, ∀ t ∈ p.2, t ∈ dC
 ne : ∀ p ∈ ps, p.1 = true -> p.2 ≠ []
 c : yq ps <= 3
 nd : ((dq ps).filter iQ).Nodup
 lo : 1 <= (cK ps).length
 hi : (cK ps).length <= 30
theorem lI {p : List Nat} : ∀ {l : List (List Nat)}, l.Nodup -> l.countP (λ x => x == p) <= 1
 | [], _ => by simp
 | a :: l, h => by
  have hh := List.nodup_cons.mp h
  rw [List.countP_cons]
  by_cases e : a = p
  ·subst e
   have : l.countP (λ x => x == a) = 0 := by
    rw [List.countP_eq_zero]
    intro x hx z
    have : x = a := by simpa using z
    subst this
    exact hh.1 hx
   rw [this]
   simp
  ·have := lI (p := p) hh.2
   simp [e]
   exact this
theorem nF {p : List Nat} (hp : p ∈ b3) : ∀ ps : List eM, (toks ps).countP (λ x => x == p) = (dq ps).countP (λ x => x == p)
 | [] => rfl
 | q :: ps => by
  have h1 : ∀ p ∈ b3, ([91] == p) = false /\ ([93] == p) = false := by decide
  have ih := nF hp ps
  unfold toks dq at ih ⊢
  rw [List.flatMap_cons, List.flatMap_cons, List.countP_append, List.countP_append, ih]
  congr 1
  unfold vY
  cases q.1 with
  | false => rfl
  | true =>
   simp only [if_true]
   rw [List.countP_cons, List.countP_append, (h1 p hp).1, List.countP_singleton, (h1 p hp).2]
   simp
theorem wm {ps : List eM} (h : ((dq ps).filter iQ).Nodup) {p : List Nat} (hp : p ∈ b3) : (toks ps).countP (λ x => x == p) <= 1 := by
 rw [nF hp]
 have e : (dq ps).countP (λ x => x == p) = ((dq ps).filter iQ).countP (λ x => x == p) := by
  rw [List.countP_filter]
  refine List.countP_congr λ x _ => ?_
  constructor
  ·intro hx
   have : x = p := by simpa using hx
   subst this
   have hpl : iQ x = true := by simpa [iQ] using hp
   simp [hpl]
  ·intro hx
   simp at hx
   simp [hx.1]
 rw [e]
 exact lI h
theorem vZ {ps : List eM} (hv : ∀ p ∈ ps, ∀ t ∈ p.2, t ∈ dC) : ∀ t ∈ toks ps, t ∈ ku := by
 intro t ht
 unfold toks at ht
 obtain ⟨p, hp, ht⟩ := List.mem_flatMap.mp ht
 unfold vY at ht
 cases hl : p.1 with
 | false => rw [hl] at ht; exact gY (hv p hp t ht)
 | true =>
  rw [hl] at ht
  simp only [if_true] at ht
  rcases List.mem_cons.mp ht with rfl | ht
  ·decide
  ·rcases List.mem_append.mp ht with ht | ht
   ·exact gY (hv p hp t ht)
   ·have : t = [93] := by simpa using ht
    subst this
    decide
theorem qB {ps : List eM} (hv : ∀ p ∈ ps, ∀ t ∈ p.2, t ∈ dC) : (dq ps).length <= (cK ps).length := by
 induction ps with
 | nil => simp [dq]
 | cons p ps ih =>
  have h1 := ih λ q hq => hv q (List.mem_cons_of_mem _ hq)
  have h2 : ∀ l : List (List Nat), (∀ t ∈ l, t ∈ dC) -> l.length <= l.flatten.length := by
   intro l
   induction l with
   | nil => intro _; simp
   | cons t l ih =>
    intro h
    have h1 := ih λ z hz => h z (List.mem_cons_of_mem _ hz)
    have h2 := my (gY (h t List.mem_cons_self))
    rw [List.flatten_cons, List.length_append, List.length_cons]
    omega
  have h3 := h2 p.2 (hv p List.mem_cons_self)
  have h4 : p.2.flatten.length <= (mW p).length := by
   unfold mW
   cases p.1 with
   | true => rw [if_pos rfl, List.length_append, List.length_append]; omega
   | false => rw [if_neg (by decide)]; omega
  unfold dq cK at *
  rw [List.flatMap_cons, List.flatMap_cons, List.length_append, List.length_append]
  omega
theorem qf {ps : List eM} (h : OkP ps) : cR [.str (cK ps)] = .ok (.lst (oO 0 ps)) := by
 have hlen : b9 (.str (cK ps)) = .ok (.int (cK ps).length) := by simp only [b9]; rw [if_pos (by have := h.hi; omega)]
 have hcut : aW [.str (cK ps)] = .ok (.lst ((toks ps).map D.str)) := by
  have hh := h.hi
  rw [ve] at hh ⊢
  exact A9 (vZ h.v) hh
 have hnp := lm h.v h.ne h.c (by have := qB h.v; have := h.hi; omega)
 have t1 : ¬ ((cK ps).length : Int) < 1 := by have := h.lo; omega
 have t2 : ¬ (30 : Int) < ((cK ps).length : Int) := by have := h.hi; omega
 unfold cR i8
 rw [ah (δ' := [some (.sh (.str (cK ps))), none, none]) (by
  unfold gM
  rw [aX (by
   simp only [am, List.map_cons, List.map_nil, List.cons_append, List.nil_append, wu, fV, wt, gR, bf, List.getElem?_cons_zero, R.bind_ok, hlen, l7, decide_eq_false t1, Bool.false_eq_true, if_false, c_LONGEST_FORM, pT, decide_eq_false t2])]
  rfl)]
 unfold gu
 rw [ah (δ' := [some (.sh (.str (cK ps))), some (.sh (.lst ((toks ps).map D.str))), none]) (by
  simp only [gN, gS, kB, fW, bf, jk, List.getElem?_cons_zero, R.bind_ok, hcut, fI]
  rfl)]
 obtain ⟨δ', e, x2, h3⟩ := jE (fit := λ δ => ((mC c_PLACES) δ).bind bY) (bd := bN 2) (F := gz) (δ := [some (.sh (.str (cK ps))), some (.sh (.lst ((toks ps).map D.str))), none]) (ds := b3.map D.str)
  (λ k δ => ∃ x2, δ = [some (.sh (.str (cK ps))), some (.sh (.lst ((toks ps).map D.str))), x2]) rfl ⟨none, rfl⟩ (by
   rintro k d δ hd ⟨x2, rfl⟩
   rw [List.getElem?_map] at hd
   cases q : b3[k]? with
   | none => rw [q] at hd; cases hd
   | some p =>
    rw [q] at hd
    cases hd
    have hp := List.mem_of_getElem? q
    refine ⟨[some (.sh (.str (cK ps))), some (.sh (.lst ((toks ps).map D.str))), some (.sh (.str p))], [some (.sh (.str (cK ps))), some (.sh (.lst ((toks ps).map D.str))), some (.sh (.str p))], rfl, .inl ?_, _, rfl⟩
    have hcount : Do ln (ae 1) (ag (ae 2) (aq)) [some (.sh (.str (cK ps))), some (.sh (.lst ((toks ps).map D.str))), some (.sh (.str p))] = .ok (.int ((toks ps).countP (λ x => x == p) : Nat)) := by
     have e1 : (ag (ae 2) (aq)) [some (.sh (.str (cK ps))), some (.sh (.lst ((toks ps).map D.str))), some (.sh (.str p))] = .ok [.str p] := rfl
     have e2 : ae 1 [some (.sh (.str (cK ps))), some (.sh (.lst ((toks ps).map D.str))), some (.sh (.str p))] = .ok (.lst ((toks ps).map D.str)) := rfl
     unfold Do
     rw [e2, R.bind_ok]
     dsimp only
     rw [e1, R.bind_ok]
     have hf : ((toks ps).map D.str).all bU = true := by simp [bU]
     simp only [ln, hf, bU, Bool.and_self, if_true]
     rw [List.countP_map]
     rfl
    have hle := wm h.nd hp
    unfold gz
    rw [aX (by
     simp only [fV, hcount, gR, R.bind_ok, pT]
     rw [decide_eq_false (by omega)])])
 unfold gv gO
 rw [ah e, h3]
 simp only [gw, jJ, jl, kB, fW, bf, jk, List.getElem?_cons_succ, List.getElem?_cons_zero, R.bind_ok, hnp, fI, wz]
structure Tx (s : List Nat) : Prop where
 l : s.length <= 1000
 c : ∀ c ∈ s, c < 1114112
noncomputable def ni (l : List Nat) : List D := l.map λ n : Nat => D.int (n : Int)
theorem wW (l : List Nat) : (.lst (ni l) : D) = lC (l.map λ n : Nat => (n : Int)) := by simp [ni, lC]
theorem pO (e : Nat) (l : List Nat) : pN (.int (e : Int)) (.lst (ni l)) = .ok (decide (e ∈ l)) := by
 rw [wW, pP]
 congr 1
 simp only [List.mem_map, decide_eq_decide]
 constructor
 ·rintro ⟨a, ha, hb⟩
  have : a = e := by omega
  subst this; exact ha
 ·exact λ h => ⟨e, h, rfl⟩
noncomputable def jV (tx : List Nat) (s : Nat) (E : List Nat) (w : List Nat) : List Nat := if (tx.drop s).take w.length = w /\ s + w.length ∉ E then E ++ [s + w.length] else E
noncomputable def hV (tx : List Nat) (ws : List (List Nat)) (E : List Nat) (s : Nat) : List Nat := ws.foldl (jV tx s) E
noncomputable def bO (tx : List Nat) (ws : List (List Nat)) (S : List Nat) : List Nat := S.foldl (hV tx ws) []
structure EOk (tx E : List Nat) : Prop where
 nd : E.Nodup
 le : ∀ e ∈ E, e <= tx.length
theorem EOk.len {tx E : List Nat} (h : EOk tx E) : E.length <= tx.length + 1 := by
 have := rA (E.map λ n : Nat => (n : Int)) (nA 0 (tx.length + 1)) (by
  have : ∀ l : List Nat, l.Nodup -> (l.map λ n : Nat => (n : Int)).Nodup := by
   intro l
   induction l with
   | nil => intro _; simp
   | cons a l ih =>
    intro h
    have hh := List.nodup_cons.mp h
    rw [List.map_cons, List.nodup_cons]
    refine ⟨λ z => ?_, ih hh.2⟩
    obtain ⟨b, hb, e⟩ := List.mem_map.mp z
    have : b = a := by omega
    subst this
    exact hh.1 hb
  exact this E h.nd) (λ x hx => by
  obtain ⟨a, ha, rfl⟩ := List.mem_map.mp hx
  have := h.le a ha
  exact rl.mpr (by omega))
 rw [List.length_map, rX] at this
 omega
theorem tY {tx w : List Nat} {s : Nat} (hs : s <= tx.length) (h : (tx.drop s).take w.length = w) : s + w.length <= tx.length := by
 have := congrArg List.length h
 rw [List.length_take, List.length_drop] at this
 omega
theorem yI {tx : List Nat} {s : Nat} {E w : List Nat} (hs : s <= tx.length) (h : EOk tx E) : EOk tx (jV tx s E w) := by
 unfold jV
 split
 ·rename_i c
  refine ⟨List.nodup_append.mpr ⟨h.nd, by simp, λ a ha b hb => ?_⟩, λ e he => ?_⟩
  ·have : b = s + w.length := by simpa using hb
   subst this
   rintro rfl
   exact c.2 ha
  ·rcases List.mem_append.mp he with he | he
   ·exact h.le e he
   ·have : e = s + w.length := by simpa using he
    subst this
    exact tY hs c.1
 ·exact h
theorem wR {tx : List Nat} {s : Nat} {E w : List Nat} {e : Nat} : e ∈ jV tx s E w ↔ e ∈ E \/ ((tx.drop s).take w.length = w /\ e = s + w.length) := by
 unfold jV
 split
 ·rename_i c
  rw [List.mem_append]
  simp only [List.mem_singleton, c.1, true_and]
 ·rename_i c
  constructor
  ·exact .inl
  ·rintro (h | ⟨h1, rfl⟩)
   ·exact h
   ·by_cases z : s + w.length ∈ E
    ·exact z
    ·exact absurd ⟨h1, z⟩ c
theorem qr {tx : List Nat} {s : Nat} (hs : s <= tx.length) : ∀ (ws : List (List Nat)) {E : List Nat}, EOk tx E -> EOk tx (hV tx ws E s)
 | [], E, h => h
 | w :: ws, E, h => qr hs ws (yI hs h)
theorem rm {tx : List Nat} {s : Nat} {e : Nat} : ∀ (ws : List (List Nat)) {E : List Nat}, e ∈ hV tx ws E s ↔ e ∈ E \/ ∃ w ∈ ws, (tx.drop s).take w.length = w /\ e = s + w.length
 | [], E => by simp [hV]
 | w :: ws, E => by
  have := rm (tx := tx) (s := s) (e := e) ws (E := jV tx s E w)
  show e ∈ hV tx ws (jV tx s E w) s ↔ _
  rw [this, wR, or_assoc]
  simp
noncomputable def Ec (tx : List Nat) (ws : List (List Nat)) (s e : Nat) : Prop := ∃ w ∈ ws, (tx.drop s).take w.length = w /\ e = s + w.length
theorem mM {tx : List Nat} {ws : List (List Nat)} : ∀ (S : List Nat) {E : List Nat}, (∀ s ∈ S, s <= tx.length) -> EOk tx E -> EOk tx (S.foldl (hV tx ws) E)
 | [], E, _, h => h
 | s :: S, E, hS, h => mM S (λ z hz => hS z (List.mem_cons_of_mem _ hz)) (qr (hS s List.mem_cons_self) ws h)
theorem oR {tx : List Nat} {ws : List (List Nat)} {S : List Nat} (h : EOk tx S) : EOk tx (bO tx ws S) := mM S h.le ⟨by simp, by simp⟩
theorem oF {tx : List Nat} {ws : List (List Nat)} {e : Nat} : ∀ (S : List Nat) {E : List Nat}, e ∈ S.foldl (hV tx ws) E ↔ e ∈ E \/ ∃ s ∈ S, Ec tx ws s e
 | [], E => by simp
 | s :: S, E => by
  rw [List.foldl_cons, oF S, rm, or_assoc]
  simp [Ec]
theorem m5 {tx : List Nat} {ws : List (List Nat)} {S : List Nat} {e : Nat} : e ∈ bO tx ws S ↔ ∃ s ∈ S, Ec tx ws s e := by
 unfold bO
 rw [oF]
 simp
theorem tG {tx : List Nat} {ws : List (List Nat)} : bO tx ws [] = [] := rfl
theorem Bj {W S4 : D} {tx : List Nat} (ht : Tx tx) {E : List Nat} {s : Nat} (hs : s <= tx.length) (hE : EOk tx E) {w : List Nat} (hw : Tx w) (x6 : Option Sl) :
  b8 [some (.sh W), some (.sh (.str tx)), some (.sh S4), some (.ow ((ni E))), some (.sh (.int s)), some (.sh (.str w)), x6] = .next [some (.sh W), some (.sh (.str tx)), some (.sh S4), some (.ow ((ni (jV tx s E w)))), some (.sh (.int s)), some (.sh (.str w)), some (.sh (.int (((s + w.length : Nat) : Int))))] := by
 unfold b8
 rw [ah (δ' := [some (.sh W), some (.sh (.str tx)), some (.sh S4), some (.ow ((ni E))), some (.sh (.int s)), some (.sh (.str w)), some (.sh (.int (((s + w.length : Nat) : Int))))]) (by simp_arith [hR hw.l]; simp)]
 have hl := hE.len
 have hl2 := ht.l
 have hcut : uz (.str tx) (some (s : Int)) (some ((s + w.length : Nat) : Int)) = .ok (.str ((tx.drop s).take w.length)) := by
  simp only [uz]
  rw [if_pos (by omega), oq _ hs (by omega)]
  congr 3
  omega
 have hdr : ∀ c ∈ (tx.drop s).take w.length, c < 1114112 := λ c hc => ht.c c (List.mem_of_mem_drop (List.mem_of_mem_take hc))
 have hnl : (ni E).length < 1000000 := by simp [ni]; omega
 by_cases c1 : (tx.drop s).take w.length = w
 ·by_cases c2 : s + w.length ∈ E
  ·have : jV tx s E w = E := by unfold jV; rw [if_neg (λ z => z.2 c2)]
   rw [this, aX (by simp_arith [hcut, c1, dZ hw.c hw.c, j5, pO, beq_self_eq_true, c2, Bool.not_true])]
  ·have : jV tx s E w = E ++ [s + w.length] := by unfold jV; rw [if_pos ⟨c1, c2⟩]
   rw [this, bn (by simp_arith [hcut, c1, dZ hw.c hw.c, j5, pO, beq_self_eq_true, c2, Bool.not_false])]
   simp_arith [hnl]
   simp [ni]
 ·have : jV tx s E w = E := by unfold jV; rw [if_neg (λ z => c1 z.1)]
  rw [this, aX (by simp_arith [hcut, dZ hdr hw.c, beq_eq_false_iff_ne.mpr c1])]
theorem lf {tx : List Nat} (ht : Tx tx) {ws : List (List Nat)} (hw : ∀ w ∈ ws, Tx w) {S : List Nat} (hS : ∀ s ∈ S, s <= tx.length) : bA [.lst (ws.map D.str), .str tx, .lst (ni S)] = .ok (.lst (ni (bO tx ws S))) := by
 unfold bA eh
 rw [ah (δ' := [some (.sh (.lst (ws.map D.str))), some (.sh (.str tx)), some (.sh (.lst (ni S))), some (.ow ([])), none, none, none]) (by simp [c8, am, lim])]
 obtain ⟨δ', e, x4, x5, x6, h3⟩ := kU (f := λ n : Nat => D.int (n : Int)) (l := S) (i := 4) (fit := λ δ => ((ae 2) δ).bind bY) (F := fR) (δ := [some (.sh (.lst (ws.map D.str))), some (.sh (.str tx)), some (.sh (.lst (ni S))), some (.ow ([])), none, none, none])
  (λ k δ => ∃ x4 x5 x6, δ = [some (.sh (.lst (ws.map D.str))), some (.sh (.str tx)), some (.sh (.lst (ni S))), some (.ow ((ni ((S.take k).foldl (hV tx ws) [])))), x4, x5, x6]) rfl ⟨none, none, none, rfl⟩ (by
   rintro k s δ hk ⟨x4, x5, x6, rfl⟩
   have hs := hS s (List.mem_of_getElem? hk)
   have hE : EOk tx ((S.take k).foldl (hV tx ws) []) := mM _ (λ z hz => hS z (List.mem_of_mem_take hz)) ⟨by simp, by simp⟩
   obtain ⟨δ2, e2, y5, y6, h2⟩ := kU (f := D.str) (l := ws) (i := 5) (fit := λ δ => ((ae 0) δ).bind bY) (F := b8) (δ := [some (.sh (.lst (ws.map D.str))), some (.sh (.str tx)), some (.sh (.lst (ni S))), some (.ow ((ni ((S.take k).foldl (hV tx ws) [])))), some (.sh (.int s)), x5, x6])
    (λ j δ => ∃ x5 x6, δ = [some (.sh (.lst (ws.map D.str))), some (.sh (.str tx)), some (.sh (.lst (ni S))), some (.ow ((ni (hV tx (ws.take j) ((S.take k).foldl (hV tx ws) []) s)))), some (.sh (.int s)), x5, x6]) rfl ⟨x5, x6, rfl⟩ (by
     rintro j w δ hj ⟨x5, x6, rfl⟩
     refine ⟨_, .inl (Bj ht hs (qr hs _ hE) (hw w (List.mem_of_getElem? hj)) x6), some (.sh (.str w)), some (.sh (.int ((s + w.length : Nat) : Int))), ?_⟩
     have : jV tx s (hV tx (ws.take j) ((S.take k).foldl (hV tx ws) []) s) w = hV tx (ws.take (j + 1)) ((S.take k).foldl (hV tx ws) []) s := by
      unfold hV
      rw [List.take_add_one, hj]
      simp
     rw [this])
   refine ⟨_, .inl (e2.trans (by rw [h2])), some (.sh (.int (s : Int))), y5, y6, ?_⟩
   rw [List.take_length]
   have : hV tx ws ((S.take k).foldl (hV tx ws) []) s = (S.take (k + 1)).foldl (hV tx ws) [] := by
    rw [List.take_add_one, hk]
    simp
   rw [this])
 unfold cV c9
 rw [ah e, h3, List.take_length]
 rfl
noncomputable def cT (tx : List Nat) (W : List Nat -> List (List Nat)) (ts : List (List Nat)) (S : List Nat) : List Nat := ts.foldl (λ S t => bO tx (W t) S) S
theorem oK {tx : List Nat} {W : List Nat -> List (List Nat)} : ∀ ts : List (List Nat), cT tx W ts [] = []
 | [] => rfl
 | t :: ts => by
  show cT tx W ts (bO tx (W t) []) = []
  rw [tG]
  exact oK ts
theorem nb {tx : List Nat} {W : List Nat -> List (List Nat)} : ∀ (ts : List (List Nat)) {S : List Nat}, EOk tx S -> EOk tx (cT tx W ts S)
 | [], S, h => h
 | t :: ts, S, h => nb ts (oR h)
noncomputable def PR (tx : List Nat) (W : List Nat -> List (List Nat)) : List (List Nat) -> Nat -> Nat -> Prop
 | [], s, e => s = e
 | t :: ts, s, e => ∃ m, Ec tx (W t) s m /\ PR tx W ts m e
theorem lj {tx : List Nat} {W : List Nat -> List (List Nat)} {e : Nat} : ∀ (ts : List (List Nat)) {S : List Nat}, e ∈ cT tx W ts S ↔ ∃ s ∈ S, PR tx W ts s e
 | [], S => by simp [cT, PR]
 | t :: ts, S => by
  show e ∈ cT tx W ts (bO tx (W t) S) ↔ _
  rw [lj ts]
  constructor
  ·rintro ⟨m, hm, h⟩
   obtain ⟨s, hs, h1⟩ := m5.mp hm
   exact ⟨s, hs, m, h1, h⟩
  ·rintro ⟨s, hs, m, h1, h⟩
   exact ⟨m, m5.mpr ⟨s, hs, h1⟩, h⟩
structure WD (wd : D) (W : List Nat -> List (List Nat)) : Prop where
 pl : ∀ t ∈ b3, vq wd (.str [t.getD 1 0]) = .ok (.lst ((W t).map D.str))
 sg : ∀ c ∈ bu, W [c] = [[c]]
 ok : ∀ t ∈ dC, ∀ w ∈ W t, Tx w
theorem sE {t : List Nat} (h : t ∈ dC) : (t ∈ b3 /\ t.length = 3) \/ ∃ c ∈ bu, t = [c] := by
 unfold dC at h
 rcases List.mem_append.mp h with h | h
 ·have : ∀ t ∈ b3, t.length = 3 := by decide
  exact .inl ⟨h, this t h⟩
 ·obtain ⟨c, hc, rfl⟩ := List.mem_map.mp h
  exact .inr ⟨c, hc, rfl⟩
theorem si : ∀ c ∈ bu, c < 123 := by decide
theorem xj {P S0 wd : D} {W : List Nat -> List (List Nat)} (hw : WD wd W) {tx : List Nat} (ht : Tx tx) {S : List Nat} (hS : EOk tx S) {k : Int} {t : List Nat} (hT : t ∈ dC) (x6 : Option Sl) :
  aS [some (.sh P), some (.sh wd), some (.sh (.str tx)), some (.sh S0), some (.sh (.lst (ni S))), some (.sh (aG k t)), x6] = (if bO tx (W t) S = [] then .ret (.lst []) else .next [some (.sh P), some (.sh wd), some (.sh (.str tx)), some (.sh S0), some (.sh (.lst (ni (bO tx (W t) S)))), some (.sh (aG k t)), some (.sh (.lst ((W t).map D.str)))]) := by
 unfold aS
 have hwr : aV 6 (Bz (bI cE (m2 bV (ae 5) (mC (.int 0))) (mC (.str [112, 108, 97, 99, 101]))) (m2 vq (ae 1) (m2 bV (ae 5) (mC (.int 1)))) (cC (ag (m2 bV (ae 5) (mC (.int 1))) (aq)))) [some (.sh P), some (.sh wd), some (.sh (.str tx)), some (.sh S0), some (.sh (.lst (ni S))), some (.sh (aG k t)), x6] = .next [some (.sh P), some (.sh wd), some (.sh (.str tx)), some (.sh S0), some (.sh (.lst (ni S))), some (.sh (aG k t)), some (.sh (.lst ((W t).map D.str)))] := by
  rcases sE hT with ⟨hp, h3⟩ | ⟨c, hc, rfl⟩
  ·have e : aG k t = .tup [.str [112, 108, 97, 99, 101], .str [t.getD 1 0], .int k] := by unfold aG; rw [if_pos h3]
   have i0 : bV (aG k t) (.int 0) = .ok (.str [112, 108, 97, 99, 101]) := by rw [e]; rfl
   have i1 : bV (aG k t) (.int 1) = .ok (.str [t.getD 1 0]) := by rw [e]; rfl
   have hq : cE (.str [112, 108, 97, 99, 101]) (.str [112, 108, 97, 99, 101]) = .ok true := by rw [dZ (by decide) (by decide)]; rfl
   simp_arith [i0, i1, hq, hw.pl t hp]
  ·have e : aG k [c] = .tup [.str [115, 105, 103, 110], .str [c], .int k] := by unfold aG; rw [if_neg (by simp)]
   have i0 : bV (aG k [c]) (.int 0) = .ok (.str [115, 105, 103, 110]) := by rw [e]; rfl
   have i1 : bV (aG k [c]) (.int 1) = .ok (.str [c]) := by rw [e]; rfl
   have hq : cE (.str [115, 105, 103, 110]) (.str [112, 108, 97, 99, 101]) = .ok false := by rw [dZ (by decide) (by decide)]; rfl
   simp_arith [i0, i1, hq, hw.sg c hc]
   rfl
 rw [ah hwr]
 have he := lf ht (ws := W t) (hw.ok t hT) (S := S) hS.le
 rw [ah (δ' := [some (.sh P), some (.sh wd), some (.sh (.str tx)), some (.sh S0), some (.sh (.lst (ni (bO tx (W t) S)))), some (.sh (aG k t)), some (.sh (.lst ((W t).map D.str)))]) (by simp_arith [he])]
 have hnil : cE (.lst (ni (bO tx (W t) S))) (.lst []) = .ok (bO tx (W t) S).isEmpty := by
  unfold cE
  rw [wW, jA, show qv (.lst []) = true from jA []]
  simp only [Bool.and_self, if_true]
  rw [show (lC ((bO tx (W t) S).map λ n : Nat => (n : Int))) = .lst (((bO tx (W t) S).map λ n : Nat => (n : Int)).map D.int) from rfl, pJ]
  cases bO tx (W t) S <;> rfl
 cases hz : bO tx (W t) S with
 | nil =>
  rw [hz] at hnil
  rw [bn (by simp_arith [hnil]; rfl), if_pos rfl]
  rfl
 | cons a l =>
  rw [hz] at hnil
  rw [aX (by simp_arith [hnil]; rfl), if_neg (by simp)]
theorem oN {P S0 wd : D} {W : List Nat -> List (List Nat)} (hw : WD wd W) {tx : List Nat} (ht : Tx tx) {k : Int} : ∀ (ts : List (List Nat)) {S : List Nat} (x5 x6 : Option Sl), (∀ t ∈ ts, t ∈ dC) -> EOk tx S →
  (bx (bN 5) aS (ts.map (aG k)) [some (.sh P), some (.sh wd), some (.sh (.str tx)), some (.sh S0), some (.sh (.lst (ni S))), x5, x6] = .ret (.lst []) /\ cT tx W ts S = []) \/ ∃ y5 y6, bx (bN 5) aS (ts.map (aG k)) [some (.sh P), some (.sh wd), some (.sh (.str tx)), some (.sh S0), some (.sh (.lst (ni S))), x5, x6] = .next [some (.sh P), some (.sh wd), some (.sh (.str tx)), some (.sh S0), some (.sh (.lst (ni (cT tx W ts S)))), y5, y6]
 | [], S, x5, x6, _, _ => .inr ⟨x5, x6, rfl⟩
 | t :: ts, S, x5, x6, hT, hS => by
  have h1 := xj (P := P) (S0 := S0) hw ht hS (k := k) (hT t List.mem_cons_self) x6
  by_cases hz : bO tx (W t) S = []
  ·refine .inl ⟨?_, ?_⟩
   ·rw [if_pos hz] at h1
    exact vn (δ1 := [some (.sh P), some (.sh wd), some (.sh (.str tx)), some (.sh S0), some (.sh (.lst (ni S))), some (.sh (aG k t)), x6]) rfl h1
   ·show cT tx W ts (bO tx (W t) S) = []
    rw [hz, oK]
  ·rw [if_neg hz] at h1
   have e : bx (bN 5) aS ((t :: ts).map (aG k)) [some (.sh P), some (.sh wd), some (.sh (.str tx)), some (.sh S0), some (.sh (.lst (ni S))), x5, x6] = bx (bN 5) aS (ts.map (aG k)) [some (.sh P), some (.sh wd), some (.sh (.str tx)), some (.sh S0), some (.sh (.lst (ni (bO tx (W t) S)))), some (.sh (aG k t)), some (.sh (.lst ((W t).map D.str)))] := sU (δ1 := [some (.sh P), some (.sh wd), some (.sh (.str tx)), some (.sh S0), some (.sh (.lst (ni S))), some (.sh (aG k t)), x6]) rfl h1
   rw [e]
   exact oN hw ht ts _ _ (λ z hz => hT z (List.mem_cons_of_mem _ hz)) (oR hS)
theorem lQ {wd : D} {W : List Nat -> List (List Nat)} (hw : WD wd W) {tx : List Nat} (ht : Tx tx) {k : Int} {ts : List (List Nat)} (hT : ∀ t ∈ ts, t ∈ dC) {S : List Nat} (hS : EOk tx S) : bM [.lst (ts.map (aG k)), wd, .str tx, .lst (ni S)] = .ok (.lst (ni (cT tx W ts S))) := by
 unfold bM fj
 rw [ah (δ' := [some (.sh (.lst (ts.map (aG k)))), some (.sh wd), some (.sh (.str tx)), some (.sh (.lst (ni S))), some (.sh (.lst (ni S))), none, none]) (by simp [dH, am])]
 unfold dG
 have hz : dI [some (.sh (.lst (ts.map (aG k)))), some (.sh wd), some (.sh (.str tx)), some (.sh (.lst (ni S))), some (.sh (.lst (ni S))), none, none] = bx (bN 5) aS (ts.map (aG k)) [some (.sh (.lst (ts.map (aG k)))), some (.sh wd), some (.sh (.str tx)), some (.sh (.lst (ni S))), some (.sh (.lst (ni S))), none, none] := rfl
 rcases oN (P := .lst (ts.map (aG k))) (S0 := .lst (ni S)) hw ht (k := k) ts none none hT hS with ⟨h1, h2⟩ | ⟨y5, y6, h1⟩
 ·rw [bT (hz.trans h1), h2]
  rfl
 ·rw [ah (hz.trans h1)]
  rfl
noncomputable abbrev uc := Int × List (List Nat)
noncomputable def gD (g : uc) : D := .lst (g.2.map (aG g.1))
noncomputable def jm (tx : List Nat) (W : List Nat -> List (List Nat)) (S : List Nat) (g : uc) : List Nat := if 0 < g.1 then S ++ (cT tx W g.2 S).filter (λ e => !decide (e ∈ S)) else cT tx W g.2 S
noncomputable def GR (tx : List Nat) (W : List Nat -> List (List Nat)) : List uc -> Nat -> Nat -> Prop
 | [], s, e => s = e
 | g :: gs, s, e => ∃ m, (PR tx W g.2 s m \/ (0 < g.1 /\ m = s)) /\ GR tx W gs m e
theorem wE {tx : List Nat} {W : List Nat -> List (List Nat)} {S : List Nat} (h : EOk tx S) (g : uc) : EOk tx (jm tx W S g) := by
 unfold jm
 have hp := nb (W := W) g.2 h
 split
 ·refine ⟨List.nodup_append.mpr ⟨h.nd, hp.nd.filter _, λ a ha b hb => ?_⟩, λ e he => ?_⟩
  ·have := (List.mem_filter.mp hb).2
   rintro rfl
   simp [ha] at this
  ·rcases List.mem_append.mp he with he | he
   ·exact h.le e he
   ·exact hp.le e (List.mem_filter.mp he).1
 ·exact hp
theorem oG {tx : List Nat} {W : List Nat -> List (List Nat)} {S : List Nat} {g : uc} {e : Nat} : e ∈ jm tx W S g ↔ ∃ s ∈ S, PR tx W g.2 s e \/ (0 < g.1 /\ e = s) := by
 unfold jm
 split
 ·rename_i hk
  rw [List.mem_append, List.mem_filter, lj]
  constructor
  ·rintro (h | ⟨⟨s, hs, h⟩, _⟩)
   ·exact ⟨e, h, .inr ⟨hk, rfl⟩⟩
   ·exact ⟨s, hs, .inl h⟩
  ·rintro ⟨s, hs, h | ⟨_, rfl⟩⟩
   ·by_cases z : e ∈ S
    ·exact .inl z
    ·exact .inr ⟨⟨s, hs, h⟩, by simp [z]⟩
   ·exact .inl hs
 ·rename_i hk
  rw [lj]
  constructor
  ·rintro ⟨s, hs, h⟩
   exact ⟨s, hs, .inl h⟩
  ·rintro ⟨s, hs, h | ⟨h, _⟩⟩
   ·exact ⟨s, hs, h⟩
   ·exact absurd h hk
theorem rj {tx : List Nat} {W : List Nat -> List (List Nat)} {e : Nat} : ∀ (gs : List uc) {S : List Nat}, e ∈ gs.foldl (jm tx W) S ↔ ∃ s ∈ S, GR tx W gs s e
 | [], S => by simp [GR]
 | g :: gs, S => by
  rw [List.foldl_cons, rj gs]
  constructor
  ·rintro ⟨m, hm, h⟩
   obtain ⟨s, hs, h1⟩ := oG.mp hm
   exact ⟨s, hs, m, h1, h⟩
  ·rintro ⟨s, hs, m, h1, h⟩
   exact ⟨m, oG.mpr ⟨s, hs, h1⟩, h⟩
theorem ur {tx : List Nat} {W : List Nat -> List (List Nat)} : ∀ (gs : List uc) {S : List Nat}, EOk tx S -> EOk tx (gs.foldl (jm tx W) S)
 | [], S, h => h
 | g :: gs, S, h => ur gs (wE h g)
theorem sr {P wd : D} {W : List Nat -> List (List Nat)} (hw : WD wd W) {tx : List Nat} (ht : Tx tx) {S : List Nat} (hS : EOk tx S) {g : uc} (hg : ∀ t ∈ g.2, t ∈ dC) (hne : g.2 ≠ []) (x5 : Option Sl) :
  c7 [some (.sh P), some (.sh wd), some (.sh (.str tx)), some (.sh (.lst (ni S))), some (.sh (gD g)), x5] = .next [some (.sh P), some (.sh wd), some (.sh (.str tx)), some (.sh (.lst (ni (jm tx W S g)))), some (.sh (gD g)), some (.sh (.lst (ni S)))] := by
 unfold c7
 rw [ah (δ' := [some (.sh P), some (.sh wd), some (.sh (.str tx)), some (.sh (.lst (ni S))), some (.sh (gD g)), some (.sh (.lst (ni S)))]) (by simp_arith [])]
 have hp := lQ hw ht (k := g.1) hg hS
 rw [ah (δ' := [some (.sh P), some (.sh wd), some (.sh (.str tx)), some (.sh (.lst (ni (cT tx W g.2 S)))), some (.sh (gD g)), some (.sh (.lst (ni S)))]) (by simp_arith [gD, hp])]
 obtain ⟨t, ts, e2⟩ : ∃ t ts, g.2 = t :: ts := by
  cases h : g.2 with
  | nil => exact absurd h hne
  | cons t ts => exact ⟨t, ts, rfl⟩
 have i0 : bV (gD g) (.int 0) = .ok (aG g.1 t) := by unfold gD; rw [e2]; exact fX (cb (k := 0) rfl)
 have i2 : bV (aG g.1 t) (.int 2) = .ok (.int g.1) := by
  unfold aG
  split <;> rfl
 have hl := (nb (W := W) g.2 hS).len
 have hl2 := hS.len
 have hl3 := ht.l
 unfold jm
 by_cases hk : 0 < g.1
 ·rw [bn (by simp_arith [i0, i2, hk]), if_pos hk]
  have hc : dF (λ δ => ((ae 3) δ).bind bY) (bI j5 (ae 6) (ae 5)) (ae 6) [some (.sh P), some (.sh wd), some (.sh (.str tx)), some (.sh (.lst (ni (cT tx W g.2 S)))), some (.sh (gD g)), some (.sh (.lst (ni S)))] = .ok (ni ((cT tx W g.2 S).filter (λ e => !decide (e ∈ S)))) := by
   refine qI (l := cT tx W g.2 S) (h := λ n : Nat => D.int (n : Int)) (g := λ n : Nat => D.int (n : Int)) (p := λ e => !decide (e ∈ S)) rfl (by omega) (λ a ha => ?_) (λ a ha _ => rfl)
   show j5 (.int (a : Int)) (.lst (ni S)) = _
   rw [j5, pO]
   rfl
  have hfl : ((cT tx W g.2 S).filter (λ e => !decide (e ∈ S))).length <= (cT tx W g.2 S).length := List.length_filter_le _ _
  have hcat : rC (.lst (ni S)) (.lst (ni ((cT tx W g.2 S).filter (λ e => !decide (e ∈ S))))) = .ok (.lst (ni (S ++ (cT tx W g.2 S).filter (λ e => !decide (e ∈ S))))) := by
   rw [zi (by simp only [ni, List.length_map]; omega)]
   simp [ni]
  rw [gS, jY, yS, hc]
  simp_arith [hcat]
 ·rw [aX (by simp_arith [i0, i2, hk]), if_neg hk]
theorem nU {wd : D} {W : List Nat -> List (List Nat)} (hw : WD wd W) {tx : List Nat} (ht : Tx tx) {gs : List uc} (hg : ∀ g ∈ gs, (∀ t ∈ g.2, t ∈ dC) /\ g.2 ≠ []) : ∃ b, ck [.lst (gs.map gD), wd, .str tx] = .ok (.bl b) /\ (b = true ↔ GR tx W gs 0 tx.length) := by
 refine ⟨decide (tx.length ∈ gs.foldl (jm tx W) [0]), ?_, ?_⟩
 ·unfold ck h9
  rw [ah (δ' := [some (.sh (.lst (gs.map gD))), some (.sh wd), some (.sh (.str tx)), some (.sh (.lst (ni [0]))), none, none]) (by simp [fD, am, ni])]
  obtain ⟨δ', e, x4, x5, h3⟩ := kU (f := gD) (l := gs) (i := 4) (fit := λ δ => ((ae 0) δ).bind bY) (F := c7) (δ := [some (.sh (.lst (gs.map gD))), some (.sh wd), some (.sh (.str tx)), some (.sh (.lst (ni [0]))), none, none])
   (λ k δ => ∃ x4 x5, δ = [some (.sh (.lst (gs.map gD))), some (.sh wd), some (.sh (.str tx)), some (.sh (.lst (ni ((gs.take k).foldl (jm tx W) [0])))), x4, x5]) rfl ⟨none, none, rfl⟩ (by
    rintro k g δ hk ⟨x4, x5, rfl⟩
    obtain ⟨h1, h2⟩ := hg g (List.mem_of_getElem? hk)
    refine ⟨_, .inl (sr hw ht (ur _ ⟨by simp, by simp⟩) h1 h2 x5), some (.sh (gD g)), some (.sh (.lst (ni ((gs.take k).foldl (jm tx W) [0])))), ?_⟩
    rw [List.take_add_one, hk]
    simp)
  unfold fm fE
  rw [ah e, h3, List.take_length]
  unfold fq jg
  simp_arith [hR ht.l, d6, m7, pO]
  rfl
 ·rw [decide_eq_true_eq, rj]
  simp
noncomputable def dO : List (List Nat) := [[106, 97, 110, 117, 97, 114, 121], [102, 101, 98, 114, 117, 97, 114, 121], [109, 97, 114, 99, 104], [97, 112, 114, 105, 108], [109, 97, 121], [106, 117, 110, 101], [106, 117, 108, 121], [97, 117, 103, 117, 115, 116], [115, 101, 112, 116, 101, 109, 98, 101, 114], [111, 99, 116, 111, 98, 101, 114], [110, 111, 118, 101, 109, 98, 101, 114], [100, 101, 99, 101, 109, 98, 101, 114]]
noncomputable def bR : List (List Nat) := [[109, 111, 110, 100, 97, 121], [116, 117, 101, 115, 100, 97, 121], [119, 101, 100, 110, 101, 115, 100, 97, 121], [116, 104, 117, 114, 115, 100, 97, 121], [102, 114, 105, 100, 97, 121], [115, 97, 116, 117, 114, 100, 97, 121], [115, 117, 110, 100, 97, 121]]
noncomputable def iP (n : Nat) : List (List Nat) := if n < 10 then [dg n, 48 :: dg n] else [dg n]
noncomputable def nO (s : List Nat) : List (List Nat) := (List.range s.length).map λ k => s.take (k + 1)
noncomputable def WY (y m d w : Nat) (t : List Nat) : List (List Nat) :=
 if t = [60, 100, 62] then iP d else if t = [60, 109, 62] then iP m else if t = [60, 121, 62] then [sw y] else if t = [60, 89, 62] then [qw y] else
 if t = [60, 110, 62] then nO (dO.getD (m - 1) []) else if t = [60, 119, 62] then nO (bR.getD w []) else [t]
noncomputable abbrev bQ (l : List (List Nat)) : D := .lst (l.map D.str)
noncomputable def D2 (y m d w : Nat) : D := .dic [Sum.inr ("d" : Str), Sum.inr ("m" : Str), Sum.inr ("y" : Str), Sum.inr ("Y" : Str), Sum.inr ("n" : Str), Sum.inr ("w" : Str)]
 [bQ (iP d), bQ (iP m), bQ [sw y], bQ [qw y], bQ (nO (dO.getD (m - 1) [])), bQ (nO (bR.getD w []))]
theorem sY : ∀ s ∈ dO ++ bR, s.length <= 9 /\ ∀ c ∈ s, c < 123 := by decide
theorem m4 (m : Nat) : dO.getD (m - 1) [] = [] \/ dO.getD (m - 1) [] ∈ dO ++ bR := by
 rw [List.getD_eq_getElem?_getD]
 cases h : dO[m - 1]? with
 | none => exact .inl rfl
 | some s => exact .inr (List.mem_append_left _ (List.mem_of_getElem? h))
theorem kH (w : Nat) : bR.getD w [] = [] \/ bR.getD w [] ∈ dO ++ bR := by
 rw [List.getD_eq_getElem?_getD]
 cases h : bR[w]? with
 | none => exact .inl rfl
 | some s => exact .inr (List.mem_append_right _ (List.mem_of_getElem? h))
theorem l6 {s : List Nat} (h : s = [] \/ s ∈ dO ++ bR) : s.length <= 9 /\ ∀ c ∈ s, c < 123 := by
 rcases h with rfl | h
 ·simp
 ·exact sY s h
theorem ul {n : Nat} (h : n < 10000) : ∀ w ∈ iP n, Tx w := by
 have hd := qT h
 have hl := @jj n
 have h1 : Tx (dg n) := ⟨by omega, λ c hc => by have := hd c hc; omega⟩
 have h2 : Tx (48 :: dg n) := ⟨by simp; omega, λ c hc => by
  rcases List.mem_cons.mp hc with rfl | hc
  ·omega
  ·exact h1.c c hc⟩
 intro w hw
 unfold iP at hw
 split at hw
 ·rcases List.mem_cons.mp hw with rfl | hw
  ·exact h1
  ·have : w = 48 :: dg n := by simpa using hw
   subst this; exact h2
 ·have : w = dg n := by simpa using hw
  subst this; exact h1
theorem uf {s : List Nat} (h : s.length <= 9 /\ ∀ c ∈ s, c < 123) : ∀ w ∈ nO s, Tx w := by
 intro w hw
 obtain ⟨k, hk, rfl⟩ := List.mem_map.mp hw
 refine ⟨?_, λ c hc => ?_⟩
 ·rw [List.length_take]; omega
 ·have := h.2 c (List.mem_of_mem_take hc)
  omega
theorem C6 {y m d w : Nat} (hm : m < 10000) (hd : d < 10000) {t : List Nat} (ht : t ∈ dC) : ∀ x ∈ WY y m d w t, Tx x := by
 intro x hx
 unfold WY at hx
 split at hx
 ·exact ul hd x hx
 ·split at hx
  ·exact ul hm x hx
  ·split at hx
   ·have : x = sw y := by simpa using hx
    subst this
    refine ⟨by simp [sw], λ c hc => ?_⟩
    simp [sw] at hc
    omega
   ·split at hx
    ·have : x = qw y := by simpa using hx
     subst this
     refine ⟨by simp [qw], λ c hc => ?_⟩
     simp [qw] at hc
     omega
    ·split at hx
     ·exact uf (l6 (m4 m)) x hx
     ·split at hx
      ·exact uf (l6 (kH w)) x hx
      ·have : x = t := by simpa using hx
       subst this
       have : ∀ t ∈ dC, t.length <= 3 /\ ∀ c ∈ t, c < 123 := by decide
       obtain ⟨h1, h2⟩ := this x ht
       exact ⟨by omega, λ c hc => by have := h2 c hc; omega⟩
theorem yH (y m d w : Nat) : ∀ c ∈ bu, WY y m d w [c] = [[c]] := λ c _ => by simp [WY]
theorem A4 {y m d w : Nat} (hm : m < 10000) (hd : d < 10000) : WD (D2 y m d w) (WY y m d w) where
 pl := by
  intro t ht
  simp only [b3, List.mem_cons, List.not_mem_nil, or_false] at ht
  rcases ht with rfl | rfl | rfl | rfl | rfl | rfl <;> rfl
 sg := yH y m d w
 ok := λ t ht => C6 hm hd ht
theorem mJ {n : Nat} (h : n < 10000) : cj [.int (n : Int)] = .ok (bQ (iP n)) := by
 unfold cj kY iP
 simp only [am, List.map_cons, List.map_nil, List.length_cons, List.length_nil]
 by_cases c : n < 10
 ·have c' : (n : Int) < 10 := by omega
  rw [bT (d := bQ [dg n, 48 :: dg n]) (by
   rw [bn (by simp [c'])]
   simp [d5 h, BC h]), if_pos c]
  rfl
 ·have c' : ¬ (n : Int) < 10 := by omega
  rw [ah (δ' := [some (.sh (.int n))]) (by rw [aX (by simp [c'])]; rfl), if_neg c]
  simp [i4, d5 h]
theorem we (s : List Nat) : nO s = (nA 1 (s.length + 1)).map λ k => s.take k.toNat := by
 unfold nO nA
 rw [List.map_map]
 have : ((s.length : Int) + 1 - 1).toNat = s.length := by omega
 rw [this]
 refine List.map_congr_left λ k hk => ?_
 simp only [Function.comp]
 congr 1
 omega
theorem jL {s : List Nat} (h : s.length <= 1000) : bv [.str s] = .ok (bQ (nO s)) := by
 unfold bv hW
 have hc : dF (λ δ => ((ag (mC (.int 1)) (ag (m2 bz (m1 b9 (ae 0)) (mC (.int 1))) (aq))) δ).bind su) (λ _ => .ok true) (yt (ae 0) (sW) (mP (ae 1))) [some (.sh (.str s))] = .ok ((nA 1 (s.length + 1)).map λ k => D.str (s.take k.toNat)) := by
  have e1 : (ag (mC (.int 1)) (ag (m2 bz (m1 b9 (ae 0)) (mC (.int 1))) (aq))) [some (.sh (.str s))] = .ok [.int 1, .int ((s.length : Int) + 1)] := by
   simp_arith [hR h]
  refine qJ (l := nA 1 (s.length + 1)) (h := D.int) ?_ (by rw [rX]; omega) (λ a ha => ?_)
  ·rw [<- yc]
   exact EE (fs := ag (mC (.int 1)) (ag (m2 bz (m1 b9 (ae 0)) (mC (.int 1))) (aq))) e1 (by omega) (by omega) (by omega) (by omega)
  ·have hb := rl.mp ha
   obtain ⟨k, rfl⟩ : ∃ k : Nat, a = (k : Int) := ⟨a.toNat, by omega⟩
   show uz (.str s) none (some (k : Int)) = _
   simp only [uz]
   rw [if_pos (by omega), pC _ (by omega)]
   rfl
 have e2 : am 1 [.str s] = [some (.sh (.str s))] := rfl
 rw [e2, jl, yS, hc, we]
 simp [List.map_map, Function.comp]
noncomputable def kt : Nat -> List eM -> List (Int × List Nat)
 | _, [] => []
 | n, p :: ps => p.2.map (λ t => ((if p.1 then ((n + 1 : Nat) : Int) else 0), t)) ++ kt (if p.1 then n + 1 else n) ps
noncomputable def vD (p : Int × List Nat) : D := aG p.1 p.2
theorem tE : ∀ (ps : List eM) (n : Nat), oO n ps = (kt n ps).map vD
 | [], _ => rfl
 | p :: ps, n => by
  simp only [oO, kt, List.map_append, List.map_map, tE ps]
  rfl
noncomputable def qY (gs : List uc) (p : Int × List Nat) : List uc := match gs.getLast? with
 | none => [(p.1, [p.2])]
 | some g => if g.1 = p.1 then gs.dropLast ++ [(p.1, g.2 ++ [p.2])] else gs ++ [(p.1, [p.2])]
noncomputable def gL (g : uc) : List D := g.2.map (aG g.1)
theorem BJ (p : Int × List Nat) : bV (vD p) (.int 2) = .ok (.int p.1) := by
 unfold vD aG
 split <;> rfl
theorem uy (i j : Int) : nW (.int i) (.int j) = .ok (!decide (i = j)) := by
 unfold nW
 rw [show qv (.int i) = true from rfl, show qv (.int j) = true from rfl]
 simp [va, uO, PyData.eqv]
 rfl
theorem bc (i j : Int) : cE (.int i) (.int j) = .ok (decide (i = j)) := by
 unfold cE
 rw [show qv (.int i) = true from rfl, show qv (.int j) = true from rfl]
 simp [va, uO, PyData.eqv]
 rfl
theorem q8 {L : List (Int × List Nat)} {d0 : D} (hd0 : d0 = .lst (L.map vD)) : ∀ (rest done : List (Int × List Nat)) (gs : List uc), L = done ++ rest -> (gs.getLast?.map (·.1)) = (done.getLast?.map (·.1)) →
  uq (lh 1 2 3 [some (.sh d0), none, none, none]) (uw (bI cE (ae 2) (mC (.int 0))) (bI nW (m2 bV (ae 3) (mC (.int 2))) (m2 bV (m2 bV (ae 0) (m2 fN (ae 2) (mC (.int 1)))) (mC (.int 2))))) done.length (rest.map vD) (gs.map gL) = .ok ((rest.foldl qY gs).map gL)
 | [], done, gs, _, _ => rfl
 | p :: rest, done, gs, hL, hk => by
  have henv : lh 1 2 3 [some (.sh d0), none, none, none] done.length (vD p) = [some (.sh d0), none, some (.sh (.int ((done.length : Int)))), some (.sh (vD p))] := rfl
  have ih := λ gs' h => q8 hd0 rest (done ++ [p]) gs' (by rw [hL]; simp) h
  rw [List.length_append] at ih
  simp only [List.length_cons, List.length_nil, Nat.zero_add] at ih
  rw [List.map_cons, uq, henv, List.foldl_cons]
  cases hz : done.getLast? with
  | none =>
   have hn : done = [] := List.getLast?_eq_none_iff.mp hz
   subst hn
   have hg : gs = [] := by
    rw [hz] at hk
    cases h : gs.getLast? with
    | none => exact List.getLast?_eq_none_iff.mp h
    | some g => rw [h] at hk; cases hk
   subst hg
   have et : (uw (bI cE (ae 2) (mC (.int 0))) (bI nW (m2 bV (ae 3) (mC (.int 2))) (m2 bV (m2 bV (ae 0) (m2 fN (ae 2) (mC (.int 1)))) (mC (.int 2))))) [some (.sh d0), none, some (.sh (.int ((([] : List (Int × List Nat)).length : Int)))), some (.sh (vD p))] = .ok true := by
    simp_arith [List.length_nil, bc]
    simp
   rw [et]
   exact ih [(p.1, [p.2])] (by simp)
  | some q =>
   have hne : done ≠ [] := by rintro rfl; cases hz
   have hpos : 0 < done.length := List.length_pos_iff.mpr hne
   have hlast : (L.map vD)[done.length - 1]? = some (vD q) := by
    rw [hL, List.getElem?_map, List.getElem?_append_left (by omega), <- List.getLast?_eq_getElem?, hz]
    rfl
   have hix : bV d0 (.int ((done.length : Int) - 1)) = .ok (vD q) := by
    rw [hd0]
    have : ((done.length : Int) - 1) = ((done.length - 1 : Nat) : Int) := by omega
    rw [this]
    exact fX (cb hlast)
   have hn0 : ¬ (done.length : Int) = 0 := by omega
   have et : (uw (bI cE (ae 2) (mC (.int 0))) (bI nW (m2 bV (ae 3) (mC (.int 2))) (m2 bV (m2 bV (ae 0) (m2 fN (ae 2) (mC (.int 1)))) (mC (.int 2))))) [some (.sh d0), none, some (.sh (.int ((done.length : Int)))), some (.sh (vD p))] = .ok (!decide (p.1 = q.1)) := by
    simp_arith [bc, hn0, BJ, hix, uy]
   rw [et]
   obtain ⟨g, hg⟩ : ∃ g, gs.getLast? = some g := by
    cases h : gs.getLast? with
    | none => rw [h, hz] at hk; cases hk
    | some g => exact ⟨g, rfl⟩
   have hgq : g.1 = q.1 := by rw [hg, hz] at hk; simpa using hk
   by_cases c : p.1 = q.1
   ·have e1 : qY gs p = gs.dropLast ++ [(p.1, g.2 ++ [p.2])] := by unfold qY; rw [hg]; simp [hgq, c]
    have e2 : (gs.map gL).getLast? = some (gL g) := by rw [List.getLast?_map, hg]; rfl
    have := ih (qY gs p) (by rw [e1]; simp)
    rw [decide_eq_true c]
    simp only [Bool.not_true, e2]
    rw [<- this, e1, List.map_append]
    congr 2
    ·simp
    ·simp [gL, vD, hgq, c]
   ·have e1 : qY gs p = gs ++ [(p.1, [p.2])] := by unfold qY; rw [hg]; simp [hgq, Ne.symm c]
    have := ih (qY gs p) (by rw [e1]; simp)
    rw [decide_eq_false c]
    simp only [Bool.not_false]
    rw [<- this, e1, List.map_append]
    rfl
noncomputable def mU (ps : List eM) : List uc := (kt 0 ps).foldl qY []
theorem yf {ps : List eM} (h : (dq ps).length <= 1000) : bg [.lst (oO 0 ps)] = .ok (.lst ((mU ps).map gD)) := by
 have hl : (oO 0 ps).length <= 100000 := by rw [uF]; omega
 unfold bg cI
 have e0 : am 4 [.lst (oO 0 ps)] = [some (.sh (.lst (oO 0 ps))), none, none, none] := rfl
 rw [e0]
 have hg := q8 (L := kt 0 ps) (d0 := .lst (oO 0 ps)) (by rw [tE]) (kt 0 ps) [] [] rfl rfl
 rw [<- tE] at hg
 obtain ⟨x2, x3, hz⟩ : ∃ x2 x3, v3 0 1 2 3 (uw (bI cE (ae 2) (mC (.int 0))) (bI nW (m2 bV (ae 3) (mC (.int 2))) (m2 bV (m2 bV (ae 0) (m2 fN (ae 2) (mC (.int 1)))) (mC (.int 2))))) [some (.sh (.lst (oO 0 ps))), none, none, none] = .next [some (.sh (.lst (oO 0 ps))), some (.sh (.lst ((mU ps).map gD))), x2, x3] := by
  unfold v3
  simp only [List.getElem?_cons_zero]
  rw [if_pos hl]
  have hg' : uq (lh 1 2 3 [some (.sh (.lst (oO 0 ps))), none, none, none]) (uw (bI cE (ae 2) (mC (.int 0))) (bI nW (m2 bV (ae 3) (mC (.int 2))) (m2 bV (m2 bV (ae 0) (m2 fN (ae 2) (mC (.int 1)))) (mC (.int 2))))) 0 (oO 0 ps) [] = .ok ((mU ps).map gL) := hg
  rw [hg']
  have em : ((mU ps).map gL).map D.lst = (mU ps).map gD := by rw [List.map_map]; rfl
  simp only [em]
  cases (oO 0 ps).getLast? with
  | none => exact ⟨none, none, rfl⟩
  | some d => exact ⟨_, _, rfl⟩
 rw [ah hz]
 rfl
theorem lw {ps : List eM} (h : OkP ps) : bC [.str (cK ps)] = .ok (.lst ((mU ps).map gD)) := by
 have h1 := qf h
 have h2 := yf (ps := ps) (by have := qB h.v; have := h.hi; omega)
 unfold bC eo
 simp [am, h1, h2]
theorem nP {tx : List Nat} (h1 : 1 <= tx.length) (h2 : tx.length <= 20) (hs : ∀ c ∈ tx, c ∈ bu) : ci [.str tx] = .ok .non := by
 have t1 : ¬ (tx.length : Int) < 1 := by omega
 have t2 : ¬ (20 : Int) < (tx.length : Int) := by omega
 unfold ci hZ
 rw [ah (δ' := [some (.sh (.str tx)), none]) (by
  rw [aX (by simp [am, hR (s := tx) (by omega), t1, t2, c_LONGEST_TEXT])]
  rfl)]
 obtain ⟨δ', e, x1, h3⟩ := kU (f := λ c : Nat => D.str [c]) (l := tx) (i := 1) (fit := λ δ => ((ae 0) δ).bind pQ) (F := fB) (δ := [some (.sh (.str tx)), none])
  (λ k δ => ∃ x1, δ = [some (.sh (.str tx)), x1]) rfl ⟨none, rfl⟩ (by
   rintro k c δ hk ⟨x1, rfl⟩
   have hc := rM c (hs c (List.mem_of_getElem? hk))
   refine ⟨[some (.sh (.str tx)), some (.sh (.str [c]))], .inl ?_, _, rfl⟩
   unfold fB
   have hin : j5 (.str [c]) c_PLAIN_SIGNS = .ok false := by
    show ((R.ok (!(Builtin.Str.occurrences ⟨bu.toArray⟩ ⟨[c].toArray⟩ 0 (⟨bu.toArray⟩ : Str).length 1).isEmpty)).bind λ k => R.ok (!k)) = _
    rw [hc]
    rfl
   rw [aX (by simp_arith [hin])]
   rfl)
 unfold fi
 rw [e, h3]
 rfl
noncomputable def jF (y : Int) : Bool := y % 4 == 0 && (!(y % 100 == 0) || y % 400 == 0)
noncomputable def cO (y m : Int) : Int := if m = 2 /\ jF y = true then 29 else [31, 28, 31, 30, 31, 30, 31, 31, 30, 31, 30, 31].getD (m - 1).toNat 0
noncomputable def aY (y : Int) : Int := (y - 1) * 365 + (y - 1) / 4 - (y - 1) / 100 + (y - 1) / 400
noncomputable def eZ (y : Int) : Nat -> Int
 | 0 => 0
 | k + 1 => eZ y k + cO y (k + 1)
noncomputable def iO (y m d : Int) : Int := aY y + eZ y (m - 1).toNat + d - 1
noncomputable def kF (y m d : Int) : Bool := decide (1 <= y) && decide (y <= 9999) && decide (1 <= m) && decide (m <= 12) && decide (1 <= d) && decide (d <= cO y m)
theorem By : ∀ k, k < 12 -> 28 <= ([31, 28, 31, 30, 31, 30, 31, 31, 30, 31, 30, 31] : List Int).getD k 0 /\ ([31, 28, 31, 30, 31, 30, 31, 31, 30, 31, 30, 31] : List Int).getD k 0 <= 31 := by decide
theorem eY (y : Int) {m : Int} (h1 : 1 <= m) (h2 : m <= 12) : 28 <= cO y m /\ cO y m <= 31 := by
 unfold cO
 split
 ·exact ⟨by decide, by decide⟩
 ·exact By _ (by omega)
theorem wc {y m : Int} (h1 : 1 <= m) (h2 : m <= 12) (c : ¬(m = 2 /\ jF y = true)) : lF [D.int 31, D.int 28, D.int 31, D.int 30, D.int 31, D.int 30, D.int 31, D.int 31, D.int 30, D.int 31, D.int 30, D.int 31] (m - 1) = some (.int (cO y m)) := by
 unfold cO
 rw [if_neg c]
 obtain ⟨k, e⟩ : ∃ k : Nat, m - 1 = k := ⟨(m - 1).toNat, (Int.toNat_of_nonneg (Int.sub_nonneg_of_le h1)).symm⟩
 have hk : k < ([31, 28, 31, 30, 31, 30, 31, 31, 30, 31, 30, 31] : List Int).length := by show k < 12; omega
 rw [e, Int.toNat_natCast]
 refine cb ?_
 show (([31, 28, 31, 30, 31, 30, 31, 31, 30, 31, 30, 31] : List Int).map D.int)[k]? = _
 rw [List.getElem?_map, List.getD_eq_getElem?_getD, List.getElem?_eq_getElem hk]
 rfl
theorem j0 (y : Int) : dL [.int y] = .ok (.bl (jF y)) := by
 unfold dL kZ am jF
 cases h1 : (y % 4 == 0) <;> cases h2 : (y % 100 == 0) <;> cases h3 : (y % 400 == 0) <;> simp [aI, h1, h2, h3]
theorem rq (y m : Int) (h1 : 1 <= m) (h2 : m <= 12) : bo [.int y, .int m] = .ok (.int (cO y m)) := by
 unfold bo fz am
 by_cases c : m = 2 /\ jF y = true
 ·obtain ⟨rfl, h⟩ := c
  simp [av, j0, h, cO]
 ·have e := pV (wc h1 h2 c)
  by_cases c2 : m = 2
  ·have h : jF y = false := by cases h : jF y with
    | false => rfl
    | true => exact absurd ⟨c2, h⟩ c
   subst c2
   simp [av, j0, h, cf, c_COMMON_LENGTHS, e, -Int.reduceSub]
  ·simp [av, j0, c2, cf, c_COMMON_LENGTHS, e]
theorem kr (y : Int) : aD [.int y] = .ok (.int (aY y)) := by
 unfold aD ca am aY
 simp [av, bX, m8, b4]
theorem jM (n : Int) : bi [.int n] = .ok (.bl (decide (0 <= n) && decide (n <= 3652058))) := by
 unfold bi h8 am
 by_cases c : 0 <= n <;> simp [c, c_LAST_NUMBER]
theorem BA (y : Int) : eZ y 12 = 365 + (if jF y = true then 1 else 0) := by
 cases h : jF y <;> simp [eZ, cO, h]
theorem uj {y k q r : Int} (h : 0 < k) (e : r + k * q = y) (h0 : 0 <= r) (h1 : r < k) : y / k = q := ((Int.ediv_emod_unique h).mpr ⟨e, h0, h1⟩).1
theorem EB (y : Int) {k : Int} (h : 0 < k) : y / k = (y - 1) / k + (if y % k = 0 then 1 else 0) := by
 have e := Int.emod_add_mul_ediv y k
 have n := Int.emod_nonneg y (Int.ne_of_gt h)
 have l := Int.emod_lt_of_pos y h
 have e2 : k * (y / k - 1) = k * (y / k) - k := by rw [Int.mul_sub, Int.mul_one]
 by_cases c : y % k = 0
 ·rw [if_pos c, uj (y := y - 1) h (q := y / k - 1) (r := k - 1) (by rw [e2]; omega) (Int.le_sub_one_of_lt h) (Int.sub_lt_self k Int.one_pos), Int.sub_add_cancel]
 ·rw [if_neg c, uj (y := y - 1) h (q := y / k) (r := y % k - 1) (by omega) (Int.le_sub_one_of_lt (Int.lt_iff_le_and_ne.mpr ⟨n, Ne.symm c⟩)) (Int.lt_trans (Int.sub_lt_self _ Int.one_pos) l), Int.add_zero]
theorem AO {y : Int} (h : y % 100 = 0) : y % 4 = 0 := by
 rw [<- Int.emod_emod_of_dvd y (show (4 : Int) ∣ 100 by decide), h]; rfl
theorem AQ {y : Int} (h : y % 400 = 0) : y % 100 = 0 := by
 rw [<- Int.emod_emod_of_dvd y (show (100 : Int) ∣ 400 by decide), h]; rfl
theorem Fl (y : Int) : (if jF y = true then (1 : Int) else 0) = (if y % 4 = 0 then 1 else 0) - (if y % 100 = 0 then 1 else 0) + (if y % 400 = 0 then 1 else 0) := by
 unfold jF
 by_cases h3 : y % 400 = 0
 ·simp [h3, AQ h3, AO (AQ h3)]
 ·by_cases h2 : y % 100 = 0
  ·simp [h3, h2, AO h2]
  ·simp [h3, h2]
theorem EY (a b c d e f g h i j : Int) (hb : b = e + h) (hc : c = f + i) (hd : d = g + j) : a * 365 + b - c + d = (a - 1) * 365 + e - f + g + (365 + (h - i + j)) := by omega
theorem mv (y : Int) : aY (y + 1) = aY y + eZ y 12 := by
 rw [BA]
 rw [Fl]
 unfold aY
 rw [Int.add_sub_cancel]
 exact EY _ _ _ _ _ _ _ _ _ _ (EB y (by decide)) (EB y (by decide)) (EB y (by decide))
theorem wa {y : Int} (h : 10000 <= y) : 3652059 <= aY y := by
 unfold aY
 by_cases c : y = 10000
 ·subst c; decide
 ·omega
theorem qt (n : Int) (h0 : 0 <= n) : ∃ y, 1 <= y /\ aY y <= n /\ n < aY (y + 1) /\ cS [.int n] = .ok (.int y) := by
 unfold cS i9
 have hq : 0 <= n / 146097 := by omega
 generalize hy0 : n / 146097 * 400 + n % 146097 / 366 + 1 = y0
 have a0 : aY y0 <= n := by unfold aY; omega
 have y1 : 1 <= y0 := by omega
 have e0 : dS [some (.sh (.int n)), some (.sh (.int (n / 146097))), none] = dU [some (.sh (.int n)), some (.sh (.int (n / 146097))), some (.sh (.int y0))] := by
  unfold dS
  rw [ah (δ' := [some (.sh (.int n)), some (.sh (.int (n / 146097))), some (.sh (.int y0))]) (by simp [gP, m8, b4, aI, c_DAYS_OF_400_YEARS, <- hy0])]
 have es : am 3 [D.int n] = [some (.sh (.int n)), none, none] := rfl
 have st : ∀ F, bL (av dY F (am 3 [.int n])) = bL (F [some (.sh (.int n)), some (.sh (.int (n / 146097))), none]) := λ F => by
  rw [es, ah (δ' := [some (.sh (.int n)), some (.sh (.int (n / 146097))), none]) (by simp [dY, b4, c_DAYS_OF_400_YEARS])]
 rw [st, e0]
 unfold dU
 obtain ⟨δ', k', e, ⟨y, rfl, hy, ha, hk⟩, hf⟩ := kd (t := bI yx (aF aD (ag (m2 bz (ae 2) (mC (.int 1))) (aq))) (ae 0)) (F := gA)
  (λ k δ => ∃ y, δ = [some (.sh (.int n)), some (.sh (.int (n / 146097))), some (.sh (.int y))] /\ y0 <= y /\ aY y <= n /\ (k : Int) = 3 - (y - y0)) (λ k δ ⟨y, hδ, hy, ha, hk⟩ => by
   subst hδ
   by_cases c : aY (y + 1) <= n
   ·refine .inr ⟨by simp [kr, c], [some (.sh (.int n)), some (.sh (.int (n / 146097))), some (.sh (.int (y + 1)))], k - 1, ?_, by simp [gA, kT], y + 1, rfl, by omega, c, ?_⟩
    ·have : y - y0 <= 2 := by unfold aY at ha; omega
     omega
    ·have : y - y0 <= 2 := by unfold aY at ha; omega
     omega
   ·exact .inl (by simp [kr, c])) 10 3 [some (.sh (.int n)), some (.sh (.int (n / 146097))), some (.sh (.int y0))] (by omega) ⟨y0, rfl, by omega, a0, by omega⟩
 refine ⟨y, by omega, ha, ?_, ?_⟩
 ·by_cases c : aY (y + 1) <= n
  ·simp [kr, c] at hf
  ·omega
 ·rw [ah (F1 := gQ) e]
  simp [gy, jK]
theorem l5 (y : Int) : ∀ (a b : Nat), a <= b -> b <= 12 -> eZ y a <= eZ y b := λ a b h hb => by
 induction b with
 | zero =>
  have : a = 0 := by omega
  subst this
  exact Int.le_refl _
 | succ b ih =>
  by_cases c : a = b + 1
  ·subst c; exact Int.le_refl _
  ·have h1 := ih (by omega) (by omega)
   have h2 := eY y (m := b + 1) (by omega) (by omega)
   show eZ y a <= eZ y b + cO y (b + 1)
   omega
noncomputable def ms (y m : Int) : Int := eZ y (m - 1).toNat
theorem sN (n : Int) (h0 : 0 <= n) (h1 : n <= 3652058) : ∃ y m d, dJ [.int n] = .ok (.tup [.int y, .int m, .int d]) /\ kF y m d = true /\ iO y m d = n := by
 obtain ⟨y, hy, ha, hb, ey⟩ := qt n h0
 have hy2 : y <= 9999 := by
  by_cases c : 10000 <= y
  ·have := wa c; omega
  ·omega
 unfold dJ kX
 have es : am 4 [D.int n] = [some (.sh (.int n)), none, none, none] := rfl
 rw [es, ah (δ' := [some (.sh (.int n)), none, none, none]) (by simp [jb, jM, h0, h1])]
 unfold iW
 rw [ah (δ' := [some (.sh (.int n)), some (.sh (.int y)), none, none]) (by simp [jc, ey])]
 unfold iX
 rw [ah (δ' := [some (.sh (.int n)), some (.sh (.int y)), some (.sh (.int (n - aY y))), none]) (by simp [jd, kr])]
 unfold iY
 rw [ah (δ' := [some (.sh (.int n)), some (.sh (.int y)), some (.sh (.int (n - aY y))), some (.sh (.int 1))]) (by simp [je])]
 unfold iZ
 rw [mv] at hb
 obtain ⟨δ', k', e, ⟨m, rfl, hm1, hm2, hr, hk⟩, hf⟩ := kd (t := bI CV (ae 2) (aF bo (ag (ae 1) (ag (ae 3) (aq))))) (F := ja)
  (λ k δ => ∃ m : Int, δ = [some (.sh (.int n)), some (.sh (.int y)), some (.sh (.int (n - aY y - ms y m))), some (.sh (.int m))] /\ 1 <= m /\ m <= 12 /\ 0 <= n - aY y - ms y m /\ (k : Int) = 12 - m) (λ k δ ⟨m, hδ, hm1, hm2, hr, hk⟩ => by
   subst hδ
   have hml := rq y m hm1 hm2
   have hst : ms y m + cO y m = ms y (m + 1) := by
    show eZ y (m - 1).toNat + cO y m = eZ y (m + 1 - 1).toNat
    rw [show m + 1 - 1 = m by omega]
    have : m.toNat = (m - 1).toNat + 1 := by omega
    rw [this]
    show _ = eZ y (m - 1).toNat + cO y (((m - 1).toNat : Int) + 1)
    rw [show (((m - 1).toNat : Int) + 1) = m by omega]
   by_cases c : cO y m <= n - aY y - ms y m
   ·have hm : m < 12 := by
     by_cases c2 : m = 12
     ·subst c2
      have : ms y (12 + 1) = eZ y 12 := rfl
      omega
     ·omega
    refine .inr ⟨by simp [hml, c], [some (.sh (.int n)), some (.sh (.int y)), some (.sh (.int (n - aY y - ms y (m + 1)))), some (.sh (.int (m + 1)))], k - 1, by omega, ?_, m + 1, rfl, by omega, by omega, ?_, by omega⟩
    ·have : n - aY y - ms y m - cO y m = n - aY y - ms y (m + 1) := by omega
     simp [ja, av, kT, hml, this]
    ·omega
   ·exact .inl (by simp [hml, c])) 20 11 [some (.sh (.int n)), some (.sh (.int y)), some (.sh (.int (n - aY y))), some (.sh (.int 1))] (by omega) ⟨1, by simp [ms, eZ], by omega, by omega, by simp [ms, eZ]; omega, by omega⟩
 rw [ah (F1 := jf) e]
 have hml := rq y m hm1 hm2
 refine ⟨y, m, n - aY y - ms y m + 1, by simp [i3, lE], ?_, ?_⟩
 ·by_cases c : cO y m <= n - aY y - ms y m
  ·simp [hml, c] at hf
  ·simp [kF]; omega
 ·unfold iO
  have : eZ y (m - 1).toNat = ms y m := rfl
  omega
theorem t0 (n : Int) (h0 : 0 <= n) (h1 : n <= 3652058) : bZ [.int n] = .ok (.int (n % 7)) := by
 unfold bZ iA am
 simp [av, jM, h0, h1, fA, aI]
noncomputable def Dr (y m d : Int) : Prop := 1 <= y /\ 1 <= m /\ m <= 12 /\ 1 <= d /\ d <= cO y m
theorem ll (y : Int) {m : Int} (h1 : 1 <= m) : eZ y m.toNat = eZ y (m - 1).toNat + cO y m := by
 obtain ⟨k, rfl⟩ : ∃ k : Nat, m = (k : Int) + 1 := ⟨(m - 1).toNat, by omega⟩
 rw [show ((k : Int) + 1).toNat = k + 1 by omega, show ((k : Int) + 1 - 1).toNat = k by omega]
 rfl
theorem s0 {y m d : Int} (h : Dr y m d) : aY y <= iO y m d /\ iO y m d < aY (y + 1) := by
 obtain ⟨h0, h1, h2, h3, h4⟩ := h
 have e1 := ll y h1
 have e2 := l5 y m.toNat 12 (by omega) (by omega)
 have e3 := l5 y 0 (m - 1).toNat (by omega) (by omega)
 have e4 := mv y
 have e5 : eZ y 0 = 0 := rfl
 unfold iO
 omega
theorem mr {y z : Int} (h : y < z) : aY (y + 1) <= aY z := by
 by_cases c : z = y + 1
 ·rw [c]; omega
 ·unfold aY; omega
theorem hG {y m d : Int} (h : kF y m d = true) : Dr y m d := by
 simp [kF] at h
 unfold Dr
 omega
theorem zh {y m d y' m' d' : Int} (h : Dr y m d) (h' : Dr y' m' d') (e : iO y m d = iO y' m' d') : y = y' /\ m = m' /\ d = d' := by
 have a := s0 h
 have a' := s0 h'
 have ey : y = y' := by
  rcases Int.lt_trichotomy y y' with c | c | c
  ·have := mr c; omega
  ·exact c
  ·have := mr c; omega
 subst ey
 obtain ⟨h0, h1, h2, h3, h4⟩ := h
 obtain ⟨h0', h1', h2', h3', h4'⟩ := h'
 have e1 := ll y h1
 have e1' := ll y h1'
 unfold iO at e
 have em : m = m' := by
  rcases Int.lt_trichotomy m m' with c | c | c
  ·have := l5 y m.toNat (m' - 1).toNat (by omega) (by omega); omega
  ·exact c
  ·have := l5 y m'.toNat (m - 1).toNat (by omega) (by omega); omega
 subst em
 exact ⟨rfl, rfl, by omega⟩
theorem q9 {y m d : Int} (h : kF y m d = true) : 0 <= iO y m d /\ iO y m d <= 3652058 := by
 have h3 := hG h
 have h1 := s0 h3
 have hy : y <= 9999 := by
  unfold kF at h
  simp only [Bool.and_eq_true, decide_eq_true_eq] at h
  exact h.1.1.1.1.2
 have h4 : 0 <= aY y := by
  have := h3.1
  unfold aY; omega
 have h5 : aY (y + 1) <= 3652059 := by
  have := h3.1
  unfold aY; omega
 omega
theorem qQ {y m d : Int} (h : kF y m d = true) : dJ [.int (iO y m d)] = .ok (.tup [.int y, .int m, .int d]) := by
 obtain ⟨h0, h1⟩ := q9 h
 obtain ⟨y', m', d', e, h', hn⟩ := sN (iO y m d) h0 h1
 obtain ⟨rfl, rfl, rfl⟩ := zh (hG h') (hG h) hn
 exact e
theorem nI {y m d w : Nat} (h : kF y m d = true) (hw : iO y m d % 7 = (w : Int)) : b5 [.int (iO y m d)] = .ok (D2 y m d w) := by
 obtain ⟨h0, h1⟩ := q9 h
 have hd := qQ h
 have hb : (1 <= y /\ y <= 9999) /\ (1 <= m /\ m <= 12) /\ (1 <= d /\ d <= 31) := by
  have h3 := hG h
  have := (eY y h3.2.1 h3.2.2.1).2
  have := h3.2.2.2.2
  unfold kF at h
  simp only [Bool.and_eq_true, decide_eq_true_eq] at h
  omega
 have hw7 : w < 7 := by omega
 unfold b5 gx
 have e0 : am 4 [.int (iO y m d)] = [some (.sh (.int ((iO y m d)))), none, none, none] := rfl
 rw [e0, ah (δ' := [some (.sh (.int ((iO y m d)))), some (.sh (.tup [.int y, .int m, .int d])), none, none]) (by simp_arith [eC, hd])]
 unfold er
 rw [ah (δ' := [some (.sh (.int ((iO y m d)))), some (.sh (.tup [.int y, .int m, .int d])), some (.sh (.int y)), none]) (by simp_arith [eD]; rfl)]
 unfold eu
 rw [ah (δ' := [some (.sh (.int ((iO y m d)))), some (.sh (.tup [.int y, .int m, .int d])), some (.sh (.int y)), some (.sh (.int m))]) (by simp_arith [eE]; rfl)]
 unfold eB iN
 have i2 : bV (.tup [.int y, .int m, .int d]) (.int 2) = .ok (.int (d : Int)) := rfl
 have f1 := mJ (n := d) (by omega)
 have f2 := mJ (n := m) (by omega)
 have hmod : ba (.int (y : Int)) (.int 100) = .ok (.int ((y % 100 : Nat) : Int)) := by
  rw [aI _ (by omega)]
  simp
 have z2 : sV fO (m1 dD (m2 ba (ae 2) (mC (.int 100)))) (ag (mC (.int 2)) (aq)) [some (.sh (.int ((iO y m d)))), some (.sh (.tup [.int y, .int m, .int d])), some (.sh (.int y)), some (.sh (.int m))] = .ok (.str (sw y)) := by
  have e1 : (m1 dD (m2 ba (ae 2) (mC (.int 100)))) [some (.sh (.int ((iO y m d)))), some (.sh (.tup [.int y, .int m, .int d])), some (.sh (.int y)), some (.sh (.int m))] = .ok (.str (dg (y % 100))) := by
   simp_arith [hmod, d5 (n := y % 100) (by omega)]
  have e2 : (ag (mC (.int 2)) (aq)) [some (.sh (.int ((iO y m d)))), some (.sh (.tup [.int y, .int m, .int d])), some (.sh (.int y)), some (.sh (.int m))] = .ok [.int 2] := rfl
  unfold sV
  rw [e1, R.bind_ok]
  dsimp only
  rw [e2, R.bind_ok]
  simp only [fO]
  rw [if_pos (by omega), CN]
 have z4 : sV fO (m1 dD (ae 2)) (ag (mC (.int 4)) (aq)) [some (.sh (.int ((iO y m d)))), some (.sh (.tup [.int y, .int m, .int d])), some (.sh (.int y)), some (.sh (.int m))] = .ok (.str (qw y)) := by
  have e1 : (m1 dD (ae 2)) [some (.sh (.int ((iO y m d)))), some (.sh (.tup [.int y, .int m, .int d])), some (.sh (.int y)), some (.sh (.int m))] = .ok (.str (dg y)) := by
   simp_arith [d5 (n := y) (by omega)]
  have e2 : (ag (mC (.int 4)) (aq)) [some (.sh (.int ((iO y m d)))), some (.sh (.tup [.int y, .int m, .int d])), some (.sh (.int y)), some (.sh (.int m))] = .ok [.int 4] := rfl
  unfold sV
  rw [e1, R.bind_ok]
  dsimp only
  rw [e2, R.bind_ok]
  simp only [fO]
  rw [if_pos (by omega), CO (by omega)]
 have hmo : bV c_MONTHS (.int ((m : Int) - 1)) = .ok (.str (dO.getD (m - 1) [])) := by
  have : ((m : Int) - 1) = ((m - 1 : Nat) : Int) := by omega
  rw [this]
  have hm : m - 1 < 12 := by omega
  have : c_MONTHS = .tup (dO.map D.str) := rfl
  rw [this]
  refine pV (cb ?_)
  rw [List.getElem?_map, List.getD_eq_getElem?_getD, List.getElem?_eq_getElem (h := by show m - 1 < 12; omega)]
  rfl
 have hwk : bV c_WEEKDAYS (.int (w : Int)) = .ok (.str (bR.getD w [])) := by
  have : c_WEEKDAYS = .tup (bR.map D.str) := rfl
  rw [this]
  refine pV (cb ?_)
  rw [List.getElem?_map, List.getD_eq_getElem?_getD, List.getElem?_eq_getElem (h := by show w < 7; omega)]
  rfl
 have hwd := t0 (iO y m d) h0 h1
 rw [hw] at hwd
 have b1 := jL (s := dO.getD (m - 1) []) (by have := (l6 (m4 m)).1; omega)
 have b2 := jL (s := bR.getD w []) (by have := (l6 (kH w)).1; omega)
 have e3 : (ag (aF cj (ag (m2 bV (ae 1) (mC (.int 2))) (aq))) (ag (aF cj (ag (ae 3) (aq))) (ag (cC (ag (sV fO (m1 dD (m2 ba (ae 2) (mC (.int 100)))) (ag (mC (.int 2)) (aq))) (aq))) (ag (cC (ag (sV fO (m1 dD (ae 2)) (ag (mC (.int 4)) (aq))) (aq))) (ag (aF bv (ag (m2 bV (mC c_MONTHS) (m2 fN (ae 3) (mC (.int 1)))) (aq))) (ag (aF bv (ag (m2 bV (mC c_WEEKDAYS) (aF bZ (ag (ae 0) (aq)))) (aq))) (aq))))))) [some (.sh (.int ((iO y m d)))), some (.sh (.tup [.int y, .int m, .int d])), some (.sh (.int y)), some (.sh (.int m))] = .ok [bQ (iP d), bQ (iP m), bQ [sw y], bQ [qw y], bQ (nO (dO.getD (m - 1) [])), bQ (nO (bR.getD w []))] := by
  simp_arith [i2, f1, f2, z2, z4, hmo, hwk, hwd, b1, b2]
  rfl
 rw [jl]
 unfold ri
 rw [e3, R.bind_ok, if_pos (by simp)]
 rfl
theorem y9 {y m d w : Nat} (h : kF y m d = true) (hw : iO y m d % 7 = (w : Int)) {ps : List eM} (hp : OkP ps) {tx : List Nat} (h1 : 1 <= tx.length) (h2 : tx.length <= 20) (hs : ∀ c ∈ tx, c ∈ bu)
  (hg : ∀ g ∈ mU ps, (∀ t ∈ g.2, t ∈ dC) /\ g.2 ≠ []) : ∃ b, j4 [.str (cK ps), .str tx, .int (iO y m d)] = .ok (.bl b) /\ (b = true ↔ GR tx (WY y m d w) (mU ps) 0 tx.length) := by
 have hb : m < 10000 /\ d < 10000 := by
  have h3 := hG h
  have := (eY y h3.2.1 h3.2.2.1).2
  have := h3.2.2.2.2
  have := h3.2.2.1
  omega
 have htx : Tx tx := ⟨by omega, λ c hc => by have := si c (hs c hc); omega⟩
 obtain ⟨b, e, hb2⟩ := nU (A4 (y := y) (w := w) hb.1 hb.2) htx hg
 refine ⟨b, ?_, hb2⟩
 have e1 := lw hp
 have e2 := nP h1 h2 hs
 have e3 := nI h hw
 unfold j4 sy
 have e0 : am 4 [.str (cK ps), .str tx, .int (iO y m d)] = [some (.sh (.str (cK ps))), some (.sh (.str tx)), some (.sh (.int ((iO y m d)))), none] := rfl
 rw [e0, ah (δ' := [some (.sh (.str (cK ps))), some (.sh (.str tx)), some (.sh (.int ((iO y m d)))), some (.sh (.lst ((mU ps).map gD)))]) (by simp_arith [mo, e1])]
 unfold mh
 rw [ah (δ' := [some (.sh (.str (cK ps))), some (.sh (.str tx)), some (.sh (.int ((iO y m d)))), some (.sh (.lst ((mU ps).map gD)))]) (by simp_arith [mq, e2])]
 unfold mi qA
 simp_arith [e3, e]
 rfl
theorem lJ {t : List Nat} (h : t ∈ b3) : t ∈ dC := List.mem_append_left _ h
theorem zm {t : List Nat} (h : t ∈ b3) : OkP [(false, [t])] where
 v := λ p hp u hu => by
  have : p = (false, [t]) := by simpa using hp
  subst this
  have : u = t := by simpa using hu
  subst this
  exact lJ h
 ne := λ p hp z => by
  have : p = (false, [t]) := by simpa using hp
  subst this
  cases z
 c := by simp [yq]
 nd := by
  have : dq [(false, [t])] = [t] := by simp [dq]
  rw [this]
  by_cases c : iQ t = true <;> simp [List.filter, c]
 lo := by
  have : ∀ t ∈ b3, 1 <= t.length := by decide
  have := this t h
  simp [cK, mW]; omega
 hi := by
  have : ∀ t ∈ b3, t.length <= 30 := by decide
  have := this t h
  simp [cK, mW]; omega
theorem wB {y m d w : Nat} (h : kF y m d = true) (hw : iO y m d % 7 = (w : Int)) {t : List Nat} (ht : t ∈ b3) {tx : List Nat} (h1 : 1 <= tx.length) (h2 : tx.length <= 20) (hs : ∀ c ∈ tx, c ∈ bu) :
  j4 [.str t, .str tx, .int (iO y m d)] = .ok (.bl (decide (tx ∈ WY y m d w t))) := by
 have hg : mU [(false, [t])] = [(0, [t])] := rfl
 have hf : cK [(false, [t])] = t := by simp [cK, mW]
 obtain ⟨b, e, hb⟩ := y9 h hw (zm ht) h1 h2 hs (λ g hg' => by
  rw [hg] at hg'
  have : g = (0, [t]) := by simpa using hg'
  subst this
  exact ⟨λ u hu => by
   have : u = t := by simpa using hu
   subst this
   exact lJ ht, by simp⟩)
 rw [hf] at e
 rw [e]
 congr 2
 rw [hg] at hb
 have : GR tx (WY y m d w) [(0, [t])] 0 tx.length ↔ tx ∈ WY y m d w t := by
  constructor
  ·rintro ⟨m1, h1 | h1, h2⟩
   ·obtain ⟨m2, h3, h4⟩ := h1
    have h4' : m2 = m1 := h4
    have h2' : m1 = tx.length := h2
    subst h4' h2'
    obtain ⟨x, hx, e1, e2⟩ := h3
    have : x.length = tx.length := by omega
    rw [this] at e1
    simp at e1
    subst e1
    exact hx
   ·simp at h1
  ·intro hx
   exact ⟨tx.length, .inl ⟨tx.length, ⟨tx, hx, by simp, by simp⟩, rfl⟩, rfl⟩
 rw [this] at hb
 cases b with
 | true => simp [hb.mp rfl]
 | false =>
  have : ¬ tx ∈ WY y m d w t := λ z => by have := hb.mpr z; cases this
  simp [this]
theorem fK : ∀ c, 48 <= c -> c <= 57 -> c ∈ bu := by
 intro c h1 h2
 have : ∀ k < 10, 48 + k ∈ bu := by decide
 rw [<- Nat.add_sub_of_le h1]
 exact this _ (Nat.lt_succ_of_le (Nat.sub_le_sub_right h2 48))
theorem fL {a b : List Nat} (h : a.length + b.length <= 1000) : bz (.str a) (.str b) = .ok (.str (a ++ b)) := by
 simp only [bz]
 rw [if_pos (by omega)]
theorem wS {α : Type} {xs : List α} {lo hi : Option Int} {x : α} (h : x ∈ eF xs lo hi) : x ∈ xs := List.mem_of_mem_drop (List.mem_of_mem_take h)
theorem wP {α : Type} (xs : List α) (lo hi : Option Int) : (eF xs lo hi).length <= xs.length := by
 unfold eF
 rw [List.length_take, List.length_drop]
 omega
theorem uA {s : List Nat} (h : s.length <= 1000) (lo hi : Option Int) : uz (.str s) lo hi = .ok (.str (eF s lo hi)) := by
 simp only [uz]
 rw [if_pos (by omega)]
theorem wr (c : Int) (mx : Bool) {n m : Nat} (hn : n <= 1000) (hm : 0 < m) (hm2 : m <= 1000) : ∃ ps : List Int, bF [.int c, .bl mx, .int n, .int m] = .ok (lC ps) /\ ps.length = n /\ ∀ x ∈ ps, 0 <= x /\ x < m := by
 unfold bF i5
 rw [ah (δ' := [some (.sh (.int c)), some (.sh (.bl mx)), some (.sh (.int n)), some (.sh (.int m)), some (.ow []), none, none]) (by simp [gB, am, lim])]
 unfold ga
 rw [ah (δ' := [some (.sh (.int c)), some (.sh (.bl mx)), some (.sh (.int n)), some (.sh (.int m)), some (.ow []), some (.sh (.int c)), none]) (by simp [gC])]
 have hm' : (0 : Int) < m := by omega
 have hmod : ∀ x : Int, ba (.int x) (.int (m : Int)) = .ok (.int (x % m)) := λ x => aI _ hm'
 have hdiv : ∀ x : Int, fM (.int x) (.int (m : Int)) = .ok (.int (x / m)) := λ x => b4 _ hm' (by omega)
 obtain ⟨δ', e, ps, r, x6, hl, hb, h3⟩ := jE (fit := λ δ => ((ag (ae 2) (aq)) δ).bind yr) (bd := bN 6) (F := dW) (δ := [some (.sh (.int c)), some (.sh (.bl mx)), some (.sh (.int n)), some (.sh (.int m)), some (.ow []), some (.sh (.int c)), none]) (ds := kP 0 n)
  (λ k δ => ∃ (ps : List Int) (r : Int) (x6 : Option Sl), ps.length = k /\ (∀ x ∈ ps, 0 <= x /\ x < (m : Int)) /\ δ = [some (.sh (.int c)), some (.sh (.bl mx)), some (.sh (.int n)), some (.sh (.int m)), some (.ow (ps.map D.int)), some (.sh (.int r)), x6])
  (wA rfl (by omega)) ⟨[], c, none, rfl, by simp, rfl⟩ (by
   rintro k d δ hd ⟨ps, r, x6, hl, hb, rfl⟩
   obtain ⟨rfl, hk⟩ := rW hd
   have hlen : (ps.map D.int).length < 1000000 := by rw [List.length_map]; omega
   have good : ∀ y : Int, ∀ x ∈ ps ++ [y % m], 0 <= x /\ x < (m : Int) := λ y x hx => by
    rcases List.mem_append.mp hx with hx | hx
    ·exact hb x hx
    ·have : x = y % m := by simpa using hx
     rw [this]
     exact ⟨Int.emod_nonneg _ (by omega), Int.emod_lt_of_pos _ hm'⟩
   cases mx with
   | true =>
    have h1 : iR (.int r) (.int 48271) = .ok (.int (r * 48271)) := m8 _ (by decide) (by decide)
    have h2 : iR (.int 7919) (.int (0 + (k : Int))) = .ok (.int (7919 * (0 + k))) := tf _ (by decide) (by decide)
    have h3 : ∀ x : Int, ba (.int x) (.int 2147483647) = .ok (.int (x % 2147483647)) := λ x => aI _ (by decide)
    have h4 : ∀ x : Int, ba (.int x) (.int 2147483629) = .ok (.int (x % 2147483629)) := λ x => aI _ (by decide)
    have h5 : ∀ x : Int, iR (.int x) (.int 16807) = .ok (.int (x * 16807)) := λ x => m8 _ (by decide) (by decide)
    refine ⟨_, [some (.sh (.int c)), some (.sh (.bl true)), some (.sh (.int n)), some (.sh (.int m)), some (.ow ((ps ++ [((r * 48271 + 7919 * (0 + k) + 11) % 2147483647) * 16807 % 2147483629 % m]).map D.int)), some (.sh (.int ((r * 48271 + 7919 * (0 + k) + 11) % 2147483647))), some (.sh (.int (0 + k)))], rfl, .inl ?_, _, _, _, by simp [hl], good _, rfl⟩
    unfold dW
    rw [bn (by simp)]
    rw [ah (δ' := [some (.sh (.int c)), some (.sh (.bl true)), some (.sh (.int n)), some (.sh (.int m)), some (.ow (ps.map D.int)), some (.sh (.int ((r * 48271 + 7919 * (0 + k) + 11) % 2147483647))), some (.sh (.int (0 + k)))]) (by
     simp only [Bc, List.set_cons_succ, List.set_cons_zero, gS, jY, gR, bf, List.getElem?_cons_succ, List.getElem?_cons_zero, R.bind_ok, h1, h2, h3, m6, fI])]
    simp only [mH, jY, gR, bf, List.getElem?_cons_succ, List.getElem?_cons_zero, R.bind_ok, h4, h5, hmod, fI, hlen, if_true, List.set_cons_succ, List.set_cons_zero]
    simp
   | false =>
    refine ⟨_, [some (.sh (.int c)), some (.sh (.bl false)), some (.sh (.int n)), some (.sh (.int m)), some (.ow ((ps ++ [r % m]).map D.int)), some (.sh (.int (r / m))), some (.sh (.int (0 + k)))], rfl, .inl ?_, _, _, _, by simp [hl], good _, rfl⟩
    unfold dW
    rw [aX (by simp)]
    rw [ah (δ' := [some (.sh (.int c)), some (.sh (.bl false)), some (.sh (.int n)), some (.sh (.int m)), some (.ow ((ps ++ [r % m]).map D.int)), some (.sh (.int r)), some (.sh (.int (0 + k)))]) (by
     simp only [Bc, List.set_cons_succ, List.set_cons_zero, mH, jY, gR, bf, List.getElem?_cons_succ, List.getElem?_cons_zero, R.bind_ok, hmod, fI, hlen, if_true]
     simp)]
    simp only [gS, jY, gR, bf, List.getElem?_cons_succ, List.getElem?_cons_zero, R.bind_ok, hdiv, fI, List.set_cons_succ, List.set_cons_zero])
 unfold gc gE
 rw [ah e, h3]
 refine ⟨ps, by simp [gd, jI, mO], ?_, hb⟩
 rw [hl, lK]
 omega
theorem jn (y : Int) : cL [.int y] = .ok (.bl (jF y)) := by
 unfold cL jP am jF
 cases h1 : (y % 4 == 0) <;> cases h2 : (y % 100 == 0) <;> cases h3 : (y % 400 == 0) <;> simp [aI, h1, h2, h3]
theorem iH (y m : Int) (h1 : 1 <= m) (h2 : m <= 12) : aZ [.int y, .int m] = .ok (.int (cO y m)) := by
 unfold aZ i7 am
 by_cases c : m = 2 /\ jF y = true
 ·obtain ⟨rfl, h⟩ := c
  simp [av, jn, h, cO]
 ·have e := fX (wc h1 h2 c)
  by_cases c2 : m = 2
  ·have h : jF y = false := by cases h : jF y with
    | false => rfl
    | true => exact absurd ⟨c2, h⟩ c
   subst c2
   simp [av, jn, h, dR, e, -Int.reduceSub]
  ·simp [av, jn, c2, dR, e]
theorem nV (y m d : Int) (hm : 1 <= m) (hm2 : m <= 12) : cm [.int y, .int m, .int d] = .ok (.int (iO y m d)) := by
 unfold cm ic
 show bL (av _ _ [some (.sh (.int y)), some (.sh (.int m)), some (.sh (.int d)), none, none, none]) = _
 rw [ah (δ' := [some (.sh (.int y)), some (.sh (.int m)), some (.sh (.int d)), some (.sh (.int (y - 1))), none, none]) (by simp [fF])]
 unfold fu
 rw [ah (δ' := [some (.sh (.int y)), some (.sh (.int m)), some (.sh (.int d)), some (.sh (.int (y - 1))), some (.sh (.int (365 * (y - 1) + (y - 1) / 4 - (y - 1) / 100 + (y - 1) / 400 + d - 1))), none]) (by simp [fG, tf, b4])]
 unfold fv
 obtain ⟨δ', e, u, p⟩ := jE (fit := λ δ => ((ag (mC (.int 1)) (ag (ae 1) (aq))) δ).bind su) (bd := bN 5) (F := fC) (δ := [some (.sh (.int y)), some (.sh (.int m)), some (.sh (.int d)), some (.sh (.int (y - 1))), some (.sh (.int (365 * (y - 1) + (y - 1) / 4 - (y - 1) / 100 + (y - 1) / 400 + d - 1))), none]) (ds := kP 1 m)
  (λ k δ => ∃ u, δ = [some (.sh (.int y)), some (.sh (.int m)), some (.sh (.int d)), some (.sh (.int (y - 1))), some (.sh (.int (365 * (y - 1) + (y - 1) / 4 - (y - 1) / 100 + (y - 1) / 400 + d - 1 + eZ y k))), u])
  (by
   have : (-(2 ^ 62) <= m /\ m < 2 ^ 62) := by omega
   simp [su]
   omega) ⟨none, by simp [eZ]⟩ (λ k dd δ hd ⟨u, hδ⟩ => by
   subst hδ
   obtain ⟨rfl, hk⟩ := rW hd
   refine ⟨_, [some (.sh (.int y)), some (.sh (.int m)), some (.sh (.int d)), some (.sh (.int (y - 1))), some (.sh (.int (365 * (y - 1) + (y - 1) / 4 - (y - 1) / 100 + (y - 1) / 400 + d - 1 + eZ y (k + 1)))), some (.sh (.int (1 + k)))], rfl, .inl ?_, _, rfl⟩
   have hml := iH y (1 + k) (by omega) (by omega)
   simp [fC, hml, eZ]
   rw [show (1 + k : Int) = k + 1 by omega]
   omega)
 rw [lK] at p
 rw [ah (F1 := fH) e, p]
 simp [fw, jh, iO, aY]
 omega
theorem pR (x : Int) (b : Bool) : ∃ y m d, cQ [.int x, .bl b] = .ok (.tup [.int y, .int m, .int d]) /\ 1 <= y /\ y <= 9996 /\ 1 <= m /\ m <= 12 /\ 1 <= d /\ d <= cO y m := by
 unfold cQ i6
 show ∃ y m d, bL (av _ _ [some (.sh (.int x)), some (.sh (.bl b)), none, none, none, none]) = _ /\ _
 rw [ah (δ' := [some (.sh (.int x)), some (.sh (.bl b)), some (.sh (.int x)), none, none, none]) (by simp [gF])]
 unfold gf
 obtain ⟨r, e1⟩ : ∃ r, cF [some (.sh (.int x)), some (.sh (.bl b)), some (.sh (.int x)), none, none, none] = .next [some (.sh (.int x)), some (.sh (.bl b)), some (.sh (.int r)), none, none, none] := by
  cases b
  ·exact ⟨x, by simp [cF]⟩
  ·exact ⟨_, by simp [cF, m8, aI]; rfl⟩
 rw [ah e1]
 unfold gg
 rw [ah (δ' := [some (.sh (.int x)), some (.sh (.bl b)), some (.sh (.int r)), some (.sh (.int (1 + r % 9996))), none, none]) (by simp [gH, aI])]
 unfold gh
 rw [ah (δ' := [some (.sh (.int x)), some (.sh (.bl b)), some (.sh (.int r)), some (.sh (.int (1 + r % 9996))), some (.sh (.int (1 + r / 9996 % 12))), none]) (by simp [gI, aI, b4])]
 unfold gn
 have hy1 : 1 <= 1 + r % 9996 /\ 1 + r % 9996 <= 9996 := by omega
 have hm1 : 1 <= 1 + r / 9996 % 12 /\ 1 + r / 9996 % 12 <= 12 := by omega
 generalize 1 + r % 9996 = y at hy1
 generalize 1 + r / 9996 % 12 = m at hm1
 have hml := iH y m hm1.1 hm1.2
 have hbd := eY y hm1.1 hm1.2
 have hr1 := Int.emod_nonneg (r / 119952) (show cO y m ≠ 0 by omega)
 have hr2 := Int.emod_lt_of_pos (r / 119952) (show 0 < cO y m by omega)
 rw [ah (δ' := [some (.sh (.int x)), some (.sh (.bl b)), some (.sh (.int r)), some (.sh (.int y)), some (.sh (.int m)), some (.sh (.int (1 + r / 119952 % cO y m)))]) (by simp [gJ, b4, hml, aI _ (show 0 < cO y m by omega)])]
 unfold gr
 by_cases c : r / 3718512 % 3 = 1
 ·generalize 1 + r / 119952 % cO y m = dd
  rw [ah (δ' := [some (.sh (.int x)), some (.sh (.bl b)), some (.sh (.int r)), some (.sh (.int (4 * (1 + y % 2499)))), some (.sh (.int 2)), some (.sh (.int (20 + dd % 9)))]) (by simp [dX, av, b4, aI, tf, c])]
  refine ⟨4 * (1 + y % 2499), 2, 20 + dd % 9, by simp [dQ, gK], by omega, by omega, by omega, by omega, by omega, ?_⟩
  have := eY (4 * (1 + y % 2499)) (m := 2) (by omega) (by omega)
  omega
 ·rw [ah (δ' := [some (.sh (.int x)), some (.sh (.bl b)), some (.sh (.int r)), some (.sh (.int y)), some (.sh (.int m)), some (.sh (.int (1 + r / 119952 % cO y m)))]) (by simp [dX, av, b4, aI, c])]
  exact ⟨y, m, 1 + r / 119952 % cO y m, by simp [dQ, gK], by omega, by omega, by omega, by omega, by omega, by omega⟩
set_option Elab.async false
set_option linter.all false
set_option maxRecDepth 100000
set_option maxHeartbeats 400000
open PySem L2 L3
theorem Fm {t : List Nat} (h : t = [60, 100, 62] \/ t = [60, 109, 62] \/ t = [60, 121, 62] \/ t = [60, 89, 62]) : t ∈ b3 := by
 rcases h with rfl | rfl | rfl | rfl <;> decide
theorem ym {y : Nat} (h : y < 10000) : ([48, 48, 48] ++ dg y).drop ((dg y).length - 1) = qw y := by
 unfold dg qw
 split
 ·rename_i h1
  rw [dz (k := 1000) (Nat.lt_of_lt_of_le h1 (by decide)), dz (k := 100) (Nat.lt_of_lt_of_le h1 (by decide)), dz (k := 10) h1, Nat.mod_eq_of_lt h1]
  rfl
 ·split
  ·rename_i h1
   rw [dz (k := 1000) (Nat.lt_of_lt_of_le h1 (by decide)), dz (k := 100) h1, dm (k := 10) h1]
   rfl
  ·split
   ·rename_i h1
    rw [dz (k := 1000) h1, dm (k := 100) h1]
    rfl
   ·rw [dm (k := 1000) h]
    rfl
theorem wy {n : Nat} (k : Int) (h : k = if n < 10 then 2 else 1) : eF ([dg n, [48] ++ dg n].map D.str) none (some k) = (iP n).map D.str := by
 unfold iP
 by_cases c : n < 10
 ·rw [if_pos c] at h ⊢
  subst h
  exact pC (b := 2) _ (by simp)
 ·rw [if_neg c] at h ⊢
  subst h
  exact pC (b := 1) _ (by simp)
theorem rf {y m d : Nat} (w : Nat) (hy : y < 10000) (hm : m < 10000) (hd : d < 10000) {t : List Nat} (ht : t = [60, 100, 62] \/ t = [60, 109, 62] \/ t = [60, 121, 62] \/ t = [60, 89, 62]) :
  dN [.str t, .tup [.int y, .int m, .int d]] = .ok (bQ (WY y m d w t)) := by
 have htc : ∀ c ∈ t, c < 1114112 := by rcases ht with rfl | rfl | rfl | rfl <;> decide
 have q1 : cE (.str t) (.str [60, 121, 62]) = .ok (t == [60, 121, 62]) := dZ htc (by decide)
 have q2 : cE (.str t) (.str [60, 89, 62]) = .ok (t == [60, 89, 62]) := dZ htc (by decide)
 have q3 : cE (.str t) (.str [60, 109, 62]) = .ok (t == [60, 109, 62]) := dZ htc (by decide)
 unfold dN jR
 have e0 : am 6 [.str t, .tup [.int y, .int m, .int d]] = [some (.sh (.str t)), some (.sh (.tup [.int y, .int m, .int d])), none, none, none, none] := rfl
 rw [e0, ah (δ' := [some (.sh (.str t)), some (.sh (.tup [.int y, .int m, .int d])), some (.sh (.int y)), some (.sh (.int m)), some (.sh (.int d)), none]) (by rfl)]
 unfold ip
 by_cases c1 : t = [60, 121, 62]
 ·have hmod : ba (.int ((y / 10 : Nat) : Int)) (.int 10) = .ok (.int ((y / 10 % 10 : Nat) : Int)) := by rw [aI _ (by omega)]; simp
  have hdiv : fM (.int (y : Int)) (.int 10) = .ok (.int ((y / 10 : Nat) : Int)) := by rw [b4 _ (by omega) (by omega)]; simp
  have hmod2 : ba (.int (y : Int)) (.int 10) = .ok (.int ((y % 10 : Nat) : Int)) := by rw [aI _ (by omega)]; simp
  have d1 : dg (y / 10 % 10) = [48 + y / 10 % 10] := by unfold dg; rw [if_pos (by omega)]
  have d2 : dg (y % 10) = [48 + y % 10] := by unfold dg; rw [if_pos (by omega)]
  have ha : bz (.str [48 + y / 10 % 10]) (.str [48 + y % 10]) = .ok (.str (sw y)) := fL (by simp)
  rw [bT (d := bQ [sw y]) (by
   unfold eU
   rw [bn (by simp_arith [q1]; rw [c1]; rfl)]
   simp_arith [hdiv, hmod, hmod2, d5 (n := y / 10 % 10) (by omega), d5 (n := y % 10) (by omega), d1, d2, ha]
   rfl)]
  subst c1
  rfl
 ·rw [ah (δ' := [some (.sh (.str t)), some (.sh (.tup [.int y, .int m, .int d])), some (.sh (.int y)), some (.sh (.int m)), some (.sh (.int d)), none]) (by
   unfold eU
   rw [aX (by simp_arith [q1, beq_eq_false_iff_ne.mpr c1])])]
  unfold iq
  by_cases c2 : t = [60, 89, 62]
  ·have hl : (dg y).length <= 1000 := by have := @jj y; omega
   have ha : bz (.str [48, 48, 48]) (.str (dg y)) = .ok (.str ([48, 48, 48] ++ dg y)) := fL (by simp; have := @jj y; omega)
   have hsub : ((dg y).length : Int) - 1 = (((dg y).length - 1 : Nat) : Int) := by have := (@jj y).1; omega
   have hcut : uz (.str ([48, 48, 48] ++ dg y)) (some (((dg y).length - 1 : Nat) : Int)) none = .ok (.str (qw y)) := by
    rw [uA (by simp; have := @jj y; omega), uZ _ (by simp; omega), ym hy]
   rw [bT (d := bQ [qw y]) (by
    unfold eV
    rw [bn (by simp_arith [q2]; rw [c2]; rfl)]
    simp_arith [d5 (n := y) (by omega), ha, hR hl, hsub, hcut]
    rfl)]
   subst c2
   rfl
  ·rw [ah (δ' := [some (.sh (.str t)), some (.sh (.tup [.int y, .int m, .int d])), some (.sh (.int y)), some (.sh (.int m)), some (.sh (.int d)), none]) (by
    unfold eV
    rw [aX (by simp_arith [q2, beq_eq_false_iff_ne.mpr c2])])]
   unfold ir
   obtain ⟨n, hn, e3, eW⟩ : ∃ n : Nat, n < 10000 /\ da [some (.sh (.str t)), some (.sh (.tup [.int y, .int m, .int d])), some (.sh (.int y)), some (.sh (.int m)), some (.sh (.int d)), none] = .next [some (.sh (.str t)), some (.sh (.tup [.int y, .int m, .int d])), some (.sh (.int y)), some (.sh (.int m)), some (.sh (.int d)), some (.sh (.int n))] /\ WY y m d w t = iP n := by
    rcases ht with rfl | rfl | rfl | rfl
    ·refine ⟨d, hd, ?_, rfl⟩
     unfold da
     simp_arith [d6, q3, pU]
     rfl
    ·refine ⟨m, hm, ?_, rfl⟩
     unfold da
     simp_arith [d6, q3, pU]
     rfl
    ·exact absurd rfl c1
    ·exact absurd rfl c2
   rw [ah e3, eW]
   unfold iu kq
   have ha : bz (.str [48]) (.str (dg n)) = .ok (.str ([48] ++ dg n)) := fL (by simp; have := @jj n; omega)
   have hcut : uz (.lst [.str (dg n), .str ([48] ++ dg n)]) none (some (1 + if decide ((n : Int) < 10) = true then 1 else 0)) = .ok (bQ (iP n)) := by
    show R.ok (D.lst (eF ([dg n, [48] ++ dg n].map D.str) none (some _))) = _
    rw [wy _ (by
     by_cases c : n < 10
     ·rw [if_pos c, if_pos (by simp; omega)]; rfl
     ·rw [if_neg c, if_neg (by simp; omega)]; rfl)]
   simp_arith [d5 hn, ha, d6, pU, hcut]
   rfl
theorem re {w : List Nat} (h1 : 1 <= w.length) (h2 : w.length <= 5) (hs : ∀ c ∈ w, c ∈ bu) (p c : Int) : ∃ tx, dM [.str w, .int p, .int c] = .ok (.str tx) /\ tx.length <= 20 /\ ∀ c ∈ tx, c ∈ bu := by
 unfold dM jQ
 generalize hF : (D.lst [D.str [48], D.str [48, 48], D.str [49], D.str [48, 49], D.str [57], D.str [48, 57], D.str [49, 48], D.str [49, 50], D.str [51, 49], D.str [51, 50], D.str [57, 57], D.str [49, 48, 48], D.str [48, 48, 48, 49]]) = fx
 have e0 : am 4 [.str w, .int p, .int c] = [some (.sh (.str w)), some (.sh (.int p)), some (.sh (.int c)), none] := rfl
 rw [e0, ah (δ' := [some (.sh (.str w)), some (.sh (.int p)), some (.sh (.int c)), some (.sh fx)]) (by subst hF; rfl)]
 unfold ie
 by_cases p0 : p = 0
 ·rw [bT (d := .str w) (by unfold eN; rw [bn (by simp_arith [bc, p0])]; rfl)]
  exact ⟨w, rfl, by omega, hs⟩
 rw [ah (δ' := [some (.sh (.str w)), some (.sh (.int p)), some (.sh (.int c)), some (.sh fx)]) (by unfold eN; rw [aX (by simp_arith [bc, p0])])]
 unfold ig
 by_cases p1 : p = 1
 ·rw [bT (d := .str ([48] ++ w)) (by unfold eO; rw [bn (by simp_arith [bc, p1])]; simp_arith [fL (a := [48]) (b := w) (by simp; omega)])]
  refine ⟨[48] ++ w, rfl, by simp; omega, λ x hx => ?_⟩
  rcases List.mem_append.mp hx with hx | hx
  ·have : x = 48 := by simpa using hx
   subst this; decide
  ·exact hs x hx
 rw [ah (δ' := [some (.sh (.str w)), some (.sh (.int p)), some (.sh (.int c)), some (.sh fx)]) (by unfold eO; rw [aX (by simp_arith [bc, p1])])]
 unfold ii
 by_cases p2 : p = 2
 ·rw [bT (d := .str (eF (w ++ w) (some 1) (some ((w.length : Int) + 1 - c % 2)))) (by
   unfold eQ
   rw [bn (by simp_arith [bc, p2])]
   simp_arith [fL (a := w) (b := w) (by omega), hR (s := w) (by omega), aI c (j := 2) (by decide), uA (s := w ++ w) (by simp; omega)])]
  refine ⟨_, rfl, ?_, λ x hx => ?_⟩
  ·have := wP (w ++ w) (some 1) (some ((w.length : Int) + 1 - c % 2))
   rw [List.length_append] at this
   omega
  ·rcases List.mem_append.mp (wS hx) with hx | hx <;> exact hs x hx
 rw [ah (δ' := [some (.sh (.str w)), some (.sh (.int p)), some (.sh (.int c)), some (.sh fx)]) (by unfold eQ; rw [aX (by simp_arith [bc, p2])])]
 unfold ij
 by_cases p3 : p = 3
 ·obtain ⟨k, hk, hk10⟩ := iJ c (j := 10) 10
  have hix : bV (.str [48, 49, 50, 51, 52, 53, 54, 55, 56, 57]) (.int (k : Int)) = .ok (.str [48 + k]) := by
   have : ∀ k < 10, lF [48, 49, 50, 51, 52, 53, 54, 55, 56, 57] ((k : Nat) : Int) = some (48 + k) := by decide
   simp [bV, this k hk10]
  rw [bT (d := .str (w ++ [48 + k])) (by
   unfold eR
   rw [bn (by simp_arith [bc, p3])]
   simp_arith [aI c (j := 10) (by decide), hk, hix, fL (a := w) (b := [48 + k]) (by simp; omega)])]
  refine ⟨_, rfl, by simp; omega, λ x hx => ?_⟩
  rcases List.mem_append.mp hx with hx | hx
  ·exact hs x hx
  ·have : x = 48 + k := by simpa using hx
   exact fK x (by omega) (by omega)
 rw [ah (δ' := [some (.sh (.str w)), some (.sh (.int p)), some (.sh (.int c)), some (.sh fx)]) (by unfold eR; rw [aX (by simp_arith [bc, p3])])]
 unfold ik
 by_cases p4 : p = 4
 ·obtain ⟨k, hk, hk13⟩ := iJ c (j := 13) 13
  have hmem : ∃ tx, bV fx (.int (k : Int)) = .ok (.str tx) /\ tx.length <= 20 /\ ∀ c ∈ tx, c ∈ bu := by
   have key : ∀ k < 13, ([[48], [48, 48], [49], [48, 49], [57], [48, 57], [49, 48], [49, 50], [51, 49], [51, 50], [57, 57], [49, 48, 48], [48, 48, 48, 49]] : List (List Nat)).getD k [] ∈ ([[48], [48, 48], [49], [48, 49], [57], [48, 57], [49, 48], [49, 50], [51, 49], [51, 50], [57, 57], [49, 48, 48], [48, 48, 48, 49]] : List (List Nat)) := by decide
   have key2 : ∀ t ∈ ([[48], [48, 48], [49], [48, 49], [57], [48, 57], [49, 48], [49, 50], [51, 49], [51, 50], [57, 57], [49, 48, 48], [48, 48, 48, 49]] : List (List Nat)), t.length <= 20 /\ ∀ c ∈ t, c ∈ bu := by decide
   refine ⟨_, ?_, key2 _ (key k hk13)⟩
   subst hF
   refine fX (cb ?_)
   exact qZ (f := D.str) (l := [[48], [48, 48], [49], [48, 49], [57], [48, 57], [49, 48], [49, 50], [51, 49], [51, 50], [57, 57], [49, 48, 48], [48, 48, 48, 49]]) (d := []) hk13
  obtain ⟨tx, hix, hl, ht⟩ := hmem
  rw [bT (d := .str tx) (by
   unfold eS
   rw [bn (by simp_arith [bc, p4])]
   simp_arith [aI c (j := 13) (by decide), hk, hix])]
  exact ⟨tx, rfl, hl, ht⟩
 rw [ah (δ' := [some (.sh (.str w)), some (.sh (.int p)), some (.sh (.int c)), some (.sh fx)]) (by unfold eS; rw [aX (by simp_arith [bc, p4])])]
 unfold il
 by_cases p5 : p = 5
 ·obtain ⟨k, hk, hk4⟩ := iJ c (j := 4) 4
  obtain ⟨x, hix, hx⟩ : ∃ x, m2 bV (cC (λ _ => .ok [D.str [97], D.str [46], D.str [32], D.str [45]])) (m2 ba (ae 2) (mC (.int 4))) [some (.sh (.str w)), some (.sh (.int p)), some (.sh (.int c)), some (.sh fx)] = .ok (.str [x]) /\ x ∈ bu := by
   have hmo : m2 ba (ae 2) (mC (.int 4)) [some (.sh (.str w)), some (.sh (.int p)), some (.sh (.int c)), some (.sh fx)] = .ok (.int (k : Int)) := by
    simp_arith [aI c (j := 4) (by decide), hk]
   have hls : cC (λ _ => .ok [D.str [97], D.str [46], D.str [32], D.str [45]]) [some (.sh (.str w)), some (.sh (.int p)), some (.sh (.int c)), some (.sh fx)] = .ok (.lst [D.str [97], D.str [46], D.str [32], D.str [45]]) := by simp
   rw [jY, hls, R.bind_ok, hmo, R.bind_ok]
   match k, hk4 with
   | 0, _ => exact ⟨97, rfl, by decide⟩
   | 1, _ => exact ⟨46, rfl, by decide⟩
   | 2, _ => exact ⟨32, rfl, by decide⟩
   | 3, _ => exact ⟨45, rfl, by decide⟩
  rw [bT (d := .str (w ++ [x])) (by
   unfold eT
   rw [bn (by simp_arith [bc, p5]), jl, jY, hix]
   simp_arith [fL (a := w) (b := [x]) (by simp; omega)])]
  refine ⟨_, rfl, by simp; omega, λ z hz => ?_⟩
  rcases List.mem_append.mp hz with hz | hz
  ·exact hs z hz
  ·have : z = x := by simpa using hz
   subst this; exact hx
 rw [ah (δ' := [some (.sh (.str w)), some (.sh (.int p)), some (.sh (.int c)), some (.sh fx)]) (by unfold eT; rw [aX (by simp_arith [bc, p5])])]
 unfold im kn
 obtain ⟨k, hk⟩ : ∃ k : Nat, 1 + c % 4 = (k : Int) := ⟨(1 + c % 4).toNat, by omega⟩
 obtain ⟨ps, hd, hl, hb⟩ := wr c (decide (c % 3 = 0)) (n := k) (m := 10) (by omega) (by omega) (by omega)
 have hd' : bF [.int c, .bl (decide (c % 3 = 0)), .int (k : Int), .int 10] = .ok (lC ps) := hd
 have hc : dF (λ δ => ((aF bF (ag (ae 2) (ag (m2 (d6 cE) (m2 ba (ae 2) (mC (.int 3))) (mC (.int 0))) (ag (m2 bz (mC (.int 1)) (m2 ba (ae 2) (mC (.int 4)))) (ag (mC (.int 10)) (aq)))))) δ).bind bY) (λ _ => .ok true) (m1 dD (ae 4)) [some (.sh (.str w)), some (.sh (.int p)), some (.sh (.int c)), some (.sh fx)] = .ok (ps.map λ x => D.str [48 + x.toNat]) := by
  refine qJ (l := ps) (h := D.int) ?_ (by omega) (λ a ha => ?_)
  ·simp_arith [aI c (j := 3) (by decide), aI c (j := 4) (by decide), d6, bc, hk, hd']
  ·have hx := hb a ha
   show dD (.int a) = _
   obtain ⟨n, rfl⟩ : ∃ n : Nat, a = (n : Int) := ⟨a.toNat, by omega⟩
   rw [d5 (n := n) (by omega)]
   have : dg n = [48 + n] := by unfold dg; rw [if_pos (by omega)]
   rw [this]
   rfl
 have hj : sV oJ (mC (.str [])) (ag (mL (dF (λ δ => ((aF bF (ag (ae 2) (ag (m2 (d6 cE) (m2 ba (ae 2) (mC (.int 3))) (mC (.int 0))) (ag (m2 bz (mC (.int 1)) (m2 ba (ae 2) (mC (.int 4)))) (ag (mC (.int 10)) (aq)))))) δ).bind bY) (λ _ => .ok true) (m1 dD (ae 4)))) (aq)) [some (.sh (.str w)), some (.sh (.int p)), some (.sh (.int c)), some (.sh fx)] = .ok (.str (ps.map λ x => 48 + x.toNat)) := by
  unfold sV
  rw [gR, R.bind_ok]
  dsimp only
  rw [fW, yS, hc]
  simp only [R.bind_ok, jk]
  have hs2 : lL (ps.map λ x => D.str [48 + x.toNat]) = some (ps.map λ x => [48 + x.toNat]) := by
   rw [<- vX, List.map_map]
   rfl
  have hf : (ps.map λ x => [48 + x.toNat]).flatten = ps.map λ x => 48 + x.toNat := by
   clear hc hd hd' hl hb hs2
   induction ps with
   | nil => rfl
   | cons a l ih => rw [List.map_cons, List.flatten_cons, ih]; rfl
  simp only [oJ, hs2, hf]
  rw [if_pos (by simp; omega)]
 rw [jl, hj]
 refine ⟨_, rfl, by simp; omega, λ z hz => ?_⟩
 obtain ⟨x, hx, rfl⟩ := List.mem_map.mp hz
 have := hb x hx
 exact fK _ (by omega) (by omega)
theorem v9 {y m d w : Nat} (hy : y < 10000) (hm : m < 10000) (hd : d < 10000) {t : List Nat} (ht : t = [60, 100, 62] \/ t = [60, 109, 62] \/ t = [60, 121, 62] \/ t = [60, 89, 62]) :
  WY y m d w t ≠ [] /\ (WY y m d w t).length <= 2 /\ ∀ x ∈ WY y m d w t, 1 <= x.length /\ x.length <= 5 /\ ∀ c ∈ x, c ∈ bu := by
 have hf : ∀ n < 10000, iP n ≠ [] /\ (iP n).length <= 2 /\ ∀ x ∈ iP n, 1 <= x.length /\ x.length <= 5 /\ ∀ c ∈ x, c ∈ bu := λ n hn => by
  have hl := @jj n
  have hdg : ∀ c ∈ dg n, c ∈ bu := λ c hc => by
   have := qT hn c hc
   exact fK c this.1 this.2
  have h48 : ∀ c ∈ 48 :: dg n, c ∈ bu := λ c hc => by
   rcases List.mem_cons.mp hc with rfl | hc
   ·decide
   ·exact hdg c hc
  unfold iP
  split
  ·refine ⟨by simp, by simp, λ x hx => ?_⟩
   rcases List.mem_cons.mp hx with rfl | hx
   ·exact ⟨hl.1, Nat.le_succ_of_le hl.2, hdg⟩
   ·have : x = 48 :: dg n := by simpa using hx
    subst this
    exact ⟨by simp, Nat.succ_le_succ hl.2, h48⟩
  ·refine ⟨by simp, by simp, λ x hx => ?_⟩
   have : x = dg n := by simpa using hx
   subst this
   exact ⟨hl.1, Nat.le_succ_of_le hl.2, hdg⟩
 rcases ht with rfl | rfl | rfl | rfl
 ·exact hf d hd
 ·exact hf m hm
 ·have : WY y m d w [60, 121, 62] = [sw y] := rfl
  rw [this]
  refine ⟨by simp, by simp, λ x hx => ?_⟩
  have : x = sw y := by simpa using hx
  subst this
  refine ⟨by simp [sw], by simp [sw], λ c hc => ?_⟩
  simp [sw] at hc
  rcases hc with rfl | rfl <;> exact fK _ (nT _).1 (nT _).2
 ·have : WY y m d w [60, 89, 62] = [qw y] := rfl
  rw [this]
  refine ⟨by simp, by simp, λ x hx => ?_⟩
  have : x = qw y := by simpa using hx
  subst this
  refine ⟨by simp [qw], by simp [qw], λ c hc => ?_⟩
  simp [qw] at hc
  rcases hc with rfl | rfl | rfl | rfl <;> exact fK _ (nT _).1 (nT _).2
theorem main (ns : List Int) (_ : ns.length <= 63) : ux [.lst (ns.map D.int)] = .ok (.bl true) := by
 have a0 : be [.lst (ns.map D.int), .int 0] = .ok (.int (cell ns 0)) := by simpa using qC ns 0
 have a1 : be [.lst (ns.map D.int), .int 1] = .ok (.int (cell ns 1)) := by simpa using qC ns 1
 have a2 : be [.lst (ns.map D.int), .int 2] = .ok (.int (cell ns 2)) := by simpa using qC ns 2
 have a3 : be [.lst (ns.map D.int), .int 3] = .ok (.int (cell ns 3)) := by simpa using qC ns 3
 have a4 : be [.lst (ns.map D.int), .int 4] = .ok (.int (cell ns 4)) := by simpa using qC ns 4
 generalize cell ns 0 = c0 at a0
 generalize cell ns 1 = c1 at a1
 generalize cell ns 2 = c2 at a2
 generalize cell ns 3 = c3 at a3
 generalize cell ns 4 = c4 at a4
 generalize hS : (D.lst (ns.map D.int)) = S at *
 obtain ⟨y, m, d, ef, hy1, hy2, hm1, hm2, hd1, hd2⟩ := pR c0 (decide (c1 % 2 = 0))
 unfold ux v6
 have e0 : am 9 [S] = [some (.sh S), none, none, none, none, none, none, none, none] := rfl
 rw [e0, ah (δ' := [some (.sh S), some (.sh (.int y)), some (.sh (.int m)), some (.sh (.int d)), none, none, none, none, none]) (by
  unfold pg
  simp_arith [a0, a1, aI c1 (j := 2) (by decide), d6, bc, ef]
  rfl)]
 obtain ⟨y, m, d, hok, hy9, e12⟩ : ∃ y' m' d' : Nat, kF y' m' d' = true /\ y' <= 9996 /\ lZ [some (.sh S), some (.sh (.int y)), some (.sh (.int m)), some (.sh (.int d)), none, none, none, none, none] = jw [some (.sh S), some (.sh (.int ((y' : Int)))), some (.sh (.int ((m' : Int)))), some (.sh (.int ((d' : Int)))), none, none, none, none, none] := by
  have hb := eY y hm1 hm2
  have hq : ∀ {a b c : Int}, 1 <= a -> a <= 9996 -> 1 <= b -> b <= 12 -> 1 <= c -> c <= cO a b -> ∃ y' m' d' : Nat, kF y' m' d' = true /\ y' <= 9996 /\ jw [some (.sh S), some (.sh (.int a)), some (.sh (.int b)), some (.sh (.int c)), none, none, none, none, none] = jw [some (.sh S), some (.sh (.int ((y' : Int)))), some (.sh (.int ((m' : Int)))), some (.sh (.int ((d' : Int)))), none, none, none, none, none] := λ {a b c} h1 h2 h3 h4 h5 h6 => by
   refine ⟨a.toNat, b.toNat, c.toNat, ?_, by omega, ?_⟩
   ·rw [show ((a.toNat : Nat) : Int) = a by omega, show ((b.toNat : Nat) : Int) = b by omega, show ((c.toNat : Nat) : Int) = c by omega]
    simp [kF, h1, h3, h4, h5, h6]
    omega
   ·rw [show ((a.toNat : Nat) : Int) = a by omega, show ((b.toNat : Nat) : Int) = b by omega, show ((c.toNat : Nat) : Int) = c by omega]
  have hdv : fM (.int c1) (.int 2) = .ok (.int (c1 / 2)) := b4 _ (by omega) (by omega)
  have hmd : ba (.int (c1 / 2)) (.int 3) = .ok (.int (c1 / 2 % 3)) := aI _ (by omega)
  unfold lZ
  by_cases k1 : c1 / 2 % 3 = 1
  ·have k2 : ¬ (c1 / 2 % 3 = 2) := by omega
   rw [ah (δ' := [some (.sh S), some (.sh (.int ((1 + y % 20)))), some (.sh (.int m)), some (.sh (.int ((if 28 < d then 28 else d)))), none, none, none, none, none]) (by
    unfold l3
    rw [bn (by simp_arith [a1, hdv, hmd, bc, k1])]
    rw [ah (δ' := [some (.sh S), some (.sh (.int ((1 + y % 20)))), some (.sh (.int m)), some (.sh (.int d)), none, none, none, none, none]) (by simp_arith [aI y (j := 20) (by decide)])]
    simp_arith [w8])]
   unfold l0
   rw [ah (δ' := [some (.sh S), some (.sh (.int ((1 + y % 20)))), some (.sh (.int m)), some (.sh (.int ((if 28 < d then 28 else d)))), none, none, none, none, none]) (by
    unfold ki
    rw [aX (by simp_arith [a1, hdv, hmd, bc, k2])])]
   have hb2 := eY (1 + y % 20) hm1 hm2
   exact hq (by omega) (by omega) hm1 hm2 (by split <;> omega) (by split <;> omega)
  ·rw [ah (δ' := [some (.sh S), some (.sh (.int y)), some (.sh (.int m)), some (.sh (.int d)), none, none, none, none, none]) (by
    unfold l3
    rw [aX (by simp_arith [a1, hdv, hmd, bc, k1])])]
   unfold l0
   by_cases k2 : c1 / 2 % 3 = 2
   ·obtain ⟨k, hk, hk8⟩ := iJ m (j := 8) 8
    obtain ⟨m', hm', hix⟩ : ∃ m' : Int, (1 <= m' /\ m' <= 12) /\ bV (.lst [.int 1, .int 3, .int 5, .int 7, .int 8, .int 10, .int 12, .int m]) (.int (k : Int)) = .ok (.int m') := by
     have hk8' : k < [1, 3, 5, 7, 8, 10, 12, m].length := hk8
     refine ⟨[1, 3, 5, 7, 8, 10, 12, m].getD k 0, ?_, fX (cb (qZ (f := D.int) (l := [1, 3, 5, 7, 8, 10, 12, m]) (d := 0) hk8'))⟩
     have hall : ∀ x ∈ [1, 3, 5, 7, 8, 10, 12, m], 1 <= x /\ x <= 12 := by simp [hm1, hm2]
     rw [List.getD_eq_getElem?_getD, List.getElem?_eq_getElem hk8']
     exact hall _ (List.getElem_mem hk8')
    have hls : cC (ag (mC (.int 1)) (ag (mC (.int 3)) (ag (mC (.int 5)) (ag (mC (.int 7)) (ag (mC (.int 8)) (ag (mC (.int 10)) (ag (mC (.int 12)) (ag (ae 2) (aq))))))))) [some (.sh S), some (.sh (.int y)), some (.sh (.int m)), some (.sh (.int d)), none, none, none, none, none] = .ok (.lst [.int 1, .int 3, .int 5, .int 7, .int 8, .int 10, .int 12, .int m]) := rfl
    have hlm := iH y m' hm'.1 hm'.2
    rw [ah (δ' := [some (.sh S), some (.sh (.int y)), some (.sh (.int m')), some (.sh (.int ((cO y m')))), none, none, none, none, none]) (by
     unfold ki
     rw [bn (by simp_arith [a1, hdv, hmd, bc, k2])]
     rw [ah (δ' := [some (.sh S), some (.sh (.int y)), some (.sh (.int m')), some (.sh (.int d)), none, none, none, none, none]) (by
      rw [gS, jY, hls]
      simp_arith [aI m (j := 8) (by decide), hk, hix])]
     simp_arith [hlm])]
    have hb2 := eY y hm'.1 hm'.2
    exact hq hy1 hy2 hm'.1 hm'.2 (by omega) (by omega)
   ·rw [ah (δ' := [some (.sh S), some (.sh (.int y)), some (.sh (.int m)), some (.sh (.int d)), none, none, none, none, none]) (by
     unfold ki
     rw [aX (by simp_arith [a1, hdv, hmd, bc, k2])])]
    exact hq hy1 hy2 hm1 hm2 hd1 hd2
 rw [e12]
 have hb := hG hok
 have hml := (eY y hb.2.1 hb.2.2.1).2
 have hbd : y < 10000 /\ m < 10000 /\ d < 10000 := by
  have := hb.2.2.1
  have := hb.2.2.2.2
  omega
 have hm12 := hb.2.2.1
 obtain ⟨w, hw, _⟩ := iJ (iO y m d) (j := 7) 7
 obtain ⟨t, ht, et⟩ : ∃ t, (t = [60, 100, 62] \/ t = [60, 109, 62] \/ t = [60, 121, 62] \/ t = [60, 89, 62]) /\ kj [some (.sh S), some (.sh (.int y)), some (.sh (.int m)), some (.sh (.int d)), none, none, none, none, none] = .next [some (.sh S), some (.sh (.int y)), some (.sh (.int m)), some (.sh (.int d)), some (.sh (.str t)), none, none, none, none] := by
  obtain ⟨k, hk, hk4⟩ := iJ c2 (j := 4) 4
  have hls : cC (λ _ => .ok [D.str [60, 100, 62], D.str [60, 109, 62], D.str [60, 121, 62], D.str [60, 89, 62]]) [some (.sh S), some (.sh (.int y)), some (.sh (.int m)), some (.sh (.int d)), none, none, none, none, none] = .ok (.lst [D.str [60, 100, 62], D.str [60, 109, 62], D.str [60, 121, 62], D.str [60, 89, 62]]) := by simp
  have hgo : ∀ t, bV (.lst [D.str [60, 100, 62], D.str [60, 109, 62], D.str [60, 121, 62], D.str [60, 89, 62]]) (.int (k : Int)) = .ok (.str t) -> kj [some (.sh S), some (.sh (.int y)), some (.sh (.int m)), some (.sh (.int d)), none, none, none, none, none] = .next [some (.sh S), some (.sh (.int y)), some (.sh (.int m)), some (.sh (.int d)), some (.sh (.str t)), none, none, none, none] := λ t hix => by
   unfold kj
   rw [gS, jY, hls]
   simp_arith [a2, aI c2 (j := 4) (by decide), hk, hix]
  match k, hk4, hgo with
  | 0, _, hgo => exact ⟨_, .inl rfl, hgo _ rfl⟩
  | 1, _, hgo => exact ⟨_, .inr (.inl rfl), hgo _ rfl⟩
  | 2, _, hgo => exact ⟨_, .inr (.inr (.inl rfl)), hgo _ rfl⟩
  | 3, _, hgo => exact ⟨_, .inr (.inr (.inr rfl)), hgo _ rfl⟩
 unfold jw
 rw [ah et]
 have hway := rf w hbd.1 hbd.2.1 hbd.2.2 ht
 unfold o4
 rw [ah (δ' := [some (.sh S), some (.sh (.int y)), some (.sh (.int m)), some (.sh (.int d)), some (.sh (.str t)), some (.sh (bQ (WY y m d w t))), none, none, none]) (by unfold ph; simp_arith [hway])]
 obtain ⟨hne, hlen, hall⟩ := v9 (w := w) hbd.1 hbd.2.1 hbd.2.2 ht
 have hpos : 0 < (WY y m d w t).length := List.length_pos_iff.mpr hne
 obtain ⟨k, hk, hkl⟩ := iJ (c2 / 4) (WY y m d w t).length hpos
 obtain ⟨h1, h5, hsg⟩ := hall _ (List.getElem_mem hkl)
 have hmemw : (WY y m d w t)[k] ∈ WY y m d w t := List.getElem_mem hkl
 generalize hx : (WY y m d w t)[k] = x at *
 have hix : bV (bQ (WY y m d w t)) (.int (k : Int)) = .ok (.str x) := fX (cb (by rw [List.getElem?_map, List.getElem?_eq_getElem hkl, hx]; rfl))
 unfold o5
 rw [ah (δ' := [some (.sh S), some (.sh (.int y)), some (.sh (.int m)), some (.sh (.int d)), some (.sh (.str t)), some (.sh (bQ (WY y m d w t))), some (.sh (.str x)), none, none]) (by
  unfold pj
  simp_arith [a2, b4 c2 (j := 4) (by decide) (by decide), aI (c2 / 4) (j := ((WY y m d w t).length : Int)) (by omega), hk, hix])]
 obtain ⟨tx, etx, hl20, hsx⟩ := re h1 h5 hsg (c3 % 7) c4
 unfold o6
 rw [ah (δ' := [some (.sh S), some (.sh (.int y)), some (.sh (.int m)), some (.sh (.int d)), some (.sh (.str t)), some (.sh (bQ (WY y m d w t))), some (.sh (.str x)), some (.sh (.str tx)), none]) (by
  unfold pk
  simp_arith [a3, a4, aI c3 (j := 7) (by decide), etx])]
 have htc : ∀ c ∈ tx, c < 1114112 := λ c hc => by have := si c (hsx c hc); omega
 obtain ⟨tx, h1x, h2x, hsx, e7⟩ : ∃ tx', 1 <= tx'.length /\ tx'.length <= 20 /\ (∀ c ∈ tx', c ∈ bu) /\ kl [some (.sh S), some (.sh (.int y)), some (.sh (.int m)), some (.sh (.int d)), some (.sh (.str t)), some (.sh (bQ (WY y m d w t))), some (.sh (.str x)), some (.sh (.str tx)), none] = .next [some (.sh S), some (.sh (.int y)), some (.sh (.int m)), some (.sh (.int d)), some (.sh (.str t)), some (.sh (bQ (WY y m d w t))), some (.sh (.str x)), some (.sh (.str tx')), none] := by
  by_cases z : tx = []
  ·refine ⟨x, h1, by omega, hsg, ?_⟩
   unfold kl
   rw [bn (by simp_arith [dZ htc (show ∀ c ∈ ([] : List Nat), c < 1114112 by simp)]; rw [z]; rfl)]
   rfl
  ·refine ⟨tx, List.length_pos_iff.mpr z, hl20, hsx, ?_⟩
   unfold kl
   rw [aX (by simp_arith [dZ htc (show ∀ c ∈ ([] : List Nat), c < 1114112 by simp), beq_eq_false_iff_ne.mpr z])]
 unfold o7
 rw [ah e7]
 have hfit := wB hok hw (Fm ht) h1x h2x hsx
 have hnum := nV y m d hb.2.1 hb.2.2.1
 unfold o8
 rw [ah (δ' := [some (.sh S), some (.sh (.int y)), some (.sh (.int m)), some (.sh (.int d)), some (.sh (.str t)), some (.sh (bQ (WY y m d w t))), some (.sh (.str x)), some (.sh (.str tx)), some (.sh (.bl (decide (tx ∈ WY y m d w t))))]) (by
  unfold po
  simp_arith [hnum, hfit])]
 unfold o9 ud
 have hin : m7 (.str tx) (bQ (WY y m d w t)) = .ok (decide (tx ∈ WY y m d w t)) := wH tx _
 have hqq : cE (.bl (decide (tx ∈ WY y m d w t))) (.bl (decide (tx ∈ WY y m d w t))) = .ok true := by
  cases decide (tx ∈ WY y m d w t) <;> rfl
 simp_arith [rc, d6, hin, hqq]
 rfl
end Lw
open PySem PySem.W PyProof.Rows
set_option maxRecDepth 100000 in
set_option maxHeartbeats 0 in
theorem PySem.Challenge.cw_inkdays_k09_figures_holds : PySem.Challenge.rw_inkdays_k09_figures.Holds := by
 w_on; o_law; k_head; (case hw => w_witness2)
 k_fill
 refine Lw.walk (l := PySem.Challenge.rw_inkdays_k09_figures) rfl rfl (λ w h Y => PySem.W.kIn_of Y) ?F
 case F =>
  intro w mg fa h KX G hmg
  refine' Lw.A5 Lw.main KX G hmg ?f_law_leap ?f_law_month ?f_law_first ?f_law_at ?f_law_ways ?f_law_draws ?f_law_text ?f_split_into_parts ?f_token_at ?f_cut_into_tokens ?f_piece_of ?f_number_pieces ?f_read_form ?f_parts_of_form ?f_check_text ?f_ends_of_piece ?f_ends_of_part ?f_is_written ?f_has_number ?f_days_ahead_of_year ?f_year_with ?f_is_leap ?f_month_length ?f_date_of ?f_beginnings ?f_weekday_of ?f_figures ?f_ways_of_day ?f_fits ?f_law_number ?a_law ?l_law ?mE ?p_law ?a_PLACES ?l_PLACES ?v_PLACES ?a_PLAIN_SIGNS ?y_PLAIN_SIGNS' ?a_MOST_LACKING_PARTS ?a_LONGEST_FORM ?a_LONGEST_TEXT ?a_LAST_NUMBER ?a_DAYS_OF_400_YEARS ?a_COMMON_LENGTHS ?l_COMMON_LENGTHS ?v_COMMON_LENGTHS ?a_WEEKDAYS ?l_WEEKDAYS ?v_WEEKDAYS ?a_MONTHS ?l_MONTHS ?v_MONTHS ?a_bool ?a_enumerate ?a_int ?a_isinstance ?a_len ?a_min ?a_range ?a_str ?a_InkError ?a_NoSuchDay ?a_BadForm ?a_BadText ?e_BadForm ?e_BadText ?e_NoSuchDay
  (case f_law_leap => (refine' L3.FF.mk ?xa ?xl ?xd ?xp; (case xa => k_is); (case xl => k_is); (case xd => k_is); (case xp => k_is)))
  (case f_law_month => (refine' L3.FF.mk ?xa ?xl ?xd ?xp; (case xa => k_is); (case xl => k_is); (case xd => k_is); (case xp => k_is)))
  (case f_law_first => (refine' L3.FF.mk ?xa ?xl ?xd ?xp; (case xa => k_is); (case xl => k_is); (case xd => k_is); (case xp => k_is)))
  (case f_law_at => (refine' L3.FF.mk ?xa ?xl ?xd ?xp; (case xa => k_is); (case xl => k_is); (case xd => k_is); (case xp => k_is)))
  (case f_law_ways => (refine' L3.FF.mk ?xa ?xl ?xd ?xp; (case xa => k_is); (case xl => k_is); (case xd => k_is); (case xp => k_is)))
  (case f_law_draws => (refine' L3.FF.mk ?xa ?xl ?xd ?xp; (case xa => k_is); (case xl => k_is); (case xd => k_is); (case xp => k_is)))
  (case f_law_text => (refine' L3.FF.mk ?xa ?xl ?xd ?xp; (case xa => k_is); (case xl => k_is); (case xd => k_is); (case xp => k_is)))
  (case f_split_into_parts => (refine' L3.FF.mk ?xa ?xl ?xd ?xp; (case xa => k_is); (case xl => k_is); (case xd => k_is); (case xp => k_is)))
  (case f_token_at => (refine' L3.FF.mk ?xa ?xl ?xd ?xp; (case xa => k_is); (case xl => k_is); (case xd => k_is); (case xp => k_is)))
  (case f_cut_into_tokens => (refine' L3.FF.mk ?xa ?xl ?xd ?xp; (case xa => k_is); (case xl => k_is); (case xd => k_is); (case xp => k_is)))
  (case f_piece_of => (refine' L3.FF.mk ?xa ?xl ?xd ?xp; (case xa => k_is); (case xl => k_is); (case xd => k_is); (case xp => k_is)))
  (case f_number_pieces => (refine' L3.FF.mk ?xa ?xl ?xd ?xp; (case xa => k_is); (case xl => k_is); (case xd => k_is); (case xp => k_is)))
  (case f_read_form => (refine' L3.FF.mk ?xa ?xl ?xd ?xp; (case xa => k_is); (case xl => k_is); (case xd => k_is); (case xp => k_is)))
  (case f_parts_of_form => (refine' L3.FF.mk ?xa ?xl ?xd ?xp; (case xa => k_is); (case xl => k_is); (case xd => k_is); (case xp => k_is)))
  (case f_check_text => (refine' L3.FF.mk ?xa ?xl ?xd ?xp; (case xa => k_is); (case xl => k_is); (case xd => k_is); (case xp => k_is)))
  (case f_ends_of_piece => (refine' L3.FF.mk ?xa ?xl ?xd ?xp; (case xa => k_is); (case xl => k_is); (case xd => k_is); (case xp => k_is)))
  (case f_ends_of_part => (refine' L3.FF.mk ?xa ?xl ?xd ?xp; (case xa => k_is); (case xl => k_is); (case xd => k_is); (case xp => k_is)))
  (case f_is_written => (refine' L3.FF.mk ?xa ?xl ?xd ?xp; (case xa => k_is); (case xl => k_is); (case xd => k_is); (case xp => k_is)))
  (case f_has_number => (refine' L3.FF.mk ?xa ?xl ?xd ?xp; (case xa => k_is); (case xl => k_is); (case xd => k_is); (case xp => k_is)))
  (case f_days_ahead_of_year => (refine' L3.FF.mk ?xa ?xl ?xd ?xp; (case xa => k_is); (case xl => k_is); (case xd => k_is); (case xp => k_is)))
  (case f_year_with => (refine' L3.FF.mk ?xa ?xl ?xd ?xp; (case xa => k_is); (case xl => k_is); (case xd => k_is); (case xp => k_is)))
  (case f_is_leap => (refine' L3.FF.mk ?xa ?xl ?xd ?xp; (case xa => k_is); (case xl => k_is); (case xd => k_is); (case xp => k_is)))
  (case f_month_length => (refine' L3.FF.mk ?xa ?xl ?xd ?xp; (case xa => k_is); (case xl => k_is); (case xd => k_is); (case xp => k_is)))
  (case f_date_of => (refine' L3.FF.mk ?xa ?xl ?xd ?xp; (case xa => k_is); (case xl => k_is); (case xd => k_is); (case xp => k_is)))
  (case f_beginnings => (refine' L3.FF.mk ?xa ?xl ?xd ?xp; (case xa => k_is); (case xl => k_is); (case xd => k_is); (case xp => k_is)))
  (case f_weekday_of => (refine' L3.FF.mk ?xa ?xl ?xd ?xp; (case xa => k_is); (case xl => k_is); (case xd => k_is); (case xp => k_is)))
  (case f_figures => (refine' L3.FF.mk ?xa ?xl ?xd ?xp; (case xa => k_is); (case xl => k_is); (case xd => k_is); (case xp => k_is)))
  (case f_ways_of_day => (refine' L3.FF.mk ?xa ?xl ?xd ?xp; (case xa => k_is); (case xl => k_is); (case xd => k_is); (case xp => k_is)))
  (case f_fits => (refine' L3.FF.mk ?xa ?xl ?xd ?xp; (case xa => k_is); (case xl => k_is); (case xd => k_is); (case xp => k_is)))
  (case f_law_number => (refine' L3.FF.mk ?xa ?xl ?xd ?xp; (case xa => k_is); (case xl => k_is); (case xd => k_is); (case xp => k_is)))
  (case a_law => k_is)
  (case l_law => k_is)
  (case mE => k_is)
  (case p_law => k_is)
  (case a_PLACES => k_is)
  (case l_PLACES => k_is)
  (case v_PLACES => repeat (first | exact .nil | refine .cons ⟨_, rfl⟩ ?_))
  (case a_PLAIN_SIGNS => k_is)
  (case y_PLAIN_SIGNS' => decide +kernel)
  (case a_MOST_LACKING_PARTS => k_is)
  (case a_LONGEST_FORM => k_is)
  (case a_LONGEST_TEXT => k_is)
  (case a_LAST_NUMBER => k_is)
  (case a_DAYS_OF_400_YEARS => k_is)
  (case a_COMMON_LENGTHS => k_is)
  (case l_COMMON_LENGTHS => k_is)
  (case v_COMMON_LENGTHS => repeat (first | exact .nil | refine .cons ⟨_, rfl⟩ ?_))
  (case a_WEEKDAYS => k_is)
  (case l_WEEKDAYS => k_is)
  (case v_WEEKDAYS => repeat (first | exact .nil | refine .cons ⟨_, rfl⟩ ?_))
  (case a_MONTHS => k_is)
  (case l_MONTHS => k_is)
  (case v_MONTHS => repeat (first | exact .nil | refine .cons ⟨_, rfl⟩ ?_))
  (case a_bool => k_is)
  (case a_enumerate => k_is)
  (case a_int => k_is)
  (case a_isinstance => k_is)
  (case a_len => k_is)
  (case a_min => k_is)
  (case a_range => k_is)
  (case a_str => k_is)
  (case a_InkError => k_is)
  (case a_NoSuchDay => k_is)
  (case a_BadForm => k_is)
  (case a_BadText => k_is)
  (case e_BadForm => k_exc)
  (case e_BadText => k_exc)
  (case e_NoSuchDay => k_exc)
