import PyProof.Rows.All
import Wide.All
import OpenK.AllK
import Wide.FinOn
import Lean
import PyProof.EqAt
import PyProof.EqKinds
import PyProof.TupleCall
import KE.KTryMore
import PyProof.EnumFor
import PyProof.EnumMake
import PyProof.EnumStmt
import PyProof.Rows.EnumRows
import PyProof.StrWalks
import PyProof.StrCalls
import PyProof.FString
import PyProof.ConsumeWalk
import PyProof.ListRange
import PyProof.SumWalkG
import PyProof.Rows.SeqCalls
import KE.KRevIter
import KE.KRevSl
import PyProof.Rows.FactsT2
import PyProof.SetKind
import PyProof.Rows.SetFrom
import PyProof.Rows.SortShell
import PyProof.SetRoads
import PyProof.CollectWalk
import KE.KDictSum
import PyProof.Rows.SortWalk
import PyProof.P3In
import PyProof.ZipIter
import PyProof.Rows.ZipMeets
import PyProof.Rows.MinMaxN
import PySem.Challenge.RW_inkdays_k09_figures
set_option Elab.async false
set_option linter.all false
set_option maxRecDepth 100000
namespace L2
open PySem PySem.Spec PyProof.Rows
abbrev Key := Sum Int Str
def keyIs : Key → Value → Bool
  | .inl k, v => Value.isInt k v
  | .inr x, v => Value.isStrOf x v
def keyH (w : World) : Key → Int
  | .inl k => hashInt k
  | .inr x => hashStr w x
theorem keyIs_shape : ∀ {k : Key} {v : Value}, keyIs k v = true → (∃ i t, k = Sum.inl i ∧ v = Value.int i t) ∨ (∃ x t, k = Sum.inr x ∧ v = Value.str x t)
  | .inl i, v, h => by
    obtain ⟨t, e⟩ := Value.isInt_shape (k := i) (v := v) h
    exact .inl ⟨i, t, rfl, e⟩
  | .inr x, v, h => by
    obtain ⟨t, e⟩ := Value.isStrOf_shape (x := x) (v := v) h
    exact .inr ⟨x, t, rfl, e⟩
theorem keyIs_int (i : Int) (t : Tok) : keyIs (.inl i) (.int i t) = true := by simp [keyIs, Value.isInt]
theorem keyIs_str (x : Str) (t : Tok) : keyIs (.inr x) (.str x t) = true := by simp [keyIs, Value.isStrOf]
theorem key_ll (a b : Int) : decide ((Sum.inl a : Key) = Sum.inl b) = (a == b) := by
  by_cases e : a = b
  · subst e; simp
  · have h : ¬ (Sum.inl a : Key) = Sum.inl b := fun q => e (Sum.inl.inj q)
    rw [decide_eq_false h]
    exact (beq_eq_false_iff_ne.mpr e).symm
theorem key_rr (a b : Str) : decide ((Sum.inr a : Key) = Sum.inr b) = decide (a = b) := by
  by_cases e : a = b
  · subst e; simp
  · have h : ¬ (Sum.inr a : Key) = Sum.inr b := fun q => e (Sum.inr.inj q)
    rw [decide_eq_false h, decide_eq_false e]
theorem key_lr (a : Int) (b : Str) : decide ((Sum.inl a : Key) = Sum.inr b) = false := decide_eq_false (fun q => nomatch q)
theorem key_rl (a : Str) (b : Int) : decide ((Sum.inr a : Key) = Sum.inl b) = false := decide_eq_false (fun q => nomatch q)
def mixKind (prog : Program) (w : World) : PySem.KeyKind prog w Key where
  is := keyIs
  hash := keyH w
  inj := fun v a b ha hb => by
    rcases keyIs_shape ha with ⟨i, t, rfl, rfl⟩ | ⟨x, t, rfl, rfl⟩
    · rcases keyIs_shape hb with ⟨j, u, rfl, e⟩ | ⟨y, u, rfl, e⟩
      · injection e with e1 _; rw [e1]
      · exact nomatch e
    · rcases keyIs_shape hb with ⟨j, u, rfl, e⟩ | ⟨y, u, rfl, e⟩
      · exact nomatch e
      · injection e with e1 _; rw [e1]
  byValue := fun k v h => by
    rcases keyIs_shape h with ⟨i, t, rfl, rfl⟩ | ⟨x, t, rfl, rfl⟩ <;> rfl
  pyHash := fun hv h => by
    rcases keyIs_shape hv with ⟨i, t, rfl, rfl⟩ | ⟨x, t, rfl, rfl⟩
    · exact wpAny_pyHash_int h
    · exact wpAny_pyHash_str h
  eqBool := fun hu hv h => by
    rcases keyIs_shape hu with ⟨i, t, rfl, rfl⟩ | ⟨x, t, rfl, rfl⟩
    · rcases keyIs_shape hv with ⟨j, u, rfl, rfl⟩ | ⟨y, u, rfl, rfl⟩
      · rw [key_ll] at h; exact wpAny_eqBool_int h
      · rw [key_lr] at h; exact SeqAt.EqAt.int_str i t y u _ _ _ _ h
    · rcases keyIs_shape hv with ⟨j, u, rfl, rfl⟩ | ⟨y, u, rfl, rfl⟩
      · rw [key_rl] at h; exact SeqAt.EqAt.str_int x t j u _ _ _ _ h
      · rw [key_rr] at h; exact wpAny_eqBool_str h
  «strs» := fun k x t v h => by
    rcases keyIs_shape h with ⟨i, u, rfl, e⟩ | ⟨y, u, rfl, e⟩
    · exact nomatch e
    · injection e with e1 _
      subst e1
      cases v <;> rfl
theorem mixKind_int (prog : Program) (w : World) (i : Int) (t : Tok) : (mixKind prog w).is (.inl i) (.int i t) = true := keyIs_int i t
theorem mixKind_str (prog : Program) (w : World) (x : Str) (t : Tok) : (mixKind prog w).is (.inr x) (.str x t) = true := keyIs_str x t
end L2
namespace L2
open PySem PySem.Spec PyProof.Rows
inductive V where
  | non | bl (b : Bool) | int (i : Int) | str (x : Str) | byt (b : Array UInt8) | flt (b : UInt64) | ref (a : Addr) | ty (n : String)
  deriving DecidableEq
def RelV : V → Value → Prop
  | .non, u => u = Value.none
  | .bl b, u => u = Value.bool b
  | .int i, u => ∃ t, u = Value.int i t
  | .str x, u => ∃ t, u = Value.str x t
  | .byt b, u => ∃ t, u = Value.bytes b t
  | .flt b, u => ∃ t, u = Value.float b t
  | .ref a, u => u = Value.ref a
  | .ty n, u => u = Value.type n
abbrev Vals : List V → List Value → Prop := Paired RelV
theorem Vals.length {xs : List V} {us : List Value} (r : Vals xs us) : xs.length = us.length := Paired.length r
theorem Vals.get : ∀ {xs : List V} {us : List Value} {i : Nat} {x : V}, Vals xs us → xs[i]? = some x → ∃ u, us[i]? = some u ∧ RelV x u
  | _, _, _, _, .nil, e => by simp at e
  | _, _, 0, _, .cons r _, e => by simp at e; subst e; exact ⟨_, rfl, r⟩
  | _, _, i + 1, x, .cons _ t, e => by
    obtain ⟨u, h1, h2⟩ := Vals.get (i := i) (x := x) t (by simpa using e)
    exact ⟨u, by simpa using h1, h2⟩
theorem Vals.set {x : V} {u : Value} (r : RelV x u) : ∀ {xs : List V} {us : List Value} (i : Nat), Vals xs us → Vals (xs.set i x) (us.set i u)
  | _, _, _, .nil => .nil
  | _, _, 0, .cons _ t => .cons r t
  | _, _, i + 1, .cons q t => .cons q (Vals.set r i t)
theorem Vals.append : ∀ {xs ys : List V} {us ws : List Value}, Vals xs us → Vals ys ws → Vals (xs ++ ys) (us ++ ws)
  | _, _, _, _, .nil, s => s
  | _, _, _, _, .cons r t, s => .cons r (Vals.append t s)
theorem Vals.take : ∀ {xs : List V} {us : List Value} (n : Nat), Vals xs us → Vals (xs.take n) (us.take n)
  | _, _, 0, _ => .nil
  | _, _, _ + 1, .nil => .nil
  | _, _, n + 1, .cons r t => .cons r (Vals.take n t)
theorem Vals.drop : ∀ {xs : List V} {us : List Value} (n : Nat), Vals xs us → Vals (xs.drop n) (us.drop n)
  | _, _, 0, r => r
  | _, _, _ + 1, .nil => .nil
  | _, _, n + 1, .cons _ t => Vals.drop n t
def RelO : Option V → Option Value → Prop
  | some v, some u => RelV v u
  | none, none => True
  | _, _ => False
def KV {κ : Type} : List (κ × V) → List (κ × Value) → Prop := Paired fun (p : κ × V) (q : κ × Value) => p.1 = q.1 ∧ RelV p.2 q.2
def kV : Key → V
  | .inl i => .int i
  | .inr x => .str x
inductive HO where
    | lst (xs : List V)
    | tup (xs : List V)
    | dK (kvs : List (Key × V)) | dT (kvs : List (List Key × V))
    | set (S : Int → Bool) (n : Nat)
    | ins (C dx : Addr) (fs : List (Str × V))
    | own (x : Addr)
    | xd (fs : List (Str × V))
    | met (f x : Addr)
    | rng (lo hi : Int)
    | frz (o : Obj) (u : HO)
    | tbl (ps : Array Value)
    | ext (φ : Heap → Prop)
abbrev Hp := Addr → Option HO
def upd (H : Hp) (a : Addr) (o : HO) : Hp := fun b => if b = a then some o else H b
theorem upd_same {H : Hp} {a : Addr} {o : HO} : upd H a o a = some o := by unfold upd; rw [if_pos rfl]
theorem upd_ne {H : Hp} {a b : Addr} {o : HO} (h : b ≠ a) : upd H a o b = H b := by unfold upd; rw [if_neg h]
theorem ne_of {H : Hp} {a b : Addr} {o u : HO} (h : H a = some o) (h' : H b = some u) (d : o ≠ u) : a ≠ b := by
  intro e; subst e; rw [h] at h'; exact d (Option.some.inj h')
theorem ne_of_none {H : Hp} {a b : Addr} {o : HO} (h : H a = some o) (h' : H b = none) : a ≠ b := by
  intro e; subst e; rw [h] at h'; cases h'
section
variable (P : Program) (w : World)
def ObjOk (H : Hp) (h : Heap) (a : Addr) : HO → Prop
  | .lst xs => xs.length ≤ sizeLine ∧ ∃ (its : List Value) (n : Nat), Vals xs its ∧ h.get? a = some { cls := .type "list", data := .seq its.toArray n }
  | .tup xs => xs.length ≤ sizeLine ∧ ∃ its : List Value, Vals xs its ∧ IsTup h a its.toArray
  | .dK kvs => kvs.length ≤ sizeLine ∧ (a == sysModules) = false ∧ ∃ vs, KV kvs vs ∧ h.DictOf (mixKind P w) a vs
  | .dT kvs => kvs.length ≤ sizeLine ∧ (a == sysModules) = false ∧ ∃ xs : List (List Key × Addr × Value),
      Paired (fun (p : List Key × V) (q : List Key × Addr × Value) => p.1 = q.1 ∧ H q.2.1 = some (.tup (p.1.map kV)) ∧ RelV p.2 q.2.2) kvs xs ∧
      ∃ o es ep, h.get? a = some o ∧ o.ExactDict ∧ o.data = .dict es ep ∧ es.toList = xs.map (entryOfKey (tupleKind (mixKind P w))) ∧ (xs.map (·.1)).Nodup
  | .set S n => h.SetOf (intKind P w) a S n
  | .ins C dx fs => H dx = some (.own a) ∧ fs.length ≤ 1000 ∧ dx ≠ a ∧ h.get? a = some (PySem.W.instObj C dx) ∧
      ∃ mA, h.Ns1 dx mA ∧ (∀ f, RelO (fs.lookup f) (mA f)) ∧ PySem.Within mA (fs.map (·.1))
  | .own _ => ∃ o, h.get? a = some o
  | .xd fs => ∃ mA, h.Ns1 a mA ∧ ∀ f, RelO (fs.lookup f) (mA f)
  | .rng lo hi => ∃ t u v, h.get? a = some { cls := .type "range", data := .fields #[.int lo t, .int hi u, .int 1 v] }
  | .frz o u => h.get? a = some o ∧ ObjOk H h a u
  | .tbl ps => h.get? a = some { cls := .none, data := .fields ps }
  | .met f x => h.get? a = some (PySem.W.methodObj (.ref f) (.ref x))
  | .ext φ => φ h ∧ (∃ o, h.get? a = some o) ∧ ∀ h1 h2 : Heap, φ h1 → (∀ o, h1.get? a = some o → h2.get? a = some o) → φ h2
def HOk (H : Hp) (h : Heap) : Prop := ∀ a o, H a = some o → ObjOk P w H h a o
end
section
variable {P : Program} {w : World} {H H' : Hp} {h h' : Heap} {a : Addr} {o : HO}
theorem ObjOk.lt (x : ObjOk P w H h a o) : a < h.objs.size := by
  cases o with
  | lst xs => obtain ⟨_, _, _, _, e⟩ := x; exact Heap.lt_size e
  | tup xs => obtain ⟨_, _, _, p⟩ := x; exact p.lt
  | dK kvs => obtain ⟨_, _, _, _, o, _, _, e, _⟩ := x; exact Heap.lt_size e
  | dT kvs => obtain ⟨_, _, _, _, o, _, _, e, _⟩ := x; exact Heap.lt_size e
  | set S n => obtain ⟨o, _, _, _, e, _⟩ := x; exact Heap.lt_size e
  | ins C dx fs => obtain ⟨_, _, _, e, _⟩ := x; exact Heap.lt_size e
  | own y => obtain ⟨_, e⟩ := x; exact Heap.lt_size e
  | xd fs => obtain ⟨_, ⟨_, _, _, e, _⟩, _⟩ := x; exact Heap.lt_size e
  | rng lo hi => obtain ⟨_, _, _, e⟩ := x; exact Heap.lt_size e
  | frz ob u => obtain ⟨e, _⟩ := x; exact Heap.lt_size e
  | tbl ps => exact Heap.lt_size (show h.get? a = some _ from x)
  | met f y => exact Heap.lt_size (show h.get? a = some _ from x)
  | ext φ => obtain ⟨_, ⟨_, e⟩, _⟩ := x; exact Heap.lt_size e
theorem Paired.mapP {α β : Type} {F G : α → β → Prop} : ∀ {l₁ : List α} {l₂ : List β}, Paired F l₁ l₂ → (∀ a b, F a b → G a b) → Paired G l₁ l₂
  | _, _, .nil, _ => .nil
  | _, _, .cons r t, f => .cons (f _ _ r) (Paired.mapP t f)
theorem ObjOk.stay (x : ObjOk P w H h a o) (k : ∀ b u, (b = a ∨ H b = some (.own a)) → h.get? b = some u → h'.get? b = some u)
    (ho : ∀ b, H b = some (.own a) → H' b = some (.own a)) (ht : ∀ b xs, H b = some (.tup xs) → H' b = some (.tup xs)) : ObjOk P w H' h' a o := by
  induction o with
  | lst xs => obtain ⟨z, its, n, r, e⟩ := x; exact ⟨z, its, n, r, k _ _ (.inl rfl) e⟩
  | tup xs => obtain ⟨z, its, r, ob, e, c⟩ := x; exact ⟨z, its, r, ob, k _ _ (.inl rfl) e, c⟩
  | dK kvs => obtain ⟨z, y, vs, r, ob, es, ep, e, c⟩ := x; exact ⟨z, y, vs, r, ob, es, ep, k _ _ (.inl rfl) e, c⟩
  | dT kvs =>
    obtain ⟨z, y, xs, r, ob, es, ep, e, c⟩ := x
    exact ⟨z, y, xs, Paired.mapP r fun p q z => ⟨z.1, ht _ _ z.2.1, z.2.2⟩, ob, es, ep, k _ _ (.inl rfl) e, c⟩
  | set S n => obtain ⟨ob, es, ep, t, e, c⟩ := x; exact ⟨ob, es, ep, t, k _ _ (.inl rfl) e, c⟩
  | ins C dx fs =>
    obtain ⟨d, z, ne, e, mA, ⟨od, es, ep, e2, c⟩, r⟩ := x
    exact ⟨ho _ d, z, ne, k _ _ (.inl rfl) e, mA, ⟨od, es, ep, k _ _ (.inr d) e2, c⟩, r⟩
  | own y => obtain ⟨ob, e⟩ := x; exact ⟨ob, k _ _ (.inl rfl) e⟩
  | xd fs => obtain ⟨mA, ⟨od, es, ep, e, c⟩, r⟩ := x; exact ⟨mA, ⟨od, es, ep, k _ _ (.inl rfl) e, c⟩, r⟩
  | rng lo hi => obtain ⟨t, u, v, e⟩ := x; exact ⟨t, u, v, k _ _ (.inl rfl) e⟩
  | frz ob u ih => obtain ⟨e, q⟩ := x; exact ⟨k _ _ (.inl rfl) e, ih q⟩
  | tbl ps =>
    have e : h.get? a = some { cls := .none, data := .fields ps } := x
    show h'.get? a = some { cls := .none, data := .fields ps }
    exact k a _ (.inl rfl) e
  | met f y =>
    have e : h.get? a = some (PySem.W.methodObj (.ref f) (.ref y)) := x
    show h'.get? a = some (PySem.W.methodObj (.ref f) (.ref y))
    exact k a _ (.inl rfl) e
  | ext φ => obtain ⟨p, ⟨o, e⟩, st⟩ := x; exact ⟨st _ _ p fun o q => k _ _ (.inl rfl) q, ⟨o, k _ _ (.inl rfl) e⟩, st⟩
theorem HOk.lt (x : HOk P w H h) (e : H a = some o) : a < h.objs.size := (x a o e).lt
theorem HOk.fresh (x : HOk P w H h) (e : h.objs.size ≤ a) : H a = none := by
  cases q : H a with
  | none => rfl
  | some u => exact absurd (Nat.lt_of_lt_of_le (x.lt q) e) (Nat.lt_irrefl _)
theorem HOk.kept (x : HOk P w H h) (k : ∀ b u, h.get? b = some u → h'.get? b = some u) : HOk P w H h' := fun a o e =>
  (x a o e).stay (fun b u _ q => k b u q) (fun _ q => q) fun _ _ q => q
theorem HOk.laid (x : HOk P w H h) (k : ∀ b u, h.get? b = some u → h'.get? b = some u) (hp : h.objs.size ≤ a) (new : ObjOk P w (upd H a o) h' a o) : HOk P w (upd H a o) h' := fun b u e => by
  have hn := x.fresh hp
  by_cases hb : b = a
  · subst hb; rw [upd_same] at e; cases e; exact new
  · rw [upd_ne hb] at e
    exact (x b u e).stay (fun c v _ q => k c v q) (fun c q => by rw [upd_ne (ne_of_none q hn)]; exact q) fun c xs q => by rw [upd_ne (ne_of_none q hn)]; exact q
end
def Rd (H : Hp) (a : Addr) (u : HO) : Prop := H a = some u ∨ ∃ o, H a = some (.frz o u)
theorem Rd.of {H : Hp} {a : Addr} {u : HO} (h : H a = some u) : Rd H a u := .inl h
theorem Rd.ok {P : Program} {w : World} {H : Hp} {h : Heap} {a : Addr} {u : HO} (r : Rd H a u) (x : HOk P w H h) : ObjOk P w H h a u := by
  rcases r with r | ⟨o, r⟩
  · exact x a u r
  · obtain ⟨_, q⟩ := x a _ r
    exact q
def Mut : Option HO → Prop
  | some (.lst _) => True
  | some (.dK _) => True
  | some (.dT _) => True
  | some (.set _ _) => True
  | some (.ins _ _ _) => True
  | some (.ext _) => True
  | _ => False
section
variable {P : Program} {w : World} {H : Hp} {h h' : Heap} {x e : Addr} {o' : HO}
theorem HOk.write (ok : HOk P w H h) (mu : Mut (H x)) (he : e = x ∨ H e = some (.own x)) (k : ∀ b u, b ≠ e → h.get? b = some u → h'.get? b = some u) (heo : ∃ u, h'.get? e = some u)
    (new : ObjOk P w (upd H x o') h' x o') : HOk P w (upd H x o') h' := fun b u q => by
  have nown : ∀ c y, H c = some (.own y) → c ≠ x := fun c y r z => by subst z; rw [r] at mu; exact mu
  have ntup : ∀ c xs, H c = some (.tup xs) → c ≠ x := fun c xs r z => by subst z; rw [r] at mu; exact mu
  by_cases hb : b = x
  · subst hb; rw [upd_same] at q; cases q; exact new
  · rw [upd_ne hb] at q
    by_cases hbe : b = e
    · have q' : H b = some (.own x) := by
        rcases he with z | z
        · exact absurd (hbe.trans z) hb
        · rw [hbe]; exact z
      rw [q] at q'; cases q'
      obtain ⟨v, hv⟩ := heo
      exact ⟨v, by rw [hbe]; exact hv⟩
    · refine (ok b u q).stay (fun c v hc r => k c v ?_ r) (fun c r => by rw [upd_ne (nown c b r)]; exact r) fun c xs r => by rw [upd_ne (ntup c xs r)]; exact r
      rcases hc with rfl | hc
      · exact hbe
      · rintro rfl
        rcases he with z | z
        · exact nown c b hc z
        · rw [hc] at z; cases z; exact hb rfl
end
structure Un (fs ex : List Addr) (H H' : Hp) (h h' : Heap) : Prop where
  keep : ∀ b o, h.get? b = some o → H b = none → b ∉ fs → b ∉ ex → h'.get? b = some o
  slot : ∀ b o, h.get? b = some o → H b = none → b ∈ fs → b ∉ ex → ∃ sl, h'.get? b = some { o with slots := sl }
  free : ∀ b o, h.get? b = some o → H b = none → b ∉ ex → H' b = none
  there : ∀ b o, h.get? b = some o → b ∉ ex → ∃ o', h'.get? b = some o'
  tups : ∀ b xs, H b = some (.tup xs) → H' b = some (.tup xs)
  frzs : ∀ b o u, H b = some (.frz o u) → H' b = some (.frz o u)
  tbls : ∀ b ps, H b = some (.tbl ps) → ∃ more, H' b = some (.tbl (ps ++ more))
section
variable {fs fs' ex ex' : List Addr} {H H1 H2 : Hp} {h h1 h2 h' : Heap} {a x e : Addr} {o : HO}
theorem Un.any (u : Un fs ex H H1 h h1) {b : Addr} {ob : Obj} (q : h.get? b = some ob) (n : H b = none) (hx : b ∉ ex) : ∃ sl, h1.get? b = some { ob with slots := sl } := by
  by_cases hb : b ∈ fs
  · exact u.slot b ob q n hb hx
  · exact ⟨ob.slots, u.keep b ob q n hb hx⟩
theorem Un.trans (a : Un fs ex H H1 h h1) (b : Un fs ex H1 H2 h1 h2) : Un fs ex H H2 h h2 where
  keep := fun c ob q n hc hx => b.keep c ob (a.keep c ob q n hc hx) (a.free c ob q n hx) hc hx
  slot := fun c ob q n hc hx => by
    obtain ⟨sl, e1⟩ := a.slot c ob q n hc hx
    obtain ⟨sl', e2⟩ := b.slot c _ e1 (a.free c ob q n hx) hc hx
    exact ⟨sl', e2⟩
  free := fun c ob q n hx => by
    obtain ⟨o', e1⟩ := a.there c ob q hx
    exact b.free c o' e1 (a.free c ob q n hx) hx
  there := fun c ob q hx => by
    obtain ⟨o', e1⟩ := a.there c ob q hx
    exact b.there c o' e1 hx
  tups := fun c xs q => b.tups c xs (a.tups c xs q)
  frzs := fun c ob xs q => b.frzs c ob xs (a.frzs c ob xs q)
  tbls := fun c ps q => by
    obtain ⟨m1, e1⟩ := a.tbls c ps q
    obtain ⟨m2, e2⟩ := b.tbls c _ e1
    exact ⟨m1 ++ m2, by rw [e2, Array.append_assoc]⟩
theorem Un.kept (k : ∀ b u, h.get? b = some u → h'.get? b = some u) : Un fs ex H H h h' :=
  ⟨fun b ob q _ _ _ => k b ob q, fun b ob q _ _ _ => ⟨ob.slots, k b ob q⟩, fun _ _ _ n _ => n, fun b ob q _ => ⟨ob, k b ob q⟩, fun _ _ q => q, fun _ _ _ q => q, fun _ ps q => ⟨#[], by rw [q]; simp⟩⟩
theorem Un.refl : Un fs ex H H h h := Un.kept fun _ _ q => q
theorem Un.laid (k : ∀ b u, h.get? b = some u → h'.get? b = some u) (hp : h.objs.size ≤ a) (hn : H a = none) : Un fs ex H (upd H a o) h h' where
  keep := fun b u q _ _ _ => k b u q
  slot := fun b u q _ _ _ => ⟨u.slots, k b u q⟩
  free := fun b u q n _ => by rw [upd_ne (Nat.ne_of_lt (Nat.lt_of_lt_of_le (Heap.lt_size q) hp))]; exact n
  there := fun b u q _ => ⟨u, k b u q⟩
  tups := fun b xs q => by rw [upd_ne (ne_of_none q hn)]; exact q
  frzs := fun b u xs q => by rw [upd_ne (ne_of_none q hn)]; exact q
  tbls := fun b ps q => ⟨#[], by rw [upd_ne (ne_of_none q hn), q]; simp⟩
theorem Un.write (mu : Mut (H x)) (he : e = x ∨ H e = some (.own x)) (k : ∀ b u, b ≠ e → h.get? b = some u → h'.get? b = some u) (heo : ∃ u, h'.get? e = some u) : Un fs ex H (upd H x o) h h' := by
  have hx : ∀ b, H b = none → b ≠ x := fun b n z => by subst z; rw [n] at mu; exact mu
  have hb : ∀ b, H b = none → b ≠ e := fun b n z => by
    subst z
    rcases he with r | r
    · exact hx b n r
    · rw [n] at r; cases r
  have hm : ∀ b u, H b = some u → ¬ Mut (some u) → b ≠ x := fun b u q nm z => by subst z; rw [q] at mu; exact nm mu
  refine ⟨fun b u q n _ _ => k b u (hb b n) q, fun b u q n _ _ => ⟨u.slots, k b u (hb b n) q⟩, fun b u q n _ => by rw [upd_ne (hx b n)]; exact n, fun b u q _ => ?_,
    fun b xs q => by rw [upd_ne (hm b _ q fun z => z)]; exact q, fun b u xs q => by rw [upd_ne (hm b _ q fun z => z)]; exact q, fun b ps q => ⟨#[], by rw [upd_ne (hm b _ q fun z => z), q]; simp⟩⟩
  by_cases hbe : b = e
  · subst hbe; exact heo
  · exact ⟨u, k b u hbe q⟩
theorem Un.mono (u : Un fs ex H H1 h h1) (hs : ∀ b ∈ fs, b ∈ fs') (hx : ∀ b ∈ ex, b ∈ ex') : Un fs' ex' H H1 h h1 :=
  ⟨fun b ob q n hb he => u.keep b ob q n (fun z => hb (hs b z)) fun z => he (hx b z), fun _ _ q n _ he => u.any q n fun z => he (hx _ z), fun b ob q n he => u.free b ob q n fun z => he (hx b z), fun b ob q he => u.there b ob q fun z => he (hx b z), u.tups, u.frzs, u.tbls⟩
end
def trk (h : Heap) (H : Hp) : List Addr := (List.range h.objs.size).filter fun a => (H a).isSome
def hidT (h : Heap) (H : Hp) : Heap := PySem.W.hideAll h (trk h H)
theorem hidT_size (h : Heap) (H : Hp) : (hidT h H).objs.size = h.objs.size := PySem.W.hideAll_size _ _
theorem hidT_get {h : Heap} {H : Hp} {b : Addr} {o : Obj} (e : h.get? b = some o) (n : H b = none) : (hidT h H).get? b = some o :=
  PySem.W.hideAll_get _ e fun hm => by
    have q : (H b).isSome = true := (List.mem_filter.mp hm).2
    rw [n] at q; simp at q
theorem of_hidT {h : Heap} {H : Hp} {b : Addr} {o : Obj} (e : (hidT h H).get? b = some o) : h.get? b = some o ∧ H b = none := by
  have e' : h.get? b = some o := PySem.W.of_hideAll (trk h H) e
  refine ⟨e', ?_⟩
  cases q : H b with
  | none => rfl
  | some x =>
    have hm : b ∈ trk h H := List.mem_filter.mpr ⟨List.mem_range.mpr (Heap.lt_size e'), by simp [q]⟩
    have z : (hidT h H).get? b = none := PySem.W.hideAll_none (trk h H) hm
    rw [z] at e; cases e
def allNews (g h : Heap) (L : Addr) : List (Addr × Obj) := (List.range h.objs.size).filterMap fun a => if a = L ∨ (g.get? a).isSome = true then none else (h.get? a).map fun o => (a, o)
def rest (g h : Heap) (L d : Addr) : List (Addr × Obj) := (allNews g h L).filter fun p => decide (p.1 ≠ d)
end L2
namespace L2
open PySem PySem.Spec PyProof.Rows
structure Mod (K : PySem.W.Frag) (mg : Str → Option Value) (base : Heap) : Prop where
  kin : K.In base
  glob : base.Ns mainGlobals mg
  blt : ∃ mb, base.Ns builtinsNs mb ∧ ∀ x : Str, x ≠ "__name__" → mb x = bootBuiltins x
  nolimit : base.NoLimit
structure Cx where
  prog : Program
  w : World
  K : PySem.W.Frag
  mg : Str → Option Value
  base : Heap
  A : Around
  N : List Str
  s₀ : Shared
  H₀ : Hp
  env : Env
  outer : List Env
  stack : List Env
  ex : List Addr
  fn : Str → Bool
  calm : Bool
  pn : List (Addr × Obj)
  xe : Value → Shared → Prop
  sg : List (Addr × Obj) → List (Option V) → Prop := fun _ _ => True
def frs (l : List Env) : List Addr := l.filterMap (·.frame)
abbrev Cx.fs (X : Cx) : List Addr := frs X.outer
def Vis (sc : Scope) (x : Str) : Prop := sc.names.lookup x = some .local ∨ sc.names.lookup x = some .cell ∨ sc.names.lookup x = some .free
def Loc (sc : Scope) (x : Str) : Prop := sc.names.lookup x = some .local ∨ sc.names.lookup x = some .cell
def Look (env : Env) (h : Heap) (m : Str → Option Value) (x : Str) (u : Value) : Prop :=
  (env.kindOf x = some .local ∧ m x = some u) ∨ ((env.kindOf x = some .cell ∨ env.kindOf x = some .free) ∧ ∃ c, env.cells.lookup x = some c ∧ h.IsCell c (some u))
structure Cx.Ok (X : Cx) : Prop where
  mod : Mod X.K X.mg X.base
  kind : X.env.scope.kind = .function
  glob : X.env.globals = mainGlobals
  blt : X.env.builtins = builtinsNs
  above : X.s₀.heap.objs.size ≤ X.env.locals
  inj : ∀ x y c, X.env.cells.lookup x = some c → X.env.cells.lookup y = some c → x = y
  has : ∀ x, (X.env.kindOf x = some .cell ∨ X.env.kindOf x = some .free) → ∃ c, X.env.cells.lookup x = some c
  cab : ∀ x c, X.fn x = true → X.env.cells.lookup x = some c → X.s₀.heap.objs.size ≤ c
  hd : X.calm = true → X.A.handled = none
  frames : X.A.frames = some X.stack
  stk : X.stack = X.outer ∨ (X.stack = X.env :: X.outer ∧ X.env.frame = some X.env.locals)
  exf : ∀ b ∈ X.ex, b ≠ X.env.locals ∧ ∀ x c, X.env.cells.lookup x = some c → c ≠ b
  bs : ∀ b o, X.base.get? b = some o → X.s₀.heap.get? b = some o ∧ X.H₀ b = none
  bsz : X.base.objs.size ≤ X.s₀.heap.objs.size
  noex : ∀ b o, X.base.get? b = some o → b ∉ X.ex
  exfs : ∀ b ∈ X.ex, b ∉ X.fs
  funs : X.s₀.heap.FunFrames X.base X.outer
  frf : ∀ b ∈ X.fs, X.H₀ b = none
structure Inv (X : Cx) (pins : List (Addr × Obj)) (σ : List (Option V)) (H : Hp) (s : Shared) : Prop where
  ok : X.Ok
  os : s.os = X.s₀.os
  bare : AllBare s.gens
  base : Un X.fs X.ex X.H₀ H X.s₀.heap s.heap
  loc : ∃ m, s.heap.Ns X.env.locals m ∧ ∀ (i : Nat) (x : Str) (v : V), X.N[i]? = some x → σ[i]? = some (some v) → Vis X.env.scope x → ∃ u, RelV v u ∧ Look X.env s.heap m x u
  cell : ∀ x c, X.env.cells.lookup x = some c → ∃ v, s.heap.IsCell c v
  free : H X.env.locals = none
  freeC : ∀ x c, X.env.cells.lookup x = some c → H c = none
  pin : ∀ p ∈ X.pn ++ pins, s.heap.get? p.1 = some p.2 ∧ H p.1 = none ∧ p.1 ≠ X.env.locals ∧ p.1 ∉ X.fs ∧ ∀ v, p.2.data ≠ .cell v
  hok : HOk X.prog X.w H s.heap
  len : σ.length = X.N.length
  sgm : X.sg pins σ
section
variable {X : Cx} {pins : List (Addr × Obj)} {σ : List (Option V)} {H H' : Hp} {s : Shared} {h' : Heap}
theorem Cx.Ok.nofr (ok : X.Ok) {b : Addr} {o : Obj} (e : X.base.get? b = some o) : b ∉ X.fs := fun hb => by
  have := (ok.funs.mem hb).1
  rw [e] at this; cases this
theorem Inv.bs (I : Inv X pins σ H s) : ∀ b o, X.base.get? b = some o → s.heap.get? b = some o ∧ H b = none := fun b o e =>
  ⟨I.base.keep b o (I.ok.bs b o e).1 (I.ok.bs b o e).2 (I.ok.nofr e) (I.ok.noex b o e), I.base.free b o (I.ok.bs b o e).1 (I.ok.bs b o e).2 (I.ok.noex b o e)⟩
theorem Inv.bk (I : Inv X pins σ H s) : ∀ b o, X.base.get? b = some o → s.heap.get? b = some o := fun b o e => (I.bs b o e).1
theorem Inv.mod (I : Inv X pins σ H s) : Mod X.K X.mg X.base := I.ok.mod
theorem Inv.kIn (I : Inv X pins σ H s) : X.K.In s.heap := I.ok.mod.kin.keeps I.bk
theorem Inv.nolimit (I : Inv X pins σ H s) : s.heap.NoLimit := I.ok.mod.nolimit.keeps I.bk
theorem Inv.fr (I : Inv X pins σ H s) : ∃ m, Fr X.base X.env.locals s.heap m :=
  let ⟨m, hn, _⟩ := I.loc
  ⟨m, hn, I.bk, Nat.le_trans I.ok.bsz I.ok.above⟩
theorem Inv.lt (I : Inv X pins σ H s) : X.env.locals < s.heap.objs.size := let ⟨_, hn, _⟩ := I.loc; hn.lt
theorem Inv.sz (I : Inv X pins σ H s) : X.s₀.heap.objs.size ≤ s.heap.objs.size := Nat.le_trans I.ok.above (Nat.le_of_lt I.lt)
theorem Inv.nofs (I : Inv X pins σ H s) {a : Addr} (h : s.heap.objs.size ≤ a) : a ∉ X.fs := fun hb => by
  obtain ⟨_, o, ho, _⟩ := I.ok.funs.mem hb
  exact absurd (Nat.lt_of_lt_of_le (Heap.lt_size ho) (Nat.le_trans I.sz h)) (Nat.lt_irrefl _)
theorem Inv.cne (I : Inv X pins σ H s) : ∀ x c, X.env.cells.lookup x = some c → c ≠ X.env.locals := fun x c e z => by
  obtain ⟨v, o, ho, hd⟩ := I.cell x c e
  obtain ⟨m, ⟨o', es, ep, ho', hd', _⟩, _⟩ := I.loc
  rw [z, ho'] at ho; cases ho; rw [hd'] at hd; cases hd
theorem Inv.funs (I : Inv X pins σ H s) : s.heap.FunFrames X.base X.outer := by
  have all : ∀ (l : List Env), (∀ b ∈ frs l, b ∈ X.fs) → X.s₀.heap.FunFrames X.base l → s.heap.FunFrames X.base l := by
    intro l
    induction l with
    | nil => intro _ _; trivial
    | cons env r ih =>
      intro hs hl
      obtain ⟨hk, ⟨L, o, hf, hn, ho, hd⟩, hr⟩ := hl
      have hL : L ∈ X.fs := hs L (by unfold frs; rw [List.filterMap_cons, hf]; exact List.mem_cons_self)
      obtain ⟨sl, e⟩ := I.base.slot L o ho (I.ok.frf L hL) hL fun z => I.ok.exfs L z hL
      exact ⟨hk, ⟨L, _, hf, hn, e, hd⟩, ih (fun b hb => hs b (by unfold frs; rw [List.filterMap_cons, hf]; exact List.mem_cons_of_mem _ hb)) hr⟩
  exact all X.outer (fun _ hb => hb) I.ok.funs
theorem Inv.stack (I : Inv X pins σ H s) : s.heap.FunFrames X.base X.stack := by
  rcases I.ok.stk with e | ⟨e, hf⟩
  · rw [e]; exact I.funs
  · rw [e]
    obtain ⟨m, hn, _⟩ := I.loc
    refine .cons (by rw [I.ok.kind]; decide) hf hn ?_ I.funs
    exact Heap.get?_none_of_le (Nat.le_trans I.ok.bsz I.ok.above)
theorem Inv.stkSub (I : Inv X pins σ H s) : ∀ b ∈ frs X.stack, b ∈ X.env.locals :: X.fs := fun b hb => by
  rcases I.ok.stk with e | ⟨e, hf⟩
  · rw [e] at hb; exact List.mem_cons_of_mem _ hb
  · rw [e] at hb
    unfold frs at hb
    rw [List.filterMap_cons, hf] at hb
    exact hb
theorem Inv.stkFree (I : Inv X pins σ H s) : ∀ b ∈ frs X.stack, H b = none := fun b hb => by
  rcases List.mem_cons.mp (I.stkSub b hb) with e | hb
  · rw [e]; exact I.free
  · obtain ⟨_, o, ho, _⟩ := I.ok.funs.mem hb
    exact I.base.free b o ho (I.ok.frf b hb) fun z => I.ok.exfs b z hb
theorem Inv.step {g' : Array GenState} {t' : Nat} {d' : Drawn} {ch : List Addr} (I : Inv X pins σ H s)
    (hch : ∀ b ∈ ch, (b ∈ X.ex ∨ X.s₀.heap.get? b = none) ∧ b ≠ X.env.locals ∧ (∀ x c, X.env.cells.lookup x = some c → c ≠ b) ∧ ∀ p ∈ X.pn ++ pins, p.1 ≠ b)
    (keep : ∀ b o, b ≠ X.env.locals → b ∉ X.fs → b ∉ ch → s.heap.get? b = some o → H b = none → h'.get? b = some o)
    (slot : ∀ b o, b ≠ X.env.locals → b ∈ X.fs → b ∉ ch → s.heap.get? b = some o → H b = none → ∃ sl, h'.get? b = some { o with slots := sl }) (free : ∀ b o, b ∉ ch → s.heap.get? b = some o → H b = none → H' b = none)
    (there : ∀ b o, b ∉ ch → s.heap.get? b = some o → ∃ o', h'.get? b = some o')
    (tups : ∀ b xs, H b = some (.tup xs) → H' b = some (.tup xs)) (frzs : ∀ b o u, H b = some (.frz o u) → H' b = some (.frz o u)) (tbls : ∀ b ps, H b = some (.tbl ps) → ∃ more, H' b = some (.tbl (ps ++ more)))
    (ns : ∀ m, s.heap.Ns X.env.locals m → h'.Ns X.env.locals m) (hok : HOk X.prog X.w H' h') (hg : AllBare g') :
    Inv X pins σ H' { s with heap := h', gens := g', drawn := d', toks := t' } := by
  have neL : ∀ b o, X.s₀.heap.get? b = some o → b ≠ X.env.locals := fun b o e => Nat.ne_of_lt (Nat.lt_of_lt_of_le (Heap.lt_size e) I.ok.above)
  have neC : ∀ b o, X.s₀.heap.get? b = some o → b ∉ X.ex → b ∉ ch := fun b o e hx hb => by
    rcases (hch b hb).1 with z | z
    · exact hx z
    · rw [z] at e; cases e
  have cellK : ∀ x c, X.env.cells.lookup x = some c → ∀ v, s.heap.IsCell c v → h'.IsCell c v := fun x c e v ⟨o, ho, hd⟩ => by
    have nch : c ∉ ch := fun z => (hch c z).2.2.1 x c e rfl
    by_cases hc : c ∈ X.fs
    · obtain ⟨sl, q⟩ := slot c o (I.cne x c e) hc nch ho (I.freeC x c e)
      exact ⟨_, q, hd⟩
    · exact ⟨o, keep c o (I.cne x c e) hc nch ho (I.freeC x c e), hd⟩
  refine ⟨I.ok, I.os, hg, ⟨fun b o e n hb hx => ?_, fun b o e n hb hx => ?_, fun b o e n hx => ?_, fun b o e hx => ?_, fun b xs e => tups b xs (I.base.tups b xs e), fun b o xs e => frzs b o xs (I.base.frzs b o xs e), fun b ps e => ?_⟩, ?_, fun x c e => ?_, ?_, fun x c e => ?_, fun p hp => ?_, hok, I.len, I.sgm⟩
  · exact keep b o (neL b o e) hb (neC b o e hx) (I.base.keep b o e n hb hx) (I.base.free b o e n hx)
  · obtain ⟨sl, e1⟩ := I.base.slot b o e n hb hx
    obtain ⟨sl', e2⟩ := slot b _ (neL b o e) hb (neC b o e hx) e1 (I.base.free b o e n hx)
    exact ⟨sl', e2⟩
  · obtain ⟨o', e1⟩ := I.base.there b o e hx
    exact free b o' (neC b o e hx) e1 (I.base.free b o e n hx)
  · obtain ⟨o', e1⟩ := I.base.there b o e hx
    exact there b o' (neC b o e hx) e1
  · obtain ⟨m1, e1⟩ := I.base.tbls b ps e
    obtain ⟨m2, e2⟩ := tbls b _ e1
    exact ⟨m1 ++ m2, by rw [e2, Array.append_assoc]⟩
  · obtain ⟨m, hn, hl⟩ := I.loc
    refine ⟨m, ns m hn, fun i x v e1 e2 e3 => ?_⟩
    obtain ⟨u, r, l⟩ := hl i x v e1 e2 e3
    refine ⟨u, r, ?_⟩
    rcases l with l | ⟨k, c, e, z⟩
    · exact .inl l
    · exact .inr ⟨k, c, e, cellK x c e _ z⟩
  · obtain ⟨v, z⟩ := I.cell x c e
    exact ⟨v, cellK x c e v z⟩
  · obtain ⟨m, ⟨o, _, _, ho, _⟩, _⟩ := I.loc
    exact free _ o (fun z => (hch _ z).2.1 rfl) ho I.free
  · obtain ⟨v, o, ho, hd⟩ := I.cell x c e
    exact free c o (fun z => (hch c z).2.2.1 x c e rfl) ho (I.freeC x c e)
  · obtain ⟨e, n, ne, nf, d⟩ := I.pin p hp
    have nch : p.1 ∉ ch := fun z => (hch p.1 z).2.2.2 p hp rfl
    exact ⟨keep p.1 p.2 ne nf nch e n, free p.1 p.2 nch e n, ne, nf, d⟩
theorem Inv.un {t' : Nat} (I : Inv X pins σ H s) (u : Un X.fs [] H H' s.heap h') (hok : HOk X.prog X.w H' h') : Inv X pins σ H' { s with heap := h', toks := t' } := by
  obtain ⟨m, ⟨o, es, ep, ho, r⟩, _⟩ := id I.loc
  obtain ⟨sl, hL⟩ := u.any ho I.free (by simp)
  exact I.step (g' := s.gens) (d' := s.drawn) (ch := []) (fun _ z => nomatch z) (fun b o _ hb _ e n => u.keep b o e n hb (by simp)) (fun b o _ hb _ e n => u.slot b o e n hb (by simp)) (fun b o _ e n => u.free b o e n (by simp)) (fun b o _ e => u.there b o e (by simp)) u.tups u.frzs u.tbls (fun m' hm => by
    obtain ⟨o', es', ep', ho', r'⟩ := hm
    rw [ho] at ho'; cases ho'
    exact ⟨_, es', ep', hL, r'⟩) hok I.bare
theorem Inv.call {g' : Array GenState} {t' : Nat} {d' : Drawn} {ch : List Addr} (I : Inv X pins σ H s) (u : Un (frs X.stack) ch H H' s.heap h') (hok : HOk X.prog X.w H' h') (hg : AllBare g')
    (hch : ∀ b ∈ ch, (b ∈ X.ex ∨ X.s₀.heap.get? b = none) ∧ b ≠ X.env.locals ∧ (∀ x c, X.env.cells.lookup x = some c → c ≠ b) ∧ ∀ p ∈ X.pn ++ pins, p.1 ≠ b) :
    Inv X pins σ H' { s with heap := h', gens := g', drawn := d', toks := t' } := by
  obtain ⟨m, ⟨o, es, ep, ho, r⟩, _⟩ := id I.loc
  obtain ⟨sl, hL⟩ := u.any ho I.free fun z => (hch _ z).2.1 rfl
  exact I.step (ch := ch) hch (fun b o hL hb hc e n => u.keep b o e n (fun z => (List.mem_cons.mp (I.stkSub b z)).elim hL hb) hc) (fun b o _ _ hc e n => u.any e n hc) (fun b o hc e n => u.free b o e n hc) (fun b o hc e => u.there b o e hc) u.tups u.frzs u.tbls (fun m' hm => by
    obtain ⟨o', es', ep', ho', r'⟩ := hm
    rw [ho] at ho'; cases ho'
    exact ⟨_, es', ep', hL, r'⟩) hok hg
theorem Inv.turned {t' : Nat} {it : Addr} (I : Inv X pins σ H s) (k : ∀ b o, b ≠ it → s.heap.get? b = some o → h'.get? b = some o) (hn : H it = none) (hL : it ≠ X.env.locals)
    (h1 : it ∈ X.ex ∨ X.s₀.heap.objs.size ≤ it) (h2 : ∀ x c, X.env.cells.lookup x = some c → c ≠ it) (h3 : ∀ p ∈ X.pn ++ pins, p.1 ≠ it) : Inv X pins σ H { s with heap := h', toks := t' } := by
  have nit : ∀ b u, H b = some u → b ≠ it := fun b u e z => by rw [z, hn] at e; cases e
  refine I.step (g' := s.gens) (d' := s.drawn) (ch := [it]) (fun b hb => ?_) (fun b o _ _ hc e _ => k b o (fun z => hc (by simp [z])) e) (fun b o _ _ hc e _ => ⟨o.slots, k b o (fun z => hc (by simp [z])) e⟩) (fun _ _ _ _ n => n)
    (fun b o hc e => ⟨o, k b o (fun z => hc (by simp [z])) e⟩) (fun _ _ e => e) (fun _ _ _ e => e) (fun b ps e => ⟨#[], by rw [e]; simp⟩) (fun m hm => ?_) (fun b u e => ?_) I.bare
  · have e : b = it := by simpa using hb
    subst e
    exact ⟨h1.imp id Heap.get?_none_of_le, hL, h2, h3⟩
  · obtain ⟨o, es, ep, ho, r⟩ := hm
    exact ⟨o, es, ep, k _ o (Ne.symm hL) ho, r⟩
  · refine (I.hok b u e).stay (fun c v hc q => k c v ?_ q) (fun _ q => q) fun _ _ q => q
    rcases hc with z | z
    · rw [z]; exact nit b u e
    · exact nit c _ z
theorem Inv.tok (I : Inv X pins σ H s) (t : Nat) : Inv X pins σ H { s with toks := t } := I.un (h' := s.heap) (t' := t) Un.refl I.hok
theorem Inv.kept {t' : Nat} (I : Inv X pins σ H s) (k : ∀ b u, s.heap.get? b = some u → h'.get? b = some u) : Inv X pins σ H { s with heap := h', toks := t' } := I.un (Un.kept k) (I.hok.kept k)
theorem Inv.laid {a : Addr} {o : HO} {t' : Nat} (I : Inv X pins σ H s) (k : ∀ b u, s.heap.get? b = some u → h'.get? b = some u) (hp : s.heap.objs.size ≤ a) (new : ObjOk X.prog X.w (upd H a o) h' a o) :
    Inv X pins σ (upd H a o) { s with heap := h', toks := t' } := I.un (Un.laid k hp (I.hok.fresh hp)) (I.hok.laid k hp new)
theorem Inv.write {x e : Addr} {o : HO} {t' : Nat} (I : Inv X pins σ H s) (mu : Mut (H x)) (he : e = x ∨ H e = some (.own x)) (k : ∀ b u, b ≠ e → s.heap.get? b = some u → h'.get? b = some u) (heo : ∃ u, h'.get? e = some u)
    (new : ObjOk X.prog X.w (upd H x o) h' x o) : Inv X pins σ (upd H x o) { s with heap := h', toks := t' } := I.un (Un.write mu he k heo) (I.hok.write mu he k heo new)
theorem Inv.pins_of {pins' : List (Addr × Obj)} (I : Inv X pins σ H s) (h : ∀ p ∈ pins', s.heap.get? p.1 = some p.2 ∧ H p.1 = none ∧ p.1 ≠ X.env.locals ∧ p.1 ∉ X.fs ∧ ∀ v, p.2.data ≠ .cell v) (hsg : X.sg pins' σ) : Inv X pins' σ H s :=
  ⟨I.ok, I.os, I.bare, I.base, I.loc, I.cell, I.free, I.freeC, fun p hp => (List.mem_append.mp hp).elim (fun z => I.pin p (List.mem_append_left _ z)) (h p), I.hok, I.len, hsg⟩
theorem nodup_ix {N : List Str} (hN : N.Nodup) {i j : Nat} {x : Str} (a : N[i]? = some x) (b : N[j]? = some x) : i = j := by
  obtain ⟨h1, e1⟩ := List.getElem?_eq_some_iff.mp a
  obtain ⟨h2, e2⟩ := List.getElem?_eq_some_iff.mp b
  exact (List.getElem_inj hN).mp (e1.trans e2.symm)
theorem store_ok2 {M : Model} {A : Around} {E : Value → Shared → Prop} {i : Nat} {x : Str} {v : V} {u : Value} {Q : Unit → Shared → Prop} (I : Inv X pins σ H s) (hN : X.N.Nodup) (hi : X.N[i]? = some x) (hx : Loc X.env.scope x) (r : RelV v u)
    (h : ∀ s', Inv X pins (σ.set i (some v)) H s' → (∃ a, Heap.SameBut a s.heap s'.heap ∧ (a = X.env.locals ∨ X.env.cells.lookup x = some a)) → Q () s') (hf : X.fn x = true ∨ X.env.scope.names.lookup x = some .local := by first | exact .inl rfl | exact .inr rfl | assumption) (hsg : ∀ p σ v, X.sg p σ → X.sg p (σ.set i (some v)) := by first | exact fun _ _ _ _ => trivial | assumption) : wpAny M A (storeName X.env x u) Q E s := by
  obtain ⟨m, hn, hl⟩ := id I.loc
  have hcls : (X.env.scope.kind == .class || (X.env.scope.kind == .module && X.env.locals != X.env.globals)) = false := by rw [I.ok.kind]; rfl
  have hiσ : i < σ.length := by rw [I.len]; exact (List.getElem?_eq_some_iff.mp hi).1
  have cne := I.cne
  have tracked : ∀ {a : Addr} {h' : Heap}, (∃ o, s.heap.get? a = some o ∧ H a = none) → Heap.SameBut a s.heap h' → HOk X.prog X.w H h' := fun {a h'} ha hs b ob e => by
    obtain ⟨_, _, hfree⟩ := ha
    refine (I.hok b ob e).stay (fun c w' hc q => (hs.2 c ?_).trans q) (fun _ q => q) fun _ _ q => q
    rintro rfl
    rcases hc with rfl | hc
    · rw [hfree] at e; cases e
    · rw [hfree] at hc; cases hc
  rcases hx with hk | hk
  · refine wpAny_storeName_local hk hn (fun h' hn' hs => ?_) hcls
    obtain ⟨oL, _, _, hoL, _⟩ := id hn
    refine h _ ⟨I.ok, I.os, I.bare, ⟨fun b o e n hb hx => ?_, fun b o e n hb hx => ?_, I.base.free, fun b o e hx => ?_, I.base.tups, I.base.frzs, I.base.tbls⟩, ⟨_, hn', fun j y v' e1 e2 e3 => ?_⟩, fun y c e => ?_, I.free, I.freeC, fun p hp => ?_, tracked ⟨oL, hoL, I.free⟩ hs, by simpa using I.len, hsg _ _ _ I.sgm⟩ ⟨_, hs, .inl rfl⟩
    · exact (hs.2 b (Nat.ne_of_lt (Nat.lt_of_lt_of_le (Heap.lt_size e) I.ok.above))).trans (I.base.keep b o e n hb hx)
    · obtain ⟨sl, e1⟩ := I.base.slot b o e n hb hx
      exact ⟨sl, (hs.2 b (Nat.ne_of_lt (Nat.lt_of_lt_of_le (Heap.lt_size e) I.ok.above))).trans e1⟩
    · obtain ⟨o', e1⟩ := I.base.there b o e hx
      exact ⟨o', (hs.2 b (Nat.ne_of_lt (Nat.lt_of_lt_of_le (Heap.lt_size e) I.ok.above))).trans e1⟩
    · by_cases hj : j = i
      · subst hj
        rw [hi] at e1; cases e1
        rw [List.getElem?_set_self hiσ] at e2
        cases e2
        exact ⟨u, r, .inl ⟨hk, by simp⟩⟩
      · rw [List.getElem?_set_ne (Ne.symm hj)] at e2
        obtain ⟨u', r', q⟩ := hl j y v' e1 e2 e3
        refine ⟨u', r', ?_⟩
        rcases q with ⟨k, e⟩ | ⟨k, c, e, z⟩
        · refine .inl ⟨k, ?_⟩
          have : y ≠ x := fun e => hj (nodup_ix hN e1 (e ▸ hi))
          simp [this, e]
        · exact .inr ⟨k, c, e, z.sameBut hs (cne y c e)⟩
    · obtain ⟨w', z⟩ := I.cell y c e
      exact ⟨w', z.sameBut hs (cne y c e)⟩
    · obtain ⟨e, n, ne, nf, d⟩ := I.pin p hp
      exact ⟨(hs.2 p.1 ne).trans e, n, ne, nf, d⟩
  · have hfn : X.fn x = true := by
      rcases hf with z | z
      · exact z
      · rw [z] at hk; cases hk
    obtain ⟨c, hc⟩ := I.ok.has x (.inl hk)
    obtain ⟨w', z⟩ := I.cell x c hc
    refine wpAny_storeName_cell I.ok.kind hk hc z (fun h' hc' hs => ?_)
    obtain ⟨oc, hoc, hocd⟩ := id z
    refine h { s with heap := h' } ⟨I.ok, I.os, I.bare, ⟨fun b o e n hb hx => ?_, fun b o e n hb hx => ?_, I.base.free, fun b o e hx => ?_, I.base.tups, I.base.frzs, I.base.tbls⟩, ⟨m, hn.sameBut hs (Ne.symm (cne x c hc)), fun j y v' e1 e2 e3 => ?_⟩, fun y c' e => ?_, I.free, I.freeC, fun p hp => ?_, tracked ⟨oc, hoc, I.freeC x c hc⟩ hs, by simpa using I.len, hsg _ _ _ I.sgm⟩ ⟨c, hs, .inr hc⟩
    · exact (hs.2 b (Nat.ne_of_lt (Nat.lt_of_lt_of_le (Heap.lt_size e) (I.ok.cab x c hfn hc)))).trans (I.base.keep b o e n hb hx)
    · obtain ⟨sl, e1⟩ := I.base.slot b o e n hb hx
      exact ⟨sl, (hs.2 b (Nat.ne_of_lt (Nat.lt_of_lt_of_le (Heap.lt_size e) (I.ok.cab x c hfn hc)))).trans e1⟩
    · obtain ⟨o', e1⟩ := I.base.there b o e hx
      exact ⟨o', (hs.2 b (Nat.ne_of_lt (Nat.lt_of_lt_of_le (Heap.lt_size e) (I.ok.cab x c hfn hc)))).trans e1⟩
    · by_cases hj : j = i
      · subst hj
        rw [hi] at e1; cases e1
        rw [List.getElem?_set_self hiσ] at e2
        cases e2
        exact ⟨u, r, .inr ⟨.inl hk, c, hc, hc'⟩⟩
      · rw [List.getElem?_set_ne (Ne.symm hj)] at e2
        obtain ⟨u', r', q⟩ := hl j y v' e1 e2 e3
        refine ⟨u', r', ?_⟩
        rcases q with q | ⟨k, c', e, z'⟩
        · exact .inl q
        · refine .inr ⟨k, c', e, z'.sameBut hs ?_⟩
          rintro rfl
          exact hj (nodup_ix hN e1 (I.ok.inj _ _ _ e hc ▸ hi))
    · by_cases hcc : c' = c
      · subst hcc; exact ⟨_, hc'⟩
      · obtain ⟨w2, z2⟩ := I.cell y c' e
        exact ⟨w2, z2.sameBut hs hcc⟩
    · obtain ⟨e, n, ne, nf, d⟩ := I.pin p hp
      refine ⟨(hs.2 p.1 ?_).trans e, n, ne, nf, d⟩
      intro q
      rw [q, hoc] at e
      have q' : oc = p.2 := Option.some.inj e
      exact d w' (by rw [← q']; exact hocd)
theorem store_ok {M : Model} {A : Around} {E : Value → Shared → Prop} {i : Nat} {x : Str} {v : V} {u : Value} {Q : Unit → Shared → Prop} (I : Inv X pins σ H s) (hN : X.N.Nodup) (hi : X.N[i]? = some x) (hx : Loc X.env.scope x) (r : RelV v u)
    (h : ∀ s', Inv X pins (σ.set i (some v)) H s' → Q () s') (hf : X.fn x = true ∨ X.env.scope.names.lookup x = some .local := by first | exact .inl rfl | exact .inr rfl | assumption) (hsg : ∀ p σ v, X.sg p σ → X.sg p (σ.set i (some v)) := by first | exact fun _ _ _ _ => trivial | assumption) : wpAny M A (storeName X.env x u) Q E s :=
  store_ok2 I hN hi hx r (fun s' I' _ => h s' I') hf hsg
theorem Inv.call' {s' : Shared} {ch : List Addr} (I : Inv X pins σ H s) (ho : s'.os = s.os) (u : Un (frs X.stack) ch H H' s.heap s'.heap) (hok : HOk X.prog X.w H' s'.heap) (hg : AllBare s'.gens)
    (hch : ∀ b ∈ ch, (b ∈ X.ex ∨ X.s₀.heap.get? b = none) ∧ b ≠ X.env.locals ∧ (∀ x c, X.env.cells.lookup x = some c → c ≠ b) ∧ ∀ p ∈ X.pn ++ pins, p.1 ≠ b) : Inv X pins σ H' s' := by
  obtain ⟨h', g', d', t', o'⟩ := s'
  have e : o' = s.os := ho
  subst e
  exact I.call (g' := g') (t' := t') (d' := d') u hok hg hch
end
abbrev XK := Value → Option Addr → Hp → Prop
abbrev St := List (Option V)
abbrev VK := V → Hp → Prop
abbrev TE := St → Hp → VK → Prop
abbrev TT := St → Hp → (Bool → Hp → Prop) → Prop
abbrev TA := St → Hp → (List V → Hp → Prop) → Prop
structure Ends where
  nx : St → Hp → Prop
  rt : VK
  bk : St → Hp → Prop := fun _ _ => False
  ct : St → Hp → Prop := fun _ _ => False
abbrev TS := Ends → St → Hp → Prop
def EP (X : Cx) (pins : List (Addr × Obj)) (σ : St) (Q : VK) (u : Value) (s' : Shared) : Prop := ∃ v H', Inv X pins σ H' s' ∧ RelV v u ∧ Q v H'
def TP (X : Cx) (pins : List (Addr × Obj)) (σ : St) (Q : Bool → Hp → Prop) (b : Bool) (s' : Shared) : Prop := ∃ H', Inv X pins σ H' s' ∧ Q b H'
def AP (X : Cx) (pins : List (Addr × Obj)) (σ : St) (Q : List V → Hp → Prop) (us : List Value) (s' : Shared) : Prop := ∃ vs H', Inv X pins σ H' s' ∧ Vals vs us ∧ Q vs H'
def SP (X : Cx) (pins : List (Addr × Obj)) (D : Ends) (f : Flow) (s' : Shared) : Prop :=
  match f with
  | .next => ∃ σ' H', Inv X pins σ' H' s' ∧ D.nx σ' H'
  | .brk => ∃ σ' H', Inv X pins σ' H' s' ∧ D.bk σ' H'
  | .cont => ∃ σ' H', Inv X pins σ' H' s' ∧ D.ct σ' H'
  | .ret u => ∃ v σ' H', Inv X pins σ' H' s' ∧ RelV v u ∧ D.rt v H'
def PE (X : Cx) (e : Expr) (t : TE) : Prop :=
  ∀ (pins : List (Addr × Obj)) (s : Shared) (σ : St) (H : Hp) (Q : VK), Inv X pins σ H s → t σ H Q → wpAny (model X.prog X.w) X.A (eval e X.env) (EP X pins σ Q) X.xe s
def PT (X : Cx) (e : Expr) (t : TT) : Prop :=
  ∀ (pins : List (Addr × Obj)) (s : Shared) (σ : St) (H : Hp) (Q : Bool → Hp → Prop), Inv X pins σ H s → t σ H Q → wpAny (model X.prog X.w) X.A (isTrue e X.env (eval e X.env)) (TP X pins σ Q) X.xe s
def PW (X : Cx) (e : Expr) (t : TT) : Prop :=
  ∀ (whole : Sem Value) (pins : List (Addr × Obj)) (s : Shared) (σ : St) (H : Hp) (Q : Bool → Hp → Prop), Inv X pins σ H s → t σ H Q → wpAny (model X.prog X.w) X.A (isTrue e X.env whole) (TP X pins σ Q) X.xe s
theorem PW.pt {X : Cx} {e : Expr} {t : TT} (h : PW X e t) : PT X e t := h _
def PA (X : Cx) (es : List Expr) (t : TA) : Prop :=
  ∀ (pos : Pos) (pins : List (Addr × Obj)) (s : Shared) (σ : St) (H : Hp) (Q : List V → Hp → Prop), Inv X pins σ H s → t σ H Q → wpAny (model X.prog X.w) X.A (spliced (backTo pos (starEach es X.env))) (AP X pins σ Q) X.xe s
def PS (X : Cx) (st : Stmt) (t : TS) : Prop :=
  ∀ (pins : List (Addr × Obj)) (s : Shared) (σ : St) (H : Hp) (D : Ends), Inv X pins σ H s → t D σ H → wpAny (model X.prog X.w) X.A (exec st X.env) (SP X pins D) X.xe s
def PSs (X : Cx) (st : List Stmt) (t : TS) : Prop :=
  ∀ (pins : List (Addr × Obj)) (s : Shared) (σ : St) (H : Hp) (D : Ends), Inv X pins σ H s → t D σ H → wpAny (model X.prog X.w) X.A (execs st X.env) (SP X pins D) X.xe s
theorem thn {α : Type} {t : Sem α} {Q Q' : α → Shared → Prop} {M : Model} {A : Around} {E : Value → Shared → Prop} {s : Shared} (h : wpAny M A t Q E s) (hQ : ∀ a s, Q a s → Q' a s) : wpAny M A t Q' E s := wpAny_mono h hQ fun _ _ x => x
end L2
namespace L2
open PySem PySem.Spec PyProof.Rows
section
variable {X : Cx}
def tVar (i : Nat) : TE := fun σ H Q => ∃ v, σ[i]? = some (some v) ∧ Q v H
def tC (v : V) : TE := fun _ H Q => Q v H
theorem pe_var {i : Nat} {x : Str} {pos : Pos} (hN : X.N[i]? = some x) (hv : Vis X.env.scope x) (hd : (x == ("__debug__" : Str)) = false := by decide) (hcd : (x == ("__classdict__" : Str)) = false := by decide) : PE X (.Name x pos) (tVar i) := by
  intro pins s σ H Q I h
  obtain ⟨v, e, h⟩ := h
  obtain ⟨m, hn, hl⟩ := I.loc
  obtain ⟨u, r, l⟩ := hl i x v hN e hv
  have fin : EP X pins σ Q u s := ⟨v, H, I, r, h⟩
  rcases l with ⟨hk, hm⟩ | ⟨hk, c, hc, hcell⟩
  · exact wpAny_Name (wpAny_loadName_local I.ok.kind hk hn hm fin) hd
  · rcases hk with hk | hk
    · exact wpAny_Name (wpAny_loadName_cell I.ok.kind hk hc hcell fin) hd
    · exact wpAny_Name (wpAny_loadName_free I.ok.kind hk hc hcell fin hcd) hd
theorem pe_int {i j pos} : PE X (.Constant (.int i) j pos) (tC (.int i)) := fun _ _ _ H _ I h => wpAny_Constant_int ⟨.int i, H, I.tok _, ⟨_, rfl⟩, h⟩
theorem pe_bl {b j pos} : PE X (.Constant (.bool b) j pos) (tC (.bl b)) := fun _ _ _ H _ I h => Constant_bool ⟨.bl b, H, I, rfl, h⟩
theorem pe_str {x j pos} : PE X (.Constant (.str x) j pos) (tC (.str x)) := fun _ _ _ H _ I h => Calls.Constant_str ⟨.str x, H, I.tok _, ⟨_, rfl⟩, h⟩
def Gl (X : Cx) (x : Str) : Prop := X.env.kindOf x = some .globalImplicit
theorem ld_glob {E : Value → Shared → Prop} {pins : List (Addr × Obj)} {s : Shared} {σ : St} {H : Hp} {x : Str} {u : Value} {pos : Pos} {Q : Value → Shared → Prop} (I : Inv X pins σ H s) (hg : Gl X x) (hm : X.mg x = some u) (h : Q u s)
    (hd : (x == ("__debug__" : Str)) = false := by decide) : wpAny (model X.prog X.w) X.A (eval (.Name x pos) X.env) Q E s :=
  Calls.Name_function_global I.ok.kind hg (Calls.loadGlobal_global (by rw [I.ok.glob]; exact I.mod.glob.keeps I.bk) hm h) hd
theorem ld_blt {E : Value → Shared → Prop} {pins : List (Addr × Obj)} {s : Shared} {σ : St} {H : Hp} {x : Str} {u : Value} {pos : Pos} {Q : Value → Shared → Prop} (I : Inv X pins σ H s) (hg : Gl X x) (hm : X.mg x = none) (hv : bootBuiltins x = some u) (h : Q u s)
    (hn : x ≠ "__name__" := by decide) (hd : (x == ("__debug__" : Str)) = false := by decide) : wpAny (model X.prog X.w) X.A (eval (.Name x pos) X.env) Q E s := by
  obtain ⟨mb, h1, h2⟩ := I.mod.blt
  exact Calls.Name_function_global I.ok.kind hg (Calls.loadGlobal_builtin (by rw [I.ok.glob]; exact I.mod.glob.keeps I.bk) hm (by rw [I.ok.blt]; exact h1.keeps I.bk) ((h2 x hn).trans hv) h) hd
theorem pe_glob {x : Str} {v : V} {u : Value} {pos : Pos} (hg : Gl X x) (hm : X.mg x = some u) (r : RelV v u) (hd : (x == ("__debug__" : Str)) = false := by decide) : PE X (.Name x pos) (tC v) :=
  fun _ _ _ H _ I h => ld_glob I hg hm ⟨v, H, I, r, h⟩ hd
theorem pe_bltn {x : Str} {v : V} {u : Value} {pos : Pos} (hg : Gl X x) (hm : X.mg x = none) (hv : bootBuiltins x = some u) (r : RelV v u) (hn : x ≠ "__name__" := by decide) (hd : (x == ("__debug__" : Str)) = false := by decide) : PE X (.Name x pos) (tC v) :=
  fun _ _ _ H _ I h => ld_blt I hg hm hv ⟨v, H, I, r, h⟩ hn hd
variable {a b : Expr} {ta tb : TE} {pos : Pos}
variable {tA tB' : TT} {rest : List Expr}
def tAnd (t u : TT) : TT := fun σ H Q => t σ H fun c H1 => if c = true then u σ H1 Q else Q false H1
def tOr (t u : TT) : TT := fun σ H Q => t σ H fun c H1 => if c = true then Q true H1 else u σ H1 Q
def tNot (t : TT) : TT := fun σ H Q => t σ H fun c H1 => Q (!c) H1
theorem pw_and1 (ha : PT X a tA) : PW X (.BoolOp .And [a] pos) tA := by
  intro wh pins s σ H Q I h
  refine isTrue_and (thn (ha pins s σ H Q I h) fun c s1 e => ?_)
  cases c with
  | true => exact isTrue_and_nil e
  | false => exact e
theorem pw_or1 (ha : PT X a tA) : PW X (.BoolOp .Or [a] pos) tA := by
  intro wh pins s σ H Q I h
  refine isTrue_or (thn (ha pins s σ H Q I h) fun c s1 e => ?_)
  cases c with
  | false => exact isTrue_or_nil e
  | true => exact e
theorem pw_and (ha : PT X a tA) (hb : PW X (.BoolOp .And (b :: rest) pos) tB') : PW X (.BoolOp .And (a :: b :: rest) pos) (tAnd tA tB') := by
  intro wh pins s σ H Q I h
  refine isTrue_and (thn (ha pins s σ H _ I h) fun c s1 ⟨H1, I1, q1⟩ => ?_)
  cases c with
  | true => exact hb wh pins s1 σ H1 Q I1 q1
  | false => exact ⟨H1, I1, q1⟩
theorem pw_or (ha : PT X a tA) (hb : PW X (.BoolOp .Or (b :: rest) pos) tB') : PW X (.BoolOp .Or (a :: b :: rest) pos) (tOr tA tB') := by
  intro wh pins s σ H Q I h
  refine isTrue_or (thn (ha pins s σ H _ I h) fun c s1 ⟨H1, I1, q1⟩ => ?_)
  cases c with
  | true => exact ⟨H1, I1, q1⟩
  | false => exact hb wh pins s1 σ H1 Q I1 q1
theorem pt_not (ha : PT X a tA) : PT X (.UnaryOp .Not a pos) (tNot tA) := by
  intro pins s σ H Q I h
  exact isTrue_not (ha pins s σ H (fun c H1 => Q (!c) H1) I h)
def tAndV (ta tb : TE) : TE := fun σ H Q => ta σ H fun x H1 => ∃ c, x = .bl c ∧ if c = true then tb σ H1 Q else Q (.bl false) H1
def tOrV (ta tb : TE) : TE := fun σ H Q => ta σ H fun x H1 => ∃ c, x = .bl c ∧ if c = true then Q (.bl true) H1 else tb σ H1 Q
theorem pe_one {op} {t : TE} (h : PE X a t) : PE X (.BoolOp op [a] pos) t := fun pins s σ H Q I hw => BoolOp_one (h pins s σ H Q I hw)
theorem pe_and (ha : PE X a ta) (hb : PE X (.BoolOp .And (b :: rest) pos) tb) : PE X (.BoolOp .And (a :: b :: rest) pos) (tAndV ta tb) := by
  intro pins s σ H Q I h
  refine BoolOp_and (thn (ha pins s σ H _ I h) fun v s1 ⟨x, H1, I1, r1, q1⟩ => ?_)
  obtain ⟨c, rfl, q1⟩ := q1
  cases r1
  refine wpAny_truthy_bool ?_
  cases c with
  | true => exact hb pins s1 σ H1 Q I1 q1
  | false => exact ⟨.bl false, H1, I1, rfl, q1⟩
theorem pe_or (ha : PE X a ta) (hb : PE X (.BoolOp .Or (b :: rest) pos) tb) : PE X (.BoolOp .Or (a :: b :: rest) pos) (tOrV ta tb) := by
  intro pins s σ H Q I h
  refine BoolOp_or (thn (ha pins s σ H _ I h) fun v s1 ⟨x, H1, I1, r1, q1⟩ => ?_)
  obtain ⟨c, rfl, q1⟩ := q1
  cases r1
  refine wpAny_truthy_bool ?_
  cases c with
  | false => exact hb pins s1 σ H1 Q I1 q1
  | true => exact ⟨.bl true, H1, I1, rfl, q1⟩
def tIf (t : TT) (ta tb : TE) : TE := fun σ H Q => t σ H fun c H1 => if c = true then ta σ H1 Q else tb σ H1 Q
theorem pe_ifExp {c : Expr} (hc : PT X c tA) (ha : PE X a ta) (hb : PE X b tb) : PE X (.IfExp c a b pos) (tIf tA ta tb) := by
  intro pins s σ H Q I h
  refine wpAny_IfExp (thn (hc pins s σ H _ I h) fun d s1 ⟨H1, I1, q1⟩ => ?_)
  cases d with
  | true => exact ha pins s1 σ H1 Q I1 q1
  | false => exact hb pins s1 σ H1 Q I1 q1
end
end L2
namespace L2
open PySem PySem.Spec PyProof.Rows
def SqL (K : PySem.W.Frag) (H : Hp) (a : Addr) (xs : List V) : Prop :=
  Rd H a (.lst xs) ∨
    ∃ (o : Obj) (its : Array Value) (n : Nat), K.lookup a = some o ∧ o.cls = .type "list" ∧ (o.dict = none ∧ o.slots = #[]) ∧ o.data = .seq its n ∧ its.size ≤ sizeLine ∧ Vals xs its.toList
def SqT (K : PySem.W.Frag) (H : Hp) (a : Addr) (xs : List V) : Prop :=
  Rd H a (.tup xs) ∨
    ∃ (o : Obj) (its : Array Value) (n : Nat), K.lookup a = some o ∧ o.cls = .type "tuple" ∧ o.data = .seq its n ∧ its.size ≤ sizeLine ∧ Vals xs its.toList
def absV : Value → Option V
  | .none => some .non
  | .bool b => some (.bl b)
  | .int i _ => some (.int i)
  | .str x _ => some (.str x)
  | .bytes b _ => some (.byt b)
  | .float b _ => some (.flt b)
  | .ref a => some (.ref a)
  | .type n => some (.ty n)
  | _ => none
theorem RelV.abs {x : V} {u : Value} (r : RelV x u) : absV u = some x := by
  cases x with
  | non => cases r; rfl
  | bl _ => cases r; rfl
  | int _ => obtain ⟨t, rfl⟩ := r; rfl
  | str _ => obtain ⟨t, rfl⟩ := r; rfl
  | byt _ => obtain ⟨t, rfl⟩ := r; rfl
  | flt _ => obtain ⟨t, rfl⟩ := r; rfl
  | ref _ => cases r; rfl
  | ty _ => cases r; rfl
theorem RelV.inj {x y : V} {u : Value} (r : RelV x u) (q : RelV y u) : x = y := Option.some.inj (r.abs.symm.trans q.abs)
theorem Vals.inj : ∀ {xs ys : List V} {us : List Value}, Vals xs us → Vals ys us → xs = ys
  | _, _, _, .nil, .nil => rfl
  | _, _, _, .cons r t, .cons r' t' => by rw [r.inj r', Vals.inj t t']
section
variable {X : Cx} {pins : List (Addr × Obj)} {σ : St} {H : Hp} {s : Shared} {a : Addr} {xs ys : List V}
theorem SqL.of {K : PySem.W.Frag} (h : H a = some (.lst xs)) : SqL K H a xs := .inl (.inl h)
theorem SqT.of {K : PySem.W.Frag} (h : H a = some (.tup xs)) : SqT K H a xs := .inl (.inl h)
theorem Inv.list (I : Inv X pins σ H s) (h : SqL X.K H a xs) : ∃ its : List Value, Vals xs its ∧ PlainL s.heap a its.toArray ∧ xs.length ≤ sizeLine := by
  rcases h with h | ⟨o, its, n, hk, hc, hd, hs, hz, r⟩
  · obtain ⟨z, its, n, r, e⟩ := h.ok I.hok
    exact ⟨its, r, ⟨_, n, e, rfl, rfl, rfl⟩, z⟩
  · refine ⟨its.toList, r, ⟨o, n, I.kIn a o hk, hc, hd.1, by simpa using hs⟩, ?_⟩
    have e := r.length
    simp only [Array.length_toList] at e
    omega
theorem Inv.tuple (I : Inv X pins σ H s) (h : SqT X.K H a xs) : ∃ its : List Value, Vals xs its ∧ IsTup s.heap a its.toArray ∧ xs.length ≤ sizeLine := by
  rcases h with h | ⟨o, its, n, hk, hc, hs, hz, r⟩
  · obtain ⟨z, its, r, p⟩ := h.ok I.hok
    exact ⟨its, r, p, z⟩
  · refine ⟨its.toList, r, ⟨o, I.kIn a o hk, hc, n, by simpa using hs⟩, ?_⟩
    have e := r.length
    simp only [Array.length_toList] at e
    omega
theorem Inv.list_inj (I : Inv X pins σ H s) (h : SqL X.K H a xs) (h' : SqL X.K H a ys) : xs = ys := by
  obtain ⟨its, r, ⟨o, n, e, _, _, d⟩, _⟩ := I.list h
  obtain ⟨its', r', ⟨o', n', e', _, _, d'⟩, _⟩ := I.list h'
  rw [e] at e'; cases e'
  rw [d] at d'
  injection d' with d1 _
  have : its = its' := by simpa using congrArg Array.toList d1
  subst this
  exact r.inj r'
theorem Inv.tuple_inj (I : Inv X pins σ H s) (h : SqT X.K H a xs) (h' : SqT X.K H a ys) : xs = ys := by
  obtain ⟨its, r, ⟨o, e, _, n, d⟩, _⟩ := I.tuple h
  obtain ⟨its', r', ⟨o', e', _, n', d'⟩, _⟩ := I.tuple h'
  rw [e] at e'; cases e'
  rw [d] at d'
  injection d' with d1 _
  have : its = its' := by simpa using congrArg Array.toList d1
  subst this
  exact r.inj r'
end
abbrev Cx.wish (X : Cx) (E : Value → Shared → Prop) : Cx := { X with xe := E }
abbrev Cx.nox (X : Cx) : Cx := X.wish fun _ _ => False
theorem Cx.Ok.wish {X : Cx} (ok : X.Ok) (E : Value → Shared → Prop) : (X.wish E).Ok :=
  ⟨ok.mod, ok.kind, ok.glob, ok.blt, ok.above, ok.inj, ok.has, ok.cab, ok.hd, ok.frames, ok.stk, ok.exf, ok.bs, ok.bsz, ok.noex, ok.exfs, ok.funs, ok.frf⟩
theorem Cx.Ok.unwish {X : Cx} {E : Value → Shared → Prop} (ok : (X.wish E).Ok) : X.Ok :=
  ⟨ok.mod, ok.kind, ok.glob, ok.blt, ok.above, ok.inj, ok.has, ok.cab, ok.hd, ok.frames, ok.stk, ok.exf, ok.bs, ok.bsz, ok.noex, ok.exfs, ok.funs, ok.frf⟩
section
variable {X : Cx} {pins : List (Addr × Obj)} {σ : St} {H : Hp} {s : Shared} {E : Value → Shared → Prop}
theorem Inv.wish (I : Inv X pins σ H s) (E : Value → Shared → Prop) : Inv (X.wish E) pins σ H s := ⟨I.ok.wish E, I.os, I.bare, I.base, I.loc, I.cell, I.free, I.freeC, I.pin, I.hok, I.len, I.sgm⟩
theorem Inv.unwish (I : Inv (X.wish E) pins σ H s) : Inv X pins σ H s := ⟨I.ok.unwish, I.os, I.bare, I.base, I.loc, I.cell, I.free, I.freeC, I.pin, I.hok, I.len, I.sgm⟩
theorem SP.unwish {D : Ends} {f : Flow} {s' : Shared} (h : SP (X.wish E) pins D f s') : SP X pins D f s' := by
  cases f with
  | next => obtain ⟨σ', H', I, q⟩ := h; exact ⟨σ', H', I.unwish, q⟩
  | brk => obtain ⟨σ', H', I, q⟩ := h; exact ⟨σ', H', I.unwish, q⟩
  | cont => obtain ⟨σ', H', I, q⟩ := h; exact ⟨σ', H', I.unwish, q⟩
  | ret u => obtain ⟨v, σ', H', I, r, q⟩ := h; exact ⟨v, σ', H', I.unwish, r, q⟩
theorem PE.nox {e : Expr} {t : TE} (h : PE X.nox e t) : PE X e t := fun pins s σ H Q I hw =>
  wpAny_mono (h pins s σ H Q (I.wish _) hw) (fun _ _ ⟨v, H', I', r, q⟩ => ⟨v, H', I'.unwish, r, q⟩) fun _ _ z => False.elim z
theorem PT.nox {e : Expr} {t : TT} (h : PT X.nox e t) : PT X e t := fun pins s σ H Q I hw =>
  wpAny_mono (h pins s σ H Q (I.wish _) hw) (fun _ _ ⟨H', I', q⟩ => ⟨H', I'.unwish, q⟩) fun _ _ z => False.elim z
theorem PSs.nox {st : List Stmt} {t : TS} (h : PSs X.nox st t) : PSs X st t := fun pins s σ H D I hw =>
  wpAny_mono (h pins s σ H D (I.wish _) hw) (fun _ _ q => q.unwish) fun _ _ z => False.elim z
end
section
variable {X : Cx} {st : Stmt} {rest : List Stmt} {t u : TS} {e : Expr} {te : TE} {pos : Pos}
def tNext : TS := fun D σ H => D.nx σ H
def tSeq (t u : TS) : TS := fun D σ H => t { D with nx := u D } σ H
theorem pss_nil : PSs X [] tNext := fun _ _ σ H _ I h => wpAny_execs_nil ⟨σ, H, I, h⟩
theorem pss_cons (h1 : PS X st t) (h2 : PSs X rest u) : PSs X (st :: rest) (tSeq t u) := by
  intro pins s σ H D I h
  refine wpAny_execs_cons (thn (h1 pins s σ H { D with nx := u D } I h) fun f s1 q => ?_)
  cases f with
  | next =>
    obtain ⟨σ', H', I', q⟩ := q
    exact h2 pins s1 σ' H' D I' q
  | ret v => exact q
  | brk => exact q
  | cont => exact q
theorem pss_one (h1 : PS X st t) : PSs X [st] t := by
  intro pins s σ H D I h
  refine wpAny_execs_cons (thn (h1 pins s σ H D I h) fun f s1 q => ?_)
  cases f with
  | next => exact wpAny_execs_nil q
  | ret v => exact q
  | brk => exact q
  | cont => exact q
theorem Inv.quiet {pins : List (Addr × Obj)} {σ : St} {H : Hp} {s : Shared} (I : Inv X pins σ H s) : interactive X.env = false := by simp [interactive, I.ok.kind]
def tDrop (te : TE) : TS := fun D σ H => te σ H fun _ H1 => D.nx σ H1
theorem ps_expr (he : PE X e te) (hs : swapsWith e none pos.line X.env = pure false := by rfl) : PS X (.Expr e pos) (tDrop te) := by
  intro pins s σ H D I h
  exact wpAny_Expr_any (thn (he pins s σ H _ I h) fun v s1 ⟨x, H1, I1, r1, q1⟩ => ⟨σ, H1, I1, q1⟩) I.quiet hs
def tIfS (c : TT) (t u : TS) : TS := fun D σ H => c σ H fun b H1 => if b = true then t D σ H1 else u D σ H1
theorem ps_if {c : Expr} {a b : List Stmt} {tc : TT} (hc : PT X c tc) (ha : PSs X a t) (hb : PSs X b u) : PS X (.If c a b pos) (tIfS tc t u) := by
  intro pins s σ H D I h
  refine wpAny_If (thn (hc pins s σ H _ I h) fun d s1 ⟨H1, I1, q1⟩ => ?_)
  cases d with
  | true => exact ha pins s1 σ H1 D I1 q1
  | false => exact hb pins s1 σ H1 D I1 q1
end
abbrev TG := V → St → Hp → (St → Hp → Prop) → Prop
abbrev TGs := List V → St → Hp → (St → Hp → Prop) → Prop
def PG (X : Cx) (target : Expr) (t : TG) : Prop :=
  ∀ (pins : List (Addr × Obj)) (s : Shared) (σ : St) (H : Hp) (v : V) (u : Value) (Q : St → Hp → Prop), Inv X pins σ H s → RelV v u → t v σ H Q →
    wpAny (model X.prog X.w) X.A (assign target X.env u) (fun _ s' => ∃ σ' H', Inv X pins σ' H' s' ∧ Q σ' H') X.xe s
def PGs (X : Cx) (ts : List Expr) (t : TGs) : Prop :=
  ∀ (pins : List (Addr × Obj)) (s : Shared) (σ : St) (H : Hp) (vs : List V) (us : List Value) (Q : St → Hp → Prop), Inv X pins σ H s → Vals vs us → t vs σ H Q →
    wpAny (model X.prog X.w) X.A (assignInOrder ((assignEach ts X.env).map (·.2)) us) (fun _ s' => ∃ σ' H', Inv X pins σ' H' s' ∧ Q σ' H') X.xe s
abbrev TSet := V → V → V → Hp → (Hp → Prop) → Prop
def PSet (X : Cx) (t : TSet) : Prop :=
  ∀ (pins : List (Addr × Obj)) (s : Shared) (σ : St) (H : Hp) (o i v : V) (ov iv u : Value) (Q : Hp → Prop), Inv X pins σ H s → RelV o ov → RelV i iv → RelV v u → t o i v H Q →
    wpAny (model X.prog X.w) X.A (setItem ov iv u) (fun _ s' => ∃ H', Inv X pins σ H' s' ∧ Q H') X.xe s
abbrev TIp := V → V → Hp → VK → Prop
def PIp (X : Cx) (op : Operator) (t : TIp) : Prop :=
  ∀ (pins : List (Addr × Obj)) (s : Shared) (σ : St) (H : Hp) (x y : V) (v u : Value) (Q : VK), Inv X pins σ H s → RelV x v → RelV y u → t x y H Q →
    wpAny (model X.prog X.w) X.A (inplaceOp op v u) (EP X pins σ Q) X.xe s
section
variable {X : Cx} {pos : Pos}
def gName (i : Nat) : TG := fun v σ H Q => Q (σ.set i (some v)) H
theorem pg_name {i : Nat} {x : Str} (hN : X.N.Nodup) (hi : X.N[i]? = some x) (hx : Loc X.env.scope x) (hf : X.fn x = true ∨ X.env.scope.names.lookup x = some .local := by first | exact .inl rfl | exact .inr rfl | assumption) (hsg : ∀ p σ v, X.sg p σ → X.sg p (σ.set i (some v)) := by first | exact fun _ _ _ _ => trivial | assumption) : PG X (.Name x pos) (gName i) := by
  intro pins s σ H v u Q I r h
  exact wpAny_assign_Name (store_ok I hN hi hx r (fun s' I' => ⟨_, H, I', h⟩) hf)
def gNil : TGs := fun vs σ H Q => vs = [] ∧ Q σ H
def gCons (t : TG) (u : TGs) : TGs := fun vs σ H Q => ∃ v r, vs = v :: r ∧ t v σ H fun σ' H' => u r σ' H' Q
theorem pgs_nil : PGs X [] gNil := by
  intro pins s σ H vs us Q I r h
  obtain ⟨e, h⟩ := h
  subst e
  cases r
  exact assignInOrder_nil ⟨σ, H, I, h⟩
theorem pgs_cons {e : Expr} {es : List Expr} {t : TG} {u : TGs} (h1 : PG X e t) (h2 : PGs X es u)
    (hs : (assignEach (e :: es) X.env).map (·.2) = assign e X.env :: (assignEach es X.env).map (·.2) := by rfl) : PGs X (e :: es) (gCons t u) := by
  intro pins s σ H vs us Q I r h
  obtain ⟨v, vr, e1, h⟩ := h
  subst e1
  cases r with
  | cons r rr =>
    rw [hs]
    refine assignInOrder_cons (thn (h1 pins s σ H _ _ _ I r h) fun _ s1 ⟨σ1, H1, I1, q1⟩ => ?_)
    exact h2 pins s1 σ1 H1 _ _ Q I1 rr q1
def gTup (K : PySem.W.Frag) (n : Nat) (t : TGs) : TG := fun v σ H Q => ∃ a xs, v = .ref a ∧ SqT K H a xs ∧ xs.length = n ∧ t xs σ H Q
theorem pg_tup {es : List Expr} {k : Nat} {t : TGs} {n : Nat} (hc : X.calm = true) (h : PGs X es t)
    (hn : (assignEach es X.env).length = n := by rfl) (hst : (assignEach es X.env).findIdx? (·.1) = none := by rfl) : PG X (.Tuple es k pos) (gTup X.K n t) := by
  intro pins s σ H v u Q I r hw
  obtain ⟨a, xs, e1, hq, hl, hw⟩ := hw
  subst e1
  cases r
  obtain ⟨its, rv, ht, hz⟩ := I.tuple hq
  refine assign_Tuple_tuple (I.ok.hd hc) ht (by simp [hn, ← hl, rv.length]) hst fun h' hx => ?_
  have I1 : Inv X pins σ H { s with heap := h' } := I.kept (t' := s.toks) fun b o e => hx b o (Nat.ne_of_lt (Heap.lt_size e)) e
  exact h pins _ σ H xs _ Q I1 (by simpa using rv) hw
def gSub (to ti : TE) (t : TSet) : TG := fun v σ H Q => to σ H fun o H1 => ti σ H1 fun i H2 => t o i v H2 fun H3 => Q σ H3
theorem pg_sub {o i : Expr} {to ti : TE} {t : TSet} (ho : PE X o to) (hi : PE X i ti) (hs : PSet X t)
    (ha : ∀ v, assign (.Subscript o i pos) X.env v = (do
      let ov ← holding [v] (eval o X.env)
      let iv ← holding [v, ov] (eval i X.env)
      standAt pos
      holding [v, ov, iv] (setItem ov iv v)
      release [v, ov, iv] []) := by intro _; rfl) : PG X (.Subscript o i pos) (gSub to ti t) := by
  intro pins s σ H v u Q I r h
  rw [ha]
  refine wpAny_bind (wpAny_holding (thn (ho pins s σ H _ I h) fun ov s1 ⟨x, H1, I1, r1, q1⟩ => ?_))
  refine wpAny_bind (wpAny_holding (thn (hi pins s1 σ H1 _ I1 q1) fun iv s2 ⟨y, H2, I2, r2, q2⟩ => ?_))
  refine wpAny_bind (wpAny_standAt (wpAny_bind (wpAny_holding (thn (hs pins s2 σ H2 x y v ov iv u _ I2 r1 r2 r q2) fun _ s3 ⟨H3, I3, q3⟩ => ?_))))
  exact wpAny_release ⟨σ, H3, I3, q3⟩
def tAsg (te : TE) (g : TG) : TS := fun D σ H => te σ H fun x H1 => g x σ H1 D.nx
theorem ps_set {i : Nat} {x : Str} {e : Expr} {te : TE} {pos' : Pos} (hN : X.N.Nodup) (hi : X.N[i]? = some x) (hx : Loc X.env.scope x) (he : PE X e te) (hs : swapsWith e (some (.Name x pos')) pos.line X.env = pure false := by rfl) (hf : X.fn x = true ∨ X.env.scope.names.lookup x = some .local := by first | exact .inl rfl | exact .inr rfl | assumption) (hsg : ∀ p σ v, X.sg p σ → X.sg p (σ.set i (some v)) := by first | exact fun _ _ _ _ => trivial | assumption) :
    PS X (.Assign [.Name x pos'] e pos) (tAsg te (gName i)) := by
  intro pins s σ H D I h
  refine wpAny_Assign_Name (thn (he pins s σ H _ I h) fun v s1 ⟨y, H1, I1, r1, q1⟩ => ?_) hs
  exact store_ok I1 hN hi hx r1 (fun s2 I2 => ⟨_, H1, I2, q1⟩) hf
def ipI (f : Int → Int → Int) : TIp := fun x y H Q => ∃ i j, x = .int i ∧ y = .int j ∧ Q (.int (f i j)) H
theorem ip_add : PIp X .Add (ipI fun i j => i + j) := by
  intro pins s σ H x y v u Q I r1 r2 h
  obtain ⟨i, j, e1, e2, q⟩ := h
  subst e1; subst e2
  obtain ⟨t, rfl⟩ := r1
  obtain ⟨t', rfl⟩ := r2
  exact iadd_int ⟨.int _, H, I.tok _, ⟨_, rfl⟩, q⟩
theorem ip_sub : PIp X .Sub (ipI fun i j => i - j) := by
  intro pins s σ H x y v u Q I r1 r2 h
  obtain ⟨i, j, e1, e2, q⟩ := h
  subst e1; subst e2
  obtain ⟨t, rfl⟩ := r1
  obtain ⟨t', rfl⟩ := r2
  exact isub_int ⟨.int _, H, I.tok _, ⟨_, rfl⟩, q⟩
end
section
variable {X : Cx} {pos : Pos}
end
structure It where
  go : Nat → Hp → Prop
  yld : Nat → Hp → V → Hp → Prop
  stop : Nat → Hp → Prop
def FpOk (X : Cx) (pins : List (Addr × Obj)) (H : Hp) (b : Addr) : Prop :=
  H b = none ∧ b ≠ X.env.locals ∧ b ∉ X.fs ∧ (b ∈ X.ex ∨ X.s₀.heap.objs.size ≤ b) ∧ (∀ x c, X.env.cells.lookup x = some c → c ≠ b) ∧ ∀ p ∈ X.pn ++ pins, p.1 ≠ b
theorem Inv.fpOk {X : Cx} {pins : List (Addr × Obj)} {σ : St} {H H' : Hp} {s : Shared} {b : Addr} (I : Inv X pins σ H s) (hb : s.heap.objs.size ≤ b) (hn : H' b = none) : FpOk X pins H' b := by
  refine ⟨hn, Nat.ne_of_gt (Nat.lt_of_lt_of_le I.lt hb), I.nofs hb, .inr (Nat.le_trans I.sz hb), fun x c e z => ?_, fun p hp z => ?_⟩
  · obtain ⟨v, q⟩ := I.cell x c e
    exact absurd (Nat.lt_of_lt_of_le q.lt (by rw [z]; exact hb)) (Nat.lt_irrefl _)
  · exact absurd (Nat.lt_of_lt_of_le (Heap.lt_size (I.pin p hp).1) (by rw [z]; exact hb)) (Nat.lt_irrefl _)
structure Turn (P : Program) (w : World) (K : PySem.W.Frag) (tg : Expr) (J : It) (fp : List Addr) (it : Addr) (tn : Nat → Heap → Prop) : Prop where
  mem : it ∈ fp
  obj : ∀ i h, tn i h → ∀ b ∈ fp, ∃ o, h.get? b = some o ∧ ∀ v, o.data ≠ .cell v
  keep : ∀ i h h', tn i h → (∀ b ∈ fp, ∀ o, h.get? b = some o → h'.get? b = some o) → tn i h'
  item : ∀ (X : Cx), X.prog = P → X.w = w → X.K = K → X.calm = true → ∀ (i : Nat) (pins : List (Addr × Obj)) (s : Shared) (σ : St) (H : Hp) (E : Value → Shared → Prop), Inv X pins σ H s → (∀ b ∈ fp, FpOk X pins H b) → tn i s.heap → J.go i H →
    wpAny (model P w) X.A (pyNext (.ref it)) (fun r s1 => ∃ u, r = some u ∧
      wpAny (model P w) X.A (letOwnedTupleGo tg (.ref it) u) (fun _ s2 => ∃ x H', Inv X pins σ H' s2 ∧ RelV x u ∧ J.yld i H x H' ∧ tn (i + 1) s2.heap ∧ ∀ b ∈ fp, H' b = none) E s1) E s
  done : ∀ (X : Cx), X.prog = P → X.w = w → X.K = K → X.calm = true → ∀ (i : Nat) (pins : List (Addr × Obj)) (s : Shared) (σ : St) (H : Hp) (E : Value → Shared → Prop), Inv X pins σ H s → (∀ b ∈ fp, FpOk X pins H b) → tn i s.heap → J.stop i H →
    wpAny (model P w) X.A (pyNext (.ref it)) (fun r s1 => r = none ∧ Inv X pins σ H s1) E s
  self : ∀ (A : Around) (i : Nat) (s : Shared) (Q : Value → Shared → Prop) (E : Value → Shared → Prop), tn i s.heap → Q (.ref it) s → wpAny (model P w) A (pyIter (.ref it)) Q E s
abbrev TI := St → Hp → (It → Hp → Prop) → Prop
def PIE (X : Cx) (pins : List (Addr × Obj)) (σ : St) (tg : Expr) (R : It → Hp → Prop) (itv : Value) (s2 : Shared) : Prop :=
  ∃ (it : Addr) (fp : List Addr) (tn : Nat → Heap → Prop) (J : It) (H' : Hp), itv = .ref it ∧ Inv X pins σ H' s2 ∧ Turn X.prog X.w X.K tg J fp it tn ∧ tn 0 s2.heap ∧ (∀ b ∈ fp, FpOk X pins H' b) ∧ R J H'
def PI (X : Cx) (tg iter : Expr) (wi : TI) : Prop :=
  ∀ (pins : List (Addr × Obj)) (s : Shared) (σ : St) (H : Hp) (R : It → Hp → Prop), Inv X pins σ H s → wi σ H R →
    wpAny (model X.prog X.w) X.A (eval iter X.env) (fun v s1 => wpAny (model X.prog X.w) X.A (pyIter v) (PIE X pins σ tg R) X.xe s1) X.xe s
theorem go_of {M : Model} {A : Around} {E : Value → Shared → Prop} {s : Shared} {tg : Expr} {it : Addr} {u : Value} {o : Obj} {n : String} {vs : Array Value} {Q : Unit → Shared → Prop} (ho : s.heap.get? it = some o) (hc : o.cls = .type n) (hd : o.data = .fields vs)
    (hn : ["enumerate", "zip", "dict_itemiterator", "dict_reverseitemiterator", "odict_iterator", "itertools.zip_longest", "itertools.pairwise"].contains n = false) (hQ : Q () s) : wpAny M A (letOwnedTupleGo tg (.ref it) u) Q E s := by
  unfold letOwnedTupleGo
  cases tg <;> first
    | exact wpAny_pure hQ
    | (cases u <;> first
        | exact wpAny_pure hQ
        | (refine wpAny_bind (wpAny_load ho ?_)
           rw [hc, hd]
           show wpAny M A (if (["enumerate", "zip", "dict_itemiterator", "dict_reverseitemiterator", "odict_iterator", "itertools.zip_longest", "itertools.pairwise"].contains n && vs[0]? == some (rawInt _)) = true then _ else _) Q E s
           rw [if_neg (by intro h; rw [hn, Bool.false_and] at h; cases h)]
           exact wpAny_pure hQ))
def Itl (K : PySem.W.Frag) (a : Addr) : It :=
  ⟨fun i H => ∃ xs x, SqL K H a xs ∧ xs[i]? = some x, fun i H x H' => H' = H ∧ ∀ xs, SqL K H a xs → xs[i]? = some x, fun i H => ∃ xs, SqL K H a xs ∧ xs.length ≤ i⟩
def Itt (K : PySem.W.Frag) (a : Addr) : It :=
  ⟨fun i H => ∃ xs x, SqT K H a xs ∧ xs[i]? = some x, fun i H x H' => H' = H ∧ ∀ xs, SqT K H a xs → xs[i]? = some x, fun i H => ∃ xs, SqT K H a xs ∧ xs.length ≤ i⟩
def Itr (lo : Int) (n : Nat) : It := ⟨fun i _ => i < n, fun i H x H' => H' = H ∧ x = .int (lo + i), fun i _ => n ≤ i⟩
theorem turn_list {P : Program} {w : World} {K : PySem.W.Frag} {tg : Expr} (a it : Addr) : Turn P w K tg (Itl K a) [it] it (fun i h => h.IsListIter it a i) where
  mem := by simp
  obj := fun i h st b hb => by
    have e : b = it := by simpa using hb
    subst e
    obtain ⟨o, e, c, d⟩ := st
    exact ⟨o, e, fun v z => by rw [d] at z; cases z⟩
  keep := fun i h h' st k => st.at fun o e => k it (by simp) o e
  item := by
    intro X hP hw hK hc i pins s σ H E I hf st hg
    subst hP hw hK
    obtain ⟨xs, x, hq, hx⟩ := hg
    obtain ⟨its, rv, p, hz⟩ := I.list hq
    obtain ⟨u, hu, ru⟩ := rv.get hx
    obtain ⟨f0, f1, f2, f3, f4, f5⟩ := hf it (by simp)
    refine wpAny_pyNext_list_item st p.isList (x := u) (by simpa using hu) fun h' st' sb => ?_
    have I1 : Inv X pins σ H { s with heap := h' } := I.turned (t' := s.toks) (fun b o hb e => (sb.2 b hb).trans e) f0 f1 f3 f4 f5
    obtain ⟨o, e, c, d⟩ := id st'
    exact ⟨u, rfl, go_of (s := { s with heap := h' }) e c d (by decide) ⟨x, H, I1, ru, ⟨rfl, fun ys hy => by rw [I.list_inj hy hq]; exact hx⟩, st', fun b hb => (hf b hb).1⟩⟩
  done := by
    intro X hP hw hK hc i pins s σ H E I hf st hg
    subst hP hw hK
    obtain ⟨xs, hq, hx⟩ := hg
    obtain ⟨its, rv, p, hz⟩ := I.list hq
    obtain ⟨f0, f1, f2, f3, f4, f5⟩ := hf it (by simp)
    have hl := rv.length
    exact wpAny_pyNext_list_end (I.ok.hd hc) st p.isList (by simp; omega) fun h' eb => ⟨rfl, I.turned (t' := s.toks) (fun b o hb e => eb b o hb e) f0 f1 f3 f4 f5⟩
  self := fun _ _ _ _ _ st h => wpAny_pyIter_listiter st h
theorem turn_tuple {P : Program} {w : World} {K : PySem.W.Frag} {tg : Expr} (a it : Addr) : Turn P w K tg (Itt K a) [it] it (fun i h => h.IsTupleIter it a i) where
  mem := by simp
  obj := fun i h st b hb => by
    have e : b = it := by simpa using hb
    subst e
    obtain ⟨o, e, c, d⟩ := st
    exact ⟨o, e, fun v z => by rw [d] at z; cases z⟩
  keep := fun i h h' st k => st.at fun o e => k it (by simp) o e
  item := by
    intro X hP hw hK hc i pins s σ H E I hf st hg
    subst hP hw hK
    obtain ⟨xs, x, hq, hx⟩ := hg
    obtain ⟨its, rv, p, hz⟩ := I.tuple hq
    obtain ⟨u, hu, ru⟩ := rv.get hx
    obtain ⟨f0, f1, f2, f3, f4, f5⟩ := hf it (by simp)
    refine wpAny_pyNext_tuple_item st (show s.heap.IsTuple a its.toArray from p) (x := u) (by simpa using hu) fun h' st' sb => ?_
    have I1 : Inv X pins σ H { s with heap := h' } := I.turned (t' := s.toks) (fun b o hb e => (sb.2 b hb).trans e) f0 f1 f3 f4 f5
    obtain ⟨o, e, c, d⟩ := id st'
    exact ⟨u, rfl, go_of (s := { s with heap := h' }) e c d (by decide) ⟨x, H, I1, ru, ⟨rfl, fun ys hy => by rw [I.tuple_inj hy hq]; exact hx⟩, st', fun b hb => (hf b hb).1⟩⟩
  done := by
    intro X hP hw hK hc i pins s σ H E I hf st hg
    subst hP hw hK
    obtain ⟨xs, hq, hx⟩ := hg
    obtain ⟨its, rv, p, hz⟩ := I.tuple hq
    obtain ⟨f0, f1, f2, f3, f4, f5⟩ := hf it (by simp)
    have hl := rv.length
    exact wpAny_pyNext_tuple_end (I.ok.hd hc) st (show s.heap.IsTuple a its.toArray from p) (by simp; omega) fun h' eb => ⟨rfl, I.turned (t' := s.toks) (fun b o hb e => eb b o hb e) f0 f1 f3 f4 f5⟩
  self := fun _ _ _ _ _ st h => wpAny_pyIter_tupleiter st h
theorem turn_range {P : Program} {w : World} {K : PySem.W.Frag} {tg : Expr} (it : Addr) (lo : Int) (n : Nat) : Turn P w K tg (Itr lo n) [it] it (fun i h => IsRangeIter h it (lo + (i : Nat) * 1) ((n : Int) - (i : Nat)) 1) where
  mem := by simp
  obj := fun i h st b hb => by
    have e : b = it := by simpa using hb
    subst e
    exact ⟨_, st, fun v z => by
      have z' : Data.fields _ = Data.cell v := z
      cases z'⟩
  keep := fun i h h' st k => k it (by simp) _ st
  item := by
    intro X hP hw hK hc i pins s σ H E I hf st hg
    subst hP hw hK
    obtain ⟨f0, f1, f2, f3, f4, f5⟩ := hf it (by simp)
    have W := Walks.range (prog := X.prog) (w := X.w) (I.ok.hd hc) it lo 1 n
    refine W.item i s _ _ hg st fun v h' tk hv st' kk => ?_
    obtain ⟨t, rfl⟩ := hv
    have I1 : Inv X pins σ H { s with heap := h', toks := tk } := I.turned (fun b o hb e => kk b o (by simpa using hb) e) f0 f1 f3 f4 f5
    refine ⟨_, rfl, go_of (s := { s with heap := h', toks := tk }) (n := "range_iterator") st' rfl rfl (by decide) ⟨.int (lo + i), H, I1, ⟨t, ?_⟩, ⟨rfl, rfl⟩, st', fun b hb => (hf b hb).1⟩⟩
    rw [Int.mul_one]
  done := by
    intro X hP hw hK hc i pins s σ H E I hf st hg
    subst hP hw hK
    obtain ⟨f0, f1, f2, f3, f4, f5⟩ := hf it (by simp)
    exact wpAny_pyNext_range_end (I.ok.hd hc) st (by have : n ≤ i := hg; omega) fun h' eb => ⟨rfl, I.turned (t' := s.toks) (fun b o hb e => eb b o hb e) f0 f1 f3 f4 f5⟩
  self := fun _ _ _ _ _ st h => wpAny_pyIter_rangeiter st h
end L2
namespace L2
open PySem PySem.Spec PyProof.Rows
section
variable {X : Cx} {tg : Expr}
def iList (K : PySem.W.Frag) (tl : TE) : TI := fun σ H R => tl σ H fun x H1 => ∃ a, x = .ref a ∧ (∃ xs, SqL K H1 a xs) ∧ R (Itl K a) H1
def iTup (K : PySem.W.Frag) (tl : TE) : TI := fun σ H R => tl σ H fun x H1 => ∃ a, x = .ref a ∧ (∃ xs, SqT K H1 a xs) ∧ R (Itt K a) H1
theorem pi_list {l : Expr} {tl : TE} (hl : PE X l tl) : PI X tg l (iList X.K tl) := by
  intro pins s σ H R I h
  refine thn (hl pins s σ H _ I h) fun v s1 ⟨x, H1, I1, r1, q1⟩ => ?_
  obtain ⟨a, e, ⟨xs, hq⟩, q⟩ := q1
  subst e
  cases r1
  obtain ⟨its, rv, p, hz⟩ := I1.list hq
  refine wpAny_pyIter_list p.isList ?_
  refine ⟨s1.heap.objs.size, [s1.heap.objs.size], _, _, H1, rfl, I1.kept (t' := s1.toks) fun b o e => Heap.get?_push_of_some _ e, turn_list a _, ⟨_, Heap.get?_push_size _ rfl, rfl, rfl⟩, fun b hb => ?_, q⟩
  have e : b = s1.heap.objs.size := by simpa using hb
  subst e
  exact I1.fpOk (Nat.le_refl _) (I1.hok.fresh (Nat.le_refl _))
theorem pi_tup {l : Expr} {tl : TE} (hl : PE X l tl) : PI X tg l (iTup X.K tl) := by
  intro pins s σ H R I h
  refine thn (hl pins s σ H _ I h) fun v s1 ⟨x, H1, I1, r1, q1⟩ => ?_
  obtain ⟨a, e, ⟨xs, hq⟩, q⟩ := q1
  subst e
  cases r1
  obtain ⟨its, rv, p, hz⟩ := I1.tuple hq
  refine wpAny_pyIter_tuple (show s1.heap.IsTuple a its.toArray from p) ?_
  refine ⟨s1.heap.objs.size, [s1.heap.objs.size], _, _, H1, rfl, I1.kept (t' := s1.toks) fun b o e => Heap.get?_push_of_some _ e, turn_tuple a _, ⟨_, Heap.get?_push_size _ rfl, rfl, rfl⟩, fun b hb => ?_, q⟩
  have e : b = s1.heap.objs.size := by simpa using hb
  subst e
  exact I1.fpOk (Nat.le_refl _) (I1.hok.fresh (Nat.le_refl _))
theorem range_it {pins : List (Addr × Obj)} {σ : St} {H : Hp} {s : Shared} {R : It → Hp → Prop} {E : Value → Shared → Prop} {lo hi : Int} {t u v : Tok} {tk : Nat} (I : Inv X pins σ H s) (h1 : -(2 ^ 62) ≤ lo) (h2 : lo < 2 ^ 62) (h3 : -(2 ^ 62) ≤ hi) (h4 : hi < 2 ^ 62)
    (q : R (Itr lo (hi - lo).toNat) H) : wpAny (model X.prog X.w) X.A (pyIter (.ref s.heap.objs.size)) (PIE X pins σ tg R) E { s with heap := s.heap.push { cls := .type "range", data := .fields #[.int lo t, .int hi u, .int 1 v] }, toks := tk } := by
  refine wpAny_pyIter_range (IsRange.new ..) (small_one h1 h2 h3 h4) ?_
  have I1 : Inv X pins σ H { s with heap := s.heap.push { cls := .type "range", data := .fields #[.int lo t, .int hi u, .int 1 v] }, toks := tk } := I.kept fun b o e => Heap.get?_push_of_some _ e
  refine ⟨(s.heap.push { cls := .type "range", data := .fields #[.int lo t, .int hi u, .int 1 v] }).objs.size, [(s.heap.push { cls := .type "range", data := .fields #[.int lo t, .int hi u, .int 1 v] }).objs.size], _, _, H, rfl,
    I1.kept (t' := tk) fun b o e => Heap.get?_push_of_some _ e, turn_range _ lo (hi - lo).toNat, ?_, fun b hb => ?_, q⟩
  · have e1 : lo + ((0 : Nat) : Int) * 1 = lo := by simp
    have e2 : (((hi - lo).toNat : Nat) : Int) - ((0 : Nat) : Int) = Builtin.Range.rangeSize lo hi 1 := by rw [rangeSize_one]; split <;> omega
    show IsRangeIter _ _ (lo + ((0 : Nat) : Int) * 1) ((((hi - lo).toNat : Nat) : Int) - ((0 : Nat) : Int)) 1
    rw [e1, e2]
    exact Heap.get?_push_size _ rfl
  · have e : b = (s.heap.push { cls := .type "range", data := .fields #[.int lo t, .int hi u, .int 1 v] }).objs.size := by simpa using hb
    subst e
    exact I1.fpOk (Nat.le_refl _) (I1.hok.fresh (Nat.le_refl _))
def iRng1 (ta : TA) : TI := fun σ H R => ta σ H fun vs H1 => ∃ j : Int, vs = [.int j] ∧ -(2 ^ 62) ≤ j ∧ j < 2 ^ 62 ∧ R (Itr 0 j.toNat) H1
def iRng2 (ta : TA) : TI := fun σ H R => ta σ H fun vs H1 => ∃ i j : Int, vs = [.int i, .int j] ∧ (-(2 ^ 62) ≤ i ∧ i < 2 ^ 62 ∧ -(2 ^ 62) ≤ j ∧ j < 2 ^ 62) ∧ R (Itr i (j - i).toNat) H1
theorem pi_range1 {a : Expr} {ta : TA} {p pos : Pos} (hg : Gl X "range") (hm : X.mg "range" = none) (ha : PA X [a] ta) (hs : starEach [a] X.env = [(false, eval a X.env)] := by rfl) : PI X tg (.Call (.Name "range" p) [a] [] pos) (iRng1 ta) := by
  intro pins s σ H R I h
  refine Call_ (ld_blt I hg hm boot_range (PyProof.Rows.callWith_type1 (thn (ha pos pins s σ H _ I h) fun us s1 ⟨vs, H1, I1, r1, q1⟩ => ?_) hs rfl))
  obtain ⟨j, e, q1, q2, q⟩ := q1
  subst e
  cases r1 with
  | cons r rr =>
    cases rr
    obtain ⟨t, rfl⟩ := r
    exact call_range_1 (range_it I1 (by omega) (by omega) q1 q2 (by simpa using q))
theorem pi_range2 {a b : Expr} {ta : TA} {p pos : Pos} (hg : Gl X "range") (hm : X.mg "range" = none) (ha : PA X [a, b] ta) (hs : starEach [a, b] X.env = [(false, eval a X.env), (false, eval b X.env)] := by rfl) (hs2 : starEach [b] X.env = [(false, eval b X.env)] := by rfl) :
    PI X tg (.Call (.Name "range" p) [a, b] [] pos) (iRng2 ta) := by
  intro pins s σ H R I h
  refine Call_ (ld_blt I hg hm boot_range (PyProof.Rows.callWith_type1 (thn (ha pos pins s σ H _ I h) fun us s1 ⟨vs, H1, I1, r1, q1⟩ => ?_) (by rw [hs, hs2]) (by rw [hs2]; rfl)))
  obtain ⟨i, j, e, ⟨q1, q2, q3, q4⟩, q⟩ := q1
  subst e
  cases r1 with
  | cons r rr =>
    cases rr with
    | cons r' rr =>
      cases rr
      obtain ⟨t, rfl⟩ := r
      obtain ⟨t', rfl⟩ := r'
      exact call_range_2 (range_it I1 q1 q2 q3 q4 q)
def tFor (wi : TI) (g : TG) (tb : TS) : TS := fun D σ H => wi σ H fun J H1 => ∃ W : Nat → Nat → St → Hp → Prop, (∃ m, W 0 m σ H1) ∧ ∀ i m σ H, W i m σ H →
  (J.stop i H ∧ D.nx σ H) ∨ (J.go i H ∧ ∃ N : St → Hp → Prop, (∀ σ' H', N σ' H' → ∃ m', m' < m ∧ W (i + 1) m' σ' H') ∧ ∀ x H', J.yld i H x H' → g x σ H' fun σ2 H2 => tb { D with nx := N, ct := N, bk := D.nx } σ2 H2)
def pinsAt (fp : List Addr) (h : Heap) : List (Addr × Obj) := fp.filterMap fun b => (h.get? b).map fun o => (b, o)
theorem mem_pinsAt {fp : List Addr} {h : Heap} {b : Addr} {o : Obj} (hb : b ∈ fp) (e : h.get? b = some o) : (b, o) ∈ pinsAt fp h := List.mem_filterMap.mpr ⟨b, hb, by rw [e]; rfl⟩
theorem of_pinsAt {fp : List Addr} {h : Heap} {p : Addr × Obj} (hp : p ∈ pinsAt fp h) : p.1 ∈ fp ∧ h.get? p.1 = some p.2 := by
  obtain ⟨b, hb, e⟩ := List.mem_filterMap.mp hp
  cases q : h.get? b with
  | none => rw [q] at e; cases e
  | some o =>
    rw [q] at e
    have e' : (b, o) = p := Option.some.inj e
    subst e'
    exact ⟨hb, q⟩
theorem Inv.pinned (hsgA : ∀ p σ, X.sg p σ) {pins : List (Addr × Obj)} {σ : St} {H : Hp} {s : Shared} {fp : List Addr} (I : Inv X pins σ H s) (hf : ∀ b ∈ fp, FpOk X pins H b) (ho : ∀ b ∈ fp, ∃ o, s.heap.get? b = some o ∧ ∀ v, o.data ≠ .cell v) : Inv X (pins ++ pinsAt fp s.heap) σ H s :=
  I.pins_of (hsg := hsgA _ _) fun p hp => (List.mem_append.mp hp).elim (fun z => I.pin p (List.mem_append_right _ z)) fun z => by
    obtain ⟨hb, e⟩ := of_pinsAt z
    obtain ⟨f0, f1, f2, _⟩ := hf p.1 hb
    obtain ⟨o, e', d⟩ := ho p.1 hb
    rw [e] at e'; cases e'
    exact ⟨e, f0, f1, f2, d⟩
theorem Inv.unpinned (hsgA : ∀ p σ, X.sg p σ) {pins pl : List (Addr × Obj)} {σ : St} {H : Hp} {s : Shared} (I : Inv X (pins ++ pl) σ H s) : Inv X pins σ H s := I.pins_of (hsg := hsgA _ _) fun p hp => I.pin p (List.mem_append_right _ (List.mem_append_left _ hp))
theorem ps_for (hsgA : ∀ p σ, X.sg p σ) {iter : Expr} {body : List Stmt} {wi : TI} {g : TG} {tb : TS} {pos : Pos} (hp : PassesOwn (model X.prog X.w) X.A X.env X.xe) (hc : X.calm = true) (hi : PI X tg iter wi) (hg : PG X tg g) (hb : PSs X body tb)
    (hs : ∀ x, foldedSetIterable iter X.env x = pure x := by intro _; rfl) : PS X (.For tg iter body [] pos) (tFor wi g tb) := by
  intro pins s σ H D I h
  refine wpAny_For (thn (hi pins s σ H _ I h) fun v s1 h1 => thn h1 fun itv s2 h2 => ?_) hs
  obtain ⟨it, fp, tn, J, H2, e, I2, T, st2, f2, W, ⟨m0, w0⟩, turn⟩ := h2
  subst e
  -- what stays true of the iterator's objects through the loop
  have stat : ∀ {H' : Hp}, (∀ b ∈ fp, H' b = none) → ∀ b ∈ fp, FpOk X pins H' b := fun hn b hb => ⟨hn b hb, (f2 b hb).2⟩
  refine codeAny_forLoop_any (fun n s' => ∃ i σ' H', Inv X pins σ' H' s' ∧ tn i s'.heap ∧ (∀ b ∈ fp, H' b = none) ∧ W i n σ' H') ?_ m0 ⟨0, σ, H2, I2, st2, fun b hb => (f2 b hb).1, w0⟩
  rintro n s3 ⟨i, σ3, H3, I3, st3, fr3, w3⟩
  rcases turn i n σ3 H3 w3 with ⟨stop, qn⟩ | ⟨go, N, hN, step⟩
  · refine wpAny_passesOwn hp (thn (T.done X rfl rfl rfl hc i pins s3 σ3 H3 X.xe I3 (stat fr3) st3 stop) fun r s4 ⟨hr, I4⟩ => ?_)
    subst hr
    exact wpAny_execs_nil ⟨σ3, H3, I4, qn⟩
  · refine wpAny_passesOwn hp (thn (T.item X rfl rfl rfl hc i pins s3 σ3 H3 X.xe I3 (stat fr3) st3 go) fun r s4 ⟨u, hr, h4⟩ => ?_)
    subst hr
    refine wpAny_passesOwn hp (thn h4 fun _ s5 ⟨x, H5, I5, r5, y5, st5, fr5⟩ => ?_)
    have I5' := Inv.pinned hsgA I5 (stat fr5) (T.obj _ _ st5)
    refine wpAny_passesOwn hp (thn (hg _ s5 σ3 H5 x u _ I5' r5 (step x H5 y5)) fun _ s6 ⟨σ6, H6, I6, q6⟩ => ?_)
    refine wpAny_passesOwn hp (thn (hb _ s6 σ6 H6 _ I6 q6) fun f s7 q7 => ?_)
    have again : ∀ {σ7 : St} {H7 : Hp}, Inv X (pins ++ pinsAt fp s5.heap) σ7 H7 s7 → N σ7 H7 → ∃ m, m < n ∧ ∃ i σ' H', Inv X pins σ' H' s7 ∧ tn i s7.heap ∧ (∀ b ∈ fp, H' b = none) ∧ W i m σ' H' := fun {σ7 H7} I7 n7 => by
      obtain ⟨m', hm, w7⟩ := hN σ7 H7 n7
      refine ⟨m', hm, i + 1, σ7, H7, (Inv.unpinned hsgA I7), T.keep _ _ _ st5 fun b hb o e => (I7.pin (b, o) (List.mem_append_right _ (List.mem_append_right _ (mem_pinsAt hb e)))).1, fun b hb => ?_, w7⟩
      obtain ⟨o, e, d⟩ := T.obj _ _ st5 b hb
      exact (I7.pin (b, o) (List.mem_append_right _ (List.mem_append_right _ (mem_pinsAt hb e)))).2.1
    cases f with
    | next => obtain ⟨σ7, H7, I7, n7⟩ := q7; exact again I7 n7
    | cont => obtain ⟨σ7, H7, I7, n7⟩ := q7; exact again I7 n7
    | brk => obtain ⟨σ7, H7, I7, q7⟩ := q7; exact ⟨σ7, H7, (Inv.unpinned hsgA I7), q7⟩
    | ret v => obtain ⟨x7, σ7, H7, I7, r7, q7⟩ := q7; exact ⟨x7, σ7, H7, (Inv.unpinned hsgA I7), r7, q7⟩
end
end L2
namespace L2
open PySem PySem.Spec PyProof.Rows
abbrev R2 := V → V → Hp → VK → Prop
def OpR (X : Cx) (f : Value → Value → Sem Value) (r : R2) : Prop :=
  ∀ (pins : List (Addr × Obj)) (s : Shared) (σ : St) (H : Hp) (x y : V) (v u : Value) (Q : VK), Inv X pins σ H s → RelV x v → RelV y u → r x y H Q →
    wpAny (model X.prog X.w) X.A (f v u) (EP X pins σ Q) X.xe s
def UnR (X : Cx) (f : Value → Sem Value) (r : V → Hp → VK → Prop) : Prop :=
  ∀ (pins : List (Addr × Obj)) (s : Shared) (σ : St) (H : Hp) (x : V) (v : Value) (Q : VK), Inv X pins σ H s → RelV x v → r x H Q →
    wpAny (model X.prog X.w) X.A (f v) (EP X pins σ Q) X.xe s
def CallR (X : Cx) (f : Value) (r : List V → Hp → VK → Prop) : Prop :=
  ∀ (pins : List (Addr × Obj)) (s : Shared) (σ : St) (H : Hp) (xs : List V) (us : List Value) (Q : VK), Inv X pins σ H s → Vals xs us → r xs H Q →
    wpAny (model X.prog X.w) X.A (call f us) (EP X pins σ Q) X.xe s
def TruR (X : Cx) (r : V → Hp → (Bool → Hp → Prop) → Prop) : Prop :=
  ∀ (pins : List (Addr × Obj)) (s : Shared) (σ : St) (H : Hp) (x : V) (v : Value) (Q : Bool → Hp → Prop), Inv X pins σ H s → RelV x v → r x H Q →
    wpAny (model X.prog X.w) X.A (truthy v) (TP X pins σ Q) X.xe s
def tOp (r : R2) (ta tb : TE) : TE := fun σ H Q => ta σ H fun x H1 => tb σ H1 fun y H2 => r x y H2 Q
def tUn (r : V → Hp → VK → Prop) (ta : TE) : TE := fun σ H Q => ta σ H fun x H1 => r x H1 Q
def rI (C : Int → Int → Prop) (g : Int → Int → V) : R2 := fun x y H Q => ∃ i j, x = .int i ∧ y = .int j ∧ C i j ∧ Q (g i j) H
def rI0 (g : Int → Int → V) : R2 := fun x y H Q => ∃ i j, x = .int i ∧ y = .int j ∧ Q (g i j) H
def rU (g : Int → V) : V → Hp → VK → Prop := fun x H Q => ∃ i, x = .int i ∧ Q (g i) H
section
variable {X : Cx} {a b c : Expr} {ta tb tc : TE} {pos : Pos}
theorem binT (ha : PE X a ta) (hb : PE X b tb) {pins : List (Addr × Obj)} {s : Shared} {σ : St} {H : Hp} {R : V → V → Hp → Prop} (I : Inv X pins σ H s)
    (h : ta σ H fun x H1 => tb σ H1 fun y H2 => R x y H2) {Q : Value → Shared → Prop} {f : Value → Value → Sem Value}
    (hf : ∀ v u s2 x y H2, Inv X pins σ H2 s2 → RelV x v → RelV y u → R x y H2 → wpAny (model X.prog X.w) X.A (f v u) Q X.xe s2) :
    wpAny (model X.prog X.w) X.A (eval a X.env) (fun v s₁ => wpAny (model X.prog X.w) X.A (eval b X.env) (fun u s₂ => wpAny (model X.prog X.w) X.A (f v u) Q X.xe s₂) X.xe s₁) X.xe s := by
  refine thn (ha pins s σ H _ I h) fun v s1 ⟨x, H1, I1, r1, q1⟩ => ?_
  refine thn (hb pins s1 σ H1 _ I1 q1) fun u s2 ⟨y, H2, I2, r2, q2⟩ => ?_
  exact hf v u s2 x y H2 I2 r1 r2 q2
theorem pe_op {op : Operator} {r : R2} (ho : OpR X (binaryOp op) r) (ha : PE X a ta) (hb : PE X b tb) : PE X (.BinOp a op b pos) (tOp r ta tb) := by
  intro pins s σ H Q I h
  exact wpAny_BinOp (binT ha hb I h fun v u s2 x y H2 I2 rx ry q => ho pins s2 σ H2 x y v u Q I2 rx ry q)
theorem pe_un {op : UnaryOp} {r : V → Hp → VK → Prop} (ho : UnR X (unaryOp op) r) (ha : PE X a ta) : PE X (.UnaryOp op a pos) (tUn r ta) := by
  intro pins s σ H Q I h
  exact UnaryOp_ (thn (ha pins s σ H _ I h) fun v s1 ⟨x, H1, I1, r1, q1⟩ => ho pins s1 σ H1 x v Q I1 r1 q1)
theorem opI {f : Value → Value → Sem Value} {C : Int → Int → Prop} {g : Int → Int → Int}
    (rule : ∀ (i j : Int) (t u : Tok) (s : Shared) (Q : Value → Shared → Prop) (E : Value → Shared → Prop), C i j → Q (.int (g i j) s.toks) { s with toks := s.toks + 1 } → wpAny (model X.prog X.w) X.A (f (.int i t) (.int j u)) Q E s) :
    OpR X f (rI C fun i j => .int (g i j)) := by
  intro pins s σ H x y v u Q I rx ry h
  obtain ⟨i, j, rfl, rfl, hc, q⟩ := h
  obtain ⟨t, rfl⟩ := rx
  obtain ⟨t', rfl⟩ := ry
  exact rule i j t t' s _ _ hc ⟨.int (g i j), H, I.tok _, ⟨_, rfl⟩, q⟩
theorem opI0 {f : Value → Value → Sem Value} {g : Int → Int → Int}
    (rule : ∀ (i j : Int) (t u : Tok) (s : Shared) (Q : Value → Shared → Prop) (E : Value → Shared → Prop), Q (.int (g i j) s.toks) { s with toks := s.toks + 1 } → wpAny (model X.prog X.w) X.A (f (.int i t) (.int j u)) Q E s) :
    OpR X f (rI0 fun i j => .int (g i j)) := by
  intro pins s σ H x y v u Q I rx ry h
  obtain ⟨i, j, rfl, rfl, q⟩ := h
  obtain ⟨t, rfl⟩ := rx
  obtain ⟨t', rfl⟩ := ry
  exact rule i j t t' s _ _ ⟨.int (g i j), H, I.tok _, ⟨_, rfl⟩, q⟩
theorem opB0 {f : Value → Value → Sem Value} {g : Int → Int → Bool}
    (rule : ∀ (i j : Int) (t u : Tok) (s : Shared) (Q : Value → Shared → Prop) (E : Value → Shared → Prop), Q (.bool (g i j)) s → wpAny (model X.prog X.w) X.A (f (.int i t) (.int j u)) Q E s) :
    OpR X f (rI0 fun i j => .bl (g i j)) := by
  intro pins s σ H x y v u Q I rx ry h
  obtain ⟨i, j, rfl, rfl, q⟩ := h
  obtain ⟨t, rfl⟩ := rx
  obtain ⟨t', rfl⟩ := ry
  exact rule i j t t' s _ _ ⟨.bl (g i j), H, I, rfl, q⟩
def CDiv (i j : Int) : Prop := 0 < j ∧ j < 1073741824
def CMul (i j : Int) : Prop := (-(2 ^ 64) < i ∧ i < 2 ^ 64) ∨ (-(2 ^ 64) < j ∧ j < 2 ^ 64)
theorem CMul.ok {i j : Int} (h : CMul i j) : IntMulOk i j := by
  rcases h with ⟨h1, h2⟩ | ⟨h1, h2⟩
  · exact .of_left (intBits_le_64 h1 h2)
  · exact .of_right (intBits_le_64 h1 h2)
theorem op_add : OpR X (binaryOp .Add) (rI0 fun i j => .int (i + j)) := opI0 fun _ _ _ _ _ _ _ q => add_int q
theorem op_sub : OpR X (binaryOp .Sub) (rI0 fun i j => .int (i - j)) := opI0 fun _ _ _ _ _ _ _ q => sub_int q
theorem op_mul : OpR X (binaryOp .Mult) (rI CMul fun i j => .int (i * j)) := opI fun _ _ _ _ _ _ _ hc q => mul_int q hc.ok
theorem op_fdiv : OpR X (binaryOp .FloorDiv) (rI CDiv fun i j => .int (i / j)) := opI fun i j _ _ _ _ _ hc q => by
  have h1 : (0 : Int) < j := hc.1
  have h2 : j < 1073741824 := hc.2
  exact floordiv_int (by omega) (by rw [Int.fdiv_eq_ediv_of_nonneg i (by omega)]; exact q) (.inl (PyProof.noPylong_small (by omega)))
theorem op_mod : OpR X (binaryOp .Mod) (rI (fun _ j => 0 < j) fun i j => .int (i % j)) := opI fun i j _ _ _ _ _ hc q => by
  have h1 : (0 : Int) < j := hc
  exact mod_int' (by omega) (by rw [Int.fmod_eq_emod_of_nonneg i (by omega)]; exact q)
theorem unI {f : Value → Sem Value} {g : Int → Int}
    (rule : ∀ (i : Int) (t : Tok) (s : Shared) (Q : Value → Shared → Prop) (E : Value → Shared → Prop), Q (.int (g i) s.toks) { s with toks := s.toks + 1 } → wpAny (model X.prog X.w) X.A (f (.int i t)) Q E s) :
    UnR X f (rU fun i => .int (g i)) := by
  intro pins s σ H x v Q I rx h
  obtain ⟨i, rfl, q⟩ := h
  obtain ⟨t, rfl⟩ := rx
  exact rule i t s _ _ ⟨.int (g i), H, I.tok _, ⟨_, rfl⟩, q⟩
theorem un_neg : UnR X (unaryOp .USub) (rU fun i => .int (-i)) := unI fun _ _ _ _ _ q => neg_int q
end
section
variable {X : Cx} {a b c : Expr} {ta tb tc : TE} {pos : Pos}
theorem fin_bl {pins : List (Addr × Obj)} {σ : St} {H : Hp} {s : Shared} {Q : VK} {k k' : Bool} (I : Inv X pins σ H s) (q : Q (.bl k) H) (e : k = k') : EP X pins σ Q (.bool k') s := by
  subst e
  exact ⟨.bl k, H, I, rfl, q⟩
theorem op_lt : OpR X (compareOp .Lt) (rI0 fun i j => .bl (decide (i < j))) := opB0 fun _ _ _ _ _ _ _ q => lt_int q
theorem op_le : OpR X (compareOp .LtE) (rI0 fun i j => .bl (decide (i ≤ j))) := opB0 fun _ _ _ _ _ _ _ q => le_int q
theorem op_gt : OpR X (compareOp .Gt) (rI0 fun i j => .bl (decide (j < i))) := opB0 fun _ _ _ _ _ _ _ q => gt_int q
theorem op_ge : OpR X (compareOp .GtE) (rI0 fun i j => .bl (decide (j ≤ i))) := opB0 fun _ _ _ _ _ _ _ q => ge_int q
theorem op_in_str : OpR X (compareOp .In) (fun x y H Q => ∃ i j, x = .str i ∧ y = .str j ∧ Q (.bl (!(Builtin.Str.occurrences j i 0 j.length 1).isEmpty)) H) := by
  intro pins s σ H x y v u Q I rx ry h
  obtain ⟨i, j, rfl, rfl, q⟩ := h
  obtain ⟨t, rfl⟩ := rx
  obtain ⟨t', rfl⟩ := ry
  exact in_str (fin_bl I q rfl)
theorem OpR.or {f : Value → Value → Sem Value} {r r' : R2} (h : OpR X f r) (h' : OpR X f r') : OpR X f (fun x y H Q => r x y H Q ∨ r' x y H Q) := by
  intro pins s σ H x y v u Q I rx ry q
  rcases q with q | q
  · exact h pins s σ H x y v u Q I rx ry q
  · exact h' pins s σ H x y v u Q I rx ry q
theorem nomark (b : Expr) {op : CmpOp} (h : op ≠ .In := by decide) (h2 : op ≠ .NotIn := by decide) : behindInMarks op b = false := by
  have e1 : (op == CmpOp.In) = false := by cases op <;> first | rfl | exact absurd rfl h
  have e2 : (op == CmpOp.NotIn) = false := by cases op <;> first | rfl | exact absurd rfl h2
  cases b <;> simp [behindInMarks, e1, e2]
theorem pe_cmpR {op : CmpOp} {r : R2} (ho : OpR X (compareOp op) r) (ha : PE X a ta) (hb : PE X b tb) (hm : behindInMarks op b = false) : PE X (.Compare a [op] [b] pos) (tOp r ta tb) := by
  intro pins s σ H Q I h
  exact wpAny_Compare1 (binT ha hb I h fun v u s2 x y H2 I2 rx ry q => ho pins s2 σ H2 x y v u Q I2 rx ry q) hm
def tTest (t : TE) : TT := fun σ H Q => t σ H fun x H' => ∃ k, x = .bl k ∧ Q k H'
theorem pt_cmpR {op : CmpOp} {r : R2} (ho : OpR X (compareOp op) r) (ha : PE X a ta) (hb : PE X b tb) (hm : behindInMarks op b = false) : PT X (.Compare a [op] [b] pos) (tTest (tOp r ta tb)) := by
  intro pins s σ H Q I h
  refine wpAny_isTrue_Compare1 (thn (ha pins s σ H _ I h) fun v s1 ⟨x, H1, I1, r1, q1⟩ => thn (hb pins s1 σ H1 _ I1 q1) fun u s2 ⟨y, H2, I2, r2, q2⟩ =>
    thn (ho pins s2 σ H2 x y v u _ I2 r1 r2 q2) fun c s3 ⟨z, H3, I3, r3, k, e, q3⟩ => ?_) hm
  subst e
  cases r3
  exact wpAny_truthy_bool ⟨H3, I3, q3⟩
def TruV (K : PySem.W.Frag) (x : V) (H : Hp) (k : Bool) : Prop :=
  match x with
  | .non => k = false
  | .bl b => k = b
  | .int i => k = (i != 0)
  | .str y => y.length ≤ sizeLine ∧ k = ((y.length : Int) != 0)
  | .byt y => y.size ≤ sizeLine ∧ k = ((y.size : Int) != 0)
  | .ref p => (∃ xs, SqL K H p xs ∧ k = !xs.isEmpty) ∨ (∃ xs, SqT K H p xs ∧ k = !xs.isEmpty) ∨ ∃ kvs, H p = some (.dK kvs) ∧ k = !kvs.isEmpty
  | _ => False
theorem isEmpty_kv {κ : Type} {kvs : List (κ × V)} {vs : List (κ × Value)} (r : KV kvs vs) : (!vs.isEmpty) = !kvs.isEmpty := by
  cases r <;> rfl
theorem isEmpty_of {xs : List V} {its : List Value} (r : Vals xs its) : (!its.toArray.isEmpty) = !xs.isEmpty := by
  cases r <;> simp
theorem line63 : (sizeLine : Nat) < 2 ^ 63 := by rw [sizeLine_eq]; decide
theorem tru_ok : TruR X (fun x H Q => ∃ k, TruV X.K x H k ∧ Q k H) := by
  intro pins s σ H x v Q I rx h
  obtain ⟨k, e, q⟩ := h
  have hl := line63
  have hs : sizeLine = 16777216 := sizeLine_eq
  cases x with
  | non =>
    cases rx
    have e' : k = false := e
    subst e'
    exact truthy_none ⟨H, I, q⟩
  | bl b =>
    cases rx
    have e' : k = b := e
    subst e'
    exact wpAny_truthy_bool ⟨H, I, q⟩
  | int i =>
    obtain ⟨t, rfl⟩ := rx
    have e' : k = (i != 0) := e
    subst e'
    exact PySem.P.truthy_int ⟨H, I, q⟩
  | str y =>
    obtain ⟨t, rfl⟩ := rx
    obtain ⟨hy, e'⟩ : y.length ≤ sizeLine ∧ k = ((y.length : Int) != 0) := e
    subst e'
    exact PySem.P.truthy_str (by omega) ⟨H, I.tok _, q⟩
  | byt y =>
    obtain ⟨t, rfl⟩ := rx
    obtain ⟨hy, e'⟩ : y.size ≤ sizeLine ∧ k = ((y.size : Int) != 0) := e
    subst e'
    exact PySem.W.truthy_bytes (by omega) ⟨H, I.tok _, q⟩
  | ref p =>
    cases rx
    have e' : (∃ xs, SqL X.K H p xs ∧ k = !xs.isEmpty) ∨ (∃ xs, SqT X.K H p xs ∧ k = !xs.isEmpty) ∨ ∃ kvs, H p = some (.dK kvs) ∧ k = !kvs.isEmpty := e
    rcases e' with ⟨xs, hx, e'⟩ | ⟨xs, hx, e'⟩ | ⟨kvs, hx, e'⟩
    · subst e'
      obtain ⟨its, r, pl, hz⟩ := I.list hx
      have hlen := r.length
      exact wpAny_truthy_list pl.isList (by simp only [List.size_toArray]; omega) ⟨H, I.tok _, by rw [isEmpty_of r]; exact q⟩
    · subst e'
      obtain ⟨its, r, pl, hz⟩ := I.tuple hx
      have hlen := r.length
      exact truthy_tuple pl (by simp only [List.size_toArray]; omega) ⟨H, I.tok _, by rw [isEmpty_of r]; exact q⟩
    · subst e'
      obtain ⟨hz, hS, vs, r, m⟩ : kvs.length ≤ sizeLine ∧ (p == sysModules) = false ∧ ∃ vs, KV kvs vs ∧ s.heap.DictOf (mixKind X.prog X.w) p vs := I.hok p _ hx
      have hlen : kvs.length = vs.length := Paired.length r
      exact wpAny_truthy_dict hS m (by omega) ⟨H, I.tok _, by rw [isEmpty_kv r]; exact q⟩
  | _ => exact (show False from e).elim
theorem pt_truth (ha : PE X a ta) (he : ∀ whole, isTrue a X.env whole = (do let v ← whole; standAt a.pos; holding [v] (truthy v))) :
    PT X a (fun σ H Q => ta σ H fun x H' => ∃ k, TruV X.K x H' k ∧ Q k H') := by
  intro pins s σ H Q I h
  exact isTrue_plain (thn (ha pins s σ H _ I h) fun v s1 ⟨x, H1, I1, r1, q1⟩ => tru_ok pins s1 σ H1 x v Q I1 r1 q1) (he _)
theorem op_add_str : OpR X (binaryOp .Add) (fun x y H Q => ∃ i j, x = .str i ∧ y = .str j ∧ i.length + j.length ≤ sizeLine ∧ Q (.str (i ++ j)) H) := by
  intro pins s σ H x y v u Q I rx ry h
  obtain ⟨i, j, rfl, rfl, hz, q⟩ := h
  obtain ⟨t, rfl⟩ := rx
  obtain ⟨t', rfl⟩ := ry
  exact add_str (fun t' tk => ⟨.str (i ++ j), H, I.tok _, ⟨_, rfl⟩, q⟩) hz
theorem vals1 {x : V} {us : List Value} (r : Vals [x] us) : ∃ u, us = [u] ∧ RelV x u := by
  cases r with
  | cons r1 r2 => cases r2; exact ⟨_, rfl, r1⟩
theorem vals2 {x y : V} {us : List Value} (r : Vals [x, y] us) : ∃ u w', us = [u, w'] ∧ RelV x u ∧ RelV y w' := by
  cases r with
  | cons r1 r2 =>
    cases r2 with
    | cons r3 r4 => cases r4; exact ⟨_, _, rfl, r1, r3⟩
theorem call_min2 (hc : X.calm = true) : CallR X (.builtin "min") (fun xs H Q => ∃ i j, xs = [.int i, .int j] ∧ Q (.int (if j < i then j else i)) H) := by
  intro pins s σ H xs us Q I r h
  obtain ⟨i, j, rfl, q⟩ := h
  obtain ⟨u, w', rfl, ⟨t, rfl⟩, ⟨t', rfl⟩⟩ := vals2 r
  refine min_two_ints (I.ok.hd hc) fun h' tk k => ⟨_, H, I.kept k, ?_, q⟩
  by_cases hj : j < i
  · rw [if_pos hj, if_pos hj]; exact ⟨_, rfl⟩
  · rw [if_neg hj, if_neg hj]; exact ⟨_, rfl⟩
theorem call_int1 : CallR X (.type "int") (fun xs H Q => (∃ i, xs = [.int i] ∧ Q (.int i) H) ∨ ∃ k, xs = [.bl k] ∧ Q (.int (if k then 1 else 0)) H) := by
  intro pins s σ H xs us Q I r h
  rcases h with ⟨i, rfl, q⟩ | ⟨k, rfl, q⟩
  · obtain ⟨u, rfl, t, rfl⟩ := vals1 r
    exact call_int_int ⟨.int i, H, I, ⟨_, rfl⟩, q⟩
  · obtain ⟨u, rfl, r1⟩ := vals1 r
    cases r1
    exact call_int_bool ⟨.int (if k then 1 else 0), H, I.tok _, ⟨_, rfl⟩, q⟩
theorem call_str_int : CallR X (.type "str") (fun xs H Q => ∃ i, xs = [.int i] ∧ i.natAbs.log2 < 1920 ∧ Q (.str (toString i)) H) := by
  intro pins s σ H xs us Q I r h
  obtain ⟨i, rfl, hz, q⟩ := h
  obtain ⟨u, rfl, t, rfl⟩ := vals1 r
  exact PySem.P.str_of_int hz ⟨.str _, H, I.tok _, ⟨_, rfl⟩, q⟩
end
end L2
namespace L2
open PySem PySem.Spec PyProof.Rows
structure ObjM (h : Heap) (x dx C : Addr) (mA : Str → Option Value) : Prop where
  obj : h.get? x = some (PySem.W.instObj C dx)
  ns : h.Ns1 dx mA
  ne : dx ≠ x
theorem lookIn_ns {h : Heap} {dx : Addr} {mA : Str → Option Value} (n : h.Ns1 dx mA) : ∃ od, h.get? dx = some od ∧ ∀ name, PySem.W.lookIn name od = some (mA name) := by
  obtain ⟨o, es, ep, ho, hd, hk, _, hm⟩ := n
  refine ⟨o, ho, fun name => ?_⟩
  have e := hm name
  unfold nsFind findBy at e
  rw [← Array.find?_toList] at e
  unfold PySem.W.lookIn
  rw [hd]
  dsimp only
  split
  · rename_i y q
    rw [q] at e
    exact congrArg some e
  · rename_i q
    rw [q] at e
    have a : es.toList.any (·.refKey) = false := by
      rw [List.any_eq_false]
      intro y hy
      obtain ⟨z, t, hkey⟩ := hk y (Array.mem_toList_iff.mp hy)
      simp [DictEntry.refKey, hkey]
    have a' : ¬ es.toList.any (·.refKey) = true := by rw [a]; exact Bool.false_ne_true
    rw [if_neg a']
    exact congrArg some e
theorem ObjM.look {h : Heap} {x dx C : Addr} {mA : Str → Option Value} (I : ObjM h x dx C mA) : ∃ od, PySem.W.InstAt h x (PySem.W.instObj C dx) C (some od) ∧ ∀ name, PySem.W.lookIn name od = some (mA name) :=
  let ⟨od, ho, hl⟩ := lookIn_ns I.ns
  ⟨od, ⟨I.obj, rfl, rfl, ho⟩, hl⟩
section
variable {prog : Program} {w : World} {A : Around} {E : Value → Shared → Prop} {s : Shared} {K : PySem.W.Frag} {x dx C f : Addr} {mA : Str → Option Value} {name : Str} {v : Value}
end
theorem RelO.some_of {v : V} {o : Option Value} (r : RelO (some v) o) : ∃ u, o = some u ∧ RelV v u := by
  cases o with
  | none => exact (show False from r).elim
  | some u => exact ⟨u, rfl, r⟩
section
variable {P : Program} {w : World} {H H' : Hp} {h h' : Heap} {a C dx : Addr} {fs fs' : List (Str × V)}
end
structure Cls (K : PySem.W.Frag) (C : Addr) : Prop where
  pg : PySem.W.plainGet K C Str.empty = true
  hd : PySem.W.hasDictIn K C = true
  po : PySem.W.plainOver K C = true
  sa : PySem.W.findIn K (.ref C) "__setattr__" = some (some (.builtin "object.__setattr__"))
theorem Cls.get {K : PySem.W.Frag} {C : Addr} (c : Cls K C) (f : Str) : PySem.W.plainGet K C f = true := c.pg
structure Meth (K : PySem.W.Frag) (C : Addr) (m : Str) (f : Addr) : Prop where
  at_ : PySem.W.findIn K (.ref C) m = some (some (.ref f))
  fn : PySem.W.isFn K (.ref f) = true
  kp : PySem.W.keepIn K (.ref f) = true
section
variable {X : Cx} {pins : List (Addr × Obj)} {σ : St} {H : Hp} {s : Shared} {a C dx : Addr} {fs : List (Str × V)} {f : Str} {v : V} {A : Around} {E : Value → Shared → Prop}
theorem Inv.made (I : Inv X pins σ H s) : Inv X pins σ (upd (upd H s.heap.objs.size (.own (s.heap.objs.size + 1))) (s.heap.objs.size + 1) (.ins C s.heap.objs.size []))
    { s with heap := (s.heap.push PySem.W.emptyDict).push (PySem.W.instObj C s.heap.objs.size) } := by
  have e1 : (s.heap.push PySem.W.emptyDict).get? s.heap.objs.size = some PySem.W.emptyDict := Heap.get?_push_size s.heap rfl
  have e2 : ((s.heap.push PySem.W.emptyDict).push (PySem.W.instObj C s.heap.objs.size)).get? (s.heap.objs.size + 1) = some (PySem.W.instObj C s.heap.objs.size) := by
    have := Heap.get?_push_size (s.heap.push PySem.W.emptyDict) (o := PySem.W.instObj C s.heap.objs.size) rfl
    rwa [Heap.size_push] at this
  have e3 : (s.heap.push PySem.W.emptyDict).Ns s.heap.objs.size (fun _ => none) := ⟨PySem.W.emptyDict, #[], _, e1, rfl, (fun e he => absurd he (by simp)), fun _ => rfl⟩
  have I1 := I.laid (a := s.heap.objs.size) (o := .own (s.heap.objs.size + 1)) (h' := s.heap.push PySem.W.emptyDict) (t' := s.toks) (fun b u q => Heap.get?_push_of_some _ q) (Nat.le_refl _) ⟨_, e1⟩
  refine I1.laid (a := s.heap.objs.size + 1) (o := .ins C s.heap.objs.size []) (t' := s.toks) (fun b u q => Heap.get?_push_of_some _ q) (Nat.le_of_eq (Heap.size_push _ _)) ?_
  have ne : s.heap.objs.size ≠ s.heap.objs.size + 1 := Nat.ne_of_lt (Nat.lt_succ_self _)
  refine ⟨by rw [upd_ne ne, upd_same], Nat.zero_le _, ne, e2, fun _ => none, (Heap.Ns1.of_empty e3).at fun o q => Heap.get?_push_of_some _ q, fun _ => True.intro, fun y hy => absurd rfl hy⟩
end
section
variable {X : Cx} {o e value : Expr} {f : Str} {pos pos' tpos : Pos} {ta tv : TE}
end
section
variable {X : Cx} {pins : List (Addr × Obj)} {σ : St} {H : Hp} {s : Shared} {A : Around} {E : Value → Shared → Prop} {Q : Value → Shared → Prop} {c : Value} {b : Bool}
end
end L2
namespace L2
open PySem PySem.Spec PyProof.Rows
structure Room (k : Nat) (A : Around) : Prop where
  hd : A.handled = none
  dp : A.depth + 3 * k + 5 < recursionLimit
  un : A.units + 16 * k + 200 < cLine
theorem Room.mono {j k : Nat} {A : Around} (r : Room k A) (h : j ≤ k) : Room j A := ⟨r.hd, by have := r.dp; omega, by have := r.un; omega⟩
theorem Room.deeper {k : Nat} {A : Around} (r : Room (k + 1) A) (env : Env) : Room k (A.deeper env) :=
  ⟨r.hd, by have := r.dp; show A.depth + 1 + 3 * k + 5 < _; omega, by have := r.un; show A.units + 3 + 16 * k + 200 < _; omega⟩
theorem Room.depth {k : Nat} {A : Around} (r : Room k A) : A.depth < recursionLimit := by have := r.dp; omega
theorem Room.units {k : Nat} {A : Around} (r : Room k A) : A.units + 64 < cLine := by have := r.un; omega
def tNil : TA := fun _ H Q => Q [] H
def tCons (ta : TE) (tr : TA) : TA := fun σ H Q => ta σ H fun x H1 => tr σ H1 fun xs H2 => Q (x :: xs) H2
section
variable {X : Cx} {e : Expr} {es : List Expr} {te : TE} {t : TA} {pos : Pos}
theorem pa_nil : PA X [] tNil := fun _ _ _ _ H Q I h => Calls.spliced_nil ⟨[], H, I, .nil, h⟩
theorem pa_cons (ha : PE X e te) (hr : PA X es t) (hs : starEach (e :: es) X.env = (false, eval e X.env) :: starEach es X.env := by rfl) : PA X (e :: es) (tCons te t) := by
  intro pos pins s σ H Q I h
  rw [hs]
  show wpAny _ _ (spliced ((false, eval e X.env) :: backTo pos (starEach es X.env))) _ _ s
  refine Calls.spliced_cons (thn (ha pins s σ H _ I h) fun u s1 ⟨x, H1, I1, r1, q1⟩ => ?_)
  exact thn (hr pos pins s1 σ H1 _ I1 q1) fun us s2 ⟨xs, H2, I2, r2, q2⟩ => ⟨x :: xs, H2, I2, .cons r1 r2, q2⟩
def tTup (t : TA) : TE := fun σ H Q => t σ H fun xs H1 => xs.length ≤ sizeLine ∧ ∀ p, H1 p = none → Q (.ref p) (upd H1 p (.tup xs))
def tLst (t : TA) : TE := fun σ H Q => t σ H fun xs H1 => xs.length ≤ sizeLine ∧ ∀ p, H1 p = none → Q (.ref p) (upd H1 p (.lst xs))
theorem pe_tup {x1} (h : PA X es t) : PE X (.Tuple es x1 pos) (tTup t) := by
  intro pins s σ H Q I hq
  refine wpAny_Tuple_spliced (thn (h pos pins s σ H _ I hq) fun us s1 ⟨xs, H1, I1, r, z, q⟩ => ⟨by rw [← r.length]; exact z, ?_⟩)
  have hf : H1 s1.heap.objs.size = none := I1.hok.fresh (Nat.le_refl _)
  refine ⟨.ref s1.heap.objs.size, upd H1 s1.heap.objs.size (.tup xs), I1.laid (t' := s1.toks) (fun b u e => Heap.get?_push_of_some _ e) (Nat.le_refl _) ?_, rfl, q _ hf⟩
  exact ⟨z, us, r, ⟨_, Heap.get?_push_size _ rfl, rfl, _, rfl⟩⟩
theorem pe_lst (h : PA X es t) : PE X (.List es pos) (tLst t) := by
  intro pins s σ H Q I hq
  refine wpAny_List_spliced (thn (h pos pins s σ H _ I hq) fun us s1 ⟨xs, H1, I1, r, z, q⟩ => ⟨by rw [← r.length]; exact z, ?_⟩)
  have hf : H1 s1.heap.objs.size = none := I1.hok.fresh (Nat.le_refl _)
  refine ⟨.ref s1.heap.objs.size, upd H1 s1.heap.objs.size (.lst xs), I1.laid (t' := s1.toks) (fun b u e => Heap.get?_push_of_some _ e) (Nat.le_refl _) ?_, rfl, q _ hf⟩
  exact ⟨z, us, 0, r, Heap.get?_push_size _ rfl⟩
end
abbrev Sp := List V → Hp → VK → XK → Prop
abbrev CXT := List Env → Hp → Shared → XK → Value → Shared → Prop
structure Env0 (P : Program) (w : World) (K : PySem.W.Frag) (mg : Str → Option Value) (base : Heap) (A : Around) (outer : List Env) (s : Shared) (H : Hp) : Prop where
  frames : A.frames = some outer
  mod : Mod K mg base
  bs : ∀ b o, base.get? b = some o → s.heap.get? b = some o ∧ H b = none
  bsz : base.objs.size ≤ s.heap.objs.size
  funs : s.heap.FunFrames base outer
  frf : ∀ b ∈ frs outer, H b = none
  hok : HOk P w H s.heap
  bare : AllBare s.gens
def CE (outer : List Env) (P : Program) (w : World) (H : Hp) (s : Shared) (Q : VK) (u : Value) (s' : Shared) : Prop :=
  ∃ v H', s'.os = s.os ∧ AllBare s'.gens ∧ Un (frs outer) [] H H' s.heap s'.heap ∧ HOk P w H' s'.heap ∧ RelV v u ∧ Q v H'
def CR (CX : CXT) (outer : List Env) (P : Program) (w : World) (H : Hp) (s : Shared) (Q : VK) (E : XK) (r : Result) (s' : Shared) : Prop :=
  match r with
  | .ok (.ret u) => CE outer P w H s Q u s'
  | .ok _ => False
  | .error e => CX outer H s E e s'
structure FnOk (P : Program) (w : World) (K : PySem.W.Frag) (mg : Str → Option Value) (base : Heap) (CX : CXT) (k : Nat) (f : Addr) (fd : FuncData) (ps : List Str) (sp : Sp) : Prop where
  len : ∀ vs H Q E, sp vs H Q E → vs.length = ps.length
  run : ∀ (A : Around) (outer : List Env) (s : Shared) (H : Hp) (args : Args) (us : List Value) (vs : List V) (Q : VK) (E : XK), Room k A → Env0 P w K mg base A outer s H → BindsTo s fd args (ps.zip us) → Vals vs us → sp vs H Q E →
    codeAny (model P w) A (.call (.ref f) args) (CR CX outer P w H s Q E) s
theorem FnOk.mono {P : Program} {w : World} {K : PySem.W.Frag} {mg : Str → Option Value} {base : Heap} {CX : CXT} {j k : Nat} {f : Addr} {fd : FuncData} {ps : List Str} {sp : Sp} (F : FnOk P w K mg base CX j f fd ps sp) (h : j ≤ k) :
    FnOk P w K mg base CX k f fd ps sp := ⟨F.len, fun A outer s H args us vs Q E hr => F.run A outer s H args us vs Q E (hr.mono h)⟩
theorem FnOk.imp {P : Program} {w : World} {K : PySem.W.Frag} {mg : Str → Option Value} {base : Heap} {CX : CXT} {k : Nat} {f : Addr} {fd : FuncData} {ps : List Str} {sp sp' : Sp} (F : FnOk P w K mg base CX k f fd ps sp)
    (h : ∀ vs H Q E, sp' vs H Q E → sp vs H Q E) : FnOk P w K mg base CX k f fd ps sp' :=
  ⟨fun vs H Q E q => F.len vs H Q E (h _ _ _ _ q), fun A outer s H args us vs Q E hr he hb hv hs => F.run A outer s H args us vs Q E hr he hb hv (h _ _ _ _ hs)⟩
section
variable {X : Cx} {pins : List (Addr × Obj)} {σ : St} {H : Hp} {s s' : Shared}
theorem Inv.env0 (I : Inv X pins σ H s) : Env0 X.prog X.w X.K X.mg X.base X.A X.stack s H :=
  ⟨I.ok.frames, I.ok.mod, I.bs, Nat.le_trans I.ok.bsz I.sz, I.stack, I.stkFree, I.hok, I.bare⟩
theorem Inv.after {Q : VK} {u : Value} (I : Inv X pins σ H s) (h : CE X.stack X.prog X.w H s Q u s') : EP X pins σ Q u s' := by
  obtain ⟨v, H', os, bare, un, hok, r, q⟩ := h
  obtain ⟨hh, g, d, t, os'⟩ := s'
  obtain rfl : os' = s.os := os
  exact ⟨v, H', I.call (h' := hh) (g' := g) (d' := d) (t' := t) (ch := []) un hok bare (fun b z => absurd z (by simp)), r, q⟩
end
def tCall (sp : Sp) (dvs : List V) (E : XK) (t : TA) : TE := fun σ H Q => t σ H fun vs H1 => sp (vs ++ dvs) H1 Q E
def Binds (K : PySem.W.Frag) (fd : FuncData) (ps : List Str) (ds : List Value) : Prop :=
  ∀ (s : Shared) (us : List Value), K.In s.heap → (us ++ ds).length = ps.length → BindsTo s fd ⟨us, []⟩ (ps.zip (us ++ ds))
theorem Binds.all {K : PySem.W.Frag} {fd : FuncData} {ps : List Str} (h : ∀ us : List Value, us.length = ps.length → bindArgs fd ⟨us, []⟩ = pure (ps.zip us)) : Binds K fd ps [] := fun s us _ hl => by
  rw [List.append_nil] at hl ⊢
  exact .of_eq (h us hl)
def Passes (CX : CXT) (X : Cx) (E : XK) : Prop := ∀ (pins : List (Addr × Obj)) (σ : St) (H : Hp) (s : Shared) (e : Value) (s' : Shared), Inv X pins σ H s → CX X.stack H s E e s' → X.xe e s'
section
variable {X : Cx} {CX : CXT} {k : Nat} {f C : Addr} {fd : FuncData} {ps : List Str} {sp : Sp} {dvs : List V} {ds : List Value} {E : XK} {x m : Str} {p pos apos : Pos} {e o : Expr} {es : List Expr} {ta : TE} {t : TA}
theorem run_fn {pins : List (Addr × Obj)} {σ : St} {H : Hp} {s : Shared} {Q : VK} {us : List Value} {vs : List V} (F : FnOk X.prog X.w X.K X.mg X.base CX k f fd ps sp) (hr : Room k X.A) (hb : Binds X.K fd ps ds) (hd : Vals dvs ds) (hx : Passes CX X E)
    (I : Inv X pins σ H s) (r : Vals vs us) (h : sp (vs ++ dvs) H Q E) : wpAny (model X.prog X.w) X.A (call (.ref f) us) (EP X pins σ Q) X.xe s := by
  have r2 : Vals (vs ++ dvs) (us ++ ds) := r.append hd
  have hl : (us ++ ds).length = ps.length := by rw [← r2.length]; exact F.len _ _ _ _ h
  refine wpAny_call (codeAny_mono (F.run X.A X.stack s H ⟨us, []⟩ (us ++ ds) (vs ++ dvs) Q E hr I.env0 (hb s us I.kIn hl) r2 h) fun r s' hq => ?_)
  cases r with
  | error e => exact hx pins σ H s e s' I hq
  | ok fl =>
    cases fl with
    | ret u => exact I.after hq
    | next => exact False.elim hq
    | brk => exact False.elim hq
    | cont => exact False.elim hq
theorem pe_call (F : FnOk X.prog X.w X.K X.mg X.base CX k f fd ps sp) (hr : Room k X.A) (hg : Gl X x) (hm : X.mg x = some (.ref f)) (hk : PySem.W.keepIn X.K (.ref f) = true) (hb : Binds X.K fd ps ds) (hd : Vals dvs ds) (hx : Passes CX X E)
    (ha : PA X (e :: es) t) (hdb : (x == ("__debug__" : Str)) = false := by decide) (he : starEach (e :: es) X.env = (false, eval e X.env) :: starEach es X.env := by rfl) (hpl : (backTo pos (starEach es X.env)).any (·.1) = false := by rfl) :
    PE X (.Call (.Name x p) (e :: es) [] pos) (tCall sp dvs E t) := by
  intro pins s σ H Q I h
  refine wpAny_Call_Name_kw (ld_glob I hg hm ?_ hdb)
  refine PySem.W.callWith_K (h₀ := X.base) I.ok.mod.kin hk (thn (ha pos pins s σ H _ I h) fun us s1 ⟨vs, H1, I1, r, q⟩ => ⟨I1.kIn, ?_⟩) he hpl
  exact run_fn F hr hb hd hx I1 r q
structure Mk (K : PySem.W.Frag) (C f : Addr) : Prop where
  makes : PySem.W.makesIn K C = true
  init : PySem.W.findIn K (.ref C) "__init__" = some (some (.ref f))
  fn : PySem.W.isFn K (.ref f) = true
  kp : PySem.W.keepIn K (.ref C) = true
end
section
variable {X : Cx} {CX : CXT} {k : Nat} {f C : Addr} {fd : FuncData} {ps ks : List Str} {sp : Sp} {E : XK} {x m : Str} {p pos apos kpos : Pos} {e o : Expr} {es : List Expr} {kws : List Keyword} {te ta : TE} {t tk : TA} {nm : Option Str}
variable {g : List Value → List Value → List Value} {gV : List V → List V → List V}
end
structure FnScope (N P : List Str) (sc : Scope) : Prop where
  kind : sc.kind = .function
  co : sc.isCoroutine = false
  gen : sc.isGenerator = false
  nd : N.Nodup
  pre : N.take P.length = P
  par : ∀ x ∈ P, sc.names.lookup x = some .local ∨ sc.names.lookup x = some .cell
  nofree : ∀ y ∈ sc.names, y.2 ≠ .free
theorem bindL_out {kindOf : Str → Option NameKind} {x : Str} : ∀ {binds : List (Str × Value)} {m : Str → Option Value}, (∀ v, (x, v) ∉ binds) → bindL kindOf binds m x = m x
  | [], _, _ => rfl
  | (n, v) :: r, m, h => by
    unfold bindL
    rw [bindL_out fun w hw => h w (List.mem_cons_of_mem _ hw)]
    split
    · have : x ≠ n := by rintro rfl; exact h v List.mem_cons_self
      simp [this]
    · rfl
theorem bindC_out {kindOf : Str → Option NameKind} {x : Str} : ∀ {binds : List (Str × Value)} {m : Str → Option Value}, (∀ v, (x, v) ∉ binds) → bindC kindOf binds m x = m x
  | [], _, _ => rfl
  | (n, v) :: r, m, h => by
    unfold bindC
    rw [bindC_out fun w hw => h w (List.mem_cons_of_mem _ hw)]
    split
    · rfl
    · have : x ≠ n := by rintro rfl; exact h v List.mem_cons_self
      simp [this]
theorem bindL_get {kindOf : Str → Option NameKind} {x : Str} {v : Value} : ∀ {P : List Str} {vs : List Value} {i : Nat} {m : Str → Option Value}, P.Nodup → P[i]? = some x → vs[i]? = some v → kindOf x = some .local →
    bindL kindOf (P.zip vs) m x = some v
  | [], _, _, _, _, h, _, _ => by simp at h
  | _ :: _, [], _, _, _, _, h, _ => by simp at h
  | p :: P, w :: vs, 0, m, nd, h1, h2, hk => by
    simp at h1 h2; subst h1; subst h2
    show bindL kindOf ((p, w) :: P.zip vs) m p = _
    unfold bindL
    rw [bindL_out fun v hv => (List.nodup_cons.mp nd).1 (List.of_mem_zip hv).1, if_pos hk]
    simp
  | p :: P, w :: vs, i + 1, m, nd, h1, h2, hk => by
    show bindL kindOf ((p, w) :: P.zip vs) m x = _
    unfold bindL
    exact bindL_get (i := i) (List.nodup_cons.mp nd).2 (by simpa using h1) (by simpa using h2) hk
theorem bindC_get {kindOf : Str → Option NameKind} {x : Str} {v : Value} : ∀ {P : List Str} {vs : List Value} {i : Nat} {m : Str → Option Value}, P.Nodup → P[i]? = some x → vs[i]? = some v → kindOf x ≠ some .local →
    bindC kindOf (P.zip vs) m x = some v
  | [], _, _, _, _, h, _, _ => by simp at h
  | _ :: _, [], _, _, _, _, h, _ => by simp at h
  | p :: P, w :: vs, 0, m, nd, h1, h2, hk => by
    simp at h1 h2; subst h1; subst h2
    show bindC kindOf ((p, w) :: P.zip vs) m p = _
    unfold bindC
    rw [bindC_out fun v hv => (List.nodup_cons.mp nd).1 (List.of_mem_zip hv).1, if_neg hk]
    simp
  | p :: P, w :: vs, i + 1, m, nd, h1, h2, hk => by
    show bindC kindOf ((p, w) :: P.zip vs) m x = _
    unfold bindC
    exact bindC_get (i := i) (List.nodup_cons.mp nd).2 (by simpa using h1) (by simpa using h2) hk
def start (N : List Str) (vs : List V) : St := vs.map some ++ List.replicate (N.length - vs.length) none
def cxOf (CX : CXT) (P : Program) (w : World) (K : PySem.W.Frag) (mg : Str → Option Value) (base : Heap) (N : List Str) (qual : Str) (scope : Scope) (f : Addr) (cd : Value) (A : Around) (outer : List Env) (s : Shared) (H : Hp) (E : XK) : Cx where
  prog := P
  w := w
  K := K
  mg := mg
  base := base
  A := A.deeper (envOfC qual scope s.heap.objs.size f cd)
  N := N
  s₀ := s
  H₀ := H
  env := envOfC qual scope s.heap.objs.size f cd
  outer := outer
  stack := envOfC qual scope s.heap.objs.size f cd :: outer
  ex := []
  calm := true
  fn := fun _ => true
  pn := []
  xe := fun e s' => wpAny (model P w) (A.deeper (envOfC qual scope s.heap.objs.size f cd)) (leaving (envOfC qual scope s.heap.objs.size f cd) e) (fun _ s'' => CX outer H s E e s'') (fun e' s'' => CX outer H s E e' s'') s'
theorem cell_has {sc : Scope} {n : Nat} {x : Str} (h : sc.names.lookup x = some .cell) : ∃ c, (cellsFrom n sc.names []).lookup x = some c := by
  have q := PySem.W.cellsFrom_some sc.names n [] (.inl h)
  exact Option.isSome_iff_exists.mp q
theorem inv_start {CX : CXT} {P : Program} {w : World} {K : PySem.W.Frag} {mg : Str → Option Value} {base : Heap} {N ps : List Str} {qual : Str} {scope : Scope} {f : Addr} {cd : Value} {A : Around} {outer : List Env} {s s1 : Shared} {H : Hp} {E : XK} {us : List Value} {vs : List V}
    (S : FnScope N ps scope) (hd : A.handled = none) (e0 : Env0 P w K mg base A outer s H) (hl : vs.length = ps.length) (r : Vals vs us)
    (x : InCallC s s.heap.objs.size (bindL (envOfC qual scope s.heap.objs.size f cd).kindOf (ps.zip us) fun _ => none) (cellsFrom (s.heap.objs.size + 1) scope.names []) (bindC (envOfC qual scope s.heap.objs.size f cd).kindOf (ps.zip us) fun _ => none) s1) :
    Inv (cxOf CX P w K mg base N qual scope f cd A outer s H E) [] (start N vs) H s1 := by
  have hpl : ps.length ≤ N.length := by have := congrArg List.length S.pre; rw [List.length_take] at this; omega
  obtain ⟨h1, tk, rfl, hk⟩ := x.done
  have noA : ∀ b : Addr, b ∉ (cxOf CX P w K mg base N qual scope f cd A outer s H E).ex := fun b z => absurd (show b ∈ ([] : List Addr) from z) (by simp)
  refine ⟨⟨e0.mod, S.kind, rfl, rfl, Nat.le_refl _, fun y z c h1 h2 => ?_, fun y hy => ?_, fun y c _ h => ?_, fun _ => hd, Around.frames_deeper e0.frames, .inr ⟨rfl, rfl⟩, fun b z => absurd z (noA b), e0.bs, e0.bsz, fun b _ _ => noA b, fun b z => absurd z (noA b), e0.funs, e0.frf⟩,
    rfl, e0.bare, Un.kept hk, ⟨_, x.toInCall.ns, fun i y v h1 h2 h3 => ?_⟩, fun y c h => ⟨_, x.cell y c h⟩, e0.hok.fresh (Nat.le_refl _), fun y c h => ?_, fun p hp => absurd (show p ∈ ([] : List (Addr × Obj)) from hp) (by simp), e0.hok.kept hk, ?_, trivial⟩
  · exact name_of_addr x.apart (PySem.mem_of_lookup h1) (PySem.mem_of_lookup h2)
  · have hy : scope.names.lookup y = some .cell ∨ scope.names.lookup y = some .free := hy
    rcases hy with hy | hy
    · exact cell_has hy
    · exact absurd rfl (S.nofree _ (PySem.mem_of_lookup hy))
  · exact Nat.le_of_lt (x.above y c (PySem.mem_of_lookup h))
  · have hi : i < vs.length := by
      unfold start at h2
      by_cases hi : i < vs.length
      · exact hi
      · rw [List.getElem?_append_right (by simpa using hi)] at h2
        rw [List.getElem?_replicate] at h2
        split at h2 <;> cases h2
    have ha : vs[i]? = some v := by
      unfold start at h2
      rw [List.getElem?_append_left (by simpa using hi), List.getElem?_map] at h2
      cases e : vs[i]? with
      | none => rw [e] at h2; cases h2
      | some a => rw [e] at h2; cases h2; rfl
    obtain ⟨u, hu, rv⟩ := r.get ha
    have hp : ps[i]? = some y := by
      rw [← S.pre, List.getElem?_take_of_lt (by omega)]; exact h1
    have ndP : ps.Nodup := by rw [← S.pre]; exact S.nd.sublist (List.take_sublist _ _)
    refine ⟨u, rv, ?_⟩
    rcases S.par y (List.mem_of_getElem? hp) with k | k
    · exact .inl ⟨k, bindL_get ndP hp hu k⟩
    · obtain ⟨c, e⟩ := cell_has (n := s.heap.objs.size + 1) k
      refine .inr ⟨.inl k, c, e, ?_⟩
      have q := x.cell y c e
      rw [bindC_get ndP hp hu (by show scope.names.lookup y ≠ _; rw [k]; decide)] at q
      exact q
  · exact e0.hok.fresh (Nat.le_of_lt (x.above y c (PySem.mem_of_lookup h)))
  · unfold start
    show _ = N.length
    rw [List.length_append, List.length_map, List.length_replicate]
    omega
theorem fn_of {CX : CXT} {P : Program} {w : World} {K : PySem.W.Frag} {mg : Str → Option Value} {base : Heap} {k : Nat} {f : Addr} {name qual : Str} {params : Arguments} {body : List Stmt} {scope : Scope} {dV kV doc pm cdv ct oc : Value} {an od : Option Addr}
    {osl : Array (Option Value)} {N ps : List Str} {sp : Sp} (lk : K.lookup f = some ⟨oc, od, .func (PySem.W.fnOf name qual params body scope dV kV doc pm an cdv ct), osl⟩) (hcd : PySem.W.codeIn K cdv qual = true) (S : FnScope N ps scope)
    (len : ∀ vs H Q E, sp vs H Q E → vs.length = ps.length)
    (hbody : ∀ (A : Around) (outer : List Env) (s : Shared) (H : Hp) (vs : List V) (Q : VK) (E : XK), Room k (A.deeper (envOfC qual scope s.heap.objs.size f cdv)) → sp vs H Q E →
      ∃ t, PSs (cxOf CX P w K mg base N qual scope f cdv A outer s H E) body t ∧ t { nx := fun _ H' => Q .non H', rt := Q } (start N vs) H) :
    FnOk P w K mg base CX (k + 1) f (PySem.W.fnOf name qual params body scope dV kV doc pm an cdv ct) ps sp := by
  refine ⟨len, fun A outer s H args us vs Q E hr e0 hb r hsp => ?_⟩
  have hl := len _ _ _ _ hsp
  have KX : K.In s.heap := e0.mod.kin.keeps fun b o e => (e0.bs b o e).1
  have lim : s.heap.NoLimit := e0.mod.nolimit.keeps fun b o e => (e0.bs b o e).1
  have hkind : ∀ y ∈ ps.zip us, scope.names.lookup y.1 = some .local ∨ (scope.names.lookup y.1 = some .cell ∧ ((cellsFrom (s.heap.objs.size + 1) scope.names []).lookup y.1).isSome = true) := fun ⟨n, v⟩ hy => by
    rcases S.par n (List.of_mem_zip hy).1 with q | q
    · exact .inl q
    · exact .inr ⟨q, PySem.W.cellsFrom_some _ _ _ (.inl q)⟩
  refine codeAny_call_function hr.depth (KX _ _ lk) rfl S.co S.gen rfl (PySem.W.codeRec_of KX hcd) (hb _ _ _ _ ?_)
  refine wpAny_newFunctionEnv_cells S.kind hkind fun env he s1 x => ?_
  subst he
  refine ⟨lim.keeps x.toInCall.keep, codeAny_func ?_⟩
  obtain ⟨t, ht, hq⟩ := hbody A outer s H vs Q E (hr.deeper _) hsp
  have I : Inv (cxOf CX P w K mg base N qual scope f cdv A outer s H E) [] (start N vs) H s1 := inv_start S hr.hd e0 hl r x
  refine wpAny_mono (ht [] s1 (start N vs) H _ I hq) (fun fl s' hs => ?_) fun e s' hs => hs
  have fin : ∀ {σ' : St} {H' : Hp} {v : V} {u : Value}, Inv (cxOf CX P w K mg base N qual scope f cdv A outer s H E) [] σ' H' s' → RelV v u → Q v H' → CE outer P w H s Q u s' :=
    fun {σ' H' v u} J rv q => ⟨v, H', J.os, J.bare, J.base, J.hok, rv, q⟩
  cases fl with
  | ret u =>
    obtain ⟨v, σ', H', J, rv, q⟩ := hs
    exact fin J rv q
  | next =>
    obtain ⟨σ', H', J, q⟩ := hs
    exact fin (v := V.non) (u := Value.none) J rfl q
  | brk =>
    obtain ⟨_, _, _, q⟩ := hs
    exact False.elim q
  | cont =>
    obtain ⟨_, _, _, q⟩ := hs
    exact False.elim q
end L2
namespace L2
open PySem PySem.Spec PyProof.Rows
section
variable {X : Cx} {x : Str} {p pos : Pos} {e : Expr} {es : List Expr} {t : TA} {id T : String} {r : List V → Hp → VK → Prop}
def tCB (r : List V → Hp → VK → Prop) (t : TA) : TE := fun σ H Q => t σ H fun vs H1 => r vs H1 Q
theorem pe_callB (hc : CallR X (.builtin id) r) (hg : Gl X x) (hm : X.mg x = none) (hv : bootBuiltins x = some (.builtin id)) (ha : PA X (e :: es) t) (hn : x ≠ "__name__" := by decide) (hdb : (x == ("__debug__" : Str)) = false := by decide)
    (he : starEach (e :: es) X.env = (false, eval e X.env) :: starEach es X.env := by rfl) (hpl : (backTo pos (starEach es X.env)).any (·.1) = false := by rfl) : PE X (.Call (.Name x p) (e :: es) [] pos) (tCB r t) := by
  intro pins s σ H Q I h
  refine wpAny_Call_Name_kw (ld_blt I hg hm hv ?_ hn hdb)
  exact PyProof.Rows.callWith_builtin1 (thn (ha pos pins s σ H _ I h) fun us s1 ⟨vs, H1, I1, r1, q1⟩ => hc pins s1 σ H1 vs us Q I1 r1 q1) he hpl
theorem pe_callTy (hc : CallR X (.type T) r) (hg : Gl X x) (hm : X.mg x = none) (hv : bootBuiltins x = some (.type T)) (ha : PA X (e :: es) t) (hn : x ≠ "__name__" := by decide) (hdb : (x == ("__debug__" : Str)) = false := by decide)
    (he : starEach (e :: es) X.env = (false, eval e X.env) :: starEach es X.env := by rfl) (hpl : (backTo pos (starEach es X.env)).any (·.1) = false := by rfl) : PE X (.Call (.Name x p) (e :: es) [] pos) (tCB r t) := by
  intro pins s σ H Q I h
  refine wpAny_Call_Name_kw (ld_blt I hg hm hv ?_ hn hdb)
  exact PyProof.Rows.callWith_type1 (thn (ha pos pins s σ H _ I h) fun us s1 ⟨vs, H1, I1, r1, q1⟩ => hc pins s1 σ H1 vs us Q I1 r1 q1) he hpl
end
end L2
namespace HT
open PySem PyProof.Rows
section
open PySem.SeqAt
open PySem.AutoSeq1 (wpAny_loadPart')
open PySem.MeetsSeq PySem.MeetsSeq2 PySem.MeetsSeq3
end
section
variable {prog : Program} {w : World} {A : Around} {E : Value → Shared → Prop} {s : Shared}
def sIx (n d : Nat) : Option Int → Nat
  | none => d
  | some v => if v < 0 then (v + (n : Int)).toNat else min v.toNat n
theorem sIx_none (n d : Nat) : sIx n d none = d := rfl
theorem sIx_nat (n d k : Nat) : sIx n d (some (k : Int)) = min k n := by
  show (if (k : Int) < 0 then ((k : Int) + (n : Int)).toNat else min (k : Int).toNat n) = min k n
  rw [if_neg (by omega), Int.toNat_natCast]
theorem sIx_le (n d : Nat) (hd : d ≤ n) (o : Option Int) : sIx n d o ≤ n := by
  cases o with
  | none => exact hd
  | some v =>
    show (if v < 0 then (v + (n : Int)).toNat else min v.toNat n) ≤ n
    by_cases hv : v < 0
    · rw [if_pos hv]; omega
    · rw [if_neg hv]; exact Nat.min_le_right _ _
theorem clip_eq (v : Int) (n d : Nat) : (if v < 0 then max (v + (n : Int)) 0 else min v (n : Int)) = ((sIx n d (some v) : Nat) : Int) := by
  show (if v < 0 then max (v + (n : Int)) 0 else min v (n : Int)) = (((if v < 0 then (v + (n : Int)).toNat else min v.toNat n) : Nat) : Int)
  by_cases hv : v < 0
  · simp only [if_pos hv]; omega
  · simp only [if_neg hv]; omega
theorem adjust_gen (lo hi : Option Int) (n : Nat) : Builtin.Slice.sliceAdjust lo hi 1 (n : Int) = (((sIx n 0 lo : Nat) : Int), ((sIx n n hi : Nat) : Int)) := by
  have h1 : ¬ ((1 : Int) < 0) := by omega
  unfold Builtin.Slice.sliceAdjust
  simp only [h1, if_false]
  refine Prod.ext ?_ ?_
  · cases lo with
    | none => rfl
    | some v => exact clip_eq v n 0
  · cases hi with
    | none => rfl
    | some v => exact clip_eq v n n
theorem places_gen (i j : Nat) : Builtin.Slice.slicePlaces (i : Int) (j : Int) 1 = j - i := by
  unfold Builtin.Slice.slicePlaces
  have h1 : (1 : Int) > 0 := by omega
  simp only [h1, if_true, Int.ediv_one]
  split <;> omega
theorem slicePart_ {v : Value} {o : Option Int} {Q : Option Int → Shared → Prop} (p : IsPart v o) (h : Q o s) : wpAny (model prog w) A (Builtin.Slice.slicePartIndex v) Q E s := by
  cases p with
  | none => exact slicePart_none h
  | int i t => exact slicePart_int h
theorem sliceApplied_gen {sl : Addr} {vl vu : Value} {lo hi : Option Int} {n : Nat} {Q : Int × Int × Nat → Shared → Prop} (hs : s.heap.IsSliceOf sl vl vu .none) (pl : IsPart vl lo) (pu : IsPart vu hi)
    (h : Q (((sIx n 0 lo : Nat) : Int), 1, sIx n n hi - sIx n 0 lo) s) : wpAny (model prog w) A (Builtin.Slice.sliceApplied (.ref sl) (pure (n : Int))) Q E s := by
  obtain ⟨os, hos, hcs, hds⟩ := id hs
  unfold Builtin.Slice.sliceApplied Builtin.Slice.sliceFields
  refine wpAny_bind (wpAny_bind (wpAny_field hos hds (x := vl) rfl (wpAny_bind (wpAny_field hos hds (x := vu) rfl (wpAny_bind (wpAny_field hos hds (x := .none) rfl (wpAny_pure ?_)))))))
  refine wpAny_bind (slicePart_none ?_)
  show wpAny _ _ (if ((1 : Int) == 0) = true then _ else _) _ _ s
  rw [if_neg (by decide)]
  refine wpAny_bind (slicePart_ pl (wpAny_bind (slicePart_ pu (wpAny_bind (wpAny_pure ?_)))))
  show wpAny _ _ (match Builtin.Slice.sliceAdjust lo hi 1 (n : Int) with | (lo, hi) => pure (lo, (1 : Int), Builtin.Slice.slicePlaces lo hi 1)) _ _ s
  rw [adjust_gen lo hi n]
  show wpAny _ _ (pure (((sIx n 0 lo : Nat) : Int), (1 : Int), Builtin.Slice.slicePlaces ((sIx n 0 lo : Nat) : Int) ((sIx n n hi : Nat) : Int) 1)) _ _ s
  rw [places_gen]
  exact wpAny_pure h
theorem pick_gen (xs : Array Value) (i k : Nat) : ((List.range k).filterMap fun (m : Nat) => xs[((i : Int) + (m : Int) * 1).toNat]?).toArray = ((xs.toList.drop i).take k).toArray := by
  have e : (fun (m : Nat) => xs[((i : Int) + (m : Int) * 1).toNat]?) = fun m => xs[i + m]? := by
    funext m
    have : ((i : Int) + (m : Int) * 1).toNat = i + m := by omega
    rw [this]
  rw [e]
  have := pick_run xs i k
  rw [List.filterMap_map] at this
  have e2 : ((fun x => xs[x]?) ∘ fun x => i + x) = fun m => xs[i + m]? := rfl
  rw [e2] at this
  rw [this]
theorem getItem_tuple_cut {t sl : Addr} {items : Array Value} {vl vu : Value} {lo hi : Option Int} {Q : Value → Shared → Prop} (ht : IsTup s.heap t items) (hs : s.heap.IsSliceOf sl vl vu .none) (pl : IsPart vl lo) (pu : IsPart vu hi)
    (hw : ¬ (sIx items.size 0 lo = 0 ∧ sIx items.size items.size hi = items.size))
    (h : Q (.ref s.heap.objs.size) { s with heap := s.heap.push { cls := .type "tuple", data := .seq ((items.toList.drop (sIx items.size 0 lo)).take (sIx items.size items.size hi - sIx items.size 0 lo)).toArray } })
    (hsz : items.size ≤ sizeLine) : wpAny (model prog w) A (getItem (.ref t) (.ref sl)) Q E s := by
  have htake : sizeOk (.seq ((items.toList.drop (sIx items.size 0 lo)).take (sIx items.size items.size hi - sIx items.size 0 lo)).toArray) := by
    show ((items.toList.drop (sIx items.size 0 lo)).take (sIx items.size items.size hi - sIx items.size 0 lo)).toArray.size ≤ sizeLine
    rw [List.size_toArray, List.length_take, List.length_drop, Array.length_toList]
    omega
  have hj : sIx items.size items.size hi ≤ items.size := sIx_le _ _ (Nat.le_refl _) hi
  obtain ⟨os, hos, hcs, hds⟩ := id hs
  have hTs : s.TypeIs (.ref sl) "slice" := ⟨os, hos, hcs⟩
  unfold getItem
  try with_reducible refine wpAny_holding ?_
  first | refine wpAny_bind (wpAny_pure ?_) | skip
  refine wpAny_bind (wpAny_sequenceKey ht.typeIs (by decide) ?_)
  refine wpAny_bind (wpAny_callSpecial?_slot (name := Str.ofString "__getitem__") ht.typeIs PyProof.Rows.slot_tuple_getitem
    (wpAny_call_entry PyProof.Rows.slot_tuple_getitem ht.typeIs entry_tuple_getitem ?_ (args_tuple_getitem _ _)))
  show wpAny _ _ (Builtin.Tuple.tupleItemsOf (.ref t) >>= _) _ _ s
  refine wpAny_bind (tupleItemsOf_ ht ?_)
  refine wpAny_bind (wpAny_typeOf hTs ?_)
  rw [if_pos (by decide)]
  refine wpAny_bind (sliceApplied_gen hs pl pu ?_)
  have hno : ¬ ((((sIx items.size 0 lo : Nat) : Int) == 0 && (1 : Int) == 1 && (sIx items.size items.size hi - sIx items.size 0 lo) == items.size) = true) := by
    intro q
    rw [Bool.and_eq_true, Bool.and_eq_true] at q
    have q1 : ((sIx items.size 0 lo : Nat) : Int) = 0 := eq_of_beq q.1.1
    have q2 : sIx items.size items.size hi - sIx items.size 0 lo = items.size := eq_of_beq q.2
    exact hw ⟨by omega, by omega⟩
  show wpAny _ _ (if (((sIx items.size 0 lo : Nat) : Int) == 0 && (1 : Int) == 1 && (sIx items.size items.size hi - sIx items.size 0 lo) == items.size) = true then _ else _) _ _ s
  rw [if_neg hno, pick_gen]
  first
    | exact wpAny_bind (m := Builtin.Tuple.tupleExact _) (wpAny_newObj_type (wpAny_pure ⟨_, rfl, wpAny_pure h⟩) htake)
    | exact wpAny_bind (m := Builtin.Tuple.tupleExact _) (wpAny_newObj_type (wpAny_bind (wpAny_pure (wpAny_pure ⟨_, rfl, wpAny_pure h⟩))) htake)
    | exact wpAny_bind (wpAny_bind (m := Builtin.Tuple.tupleExact _) (wpAny_newObj_type (wpAny_pure (wpAny_pure ⟨_, rfl, wpAny_pure h⟩)) htake))
    | exact wpAny_bind (wpAny_bind (m := Builtin.Tuple.tupleExact _) (wpAny_newObj_type (wpAny_pure ⟨_, rfl, wpAny_pure h⟩) htake))
end
end HT
namespace L2
open PySem PySem.Spec PyProof.Rows
abbrev TO := St → Hp → (Option Int → Hp → Prop) → Prop
def PO (X : Cx) (e : Option Expr) (t : TO) : Prop :=
  ∀ (pins : List (Addr × Obj)) (s : Shared) (σ : St) (H : Hp) (Q : Option Int → Hp → Prop), Inv X pins σ H s → t σ H Q →
    wpAny (model X.prog X.w) X.A (evalPart e X.env) (fun u s' => ∃ o H', Inv X pins σ H' s' ∧ IsPart u o ∧ Q o H') X.xe s
def tNoPart : TO := fun _ H Q => Q none H
def tPart (t : TE) : TO := fun σ H Q => t σ H fun x H1 => ∃ i, x = .int i ∧ Q (some i) H1
section
variable {X : Cx} {e : Expr} {te : TE} {lo hi : Option Expr} {tl th : TO} {pos p2 : Pos}
theorem po_none : PO X none tNoPart := by
  intro pins s σ H Q I h
  rw [evalPart_none]
  exact wpAny_pure ⟨none, H, I, .none, h⟩
theorem po_some (h : PE X e te) : PO X (some e) (tPart te) := by
  intro pins s σ H Q I hw
  rw [evalPart_some]
  refine thn (h pins s σ H _ I hw) fun u s1 ⟨x, H1, I1, r1, q1⟩ => ?_
  obtain ⟨i, rfl, q⟩ := q1
  obtain ⟨t, rfl⟩ := r1
  exact ⟨some i, H1, I1, .int i t, q⟩
def SlR (X : Cx) (r : V → Option Int → Option Int → Hp → VK → Prop) : Prop :=
  ∀ (pins : List (Addr × Obj)) (s : Shared) (σ : St) (H : Hp) (x : V) (v vl vu : Value) (lo hi : Option Int) (sl : Addr) (Q : VK), Inv X pins σ H s → RelV x v → s.heap.IsSliceOf sl vl vu .none → IsPart vl lo → IsPart vu hi → r x lo hi H Q →
    ∃ T id, typeLookup (.type T) "__getitem__" = pure (some (.builtin id)) ∧ s.TypeIs v T ∧ wpAny (model X.prog X.w) X.A (getItem v (.ref sl)) (EP X pins σ Q) X.xe s
theorem SlR.or {r r' : V → Option Int → Option Int → Hp → VK → Prop} (h : SlR X r) (h' : SlR X r') : SlR X (fun x lo hi H Q => r x lo hi H Q ∨ r' x lo hi H Q) := by
  intro pins s σ H x v vl vu lo hi sl Q I rx hs pl pu q
  rcases q with q | q
  · exact h pins s σ H x v vl vu lo hi sl Q I rx hs pl pu q
  · exact h' pins s σ H x v vl vu lo hi sl Q I rx hs pl pu q
def tSl (r : V → Option Int → Option Int → Hp → VK → Prop) (te : TE) (tl th : TO) : TE := fun σ H Q => te σ H fun x H1 => tl σ H1 fun l H2 => th σ H2 fun u H3 => r x l u H3 Q
theorem pe_slice {r : V → Option Int → Option Int → Hp → VK → Prop} (hr : SlR X r) (he : PE X e te) (hl : PO X lo tl) (hu : PO X hi th) : PE X (.Subscript e (.Slice lo hi none p2) pos) (tSl r te tl th) := by
  intro pins s σ H Q I h
  refine Subscript_ (thn (he pins s σ H _ I h) fun v s1 ⟨x, H1, I1, r1, q1⟩ => ?_)
  refine wpAny_Slice (thn (hl pins s1 σ H1 _ I1 q1) fun vl s2 ⟨l, H2, I2, pl, q2⟩ => thn (hu pins s2 σ H2 _ I2 q2) fun vu s3 ⟨u, H3, I3, pu, q3⟩ => ?_)
  rw [evalPart_none]
  refine wpAny_pure ?_
  have I4 : Inv X pins σ H3 { s3 with heap := s3.heap.push { cls := .type "slice", data := .fields #[vl, vu, .none] } } := I3.kept (t' := s3.toks) fun b ob q => Heap.get?_push_of_some _ q
  obtain ⟨T, id, hT, ht, hg⟩ := hr pins { s3 with heap := s3.heap.push { cls := .type "slice", data := .fields #[vl, vu, .none] } } σ H3 x v vl vu l u s3.heap.objs.size Q I4 r1 (Heap.IsSliceOf.new ..) pl pu q3
  show wpAny (model X.prog X.w) X.A (subscriptTail e (.Slice lo hi none p2) v (.ref s3.heap.objs.size)) (EP X pins σ Q) X.xe { s3 with heap := s3.heap.push { cls := .type "slice", data := .fields #[vl, vu, .none] } }
  exact tail_any (ops := [.ref s3.heap.objs.size, v]) ht hT hg (by with_unfolding_all rfl)
def cutV (xs : List V) (lo hi : Option Int) : List V := (xs.drop (HT.sIx xs.length 0 lo)).take (HT.sIx xs.length xs.length hi - HT.sIx xs.length 0 lo)
theorem cutV_length (xs : List V) (lo hi : Option Int) : (cutV xs lo hi).length ≤ xs.length := by
  unfold cutV
  rw [List.length_take, List.length_drop]
  omega
def rSlT (K : PySem.W.Frag) : V → Option Int → Option Int → Hp → VK → Prop := fun x lo hi H Q => ∃ a xs, x = .ref a ∧ SqT K H a xs ∧
  ¬ (HT.sIx xs.length 0 lo = 0 ∧ HT.sIx xs.length xs.length hi = xs.length) ∧ ∀ p, H p = none → Q (.ref p) (upd H p (.tup (cutV xs lo hi)))
theorem sl_tup : SlR X (rSlT X.K) := by
  intro pins s σ H x v vl vu lo hi sl Q I rx hs pl pu h
  obtain ⟨a, xs, rfl, hx, hw, q⟩ := h
  cases rx
  obtain ⟨its, r, ht, hz⟩ := I.tuple hx
  have hlen : its.toArray.size = xs.length := by rw [List.size_toArray]; exact r.length.symm
  refine ⟨"tuple", _, PyProof.Rows.slot_tuple_getitem.lookup, ht.typeIs, ?_⟩
  refine HT.getItem_tuple_cut ht hs pl pu (by rw [hlen]; exact hw) ?_ (by rw [hlen]; exact hz)
  rw [hlen]
  refine ⟨.ref s.heap.objs.size, _, I.laid (t' := s.toks) (o := .tup (cutV xs lo hi)) (fun b ob q => Heap.get?_push_of_some _ q) (Nat.le_refl _) ?_, rfl, q _ (I.hok.fresh (Nat.le_refl _))⟩
  exact ⟨Nat.le_trans (cutV_length xs lo hi) hz, _, (r.drop (HT.sIx xs.length 0 lo)).take (HT.sIx xs.length xs.length hi - HT.sIx xs.length 0 lo), IsTup.new _ _⟩
end
end L2
namespace L2
open PySem PySem.Spec PyProof.Rows
def ixN (n : Nat) (i : Int) : Option Nat := if 0 ≤ i then (if i < n then some i.toNat else none) else if -(n : Int) ≤ i then some (i + n).toNat else none
def atI {α : Type} (xs : List α) (i : Int) : Option α := (ixN xs.length i).bind fun j => xs[j]?
theorem ixN_seq {n : Nat} {i : Int} {j : Nat} (h : ixN n i = some j) : seqIndex? i n = some j ∧ j < n ∧ -(n : Int) ≤ i ∧ i < n := by
  unfold ixN at h
  by_cases h0 : 0 ≤ i
  · rw [if_pos h0] at h
    by_cases h1 : i < n
    · rw [if_pos h1] at h
      have e : i.toNat = j := Option.some.inj h
      exact ⟨by rw [seqIndex_of h0 h1, e], by omega, by omega, h1⟩
    · rw [if_neg h1] at h; cases h
  · rw [if_neg h0] at h
    by_cases h1 : -(n : Int) ≤ i
    · rw [if_pos h1] at h
      have e : (i + n).toNat = j := Option.some.inj h
      exact ⟨by rw [seqIndex_neg (by omega) h1, e], by omega, h1, by omega⟩
    · rw [if_neg h1] at h; cases h
theorem atI_get {α : Type} {xs : List α} {i : Int} {v : α} (h : atI xs i = some v) : ∃ j, seqIndex? i xs.length = some j ∧ xs[j]? = some v ∧ j < xs.length ∧ -(xs.length : Int) ≤ i ∧ i < xs.length := by
  unfold atI at h
  cases e : ixN xs.length i with
  | none => rw [e] at h; cases h
  | some j =>
    rw [e] at h
    obtain ⟨h1, h2, h3, h4⟩ := ixN_seq e
    exact ⟨j, h1, h, h2, h3, h4⟩
theorem atI_nat {α : Type} {xs : List α} {j : Nat} {v : α} (h : xs[j]? = some v) : atI xs (j : Int) = some v := by
  have hj : j < xs.length := (List.getElem?_eq_some_iff.mp h).1
  have e : ixN xs.length (j : Int) = some j := by
    unfold ixN
    rw [if_pos (by omega), if_pos (by omega)]; simp
  unfold atI; rw [e]; exact h
theorem atI_last {α : Type} (xs : List α) (v : α) : atI (xs ++ [v]) (-1) = some v := by
  have hl : (xs ++ [v]).length = xs.length + 1 := by simp
  have e : ixN (xs ++ [v]).length (-1) = some xs.length := by
    unfold ixN
    rw [hl, if_neg (by decide), if_pos (by omega)]
    congr 1
    omega
  unfold atI
  rw [e]
  show (xs ++ [v])[xs.length]? = some v
  simp
def PlainIx (b : Expr) : Prop := ∀ o i, subscripted b false o i = operate [o, i] (getItem o i)
def IxR (X : Cx) (r : R2) : Prop :=
  ∀ (value slice : Expr) (pins : List (Addr × Obj)) (s : Shared) (σ : St) (H : Hp) (x y : V) (v u : Value) (Q : VK), Inv X pins σ H s → RelV x v → RelV y u → r x y H Q →
    subscripted slice false v u = operate [v, u] (getItem v u) → wpAny (model X.prog X.w) X.A (subscriptTail value slice v u) (EP X pins σ Q) X.xe s
def MtR (X : Cx) (id : String) (r : V → List V → Hp → VK → Prop) : Prop :=
  ∀ (pins : List (Addr × Obj)) (s : Shared) (σ : St) (H : Hp) (x : V) (xs : List V) (v : Value) (us : List Value) (Q : VK), Inv X pins σ H s → RelV x v → Vals xs us → r x xs H Q →
    wpAny (model X.prog X.w) X.A (call (.builtin id) (v :: us)) (EP X pins σ Q) X.xe s
section
variable {X : Cx} {a b : Expr} {ta tb : TE} {pos : Pos}
theorem IxR.or {r r' : R2} (h : IxR X r) (h' : IxR X r') : IxR X (fun x y H Q => r x y H Q ∨ r' x y H Q) := by
  intro value slice pins s σ H x y v u Q I rx ry q hs
  rcases q with q | q
  · exact h value slice pins s σ H x y v u Q I rx ry q hs
  · exact h' value slice pins s σ H x y v u Q I rx ry q hs
theorem MtR.or {id : String} {r r' : V → List V → Hp → VK → Prop} (h : MtR X id r) (h' : MtR X id r') : MtR X id (fun x xs H Q => r x xs H Q ∨ r' x xs H Q) := by
  intro pins s σ H x xs v us Q I rx rs q
  rcases q with q | q
  · exact h pins s σ H x xs v us Q I rx rs q
  · exact h' pins s σ H x xs v us Q I rx rs q
theorem pe_ix {r : R2} (hr : IxR X r) (ha : PE X a ta) (hb : PE X b tb) (hs : PlainIx b) : PE X (.Subscript a b pos) (tOp r ta tb) := by
  intro pins s σ H Q I h
  exact Subscript_ (binT ha hb I h fun v u s2 x y H2 I2 rx ry q => hr a b pins s2 σ H2 x y v u Q I2 rx ry q (hs _ _))
def rIxL (K : PySem.W.Frag) : R2 := fun x y H Q => ∃ p xs i v, x = .ref p ∧ y = .int i ∧ SqL K H p xs ∧ atI xs i = some v ∧ Q v H
def rIxT (K : PySem.W.Frag) : R2 := fun x y H Q => ∃ p xs i v, x = .ref p ∧ y = .int i ∧ SqT K H p xs ∧ atI xs i = some v ∧ Q v H
def rIxS : R2 := fun x y H Q => ∃ z i c, x = .str z ∧ y = .int i ∧ z.length ≤ sizeLine ∧ atI z.cps.toList i = some c ∧ Q (.str ⟨#[c]⟩) H
theorem ix_list : IxR X (rIxL X.K) := by
  intro value slice pins s σ H x y v u Q I rx ry h hs
  obtain ⟨p, xs, i, z, rfl, rfl, hq, he, q⟩ := h
  cases rx
  obtain ⟨t, rfl⟩ := ry
  obtain ⟨its, r, pl, hz⟩ := I.list hq
  obtain ⟨j, h1, h2, h3, h4, h5⟩ := atI_get he
  obtain ⟨w, ew, rw'⟩ := r.get h2
  have hl := r.length
  have hn := line63
  have fin : EP X pins σ Q w s := ⟨z, H, I, rw', q⟩
  by_cases h0 : 0 ≤ i
  · have hj : i.toNat = j := by
      rw [seqIndex_of h0 h5] at h1
      exact Option.some.inj h1
    exact item_listR pl.isList h0 (by omega) (by rw [hj]; simpa using ew) fin hs
  · have hj : (i + (its.toArray.size : Int)).toNat = j := by
      rw [seqIndex_neg (by omega) h4] at h1
      rw [List.size_toArray, ← hl]
      exact Option.some.inj h1
    exact subscriptTail_builtinR (x := w) pl.isList.typeIs slot_list_getitem.lookup
      (wpAny_getItem_list_neg (Q := fun r s' => r = w ∧ EP X pins σ Q r s') pl.isList (by omega) (by rw [List.size_toArray] <;> omega) (by omega) (by rw [hj]; simpa using ew) ⟨rfl, fin⟩) hs
theorem ix_tup : IxR X (rIxT X.K) := by
  intro value slice pins s σ H x y v u Q I rx ry h hs
  obtain ⟨p, xs, i, z, rfl, rfl, hq, he, q⟩ := h
  cases rx
  obtain ⟨t, rfl⟩ := ry
  obtain ⟨its, r, pl, hz⟩ := I.tuple hq
  obtain ⟨j, h1, h2, h3, h4, h5⟩ := atI_get he
  obtain ⟨w, ew, rw'⟩ := r.get h2
  have hl := r.length
  have hn := line63
  have fin : EP X pins σ Q w s := ⟨z, H, I, rw', q⟩
  exact subscriptTail_builtinR (x := w) pl.typeIs slot_tuple_getitem.lookup
    (getItem_tuple (j := j) (Q := fun r s' => r = w ∧ EP X pins σ Q r s') pl (by omega) (by omega) (by rw [List.size_toArray, ← hl]; exact h1) (by simpa using ew) ⟨rfl, fin⟩) hs
theorem ix_str : IxR X rIxS := by
  intro value slice pins s σ H x y v u Q I rx ry h hs
  obtain ⟨z, i, c, rfl, rfl, hz, he, q⟩ := h
  obtain ⟨t, rfl⟩ := rx
  obtain ⟨t', rfl⟩ := ry
  obtain ⟨j, h1, h2, h3, h4, h5⟩ := atI_get he
  have hl : z.cps.toList.length = z.length := by simp [Str.length]
  rw [hl] at h1 h4 h5
  have hn := line63
  exact tail_any (typeIs_str s z t) slot_str_getitem.lookup (getItem_str (c := c) (by
    have e1 : decide (i < -(2 ^ 63 : Int)) = false := decide_eq_false (by omega)
    have e2 : decide (i ≥ 2 ^ 63) = false := decide_eq_false (by omega)
    rw [e1, e2, Bool.or_false]) (by rw [h1]; simpa using h2) ⟨.str ⟨#[c]⟩, H, I.tok _, ⟨_, rfl⟩, q⟩) hs
def rIx (K : PySem.W.Frag) : R2 := fun x y H Q => rIxL K x y H Q ∨ rIxT K x y H Q ∨ rIxS x y H Q
theorem ix_seq : IxR X (rIx X.K) := ix_list.or (ix_tup.or ix_str)
theorem mapSeq_set (its : List Value) (n j : Nat) (u : Value) : Obj.mapSeq (·.setIfInBounds j u) { cls := .type "list", data := .seq its.toArray n } = { cls := .type "list", data := .seq (its.set j u).toArray n } := by
  simp [Obj.mapSeq]
theorem Inv.lst {pins : List (Addr × Obj)} {σ : St} {H : Hp} {s : Shared} {p : Addr} {xs : List V} (I : Inv X pins σ H s) (h : H p = some (.lst xs)) :
    ∃ (its : List Value) (n : Nat), Vals xs its ∧ s.heap.get? p = some { cls := .type "list", data := .seq its.toArray n } ∧ xs.length ≤ sizeLine := by
  obtain ⟨z, its, n, r, e⟩ := I.hok p _ h
  exact ⟨its, n, r, e, z⟩
theorem Inv.lstUpd {pins : List (Addr × Obj)} {σ : St} {H : Hp} {s : Shared} {p : Addr} {xs ys : List V} {its its' : List Value} {n n' : Nat} {f : Obj → Obj} (I : Inv X pins σ H s) (h : H p = some (.lst xs))
    (ho : s.heap.get? p = some { cls := .type "list", data := .seq its.toArray n }) (hf : f { cls := .type "list", data := .seq its.toArray n } = { cls := .type "list", data := .seq its'.toArray n' }) (r : Vals ys its') (hz : ys.length ≤ sizeLine) (t : Nat) :
    Inv X pins σ (upd H p (.lst ys)) { s with heap := s.heap.update p f, toks := t } := by
  have e : (s.heap.update p f).get? p = some { cls := .type "list", data := .seq its'.toArray n' } := by
    rw [Heap.get?_update_self f ho (by rw [hf] <;> rfl), hf]
  refine I.write (x := p) (e := p) (by rw [h]; trivial) (.inl rfl) (fun b u hb q => (Heap.get?_update_other _ _ (Ne.symm hb)).trans q) ⟨_, e⟩ ?_
  exact ⟨hz, its', n', r, e⟩
def rSetL : V → V → V → Hp → (Hp → Prop) → Prop := fun o i v H Q => ∃ p xs k j, o = .ref p ∧ i = .int k ∧ H p = some (.lst xs) ∧ ixN xs.length k = some j ∧ Q (upd H p (.lst (xs.set j v)))
theorem set_list : PSet X rSetL := by
  intro pins s σ H o i v ov iv u Q I ro ri rv h
  obtain ⟨p, xs, k, j, rfl, rfl, hp, hj, q⟩ := h
  cases ro
  obtain ⟨t, rfl⟩ := ri
  obtain ⟨its, n, r, ho, hz⟩ := I.lst hp
  obtain ⟨h1, h2, h3, h4⟩ := ixN_seq hj
  have hl := r.length
  have hn := line63
  have I' : Inv X pins σ (upd H p (.lst (xs.set j v))) { s with heap := s.heap.update p (Obj.mapSeq (·.setIfInBounds j u)) } :=
    I.lstUpd hp ho (mapSeq_set its n j u) (r.set rv j) (by rw [List.length_set]; exact hz) s.toks
  by_cases h0 : 0 ≤ k
  · have hk : k.toNat = j := by
      rw [seqIndex_of h0 h4] at h1
      exact Option.some.inj h1
    exact PySem.W.ki_setAt ho h0 (by omega) (by rw [List.size_toArray, ← hl]; exact h4) (by rw [hk]; exact ⟨_, I', q⟩)
  · have hk : (k + (its.toArray.size : Int)).toNat = j := by
      rw [seqIndex_neg (by omega) h3] at h1
      rw [List.size_toArray, ← hl]
      exact Option.some.inj h1
    exact PySem.W.ki_setBack ho (by omega) (by rw [List.size_toArray, ← hl]; exact h3) (by omega) (by rw [hk]; exact ⟨_, I', q⟩)
theorem slice_bounds (lo hi : Option Int) (n : Nat) : (sliceBounds lo hi none n).1 = ((HT.sIx n 0 lo : Nat) : Int) ∧ (sliceBounds lo hi none n).2.1 = ((HT.sIx n n hi : Nat) : Int) ∧ (sliceBounds lo hi none n).2.2 = 1 := by
  refine ⟨?_, ?_, rfl⟩
  · cases lo with
    | none => simp [sliceBounds, HT.sIx]
    | some i =>
      simp only [sliceBounds, HT.sIx, Option.getD_none, show (1 : Int) > 0 by decide, if_true]
      by_cases h : i < 0
      · simp only [h, if_true] <;> omega
      · simp only [h, if_false] <;> omega
  · cases hi with
    | none => simp [sliceBounds, HT.sIx]
    | some i =>
      simp only [sliceBounds, HT.sIx, Option.getD_none, show (1 : Int) > 0 by decide, if_true]
      by_cases h : i < 0
      · simp only [h, if_true] <;> omega
      · simp only [h, if_false] <;> omega
theorem slicePick_cut (its : List Value) (lo hi : Option Int) : slicePick its.toArray lo hi none = ((its.drop (HT.sIx its.length 0 lo)).take (HT.sIx its.length its.length hi - HT.sIx its.length 0 lo)).toArray := by
  obtain ⟨h1, h2, h3⟩ := slice_bounds lo hi its.toArray.size
  unfold slicePick
  rw [h1, h2, h3]
  simp only [sliceRange_one, pick_run, List.size_toArray] <;> rfl
def rSlL (K : PySem.W.Frag) : V → Option Int → Option Int → Hp → VK → Prop := fun x lo hi H Q => ∃ a xs, x = .ref a ∧ SqL K H a xs ∧ ∀ p, H p = none → Q (.ref p) (upd H p (.lst (cutV xs lo hi)))
theorem sl_list : SlR X (rSlL X.K) := by
  intro pins s σ H x v vl vu lo hi sl Q I rx hs pl pu h
  obtain ⟨a, xs, rfl, hx, q⟩ := h
  cases rx
  obtain ⟨its, r, ht, hz⟩ := I.list hx
  have hlen := r.length
  refine ⟨"list", _, slot_list_getitem.lookup, ht.isList.typeIs, ?_⟩
  refine wpAny_getItem_list_slice ht.isList hs pl pu .none (by simp) ?_ (by rw [List.size_toArray] <;> omega)
  rw [slicePick_cut, ← hlen]
  refine ⟨.ref s.heap.objs.size, _, I.laid (t' := s.toks) (o := .lst (cutV xs lo hi)) (fun b ob q => Heap.get?_push_of_some _ q) (Nat.le_refl _) ?_, rfl, q _ (I.hok.fresh (Nat.le_refl _))⟩
  exact ⟨Nat.le_trans (cutV_length xs lo hi) hz, _, 0, (r.drop (HT.sIx xs.length 0 lo)).take (HT.sIx xs.length xs.length hi - HT.sIx xs.length 0 lo), Heap.get?_push_size _ rfl⟩
def flatV : V → Bool
  | .non => true
  | .bl _ => true
  | .int _ => true
  | .str _ => true
  | _ => false
def eqV : V → V → Bool
  | .non, .non => true
  | .bl a, .bl b => a == b
  | .bl a, .int b => (if a then 1 else 0) == b
  | .int a, .bl b => a == (if b then 1 else 0)
  | .int a, .int b => a == b
  | .str a, .str b => a == b
  | _, _ => false
theorem eqAt_V {A : Around} {s : Shared} {y x : V} {u v : Value} (ry : RelV y u) (rx : RelV x v) (fy : flatV y = true) (fx : flatV x = true) : SeqAt.EqAt A s u v (eqV y x) := by
  cases y with
  | non =>
    cases ry
    cases x with
    | non => cases rx; exact SeqAt.EqAt.same _
    | bl b => cases rx; exact SeqAt.EqAt.none_bool b
    | int b => obtain ⟨t, rfl⟩ := rx; exact SeqAt.EqAt.none_int b t
    | str b => obtain ⟨t, rfl⟩ := rx; exact SeqAt.EqAt.none_str b t
    | _ => exact absurd (show false = true from fx) Bool.false_ne_true
  | bl a =>
    cases ry
    cases x with
    | non => cases rx; exact SeqAt.EqAt.bool_none a
    | bl b => cases rx; exact SeqAt.EqAt.bool_bool a b
    | int b => obtain ⟨t, rfl⟩ := rx; exact SeqAt.EqAt.bool_int a b t
    | str b => obtain ⟨t, rfl⟩ := rx; exact SeqAt.EqAt.bool_str a b t
    | _ => exact absurd (show false = true from fx) Bool.false_ne_true
  | int a =>
    obtain ⟨t', rfl⟩ := ry
    cases x with
    | non => cases rx; exact SeqAt.EqAt.int_none a t'
    | bl b => cases rx; exact SeqAt.EqAt.int_bool a t' b
    | int b => obtain ⟨t, rfl⟩ := rx; exact SeqAt.EqAt.int_int a t' b t
    | str b => obtain ⟨t, rfl⟩ := rx; exact SeqAt.EqAt.int_str a t' b t
    | _ => exact absurd (show false = true from fx) Bool.false_ne_true
  | str a =>
    obtain ⟨t', rfl⟩ := ry
    cases x with
    | non => cases rx; exact SeqAt.EqAt.str_none a t'
    | bl b => cases rx; exact SeqAt.EqAt.str_bool a t' b
    | int b => obtain ⟨t, rfl⟩ := rx; exact SeqAt.EqAt.str_int a t' b t
    | str b => obtain ⟨t, rfl⟩ := rx; exact SeqAt.EqAt.str_str a t' b t
    | _ => exact absurd (show false = true from fx) Bool.false_ne_true
  | _ => exact absurd (show false = true from fy) Bool.false_ne_true
def eqU (x : V) (u : Value) : Bool := match u with
  | .none => eqV .non x
  | .bool b => eqV (.bl b) x
  | .int i _ => eqV (.int i) x
  | .str z _ => eqV (.str z) x
  | _ => false
theorem eqU_of {x y : V} {u : Value} (r : RelV y u) (f : flatV y = true) : eqU x u = eqV y x := by
  cases y with
  | non => cases r; rfl
  | bl b => cases r; rfl
  | int i => obtain ⟨t, rfl⟩ := r; rfl
  | str z => obtain ⟨t, rfl⟩ := r; rfl
  | _ => exact absurd (show false = true from f) Bool.false_ne_true
theorem any_eqU {x : V} : ∀ {xs : List V} {us : List Value}, Vals xs us → xs.all flatV = true → us.any (eqU x) = xs.any fun y => eqV y x
  | _, _, .nil, _ => rfl
  | y :: xs, u :: us, .cons r t, f => by
    rw [List.all_cons, Bool.and_eq_true] at f
    rw [List.any_cons, List.any_cons, eqU_of r f.1, any_eqU t f.2]
theorem mem_eqAt {A : Around} {s : Shared} {x : V} {v : Value} (rx : RelV x v) (fx : flatV x = true) : ∀ {xs : List V} {us : List Value}, Vals xs us → xs.all flatV = true → ∀ u ∈ us, SeqAt.EqAt A s u v (eqU x u)
  | _, _, .nil, _ => fun u hu => by cases hu
  | y :: xs, u :: us, .cons r t, f => fun u' hu => by
    rw [List.all_cons, Bool.and_eq_true] at f
    rcases List.mem_cons.mp hu with rfl | hu
    · rw [eqU_of r f.1]; exact eqAt_V r rx f.1 fx
    · exact mem_eqAt rx fx t f.2 u' hu
def inV (x : V) (xs : List V) : Bool := xs.any fun y => eqV y x
def rIn (K : PySem.W.Frag) (neg : Bool) : R2 := fun x y H Q => ∃ p xs, y = .ref p ∧ (SqL K H p xs ∨ SqT K H p xs) ∧ flatV x = true ∧ xs.all flatV = true ∧ Q (.bl (if neg then !inV x xs else inV x xs)) H
theorem op_in_seq : OpR X (compareOp .In) (rIn X.K false) := by
  intro pins s σ H x y v u Q I rx ry h
  obtain ⟨p, xs, rfl, hq, fx, fs, q⟩ := h
  cases ry
  rcases hq with hq | hq
  · obtain ⟨its, r, pl, hz⟩ := I.list hq
    refine SeqAt.in_listAt (eqU x) pl.isList (fun w hw => mem_eqAt rx fx r fs w (by simpa using hw)) ⟨.bl _, H, I, rfl, ?_⟩
    rw [show its.toArray.any (eqU x) = its.any (eqU x) by simp, any_eqU r fs]
    exact q
  · obtain ⟨its, r, pl, hz⟩ := I.tuple hq
    refine SeqAt.in_tupleAt (eqU x) pl (fun w hw => mem_eqAt rx fx r fs w (by simpa using hw)) ⟨.bl _, H, I, rfl, ?_⟩
    rw [show its.toArray.any (eqU x) = its.any (eqU x) by simp, any_eqU r fs]
    exact q
theorem op_notIn_seq : OpR X (compareOp .NotIn) (rIn X.K true) := by
  intro pins s σ H x y v u Q I rx ry h
  obtain ⟨p, xs, rfl, hq, fx, fs, q⟩ := h
  cases ry
  rcases hq with hq | hq
  · obtain ⟨its, r, pl, hz⟩ := I.list hq
    refine SeqAt.notIn_listAt (eqU x) pl.isList (fun w hw => mem_eqAt rx fx r fs w (by simpa using hw)) ⟨.bl _, H, I, rfl, ?_⟩
    rw [show its.toArray.any (eqU x) = its.any (eqU x) by simp, any_eqU r fs]
    exact q
  · obtain ⟨its, r, pl, hz⟩ := I.tuple hq
    refine SeqAt.notIn_tupleAt (eqU x) pl (fun w hw => mem_eqAt rx fx r fs w (by simpa using hw)) ⟨.bl _, H, I, rfl, ?_⟩
    rw [show its.toArray.any (eqU x) = its.any (eqU x) by simp, any_eqU r fs]
    exact q
theorem op_notIn_str : OpR X (compareOp .NotIn) (fun x y H Q => ∃ i j, x = .str i ∧ y = .str j ∧ Q (.bl (!(!(Builtin.Str.occurrences j i 0 j.length 1).isEmpty))) H) := by
  intro pins s σ H x y v u Q I rx ry h
  obtain ⟨i, j, rfl, rfl, q⟩ := h
  obtain ⟨t, rfl⟩ := rx
  obtain ⟨t', rfl⟩ := ry
  exact notIn_str ⟨.bl _, H, I, rfl, q⟩
theorem call_len_seq : CallR X (.builtin "len") (fun xs H Q => ∃ p ys, xs = [.ref p] ∧ (SqL X.K H p ys ∨ SqT X.K H p ys) ∧ Q (.int ys.length) H) := by
  intro pins s σ H xs us Q I r h
  obtain ⟨p, ys, rfl, hq, q⟩ := h
  obtain ⟨u, rfl, rx⟩ := vals1 r
  cases rx
  have hn := line63
  rcases hq with hq | hq
  · obtain ⟨its, r', pl, hz⟩ := I.list hq
    have hlen := r'.length
    exact Calls.call_len_list pl.isList (by simp only [List.size_toArray] <;> omega) ⟨.int ys.length, H, I.tok _, ⟨s.toks + 1, by rw [List.size_toArray, hlen]⟩, q⟩
  · obtain ⟨its, r', pl, hz⟩ := I.tuple hq
    have hlen := r'.length
    exact len_tuple pl (by simp only [List.size_toArray] <;> omega) ⟨.int ys.length, H, I.tok _, ⟨s.toks + 1, by rw [List.size_toArray, hlen]⟩, q⟩
theorem call_len_str : CallR X (.builtin "len") (fun xs H Q => ∃ z, xs = [.str z] ∧ z.length ≤ sizeLine ∧ Q (.int z.length) H) := by
  intro pins s σ H xs us Q I r h
  obtain ⟨z, rfl, hz, q⟩ := h
  obtain ⟨u, rfl, t, rfl⟩ := vals1 r
  have hn := line63
  exact len_str (by omega) ⟨.int z.length, H, I.tok _, ⟨_, rfl⟩, q⟩
theorem CallR.or {f : Value} {r r' : List V → Hp → VK → Prop} (h : CallR X f r) (h' : CallR X f r') : CallR X f (fun xs H Q => r xs H Q ∨ r' xs H Q) := by
  intro pins s σ H xs us Q I rs q
  rcases q with q | q
  · exact h pins s σ H xs us Q I rs q
  · exact h' pins s σ H xs us Q I rs q
def tyV (K : PySem.W.Frag) (T : String) (x : V) (H : Hp) : Prop := match x with
  | .str _ => T = "str"
  | .int _ => T = "int"
  | .ref p => (T = "list" ∧ ∃ xs, SqL K H p xs) ∨ (T = "tuple" ∧ ∃ o, K.lookup p = some o ∧ o.cls = .type "tuple" ∧ o.dict = none) ∨
      (T = "dict" ∧ ((∃ kvs, H p = some (.dK kvs)) ∨ ∃ kvs, H p = some (.dT kvs))) ∨ (T = "set" ∧ ∃ S n, H p = some (.set S n))
  | _ => False
theorem tyV_is {pins : List (Addr × Obj)} {σ : St} {H : Hp} {s : Shared} {T : String} {x : V} {v : Value} (I : Inv X pins σ H s) (r : RelV x v) (ty : tyV X.K T x H) :
    s.TypeIs v T ∧ ∀ a, v = .ref a → ∃ ob, s.heap.get? a = some ob ∧ ob.dict = none := by
  cases x with
  | str z =>
    obtain ⟨t, rfl⟩ := r
    cases (show T = "str" from ty)
    exact ⟨typeIs_str s z t, fun _ e => nomatch e⟩
  | int i =>
    obtain ⟨t, rfl⟩ := r
    cases (show T = "int" from ty)
    exact ⟨typeIs_int s i t, fun _ e => nomatch e⟩
  | ref p =>
    cases r
    rcases ty with ⟨rfl, xs, hq⟩ | ⟨rfl, o, hk, hc, hd⟩ | ⟨rfl, hk⟩ | ⟨rfl, S, n, hk⟩
    · obtain ⟨its, _, pl, _⟩ := I.list hq
      refine ⟨pl.isList.typeIs, fun a e => ?_⟩
      cases e
      obtain ⟨o, n, e, c, hd, _⟩ := pl
      exact ⟨o, e, hd⟩
    · refine ⟨⟨o, I.kIn p o hk, hc⟩, fun a e => ?_⟩
      cases e
      exact ⟨o, I.kIn _ o hk, hd⟩
    · have z : ∃ o, s.heap.get? p = some o ∧ o.ExactDict := by
        rcases hk with ⟨kvs, hk⟩ | ⟨kvs, hk⟩
        · obtain ⟨_, _, _, _, o, _, _, e, ex, _⟩ := I.hok p _ hk
          exact ⟨o, e, ex⟩
        · obtain ⟨_, _, _, _, o, _, _, e, ex, _⟩ := I.hok p _ hk
          exact ⟨o, e, ex⟩
      obtain ⟨o, e, ex⟩ := z
      refine ⟨⟨o, e, ex.1⟩, fun a e2 => ?_⟩
      cases e2
      exact ⟨o, e, ex.2.1⟩
    · obtain ⟨o, _, _, _, e, ex, _⟩ := I.hok p _ hk
      refine ⟨⟨o, e, ex.1⟩, fun a e2 => ?_⟩
      cases e2
      exact ⟨o, e, ex.2.1⟩
  | _ => exact False.elim ty
def tBM (K : PySem.W.Frag) (T : String) (r : V → List V → Hp → VK → Prop) (to : TE) (t : TA) : TE := fun σ H Q => to σ H fun x H1 => tyV K T x H1 ∧ t σ H1 fun xs H2 => r x xs H2 Q
variable {o e : Expr} {es : List Expr} {to : TE} {t : TA} {name : Str} {apos cpos : Pos} {T id : String} {r : V → List V → Hp → VK → Prop}
theorem pe_bm (pa : PlainAttrs T) (slot : Slot T name id) (hty : typeOf (.builtin id) = pure (.type "method_descriptor")) (hm : MtR X id r) (ho : PE X o to) (ha : PA X (e :: es) t)
    (hbase : attributeBase o name X.env (eval o X.env) = eval o X.env := by rfl)
    (hfew : ((backTo cpos (starEach (e :: es) X.env)).all (fun x => !x.1) && (backToKw cpos (keywordEach [] X.env)).all (fun x => x.1.isSome)
      && decide ((e :: es).length + ([] : List Keyword).length + (if ([] : List Keyword).isEmpty then 0 else 1) < 30)) = true := by rfl)
    (hline : (apos.endLine == cpos.line) = true := by rfl) (hs : starEach (e :: es) X.env = (false, eval e X.env) :: starEach es X.env := by rfl) (hplain : (backTo cpos (starEach es X.env)).any (·.1) = false := by rfl) :
    PE X (.Call (.Attribute o name apos) (e :: es) [] cpos) (tBM X.K T r to t) := by
  intro pins s σ H Q I h
  refine wpAny_Call_method_late hbase hfew hline rfl (thn (ho pins s σ H _ I h) fun v s1 ⟨x, H1, I1, r1, ty, q1⟩ => ?_)
  obtain ⟨h1, h2⟩ := tyV_is I1 r1 ty
  refine ⟨T, id, pa, slot, hty, h1, h2, ?_⟩
  have hA := ha cpos pins s1 σ H1 _ I1 q1
  rw [hs] at hA ⊢
  refine Calls.callWith_builtin (by show (false || (backTo cpos (starEach es X.env)).any (·.1)) = false; rw [hplain] <;> rfl) (Calls.evalArgs_plain ?_)
  exact thn hA fun us s2 ⟨vs, H2, I2, r2, q2⟩ => hm pins s2 σ H2 x vs v us Q I2 r1 r2 q2
/- xs.append(e), list.index on a module's tuple .. are MtR facts of 06m -/
end
end L2
namespace L2
open PySem PySem.Spec PyProof.Rows
def MtM (X : Cx) (id : String) (r : V → List V → Hp → VK → Prop) : Prop :=
  ∀ (pins : List (Addr × Obj)) (s : Shared) (σ : St) (H : Hp) (x : V) (xs : List V) (v : Value) (us : List Value) (Q : VK), Inv X pins σ H s → RelV x v → Vals xs us → r x xs H Q →
    wpAny (model X.prog X.w) X.A (call (.builtin id) (v :: us)) (EP X pins σ Q) X.xe s
theorem Vals.one : ∀ {x : V} {us : List Value}, Vals [x] us → ∃ u, us = [u] ∧ RelV x u
  | _, _, .cons r .nil => ⟨_, rfl, r⟩
theorem Vals.two : ∀ {x y : V} {us : List Value}, Vals [x, y] us → ∃ u v, us = [u, v] ∧ RelV x u ∧ RelV y v
  | _, _, _, .cons r (.cons q .nil) => ⟨_, _, rfl, r, q⟩
theorem Vals.zero : ∀ {us : List Value}, Vals [] us → us = []
  | _, .nil => rfl
theorem Vals.dropLast {xs : List V} {us : List Value} (h : Vals xs us) : Vals xs.dropLast us.dropLast := by
  induction h with
  | nil => exact .nil
  | cons r t ih =>
    cases t with
    | nil => exact .nil
    | cons q t' => exact .cons r ih
section
variable {X : Cx} {pins : List (Addr × Obj)} {σ : St} {H : Hp} {s : Shared} {l b : Addr} {xs ys zs : List V}
theorem Inv.lset {its its' : List Value} {n : Nat} {f : Array Value → Array Value} {t' : Nat} (I : Inv X pins σ H s) (hH : H l = some (.lst xs))
    (e : s.heap.get? l = some { cls := .type "list", data := .seq its.toArray n }) (hf : f its.toArray = its'.toArray) (hv : Vals ys its') (hz : ys.length ≤ sizeLine) :
    Inv X pins σ (upd H l (.lst ys)) { s with heap := s.heap.update l (Obj.mapSeq f), toks := t' } := by
  have q := PySem.IsL.update e f
  rw [hf] at q
  refine I.write (x := l) (e := l) (by rw [hH]; exact trivial) (.inl rfl) (fun b' u hb hu => (Heap.get?_update_other s.heap (Obj.mapSeq f) (Ne.symm hb)).trans hu) ⟨_, q⟩ ?_
  exact ⟨hz, its', _, hv, q⟩
theorem Inv.lnew {its : List Value} {t' : Nat} (I : Inv X pins σ H s) (hv : Vals ys its) (hz : ys.length ≤ sizeLine) :
    Inv X pins σ (upd H s.heap.objs.size (.lst ys)) { s with heap := s.heap.push { cls := .type "list", data := .seq its.toArray }, toks := t' } :=
  I.laid (fun _ _ q => Heap.get?_push_of_some _ q) (Nat.le_refl _) ⟨hz, its, 0, hv, Heap.get?_push_size _ rfl⟩
theorem Inv.fresh (I : Inv X pins σ H s) : H s.heap.objs.size = none := I.hok.fresh (Nat.le_refl _)
theorem Inv.lstM (I : Inv X pins σ H s) (hH : H l = some (.lst xs)) : xs.length ≤ sizeLine ∧ ∃ (its : List Value) (n : Nat), Vals xs its ∧ xs.length = its.length ∧ s.heap.get? l = some { cls := .type "list", data := .seq its.toArray n } := by
  obtain ⟨z, its, n, r, e⟩ := I.hok l _ hH
  exact ⟨z, its, n, r, r.length, e⟩
end
section
variable {X : Cx}
def rAppend : V → List V → Hp → VK → Prop := fun x vs H Q => ∃ l xs y, x = .ref l ∧ vs = [y] ∧ H l = some (.lst xs) ∧ xs.length < sizeLine ∧ Q .non (upd H l (.lst (xs ++ [y])))
theorem mt_append : MtM X "list.append" rAppend := by
  intro pins s σ H x vs v us Q I rx rv h
  obtain ⟨l, xs, y, rfl, rfl, hH, hz, q⟩ := h
  cases rx
  obtain ⟨u, rfl, ru⟩ := rv.one
  obtain ⟨z, its, n, r, hl, e⟩ := I.lstM hH
  refine call_meets F.slot_list_append ⟨_, e, rfl⟩ F.entry_list_append (F.args_list_append_2 _ _) (PySem.list_append l its.toArray n u (by rw [List.size_toArray]; omega)) ⟨e, ?_⟩
  refine ⟨.non, _, I.lset (its' := its ++ [u]) hH e (by simp) (r.append (.cons ru .nil)) ?_, rfl, q⟩
  rw [List.length_append, List.length_singleton]
  omega
end
section
variable {prog : Program} {w : World} {A : Around} {E : Value → Shared → Prop} {s : Shared}
end
section
variable {X : Cx}
end
end L2
namespace Att
open PySem PySem.W PySem.Calls PyProof.Rows
theorem ints_of_wellAll {P : Params} {h : Heap} : ∀ (ns : List Int) (vs : List Value), WellAll P h vs (ns.map WData.int) → IntsAre vs ns := by
  intro ns
  induction ns with
  | nil =>
    intro vs w
    rw [List.map_nil] at w
    cases w
    exact .nil
  | cons n ns ih =>
    intro vs w
    rw [List.map_cons] at w
    cases w with
    | cons a b =>
      cases a
      exact .cons _ _ (ih _ b)
theorem script_of {l : OpenLaw} {n : Nat} (hn : l.most = some n) {P : Params} {h : Heap} {args : List WData} {vals : List Value}
    (hpre : l.row.toRowW.claim.pre args = true) (hwl : WellAll P h vals args) :
    ∃ a vs ns, vals = [Value.ref a] ∧ args = [WData.list (ns.map WData.int)] ∧ h.get? a = some { cls := .type "list", data := .seq vs.toArray } ∧ IntsAre vs ns ∧ ns.length ≤ n := by
  have hsh : WShape.hasAll [] args [.list .int] = true := (pre_splitW hpre).1
  have hc : l.pre.holds [] { args := args } = true := (pre_splitW hpre).2
  obtain ⟨d, r, rfl, h1, h2⟩ := hasAllW_cons hsh
  obtain rfl := hasAllW_nil h2
  obtain ⟨xs, rfl, h3⟩ := hasW_list h1
  obtain ⟨ns, rfl⟩ := items_int h3
  have hlen : ns.length ≤ n := by
    unfold OpenLaw.pre at hc
    have h4 : (WTm.not (.lt (.lit (.int (n : Int))) (.len (.arg 0)))).holds [] { args := [.list (ns.map .int)] } = true := by
      have h4 := (holds_andW hc).1
      rw [hn] at h4
      exact h4
    have h5 := condW_of h4 (w_not (w_lt w_lit (w_len_list (w_arg rfl))))
    rw [List.length_map] at h5
    refine Nat.le_of_not_lt fun q => ?_
    have q' : (n : Int) < ((ns.length : Nat) : Int) := by omega
    first
      | (rw [decide_eq_true q'] at h5; exact absurd h5 (by decide))
      | (simp at h5; omega)
  cases hwl with
  | cons w1 w2 =>
    cases w2
    cases w1 with
    | list ho hall => exact ⟨_, _, ns, rfl, rfl, ho, ints_of_wellAll ns _ hall, hlen⟩
theorem post_true (l : OpenLaw) (args : List WData) : l.row.toRowW.claim.post args (.bool true) args = true :=
  postW_of (r := l.row.toRowW) (X := (true == true))
    (show WShape.has [] (.bool true) .bool = true by first | rfl | decide | simp [WShape.has, WShape.arms, WShape.armsAll])
    (show (WTm.eq .res (.lit (.bool true))).value [] { args := args, res := some (.bool true), after := args } = some (.bool (true == true)) from w_eq_bool (w_res rfl) w_lit) rfl
theorem attach_call {l : OpenLaw} {n : Nat} {q : Program} {loose : List Str} {XP : (Str → Option Value) → Heap → Prop} {YP : World → Heap → Prop} {d : DefRec}
    (hn : l.most = some n) (hdf : d.params.defaults = [])
    (call : ∀ (w : World) (s₀ s₁ : Shared) (mg mb : Str → Option Value) (fa : Addr) (o : Obj) (pm cd doc : Value) (a : Addr) (vs : List Value) (ns : List Int),
      Ground q loose [] XP w s₀ mg mb s₁.heap → YP w s₁.heap →
      s₁.heap.get? fa = some o → o.data = .func (docDef d.name d.params d.body d.scope pm cd doc) → s₁.heap.CodeRec cd d.name → mg d.name = some (.ref fa) →
      s₁.heap.get? a = some { cls := .type "list", data := .seq vs.toArray } → IntsAre vs ns → ns.length ≤ n → s₁.gens = #[] →
      codeAny (model l.prog w) callerA (.call (.ref fa) ⟨[.ref a], []⟩) (fun r s' => r = .ok (.ret (.bool true)) ∧ OldK s₁.heap s'.heap ∧ s'.os = s₁.os ∧ AllBare s'.gens) s₁) :
    WalkO q loose XP YP l.row.toRowW d [] (fun f vs => PySem.call f vs) := by
  intro w s₀ s₁ mg mb G Y fa o pm cd doc dV kV ho hd hcd hD hmg hg args vals as hpre hlay hrd hwl hlo
  obtain rfl : dV = .none := Dflts.none hD hdf
  obtain rfl : kV = .none := Dflts.noKw hD
  obtain ⟨a, vs, ns, rfl, rfl, hobj, hints, hlen⟩ := script_of hn hpre hwl
  refine enter_call (codeAny_mono (call w s₀ s₁ mg mb fa o pm cd doc a vs ns G Y ho (fd_plain hd) hcd hmg hobj hints hlen hg) fun r s' hq => ?_)
  obtain ⟨rfl, h2, h3, h4⟩ := hq
  exact ⟨.inl ⟨.bool true, .bool true, [], rfl, fun _ => rfl, .bool true, post_true l _, fun _ => ⟨List.Pairwise.nil, fun _ hm => (nomatch hm)⟩⟩, h2, h3, h4⟩
section
variable {prog : Program} {w : World} {A : Around} {E : Value → Shared → Prop} {s : Shared} {K : Frag}
end
end Att
namespace L2
open PySem PySem.Spec PyProof.Rows
theorem vals_ints : ∀ {vs : List Value} {ns : List Int}, IntsAre vs ns → Vals (ns.map V.int) vs
  | _, _, .nil => .nil
  | _, _, .cons n t h => .cons ⟨t, rfl⟩ (vals_ints h)
def Only (H : Hp) : Prop := ∀ b, H b = none ∨ ∃ o xs, H b = some (.frz o (.lst xs))
theorem law_call {P : Program} {w : World} {K : PySem.W.Frag} {mg mb : Str → Option Value} {CX : CXT} {k : Nat} {fa a : Addr} {fd : FuncData} {x : Str} {sp : Sp} {s₁ : Shared} {vs : List Value} {ns : List Int}
    (KX : K.In s₁.heap) (hns : s₁.heap.Ns mainGlobals mg) (hb : s₁.heap.Ns builtinsNs mb) (hbb : ∀ x : Str, x ≠ "__name__" → mb x = bootBuiltins x) (hlim : s₁.heap.NoLimit) (hg : s₁.gens = #[])
    (ha : s₁.heap.get? a = some { cls := .type "list", data := .seq vs.toArray }) (hi : IntsAre vs ns) (hl : ns.length ≤ sizeLine) (hr : Room k callerA)
    (F : ∀ base : Heap, K.In base → base.Ns mainGlobals mg → FnOk P w K mg base CX k fa fd [x] sp) (hbind : ∀ (s : Shared) (u : Value), BindsTo s fd ⟨[u], []⟩ [(x, u)])
    (hsp : ∀ H : Hp, Only H → SqL K H a (ns.map V.int) → sp [.ref a] H (fun v _ => v = .bl true) fun _ _ _ => False)
    (hCX : ∀ H e s', CX [] H s₁ (fun _ _ _ => False) e s' → False) :
    codeAny (model P w) callerA (.call (.ref fa) ⟨[.ref a], []⟩) (fun r s' => r = .ok (.ret (.bool true)) ∧ OldK s₁.heap s'.heap ∧ s'.os = s₁.os ∧ AllBare s'.gens) s₁ := by
  have rv := vals_ints hi
  have lenV := hi.length
  -- from an abstract heap in which nothing but the script may be tracked
  have core : ∀ H : Hp, Only H → SqL K H a (ns.map V.int) → HOk P w H s₁.heap → (∀ b, H b ≠ none → b = a) → (H a ≠ none → K.lookup a = none) →
      codeAny (model P w) callerA (.call (.ref fa) ⟨[.ref a], []⟩) (fun r s' => r = .ok (.ret (.bool true)) ∧ OldK s₁.heap s'.heap ∧ s'.os = s₁.os ∧ AllBare s'.gens) s₁ := by
    intro H hO hS hok hA hK
    have base_of : ∀ {b : Addr} {o : Obj}, s₁.heap.get? b = some o → H b = none → (hidT s₁.heap H).get? b = some o := fun e n => hidT_get e n
    have noA : ∀ {b : Addr} {o : Obj} {es : Array DictEntry} {ep : Nat}, s₁.heap.get? b = some o → o.data = .dict es ep → H b = none := fun {b o es ep} e d => by
      cases q : H b with
      | none => rfl
      | some u =>
        have e' : b = a := hA b (by rw [q]; simp)
        subst e'
        rw [ha] at e; cases e
        have d' : Data.seq vs.toArray _ = Data.dict es ep := d
        cases d'
    have nsK : ∀ {b : Addr} {m : Str → Option Value}, s₁.heap.Ns b m → (hidT s₁.heap H).Ns b m := fun {b m} ⟨o, es, ep, e, d, r⟩ => ⟨o, es, ep, base_of e (noA e d), d, r⟩
    have hKb : K.In (hidT s₁.heap H) := fun b o e => base_of (KX b o e) (by
      cases q : H b with
      | none => rfl
      | some u =>
        have e' : b = a := hA b (by rw [q]; simp)
        subst e'
        rw [hK (by rw [q]; simp)] at e; cases e)
    have hM : Mod K mg (hidT s₁.heap H) := ⟨hKb, nsK hns, ⟨mb, nsK hb, hbb⟩, let ⟨mc, h1, h2⟩ := hlim; ⟨mc, nsK h1, h2⟩⟩
    have e0 : Env0 P w K mg (hidT s₁.heap H) callerA [] s₁ H := ⟨rfl, hM, fun b o e => of_hidT e, Nat.le_of_eq (hidT_size _ _), trivial, fun b hb => absurd (show b ∈ ([] : List Addr) from hb) (by simp), hok, .of_eq hg⟩
    refine codeAny_mono ((F _ hKb (nsK hns)).run callerA [] s₁ H ⟨[.ref a], []⟩ [.ref a] [.ref a] _ _ hr e0 (hbind s₁ (.ref a)) (.cons rfl .nil) (hsp H hO hS)) fun r s' h => ?_
    cases r with
    | error e => exact (hCX H e s' h).elim
    | ok fl =>
      cases fl with
      | next => exact False.elim h
      | brk => exact False.elim h
      | cont => exact False.elim h
      | ret u =>
        obtain ⟨v, H', os, bare, un, hok', r', q⟩ := h
        have q' : v = .bl true := q
        subst q'
        obtain rfl : u = Value.bool true := r'
        refine ⟨rfl, OldK.of_keep fun b o e => ?_, os, bare⟩
        cases q : H b with
        | none => exact un.keep b o e q (by intro z; exact absurd (show b ∈ ([] : List Addr) from z) (by simp)) (by simp)
        | some u =>
          rcases hO b with z | ⟨ob, xs, z⟩
          · rw [q] at z; cases z
          · have z2 := un.frzs b ob _ z
            obtain ⟨e1, _⟩ := hok b _ z
            obtain ⟨e2, _⟩ := hok' b _ z2
            rw [e] at e1; cases e1
            exact e2
  cases hk : K.lookup a with
  | some o =>
    -- the script is one of the module's own objects
    have e := KX a o hk
    rw [ha] at e
    cases e
    refine core (fun _ => none) (fun _ => .inl rfl) (.inr ⟨_, vs.toArray, _, hk, rfl, ⟨rfl, rfl⟩, rfl, by rw [List.size_toArray, lenV]; exact hl, by simpa using rv⟩) (fun b u z => by have z' : (none : Option HO) = some u := z; cases z') (fun b z => absurd rfl z) fun z => absurd rfl z
  | none =>
    refine core (fun b => if b = a then some (.frz { cls := .type "list", data := .seq vs.toArray } (.lst (ns.map V.int))) else none) (fun b => ?_) (.inl (.inr ⟨{ cls := .type "list", data := .seq vs.toArray }, if_pos rfl⟩)) (fun b u z => ?_) (fun b z => ?_) fun _ => hk
    · by_cases hb : b = a
      · exact .inr ⟨_, _, if_pos hb⟩
      · exact .inl (if_neg hb)
    · by_cases hb : b = a
      · have z' := (if_pos hb).symm.trans z
        cases z'
        subst hb
        exact ⟨ha, by rw [List.length_map]; exact hl, vs, _, rv, ha⟩
      · have z' := (if_neg hb).symm.trans z
        cases z'
    · by_cases hb : b = a
      · exact hb
      · exact absurd (if_neg hb) z
end L2
namespace L2
open PySem PySem.Spec PyProof.Rows
theorem walk_of {l : PySem.W.OpenLaw} {n k : Nat} {q : Program} {loose : List Str} {XP : (Str → Option Value) → Heap → Prop} {YP : World → Heap → Prop} {d : DefRec} {K : Params → PySem.W.Frag} {CX : World → CXT} {sp : World → Sp} {x : Str}
    (hn : l.most = some n) (hn2 : n ≤ sizeLine) (hdf : d.params.defaults = []) (hr : Room k callerA)
    (hY : ∀ (w : World) (h : Heap), YP w h → (K w.params).In h)
    (F : ∀ (w : World) (mg : Str → Option Value) (fa : Addr) (h : Heap), (K w.params).In h → h.Ns mainGlobals mg → mg d.name = some (.ref fa) →
      ∃ fd : FuncData, (∀ (s : Shared) (u : Value), BindsTo s fd ⟨[u], []⟩ [(x, u)]) ∧
        ∀ base : Heap, (K w.params).In base → base.Ns mainGlobals mg → FnOk l.prog w (K w.params) mg base (CX w) k fa fd [x] (sp w))
    (hsp : ∀ (w : World) (H : Hp) (a : Addr) (ns : List Int), ns.length ≤ n → Only H → SqL (K w.params) H a (ns.map V.int) → sp w [.ref a] H (fun v _ => v = .bl true) fun _ _ _ => False)
    (hCX : ∀ (w : World) (H : Hp) (s : Shared) (e : Value) (s' : Shared), CX w [] H s (fun _ _ _ => False) e s' → False) :
    PySem.W.WalkO q loose XP YP l.row.toRowW d [] (fun f vs => PySem.call f vs) := by
  refine Att.attach_call hn hdf fun w s₀ s₁ mg mb fa o pm cd doc a vs ns G Y ho hd hcd hmg hobj hints hlen hg => ?_
  have KX := hY w _ Y
  obtain ⟨fd, hb, hF⟩ := F w mg fa _ KX G.T.g hmg
  exact law_call KX G.T.g G.T.b G.T.builtins G.T.nolimit hg hobj hints (Nat.le_trans hlen hn2) hr hF hb (fun H hO hS => hsp w H a ns hlen hO hS) fun H e s' => hCX w H s₁ e s'
end L2
/- THE LAST THEOREM (shape; LID, My.* are yours):
   My.Adr: a structure of the addresses that your layer names (classes, functions); My.Txt K t: a structure (Prop) of the equations over K;
   My.txt_mk : {K} {implicit addresses ..} (e1 : nsIn K mainGlobals "law" = some (some (.ref f))) (e2 : K.lookup f = some ⟨oc, od, .func (fnOf "law" "law" params body scope dV kV doc pm an cdv ct), sl⟩) (e3 : codeIn K cdv "law" = true) .. : ∃ t, My.Txt K t
(the tactic k_is has no namespace: write k_is) -/
namespace L2
open PySem PySem.Spec PyProof.Rows
def defArgs (s : Stmt) : Arguments := match s with
  | .FunctionDef _ a _ _ _ _ _ _ _ _ => a
  | _ => { posonlyargs := [], args := [], vararg := none, kwonlyargs := [], kw_defaults := [], kwarg := none, defaults := [] }
def defBody (s : Stmt) : List Stmt := match s with
  | .FunctionDef _ _ b _ _ _ _ _ _ _ => b
  | _ => []
def defScope (s : Stmt) : Scope := match s with
  | .FunctionDef _ _ _ _ _ _ sc _ _ _ => sc
  | _ => { kind := .function, names := [], isGenerator := false, isCoroutine := false }
abbrev CX0 : CXT := fun _ _ _ _ _ _ => False
structure Fun (K : PySem.W.Frag) (x qual : Str) (st : Stmt) (f : Addr) (fd : FuncData) : Prop where
  ex : ∃ (oc : Value) (od : Option Addr) (kV doc pm : Value) (an : Option Addr) (cdv ct : Value) (osl : Array (Option Value)),
    fd = PySem.W.fnOf x qual (defArgs st) (defBody st) (defScope st) .none kV doc pm an cdv ct ∧ K.lookup f = some ⟨oc, od, .func fd, osl⟩ ∧ PySem.W.codeIn K cdv qual = true
  kp : PySem.W.keepIn K (.ref f) = true
section
variable {P : Program} {w : World} {K : PySem.W.Frag} {mg : Str → Option Value} {base : Heap}
theorem Fun.ok {x qual : Str} {st : Stmt} {f : Addr} {fd : FuncData} {N ps : List Str} {k : Nat} {sp : Sp} (F : Fun K x qual st f fd) (S : FnScope N ps (defScope st)) (len : ∀ vs H Q E, sp vs H Q E → vs.length = ps.length)
    (hbody : ∀ (cdv : Value) (A : Around) (outer : List Env) (s : Shared) (H : Hp) (vs : List V) (Q : VK) (E : XK), Room k (A.deeper (envOfC qual (defScope st) s.heap.objs.size f cdv)) → sp vs H Q E →
      ∃ t, PSs (cxOf CX0 P w K mg base N qual (defScope st) f cdv A outer s H E).nox (defBody st) t ∧ t { nx := fun _ H' => Q .non H', rt := Q } (start N vs) H) : FnOk P w K mg base CX0 (k + 1) f fd ps sp := by
  obtain ⟨oc, od, kV, doc, pm, an, cdv, ct, osl, rfl, lk, hcd⟩ := F.ex
  refine fn_of lk hcd S len fun A outer s H vs Q E hr hsp => ?_
  obtain ⟨t, h, q⟩ := hbody cdv A outer s H vs Q E hr hsp
  exact ⟨t, h.nox, q⟩
theorem Fun.binds {x qual : Str} {st : Stmt} {f : Addr} {fd : FuncData} {ps : List Str} (F : Fun K x qual st f fd)
    (h : ∀ (kV doc pm : Value) (an : Option Addr) (cdv ct : Value) (us : List Value), us.length = ps.length → bindArgs (PySem.W.fnOf x qual (defArgs st) (defBody st) (defScope st) .none kV doc pm an cdv ct) ⟨us, []⟩ = pure (ps.zip us)) : Binds K fd ps [] := by
  obtain ⟨oc, od, kV, doc, pm, an, cdv, ct, osl, rfl, lk, hcd⟩ := F.ex
  exact .all (h kV doc pm an cdv ct)
theorem fun_mk {x qual : Str} {st : Stmt} {f : Addr} {oc : Value} {od an : Option Addr} {osl : Array (Option Value)} {kV doc pm cdv ct : Value} (l : K.lookup f = some ⟨oc, od, .func (PySem.W.fnOf x qual (defArgs st) (defBody st) (defScope st) .none kV doc pm an cdv ct), osl⟩)
    (c : PySem.W.codeIn K cdv qual = true) (k : PySem.W.keepIn K (.ref f) = true) : Fun K x qual st f (PySem.W.fnOf x qual (defArgs st) (defBody st) (defScope st) .none kV doc pm an cdv ct) := ⟨⟨oc, od, kV, doc, pm, an, cdv, ct, osl, rfl, l, c⟩, k⟩
end
section
variable {X : Cx}
end
def Same (H H' : Hp) : Prop := ∀ b o, H b = some o → H' b = some o
theorem Same.refl (H : Hp) : Same H H := fun _ _ h => h
theorem Same.trans {H H1 H2 : Hp} (a : Same H H1) (b : Same H1 H2) : Same H H2 := fun c o h => b c o (a c o h)
theorem Same.free {H H' : Hp} (e : Same H H') {l : Addr} (h : H' l = Option.none) : H l = Option.none := by
  cases q : H l with
  | none => rfl
  | some o =>
    rw [e l o q] at h
    cases h
theorem Same.seq {K : PySem.W.Frag} {H H' : Hp} {a : Addr} {xs : List V} (e : Same H H') (h : SqL K H a xs) : SqL K H' a xs := by
  rcases h with (h | ⟨o, h⟩) | h
  · exact .inl (.inl (e _ _ h))
  · exact .inl (.inr ⟨o, e _ _ h⟩)
  · exact .inr h
end L2
set_option Elab.async false
set_option linter.all false
set_option maxRecDepth 100000
namespace L2
open PySem PySem.Spec PyProof.Rows
section
variable {κ : Type} [DecidableEq κ]
def valV (kvs : List (κ × V)) (k : κ) : Option V := (kvs.find? fun kv => decide (kv.1 = k)).map (·.2)
def putK (kvs : List (κ × V)) (k : κ) (v : V) : List (κ × V) :=
  if (kvs.any fun kv => decide (kv.1 = k)) = true then kvs.map (fun kv => if kv.1 = k then (kv.1, v) else kv) else kvs ++ [(k, v)]
def dropK (kvs : List (κ × V)) (k : κ) : List (κ × V) := kvs.filter fun kv => decide (kv.1 ≠ k)
theorem valV_pos {p : κ × V} {r : List (κ × V)} {k : κ} (e : p.1 = k) : valV (p :: r) k = some p.2 := by simp [valV, List.find?_cons, e]
theorem valV_neg {p : κ × V} {r : List (κ × V)} {k : κ} (e : ¬ p.1 = k) : valV (p :: r) k = valV r k := by simp [valV, List.find?_cons, e]
theorem valV_any (k : κ) : ∀ kvs : List (κ × V), (kvs.any fun kv => decide (kv.1 = k)) = (valV kvs k).isSome
  | [] => rfl
  | p :: r => by
    rw [List.any_cons]
    by_cases e : p.1 = k
    · simp only [valV_pos e, decide_eq_true e, Bool.true_or, Option.isSome_some]
    · rw [valV_neg e, decide_eq_false e, Bool.false_or]; exact valV_any k r
theorem valV_snoc (k j : κ) (y : V) : ∀ kvs : List (κ × V), valV kvs k = none → valV (kvs ++ [(k, y)]) j = if j = k then some y else valV kvs j
  | [], _ => by
    by_cases e : k = j
    · rw [if_pos e.symm]; exact valV_pos (p := (k, y)) e
    · rw [if_neg (fun z => e z.symm)]; exact valV_neg (p := (k, y)) e
  | p :: r, hn => by
    rw [List.cons_append]
    have hk : ¬ p.1 = k := fun z => by rw [valV_pos z] at hn; cases hn
    rw [valV_neg hk] at hn
    have ih := valV_snoc k j y r hn
    by_cases e : p.1 = j
    · rw [valV_pos e, valV_pos e, if_neg (fun z => hk (e.trans z))]
    · rw [valV_neg e, valV_neg e, ih]
theorem length_putK (kvs : List (κ × V)) (k : κ) (v : V) : (putK kvs k v).length ≤ kvs.length + 1 := by
  unfold putK
  split
  · rw [List.length_map]; omega
  · rw [List.length_append, List.length_cons, List.length_nil]; omega
theorem putK_new {kvs : List (κ × V)} {k : κ} (v : V) (h : valV kvs k = none) : putK kvs k v = kvs ++ [(k, v)] := by
  unfold putK
  rw [valV_any, h]
  exact if_neg (by decide)
theorem RelO.isSome_eq {o : Option V} {u : Option Value} (r : RelO o u) : o.isSome = u.isSome := by
  cases o with
  | none => cases u with
    | none => rfl
    | some _ => exact (show False from r).elim
  | some _ => cases u with
    | none => exact (show False from r).elim
    | some _ => rfl
theorem RelO.getD {o : Option V} {u : Option Value} {d : V} {d' : Value} (r : RelO o u) (rd : RelV d d') : RelV (o.getD d) (u.getD d') := by
  cases o with
  | none => cases u with
    | none => exact rd
    | some _ => exact (show False from r).elim
  | some _ => cases u with
    | none => exact (show False from r).elim
    | some _ => exact r
theorem KV.val {kvs : List (κ × V)} {vs : List (κ × Value)} (r : KV kvs vs) (k : κ) : RelO (valV kvs k) (valueAt vs k) := by
  unfold KV at r
  induction r with
  | nil => exact True.intro
  | @cons p q ps qs h t ih =>
    obtain ⟨h1, h2⟩ := h
    by_cases e : p.1 = k
    · have e' : q.1 = k := h1.symm.trans e
      have b : valueAt (q :: qs) k = some q.2 := by simp [valueAt, List.find?_cons, e']
      rw [valV_pos e, b]; exact h2
    · have e' : ¬ q.1 = k := fun z => e (h1.trans z)
      have b : valueAt (q :: qs) k = valueAt qs k := by simp [valueAt, List.find?_cons, e']
      rw [valV_neg e, b]; exact ih
theorem KV.any {kvs : List (κ × V)} {vs : List (κ × Value)} (r : KV kvs vs) (k : κ) : (kvs.any fun kv => decide (kv.1 = k)) = vs.any fun kv => decide (kv.1 = k) := by
  unfold KV at r
  induction r with
  | nil => rfl
  | cons h t ih => rw [List.any_cons, List.any_cons, ih, h.1]
theorem KV.repl {kvs : List (κ × V)} {vs : List (κ × Value)} (r : KV kvs vs) (k : κ) {y : V} {u : Value} (ry : RelV y u) :
    KV (kvs.map fun kv => if kv.1 = k then (kv.1, y) else kv) (vs.map fun kv => if kv.1 = k then (kv.1, u) else kv) := by
  unfold KV at r ⊢
  induction r with
  | nil => exact .nil
  | @cons p q ps qs h t ih =>
    rw [List.map_cons, List.map_cons]
    refine .cons ?_ ih
    obtain ⟨h1, h2⟩ := h
    by_cases e : p.1 = k
    · rw [if_pos e, if_pos (h1.symm.trans e)]; exact ⟨h1, ry⟩
    · rw [if_neg e, if_neg (fun z => e (h1.trans z))]; exact ⟨h1, h2⟩
theorem KV.put {kvs : List (κ × V)} {vs : List (κ × Value)} (r : KV kvs vs) (k : κ) {y : V} {u : Value} (ry : RelV y u) : KV (putK kvs k y) (stored vs k u) := by
  unfold putK stored
  rw [r.any k]
  by_cases e : (vs.any fun kv => decide (kv.1 = k)) = true
  · rw [if_pos e, if_pos e]; exact r.repl k ry
  · rw [if_neg e, if_neg e]; exact Paired.snoc r ⟨rfl, ry⟩
theorem KV.drop {kvs : List (κ × V)} {vs : List (κ × Value)} (r : KV kvs vs) (k : κ) : KV (dropK kvs k) (without vs k) := by
  unfold KV at r ⊢
  unfold dropK without
  induction r with
  | nil => exact .nil
  | @cons p q ps qs h t ih =>
    obtain ⟨h1, h2⟩ := h
    rw [List.filter_cons, List.filter_cons]
    by_cases e : p.1 = k
    · have a : ¬ decide (p.1 ≠ k) = true := by simp [e]
      have b : ¬ decide (q.1 ≠ k) = true := by simp [h1.symm.trans e]
      rw [if_neg a, if_neg b]; exact ih
    · have e' : ¬ q.1 = k := fun z => e (h1.trans z)
      have a : decide (p.1 ≠ k) = true := by simp [e]
      have b : decide (q.1 ≠ k) = true := by simp [e']
      rw [if_pos a, if_pos b]; exact .cons ⟨h1, h2⟩ ih
theorem KV.keys {kvs : List (κ × V)} {vs : List (κ × Value)} (r : KV kvs vs) : kvs.map (·.1) = vs.map (·.1) := by
  unfold KV at r
  induction r with
  | nil => rfl
  | cons h t ih => rw [List.map_cons, List.map_cons, ih, h.1]
theorem KV.length {kvs : List (κ × V)} {vs : List (κ × Value)} (r : KV kvs vs) : kvs.length = vs.length := Paired.length r
end
theorem kV_is {P : Program} {w : World} {k : Key} {u : Value} (r : RelV (kV k) u) : (mixKind P w).is k u = true := by
  cases k with
  | inl i => obtain ⟨t, e⟩ := (show ∃ t, u = Value.int i t from r); subst e; exact mixKind_int P w i t
  | inr x => obtain ⟨t, e⟩ := (show ∃ t, u = Value.str x t from r); subst e; exact mixKind_str P w x t
theorem items_are {P : Program} {w : World} : ∀ {ks : List Key} {us : List Value}, Vals (ks.map kV) us → ItemsAre (mixKind P w) ks us
  | [], _, r => by rw [List.map_nil] at r; cases r; exact .nil
  | k :: ks, _, r => by
    rw [List.map_cons] at r
    cases r with
    | cons h t => exact .cons (kV_is h) (items_are t)
abbrev KT (H : Hp) : List (List Key × V) → List (List Key × Addr × Value) → Prop := Paired fun p q => p.1 = q.1 ∧ H q.2.1 = some (.tup (p.1.map kV)) ∧ RelV p.2 q.2.2
theorem KT.val {H : Hp} {kvs : List (List Key × V)} {xs : List (List Key × Addr × Value)} (r : KT H kvs xs) (k : List Key) : RelO (valV kvs k) ((atKey xs k).map (·.2)) := by
  induction r with
  | nil => exact True.intro
  | @cons p q ps qs h t ih =>
    obtain ⟨h1, _, h2⟩ := h
    by_cases e : p.1 = k
    · have e' : q.1 = k := h1.symm.trans e
      have b : atKey (q :: qs) k = some q.2 := by simp [atKey, List.find?_cons, e']
      rw [valV_pos e, b]; exact h2
    · have e' : ¬ q.1 = k := fun z => e (h1.trans z)
      have b : atKey (q :: qs) k = atKey qs k := by simp [atKey, List.find?_cons, e']
      rw [valV_neg e, b]; exact ih
theorem KT.repl {H : Hp} {kvs : List (List Key × V)} {xs : List (List Key × Addr × Value)} (r : KT H kvs xs) (k : List Key) {y : V} {u : Value} (ry : RelV y u) :
    KT H (kvs.map fun kv => if kv.1 = k then (kv.1, y) else kv) (xs.map (putAt k u)) := by
  induction r with
  | nil => exact .nil
  | @cons p q ps qs h t ih =>
    rw [List.map_cons, List.map_cons]
    refine .cons ?_ ih
    obtain ⟨h1, h2, h3⟩ := h
    unfold putAt
    by_cases e : p.1 = k
    · rw [if_pos e, if_pos (h1.symm.trans e)]; exact ⟨h1, h2, ry⟩
    · rw [if_neg e, if_neg (fun z => e (h1.trans z))]; exact ⟨h1, h2, h3⟩
theorem KT.put {H : Hp} {kvs : List (List Key × V)} {xs : List (List Key × Addr × Value)} (r : KT H kvs xs) (k : List Key) {b : Addr} {y : V} {u : Value} (hb : H b = some (.tup (k.map kV))) (ry : RelV y u) :
    KT H (putK kvs k y) (storedH xs k b u) := by
  have e : (kvs.any fun kv => decide (kv.1 = k)) = (atKey xs k).isSome := by
    rw [valV_any, (r.val k).isSome_eq, Option.isSome_map]
  unfold putK storedH
  rw [e]
  by_cases q : (atKey xs k).isSome = true
  · rw [if_pos q, if_pos q]; exact r.repl k ry
  · rw [if_neg q, if_neg q]; exact Paired.snoc r ⟨rfl, hb, ry⟩
theorem KT.keeps {H H' : Hp} {kvs : List (List Key × V)} {xs : List (List Key × Addr × Value)} (r : KT H kvs xs) (ht : ∀ b ys, H b = some (.tup ys) → H' b = some (.tup ys)) : KT H' kvs xs :=
  Paired.mapP r fun _ _ z => ⟨z.1, ht _ _ z.2.1, z.2.2⟩
section
variable {P : Program} {w : World} {H : Hp} {h : Heap} {a : Addr}
theorem rd_of {u : HO} (ok : HOk P w H h) (e : Rd H a u) : ObjOk P w H h a u := e.ok ok
theorem dk_rd {kvs : List (Key × V)} (ok : HOk P w H h) (e : Rd H a (.dK kvs)) : kvs.length ≤ sizeLine ∧ (a == sysModules) = false ∧ ∃ vs, KV kvs vs ∧ h.DictOf (mixKind P w) a vs :=
  show ObjOk P w H h a (.dK kvs) from rd_of ok e
theorem dk_of {kvs : List (Key × V)} (ok : HOk P w H h) (e : H a = some (.dK kvs)) : kvs.length ≤ sizeLine ∧ (a == sysModules) = false ∧ ∃ vs, KV kvs vs ∧ h.DictOf (mixKind P w) a vs := dk_rd ok (.inl e)
theorem key_of {ks : List Key} (ok : HOk P w H h) (e : H a = some (.tup (ks.map kV))) : (tupleKind (mixKind P w)).is h ks a := by
  obtain ⟨_, its, r, o, h1, h2, n, h3⟩ := (show ObjOk P w H h a (.tup (ks.map kV)) from ok a _ e)
  exact ⟨o, its.toArray, n, h1, h2, h3, by simpa using items_are r⟩
theorem dt_rd {kvs : List (List Key × V)} (ok : HOk P w H h) (e : Rd H a (.dT kvs)) : kvs.length ≤ sizeLine ∧ (a == sysModules) = false ∧
    ∃ xs, KT H kvs xs ∧ h.DictOfH (tupleKind (mixKind P w)) a xs := by
  obtain ⟨z, y, xs, r, o, es, ep, h1, h2, h3, h4, h5⟩ := (show ObjOk P w H h a (.dT kvs) from rd_of ok e)
  refine ⟨z, y, xs, r, o, es, ep, h1, h2, h3, h4, fun x hx => ?_, h5⟩
  have all : ∀ {l : List (List Key × V)} {m : List (List Key × Addr × Value)}, KT H l m → ∀ x ∈ m, (tupleKind (mixKind P w)).is h x.1 x.2.1 := by
    intro l m q
    induction q with
    | nil => intro x hx; exact nomatch hx
    | @cons p q ps qs hq t ih =>
      intro x hx
      rcases List.mem_cons.mp hx with e | hx
      · subst e
        exact key_of ok (by rw [← hq.1]; exact hq.2.1)
      · exact ih x hx
  exact all r x hx
end
def DGet (H : Hp) (a : Addr) (y : V) (r : Option V) : Prop :=
  (∃ kvs k, Rd H a (.dK kvs) ∧ y = kV k ∧ r = valV kvs k) ∨ ∃ kvs k b, Rd H a (.dT kvs) ∧ y = .ref b ∧ H b = some (.tup (k.map kV)) ∧ r = valV kvs k
def DPut (H : Hp) (a : Addr) (y v : V) (H' : Hp) : Prop :=
  (∃ kvs k, H a = some (.dK kvs) ∧ y = kV k ∧ kvs.length < sizeLine ∧ H' = upd H a (.dK (putK kvs k v))) ∨
  ∃ kvs k b, H a = some (.dT kvs) ∧ y = .ref b ∧ H b = some (.tup (k.map kV)) ∧ kvs.length < sizeLine ∧ H' = upd H a (.dT (putK kvs k v))
theorem DGet.k {H : Hp} {a : Addr} {kvs : List (Key × V)} {k : Key} (e : H a = some (.dK kvs)) : DGet H a (kV k) (valV kvs k) := .inl ⟨kvs, k, .inl e, rfl, rfl⟩
theorem DGet.t {H : Hp} {a b : Addr} {kvs : List (List Key × V)} {k : List Key} (e : H a = some (.dT kvs)) (eb : H b = some (.tup (k.map kV))) : DGet H a (.ref b) (valV kvs k) := .inr ⟨kvs, k, b, .inl e, rfl, eb, rfl⟩
theorem DPut.k {H : Hp} {a : Addr} {kvs : List (Key × V)} {k : Key} {v : V} (e : H a = some (.dK kvs)) (hl : kvs.length < sizeLine) : DPut H a (kV k) v (upd H a (.dK (putK kvs k v))) := .inl ⟨kvs, k, e, rfl, hl, rfl⟩
theorem DPut.t {H : Hp} {a b : Addr} {kvs : List (List Key × V)} {k : List Key} {v : V} (e : H a = some (.dT kvs)) (eb : H b = some (.tup (k.map kV))) (hl : kvs.length < sizeLine) :
    DPut H a (.ref b) v (upd H a (.dT (putK kvs k v))) := .inr ⟨kvs, k, b, e, rfl, eb, hl, rfl⟩
section
variable {X : Cx} {pins : List (Addr × Obj)} {σ : St} {H : Hp} {s : Shared} {a : Addr} {y v : V} {u r : Value} {o : Option V} {A : Around} {E : Value → Shared → Prop}
theorem Inv.big (I : Inv X pins σ H s) : sysModules < s.heap.objs.size := by
  have h : mainGlobals < s.heap.objs.size := (I.mod.glob.keeps I.bk).lt
  exact Nat.lt_trans (by decide) h
theorem d_getItem {Q : Value → Shared → Prop} (hu : A.units + 1 < cLine) (I : Inv X pins σ H s) (g : DGet H a y (some v)) (ry : RelV y u) (h : ∀ w' s', Inv X pins σ H s' → RelV v w' → Q w' s') :
    wpAny (model X.prog X.w) A (getItem (.ref a) u) Q E s := by
  rcases g with ⟨kvs, k, e, ey, l⟩ | ⟨kvs, k, b, e, ey, eb, l⟩
  · subst ey
    obtain ⟨z, hd, vs, rel, dd⟩ := dk_rd I.hok e
    obtain ⟨w', hw, rw'⟩ := RelO.some_of (v := v) (o := valueAt vs k) (by rw [l]; exact rel.val k)
    exact wpAny_getItem_of (kV_is ry) dd.mapOf hw (h w' _ (I.tok _) rw')
  · subst ey
    cases (show u = Value.ref b from ry)
    obtain ⟨z, hd, xs, rel, dd⟩ := dt_rd I.hok e
    obtain ⟨w', hw, rw'⟩ := RelO.some_of (v := v) (o := (atKey xs k).map (·.2)) (by rw [l]; exact rel.val k)
    obtain ⟨p, hp, hp2⟩ := Option.map_eq_some_iff.mp hw
    refine wpAny_getItem_heap (tupleKind_room_in1 hu) (key_of I.hok eb) dd hp ?_
    rw [hp2]
    exact h w' _ (I.tok _) rw'
theorem d_write {h' : Heap} {t' : Nat} {ob : HO} (I : Inv X pins σ H s) (mu : Mut (H a)) (hs : Heap.SameBut a s.heap h') (he : ∃ q, h'.get? a = some q) (new : ObjOk X.prog X.w (upd H a ob) h' a ob) :
    Inv X pins σ (upd H a ob) { s with heap := h', toks := t' } :=
  I.write (x := a) (e := a) mu (.inl rfl) (fun b q hb z => (hs.2 b hb).trans z) he new
theorem dk_new {P : Program} {w : World} {H' : Hp} {h' : Heap} {kvs : List (Key × V)} {vs : List (Key × Value)} (z : kvs.length ≤ sizeLine) (hd : (a == sysModules) = false) (rel : KV kvs vs) (dd : h'.DictOf (mixKind P w) a vs) :
    ObjOk P w H' h' a (.dK kvs) := ⟨z, hd, vs, rel, dd⟩
end
section
variable {X : Cx} {pins : List (Addr × Obj)} {σ : St} {H : Hp} {s : Shared} {a : Addr} {kvs : List (Key × V)} {k : Key} {u : Value} {A : Around} {E : Value → Shared → Prop}
end
def NoSl (i : Expr) : Prop := ∀ ov iv, subscripted i false ov iv = operate [ov, iv] (getItem ov iv)
theorem subD_of {prog : Program} {w : World} {A : Around} {E : Value → Shared → Prop} {s : Shared} {env : Env} {value slice : Expr} {pos : Pos} {T id : String} {Q : Value → Shared → Prop}
    (hl : typeLookup (.type T) "__getitem__" = pure (some (.builtin id))) (hs : NoSl slice)
    (h : wpAny (model prog w) A (eval value env) (fun o s₁ => wpAny (model prog w) A (eval slice env) (fun i s₂ => s₂.TypeIs o T ∧ wpAny (model prog w) A (getItem o i) Q E s₂) E s₁) E s) :
    wpAny (model prog w) A (eval (.Subscript value slice pos) env) Q E s := by
  refine Subscript_ (wpAny_mono h (fun o s₁ h₁ => wpAny_mono h₁ (fun i s₂ h₂ => ?_) fun _ _ x => x) fun _ _ x => x)
  obtain ⟨hT, h₂⟩ := h₂
  unfold subscriptTail
  refine wpAny_bind ?_
  rw [getitemInPython_of_ne hT.not_modules]
  refine wpAny_bind (wpAny_specialOf hT hl ?_)
  have fin : wpAny (model prog w) A (subscripted slice false o i) (fun r s₃ => wpAny (model prog w) A (letTemporaryGo value o r >>= fun _ => pure r) Q E s₃) E s₂ := by
    rw [hs o i]
    exact wpAny_operating (wpAny_mono h₂ (fun r s₃ h₃ => wpAny_bind (wpAny_letTemporaryGo (wpAny_pure h₃))) fun _ _ x => x)
  first
    | exact wpAny_pure (wpAny_bind fin)
    | exact wpAny_bind (wpAny_pure (wpAny_bind fin))
    | exact wpAny_bind fin
theorem dict_typeIs {X : Cx} {pins : List (Addr × Obj)} {σ : St} {H : Hp} {s : Shared} {a : Addr} {y : V} {o : Option V} (I : Inv X pins σ H s) (g : DGet H a y o) : s.TypeIs (.ref a) "dict" := by
  rcases g with ⟨kvs, k, e, _, _⟩ | ⟨kvs, k, b, e, _, _, _⟩
  · obtain ⟨_, _, vs, _, dd⟩ := dk_rd I.hok e
    exact dd.typeIs
  · obtain ⟨_, _, xs, _, dd⟩ := dt_rd I.hok e
    exact dd.typeIs
def tDGet (td ty : TE) : TE := fun σ H Q => td σ H fun x H1 => ty σ H1 fun y H2 => ∃ a v, x = .ref a ∧ DGet H2 a y (some v) ∧ Q v H2
section
variable {X : Cx} {o i e value : Expr} {pos pos' tpos : Pos} {td ty tv : TE}
theorem pe_dget (hu : X.A.units + 1 < cLine) (ho : PE X o td) (hi : PE X i ty) (hs : NoSl i) : PE X (.Subscript o i pos) (tDGet td ty) := by
  intro pins s σ H Q I h
  refine subD_of PySem.F.slot_dict_getitem.lookup hs (thn (ho pins s σ H _ I h) fun u s1 ⟨x, H1, I1, rx, q1⟩ => thn (hi pins s1 σ H1 _ I1 q1) fun iv s2 ⟨y, H2, I2, ry, a, v, ex, g, q2⟩ => ?_)
  subst ex
  obtain rfl : u = Value.ref a := rx
  exact ⟨dict_typeIs I2 g, d_getItem hu I2 g ry fun w' s3 I3 rw' => ⟨v, H2, I3, rw', q2⟩⟩
end
theorem dk_empty {P : Program} {w : World} {H : Hp} (h : Heap) (hb : sysModules < h.objs.size) : ObjOk P w H (h.push { cls := .type "dict", data := .dict #[] }) h.objs.size (.dK []) :=
  ⟨Nat.zero_le _, beq_eq_false_iff_ne.mpr (Ne.symm (Nat.ne_of_lt hb)), [], .nil, Heap.DictOf.new h⟩
section
variable {X : Cx} {pos : Pos}
end
def tPairs : List (TE × TE) → St → Hp → (List (V × V) → Hp → Prop) → Prop
  | [], _, H, Q => Q [] H
  | (tk, tv) :: r, σ, H, Q => tk σ H fun x H1 => tv σ H1 fun y H2 => tPairs r σ H2 fun ps H3 => Q ((x, y) :: ps) H3
abbrev VV : List (V × V) → List (Value × Value) → Prop := Paired fun p q => RelV p.1 q.1 ∧ RelV p.2 q.2
def PPs (X : Cx) (pos : Pos) (keys : List (Option Expr)) (values : List Expr) (trs : List (TE × TE)) : Prop :=
  ∀ (pins : List (Addr × Obj)) (s : Shared) (σ : St) (H : Hp) (Q : List (V × V) → Hp → Prop), Inv X pins σ H s → tPairs trs σ H Q →
    wpAny (model X.prog X.w) X.A (evalPairs (pairTrees keys values X.env pos)) (fun vs s' => ∃ ps H', Inv X pins σ H' s' ∧ VV ps vs ∧ Q ps H') X.xe s
theorem pps_nil {X : Cx} {pos : Pos} : PPs X pos [] [] [] := fun pins s σ H Q I h => pairTrees_nil_walk ⟨[], H, I, .nil, h⟩
theorem pps_cons {X : Cx} {pos : Pos} {k v : Expr} {ks : List (Option Expr)} {vs : List Expr} {tk tv : TE} {trs : List (TE × TE)} (hk : PE X k tk) (hv : PE X v tv) (hr : PPs X pos ks vs trs) :
    PPs X pos (some k :: ks) (v :: vs) ((tk, tv) :: trs) := fun pins s σ H Q I h =>
  pairTrees_cons_walk (thn (hk pins s σ H _ I h) fun u s1 ⟨x, H1, I1, rx, q1⟩ => thn (hv pins s1 σ H1 _ I1 q1) fun w2 s2 ⟨y, H2, I2, ry, q2⟩ =>
    thn (hr pins s2 σ H2 _ I2 q2) fun ws s3 ⟨ps, H3, I3, rel, q3⟩ => ⟨(x, y) :: ps, H3, I3, .cons ⟨rx, ry⟩ rel, q3⟩)
def mergeK (kvs more : List (Key × V)) : List (Key × V) := more.foldl (fun acc kv => putK acc kv.1 kv.2) kvs
theorem KV.merge : ∀ {more : List (Key × V)} {rs : List (Key × Value)} {kvs : List (Key × V)} {vs : List (Key × Value)}, KV more rs → KV kvs vs → KV (mergeK kvs more) (merged vs rs) := by
  intro more rs kvs vs r
  unfold KV at r
  induction r generalizing kvs vs with
  | nil => intro q; exact q
  | @cons p q ps qs h t ih =>
    intro r0
    have e : KV (putK kvs p.1 p.2) (stored vs q.1 q.2) := by
      have := r0.put p.1 h.2
      rw [← h.1]; exact this
    exact ih e
theorem length_mergeK : ∀ (more kvs : List (Key × V)), (mergeK kvs more).length ≤ kvs.length + more.length
  | [], kvs => by show kvs.length ≤ kvs.length + 0; omega
  | p :: r, kvs => by
    have h1 := length_mergeK r (putK kvs p.1 p.2)
    have h2 := length_putK kvs p.1 p.2
    show (mergeK (putK kvs p.1 p.2) r).length ≤ _
    rw [List.length_cons]; omega
theorem carries_of {P : Program} {w : World} : ∀ {kvs : List (Key × V)} {ws : List (Value × Value)}, VV (kvs.map fun kv => (kV kv.1, kv.2)) ws → ∃ rs, Carries (mixKind P w) ws rs ∧ KV kvs rs
  | [], _, r => by rw [List.map_nil] at r; cases r; exact ⟨[], True.intro, .nil⟩
  | p :: kvs, _, r => by
    rw [List.map_cons] at r
    cases r with
    | @cons a b as bs h t =>
      obtain ⟨rs, c, q⟩ := carries_of (P := P) (w := w) t
      obtain ⟨b1, b2⟩ := b
      exact ⟨(p.1, b2) :: rs, ⟨kV_is h.1, rfl, c⟩, .cons ⟨rfl, h.2⟩ q⟩
def tDisp (trs : List (TE × TE)) : TE := fun σ H Q => ∀ p, H p = none → tPairs trs σ (upd H p (.dK [])) fun ps H2 => H2 p = some (.dK []) ∧ ∃ kvs : List (Key × V), ps = kvs.map (fun kv => (kV kv.1, kv.2)) ∧ kvs.length ≤ 15 ∧ Q (.ref p) (upd H2 p (.dK (mergeK [] kvs)))
theorem pe_disp {X : Cx} {pos : Pos} {keys : List (Option Expr)} {values : List Expr} {trs : List (TE × TE)} (h : PPs X pos keys values trs) (hall : keys.all (·.isSome) = true) (hl : keys.length = values.length) (h0 : keys ≠ [])
    (h15 : keys.length ≤ 15) : PE X (.Dict keys values pos) (tDisp trs) := by
  intro pins s σ H Q I q
  have hn := I.hok.fresh (Nat.le_refl s.heap.objs.size)
  have I1 := I.laid (a := s.heap.objs.size) (o := .dK []) (h' := s.heap.push { cls := .type "dict", data := .dict #[] }) (t' := s.toks) (fun _ _ q => Heap.get?_push_of_some _ q) (Nat.le_refl _) (dk_empty s.heap I.big)
  refine wpAny_Dict_walk (knd := mixKind X.prog X.w) hall hl h0 h15 (thn (h pins _ σ _ _ I1 (q _ hn)) fun ws s2 ⟨ps, H2, I2, rel, e, kvs, ep, lk, q2⟩ => ?_)
  subst ep
  obtain ⟨rs, c, rk⟩ := carries_of (P := X.prog) (w := X.w) rel
  obtain ⟨z, hd, vs0, r0, dd⟩ := dk_of I2.hok e
  cases r0
  refine ⟨rs, c, dd, fun h' dd' hs => ⟨.ref s.heap.objs.size, _, ?_, rfl, q2⟩⟩
  have hz : (mergeK [] kvs).length ≤ sizeLine := by
    have h1 := length_mergeK kvs []
    rw [List.length_nil] at h1
    rw [sizeLine_eq]; omega
  have he : ∃ q, h'.get? s.heap.objs.size = some q := let ⟨q, _, _, hq, _⟩ := dd'; ⟨q, hq⟩
  exact d_write I2 (by rw [e]; exact True.intro) hs he (dk_new hz hd (rk.merge .nil) dd')
end L2
set_option Elab.async false
set_option linter.all false
set_option maxRecDepth 100000
namespace L3
open PySem PySem.Spec PyProof.Rows L2
abbrev St := L2.St
structure FreshX (X : Cx) (pins : List (Addr × Obj)) (H : Hp) (b : Addr) : Prop where
  nl : b ≠ X.env.locals
  nc : ∀ x c, X.env.cells.lookup x = some c → c ≠ b
  np : ∀ p ∈ X.pn ++ pins, p.1 ≠ b
  n0 : X.s₀.heap.get? b = none
  nh : H b = none
structure Flies (X : Cx) (pins : List (Addr × Obj)) (H : Hp) (s : Shared) (ea : Addr) (C : Value) : Prop where
  ex : ∃ oe vs a0, s.heap.get? ea = some oe ∧ oe.cls = C ∧ oe.data = .fields vs ∧ vs[0]? = some a0 ∧
    (vs[1]? = some .none ∨ ∃ T oT ts, vs[1]? = some (.ref T) ∧ T ≠ ea ∧ s.heap.get? T = some oT ∧ oT.data = .fields ts ∧ ts[3]? = some .none ∧ FreshX X pins H T)
  fr : FreshX X pins H ea
def CXR (P : Program) (w : World) : CXT := fun outer H s E e s' => ∃ (ea : Addr) (C : Value) (H' : Hp), e = .ref ea ∧ s'.os = s.os ∧ AllBare s'.gens ∧ Un (frs outer) [] H H' s.heap s'.heap ∧ HOk P w H' s'.heap ∧
  (s.heap.get? ea = none ∧ H' ea = none) ∧
  (∃ oe vs a0 T oT ts, s'.heap.get? ea = some oe ∧ oe.cls = C ∧ oe.data = .fields vs ∧ vs[0]? = some a0 ∧ vs[1]? = some (.ref T) ∧ T ≠ ea ∧ s'.heap.get? T = some oT ∧ oT.data = .fields ts ∧ ts[3]? = some .none ∧ s.heap.get? T = none ∧ H' T = none) ∧
  E C none H'
theorem objOk_some {P : Program} {w : World} {H : Hp} {h : Heap} {a : Addr} {o : HO} (x : ObjOk P w H h a o) : ∃ u, h.get? a = some u := by
  cases o with
  | lst xs => obtain ⟨_, _, _, _, e⟩ := x; exact ⟨_, e⟩
  | tup xs => obtain ⟨_, _, _, ob, e, _⟩ := x; exact ⟨_, e⟩
  | dK kvs => obtain ⟨_, _, _, _, o, _, _, e, _⟩ := x; exact ⟨_, e⟩
  | dT kvs => obtain ⟨_, _, _, _, o, _, _, e, _⟩ := x; exact ⟨_, e⟩
  | set S n => obtain ⟨o, _, _, _, e, _⟩ := x; exact ⟨_, e⟩
  | ins C dx fs => obtain ⟨_, _, _, e, _⟩ := x; exact ⟨_, e⟩
  | own y => exact x
  | xd fs => obtain ⟨_, ⟨_, _, _, e, _⟩, _⟩ := x; exact ⟨_, e⟩
  | rng lo hi => obtain ⟨_, _, _, e⟩ := x; exact ⟨_, e⟩
  | frz ob u => obtain ⟨e, _⟩ := x; exact ⟨_, e⟩
  | tbl ps => exact ⟨_, x⟩
  | met f y => exact ⟨_, x⟩
  | ext φ => obtain ⟨_, e, _⟩ := x; exact e
section
variable {X : Cx} {pins : List (Addr × Obj)} {σ : St} {H H' : Hp} {s s' : Shared} {ea : Addr} {C : Value}
theorem freshX_of (I : Inv X pins σ H s) (hex : X.ex = []) {b : Addr} (e : s.heap.get? b = none) (n : H' b = none) : FreshX X pins H' b where
  nl := fun z => by
    obtain ⟨m, ⟨o, _, _, ho, _⟩, _⟩ := I.loc
    rw [← z, e] at ho; cases ho
  nc := fun x c h z => by
    obtain ⟨v, o, ho, _⟩ := I.cell x c h
    rw [z, e] at ho; cases ho
  np := fun p hp z => by
    have := (I.pin p hp).1
    rw [z, e] at this; cases this
  n0 := by
    cases q : X.s₀.heap.get? b with
    | none => rfl
    | some o =>
      obtain ⟨o', h'⟩ := I.base.there b o q (by rw [hex]; simp)
      rw [e] at h'; cases h'
  nh := n
theorem inv_flies (I : Inv X pins σ H s) (hex : X.ex = []) {E : XK} {e : Value} (h : CXR X.prog X.w X.stack H s E e s') :
    ∃ ea C H', e = .ref ea ∧ Inv X pins σ H' s' ∧ Flies X pins H' s' ea C ∧ E C none H' := by
  obtain ⟨ea, C, H', rfl, os, bare, un, hok, ⟨n1, n2⟩, ⟨oe, vs, a0, T, oT, ts, t1, t2, t3, t4, t5, t6, t7, t8, t9, t10, t11⟩, hE⟩ := h
  refine ⟨ea, C, H', rfl, I.call' os un hok bare (ch := []) (fun b z => absurd z (by simp)), ⟨⟨oe, vs, a0, t1, t2, t3, t4, .inr ⟨T, oT, ts, t5, t6, t7, t8, t9, freshX_of I hex t10 t11⟩⟩, freshX_of I hex n1 n2⟩, hE⟩
def gnd (X : Cx) (s : Shared) (l : List Addr) : Heap := PySem.W.hideAll s.heap (frs X.stack ++ l)
theorem gnd_stays {l : List Addr} : (gnd X s l).StaysIn s.heap := fun b o q => PySem.W.of_hideAll _ q
theorem gnd_none {l : List Addr} {b : Addr} (h : b ∈ l) : (gnd X s l).get? b = none := PySem.W.hideAll_none _ (List.mem_append_right _ h)
theorem gnd_get {l : List Addr} {b : Addr} {o : Obj} (e : s.heap.get? b = some o) (h1 : b ∉ frs X.stack) (h2 : b ∉ l) : (gnd X s l).get? b = some o :=
  PySem.W.hideAll_get _ e fun z => (List.mem_append.mp z).elim h1 h2
theorem gnd_frames (I : Inv X pins σ H s) {l : List Addr} : s.heap.FunFrames (gnd X s l) X.stack :=
  PySem.W.funFrames_hide I.stack fun env he a ha => List.mem_append_left _ (List.mem_filterMap.mpr ⟨env, he, ha⟩)
theorem leave_ok {M : Model} {E : XK} {E' : Value → Shared → Prop} (I : Inv X pins σ H s) (hex : X.ex = []) (hst : X.stack = X.env :: X.outer) (hf : X.env.frame = some X.env.locals) (F : Flies X pins H s ea C) (h : E C none H) :
    wpAny M X.A (leaving X.env (.ref ea)) (fun _ s'' => CXR X.prog X.w X.outer X.H₀ X.s₀ E (.ref ea) s'') E' s := by
  obtain ⟨oe, vs, a0, t1, t2, t3, t4, t5⟩ := F.ex
  have hfr : X.A.frames = some (X.env :: X.outer) := by rw [← hst]; exact I.ok.frames
  -- the end, from what both ways give
  have fin : ∀ (l : List Addr) (h' : Heap), (∀ b ∈ l, FreshX X pins H b) → ea ∈ l → Heap.LeftW (gnd X s l) (X.env :: X.outer) ea C a0 s.heap h' → CXR X.prog X.w X.outer X.H₀ X.s₀ E (.ref ea) { s with heap := h' } := by
    intro l h' hl he hL
    obtain ⟨k1, k2, ⟨oe', vs', T, oT, ts, g1, ⟨g2, g3⟩, g4, g5, g6, g7, g8, g9, g10⟩, k4⟩ := hL
    have stk0 : ∀ b o, b ∈ frs X.stack → s.heap.get? b = some o → ∀ vs, o.data ≠ .fields vs := fun b o hb e => by
      obtain ⟨_, o', e', d⟩ := I.stack.mem hb
      rw [e] at e'; cases e'; exact d
    have keep : ∀ b o, b ∉ frs X.stack → b ∉ l → s.heap.get? b = some o → h'.get? b = some o := fun b o n1 n2 e => k1 b o (gnd_get e n1 n2)
    have up : ∀ b o, b ∈ frs X.stack → s.heap.get? b = some o → ∃ sl, h'.get? b = some { o with slots := sl } := fun b o hb e => k4 b o e (stk0 b o hb e)
    have trk : ∀ b o, H b = some o → b ∉ frs X.stack ∧ b ∉ l := fun b o e =>
      ⟨fun z => (by rw [I.stkFree b z] at e; cases e), fun z => (by rw [(hl b z).nh] at e; cases e)⟩
    have old : ∀ b o, X.s₀.heap.get? b = some o → b ∉ l ∧ b ≠ X.env.locals := fun b o e =>
      ⟨fun z => (by rw [(hl b z).n0] at e; cases e), Nat.ne_of_lt (Nat.lt_of_lt_of_le (Heap.lt_size e) I.ok.above)⟩
    have stk : ∀ b, b ≠ X.env.locals → b ∉ frs X.outer → b ∉ frs X.stack := fun b n1 n2 hb => (List.mem_cons.mp (I.stkSub b hb)).elim n1 n2
    have inst : ∀ b, b ∈ frs X.outer → b ∈ frs X.stack := fun b hb => by
      rw [hst]
      unfold frs
      rw [List.filterMap_cons, hf]
      exact List.mem_cons_of_mem _ hb
    -- the new head is no one's
    have Tn : ∀ o, s.heap.get? T = some o → T ∈ l := fun o e => by
      refine Classical.byContradiction fun n => ?_
      have ns : T ∉ frs X.stack := fun z => by
        obtain ⟨_, o', e', d⟩ := k2.mem (by rw [hst] at z; exact z)
        rw [g8] at e'; cases e'; exact d ts g9
      have := gnd_get (X := X) e ns n
      rw [g6] at this; cases this
    refine ⟨ea, C, H, rfl, I.os, I.bare, ⟨fun b o e n hb _ => ?_, fun b o e n hb _ => ?_, fun b o e n _ => ?_, fun b o e _ => ?_, I.base.tups, I.base.frzs, I.base.tbls⟩, fun a o e => ?_, ⟨(hl ea he).n0, (hl ea he).nh⟩, ⟨oe', vs', a0, T, oT, ts, g1, g2, g4, g3, g5, g7, g8, g9, g10, ?_, ?_⟩, h⟩
    · exact keep b o (stk b (old b o e).2 hb) (old b o e).1 (I.base.keep b o e n hb (by rw [hex]; simp))
    · obtain ⟨sl, e1⟩ := I.base.slot b o e n hb (by rw [hex]; simp)
      obtain ⟨sl', e2⟩ := up b _ (inst b hb) e1
      exact ⟨sl', e2⟩
    · exact I.base.free b o e n (by rw [hex]; simp)
    · obtain ⟨o', e1⟩ := I.base.there b o e (by rw [hex]; simp)
      by_cases hb : b ∈ frs X.stack
      · obtain ⟨sl, q⟩ := up b o' hb e1
        exact ⟨_, q⟩
      · exact ⟨_, keep b o' hb (old b o e).1 e1⟩
    · refine (I.hok a o e).stay (fun b u hb q => ?_) (fun _ q => q) fun _ _ q => q
      rcases hb with rfl | hb
      · exact keep b u (trk b o e).1 (trk b o e).2 q
      · exact keep b u (trk b _ hb).1 (trk b _ hb).2 q
    · cases q : X.s₀.heap.get? T with
      | none => rfl
      | some o =>
        obtain ⟨o', e1⟩ := I.base.there T o q (by rw [hex]; simp)
        have := (hl T (Tn o' e1)).n0
        rw [q] at this; cases this
    · cases q : H T with
      | none => rfl
      | some o =>
        obtain ⟨u, e1⟩ := objOk_some (I.hok T o q)
        have := (hl T (Tn u e1)).nh
        rw [q] at this; cases this
  rcases t5 with t5 | ⟨T, oT, ts, t5, t6, t7, t8, t9, fT⟩
  · have fl := gnd_frames I (l := [ea])
    rw [hst] at fl
    refine wpAny_leaving_firstW (base := gnd X s [ea]) (a0 := a0) hfr fl hf t1 gnd_stays (gnd_none (by simp)) t3 t5 t4 fun h' hL => ?_
    rw [t2] at hL
    exact fin [ea] h' (fun b hb => by simp at hb; subst hb; exact F.fr) (by simp) hL
  · have fl := gnd_frames I (l := [ea, T])
    rw [hst] at fl
    refine wpAny_leaving_nextW (base := gnd X s [ea, T]) (cls := C) (a0 := a0) hfr fl hf ⟨oe, vs, T, oT, ts, t1, ⟨t2, t4⟩, t3, t5, gnd_none (by simp), t6, t7, t8, t9⟩ gnd_stays (gnd_none (by simp)) fun h' hL => ?_
    exact fin [ea, T] h' (fun b hb => by
      simp at hb
      rcases hb with rfl | rfl
      · exact F.fr
      · exact fT) (by simp) hL
end
end L3
set_option Elab.async false
set_option linter.all false
set_option maxRecDepth 100000
namespace L3
open PySem PySem.Spec PyProof.Rows L2
inductive D where
  | non | bl (b : Bool) | int (i : Int) | str (x : List Nat) | tup (ds : List D) | lst (ds : List D) | ob (c : Nat) (ns : List Str) (ds : List D) | dic (ks : List Key) (ds : List D)
inductive R (α : Type) where
  | ok (a : α) | exc (c : Nat) | stuck
def R.bind {α β : Type} : R α → (α → R β) → R β
  | .ok a, f => f a
  | .exc c, _ => .exc c
  | .stuck, _ => .stuck
@[simp] theorem R.bind_ok {α β : Type} (a : α) (f : α → R β) : (R.ok a).bind f = f a := rfl
@[simp] theorem R.bind_exc {α β : Type} (c : Nat) (f : α → R β) : (R.exc c : R α).bind f = R.exc c := rfl
@[simp] theorem R.bind_stuck {α β : Type} (f : α → R β) : (R.stuck : R α).bind f = R.stuck := rfl
structure Zx where
  K : PySem.W.Frag
  κ : Nat → Addr
abbrev stV (x : List Nat) : V := .str ⟨x.toArray⟩
mutual
def Den (Z : Zx) (G : Hp) : V → D → Prop
  | v, .non => v = .non
  | v, .bl b => v = .bl b
  | v, .int i => v = .int i
  | v, .str x => v = stV x
  | v, .tup ds => ∃ a vs, v = .ref a ∧ SqT Z.K G a vs ∧ Dens Z G vs ds
  | v, .lst ds => ∃ a vs, v = .ref a ∧ SqL Z.K G a vs ∧ Dens Z G vs ds
  | v, .ob c ns ds => ∃ a dx vs, v = .ref a ∧ G a = some (.ins (Z.κ c) dx (ns.zip vs)) ∧ ns.length = vs.length ∧ Dens Z G vs ds
  | v, .dic ks ds => ∃ a vs, v = .ref a ∧ G a = some (.dK (ks.zip vs)) ∧ ks.length = vs.length ∧ Dens Z G vs ds
def Dens (Z : Zx) (G : Hp) : List V → List D → Prop
  | [], [] => True
  | v :: vs, d :: ds => Den Z G v d ∧ Dens Z G vs ds
  | [], _ :: _ => False
  | _ :: _, [] => False
end
theorem same_seqT {K : PySem.W.Frag} {H H' : Hp} {a : Addr} {xs : List V} (e : Same H H') (h : SqT K H a xs) : SqT K H' a xs := by
  rcases h with (h | ⟨o, h⟩) | h
  · exact .inl (.inl (e _ _ h))
  · exact .inl (.inr ⟨o, e _ _ h⟩)
  · exact .inr h
section
variable {Z : Zx} {G G' : Hp}
mutual
theorem Den.mono (s : Same G G') : ∀ {v : V} {d : D}, Den Z G v d → Den Z G' v d
  | v, .non, h => by unfold Den at h ⊢; exact h
  | v, .bl b, h => by unfold Den at h ⊢; exact h
  | v, .int i, h => by unfold Den at h ⊢; exact h
  | v, .str x, h => by unfold Den at h ⊢; exact h
  | v, .tup ds, h => by
    unfold Den at h ⊢
    obtain ⟨a, vs, e, q, r⟩ := h
    exact ⟨a, vs, e, same_seqT s q, Dens.mono s r⟩
  | v, .lst ds, h => by
    unfold Den at h ⊢
    obtain ⟨a, vs, e, q, r⟩ := h
    exact ⟨a, vs, e, s.seq q, Dens.mono s r⟩
  | v, .ob c ns ds, h => by
    unfold Den at h ⊢
    obtain ⟨a, dx, vs, e, q, l, r⟩ := h
    exact ⟨a, dx, vs, e, s _ _ q, l, Dens.mono s r⟩
  | v, .dic ks ds, h => by
    unfold Den at h ⊢
    obtain ⟨a, vs, e, q, l, r⟩ := h
    exact ⟨a, vs, e, s _ _ q, l, Dens.mono s r⟩
theorem Dens.mono (s : Same G G') : ∀ {vs : List V} {ds : List D}, Dens Z G vs ds → Dens Z G' vs ds
  | [], [], h => by unfold Dens; trivial
  | v :: vs, d :: ds, h => by
    unfold Dens at h ⊢
    exact ⟨Den.mono s h.1, Dens.mono s h.2⟩
  | [], _ :: _, h => by unfold Dens at h; exact h.elim
  | _ :: _, [], h => by unfold Dens at h; exact h.elim
end
theorem dens_nil : Dens Z G [] [] := by unfold Dens; trivial
theorem dens_cons {v : V} {vs : List V} {d : D} {ds : List D} (h : Den Z G v d) (r : Dens Z G vs ds) : Dens Z G (v :: vs) (d :: ds) := by unfold Dens; exact ⟨h, r⟩
theorem Dens.length : ∀ {vs : List V} {ds : List D}, Dens Z G vs ds → vs.length = ds.length
  | [], [], _ => rfl
  | _ :: _, _ :: _, h => by unfold Dens at h; simp [Dens.length h.2]
  | [], _ :: _, h => by unfold Dens at h; exact h.elim
  | _ :: _, [], h => by unfold Dens at h; exact h.elim
theorem Dens.get : ∀ {vs : List V} {ds : List D} {i : Nat} {d : D}, Dens Z G vs ds → ds[i]? = some d → ∃ v, vs[i]? = some v ∧ Den Z G v d
  | [], [], _, _, _, e => by simp at e
  | v :: _, _ :: _, 0, _, h, e => by unfold Dens at h; simp at e; subst e; exact ⟨v, rfl, h.1⟩
  | _ :: _, _ :: _, i + 1, _, h, e => by unfold Dens at h; simpa using Dens.get h.2 (by simpa using e)
  | [], _ :: _, _, _, h, _ => by unfold Dens at h; exact h.elim
  | _ :: _, [], _, _, h, _ => by unfold Dens at h; exact h.elim
theorem Dens.append : ∀ {vs : List V} {ds : List D} {us : List V} {es : List D}, Dens Z G vs ds → Dens Z G us es → Dens Z G (vs ++ us) (ds ++ es)
  | [], [], _, _, _, h => h
  | _ :: _, _ :: _, _, _, h, k => by unfold Dens at h; exact dens_cons h.1 (Dens.append h.2 k)
  | [], _ :: _, _, _, h, _ => by unfold Dens at h; exact h.elim
  | _ :: _, [], _, _, h, _ => by unfold Dens at h; exact h.elim
theorem Dens.drop : ∀ {vs : List V} {ds : List D} (n : Nat), Dens Z G vs ds → Dens Z G (vs.drop n) (ds.drop n)
  | _, _, 0, h => h
  | [], [], _ + 1, _ => by simp; exact dens_nil
  | _ :: _, _ :: _, n + 1, h => by unfold Dens at h; simpa using Dens.drop n h.2
  | [], _ :: _, _ + 1, h => by unfold Dens at h; exact h.elim
  | _ :: _, [], _ + 1, h => by unfold Dens at h; exact h.elim
theorem Dens.take : ∀ {vs : List V} {ds : List D} (n : Nat), Dens Z G vs ds → Dens Z G (vs.take n) (ds.take n)
  | _, _, 0, _ => by simp; exact dens_nil
  | [], [], _ + 1, _ => by simp; exact dens_nil
  | _ :: _, _ :: _, n + 1, h => by unfold Dens at h; simpa using dens_cons h.1 (Dens.take n h.2)
  | [], _ :: _, _ + 1, h => by unfold Dens at h; exact h.elim
  | _ :: _, [], _ + 1, h => by unfold Dens at h; exact h.elim
theorem Dens.set {v : V} {d : D} (x : Den Z G v d) : ∀ {vs : List V} {ds : List D} (n : Nat), Dens Z G vs ds → Dens Z G (vs.set n v) (ds.set n d)
  | [], [], _, _ => by simp; exact dens_nil
  | _ :: _, _ :: _, 0, h => by unfold Dens at h; simpa using dens_cons x h.2
  | _ :: _, _ :: _, n + 1, h => by unfold Dens at h; simpa using dens_cons h.1 (Dens.set x n h.2)
  | [], _ :: _, _, h => by unfold Dens at h; exact h.elim
  | _ :: _, [], _, h => by unfold Dens at h; exact h.elim
theorem dens_ints (ns : List Int) : Dens Z G (ns.map V.int) (ns.map D.int) := by
  induction ns with
  | nil => exact dens_nil
  | cons n r ih => exact dens_cons (by unfold Den; rfl) ih
end
inductive Sl where
  | sh (d : D) | ow (ds : List D) | oo (c : Nat) (ns : List Str) (ds : List D)
abbrev Ev := List (Option Sl)
structure Gd where
  g : Hp
  m : Addr → Prop
structure Hold (B : Gd) (H₀ G H : Hp) : Prop where
  gG : Same B.g G
  GH : Same G H
  old : ∀ b o, H₀ b = some o → ¬ B.m b → H b = some o
  there : ∀ b, H₀ b ≠ none → H b ≠ none
  lent : ∀ b, H₀ b ≠ none → B.g b = none → G b = none
structure Rep (Z : Zx) (B : Gd) (H₀ G H : Hp) (σ : St) (δ : Ev) : Prop extends Hold B H₀ G H where
  len : σ.length = δ.length
  sh : ∀ (i : Nat) d, δ[i]? = some (some (.sh d)) → ∃ v, σ[i]? = some (some v) ∧ Den Z G v d
  ow : ∀ (i : Nat) ds, δ[i]? = some (some (.ow ds)) → ∃ a vs, σ[i]? = some (some (.ref a)) ∧ H a = some (.lst vs) ∧ Dens Z G vs ds ∧ G a = none ∧ H₀ a = none
  sep : ∀ (i j : Nat) ds es a, i ≠ j → δ[i]? = some (some (.ow ds)) → δ[j]? = some (some (.ow es)) → σ[i]? = some (some (.ref a)) → σ[j]? = some (some (.ref a)) → False
  oo : ∀ (i : Nat) c ns ds, δ[i]? = some (some (.oo c ns ds)) → ∃ x dx vs, σ[i]? = some (some (.ref x)) ∧ H x = some (.ins (Z.κ c) dx (ns.zip vs)) ∧ ns.length = vs.length ∧ Dens Z G vs ds ∧ G x = none ∧ B.m x
  oo1 : ∀ (i j : Nat) c ns ds c' ns' ds' x, i ≠ j → δ[i]? = some (some (.oo c ns ds)) → δ[j]? = some (some (.oo c' ns' ds')) → σ[i]? = some (some (.ref x)) → σ[j]? = some (some (.ref x)) → False
structure Ext (G H G' H' : Hp) : Prop where
  sG : Same G G'
  sH : Same H H'
  GH : Same G' H'
  new : ∀ a, G' a ≠ none → G a ≠ none ∨ H a = none
theorem Ext.refl {G H : Hp} (h : Same G H) : Ext G H G H := ⟨Same.refl _, Same.refl _, h, fun _ z => .inl z⟩
theorem Ext.trans {G H G1 H1 G2 H2 : Hp} (a : Ext G H G1 H1) (b : Ext G1 H1 G2 H2) : Ext G H G2 H2 :=
  ⟨a.sG.trans b.sG, a.sH.trans b.sH, b.GH, fun x z => (b.new x z).elim (a.new x) fun q => .inr (a.sH.free q)⟩
section
variable {Z : Zx} {B : Gd} {H₀ G H G' H' : Hp} {σ : St} {δ : Ev}
theorem Hold.ext (h : Hold B H₀ G H) (e : Ext G H G' H') : Hold B H₀ G' H' where
  gG := h.gG.trans e.sG
  GH := e.GH
  old := fun b o q n => e.sH _ _ (h.old b o q n)
  there := fun b q => by
    have := h.there b q
    cases z : H b with
    | none => exact absurd z this
    | some o => rw [e.sH _ _ z]; simp
  lent := fun b q n => by
    cases z : G' b with
    | none => rfl
    | some o =>
      rcases e.new b (by rw [z]; simp) with y | y
      · exact absurd (h.lent b q n) y
      · exact absurd y (h.there b q)
theorem Rep.ext (r : Rep Z B H₀ G H σ δ) (e : Ext G H G' H') : Rep Z B H₀ G' H' σ δ where
  toHold := r.toHold.ext e
  len := r.len
  sh := fun i d q => let ⟨v, a, b⟩ := r.sh i d q; ⟨v, a, b.mono e.sG⟩
  ow := fun i ds q => by
    obtain ⟨a, vs, x1, x2, x3, x4, x5⟩ := r.ow i ds q
    refine ⟨a, vs, x1, e.sH _ _ x2, x3.mono e.sG, ?_, x5⟩
    cases z : G' a with
    | none => rfl
    | some o =>
      rcases e.new a (by rw [z]; simp) with y | y
      · exact absurd x4 y
      · rw [x2] at y; cases y
  sep := r.sep
  oo := fun i c ns ds q => by
    obtain ⟨x, dx, vs, x1, x2, x3, x4, x5, x6⟩ := r.oo i c ns ds q
    refine ⟨x, dx, vs, x1, e.sH _ _ x2, x3, x4.mono e.sG, ?_, x6⟩
    cases z : G' x with
    | none => rfl
    | some o =>
      rcases e.new x (by rw [z]; simp) with y | y
      · exact absurd x5 y
      · rw [x2] at y; cases y
  oo1 := r.oo1
theorem getset {α : Type} {l : List α} {i j : Nat} {x y : α} (h : (l.set i x)[j]? = some y) : (j = i ∧ y = x ∧ i < l.length) ∨ (j ≠ i ∧ l[j]? = some y) := by
  by_cases e : j = i
  · subst e
    by_cases hl : j < l.length
    · rw [List.getElem?_set_self hl] at h; exact .inl ⟨rfl, (Option.some.inj h).symm, hl⟩
    · rw [List.getElem?_eq_none (by simpa using hl)] at h; cases h
  · rw [List.getElem?_set_ne (Ne.symm e)] at h; exact .inr ⟨e, h⟩
theorem Rep.setSh (r : Rep Z B H₀ G H σ δ) {i : Nat} {v : V} {d : D} (h : Den Z G v d) : Rep Z B H₀ G H (σ.set i (some v)) (δ.set i (some (.sh d))) where
  toHold := r.toHold
  len := by simpa using r.len
  sh := fun j e q => by
    rcases getset q with ⟨rfl, e1, hl⟩ | ⟨n, q⟩
    · cases e1
      exact ⟨v, List.getElem?_set_self (by rw [r.len]; exact hl), h⟩
    · obtain ⟨u, a, b⟩ := r.sh j e q
      exact ⟨u, by rw [List.getElem?_set_ne (Ne.symm n)]; exact a, b⟩
  ow := fun j ds q => by
    rcases getset q with ⟨rfl, e1, hl⟩ | ⟨n, q⟩
    · cases e1
    · obtain ⟨a, vs, x1, x2⟩ := r.ow j ds q
      exact ⟨a, vs, by rw [List.getElem?_set_ne (Ne.symm n)]; exact x1, x2⟩
  sep := fun j k ds es a n q1 q2 s1 s2 => by
    rcases getset q1 with ⟨_, e1, _⟩ | ⟨n1, q1⟩
    · cases e1
    · rcases getset q2 with ⟨_, e1, _⟩ | ⟨n2, q2⟩
      · cases e1
      · rw [List.getElem?_set_ne (Ne.symm n1)] at s1
        rw [List.getElem?_set_ne (Ne.symm n2)] at s2
        exact r.sep j k ds es a n q1 q2 s1 s2
  oo := fun j c ns ds q => by
    rcases getset q with ⟨rfl, e1, hl⟩ | ⟨n, q⟩
    · cases e1
    · obtain ⟨x, dx, vs, x1, x2⟩ := r.oo j c ns ds q
      exact ⟨x, dx, vs, by rw [List.getElem?_set_ne (Ne.symm n)]; exact x1, x2⟩
  oo1 := fun j k c ns ds c' ns' ds' x n q1 q2 s1 s2 => by
    rcases getset q1 with ⟨_, e1, _⟩ | ⟨n1, p1⟩
    · cases e1
    · rcases getset q2 with ⟨_, e2, _⟩ | ⟨n2, p2⟩
      · cases e2
      · rw [List.getElem?_set_ne (Ne.symm n1)] at s1
        rw [List.getElem?_set_ne (Ne.symm n2)] at s2
        exact r.oo1 j k c ns ds c' ns' ds' x n p1 p2 s1 s2
theorem Rep.setOw (r : Rep Z B H₀ G H σ δ) {i : Nat} {a : Addr} {vs : List V} {ds : List D} (h1 : H a = some (.lst vs)) (h2 : Dens Z G vs ds) (h3 : G a = none) (h4 : H₀ a = none)
    (h5 : ∀ (j : Nat) es, δ[j]? = some (some (.ow es)) → j ≠ i → σ[j]? ≠ some (some (.ref a))) : Rep Z B H₀ G H (σ.set i (some (.ref a))) (δ.set i (some (.ow ds))) where
  toHold := r.toHold
  len := by simpa using r.len
  sh := fun j e q => by
    rcases getset q with ⟨rfl, e1, hl⟩ | ⟨n, q⟩
    · cases e1
    · obtain ⟨u, a, b⟩ := r.sh j e q
      exact ⟨u, by rw [List.getElem?_set_ne (Ne.symm n)]; exact a, b⟩
  ow := fun j es q => by
    rcases getset q with ⟨rfl, e1, hl⟩ | ⟨n, q⟩
    · cases e1
      exact ⟨a, vs, List.getElem?_set_self (by rw [r.len]; exact hl), h1, h2, h3, h4⟩
    · obtain ⟨b, us, x1, x2⟩ := r.ow j es q
      exact ⟨b, us, by rw [List.getElem?_set_ne (Ne.symm n)]; exact x1, x2⟩
  sep := fun j k es fs b n q1 q2 s1 s2 => by
    rcases getset q1 with ⟨ej, e1, l1⟩ | ⟨n1, p1⟩
    · rcases getset q2 with ⟨ek, _⟩ | ⟨n2, p2⟩
      · exact n (ej.trans ek.symm)
      · rw [ej, List.getElem?_set_self (by rw [r.len]; exact l1)] at s1
        rw [List.getElem?_set_ne (Ne.symm n2)] at s2
        cases s1
        exact h5 k fs p2 n2 s2
    · rcases getset q2 with ⟨ek, e1, l2⟩ | ⟨n2, p2⟩
      · rw [ek, List.getElem?_set_self (by rw [r.len]; exact l2)] at s2
        rw [List.getElem?_set_ne (Ne.symm n1)] at s1
        cases s2
        exact h5 j es p1 n1 s1
      · rw [List.getElem?_set_ne (Ne.symm n1)] at s1
        rw [List.getElem?_set_ne (Ne.symm n2)] at s2
        exact r.sep j k es fs b n p1 p2 s1 s2
  oo := fun j c ns es q => by
    rcases getset q with ⟨rfl, e1, hl⟩ | ⟨n, q⟩
    · cases e1
    · obtain ⟨x, dx, us, x1, x2⟩ := r.oo j c ns es q
      exact ⟨x, dx, us, by rw [List.getElem?_set_ne (Ne.symm n)]; exact x1, x2⟩
  oo1 := fun j k c ns es c' ns' es' x n q1 q2 s1 s2 => by
    rcases getset q1 with ⟨_, e1, _⟩ | ⟨n1, p1⟩
    · cases e1
    · rcases getset q2 with ⟨_, e2, _⟩ | ⟨n2, p2⟩
      · cases e2
      · rw [List.getElem?_set_ne (Ne.symm n1)] at s1
        rw [List.getElem?_set_ne (Ne.symm n2)] at s2
        exact r.oo1 j k c ns es c' ns' es' x n p1 p2 s1 s2
theorem Rep.updOw (r : Rep Z B H₀ G H σ δ) {i : Nat} {a : Addr} {ds es : List D} {us : List V} (q : δ[i]? = some (some (.ow ds))) (s : σ[i]? = some (some (.ref a))) (h2 : Dens Z G us es) :
    Rep Z B H₀ G (upd H a (.lst us)) σ (δ.set i (some (.ow es))) := by
  obtain ⟨a', vs, x1, x2, x3, x4, x5⟩ := r.ow i ds q
  rw [s] at x1; cases x1
  have ha : ∀ b o, G b = some o → b ≠ a := fun b o z e => by rw [e, x4] at z; cases z
  refine ⟨⟨r.gG, fun b o z => by rw [upd_ne (ha b o z)]; exact r.GH b o z, fun b o z n => ?_, fun b z => ?_, r.lent⟩, by simpa using r.len, fun j e q' => ?_, fun j fs q' => ?_, fun j k fs gs b n q1 q2 s1 s2 => ?_, fun j c ns fs q' => ?_, fun j k c ns fs c' ns' fs' x n q1 q2 s1 s2 => ?_⟩
  · rw [upd_ne (by rintro rfl; rw [x5] at z; cases z)]; exact r.old b o z n
  · by_cases hb : b = a
    · subst hb; rw [upd_same]; simp
    · rw [upd_ne hb]; exact r.there b z
  · rcases getset q' with ⟨_, e1, _⟩ | ⟨n, q'⟩
    · cases e1
    · exact r.sh j e q'
  · rcases getset q' with ⟨rfl, e1, _⟩ | ⟨n, q'⟩
    · cases e1
      exact ⟨a, us, s, upd_same, h2, x4, x5⟩
    · obtain ⟨b, ws, y1, y2, y3⟩ := r.ow j fs q'
      have : b ≠ a := by rintro rfl; exact r.sep j i fs ds b n q' q y1 s
      exact ⟨b, ws, y1, by rw [upd_ne this]; exact y2, y3⟩
  · have f : ∀ (l : Nat) es', (δ.set i (some (.ow es)))[l]? = some (some (.ow es')) → ∃ es'', δ[l]? = some (some (.ow es'')) := fun l es' z => by
      rcases getset z with ⟨rfl, _⟩ | ⟨_, z⟩
      · exact ⟨ds, q⟩
      · exact ⟨_, z⟩
    obtain ⟨_, z1⟩ := f j fs q1
    obtain ⟨_, z2⟩ := f k gs q2
    exact r.sep j k _ _ b n z1 z2 s1 s2
  · rcases getset q' with ⟨_, e1, _⟩ | ⟨n, q'⟩
    · cases e1
    · obtain ⟨x, dx, ws, y1, y2, y3⟩ := r.oo j c ns fs q'
      have : x ≠ a := ne_of y2 x2 (by intro z; cases z)
      exact ⟨x, dx, ws, y1, by rw [upd_ne this]; exact y2, y3⟩
  · rcases getset q1 with ⟨_, e1, _⟩ | ⟨_, p1⟩
    · cases e1
    · rcases getset q2 with ⟨_, e2, _⟩ | ⟨_, p2⟩
      · cases e2
      · exact r.oo1 j k c ns fs c' ns' fs' x n p1 p2 s1 s2
def frzE (i : Nat) (δ : Ev) : Ev := match δ[i]? with
  | some (some (.ow ds)) => δ.set i (some (.sh (.lst ds)))
  | _ => δ
theorem Rep.freeze (r : Rep Z B H₀ G H σ δ) (i : Nat) : ∃ G', Rep Z B H₀ G' H σ (frzE i δ) := by
  unfold frzE
  split
  · rename_i ds q
    obtain ⟨a, vs, x1, x2, x3, x4, x5⟩ := r.ow i ds q
    have sg : Same G (upd G a (.lst vs)) := fun b o z => by
      rw [upd_ne (by rintro rfl; rw [x4] at z; cases z)]; exact z
    have sh' : Same (upd G a (.lst vs)) H := fun b o z => by
      by_cases hb : b = a
      · subst hb; rw [upd_same] at z; cases z; exact x2
      · rw [upd_ne hb] at z; exact r.GH b o z
    refine ⟨upd G a (.lst vs), ⟨⟨r.gG.trans sg, sh', r.old, r.there, fun b z n => ?_⟩, by simpa using r.len, fun j e q' => ?_, fun j fs q' => ?_, fun j k fs gs b n q1 q2 s1 s2 => ?_, fun j c ns fs q' => ?_, fun j k c ns fs c' ns' fs' x n q1 q2 s1 s2 => ?_⟩⟩
    · rw [upd_ne (by rintro rfl; exact z x5)]; exact r.lent b z n
    · rcases getset q' with ⟨rfl, e1, _⟩ | ⟨n, q'⟩
      · cases e1
        exact ⟨.ref a, x1, by unfold Den; exact ⟨a, vs, rfl, SqL.of upd_same, x3.mono sg⟩⟩
      · obtain ⟨u, y1, y2⟩ := r.sh j e q'
        exact ⟨u, y1, y2.mono sg⟩
    · rcases getset q' with ⟨_, e1, _⟩ | ⟨n, q'⟩
      · cases e1
      · obtain ⟨b, ws, y1, y2, y3, y4, y5⟩ := r.ow j fs q'
        have : b ≠ a := by rintro rfl; exact r.sep j i fs ds b n q' q y1 x1
        exact ⟨b, ws, y1, y2, y3.mono sg, by rw [upd_ne this]; exact y4, y5⟩
    · rcases getset q1 with ⟨_, e1, _⟩ | ⟨n1, q1⟩
      · cases e1
      · rcases getset q2 with ⟨_, e1, _⟩ | ⟨n2, q2⟩
        · cases e1
        · exact r.sep j k fs gs b n q1 q2 s1 s2
    · rcases getset q' with ⟨_, e1, _⟩ | ⟨n, q'⟩
      · cases e1
      · obtain ⟨x, dx, ws, y1, y2, y3, y4, y5, y6⟩ := r.oo j c ns fs q'
        have : x ≠ a := ne_of y2 x2 (by intro z; cases z)
        exact ⟨x, dx, ws, y1, y2, y3, y4.mono sg, by rw [upd_ne this]; exact y5, y6⟩
    · rcases getset q1 with ⟨_, e1, _⟩ | ⟨_, p1⟩
      · cases e1
      · rcases getset q2 with ⟨_, e2, _⟩ | ⟨_, p2⟩
        · cases e2
        · exact r.oo1 j k c ns fs c' ns' fs' x n p1 p2 s1 s2
  · exact ⟨G, r⟩
end
end L3
set_option Elab.async false
set_option linter.all false
set_option maxRecDepth 100000
namespace L3
open PySem PySem.Spec PyProof.Rows L2
abbrev At (X : Cx) (pins : List (Addr × Obj)) (σ : St) (Ex : Value → Shared → Prop) : Cx := { X with xe := Ex, sg := fun p τ => p = pins ∧ τ = σ }
theorem ok_at {X : Cx} {pins : List (Addr × Obj)} {σ : St} {Ex : Value → Shared → Prop} (ok : X.Ok) : (At X pins σ Ex).Ok :=
  ⟨ok.mod, ok.kind, ok.glob, ok.blt, ok.above, ok.inj, ok.has, ok.cab, ok.hd, ok.frames, ok.stk, ok.exf, ok.bs, ok.bsz, ok.noex, ok.exfs, ok.funs, ok.frf⟩
theorem ok_unat {X : Cx} {pins : List (Addr × Obj)} {σ : St} {Ex Ex' : Value → Shared → Prop} (ok : (At X pins σ Ex).Ok) : (X.wish Ex').Ok :=
  ⟨ok.mod, ok.kind, ok.glob, ok.blt, ok.above, ok.inj, ok.has, ok.cab, ok.hd, ok.frames, ok.stk, ok.exf, ok.bs, ok.bsz, ok.noex, ok.exfs, ok.funs, ok.frf⟩
theorem inv_at {X : Cx} {pins : List (Addr × Obj)} {σ : St} {Ex Ex' : Value → Shared → Prop} {H : Hp} {s : Shared} (I : Inv (X.wish Ex') pins σ H s) : Inv (At X pins σ Ex) pins σ H s :=
  ⟨ok_at I.ok.unwish, I.os, I.bare, I.base, I.loc, I.cell, I.free, I.freeC, I.pin, I.hok, I.len, ⟨rfl, rfl⟩⟩
theorem inv_unat {X : Cx} {pins pins' : List (Addr × Obj)} {σ σ' : St} {Ex : Value → Shared → Prop} {H : Hp} {s : Shared} (hsg : ∀ p τ, X.sg p τ) (I : Inv (At X pins σ Ex) pins' σ' H s) : Inv (X.wish Ex) pins σ H s := by
  obtain ⟨rfl, rfl⟩ := I.sgm
  exact ⟨ok_unat I.ok, I.os, I.bare, I.base, I.loc, I.cell, I.free, I.freeC, I.pin, I.hok, I.len, hsg _ _⟩
def EX (X : Cx) (pins : List (Addr × Obj)) (σ : St) (Ex : Value → Shared → Prop) : XK := fun C _ H' => ∀ ea s', Inv (X.wish Ex) pins σ H' s' → Flies X pins H' s' ea C → Ex (.ref ea) s'
theorem flies_at {X : Cx} {pins pins' : List (Addr × Obj)} {σ : St} {Ex : Value → Shared → Prop} {H : Hp} {s : Shared} {ea : Addr} {C : Value} (F : Flies (At X pins σ Ex) pins' H s ea C) : Flies X pins' H s ea C := by
  have c : ∀ {b}, FreshX (At X pins σ Ex) pins' H b → FreshX X pins' H b := fun f => ⟨f.nl, f.nc, f.np, f.n0, f.nh⟩
  obtain ⟨⟨oe, vs, a0, t1, t2, t3, t4, t5⟩, fr⟩ := F
  refine ⟨⟨oe, vs, a0, t1, t2, t3, t4, t5.imp id ?_⟩, c fr⟩
  rintro ⟨T, oT, ts, x1, x2, x3, x4, x5, x6⟩
  exact ⟨T, oT, ts, x1, x2, x3, x4, x5, c x6⟩
structure Cxo (X : Cx) : Prop where
  sg : ∀ p τ, X.sg p τ
  ex : X.ex = []
theorem passes_at {X : Cx} (c : Cxo X) {pins : List (Addr × Obj)} {σ : St} {Ex : Value → Shared → Prop} : Passes (CXR X.prog X.w) (At X pins σ Ex) (EX X pins σ Ex) := by
  intro pins' σ' H s e s' I h
  obtain ⟨rfl, rfl⟩ := I.sgm
  obtain ⟨ea, C, H', rfl, I', F, hE⟩ := inv_flies I c.ex h
  exact hE ea s' (inv_unat c.sg I') (flies_at F)
theorem pe_imp {X : Cx} {e : Expr} {t t' : TE} (h : PE X e t) (k : ∀ σ H Q, t' σ H Q → t σ H Q) : PE X e t' := fun pins s σ H Q I q => h pins s σ H Q I (k σ H Q q)
theorem pt_imp {X : Cx} {e : Expr} {t t' : TT} (h : PT X e t) (k : ∀ σ H Q, t' σ H Q → t σ H Q) : PT X e t' := fun pins s σ H Q I q => h pins s σ H Q I (k σ H Q q)
theorem pw_imp {X : Cx} {e : Expr} {t t' : TT} (h : PW X e t) (k : ∀ σ H Q, t' σ H Q → t σ H Q) : PW X e t' := fun wh pins s σ H Q I q => h wh pins s σ H Q I (k σ H Q q)
theorem pa_imp {X : Cx} {e : List Expr} {t t' : TA} (h : PA X e t) (k : ∀ σ H Q, t' σ H Q → t σ H Q) : PA X e t' := fun pos pins s σ H Q I q => h pos pins s σ H Q I (k σ H Q q)
def Out {α β : Type} (rel : Hp → Hp → β → α → Prop) (κ : Nat → Addr) (E : XK) (G H : Hp) (r : R α) (Q : β → Hp → Prop) : Prop := match r with
  | .ok d => ∀ v H' G', Ext G H G' H' → rel G' H' v d → Q v H'
  | .exc c => ∀ H' G', Ext G H G' H' → E (.ref (κ c)) none H'
  | .stuck => False
section
variable {α α' β β' : Type} {rel : Hp → Hp → β → α → Prop} {rel' : Hp → Hp → β' → α' → Prop} {κ : Nat → Addr} {E : XK} {G H G' H' : Hp}
theorem Out.pre {r : R α} {Q : β → Hp → Prop} (e : Ext G H G' H') (h : Out rel κ E G H r Q) : Out rel κ E G' H' r Q := by
  cases r with
  | ok d => exact fun v H2 G2 e2 q => h v H2 G2 (e.trans e2) q
  | exc c => exact fun H2 G2 e2 => h H2 G2 (e.trans e2)
  | stuck => exact h
theorem Out.seq {ra : R α} {k : α → R α'} {P : β → Hp → Prop} {Q : β' → Hp → Prop} (h : Out rel' κ E G H (ra.bind k) Q)
    (hk : ∀ a v H1 G1, Ext G H G1 H1 → rel G1 H1 v a → Out rel' κ E G1 H1 (k a) Q → P v H1) : Out rel κ E G H ra P := by
  cases ra with
  | ok d => exact fun v H2 G2 e2 q => hk d v H2 G2 e2 q (Out.pre e2 h)
  | exc c => exact h
  | stuck => exact h
end
abbrev dRel (X : Cx) (κ : Nat → Addr) : Hp → Hp → V → D → Prop := fun G _ v d => Den ⟨X.K, κ⟩ G v d
abbrev dsRel (X : Cx) (κ : Nat → Addr) : Hp → Hp → List V → List D → Prop := fun G _ v d => Dens ⟨X.K, κ⟩ G v d
abbrev bRel : Hp → Hp → Bool → Bool → Prop := fun _ _ b d => b = d
def rRel (X : Cx) (κ : Nat → Addr) : Hp → Hp → V → D → Prop := fun G H v d => Den ⟨X.K, κ⟩ G v d ∨ ∃ a vs ds, v = .ref a ∧ d = .lst ds ∧ H a = some (.lst vs) ∧ Dens ⟨X.K, κ⟩ G vs ds
theorem rRel_mono {X : Cx} {κ : Nat → Addr} {G H G' H' : Hp} {v : V} {d : D} (e : Ext G H G' H') (h : rRel X κ G H v d) : rRel X κ G' H' v d := by
  rcases h with h | ⟨a, vs, ds, h1, h2, h3, h4⟩
  · exact .inl (h.mono e.sG)
  · exact .inr ⟨a, vs, ds, h1, h2, e.sH _ _ h3, h4.mono e.sG⟩
def tO {α β : Type} (rel : Hp → Hp → β → α → Prop) (X : Cx) (κ : Nat → Addr) (B : Gd) (E : XK) (f : Ev → R α) : St → Hp → (β → Hp → Prop) → Prop :=
  fun σ H Q => ∃ G δ, Rep ⟨X.K, κ⟩ B X.H₀ G H σ δ ∧ Out rel κ E G H (f δ) Q
def PX (κ : Nat → Addr) (B : Gd) (X : Cx) (e : Expr) (f : Ev → R D) : Prop := ∀ pins σ Ex, PE (At X pins σ Ex) e (tO (dRel X κ) X κ B (EX X pins σ Ex) f)
def PXr (κ : Nat → Addr) (B : Gd) (X : Cx) (e : Expr) (f : Ev → R D) : Prop := ∀ pins σ Ex, PE (At X pins σ Ex) e (tO (rRel X κ) X κ B (EX X pins σ Ex) f)
def PXs (κ : Nat → Addr) (B : Gd) (X : Cx) (es : List Expr) (f : Ev → R (List D)) : Prop := ∀ pins σ Ex, PA (At X pins σ Ex) es (tO (dsRel X κ) X κ B (EX X pins σ Ex) f)
def PXt (κ : Nat → Addr) (B : Gd) (X : Cx) (e : Expr) (f : Ev → R Bool) : Prop := ∀ pins σ Ex, PT (At X pins σ Ex) e (tO bRel X κ B (EX X pins σ Ex) f)
def PXw (κ : Nat → Addr) (B : Gd) (X : Cx) (e : Expr) (f : Ev → R Bool) : Prop := ∀ pins σ Ex, PW (At X pins σ Ex) e (tO bRel X κ B (EX X pins σ Ex) f)
section
variable {κ : Nat → Addr} {B : Gd} {X : Cx} {a b c : Expr} {fa fb fc : Ev → R D} {pos : Pos}
theorem PX.read (h : PX κ B X a fa) : PXr κ B X a fa := fun pins σ Ex => pe_imp (h pins σ Ex) fun τ H Q ⟨G, δ, r, q⟩ => ⟨G, δ, r, by
  cases e : fa δ with
  | ok d => rw [e] at q; exact fun v H' G' x y => q v H' G' x (.inl y)
  | exc c => rw [e] at q; exact q
  | stuck => rw [e] at q; exact q⟩
def mC (d : D) : Ev → R D := fun _ => .ok d
theorem px_c {e : Expr} {v : V} {d : D} (h : ∀ pins σ Ex, PE (At X pins σ Ex) e (tC v)) (hd : ∀ G, Den ⟨X.K, κ⟩ G v d) : PX κ B X e (mC d) := fun pins σ Ex => pe_imp (h pins σ Ex) fun τ H Q ⟨G, δ, r, q⟩ => q v H G (Ext.refl r.GH) (hd G)
theorem px_int {i : Int} {j pos} : PX κ B X (.Constant (.int i) j pos) (mC (.int i)) := px_c (fun _ _ _ => pe_int) fun _ => by unfold Den; rfl
theorem px_bl {i : Bool} {j pos} : PX κ B X (.Constant (.bool i) j pos) (mC (.bl i)) := px_c (fun _ _ _ => pe_bl) fun _ => by unfold Den; rfl
theorem px_str {x : Str} {l : List Nat} {j pos} (h : x = ⟨l.toArray⟩) : PX κ B X (.Constant (.str x) j pos) (mC (.str l)) := px_c (fun _ _ _ => pe_str) fun _ => by unfold Den; rw [h]
def mVar (i : Nat) : Ev → R D := fun δ => match δ[i]? with
  | some (some (.sh d)) => .ok d
  | _ => .stuck
def mVarR (i : Nat) : Ev → R D := fun δ => match δ[i]? with
  | some (some (.sh d)) => .ok d
  | some (some (.ow ds)) => .ok (.lst ds)
  | _ => .stuck
theorem px_var (i : Nat) {x : Str} (hN : X.N[i]? = some x) (hv : Vis X.env.scope x) (hd : (x == ("__debug__" : Str)) = false) (hcd : (x == ("__classdict__" : Str)) = false) : PX κ B X (.Name x pos) (mVar i) := fun pins σ Ex =>
  pe_imp (pe_var (X := At X pins σ Ex) hN hv hd hcd) fun τ H Q ⟨G, δ, r, q⟩ => by
    unfold mVar at q
    split at q
    · rename_i d e
      obtain ⟨v, e1, e2⟩ := r.sh i d e
      exact ⟨v, e1, q v H G (Ext.refl r.GH) e2⟩
    · exact q.elim
theorem px_varR (i : Nat) {x : Str} (hN : X.N[i]? = some x) (hv : Vis X.env.scope x) (hd : (x == ("__debug__" : Str)) = false) (hcd : (x == ("__classdict__" : Str)) = false) : PXr κ B X (.Name x pos) (mVarR i) := fun pins σ Ex =>
  pe_imp (pe_var (X := At X pins σ Ex) hN hv hd hcd) fun τ H Q ⟨G, δ, r, q⟩ => by
    unfold mVarR at q
    split at q
    · rename_i d e
      obtain ⟨v, e1, e2⟩ := r.sh i d e
      exact ⟨v, e1, q v H G (Ext.refl r.GH) (.inl e2)⟩
    · rename_i ds e
      obtain ⟨l, vs, e1, e2, e3, _⟩ := r.ow i ds e
      exact ⟨.ref l, e1, q _ H G (Ext.refl r.GH) (.inr ⟨l, vs, ds, rfl, rfl, e2, e3⟩)⟩
    · exact q.elim
theorem px_glob {x : Str} {v : V} {u : Value} {d : D} (hg : Gl X x) (hm : X.mg x = some u) (r : RelV v u) (hd : ∀ G, Den ⟨X.K, κ⟩ G v d) (hdb : (x == ("__debug__" : Str)) = false) : PX κ B X (.Name x pos) (mC d) :=
  px_c (fun pins σ Ex => pe_glob (X := At X pins σ Ex) hg hm r hdb) hd
def m2 (op : D → D → R D) (fa fb : Ev → R D) : Ev → R D := fun δ => (fa δ).bind fun x => (fb δ).bind fun y => op x y
def m1 (op : D → R D) (fa : Ev → R D) : Ev → R D := fun δ => (fa δ).bind op
def OpOk (κ : Nat → Addr) (X : Cx) (r : R2) (op : D → D → R D) : Prop := ∀ x y v u G H Q E, Same G H → rRel X κ G H v x → rRel X κ G H u y → Out (dRel X κ) κ E G H (op x y) Q → r v u H Q
theorem px_op {o : Operator} {r : R2} {op : D → D → R D} (ho : ∀ Y : Cx, Y.K = X.K → OpR Y (binaryOp o) r) (hop : OpOk κ X r op) (ha : PXr κ B X a fa) (hb : PXr κ B X b fb) : PX κ B X (.BinOp a o b pos) (m2 op fa fb) := fun pins σ Ex =>
  pe_imp (pe_op (ho (At X pins σ Ex) rfl) (ha pins σ Ex) (hb pins σ Ex)) fun τ H Q ⟨G, δ, rp, q⟩ => ⟨G, δ, rp, q.seq fun x v H1 G1 e1 d1 q1 => ⟨G1, δ, rp.ext e1, q1.seq fun y u H2 G2 e2 d2 q2 =>
    hop x y v u G2 H2 Q _ e2.GH (rRel_mono e2 d1) d2 q2⟩⟩
theorem px_cmp {o : CmpOp} {r : R2} {op : D → D → R D} (ho : ∀ Y : Cx, Y.K = X.K → Y.A = X.A → OpR Y (compareOp o) r) (hop : OpOk κ X r op) (ha : PXr κ B X a fa) (hb : PXr κ B X b fb) (hm : behindInMarks o b = false) : PX κ B X (.Compare a [o] [b] pos) (m2 op fa fb) := fun pins σ Ex =>
  pe_imp (pe_cmpR (ho (At X pins σ Ex) rfl rfl) (ha pins σ Ex) (hb pins σ Ex) hm) fun τ H Q ⟨G, δ, rp, q⟩ => ⟨G, δ, rp, q.seq fun x v H1 G1 e1 d1 q1 => ⟨G1, δ, rp.ext e1, q1.seq fun y u H2 G2 e2 d2 q2 =>
    hop x y v u G2 H2 Q _ e2.GH (rRel_mono e2 d1) d2 q2⟩⟩
def m2t (op : D → D → R Bool) (fa fb : Ev → R D) : Ev → R Bool := fun δ => (fa δ).bind fun x => (fb δ).bind fun y => op x y
def blR : R Bool → R D
  | .ok b => .ok (.bl b)
  | .exc c => .exc c
  | .stuck => .stuck
def op2 (op : D → D → R Bool) : D → D → R D := fun x y => blR (op x y)
theorem pxt_cmp {o : CmpOp} {r : R2} {op : D → D → R Bool} (ho : ∀ Y : Cx, Y.K = X.K → Y.A = X.A → OpR Y (compareOp o) r) (hop : OpOk κ X r (op2 op)) (ha : PXr κ B X a fa) (hb : PXr κ B X b fb) (hm : behindInMarks o b = false) : PXt κ B X (.Compare a [o] [b] pos) (m2t op fa fb) := fun pins σ Ex =>
  pt_imp (pt_cmpR (ho (At X pins σ Ex) rfl rfl) (ha pins σ Ex) (hb pins σ Ex) hm) fun τ H Q ⟨G, δ, rp, q⟩ => ⟨G, δ, rp, q.seq fun x v H1 G1 e1 d1 q1 => ⟨G1, δ, rp.ext e1, q1.seq fun y u H2 G2 e2 d2 q2 =>
    hop x y v u G2 H2 _ _ e2.GH (rRel_mono e2 d1) d2 (by
      unfold op2
      cases e : op x y with
      | ok k =>
        rw [e] at q2
        intro z H3 G3 e3 d3
        have d3' : z = .bl k := by simpa [Den] using d3
        exact ⟨k, d3', q2 k H3 G3 e3 rfl⟩
      | exc c => rw [e] at q2; exact q2
      | stuck => rw [e] at q2; exact q2)⟩⟩
theorem rInt {G H : Hp} {v : V} {i : Int} (h : rRel X κ G H v (.int i)) : v = .int i := by
  rcases h with h | ⟨_, _, _, _, e, _⟩
  · simpa [Den] using h
  · cases e
theorem dInt {Z : Zx} {G : Hp} {i : Int} : Den Z G (.int i) (.int i) := by unfold Den; rfl
theorem dBl {Z : Zx} {G : Hp} {i : Bool} : Den Z G (.bl i) (.bl i) := by unfold Den; rfl
theorem dStr {Z : Zx} {G : Hp} {i : List Nat} : Den Z G (stV i) (.str i) := by unfold Den; rfl
theorem dNon {Z : Zx} {G : Hp} : Den Z G .non .non := by unfold Den; rfl
def oI (C : Int → Int → Bool) (g : Int → Int → Int) : D → D → R D
  | .int i, .int j => if C i j then .ok (.int (g i j)) else .stuck
  | _, _ => .stuck
theorem opOk_I {C : Int → Int → Prop} {C' : Int → Int → Bool} {g : Int → Int → Int} (hc : ∀ i j, C' i j = true → C i j) : OpOk κ X (rI C fun i j => .int (g i j)) (oI C' g) := by
  intro x y v u G H Q E s d1 d2 q
  unfold oI at q
  split at q
  · rename_i i j
    split at q
    · rename_i h
      exact ⟨i, j, rInt d1, rInt d2, hc _ _ h, q _ H G (Ext.refl s) dInt⟩
    · exact q.elim
  · exact q.elim
def oI0 (g : Int → Int → Int) : D → D → R D
  | .int i, .int j => .ok (.int (g i j))
  | _, _ => .stuck
theorem opOk_I0 {g : Int → Int → Int} : OpOk κ X (rI0 fun i j => .int (g i j)) (oI0 g) := by
  intro x y v u G H Q E s d1 d2 q
  unfold oI0 at q
  split at q
  · exact ⟨_, _, rInt d1, rInt d2, q _ H G (Ext.refl s) dInt⟩
  · exact q.elim
def oSub : D → D → R D := oI0 fun i j => i - j
def oMul : D → D → R D := oI (fun i j => (decide (-(2 ^ 64) < i) && decide (i < 2 ^ 64)) || (decide (-(2 ^ 64) < j) && decide (j < 2 ^ 64))) fun i j => i * j
def oDiv : D → D → R D := oI (fun _ j => decide (0 < j) && decide (j < 1073741824)) fun i j => i / j
def oMod : D → D → R D := oI (fun _ j => decide (0 < j)) fun i j => i % j
theorem px_sub (ha : PXr κ B X a fa) (hb : PXr κ B X b fb) : PX κ B X (.BinOp a .Sub b pos) (m2 oSub fa fb) := px_op (fun _ _ => op_sub) opOk_I0 ha hb
theorem px_mulI (ha : PXr κ B X a fa) (hb : PXr κ B X b fb) : PX κ B X (.BinOp a .Mult b pos) (m2 oMul fa fb) := px_op (fun _ _ => op_mul) (opOk_I fun i j h => by unfold CMul; simpa using h) ha hb
theorem px_div (ha : PXr κ B X a fa) (hb : PXr κ B X b fb) : PX κ B X (.BinOp a .FloorDiv b pos) (m2 oDiv fa fb) := px_op (fun _ _ => op_fdiv) (opOk_I fun i j h => by unfold CDiv; simpa using h) ha hb
theorem px_mod (ha : PXr κ B X a fa) (hb : PXr κ B X b fb) : PX κ B X (.BinOp a .Mod b pos) (m2 oMod fa fb) := px_op (fun _ _ => op_mod) (opOk_I fun i j h => by simpa using h) ha hb
def oAdd : D → D → R D
  | .int i, .int j => .ok (.int (i + j))
  | .str x, .str y => if x.length + y.length ≤ 1000000 then .ok (.str (x ++ y)) else .stuck
  | _, _ => .stuck
theorem rStr {G H : Hp} {v : V} {x : List Nat} (h : rRel X κ G H v (.str x)) : v = stV x := by
  rcases h with h | ⟨_, _, _, _, e, _⟩
  · simpa [Den] using h
  · cases e
theorem opR_or {Y : Cx} {f : Value → Value → Sem Value} {r r' : R2} (h : OpR Y f r) (h' : OpR Y f r') : OpR Y f (fun x y H Q => r x y H Q ∨ r' x y H Q) := by
  intro pins s σ H x y v u Q I rx ry q
  rcases q with q | q
  · exact h pins s σ H x y v u Q I rx ry q
  · exact h' pins s σ H x y v u Q I rx ry q
theorem big1 {n : Nat} (h : n ≤ 1000000) : n ≤ sizeLine := Nat.le_trans h (by rw [sizeLine_eq]; decide)
theorem px_add (ha : PXr κ B X a fa) (hb : PXr κ B X b fb) : PX κ B X (.BinOp a .Add b pos) (m2 oAdd fa fb) := px_op (fun _ _ => opR_or op_add op_add_str) (by
  intro x y v u G H Q E s d1 d2 q
  unfold oAdd at q
  split at q
  · exact .inl ⟨_, _, rInt d1, rInt d2, q _ H G (Ext.refl s) dInt⟩
  · rename_i x y
    split at q
    · rename_i h
      refine .inr ⟨_, _, rStr d1, rStr d2, big1 (by simpa [Str.length] using h), ?_⟩
      exact q _ H G (Ext.refl s) (by unfold Den; show V.str ⟨x.toArray ++ y.toArray⟩ = V.str ⟨(x ++ y).toArray⟩; simp)
    · exact q.elim
  · exact q.elim) ha hb
def oCmp (p : Int → Int → Bool) : D → D → R Bool
  | .int i, .int j => .ok (p i j)
  | _, _ => .stuck
theorem opOk_cmp {p : Int → Int → Bool} : OpOk κ X (rI0 fun i j => .bl (p i j)) (op2 (oCmp p)) := by
  intro x y v u G H Q E s d1 d2 q
  unfold op2 oCmp at q
  split at q
  · exact ⟨_, _, rInt d1, rInt d2, q _ H G (Ext.refl s) dBl⟩
  · exact False.elim q
def oLt : D → D → R Bool := oCmp fun i j => decide (i < j)
def oLe : D → D → R Bool := oCmp fun i j => decide (i ≤ j)
def oGt : D → D → R Bool := oCmp fun i j => decide (j < i)
def oGe : D → D → R Bool := oCmp fun i j => decide (j ≤ i)
theorem px_lt (ha : PXr κ B X a fa) (hb : PXr κ B X b fb) (hm : behindInMarks .Lt b = false) : PX κ B X (.Compare a [.Lt] [b] pos) (m2 (op2 oLt) fa fb) := px_cmp (fun _ _ _ => op_lt) opOk_cmp ha hb hm
theorem px_le (ha : PXr κ B X a fa) (hb : PXr κ B X b fb) (hm : behindInMarks .LtE b = false) : PX κ B X (.Compare a [.LtE] [b] pos) (m2 (op2 oLe) fa fb) := px_cmp (fun _ _ _ => op_le) opOk_cmp ha hb hm
theorem pxt_lt (ha : PXr κ B X a fa) (hb : PXr κ B X b fb) (hm : behindInMarks .Lt b = false) : PXt κ B X (.Compare a [.Lt] [b] pos) (m2t oLt fa fb) := pxt_cmp (fun _ _ _ => op_lt) opOk_cmp ha hb hm
theorem pxt_le (ha : PXr κ B X a fa) (hb : PXr κ B X b fb) (hm : behindInMarks .LtE b = false) : PXt κ B X (.Compare a [.LtE] [b] pos) (m2t oLe fa fb) := pxt_cmp (fun _ _ _ => op_le) opOk_cmp ha hb hm
theorem pxt_gt (ha : PXr κ B X a fa) (hb : PXr κ B X b fb) (hm : behindInMarks .Gt b = false) : PXt κ B X (.Compare a [.Gt] [b] pos) (m2t oGt fa fb) := pxt_cmp (fun _ _ _ => op_gt) opOk_cmp ha hb hm
theorem pxt_ge (ha : PXr κ B X a fa) (hb : PXr κ B X b fb) (hm : behindInMarks .GtE b = false) : PXt κ B X (.Compare a [.GtE] [b] pos) (m2t oGe fa fb) := pxt_cmp (fun _ _ _ => op_ge) opOk_cmp ha hb hm
def tru : D → R Bool
  | .non => .ok false
  | .bl b => .ok b
  | .int i => .ok (i != 0)
  | .str x => if x.length ≤ 1000000 then .ok (!x.isEmpty) else .stuck
  | .tup ds => .ok (!ds.isEmpty)
  | .lst ds => .ok (!ds.isEmpty)
  | .ob _ _ _ => .stuck
  | .dic _ _ => .stuck
theorem isEmpty_dens {Z : Zx} {G : Hp} {vs : List V} {ds : List D} (h : Dens Z G vs ds) : vs.isEmpty = ds.isEmpty := by
  have := h.length
  cases vs <;> cases ds <;> simp_all
def mT (f : Ev → R D) : Ev → R Bool := fun δ => (f δ).bind tru
theorem truV {G H : Hp} {v : V} {d : D} {k : Bool} (s : Same G H) (h : rRel X κ G H v d) (e : tru d = .ok k) : TruV X.K v H k := by
  have seq : ∀ {a : Addr} {vs : List V} {ds : List D}, SqL X.K H a vs → Dens ⟨X.K, κ⟩ G vs ds → R.ok (!ds.isEmpty) = R.ok k → TruV X.K (.ref a) H k := fun h1 h2 e => by
    injection e with e
    exact .inl ⟨_, h1, by rw [isEmpty_dens h2, e]⟩
  rcases h with h | ⟨a, vs, ds, rfl, rfl, h3, h4⟩
  · cases d with
    | non => unfold Den at h; subst h; injection e with e; exact e.symm
    | bl b => unfold Den at h; subst h; injection e with e; exact e.symm
    | int i => unfold Den at h; subst h; injection e with e; exact e.symm
    | str x =>
      unfold Den at h; subst h
      simp only [tru] at e
      split at e
      · rename_i hx
        injection e with e
        refine ⟨big1 (by simpa [Str.length] using hx), ?_⟩
        rw [← e]
        cases x with
        | nil => rfl
        | cons c l =>
          have : ((l.length + 1 : Nat) : Int) ≠ 0 := by omega
          simp [Str.length]
          exact this
      · cases e
    | tup ds =>
      unfold Den at h
      obtain ⟨a, vs, rfl, h1, h2⟩ := h
      injection e with e
      exact .inr (.inl ⟨_, same_seqT s h1, by rw [isEmpty_dens h2, e]⟩)
    | lst ds =>
      unfold Den at h
      obtain ⟨a, vs, rfl, h1, h2⟩ := h
      exact seq (s.seq h1) h2 e
    | ob _ _ _ => cases e
    | dic _ _ => cases e
  · exact seq (SqL.of h3) h4 e
theorem pxt_val (ha : PXr κ B X a fa) (he : ∀ whole, isTrue a X.env whole = (do let v ← whole; standAt a.pos; holding [v] (truthy v))) : PXt κ B X a (mT fa) := fun pins σ Ex =>
  pt_imp (pt_truth (X := At X pins σ Ex) (ha pins σ Ex) he) fun τ H Q ⟨G, δ, rp, q⟩ => ⟨G, δ, rp, q.seq fun x v H1 G1 e1 d1 q1 => by
    cases e : tru x with
    | ok k => rw [e] at q1; exact ⟨k, truV e1.GH d1 e, q1 k H1 G1 (Ext.refl e1.GH) rfl⟩
    | exc c =>
      exfalso
      cases x <;> simp [tru] at e
      split at e <;> cases e
    | stuck => rw [e] at q1; exact q1.elim⟩
def mNot (f : Ev → R Bool) : Ev → R Bool := fun δ => (f δ).bind fun k => .ok (!k)
def mAnd (f g : Ev → R Bool) : Ev → R Bool := fun δ => (f δ).bind fun k => if k then g δ else .ok false
def mOr (f g : Ev → R Bool) : Ev → R Bool := fun δ => (f δ).bind fun k => if k then .ok true else g δ
variable {ta tb : Ev → R Bool} {rest : List Expr}
theorem pxt_not (ha : PXt κ B X a ta) : PXt κ B X (.UnaryOp .Not a pos) (mNot ta) := fun pins σ Ex =>
  pt_imp (pt_not (ha pins σ Ex)) fun τ H Q ⟨G, δ, rp, q⟩ => ⟨G, δ, rp, q.seq fun x v H1 G1 e1 d1 q1 => by
    cases d1
    exact q1 (!x) H1 G1 (Ext.refl e1.GH) rfl⟩
theorem pxw_and1 (ha : PXt κ B X a ta) : PXw κ B X (.BoolOp .And [a] pos) ta := fun pins σ Ex => pw_and1 (ha pins σ Ex)
theorem pxw_or1 (ha : PXt κ B X a ta) : PXw κ B X (.BoolOp .Or [a] pos) ta := fun pins σ Ex => pw_or1 (ha pins σ Ex)
theorem pxw_and (ha : PXt κ B X a ta) (hb : PXw κ B X (.BoolOp .And (b :: rest) pos) tb) : PXw κ B X (.BoolOp .And (a :: b :: rest) pos) (mAnd ta tb) := fun pins σ Ex =>
  pw_imp (pw_and (ha pins σ Ex) (hb pins σ Ex)) fun τ H Q ⟨G, δ, rp, q⟩ => ⟨G, δ, rp, q.seq fun x v H1 G1 e1 d1 q1 => by
    cases d1
    cases x with
    | true => exact ⟨G1, δ, rp.ext e1, q1⟩
    | false => exact q1 false H1 G1 (Ext.refl e1.GH) rfl⟩
theorem pxw_or (ha : PXt κ B X a ta) (hb : PXw κ B X (.BoolOp .Or (b :: rest) pos) tb) : PXw κ B X (.BoolOp .Or (a :: b :: rest) pos) (mOr ta tb) := fun pins σ Ex =>
  pw_imp (pw_or (ha pins σ Ex) (hb pins σ Ex)) fun τ H Q ⟨G, δ, rp, q⟩ => ⟨G, δ, rp, q.seq fun x v H1 G1 e1 d1 q1 => by
    cases d1
    cases x with
    | true => exact q1 true H1 G1 (Ext.refl e1.GH) rfl
    | false => exact ⟨G1, δ, rp.ext e1, q1⟩⟩
theorem PXw.t (h : PXw κ B X a ta) : PXt κ B X a ta := fun pins σ Ex => (h pins σ Ex).pt
def boolD : D → R Bool
  | .bl b => .ok b
  | _ => .stuck
def mAndV (f g : Ev → R D) : Ev → R D := fun δ => (f δ).bind fun x => (boolD x).bind fun k => if k then g δ else .ok (.bl false)
def mOrV (f g : Ev → R D) : Ev → R D := fun δ => (f δ).bind fun x => (boolD x).bind fun k => if k then .ok (.bl true) else g δ
def mNotV (f : Ev → R D) : Ev → R D := fun δ => (f δ).bind fun x => (boolD x).bind fun k => .ok (.bl (!k))
theorem boolD_of {x : D} {α : Type} {k : Bool → R α} {rel : Hp → Hp → V → α → Prop} {E : XK} {G H : Hp} {Q : V → Hp → Prop} {v : V} {Z : Zx} {G' : Hp} (d : Den Z G' v x) (h : Out rel κ E G H ((boolD x).bind k) Q) : ∃ c, v = .bl c ∧ x = .bl c ∧ Out rel κ E G H (k c) Q := by
  cases x with
  | bl c => exact ⟨c, by simpa [Den] using d, rfl, h⟩
  | _ => exact h.elim
theorem px_one {op} (h : PX κ B X a fa) : PX κ B X (.BoolOp op [a] pos) fa := fun pins σ Ex => pe_one (h pins σ Ex)
theorem px_and (ha : PX κ B X a fa) (hb : PX κ B X (.BoolOp .And (b :: rest) pos) fb) : PX κ B X (.BoolOp .And (a :: b :: rest) pos) (mAndV fa fb) := fun pins σ Ex =>
  pe_imp (pe_and (ha pins σ Ex) (hb pins σ Ex)) fun τ H Q ⟨G, δ, rp, q⟩ => ⟨G, δ, rp, q.seq fun x v H1 G1 e1 d1 q1 => by
    obtain ⟨k, rfl, rfl, q1⟩ := boolD_of d1 q1
    refine ⟨k, rfl, ?_⟩
    cases k with
    | true => exact ⟨G1, δ, rp.ext e1, q1⟩
    | false => exact q1 _ H1 G1 (Ext.refl e1.GH) dBl⟩
theorem px_or (ha : PX κ B X a fa) (hb : PX κ B X (.BoolOp .Or (b :: rest) pos) fb) : PX κ B X (.BoolOp .Or (a :: b :: rest) pos) (mOrV fa fb) := fun pins σ Ex =>
  pe_imp (pe_or (ha pins σ Ex) (hb pins σ Ex)) fun τ H Q ⟨G, δ, rp, q⟩ => ⟨G, δ, rp, q.seq fun x v H1 G1 e1 d1 q1 => by
    obtain ⟨k, rfl, rfl, q1⟩ := boolD_of d1 q1
    refine ⟨k, rfl, ?_⟩
    cases k with
    | false => exact ⟨G1, δ, rp.ext e1, q1⟩
    | true => exact q1 _ H1 G1 (Ext.refl e1.GH) dBl⟩
def mIf (t : Ev → R Bool) (f g : Ev → R D) : Ev → R D := fun δ => (t δ).bind fun k => if k then f δ else g δ
theorem px_if (hc : PXt κ B X c ta) (ha : PX κ B X a fa) (hb : PX κ B X b fb) : PX κ B X (.IfExp c a b pos) (mIf ta fa fb) := fun pins σ Ex =>
  pe_imp (pe_ifExp (hc pins σ Ex) (ha pins σ Ex) (hb pins σ Ex)) fun τ H Q ⟨G, δ, rp, q⟩ => ⟨G, δ, rp, q.seq fun x v H1 G1 e1 d1 q1 => by
    cases d1
    cases x with
    | true => exact ⟨G1, δ, rp.ext e1, q1⟩
    | false => exact ⟨G1, δ, rp.ext e1, q1⟩⟩
def oIx : D → D → R D
  | .lst ds, .int i => match atI ds i with | some d => .ok d | none => .stuck
  | .tup ds, .int i => match atI ds i with | some d => .ok d | none => .stuck
  | .str x, .int i => if x.length ≤ 1000000 then (match atI x i with | some c => .ok (.str [c]) | none => .stuck) else .stuck
  | _, _ => .stuck
theorem dens_atI {Z : Zx} {G : Hp} {vs : List V} {ds : List D} {i : Int} {d : D} (h : Dens Z G vs ds) (e : atI ds i = some d) : ∃ v, atI vs i = some v ∧ Den Z G v d := by
  unfold atI at e ⊢
  rw [h.length]
  cases q : ixN ds.length i with
  | none => rw [q] at e; cases e
  | some j =>
    rw [q] at e
    exact h.get e
theorem px_ix (ha : PXr κ B X a fa) (hb : PXr κ B X b fb) (hs : PlainIx b) : PX κ B X (.Subscript a b pos) (m2 oIx fa fb) := fun pins σ Ex =>
  pe_imp (pe_ix (ix_seq (X := At X pins σ Ex)) (ha pins σ Ex) (hb pins σ Ex) hs) fun τ H Q ⟨G, δ, rp, q⟩ => ⟨G, δ, rp, q.seq fun x v H1 G1 e1 d1 q1 => ⟨G1, δ, rp.ext e1, q1.seq fun y u H2 G2 e2 d2 q2 => by
    have d1 := rRel_mono e2 d1
    have lst : ∀ {p : Addr} {vs : List V} {ds : List D} {i : Int}, SqL X.K H2 p vs → Dens ⟨X.K, κ⟩ G2 vs ds → u = .int i → Out (dRel X κ) κ (EX X pins σ Ex) G2 H2 (match atI ds i with | some d => .ok d | none => .stuck) Q → rIx X.K (.ref p) u H2 Q := fun {p vs ds i} h1 h2 h3 q => by
      cases e : atI ds i with
      | none => rw [e] at q; exact q.elim
      | some d =>
        rw [e] at q
        obtain ⟨w, x1, x2⟩ := dens_atI h2 e
        exact .inl ⟨p, vs, i, w, rfl, h3, h1, x1, q w H2 G2 (Ext.refl e2.GH) x2⟩
    cases y with
    | int i =>
      cases x with
      | lst ds =>
        rcases d1 with d1 | ⟨p, vs, es, rfl, e, h3, h4⟩
        · unfold Den at d1
          obtain ⟨p, vs, rfl, h1, h2⟩ := d1
          exact lst (e2.GH.seq h1) h2 (rInt d2) q2
        · cases e
          exact lst (SqL.of h3) h4 (rInt d2) q2
      | tup ds =>
        rcases d1 with d1 | ⟨p, vs, es, rfl, e, h3, h4⟩
        · unfold Den at d1
          obtain ⟨p, vs, rfl, h1, h2⟩ := d1
          simp only [oIx] at q2
          cases e : atI ds i with
          | none => rw [e] at q2; exact False.elim q2
          | some d =>
            rw [e] at q2
            obtain ⟨w, x1, x2⟩ := dens_atI h2 e
            exact .inr (.inl ⟨p, vs, i, w, rfl, rInt d2, same_seqT e2.GH h1, x1, q2 w H2 G2 (Ext.refl e2.GH) x2⟩)
        · cases e
      | str x =>
        simp only [oIx] at q2
        split at q2
        · rename_i hx
          cases e : atI x i with
          | none => rw [e] at q2; exact False.elim q2
          | some d =>
            rw [e] at q2
            have ev := rStr d1
            subst ev
            exact .inr (.inr ⟨_, i, d, rfl, rInt d2, big1 (by simpa [Str.length] using hx), by simpa using e, q2 _ H2 G2 (Ext.refl e2.GH) (by unfold Den; rfl)⟩)
        · exact False.elim q2
      | _ => exact False.elim q2
    | _ => cases x <;> exact False.elim q2⟩⟩
def mNil : Ev → R (List D) := fun _ => .ok []
def mCons (f : Ev → R D) (g : Ev → R (List D)) : Ev → R (List D) := fun δ => (f δ).bind fun x => (g δ).bind fun xs => .ok (x :: xs)
variable {es : List Expr} {fs : Ev → R (List D)}
theorem pxs_nil : PXs κ B X [] mNil := fun pins σ Ex => pa_imp pa_nil fun τ H Q ⟨G, δ, rp, q⟩ => q [] H G (Ext.refl rp.GH) dens_nil
theorem pxs_cons (ha : PX κ B X a fa) (hr : PXs κ B X es fs) (hs : starEach (a :: es) X.env = (false, eval a X.env) :: starEach es X.env) : PXs κ B X (a :: es) (mCons fa fs) := fun pins σ Ex =>
  pa_imp (pa_cons (X := At X pins σ Ex) (ha pins σ Ex) (hr pins σ Ex) hs) fun τ H Q ⟨G, δ, rp, q⟩ => ⟨G, δ, rp, q.seq fun x v H1 G1 e1 d1 q1 => ⟨G1, δ, rp.ext e1, q1.seq fun y u H2 G2 e2 d2 q2 =>
    q2 (v :: u) H2 G2 (Ext.refl e2.GH) (dens_cons (d1.mono e2.sG) d2)⟩⟩
theorem ext_new {G H : Hp} {p : Addr} {o : HO} (s : Same G H) (n : H p = none) : Ext G H (upd G p o) (upd H p o) := by
  have ng := s.free n
  refine ⟨fun b u e => ?_, fun b u e => ?_, fun b u e => ?_, fun b e => ?_⟩
  · rw [upd_ne (ne_of_none e ng)]; exact e
  · rw [upd_ne (ne_of_none e n)]; exact e
  · by_cases hb : b = p
    · subst hb; rw [upd_same] at e ⊢; exact e
    · rw [upd_ne hb] at e ⊢; exact s b u e
  · by_cases hb : b = p
    · subst hb; exact .inr n
    · rw [upd_ne hb] at e; exact .inl e
def mTup (f : Ev → R (List D)) : Ev → R D := fun δ => (f δ).bind fun xs => if xs.length ≤ 1000000 then .ok (.tup xs) else .stuck
def mLst (f : Ev → R (List D)) : Ev → R D := fun δ => (f δ).bind fun xs => if xs.length ≤ 1000000 then .ok (.lst xs) else .stuck
theorem px_tup {k : Nat} (h : PXs κ B X es fs) : PX κ B X (.Tuple es k pos) (mTup fs) := fun pins σ Ex =>
  pe_imp (pe_tup (h pins σ Ex)) fun τ H Q ⟨G, δ, rp, q⟩ => ⟨G, δ, rp, q.seq fun x v H1 G1 e1 d1 q1 => by
    split at q1
    · rename_i hl
      refine ⟨big1 (by rw [d1.length]; exact hl), fun p hp => ?_⟩
      have e := ext_new (o := .tup v) e1.GH hp
      exact q1 _ _ _ e (by unfold Den; exact ⟨p, v, rfl, SqT.of upd_same, d1.mono e.sG⟩)
    · exact q1.elim⟩
theorem px_lst (h : PXs κ B X es fs) : PX κ B X (.List es pos) (mLst fs) := fun pins σ Ex =>
  pe_imp (pe_lst (h pins σ Ex)) fun τ H Q ⟨G, δ, rp, q⟩ => ⟨G, δ, rp, q.seq fun x v H1 G1 e1 d1 q1 => by
    split at q1
    · rename_i hl
      refine ⟨big1 (by rw [d1.length]; exact hl), fun p hp => ?_⟩
      have e := ext_new (o := .lst v) e1.GH hp
      exact q1 _ _ _ e (by unfold Den; exact ⟨p, v, rfl, SqL.of upd_same, d1.mono e.sG⟩)
    · exact q1.elim⟩
end
def spM (K : PySem.W.Frag) (κ : Nat → Addr) (n : Nat) (m : List D → R D) : Sp := fun vs H Q E => vs.length = n ∧ ∃ G ds, Same G H ∧ Dens ⟨K, κ⟩ G vs ds ∧ Out (fun G _ v d => Den ⟨K, κ⟩ G v d) κ E G H (m ds) Q
structure Cal (κ : Nat → Addr) (X : Cx) (x : Str) (n : Nat) (m : List D → R D) : Prop where
  ex : ∃ f fd ps k, FnOk X.prog X.w X.K X.mg X.base (CXR X.prog X.w) k f fd ps (spM X.K κ n m) ∧ Room k X.A ∧ X.mg x = some (.ref f) ∧ PySem.W.keepIn X.K (.ref f) = true ∧ Binds X.K fd ps []
section
variable {κ : Nat → Addr} {B : Gd} {X : Cx} {a : Expr} {es : List Expr} {fs : Ev → R (List D)} {p pos : Pos} {x : Str} {m : List D → R D} {n : Nat}
def mCall (m : List D → R D) (fs : Ev → R (List D)) : Ev → R D := fun δ => (fs δ).bind m
theorem px_call (c : Cxo X) (C : Cal κ X x n m) (hn : (a :: es).length = n) (hg : Gl X x) (ha : PXs κ B X (a :: es) fs) (hdb : (x == ("__debug__" : Str)) = false) (he : starEach (a :: es) X.env = (false, eval a X.env) :: starEach es X.env) (hpl : (backTo pos (starEach es X.env)).any (·.1) = false)
    (hlen : ∀ δ ds, fs δ = .ok ds → ds.length = n) : PX κ B X (.Call (.Name x p) (a :: es) [] pos) (mCall m fs) := fun pins σ Ex => by
  obtain ⟨f, fd, ps, k, F, hr, hm, hk, hb⟩ := C.ex
  refine pe_imp (pe_call (X := At X pins σ Ex) (E := EX X pins σ Ex) F hr hg hm hk hb .nil (passes_at c) (ha pins σ Ex) hdb he hpl) fun τ H Q ⟨G, δ, rp, q⟩ => ⟨G, δ, rp, ?_⟩
  unfold mCall at q
  cases e : fs δ with
  | ok ds =>
    rw [e] at q
    intro v H1 G1 e1 d1
    rw [List.append_nil]
    exact ⟨by rw [Dens.length d1, hlen δ ds e], G1, ds, e1.GH, d1, Out.pre e1 q⟩
  | exc c => rw [e] at q; exact q
  | stuck => rw [e] at q; exact q
end
end L3
set_option Elab.async false
set_option linter.all false
set_option maxRecDepth 100000
namespace L3
open PySem PySem.Spec PyProof.Rows L2
inductive SR where
  | next (δ : Ev) | brk (δ : Ev) | cont (δ : Ev) | ret (d : D) | exc (c : Nat) (δ : Ev) | stuck
def bS {α : Type} (r : R α) (δ : Ev) (k : α → SR) : SR := match r with
  | .ok d => k d
  | .exc c => .exc c δ
  | .stuck => .stuck
@[simp] theorem bS_ok {α : Type} (d : α) (δ : Ev) (k : α → SR) : bS (.ok d) δ k = k d := rfl
@[simp] theorem bS_exc {α : Type} (c : Nat) (δ : Ev) (k : α → SR) : bS (.exc c) δ k = .exc c δ := rfl
@[simp] theorem bS_stuck {α : Type} (δ : Ev) (k : α → SR) : bS .stuck δ k = .stuck := rfl
def SPost (κ : Nat → Addr) (B : Gd) (X : Cx) (Ex : Value → Shared → Prop) (pins : List (Addr × Obj)) (Dn : Ends) (r : SR) : Prop := match r with
  | .next δ' => ∀ σ' H' G', Rep ⟨X.K, κ⟩ B X.H₀ G' H' σ' δ' → Dn.nx σ' H'
  | .brk δ' => ∀ σ' H' G', Rep ⟨X.K, κ⟩ B X.H₀ G' H' σ' δ' → Dn.bk σ' H'
  | .cont δ' => ∀ σ' H' G', Rep ⟨X.K, κ⟩ B X.H₀ G' H' σ' δ' → Dn.ct σ' H'
  | .ret d => ∀ v H' G', Hold B X.H₀ G' H' → Den ⟨X.K, κ⟩ G' v d → Dn.rt v H'
  | .exc c δ' => ∀ ea s' σ' H' G', Inv (X.wish Ex) pins σ' H' s' → Flies X pins H' s' ea (.ref (κ c)) → Rep ⟨X.K, κ⟩ B X.H₀ G' H' σ' δ' → Ex (.ref ea) s'
  | .stuck => False
def PZ (κ : Nat → Addr) (B : Gd) (X : Cx) (st : Stmt) (F : Ev → SR) : Prop := ∀ Ex pins s σ H G δ Dn, PassesOwn (model X.prog X.w) X.A X.env Ex → Inv (X.wish Ex) pins σ H s → Rep ⟨X.K, κ⟩ B X.H₀ G H σ δ → SPost κ B X Ex pins Dn (F δ) →
  wpAny (model X.prog X.w) X.A (exec st X.env) (SP (X.wish Ex) pins Dn) Ex s
def PZs (κ : Nat → Addr) (B : Gd) (X : Cx) (st : List Stmt) (F : Ev → SR) : Prop := ∀ Ex pins s σ H G δ Dn, PassesOwn (model X.prog X.w) X.A X.env Ex → Inv (X.wish Ex) pins σ H s → Rep ⟨X.K, κ⟩ B X.H₀ G H σ δ → SPost κ B X Ex pins Dn (F δ) →
  wpAny (model X.prog X.w) X.A (execs st X.env) (SP (X.wish Ex) pins Dn) Ex s
section
variable {κ : Nat → Addr} {B : Gd} {X : Cx} {e a b c : Expr} {f fa fb : Ev → R D} {pos pos' : Pos} {Ex : Value → Shared → Prop} {pins : List (Addr × Obj)} {s : Shared} {σ : St} {H G : Hp} {δ : Ev} {Dn : Ends}
theorem PX.stm (cx : Cxo X) (h : PX κ B X e f) (I : Inv (X.wish Ex) pins σ H s) (rp : Rep ⟨X.K, κ⟩ B X.H₀ G H σ δ) {k : D → SR} (hp : SPost κ B X Ex pins Dn (bS (f δ) δ k)) :
    wpAny (model X.prog X.w) X.A (eval e X.env) (fun u s' => ∃ d v H' G', Inv (X.wish Ex) pins σ H' s' ∧ RelV v u ∧ Rep ⟨X.K, κ⟩ B X.H₀ G' H' σ δ ∧ Den ⟨X.K, κ⟩ G' v d ∧ SPost κ B X Ex pins Dn (k d)) Ex s := by
  refine thn (h pins σ Ex pins s σ H (fun v H' => ∃ d G', Rep ⟨X.K, κ⟩ B X.H₀ G' H' σ δ ∧ Den ⟨X.K, κ⟩ G' v d ∧ SPost κ B X Ex pins Dn (k d)) (inv_at I) ⟨G, δ, rp, ?_⟩) fun u s' ⟨v, H', I', r, d, G', x1, x2, x3⟩ => ⟨d, v, H', G', inv_unat cx.sg I', r, x1, x2, x3⟩
  cases q : f δ with
  | ok d => rw [q] at hp; exact fun v H' G' e1 d1 => ⟨d, G', rp.ext e1, d1, hp⟩
  | exc c => rw [q] at hp; exact fun H' G' e1 ea s' I' F => hp ea s' σ H' G' I' F (rp.ext e1)
  | stuck => rw [q] at hp; exact hp
theorem PXt.stm (cx : Cxo X) {f : Ev → R Bool} (h : PXt κ B X e f) (I : Inv (X.wish Ex) pins σ H s) (rp : Rep ⟨X.K, κ⟩ B X.H₀ G H σ δ) {k : Bool → SR} (hp : SPost κ B X Ex pins Dn (bS (f δ) δ k)) :
    wpAny (model X.prog X.w) X.A (isTrue e X.env (eval e X.env)) (fun u s' => ∃ H' G', Inv (X.wish Ex) pins σ H' s' ∧ Rep ⟨X.K, κ⟩ B X.H₀ G' H' σ δ ∧ SPost κ B X Ex pins Dn (k u)) Ex s := by
  refine thn (h pins σ Ex pins s σ H (fun v H' => ∃ G', Rep ⟨X.K, κ⟩ B X.H₀ G' H' σ δ ∧ SPost κ B X Ex pins Dn (k v)) (inv_at I) ⟨G, δ, rp, ?_⟩) fun u s' ⟨H', I', G', x1, x2⟩ => ⟨H', G', inv_unat cx.sg I', x1, x2⟩
  cases q : f δ with
  | ok d =>
    rw [q] at hp
    intro v H' G' e1 d1
    cases d1
    exact ⟨G', rp.ext e1, hp⟩
  | exc c => rw [q] at hp; exact fun H' G' e1 ea s' I' F => hp ea s' σ H' G' I' F (rp.ext e1)
  | stuck => rw [q] at hp; exact hp
def zSeq (F1 F2 : Ev → SR) : Ev → SR := fun δ => match F1 δ with
  | .next δ' => F2 δ'
  | r => r
theorem pzs_nil : PZs κ B X [] SR.next := fun Ex pins s σ H G δ Dn hp I rp h => wpAny_execs_nil ⟨σ, H, I, h σ H G rp⟩
theorem pzs_cons {st : Stmt} {rest : List Stmt} {F1 F2 : Ev → SR} (h1 : PZ κ B X st F1) (h2 : PZs κ B X rest F2) : PZs κ B X (st :: rest) (zSeq F1 F2) := fun Ex pins s σ H G δ Dn hp I rp h => by
  refine wpAny_execs_cons (thn (h1 Ex pins s σ H G δ { Dn with nx := fun σ' H' => ∃ G' δ', Rep ⟨X.K, κ⟩ B X.H₀ G' H' σ' δ' ∧ SPost κ B X Ex pins Dn (F2 δ') } hp I rp ?_) fun f s1 q => ?_)
  · unfold zSeq at h
    cases q : F1 δ with
    | next δ' => rw [q] at h; exact fun σ' H' G' r => ⟨G', δ', r, h⟩
    | brk δ' => rw [q] at h; exact h
    | cont δ' => rw [q] at h; exact h
    | ret d => rw [q] at h; exact h
    | exc c δ' => rw [q] at h; exact h
    | stuck => rw [q] at h; exact h
  · cases f with
    | next =>
      obtain ⟨σ', H', I', G', δ', r, q⟩ := q
      exact h2 Ex pins s1 σ' H' G' δ' Dn hp I' r q
    | ret v => exact q
    | brk => exact q
    | cont => exact q
theorem pzs_one {st : Stmt} {F : Ev → SR} (h1 : PZ κ B X st F) : PZs κ B X [st] F := fun Ex pins s σ H G δ Dn hp I rp h => by
  refine wpAny_execs_cons (thn (h1 Ex pins s σ H G δ Dn hp I rp h) fun f s1 q => ?_)
  cases f with
  | next => exact wpAny_execs_nil q
  | ret v => exact q
  | brk => exact q
  | cont => exact q
theorem pzs_frz (i : Nat) {sts : List Stmt} {F : Ev → SR} (h : PZs κ B X sts F) : PZs κ B X sts (fun δ => F (frzE i δ)) := fun Ex pins s σ H G δ Dn hp I rp q => by
  obtain ⟨G', r'⟩ := rp.freeze i
  exact h Ex pins s σ H G' _ Dn hp I r' q
def zRet (f : Ev → R D) : Ev → SR := fun δ => bS (f δ) δ .ret
theorem pz_ret (cx : Cxo X) (h : PX κ B X e f) : PZ κ B X (.Return (some e) pos) (zRet f) := fun Ex pins s σ H G δ Dn hp I rp q =>
  wpAny_Return_some (thn (h.stm cx I rp q) fun v s1 ⟨d, x, H', G', I', r, rp', dn, q⟩ => ⟨x, σ, H', I', r, q x H' G' rp'.toHold dn⟩)
def zDrop (f : Ev → R D) : Ev → SR := fun δ => bS (f δ) δ fun _ => .next δ
theorem pz_expr (cx : Cxo X) (h : PX κ B X e f) (hs : swapsWith e none pos.line X.env = pure false) : PZ κ B X (.Expr e pos) (zDrop f) := fun Ex pins s σ H G δ Dn hp I rp q =>
  wpAny_Expr_any (thn (h.stm cx I rp q) fun v s1 ⟨d, x, H', G', I', r, rp', dn, q⟩ => ⟨σ, H', I', q σ H' G' rp'⟩) I.quiet hs
def zSet (i : Nat) (f : Ev → R D) : Ev → SR := fun δ => bS (f δ) δ fun d => .next (δ.set i (some (.sh d)))
theorem pz_set (cx : Cxo X) {i : Nat} {x : Str} (hN : X.N.Nodup) (hi : X.N[i]? = some x) (hx : Loc X.env.scope x) (hf : X.fn x = true ∨ X.env.scope.names.lookup x = some .local) (h : PX κ B X e f) (hs : swapsWith e (some (.Name x pos')) pos.line X.env = pure false) :
    PZ κ B X (.Assign [.Name x pos'] e pos) (zSet i f) := fun Ex pins s σ H G δ Dn hp I rp q => by
  refine wpAny_Assign_Name (thn (h.stm cx I rp q) fun v s1 ⟨d, y, H', G', I', r, rp', dn, q⟩ => ?_) hs
  exact store_ok (X := X.wish Ex) I' hN hi hx r (fun s2 I2 => ⟨_, H', I2, q _ H' G' (rp'.setSh dn)⟩) hf (fun p σ v _ => cx.sg p _)
def zIf (t : Ev → R Bool) (F1 F2 : Ev → SR) : Ev → SR := fun δ => bS (t δ) δ fun k => if k then F1 δ else F2 δ
theorem pz_if (cx : Cxo X) {t : Ev → R Bool} {s1 s2 : List Stmt} {F1 F2 : Ev → SR} (hc : PXt κ B X c t) (h1 : PZs κ B X s1 F1) (h2 : PZs κ B X s2 F2) : PZ κ B X (.If c s1 s2 pos) (zIf t F1 F2) := fun Ex pins s σ H G δ Dn hp I rp q => by
  refine wpAny_If (thn (hc.stm cx I rp q) fun d s1 ⟨H', G', I', rp', q⟩ => ?_)
  cases d with
  | true => exact h1 Ex pins s1 σ H' G' δ Dn hp I' rp' q
  | false => exact h2 Ex pins s1 σ H' G' δ Dn hp I' rp' q
def zAug (i : Nat) (g : Int → Int → Int) (f : Ev → R D) : Ev → SR := fun δ => match δ[i]? with
  | some (some (.sh (.int x))) => bS (f δ) δ fun d => match d with
    | .int y => .next (δ.set i (some (.sh (.int (g x y)))))
    | _ => .stuck
  | _ => .stuck
theorem pz_aug (cx : Cxo X) {i : Nat} {x : Str} {op : Operator} {g : Int → Int → Int} (ho : ∀ Y : Cx, PIp Y op (ipI g)) (hN : X.N.Nodup) (hi : X.N[i]? = some x) (hx : Loc X.env.scope x) (hf : X.fn x = true ∨ X.env.scope.names.lookup x = some .local) (h : PX κ B X e f) :
    PZ κ B X (.AugAssign (.Name x pos') op e pos) (zAug i g f) := fun Ex pins s σ H G δ Dn hp I rp q => by
  unfold zAug at q
  split at q
  · rename_i z ez
    obtain ⟨v, e1, e2⟩ := rp.sh i _ ez
    have e2' : v = .int z := by simpa [Den] using e2
    subst e2'
    obtain ⟨m, hn, hl⟩ := I.loc
    have vis : Vis X.env.scope x := by rcases hx with k | k; exact .inl k; exact .inr (.inl k)
    obtain ⟨u, r, l⟩ := hl i x _ hi e1 vis
    refine wpAny_AugAssign_Name ?_
    have go : wpAny (model X.prog X.w) X.A (eval e X.env) (fun w s₂ => wpAny (model X.prog X.w) X.A (inplaceOp op u w) (fun r s₃ => wpAny (model X.prog X.w) X.A (storeName X.env x r) (fun _ => SP (X.wish Ex) pins Dn .next) Ex s₃) Ex s₂) Ex s := by
      refine thn (h.stm cx I rp q) fun w s1 ⟨d, y, H1, G1, I1, r1, rp1, dn, q1⟩ => ?_
      cases d with
      | int j =>
        have dn' : y = .int j := by simpa [Den] using dn
        subst dn'
        refine thn (ho (X.wish Ex) pins s1 σ H1 (.int z) (.int j) u w (fun v H' => H' = H1 ∧ v = .int (g z j)) I1 r r1 ⟨z, j, rfl, rfl, rfl, rfl⟩) fun w2 s2 ⟨zv, H2, I2, r2, e3, e4⟩ => ?_
        subst e3
        subst e4
        exact store_ok (X := X.wish Ex) I2 hN hi hx r2 (fun s3 I3 => ⟨_, _, I3, q1 _ _ G1 (rp1.setSh dInt)⟩) hf (fun p σ v _ => cx.sg p _)
      | _ => exact False.elim q1
    rcases l with ⟨hk, hm⟩ | ⟨hk, c, hc, hcell⟩
    · exact wpAny_loadName_local I.ok.kind hk hn hm go
    · rcases hk with hk | hk
      · exact wpAny_loadName_cell I.ok.kind hk hc hcell go
      · rcases hx with k | k
        · have : X.env.scope.names.lookup x = some .free := hk
          rw [k] at this; cases this
        · have : X.env.scope.names.lookup x = some .free := hk
          rw [k] at this; cases this
  · exact False.elim q
def gZ (κ : Nat → Addr) (B : Gd) (X : Cx) (bnd : D → Ev → Option Ev) : TG := fun v σ H Q => ∃ G δ d δ', Rep ⟨X.K, κ⟩ B X.H₀ G H σ δ ∧ Den ⟨X.K, κ⟩ G v d ∧ bnd d δ = some δ' ∧ ∀ σ', Rep ⟨X.K, κ⟩ B X.H₀ G H σ' δ' → Q σ' H
def PGz (κ : Nat → Addr) (B : Gd) (X : Cx) (tg : Expr) (bnd : D → Ev → Option Ev) : Prop := ∀ Ex, PG (X.wish Ex) tg (gZ κ B X bnd)
def gsZ (κ : Nat → Addr) (B : Gd) (X : Cx) (bnd : List D → Ev → Option Ev) : TGs := fun vs σ H Q => ∃ G δ ds δ', Rep ⟨X.K, κ⟩ B X.H₀ G H σ δ ∧ Dens ⟨X.K, κ⟩ G vs ds ∧ bnd ds δ = some δ' ∧ ∀ σ', Rep ⟨X.K, κ⟩ B X.H₀ G H σ' δ' → Q σ' H
def PGzs (κ : Nat → Addr) (B : Gd) (X : Cx) (tg : List Expr) (bnd : List D → Ev → Option Ev) : Prop := ∀ Ex, PGs (X.wish Ex) tg (gsZ κ B X bnd)
theorem pg_imp {Y : Cx} {t : Expr} {g g' : TG} (h : PG Y t g) (k : ∀ v σ H Q, g' v σ H Q → g v σ H Q) : PG Y t g' := fun pins s σ H v u Q I r q => h pins s σ H v u Q I r (k v σ H Q q)
theorem pgs_imp {Y : Cx} {t : List Expr} {g g' : TGs} (h : PGs Y t g) (k : ∀ v σ H Q, g' v σ H Q → g v σ H Q) : PGs Y t g' := fun pins s σ H v u Q I r q => h pins s σ H v u Q I r (k v σ H Q q)
def bN (i : Nat) : D → Ev → Option Ev := fun d δ => some (δ.set i (some (.sh d)))
theorem pgz_name (cx : Cxo X) {i : Nat} {x : Str} (hN : X.N.Nodup) (hi : X.N[i]? = some x) (hx : Loc X.env.scope x) (hf : X.fn x = true ∨ X.env.scope.names.lookup x = some .local) : PGz κ B X (.Name x pos) (bN i) := fun Ex =>
  pg_imp (pg_name (X := X.wish Ex) hN hi hx hf (fun p σ v _ => cx.sg p _)) fun v σ H Q ⟨G, δ, d, δ', rp, dn, e, k⟩ => by
    cases e
    exact k _ (rp.setSh dn)
def bsNil : List D → Ev → Option Ev := fun ds δ => match ds with | [] => some δ | _ => none
def bsCons (b : D → Ev → Option Ev) (bs : List D → Ev → Option Ev) : List D → Ev → Option Ev := fun ds δ => match ds with | d :: r => (b d δ).bind (bs r) | _ => none
theorem pgzs_nil : PGzs κ B X [] bsNil := fun Ex => pgs_imp pgs_nil fun vs σ H Q ⟨G, δ, ds, δ', rp, dn, e, k⟩ => by
  cases ds with
  | nil =>
    cases vs with
    | nil => cases e; exact ⟨rfl, k σ rp⟩
    | cons _ _ => unfold Dens at dn; exact dn.elim
  | cons _ _ => cases e
theorem pgzs_cons {tg : Expr} {tgs : List Expr} {bd : D → Ev → Option Ev} {bs : List D → Ev → Option Ev} (h1 : PGz κ B X tg bd) (h2 : PGzs κ B X tgs bs)
    (hs : (assignEach (tg :: tgs) X.env).map (·.2) = assign tg X.env :: (assignEach tgs X.env).map (·.2)) : PGzs κ B X (tg :: tgs) (bsCons bd bs) := fun Ex =>
  pgs_imp (pgs_cons (X := X.wish Ex) (h1 Ex) (h2 Ex) hs) fun vs σ H Q ⟨G, δ, ds, δ', rp, dn, e, k⟩ => by
    cases ds with
    | nil => cases e
    | cons d r =>
      cases vs with
      | nil => unfold Dens at dn; exact dn.elim
      | cons v vr =>
        unfold Dens at dn
        simp only [bsCons] at e
        cases q : bd d δ with
        | none => rw [q] at e; cases e
        | some δ1 =>
          rw [q] at e
          exact ⟨v, vr, rfl, G, δ, d, δ1, rp, dn.1, q, fun σ' r' => ⟨G, δ1, r, δ', r', dn.2, e, k⟩⟩
theorem draw_lst {P : Program} {w : World} {A : Around} {E : Value → Shared → Prop} {it l : Addr} {its : Array Value} (hne : l ≠ it) : ∀ (n i : Nat) (s : Shared) (Q : List Value → Shared → Prop), s.heap.IsListIter it l i → s.heap.IsList l its → i + n ≤ its.size →
    (∀ h', h'.IsListIter it l (i + n) → Heap.SameBut it s.heap h' → Q ((its.toList.drop i).take n) { s with heap := h' }) → wpAny (model P w) A (draw (.ref it) n) Q E s
  | 0, i, s, Q, hi, _, _, q => by
    have z := q s.heap hi (Heap.SameBut.refl ..)
    rw [List.take_zero] at z
    exact wpAny_pure z
  | n + 1, i, s, Q, hi, hl, hle, q => by
    have lt : i < its.size := by omega
    show wpAny _ _ (pyNext (.ref it) >>= _) Q E s
    refine wpAny_bind (wpAny_pyNext_list_item hi hl (x := its[i]) (by simp [lt]) fun g hg sg => wpAny_bind (wpAny_holding (draw_lst hne n (i + 1) _ _ hg (hl.extBut sg.extBut hne) (by omega) fun g2 hg2 sg2 => wpAny_pure ?_)))
    have z := q g2 (by rw [show i + (n + 1) = i + 1 + n by omega]; exact hg2) (sg.trans sg2)
    rw [show its.toList.drop i = its[i] :: its.toList.drop (i + 1) by simp [List.drop_eq_getElem_cons, lt], List.take_succ_cons] at z
    exact z
theorem unpack_lst {P : Program} {w : World} {A : Around} {E : Value → Shared → Prop} {s : Shared} {l : Addr} {its : Array Value} {tgs : List (Bool × (Value → Sem Unit))} {Q : Unit → Shared → Prop} (hh : A.handled = none) (hl : s.heap.IsList l its)
    (hn : tgs.length = its.size) (hs : tgs.findIdx? (·.1) = none) (h : ∀ h', Heap.ExtBut s.heap.objs.size s.heap h' → wpAny (model P w) A (assignInOrder (tgs.map (·.2)) its.toList) Q E { s with heap := h' }) : wpAny (model P w) A (unpack (.ref l) tgs) Q E s := by
  have ne : l ≠ s.heap.objs.size := by
    obtain ⟨o, ho, _⟩ := hl
    exact Nat.ne_of_lt (Heap.lt_size ho)
  unfold unpack
  rw [hn, hs]
  refine wpAny_bind (wpAny_holding ?_)
  unfold unpackItems
  refine wpAny_bind ?_
  unfold notIterableAtAll
  refine wpAny_bind (wpAny_specialOf hl.typeIs slot_list_iter.lookup (wpAny_pure ?_))
  simp only [Bool.false_eq_true, if_false]
  refine wpAny_bind (wpAny_holding (wpAny_pyIter_list hl (wpAny_bind (wpAny_holding (draw_lst ne its.size 0 _ _ ⟨_, Heap.get?_push_size _ rfl, rfl, rfl⟩ (hl.push _) (by omega) fun g hg sg => ?_)))))
  rw [List.drop_zero, List.take_of_length_le (by simp), if_neg (by simp)]
  refine wpAny_bind (wpAny_holding (wpAny_pyNext_list_end hh hg ((hl.push _).extBut sg.extBut ne) (by simp) fun g2 e2 => ?_))
  simp only [Option.isSome_none, Bool.false_eq_true, if_false]
  exact wpAny_pure (h g2 fun b o hb e => e2 b o hb (sg.extBut b o hb (Heap.get?_push_of_some _ e)))
def gLst (K : PySem.W.Frag) (n : Nat) (t : TGs) : TG := fun v σ H Q => ∃ a xs, v = .ref a ∧ SqL K H a xs ∧ xs.length = n ∧ t xs σ H Q
theorem pg_lst {X : Cx} {pos : Pos} {es : List Expr} {k : Nat} {t : TGs} {n : Nat} (hc : X.calm = true) (h : PGs X es t) (hn : (assignEach es X.env).length = n) (hst : (assignEach es X.env).findIdx? (·.1) = none) : PG X (.Tuple es k pos) (gLst X.K n t) := by
  intro pins s σ H v u Q I r ⟨a, xs, e1, hq, hl, hw⟩
  subst e1
  cases r
  obtain ⟨its, rv, ht, hz⟩ := I.list hq
  rw [assign_Tuple]
  refine wpAny_bind (wpAny_standAt (unpack_lst (I.ok.hd hc) ht.isList (by simp [hn, ← hl, rv.length]) hst fun h' hx => ?_))
  exact h pins _ σ H xs _ Q (I.kept (t' := s.toks) fun b o e => hx b o (Nat.ne_of_lt (Heap.lt_size e)) e) (by simpa using rv) hw
def bTup (n : Nat) (bs : List D → Ev → Option Ev) : D → Ev → Option Ev := fun d δ => match d with | .tup ds => (if ds.length = n then bs ds δ else none) | .lst ds => (if ds.length = n then bs ds δ else none) | _ => none
theorem pg_either {X : Cx} {e : Expr} {t t' : TG} (h : PG X e t) (h' : PG X e t') : PG X e (fun v σ H Q => t v σ H Q ∨ t' v σ H Q) := fun pins s σ H v u Q I r q => q.elim (h pins s σ H v u Q I r) (h' pins s σ H v u Q I r)
theorem pgz_tup {tgs : List Expr} {k n : Nat} {bs : List D → Ev → Option Ev} (hc : X.calm = true) (h : PGzs κ B X tgs bs) (hn : (assignEach tgs X.env).length = n) (hst : (assignEach tgs X.env).findIdx? (·.1) = none) : PGz κ B X (.Tuple tgs k pos) (bTup n bs) := fun Ex =>
  pg_imp (pg_either (pg_tup (X := X.wish Ex) hc (h Ex) hn hst) (pg_lst (X := X.wish Ex) hc (h Ex) hn hst)) fun v σ H Q ⟨G, δ, d, δ', rp, dn, e, kk⟩ => by
    unfold bTup at e
    split at e
    · rename_i ds
      split at e
      · rename_i hl
        unfold Den at dn
        obtain ⟨l, vs, rfl, h1, h2⟩ := dn
        exact .inl ⟨l, vs, rfl, same_seqT rp.GH h1, by rw [h2.length]; exact hl, G, δ, ds, δ', rp, h2, e, kk⟩
      · cases e
    · rename_i ds
      split at e
      · rename_i hl
        unfold Den at dn
        obtain ⟨l, vs, rfl, h1, h2⟩ := dn
        exact .inr ⟨l, vs, rfl, rp.GH.seq h1, by rw [h2.length]; exact hl, G, δ, ds, δ', rp, h2, e, kk⟩
      · cases e
    · cases e
def zAsg (bd : D → Ev → Option Ev) (f : Ev → R D) : Ev → SR := fun δ => bS (f δ) δ fun d => match bd d δ with | some δ' => .next δ' | none => .stuck
theorem pz_asg (cx : Cxo X) {tg : Expr} {bd : D → Ev → Option Ev} (h : PX κ B X e f) (hg : PGz κ B X tg bd) (hs : swapsWithSole [tg] e pos.line X.env = pure false) (hw : swappedStores [tg] e X.env = pure none)
    (h1 : (assignEach [tg] X.env).map (·.2) = [assign tg X.env]) : PZ κ B X (.Assign [tg] e pos) (zAsg bd f) := fun Ex pins s σ H G δ Dn hp I rp q => by
  refine wpAny_Assign_stores (thn (h.stm cx I rp q) fun v s1 ⟨d, y, H', G', I', r, rp', dn, q⟩ => ?_) hs hw
  rw [h1]
  cases e2 : bd d δ with
  | none => rw [e2] at q; exact False.elim q
  | some δ' =>
    rw [e2] at q
    exact thn (hg Ex pins s1 σ H' y v (fun σ' H'' => Dn.nx σ' H'') I' r ⟨G', δ, d, δ', rp', dn, e2, fun σ' r' => q σ' H' G' r'⟩) fun _ s2 q => q
end
end L3
set_option Elab.async false
set_option linter.all false
set_option maxRecDepth 100000
namespace L3
open PySem PySem.Spec PyProof.Rows L2
def loopZ (bd : D → Ev → Option Ev) (F : Ev → SR) : List D → Ev → SR
  | [], δ => .next δ
  | d :: ds, δ => match bd d δ with
    | none => .stuck
    | some δ1 => match F δ1 with
      | .next δ2 => loopZ bd F ds δ2
      | .cont δ2 => loopZ bd F ds δ2
      | .brk δ2 => .next δ2
      | r => r
def IsIt (X : Cx) (κ : Nat → Addr) (J : It) (G : Hp) (ds : List D) : Prop := ∃ vs, Dens ⟨X.K, κ⟩ G vs ds ∧ ∀ H', Same G H' → ∀ i, (i < vs.length → J.go i H' ∧ ∀ x H'', J.yld i H' x H'' → H'' = H' ∧ vs[i]? = some x) ∧ (vs.length ≤ i → J.stop i H')
def PIz (κ : Nat → Addr) (B : Gd) (X : Cx) (tg e : Expr) (f : Ev → R (List D)) : Prop := ∀ pins σ Ex, PI (At X pins σ Ex) tg e (tO (fun G _ J ds => IsIt X κ J G ds) X κ B (EX X pins σ Ex) f)
theorem pi_imp {Y : Cx} {tg e : Expr} {w w' : TI} (h : PI Y tg e w) (k : ∀ σ H R, w' σ H R → w σ H R) : PI Y tg e w' := fun pins s σ H R I q => h pins s σ H R I (k σ H R q)
theorem pi_or {Y : Cx} {tg e : Expr} {w w' : TI} (h : PI Y tg e w) (h' : PI Y tg e w') : PI Y tg e (fun σ H R => w σ H R ∨ w' σ H R) := fun pins s σ H R I q => q.elim (h pins s σ H R I) (h' pins s σ H R I)
section
variable {κ : Nat → Addr} {B : Gd} {X : Cx} {e tg : Expr} {f : Ev → R D} {pos : Pos}
theorem isIt_list {G H : Hp} {a : Addr} {vs : List V} {ds : List D} (h : SqL X.K G a vs) (d : Dens ⟨X.K, κ⟩ G vs ds) : IsIt X κ (Itl X.K a) G ds :=
  ⟨vs, d, fun H' s i => ⟨fun hi => ⟨⟨vs, vs[i], s.seq h, by simp [hi]⟩, fun x H'' y => ⟨y.1, y.2 vs (s.seq h)⟩⟩, fun hi => ⟨vs, s.seq h, hi⟩⟩⟩
theorem isIt_tup {G H : Hp} {a : Addr} {vs : List V} {ds : List D} (h : SqT X.K G a vs) (d : Dens ⟨X.K, κ⟩ G vs ds) : IsIt X κ (Itt X.K a) G ds :=
  ⟨vs, d, fun H' s i => ⟨fun hi => ⟨⟨vs, vs[i], same_seqT s h, by simp [hi]⟩, fun x H'' y => ⟨y.1, y.2 vs (same_seqT s h)⟩⟩, fun hi => ⟨vs, same_seqT s h, hi⟩⟩⟩
def itemsD : D → R (List D)
  | .lst ds => .ok ds
  | .tup ds => .ok ds
  | _ => .stuck
theorem piz_seq (h : PX κ B X e f) : PIz κ B X tg e (fun δ => (f δ).bind itemsD) := fun pins σ Ex =>
  pi_imp (pi_or (pi_list (X := At X pins σ Ex) (h pins σ Ex)) (pi_tup (X := At X pins σ Ex) (h pins σ Ex))) fun τ H R ⟨G, δ, rp, q⟩ => by
    dsimp only at q
    cases e : f δ with
    | ok d =>
      rw [e] at q
      cases d with
      | lst ds =>
        refine .inl ⟨G, δ, rp, ?_⟩
        rw [e]
        intro v H' G' e1 d1
        unfold Den at d1
        obtain ⟨a, vs, rfl, h1, h2⟩ := d1
        exact ⟨a, rfl, ⟨vs, e1.GH.seq h1⟩, q _ H' G' e1 (isIt_list (H := H') h1 h2)⟩
      | tup ds =>
        refine .inr ⟨G, δ, rp, ?_⟩
        rw [e]
        intro v H' G' e1 d1
        unfold Den at d1
        obtain ⟨a, vs, rfl, h1, h2⟩ := d1
        exact ⟨a, rfl, ⟨vs, same_seqT e1.GH h1⟩, q _ H' G' e1 (isIt_tup (H := H') h1 h2)⟩
      | _ => exact False.elim q
    | exc c =>
      rw [e] at q
      refine .inl ⟨G, δ, rp, ?_⟩
      rw [e]
      exact q
    | stuck => rw [e] at q; exact False.elim q
theorem isIt_rng {G : Hp} {lo : Int} {n : Nat} : IsIt X κ (Itr lo n) G ((List.range n).map fun i => D.int (lo + (i : Nat))) := by
  refine ⟨(List.range n).map fun i => V.int (lo + (i : Nat)), ?_, fun H' s i => ⟨fun hi => ⟨?_, fun x H'' y => ?_⟩, fun hi => ?_⟩⟩
  · generalize List.range n = l
    induction l with
    | nil => exact dens_nil
    | cons a l ih => exact dens_cons dInt ih
  · simpa [Itr] using hi
  · obtain ⟨y1, y2⟩ := y
    refine ⟨y1, ?_⟩
    rw [y2]
    have : i < n := by simpa using hi
    simp [this]
  · simpa [Itr] using hi
def rngD (lo hi : Int) : List D := (List.range (hi - lo).toNat).map fun i => D.int (lo + (i : Nat))
def iR1 : List D → R (List D)
  | [.int j] => if -(2 ^ 62) ≤ j ∧ j < 2 ^ 62 then .ok (rngD 0 j) else .stuck
  | _ => .stuck
def iR2 : List D → R (List D)
  | [.int i, .int j] => if (-(2 ^ 62) ≤ i ∧ i < 2 ^ 62) ∧ (-(2 ^ 62) ≤ j ∧ j < 2 ^ 62) then .ok (rngD i j) else .stuck
  | _ => .stuck
theorem dens_int1 {Z : Zx} {G : Hp} {vs : List V} {i : Int} (h : Dens Z G vs [.int i]) : vs = [.int i] := by
  match vs, h with
  | [v], h => unfold Dens at h; have := h.1; unfold Den at this; rw [this]
  | [], h => unfold Dens at h; exact h.elim
  | _ :: _ :: _, h => unfold Dens at h; have := h.2; unfold Dens at this; exact this.elim
theorem dens_int2 {Z : Zx} {G : Hp} {vs : List V} {i j : Int} (h : Dens Z G vs [.int i, .int j]) : vs = [.int i, .int j] := by
  match vs, h with
  | [], h => unfold Dens at h; exact h.elim
  | v :: vr, h => unfold Dens at h; have h1 := h.1; unfold Den at h1; rw [h1, dens_int1 h.2]
theorem piz_range1 {a : Expr} {fs : Ev → R (List D)} {p pos : Pos} (hg : Gl X "range") (hm : X.mg "range" = none) (ha : PXs κ B X [a] fs) (hs : starEach [a] X.env = [(false, eval a X.env)]) : PIz κ B X tg (.Call (.Name "range" p) [a] [] pos) (fun δ => (fs δ).bind iR1) := fun pins σ Ex =>
  pi_imp (pi_range1 (X := At X pins σ Ex) hg hm (ha pins σ Ex) hs) fun τ H R ⟨G, δ, rp, q⟩ => ⟨G, δ, rp, q.seq fun x v H1 G1 e1 d1 q1 => by
    unfold iR1 at q1
    split at q1
    · rename_i j
      split at q1
      · rename_i hj
        refine ⟨j, dens_int1 d1, hj.1, hj.2, ?_⟩
        have := q1 _ H1 G1 (Ext.refl e1.GH) (isIt_rng (lo := 0) (n := (j - 0).toNat))
        simpa using this
      · exact False.elim q1
    · exact False.elim q1⟩
theorem piz_range2 {a b : Expr} {fs : Ev → R (List D)} {p pos : Pos} (hg : Gl X "range") (hm : X.mg "range" = none) (ha : PXs κ B X [a, b] fs) (hs : starEach [a, b] X.env = [(false, eval a X.env), (false, eval b X.env)]) (hs2 : starEach [b] X.env = [(false, eval b X.env)]) : PIz κ B X tg (.Call (.Name "range" p) [a, b] [] pos) (fun δ => (fs δ).bind iR2) := fun pins σ Ex =>
  pi_imp (pi_range2 (X := At X pins σ Ex) hg hm (ha pins σ Ex) hs hs2) fun τ H R ⟨G, δ, rp, q⟩ => ⟨G, δ, rp, q.seq fun x v H1 G1 e1 d1 q1 => by
    unfold iR2 at q1
    split at q1
    · rename_i i j
      split at q1
      · rename_i hj
        exact ⟨i, j, dens_int2 d1, ⟨hj.1.1, hj.1.2, hj.2.1, hj.2.2⟩, q1 _ H1 G1 (Ext.refl e1.GH) (isIt_rng (lo := i) (n := (j - i).toNat))⟩
      · exact False.elim q1
    · exact False.elim q1⟩
theorem Rep.raise {Z : Zx} {H₀ G H : Hp} {σ : St} {δ : Ev} (r : Rep Z B H₀ G H σ δ) : Rep Z ⟨G, B.m⟩ H₀ G H σ δ := ⟨⟨Same.refl _, r.GH, r.old, r.there, fun _ _ n => n⟩, r.len, r.sh, r.ow, r.sep, r.oo, r.oo1⟩
theorem Hold.lower {H₀ G G' H' : Hp} (g : Same B.g G) (l : ∀ b, H₀ b ≠ none → B.g b = none → G b = none) (r : Hold ⟨G, B.m⟩ H₀ G' H') : Hold B H₀ G' H' := ⟨g.trans r.gG, r.GH, r.old, r.there, fun b z n => r.lent b z (l b z n)⟩
theorem Rep.lower {Z : Zx} {H₀ G G' H' : Hp} {σ : St} {δ : Ev} (g : Same B.g G) (l : ∀ b, H₀ b ≠ none → B.g b = none → G b = none) (r : Rep Z ⟨G, B.m⟩ H₀ G' H' σ δ) : Rep Z B H₀ G' H' σ δ := ⟨r.toHold.lower g l, r.len, r.sh, r.ow, r.sep, r.oo, r.oo1⟩
theorem flies_pins {pins pl : List (Addr × Obj)} {H : Hp} {s : Shared} {ea : Addr} {C : Value} (F : Flies X (pins ++ pl) H s ea C) : Flies X pins H s ea C := by
  have c : ∀ {b}, FreshX X (pins ++ pl) H b → FreshX X pins H b := fun f => ⟨f.nl, f.nc, fun p hp => f.np p ((List.mem_append.mp hp).elim (fun z => List.mem_append_left _ z) fun z => List.mem_append_right _ (List.mem_append_left _ z)), f.n0, f.nh⟩
  obtain ⟨⟨oe, vs, a0, t1, t2, t3, t4, t5⟩, fr⟩ := F
  refine ⟨⟨oe, vs, a0, t1, t2, t3, t4, t5.imp id ?_⟩, c fr⟩
  rintro ⟨T, oT, ts, x1, x2, x3, x4, x5, x6⟩
  exact ⟨T, oT, ts, x1, x2, x3, x4, x5, c x6⟩
def zFor (fit : Ev → R (List D)) (bd : D → Ev → Option Ev) (F : Ev → SR) : Ev → SR := fun δ => bS (fit δ) δ fun ds => loopZ bd F ds δ
theorem pz_for (cx : Cxo X) (hc : X.calm = true) {iter : Expr} {body : List Stmt} {fit : Ev → R (List D)} {bd : D → Ev → Option Ev} {F : Ev → SR} (hi : PIz κ B X tg iter fit) (hg : ∀ B, PGz κ B X tg bd) (hb : ∀ B, PZs κ B X body F)
    (hs : ∀ x, foldedSetIterable iter X.env x = pure x) : PZ κ B X (.For tg iter body [] pos) (zFor fit bd F) := fun Ex pins s σ H G δ Dn hp I rp h => by
  have hsgA : ∀ p τ, (X.wish Ex).sg p τ := cx.sg
  refine wpAny_For (thn (hi pins σ Ex pins s σ H (fun J H' => ∃ G' ds, Rep ⟨X.K, κ⟩ B X.H₀ G' H' σ δ ∧ IsIt X κ J G' ds ∧ SPost κ B X Ex pins Dn (loopZ bd F ds δ)) (inv_at I) ⟨G, δ, rp, ?_⟩) fun v s1 h1 => thn h1 fun itv s2 h2 => ?_) hs
  · unfold zFor at h
    cases q : fit δ with
    | ok ds => rw [q] at h; exact fun J H' G' e1 d1 => ⟨G', ds, rp.ext e1, d1, h⟩
    | exc c => rw [q] at h; exact fun H' G' e1 ea s' I' F' => h ea s' σ H' G' I' F' (rp.ext e1)
    | stuck => rw [q] at h; exact h
  obtain ⟨it, fp, tn, J, H2, e, I2, T, st2, f2, G2, ds, rp2, hJ, q2⟩ := h2
  subst e
  have I2' := inv_unat cx.sg I2
  obtain ⟨vs, dvs, hJ⟩ := hJ
  have hlen := dvs.length
  have stat : ∀ {H' : Hp}, (∀ b ∈ fp, H' b = none) → ∀ b ∈ fp, FpOk (X.wish Ex) pins H' b := fun hn b hb => ⟨hn b hb, (f2 b hb).2⟩
  refine codeAny_forLoop_any (fun n s' => ∃ i σ' H' G' δ', Inv (X.wish Ex) pins σ' H' s' ∧ tn i s'.heap ∧ (∀ b ∈ fp, H' b = none) ∧ n = ds.length - i ∧ i ≤ ds.length ∧ Rep ⟨X.K, κ⟩ ⟨G2, B.m⟩ X.H₀ G' H' σ' δ' ∧ SPost κ B X Ex pins Dn (loopZ bd F (ds.drop i) δ')) ?_ ds.length
    ⟨0, σ, H2, G2, δ, I2', st2, fun b hb => (f2 b hb).1, rfl, Nat.zero_le _, rp2.raise, q2⟩
  rintro n s3 ⟨i, σ3, H3, G3, δ3, I3, st3, fr3, rfl, hi3, rp3, q3⟩
  have low : ∀ {G' H' : Hp} {σ' : St} {δ' : Ev}, Rep ⟨X.K, κ⟩ ⟨G2, B.m⟩ X.H₀ G' H' σ' δ' → Rep ⟨X.K, κ⟩ B X.H₀ G' H' σ' δ' := fun r => r.lower rp2.gG rp2.lent
  have same3 : Same G2 H3 := rp3.gG.trans rp3.GH
  by_cases hlt : i < ds.length
  · obtain ⟨go, yl⟩ := (hJ H3 same3 i).1 (by omega)
    refine wpAny_passesOwn hp (thn (T.item (X.wish Ex) rfl rfl rfl hc i pins s3 σ3 H3 Ex I3 (stat fr3) st3 go) fun r s4 ⟨u, hr, h4⟩ => ?_)
    subst hr
    refine wpAny_passesOwn hp (thn h4 fun _ s5 ⟨x, H5, I5, r5, y5, st5, fr5⟩ => ?_)
    obtain ⟨e5, vx⟩ := yl x H5 y5
    subst e5
    have I5' := Inv.pinned hsgA I5 (stat fr5) (T.obj _ _ st5)
    obtain ⟨dx, hdx⟩ : ∃ d, ds[i]? = some d := ⟨ds[i], by simp [hlt]⟩
    have dd : Den ⟨X.K, κ⟩ G3 x dx := by
      obtain ⟨v', e1, e2⟩ := dvs.get hdx
      rw [vx] at e1; cases e1
      exact e2.mono rp3.gG
    have hdrop : ds.drop i = dx :: ds.drop (i + 1) := by
      rw [List.drop_eq_getElem_cons hlt]
      simp [hlt] at hdx
      rw [hdx]
    rw [hdrop] at q3
    unfold loopZ at q3
    cases eb : bd dx δ3 with
    | none => rw [eb] at q3; exact False.elim q3
    | some δ4 =>
      rw [eb] at q3
      refine wpAny_passesOwn hp (thn (hg ⟨G2, B.m⟩ Ex _ s5 σ3 _ x u (fun σ' H' => H' = H5 ∧ Rep ⟨X.K, κ⟩ ⟨G2, B.m⟩ X.H₀ G3 H5 σ' δ4) I5' r5 ⟨G3, δ3, dx, δ4, rp3, dd, eb, fun σ' r' => ⟨rfl, r'⟩⟩) fun _ s6 ⟨σ6, H6, I6, e6, rp6⟩ => ?_)
      subst e6
      refine wpAny_passesOwn hp (thn (hb ⟨G2, B.m⟩ Ex _ s6 σ6 _ G3 δ4 { Dn with nx := fun σ' H' => ∃ G' δ', Rep ⟨X.K, κ⟩ ⟨G2, B.m⟩ X.H₀ G' H' σ' δ' ∧ SPost κ B X Ex pins Dn (loopZ bd F (ds.drop (i + 1)) δ'), ct := fun σ' H' => ∃ G' δ', Rep ⟨X.K, κ⟩ ⟨G2, B.m⟩ X.H₀ G' H' σ' δ' ∧ SPost κ B X Ex pins Dn (loopZ bd F (ds.drop (i + 1)) δ'), bk := Dn.nx } hp I6 rp6 ?_) fun fl s7 q7 => ?_)
      · cases ef : F δ4 with
        | next δ5 => simp only [ef] at q3; exact fun σ' H' G' r => ⟨G', δ5, r, q3⟩
        | cont δ5 => simp only [ef] at q3; exact fun σ' H' G' r => ⟨G', δ5, r, q3⟩
        | brk δ5 => simp only [ef] at q3; exact fun σ' H' G' r => q3 σ' H' G' (low r)
        | ret d => simp only [ef] at q3; exact fun v H' G' r => q3 v H' G' (r.lower rp2.gG rp2.lent)
        | exc c δ5 => simp only [ef] at q3; exact fun ea s' σ' H' G' I' F' r => q3 ea s' σ' H' G' (Inv.unpinned hsgA I') (flies_pins F') (low r)
        | stuck => simp only [ef] at q3; exact q3
      · have again : ∀ {σ7 : St} {H7 : Hp}, Inv (X.wish Ex) (pins ++ pinsAt fp s5.heap) σ7 H7 s7 → (∃ G' δ', Rep ⟨X.K, κ⟩ ⟨G2, B.m⟩ X.H₀ G' H7 σ7 δ' ∧ SPost κ B X Ex pins Dn (loopZ bd F (ds.drop (i + 1)) δ')) →
            ∃ m, m < ds.length - i ∧ ∃ i σ' H' G' δ', Inv (X.wish Ex) pins σ' H' s7 ∧ tn i s7.heap ∧ (∀ b ∈ fp, H' b = none) ∧ m = ds.length - i ∧ i ≤ ds.length ∧ Rep ⟨X.K, κ⟩ ⟨G2, B.m⟩ X.H₀ G' H' σ' δ' ∧ SPost κ B X Ex pins Dn (loopZ bd F (ds.drop i) δ') := fun {σ7 H7} I7 ⟨G7, δ7, r7, n7⟩ => by
          refine ⟨ds.length - (i + 1), by omega, i + 1, σ7, H7, G7, δ7, Inv.unpinned hsgA I7, T.keep _ _ _ st5 fun b hb o e => (I7.pin (b, o) (List.mem_append_right _ (List.mem_append_right _ (mem_pinsAt hb e)))).1, fun b hb => ?_, rfl, hlt, r7, n7⟩
          obtain ⟨o, e, d⟩ := T.obj _ _ st5 b hb
          exact (I7.pin (b, o) (List.mem_append_right _ (List.mem_append_right _ (mem_pinsAt hb e)))).2.1
        cases fl with
        | next => obtain ⟨σ7, H7, I7, n7⟩ := q7; exact again I7 n7
        | cont => obtain ⟨σ7, H7, I7, n7⟩ := q7; exact again I7 n7
        | brk => obtain ⟨σ7, H7, I7, q7⟩ := q7; exact ⟨σ7, H7, Inv.unpinned hsgA I7, q7⟩
        | ret v => obtain ⟨x7, σ7, H7, I7, r7, q7⟩ := q7; exact ⟨x7, σ7, H7, Inv.unpinned hsgA I7, r7, q7⟩
  · have hie : i = ds.length := by omega
    refine wpAny_passesOwn hp (thn (T.done (X.wish Ex) rfl rfl rfl hc i pins s3 σ3 H3 Ex I3 (stat fr3) st3 ((hJ H3 same3 i).2 (by omega))) fun r s4 ⟨hr, I4⟩ => ?_)
    subst hr
    rw [hie, List.drop_length] at q3
    exact wpAny_execs_nil ⟨σ3, H3, I4, q3 σ3 H3 G3 (low rp3)⟩
def whileZ (t : Ev → R Bool) (F : Ev → SR) : Nat → Ev → SR
  | 0, _ => .stuck
  | n + 1, δ => bS (t δ) δ fun k => if k then (match F δ with
    | .next δ' => whileZ t F n δ'
    | .cont δ' => whileZ t F n δ'
    | .brk δ' => .next δ'
    | r => r) else .next δ
theorem pz_while (cx : Cxo X) (N : Nat) {c : Expr} {body : List Stmt} {t : Ev → R Bool} {F : Ev → SR} (hc : PXt κ B X c t) (hb : PZs κ B X body F) : PZ κ B X (.While c body [] pos) (whileZ t F N) := fun Ex pins s σ H G δ Dn hp I rp h => by
  refine wpAny_While (codeAny_whileLoop (fun n s' => ∃ σ' H' G' δ', Inv (X.wish Ex) pins σ' H' s' ∧ Rep ⟨X.K, κ⟩ B X.H₀ G' H' σ' δ' ∧ SPost κ B X Ex pins Dn (whileZ t F n δ')) ?_ N ⟨σ, H, G, δ, I, rp, h⟩)
  rintro n s1 ⟨σ1, H1, G1, δ1, I1, rp1, q1⟩
  cases n with
  | zero => exact False.elim q1
  | succ n =>
    unfold whileZ at q1
    refine wpAny_passesOwn hp (thn (hc.stm cx I1 rp1 q1) fun b s2 ⟨H2, G2, I2, rp2, q2⟩ => ?_)
    cases b with
    | true =>
      rw [if_pos rfl]
      rw [if_pos rfl] at q2
      refine wpAny_passesOwn hp (thn (hb Ex pins s2 σ1 H2 G2 δ1 { Dn with nx := fun σ' H' => ∃ G' δ', Rep ⟨X.K, κ⟩ B X.H₀ G' H' σ' δ' ∧ SPost κ B X Ex pins Dn (whileZ t F n δ'), ct := fun σ' H' => ∃ G' δ', Rep ⟨X.K, κ⟩ B X.H₀ G' H' σ' δ' ∧ SPost κ B X Ex pins Dn (whileZ t F n δ'), bk := Dn.nx } hp I2 rp2 ?_) fun f s3 q3 => ?_)
      · cases ef : F δ1 with
        | next δ5 => simp only [ef] at q2; exact fun σ' H' G' r => ⟨G', δ5, r, q2⟩
        | cont δ5 => simp only [ef] at q2; exact fun σ' H' G' r => ⟨G', δ5, r, q2⟩
        | brk δ5 => simp only [ef] at q2; exact q2
        | ret d => simp only [ef] at q2; exact q2
        | exc c δ5 => simp only [ef] at q2; exact q2
        | stuck => simp only [ef] at q2; exact q2
      · cases f with
        | next => obtain ⟨σ3, H3, I3, G3, δ3, r3, n3⟩ := q3; exact ⟨n, Nat.lt_succ_self n, σ3, H3, G3, δ3, I3, r3, n3⟩
        | cont => obtain ⟨σ3, H3, I3, G3, δ3, r3, n3⟩ := q3; exact ⟨n, Nat.lt_succ_self n, σ3, H3, G3, δ3, I3, r3, n3⟩
        | brk => exact q3
        | ret v => exact q3
    | false =>
      rw [if_neg Bool.false_ne_true]
      exact wpAny_execs_nil ⟨σ1, H2, I2, q2 σ1 H2 G2 rp2⟩
end
def finR : SR → R D
  | .next _ => .ok .non
  | .ret d => .ok d
  | .exc c _ => .exc c
  | _ => .stuck
def startE (n : Nat) (ds : List D) : Ev := ds.map (fun d => some (.sh d)) ++ List.replicate (n - ds.length) none
structure FrmOk (X : Cx) : Prop where
  st : X.stack = X.env :: X.outer
  fr : X.env.frame = some X.env.locals
theorem fn_mirrorN {P : Program} {w : World} {K : PySem.W.Frag} {mg : Str → Option Value} {base : Heap} {κ : Nat → Addr} {x qual : Str} {st : Stmt} {f : Addr} {fd : FuncData} {N ps : List Str} {k : Nat} {F : Ev → SR}
    (Fn : Fun K x qual st f fd) (S : FnScope N ps (defScope st))
    (hb : ∀ (X : Cx) (B : Gd), Cxo X → X.calm = true → X.prog = P → X.w = w → X.K = K → X.mg = mg → X.base = base → X.N = N → X.env.scope = defScope st → (∀ y, X.fn y = true) → Room k X.A → FrmOk X → (∀ b, X.H₀ b = none → B.m b) → PZs κ B X (defBody st) F) :
    FnOk P w K mg base (CXR P w) (k + 1) f fd ps (spM K κ ps.length fun ds => finR (F (startE N.length ds))) := by
  obtain ⟨oc, od, kV, doc, pm, an, cdv, ct, osl, rfl, lk, hcd⟩ := Fn.ex
  refine fn_of lk hcd S (fun vs H Q E h => h.1) fun A outer s H vs Q E hr hsp => ?_
  obtain ⟨hl, G, ds, sm, dn, hq⟩ := hsp
  dsimp only at hq
  generalize hX : cxOf (CXR P w) P w K mg base N qual (defScope st) f cdv A outer s H E = X
  have eP : X.prog = P := by rw [← hX]; rfl
  have ew : X.w = w := by rw [← hX]; rfl
  have eK : X.K = K := by rw [← hX]; rfl
  have cx : Cxo X := by rw [← hX]; exact ⟨fun _ _ => trivial, rfl⟩
  have body := fun B hB => hb X B cx (by rw [← hX]; rfl) eP ew eK (by rw [← hX]; rfl) (by rw [← hX]; rfl) (by rw [← hX]; rfl) (by rw [← hX]; rfl) (fun y => by rw [← hX]; rfl) (by rw [← hX]; exact hr) (by rw [← hX]; exact ⟨rfl, rfl⟩) hB
  have e0 : X.H₀ = H := by rw [← hX]; rfl
  refine ⟨fun Dn σ H => ∃ B G δ, (∀ b, X.H₀ b = none → B.m b) ∧ Rep ⟨X.K, κ⟩ B X.H₀ G H σ δ ∧ ∀ pins, SPost κ B X X.xe pins Dn (F δ), fun pins s' σ H' Dn I ⟨B, G, δ, hB, rp, h⟩ => ?_, ⟨G, fun b => H b = none⟩, G, startE N.length ds, (fun b z => by rw [e0] at z; exact z), ?_, fun pins => ?_⟩
  · refine body B hB X.xe pins s' σ H' G δ Dn ?_ I rp (h pins)
    rw [← hX]
    exact PassesOwn.leaving
  · rw [e0, eK]
    have hld : ds.length = vs.length := dn.length.symm
    refine ⟨⟨Same.refl _, sm, fun _ _ e _ => e, fun _ e => e, fun _ _ e => e⟩, ?_, fun i d e => ?_, fun i es e => ?_, fun i j es fs a n e => ?_, fun i c ns es e => ?_, fun i j c ns es c' ns' es' x0 n0 e => ?_⟩
    · unfold L2.start startE
      simp [hld]
    · unfold startE at e
      by_cases hi : i < ds.length
      · rw [List.getElem?_append_left (by simpa using hi), List.getElem?_map] at e
        cases q : ds[i]? with
        | none => rw [q] at e; cases e
        | some d' =>
          rw [q] at e
          cases e
          obtain ⟨v, e1, e2⟩ := dn.get q
          refine ⟨v, ?_, e2⟩
          unfold L2.start
          rw [List.getElem?_append_left (by simp; omega), List.getElem?_map, e1]
          rfl
      · rw [List.getElem?_append_right (by simpa using hi), List.getElem?_replicate] at e
        split at e <;> cases e
    · unfold startE at e
      by_cases hi : i < ds.length
      · rw [List.getElem?_append_left (by simpa using hi), List.getElem?_map] at e
        cases q : ds[i]? with
        | none => rw [q] at e; cases e
        | some d' => rw [q] at e; cases e
      · rw [List.getElem?_append_right (by simpa using hi), List.getElem?_replicate] at e
        split at e <;> cases e
    · unfold startE at e
      by_cases hi : i < ds.length
      · rw [List.getElem?_append_left (by simpa using hi), List.getElem?_map] at e
        cases q : ds[i]? with
        | none => rw [q] at e; cases e
        | some d' => rw [q] at e; cases e
      · rw [List.getElem?_append_right (by simpa using hi), List.getElem?_replicate] at e
        split at e <;> cases e
    · unfold startE at e
      by_cases hi : i < ds.length
      · rw [List.getElem?_append_left (by simpa using hi), List.getElem?_map] at e
        cases q : ds[i]? with
        | none => rw [q] at e; cases e
        | some d' => rw [q] at e; cases e
      · rw [List.getElem?_append_right (by simpa using hi), List.getElem?_replicate] at e
        split at e <;> cases e
    · unfold startE at e
      by_cases hi : i < ds.length
      · rw [List.getElem?_append_left (by simpa using hi), List.getElem?_map] at e
        cases q : ds[i]? with
        | none => rw [q] at e; cases e
        | some d' => rw [q] at e; cases e
      · rw [List.getElem?_append_right (by simpa using hi), List.getElem?_replicate] at e
        split at e <;> cases e
  · have ext : ∀ {G' H' : Hp}, Hold ⟨G, fun b => H b = none⟩ X.H₀ G' H' → Ext G H G' H' := fun {G' H'} h => by
      rw [e0] at h
      refine ⟨h.gG, fun b o e => h.old b o e (by dsimp only; rw [e]; simp), h.GH, fun a n => ?_⟩
      cases q : H a with
      | none => exact .inr rfl
      | some o =>
        refine .inl fun z => n ?_
        exact h.lent a (by rw [q]; simp) z
    cases q : F (startE N.length ds) with
    | next δ' => rw [q] at hq; exact fun σ' H' G' r => hq .non H' G' (ext r.toHold) dNon
    | ret d => rw [q] at hq; exact fun v H' G' r dd => hq v H' G' (ext r) (by rw [eK] at dd; exact dd)
    | exc c δ' =>
      rw [q] at hq
      intro ea s' σ' H' G' I' F' r
      have hE : E (.ref (κ c)) none H' := hq H' G' (ext r.toHold)
      have I2 : Inv X pins σ' H' s' := by
        have := I'.unwish
        exact this
      have := leave_ok (M := model P w) (E := E) (E' := fun e' s'' => CXR P w outer H s E e' s'') I2 cx.ex (by rw [← hX]; rfl) (by rw [← hX]; rfl) F' hE
      rw [← hX] at this ⊢
      exact this
    | brk δ' => rw [q] at hq; exact False.elim hq
    | cont δ' => rw [q] at hq; exact False.elim hq
    | stuck => rw [q] at hq; exact False.elim hq
theorem fn_mirror {P : Program} {w : World} {K : PySem.W.Frag} {mg : Str → Option Value} {base : Heap} {κ : Nat → Addr} {x qual : Str} {st : Stmt} {f : Addr} {fd : FuncData} {N ps : List Str} {k : Nat} {F : Ev → SR}
    (Fn : Fun K x qual st f fd) (S : FnScope N ps (defScope st))
    (hb : ∀ (X : Cx) (B : Gd), Cxo X → X.calm = true → X.prog = P → X.w = w → X.K = K → X.mg = mg → X.base = base → X.N = N → X.env.scope = defScope st → (∀ y, X.fn y = true) → Room k X.A → FrmOk X → PZs κ B X (defBody st) F) :
    FnOk P w K mg base (CXR P w) (k + 1) f fd ps (spM K κ ps.length fun ds => finR (F (startE N.length ds))) := fn_mirrorN Fn S fun X B a1 a2 a3 a4 a5 a6 a7 a8 a9 a10 a11 a12 _ => hb X B a1 a2 a3 a4 a5 a6 a7 a8 a9 a10 a11 a12
end L3
set_option Elab.async false
set_option linter.all false
set_option maxRecDepth 100000
namespace L3
open PySem PySem.Spec PyProof.Rows L2
def fOut (X : Cx) (κ : Nat → Addr) (E : XK) (G H : Hp) (r : R (List D)) (Q : VK) : Prop := match r with
  | .ok ds => ∀ a vs H' G', Ext G H G' H' → H' a = some (.lst vs) → G' a = none → H a = none → Dens ⟨X.K, κ⟩ G' vs ds → Q (.ref a) H'
  | .exc c => ∀ H' G', Ext G H G' H' → E (.ref (κ c)) none H'
  | .stuck => False
def PXf (κ : Nat → Addr) (B : Gd) (X : Cx) (e : Expr) (f : Ev → R (List D)) : Prop := ∀ pins σ Ex, PE (At X pins σ Ex) e (fun τ H Q => ∃ G δ, Rep ⟨X.K, κ⟩ B X.H₀ G H τ δ ∧ fOut X κ (EX X pins σ Ex) G H (f δ) Q)
section
variable {κ : Nat → Addr} {B : Gd} {X : Cx} {e : Expr} {es : List Expr} {f : Ev → R D} {fl fs : Ev → R (List D)} {pos pos' pos'' apos : Pos}
theorem fOut.pre {E : XK} {G H G' H' : Hp} {r : R (List D)} {Q : VK} (e : Ext G H G' H') (h : fOut X κ E G H r Q) : fOut X κ E G' H' r Q := by
  cases r with
  | ok d => exact fun a vs H2 G2 e2 h1 h2 h3 h4 => h a vs H2 G2 (e.trans e2) h1 h2 (e.sH.free h3) h4
  | exc c => exact fun H2 G2 e2 => h H2 G2 (e.trans e2)
  | stuck => exact h
theorem ext_own {G H : Hp} {p : Addr} {o : HO} (s : Same G H) (n : H p = none) : Ext G H G (upd H p o) := by
  refine ⟨Same.refl _, fun b u e => ?_, fun b u e => ?_, fun b e => .inl e⟩
  · rw [upd_ne (ne_of_none e n)]; exact e
  · rw [upd_ne (ne_of_none (s b u e) n)]; exact s b u e
def lim (r : R (List D)) : R (List D) := r.bind fun xs => if xs.length ≤ 1000000 then .ok xs else .stuck
theorem pxf_lst (h : PXs κ B X es fs) : PXf κ B X (.List es pos) (fun δ => lim (fs δ)) := fun pins σ Ex =>
  pe_imp (pe_lst (h pins σ Ex)) fun τ H Q ⟨G, δ, rp, q⟩ => ⟨G, δ, rp, by
    unfold lim at q
    dsimp only at q
    cases e : fs δ with
    | ok xs =>
      rw [e] at q
      intro v H1 G1 e1 d1
      simp only [R.bind_ok] at q
      split at q
      · rename_i hl
        refine ⟨big1 (by rw [Dens.length d1]; exact hl), fun p hp => ?_⟩
        exact q p v _ G1 (e1.trans (ext_own e1.GH hp)) upd_same (e1.GH.free hp) (e1.sH.free hp) d1
      · exact False.elim q
    | exc c => rw [e] at q; exact q
    | stuck => rw [e] at q; exact q⟩
theorem ext_frz {G H G' H' : Hp} {a : Addr} {vs : List V} (e : Ext G H G' H') (h1 : H' a = some (.lst vs)) (h2 : G' a = none) (h3 : H a = none) : Ext G H (upd G' a (.lst vs)) H' := by
  have sg : Same G' (upd G' a (.lst vs)) := fun b o z => by rw [upd_ne (ne_of_none z h2)]; exact z
  refine ⟨e.sG.trans sg, e.sH, fun b o z => ?_, fun b z => ?_⟩
  · by_cases hb : b = a
    · subst hb; rw [upd_same] at z; cases z; exact h1
    · rw [upd_ne hb] at z; exact e.GH b o z
  · by_cases hb : b = a
    · subst hb; exact .inr h3
    · rw [upd_ne hb] at z; exact e.new b z
def mL (fl : Ev → R (List D)) : Ev → R D := fun δ => (fl δ).bind fun ds => .ok (.lst ds)
theorem PXf.px (h : PXf κ B X e fl) : PX κ B X e (mL fl) := fun pins σ Ex => pe_imp (h pins σ Ex) fun τ H Q ⟨G, δ, rp, q⟩ => ⟨G, δ, rp, by
  unfold mL at q
  cases e : fl δ with
  | ok ds =>
    rw [e] at q
    intro a vs H' G' e1 h1 h2 h3 h4
    have sg : Same G' (upd G' a (.lst vs)) := fun b o z => by rw [upd_ne (ne_of_none z h2)]; exact z
    exact q _ H' _ (ext_frz e1 h1 h2 h3) (by unfold Den; exact ⟨a, vs, rfl, SqL.of upd_same, h4.mono sg⟩)
  | exc c => rw [e] at q; exact q
  | stuck => rw [e] at q; exact q⟩
def zOwn (i : Nat) (fl : Ev → R (List D)) : Ev → SR := fun δ => bS (fl δ) δ fun ds => .next (δ.set i (some (.ow ds)))
theorem pz_own (cx : Cxo X) {i : Nat} {x : Str} (hN : X.N.Nodup) (hi : X.N[i]? = some x) (hx : Loc X.env.scope x) (hf : X.fn x = true ∨ X.env.scope.names.lookup x = some .local) (h : PXf κ B X e fl) (hs : swapsWith e (some (.Name x pos')) pos.line X.env = pure false) :
    PZ κ B X (.Assign [.Name x pos'] e pos) (zOwn i fl) := fun Ex pins s σ H G δ Dn hp I rp q => by
  unfold zOwn at q
  refine wpAny_Assign_Name (thn (h pins σ Ex pins s σ H (fun v H' => ∃ a ds vs G', v = .ref a ∧ Ext G H G' H' ∧ H' a = some (.lst vs) ∧ G' a = none ∧ H a = none ∧ Dens ⟨X.K, κ⟩ G' vs ds ∧ SPost κ B X Ex pins Dn (.next (δ.set i (some (.ow ds))))) (inv_at I) ⟨G, δ, rp, ?_⟩)
    fun v s1 ⟨y, H', I', r, a, ds, vs, G', e0, e1, h1, h2, h3, h4, q⟩ => ?_) hs
  · cases e : fl δ with
    | ok ds => rw [e] at q; exact fun a vs H' G' e1 h1 h2 h3 h4 => ⟨a, ds, vs, G', rfl, e1, h1, h2, h3, h4, q⟩
    | exc c => rw [e] at q; exact fun H' G' e1 ea s' I' F => q ea s' σ H' G' I' F (rp.ext e1)
    | stuck => rw [e] at q; exact q
  · subst e0
    have rp' := rp.ext e1
    refine store_ok (X := X.wish Ex) (inv_unat cx.sg I') hN hi hx r (fun s2 I2 => ⟨_, H', I2, q _ H' G' (rp'.setOw h1 h4 h2 ?_ fun j es z n z2 => ?_)⟩) hf (fun p σ v _ => cx.sg p _)
    · cases q0 : X.H₀ a with
      | none => rfl
      | some o => exact absurd h3 (rp.there a (by rw [q0]; simp))
    · obtain ⟨b, us, y1, y2, _⟩ := rp.ow j es z
      rw [y1] at z2
      cases z2
      rw [h3] at y2; cases y2
def zApp (i : Nat) (f : Ev → R D) : Ev → SR := fun δ => match δ[i]? with
  | some (some (.ow ds)) => bS (f δ) δ fun d => if ds.length < 1000000 then .next (δ.set i (some (.ow (ds ++ [d])))) else .stuck
  | _ => .stuck
theorem pz_append (cx : Cxo X) {i : Nat} {x : Str} (hN : X.N[i]? = some x) (hv : Vis X.env.scope x) (hd : (x == ("__debug__" : Str)) = false) (hcd : (x == ("__classdict__" : Str)) = false) (h : PX κ B X e f)
    (hsw : swapsWith (.Call (.Attribute (.Name x pos) "append" apos) [e] [] pos') none pos''.line X.env = pure false)
    (hbase : attributeBase (.Name x pos) "append" X.env (eval (.Name x pos) X.env) = eval (.Name x pos) X.env)
    (hfew : ((backTo pos' (starEach [e] X.env)).all (fun x => !x.1) && (backToKw pos' (keywordEach [] X.env)).all (fun x => x.1.isSome)
      && decide (([e] : List Expr).length + ([] : List Keyword).length + (if ([] : List Keyword).isEmpty then 0 else 1) < 30)) = true)
    (hline : (apos.endLine == pos'.line) = true) (hs : starEach [e] X.env = (false, eval e X.env) :: starEach [] X.env) (hpl : (backTo pos' (starEach [] X.env)).any (·.1) = false) :
    PZ κ B X (.Expr (.Call (.Attribute (.Name x pos) "append" apos) [e] [] pos') pos'') (zApp i f) := fun Ex pins s σ H G δ Dn hp I rp q => by
  unfold zApp at q
  split at q
  · rename_i ds ed
    obtain ⟨a, vs, x1, x2, x3, x4, x5⟩ := rp.ow i ds ed
    have pe := pe_bm (X := At X pins σ Ex) PySem.F.plainAttrs_list PySem.F.slot_list_append PySem.F.type_list_append mt_append (pe_var (X := At X pins σ Ex) (pos := pos) hN hv hd hcd) (pxs_cons h pxs_nil hs pins σ Ex) hbase hfew hline hs hpl
    refine wpAny_Expr_any (thn (pe pins s σ H (fun _ H' => ∃ G' δ', Rep ⟨X.K, κ⟩ B X.H₀ G' H' σ δ' ∧ SPost κ B X Ex pins Dn (.next δ')) (inv_at I) ⟨.ref a, x1, .inl ⟨rfl, vs, SqL.of x2⟩, G, δ, rp, ?_⟩) fun v s1 ⟨y, H', I', r, G', δ', rp', q⟩ => ⟨σ, H', inv_unat cx.sg I', q σ H' G' rp'⟩) I.quiet hsw
    unfold mCons mNil
    cases e : f δ with
    | ok d =>
      rw [e] at q
      simp only [R.bind_ok]
      intro us H1 G1 e1 d1
      simp only [bS_ok] at q
      split at q
      · rename_i hl
        obtain ⟨y, rfl, dy⟩ : ∃ y, us = [y] ∧ Den ⟨X.K, κ⟩ G1 y d := by
          match us, d1 with
          | [y], d1 => unfold dsRel Dens at d1; exact ⟨y, rfl, d1.1⟩
          | [], d1 => unfold dsRel Dens at d1; exact d1.elim
          | _ :: _ :: _, d1 => unfold dsRel Dens at d1; have := d1.2; unfold Dens at this; exact this.elim
        have rp1 := rp.ext e1
        refine ⟨a, vs, y, rfl, rfl, e1.sH _ _ x2, ?_, G1, _, rp1.updOw ed x1 ((x3.mono e1.sG).append (dens_cons dy dens_nil)), q⟩
        have := x3.length
        rw [sizeLine_eq]
        omega
      · exact False.elim q
    | exc c =>
      rw [e] at q
      exact fun H' G' e1 ea s' I' F => q ea s' σ H' G' I' F (rp.ext e1)
    | stuck => rw [e] at q; exact q
  · exact False.elim q
def zPut (i : Nat) (fk f : Ev → R D) : Ev → SR := fun δ => match δ[i]? with
  | some (some (.ow ds)) => bS (f δ) δ fun d => bS (fk δ) δ fun k => match k with
    | .int k => (match ixN ds.length k with
      | some j => .next (δ.set i (some (.ow (ds.set j d))))
      | none => .stuck)
    | _ => .stuck
  | _ => .stuck
theorem pz_put (cx : Cxo X) {i : Nat} {x : Str} {k : Expr} {fk : Ev → R D} (hN : X.N[i]? = some x) (hv : Vis X.env.scope x) (hd : (x == ("__debug__" : Str)) = false) (hcd : (x == ("__classdict__" : Str)) = false) (h : PX κ B X e f) (hk : PX κ B X k fk)
    (hs : swapsWithSole [.Subscript (.Name x pos) k apos] e pos'.line X.env = pure false) (hw : swappedStores [.Subscript (.Name x pos) k apos] e X.env = pure none)
    (h1 : (assignEach [.Subscript (.Name x pos) k apos] X.env).map (·.2) = [assign (.Subscript (.Name x pos) k apos) X.env])
    (ha : ∀ v, assign (.Subscript (.Name x pos) k apos) X.env v = (do
      let ov ← holding [v] (eval (.Name x pos) X.env)
      let iv ← holding [v, ov] (eval k X.env)
      standAt apos
      holding [v, ov, iv] (setItem ov iv v)
      release [v, ov, iv] [])) : PZ κ B X (.Assign [.Subscript (.Name x pos) k apos] e pos') (zPut i fk f) := fun Ex pins s σ H G δ Dn hp I rp q => by
  unfold zPut at q
  split at q
  · rename_i ds ed
    refine wpAny_Assign_stores (thn (h.stm cx I rp q) fun v s1 ⟨d, y, H', G', I', r, rp', dn, q⟩ => ?_) hs hw
    rw [h1]
    obtain ⟨a, vs, x1, x2, x3, x4, x5⟩ := rp'.ow i ds ed
    have pg := pg_sub (X := At X pins σ Ex) (pe_var (X := At X pins σ Ex) (pos := pos) hN hv hd hcd) (hk pins σ Ex) set_list ha
    refine thn (pg pins s1 σ H' y v (fun σ' H'' => ∃ G'' δ', Rep ⟨X.K, κ⟩ B X.H₀ G'' H'' σ' δ' ∧ SPost κ B X Ex pins Dn (.next δ')) (inv_at I') r ⟨.ref a, x1, G', δ, rp', ?_⟩) fun _ s2 ⟨σ2, H2, I2, G2, δ2, rp2, q2⟩ => ?_
    · cases e : fk δ with
      | ok kd =>
        rw [e] at q
        intro kv H1 G1 e1 d1
        simp only [bS_ok] at q
        split at q
        · rename_i n
          have ek : kv = .int n := by simpa [dRel, Den] using d1
          subst ek
          have hlen := (x3).length
          split at q
          · rename_i j ej
            refine ⟨a, vs, n, j, rfl, rfl, e1.sH _ _ x2, by rw [hlen]; exact ej, G1, _, (rp'.ext e1).updOw ed x1 ((x3.mono e1.sG).set (dn.mono e1.sG) j), q⟩
          · exact False.elim q
        · exact False.elim q
      | exc c =>
        rw [e] at q
        exact fun H1 G1 e1 ea s' I' F => q ea s' σ H1 G1 I' F (rp'.ext e1)
      | stuck => rw [e] at q; exact q
    · obtain ⟨_, es⟩ := I2.sgm
      subst es
      exact ⟨_, H2, inv_unat cx.sg I2, q2 _ H2 G2 rp2⟩
  · exact False.elim q
end
end L3
set_option Elab.async false
set_option linter.all false
set_option maxRecDepth 100000
namespace L3
open PySem PySem.Spec PyProof.Rows L2
mutual
def toP : D → PyData
  | .non => .none
  | .bl b => .bool b
  | .int i => .int i
  | .str x => .str ⟨x.toArray⟩
  | .tup ds => .tuple (toPs ds)
  | .lst ds => .list (toPs ds)
  | .ob _ _ _ => .none
  | .dic _ _ => .none
def toPs : List D → List PyData
  | [] => []
  | d :: ds => toP d :: toPs ds
end
mutual
def plainD : D → Bool
  | .non | .bl _ | .int _ | .str _ => true
  | .tup ds => plainDs ds
  | .lst ds => plainDs ds
  | .ob _ _ _ => false
  | .dic _ _ => false
def plainDs : List D → Bool
  | [] => true
  | d :: ds => plainD d && plainDs ds
end
section
variable {κ : Nat → Addr} {Y : Cx} {pins : List (Addr × Obj)} {σ : St} {H G : Hp} {s : Shared}
mutual
theorem reads_of (I : Inv Y pins σ H s) (sm : Same G H) : ∀ {d : D} {v : V} {u : Value}, Den ⟨Y.K, κ⟩ G v d → plainD d = true → RelV v u → ∃ as, Reads s.heap u (toP d) as
  | .non, v, u, h, _, r => by unfold Den at h; subst h; cases r; exact ⟨_, .none⟩
  | .bl b, v, u, h, _, r => by unfold Den at h; subst h; cases r; exact ⟨_, .bool b⟩
  | .int i, v, u, h, _, r => by unfold Den at h; subst h; obtain ⟨t, rfl⟩ := r; exact ⟨_, .int i t⟩
  | .str x, v, u, h, _, r => by unfold Den at h; subst h; obtain ⟨t, rfl⟩ := r; exact ⟨_, .str _ t⟩
  | .tup ds, v, u, h, p, r => by
    unfold Den at h
    obtain ⟨a, vs, rfl, h1, h2⟩ := h
    cases r
    obtain ⟨its, rv, ⟨o, e, hc, n, hd⟩, _⟩ := I.tuple (same_seqT sm h1)
    obtain ⟨as, q⟩ := reads_ofs I sm h2 (by unfold plainD at p; exact p) rv
    exact ⟨as, reads_tuple_at e hc hd (by simpa using q)⟩
  | .lst ds, v, u, h, p, r => by
    unfold Den at h
    obtain ⟨a, vs, rfl, h1, h2⟩ := h
    cases r
    obtain ⟨its, rv, ⟨o, n, e, hc, _, hd⟩, _⟩ := I.list (sm.seq h1)
    obtain ⟨as, q⟩ := reads_ofs I sm h2 (by unfold plainD at p; exact p) rv
    exact ⟨a :: as, reads_list_at e hc hd (by simpa using q)⟩
  | .ob _ _ _, _, _, _, p, _ => by unfold plainD at p; cases p
  | .dic _ _, _, _, _, p, _ => by unfold plainD at p; cases p
theorem reads_ofs (I : Inv Y pins σ H s) (sm : Same G H) : ∀ {ds : List D} {vs : List V} {us : List Value}, Dens ⟨Y.K, κ⟩ G vs ds → plainDs ds = true → Vals vs us → ∃ as, ReadsAll s.heap us (toPs ds) as
  | [], [], us, _, _, r => by cases r; exact ⟨_, .nil⟩
  | d :: ds, v :: vs, us, h, p, r => by
    unfold Dens at h
    unfold plainDs at p
    have p := Bool.and_eq_true_iff.mp p
    cases r with
    | cons r1 r2 =>
      obtain ⟨as, q1⟩ := reads_of I sm h.1 p.1 r1
      obtain ⟨bs, q2⟩ := reads_ofs I sm h.2 p.2 r2
      exact ⟨_, .cons q1 q2⟩
  | [], _ :: _, _, h, _, _ => by unfold Dens at h; exact h.elim
  | _ :: _, [], _, h, _, _ => by unfold Dens at h; exact h.elim
end
theorem reads_rel (I : Inv Y pins σ H s) (sm : Same G H) {d : D} {v : V} {u : Value} (h : rRel Y κ G H v d) (p : plainD d = true) (r : RelV v u) : ∃ as, Reads s.heap u (toP d) as := by
  rcases h with h | ⟨a, vs, ds, rfl, rfl, h3, h4⟩
  · exact reads_of I sm h p r
  · cases r
    obtain ⟨its, rv, ⟨o, n, e, hc, _, hd⟩, _⟩ := I.list (SqL.of h3)
    obtain ⟨as, q⟩ := reads_ofs I sm h4 (by unfold plainD at p; exact p) rv
    exact ⟨a :: as, reads_list_at e hc hd (by simpa using q)⟩
end
def okP (d : D) : Bool := plainD d && SeqAt.shaped (toP d)
def eqD (x y : D) : Bool := (toP x).eqv (toP y)
def oEq (x y : D) : R Bool := if okP x && okP y then .ok (eqD x y) else .stuck
def oNe (x y : D) : R Bool := if okP x && okP y then .ok (!eqD x y) else .stuck
def rEqD (X : Cx) (κ : Nat → Addr) (neg : Bool) : R2 := fun v u H Q => ∃ G x y, Same G H ∧ rRel X κ G H v x ∧ rRel X κ G H u y ∧ okP x = true ∧ okP y = true ∧ Q (.bl (neg ^^ eqD x y)) H
section
variable {κ : Nat → Addr} {B : Gd} {X : Cx} {a b c : Expr} {fa fb : Ev → R D} {pos p p' : Pos}
theorem rRel_K {X Y : Cx} {κ : Nat → Addr} (e : Y.K = X.K) {G H : Hp} {v : V} {d : D} (h : rRel X κ G H v d) : rRel Y κ G H v d := by
  unfold rRel at h ⊢
  rw [e]; exact h
theorem opR_eq (hu : X.A.units + 64 < cLine) : ∀ Y : Cx, Y.K = X.K → Y.A = X.A → OpR Y (compareOp .Eq) (rEqD X κ false) := by
  intro Y eK eA pins s σ H v u v' u' Q I r1 r2 ⟨G, x, y, sm, d1, d2, o1, o2, q⟩
  have o1 := Bool.and_eq_true_iff.mp o1
  have o2 := Bool.and_eq_true_iff.mp o2
  obtain ⟨as, q1⟩ := reads_rel I sm (rRel_K eK d1) o1.1 r1
  obtain ⟨bs, q2⟩ := reads_rel I sm (rRel_K eK d2) o2.1 r2
  exact eq_dataH q1 q2 o1.2 o2.2 (by rw [eA]; exact hu) ⟨.bl _, H, I, rfl, by simpa [eqD] using q⟩
theorem opR_ne (hu : X.A.units + 64 < cLine) : ∀ Y : Cx, Y.K = X.K → Y.A = X.A → OpR Y (compareOp .NotEq) (rEqD X κ true) := by
  intro Y eK eA pins s σ H v u v' u' Q I r1 r2 ⟨G, x, y, sm, d1, d2, o1, o2, q⟩
  have o1 := Bool.and_eq_true_iff.mp o1
  have o2 := Bool.and_eq_true_iff.mp o2
  obtain ⟨as, q1⟩ := reads_rel I sm (rRel_K eK d1) o1.1 r1
  obtain ⟨bs, q2⟩ := reads_rel I sm (rRel_K eK d2) o2.1 r2
  exact ne_dataH q1 q2 o1.2 o2.2 (by rw [eA]; exact hu) ⟨.bl _, H, I, rfl, by simpa [eqD] using q⟩
theorem opOk_eq : OpOk κ X (rEqD X κ false) (op2 oEq) := by
  intro x y v u G H Q E s d1 d2 q
  unfold op2 oEq at q
  split at q
  · rename_i h
    have h := Bool.and_eq_true_iff.mp h
    exact ⟨G, x, y, s, d1, d2, h.1, h.2, by simpa using q _ H G (Ext.refl s) dBl⟩
  · exact False.elim q
theorem opOk_ne : OpOk κ X (rEqD X κ true) (op2 oNe) := by
  intro x y v u G H Q E s d1 d2 q
  unfold op2 oNe at q
  split at q
  · rename_i h
    have h := Bool.and_eq_true_iff.mp h
    exact ⟨G, x, y, s, d1, d2, h.1, h.2, by simpa using q _ H G (Ext.refl s) dBl⟩
  · exact False.elim q
theorem px_eq (hu : X.A.units + 64 < cLine) (ha : PXr κ B X a fa) (hb : PXr κ B X b fb) (hm : behindInMarks .Eq b = false) : PX κ B X (.Compare a [.Eq] [b] pos) (m2 (op2 oEq) fa fb) := px_cmp (opR_eq hu) opOk_eq ha hb hm
theorem px_ne (hu : X.A.units + 64 < cLine) (ha : PXr κ B X a fa) (hb : PXr κ B X b fb) (hm : behindInMarks .NotEq b = false) : PX κ B X (.Compare a [.NotEq] [b] pos) (m2 (op2 oNe) fa fb) := px_cmp (opR_ne hu) opOk_ne ha hb hm
theorem pxt_eq (hu : X.A.units + 64 < cLine) (ha : PXr κ B X a fa) (hb : PXr κ B X b fb) (hm : behindInMarks .Eq b = false) : PXt κ B X (.Compare a [.Eq] [b] pos) (m2t oEq fa fb) := pxt_cmp (opR_eq hu) opOk_eq ha hb hm
theorem pxt_ne (hu : X.A.units + 64 < cLine) (ha : PXr κ B X a fa) (hb : PXr κ B X b fb) (hm : behindInMarks .NotEq b = false) : PXt κ B X (.Compare a [.NotEq] [b] pos) (m2t oNe fa fb) := pxt_cmp (opR_ne hu) opOk_ne ha hb hm
@[simp] theorem oEq_int (i j : Int) : oEq (.int i) (.int j) = .ok (i == j) := rfl
@[simp] theorem oNe_int (i j : Int) : oNe (.int i) (.int j) = .ok (!(i == j)) := rfl
@[simp] theorem oEq_bl (i j : Bool) : oEq (.bl i) (.bl j) = .ok (i == j) := rfl
@[simp] theorem oNe_bl (i j : Bool) : oNe (.bl i) (.bl j) = .ok (!(i == j)) := rfl
def oLen : D → R D
  | .lst ds => .ok (.int ds.length)
  | .tup ds => .ok (.int ds.length)
  | .str x => if x.length ≤ 1000000 then .ok (.int x.length) else .stuck
  | _ => .stuck
theorem callR_or {Y : Cx} {f : Value} {r r' : List V → Hp → VK → Prop} (h : CallR Y f r) (h' : CallR Y f r') : CallR Y f (fun xs H Q => r xs H Q ∨ r' xs H Q) := by
  intro pins s σ H xs us Q I rx q
  rcases q with q | q
  · exact h pins s σ H xs us Q I rx q
  · exact h' pins s σ H xs us Q I rx q
theorem px_len (hg : Gl X "len") (hm : X.mg "len" = none) (ha : PXr κ B X a fa) (hs : starEach [a] X.env = (false, eval a X.env) :: starEach [] X.env) (hpl : (backTo pos (starEach [] X.env)).any (·.1) = false) : PX κ B X (.Call (.Name "len" p) [a] [] pos) (m1 oLen fa) := fun pins σ Ex =>
  pe_imp (pe_callB (X := At X pins σ Ex) (callR_or call_len_seq call_len_str) hg hm PySem.boot_len (pa_cons (X := At X pins σ Ex) (ha pins σ Ex) pa_nil hs) (by decide) (by decide) hs hpl) fun τ H Q ⟨G, δ, rp, q⟩ => ⟨G, δ, rp, q.seq fun x v H1 G1 e1 d1 q1 => by
    have lst : ∀ {q : Addr} {vs : List V} {ds : List D}, (SqL X.K H1 q vs ∨ SqT X.K H1 q vs) → Dens ⟨X.K, κ⟩ G1 vs ds → Out (dRel X κ) κ (EX X pins σ Ex) G1 H1 (.ok (.int ds.length)) Q →
      (∃ p ys, [V.ref q] = [.ref p] ∧ (SqL X.K H1 p ys ∨ SqT X.K H1 p ys) ∧ Q (.int ys.length) H1) := fun {q vs ds} h1 h2 h3 => ⟨q, vs, rfl, h1, by
        rw [h2.length]; exact h3 _ H1 G1 (Ext.refl e1.GH) dInt⟩
    cases x with
    | lst ds =>
      rcases d1 with d1 | ⟨l, vs, es, rfl, e, h3, h4⟩
      · unfold Den at d1
        obtain ⟨l, vs, rfl, h1, h2⟩ := d1
        exact .inl (lst (.inl (e1.GH.seq h1)) h2 q1)
      · cases e
        exact .inl (lst (.inl (SqL.of h3)) h4 q1)
    | tup ds =>
      rcases d1 with d1 | ⟨l, vs, es, rfl, e, h3, h4⟩
      · unfold Den at d1
        obtain ⟨l, vs, rfl, h1, h2⟩ := d1
        exact .inl (lst (.inr (same_seqT e1.GH h1)) h2 q1)
      · cases e
    | str x =>
      simp only [oLen] at q1
      split at q1
      · rename_i hx
        have ev := rStr d1
        subst ev
        refine .inr ⟨_, rfl, big1 (by simpa [Str.length] using hx), ?_⟩
        have := q1 _ H1 G1 (Ext.refl e1.GH) dInt
        simpa [Str.length] using this
      · exact False.elim q1
    | _ => exact False.elim q1⟩
inductive Ty where
  | int | bool | str | tuple | list
def Ty.nm : Ty → String
  | .int => "int" | .bool => "bool" | .str => "str" | .tuple => "tuple" | .list => "list"
def isTy : D → Ty → R Bool
  | .non, _ => .ok false
  | .bl _, .int => .ok true
  | .bl _, .bool => .ok true
  | .bl _, _ => .ok false
  | .int _, .int => .ok true
  | .int _, _ => .ok false
  | .str _, .str => .ok true
  | .str _, _ => .ok false
  | .tup _, .tuple => .ok true
  | .tup _, _ => .ok false
  | .lst _, .list => .ok true
  | .lst _, _ => .ok false
  | .ob _ _ _, _ => .stuck
  | .dic _ _, _ => .stuck
theorem kit_all {K : PySem.W.Frag} (T : Ty) : PySem.W.kitOne K (.type "NoneType") (.type T.nm) = some false ∧ PySem.W.kitOne K (.type "bool") (.type T.nm) = some (match T with | .int => true | .bool => true | _ => false) ∧
    PySem.W.kitOne K (.type "int") (.type T.nm) = some (match T with | .int => true | _ => false) ∧ PySem.W.kitOne K (.type "str") (.type T.nm) = some (match T with | .str => true | _ => false) ∧
    PySem.W.kitOne K (.type "tuple") (.type T.nm) = some (match T with | .tuple => true | _ => false) ∧ PySem.W.kitOne K (.type "list") (.type T.nm) = some (match T with | .list => true | _ => false) := by
  cases T <;> exact ⟨rfl, rfl, rfl, rfl, rfl, rfl⟩
theorem boot_ty (T : Ty) : bootBuiltins (Str.ofString T.nm) = some (.type T.nm) := by
  cases T <;> decide +kernel
def rIs (X : Cx) (κ : Nat → Addr) (T : Ty) : List V → Hp → VK → Prop := fun xs H Q => ∃ G v x k, xs = [v, .ty T.nm] ∧ Same G H ∧ rRel X κ G H v x ∧ isTy x T = .ok k ∧ Q (.bl k) H
theorem callR_is (T : Ty) : ∀ Y : Cx, Y.K = X.K → CallR Y (.builtin "isinstance") (rIs X κ T) := by
  intro Y eK pins s σ H xs us Q I rx ⟨G, v, x, k, e, sm, d, hk, q⟩
  subst e
  obtain ⟨k1, k2, k3, k4, k5, k6⟩ := kit_all (K := Y.K) T
  have d := rRel_K eK d
  match us, rx with
  | [u, t], .cons r1 (.cons r2 .nil) =>
    cases r2
    have fin : ∀ (b : Bool), R.ok b = R.ok k → ∀ tk, EP Y pins σ Q (.bool b) { s with toks := tk } := fun b e tk => by
      injection e with e
      subst e
      exact ⟨.bl b, H, I.tok tk, rfl, q⟩
    have lst : ∀ {l : Addr} {vs : List V}, v = .ref l → SqL Y.K H l vs → isTy (.lst []) T = .ok k → wpAny (model Y.prog Y.w) Y.A (call (.builtin "isinstance") [u, .type T.nm]) (EP Y pins σ Q) Y.xe s := fun {l vs} e0 h1 e => by
      subst e0
      cases r1
      obtain ⟨its, _, ⟨o, n, e1, hc, _⟩, _⟩ := I.list h1
      exact PySem.W.kia_one (PySem.W.kitx_list (K := Y.K)) I.kIn ⟨o, e1, hc⟩ k6 (by intro z; cases z) (fin _ (by rw [← e]; cases T <;> rfl))
    rcases d with d | ⟨l, vs, ds, e0, e, h3, h4⟩
    · cases x with
      | non => unfold Den at d; subst d; cases r1; exact PySem.W.kia_one (PySem.W.kitx_none (K := Y.K)) I.kIn trivial k1 (by intro z; cases z) (fin _ (by rw [← hk]; cases T <;> rfl))
      | bl b => unfold Den at d; subst d; cases r1; exact PySem.W.kia_one (PySem.W.kitx_bool (K := Y.K)) I.kIn trivial k2 (by intro z; cases z) (fin _ (by rw [← hk]; cases T <;> rfl))
      | int i => unfold Den at d; subst d; obtain ⟨tk, rfl⟩ := r1; exact PySem.W.kia_one (PySem.W.kitx_int (K := Y.K)) I.kIn trivial k3 (by intro z; cases z) (fin _ (by rw [← hk]; cases T <;> rfl))
      | str i => unfold Den at d; subst d; obtain ⟨tk, rfl⟩ := r1; exact PySem.W.kia_one (PySem.W.kitx_str (K := Y.K)) I.kIn trivial k4 (by intro z; cases z) (fin _ (by rw [← hk]; cases T <;> rfl))
      | tup ds =>
        unfold Den at d
        obtain ⟨l, vs, rfl, h1, _⟩ := d
        cases r1
        obtain ⟨its, _, ⟨o, e1, hc, _⟩, _⟩ := I.tuple (same_seqT sm h1)
        exact PySem.W.kia_one (PySem.W.kitx_tuple (K := Y.K)) I.kIn ⟨o, e1, hc⟩ k5 (by intro z; cases z) (fin _ (by rw [← hk]; cases T <;> rfl))
      | lst ds =>
        unfold Den at d
        obtain ⟨l, vs, e0, h1, _⟩ := d
        exact lst e0 (sm.seq h1) (by rw [← hk]; cases T <;> rfl)
      | ob _ _ _ => cases hk
      | dic _ _ => cases hk
    · subst e
      exact lst e0 (SqL.of h3) (by rw [← hk]; cases T <;> rfl)
theorem px_isinst (T : Ty) {y : Str} (hy : y = Str.ofString T.nm) (hg : Gl X "isinstance") (hm : X.mg "isinstance" = none) (hgT : Gl X y) (hmT : X.mg y = none) (hn : y ≠ "__name__") (hdb : (y == ("__debug__" : Str)) = false) (ha : PXr κ B X a fa)
    (hs : starEach [a, .Name y p'] X.env = (false, eval a X.env) :: starEach [.Name y p'] X.env) (hs2 : starEach [.Name y p'] X.env = (false, eval (.Name y p') X.env) :: starEach [] X.env) (hpl : (backTo pos (starEach [.Name y p'] X.env)).any (·.1) = false) :
    PX κ B X (.Call (.Name "isinstance" p) [a, .Name y p'] [] pos) (m1 (fun x => blR (isTy x T)) fa) := fun pins σ Ex =>
  pe_imp (pe_callB (X := At X pins σ Ex) (callR_is (κ := κ) (X := X) T (At X pins σ Ex) rfl) hg hm PyProof.Rows.boot_isinstance (pa_cons (X := At X pins σ Ex) (ha pins σ Ex) (pa_cons (X := At X pins σ Ex) (pe_bltn (X := At X pins σ Ex) (v := .ty T.nm) hgT hmT (by rw [hy]; exact boot_ty T) rfl hn hdb) pa_nil hs2) hs) (by decide) (by decide) hs hpl) fun τ H Q ⟨G, δ, rp, q⟩ => ⟨G, δ, rp, q.seq fun x v H1 G1 e1 d1 q1 => by
    cases e : isTy x T with
    | ok k => rw [e] at q1; exact ⟨G1, v, x, k, rfl, e1.GH, d1, e, q1 _ H1 G1 (Ext.refl e1.GH) dBl⟩
    | exc c => cases x <;> cases T <;> cases e
    | stuck => rw [e] at q1; exact False.elim q1⟩
end
end L3
set_option Elab.async false
set_option linter.all false
set_option maxRecDepth 100000
namespace L2
theorem Fun.at {K : PySem.W.Frag} {x qual : PySem.Str} {st : PySem.Stmt} {f : PySem.Addr} {fd : PySem.FuncData} (F : Fun K x qual st f fd) : ∃ oc od osl, K.lookup f = some ⟨oc, od, .func fd, osl⟩ := by
  obtain ⟨oc, od, _, _, _, _, _, _, osl, _, l, _⟩ := F.ex
  exact ⟨oc, od, osl, l⟩
end L2
namespace L3
open PySem PySem.Spec PyProof.Rows L2
def MC (P : Program) (w : World) (K : PySem.W.Frag) (mg : Str → Option Value) (base : Heap) (κ : Nat → Addr) (x : Str) (ps : List Str) (m : List D → R D) (k : Nat) : Prop :=
  ∃ f fd, FnOk P w K mg base (CXR P w) k f fd ps (spM K κ ps.length m) ∧ mg x = some (.ref f) ∧ PySem.W.keepIn K (.ref f) = true ∧ Binds K fd ps [] ∧ ∃ oc od osl, K.lookup f = some ⟨oc, od, .func fd, osl⟩
theorem MC.cal {κ : Nat → Addr} {X : Cx} {x : Str} {ps : List Str} {n : Nat} {m : List D → R D} {k j : Nat} (h : MC X.prog X.w X.K X.mg X.base κ x ps m k) (hr : Room j X.A) (hj : k ≤ j) (hn : ps.length = n := by rfl) : Cal κ X x n m := by
  obtain ⟨f, fd, F, h1, h2, h3, _⟩ := h
  subst hn
  exact ⟨f, fd, ps, k, F, hr.mono hj, h1, h2, h3⟩
theorem mlen_nil : ∀ (δ : Ev) (ds : List D), mNil δ = .ok ds → ds.length = 0 := fun δ ds h => by
  unfold mNil at h; injection h with h; subst h; rfl
theorem mlen_cons {f : Ev → R D} {fs : Ev → R (List D)} {n : Nat} (h : ∀ δ ds, fs δ = .ok ds → ds.length = n) : ∀ (δ : Ev) (ds : List D), mCons f fs δ = .ok ds → ds.length = n + 1 := fun δ ds e => by
  unfold mCons at e
  cases q : f δ with
  | ok x =>
    rw [q] at e
    cases q2 : fs δ with
    | ok xs =>
      rw [q2] at e
      injection e with e
      subst e
      simp [h δ xs q2]
    | exc c => rw [q2] at e; cases e
    | stuck => rw [q2] at e; cases e
  | exc c => rw [q] at e; cases e
  | stuck => rw [q] at e; cases e
theorem tup_const {K : PySem.W.Frag} {κ : Nat → Addr} {mg : Str → Option Value} {x : Str} {a : Addr} {dd : Option Addr} {its : Array Value} {n : Nat} {sl : Array (Option Value)} {vs : List V} {ds : List D} (h1 : mg x = some (.ref a)) (h2 : K.lookup a = some ⟨.type "tuple", dd, .seq its n, sl⟩) (h3 : Vals vs its.toList) (h4 : vs.length ≤ 1000) (h5 : ∀ G, Dens ⟨K, κ⟩ G vs ds) :
    ∃ u v, mg x = some u ∧ RelV v u ∧ ∀ G, Den ⟨K, κ⟩ G v (.tup ds) := by
  refine ⟨_, .ref a, h1, rfl, fun G => ?_⟩
  unfold Den
  refine ⟨a, vs, rfl, .inr ⟨_, its, n, h2, rfl, rfl, ?_, h3⟩, h5 G⟩
  have := h3.length
  simp only [Array.length_toList] at this
  rw [sizeLine_eq]
  omega
theorem law_fn {P : Program} {w : World} {K : PySem.W.Frag} {mg : Str → Option Value} {base : Heap} {κ : Nat → Addr} {y : Str} {m : List D → R D} {k : Nat} {f : Addr} {fd : FuncData} {oc : Value} {od : Option Addr} {osl : Array (Option Value)}
    (hm : mg "law" = some (.ref f)) (l : K.lookup f = some ⟨oc, od, .func fd, osl⟩) (o : MC P w K mg base κ "law" [y] m k) (main : ∀ ns : List Int, ns.length ≤ 63 → m [.lst (ns.map D.int)] = .ok (.bl true)) :
    FnOk P w K mg base (CXR P w) k f fd [y] (fun vs H Q _ => ∃ (a : Addr) (ns : List Int), vs = [.ref a] ∧ SqL K H a (ns.map V.int) ∧ ns.length ≤ 63 ∧ ∀ H', Q (.bl true) H') := by
  obtain ⟨f', fd', F, h1, _, _, oc', od', osl', l'⟩ := o
  rw [hm] at h1; cases h1
  rw [l] at l'; cases l'
  refine F.imp fun vs H Q E ⟨a, ns, e, hS, hl, hq⟩ => ?_
  subst e
  refine ⟨rfl, H, [.lst (ns.map D.int)], Same.refl _, dens_cons (by unfold Den; exact ⟨a, _, rfl, hS, dens_ints ns⟩) dens_nil, ?_⟩
  rw [main ns hl]
  intro v H' G' _ d
  have : v = .bl true := by simpa [Den] using d
  subst this
  exact hq H'
end L3
namespace L3
open PySem PySem.Spec PyProof.Rows L2
def noStar : Expr → Bool
  | .Starred _ _ => false
  | _ => true
theorem star_cons {e : Expr} {es : List Expr} {env : Env} (h : noStar e = true) : starEach (e :: es) env = (false, eval e env) :: starEach es env := by
  cases e <;> first | rfl | exact Bool.noConfusion h
theorem back_any {pos : Pos} {env : Env} : ∀ {es : List Expr}, es.all noStar = true → (backTo pos (starEach es env)).any (·.1) = false
  | [], _ => rfl
  | e :: es, h => by
    simp only [List.all_cons, Bool.and_eq_true] at h
    rw [star_cons h.1]
    show (false || (backTo pos (starEach es env)).any (·.1)) = false
    rw [back_any h.2]; rfl
theorem back_all {pos : Pos} {env : Env} {e : Expr} (h : noStar e = true) : ((backTo pos (starEach [e] env)).all (fun x => !x.1) && (backToKw pos (keywordEach [] env)).all (fun x => x.1.isSome)
      && decide (([e] : List Expr).length + ([] : List Keyword).length + (if ([] : List Keyword).isEmpty then 0 else 1) < 30)) = true := by
  rw [star_cons h]; rfl
def noComp : Expr → Bool
  | .ListComp _ _ _ _ => false
  | .SetComp _ _ _ _ => false
  | .DictComp _ _ _ _ _ => false
  | _ => true
theorem swaps_no {e : Expr} {t : Option Expr} {n : Nat} {env : Env} (h : noComp e = true) : swapsWith e t n env = pure false := by
  cases e <;> first | rfl | exact Bool.noConfusion h
theorem swaps_sole {e t : Expr} {n : Nat} {env : Env} (h : noComp e = true) : swapsWithSole [t] e n env = pure false := by
  show swapsWith e (some t) n env = pure false
  exact swaps_no h
def noTup : Expr → Bool
  | .Tuple _ _ _ => false
  | _ => true
theorem stores_no {t e : Expr} {env : Env} (h : noTup e = true) : swappedStores [t] e env = pure none := by
  cases t <;> cases e <;> first | rfl | exact Bool.noConfusion h
theorem each_one {t : Expr} {env : Env} (h : noStar t = true) : (assignEach [t] env).map (·.2) = [assign t env] := by
  cases t <;> first | rfl | exact Bool.noConfusion h
theorem each_cons {t : Expr} {ts : List Expr} {env : Env} (h : noStar t = true) : (assignEach (t :: ts) env).map (·.2) = assign t env :: (assignEach ts env).map (·.2) := by
  cases t <;> first | rfl | exact Bool.noConfusion h
theorem each_len {env : Env} : ∀ {ts : List Expr}, ts.all noStar = true → (assignEach ts env).length = ts.length ∧ (assignEach ts env).findIdx? (·.1) = none
  | [], _ => ⟨rfl, rfl⟩
  | t :: ts, h => by
    simp only [List.all_cons, Bool.and_eq_true] at h
    obtain ⟨h1, h2⟩ := each_len (env := env) h.2
    have e : assignEach (t :: ts) env = (false, assign t env) :: assignEach ts env := by
      have := h.1
      cases t <;> first | rfl | exact Bool.noConfusion this
    rw [e]
    refine ⟨by simp [h1], ?_⟩
    rw [List.findIdx?_cons]
    simp [h2]
def plT : Expr → Bool
  | .Name _ _ | .Call _ _ _ _ | .Subscript _ _ _ | .Attribute _ _ _ | .BinOp _ _ _ _ | .Tuple _ _ _ | .List _ _ => true
  | _ => false
theorem true_pl {a : Expr} {env : Env} (h : plT a = true) : ∀ whole, isTrue a env whole = (do let v ← whole; standAt a.pos; holding [v] (truthy v)) := by
  intro w
  cases a <;> first | rfl | exact Bool.noConfusion h
def plI : Expr → Bool
  | .Name _ _ | .Call _ _ _ _ | .Subscript _ _ _ | .Attribute _ _ _ | .BinOp _ _ _ _ | .List _ _ | .Constant _ _ _ | .IfExp _ _ _ _ | .UnaryOp _ _ _ | .Compare _ _ _ _ | .BoolOp _ _ _ => true
  | _ => false
theorem fold_no {a : Expr} {env : Env} (h : plI a = true) : ∀ x, foldedSetIterable a env x = pure x := by
  intro x
  cases a <;> first | rfl | exact Bool.noConfusion h
theorem ix_pl {b : Expr} (h : plI b = true) : PlainIx b := by
  intro o i
  cases b <;> first | rfl | exact Bool.noConfusion h
def plM : Expr → Bool
  | .Set _ _ _ => false
  | _ => true
theorem mark_no {o : CmpOp} {b : Expr} (h : plM b = true) : behindInMarks o b = false := by
  cases b <;> first | rfl | exact Bool.noConfusion h
section
variable {κ : Nat → Addr} {B : Gd} {X : Cx} {a b e k tg : Expr} {es tgs : List Expr} {f fa fb fk : Ev → R D} {fs fl : Ev → R (List D)} {pos pos' pos'' apos p p' : Pos} {x : Str} {m : List D → R D} {n i : Nat}
theorem ys_cons (ha : PX κ B X a fa) (hr : PXs κ B X es fs) (h : noStar a = true) : PXs κ B X (a :: es) (mCons fa fs) := pxs_cons ha hr (star_cons h)
theorem y_call (c : Cxo X) (C : Cal κ X x n m) (hn : (a :: es).length = n) (hg : Gl X x) (ha : PXs κ B X (a :: es) fs) (hdb : (x == ("__debug__" : Str)) = false) (h : (a :: es).all noStar = true) (hlen : ∀ δ ds, fs δ = .ok ds → ds.length = n) :
    PX κ B X (.Call (.Name x p) (a :: es) [] pos) (mCall m fs) := by
  have h' := h
  simp only [List.all_cons, Bool.and_eq_true] at h'
  exact px_call c C hn hg ha hdb (star_cons h'.1) (back_any h'.2) hlen
theorem y_set (cx : Cxo X) (hN : X.N.Nodup) (hi : X.N[i]? = some x) (hx : Loc X.env.scope x) (hf : X.fn x = true ∨ X.env.scope.names.lookup x = some .local) (h : PX κ B X e f) (hs : noComp e = true) : PZ κ B X (.Assign [.Name x pos'] e pos) (zSet i f) := pz_set cx hN hi hx hf h (swaps_no hs)
theorem y_own (cx : Cxo X) (hN : X.N.Nodup) (hi : X.N[i]? = some x) (hx : Loc X.env.scope x) (hf : X.fn x = true ∨ X.env.scope.names.lookup x = some .local) (h : PXf κ B X e fl) (hs : noComp e = true) : PZ κ B X (.Assign [.Name x pos'] e pos) (zOwn i fl) := pz_own cx hN hi hx hf h (swaps_no hs)
theorem y_expr (cx : Cxo X) (h : PX κ B X e f) (hs : noComp e = true) : PZ κ B X (.Expr e pos) (zDrop f) := pz_expr cx h (swaps_no hs)
theorem y_append (cx : Cxo X) (hN : X.N[i]? = some x) (hv : Vis X.env.scope x) (hd : (x == ("__debug__" : Str)) = false) (hcd : (x == ("__classdict__" : Str)) = false) (h : PX κ B X e f) (hs : noStar e = true) (hline : (apos.endLine == pos'.line) = true) :
    PZ κ B X (.Expr (.Call (.Attribute (.Name x pos) "append" apos) [e] [] pos') pos'') (zApp i f) := pz_append cx hN hv hd hcd h (swaps_no rfl) rfl (back_all hs) hline (star_cons hs) rfl
theorem y_asg (cx : Cxo X) {bd : D → Ev → Option Ev} (h : PX κ B X e f) (hg : PGz κ B X tg bd) (hs : noComp e = true) (ht : noTup e = true) (h1 : noStar tg = true) : PZ κ B X (.Assign [tg] e pos) (zAsg bd f) := pz_asg cx h hg (swaps_sole hs) (stores_no ht) (each_one h1)
theorem y_tup {kk : Nat} {bs : List D → Ev → Option Ev} (hc : X.calm = true) (h : PGzs κ B X tgs bs) (hn : tgs.length = n) (hst : tgs.all noStar = true) : PGz κ B X (.Tuple tgs kk pos) (bTup n bs) := pgz_tup hc h ((each_len hst).1.trans hn) (each_len hst).2
theorem y_cons {bd : D → Ev → Option Ev} {bs : List D → Ev → Option Ev} (h1 : PGz κ B X tg bd) (h2 : PGzs κ B X tgs bs) (h : noStar tg = true) : PGzs κ B X (tg :: tgs) (bsCons bd bs) := pgzs_cons h1 h2 (each_cons h)
theorem yt_val (ha : PXr κ B X a fa) (h : plT a = true) : PXt κ B X a (mT fa) := pxt_val ha (true_pl h)
theorem y_ix (ha : PXr κ B X a fa) (hb : PXr κ B X b fb) (h : plI b = true) : PX κ B X (.Subscript a b pos) (m2 oIx fa fb) := px_ix ha hb (ix_pl h)
theorem y_len (hg : Gl X "len") (hm : X.mg "len" = none) (ha : PXr κ B X a fa) (h : noStar a = true) : PX κ B X (.Call (.Name "len" p) [a] [] pos) (m1 oLen fa) := px_len hg hm ha (star_cons h) rfl
theorem y_isinst (T : Ty) {y : Str} (hy : y = Str.ofString T.nm) (hg : Gl X "isinstance") (hm : X.mg "isinstance" = none) (hgT : Gl X y) (hmT : X.mg y = none) (hn : y ≠ "__name__") (hdb : (y == ("__debug__" : Str)) = false) (ha : PXr κ B X a fa) (h : noStar a = true) :
    PX κ B X (.Call (.Name "isinstance" p) [a, .Name y p'] [] pos) (m1 (fun x => blR (isTy x T)) fa) := px_isinst T hy hg hm hgT hmT hn hdb ha (star_cons h) rfl rfl
theorem yi_range1 (hg : Gl X "range") (hm : X.mg "range" = none) (ha : PXs κ B X [a] fs) (h : noStar a = true) : PIz κ B X tg (.Call (.Name "range" p) [a] [] pos) (fun δ => (fs δ).bind iR1) := piz_range1 hg hm ha (star_cons h)
theorem yi_range2 (hg : Gl X "range") (hm : X.mg "range" = none) (ha : PXs κ B X [a, b] fs) (h : noStar a = true) (h' : noStar b = true) : PIz κ B X tg (.Call (.Name "range" p) [a, b] [] pos) (fun δ => (fs δ).bind iR2) := piz_range2 hg hm ha (by rw [star_cons h, star_cons h']; rfl) (star_cons h')
theorem y_for (cx : Cxo X) (hc : X.calm = true) {iter : Expr} {body : List Stmt} {fit : Ev → R (List D)} {bd : D → Ev → Option Ev} {F : Ev → SR} (hi : PIz κ B X tg iter fit) (hg : ∀ B, PGz κ B X tg bd) (hb : ∀ B, PZs κ B X body F) (h : plI iter = true) : PZ κ B X (.For tg iter body [] pos) (zFor fit bd F) := pz_for cx hc hi hg hb (fold_no h)
def constsOf : List Expr → Option (List D)
  | [] => some []
  | .Constant (.int i) _ _ :: es => (constsOf es).map (D.int i :: ·)
  | .Constant (.bool i) _ _ :: es => (constsOf es).map (D.bl i :: ·)
  | .Constant (.str x) _ _ :: es => (constsOf es).map (D.str x.cps.toList :: ·)
  | _ => none
theorem ys_consts : ∀ {es : List Expr} {ds : List D}, constsOf es = some ds → PXs κ B X es (fun _ => .ok ds)
  | [], ds, h => by unfold constsOf at h; cases h; exact pxs_nil
  | e :: es, ds, h => by
    have step : ∀ {d : D} {e : Expr}, PX κ B X e (mC d) → noStar e = true → (constsOf es).map (d :: ·) = some ds → PXs κ B X (e :: es) (fun _ => .ok ds) := fun {d e} h1 h2 h3 => by
      cases q : constsOf es with
      | none => rw [q] at h3; cases h3
      | some r =>
        rw [q] at h3
        cases h3
        exact ys_cons h1 (ys_consts q) h2
    unfold constsOf at h
    split at h
    · rename_i e1; cases e1
    · rename_i e1; cases e1; exact step px_int rfl h
    · rename_i e1; cases e1; exact step px_bl rfl h
    · rename_i e1; cases e1; exact step (px_str rfl) rfl h
    · cases h
end
end L3
set_option Elab.async false
set_option linter.all false
set_option maxRecDepth 100000
namespace L3
open PySem PySem.Spec PyProof.Rows L2
abbrev bmV : List Value := [.type "ValueError", .type "Exception", .type "BaseException", .type "object"]
def ExcM (κ : Nat → Addr) (K : PySem.W.Frag) (mg : Str → Option Value) (x : Str) (c : Nat) : Prop := mg x = some (.ref (κ c)) ∧ PySem.W.excIn K (κ c) bmV "ValueError.__new__" = true
def ExcAt (κ : Nat → Addr) (X : Cx) (x : Str) (c : Nat) : Prop := ExcM κ X.K X.mg x c
theorem ExcM.at {κ : Nat → Addr} {K : PySem.W.Frag} {mg : Str → Option Value} {X : Cx} {x : Str} {c : Nat} (h : ExcM κ K mg x c) (e1 : X.K = K) (e2 : X.mg = mg) : ExcAt κ X x c := by
  unfold ExcAt; rw [e1, e2]; exact h
theorem exc_obj {K : PySem.W.Frag} {h : Heap} {C : Addr} {bmB : List Value} {newId : String} (X : K.In h) (q : PySem.W.excIn K C bmB newId = true) :
    ∃ bm N nm qn bs hdct sn sub ab col dd k0 k1 k2 k3 k5 mN, h.get? C = some (excClassObj nm qn C N bs bm hdct sn sub ab col dd k0 k1 k2 k3 k5 newId) ∧ h.Ns N mN ∧ mN "__init__" = none ∧ OwnTail h bmB bm := by
  unfold PySem.W.excIn at q
  split at q
  case h_2 => cases q
  rename_i dct cld slt look
  split at q
  case h_2 => cases q
  rename_i self bm z0 z1 z2 z3 nw z5 hmro hslots
  simp only [Bool.and_eq_true, beq_iff_eq, Bool.not_eq_true'] at q
  obtain ⟨⟨⟨⟨⟨es, en⟩, hdl⟩, htl⟩, hns⟩, hin⟩ := q
  subst es
  subst en
  obtain ⟨f1, f2, f3, f4, f5, f6, f7, f8, f9, f10, f11⟩ := cld
  dsimp only at hmro hdl hns hin
  subst hmro
  subst hdl
  have hsl : slt = #[z0, z1, z2, z3, some (.builtin nw), z5] := by
    cases slt with
    | mk l => simp only at hslots; rw [hslots]
  subst hsl
  exact ⟨bm, f4, f1, f5, f2, f6, f7, f8, f9, f10, dct, z0, z1, z2, z3, z5, _, X _ _ look, .of_isNs (PySem.W.isNs_of_in X hns), PySem.W.nsMap_none_of_in X hns hin, PySem.W.tail_of_in X htl⟩
section
variable {κ : Nat → Addr} {B : Gd} {X : Cx} {pos : Pos} {x : Str}
theorem pz_raise {cpos np p : Pos} {c : Nat} (cx : Cxo X) (hc : X.calm = true) (C : ExcAt κ X x c) (hg : Gl X x) {y : Str} {j : Nat} (hd : (x == ("__debug__" : Str)) = false) : PZ κ B X (.Raise (some (.Call (.Name x np) [.Constant (.str y) j p] [] cpos)) none pos) (fun δ => .exc c δ) := fun Ex pins s σ H G δ Dn hp I rp h => by
  obtain ⟨hm, hin⟩ := C
  obtain ⟨bm, N, nm, qn, bs, hdct, sn, sub, ab, col, dd, k0, k1, k2, k3, k5, mN, hC, hN, hni, T⟩ := exc_obj I.kIn hin
  refine wpAny_Raise_call_subT (C := κ c) (nm := nm) (q := qn) (N := N) (bs := bs) (bm := bm) (hdct := hdct) (sn := sn) (sub := sub) (ab := ab) (col := col) (dd := dd) (k0 := k0) (k1 := k1) (k2 := k2) (k3 := k3) (k5 := k5)
    PySem.F.excBase_ValueError (mN := mN) (T.hasType PySem.F.excBase_ValueError.hasBase) (I.ok.hd hc) rfl hni (ld_glob (X := X.wish Ex) I hg hm ⟨rfl, ?_⟩ hd)
  rw [star_cons (e := .Constant (.str y) j p) (es := []) rfl]
  refine Calls.evalArgs_plain ?_
  show wpAny _ _ (spliced ((false, eval (.Constant (.str y) j p) X.env) :: backTo cpos (starEach [] X.env))) _ _ s
  refine Calls.spliced_cons (Calls.Constant_str (pos := p) (k := j) ?_)
  refine Calls.spliced_nil ?_
  have I1 : Inv (X.wish Ex) pins σ H { s with toks := s.toks + 1 } := I.tok _
  refine ⟨rfl, by rw [sizeLine_eq]; show 1 ≤ 16777216; decide, hC, hN, T, fun h' e hmade => ?_⟩
  obtain ⟨t, he, htn, ht⟩ := hmade.there
  have ne : H e = none := by
    cases q : H e with
    | none => rfl
    | some o =>
      obtain ⟨u, hu⟩ := objOk_some (I.hok e o q)
      have := hmade.new
      rw [hu] at this; cases this
  have fr : FreshX (X.wish Ex) pins H e := freshX_of I1 cx.ex hmade.new ne
  refine h e { s with heap := h', toks := s.toks + 1 } σ H G (I.kept (t' := s.toks + 1) fun b u z => hmade.keeps b u z) ⟨⟨_, _, _, he, rfl, rfl, rfl, .inl rfl⟩, ⟨fr.nl, fr.nc, fr.np, fr.n0, fr.nh⟩⟩ rp
end
abbrev Mk (X : Cx) (ea : Addr) : Cx := { X with A := X.A.mark (some (.ref ea)), calm := false }
section
variable {κ : Nat → Addr} {B : Gd} {X : Cx} {pos : Pos} {Ex : Value → Shared → Prop} {pins : List (Addr × Obj)} {s : Shared} {σ : St} {H G : Hp} {δ : Ev} {Dn : Ends} {ea : Addr} {C : Value}
end
end L3
set_option Elab.async false
set_option linter.all false
set_option maxRecDepth 100000
namespace L3
open PySem PySem.Spec PyProof.Rows L2
section
variable {κ : Nat → Addr} {B : Gd} {X : Cx} {a b c : Expr} {fa fb : Ev → R D} {fs : Ev → R (List D)} {es : List Expr} {pos p : Pos}
def mCB (o : List D → R D) (fs : Ev → R (List D)) : Ev → R D := fun δ => (fs δ).bind o
def oMin : List D → R D
  | [.int i, .int j] => .ok (.int (if j < i then j else i))
  | _ => .stuck
theorem boot_min' : bootBuiltins "min" = some (.builtin "min") := by decide +kernel
theorem y_min (hc : X.calm = true) (hg : Gl X "min") (hm : X.mg "min" = none) (ha : PXs κ B X [a, b] fs) (h : noStar a = true) (h' : noStar b = true) : PX κ B X (.Call (.Name "min" p) [a, b] [] pos) (mCB oMin fs) := fun pins σ Ex =>
  pe_imp (pe_callB (X := At X pins σ Ex) (call_min2 hc) hg hm boot_min' (ha pins σ Ex) (by decide) (by decide) (star_cons h) (back_any (by simp [h']))) fun τ H Q ⟨G, δ, rp, q⟩ => ⟨G, δ, rp, q.seq fun x v H1 G1 e1 d1 q1 => by
    unfold oMin at q1
    split at q1
    · rename_i i j
      exact ⟨i, j, dens_int2 d1, q1 _ H1 G1 (Ext.refl e1.GH) dInt⟩
    · exact False.elim q1⟩
def oInt : List D → R D
  | [.int i] => .ok (.int i)
  | [.bl k] => .ok (.int (if k then 1 else 0))
  | _ => .stuck
theorem y_toint (hg : Gl X "int") (hm : X.mg "int" = none) (ha : PXs κ B X [a] fs) (h : noStar a = true) : PX κ B X (.Call (.Name "int" p) [a] [] pos) (mCB oInt fs) := fun pins σ Ex =>
  pe_imp (pe_callTy (X := At X pins σ Ex) call_int1 hg hm (boot_ty .int) (ha pins σ Ex) (by decide) (by decide) (star_cons h) (back_any rfl)) fun τ H Q ⟨G, δ, rp, q⟩ => ⟨G, δ, rp, q.seq fun x v H1 G1 e1 d1 q1 => by
    unfold oInt at q1
    split at q1
    · rename_i i
      exact .inl ⟨i, dens_int1 d1, q1 _ H1 G1 (Ext.refl e1.GH) dInt⟩
    · rename_i k
      refine .inr ⟨k, ?_, q1 _ H1 G1 (Ext.refl e1.GH) dInt⟩
      match v, d1 with
      | [w], d1 => unfold dsRel Dens at d1; have := d1.1; unfold Den at this; rw [this]
      | [], d1 => unfold dsRel Dens at d1; exact d1.elim
      | _ :: _ :: _, d1 => unfold dsRel Dens at d1; have := d1.2; unfold Dens at this; exact this.elim
    · exact False.elim q1⟩
def PXo (κ : Nat → Addr) (B : Gd) (X : Cx) (e : Option Expr) (f : Ev → R (Option Int)) : Prop := ∀ pins σ Ex, PO (At X pins σ Ex) e (tO (fun _ _ (a : Option Int) b => a = b) X κ B (EX X pins σ Ex) f)
theorem po_imp {Y : Cx} {e : Option Expr} {t t' : TO} (h : PO Y e t) (k : ∀ σ H Q, t' σ H Q → t σ H Q) : PO Y e t' := fun pins s σ H Q I q => h pins s σ H Q I (k σ H Q q)
def mNoP : Ev → R (Option Int) := fun _ => .ok none
def mP (f : Ev → R D) : Ev → R (Option Int) := fun δ => (f δ).bind fun d => match d with
  | .int i => .ok (some i)
  | _ => .stuck
theorem pxo_none : PXo κ B X none mNoP := fun pins σ Ex => po_imp po_none fun τ H Q ⟨G, δ, rp, q⟩ => q none H G (Ext.refl rp.GH) rfl
theorem pxo_some (h : PX κ B X a fa) : PXo κ B X (some a) (mP fa) := fun pins σ Ex => po_imp (po_some (h pins σ Ex)) fun τ H Q ⟨G, δ, rp, q⟩ => ⟨G, δ, rp, q.seq fun x v H1 G1 e1 d1 q1 => by
  cases x with
  | int i =>
    unfold dRel Den at d1
    exact ⟨i, d1, q1 _ H1 G1 (Ext.refl e1.GH) rfl⟩
  | _ => exact False.elim q1⟩
def cutD {α : Type} (xs : List α) (lo hi : Option Int) : List α := (xs.drop (HT.sIx xs.length 0 lo)).take (HT.sIx xs.length xs.length hi - HT.sIx xs.length 0 lo)
theorem dens_cut {Z : Zx} {G : Hp} {vs : List V} {ds : List D} (h : Dens Z G vs ds) (lo hi : Option Int) : Dens Z G (cutV vs lo hi) (cutD ds lo hi) := by
  unfold cutV cutD
  rw [h.length]
  exact (h.drop _).take _
end
end L3
set_option Elab.async false
set_option linter.all false
set_option maxRecDepth 100000
namespace L3
open PySem PySem.Spec PyProof.Rows L2
theorem clip_sIx (n d : Nat) (v : Option Int) (hd : d ≤ n) : (match v with | none => ((d : Nat) : Int) | some i => (if (1 : Int) > 0 then max 0 (min (if i < 0 then i + (n : Int) else i) (n : Int)) else max (-1) (min (if i < 0 then i + (n : Int) else i) ((n : Int) - 1)))) = ((HT.sIx n d v : Nat) : Int) := by
  cases v with
  | none => rfl
  | some i =>
    simp only [show (1 : Int) > 0 by decide, if_true, HT.sIx]
    by_cases h : i < 0
    · simp only [h, if_true]; omega
    · simp only [h, if_false]; omega
theorem idx_sIx (lo hi : Option Int) (n : Nat) : Builtin.Str.strSliceIndices lo hi 1 n = sliceRange ((HT.sIx n 0 lo : Nat) : Int) ((HT.sIx n n hi : Nat) : Int) 1 := by
  rw [← clip_sIx n 0 lo (Nat.zero_le _), ← clip_sIx n n hi (Nat.le_refl _)]
  cases lo <;> cases hi <;> rfl
theorem sIx_le (n d : Nat) (v : Option Int) (hd : d ≤ n) (hv : ∀ i, v = some i → i < 0 → i + n ≤ n) : HT.sIx n d v ≤ n := by
  cases v with
  | none => exact hd
  | some i =>
    show (if i < 0 then (i + (n : Int)).toNat else min i.toNat n) ≤ n
    split <;> omega
theorem txt_cut (l : List Nat) (lo hi : Option Int) : Txt.slice ⟨l.toArray⟩ lo hi = ⟨(cutD l lo hi).toArray⟩ := by
  have hlen : (⟨l.toArray⟩ : Str).length = l.length := by simp [Str.length]
  unfold Txt.slice cutD
  rw [hlen, idx_sIx, sliceRange_one]
  have hb : HT.sIx l.length l.length hi ≤ l.length := sIx_le _ _ _ (Nat.le_refl _) fun i _ h => by omega
  generalize HT.sIx l.length 0 lo = a
  generalize HT.sIx l.length l.length hi = b at hb
  by_cases c : b - a = l.length
  · rw [if_pos (by simp [c])]
    have e : l.length = 0 ∨ (a = 0 ∧ b = l.length) := by omega
    rcases e with e | ⟨rfl, rfl⟩
    · have : l = [] := List.length_eq_zero_iff.mp e
      subst this
      simp
    · simp
  · rw [if_neg (by simp [c])]
    rw [pick_run]
def rSlS : V → Option Int → Option Int → Hp → VK → Prop := fun x lo hi H Q => ∃ l : List Nat, x = stV l ∧ l.length ≤ 1000000 ∧ Q (stV (cutD l lo hi)) H
def partO : Value → Option (Int × Tok)
  | .int i t => some (i, t)
  | _ => none
theorem cutD_len {α : Type} (l : List α) (lo hi : Option Int) : (cutD l lo hi).length ≤ l.length := by
  unfold cutD
  rw [List.length_take, List.length_drop]
  omega
theorem sl_str {X : Cx} : SlR X rSlS := by
  intro pins s σ H x v vl vu lo hi sl Q I rx hs pl pu ⟨l, e, hz, q⟩
  subst e
  obtain ⟨t, rfl⟩ := rx
  refine ⟨"str", _, slot_str_getitem.lookup, typeIs_str _ _ _, ?_⟩
  obtain ⟨o, ho, hc, hd⟩ := hs
  have h1 : vl = partValue (partO vl) ∧ (partO vl).map (·.1) = lo := by cases pl <;> exact ⟨rfl, rfl⟩
  have h2 : vu = partValue (partO vu) ∧ (partO vu).map (·.1) = hi := by cases pu <;> exact ⟨rfl, rfl⟩
  refine wpAny_getItem_str_slice (l := partO vl) (u := partO vu) (st := none) ⟨o, ho, hc, by rw [hd, ← h1.1, ← h2.1]; rfl⟩ rfl ?_
  have e2 : Txt.slice ⟨l.toArray⟩ lo hi = ⟨(cutD l lo hi).toArray⟩ := txt_cut l lo hi
  unfold sliceMade slicePicked
  rw [h1.2, h2.2]
  refine post_val_or_str ?_
  have e3 : ∀ P : Str → Prop, P (Txt.slice ⟨l.toArray⟩ lo hi) → P (if ((Option.map (fun x : Int × Tok => x.fst) none).getD 1 == 1 && (Builtin.Str.strSliceIndices lo hi ((Option.map (fun x : Int × Tok => x.fst) none).getD 1) (⟨l.toArray⟩ : Str).length).length == (⟨l.toArray⟩ : Str).length) = true then ⟨l.toArray⟩ else ⟨((Builtin.Str.strSliceIndices lo hi ((Option.map (fun x : Int × Tok => x.fst) none).getD 1) (⟨l.toArray⟩ : Str).length).filterMap ((⟨l.toArray⟩ : Str).cps[·]?)).toArray⟩) := fun P h => h
  refine e3 (fun z => z.length ≤ sizeLine ∧ ∀ t' k, (EP X pins σ Q) (.str z t') { s with toks := k }) ?_
  rw [e2]
  refine ⟨?_, fun t' k => ⟨stV (cutD l lo hi), H, I.tok _, ⟨_, rfl⟩, q⟩⟩
  have := cutD_len l lo hi
  simp only [Str.length, List.size_toArray]
  have : (1000000 : Nat) ≤ sizeLine := by decide
  omega
section
variable {κ : Nat → Addr} {B : Gd} {X : Cx} {a b : Expr} {fa fb : Ev → R D} {pos : Pos}
def oSl (x : D) (lo hi : Option Int) : R D := match x with
  | .tup ds => if HT.sIx ds.length 0 lo = 0 ∧ HT.sIx ds.length ds.length hi = ds.length then .stuck else .ok (.tup (cutD ds lo hi))
  | .lst ds => .ok (.lst (cutD ds lo hi))
  | .str l => if l.length ≤ 1000000 then .ok (.str (cutD l lo hi)) else .stuck
  | _ => .stuck
def mSl (fa : Ev → R D) (fl fh : Ev → R (Option Int)) : Ev → R D := fun δ => (fa δ).bind fun x => (fl δ).bind fun l => (fh δ).bind fun u => oSl x l u
theorem y_sl {lo hi : Option Expr} {fl fh : Ev → R (Option Int)} {p2 : Pos} (ha : PXr κ B X a fa) (hl : PXo κ B X lo fl) (hh : PXo κ B X hi fh) : PX κ B X (.Subscript a (.Slice lo hi none p2) pos) (mSl fa fl fh) := fun pins σ Ex =>
  pe_imp (pe_slice (X := At X pins σ Ex) (SlR.or sl_tup (SlR.or sl_list sl_str)) (ha pins σ Ex) (hl pins σ Ex) (hh pins σ Ex)) fun τ H Q ⟨G, δ, rp, q⟩ => ⟨G, δ, rp, q.seq fun x v H1 G1 e1 d1 q1 => ⟨G1, δ, rp.ext e1, q1.seq fun l lv H2 G2 e2 d2 q2 => ⟨G2, δ, (rp.ext e1).ext e2, q2.seq fun u uv H3 G3 e3 d3 q3 => by
    subst d2
    subst d3
    have d1' := rRel_mono (e2.trans e3) d1
    cases x with
    | tup ds =>
      rcases d1' with d | ⟨_, _, _, _, z, _⟩
      · unfold Den at d
        obtain ⟨y, vs, rfl, h1, h2⟩ := d
        simp only [oSl] at q3
        split at q3
        · exact False.elim q3
        · rename_i hw
          refine .inl ⟨y, vs, rfl, same_seqT e3.GH h1, by rw [h2.length]; exact hw, fun p hp => ?_⟩
          have e := ext_new (o := .tup (cutV vs lv uv)) e3.GH hp
          exact q3 _ _ _ e (by unfold dRel Den; exact ⟨p, _, rfl, SqT.of upd_same, (dens_cut h2 lv uv).mono e.sG⟩)
      · cases z
    | lst ds =>
      have main : ∀ (y : Addr) (vs : List V), SqL X.K H3 y vs → Dens ⟨X.K, κ⟩ G3 vs ds → rSlL X.K (.ref y) lv uv H3 Q := fun y vs h1 h2 => by
        refine ⟨y, vs, rfl, h1, fun p hp => ?_⟩
        have e := ext_new (o := .lst (cutV vs lv uv)) e3.GH hp
        exact q3 _ _ _ e (by unfold dRel Den; exact ⟨p, _, rfl, SqL.of upd_same, (dens_cut h2 lv uv).mono e.sG⟩)
      rcases d1' with d | ⟨y, vs, _, rfl, z, h1, h2⟩
      · unfold Den at d
        obtain ⟨y, vs, rfl, h1, h2⟩ := d
        exact .inr (.inl (main y vs (e3.GH.seq h1) h2))
      · cases z
        exact .inr (.inl (main y vs (SqL.of h1) h2))
    | str l =>
      simp only [oSl] at q3
      split at q3
      · rename_i hz
        have dd : v = stV l := by
          rcases d1' with d | ⟨_, _, _, _, z, _⟩
          · unfold Den at d; exact d
          · cases z
        exact .inr (.inr ⟨l, dd, hz, q3 _ _ _ (Ext.refl e3.GH) (by unfold dRel Den; rfl)⟩)
      · exact False.elim q3
    | _ => exact False.elim q3⟩⟩⟩
def flatD : D → Bool
  | .non | .bl _ | .int _ | .str _ => true
  | _ => false
def eqF : D → D → Bool
  | .non, .non => true
  | .bl a, .bl b => a == b
  | .bl a, .int b => (if a then 1 else 0) == b
  | .int a, .bl b => a == (if b then 1 else 0)
  | .int a, .int b => a == b
  | .str a, .str b => a == b
  | _, _ => false
theorem den_flat {Z : Zx} {G : Hp} {v : V} {d : D} (h : Den Z G v d) (f : flatD d = true) : flatV v = true := by
  cases d with
  | non => unfold Den at h; subst h; rfl
  | bl _ => unfold Den at h; subst h; rfl
  | int _ => unfold Den at h; subst h; rfl
  | str _ => unfold Den at h; subst h; rfl
  | _ => cases f
theorem str_beq (a b : List Nat) : ((⟨a.toArray⟩ : Str) == ⟨b.toArray⟩) = (a == b) := by
  rw [Bool.eq_iff_iff, beq_iff_eq, beq_iff_eq]
  constructor
  · intro h
    have := congrArg (fun z : Str => z.cps.toList) h
    simpa using this
  · intro h; rw [h]
theorem den_eqF {Z : Zx} {G : Hp} {v u : V} {d e : D} (h : Den Z G v d) (h' : Den Z G u e) (f : flatD d = true) (f' : flatD e = true) : eqV v u = eqF d e := by
  cases d <;> first | (cases f; done) | (cases e <;> first | (cases f'; done) | (unfold Den at h h'; subst h; subst h'; first | rfl | exact str_beq _ _))
theorem dens_in {Z : Zx} {G : Hp} {v : V} {d : D} (h : Den Z G v d) (f : flatD d = true) : ∀ {vs : List V} {ds : List D}, Dens Z G vs ds → ds.all flatD = true → vs.all flatV = true ∧ inV v vs = ds.any fun e => eqF e d
  | [], [], _, _ => ⟨rfl, rfl⟩
  | w :: vs, e :: ds, hd, hf => by
    unfold Dens at hd
    simp only [List.all_cons, Bool.and_eq_true] at hf
    obtain ⟨i1, i2⟩ := dens_in h f hd.2 hf.2
    refine ⟨by simp only [List.all_cons, Bool.and_eq_true]; exact ⟨den_flat hd.1 hf.1, i1⟩, ?_⟩
    show (eqV w v || inV v vs) = _
    rw [i2, den_eqF hd.1 h hf.1 f]
    rfl
  | [], _ :: _, hd, _ => by unfold Dens at hd; exact hd.elim
  | _ :: _, [], hd, _ => by unfold Dens at hd; exact hd.elim
def inB (x y : D) : R Bool := match y with
  | .lst ds => if flatD x && ds.all flatD then .ok (ds.any fun e => eqF e x) else .stuck
  | .tup ds => if flatD x && ds.all flatD then .ok (ds.any fun e => eqF e x) else .stuck
  | .str j => match x with
    | .str i => .ok (!(Builtin.Str.occurrences ⟨j.toArray⟩ ⟨i.toArray⟩ 0 (⟨j.toArray⟩ : Str).length 1).isEmpty)
    | _ => .stuck
  | _ => .stuck
def oIn (x y : D) : R Bool := inB x y
def oNin (x y : D) : R Bool := (inB x y).bind fun k => .ok (!k)
theorem inB_rel {x y : D} {v u : V} {G H : Hp} {k : Bool} (sm : Same G H) (d1 : rRel X κ G H v x) (d2 : rRel X κ G H u y) (h : inB x y = .ok k) :
    (∃ p xs, u = .ref p ∧ (SqL X.K H p xs ∨ SqT X.K H p xs) ∧ flatV v = true ∧ xs.all flatV = true ∧ inV v xs = k) ∨ (∃ i j, v = .str i ∧ u = .str j ∧ (!(Builtin.Str.occurrences j i 0 j.length 1).isEmpty) = k) := by
  have seq : ∀ {ds : List D} {vs : List V}, Dens ⟨X.K, κ⟩ G vs ds → (if flatD x && ds.all flatD then R.ok (ds.any fun e => eqF e x) else .stuck) = .ok k → flatV v = true ∧ vs.all flatV = true ∧ inV v vs = k := fun {ds vs} hd e => by
    split at e
    · rename_i hf
      rw [Bool.and_eq_true] at hf
      have dx : Den ⟨X.K, κ⟩ G v x := by
        rcases d1 with d | ⟨_, _, _, _, z, _⟩
        · exact d
        · rw [z] at hf; cases hf.1
      obtain ⟨i1, i2⟩ := dens_in dx hf.1 hd hf.2
      cases e
      exact ⟨den_flat dx hf.1, i1, i2⟩
    · cases e
  cases y with
  | lst ds =>
    simp only [inB] at h
    rcases d2 with d | ⟨p, vs, ds', rfl, z, h1, h2⟩
    · unfold Den at d
      obtain ⟨p, vs, rfl, h1, h2⟩ := d
      obtain ⟨a1, a2, a3⟩ := seq h2 h
      exact .inl ⟨p, vs, rfl, .inl (sm.seq h1), a1, a2, a3⟩
    · cases z
      obtain ⟨a1, a2, a3⟩ := seq h2 h
      exact .inl ⟨p, vs, rfl, .inl (SqL.of h1), a1, a2, a3⟩
  | tup ds =>
    simp only [inB] at h
    rcases d2 with d | ⟨p, vs, ds', rfl, z, h1, h2⟩
    · unfold Den at d
      obtain ⟨p, vs, rfl, h1, h2⟩ := d
      obtain ⟨a1, a2, a3⟩ := seq h2 h
      exact .inl ⟨p, vs, rfl, .inr (same_seqT sm h1), a1, a2, a3⟩
    · cases z
  | str j =>
    cases x with
    | str i =>
      simp only [inB] at h
      cases h
      exact .inr ⟨_, _, rStr d1, rStr d2, rfl⟩
    | _ => cases h
  | _ => cases h
def rInD (X : Cx) (neg : Bool) : R2 := fun x y H Q => rIn X.K neg x y H Q ∨ ∃ i j, x = .str i ∧ y = .str j ∧ Q (.bl (neg ^^ (!(Builtin.Str.occurrences j i 0 j.length 1).isEmpty))) H
theorem opR_in {Y : Cx} (eK : Y.K = X.K) : OpR Y (compareOp .In) (rInD X false) := by
  intro pins s σ H x y v u Q I rx ry h
  rcases h with h | ⟨i, j, e1, e2, q⟩
  · exact op_in_seq pins s σ H x y v u Q I rx ry (by rw [eK]; exact h)
  · exact op_in_str pins s σ H x y v u Q I rx ry ⟨i, j, e1, e2, by simpa using q⟩
theorem opR_nin {Y : Cx} (eK : Y.K = X.K) : OpR Y (compareOp .NotIn) (rInD X true) := by
  intro pins s σ H x y v u Q I rx ry h
  rcases h with h | ⟨i, j, e1, e2, q⟩
  · exact op_notIn_seq pins s σ H x y v u Q I rx ry (by rw [eK]; exact h)
  · exact op_notIn_str pins s σ H x y v u Q I rx ry ⟨i, j, e1, e2, by simpa using q⟩
theorem opOk_in : OpOk κ X (rInD X false) (op2 oIn) := by
  intro x y v u G H Q E sm d1 d2 q
  unfold op2 oIn at q
  cases e : inB x y with
  | ok k =>
    rw [e] at q
    have q' : Q (.bl k) H := q _ H G (Ext.refl sm) (by unfold dRel Den; rfl)
    rcases inB_rel sm d1 d2 e with ⟨p, xs, z1, z2, z3, z4, z5⟩ | ⟨i, j, z1, z2, z3⟩
    · exact .inl ⟨p, xs, z1, z2, z3, z4, by simpa [z5] using q'⟩
    · exact .inr ⟨i, j, z1, z2, by rw [z3]; simpa using q'⟩
  | exc c => unfold inB at e; split at e <;> (try split at e) <;> cases e
  | stuck => rw [e] at q; exact q.elim
theorem opOk_nin : OpOk κ X (rInD X true) (op2 oNin) := by
  intro x y v u G H Q E sm d1 d2 q
  unfold op2 oNin at q
  cases e : inB x y with
  | ok k =>
    rw [e] at q
    have q' : Q (.bl (!k)) H := q _ H G (Ext.refl sm) (by unfold dRel Den; rfl)
    rcases inB_rel sm d1 d2 e with ⟨p, xs, z1, z2, z3, z4, z5⟩ | ⟨i, j, z1, z2, z3⟩
    · exact .inl ⟨p, xs, z1, z2, z3, z4, by simpa [z5] using q'⟩
    · exact .inr ⟨i, j, z1, z2, by rw [z3]; simpa using q'⟩
  | exc c => unfold inB at e; split at e <;> (try split at e) <;> cases e
  | stuck => rw [e] at q; exact q.elim
theorem px_in (hu : X.A.units + 64 < cLine) (ha : PXr κ B X a fa) (hb : PXr κ B X b fb) (hm : behindInMarks .In b = false) : PX κ B X (.Compare a [.In] [b] pos) (m2 (op2 oIn) fa fb) := px_cmp (fun _ eK _ => opR_in eK) opOk_in ha hb hm
theorem pxt_in (hu : X.A.units + 64 < cLine) (ha : PXr κ B X a fa) (hb : PXr κ B X b fb) (hm : behindInMarks .In b = false) : PXt κ B X (.Compare a [.In] [b] pos) (m2t oIn fa fb) := pxt_cmp (fun _ eK _ => opR_in eK) opOk_in ha hb hm
theorem pxt_nin (hu : X.A.units + 64 < cLine) (ha : PXr κ B X a fa) (hb : PXr κ B X b fb) (hm : behindInMarks .NotIn b = false) : PXt κ B X (.Compare a [.NotIn] [b] pos) (m2t oNin fa fb) := pxt_cmp (fun _ eK _ => opR_nin eK) opOk_nin ha hb hm
theorem _root_.L2.Inv.lstS {X : Cx} {pins : List (Addr × Obj)} {σ : St} {H : Hp} {s : Shared} {l : Addr} {xs : List V} (I : Inv X pins σ H s) (h : SqL X.K H l xs) :
    xs.length ≤ sizeLine ∧ ∃ (its : List Value) (n : Nat), Vals xs its ∧ xs.length = its.length ∧ s.heap.get? l = some { cls := .type "list", data := .seq its.toArray n } := by
  rcases h with h | ⟨o, its, n, hk, hc, hd, hs, hz, r⟩
  · obtain ⟨z, its, n, r, e⟩ := h.ok I.hok
    exact ⟨z, its, n, r, r.length, e⟩
  · have e := I.kIn l o hk
    have lr := r.length
    refine ⟨by simp only [Array.length_toList] at lr; omega, its.toList, n, r, lr, ?_⟩
    obtain ⟨oc, od, dt, sl⟩ := o
    dsimp only at hc hd hs
    obtain ⟨rfl, rfl⟩ := hd
    subst hc
    subst hs
    exact e
def rCatL (K : PySem.W.Frag) : R2 := fun x y H Q => ∃ l b xs zs, x = .ref l ∧ y = .ref b ∧ SqL K H l xs ∧ SqL K H b zs ∧ xs.length + zs.length ≤ sizeLine ∧ ∀ p, H p = none → Q (.ref p) (upd H p (.lst (xs ++ zs)))
theorem op_catL {X : Cx} : OpR X (binaryOp .Add) (rCatL X.K) := by
  intro pins s σ H x y v u Q I rx ry ⟨l, b, xs, zs, e1, e2, hH, hB, hz, q⟩
  subst e1
  subst e2
  cases rx
  cases ry
  obtain ⟨z, its, n, r, hl, e⟩ := I.lstS hH
  obtain ⟨z2, its2, n2, r2, hl2, e2⟩ := I.lstS hB
  refine PySem.P.add_list e e2 ?_ (by rw [List.size_toArray, List.size_toArray]; omega)
  rw [show its.toArray ++ its2.toArray = (its ++ its2).toArray by simp]
  exact ⟨.ref _, _, I.lnew (t' := s.toks) (r.append r2) (by rw [List.length_append]; omega), rfl, q _ I.fresh⟩
def oCat (x y : D) : R D := match x, y with
  | .lst xs, .lst ys => if xs.length + ys.length ≤ 1000000 then .ok (.lst (xs ++ ys)) else .stuck
  | _, _ => .stuck
theorem rLst {G H : Hp} {v : V} {ds : List D} (sm : Same G H) (h : rRel X κ G H v (.lst ds)) : ∃ l vs, v = .ref l ∧ SqL X.K H l vs ∧ Dens ⟨X.K, κ⟩ G vs ds := by
  rcases h with h | ⟨l, vs, ds', e, z, h1, h2⟩
  · unfold Den at h
    obtain ⟨l, vs, e, h1, h2⟩ := h
    exact ⟨l, vs, e, sm.seq h1, h2⟩
  · cases z
    exact ⟨l, vs, e, SqL.of h1, h2⟩
theorem opOk_cat : OpOk κ X (rCatL X.K) oCat := by
  intro x y v u G H Q E sm d1 d2 q
  unfold oCat at q
  split at q
  · rename_i xs ys
    split at q
    · rename_i hl
      obtain ⟨l, vs, e1, h1, h2⟩ := rLst sm d1
      obtain ⟨b, us, e2, h3, h4⟩ := rLst sm d2
      have : (1000000 : Nat) ≤ sizeLine := by decide
      refine ⟨l, b, vs, us, e1, e2, h1, h3, by rw [h2.length, h4.length]; omega, fun p hp => ?_⟩
      have e := ext_new (o := .lst (vs ++ us)) sm hp
      exact q _ _ _ e (by unfold dRel Den; exact ⟨p, _, rfl, SqL.of upd_same, (h2.append h4).mono e.sG⟩)
    · exact q.elim
  · exact q.elim
theorem px_cat (ha : PXr κ B X a fa) (hb : PXr κ B X b fb) : PX κ B X (.BinOp a .Add b pos) (m2 oCat fa fb) := px_op (fun Y eK => by rw [← eK]; exact op_catL) opOk_cat ha hb
theorem countP_eqU {x : V} : ∀ {xs : List V} {us : List Value}, Vals xs us → xs.all flatV = true → us.countP (eqU x) = xs.countP fun y => eqV y x
  | _, _, .nil, _ => rfl
  | y :: xs, u :: us, .cons r t, f => by
    simp only [List.all_cons, Bool.and_eq_true] at f
    rw [List.countP_cons, List.countP_cons, eqU_of r f.1, countP_eqU t f.2]
def rCount (K : PySem.W.Frag) : V → List V → Hp → VK → Prop := fun x vs H Q => ∃ l xs y, x = .ref l ∧ vs = [y] ∧ SqL K H l xs ∧ flatV y = true ∧ xs.all flatV = true ∧ Q (.int ((xs.countP fun z => eqV z y : Nat) : Int)) H
theorem mt_count {X : Cx} : MtR X "list.count" (rCount X.K) := by
  intro pins s σ H x vs v us Q I rx rv ⟨l, xs, y, e1, e2, hq, fy, fx, q⟩
  subst e1
  subst e2
  cases rx
  obtain ⟨u, rfl, ru⟩ := rv.one
  obtain ⟨z, its, n, r, hl, e⟩ := I.lstS hq
  refine call_meets F.slot_list_count ⟨_, e, rfl⟩ F.entry_list_count (F.args_list_count_2 _ _) (SeqAt.list_countAt l its.toArray n none #[] u (eqU y)) ⟨e, fun w hw => mem_eqAt ru fy r fx w (by simpa using hw), ?_⟩
  refine ⟨.int _, H, I.tok _, ⟨_, rfl⟩, ?_⟩
  rw [List.toList_toArray, countP_eqU r fx]
  exact q
theorem dens_count {Z : Zx} {G : Hp} {v : V} {d : D} (h : Den Z G v d) (f : flatD d = true) : ∀ {vs : List V} {ds : List D}, Dens Z G vs ds → ds.all flatD = true → vs.all flatV = true ∧ (vs.countP fun y => eqV y v) = ds.countP fun e => eqF e d
  | [], [], _, _ => ⟨rfl, rfl⟩
  | w :: vs, e :: ds, hd, hf => by
    unfold Dens at hd
    simp only [List.all_cons, Bool.and_eq_true] at hf
    obtain ⟨i1, i2⟩ := dens_count h f hd.2 hf.2
    refine ⟨by simp only [List.all_cons, Bool.and_eq_true]; exact ⟨den_flat hd.1 hf.1, i1⟩, ?_⟩
    rw [List.countP_cons, List.countP_cons, i2, den_eqF hd.1 h hf.1 f]
  | [], _ :: _, hd, _ => by unfold Dens at hd; exact hd.elim
  | _ :: _, [], hd, _ => by unfold Dens at hd; exact hd.elim
def oCount (x : D) (ys : List D) : R D := match x, ys with
  | .lst ds, [d] => if flatD d && ds.all flatD then .ok (.int ((ds.countP fun e => eqF e d : Nat) : Int)) else .stuck
  | _, _ => .stuck
def mBL (op : D → List D → R D) (fo : Ev → R D) (fs : Ev → R (List D)) : Ev → R D := fun δ => (fo δ).bind fun x => match x with
  | .lst ds => (fs δ).bind fun ys => op (.lst ds) ys
  | _ => .stuck
theorem y_count {o e : Expr} {fo : Ev → R D} {fs : Ev → R (List D)} {apos : Pos} (ho : PXr κ B X o fo) (ha : PXs κ B X [e] fs) (hs : noStar e = true) (hline : (apos.endLine == pos.line) = true) (hbase : attributeBase o "count" X.env (eval o X.env) = eval o X.env) :
    PX κ B X (.Call (.Attribute o "count" apos) [e] [] pos) (mBL oCount fo fs) := fun pins σ Ex =>
  pe_imp (pe_bm (X := At X pins σ Ex) F.plainAttrs_list F.slot_list_count F.type_list_count mt_count (ho pins σ Ex) (ha pins σ Ex) hbase (back_all hs) hline (star_cons hs) rfl) fun τ H Q ⟨G, δ, rp, q⟩ => ⟨G, δ, rp, q.seq fun x v H1 G1 e1 d1 q1 => by
    cases x with
    | lst ds =>
      obtain ⟨l, vs, rfl, h1, h2⟩ := rLst e1.GH d1
      refine ⟨.inl ⟨rfl, vs, h1⟩, G1, δ, rp.ext e1, q1.seq fun ys us H2 G2 e2 d2 q2 => ?_⟩
      unfold oCount at q2
      split at q2
      · rename_i ds' d hx
        cases hx
        split at q2
        · rename_i hf
          rw [Bool.and_eq_true] at hf
          match us, d2 with
          | [u], d2 =>
            unfold dsRel Dens at d2
            obtain ⟨c1, c2⟩ := dens_count d2.1 hf.1 (h2.mono e2.sG) hf.2
            refine ⟨l, vs, u, rfl, rfl, ?_, den_flat d2.1 hf.1, c1, ?_⟩
            · rcases rRel_mono e2 d1 with z | ⟨_, _, _, z1, z2, z3, z4⟩
              · exact e2.sH.seq h1
              · exact e2.sH.seq h1
            · rw [c2]
              exact q2 _ H2 G2 (Ext.refl e2.GH) (by unfold dRel Den; rfl)
          | [], d2 => unfold dsRel Dens at d2; exact d2.elim
          | _ :: _ :: _, d2 => unfold dsRel Dens at d2; have := d2.2; unfold Dens at this; exact this.elim
        · exact q2.elim
      · exact q2.elim
    | _ => exact False.elim q1⟩
theorem vals_strs : ∀ {ls : List (List Nat)} {us : List Value}, Vals (ls.map stV) us → ∃ l : List (Str × Tok), us = strValues l ∧ l.map (·.1) = ls.map fun x => (⟨x.toArray⟩ : Str)
  | [], _, .nil => ⟨[], rfl, rfl⟩
  | x :: ls, _, .cons r t => by
    obtain ⟨k, rfl⟩ := r
    obtain ⟨l, e1, e2⟩ := vals_strs t
    exact ⟨(⟨x.toArray⟩, k) :: l, by rw [e1]; rfl, by rw [List.map_cons, List.map_cons, e2]⟩
theorem glued_nil (ls : List (List Nat)) : Builtin.Str.glued ⟨#[]⟩ (ls.map fun x => (⟨x.toArray⟩ : Str)) = ⟨ls.flatten.toArray⟩ := by
  have f : ∀ (ls : List (List Nat)) (acc : List Nat), (ls.map fun x => (⟨x.toArray⟩ : Str)).foldl (fun a p => a ++ (⟨#[]⟩ : Str).cps ++ p.cps) acc.toArray = (acc ++ ls.flatten).toArray := by
    intro ls
    induction ls with
    | nil => intro acc; simp
    | cons x ls ih =>
      intro acc
      rw [List.map_cons, List.foldl_cons]
      have : acc.toArray ++ (⟨#[]⟩ : Str).cps ++ (⟨x.toArray⟩ : Str).cps = (acc ++ x).toArray := by simp
      rw [this, ih, List.flatten_cons, List.append_assoc]
  unfold Builtin.Str.glued
  cases ls with
  | nil => rfl
  | cons x ls =>
    show (⟨List.foldl _ x.toArray (ls.map _)⟩ : Str) = _
    rw [f ls x, List.flatten_cons]
theorem glue_len (ls : List (List Nat)) : ((ls.map fun x => (⟨x.toArray⟩ : Str)).toArray.foldl (· + ·.length + (⟨#[]⟩ : Str).length) 0) = ls.flatten.length := by
  have f : ∀ (ls : List (List Nat)) (n : Nat), (ls.map fun x => (⟨x.toArray⟩ : Str)).foldl (fun a p => a + p.length + (⟨#[]⟩ : Str).length) n = n + ls.flatten.length := by
    intro ls
    induction ls with
    | nil => intro n; simp
    | cons x ls ih =>
      intro n
      rw [List.map_cons, List.foldl_cons, ih, List.flatten_cons, List.length_append]
      have e1 : (⟨x.toArray⟩ : Str).length = x.length := by simp [Str.length]
      have e2 : (⟨#[]⟩ : Str).length = 0 := rfl
      rw [e1, e2]
      omega
  rw [List.foldl_toArray]
  rw [f ls 0]
  omega
def rJoin (K : PySem.W.Frag) : V → List V → Hp → VK → Prop := fun x vs H Q => ∃ (l : Addr) (ls : List (List Nat)), x = stV [] ∧ vs = [.ref l] ∧ SqL K H l (ls.map stV) ∧ ls.flatten.length ≤ 1000000 ∧ Q (stV ls.flatten) H
theorem mt_join {X : Cx} : MtR X "str.join" (rJoin X.K) := by
  intro pins s σ H x vs v us Q I rx rv ⟨l, ls, e1, e2, hq, hz, q⟩
  subst e1
  subst e2
  obtain ⟨t, rfl⟩ := rx
  obtain ⟨u, rfl, ru⟩ := rv.one
  cases ru
  obtain ⟨z, its, n, r, hl, e⟩ := I.lstS hq
  obtain ⟨pl, rfl, ep⟩ := vals_strs r
  have big : (1000000 : Nat) ≤ sizeLine := by decide
  have hlong : Builtin.Str.tooLong ((pl.map (·.1)).toArray.foldl (· + ·.length + (⟨#[]⟩ : Str).length) 0) = false := by
    rw [ep, glue_len]
    exact decide_eq_false (by omega)
  refine call_meets F.slot_str_join (typeIs_str s _ t) F.entry_str_join (F.args_str_join_2 _ _) (meets_str_join_list ⟨#[]⟩ t l pl hlong) ⟨⟨_, e, rfl, n, rfl⟩, ?_⟩
  have fin : ∀ (z : Str) (tk : Tok) (k : Nat), z = ⟨ls.flatten.toArray⟩ → EP X pins σ Q (.str z tk) { s with toks := k } := fun z tk k ez => ⟨stV ls.flatten, H, I.tok _, ⟨tk, by rw [ez]⟩, q⟩
  have gl : Builtin.Str.glued ⟨#[]⟩ (pl.map (·.1)) = ⟨ls.flatten.toArray⟩ := by rw [ep, glued_nil]
  have sz : (⟨ls.flatten.toArray⟩ : Str).length ≤ sizeLine := by simp only [Str.length, List.size_toArray]; omega
  match pl, ep, gl with
  | [p], ep, gl =>
    refine fin p.1 p.2 s.toks ?_
    rw [← gl]
    rfl
  | [], ep, gl => exact ⟨by show (Builtin.Str.glued ⟨#[]⟩ []).length ≤ sizeLine; decide, fin _ _ _ gl⟩
  | p :: p2 :: r, ep, gl => exact ⟨by show (Builtin.Str.glued ⟨#[]⟩ ((p :: p2 :: r).map (·.1))).length ≤ sizeLine; rw [gl]; exact sz, fin _ _ _ gl⟩
def strsD : List D → Option (List (List Nat))
  | [] => some []
  | .str x :: r => (strsD r).map (x :: ·)
  | _ => none
theorem dens_strs {Z : Zx} {G : Hp} : ∀ {vs : List V} {ds : List D} {ls : List (List Nat)}, Dens Z G vs ds → strsD ds = some ls → vs = ls.map stV
  | [], [], ls, _, h => by cases h; rfl
  | v :: vs, d :: ds, ls, hd, h => by
    unfold Dens at hd
    cases d with
    | str x =>
      simp only [strsD] at h
      cases e : strsD ds with
      | none => rw [e] at h; cases h
      | some l2 =>
        rw [e] at h
        cases h
        have := hd.1
        unfold Den at this
        rw [this, dens_strs hd.2 e]
        rfl
    | _ => cases h
  | [], _ :: _, _, hd, _ => by unfold Dens at hd; exact hd.elim
  | _ :: _, [], _, hd, _ => by unfold Dens at hd; exact hd.elim
def oJoin (x : D) (ys : List D) : R D := match x, ys with
  | .str [], [.lst ds] => match strsD ds with
    | some ls => if ls.flatten.length ≤ 1000000 then .ok (.str ls.flatten) else .stuck
    | none => .stuck
  | _, _ => .stuck
def mBS (op : D → List D → R D) (fo : Ev → R D) (fs : Ev → R (List D)) : Ev → R D := fun δ => (fo δ).bind fun x => match x with
  | .str l => (fs δ).bind fun ys => op (.str l) ys
  | _ => .stuck
theorem y_join {o e : Expr} {fo : Ev → R D} {fs : Ev → R (List D)} {apos : Pos} (ho : PXr κ B X o fo) (ha : PXs κ B X [e] fs) (hs : noStar e = true) (hline : (apos.endLine == pos.line) = true) (hbase : attributeBase o "join" X.env (eval o X.env) = eval o X.env) :
    PX κ B X (.Call (.Attribute o "join" apos) [e] [] pos) (mBS oJoin fo fs) := fun pins σ Ex =>
  pe_imp (pe_bm (X := At X pins σ Ex) F.plainAttrs_str F.slot_str_join F.type_str_join mt_join (ho pins σ Ex) (ha pins σ Ex) hbase (back_all hs) hline (star_cons hs) rfl) fun τ H Q ⟨G, δ, rp, q⟩ => ⟨G, δ, rp, q.seq fun x v H1 G1 e1 d1 q1 => by
    cases x with
    | str l =>
      obtain rfl := rStr d1
      refine ⟨rfl, G1, δ, rp.ext e1, q1.seq fun ys us H2 G2 e2 d2 q2 => ?_⟩
      unfold oJoin at q2
      split at q2
      · rename_i ds hx
        cases hx
        split at q2
        · rename_i ls es
          split at q2
          · rename_i hz
            match us, d2 with
            | [u], d2 =>
              unfold dsRel Dens at d2
              have du := d2.1
              unfold Den at du
              obtain ⟨a, vs, rfl, h1, h2⟩ := du
              have := dens_strs h2 es
              subst this
              exact ⟨a, ls, rfl, rfl, e2.GH.seq h1, hz, q2 _ H2 G2 (Ext.refl e2.GH) (by unfold dRel Den; rfl)⟩
            | [], d2 => unfold dsRel Dens at d2; exact d2.elim
            | _ :: _ :: _, d2 => unfold dsRel Dens at d2; have := d2.2; unfold Dens at this; exact this.elim
          · exact q2.elim
        · exact q2.elim
      · exact q2.elim
    | _ => exact False.elim q1⟩
end
end L3
set_option Elab.async false
set_option linter.all false
set_option maxRecDepth 100000
namespace L3
open PySem PySem.Spec PyProof.Rows L2
section
variable {κ : Nat → Addr} {B : Gd} {X : Cx} {a e : Expr} {es : List Expr} {f fa : Ev → R D} {fs : Ev → R (List D)} {pos pos' apos p : Pos} {x : Str}
structure Mth (κ : Nat → Addr) (X : Cx) (c : Nat) (x : Str) (n : Nat) (m : List D → R D) : Prop where
  ex : ∃ f fd ps k, FnOk X.prog X.w X.K X.mg X.base (CXR X.prog X.w) k f fd ps (spM X.K κ n m) ∧ Room k X.A ∧ Meth X.K (κ c) x f ∧ Binds X.K fd ps []
def spI (K : PySem.W.Frag) (κ : Nat → Addr) (c n : Nat) (m : List D → R (List Str × List D)) : Sp := fun vs H Q E => vs.length = n ∧ ∃ x dx vr G ds, vs = .ref x :: vr ∧ H x = some (.ins (κ c) dx []) ∧ G x = none ∧ Same G H ∧ Dens ⟨K, κ⟩ G vr ds ∧ (match m ds with
  | .ok r => ∀ us H' G' dx', Same G G' → (∀ b o, H b = some o → b ≠ x → H' b = some o) → Same G' H' → G' x = none → (∀ a, G' a ≠ none → G a ≠ none ∨ H a = none) → r.1.length = us.length → Dens ⟨K, κ⟩ G' us r.2 → H' x = some (.ins (κ c) dx' (r.1.zip us)) → Q .non H'
  | .exc c' => ∀ H', (∀ b o, H b = some o → b ≠ x → H' b = some o) → E (.ref (κ c')) none H'
  | .stuck => False)
structure Maker (κ : Nat → Addr) (X : Cx) (x : Str) (c n : Nat) (m : List D → R (List Str × List D)) : Prop where
  ex : ∃ f fd ps k, FnOk X.prog X.w X.K X.mg X.base (CXR X.prog X.w) k f fd ps (spI X.K κ c n m) ∧ Room (k + 1) X.A ∧ L2.Mk X.K (κ c) f ∧ X.mg x = some (.ref (κ c)) ∧ Binds X.K fd ps []
end
def MM (P : Program) (w : World) (K : PySem.W.Frag) (mg : Str → Option Value) (base : Heap) (κ : Nat → Addr) (c : Nat) (x : Str) (ps : List Str) (m : List D → R D) (k : Nat) : Prop :=
  ∃ f fd, FnOk P w K mg base (CXR P w) k f fd ps (spM K κ ps.length m) ∧ Meth K (κ c) x f ∧ Binds K fd ps []
theorem MM.at {κ : Nat → Addr} {X : Cx} {c : Nat} {x : Str} {ps : List Str} {n : Nat} {m : List D → R D} {k j : Nat} (h : MM X.prog X.w X.K X.mg X.base κ c x ps m k) (hr : Room j X.A) (hj : k ≤ j) (hn : ps.length = n := by rfl) : Mth κ X c x n m := by
  obtain ⟨f, fd, F, h1, h2⟩ := h
  subst hn
  exact ⟨f, fd, ps, k, F, hr.mono hj, h1, h2⟩
def MI (P : Program) (w : World) (K : PySem.W.Frag) (mg : Str → Option Value) (base : Heap) (κ : Nat → Addr) (x : Str) (c : Nat) (ps : List Str) (m : List D → R (List Str × List D)) (k : Nat) : Prop :=
  ∃ f fd, FnOk P w K mg base (CXR P w) k f fd ps (spI K κ c ps.length m) ∧ L2.Mk K (κ c) f ∧ mg x = some (.ref (κ c)) ∧ Binds K fd ps []
theorem MI.at {κ : Nat → Addr} {X : Cx} {c : Nat} {x : Str} {ps : List Str} {n : Nat} {m : List D → R (List Str × List D)} {k j : Nat} (h : MI X.prog X.w X.K X.mg X.base κ x c ps m k) (hr : Room j X.A) (hj : k + 1 ≤ j) (hn : ps.length = n := by rfl) : Maker κ X x c n m := by
  obtain ⟨f, fd, F, h1, h2, h3⟩ := h
  subst hn
  exact ⟨f, fd, ps, k, F, hr.mono hj, h1, h2, h3⟩
end L3
set_option Elab.async false
set_option linter.all false
set_option maxRecDepth 100000
namespace L3
open PySem PySem.Spec PyProof.Rows L2
theorem closure_ok {env : Env} : ∀ (ns : List (Str × NameKind)) (acc : List (Str × Addr)), (∀ y ∈ ns, y.2 = .free → ∃ c, env.cells.lookup y.1 = some c) → (∀ y c, acc.lookup y = some c → env.cells.lookup y = some c) →
    ∃ cl, (forIn ns acc (fun (p : Str × NameKind) (cs : List (Str × Addr)) => (match p with | (name, kind) => if (kind == NameKind.free) = true then do let c ← cellOf env name; pure (ForInStep.yield ((name, c) :: cs)) else pure (ForInStep.yield cs) : Sem (ForInStep (List (Str × Addr))))) : Sem _) = pure cl ∧
      (∀ y c, cl.lookup y = some c → env.cells.lookup y = some c) ∧ (∀ y, (∃ c, acc.lookup y = some c) ∨ (y, NameKind.free) ∈ ns → ∃ c, cl.lookup y = some c)
  | [], acc, _, h2 => ⟨acc, rfl, h2, fun y h => h.elim id fun z => by simp at z⟩
  | (n, k) :: r, acc, h1, h2 => by
    rw [List.forIn_cons]
    by_cases hk : k = .free
    · subst hk
      obtain ⟨c, hc⟩ := h1 (n, .free) List.mem_cons_self rfl
      obtain ⟨cl, e, p, q⟩ := closure_ok r ((n, c) :: acc) (fun y hy => h1 y (List.mem_cons_of_mem _ hy)) (fun y d hd => by
        rw [List.lookup_cons] at hd
        cases hy : y == n with
        | true => rw [hy] at hd; cases hd; rw [eq_of_beq hy]; exact hc
        | false => rw [hy] at hd; exact h2 y d hd)
      refine ⟨cl, ?_, p, fun y h => q y ?_⟩
      · rw [← e]
        have : cellOf env n = pure c := by unfold cellOf; rw [hc]
        simp only [beq_self_eq_true, if_true, this, pure_bind]
      · rcases h with ⟨d, hd⟩ | h
        · rw [List.lookup_cons]
          cases hy : y == n with
          | true => exact .inl ⟨c, rfl⟩
          | false => exact .inl ⟨d, hd⟩
        · rcases List.mem_cons.mp h with h | h
          · cases h; rw [List.lookup_cons]; exact .inl ⟨c, by simp⟩
          · exact .inr h
    · obtain ⟨cl, e, p, q⟩ := closure_ok r acc (fun y hy => h1 y (List.mem_cons_of_mem _ hy)) h2
      have hb : (k == NameKind.free) = false := by simpa using hk
      refine ⟨cl, ?_, p, fun y h => q y ?_⟩
      · rw [← e]
        simp only [hb, Bool.false_eq_true, if_false, pure_bind]
      · rcases h with h | h
        · exact .inl h
        · rcases List.mem_cons.mp h with h | h
          · cases h; exact absurd rfl hk
          · exact .inr h
theorem relabel_lookup {env : Env} : ∀ {names : List (Str × NameKind)} {y : Str},
    (names.map fun (n, k) => if (k == NameKind.free && env.scope.kind == .function && env.kindOf n == some .cell) then (n, NameKind.cell) else (n, k)).lookup y = (names.lookup y).map fun k => if (k == NameKind.free && env.scope.kind == .function && env.kindOf y == some .cell) then NameKind.cell else k
  | [], _ => rfl
  | (n, k) :: r, y => by
    have ih := @relabel_lookup env r y
    show List.lookup y ((if (k == NameKind.free && env.scope.kind == .function && env.kindOf n == some .cell) = true then (n, NameKind.cell) else (n, k)) :: _) = _
    cases hy : y == n with
    | true =>
      have e := eq_of_beq hy
      subst e
      by_cases hc : (k == NameKind.free && env.scope.kind == .function && env.kindOf y == some .cell) = true
      · rw [if_pos hc]; simp only [List.lookup_cons, beq_self_eq_true, Option.map_some]; rw [if_pos hc]
      · rw [if_neg hc]; simp only [List.lookup_cons, beq_self_eq_true, Option.map_some]; rw [if_neg hc]
    | false =>
      by_cases hc : (k == NameKind.free && env.scope.kind == .function && env.kindOf n == some .cell) = true
      · rw [if_pos hc]; simp only [List.lookup_cons, hy]; exact ih
      · rw [if_neg hc]; simp only [List.lookup_cons, hy]; exact ih
theorem mem_look {α : Type} {y : Str} {a : α} : ∀ {l : List (Str × α)}, l.lookup y = some a → (y, a) ∈ l
  | [], h => by cases h
  | (n, k) :: r, h => by
    rw [List.lookup_cons] at h
    cases hy : y == n with
    | true => rw [hy] at h; cases h; rw [eq_of_beq hy]; exact List.mem_cons_self
    | false => rw [hy] at h; exact List.mem_cons_of_mem _ (mem_look h)
abbrev CmpX (X : Cx) (sc : Scope) (cl : List (Str × Addr)) (C : Addr) (s₁ : Shared) (H₁ : Hp) (pn : List (Addr × Obj)) (x : Str) : Cx :=
  { X with env := compEnvC sc cl C X.env, N := X.N ++ [x], s₀ := s₁, H₀ := H₁, outer := X.stack, stack := X.stack, ex := [], fn := fun _ => false, pn := pn, xe := fun _ _ => False, sg := fun _ _ => True }
structure CompOk (X : Cx) (sc : Scope) (x : Str) : Prop where
  cell : ∀ y ∈ sc.names, y.2 ≠ .cell
  kind : sc.kind = .function
  names : ∀ y ∈ sc.names, y.2 = .local → sc.names.lookup y.1 = some .local
  hx : sc.names.lookup x = some .local
  loc : ∀ y ∈ X.N, sc.names.lookup y ≠ some .local
  fr : ∀ y ∈ sc.names, y.2 = .free → X.env.scope.names.lookup y.1 = some .cell
  nd : X.N.Nodup
section
variable {κ : Nat → Addr} {B : Gd} {X : Cx} {sc : Scope} {x y : Str} {cl : List (Str × Addr)} {C : Addr} {s₁ : Shared} {H₁ : Hp} {pn : List (Addr × Obj)}
theorem cmp_cxo : Cxo (CmpX X sc cl C s₁ H₁ pn x) := ⟨fun _ _ => trivial, rfl⟩
theorem cmp_look {k : NameKind} (h : sc.names.lookup y = some k) (hk : k ≠ .free) : (CmpX X sc cl C s₁ H₁ pn x).env.scope.names.lookup y = some k := by
  show List.lookup y (sc.names.map _) = _
  have := @relabel_lookup X.env sc.names y
  refine this.trans ?_
  rw [h]
  have hb : (k == NameKind.free) = false := by simpa using hk
  simp only [Option.map_some, hb, Bool.false_and, Bool.false_eq_true, if_false]
theorem cmp_vis (h : sc.names.lookup y = some .free) : Vis (CmpX X sc cl C s₁ H₁ pn x).env.scope y := by
  have := @relabel_lookup X.env sc.names y
  rw [h] at this
  simp only [Option.map_some] at this
  by_cases hc : (NameKind.free == NameKind.free && X.env.scope.kind == .function && X.env.kindOf y == some .cell) = true
  · rw [if_pos hc] at this; exact .inr (.inl this)
  · rw [if_neg hc] at this; exact .inr (.inr this)
theorem cmp_n {i : Nat} (h : X.N[i]? = some y) : (CmpX X sc cl C s₁ H₁ pn x).N[i]? = some y := by
  show (X.N ++ [x])[i]? = _
  rw [List.getElem?_append_left (List.getElem?_eq_some_iff.mp h).1]; exact h
theorem cmp_x {i : Nat} (h : X.N.length = i) : (CmpX X sc cl C s₁ H₁ pn x).N[i]? = some x := by
  show (X.N ++ [x])[i]? = _
  rw [List.getElem?_append_right (by omega)]
  simp [h]
theorem cmp_cal {n : Nat} {m : List D → R D} (c : Cal κ X y n m) : Cal κ (CmpX X sc cl C s₁ H₁ pn x) y n m := ⟨c.ex⟩
end
section
variable {X : Cx} {sc : Scope} {x : Str} {cl : List (Str × Addr)} {C : Addr} {sb s4 : Shared} {Hb H4 : Hp} {pins : List (Addr × Obj)} {σ : St} {m : Str → Option Value} {E : Value → Shared → Prop}
theorem cmp_enter (I : Inv X pins σ Hb sb) (I4 : Inv X pins σ H4 s4) (u : Un (frs X.stack) [] Hb H4 sb.heap s4.heap) (ho : s4.os = sb.os) (co : CompOk X sc x)
    (cl1 : ∀ y c, cl.lookup y = some c → X.env.cells.lookup y = some c) (cl2 : ∀ y, (y, NameKind.free) ∈ sc.names → ∃ c, cl.lookup y = some c)
    (hC : sb.heap.objs.size ≤ C) (hns : s4.heap.Ns C m) (hCn : H4 C = none) : Inv ((CmpX X sc cl C sb Hb (X.pn ++ pins) x).wish E) [] (σ ++ [none]) H4 s4 := by
  have lt : ∀ {b o}, sb.heap.get? b = some o → b ≠ C := fun {b o} e z => absurd (Nat.lt_of_lt_of_le (Heap.lt_size e) (z ▸ hC)) (Nat.lt_irrefl _)
  have frs_ne : ∀ b ∈ frs X.stack, b ≠ C := fun b hb => by
    obtain ⟨_, o, ho, _⟩ := I.stack.mem hb
    exact lt ho
  have free_of : ∀ {y}, ((CmpX X sc cl C sb Hb (X.pn ++ pins) x).env.scope.names.lookup y = some .cell ∨ (CmpX X sc cl C sb Hb (X.pn ++ pins) x).env.scope.names.lookup y = some .free) → sc.names.lookup y = some .free := fun {y} h => by
    have r := @relabel_lookup X.env sc.names y
    cases q : sc.names.lookup y with
    | none => rw [q] at r; rcases h with h | h <;> (have := h.symm.trans r; cases this)
    | some k =>
      rw [q] at r
      simp only [Option.map_some] at r
      by_cases hk : k = .free
      · rw [hk]
      · exfalso
        have hb : (k == NameKind.free) = false := by simpa using hk
        simp only [hb, Bool.false_and, Bool.false_eq_true, if_false] at r
        have hc := co.cell
        rcases h with h | h
        · have e := h.symm.trans r
          cases e
          have := mem_look q
          exact hc _ this rfl
        · have e := h.symm.trans r
          cases e
          exact hk rfl
  refine ⟨⟨I.ok.mod, co.kind, I.ok.glob, I.ok.blt, hC, fun y z c h1 h2 => I.ok.inj y z c (cl1 y c h1) (cl1 z c h2), fun y h => ?_, (fun y c h => Bool.noConfusion h), I.ok.hd, I.ok.frames, .inl rfl, (fun b hb => by cases hb), fun b o e => I.bs b o e, Nat.le_trans I.ok.bsz I.sz, (fun b o e hb => by cases hb), (fun b hb => by cases hb), I.stack, I.stkFree⟩,
    ho, I4.bare, u, ⟨m, hns, fun i y v e1 e2 e3 => ?_⟩, fun y c h => I4.cell y c (cl1 y c h), hCn, fun y c h => I4.freeC y c (cl1 y c h), fun p hp => ?_, I4.hok, ?_, trivial⟩
  · have := free_of h
    exact cl2 y (mem_look this)
  · by_cases hi : i < σ.length
    · rw [List.getElem?_append_left hi] at e2
      have hlen : i < X.N.length := by have := I4.len; omega
      have e1' : X.N[i]? = some y := by
        have : (X.N ++ [x])[i]? = some y := e1
        rwa [List.getElem?_append_left hlen] at this
      obtain ⟨hm, e0⟩ := List.getElem?_eq_some_iff.mp e1'
      have hy : y ∈ X.N := e0 ▸ List.getElem_mem hm
      rcases e3 with e3 | e3
      · exfalso
        have r := @relabel_lookup X.env sc.names y
        cases q : sc.names.lookup y with
        | none => rw [q] at r; have := (show List.lookup y _ = _ from e3).symm.trans r; cases this
        | some k =>
          rw [q] at r
          simp only [Option.map_some] at r
          have e := (show List.lookup y _ = _ from e3).symm.trans r
          injection e with e
          split at e
          · cases e
          · rw [← e] at q
            exact co.loc y hy q
      · have hf := free_of e3
        have hcell := co.fr (y, .free) (mem_look hf) rfl
        obtain ⟨c, hc⟩ := cl2 y (mem_look hf)
        obtain ⟨m', _, hl⟩ := I4.loc
        obtain ⟨w, r, l⟩ := hl i y v e1' e2 (.inr (.inl hcell))
        refine ⟨w, r, .inr ⟨e3, c, hc, ?_⟩⟩
        rcases l with ⟨hk, _⟩ | ⟨_, c', hc', z⟩
        · have : X.env.scope.names.lookup y = some .local := hk
          rw [hcell] at this; cases this
        · have := (cl1 y c hc).symm.trans hc'
          cases this
          exact z
    · rw [List.getElem?_append_right (by omega)] at e2
      cases q : i - σ.length with
      | zero => rw [q] at e2; simp at e2
      | succ k => rw [q] at e2; simp at e2
  · have hp : p ∈ X.pn ++ pins := by simpa using hp
    obtain ⟨a1, a2, a3, a4, a5⟩ := I4.pin p hp
    obtain ⟨b1, _⟩ := I.pin p hp
    exact ⟨a1, a2, lt b1, fun z => by
      rcases List.mem_cons.mp (I.stkSub _ z) with e | e
      · exact a3 e
      · exact a4 e, a5⟩
  · show (σ ++ [none]).length = (X.N ++ [x]).length
    simp [I4.len]
theorem cmp_leave {pins' : List (Addr × Obj)} {σ' : St} {s' : Shared} {H' : Hp} {h' : Heap} (I : Inv X pins σ Hb sb) (J : Inv ((CmpX X sc cl C sb Hb (X.pn ++ pins) x).wish E) pins' σ' H' s') (hC : sb.heap.objs.size ≤ C) (sbt : Heap.SameBut C s'.heap h') : Inv X pins σ H' { s' with heap := h' } := by
  have I1 : Inv X pins σ H' s' := I.call' (ch := []) J.os J.base J.hok J.bare (fun b z => by cases z)
  have lt : ∀ {b o}, sb.heap.get? b = some o → b ≠ C := fun {b o} e z => absurd (Nat.lt_of_lt_of_le (Heap.lt_size e) (z ▸ hC)) (Nat.lt_irrefl _)
  refine I1.turned (t' := s'.toks) (it := C) (fun b o hb e => sbt.extBut b o hb e) J.free (fun z => ?_) (.inr (Nat.le_trans I.sz hC)) (fun y c h z => ?_) (fun p hp z => ?_)
  · obtain ⟨mm, ⟨o, _, _, ho, _⟩, _⟩ := I.loc
    exact lt ho z.symm
  · obtain ⟨v, o, ho, _⟩ := I.cell y c h
    exact lt ho z
  · exact lt (I.pin p hp).1 z
end
def PIcE (X : Cx) (pins : List (Addr × Obj)) (σ : St) (tg : Expr) (R : It → Hp → Prop) (itv : Value) (s2 : Shared) : Prop :=
  ∃ (sb : Shared) (Hb : Hp) (it : Addr) (fp : List Addr) (tn : Nat → Heap → Prop) (J : It), itv = .ref it ∧ Inv X pins σ Hb sb ∧ Inv X pins σ Hb s2 ∧ (∀ b o, sb.heap.get? b = some o → s2.heap.get? b = some o) ∧ s2.os = sb.os ∧ sb.heap.objs.size ≤ s2.heap.objs.size ∧
    Turn X.prog X.w X.K tg J fp it tn ∧ tn 0 s2.heap ∧ (∀ b ∈ fp, sb.heap.objs.size ≤ b ∧ b < s2.heap.objs.size) ∧ R J Hb
def PIc (X : Cx) (tg iter : Expr) (wi : TI) : Prop :=
  ∀ (pins : List (Addr × Obj)) (s : Shared) (σ : St) (H : Hp) (R : It → Hp → Prop), Inv X pins σ H s → wi σ H R →
    wpAny (model X.prog X.w) X.A (eval iter X.env) (fun v s1 => wpAny (model X.prog X.w) X.A (pyIter v) (PIcE X pins σ tg R) X.xe s1) X.xe s
section
variable {X : Cx} {tg : Expr}
theorem pic_list {l : Expr} {tl : TE} (hl : PE X l tl) : PIc X tg l (iList X.K tl) := by
  intro pins s σ H R I h
  refine thn (hl pins s σ H _ I h) fun v s1 ⟨x, H1, I1, r1, q1⟩ => ?_
  obtain ⟨a, e, ⟨xs, hq⟩, q⟩ := q1
  subst e
  cases r1
  obtain ⟨its, rv, p, hz⟩ := I1.list hq
  refine wpAny_pyIter_list p.isList ?_
  refine ⟨s1, H1, s1.heap.objs.size, [s1.heap.objs.size], _, _, rfl, I1, I1.kept (t' := s1.toks) fun b o e => Heap.get?_push_of_some _ e, fun b o e => Heap.get?_push_of_some _ e, rfl, by simp [Heap.size_push], turn_list a _, ⟨_, Heap.get?_push_size _ rfl, rfl, rfl⟩, fun b hb => ?_, q⟩
  have e : b = s1.heap.objs.size := by simpa using hb
  subst e
  simp [Heap.size_push]
theorem pic_tup {l : Expr} {tl : TE} (hl : PE X l tl) : PIc X tg l (iTup X.K tl) := by
  intro pins s σ H R I h
  refine thn (hl pins s σ H _ I h) fun v s1 ⟨x, H1, I1, r1, q1⟩ => ?_
  obtain ⟨a, e, ⟨xs, hq⟩, q⟩ := q1
  subst e
  cases r1
  obtain ⟨its, rv, p, hz⟩ := I1.tuple hq
  refine wpAny_pyIter_tuple (show s1.heap.IsTuple a its.toArray from p) ?_
  refine ⟨s1, H1, s1.heap.objs.size, [s1.heap.objs.size], _, _, rfl, I1, I1.kept (t' := s1.toks) fun b o e => Heap.get?_push_of_some _ e, fun b o e => Heap.get?_push_of_some _ e, rfl, by simp [Heap.size_push], turn_tuple a _, ⟨_, Heap.get?_push_size _ rfl, rfl, rfl⟩, fun b hb => ?_, q⟩
  have e : b = s1.heap.objs.size := by simpa using hb
  subst e
  simp [Heap.size_push]
theorem rangeC_it {pins : List (Addr × Obj)} {σ : St} {H : Hp} {s : Shared} {R : It → Hp → Prop} {E : Value → Shared → Prop} {lo hi : Int} {t u v : Tok} {tk : Nat} (I : Inv X pins σ H s) (h1 : -(2 ^ 62) ≤ lo) (h2 : lo < 2 ^ 62) (h3 : -(2 ^ 62) ≤ hi) (h4 : hi < 2 ^ 62)
    (q : R (Itr lo (hi - lo).toNat) H) : wpAny (model X.prog X.w) X.A (pyIter (.ref s.heap.objs.size)) (PIcE X pins σ tg R) E { s with heap := s.heap.push { cls := .type "range", data := .fields #[.int lo t, .int hi u, .int 1 v] }, toks := tk } := by
  refine wpAny_pyIter_range (IsRange.new ..) (small_one h1 h2 h3 h4) ?_
  have I1 : Inv X pins σ H { s with heap := s.heap.push { cls := .type "range", data := .fields #[.int lo t, .int hi u, .int 1 v] }, toks := tk } := I.kept fun b o e => Heap.get?_push_of_some _ e
  refine ⟨s, H, (s.heap.push { cls := .type "range", data := .fields #[.int lo t, .int hi u, .int 1 v] }).objs.size, [(s.heap.push { cls := .type "range", data := .fields #[.int lo t, .int hi u, .int 1 v] }).objs.size], _, _, rfl, I,
    I1.kept (t' := tk) fun b o e => Heap.get?_push_of_some _ e, fun b o e => Heap.get?_push_of_some _ (Heap.get?_push_of_some _ e), rfl, by simp [Heap.size_push]; omega, turn_range _ lo (hi - lo).toNat, ?_, fun b hb => ?_, q⟩
  · have e1 : lo + ((0 : Nat) : Int) * 1 = lo := by simp
    have e2 : (((hi - lo).toNat : Nat) : Int) - ((0 : Nat) : Int) = Builtin.Range.rangeSize lo hi 1 := by rw [rangeSize_one]; split <;> omega
    show IsRangeIter _ _ (lo + ((0 : Nat) : Int) * 1) ((((hi - lo).toNat : Nat) : Int) - ((0 : Nat) : Int)) 1
    rw [e1, e2]
    exact Heap.get?_push_size _ rfl
  · have e : b = (s.heap.push { cls := .type "range", data := .fields #[.int lo t, .int hi u, .int 1 v] }).objs.size := by simpa using hb
    subst e
    simp [Heap.size_push]
theorem pic_range2 {a b : Expr} {ta : TA} {p pos : Pos} (hg : Gl X "range") (hm : X.mg "range" = none) (ha : PA X [a, b] ta) (hs : starEach [a, b] X.env = [(false, eval a X.env), (false, eval b X.env)]) (hs2 : starEach [b] X.env = [(false, eval b X.env)]) :
    PIc X tg (.Call (.Name "range" p) [a, b] [] pos) (iRng2 ta) := by
  intro pins s σ H R I h
  refine Call_ (ld_blt I hg hm boot_range (PyProof.Rows.callWith_type1 (thn (ha pos pins s σ H _ I h) fun us s1 ⟨vs, H1, I1, r1, q1⟩ => ?_) (by rw [hs, hs2]) (by rw [hs2]; rfl)))
  obtain ⟨i, j, e, ⟨q1, q2, q3, q4⟩, q⟩ := q1
  subst e
  cases r1 with
  | cons r rr =>
    cases rr with
    | cons r' rr =>
      cases rr
      obtain ⟨t, rfl⟩ := r
      obtain ⟨t', rfl⟩ := r'
      exact call_range_2 (rangeC_it I1 q1 q2 q3 q4 q)
end
def PIcz (κ : Nat → Addr) (B : Gd) (X : Cx) (tg e : Expr) (f : Ev → R (List D)) : Prop := ∀ pins σ Ex, PIc (At X pins σ Ex) tg e (tO (fun G _ J ds => IsIt X κ J G ds) X κ B (EX X pins σ Ex) f)
theorem pic_imp {Y : Cx} {tg e : Expr} {w w' : TI} (h : PIc Y tg e w) (k : ∀ σ H R, w' σ H R → w σ H R) : PIc Y tg e w' := fun pins s σ H R I q => h pins s σ H R I (k σ H R q)
theorem pic_or {Y : Cx} {tg e : Expr} {w w' : TI} (h : PIc Y tg e w) (h' : PIc Y tg e w') : PIc Y tg e (fun σ H R => w σ H R ∨ w' σ H R) := fun pins s σ H R I q => q.elim (h pins s σ H R I) (h' pins s σ H R I)
section
variable {κ : Nat → Addr} {B : Gd} {X : Cx} {e tg : Expr} {f : Ev → R D} {pos : Pos}
theorem picz_seq (h : PX κ B X e f) : PIcz κ B X tg e (fun δ => (f δ).bind itemsD) := fun pins σ Ex =>
  pic_imp (pic_or (pic_list (X := At X pins σ Ex) (h pins σ Ex)) (pic_tup (X := At X pins σ Ex) (h pins σ Ex))) fun τ H R ⟨G, δ, rp, q⟩ => by
    dsimp only at q
    cases e : f δ with
    | ok d =>
      rw [e] at q
      cases d with
      | lst ds =>
        refine .inl ⟨G, δ, rp, ?_⟩
        rw [e]
        intro v H' G' e1 d1
        unfold Den at d1
        obtain ⟨a, vs, rfl, h1, h2⟩ := d1
        exact ⟨a, rfl, ⟨vs, e1.GH.seq h1⟩, q _ H' G' e1 (isIt_list (H := H') h1 h2)⟩
      | tup ds =>
        refine .inr ⟨G, δ, rp, ?_⟩
        rw [e]
        intro v H' G' e1 d1
        unfold Den at d1
        obtain ⟨a, vs, rfl, h1, h2⟩ := d1
        exact ⟨a, rfl, ⟨vs, same_seqT e1.GH h1⟩, q _ H' G' e1 (isIt_tup (H := H') h1 h2)⟩
      | _ => exact False.elim q
    | exc c =>
      rw [e] at q
      refine .inl ⟨G, δ, rp, ?_⟩
      rw [e]
      exact q
    | stuck => rw [e] at q; exact False.elim q
theorem picz_range2 {a b : Expr} {fs : Ev → R (List D)} {p pos : Pos} (hg : Gl X "range") (hm : X.mg "range" = none) (ha : PXs κ B X [a, b] fs) (h : noStar a = true) (h' : noStar b = true) : PIcz κ B X tg (.Call (.Name "range" p) [a, b] [] pos) (fun δ => (fs δ).bind iR2) := fun pins σ Ex =>
  pic_imp (pic_range2 (X := At X pins σ Ex) hg hm (ha pins σ Ex) (by rw [star_cons h, star_cons h']; rfl) (star_cons h')) fun τ H R ⟨G, δ, rp, q⟩ => ⟨G, δ, rp, q.seq fun x v H1 G1 e1 d1 q1 => by
    unfold iR2 at q1
    split at q1
    · rename_i i j
      split at q1
      · rename_i hj
        exact ⟨i, j, dens_int2 d1, ⟨hj.1.1, hj.1.2, hj.2.1, hj.2.2⟩, q1 _ H1 G1 (Ext.refl e1.GH) (isIt_rng (lo := i) (n := (j - i).toNat))⟩
      · exact False.elim q1
    · exact False.elim q1⟩
end
def shE (δ : Ev) : Ev := δ.map fun o => match o with
  | some (.sh d) => some (.sh d)
  | _ => none
def compZ (t : Ev → R Bool) (f : Ev → R D) (δ : Ev) : List D → R (List D)
  | [] => .ok []
  | d :: ds => (t (δ ++ [some (.sh d)])).bind fun k => if k then (f (δ ++ [some (.sh d)])).bind fun y => (compZ t f δ ds).bind fun ys => .ok (y :: ys) else compZ t f δ ds
def noX : R (List D) → R (List D)
  | .ok l => .ok l
  | _ => .stuck
def mComp (fit : Ev → R (List D)) (t : Ev → R Bool) (f : Ev → R D) : Ev → R (List D) := fun δ => (fit δ).bind fun ds => if ds.length ≤ 1000000 then noX (compZ t f (shE δ) ds) else .stuck
def PTs (κ : Nat → Addr) (B : Gd) (X : Cx) (ifs : List Expr) (t : Ev → R Bool) : Prop := ∀ pins σ Ex s H Q, Inv (At X pins σ Ex) pins σ H s → tO bRel X κ B (EX X pins σ Ex) t σ H Q →
  wpAny (model X.prog X.w) X.A (forIn ifs true fun c r => if r = true then do let ok ← isTrue c X.env (eval c X.env); pure (ForInStep.yield ok) else pure (ForInStep.yield r)) (TP (At X pins σ Ex) pins σ Q) Ex s
theorem pts_nil {κ : Nat → Addr} {B : Gd} {X : Cx} : PTs κ B X [] (fun _ => .ok true) := fun pins σ Ex s H Q I ⟨G, δ, rp, q⟩ => wpAny_tests_nil ⟨H, I, q true H G (Ext.refl rp.GH) rfl⟩
theorem pts_one {κ : Nat → Addr} {B : Gd} {X : Cx} {c : Expr} {t : Ev → R Bool} (h : PXt κ B X c t) : PTs κ B X [c] t := fun pins σ Ex s H Q I q => wpAny_tests_one (h pins σ Ex pins s σ H Q I q)
theorem rep_comp {Z : Zx} {B : Gd} {H₀ G₁ H₁ G H : Hp} {σ : St} {δ : Ev} {v : V} {d : D} (rp : Rep Z B H₀ G₁ H₁ σ δ) (e : Ext G₁ H₁ G H) (dv : Den Z G v d) : Rep Z ⟨G₁, fun _ => False⟩ H₁ G H (σ ++ [some v]) (shE δ ++ [some (.sh d)]) := by
  have hl : (shE δ).length = δ.length := by simp [shE]
  have cases' : ∀ {i : Nat} {o : Sl}, (shE δ ++ [some (.sh d)])[i]? = some (some o) → ∃ d', o = .sh d' ∧ ∃ w, (σ ++ [some v])[i]? = some (some w) ∧ Den Z G w d' := fun {i o} q => by
    by_cases hi : i < δ.length
    · rw [List.getElem?_append_left (by omega)] at q
      simp only [shE, List.getElem?_map] at q
      cases z : δ[i]? with
      | none => rw [z] at q; cases q
      | some o' =>
        rw [z] at q
        simp only [Option.map_some, Option.some.injEq] at q
        split at q
        · rename_i d'
          cases q
          obtain ⟨w, e1, e2⟩ := rp.sh i d' z
          exact ⟨d', rfl, w, by rw [List.getElem?_append_left (by rw [rp.len]; exact hi)]; exact e1, e2.mono e.sG⟩
        · cases q
    · rw [List.getElem?_append_right (by omega), hl] at q
      cases z : i - δ.length with
      | succ k => rw [z] at q; simp at q
      | zero =>
        rw [z] at q
        simp at q
        refine ⟨d, q.symm, v, ?_, dv⟩
        rw [List.getElem?_append_right (by rw [rp.len]; omega), rp.len, z]
        rfl
  refine ⟨⟨e.sG, e.GH, fun b o q _ => e.sH _ _ q, fun b q => ?_, fun b q n => ?_⟩, by simp [hl, rp.len], fun i d' q => ?_, fun i ds q => ?_, fun i j ds es a n q1 => ?_, fun i c ns ds q => ?_, fun i j c ns ds c' ns' ds' x0 n0 q => ?_⟩
  · cases z : H₁ b with
    | none => exact absurd z q
    | some o => rw [e.sH _ _ z]; simp
  · cases z : G b with
    | none => rfl
    | some o => exact ((e.new b (by rw [z]; simp)).elim (fun y => y n) fun y => q y).elim
  · obtain ⟨d'', e1, w, e2, e3⟩ := cases' q
    cases e1
    exact ⟨w, e2, e3⟩
  · obtain ⟨d'', e1, _⟩ := cases' q; cases e1
  · obtain ⟨d'', e1, _⟩ := cases' q1; cases e1
  · obtain ⟨d'', e1, _⟩ := cases' q; cases e1
  · obtain ⟨d'', e1, _⟩ := cases' q; cases e1
section
variable {κ : Nat → Addr} {B : Gd} {X : Cx} {sc : Scope} {x : Str} {px pos : Pos} {iter elt : Expr} {ifs : List Expr} {fit : Ev → R (List D)} {t : Ev → R Bool} {f : Ev → R D}
def CompEnd (κ : Nat → Addr) (X : Cx) (sc : Scope) (x : Str) (pins : List (Addr × Obj)) (σ : St) (Ex : Value → Shared → Prop) (G H : Hp) (l : List D) (Da C : Addr) (s1 : Shared) : Prop :=
  ∃ (sb : Shared) (Hb : Hp) (cl : List (Str × Addr)) (E' : Value → Shared → Prop) (ov : Option V) (H3 G3 : Hp) (vs : List V), Inv (At X pins σ Ex) pins σ Hb sb ∧ sb.heap.objs.size ≤ C ∧ Inv ((CmpX X sc cl C sb Hb (X.pn ++ pins) x).wish E') [] (σ ++ [ov]) H3 s1 ∧ Ext G H G3 H3 ∧ H3 Da = some (.lst vs) ∧ G3 Da = none ∧ H Da = none ∧ Dens ⟨X.K, κ⟩ G3 vs l
theorem comp_core {pins : List (Addr × Obj)} {τ : St} {Ex : Value → Shared → Prop} {s : Shared} {H G : Hp} {δ : Ev} {use : Option (Value → Sem Unit)} {Qv : Value → Shared → Prop} {cpos : Pos} (hc : X.calm = true) (co : CompOk X sc x) (hi : PIcz κ B X (.Name x px) iter fit)
    (ht : ∀ B' cl C s₁ H₁ pn, PTs κ B' (CmpX X sc cl C s₁ H₁ pn x) ifs t) (he : ∀ B' cl C s₁ H₁ pn, PX κ B' (CmpX X sc cl C s₁ H₁ pn x) elt f)
    (hs : ∀ x, foldedSetIterable iter X.env x = pure x) (I : Inv (At X pins τ Ex) pins τ H s) (rp : Rep ⟨X.K, κ⟩ B X.H₀ G H τ δ)
    (q : match mComp fit t f δ with
      | .ok l => ∀ Da C s1, CompEnd κ X sc x pins τ Ex G H l Da C s1 → compPost (model X.prog X.w) X.A Ex use Qv (.ref Da) C (.ok .next) s1
      | .exc c => ∀ H' G', Ext G H G' H' → EX X pins τ Ex (.ref (κ c)) none H'
      | .stuck => False) :
    wpAny (model X.prog X.w) X.A (comprehension (.ListComp elt [⟨.Name x px, iter, ifs, 0⟩] sc pos) sc X.env cpos (newList []) false (eval iter X.env) use) Qv Ex s := by
  obtain ⟨cl, hcl, cl1, cl2⟩ := closure_ok (env := X.env) sc.names [] (fun y hy hk => by
    have := co.fr y hy hk
    exact I.ok.has y.1 (.inl this)) (fun y c h => by cases h)
  have hclos : closureFor sc X.env = pure cl := by
    unfold closureFor
    simp only [bind_pure]
    exact hcl
  refine wpAny_comprehension_free (use := use) rfl hs hclos co.kind co.names ?_
  refine thn (hi pins τ Ex pins s τ H (fun J H' => ∃ G' ds, Ext G H G' H' ∧ IsIt X κ J G' ds ∧ (match (if ds.length ≤ 1000000 then noX (compZ t f (shE δ) ds) else .stuck) with | .ok l => ∀ Da C s1, CompEnd κ X sc x pins τ Ex G H l Da C s1 → compPost (model X.prog X.w) X.A Ex use Qv (.ref Da) C (.ok .next) s1 | _ => False)) I ⟨G, δ, rp, ?_⟩) fun v s1 h1 => thn h1 fun itv s2 h2 => ?_
  · unfold mComp at q
    cases e : fit δ with
    | ok ds =>
      rw [e] at q
      simp only [R.bind_ok] at q
      refine fun J H' G' e1 d1 => ⟨G', ds, e1, d1, ?_⟩
      by_cases hb : ds.length ≤ 1000000
      · rw [if_pos hb] at q ⊢
        cases ez : compZ t f (shE δ) ds with
        | ok l => rw [ez] at q; exact q
        | exc c => rw [ez] at q; exact False.elim q
        | stuck => rw [ez] at q; exact False.elim q
      · rw [if_neg hb] at q; exact False.elim q
    | exc c => rw [e] at q; exact q
    | stuck => rw [e] at q; exact q
  obtain ⟨sb, Hb, it, fp, tn, J, rfl, Ib, I2, kb, hos, hsz, T, st2, hfp, Gb, ds, e1, ⟨us, dus, hJ⟩, q2⟩ := h2
  have rpb : Rep ⟨X.K, κ⟩ B X.H₀ Gb Hb τ δ := rp.ext e1
  have hlen := dus.length
  by_cases hbig : ds.length ≤ 1000000
  case neg => rw [if_neg hbig] at q2; exact False.elim q2
  rw [if_pos hbig] at q2
  cases ez : compZ t f (shE δ) ds with
  | exc c => rw [ez] at q2; exact False.elim q2
  | stuck => rw [ez] at q2; exact False.elim q2
  | ok l =>
  rw [ez] at q2
  have hf2 : Hb s2.heap.objs.size = none := I2.hok.fresh (Nat.le_refl _)
  have I3 := I2.laid (a := s2.heap.objs.size) (o := .lst []) (t' := s2.toks) (h' := s2.heap.push { cls := .type "list", dict := none, data := .seq ([] : List Value).toArray }) (fun b u e => Heap.get?_push_of_some _ e) (Nat.le_refl _) ⟨by decide, [], 0, .nil, Heap.get?_push_size _ rfl⟩
  refine wpAny_newObj_type (wpAny_newFunctionEnv co.cell (by intro y hy; simp at hy) (fun h4 hns4 hsb4 => ?_) co.kind)
  dsimp only at hns4 hsb4 ⊢
  generalize hH3 : s2.heap.push { cls := .type "list", dict := none, data := .seq ([] : List Value).toArray } = H3 at hns4 hsb4 I3 ⊢
  have hC : H3.objs.size = s2.heap.objs.size + 1 := by rw [← hH3, Heap.size_push]
  have k34 : ∀ b o, H3.get? b = some o → h4.get? b = some o := fun b o e => hsb4.extBut b o (Nat.ne_of_lt (Heap.lt_size e)) (Heap.get?_push_of_some _ e)
  generalize hs4 : ({ s2 with heap := h4, toks := s2.toks + ([] : List (Str × Value)).length } : Shared) = s4
  have I4 : Inv (At X pins τ Ex) pins τ (upd Hb s2.heap.objs.size (.lst [])) s4 := by
    have := I3.kept (t' := s2.toks + ([] : List (Str × Value)).length) k34
    rw [← hs4]; exact this
  have hh4 : s4.heap = h4 := by rw [← hs4]
  have kb4 : ∀ b o, sb.heap.get? b = some o → s4.heap.get? b = some o := fun b o e => by
    rw [hh4]; exact k34 b o (by rw [← hH3]; exact Heap.get?_push_of_some _ (kb b o e))
  have ub4 : Un (frs X.stack) [] Hb (upd Hb s2.heap.objs.size (.lst [])) sb.heap s4.heap := Un.laid kb4 hsz hf2
  have hCb : sb.heap.objs.size ≤ H3.objs.size := by omega
  have hfpD : ∀ b ∈ fp, b ≠ s2.heap.objs.size := fun b hb => Nat.ne_of_lt (hfp b hb).2
  have hfpC : ∀ b ∈ fp, b ≠ H3.objs.size := fun b hb => Nat.ne_of_lt (Nat.lt_trans (hfp b hb).2 (by rw [hC]; exact Nat.lt_succ_self _))
  have hDC0 : s2.heap.objs.size ≠ H3.objs.size := by omega
  generalize hD : s2.heap.objs.size = Da at *
  generalize hCC : H3.objs.size = C at *
  have hDC : Da ≠ C := hDC0
  let R := compPost (model X.prog X.w) X.A Ex use Qv (.ref Da) C
  let E' := notedBy (model X.prog X.w) X.A (compEnvC sc cl C X.env) fun e s' => R (.error e) s'
  have ent := fun (E : Value → Shared → Prop) => cmp_enter (E := E) Ib I4 ub4 (by rw [← hs4]; exact hos) (x := x) (sc := sc) (cl := cl) (C := C) ⟨co.cell, co.kind, co.names, co.hx, co.loc, co.fr, co.nd⟩ cl1 (fun y hy => cl2 y (.inr hy)) hCb (by rw [hh4]; exact hns4) (by
    rw [upd_ne (Ne.symm hDC)]
    exact Ib.hok.fresh hCb)
  let X' : Cx := CmpX X sc cl C sb Hb (X.pn ++ pins) x
  have lt : ∀ {b o}, sb.heap.get? b = some o → ∀ c ∈ fp, b ≠ c := fun {b o} e c hc z => absurd (Nat.lt_of_lt_of_le (Heap.lt_size e) (z ▸ (hfp c hc).1)) (Nat.lt_irrefl _)
  have fok : ∀ (E : Value → Shared → Prop) (pl : List (Addr × Obj)) (H' : Hp), pl = [] → (∀ b ∈ fp, H' b = none) → ∀ b ∈ fp, FpOk (X'.wish E) pl H' b := fun E pl H' epl hn b hb => by
    subst epl
    refine ⟨hn b hb, fun z => ?_, fun z => ?_, .inr (hfp b hb).1, fun y c e => ?_, fun p hp => ?_⟩
    · exact hfpC b hb z
    · obtain ⟨_, o, ho, _⟩ := Ib.stack.mem z
      exact lt ho b hb rfl
    · obtain ⟨v, o, ho, _⟩ := Ib.cell y c (cl1 y c e)
      exact lt ho b hb
    · have hp : p ∈ (X.pn ++ pins) ++ [] := hp
      rw [List.append_nil] at hp
      exact lt (Ib.pin p hp).1 b hb
  have sgA : ∀ (E : Value → Shared → Prop) p τ', (X'.wish E).sg p τ' := fun _ _ _ => trivial
  have hN' : X'.N.Nodup := by
    show (X.N ++ [x]).Nodup
    rw [List.nodup_append]
    refine ⟨co.nd, by simp, fun a ha b hb z => ?_⟩
    have : b = x := by simpa using hb
    subst this
    subst z
    exact co.loc _ ha co.hx
  have hlt : τ.length = X.N.length := I4.len
  have loop : codeAny (model X.prog X.w) X.A (.compLoop (.ListComp elt [⟨.Name x px, iter, ifs, 0⟩] sc pos) 0 (.ref it) (.ref Da) (compEnvC sc cl C X.env)) R s4 := by
    refine codeAny_compLoop_tests (fun n s' => ∃ i ov H' G' acc vs rest, Inv (X'.wish E') [] (τ ++ [ov]) H' s' ∧ tn i s'.heap ∧ (∀ b ∈ fp, H' b = none) ∧ n = ds.length - i ∧ i ≤ ds.length ∧ Ext Gb Hb G' H' ∧ H' Da = some (.lst vs) ∧ G' Da = none ∧ Dens ⟨X.K, κ⟩ G' vs acc ∧ acc.length ≤ i ∧ compZ t f (shE δ) (ds.drop i) = .ok rest ∧ acc ++ rest = l) ?_ ds.length ?_ (by intro _; rfl)
    case refine_2 =>
      refine ⟨0, none, _, Gb, [], [], l, ent E', T.keep 0 _ _ st2 (fun b _ o e => ?_), fun b hb => ?_, rfl, Nat.zero_le _, ext_own e1.GH hf2, upd_same, e1.GH.free hf2, dens_nil, Nat.le_refl _, by simpa using ez, rfl⟩
      · rw [hh4]; exact k34 b o (by rw [← hH3]; exact Heap.get?_push_of_some _ e)
      · rw [upd_ne (hfpD b hb)]
        exact Ib.hok.fresh (hfp b hb).1
    rintro n s3 ⟨i, ov, H3', G3, acc, vs, rest, Iv, st3, fr3, rfl, hi3, ext3, hD3, gD3, dacc, hacc, hz, hl⟩
    have same3 : Same Gb H3' := ext3.sG.trans ext3.GH
    by_cases hlt3 : i < ds.length
    · obtain ⟨go, yl⟩ := (hJ H3' same3 i).1 (by omega)
      refine thn (T.item (X'.wish E') rfl rfl rfl hc i [] s3 _ H3' E' Iv (fok E' [] H3' rfl fr3) st3 go) fun r s4' ⟨u, hr, h4'⟩ => ?_
      subst hr
      intro Γ pp hΓ
      obtain ⟨xv, H5, I5, r5, y5, st5, fr5⟩ := h4' Γ pp hΓ
      refine (?_ : wpAny (model X.prog X.w) X.A (assign (.Name x px) (compEnvC sc cl C X.env) u) _ E' s4') Γ pp hΓ
      obtain ⟨e5, vx⟩ := yl xv H5 y5
      subst e5
      have I5' := Inv.pinned (sgA E') I5 (fok E' [] _ rfl fr5) (T.obj _ _ st5)
      obtain ⟨dx, hdx⟩ : ∃ d, ds[i]? = some d := ⟨ds[i], by simp [hlt3]⟩
      have dd : Den ⟨X.K, κ⟩ G3 xv dx := by
        obtain ⟨v', z1, z2⟩ := dus.get hdx
        rw [vx] at z1; cases z1
        exact z2.mono ext3.sG
      have hdrop : ds.drop i = dx :: ds.drop (i + 1) := by
        rw [List.drop_eq_getElem_cons hlt3]
        simp [hlt3] at hdx
        rw [hdx]
      rw [hdrop] at hz
      unfold compZ at hz
      have hxl : (X'.wish E').env.scope.names.lookup x = some .local := cmp_look (cl := cl) (C := C) (s₁ := sb) (H₁ := Hb) (pn := X.pn ++ pins) (x := x) co.hx (by decide)
      refine thn (pg_name (X := X'.wish E') (i := X.N.length) (pos := px) hN' (cmp_x (sc := sc) (cl := cl) (C := C) (s₁ := sb) (H₁ := Hb) (pn := X.pn ++ pins) rfl) (.inl hxl) (.inr hxl) (fun _ _ _ _ => trivial) _ s4' _ _ xv u (fun σ' H' => σ' = τ ++ [some xv] ∧ H' = H5) I5' r5 ⟨?_, rfl⟩) fun _ s6 ⟨σ6, H6, I6, e6, e6'⟩ => ?_
      · rw [← hlt, List.set_append_right _ _ (Nat.le_refl _)]; simp
      subst e6 e6'
      have rp6 := rep_comp rpb ext3 dd
      have back : ∀ {s7 : Shared} {H7 : Hp} {ov' : Option V}, Inv (X'.wish E') ([] ++ pinsAt fp s4'.heap) (τ ++ [ov']) H7 s7 → Inv (X'.wish E') [] (τ ++ [ov']) H7 s7 ∧ tn (i + 1) s7.heap ∧ ∀ b ∈ fp, H7 b = none := fun {s7 H7 ov'} I7 =>
        ⟨Inv.unpinned (sgA E') I7, T.keep _ _ _ st5 fun b hb o e => (I7.pin (b, o) (List.mem_append_right _ (List.mem_append_right _ (mem_pinsAt hb e)))).1, fun b hb => by
          obtain ⟨o, e, _⟩ := T.obj _ _ st5 b hb
          exact (I7.pin (b, o) (List.mem_append_right _ (List.mem_append_right _ (mem_pinsAt hb e)))).2.1⟩
      have keepD : ∀ {Ga Ha G' H' : Hp} {ws : List V}, Ext Ga Ha G' H' → Ha Da = some (.lst ws) → Ga Da = none → H' Da = some (.lst ws) ∧ G' Da = none := fun {Ga Ha G' H' ws} ee h1 h2 => by
        refine ⟨ee.sH _ _ h1, ?_⟩
        cases z : G' Da with
        | none => rfl
        | some o =>
          rcases ee.new Da (by rw [z]; simp) with y | y
          · exact absurd h2 y
          · rw [h1] at y; cases y
      cases et : t (shE δ ++ [some (.sh dx)]) with
      | exc c => rw [et] at hz; cases hz
      | stuck => rw [et] at hz; cases hz
      | ok k =>
      rw [et] at hz
      simp only [L3.R.bind_ok] at hz
      refine thn (ht ⟨Gb, fun _ => False⟩ cl C sb Hb (X.pn ++ pins) _ _ E' s6 _ (fun b H' => b = k ∧ ∃ G', Ext G3 H6 G' H') (inv_at I6) ⟨G3, _, rp6, ?_⟩) fun ok s7 ⟨H7, I7, eok, G7, e7⟩ => ?_
      · rw [et]; exact fun b H' G' ee eb => ⟨eb, G', ee⟩
      subst eok
      have I7 := inv_unat (sgA (fun _ _ => False)) I7
      obtain ⟨hD7, gD7⟩ := keepD e7 hD3 gD3
      cases ok with
      | false =>
        simp only [Bool.false_eq_true, if_false] at hz ⊢
        obtain ⟨j1, j2, j3⟩ := back I7
        exact ⟨ds.length - (i + 1), by omega, i + 1, some xv, H7, G7, acc, vs, rest, j1, j2, j3, rfl, hlt3, ext3.trans e7, hD7, gD7, dacc.mono e7.sG, by omega, hz, hl⟩
      | true =>
        simp only [if_true] at hz ⊢
        cases ef : f (shE δ ++ [some (.sh dx)]) with
        | exc c => rw [ef] at hz; cases hz
        | stuck => rw [ef] at hz; cases hz
        | ok dy =>
        rw [ef] at hz
        simp only [L3.R.bind_ok] at hz
        refine thn (he ⟨Gb, fun _ => False⟩ cl C sb Hb (X.pn ++ pins) _ _ E' _ s7 _ H7 (fun y H' => ∃ G', Ext G7 H7 G' H' ∧ Den ⟨X.K, κ⟩ G' y dy) (inv_at I7) ⟨G7, _, rp6.ext e7, ?_⟩) fun yu s8 ⟨yv, H8, I8, ry, G8, e8, dy8⟩ => ?_
        · rw [ef]; exact fun y H' G' ee d => ⟨G', ee, d⟩
        have I8 := inv_unat (sgA (fun _ _ => False)) I8
        obtain ⟨hD8, gD8⟩ := keepD e8 hD7 gD7
        have lacc := dacc.length
        refine thn (mt_append (X := X'.wish E') _ s8 _ H8 (.ref Da) [yv] (.ref Da) [yu] (fun _ H' => H' = upd H8 Da (.lst (vs ++ [yv]))) I8 rfl (.cons ry .nil) ⟨Da, vs, yv, rfl, rfl, hD8, by rw [sizeLine_eq]; omega, rfl⟩) fun _ s9 ⟨_, H9, I9, _, e9⟩ => ?_
        subst e9
        obtain ⟨j1, j2, j3⟩ := back I9
        cases ez2 : compZ t f (shE δ) (ds.drop (i + 1)) with
        | exc c => rw [ez2] at hz; cases hz
        | stuck => rw [ez2] at hz; cases hz
        | ok rest' =>
        rw [ez2] at hz
        simp only [L3.R.bind_ok] at hz
        injection hz with hz
        have ex8 := (ext3.trans e7).trans e8
        refine ⟨ds.length - (i + 1), by omega, i + 1, some xv, _, G8, acc ++ [dy], vs ++ [yv], rest', j1, j2, j3, rfl, hlt3, ⟨ex8.sG, fun b o z => ?_, fun b o z => ?_, ex8.new⟩, upd_same, gD8, ((dacc.mono e7.sG).mono e8.sG).append (dens_cons dy8 dens_nil), by simp; omega, ez2, by rw [← hl, ← hz]; simp⟩
        · rw [upd_ne (by rintro rfl; rw [hf2] at z; cases z)]; exact ex8.sH b o z
        · rw [upd_ne (by rintro rfl; rw [gD8] at z; cases z)]; exact ex8.GH b o z
    · have hie : i = ds.length := by omega
      refine thn (T.done (X'.wish E') rfl rfl rfl hc i [] s3 _ H3' E' Iv (fok E' [] H3' rfl fr3) st3 ((hJ H3' same3 i).2 (by omega))) fun r s4' ⟨hr, I4'⟩ => ?_
      subst hr
      rw [hie, List.drop_length] at hz
      unfold compZ at hz
      injection hz with hz
      subst hz
      rw [List.append_nil] at hl
      subst hl
      exact q2 Da C s4' ⟨sb, Hb, cl, E', ov, H3', G3, vs, Ib, hCb, I4', e1.trans ext3, hD3, gD3, e1.sH.free hf2, dacc⟩
  have stn : tn 0 s4.heap := T.keep 0 _ _ st2 (fun b _ o e => by rw [hh4]; exact k34 b o (by rw [← hH3]; exact Heap.get?_push_of_some _ e))
  exact codeAny_compStart_list loop (T.self X.A 0 s4 _ _ stn loop)
theorem pxf_comp (hc : X.calm = true) (co : CompOk X sc x) (hi : PIcz κ B X (.Name x px) iter fit)
    (ht : ∀ B' cl C s₁ H₁ pn, PTs κ B' (CmpX X sc cl C s₁ H₁ pn x) ifs t) (he : ∀ B' cl C s₁ H₁ pn, PX κ B' (CmpX X sc cl C s₁ H₁ pn x) elt f)
    (hs : ∀ x, foldedSetIterable iter X.env x = pure x) : PXf κ B X (.ListComp elt [⟨.Name x px, iter, ifs, 0⟩] sc pos) (mComp fit t f) := fun pins σ Ex pins' s τ H Q I ⟨G, δ, rp, q⟩ => by
  obtain ⟨rfl, rfl⟩ := I.sgm
  show wpAny (model X.prog X.w) X.A (eval (.ListComp elt [⟨.Name x px, iter, ifs, 0⟩] sc pos) X.env) _ Ex s
  rw [eval_ListComp]
  refine comp_core (use := none) hc co hi ht he hs I rp ?_
  cases e : mComp fit t f δ with
  | ok l =>
    rw [e] at q
    rintro Da C s1 ⟨sb, Hb, cl, E', ov, H3, G3, vs, Ib, hCb, J, ex, h1, h2, h3, h4⟩
    obtain ⟨mm, hnn, _⟩ := J.loc
    exact ⟨mm, hnn, fun h' sbt => ⟨.ref Da, H3, cmp_leave (X := At X pins' τ Ex) (sc := sc) (cl := cl) (x := x) (E := E') Ib J hCb sbt, rfl, q Da vs H3 G3 ex h1 h2 h3 h4⟩⟩
  | exc c => rw [e] at q; exact q
  | stuck => rw [e] at q; exact q
end
end L3
set_option Elab.async false
set_option linter.all false
set_option maxRecDepth 100000
namespace L3
open PySem PySem.Spec PyProof.Rows L2
abbrev RRel (α : Type) := PySem.W.Frag → (Nat → Addr) → Hp → Hp → Hp → V → α → Prop
def ρ1 : RRel (List D) := fun K κ H₀ G' H' v ds => ∃ a vs, v = .ref a ∧ H' a = some (.lst vs) ∧ G' a = none ∧ H₀ a = none ∧ Dens ⟨K, κ⟩ G' vs ds
def PR {α : Type} (κ : Nat → Addr) (B : Gd) (X : Cx) (e : Expr) (ρ : RRel α) (f : Ev → R α) : Prop := ∀ pins σ Ex, PE (At X pins σ Ex) e (fun τ H Q => ∃ G δ, Rep ⟨X.K, κ⟩ B X.H₀ G H τ δ ∧ match f δ with
  | .ok r => ∀ v H' G', Hold B X.H₀ G' H' → ρ X.K κ X.H₀ G' H' v r → Q v H'
  | _ => False)
section
variable {α : Type} {ρ : RRel α} {κ : Nat → Addr} {B : Gd} {X : Cx} {e : Expr} {f : Ev → R α} {pos : Pos}
end
def spR {α : Type} (K : PySem.W.Frag) (κ : Nat → Addr) (n : Nat) (ρ : RRel α) (m : List D → R α) : Sp := fun vs H Q E => vs.length = n ∧ ∃ G ds, Same G H ∧ Dens ⟨K, κ⟩ G vs ds ∧ Out (fun G' H' v d => ρ K κ H G' H' v d) κ E G H (m ds) Q
structure CalR {α : Type} (κ : Nat → Addr) (X : Cx) (x : Str) (n : Nat) (ρ : RRel α) (m : List D → R α) : Prop where
  ex : ∃ f fd ps k, FnOk X.prog X.w X.K X.mg X.base (CXR X.prog X.w) k f fd ps (spR X.K κ n ρ m) ∧ Room k X.A ∧ X.mg x = some (.ref f) ∧ PySem.W.keepIn X.K (.ref f) = true ∧ Binds X.K fd ps []
def MCR {α : Type} (P : Program) (w : World) (K : PySem.W.Frag) (mg : Str → Option Value) (base : Heap) (κ : Nat → Addr) (x : Str) (ps : List Str) (ρ : RRel α) (m : List D → R α) (k : Nat) : Prop :=
  ∃ f fd, FnOk P w K mg base (CXR P w) k f fd ps (spR K κ ps.length ρ m) ∧ mg x = some (.ref f) ∧ PySem.W.keepIn K (.ref f) = true ∧ Binds K fd ps [] ∧ ∃ oc od osl, K.lookup f = some ⟨oc, od, .func fd, osl⟩
theorem MCR.cal {α : Type} {ρ : RRel α} {κ : Nat → Addr} {X : Cx} {x : Str} {ps : List Str} {n : Nat} {m : List D → R α} {k j : Nat} (h : MCR X.prog X.w X.K X.mg X.base κ x ps ρ m k) (hr : Room j X.A) (hj : k ≤ j) (hn : ps.length = n := by rfl) : CalR κ X x n ρ m := by
  obtain ⟨f, fd, F, h1, h2, h3, _⟩ := h
  subst hn
  exact ⟨f, fd, ps, k, F, hr.mono hj, h1, h2, h3⟩
def mF (m : List D → R (List D)) : List D → R D := fun ds => (m ds).bind fun l => .ok (.lst l)
theorem spF_imp {K : PySem.W.Frag} {κ : Nat → Addr} {n : Nat} {m : List D → R (List D)} : ∀ vs H Q E, spM K κ n (mF m) vs H Q E → spR K κ n ρ1 m vs H Q E := fun vs H Q E ⟨hl, G, ds, sm, dn, q⟩ => by
  refine ⟨hl, G, ds, sm, dn, ?_⟩
  unfold mF at q
  cases z : m ds with
  | ok l =>
    rw [z] at q
    intro v H' G' e1 ⟨a, ws, e2, h1, h2, h3, h4⟩
    subst e2
    have sg : Same G' (upd G' a (.lst ws)) := fun b o z => by rw [upd_ne (ne_of_none z h2)]; exact z
    exact q _ H' _ (ext_frz e1 h1 h2 h3) (by unfold Den; exact ⟨a, ws, rfl, SqL.of upd_same, h4.mono sg⟩)
  | exc c => rw [z] at q; exact q
  | stuck => rw [z] at q; exact q
theorem MCR.mc {P : Program} {w : World} {K : PySem.W.Frag} {mg : Str → Option Value} {base : Heap} {κ : Nat → Addr} {x : Str} {ps : List Str} {m : List D → R (List D)} {k : Nat} (h : MCR P w K mg base κ x ps ρ1 m k) : MC P w K mg base κ x ps (mF m) k := by
  obtain ⟨f, fd, F, r⟩ := h
  exact ⟨f, fd, F.imp spF_imp, r⟩
section
variable {κ : Nat → Addr} {B : Gd} {X : Cx} {a : Expr} {es : List Expr} {fs : Ev → R (List D)} {p pos : Pos} {x : Str} {m : List D → R (List D)} {n : Nat}
end
end L3
set_option Elab.async false
set_option linter.all false
set_option maxRecDepth 100000
namespace L3
open PySem PySem.Spec PyProof.Rows L2
section
variable {κ : Nat → Addr} {B : Gd} {X : Cx} {a b : Expr} {fa fb : Ev → R D} {pos : Pos}
end
section
variable {X : Cx} {tg : Expr}
end
section
variable {κ : Nat → Addr} {B : Gd} {X : Cx} {tg : Expr}
end
structure CmpIs (X : Cx) (sc : Scope) (x : Str) (X' : Cx) : Prop where
  cxo : Cxo X'
  calm : X'.calm = X.calm
  A : X'.A = X.A
  mg : X'.mg = X.mg
  K : X'.K = X.K
  n : ∀ {i : Nat} {y : Str}, X.N[i]? = some y → X'.N[i]? = some y
  x : ∀ {i : Nat}, X.N.length = i → X'.N[i]? = some x
  look : ∀ {y : Str} {k : NameKind}, sc.names.lookup y = some k → k ≠ .free → X'.env.scope.names.lookup y = some k
  vis : ∀ {y : Str}, sc.names.lookup y = some .free → Vis X'.env.scope y
  cal : ∀ {κ : Nat → Addr} {y : Str} {n : Nat} {m : List D → R D}, Cal κ X y n m → Cal κ X' y n m
theorem cmp_is {X : Cx} {sc : Scope} {x : Str} {cl : List (Str × Addr)} {C : Addr} {s₁ : Shared} {H₁ : Hp} {pn : List (Addr × Obj)} : CmpIs X sc x (CmpX X sc cl C s₁ H₁ pn x) where
  cxo := cmp_cxo
  calm := rfl
  A := rfl
  mg := rfl
  K := rfl
  n := cmp_n
  x := cmp_x
  look := cmp_look
  vis := cmp_vis
  cal := cmp_cal
section
variable {κ : Nat → Addr} {B : Gd} {X : Cx} {sc : Scope} {x : Str} {px pos : Pos} {iter elt : Expr} {ifs : List Expr} {fit : Ev → R (List D)} {t : Ev → R Bool} {f : Ev → R D}
theorem comp_by (hc : X.calm = true) (co : CompOk X sc x) (hi : PIcz κ B X (.Name x px) iter fit) (ht : ∀ X' B', CmpIs X sc x X' → PTs κ B' X' ifs t) (he : ∀ X' B', CmpIs X sc x X' → PX κ B' X' elt f)
    (hs : plI iter = true) : PXf κ B X (.ListComp elt [⟨.Name x px, iter, ifs, 0⟩] sc pos) (mComp fit t f) :=
  pxf_comp hc co hi (fun _ _ _ _ _ _ => ht _ _ cmp_is) (fun _ _ _ _ _ _ => he _ _ cmp_is) (fold_no hs)
end
section
variable {κ : Nat → Addr} {B : Gd} {X : Cx} {sc : Scope} {x y : Str} {px py pos spos : Pos} {iter elt : Expr} {ifs : List Expr} {fit : Ev → R (List D)} {t : Ev → R Bool} {f : Ev → R D} {i : Nat}
end
theorem swaps_sub {o k e : Expr} {ap : Pos} {n : Nat} {env : Env} : swapsWithSole [.Subscript o k ap] e n env = pure false := by
  cases e <;> rfl
section
variable {κ : Nat → Addr} {B : Gd} {X : Cx} {e k : Expr} {f fk : Ev → R D} {pos pos' apos : Pos} {x : Str} {i : Nat}
theorem y_putA (cx : Cxo X) (hN : X.N[i]? = some x) (hv : Vis X.env.scope x) (hd : (x == ("__debug__" : Str)) = false) (hcd : (x == ("__classdict__" : Str)) = false) (h : PX κ B X e f) (hk : PX κ B X k fk) (ht : noTup e = true)
    (ha : ∀ v, assign (.Subscript (.Name x pos) k apos) X.env v = (do
      let ov ← holding [v] (eval (.Name x pos) X.env)
      let iv ← holding [v, ov] (eval k X.env)
      standAt apos
      holding [v, ov, iv] (setItem ov iv v)
      release [v, ov, iv] [])) : PZ κ B X (.Assign [.Subscript (.Name x pos) k apos] e pos') (zPut i fk f) := pz_put cx hN hv hd hcd h hk swaps_sub (stores_no ht) (each_one rfl) ha
end
def oNeg : D → R D
  | .int i => .ok (.int (-i))
  | _ => .stuck
section
variable {κ : Nat → Addr} {B : Gd} {X : Cx} {a b : Expr} {fa fb : Ev → R D} {p pos : Pos}
end
end L3
set_option Elab.async false
set_option linter.all false
set_option maxRecDepth 100000
namespace L3
open PySem PySem.Spec PyProof.Rows L2
def IsItG (X : Cx) (κ : Nat → Addr) (J : It) (G : Hp) (ds : List D) : Prop := ∀ H' G', Same G G' → Same G' H' → ∀ i, (∀ d, ds[i]? = some d → J.go i H' ∧ ∀ x H'', J.yld i H' x H'' → ∃ G'', Ext G' H' G'' H'' ∧ Den ⟨X.K, κ⟩ G'' x d) ∧ (ds.length ≤ i → J.stop i H')
def PIg (κ : Nat → Addr) (B : Gd) (X : Cx) (tg e : Expr) (f : Ev → R (List D)) : Prop := ∀ pins σ Ex, PI (At X pins σ Ex) tg e (tO (fun G _ J ds => IsItG X κ J G ds) X κ B (EX X pins σ Ex) f)
section
variable {κ : Nat → Addr} {B : Gd} {X : Cx} {e tg : Expr} {f : Ev → R D} {pos : Pos}
theorem pz_forG (cx : Cxo X) (hc : X.calm = true) {iter : Expr} {body : List Stmt} {fit : Ev → R (List D)} {bd : D → Ev → Option Ev} {F : Ev → SR} (hi : PIg κ B X tg iter fit) (hg : ∀ B, PGz κ B X tg bd) (hb : ∀ B, PZs κ B X body F)
    (hs : ∀ x, foldedSetIterable iter X.env x = pure x) : PZ κ B X (.For tg iter body [] pos) (zFor fit bd F) := fun Ex pins s σ H G δ Dn hp I rp h => by
  have hsgA : ∀ p τ, (X.wish Ex).sg p τ := cx.sg
  refine wpAny_For (thn (hi pins σ Ex pins s σ H (fun J H' => ∃ G' ds, Rep ⟨X.K, κ⟩ B X.H₀ G' H' σ δ ∧ IsItG X κ J G' ds ∧ SPost κ B X Ex pins Dn (loopZ bd F ds δ)) (inv_at I) ⟨G, δ, rp, ?_⟩) fun v s1 h1 => thn h1 fun itv s2 h2 => ?_) hs
  · unfold zFor at h
    cases q : fit δ with
    | ok ds => rw [q] at h; exact fun J H' G' e1 d1 => ⟨G', ds, rp.ext e1, d1, h⟩
    | exc c => rw [q] at h; exact fun H' G' e1 ea s' I' F' => h ea s' σ H' G' I' F' (rp.ext e1)
    | stuck => rw [q] at h; exact h
  obtain ⟨it, fp, tn, J, H2, e, I2, T, st2, f2, G2, ds, rp2, hJ, q2⟩ := h2
  subst e
  have I2' := inv_unat cx.sg I2
  have stat : ∀ {H' : Hp}, (∀ b ∈ fp, H' b = none) → ∀ b ∈ fp, FpOk (X.wish Ex) pins H' b := fun hn b hb => ⟨hn b hb, (f2 b hb).2⟩
  refine codeAny_forLoop_any (fun n s' => ∃ i σ' H' G' δ', Inv (X.wish Ex) pins σ' H' s' ∧ tn i s'.heap ∧ (∀ b ∈ fp, H' b = none) ∧ n = ds.length - i ∧ i ≤ ds.length ∧ Rep ⟨X.K, κ⟩ ⟨G2, B.m⟩ X.H₀ G' H' σ' δ' ∧ SPost κ B X Ex pins Dn (loopZ bd F (ds.drop i) δ')) ?_ ds.length
    ⟨0, σ, H2, G2, δ, I2', st2, fun b hb => (f2 b hb).1, rfl, Nat.zero_le _, rp2.raise, q2⟩
  rintro n s3 ⟨i, σ3, H3, G3, δ3, I3, st3, fr3, rfl, hi3, rp3, q3⟩
  have low : ∀ {G' H' : Hp} {σ' : St} {δ' : Ev}, Rep ⟨X.K, κ⟩ ⟨G2, B.m⟩ X.H₀ G' H' σ' δ' → Rep ⟨X.K, κ⟩ B X.H₀ G' H' σ' δ' := fun r => r.lower rp2.gG rp2.lent
  have same3 : Same G2 H3 := rp3.gG.trans rp3.GH
  by_cases hlt : i < ds.length
  · obtain ⟨dx, hdx⟩ : ∃ d, ds[i]? = some d := ⟨ds[i], by simp [hlt]⟩
    obtain ⟨go, yl⟩ := (hJ H3 G3 rp3.gG rp3.GH i).1 dx hdx
    refine wpAny_passesOwn hp (thn (T.item (X.wish Ex) rfl rfl rfl hc i pins s3 σ3 H3 Ex I3 (stat fr3) st3 go) fun r s4 ⟨u, hr, h4⟩ => ?_)
    subst hr
    refine wpAny_passesOwn hp (thn h4 fun _ s5 ⟨x, H5, I5, r5, y5, st5, fr5⟩ => ?_)
    obtain ⟨G5, e5, dd⟩ := yl x H5 y5
    have I5' := Inv.pinned hsgA I5 (stat fr5) (T.obj _ _ st5)
    have hdrop : ds.drop i = dx :: ds.drop (i + 1) := by
      rw [List.drop_eq_getElem_cons hlt]
      simp [hlt] at hdx
      rw [hdx]
    rw [hdrop] at q3
    unfold loopZ at q3
    cases eb : bd dx δ3 with
    | none => rw [eb] at q3; exact False.elim q3
    | some δ4 =>
      rw [eb] at q3
      refine wpAny_passesOwn hp (thn (hg ⟨G2, B.m⟩ Ex _ s5 σ3 _ x u (fun σ' H' => H' = H5 ∧ Rep ⟨X.K, κ⟩ ⟨G2, B.m⟩ X.H₀ G5 H5 σ' δ4) I5' r5 ⟨G5, δ3, dx, δ4, rp3.ext e5, dd, eb, fun σ' r' => ⟨rfl, r'⟩⟩) fun _ s6 ⟨σ6, H6, I6, e6, rp6⟩ => ?_)
      subst e6
      refine wpAny_passesOwn hp (thn (hb ⟨G2, B.m⟩ Ex _ s6 σ6 _ G5 δ4 { Dn with nx := fun σ' H' => ∃ G' δ', Rep ⟨X.K, κ⟩ ⟨G2, B.m⟩ X.H₀ G' H' σ' δ' ∧ SPost κ B X Ex pins Dn (loopZ bd F (ds.drop (i + 1)) δ'), ct := fun σ' H' => ∃ G' δ', Rep ⟨X.K, κ⟩ ⟨G2, B.m⟩ X.H₀ G' H' σ' δ' ∧ SPost κ B X Ex pins Dn (loopZ bd F (ds.drop (i + 1)) δ'), bk := Dn.nx } hp I6 rp6 ?_) fun fl s7 q7 => ?_)
      · cases ef : F δ4 with
        | next δ5 => simp only [ef] at q3; exact fun σ' H' G' r => ⟨G', δ5, r, q3⟩
        | cont δ5 => simp only [ef] at q3; exact fun σ' H' G' r => ⟨G', δ5, r, q3⟩
        | brk δ5 => simp only [ef] at q3; exact fun σ' H' G' r => q3 σ' H' G' (low r)
        | ret d => simp only [ef] at q3; exact fun v H' G' r => q3 v H' G' (r.lower rp2.gG rp2.lent)
        | exc c δ5 => simp only [ef] at q3; exact fun ea s' σ' H' G' I' F' r => q3 ea s' σ' H' G' (Inv.unpinned hsgA I') (flies_pins F') (low r)
        | stuck => simp only [ef] at q3; exact q3
      · have again : ∀ {σ7 : St} {H7 : Hp}, Inv (X.wish Ex) (pins ++ pinsAt fp s5.heap) σ7 H7 s7 → (∃ G' δ', Rep ⟨X.K, κ⟩ ⟨G2, B.m⟩ X.H₀ G' H7 σ7 δ' ∧ SPost κ B X Ex pins Dn (loopZ bd F (ds.drop (i + 1)) δ')) →
            ∃ m, m < ds.length - i ∧ ∃ i σ' H' G' δ', Inv (X.wish Ex) pins σ' H' s7 ∧ tn i s7.heap ∧ (∀ b ∈ fp, H' b = none) ∧ m = ds.length - i ∧ i ≤ ds.length ∧ Rep ⟨X.K, κ⟩ ⟨G2, B.m⟩ X.H₀ G' H' σ' δ' ∧ SPost κ B X Ex pins Dn (loopZ bd F (ds.drop i) δ') := fun {σ7 H7} I7 ⟨G7, δ7, r7, n7⟩ => by
          refine ⟨ds.length - (i + 1), by omega, i + 1, σ7, H7, G7, δ7, Inv.unpinned hsgA I7, T.keep _ _ _ st5 fun b hb o e => (I7.pin (b, o) (List.mem_append_right _ (List.mem_append_right _ (mem_pinsAt hb e)))).1, fun b hb => ?_, rfl, hlt, r7, n7⟩
          obtain ⟨o, e, d⟩ := T.obj _ _ st5 b hb
          exact (I7.pin (b, o) (List.mem_append_right _ (List.mem_append_right _ (mem_pinsAt hb e)))).2.1
        cases fl with
        | next => obtain ⟨σ7, H7, I7, n7⟩ := q7; exact again I7 n7
        | cont => obtain ⟨σ7, H7, I7, n7⟩ := q7; exact again I7 n7
        | brk => obtain ⟨σ7, H7, I7, q7⟩ := q7; exact ⟨σ7, H7, Inv.unpinned hsgA I7, q7⟩
        | ret v => obtain ⟨x7, σ7, H7, I7, r7, q7⟩ := q7; exact ⟨x7, σ7, H7, Inv.unpinned hsgA I7, r7, q7⟩
  · have hie : i = ds.length := by omega
    refine wpAny_passesOwn hp (thn (T.done (X.wish Ex) rfl rfl rfl hc i pins s3 σ3 H3 Ex I3 (stat fr3) st3 ((hJ H3 G3 rp3.gG rp3.GH i).2 (by omega))) fun r s4 ⟨hr, I4⟩ => ?_)
    subst hr
    rw [hie, List.drop_length] at q3
    exact wpAny_execs_nil ⟨σ3, H3, I4, q3 σ3 H3 G3 (low rp3)⟩
end
def Ite (K : PySem.W.Frag) (a : Addr) : It :=
  ⟨fun i H => ∃ xs x, SqL K H a xs ∧ xs[i]? = some x, fun i H x H' => ∃ v p, (∀ xs, SqL K H a xs → xs[i]? = some v) ∧ H p = none ∧ x = .ref p ∧ H' = upd H p (.tup [.int (i : Nat), v]), fun i H => ∃ xs, SqL K H a xs ∧ xs.length ≤ i⟩
theorem turn_enum {P : Program} {w : World} {K : PySem.W.Frag} {tgs : List Expr} {kk : Nat} {tpos : Pos} (l e it : Addr) (hne : e ≠ it) : Turn P w K (.Tuple tgs kk tpos) (Ite K l) [e, it] e (fun i h => (∃ old, IsEnum h e it (i : Nat) old) ∧ h.IsListIter it l i) where
  mem := by simp
  obj := fun i h st b hb => by
    obtain ⟨⟨old, h1⟩, o, h2, _, h3⟩ := st
    rcases List.mem_cons.mp hb with rfl | hb
    · exact ⟨_, h1, fun v z => by
        have z' : Data.fields _ = Data.cell v := z
        cases z'⟩
    · have e' : b = it := by simpa using hb
      subst e'
      exact ⟨o, h2, fun v z => by rw [h3] at z; cases z⟩
  keep := fun i h h' st k => by
    obtain ⟨⟨old, h1⟩, h2⟩ := st
    exact ⟨⟨old, k e (by simp) _ h1⟩, h2.at fun o x => k it (by simp) o x⟩
  item := by
    intro X hP hw hK hc i pins s σ H E I hf st hg
    subst hP hw hK
    obtain ⟨⟨old, h1⟩, h2⟩ := st
    obtain ⟨xs, x, hq, hx⟩ := hg
    obtain ⟨its, rv, p, hz⟩ := I.list hq
    obtain ⟨u, hu, ru⟩ := rv.get hx
    obtain ⟨f0, f1, f2, f3, f4, f5⟩ := hf e (by simp)
    obtain ⟨g0, g1, g2, g3, g4, g5⟩ := hf it (by simp)
    have hes : e < s.heap.objs.size := Heap.lt_size h1
    refine wpAny_pyNext_enum_item h1 h2 p.isList (x := u) (by simpa using hu) hne fun h' ho hi ht hs hk => ⟨_, rfl, ?_⟩
    refine wpAny_letOwnedTupleGo_enum ho fun h'' he hsb => ?_
    have hn : H s.heap.objs.size = none := I.hok.fresh (Nat.le_refl _)
    have tup : h''.get? s.heap.objs.size = some { cls := .type "tuple", data := .seq #[.int i s.toks, u] } := hsb.extBut _ _ (Nat.ne_of_gt hes) ht
    have kp : ∀ b o, b ≠ e → b ≠ it → s.heap.get? b = some o → h''.get? b = some o := fun b o hb1 hb2 q => hsb.extBut b o hb1 (hk b o hb1 hb2 q)
    have nin : ∀ {b : Addr}, b ∉ [e, it] → b ≠ e ∧ b ≠ it := fun {b} h => by simpa using h
    have ne_tr : ∀ b o, H b = some o → b ≠ e ∧ b ≠ it := fun b o q => ⟨(by rintro rfl; rw [f0] at q; cases q), (by rintro rfl; rw [g0] at q; cases q)⟩
    have nep : ∀ b o, s.heap.get? b = some o → b ≠ s.heap.objs.size := fun b o q => Nat.ne_of_lt (Heap.lt_size q)
    have J := I.step (H' := upd H s.heap.objs.size (.tup [.int (i : Nat), x])) (h' := h'') (g' := s.gens) (d' := s.drawn) (t' := s.toks + 1) (ch := [e, it]) (fun b hb => by
        rcases List.mem_cons.mp hb with rfl | hb
        · exact ⟨f3.imp id Heap.get?_none_of_le, f1, f4, f5⟩
        · have e' : b = it := by simpa using hb
          subst e'
          exact ⟨g3.imp id Heap.get?_none_of_le, g1, g4, g5⟩)
      (fun b o _ _ hch q _ => kp b o (nin hch).1 (nin hch).2 q) (fun b o _ _ hch q _ => ⟨o.slots, kp b o (nin hch).1 (nin hch).2 q⟩) (fun b o _ q n => by rw [upd_ne (nep b o q)]; exact n)
      (fun b o hch q => ⟨o, kp b o (nin hch).1 (nin hch).2 q⟩) (fun b xs q => by rw [upd_ne (ne_of_none q hn)]; exact q) (fun b o u q => by rw [upd_ne (ne_of_none q hn)]; exact q) (fun b ps q => ⟨#[], by rw [upd_ne (ne_of_none q hn), q]; simp⟩)
      (fun m hm => by
        obtain ⟨o, es, ep, ho', r⟩ := hm
        exact ⟨o, es, ep, kp _ o (Ne.symm f1) (Ne.symm g1) ho', r⟩)
      (fun b o q => by
        by_cases hb : b = s.heap.objs.size
        · subst hb
          rw [upd_same] at q
          cases q
          exact ⟨by simp [sizeLine_eq], [.int i s.toks, u], .cons ⟨_, rfl⟩ (.cons ru .nil), _, tup, rfl, _, rfl⟩
        · rw [upd_ne hb] at q
          refine (I.hok b o q).stay (fun c v hc q' => ?_) (fun c q' => by rw [upd_ne (ne_of_none q' hn)]; exact q') fun c xs q' => by rw [upd_ne (ne_of_none q' hn)]; exact q'
          have hcc : c ≠ e ∧ c ≠ it := by
            rcases hc with z | z
            · rw [z]; exact ne_tr b o q
            · exact ne_tr c _ z
          exact kp c v hcc.1 hcc.2 q') I.bare
    refine ⟨.ref s.heap.objs.size, _, J, rfl, ⟨x, _, fun ys hy => by rw [I.list_inj hy hq]; exact hx, hn, rfl, rfl⟩, ⟨⟨u, ?_⟩, (hi.extBut hsb.extBut (Ne.symm hne))⟩, fun b hb => ?_⟩
    · have he' : IsEnum h'' e it ((i : Int) + 1) u := he
      rw [show (((i + 1 : Nat)) : Int) = (i : Int) + 1 by push_cast; rfl]
      exact he'
    · have hlt : b < s.heap.objs.size := by
        rcases List.mem_cons.mp hb with rfl | hb
        · exact hes
        · have e' : b = it := by simpa using hb
          subst e'
          obtain ⟨o, ho', _⟩ := h2
          exact Heap.lt_size ho'
      rw [upd_ne (Nat.ne_of_lt hlt)]
      exact (hf b hb).1
  done := by
    intro X hP hw hK hc i pins s σ H E I hf st hg
    subst hP hw hK
    obtain ⟨⟨old, h1⟩, h2⟩ := st
    obtain ⟨xs, hq, hx⟩ := hg
    obtain ⟨its, rv, p, hz⟩ := I.list hq
    obtain ⟨g0, g1, g2, g3, g4, g5⟩ := hf it (by simp)
    have hl := rv.length
    exact wpAny_pyNext_enum_end (I.ok.hd hc) h1 h2 p.isList (by simp; omega) fun h' eb => ⟨rfl, I.turned (t' := s.toks) (fun b o hb e => eb b o hb e) g0 g1 g3 g4 g5⟩
  self := fun _ _ _ _ _ st h => by
    obtain ⟨⟨old, h1⟩, _⟩ := st
    exact wpAny_pyIter_enum h1 h
def enumFrom : Nat → List D → List D
  | _, [] => []
  | n, d :: ds => .tup [.int (n : Int), d] :: enumFrom (n + 1) ds
def enumD : D → R (List D)
  | .lst ds => .ok (enumFrom 0 ds)
  | _ => .stuck
theorem enumFrom_len : ∀ (ds : List D) (n : Nat), (enumFrom n ds).length = ds.length
  | [], _ => rfl
  | d :: ds, n => by simp [enumFrom, enumFrom_len ds (n + 1)]
theorem enumFrom_get : ∀ (ds : List D) (n i : Nat) (d : D), (enumFrom n ds)[i]? = some d → ∃ x, ds[i]? = some x ∧ d = .tup [.int ((n + i : Nat) : Int), x]
  | [], _, _, _, h => by simp [enumFrom] at h
  | x :: ds, n, 0, d, h => by simp [enumFrom] at h; exact ⟨x, rfl, h.symm⟩
  | x :: ds, n, i + 1, d, h => by
    simp only [enumFrom, List.getElem?_cons_succ] at h
    obtain ⟨y, h1, h2⟩ := enumFrom_get ds (n + 1) i d h
    exact ⟨y, by simpa using h1, by rw [h2]; congr 3; omega⟩
theorem isItG_enum {X : Cx} {κ : Nat → Addr} {G : Hp} {a : Addr} {vs : List V} {ds : List D} (h : SqL X.K G a vs) (d : Dens ⟨X.K, κ⟩ G vs ds) : IsItG X κ (Ite X.K a) G (enumFrom 0 ds) := by
  intro H' G' s1 s2 i
  have sq : SqL X.K H' a vs := (s1.trans s2).seq h
  refine ⟨fun e he => ?_, fun hi => ⟨vs, sq, by rw [d.length, ← enumFrom_len ds 0]; exact hi⟩⟩
  obtain ⟨y, hy, rfl⟩ := enumFrom_get ds 0 i e he
  obtain ⟨v, hv, dv⟩ := d.get hy
  refine ⟨⟨vs, v, sq, hv⟩, ?_⟩
  rintro x H'' ⟨v', p, q1, q3, rfl, rfl⟩
  have q2 := q1 vs sq
  rw [hv] at q2
  cases q2
  have ee := ext_new (o := .tup [.int (i : Nat), v]) s2 q3
  refine ⟨_, ee, ?_⟩
  unfold Den
  refine ⟨p, _, rfl, SqT.of upd_same, dens_cons (by unfold Den; simp) (dens_cons ((dv.mono s1).mono ee.sG) dens_nil)⟩
section
variable {κ : Nat → Addr} {B : Gd} {X : Cx} {e : Expr} {f : Ev → R D} {tgs : List Expr} {kk : Nat} {p pos tpos : Pos}
theorem pig_enum (hg : Gl X "enumerate") (hm : X.mg "enumerate" = none) (h : PX κ B X e f) (hs : noStar e = true) : PIg κ B X (.Tuple tgs kk tpos) (.Call (.Name "enumerate" p) [e] [] pos) (fun δ => (f δ).bind enumD) := fun pins σ Ex pins' s τ H R I ⟨G, δ, rp, q⟩ => by
  dsimp only at q
  refine Call_ (ld_blt I hg hm boot_enumerate (PyProof.Rows.callWith_type1 (thn (pa_cons (X := At X pins σ Ex) (h pins σ Ex) pa_nil (star_cons hs) pos pins' s τ H (fun vs H1 => ∃ a xs ds G1, vs = [.ref a] ∧ SqL X.K G1 a xs ∧ Dens ⟨X.K, κ⟩ G1 xs ds ∧ Ext G H G1 H1 ∧ R (Ite X.K a) H1) I ⟨G, δ, rp, ?_⟩) fun us s1 ⟨vs, H1, I1, r1, q1⟩ => ?_) (star_cons hs) rfl))
  · cases e' : f δ with
    | ok d =>
      rw [e'] at q
      cases d with
      | lst ds =>
        intro v H1 G1 e1 d1
        unfold dRel Den at d1
        obtain ⟨a, xs, rfl, h1, h2⟩ := d1
        exact ⟨a, xs, ds, G1, rfl, h1, h2, e1, q _ H1 G1 e1 (isItG_enum h1 h2)⟩
      | _ => exact False.elim q
    | exc c => rw [e'] at q; exact q
    | stuck => rw [e'] at q; exact False.elim q
  · obtain ⟨a, xs, ds, G1, rfl, h1, h2, e1, q1⟩ := q1
    cases r1 with
    | cons r rr =>
      cases rr
      cases r
      obtain ⟨its, rv, pl, hz⟩ := I1.list (e1.GH.seq h1)
      refine call_enumerate_list pl.isList fun h' he hi hsz hk => ?_
      refine wpAny_pyIter_enum he ?_
      have I2 : Inv (At X pins σ Ex) pins' τ H1 { s1 with heap := h' } := I1.kept (t' := s1.toks) hk
      refine ⟨s1.heap.objs.size + 1, [s1.heap.objs.size + 1, s1.heap.objs.size], _, _, H1, rfl, I2, turn_enum a _ _ (Nat.succ_ne_self _), ⟨⟨_, he⟩, hi⟩, fun b hb => ?_, q1⟩
      rcases List.mem_cons.mp hb with rfl | hb
      · exact I1.fpOk (Nat.le_succ _) (I1.hok.fresh (Nat.le_succ _))
      · have e' : b = s1.heap.objs.size := by simpa using hb
        subst e'
        exact I1.fpOk (Nat.le_refl _) (I1.hok.fresh (Nat.le_refl _))
theorem y_forG (cx : Cxo X) (hc : X.calm = true) {tg iter : Expr} {body : List Stmt} {fit : Ev → R (List D)} {bd : D → Ev → Option Ev} {F : Ev → SR} (hi : PIg κ B X tg iter fit) (hg : ∀ B, PGz κ B X tg bd) (hb : ∀ B, PZs κ B X body F) (h : plI iter = true) : PZ κ B X (.For tg iter body [] pos) (zFor fit bd F) := pz_forG cx hc hi hg hb (fold_no h)
end
end L3
set_option Elab.async false
set_option linter.all false
set_option maxRecDepth 100000
namespace L3
open PySem PySem.Spec PyProof.Rows L2
def Its (x : Str) : It := ⟨fun i _ => i < x.cps.size, fun i H v H' => H' = H ∧ ∃ c, x.cps[i]? = some c ∧ v = .str ⟨#[c]⟩, fun i _ => x.cps.size ≤ i⟩
theorem turn_str {P : Program} {w : World} {K : PySem.W.Frag} {tg : Expr} (ty : String) (hty : ty = "str_ascii_iterator" ∨ ty = "str_iterator") (it : Addr) (x : Str) (t : Tok) : Turn P w K tg (Its x) [it] it (fun i h => h.IsStrIter it ty x t i) where
  mem := by simp
  obj := fun i h st b hb => by
    have e : b = it := by simpa using hb
    subst e
    obtain ⟨o, e, c, d⟩ := st
    exact ⟨o, e, fun v z => by rw [d] at z; cases z⟩
  keep := fun i h h' st k => let ⟨o, ho, r⟩ := st; ⟨o, k it (by simp) o ho, r⟩
  item := by
    intro X hP hw hK hc i pins s σ H E I hf st hg
    subst hP hw hK
    obtain ⟨f0, f1, f2, f3, f4, f5⟩ := hf it (by simp)
    have W : ∀ {Q : Option Value → Shared → Prop}, (∀ v h' tk, SignAt x i v → h'.IsStrIter it ty x t (i + 1) → (∀ b o, b ∉ [it] → s.heap.get? b = some o → h'.get? b = some o) → Q (some v) { s with heap := h', toks := tk }) → wpAny (model X.prog X.w) X.A (pyNext (.ref it)) Q E s := fun {Q} hQ => by
      rcases hty with rfl | rfl
      · exact (Walks.strAscii (prog := X.prog) (w := X.w) (I.ok.hd hc) it x t).item i s Q E hg st hQ
      · exact (Walks.strWide (prog := X.prog) (w := X.w) (I.ok.hd hc) it x t).item i s Q E hg st hQ
    refine W fun v h' tk hv st' kk => ?_
    obtain ⟨c, u, hcx, rfl⟩ := hv
    have I1 : Inv X pins σ H { s with heap := h', toks := tk } := I.turned (fun b o hb e => kk b o (by simpa using hb) e) f0 f1 f3 f4 f5
    obtain ⟨o, e, hcl, d⟩ := id st'
    refine ⟨_, rfl, go_of (s := { s with heap := h', toks := tk }) (n := ty) e hcl d (by rcases hty with rfl | rfl <;> decide) ⟨.str ⟨#[c]⟩, H, I1, ⟨u, rfl⟩, ⟨rfl, c, hcx, rfl⟩, st', fun b hb => (hf b hb).1⟩⟩
  done := by
    intro X hP hw hK hc i pins s σ H E I hf st hg
    subst hP hw hK
    obtain ⟨f0, f1, f2, f3, f4, f5⟩ := hf it (by simp)
    have hi : x.cps.size ≤ i := hg
    rcases hty with rfl | rfl
    · exact wpAny_pyNext_ascii_end (I.ok.hd hc) st (by simp; omega) fun h' eb => ⟨rfl, I.turned (t' := s.toks) (fun b o hb e => eb b o hb e) f0 f1 f3 f4 f5⟩
    · exact wpAny_pyNext_wide_end (I.ok.hd hc) st (by simp; omega) fun h' eb => ⟨rfl, I.turned (t' := s.toks) (fun b o hb e => eb b o hb e) f0 f1 f3 f4 f5⟩
  self := fun _ _ _ _ _ st h => by
    rcases hty with rfl | rfl
    · exact wpAny_pyIter_striter_ascii st h
    · exact wpAny_pyIter_striter_wide st h
def iStr (tl : TE) : TI := fun σ H R => tl σ H fun v H1 => ∃ x, v = .str x ∧ R (Its x) H1
theorem pi_str {X : Cx} {tg l : Expr} {tl : TE} (hl : PE X l tl) : PI X tg l (iStr tl) := by
  intro pins s σ H R I h
  refine thn (hl pins s σ H _ I h) fun v s1 ⟨y, H1, I1, r1, q1⟩ => ?_
  obtain ⟨x, e, q⟩ := q1
  subst e
  obtain ⟨t, rfl⟩ := r1
  have fin : ∀ (ty : String) (o : Obj), (ty = "str_ascii_iterator" ∨ ty = "str_iterator") → (s1.heap.push o).IsStrIter s1.heap.objs.size ty x t 0 → PIE X pins σ tg R (.ref s1.heap.objs.size) { s1 with heap := s1.heap.push o } := fun ty o hty st => by
    refine ⟨s1.heap.objs.size, [s1.heap.objs.size], _, _, H1, rfl, I1.kept (t' := s1.toks) fun b o e => Heap.get?_push_of_some _ e, turn_str ty hty _ x t, st, fun b hb => ?_, q⟩
    have e : b = s1.heap.objs.size := by simpa using hb
    subst e
    exact I1.fpOk (Nat.le_refl _) (I1.hok.fresh (Nat.le_refl _))
  cases ha : x.cps.all (· < 128)
  · exact wpAny_pyIter_wide ha (fin "str_iterator" _ (.inr rfl) ⟨_, Heap.get?_push_size _ rfl, rfl, rfl⟩)
  · exact wpAny_pyIter_ascii ha (fin "str_ascii_iterator" _ (.inl rfl) ⟨_, Heap.get?_push_size _ rfl, rfl, rfl⟩)
def itemsS : D → R (List D)
  | .str l => .ok (l.map fun c => .str [c])
  | _ => .stuck
section
variable {κ : Nat → Addr} {B : Gd} {X : Cx} {a e tg : Expr} {f fa : Ev → R D} {p pos : Pos}
theorem isIt_str {G : Hp} {l : List Nat} : IsIt X κ (Its ⟨l.toArray⟩) G (l.map fun c => .str [c]) := by
  refine ⟨l.map fun c => stV [c], ?_, fun H' s i => ⟨fun hi => ⟨?_, fun x H'' y => ?_⟩, fun hi => ?_⟩⟩
  · induction l with
    | nil => exact dens_nil
    | cons c l ih => exact dens_cons dStr ih
  · simpa [Its] using hi
  · obtain ⟨y1, c, y2, y3⟩ := y
    refine ⟨y1, ?_⟩
    have y2' : l[i]? = some c := by simpa using y2
    rw [y3, List.getElem?_map, y2']
    rfl
  · simpa [Its] using hi
theorem piz_str (h : PX κ B X e f) : PIz κ B X tg e (fun δ => (f δ).bind itemsS) := fun pins σ Ex =>
  pi_imp (pi_str (X := At X pins σ Ex) (h pins σ Ex)) fun τ H R ⟨G, δ, rp, q⟩ => ⟨G, δ, rp, q.seq fun x v H1 G1 e1 d1 q1 => by
    cases x with
    | str l =>
      unfold dRel Den at d1
      exact ⟨_, d1, q1 _ H1 G1 (Ext.refl e1.GH) isIt_str⟩
    | _ => exact False.elim q1⟩
def strI (i : Int) : List Nat := (Str.ofString (toString i)).cps.toList
theorem strI_eq (i : Int) : (⟨(strI i).toArray⟩ : Str) = Str.ofString (toString i) := by unfold strI; simp
def oStr : D → R D
  | .int i => if i.natAbs < 10000000000 then .ok (.str (strI i)) else .stuck
  | _ => .stuck
theorem log_small {n : Nat} (h : n < 10000000000) : n.log2 < 1920 := by
  by_cases h0 : n = 0
  · subst h0; decide
  · refine Nat.lt_of_lt_of_le ((Nat.log2_lt h0).mpr (Nat.lt_of_lt_of_le h (by decide : 10000000000 ≤ 2 ^ 40))) (by decide)
theorem y_str (hg : Gl X "str") (hm : X.mg "str" = none) (ha : PXr κ B X a fa) (h : noStar a = true) : PX κ B X (.Call (.Name "str" p) [a] [] pos) (m1 oStr fa) := fun pins σ Ex =>
  pe_imp (pe_callTy (X := At X pins σ Ex) call_str_int hg hm (boot_ty .str) (pa_cons (X := At X pins σ Ex) (ha pins σ Ex) pa_nil (star_cons h)) (by decide) (by decide) (star_cons h) rfl) fun τ H Q ⟨G, δ, rp, q⟩ => ⟨G, δ, rp, q.seq fun x v H1 G1 e1 d1 q1 => by
    cases x with
    | int i =>
      simp only [oStr] at q1
      split at q1
      · rename_i hi
        refine ⟨i, by rw [rInt d1], log_small hi, ?_⟩
        exact q1 _ H1 G1 (Ext.refl e1.GH) (by unfold dRel Den stV; rw [strI_eq])
      · exact False.elim q1
    | _ => exact False.elim q1⟩
def oZfill (x : D) (ys : List D) : R D := match x, ys with
  | .str l, [.int i] => if 0 ≤ i ∧ i ≤ 1000 then .ok (.str (Txt.zfill ⟨l.toArray⟩ i).cps.toList) else .stuck
  | _, _ => .stuck
theorem pad_small {i : Int} (h : 0 ≤ i ∧ i ≤ 1000) : PadOk i = true := by
  have h1 : fitsSsize i = true := by
    unfold fitsSsize
    rw [decide_eq_false (by omega), decide_eq_false (by omega)]
    rfl
  have h2 : Builtin.Str.tooLong i.toNat = false := by
    unfold Builtin.Str.tooLong
    have : (1000000 : Nat) ≤ sizeLine := by decide
    exact decide_eq_false (by omega)
  unfold PadOk
  rw [h1, h2]
  rfl
def rZfill : V → List V → Hp → VK → Prop := fun x vs H Q => ∃ (l : List Nat) (i : Int), x = stV l ∧ vs = [.int i] ∧ 0 ≤ i ∧ i ≤ 1000 ∧ Q (.str (Txt.zfill ⟨l.toArray⟩ i)) H
theorem mt_zfill : MtR X "str.zfill" rZfill := by
  intro pins s σ H x vs v us Q I rx rv ⟨l, i, e1, e2, h1, h2, q⟩
  subst e1
  subst e2
  obtain ⟨t, rfl⟩ := rx
  obtain ⟨u, rfl, ru⟩ := rv.one
  obtain ⟨t', rfl⟩ := ru
  exact SC.zfill (pad_small ⟨h1, h2⟩) fun t' k => ⟨.str _, H, I.tok _, ⟨_, rfl⟩, q⟩
theorem y_zfill {o e : Expr} {fo : Ev → R D} {fs : Ev → R (List D)} {apos : Pos} (ho : PXr κ B X o fo) (ha : PXs κ B X [e] fs) (hs : noStar e = true) (hline : (apos.endLine == pos.line) = true) (hbase : attributeBase o "zfill" X.env (eval o X.env) = eval o X.env) :
    PX κ B X (.Call (.Attribute o "zfill" apos) [e] [] pos) (mBS oZfill fo fs) := fun pins σ Ex =>
  pe_imp (pe_bm (X := At X pins σ Ex) F.plainAttrs_str F.slot_str_zfill F.type_str_zfill mt_zfill (ho pins σ Ex) (ha pins σ Ex) hbase (back_all hs) hline (star_cons hs) rfl) fun τ H Q ⟨G, δ, rp, q⟩ => ⟨G, δ, rp, q.seq fun x v H1 G1 e1 d1 q1 => by
    cases x with
    | str l =>
      obtain rfl := rStr d1
      refine ⟨rfl, G1, δ, rp.ext e1, q1.seq fun ys us H2 G2 e2 d2 q2 => ?_⟩
      match ys, us, d2, q2 with
      | [.int i], us, d2, q2 =>
        have hu := dens_int1 d2
        simp only [oZfill] at q2
        split at q2
        · rename_i hi
          exact ⟨l, i, rfl, hu, hi.1, hi.2, q2 _ H2 G2 (Ext.refl e2.GH) (by unfold dRel Den stV; simp)⟩
        · exact False.elim q2
      | [], _, _, q2 => exact False.elim q2
      | [.non], _, _, q2 => exact False.elim q2
      | [.bl _], _, _, q2 => exact False.elim q2
      | [.str _], _, _, q2 => exact False.elim q2
      | [.tup _], _, _, q2 => exact False.elim q2
      | [.lst _], _, _, q2 => exact False.elim q2
      | [.ob _ _ _], _, _, q2 => exact False.elim q2
      | z :: _ :: _, _, _, q2 => cases z <;> exact False.elim q2
    | _ => exact False.elim q1⟩
def oFs (l : List Nat) : D → R D := fun x => (oStr x).bind fun y => match y with
  | .str r => .ok (.str (l ++ r))
  | _ => .stuck
theorem strI_len {i : Int} (h : i.natAbs < 10000000000) : (Str.ofString (toString i)).length ≤ 1000 := by
  have e := int_text_length_le10 (k := 10) (by decide) h
  rw [PySem.ofString_length]
  omega
theorem y_fstr {x : Str} {l : List Nat} {kk : Nat} {cp fp : Pos} (hx : x = ⟨l.toArray⟩) (hl : l.length ≤ 1000) (ha : PXr κ B X a fa) : PX κ B X (.JoinedStr [.Constant (.str x) kk cp, .FormattedValue a (-1) none fp] pos) (m1 (oFs l) fa) := fun pins σ Ex => by
  intro pins' s τ H Q I ⟨G, δ, rp, q⟩
  subst hx
  refine wpAny_JoinedStr ?_
  have q0 := Out.seq (rel := rRel X κ) (P := fun v H' => ∃ i G', v = .int i ∧ i.natAbs < 10000000000 ∧ Ext G H G' H' ∧ Out (dRel X κ) κ (EX X pins σ Ex) G' H' (.ok (.str (l ++ strI i))) Q) q (fun d v H1 G1 e1 d1 q1 => by
    cases d with
    | int i =>
      simp only [oFs, oStr] at q1
      split at q1
      · rename_i hi
        exact ⟨i, G1, rInt d1, hi, e1, q1⟩
      · exact False.elim q1
    | _ => exact False.elim q1)
  have e0 : Str.empty ++ (⟨l.toArray⟩ : Str) = ⟨l.toArray⟩ := by
    show (⟨#[] ++ l.toArray⟩ : Str) = _
    simp
  have big : (1000000 : Nat) ≤ sizeLine := by decide
  refine Calls.Constant_str ⟨_, _, rfl, by rw [e0]; simp only [Str.length, List.size_toArray]; omega, ?_⟩
  rw [e0]
  refine wpAny_FormattedValue_plain (thn (ha pins σ Ex pins' _ τ H _ (I.tok _) ⟨G, δ, rp, q0⟩) fun v s1 ⟨y, H1, I1, r1, i, G1, ey, hi, ex, qq⟩ => ?_)
  subst ey
  obtain ⟨t, rfl⟩ := r1
  have ecat : (⟨l.toArray⟩ : Str) ++ Str.ofString (toString i) = ⟨(l ++ strI i).toArray⟩ := by
    rw [← strI_eq i]
    show (⟨l.toArray ++ (strI i).toArray⟩ : Str) = _
    simp
  have hlen : ((⟨l.toArray⟩ : Str) ++ Str.ofString (toString i)).length ≤ sizeLine := by
    rw [strLen_append]
    have := strI_len hi
    have h2 : (⟨l.toArray⟩ : Str).length = l.length := by simp [Str.length]
    omega
  refine wpAny_formatField_int (log_small hi) ⟨_, _, rfl, hlen, hlen, ?_⟩
  refine ⟨.str _, H1, (I1.tok _).tok _, ⟨_, rfl⟩, ?_⟩
  rw [ecat]
  exact qq _ H1 G1 (Ext.refl ex.GH) (by unfold dRel Den; rfl)
end
end L3
set_option Elab.async false
set_option linter.all false
set_option maxRecDepth 100000
namespace L3
open PySem PySem.Spec PyProof.Rows L2
section
variable {κ : Nat → Addr} {B : Gd} {X : Cx} {a b : Expr} {fa fb : Ev → R D} {p pos : Pos}
end
end L3
namespace L3
open PySem PySem.Spec PyProof.Rows L2
end L3
namespace L3
open PySem PySem.Spec PyProof.Rows L2
section
variable {κ : Nat → Addr} {B : Gd} {X : Cx} {a b : Expr} {fs : Ev → R (List D)} {p pos p' pos' : Pos}
end
end L3
namespace L3
open PySem PySem.Spec PyProof.Rows L2
section
variable {κ : Nat → Addr} {B : Gd} {X : Cx} {pos pos' pos'' apos : Pos}
end
end L3
namespace L3
open PySem PySem.Spec PyProof.Rows L2
theorem vals_ints {ns : List Int} {its : List Value} (r : Vals (ns.map V.int) its) : ∀ (i : Nat) (v : Value), its.toArray[i]? = some v → ∃ t, v = .int (ns.getD i 0) t := by
  intro i v h
  rw [List.getElem?_toArray] at h
  induction ns generalizing its i with
  | nil => cases its with
    | nil => simp at h
    | cons _ _ => cases r
  | cons n ns ih => cases its with
    | nil => simp at h
    | cons u us =>
      cases r with
      | cons hu t =>
        cases i with
        | zero =>
          obtain ⟨k, hk⟩ : ∃ k, u = Value.int n k := hu
          have e : u = v := by simpa using h
          exact ⟨k, by rw [← e, hk]; rfl⟩
        | succ i =>
          obtain ⟨k, hk⟩ := ih t i (by simpa using h)
          exact ⟨k, by rw [hk]; rfl⟩
section
variable {κ : Nat → Addr} {B : Gd} {X : Cx} {a b : Expr} {fa fb : Ev → R D} {p pos : Pos}
end
end L3
set_option Elab.async false
set_option linter.all false
set_option maxRecDepth 100000
namespace L3
open PySem PySem.Spec PyProof.Rows L2
end L3
namespace L3
open PySem PySem.Spec PyProof.Rows L2
section
variable {κ : Nat → Addr} {B : Gd} {X : Cx} {e tg : Expr} {f : Ev → R D} {p pos : Pos}
end
end L3
namespace L3
open PySem PySem.Spec PyProof.Rows L2
end L3
namespace L3
open PySem PySem.Spec PyProof.Rows L2
section
variable {κ : Nat → Addr} {B : Gd} {X : Cx} {a : Expr} {fa : Ev → R D} {pos : Pos}
end
end L3
set_option linter.all false
set_option maxRecDepth 100000
namespace L3
open PySem
theorem below_go (xs : Array Nat) (j : Nat) (hr : ∀ i k : Nat, i < k → k < xs.size → xs.getD i j < xs.getD k j) : ∀ (fuel lo hi : Nat), hi - lo ≤ fuel → lo ≤ hi → hi ≤ xs.size →
    (∀ i, i < lo → xs.getD i j < j) → (∀ i, hi ≤ i → i < xs.size → j ≤ xs.getD i j) →
    (∀ i, i < SetTable.below.go xs j fuel lo hi → xs.getD i j < j) ∧ (∀ i, SetTable.below.go xs j fuel lo hi ≤ i → i < xs.size → j ≤ xs.getD i j) ∧ SetTable.below.go xs j fuel lo hi ≤ xs.size
  | 0, lo, hi, hf, hl, hs, h1, h2 => by
    have : lo = hi := by omega
    subst this
    unfold SetTable.below.go
    exact ⟨h1, h2, hs⟩
  | fuel + 1, lo, hi, hf, hl, hs, h1, h2 => by
    unfold SetTable.below.go
    by_cases c : lo < hi
    · rw [if_pos c]
      dsimp only
      by_cases d : xs.getD ((lo + hi) / 2) j < j
      · rw [if_pos d]
        refine below_go xs j hr fuel _ _ (by omega) (by omega) hs (fun i hi' => ?_) h2
        by_cases e : i = (lo + hi) / 2
        · rw [e]; exact d
        · have := hr i ((lo + hi) / 2) (by omega) (by omega)
          omega
      · rw [if_neg d]
        refine below_go xs j hr fuel _ _ (by omega) (by omega) (by omega) h1 fun i hi' hi2 => ?_
        by_cases e : i = (lo + hi) / 2
        · rw [e]; omega
        · have := hr ((lo + hi) / 2) i (by omega) hi2
          omega
    · rw [if_neg c]
      have : lo = hi := by omega
      subst this
      exact ⟨h1, h2, hs⟩
theorem getD_list {xs : Array Nat} {i d : Nat} (h : i < xs.size) : xs.getD i d = xs.toList[i]'(by simpa using h) := by
  simp [Array.getD, h]
theorem ris_get {xs : Array Nat} (h : xs.toList.Pairwise (· < ·)) (j : Nat) : ∀ i k : Nat, i < k → k < xs.size → xs.getD i j < xs.getD k j := by
  intro i k hik hk
  rw [getD_list (by omega), getD_list hk]
  exact List.pairwise_iff_getElem.mp h i k (by simpa using (by omega : i < xs.size)) (by simpa using hk) hik
theorem below_spec {xs : Array Nat} (h : xs.toList.Pairwise (· < ·)) (j : Nat) :
    (∀ i, i < SetTable.below xs j → xs.getD i j < j) ∧ (∀ i, SetTable.below xs j ≤ i → i < xs.size → j ≤ xs.getD i j) ∧ SetTable.below xs j ≤ xs.size := by
  unfold SetTable.below
  exact below_go xs j (ris_get h j) xs.size 0 xs.size (by omega) (by omega) (Nat.le_refl _) (by intro i hi; omega) (by intro i h1 h2; omega)
def TOk (bt : Bool) (t : SetTable) : Prop := t.dummies = #[] ∧ t.place.toList.Pairwise (· < ·) ∧ (bt = true ∨ t.led = true)
theorem slot_nd {t : SetTable} (h : t.dummies = #[]) (j : Nat) : t.slot j ≠ .dummy := by
  unfold SetTable.slot
  have : SetTable.has t.dummies j = false := by rw [h]; simp [SetTable.has, SetTable.below, SetTable.below.go]
  rw [this]
  dsimp only
  split
  · simp
  · simp
theorem probe_go {t : SetTable} (hd : t.dummies = #[]) (ha : Nat → Int) (h : Int) : ∀ (fuel : Nat) (p : SetTable.Probe) (j : Nat) (d : Option Nat), p.dummy = none → SetTable.probe.go t ha h fuel p = some (.empty j d) → t.slot j = .empty ∧ d = none
  | 0, p, j, d, _, e => by unfold SetTable.probe.go at e; cases e
  | fuel + 1, p, j, d, hp, e => by
    unfold SetTable.probe.go at e
    split at e
    · rename_i q
      cases e
      exact ⟨q, hp⟩
    · rename_i q
      exact absurd q (slot_nd hd _)
    · split at e
      · cases e
      · refine probe_go hd ha h fuel _ j d ?_ e
        unfold SetTable.advance
        split
        · exact hp
        · exact hp
theorem free_slot {t : SetTable} (hd : t.dummies = #[]) {h : Int} {j : Nat} {b : Bool} (e : t.freeSlot h = some (j, b)) : t.slot j = .empty ∧ b = false := by
  unfold SetTable.freeSlot at e
  split at e
  · rename_i j' d q
    unfold SetTable.probe at q
    obtain ⟨h1, h2⟩ := probe_go hd _ _ _ _ _ _ rfl q
    subst h2
    cases e
    exact ⟨h1, rfl⟩
  · cases e
theorem put_ok {bt : Bool} {t : SetTable} (h : TOk bt t) {j : Nat} (hs : t.slot j = .empty) : TOk bt (t.put j).1 := by
  obtain ⟨h1, h2, h3⟩ := h
  unfold SetTable.put
  dsimp only
  refine ⟨?_, ?_, h3⟩
  · have : SetTable.has t.dummies j = false := by rw [h1]; simp [SetTable.has, SetTable.below, SetTable.below.go]
    dsimp only
    rw [this]
    exact h1
  · dsimp only
    rw [SetTable.toList_insertAt]
    obtain ⟨b1, b2, b3⟩ := below_spec h2 j
    have hne : t.place[SetTable.below t.place j]? ≠ some j := by
      intro c
      unfold SetTable.slot at hs
      dsimp only at hs
      rw [c] at hs
      simp at hs
    have hp := h2
    rw [← List.take_append_drop (SetTable.below t.place j) t.place.toList] at hp
    obtain ⟨p1, p2, p3⟩ := List.pairwise_append.mp hp
    refine List.pairwise_append.mpr ⟨p1, List.pairwise_cons.mpr ⟨fun y hy => ?_, p2⟩, fun x hx y hy => ?_⟩
    · obtain ⟨i, hi, rfl⟩ := List.getElem_of_mem hy
      rw [List.getElem_drop]
      have hlt : SetTable.below t.place j + i < t.place.size := by simp at hi; omega
      have := b2 (SetTable.below t.place j + i) (by omega) hlt
      rw [getD_list hlt] at this
      apply Nat.lt_of_le_of_ne this
      intro e
      cases i with
      | zero =>
        apply hne
        rw [Array.getElem?_eq_getElem (by omega)]
        simp only [Nat.add_zero] at e
        exact congrArg some e.symm
      | succ i =>
        have h5 := ris_get h2 j (SetTable.below t.place j) (SetTable.below t.place j + (i + 1)) (by omega) hlt
        have h6 := b2 (SetTable.below t.place j) (Nat.le_refl _) (by omega)
        rw [getD_list (xs := t.place) (i := SetTable.below t.place j + (i + 1)) hlt] at h5
        omega
    · have lt : x < j := by
        obtain ⟨i, hi, rfl⟩ := List.getElem_of_mem hx
        rw [List.getElem_take]
        have hi' : i < SetTable.below t.place j := by simp at hi; omega
        have hlt : i < t.place.size := by omega
        have := b1 i hi'
        rwa [getD_list hlt] at this
      rcases List.mem_cons.mp hy with rfl | hy
      · exact lt
      · exact p3 x hx y hy
theorem stand_ok {bt : Bool} {t : SetTable} (h : TOk bt t) (n : Nat) : TOk bt (t.standIn n) := by
  refine ⟨rfl, ?_, h.2.2⟩
  unfold SetTable.standIn
  simpa using List.pairwise_lt_range (n := n)
theorem orStand_ok {bt : Bool} {t : SetTable} (h : TOk bt t) (n : Nat) : TOk bt (t.orStandIn n) := by
  unfold SetTable.orStandIn
  split
  · exact h
  · exact stand_ok h n
theorem layNew_ok {bt : Bool} {t : SetTable} (h : TOk bt t) (es : Array (Int × Value)) (k : Int) (x : Value) : TOk bt (layNew t es k x).2.1 := by
  unfold layNew
  split
  · rename_i j b e
    exact orStand_ok (put_ok h (free_slot h.1 e).1) _
  · exact stand_ok h _
theorem fm_rng {α : Type} (f : Nat → Option α) : ∀ l : List Nat, l.Pairwise (· < ·) → ((l.filterMap fun j => (f j).map (j, ·)).map (·.1)).Pairwise (· < ·) ∧ ∀ y ∈ (l.filterMap fun j => (f j).map (j, ·)).map (·.1), y ∈ l
  | [], _ => ⟨List.Pairwise.nil, by simp⟩
  | a :: l, h => by
    obtain ⟨h1, h2⟩ := List.pairwise_cons.mp h
    obtain ⟨i1, i2⟩ := fm_rng f l h2
    cases e : f a with
    | none =>
      rw [List.filterMap_cons_none (by simp [e])]
      exact ⟨i1, fun y hy => List.mem_cons_of_mem _ (i2 y hy)⟩
    | some b =>
      rw [List.filterMap_cons_some (b := (a, b)) (by simp [e])]
      refine ⟨List.pairwise_cons.mpr ⟨fun y hy => h1 y (i2 y hy), i1⟩, fun y hy => ?_⟩
      rcases List.mem_cons.mp hy with rfl | hy
      · exact List.mem_cons_self
      · exact List.mem_cons_of_mem _ (i2 y hy)
theorem relay_ok {bt : Bool} {t : SetTable} (h : TOk bt t) (es : Array (Int × Value)) (n : Nat) : TOk bt (relayAll t es n).2.1 := by
  unfold relayAll
  split
  · rename_i t' order e
    dsimp only
    split
    · unfold SetTable.relaid SetTable.laid at e
      simp only [Option.bind_eq_bind, Option.bind_eq_some_iff] at e
      obtain ⟨ow, _, e⟩ := e
      simp only [Option.pure_def, Option.some.injEq, Prod.mk.injEq] at e
      obtain ⟨rfl, _⟩ := e
      refine ⟨rfl, ?_, h.2.2⟩
      dsimp only
      exact (fm_rng (fun j => ow.getD j none) _ List.pairwise_lt_range).1
    · exact stand_ok h _
  · exact stand_ok h _
theorem pick_go {α : Type} (next : Nat → Nat) : ∀ (fuel k : Nat) (left : List α) (out : Array α), left.length = fuel → (pickOrder.go next fuel k left out).toList.Perm (out.toList ++ left)
  | 0, k, left, out, h => by
    have : left = [] := List.eq_nil_of_length_eq_zero h
    subst this
    unfold pickOrder.go
    simp
  | fuel + 1, k, left, out, h => by
    unfold pickOrder.go
    have hlt : next k % left.length < left.length := Nat.mod_lt _ (by omega)
    rw [List.getElem?_eq_getElem hlt]
    dsimp only
    refine (pick_go next fuel (k + 1) _ _ (by rw [List.length_eraseIdx_of_lt hlt]; omega)).trans ?_
    rw [Array.toList_push, List.append_assoc]
    refine List.Perm.append_left _ ?_
    have e := List.eraseIdx_eq_take_drop_succ left (next k % left.length)
    rw [e]
    have e2 : left = left.take (next k % left.length) ++ left[next k % left.length] :: left.drop (next k % left.length + 1) := by
      rw [← List.drop_eq_getElem_cons hlt, List.take_append_drop]
    conv => rhs; rw [e2]
    rw [List.singleton_append]
    exact List.perm_middle.symm
theorem pick_perm {α : Type} (next : Nat → Nat) (xs : Array α) : (pickOrder next xs).toList.Perm xs.toList := by
  unfold pickOrder
  have := pick_go next xs.size 0 xs.toList #[] (by simp)
  simpa using this
end L3
set_option linter.all false
set_option maxRecDepth 100000
namespace L3
open PySem PySem.Spec PyProof.Rows
abbrev bytx (w : World) : Bool := w.params.followText "set-order"
structure SX (prog : Program) (w : World) (o : Obj) (es : Array (Int × Value)) (ep : Nat) (t : SetTable) : Prop where
  ex : o.ExactSet
  dat : o.data = .set es ep t
  el : ElemsOf (intKind prog w) es.toList
  fit : t.fits es.size = true
  tab : TOk (bytx w) t
def ik : Value → Int
  | .int i _ => i
  | _ => 0
def kys (es : List (Int × Value)) : List Int := es.map fun e => ik e.2
section
variable {prog : Program} {w : World} {A : Around} {E : Value → Shared → Prop} {s : Shared}
theorem el_int {l : List (Int × Value)} (h : ElemsOf (intKind prog w) l) {e : Int × Value} (he : e ∈ l) : ∃ t, e.2 = .int (ik e.2) t := by
  obtain ⟨⟨k, hk, _⟩, _⟩ := h e he
  obtain ⟨t, ht⟩ := Value.isInt_shape hk
  exact ⟨t, by rw [ht]; rfl⟩
theorem is_iff {l : List (Int × Value)} (h : ElemsOf (intKind prog w) l) {e : Int × Value} (he : e ∈ l) (k : Int) : (intKind prog w).is k e.2 = decide (k = ik e.2) := by
  obtain ⟨t, ht⟩ := el_int h he
  have : (intKind prog w).is (ik e.2) e.2 = true := by rw [ht]; exact intKind_is _ _ _ _
  exact KeyKind.is_eq_decide this k
theorem find_some {l : List (Int × Value)} (h : ElemsOf (intKind prog w) l) {k : Int} {j : Nat} (e : l.findIdx? (fun e => (intKind prog w).is k e.2) = some j) : k ∈ kys l := by
  obtain ⟨hj, hp, _⟩ := List.findIdx?_eq_some_iff_getElem.mp e
  rw [is_iff h (List.getElem_mem hj)] at hp
  exact List.mem_map.mpr ⟨_, List.getElem_mem hj, (of_decide_eq_true hp).symm⟩
theorem find_none {l : List (Int × Value)} (h : ElemsOf (intKind prog w) l) {k : Int} (e : l.findIdx? (fun e => (intKind prog w).is k e.2) = none) : ¬ k ∈ kys l := by
  intro c
  obtain ⟨x, hx, hk⟩ := List.mem_map.mp c
  have := List.findIdx?_eq_none_iff.mp e x hx
  rw [is_iff h hx, hk] at this
  simp at this
theorem SX.kept {o : Obj} {es : Array (Int × Value)} {ep : Nat} {t : SetTable} {es' : Array (Int × Value)} {t' : SetTable} (h : SX prog w o es ep t) (h1 : ElemsOf (intKind prog w) es'.toList) (h2 : t'.fits es'.size = true) (h3 : TOk (bytx w) t') :
    SX prog w { o with data := .set es' (ep + 1) t' } es' (ep + 1) t' := ⟨h.ex, rfl, h1, h2, h3⟩
theorem upd_at {h : Heap} {a : Addr} {o : Obj} {es : Array (Int × Value)} {ep : Nat} {t : SetTable} (ho : h.get? a = some o) (hd : o.data = .set es ep t) (es' : Array (Int × Value)) (t' : SetTable) :
    (h.update a (Obj.putSet es' t')).get? a = some { o with data := .set es' (ep + 1) t' } := by
  have q := Heap.get?_update_self (Obj.putSet es' t') ho (by rw [putSet_of es' t' hd]; rfl)
  rwa [putSet_of es' t' hd] at q
theorem add_int {a : Addr} {o : Obj} {es : Array (Int × Value)} {ep : Nat} {t : SetTable} {k : Int} {tk : Tok} {Q : Bool → Shared → Prop} (ho : s.heap.get? a = some o) (hx : SX prog w o es ep t) (hb : es.size + 1 < scanBound)
    (h1 : k ∈ kys es.toList → Q false s)
    (h2 : ∀ h' o' es' ep' t', ¬ k ∈ kys es.toList → Heap.SameBut a s.heap h' → h'.get? a = some o' → SX prog w o' es' ep' t' → (kys es'.toList).Perm (kys es.toList ++ [k]) → Q true { s with heap := h' }) :
    wpAny (model prog w) A (setAddHashed a (.int k tk) ((intKind prog w).hash k)) Q E s := by
  have isk : (intKind prog w).is k (.int k tk) = true := intKind_is _ _ _ _
  unfold setAddHashed setAddHashedIn
  refine wpAny_holding (wpAny_bind (wpAny_setState_of ho hx.dat hx.fit ?_))
  dsimp only
  rw [byScan_of (knd := intKind prog w) (x := .int k tk) rfl (by omega) hx.el, if_pos rfl]
  unfold setAddByScan
  refine wpAny_bind (wpAny_bind (wpAny_rule (wpAny_bind (wpAny_setScan_of isk ho hx.dat hx.fit hx.el ?_))))
  cases f : es.toList.findIdx? (fun e => (intKind prog w).is k e.2) with
  | some j => exact wpAny_pure (wpAny_pure (h1 (find_some hx.el f)))
  | none =>
    dsimp only
    have quietly : ∀ (b : Bool) {s₁ : Shared} {Q' : Unit → Shared → Prop}, Q' () s₁ → wpAny (model prog w) A (match b with | true => rule "set.scan.the-table-gave-way" | false => pure ()) Q' E s₁ :=
      fun b s₁ Q' z => by cases b <;> first | exact wpAny_pure z | exact wpAny_rule z
    have nk := find_none hx.el f
    have pm := layNew_perm t es ((intKind prog w).hash k) (.int k tk)
    have ft := layNew_fits t es ((intKind prog w).hash k) (.int k tk)
    have tb := layNew_ok hx.tab es ((intKind prog w).hash k) (.int k tk)
    generalize layNew t es ((intKind prog w).hash k) (.int k tk) = Z at pm ft tb ⊢
    obtain ⟨es1, t1, wd, gv⟩ := Z
    dsimp only at pm ft tb ⊢
    rw [Array.toList_push] at pm
    have el1 : ElemsOf (intKind prog w) es1.toList := (hx.el.push isk rfl).perm pm
    have sz1 : es1.size < scanBound := by
      have := pm.length_eq
      simp at this
      omega
    have ky1 : (kys es1.toList).Perm (kys es.toList ++ [k]) := by
      have := pm.map (fun e : Int × Value => ik e.2)
      simpa [kys, ik] using this
    have rest : wpAny (model prog w) A (do
        storeSet a es1 t1
        if (!wd && t1.tooFull) = true then do
            (match (relayAll t1 es1 (SetTable.grown es1.size)).2.2 with | true => rule "set.scan.the-table-gave-way" | false => pure ())
            storeSet a (relayAll t1 es1 (SetTable.grown es1.size)).1 (relayAll t1 es1 (SetTable.grown es1.size)).2.1
            pure (some true)
          else pure (some true)) (fun r s' => r = some true ∧ Q true s') E s := by
      refine wpAny_bind (wpAny_storeSet_of ho hx.dat ?_ (fits_of_scanBound sz1))
      have o1 := upd_at ho hx.dat es1 t1
      have x1 := hx.kept el1 ft tb
      have b1 := Heap.SameBut.update s.heap a (Obj.putSet es1 t1)
      split
      · have pm2 := relayAll_perm t1 es1 (SetTable.grown es1.size)
        have ft2 := relayAll_fits t1 es1 (SetTable.grown es1.size)
        have tb2 := relay_ok tb es1 (SetTable.grown es1.size)
        generalize relayAll t1 es1 (SetTable.grown es1.size) = Y at pm2 ft2 tb2 ⊢
        obtain ⟨es2, t2, g2⟩ := Y
        dsimp only at pm2 ft2 tb2 ⊢
        have sz2 : es2.size < scanBound := by
          have := pm2.length_eq
          simp at this
          omega
        refine wpAny_bind (quietly _ (wpAny_bind (wpAny_storeSet_of o1 rfl ?_ (fits_of_scanBound sz2))))
        refine wpAny_pure ⟨rfl, h2 _ _ _ _ _ nk (b1.trans (Heap.SameBut.update _ a _)) (upd_at o1 rfl es2 t2) (x1.kept (el1.perm pm2) ft2 tb2) ?_⟩
        exact (pm2.map (fun e : Int × Value => ik e.2)).trans ky1
      · exact wpAny_pure ⟨rfl, h2 _ _ _ _ _ nk b1 o1 x1 ky1⟩
    refine wpAny_bind (quietly _ ?_)
    split
    · refine wpAny_bind ?_
      rw [hashByValue_scannable 8 (x := .int k tk) rfl]
      refine wpAny_pure ?_
      simp only [plainKind, if_true]
      refine wpAny_mono rest (fun r s' z => ?_) fun _ _ z => z
      obtain ⟨rfl, z⟩ := z
      exact wpAny_pure z
    · refine wpAny_bind (wpAny_pure ?_)
      simp only [if_true]
      refine wpAny_mono rest (fun r s' z => ?_) fun _ _ z => z
      obtain ⟨rfl, z⟩ := z
      exact wpAny_pure z
end
end L3
set_option linter.all false
set_option maxRecDepth 100000
namespace L3
open PySem PySem.Spec PyProof.Rows
section
variable {prog : Program} {w : World} {A : Around} {E : Value → Shared → Prop} {s : Shared}
def SetIt (h : Heap) (I a : Addr) (first : Value) (i n ep : Nat) : Prop := ∃ o, h.get? I = some o ∧ o.cls = .type "set_iterator" ∧ o.data = .fields #[first, .int i 0, .ref a, .int n 0, .int ep 0]
theorem SetIt.ty {I a : Addr} {f : Value} {i n ep : Nat} (h : SetIt s.heap I a f i n ep) : s.TypeIs (.ref I) "set_iterator" := let ⟨o, ho, hc, _⟩ := h; ⟨o, ho, hc⟩
end
end L3
set_option linter.all false
set_option maxRecDepth 100000
namespace L3
open PySem PySem.Spec PyProof.Rows
section
variable {prog : Program} {w : World} {A : Around} {E : Value → Shared → Prop} {s : Shared}
inductive Rd (w : World) (a : Addr) (es : Array (Int × Value)) (ep : Nat) (t : SetTable) : List Value → (Nat → Value) → Addr → Option (List Nat) → Prop where
  | text (hb : bytx w = true) : Rd w a es ep t ((pickOrder (w.params.setOrder a ep) es).toList.map (·.2)) (fun _ => .int 0 0) a none
  | drawn (hb : bytx w = false) (ps : List Nat) (hp : ps.Perm (List.range es.size)) (b : Addr) : Rd w a es ep t (ps.map fun j => (es.getD j (0, .none)).2) (fun _ => .ref b) b (some ps)
  | slots (hb : bytx w = false) (hd : (!t.plain && decide (es.size > 1)) = false) : Rd w a es ep t (es.toList.map (·.2)) (fun i => .int (if i = 0 then 0 else ((t.place.getD (i - 1) 0 + 1 : Nat) : Int)) 0) a none
theorem Rd.perm {a : Addr} {es : Array (Int × Value)} {ep : Nat} {t : SetTable} {vs : List Value} {f : Nat → Value} {b : Addr} {tp : Option (List Nat)} (h : Rd w a es ep t vs f b tp) : vs.Perm (es.toList.map (·.2)) := by
  cases h with
  | text hb => exact (pick_perm _ _).map _
  | drawn hb ps hp b =>
    refine (hp.map _).trans ?_
    have : (List.range es.size).map (fun j => (es.getD j (0, .none)).2) = es.toList.map (·.2) := by
      apply List.ext_getElem?
      intro i
      rw [List.getElem?_map, List.getElem?_map]
      by_cases c : i < es.size
      · rw [List.getElem?_range c]
        simp [Array.getD, c]
      · rw [List.getElem?_eq_none (by simpa using c), List.getElem?_eq_none (by simpa using c)]
        rfl
    rw [this]
  | slots hb hd => exact .refl _
theorem SetIt.step {h : Heap} {I a : Addr} {f : Value} {i n ep : Nat} (hi : SetIt h I a f i n ep) (g : Value) :
    SetIt ((h.update I (Obj.mapFields (·.setIfInBounds 0 g))).update I (Obj.mapFields (·.setIfInBounds 1 (rawInt ((i : Int) + 1))))) I a g (i + 1) n ep := by
  obtain ⟨o, ho, hc, hd⟩ := hi
  have h1 := Heap.get?_update_self (Obj.mapFields (·.setIfInBounds 0 g)) ho (Obj.isFreed_of_fields (Obj.data_mapFields hd _))
  have d1 := Obj.data_mapFields hd (·.setIfInBounds 0 g)
  have h2 := Heap.get?_update_self (Obj.mapFields (·.setIfInBounds 1 (rawInt ((i : Int) + 1)))) h1 (Obj.isFreed_of_fields (Obj.data_mapFields d1 _))
  exact ⟨_, h2, (Obj.cls_mapFields ..).trans ((Obj.cls_mapFields ..).trans hc), by rw [Obj.data_mapFields d1]; simp [rawInt]⟩
end
end L3
set_option linter.all false
set_option maxRecDepth 100000
namespace L3
open PySem PySem.Spec PyProof.Rows
section
variable {prog : Program} {w : World} {A : Around} {E : Value → Shared → Prop} {s : Shared}
theorem SetIt.keep {h h' : Heap} {I a : Addr} {f : Value} {i n ep : Nat} (x : SetIt h I a f i n ep) (e : ∀ o, h.get? I = some o → h'.get? I = some o) : SetIt h' I a f i n ep := let ⟨o, ho, r⟩ := x; ⟨o, e o ho, r⟩
end
end L3
set_option linter.all false
set_option maxRecDepth 100000
namespace L3
open PySem PySem.Spec PyProof.Rows L2
theorem nodup_le : ∀ (ks : List Int) (m : List Int), ks.Nodup → (∀ x ∈ ks, x ∈ m) → ks.length ≤ m.length
  | [], m, _, _ => Nat.zero_le _
  | k :: ks, m, h, hs => by
    obtain ⟨h1, h2⟩ := List.nodup_cons.mp h
    have := nodup_le ks (m.erase k) h2 fun x hx => (List.mem_erase_of_ne (by rintro rfl; exact h1 hx)).mpr (hs x (List.mem_cons_of_mem _ hx))
    rw [List.length_erase_of_mem (hs k List.mem_cons_self)] at this
    have := List.length_pos_of_mem (hs k List.mem_cons_self)
    simp
    omega
section
variable {κ : Nat → Addr} {B : Gd} {X : Cx} {a : Expr} {fa : Ev → R D} {p pos p' pos' : Pos}
end
end L3
set_option linter.all false
set_option maxRecDepth 100000
namespace L3
open PySem PySem.Spec PyProof.Rows L2
section
variable {κ : Nat → Addr} {B : Gd} {X : Cx} {e : Expr} {pos pos' p1 p2 : Pos}
end
end L3
set_option Elab.async false
set_option linter.all false
set_option maxRecDepth 100000
namespace L3
open PySem PySem.Spec PyProof.Rows L2
section
variable {κ : Nat → Addr} {B : Gd} {X : Cx} {a b c : Expr} {fa fb : Ev → R D} {pos p p' : Pos}
end
end L3
set_option Elab.async false
set_option linter.all false
set_option maxRecDepth 100000
namespace L3
open PySem PySem.Spec PyProof.Rows L2
section
variable {κ : Nat → Addr} {B : Gd} {X : Cx} {sc : Scope} {x y : Str} {px py pos spos : Pos} {iter elt : Expr} {ifs : List Expr} {fit : Ev → R (List D)} {t : Ev → R Bool} {f : Ev → R D} {i j : Nat}
end
end L3
set_option Elab.async false
set_option linter.all false
set_option maxRecDepth 100000
namespace L3
open PySem PySem.Spec PyProof.Rows L2
section
variable {κ : Nat → Addr} {B : Gd} {X : Cx} {a b : Expr} {fs : Ev → R (List D)} {tgs : List Expr} {kk : Nat} {p pos tpos : Pos}
end
end L3
set_option Elab.async false
set_option linter.all false
set_option maxRecDepth 100000
namespace L3
open PySem PySem.Spec PyProof.Rows L2
section
variable {κ : Nat → Addr} {B : Gd} {X : Cx} {e : Expr} {f : Ev → R D} {t : Ev → R Bool}
end
end L3
set_option Elab.async false
set_option linter.all false
set_option maxRecDepth 100000
namespace L3
open PySem PySem.Spec PyProof.Rows L2
section
variable {κ : Nat → Addr} {B : Gd} {X : Cx} {a b c : Expr} {fa fb : Ev → R D} {pos p p' : Pos}
end
end L3
set_option Elab.async false
set_option linter.all false
set_option maxRecDepth 100000
namespace L3
open PySem PySem.Spec PyProof.Rows L2
section
variable {X : Cx} {sc : Scope} {N0 xs : List Str} {cl : List (Str × Addr)} {C : Addr} {sb s4 : Shared} {Hb H4 : Hp} {pins : List (Addr × Obj)} {σ : St} {m : Str → Option Value} {E : Value → Shared → Prop}
end
section
variable {κ : Nat → Addr} {B : Gd} {X : Cx} {e a b tg : Expr} {f : Ev → R D} {fs fit : Ev → R (List D)} {tgs : List Expr} {kk : Nat} {p pos tpos : Pos}
end
section
variable {κ : Nat → Addr} {B : Gd} {X : Cx} {sc : Scope} {N0 xs : List Str} {pos : Pos} {tg iter elt : Expr} {ifs : List Expr} {fit : Ev → R (List D)} {bd : D → Ev → Option Ev} {t : Ev → R Bool} {f : Ev → R D}
end
end L3
set_option Elab.async false
set_option linter.all false
set_option maxRecDepth 100000
namespace L3
open PySem PySem.Spec PyProof.Rows L2
section
variable {κ : Nat → Addr} {B : Gd} {X : Cx} {sc : Scope} {N0 xs : List Str} {pos : Pos} {tg iter elt : Expr} {ifs : List Expr} {fit : Ev → R (List D)} {bd : D → Ev → Option Ev} {t : Ev → R Bool} {f : Ev → R D}
end
end L3
set_option Elab.async false
set_option linter.all false
set_option maxRecDepth 100000
namespace L3
open PySem PySem.Spec PyProof.Rows L2
section
variable {κ : Nat → Addr} {B : Gd} {X : Cx} {pos pos' pos'' apos : Pos}
end
section
variable {κ : Nat → Addr} {B : Gd} {X : Cx} {a b : Expr} {fa fb : Ev → R D} {p pos : Pos}
end
end L3
set_option Elab.async false
set_option linter.all false
set_option maxRecDepth 100000
namespace L3
open PySem PySem.Spec PyProof.Rows L2
def keyOf : D → Option Key
  | .int i => some (.inl i)
  | .str x => some (.inr ⟨x.toArray⟩)
  | _ => none
theorem den_key {Z : Zx} {G : Hp} {v : V} {d : D} {k : Key} (h : Den Z G v d) (e : keyOf d = some k) : v = kV k := by
  cases d <;> simp [keyOf] at e <;> subst e <;> unfold Den at h <;> exact h
def atK : List Key → List D → Key → Option D
  | k :: ks, d :: ds, x => if k = x then some d else atK ks ds x
  | _, _, _ => none
theorem atK_val {Z : Zx} {G : Hp} {x : Key} : ∀ {ks : List Key} {vs : List V} {ds : List D}, ks.length = vs.length → Dens Z G vs ds → match atK ks ds x with
    | some d => ∃ v, valV (ks.zip vs) x = some v ∧ Den Z G v d
    | none => valV (ks.zip vs) x = none
  | [], [], [], _, _ => rfl
  | k :: ks, v :: vs, d :: ds, hl, hd => by
    unfold Dens at hd
    rw [List.zip_cons_cons]
    unfold atK
    by_cases c : k = x
    · rw [if_pos c]
      exact ⟨v, valV_pos c, hd.1⟩
    · rw [if_neg c]
      have ih := atK_val (x := x) (ks := ks) (by simpa using hl) hd.2
      rw [valV_neg (p := (k, v)) (r := ks.zip vs) c]
      exact ih
  | [], _ :: _, _, hl, _ => by simp at hl
  | _ :: _, [], _, hl, _ => by simp at hl
  | _, [], _ :: _, _, hd => by unfold Dens at hd; exact hd.elim
  | _, _ :: _, [], _, hd => by unfold Dens at hd; exact hd.elim
def oDix (x k : D) : R D := match x, keyOf k with
  | .dic ks ds, some key => match atK ks ds key with
    | some d => .ok d
    | none => .stuck
  | _, _ => .stuck
section
variable {κ : Nat → Addr} {B : Gd} {X : Cx} {a b e o : Expr} {fa fb fo fk : Ev → R D} {pos p : Pos}
theorem y_dix (hu : X.A.units + 64 < cLine) (ho : PX κ B X o fo) (hk : PX κ B X a fk) (hs : ∀ ov iv, subscripted a false ov iv = operate [ov, iv] (getItem ov iv)) : PX κ B X (.Subscript o a pos) (m2 oDix fo fk) := fun pins σ Ex =>
  pe_imp (pe_dget (X := At X pins σ Ex) (show X.A.units + 1 < cLine by omega) (ho pins σ Ex) (hk pins σ Ex) hs) fun τ H Q ⟨G, δ, rp, q⟩ => ⟨G, δ, rp, q.seq fun x v H1 G1 e1 d1 q1 => ⟨G1, δ, rp.ext e1, q1.seq fun y u H2 G2 e2 d2 q2 => by
    unfold oDix at q2
    split at q2
    · rename_i ks ds key ek
      have d1' := d1.mono e2.sG
      unfold Den at d1'
      obtain ⟨l, vs, rfl, h1, h2, h3⟩ := d1'
      have h4 := atK_val (x := key) h2 h3
      cases c : atK ks ds key with
      | none => rw [c] at q2; exact False.elim q2
      | some d =>
        rw [c] at q2 h4
        obtain ⟨w, e4, d4⟩ := h4
        have g := DGet.k (k := key) (e2.GH _ _ h1)
        rw [e4, ← den_key d2 ek] at g
        exact ⟨l, w, rfl, g, q2 w H2 G2 (Ext.refl e2.GH) d4⟩
    · exact False.elim q2⟩⟩
end
def PXd (κ : Nat → Addr) (B : Gd) (X : Cx) (pos : Pos) (keys : List (Option Expr)) (values : List Expr) (ks : List Key) (fs : Ev → R (List D)) : Prop := ∀ pins σ Ex, ∃ trs, PPs (At X pins σ Ex) pos keys values trs ∧ keys.length = ks.length ∧ keys.length = values.length ∧ keys.all (·.isSome) = true ∧
  ∀ τ H Q G δ, Rep ⟨X.K, κ⟩ B X.H₀ G H τ δ → Out (dsRel X κ) κ (EX X pins σ Ex) G H (fs δ) (fun vs H' => vs.length = ks.length → Q ((ks.map kV).zip vs) H') → tPairs trs τ H Q
section
variable {κ : Nat → Addr} {B : Gd} {X : Cx} {e : Expr} {f : Ev → R D} {fs : Ev → R (List D)} {pos p : Pos} {keys : List (Option Expr)} {values : List Expr} {ks : List Key}
theorem pxd_nil : PXd κ B X pos [] [] [] mNil := fun pins σ Ex => ⟨[], pps_nil, rfl, rfl, rfl, fun τ H Q G δ rp q => q [] H G (Ext.refl rp.GH) dens_nil rfl⟩
theorem pxd_cons {x : Str} {j} (h : PX κ B X e f) (hr : PXd κ B X pos keys values ks fs) : PXd κ B X pos (some (.Constant (.str x) j p) :: keys) (e :: values) (.inr x :: ks) (mCons f fs) := fun pins σ Ex => by
  obtain ⟨trs, h1, h2, h3, h4, h5⟩ := hr pins σ Ex
  refine ⟨_, pps_cons (X := At X pins σ Ex) pe_str (h pins σ Ex) h1, by simp [h2], by simp [h3], by simp [h4], fun τ H Q G δ rp q => ?_⟩
  refine ⟨G, δ, rp, ?_⟩
  unfold mCons at q
  refine q.seq fun d v H1 G1 e1 d1 q1 => ?_
  refine h5 τ H1 _ G1 δ (rp.ext e1) (q1.seq fun ds vs H2 G2 e2 d2 q2 hl => ?_)
  exact q2 (v :: vs) H2 G2 (Ext.refl e2.GH) (dens_cons (d1.mono e2.sG) d2) (by simp [hl])
def mDisp (ks : List Key) (fs : Ev → R (List D)) : Ev → R D := fun δ => (fs δ).bind fun ds => if ds.length = ks.length then .ok (.dic ks ds) else .stuck
theorem merge_new : ∀ (more kvs : List (Key × V)), (more.map (·.1)).Nodup → (∀ k ∈ more.map (·.1), valV kvs k = none) → mergeK kvs more = kvs ++ more
  | [], kvs, _, _ => by simp [mergeK]
  | (k, v) :: r, kvs, hn, hv => by
    have hn' := List.nodup_cons.mp hn
    have h0 := hv k (by simp)
    show mergeK (putK kvs k v) r = _
    rw [putK_new v h0, merge_new r _ hn'.2 fun j hj => ?_]
    · simp
    · rw [valV_snoc k j v kvs h0]
      have hne : j ≠ k := by rintro rfl; exact hn'.1 hj
      rw [if_neg hne]
      exact hv j (by simp only [List.map_cons, List.mem_cons]; exact .inr hj)
theorem zip_kV : ∀ (ks : List Key) (vs : List V), (ks.map kV).zip vs = (ks.zip vs).map fun kv => (kV kv.1, kv.2)
  | [], _ => rfl
  | _ :: _, [] => rfl
  | k :: ks, v :: vs => by simp [zip_kV ks vs]
theorem px_disp (h : PXd κ B X pos keys values ks fs) (h0 : keys ≠ []) (h15 : keys.length ≤ 15) (hn : ks.Nodup) : PX κ B X (.Dict keys values pos) (mDisp ks fs) := fun pins σ Ex => by
  obtain ⟨trs, h1, h2, h3, h4, h5⟩ := h pins σ Ex
  refine pe_imp (pe_disp (X := At X pins σ Ex) h1 h4 h3 h0 h15) fun τ H Q ⟨G, δ, rp, q⟩ p hp => ?_
  have ex0 := ext_own (o := .dK []) rp.GH hp
  have gp : G p = none := rp.GH.free hp
  refine h5 τ _ _ G δ (rp.ext ex0) ?_
  unfold mDisp at q
  cases e : fs δ with
  | stuck => rw [e] at q; exact False.elim q
  | exc c => rw [e] at q; exact fun H' G' e1 => q H' G' (ex0.trans e1)
  | ok ds =>
    rw [e] at q
    simp only [R.bind_ok] at q
    intro vs H2 G2 e2 d2 hl
    have hp2 : H2 p = some (.dK []) := e2.sH _ _ upd_same
    have gp2 : G2 p = none := by
      cases z : G2 p with
      | none => rfl
      | some o =>
        rcases e2.new p (by rw [z]; simp) with y | y
        · exact absurd gp y
        · rw [upd_same] at y; cases y
    have hlk : ds.length = ks.length := by rw [← d2.length]; exact hl
    rw [if_pos hlk] at q
    refine ⟨hp2, ks.zip vs, ?_, ?_, ?_⟩
    · exact zip_kV ks vs
    · rw [List.length_zip]; omega
    · have hm : mergeK [] (ks.zip vs) = ks.zip vs := by
        rw [merge_new]
        · simp
        · rw [List.map_fst_zip (by omega)]; exact hn
        · intro k _; rfl
      rw [hm]
      have ee : Ext G H (upd G2 p (.dK (ks.zip vs))) (upd H2 p (.dK (ks.zip vs))) := by
        have t := ex0.trans e2
        refine ⟨fun b o z => ?_, fun b o z => ?_, fun b o z => ?_, fun b z => ?_⟩
        · rw [upd_ne (ne_of_none z gp)]; exact t.sG b o z
        · rw [upd_ne (ne_of_none z hp)]; exact t.sH b o z
        · by_cases hb : b = p
          · subst hb; rw [upd_same] at z ⊢; exact z
          · rw [upd_ne hb] at z ⊢; exact t.GH b o z
        · by_cases hb : b = p
          · subst hb; exact .inr hp
          · rw [upd_ne hb] at z; exact t.new b z
      refine q _ _ _ ee ?_
      unfold Den
      exact ⟨p, vs, rfl, upd_same, hl.symm, d2.mono fun b o z => by rw [upd_ne (ne_of_none z gp2)]; exact z⟩
end
section
variable {κ : Nat → Addr} {B : Gd} {X : Cx}
end
end L3
set_option Elab.async false
set_option linter.all false
set_option maxRecDepth 100000
namespace L3
open PySem PySem.Spec PyProof.Rows L2
section
variable {X : Cx} {tg : Expr}
end
section
variable {κ : Nat → Addr} {B : Gd} {X : Cx} {tg : Expr}
end
end L3
set_option Elab.async false
set_option linter.all false
set_option maxRecDepth 100000
namespace L3
open PySem PySem.Spec PyProof.Rows L2
theorem pi_enumN {Y : Cx} {x : Str} {i : Nat} {tgs : List Expr} {kk : Nat} {tpos p px pos : Pos} (hg : Gl Y "enumerate") (hm : Y.mg "enumerate" = none) (hi : Y.N[i]? = some x) (vx : Vis Y.env.scope x) (dx : (x == ("__debug__" : Str)) = false) (cdx : (x == ("__classdict__" : Str)) = false) :
    PI Y (.Tuple tgs kk tpos) (.Call (.Name "enumerate" p) [.Name x px] [] pos) (fun σ H R => ∃ a xs, σ[i]? = some (some (.ref a)) ∧ SqL Y.K H a xs ∧ R (Ite Y.K a) H) := by
  intro pins s σ H R I ⟨a, xs, e1, hq, q⟩
  refine Call_ (ld_blt I hg hm boot_enumerate (PyProof.Rows.callWith_type1 (thn (pa_cons (X := Y) (pe_var (X := Y) (pos := px) hi vx dx cdx) pa_nil rfl pos pins s σ H (fun vs H1 => vs = [.ref a] ∧ H1 = H) I ⟨.ref a, e1, rfl, rfl⟩) fun us s1 ⟨vs, H1, I1, r1, q1, q2⟩ => ?_) rfl rfl))
  subst q1 q2
  cases r1 with
  | cons r rr =>
    cases rr
    cases r
    obtain ⟨its, rv, pl, hz⟩ := I1.list hq
    refine call_enumerate_list pl.isList fun h' he hi hsz hk => ?_
    refine wpAny_pyIter_enum he ?_
    have I2 : Inv Y pins σ H1 { s1 with heap := h' } := I1.kept (t' := s1.toks) hk
    refine ⟨s1.heap.objs.size + 1, [s1.heap.objs.size + 1, s1.heap.objs.size], _, _, H1, rfl, I2, turn_enum a _ _ (Nat.succ_ne_self _), ⟨⟨_, he⟩, hi⟩, fun b hb => ?_, q⟩
    rcases List.mem_cons.mp hb with rfl | hb
    · exact I1.fpOk (Nat.le_succ _) (I1.hok.fresh (Nat.le_succ _))
    · have e' : b = s1.heap.objs.size := by simpa using hb
      subst e'
      exact I1.fpOk (Nat.le_refl _) (I1.hok.fresh (Nat.le_refl _))
theorem pt_wish {κ : Nat → Addr} {B : Gd} {X : Cx} {e : Expr} {f : Ev → R Bool} (cx : Cxo X) (h : PXt κ B X e f) (Ex : Value → Shared → Prop) : PT (X.wish Ex) e (fun σ H Q => ∃ G δ b, Rep ⟨X.K, κ⟩ B X.H₀ G H σ δ ∧ f δ = .ok b ∧ ∀ H' G', Ext G H G' H' → Q b H') := by
  intro pins s σ H Q I ⟨G, δ, b, rp, ef, q⟩
  refine thn (h pins σ Ex pins s σ H Q (inv_at I) ⟨G, δ, rp, ?_⟩) fun b' s1 ⟨H1, I1, q1⟩ => ⟨H1, inv_unat cx.sg I1, q1⟩
  rw [ef]
  intro v H' G' e1 ev
  have : v = b := ev
  subst this
  exact q H' G' e1
theorem Rep.setNone {Z : Zx} {B : Gd} {H₀ G H : Hp} {σ : St} {δ : Ev} (r : Rep Z B H₀ G H σ δ) {i : Nat} {w : Option V} : Rep Z B H₀ G H (σ.set i w) (δ.set i none) where
  toHold := r.toHold
  len := by simpa using r.len
  sh := fun j e q => by
    rcases getset q with ⟨_, e1, _⟩ | ⟨n, q⟩
    · cases e1
    · obtain ⟨u, a, b⟩ := r.sh j e q
      exact ⟨u, by rw [List.getElem?_set_ne (Ne.symm n)]; exact a, b⟩
  ow := fun j ds q => by
    rcases getset q with ⟨_, e1, _⟩ | ⟨n, q⟩
    · cases e1
    · obtain ⟨a, vs, x1, x2⟩ := r.ow j ds q
      exact ⟨a, vs, by rw [List.getElem?_set_ne (Ne.symm n)]; exact x1, x2⟩
  sep := fun j k ds es a n q1 q2 s1 s2 => by
    rcases getset q1 with ⟨_, e1, _⟩ | ⟨n1, q1⟩
    · cases e1
    · rcases getset q2 with ⟨_, e1, _⟩ | ⟨n2, q2⟩
      · cases e1
      · rw [List.getElem?_set_ne (Ne.symm n1)] at s1
        rw [List.getElem?_set_ne (Ne.symm n2)] at s2
        exact r.sep j k ds es a n q1 q2 s1 s2
  oo := fun j c ns ds q => by
    rcases getset q with ⟨_, e1, _⟩ | ⟨n, q⟩
    · cases e1
    · obtain ⟨x, dx, vs, x1, x2⟩ := r.oo j c ns ds q
      exact ⟨x, dx, vs, by rw [List.getElem?_set_ne (Ne.symm n)]; exact x1, x2⟩
  oo1 := fun j k c ns ds c' ns' ds' x n q1 q2 s1 s2 => by
    rcases getset q1 with ⟨_, e1, _⟩ | ⟨n1, p1⟩
    · cases e1
    · rcases getset q2 with ⟨_, e2, _⟩ | ⟨n2, p2⟩
      · cases e2
      · rw [List.getElem?_set_ne (Ne.symm n1)] at s1
        rw [List.getElem?_set_ne (Ne.symm n2)] at s2
        exact r.oo1 j k c ns ds c' ns' ds' x n p1 p2 s1 s2
def grpE (j ia ib : Nat) (δ : Ev) (n : Nat) (d : D) : Ev := ((δ.set j none).set ia (some (.sh (.int (n : Int))))).set ib (some (.sh d))
def grp (en : Nat → D → Ev) (t : Ev → R Bool) : Nat → List D → List (List D) → R (List (List D))
  | _, [], gs => .ok gs
  | n, d :: ds, gs => match t (en n d) with
    | .ok true => grp en t (n + 1) ds (gs ++ [[d]])
    | .ok false => match gs.getLast? with
      | none => .stuck
      | some l => grp en t (n + 1) ds (gs.dropLast ++ [l ++ [d]])
    | _ => .stuck
def zGrp (i j ia ib : Nat) (t : Ev → R Bool) : Ev → SR := fun δ => match δ[i]? with
  | some (some (.sh (.lst ds))) => if ds.length ≤ 100000 then (match grp (grpE j ia ib δ) t 0 ds [] with
    | .ok gs => .next ((match ds.getLast? with | none => δ | some d => (δ.set ia (some (.sh (.int ((ds.length - 1 : Nat) : Int))))).set ib (some (.sh d))).set j (some (.sh (.lst (gs.map D.lst)))))
    | _ => .stuck) else .stuck
  | _ => .stuck
structure GrpOk (Z : Zx) (H G' H' : Hp) (p : Addr) (gs : List (List D)) : Prop where
  fr : H p = none
  gp : G' p = none
  ex : ∃ us, H' p = some (.lst us) ∧ us.length = gs.length ∧ (gs = [] ∨ ∃ gs0 l us0 q ws, gs = gs0 ++ [l] ∧ us = us0 ++ [.ref q] ∧ Dens Z G' us0 (gs0.map D.lst) ∧ H' q = some (.lst ws) ∧ Dens Z G' ws l ∧ H q = none ∧ G' q = none ∧ q ≠ p)
theorem keep_own {G H G' H' : Hp} {p : Addr} {o : HO} (e : Ext G H G' H') (h1 : H p = some o) (h2 : G p = none) : G' p = none := by
  cases z : G' p with
  | none => rfl
  | some o' =>
    rcases e.new p (by rw [z]; simp) with y | y
    · exact absurd h2 y
    · rw [h1] at y; cases y
theorem GrpOk.ext {Z : Zx} {H G1 H1 G2 H2 : Hp} {p : Addr} {gs : List (List D)} (g : GrpOk Z H G1 H1 p gs) (e : Ext G1 H1 G2 H2) : GrpOk Z H G2 H2 p gs := by
  obtain ⟨us, h1, h2, h3⟩ := g.ex
  refine ⟨g.fr, keep_own e h1 g.gp, us, e.sH _ _ h1, h2, h3.imp id ?_⟩
  rintro ⟨gs0, l, us0, q, ws, e1, e2, d1, hq, d2, f1, f2, f3⟩
  exact ⟨gs0, l, us0, q, ws, e1, e2, d1.mono e.sG, e.sH _ _ hq, d2.mono e.sG, f1, keep_own e hq f2, f3⟩
theorem ext_chg {G H G' H' : Hp} {p : Addr} {o : HO} (e : Ext G H G' H') (h1 : H p = none) (h2 : G' p = none) : Ext G H G' (upd H' p o) := by
  refine ⟨e.sG, fun b u z => ?_, fun b u z => ?_, e.new⟩
  · rw [upd_ne (ne_of_none z h1)]; exact e.sH b u z
  · rw [upd_ne (ne_of_none z h2)]; exact e.GH b u z
theorem GrpOk.push {Z : Zx} {G H G' H' : Hp} {p q' : Addr} {gs : List (List D)} {us : List V} (g : GrpOk Z H G' H' p gs) (e : Ext G H G' H') (hu : H' p = some (.lst us)) (hq' : H' q' = none) :
    ∃ G2, Ext G H G2 (upd (upd H' q' (.lst [])) p (.lst (us ++ [.ref q']))) ∧ GrpOk Z H G2 (upd (upd H' q' (.lst [])) p (.lst (us ++ [.ref q']))) p (gs ++ [[]]) := by
  have np : q' ≠ p := by rintro rfl; rw [hu] at hq'; cases hq'
  have hq0 : H q' = none := e.sH.free hq'
  have gq : G' q' = none := e.GH.free hq'
  obtain ⟨us1, h1, h2, h3⟩ := g.ex
  rw [hu] at h1
  cases h1
  rcases h3 with rfl | ⟨gs0, l, us0, q, ws, rfl, rfl, d1, hq, d2, f1, f2, f3⟩
  · have hus : us = [] := by simpa using h2
    subst hus
    refine ⟨G', ext_chg (ext_chg e hq0 gq) g.fr g.gp, g.fr, g.gp, _, upd_same, by simp, .inr ⟨[], [], [], q', [], rfl, rfl, dens_nil, ?_, dens_nil, hq0, gq, np⟩⟩
    rw [upd_ne np, upd_same]
  · have nq : q ≠ q' := by rintro rfl; rw [hq] at hq'; cases hq'
    have sg : Same G' (upd G' q (.lst ws)) := fun b o z => by rw [upd_ne (ne_of_none z f2)]; exact z
    have e2 : Ext G H (upd G' q (.lst ws)) H' := ext_frz e hq f2 f1
    have gp2 : upd G' q (.lst ws) p = none := by rw [upd_ne (Ne.symm f3)]; exact g.gp
    have gq2 : upd G' q (.lst ws) q' = none := by rw [upd_ne (Ne.symm nq)]; exact gq
    refine ⟨upd G' q (.lst ws), ext_chg (ext_chg e2 hq0 gq2) g.fr gp2, g.fr, gp2, _, upd_same, (by simp at h2 ⊢; omega), .inr ⟨gs0 ++ [l], [], us0 ++ [.ref q], q', [], by simp, rfl, ?_, ?_, dens_nil, hq0, gq2, np⟩⟩
    · rw [List.map_append]
      refine (d1.mono sg).append (dens_cons ?_ dens_nil)
      unfold Den
      exact ⟨q, ws, rfl, SqL.of upd_same, d2.mono sg⟩
    · rw [upd_ne np, upd_same]
theorem GrpOk.add {Z : Zx} {G H G' H' : Hp} {p : Addr} {gs0 : List (List D)} {l : List D} {v : V} {d : D} (g : GrpOk Z H G' H' p (gs0 ++ [l])) (e : Ext G H G' H') (dv : Den Z G' v d) :
    ∃ us q ws, H' p = some (.lst us) ∧ us.length = gs0.length + 1 ∧ us.getLast? = some (.ref q) ∧ H' q = some (.lst ws) ∧ ws.length = l.length ∧ Ext G H G' (upd H' q (.lst (ws ++ [v]))) ∧ GrpOk Z H G' (upd H' q (.lst (ws ++ [v]))) p (gs0 ++ [l ++ [d]]) := by
  obtain ⟨us, h1, h2, h3⟩ := g.ex
  rcases h3 with h3 | ⟨gs1, l1, us0, q, ws, e1, rfl, d1, hq, d2, f1, f2, f3⟩
  · simp at h3
  · obtain ⟨e0, e2⟩ := List.append_inj' e1 rfl
    subst e0
    have e3 : l = l1 := by simpa using e2
    subst e3
    refine ⟨_, q, ws, h1, by simpa using h2, by simp, hq, d2.length, ext_chg e f1 f2, g.fr, g.gp, _, by rw [upd_ne (Ne.symm f3)]; exact h1, by simpa using h2, .inr ⟨gs0, _, us0, q, _, rfl, rfl, d1, upd_same, d2.append (dens_cons dv dens_nil), f1, f2, f3⟩⟩
theorem GrpOk.den {Z : Zx} {G H G' H' : Hp} {p : Addr} {gs : List (List D)} (g : GrpOk Z H G' H' p gs) (e : Ext G H G' H') : ∃ G2, Ext G H G2 H' ∧ Den Z G2 (.ref p) (.lst (gs.map D.lst)) := by
  obtain ⟨us, h1, h2, h3⟩ := g.ex
  rcases h3 with rfl | ⟨gs0, l, us0, q, ws, rfl, rfl, d1, hq, d2, f1, f2, f3⟩
  · have hus : us = [] := by simpa using h2
    subst hus
    refine ⟨upd G' p (.lst []), ext_frz e h1 g.gp g.fr, ?_⟩
    unfold Den
    exact ⟨p, [], rfl, SqL.of upd_same, dens_nil⟩
  · have sg : Same G' (upd G' q (.lst ws)) := fun b o z => by rw [upd_ne (ne_of_none z f2)]; exact z
    have e2 : Ext G H (upd G' q (.lst ws)) H' := ext_frz e hq f2 f1
    have gp2 : upd G' q (.lst ws) p = none := by rw [upd_ne (Ne.symm f3)]; exact g.gp
    have sg2 : Same (upd G' q (.lst ws)) (upd (upd G' q (.lst ws)) p (.lst (us0 ++ [.ref q]))) := fun b o z => by rw [upd_ne (ne_of_none z gp2)]; exact z
    refine ⟨_, ext_frz e2 h1 gp2 g.fr, ?_⟩
    unfold Den
    refine ⟨p, _, rfl, SqL.of upd_same, ?_⟩
    rw [List.map_append]
    refine ((d1.mono sg).mono sg2).append (dens_cons ?_ dens_nil)
    unfold Den
    exact ⟨q, ws, rfl, SqL.of (by rw [upd_ne f3, upd_same]), (d2.mono sg).mono sg2⟩
def grpS (j ia ib : Nat) (σ : St) (p : Addr) (vs : List V) : Nat → St
  | 0 => σ.set j (some (.ref p))
  | n + 1 => ((σ.set j (some (.ref p))).set ia (some (.int (n : Int)))).set ib (vs[n]?)
theorem grpS_set {j ia ib n : Nat} {σ : St} {p : Addr} {vs : List V} {v : V} (hab : ia ≠ ib) (hv : vs[n]? = some v) : ((grpS j ia ib σ p vs n).set ia (some (.int (n : Int)))).set ib (some v) = grpS j ia ib σ p vs (n + 1) := by
  cases n with
  | zero =>
    show ((σ.set j (some (.ref p))).set ia _).set ib _ = ((σ.set j (some (.ref p))).set ia _).set ib (vs[0]?)
    rw [hv]
  | succ m =>
    show ((((σ.set j (some (.ref p))).set ia (some (.int (m : Int)))).set ib (vs[m]?)).set ia _).set ib _ = ((σ.set j (some (.ref p))).set ia _).set ib (vs[m + 1]?)
    rw [hv, List.set_comm _ _ (Ne.symm hab), List.set_set, List.set_set]
theorem atI_last {us : List V} {w : V} (h : us.getLast? = some w) : atI us (-1) = some w := by
  have hn : us ≠ [] := by rintro rfl; cases h
  have hl : 0 < us.length := List.length_pos_iff.mpr hn
  unfold atI ixN
  rw [if_neg (by omega), if_pos (by omega)]
  show us[((-1 : Int) + us.length).toNat]? = some w
  have : ((-1 : Int) + us.length).toNat = us.length - 1 := by omega
  rw [this, ← List.getLast?_eq_getElem?]
  exact h
section
variable {κ : Nat → Addr} {B : Gd} {X : Cx}
theorem pzs_groups {x y a b : Str} {i j ia ib kk kc : Nat} {p1 p2 p3 pa pb pt p4 p5 p6 q1 q2 q3 q4 q5 q6 r1 r2 r3 r4 r5 r6 r7 r8 r9 : Pos} {c : Expr} {t : Ev → R Bool} {rest : List Stmt} {F : Ev → SR} (cx : Cxo X) (hc : X.calm = true) (hND : X.N.Nodup) (hfn : ∀ y, X.fn y = true)
    (hg : Gl X "enumerate") (hm : X.mg "enumerate" = none)
    (hi : X.N[i]? = some x) (vx : Vis X.env.scope x) (dx : (x == ("__debug__" : Str)) = false) (cdx : (x == ("__classdict__" : Str)) = false)
    (hj : X.N[j]? = some y) (ly : Loc X.env.scope y) (vy : Vis X.env.scope y) (dy : (y == ("__debug__" : Str)) = false) (cdy : (y == ("__classdict__" : Str)) = false)
    (ha : X.N[ia]? = some a) (la : Loc X.env.scope a)
    (hb : X.N[ib]? = some b) (lb : Loc X.env.scope b) (vb : Vis X.env.scope b) (db : (b == ("__debug__" : Str)) = false) (cdb : (b == ("__classdict__" : Str)) = false)
    (hij : i ≠ j) (hia : i ≠ ia) (hib : i ≠ ib) (hja : j ≠ ia) (hjb : j ≠ ib) (hab : ia ≠ ib) (ht : PXt κ B X c t)
    (sw1 : swapsWith (.Call (.Attribute (.Name y q1) "append" q2) [.List [] q3] [] q4) none q5.line X.env = pure false)
    (ba1 : attributeBase (.Name y q1) "append" X.env (eval (.Name y q1) X.env) = eval (.Name y q1) X.env) (li1 : (q2.endLine == q4.line) = true)
    (fw1 : ((backTo q4 (starEach [(.List [] q3 : Expr)] X.env)).all (fun x => !x.1) && (backToKw q4 (keywordEach [] X.env)).all (fun x => x.1.isSome) && decide (([(.List [] q3 : Expr)] : List Expr).length + ([] : List Keyword).length + (if ([] : List Keyword).isEmpty then 0 else 1) < 30)) = true)
    (st1 : starEach [(.List [] q3 : Expr)] X.env = (false, eval (.List [] q3) X.env) :: starEach [] X.env) (pl1 : (backTo q4 (starEach [] X.env)).any (·.1) = false)
    (sw2 : swapsWith (.Call (.Attribute (.Subscript (.Name y r1) (.UnaryOp .USub (.Constant (.int 1) kc r2) r3) r4) "append" r5) [.Name b r6] [] r7) none r8.line X.env = pure false)
    (ba2 : attributeBase (.Subscript (.Name y r1) (.UnaryOp .USub (.Constant (.int 1) kc r2) r3) r4) "append" X.env (eval (.Subscript (.Name y r1) (.UnaryOp .USub (.Constant (.int 1) kc r2) r3) r4) X.env) = eval (.Subscript (.Name y r1) (.UnaryOp .USub (.Constant (.int 1) kc r2) r3) r4) X.env) (li2 : (r5.endLine == r7.line) = true)
    (fw2 : ((backTo r7 (starEach [(.Name b r6 : Expr)] X.env)).all (fun x => !x.1) && (backToKw r7 (keywordEach [] X.env)).all (fun x => x.1.isSome) && decide (([(.Name b r6 : Expr)] : List Expr).length + ([] : List Keyword).length + (if ([] : List Keyword).isEmpty then 0 else 1) < 30)) = true)
    (st2 : starEach [(.Name b r6 : Expr)] X.env = (false, eval (.Name b r6) X.env) :: starEach [] X.env) (pl2 : (backTo r7 (starEach [] X.env)).any (·.1) = false)
    (hr : PZs κ B X rest F) :
    PZs κ B X (.Assign [.Name y p1] (.List [] p2) p3 :: .For (.Tuple [.Name a pa, .Name b pb] kk pt) (.Call (.Name "enumerate" p4) [.Name x p5] [] p6) [.If c [.Expr (.Call (.Attribute (.Name y q1) "append" q2) [.List [] q3] [] q4) q5] [] q6, .Expr (.Call (.Attribute (.Subscript (.Name y r1) (.UnaryOp .USub (.Constant (.int 1) kc r2) r3) r4) "append" r5) [.Name b r6] [] r7) r8] [] r9 :: rest) (zSeq (zGrp i j ia ib t) F) := fun Ex pins s σ H G δ Dn hp I rp q => by
  have hz : ∃ ds gs, δ[i]? = some (some (.sh (.lst ds))) ∧ ds.length ≤ 100000 ∧ grp (grpE j ia ib δ) t 0 ds [] = .ok gs ∧ SPost κ B X Ex pins Dn (F ((match ds.getLast? with | none => δ | some d => (δ.set ia (some (.sh (.int ((ds.length - 1 : Nat) : Int))))).set ib (some (.sh d))).set j (some (.sh (.lst (gs.map D.lst)))))) := by
    unfold zSeq zGrp at q
    rcases h : (δ[i]? : Option (Option Sl)) with _ | _ | (d | es | ⟨c', ns', es'⟩)
    · simp only [h] at q; exact False.elim q
    · simp only [h] at q; exact False.elim q
    · cases d with
      | lst ds =>
        simp only [h] at q
        by_cases h3 : ds.length ≤ 100000
        · rw [if_pos h3] at q
          cases h2 : grp (grpE j ia ib δ) t 0 ds [] with
          | ok gs => rw [h2] at q; exact ⟨ds, gs, rfl, h3, h2, q⟩
          | exc c' => rw [h2] at q; exact False.elim q
          | stuck => rw [h2] at q; exact False.elim q
        · rw [if_neg h3] at q; exact False.elim q
      | _ => simp only [h] at q; exact False.elim q
    · simp only [h] at q; exact False.elim q
    · simp only [h] at q; exact False.elim q
  obtain ⟨ds, gsE, h1, h3, h2, q⟩ := hz
  obtain ⟨vr, e1, d1⟩ := rp.sh i _ h1
  unfold Den at d1
  obtain ⟨al, vs, rfl, sq, dn⟩ := d1
  have hlen : vs.length = ds.length := dn.length
  have s1 := ps_set (X := X.wish Ex) (pos := p3) (pos' := p1) hND hj ly (pe_lst (X := X.wish Ex) (pos := p2) pa_nil) rfl (.inl (hfn _)) (fun p σ v _ => cx.sg p _)
  have sA := ps_expr (X := X.wish Ex) (pos := q5) (pe_bm (X := X.wish Ex) PySem.F.plainAttrs_list PySem.F.slot_list_append PySem.F.type_list_append mt_append (pe_var (X := X.wish Ex) (pos := q1) hj vy dy cdy) (pa_cons (X := X.wish Ex) (pe_lst (X := X.wish Ex) (pos := q3) pa_nil) pa_nil st1) ba1 fw1 li1 st1 pl1) sw1
  have sB := ps_expr (X := X.wish Ex) (pos := r8) (pe_bm (X := X.wish Ex) PySem.F.plainAttrs_list PySem.F.slot_list_append PySem.F.type_list_append mt_append (pe_ix (X := X.wish Ex) (pos := r4) ix_list (pe_var (X := X.wish Ex) (pos := r1) hj vy dy cdy) (pe_un (X := X.wish Ex) (pos := r3) un_neg (pe_int (X := X.wish Ex) (i := 1) (j := kc) (pos := r2))) (fun _ _ => by rfl)) (pa_cons (X := X.wish Ex) (pe_var (X := X.wish Ex) (pos := r6) hb vb db cdb) pa_nil st2) ba2 fw2 li2 st2 pl2) sw2
  have s2 := ps_for (X := X.wish Ex) (pos := r9) cx.sg hp hc (pi_enumN (Y := X.wish Ex) (tgs := [.Name a pa, .Name b pb]) (kk := kk) (tpos := pt) (p := p4) (px := p5) (pos := p6) hg hm hi vx dx cdx)
    (pg_tup (X := X.wish Ex) (n := 2) (k := kk) (pos := pt) hc (pgs_cons (X := X.wish Ex) (pg_name (X := X.wish Ex) (pos := pa) hND ha la (.inl (hfn _)) (fun p σ v _ => cx.sg p _)) (pgs_cons (X := X.wish Ex) (pg_name (X := X.wish Ex) (pos := pb) hND hb lb (.inl (hfn _)) (fun p σ v _ => cx.sg p _)) pgs_nil rfl) rfl) rfl rfl)
    (pss_cons (ps_if (X := X.wish Ex) (pos := q6) (pt_wish cx ht Ex) (pss_one sA) pss_nil) (pss_one sB)) (fun _ => rfl)
  have hlenσ : σ.length = X.N.length := I.len
  have hjl : j < σ.length := by rw [hlenσ]; exact (List.getElem?_eq_some_iff.mp hj).1
  have hal : ia < σ.length := by rw [hlenσ]; exact (List.getElem?_eq_some_iff.mp ha).1
  have hbl : ib < σ.length := by rw [hlenσ]; exact (List.getElem?_eq_some_iff.mp hb).1
  refine wpAny_execs_cons (thn (s1 pins s σ H { nx := fun σ1 H1 => ∃ p, H p = none ∧ σ1 = σ.set j (some (.ref p)) ∧ H1 = upd H p (.lst []), rt := fun _ _ => False } I ⟨by simp, fun p hpn => ⟨p, hpn, rfl, rfl⟩⟩) fun f s3 q3 => ?_)
  cases f with
  | next =>
    obtain ⟨σ1, H1, I1, p, hpn, rfl, rfl⟩ := q3
    have gp : G p = none := rp.GH.free hpn
    let Pv : Nat → St → Hp → Prop := fun n σ' H' => ∃ G' gs, Ext G H G' H' ∧ GrpOk ⟨X.K, κ⟩ H G' H' p gs ∧ grp (grpE j ia ib δ) t n (ds.drop n) gs = .ok gsE ∧ σ' = grpS j ia ib σ p vs n ∧ gs.length ≤ n ∧ ∀ l ∈ gs, l.length ≤ n
    have gi : ∀ n, (grpS j ia ib σ p vs n)[i]? = some (some (.ref al)) := fun n => by
      cases n with
      | zero => unfold grpS; rw [List.getElem?_set_ne (Ne.symm hij)]; exact e1
      | succ n => unfold grpS; rw [List.getElem?_set_ne (Ne.symm hib), List.getElem?_set_ne (Ne.symm hia), List.getElem?_set_ne (Ne.symm hij)]; exact e1
    refine wpAny_execs_cons (thn (s2 pins s3 _ _ { nx := Pv vs.length, rt := fun _ _ => False } I1 ⟨al, vs, gi 0, (rp.ext (ext_new rp.GH hpn)).GH.seq ((ext_new rp.GH hpn).sG.seq sq), ?_⟩) fun f s4 q4 => ?_)
    · refine ⟨fun n m σ' H' => m = vs.length - n ∧ n ≤ vs.length ∧ Pv n σ' H', ⟨_, rfl, Nat.zero_le _, G, [], ?_, ?_, h2, rfl, Nat.zero_le _, fun l z => by cases z⟩, ?_⟩
      · exact ext_chg (Ext.refl rp.GH) hpn gp
      · exact ⟨hpn, gp, [], upd_same, rfl, .inl rfl⟩
      · rintro n m σ' H' ⟨rfl, hn, G', gs, ex, gk, eg, rfl, gl, gm⟩
        have sqH : SqL X.K H' al vs := ex.GH.seq (ex.sG.seq sq)
        by_cases hlt : n < vs.length
        · have hd : n < ds.length := hlen ▸ hlt
          have hvn : vs[n]? = some vs[n] := by simp [hlt]
          refine .inr ⟨⟨vs, vs[n], sqH, hvn⟩, Pv (n + 1), fun σ' H' p' => ⟨vs.length - (n + 1), by omega, rfl, hlt, p'⟩, ?_⟩
          rintro xv H5 ⟨v, pt', hv, hpt, rfl, rfl⟩
          have hv1 := hv vs sqH
          rw [hvn] at hv1
          cases hv1
          obtain ⟨dv', hdv, dvn⟩ : ∃ d, ds[n]? = some d ∧ Den ⟨X.K, κ⟩ G vs[n] d := by
            have hdn : ds[n]? = some ds[n] := by simp [hd]
            obtain ⟨v, z1, z2⟩ := dn.get hdn
            rw [hvn] at z1
            cases z1
            exact ⟨_, hdn, z2⟩
          have e5 := ext_new (o := .tup [.int (n : Nat), vs[n]]) (rp.ext ex).GH hpt
          refine ⟨pt', [.int (n : Nat), vs[n]], rfl, SqT.of upd_same, rfl, .int (n : Nat), [vs[n]], rfl, vs[n], [], rfl, rfl, ?_⟩
          rw [grpS_set hab hvn]
          have ex5 := ex.trans e5
          have gk5 := gk.ext e5
          have rp5 : Rep ⟨X.K, κ⟩ B X.H₀ (upd G' pt' (.tup [.int (n : Nat), vs[n]])) (upd H' pt' (.tup [.int (n : Nat), vs[n]])) (grpS j ia ib σ p vs (n + 1)) (grpE j ia ib δ n dv') := by
            have := ((((rp.ext ex5).setNone (i := j) (w := some (.ref p))).setSh (i := ia) (v := .int (n : Nat)) (d := .int (n : Nat)) (by unfold Den; rfl)).setSh (i := ib) (dvn.mono ex5.sG))
            unfold grpE
            show Rep _ _ _ _ _ (((σ.set j (some (.ref p))).set ia _).set ib (vs[n]?)) _
            rw [hvn]
            exact this
          rw [List.drop_eq_getElem_cons hd] at eg
          have hdv2 : ds[n] = dv' := by
            have : ds[n]? = some ds[n] := by simp [hd]
            rw [this] at hdv; exact Option.some.inj hdv
          rw [hdv2] at eg
          unfold grp at eg
          -- the state after the loop's body
          have gj : (grpS j ia ib σ p vs (n + 1))[j]? = some (some (.ref p)) := by
            unfold grpS
            rw [List.getElem?_set_ne (Ne.symm hjb), List.getElem?_set_ne (Ne.symm hja)]
            exact List.getElem?_set_self hjl
          have gb : (grpS j ia ib σ p vs (n + 1))[ib]? = some (some vs[n]) := by
            show (((σ.set j (some (.ref p))).set ia _).set ib (vs[n]?))[ib]? = _
            rw [hvn]
            exact List.getElem?_set_self (by simp [hbl])
          have last : ∀ {G7 H7 : Hp} {gs0 : List (List D)} {l : List D}, Ext G H G7 H7 → GrpOk ⟨X.K, κ⟩ H G7 H7 p (gs0 ++ [l]) → l.length ≤ n → gs0.length ≤ n → (∀ l ∈ gs0, l.length ≤ n) → grp (grpE j ia ib δ) t (n + 1) (ds.drop (n + 1)) (gs0 ++ [l ++ [dv']]) = .ok gsE →
              tDrop (tBM (X.wish Ex).K "list" rAppend (tOp (rIxL (X.wish Ex).K) (tVar j) (tUn (rU fun i => .int (-i)) (tC (.int 1)))) (tCons (tVar ib) tNil)) { nx := Pv (n + 1), ct := Pv (n + 1), bk := Pv vs.length, rt := fun _ _ => False } (grpS j ia ib σ p vs (n + 1)) H7 := fun {G7 H7 gs0 l} e7 g7 hl hg7 hm7 eq7 => by
            obtain ⟨us, q', ws, hp7, hu7, la7, hq7, hw7, ext7, grp7⟩ := g7.add e7 (dvn.mono e7.sG)
            refine ⟨.ref p, gj, (1 : Int), rfl, p, us, -1, .ref q', rfl, rfl, SqL.of hp7, atI_last la7, .inl ⟨rfl, ws, SqL.of hq7⟩, vs[n], gb, q', ws, vs[n], rfl, rfl, hq7, by rw [sizeLine_eq]; omega, G7, _, ext7, grp7, eq7, rfl, by simp; omega, fun l' z => ?_⟩
            rcases List.mem_append.mp z with z | z
            · have := hm7 l' z; omega
            · have : l' = l ++ [dv'] := by simpa using z
              subst this
              simp
              omega
          cases et : t (grpE j ia ib δ n dv') with
          | ok bb =>
            refine ⟨_, _, bb, rp5, et, fun H6 G6 e6 => ?_⟩
            have ex6 := ex5.trans e6
            have gk6 := gk5.ext e6
            rw [et] at eg
            cases bb with
            | true =>
              have eg' : grp (grpE j ia ib δ) t (n + 1) (ds.drop (n + 1)) (gs ++ [[dv']]) = .ok gsE := eg
              obtain ⟨us, u1, u2, u3⟩ := gk6.ex
              refine ⟨.ref p, gj, .inl ⟨rfl, us, SqL.of u1⟩, by simp, fun q' hq' => ?_⟩
              have np : q' ≠ p := by rintro rfl; rw [u1] at hq'; cases hq'
              obtain ⟨G7, e7, g7⟩ := gk6.push ex6 u1 hq'
              exact ⟨p, us, .ref q', rfl, rfl, by rw [upd_ne (Ne.symm np)]; exact u1, by rw [sizeLine_eq]; omega, last e7 g7 (Nat.zero_le _) gl gm eg'⟩
            | false =>
              cases el : gs.getLast? with
              | none =>
                have : (R.stuck : R (List (List D))) = .ok gsE := by simpa [el] using eg
                cases this
              | some l =>
                have eg' : grp (grpE j ia ib δ) t (n + 1) (ds.drop (n + 1)) (gs.dropLast ++ [l ++ [dv']]) = .ok gsE := by simpa [el] using eg
                have hne : gs ≠ [] := by rintro rfl; cases el
                have hgs : gs.dropLast ++ [l] = gs := by
                  have := List.dropLast_concat_getLast hne
                  rw [List.getLast?_eq_some_getLast hne] at el
                  cases el
                  exact this
                rw [← hgs] at gk6 gl gm
                refine last ex6 gk6 (gm l (by simp)) (by simp at gl ⊢; omega) (fun l' z => gm l' (List.mem_append_left _ z)) eg'
          | exc c' => rw [et] at eg; cases eg
          | stuck => rw [et] at eg; cases eg
        · have e : n = vs.length := by omega
          subst e
          exact .inl ⟨⟨vs, sqH, Nat.le_refl _⟩, G', gs, ex, gk, eg, rfl, gl, gm⟩
    · cases f with
      | next =>
        obtain ⟨σ4, H4, I4, G', gs, ex, gk, eg, rfl, _⟩ := q4
        rw [hlen, List.drop_length] at eg
        unfold grp at eg
        cases eg
        obtain ⟨G2, ex2, d2⟩ := gk.den ex
        have r1 := rp.ext ex2
        refine hr Ex pins s4 _ _ G2 _ Dn hp I4 ?_ q
        rw [hlen]
        cases hds : ds.getLast? with
        | none =>
          have : ds = [] := List.getLast?_eq_none_iff.mp hds
          subst this
          exact r1.setSh d2
        | some d =>
          obtain ⟨m, hm⟩ : ∃ m, ds.length = m + 1 := ⟨ds.length - 1, by have : ds ≠ [] := by rintro rfl; cases hds
                                                                        have := List.length_pos_iff.mpr this; omega⟩
          rw [hm]
          have hgl : ds[m]? = some d := by rw [List.getLast?_eq_getElem?, hm] at hds; exact hds
          obtain ⟨v, hv, dv⟩ := dn.get hgl
          have r3 := (((r1.setSh (i := ia) (v := .int (m : Nat)) (d := .int (m : Nat)) (by unfold Den; rfl)).setSh (i := ib) (dv.mono ex2.sG)).setSh (i := j) d2)
          have : grpS j ia ib σ p vs (m + 1) = ((σ.set ia (some (.int (m : Nat)))).set ib (some v)).set j (some (.ref p)) := by
            show ((σ.set j (some (.ref p))).set ia _).set ib (vs[m]?) = _
            rw [hv, List.set_comm _ _ hja, List.set_comm _ _ hjb]
          rw [this]
          exact r3
      | brk => obtain ⟨_, _, _, z⟩ := q4; exact z.elim
      | cont => obtain ⟨_, _, _, z⟩ := q4; exact z.elim
      | ret u => obtain ⟨_, _, _, _, _, z⟩ := q4; exact z.elim
  | brk => obtain ⟨_, _, _, z⟩ := q3; exact z.elim
  | cont => obtain ⟨_, _, _, z⟩ := q3; exact z.elim
  | ret u => obtain ⟨_, _, _, _, _, z⟩ := q3; exact z.elim
end
end L3
set_option Elab.async false
set_option linter.all false
set_option maxRecDepth 100000
namespace L3
open PySem PySem.Spec PyProof.Rows L2
structure QX (κ : Nat → Addr) (B : Gd) (X : Cx) (e : Expr) (f : Ev → R D) : Prop where
  h : PX κ B X e f
structure QXr (κ : Nat → Addr) (B : Gd) (X : Cx) (e : Expr) (f : Ev → R D) : Prop where
  h : PXr κ B X e f
structure QXs (κ : Nat → Addr) (B : Gd) (X : Cx) (e : List Expr) (f : Ev → R (List D)) : Prop where
  h : PXs κ B X e f
structure QXf (κ : Nat → Addr) (B : Gd) (X : Cx) (e : Expr) (f : Ev → R (List D)) : Prop where
  h : PXf κ B X e f
structure QXt (κ : Nat → Addr) (B : Gd) (X : Cx) (e : Expr) (f : Ev → R Bool) : Prop where
  h : PXt κ B X e f
structure QXw (κ : Nat → Addr) (B : Gd) (X : Cx) (e : Expr) (f : Ev → R Bool) : Prop where
  h : PXw κ B X e f
structure QIz (κ : Nat → Addr) (B : Gd) (X : Cx) (tg e : Expr) (f : Ev → R (List D)) : Prop where
  h : PIz κ B X tg e f
structure QIg (κ : Nat → Addr) (B : Gd) (X : Cx) (tg e : Expr) (f : Ev → R (List D)) : Prop where
  h : PIg κ B X tg e f
structure QGz (κ : Nat → Addr) (B : Gd) (X : Cx) (tg : Expr) (b : D → Ev → Option Ev) : Prop where
  h : PGz κ B X tg b
structure QGzs (κ : Nat → Addr) (B : Gd) (X : Cx) (tg : List Expr) (b : List D → Ev → Option Ev) : Prop where
  h : PGzs κ B X tg b
structure QZ (κ : Nat → Addr) (B : Gd) (X : Cx) (st : Stmt) (F : Ev → SR) : Prop where
  h : PZ κ B X st F
structure QZs (κ : Nat → Addr) (B : Gd) (X : Cx) (st : List Stmt) (F : Ev → SR) : Prop where
  h : PZs κ B X st F
structure QXo (κ : Nat → Addr) (B : Gd) (X : Cx) (e : Option Expr) (f : Ev → R (Option Int)) : Prop where
  h : PXo κ B X e f
section
variable {κ : Nat → Addr} {B : Gd} {X : Cx} {a b c e k tg : Expr} {es tgs rest : List Expr} {f fa fb fc fk : Ev → R D} {ta tb : Ev → R Bool} {fs fl : Ev → R (List D)} {pos pos' pos'' apos p p' : Pos} {x : Str} {m : List D → R D} {n i : Nat}
theorem QX.read (h : QX κ B X e f) : QXr κ B X e f := ⟨h.h.read⟩
theorem QXw.t (h : QXw κ B X e ta) : QXt κ B X e ta := ⟨h.h.t⟩
theorem QXf.px (h : QXf κ B X e fl) : QX κ B X e (mL fl) := ⟨h.h.px⟩
theorem qpx_int {i : Int} {j pos} : QX κ B X (.Constant (.int i) j pos) (mC (.int i)) := ⟨px_int ⟩
theorem qpx_bl {i : Bool} {j pos} : QX κ B X (.Constant (.bool i) j pos) (mC (.bl i)) := ⟨px_bl ⟩
theorem qpx_str {x : Str} {l : List Nat} {j pos} (h : x = ⟨l.toArray⟩) : QX κ B X (.Constant (.str x) j pos) (mC (.str l)) := ⟨px_str h⟩
theorem qpx_var (i : Nat) {x : Str} (hN : X.N[i]? = some x) (hv : Vis X.env.scope x) (hd : (x == ("__debug__" : Str)) = false) (hcd : (x == ("__classdict__" : Str)) = false) : QX κ B X (.Name x pos) (mVar i) := ⟨px_var i hN hv hd hcd⟩
theorem qpx_varR (i : Nat) {x : Str} (hN : X.N[i]? = some x) (hv : Vis X.env.scope x) (hd : (x == ("__debug__" : Str)) = false) (hcd : (x == ("__classdict__" : Str)) = false) : QXr κ B X (.Name x pos) (mVarR i) := ⟨px_varR i hN hv hd hcd⟩
theorem qpx_glob {x : Str} {v : V} {u : Value} {d : D} (hg : Gl X x) (hm : X.mg x = some u) (r : RelV v u) (hd : ∀ G, Den ⟨X.K, κ⟩ G v d) (hdb : (x == ("__debug__" : Str)) = false) : QX κ B X (.Name x pos) (mC d) := ⟨px_glob hg hm r hd hdb⟩
theorem qpx_sub (ha : QXr κ B X a fa) (hb : QXr κ B X b fb) : QX κ B X (.BinOp a .Sub b pos) (m2 oSub fa fb) := ⟨px_sub ha.h hb.h⟩
theorem qpx_mulI (ha : QXr κ B X a fa) (hb : QXr κ B X b fb) : QX κ B X (.BinOp a .Mult b pos) (m2 oMul fa fb) := ⟨px_mulI ha.h hb.h⟩
theorem qpx_div (ha : QXr κ B X a fa) (hb : QXr κ B X b fb) : QX κ B X (.BinOp a .FloorDiv b pos) (m2 oDiv fa fb) := ⟨px_div ha.h hb.h⟩
theorem qpx_mod (ha : QXr κ B X a fa) (hb : QXr κ B X b fb) : QX κ B X (.BinOp a .Mod b pos) (m2 oMod fa fb) := ⟨px_mod ha.h hb.h⟩
theorem qpx_add (ha : QXr κ B X a fa) (hb : QXr κ B X b fb) : QX κ B X (.BinOp a .Add b pos) (m2 oAdd fa fb) := ⟨px_add ha.h hb.h⟩
theorem qpx_lt (ha : QXr κ B X a fa) (hb : QXr κ B X b fb) (hm : behindInMarks .Lt b = false) : QX κ B X (.Compare a [.Lt] [b] pos) (m2 (op2 oLt) fa fb) := ⟨px_lt ha.h hb.h hm⟩
theorem qpx_le (ha : QXr κ B X a fa) (hb : QXr κ B X b fb) (hm : behindInMarks .LtE b = false) : QX κ B X (.Compare a [.LtE] [b] pos) (m2 (op2 oLe) fa fb) := ⟨px_le ha.h hb.h hm⟩
theorem qpxt_lt (ha : QXr κ B X a fa) (hb : QXr κ B X b fb) (hm : behindInMarks .Lt b = false) : QXt κ B X (.Compare a [.Lt] [b] pos) (m2t oLt fa fb) := ⟨pxt_lt ha.h hb.h hm⟩
theorem qpxt_le (ha : QXr κ B X a fa) (hb : QXr κ B X b fb) (hm : behindInMarks .LtE b = false) : QXt κ B X (.Compare a [.LtE] [b] pos) (m2t oLe fa fb) := ⟨pxt_le ha.h hb.h hm⟩
theorem qpxt_gt (ha : QXr κ B X a fa) (hb : QXr κ B X b fb) (hm : behindInMarks .Gt b = false) : QXt κ B X (.Compare a [.Gt] [b] pos) (m2t oGt fa fb) := ⟨pxt_gt ha.h hb.h hm⟩
theorem qpxt_ge (ha : QXr κ B X a fa) (hb : QXr κ B X b fb) (hm : behindInMarks .GtE b = false) : QXt κ B X (.Compare a [.GtE] [b] pos) (m2t oGe fa fb) := ⟨pxt_ge ha.h hb.h hm⟩
theorem qpxt_not (ha : QXt κ B X a ta) : QXt κ B X (.UnaryOp .Not a pos) (mNot ta) := ⟨pxt_not ha.h⟩
theorem qpxw_and1 (ha : QXt κ B X a ta) : QXw κ B X (.BoolOp .And [a] pos) ta := ⟨pxw_and1 ha.h⟩
theorem qpxw_or1 (ha : QXt κ B X a ta) : QXw κ B X (.BoolOp .Or [a] pos) ta := ⟨pxw_or1 ha.h⟩
theorem qpxw_and (ha : QXt κ B X a ta) (hb : QXw κ B X (.BoolOp .And (b :: rest) pos) tb) : QXw κ B X (.BoolOp .And (a :: b :: rest) pos) (mAnd ta tb) := ⟨pxw_and ha.h hb.h⟩
theorem qpxw_or (ha : QXt κ B X a ta) (hb : QXw κ B X (.BoolOp .Or (b :: rest) pos) tb) : QXw κ B X (.BoolOp .Or (a :: b :: rest) pos) (mOr ta tb) := ⟨pxw_or ha.h hb.h⟩
theorem qpx_one {op} (h : QX κ B X a fa) : QX κ B X (.BoolOp op [a] pos) fa := ⟨px_one h.h⟩
theorem qpx_and (ha : QX κ B X a fa) (hb : QX κ B X (.BoolOp .And (b :: rest) pos) fb) : QX κ B X (.BoolOp .And (a :: b :: rest) pos) (mAndV fa fb) := ⟨px_and ha.h hb.h⟩
theorem qpx_or (ha : QX κ B X a fa) (hb : QX κ B X (.BoolOp .Or (b :: rest) pos) fb) : QX κ B X (.BoolOp .Or (a :: b :: rest) pos) (mOrV fa fb) := ⟨px_or ha.h hb.h⟩
theorem qpx_if (hc : QXt κ B X c ta) (ha : QX κ B X a fa) (hb : QX κ B X b fb) : QX κ B X (.IfExp c a b pos) (mIf ta fa fb) := ⟨px_if hc.h ha.h hb.h⟩
theorem qpxs_nil : QXs κ B X [] mNil := ⟨pxs_nil ⟩
theorem qpx_tup {k : Nat} (h : QXs κ B X es fs) : QX κ B X (.Tuple es k pos) (mTup fs) := ⟨px_tup h.h⟩
theorem qpx_lst (h : QXs κ B X es fs) : QX κ B X (.List es pos) (mLst fs) := ⟨px_lst h.h⟩
theorem qpzs_nil : QZs κ B X [] SR.next := ⟨pzs_nil ⟩
theorem qpzs_cons {st : Stmt} {rest : List Stmt} {F1 F2 : Ev → SR} (h1 : QZ κ B X st F1) (h2 : QZs κ B X rest F2) : QZs κ B X (st :: rest) (zSeq F1 F2) := ⟨pzs_cons h1.h h2.h⟩
theorem qpzs_one {st : Stmt} {F : Ev → SR} (h1 : QZ κ B X st F) : QZs κ B X [st] F := ⟨pzs_one h1.h⟩
theorem qpzs_frz (i : Nat) {sts : List Stmt} {F : Ev → SR} (h : QZs κ B X sts F) : QZs κ B X sts (fun δ => F (frzE i δ)) := ⟨pzs_frz i h.h⟩
theorem qpz_ret (cx : Cxo X) (h : QX κ B X e f) : QZ κ B X (.Return (some e) pos) (zRet f) := ⟨pz_ret cx h.h⟩
theorem qpz_if (cx : Cxo X) {t : Ev → R Bool} {s1 s2 : List Stmt} {F1 F2 : Ev → SR} (hc : QXt κ B X c t) (h1 : QZs κ B X s1 F1) (h2 : QZs κ B X s2 F2) : QZ κ B X (.If c s1 s2 pos) (zIf t F1 F2) := ⟨pz_if cx hc.h h1.h h2.h⟩
theorem qpz_aug (cx : Cxo X) {i : Nat} {x : Str} {op : Operator} {g : Int → Int → Int} (ho : ∀ Y : Cx, PIp Y op (ipI g)) (hN : X.N.Nodup) (hi : X.N[i]? = some x) (hx : Loc X.env.scope x) (hf : X.fn x = true ∨ X.env.scope.names.lookup x = some .local) (h : QX κ B X e f) : QZ κ B X (.AugAssign (.Name x pos') op e pos) (zAug i g f) := ⟨pz_aug cx ho hN hi hx hf h.h⟩
theorem qpgz_name (cx : Cxo X) {i : Nat} {x : Str} (hN : X.N.Nodup) (hi : X.N[i]? = some x) (hx : Loc X.env.scope x) (hf : X.fn x = true ∨ X.env.scope.names.lookup x = some .local) : QGz κ B X (.Name x pos) (bN i) := ⟨pgz_name cx hN hi hx hf⟩
theorem qpgzs_nil : QGzs κ B X [] bsNil := ⟨pgzs_nil ⟩
theorem qpiz_seq (h : QX κ B X e f) : QIz κ B X tg e (fun δ => (f δ).bind itemsD) := ⟨piz_seq h.h⟩
theorem qpz_while (cx : Cxo X) (N : Nat) {c : Expr} {body : List Stmt} {t : Ev → R Bool} {F : Ev → SR} (hc : QXt κ B X c t) (hb : QZs κ B X body F) : QZ κ B X (.While c body [] pos) (whileZ t F N) := ⟨pz_while cx N hc.h hb.h⟩
theorem qpxf_lst (h : QXs κ B X es fs) : QXf κ B X (.List es pos) (fun δ => lim (fs δ)) := ⟨pxf_lst h.h⟩
theorem qpx_eq (hu : X.A.units + 64 < cLine) (ha : QXr κ B X a fa) (hb : QXr κ B X b fb) (hm : behindInMarks .Eq b = false) : QX κ B X (.Compare a [.Eq] [b] pos) (m2 (op2 oEq) fa fb) := ⟨px_eq hu ha.h hb.h hm⟩
theorem qpx_ne (hu : X.A.units + 64 < cLine) (ha : QXr κ B X a fa) (hb : QXr κ B X b fb) (hm : behindInMarks .NotEq b = false) : QX κ B X (.Compare a [.NotEq] [b] pos) (m2 (op2 oNe) fa fb) := ⟨px_ne hu ha.h hb.h hm⟩
theorem qpxt_eq (hu : X.A.units + 64 < cLine) (ha : QXr κ B X a fa) (hb : QXr κ B X b fb) (hm : behindInMarks .Eq b = false) : QXt κ B X (.Compare a [.Eq] [b] pos) (m2t oEq fa fb) := ⟨pxt_eq hu ha.h hb.h hm⟩
theorem qpxt_ne (hu : X.A.units + 64 < cLine) (ha : QXr κ B X a fa) (hb : QXr κ B X b fb) (hm : behindInMarks .NotEq b = false) : QXt κ B X (.Compare a [.NotEq] [b] pos) (m2t oNe fa fb) := ⟨pxt_ne hu ha.h hb.h hm⟩
theorem qys_cons (ha : QX κ B X a fa) (hr : QXs κ B X es fs) (h : noStar a = true) : QXs κ B X (a :: es) (mCons fa fs) := ⟨ys_cons ha.h hr.h h⟩
theorem qy_call (c : Cxo X) (C : Cal κ X x n m) (hn : (a :: es).length = n) (hg : Gl X x) (ha : QXs κ B X (a :: es) fs) (hdb : (x == ("__debug__" : Str)) = false) (h : (a :: es).all noStar = true) (hlen : ∀ δ ds, fs δ = .ok ds → ds.length = n) : QX κ B X (.Call (.Name x p) (a :: es) [] pos) (mCall m fs) := ⟨y_call c C hn hg ha.h hdb h hlen⟩
theorem qy_set (cx : Cxo X) (hN : X.N.Nodup) (hi : X.N[i]? = some x) (hx : Loc X.env.scope x) (hf : X.fn x = true ∨ X.env.scope.names.lookup x = some .local) (h : QX κ B X e f) (hs : noComp e = true) : QZ κ B X (.Assign [.Name x pos'] e pos) (zSet i f) := ⟨y_set cx hN hi hx hf h.h hs⟩
theorem qy_own (cx : Cxo X) (hN : X.N.Nodup) (hi : X.N[i]? = some x) (hx : Loc X.env.scope x) (hf : X.fn x = true ∨ X.env.scope.names.lookup x = some .local) (h : QXf κ B X e fl) (hs : noComp e = true) : QZ κ B X (.Assign [.Name x pos'] e pos) (zOwn i fl) := ⟨y_own cx hN hi hx hf h.h hs⟩
theorem qy_expr (cx : Cxo X) (h : QX κ B X e f) (hs : noComp e = true) : QZ κ B X (.Expr e pos) (zDrop f) := ⟨y_expr cx h.h hs⟩
theorem qy_append (cx : Cxo X) (hN : X.N[i]? = some x) (hv : Vis X.env.scope x) (hd : (x == ("__debug__" : Str)) = false) (hcd : (x == ("__classdict__" : Str)) = false) (h : QX κ B X e f) (hs : noStar e = true) (hline : (apos.endLine == pos'.line) = true) : QZ κ B X (.Expr (.Call (.Attribute (.Name x pos) "append" apos) [e] [] pos') pos'') (zApp i f) := ⟨y_append cx hN hv hd hcd h.h hs hline⟩
theorem qy_asg (cx : Cxo X) {bd : D → Ev → Option Ev} (h : QX κ B X e f) (hg : QGz κ B X tg bd) (hs : noComp e = true) (ht : noTup e = true) (h1 : noStar tg = true) : QZ κ B X (.Assign [tg] e pos) (zAsg bd f) := ⟨y_asg cx h.h hg.h hs ht h1⟩
theorem qy_tup {kk : Nat} {bs : List D → Ev → Option Ev} (hc : X.calm = true) (h : QGzs κ B X tgs bs) (hn : tgs.length = n) (hst : tgs.all noStar = true) : QGz κ B X (.Tuple tgs kk pos) (bTup n bs) := ⟨y_tup hc h.h hn hst⟩
theorem qy_cons {bd : D → Ev → Option Ev} {bs : List D → Ev → Option Ev} (h1 : QGz κ B X tg bd) (h2 : QGzs κ B X tgs bs) (h : noStar tg = true) : QGzs κ B X (tg :: tgs) (bsCons bd bs) := ⟨y_cons h1.h h2.h h⟩
theorem qyt_val (ha : QXr κ B X a fa) (h : plT a = true) : QXt κ B X a (mT fa) := ⟨yt_val ha.h h⟩
theorem qy_ix (ha : QXr κ B X a fa) (hb : QXr κ B X b fb) (h : plI b = true) : QX κ B X (.Subscript a b pos) (m2 oIx fa fb) := ⟨y_ix ha.h hb.h h⟩
theorem qy_len (hg : Gl X "len") (hm : X.mg "len" = none) (ha : QXr κ B X a fa) (h : noStar a = true) : QX κ B X (.Call (.Name "len" p) [a] [] pos) (m1 oLen fa) := ⟨y_len hg hm ha.h h⟩
theorem qy_isinst (T : Ty) {y : Str} (hy : y = Str.ofString T.nm) (hg : Gl X "isinstance") (hm : X.mg "isinstance" = none) (hgT : Gl X y) (hmT : X.mg y = none) (hn : y ≠ "__name__") (hdb : (y == ("__debug__" : Str)) = false) (ha : QXr κ B X a fa) (h : noStar a = true) : QX κ B X (.Call (.Name "isinstance" p) [a, .Name y p'] [] pos) (m1 (fun x => blR (isTy x T)) fa) := ⟨y_isinst T hy hg hm hgT hmT hn hdb ha.h h⟩
theorem qyi_range1 (hg : Gl X "range") (hm : X.mg "range" = none) (ha : QXs κ B X [a] fs) (h : noStar a = true) : QIz κ B X tg (.Call (.Name "range" p) [a] [] pos) (fun δ => (fs δ).bind iR1) := ⟨yi_range1 hg hm ha.h h⟩
theorem qyi_range2 (hg : Gl X "range") (hm : X.mg "range" = none) (ha : QXs κ B X [a, b] fs) (h : noStar a = true) (h' : noStar b = true) : QIz κ B X tg (.Call (.Name "range" p) [a, b] [] pos) (fun δ => (fs δ).bind iR2) := ⟨yi_range2 hg hm ha.h h h'⟩
theorem qy_for (cx : Cxo X) (hc : X.calm = true) {iter : Expr} {body : List Stmt} {fit : Ev → R (List D)} {bd : D → Ev → Option Ev} {F : Ev → SR} (hi : QIz κ B X tg iter fit) (hg : ∀ B, QGz κ B X tg bd) (hb : ∀ B, QZs κ B X body F) (h : plI iter = true) : QZ κ B X (.For tg iter body [] pos) (zFor fit bd F) := ⟨y_for cx hc hi.h (fun z => (hg z).h) (fun z => (hb z).h) h⟩
theorem qys_consts {ds : List D} (hh : constsOf es = some ds) : QXs κ B X es (fun _ => .ok ds) := ⟨ys_consts hh⟩
theorem qpzs_groups {x y a b : Str} {i j ia ib kk kc : Nat} {p1 p2 p3 pa pb pt p4 p5 p6 q1 q2 q3 q4 q5 q6 r1 r2 r3 r4 r5 r6 r7 r8 r9 : Pos} {c : Expr} {t : Ev → R Bool} {rest : List Stmt} {F : Ev → SR} (cx : Cxo X) (hc : X.calm = true) (hND : X.N.Nodup) (hfn : ∀ y, X.fn y = true)
    (hg : Gl X "enumerate") (hm : X.mg "enumerate" = none)
    (hi : X.N[i]? = some x) (vx : Vis X.env.scope x) (dx : (x == ("__debug__" : Str)) = false) (cdx : (x == ("__classdict__" : Str)) = false)
    (hj : X.N[j]? = some y) (ly : Loc X.env.scope y) (vy : Vis X.env.scope y) (dy : (y == ("__debug__" : Str)) = false) (cdy : (y == ("__classdict__" : Str)) = false)
    (ha : X.N[ia]? = some a) (la : Loc X.env.scope a)
    (hb : X.N[ib]? = some b) (lb : Loc X.env.scope b) (vb : Vis X.env.scope b) (db : (b == ("__debug__" : Str)) = false) (cdb : (b == ("__classdict__" : Str)) = false)
    (hij : i ≠ j) (hia : i ≠ ia) (hib : i ≠ ib) (hja : j ≠ ia) (hjb : j ≠ ib) (hab : ia ≠ ib) (ht : QXt κ B X c t)
    (sw1 : swapsWith (.Call (.Attribute (.Name y q1) "append" q2) [.List [] q3] [] q4) none q5.line X.env = pure false)
    (ba1 : attributeBase (.Name y q1) "append" X.env (eval (.Name y q1) X.env) = eval (.Name y q1) X.env) (li1 : (q2.endLine == q4.line) = true)
    (fw1 : ((backTo q4 (starEach [(.List [] q3 : Expr)] X.env)).all (fun x => !x.1) && (backToKw q4 (keywordEach [] X.env)).all (fun x => x.1.isSome) && decide (([(.List [] q3 : Expr)] : List Expr).length + ([] : List Keyword).length + (if ([] : List Keyword).isEmpty then 0 else 1) < 30)) = true)
    (st1 : starEach [(.List [] q3 : Expr)] X.env = (false, eval (.List [] q3) X.env) :: starEach [] X.env) (pl1 : (backTo q4 (starEach [] X.env)).any (·.1) = false)
    (sw2 : swapsWith (.Call (.Attribute (.Subscript (.Name y r1) (.UnaryOp .USub (.Constant (.int 1) kc r2) r3) r4) "append" r5) [.Name b r6] [] r7) none r8.line X.env = pure false)
    (ba2 : attributeBase (.Subscript (.Name y r1) (.UnaryOp .USub (.Constant (.int 1) kc r2) r3) r4) "append" X.env (eval (.Subscript (.Name y r1) (.UnaryOp .USub (.Constant (.int 1) kc r2) r3) r4) X.env) = eval (.Subscript (.Name y r1) (.UnaryOp .USub (.Constant (.int 1) kc r2) r3) r4) X.env) (li2 : (r5.endLine == r7.line) = true)
    (fw2 : ((backTo r7 (starEach [(.Name b r6 : Expr)] X.env)).all (fun x => !x.1) && (backToKw r7 (keywordEach [] X.env)).all (fun x => x.1.isSome) && decide (([(.Name b r6 : Expr)] : List Expr).length + ([] : List Keyword).length + (if ([] : List Keyword).isEmpty then 0 else 1) < 30)) = true)
    (st2 : starEach [(.Name b r6 : Expr)] X.env = (false, eval (.Name b r6) X.env) :: starEach [] X.env) (pl2 : (backTo r7 (starEach [] X.env)).any (·.1) = false)
    (hr : QZs κ B X rest F) : QZs κ B X (.Assign [.Name y p1] (.List [] p2) p3 :: .For (.Tuple [.Name a pa, .Name b pb] kk pt) (.Call (.Name "enumerate" p4) [.Name x p5] [] p6) [.If c [.Expr (.Call (.Attribute (.Name y q1) "append" q2) [.List [] q3] [] q4) q5] [] q6, .Expr (.Call (.Attribute (.Subscript (.Name y r1) (.UnaryOp .USub (.Constant (.int 1) kc r2) r3) r4) "append" r5) [.Name b r6] [] r7) r8] [] r9 :: rest) (zSeq (zGrp i j ia ib t) F) := ⟨pzs_groups cx hc hND hfn hg hm hi vx dx cdx hj ly vy dy cdy ha la hb lb vb db cdb hij hia hib hja hjb hab ht.h sw1 ba1 li1 fw1 st1 pl1 sw2 ba2 li2 fw2 st2 pl2 hr.h⟩
theorem qy_dix (hu : X.A.units + 64 < cLine) (ho : QX κ B X o fo) (hk : QX κ B X a fk) (hs : ∀ ov iv, subscripted a false ov iv = operate [ov, iv] (getItem ov iv)) : QX κ B X (.Subscript o a pos) (m2 oDix fo fk) := ⟨y_dix hu ho.h hk.h hs⟩
theorem qpiz_str (h : QX κ B X e f) : QIz κ B X tg e (fun δ => (f δ).bind itemsS) := ⟨piz_str h.h⟩
theorem qy_str (hg : Gl X "str") (hm : X.mg "str" = none) (ha : QXr κ B X a fa) (h : noStar a = true) : QX κ B X (.Call (.Name "str" p) [a] [] pos) (m1 oStr fa) := ⟨y_str hg hm ha.h h⟩
theorem qy_zfill {o e : Expr} {fo : Ev → R D} {fs : Ev → R (List D)} {apos : Pos} (ho : QXr κ B X o fo) (ha : QXs κ B X [e] fs) (hs : noStar e = true) (hline : (apos.endLine == pos.line) = true) (hbase : attributeBase o "zfill" X.env (eval o X.env) = eval o X.env) : QX κ B X (.Call (.Attribute o "zfill" apos) [e] [] pos) (mBS oZfill fo fs) := ⟨y_zfill ho.h ha.h hs hline hbase⟩
theorem qy_fstr {x : Str} {l : List Nat} {kk : Nat} {cp fp : Pos} (hx : x = ⟨l.toArray⟩) (hl : l.length ≤ 1000) (ha : QXr κ B X a fa) : QX κ B X (.JoinedStr [.Constant (.str x) kk cp, .FormattedValue a (-1) none fp] pos) (m1 (oFs l) fa) := ⟨y_fstr hx hl ha.h⟩
theorem qpig_enum (hg : Gl X "enumerate") (hm : X.mg "enumerate" = none) (h : QX κ B X e f) (hs : noStar e = true) : QIg κ B X (.Tuple tgs kk tpos) (.Call (.Name "enumerate" p) [e] [] pos) (fun δ => (f δ).bind enumD) := ⟨pig_enum hg hm h.h hs⟩
theorem qy_forG (cx : Cxo X) (hc : X.calm = true) {tg iter : Expr} {body : List Stmt} {fit : Ev → R (List D)} {bd : D → Ev → Option Ev} {F : Ev → SR} (hi : QIg κ B X tg iter fit) (hg : ∀ B, QGz κ B X tg bd) (hb : ∀ B, QZs κ B X body F) (h : plI iter = true) : QZ κ B X (.For tg iter body [] pos) (zFor fit bd F) := ⟨y_forG cx hc hi.h (fun z => (hg z).h) (fun z => (hb z).h) h⟩
theorem qy_putA (cx : Cxo X) (hN : X.N[i]? = some x) (hv : Vis X.env.scope x) (hd : (x == ("__debug__" : Str)) = false) (hcd : (x == ("__classdict__" : Str)) = false) (h : QX κ B X e f) (hk : QX κ B X k fk) (ht : noTup e = true)
    (ha : ∀ v, assign (.Subscript (.Name x pos) k apos) X.env v = (do
      let ov ← holding [v] (eval (.Name x pos) X.env)
      let iv ← holding [v, ov] (eval k X.env)
      standAt apos
      holding [v, ov, iv] (setItem ov iv v)
      release [v, ov, iv] [])) : QZ κ B X (.Assign [.Subscript (.Name x pos) k apos] e pos') (zPut i fk f) := ⟨y_putA cx hN hv hd hcd h.h hk.h ht ha⟩
theorem qy_min (hc : X.calm = true) (hg : Gl X "min") (hm : X.mg "min" = none) (ha : QXs κ B X [a, b] fs) (h : noStar a = true) (h' : noStar b = true) : QX κ B X (.Call (.Name "min" p) [a, b] [] pos) (mCB oMin fs) := ⟨y_min hc hg hm ha.h h h'⟩
theorem qy_toint (hg : Gl X "int") (hm : X.mg "int" = none) (ha : QXs κ B X [a] fs) (h : noStar a = true) : QX κ B X (.Call (.Name "int" p) [a] [] pos) (mCB oInt fs) := ⟨y_toint hg hm ha.h h⟩
theorem qpxo_none : QXo κ B X none mNoP := ⟨pxo_none ⟩
theorem qpxo_some (h : QX κ B X a fa) : QXo κ B X (some a) (mP fa) := ⟨pxo_some h.h⟩
theorem qy_sl {lo hi : Option Expr} {fl fh : Ev → R (Option Int)} {p2 : Pos} (ha : QXr κ B X a fa) (hl : QXo κ B X lo fl) (hh : QXo κ B X hi fh) : QX κ B X (.Subscript a (.Slice lo hi none p2) pos) (mSl fa fl fh) := ⟨y_sl ha.h hl.h hh.h⟩
theorem qpx_in (hu : X.A.units + 64 < cLine) (ha : QXr κ B X a fa) (hb : QXr κ B X b fb) (hm : behindInMarks .In b = false) : QX κ B X (.Compare a [.In] [b] pos) (m2 (op2 oIn) fa fb) := ⟨px_in hu ha.h hb.h hm⟩
theorem qpxt_in (hu : X.A.units + 64 < cLine) (ha : QXr κ B X a fa) (hb : QXr κ B X b fb) (hm : behindInMarks .In b = false) : QXt κ B X (.Compare a [.In] [b] pos) (m2t oIn fa fb) := ⟨pxt_in hu ha.h hb.h hm⟩
theorem qpxt_nin (hu : X.A.units + 64 < cLine) (ha : QXr κ B X a fa) (hb : QXr κ B X b fb) (hm : behindInMarks .NotIn b = false) : QXt κ B X (.Compare a [.NotIn] [b] pos) (m2t oNin fa fb) := ⟨pxt_nin hu ha.h hb.h hm⟩
theorem qpx_cat (ha : QXr κ B X a fa) (hb : QXr κ B X b fb) : QX κ B X (.BinOp a .Add b pos) (m2 oCat fa fb) := ⟨px_cat ha.h hb.h⟩
theorem qy_count {o e : Expr} {fo : Ev → R D} {fs : Ev → R (List D)} {apos : Pos} (ho : QXr κ B X o fo) (ha : QXs κ B X [e] fs) (hs : noStar e = true) (hline : (apos.endLine == pos.line) = true) (hbase : attributeBase o "count" X.env (eval o X.env) = eval o X.env) : QX κ B X (.Call (.Attribute o "count" apos) [e] [] pos) (mBL oCount fo fs) := ⟨y_count ho.h ha.h hs hline hbase⟩
theorem qy_join {o e : Expr} {fo : Ev → R D} {fs : Ev → R (List D)} {apos : Pos} (ho : QXr κ B X o fo) (ha : QXs κ B X [e] fs) (hs : noStar e = true) (hline : (apos.endLine == pos.line) = true) (hbase : attributeBase o "join" X.env (eval o X.env) = eval o X.env) : QX κ B X (.Call (.Attribute o "join" apos) [e] [] pos) (mBS oJoin fo fs) := ⟨y_join ho.h ha.h hs hline hbase⟩
theorem qpz_raise {cpos np p : Pos} {c : Nat} (cx : Cxo X) (hc : X.calm = true) (C : ExcAt κ X x c) (hg : Gl X x) {y : Str} {j : Nat} (hd : (x == ("__debug__" : Str)) = false) : QZ κ B X (.Raise (some (.Call (.Name x np) [.Constant (.str y) j p] [] cpos)) none pos) (fun δ => .exc c δ) := ⟨pz_raise cx hc C hg hd⟩
end
theorem qfn_mirror {P : Program} {w : World} {K : PySem.W.Frag} {mg : Str → Option Value} {base : Heap} {κ : Nat → Addr} {x qual : Str} {st : Stmt} {f : Addr} {fd : FuncData} {N ps : List Str} {k : Nat} {F : Ev → SR}
    (Fn : Fun K x qual st f fd) (S : FnScope N ps (defScope st))
    (hb : ∀ (X : Cx) (B : Gd), Cxo X → X.calm = true → X.prog = P → X.w = w → X.K = K → X.mg = mg → X.base = base → X.N = N → X.env.scope = defScope st → (∀ y, X.fn y = true) → Room k X.A → FrmOk X → QZs κ B X (defBody st) F) :
    FnOk P w K mg base (CXR P w) (k + 1) f fd ps (spM K κ ps.length fun ds => finR (F (startE N.length ds))) := fn_mirror Fn S fun X B a1 a2 a3 a4 a5 a6 a7 a8 a9 a10 a11 a12 => (hb X B a1 a2 a3 a4 a5 a6 a7 a8 a9 a10 a11 a12).h
end L3
set_option Elab.async false
set_option linter.all false
set_option maxRecDepth 100000
namespace L3
open PySem PySem.Spec PyProof.Rows L2
structure QIcz (κ : Nat → Addr) (B : Gd) (X : Cx) (tg e : Expr) (f : Ev → R (List D)) : Prop where
  h : PIcz κ B X tg e f
structure QTs (κ : Nat → Addr) (B : Gd) (X : Cx) (e : List Expr) (f : Ev → R Bool) : Prop where
  h : PTs κ B X e f
section
variable {κ : Nat → Addr} {B : Gd} {X : Cx} {a b c e tg iter elt : Expr} {es ifs : List Expr} {f : Ev → R D} {t : Ev → R Bool} {fs fl fit : Ev → R (List D)} {pos p px : Pos} {x : Str} {m : List D → R (List D)} {n i : Nat} {sc : Scope}
theorem qpicz_seq (h : QX κ B X e f) : QIcz κ B X tg e (fun δ => (f δ).bind itemsD) := ⟨picz_seq h.h⟩
theorem qpicz_range2 (hg : Gl X "range") (hm : X.mg "range" = none) (ha : QXs κ B X [a, b] fs) (h : noStar a = true) (h' : noStar b = true) : QIcz κ B X tg (.Call (.Name "range" p) [a, b] [] pos) (fun δ => (fs δ).bind iR2) := ⟨picz_range2 hg hm ha.h h h'⟩
theorem qpts_nil : QTs κ B X [] (fun _ => .ok true) := ⟨pts_nil⟩
theorem qpts_one (h : QXt κ B X c t) : QTs κ B X [c] t := ⟨pts_one h.h⟩
theorem qcomp_by (hc : X.calm = true) (co : CompOk X sc x) (hi : QIcz κ B X (.Name x px) iter fit) (ht : ∀ X' B', CmpIs X sc x X' → QTs κ B' X' ifs t) (he : ∀ X' B', CmpIs X sc x X' → QX κ B' X' elt f)
    (hs : plI iter = true) : QXf κ B X (.ListComp elt [⟨.Name x px, iter, ifs, 0⟩] sc pos) (mComp fit t f) := ⟨comp_by hc co hi.h (fun X' B' h => (ht X' B' h).h) (fun X' B' h => (he X' B' h).h) hs⟩
end
structure QXd (κ : Nat → Addr) (B : Gd) (X : Cx) (pos : Pos) (keys : List (Option Expr)) (values : List Expr) (ks : List Key) (fs : Ev → R (List D)) : Prop where
  h : PXd κ B X pos keys values ks fs
section
variable {κ : Nat → Addr} {B : Gd} {X : Cx} {a b e tg iter elt : Expr} {tgs ifs : List Expr} {f : Ev → R D} {t : Ev → R Bool} {fs fit : Ev → R (List D)} {bd : D → Ev → Option Ev} {pos p tpos : Pos} {kk i : Nat} {sc : Scope} {N0 xs : List Str} {keys : List (Option Expr)} {values : List Expr} {ks : List Key}
theorem qpxd_nil : QXd κ B X pos [] [] [] mNil := ⟨pxd_nil⟩
theorem qpxd_cons {x : Str} {j} (h : QX κ B X e f) (hr : QXd κ B X pos keys values ks fs) : QXd κ B X pos (some (.Constant (.str x) j p) :: keys) (e :: values) (.inr x :: ks) (mCons f fs) := ⟨pxd_cons h.h hr.h⟩
theorem qpx_disp (h : QXd κ B X pos keys values ks fs) (h0 : keys ≠ []) (h15 : keys.length ≤ 15) (hn : ks.Nodup) : QX κ B X (.Dict keys values pos) (mDisp ks fs) := ⟨px_disp h.h h0 h15 hn⟩
end
section
variable {κ : Nat → Addr} {B : Gd} {X : Cx} {a e : Expr} {es : List Expr} {fs : Ev → R (List D)} {pos pos' p p1 p2 : Pos} {x y : Str} {n i j k : Nat}
end
section
variable {α : Type} {ρ : RRel α} {κ : Nat → Addr} {B : Gd} {X : Cx} {e : Expr} {f : Ev → R α} {pos : Pos}
end
structure VP (X : Cx) (i : Nat) (x : Str) : Prop where
  cx : Cxo X
  nd : X.N.Nodup
  n : X.N[i]? = some x
  l : Loc X.env.scope x
  vi : Vis X.env.scope x
  fn : X.fn x = true
  d1 : (x == ("__debug__" : Str)) = false
  d2 : (x == ("__classdict__" : Str)) = false
section
variable {κ : Nat → Addr} {B : Gd} {X : Cx} {e k : Expr} {f fk : Ev → R D} {fl : Ev → R (List D)} {pos p p' p2 ap : Pos} {x : Str} {i : Nat} {N : List Str} {sc : Scope}
theorem vpl (cx : Cxo X) (nd : X.N.Nodup) (fn : ∀ y, X.fn y = true) (hN : X.N = N) (hsc : X.env.scope = sc) (n : N[i]? = some x) (lv : sc.names.lookup x = some .local) (d1 : (x == ("__debug__" : Str)) = false) (d2 : (x == ("__classdict__" : Str)) = false) : VP X i x :=
  ⟨cx, nd, by rw [hN]; exact n, .inl (by rw [hsc]; exact lv), .inl (by rw [hsc]; exact lv), fn x, d1, d2⟩
theorem vpc (cx : Cxo X) (nd : X.N.Nodup) (fn : ∀ y, X.fn y = true) (hN : X.N = N) (hsc : X.env.scope = sc) (n : N[i]? = some x) (lv : sc.names.lookup x = some .cell) (d1 : (x == ("__debug__" : Str)) = false) (d2 : (x == ("__classdict__" : Str)) = false) : VP X i x :=
  ⟨cx, nd, by rw [hN]; exact n, .inr (by rw [hsc]; exact lv), .inr (.inl (by rw [hsc]; exact lv)), fn x, d1, d2⟩
theorem VP.v (V : VP X i x) : QX κ B X (.Name x pos) (mVar i) := qpx_var i V.n V.vi V.d1 V.d2
theorem VP.r (V : VP X i x) : QXr κ B X (.Name x pos) (mVarR i) := qpx_varR i V.n V.vi V.d1 V.d2
theorem VP.s (V : VP X i x) (h : QX κ B X e f) (h2 : noComp e = true) : QZ κ B X (.Assign [.Name x p'] e p) (zSet i f) := qy_set V.cx V.nd V.n V.l (.inl V.fn) h h2
theorem VP.w (V : VP X i x) (h : QXf κ B X e fl) (h2 : noComp e = true) : QZ κ B X (.Assign [.Name x p'] e p) (zOwn i fl) := qy_own V.cx V.nd V.n V.l (.inl V.fn) h h2
theorem VP.a (V : VP X i x) (h : QX κ B X e f) (h2 : noStar e = true) (h3 : (ap.endLine == p'.line) = true) : QZ κ B X (.Expr (.Call (.Attribute (.Name x p) "append" ap) [e] [] p') p2) (zApp i f) := qy_append V.cx V.n V.vi V.d1 V.d2 h h2 h3
theorem VP.pu (V : VP X i x) (h : QX κ B X e f) (hk : QX κ B X k fk) (h3 : noTup e = true) (h4 : ∀ v, assign (.Subscript (.Name x p) k ap) X.env v = (do let ov ← holding [v] (eval (.Name x p) X.env); let iv ← holding [v, ov] (eval k X.env); standAt ap; holding [v, ov, iv] (setItem ov iv v); release [v, ov, iv] [])) :
    QZ κ B X (.Assign [.Subscript (.Name x p) k ap] e p') (zPut i fk f) := qy_putA V.cx V.n V.vi V.d1 V.d2 h hk h3 h4
theorem VP.t (V : VP X i x) : QGz κ B X (.Name x p) (bN i) := qpgz_name V.cx V.nd V.n V.l (.inl V.fn)
theorem VP.ua (V : VP X i x) (h : QX κ B X e f) : QZ κ B X (.AugAssign (.Name x p') .Add e p) (zAug i (fun i j => i + j) f) := qpz_aug V.cx (fun _ => ip_add) V.nd V.n V.l (.inl V.fn) h
theorem VP.us (V : VP X i x) (h : QX κ B X e f) : QZ κ B X (.AugAssign (.Name x p') .Sub e p) (zAug i (fun i j => i - j) f) := qpz_aug V.cx (fun _ => ip_sub) V.nd V.n V.l (.inl V.fn) h
end
def FF (K : PySem.W.Frag) (x : Str) (st : Stmt) : Prop := ∃ (f : Addr) (oc kV dc pm cd ct : Value) (od an : Option Addr) (sl : Array (Option Value)), PySem.W.nsIn K mainGlobals x = some (some (.ref f)) ∧
  K.lookup f = some ⟨oc, od, .func (PySem.W.fnOf x x (defArgs st) (defBody st) (defScope st) .none kV dc pm an cd ct), sl⟩ ∧ PySem.W.codeIn K cd x = true ∧ PySem.W.keepIn K (.ref f) = true
theorem FF.mk {K : PySem.W.Frag} {x : Str} {st : Stmt} {f : Addr} {oc kV dc pm cd ct : Value} {od an : Option Addr} {sl : Array (Option Value)} (a : PySem.W.nsIn K mainGlobals x = some (some (.ref f))) (l : K.lookup f = some ⟨oc, od, .func (PySem.W.fnOf x x (defArgs st) (defBody st) (defScope st) .none kV dc pm an cd ct), sl⟩)
    (d : PySem.W.codeIn K cd x = true) (p : PySem.W.keepIn K (.ref f) = true) : FF K x st := ⟨f, oc, kV, dc, pm, cd, ct, od, an, sl, a, l, d, p⟩
theorem FF.ft {K : PySem.W.Frag} {x : Str} {st : Stmt} {h : Heap} {mg : Str → Option Value} {ps : List Str} (F : FF K x st) (X : K.In h) (G : h.Ns mainGlobals mg)
    (hb : ∀ (kV doc pm : Value) (an : Option Addr) (cdv ct : Value) (us : List Value), us.length = ps.length → bindArgs (PySem.W.fnOf x x (defArgs st) (defBody st) (defScope st) .none kV doc pm an cdv ct) ⟨us, []⟩ = pure (ps.zip us)) : ∃ f fd, Fun K x x st f fd ∧ mg x = some (.ref f) ∧ Binds K fd ps [] := by
  obtain ⟨f, oc, kV, dc, pm, cd, ct, od, an, sl, a, l, d, p⟩ := F
  exact ⟨f, _, fun_mk l d p, PySem.W.mg_of X G a, (fun_mk l d p).binds hb⟩
def FT (K : PySem.W.Frag) (mg : Str → Option Value) (x : Str) (st : Stmt) (ps : List Str) : Prop := ∃ f fd, Fun K x x st f fd ∧ mg x = some (.ref f) ∧ Binds K fd ps []
end L3
set_option linter.all false
namespace L3
open L2
theorem zSeq_next {F1 F2 : Ev → SR} {δ δ' : Ev} (h : F1 δ = .next δ') : zSeq F1 F2 δ = F2 δ' := by unfold zSeq; rw [h]
theorem zSeq_ret {F1 F2 : Ev → SR} {δ : Ev} {d : D} (h : F1 δ = .ret d) : zSeq F1 F2 δ = .ret d := by unfold zSeq; rw [h]
theorem zIf_no {t : Ev → R Bool} {F1 F2 : Ev → SR} {δ : Ev} (h : t δ = .ok false) : zIf t F1 F2 δ = F2 δ := by unfold zIf; rw [h]; rfl
theorem zIf_yes {t : Ev → R Bool} {F1 F2 : Ev → SR} {δ : Ev} (h : t δ = .ok true) : zIf t F1 F2 δ = F1 δ := by unfold zIf; rw [h]; rfl
@[simp] theorem finR_next (δ : Ev) : finR (.next δ) = .ok .non := rfl
@[simp] theorem finR_ret (d : D) : finR (.ret d) = .ok d := rfl
@[simp] theorem finR_exc (c : Nat) (δ : Ev) : finR (.exc c δ) = .exc c := rfl
@[simp] theorem oAdd_int (i j : Int) : oAdd (.int i) (.int j) = .ok (.int (i + j)) := rfl
@[simp] theorem oSub_int (i j : Int) : oSub (.int i) (.int j) = .ok (.int (i - j)) := rfl
theorem oMod_int (i : Int) {j : Int} (h : 0 < j) : oMod (.int i) (.int j) = .ok (.int (i % j)) := by simp [oMod, oI, h]
theorem oDiv_int (i : Int) {j : Int} (h : 0 < j) (h2 : j < 1073741824) : oDiv (.int i) (.int j) = .ok (.int (i / j)) := by simp [oDiv, oI, h, h2]
theorem oMul_l {i : Int} (j : Int) (h : -18446744073709551616 < i) (h2 : i < 18446744073709551616) : oMul (.int i) (.int j) = .ok (.int (i * j)) := by simp [oMul, oI, h, h2]
theorem oMul_r (i : Int) {j : Int} (h : -18446744073709551616 < j) (h2 : j < 18446744073709551616) : oMul (.int i) (.int j) = .ok (.int (i * j)) := by simp [oMul, oI, h, h2]
@[simp] theorem oLt_int (i j : Int) : oLt (.int i) (.int j) = .ok (decide (i < j)) := rfl
@[simp] theorem oLe_int (i j : Int) : oLe (.int i) (.int j) = .ok (decide (i ≤ j)) := rfl
@[simp] theorem oGt_int (i j : Int) : oGt (.int i) (.int j) = .ok (decide (j < i)) := rfl
@[simp] theorem oGe_int (i j : Int) : oGe (.int i) (.int j) = .ok (decide (j ≤ i)) := rfl
@[simp] theorem op2_ok {op : D → D → R Bool} {x y : D} {b : Bool} (h : op x y = .ok b) : op2 op x y = .ok (.bl b) := by unfold op2; rw [h]; rfl
@[simp] theorem blR_ok (b : Bool) : blR (.ok b) = .ok (.bl b) := rfl
@[simp] theorem boolD_bl (b : Bool) : boolD (.bl b) = .ok b := rfl
@[simp] theorem tru_bl (b : Bool) : tru (.bl b) = .ok b := rfl
@[simp] theorem tru_int (i : Int) : tru (.int i) = .ok (i != 0) := rfl
@[simp] theorem tru_lst (ds : List D) : tru (.lst ds) = .ok (!ds.isEmpty) := rfl
@[simp] theorem tru_tup (ds : List D) : tru (.tup ds) = .ok (!ds.isEmpty) := rfl
@[simp] theorem oLen_lst (ds : List D) : oLen (.lst ds) = .ok (.int ds.length) := rfl
@[simp] theorem oLen_tup (ds : List D) : oLen (.tup ds) = .ok (.int ds.length) := rfl
theorem oIx_lst {ds : List D} {i : Int} {d : D} (h : atI ds i = some d) : oIx (.lst ds) (.int i) = .ok d := by simp [oIx, h]
theorem oIx_tup {ds : List D} {i : Int} {d : D} (h : atI ds i = some d) : oIx (.tup ds) (.int i) = .ok d := by simp [oIx, h]
theorem atI_some {α : Type} {l : List α} {k : Nat} {d : α} (h : l[k]? = some d) : atI l (k : Int) = some d := atI_nat h
section
variable (op : D → D → R D) (opb : D → D → R Bool) (o1 : D → R D) (f g h : Ev → R D) (fs gs : Ev → R (List D)) (t u : Ev → R Bool) (m : List D → R D) (δ : Ev) (F1 F2 : Ev → SR)
@[simp] theorem e_mC (d : D) : mC d δ = .ok d := rfl
@[simp] theorem e_mVar (i : Nat) : mVar i δ = (match δ[i]? with | some (some (.sh d)) => .ok d | _ => .stuck) := rfl
@[simp] theorem e_mVarR (i : Nat) : mVarR i δ = (match δ[i]? with | some (some (.sh d)) => .ok d | some (some (.ow ds)) => .ok (.lst ds) | _ => .stuck) := rfl
@[simp] theorem e_m2 : m2 op f g δ = (f δ).bind fun x => (g δ).bind fun y => op x y := rfl
@[simp] theorem e_m2t : m2t opb f g δ = (f δ).bind fun x => (g δ).bind fun y => opb x y := rfl
@[simp] theorem e_m1 : m1 o1 f δ = (f δ).bind o1 := rfl
@[simp] theorem e_mNil : mNil δ = .ok [] := rfl
@[simp] theorem e_mCons : mCons f fs δ = (f δ).bind fun x => (fs δ).bind fun xs => .ok (x :: xs) := rfl
@[simp] theorem e_mCall : mCall m fs δ = (fs δ).bind m := rfl
@[simp] theorem e_mT : mT f δ = (f δ).bind tru := rfl
@[simp] theorem e_mNot : mNot t δ = (t δ).bind fun k => .ok (!k) := rfl
@[simp] theorem e_mAnd : mAnd t u δ = (t δ).bind fun k => if k then u δ else .ok false := rfl
@[simp] theorem e_mOr : mOr t u δ = (t δ).bind fun k => if k then .ok true else u δ := rfl
@[simp] theorem e_mAndV : mAndV f g δ = (f δ).bind fun x => (boolD x).bind fun k => if k then g δ else .ok (.bl false) := rfl
@[simp] theorem e_mOrV : mOrV f g δ = (f δ).bind fun x => (boolD x).bind fun k => if k then .ok (.bl true) else g δ := rfl
@[simp] theorem e_mNotV : mNotV f δ = (f δ).bind fun x => (boolD x).bind fun k => .ok (.bl (!k)) := rfl
@[simp] theorem e_mIf : mIf t f g δ = (t δ).bind fun k => if k then f δ else g δ := rfl
@[simp] theorem e_mTup : mTup fs δ = (fs δ).bind fun xs => if xs.length ≤ 1000000 then .ok (.tup xs) else .stuck := rfl
@[simp] theorem e_mLst : mLst fs δ = (fs δ).bind fun xs => if xs.length ≤ 1000000 then .ok (.lst xs) else .stuck := rfl
@[simp] theorem e_zSet (i : Nat) : zSet i f δ = bS (f δ) δ fun d => .next (δ.set i (some (.sh d))) := rfl
@[simp] theorem e_zIf : zIf t F1 F2 δ = bS (t δ) δ fun k => if k then F1 δ else F2 δ := rfl
@[simp] theorem e_zRet : zRet f δ = bS (f δ) δ .ret := rfl
@[simp] theorem e_zDrop : zDrop f δ = bS (f δ) δ fun _ => .next δ := rfl
@[simp] theorem e_zOwn (i : Nat) : zOwn i fs δ = bS (fs δ) δ fun ds => .next (δ.set i (some (.ow ds))) := rfl
@[simp] theorem e_bN (i : Nat) (d : D) : bN i d δ = some (δ.set i (some (.sh d))) := rfl
@[simp] theorem e_zAsg (bd : D → Ev → Option Ev) : zAsg bd f δ = bS (f δ) δ fun d => match bd d δ with | some δ' => .next δ' | none => .stuck := rfl
@[simp] theorem op2_int_eq (i j : Int) : op2 oEq (.int i) (.int j) = .ok (.bl (i == j)) := rfl
@[simp] theorem op2_int_ne (i j : Int) : op2 oNe (.int i) (.int j) = .ok (.bl (!(i == j))) := rfl
@[simp] theorem op2_int_lt (i j : Int) : op2 oLt (.int i) (.int j) = .ok (.bl (decide (i < j))) := rfl
@[simp] theorem op2_int_le (i j : Int) : op2 oLe (.int i) (.int j) = .ok (.bl (decide (i ≤ j))) := rfl
@[simp] theorem op2_int_gt (i j : Int) : op2 oGt (.int i) (.int j) = .ok (.bl (decide (j < i))) := rfl
@[simp] theorem op2_int_ge (i j : Int) : op2 oGe (.int i) (.int j) = .ok (.bl (decide (j ≤ i))) := rfl
end
theorem loopZ_inv {bd : D → Ev → Option Ev} {F : Ev → SR} (P : Nat → Ev → Prop) : ∀ (ds : List D) (n : Nat) (δ : Ev), P n δ → (∀ k d δ, ds[k]? = some d → P (n + k) δ → ∃ δ1 δ2, bd d δ = some δ1 ∧ (F δ1 = .next δ2 ∨ F δ1 = .cont δ2) ∧ P (n + k + 1) δ2) →
    ∃ δ', loopZ bd F ds δ = .next δ' ∧ P (n + ds.length) δ'
  | [], n, δ, h0, _ => ⟨δ, rfl, h0⟩
  | d :: ds, n, δ, h0, hs => by
    obtain ⟨δ1, δ2, e1, e2, p2⟩ := hs 0 d δ rfl h0
    obtain ⟨δ', e3, p3⟩ := loopZ_inv P ds (n + 1) δ2 p2 fun k d' δ'' e p => by
      have := hs (k + 1) d' δ'' (by simpa using e) (by rw [show n + (k + 1) = n + 1 + k by omega]; exact p)
      rw [show n + (k + 1) + 1 = n + 1 + k + 1 by omega] at this
      exact this
    refine ⟨δ', ?_, by rw [List.length_cons, show n + (ds.length + 1) = n + 1 + ds.length by omega]; exact p3⟩
    unfold loopZ
    simp only [e1]
    rcases e2 with e2 | e2 <;> simp only [e2, e3]
theorem zFor_next {fit : Ev → R (List D)} {bd : D → Ev → Option Ev} {F : Ev → SR} {δ : Ev} {ds : List D} (P : Nat → Ev → Prop) (h : fit δ = .ok ds) (h0 : P 0 δ) (hs : ∀ k d δ, ds[k]? = some d → P k δ → ∃ δ1 δ2, bd d δ = some δ1 ∧ (F δ1 = .next δ2 ∨ F δ1 = .cont δ2) ∧ P (k + 1) δ2) :
    ∃ δ', zFor fit bd F δ = .next δ' ∧ P ds.length δ' := by
  obtain ⟨δ', e, p⟩ := loopZ_inv P ds 0 δ h0 fun k d δ e q => by simpa using hs k d δ e (by simpa using q)
  exact ⟨δ', by unfold zFor; rw [h]; exact e, by simpa using p⟩
theorem rngD_get {lo hi : Int} {k : Nat} {d : D} (h : (rngD lo hi)[k]? = some d) : d = .int (lo + k) ∧ lo + k < hi := by
  unfold rngD at h
  rw [List.getElem?_map] at h
  cases q : (List.range (hi - lo).toNat)[k]? with
  | none => rw [q] at h; cases h
  | some j =>
    rw [q] at h
    have hk := (List.getElem?_eq_some_iff.mp q).1
    rw [List.length_range] at hk
    rw [List.getElem?_range hk] at q
    cases q
    cases h
    exact ⟨rfl, by omega⟩
theorem rngD_length (lo hi : Int) : (rngD lo hi).length = (hi - lo).toNat := by simp [rngD]
theorem whileZ_false {t : Ev → R Bool} {F : Ev → SR} {n : Nat} {δ : Ev} (h : t δ = .ok false) : whileZ t F (n + 1) δ = .next δ := by simp [whileZ, h]
theorem whileZ_true {t : Ev → R Bool} {F : Ev → SR} {n : Nat} {δ δ' : Ev} (h : t δ = .ok true) (h2 : F δ = .next δ') : whileZ t F (n + 1) δ = whileZ t F n δ' := by simp [whileZ, h, h2]
theorem whileZ_inv {t : Ev → R Bool} {F : Ev → SR} (P : Nat → Ev → Prop) (step : ∀ k δ, P k δ → t δ = .ok false ∨ (t δ = .ok true ∧ ∃ δ' k', k' < k ∧ F δ = .next δ' ∧ P k' δ')) : ∀ (n k : Nat) (δ : Ev), k < n → P k δ → ∃ δ' k', whileZ t F n δ = .next δ' ∧ P k' δ' ∧ t δ' = .ok false
  | 0, _, _, h, _ => absurd h (Nat.not_lt_zero _)
  | n + 1, k, δ, h, p => by
    rcases step k δ p with c | ⟨c, δ', k', h1, h2, h3⟩
    · exact ⟨δ, k, whileZ_false c, p, c⟩
    · obtain ⟨δ2, k2, e, q⟩ := whileZ_inv P step n k' δ' (by omega) h3
      exact ⟨δ2, k2, by rw [whileZ_true c h2]; exact e, q⟩
def cell (ns : List Int) (k : Nat) : Int := ns.getD k 0
end L3
set_option linter.all false
namespace L3
open PySem L2
abbrev rowD (r : List Int) : D := .lst (r.map D.int)
theorem plainDs_ints (r : List Int) : plainDs (r.map D.int) = true := by
  induction r with
  | nil => rfl
  | cons a r ih => simp [plainDs, plainD, ih]
theorem lay_ints (r : List Int) : PyData.canLayAll0 (toPs (r.map D.int)) = true := by
  induction r with
  | nil => rfl
  | cons a r ih => simp [toPs, toP, PyData.canLayAll0, PyData.canLay0, ih]
theorem depth_ints (r : List Int) : PyData.depthAll (toPs (r.map D.int)) = 0 := by
  induction r with
  | nil => rfl
  | cons a r ih => simp [toPs, toP, PyData.depthAll, PyData.depth, ih]
theorem okP_row (r : List Int) : okP (rowD r) = true := by
  unfold okP SeqAt.shaped
  simp [rowD, plainD, plainDs_ints, toP, PyData.canLay0, lay_ints, PyData.depth, depth_ints]
theorem eqD_nil (ds : List D) : eqD (.lst ds) (.lst []) = ds.isEmpty := by
  unfold eqD
  cases ds <;> simp [toP, toPs, PyData.eqv, PyData.eqvAll]
@[simp] theorem oEq_row_nil (r : List Int) : oEq (rowD r) (.lst []) = .ok r.isEmpty := by
  unfold oEq
  rw [okP_row, show okP (.lst []) = true from okP_row [], eqD_nil]
  simp
@[simp] theorem oNe_row_nil (r : List Int) : oNe (rowD r) (.lst []) = .ok (!r.isEmpty) := by
  unfold oNe
  rw [okP_row, show okP (.lst []) = true from okP_row [], eqD_nil]
  simp
theorem inB_row (d : Int) (r : List Int) : inB (.int d) (rowD r) = .ok (decide (d ∈ r)) := by
  have hf : (r.map D.int).all flatD = true := by simp [flatD]
  unfold inB
  simp only [rowD, hf]
  simp only [flatD, Bool.and_self, if_true]
  congr 1
  rw [Bool.eq_iff_iff, List.any_map, List.any_eq_true, decide_eq_true_eq]
  constructor
  · rintro ⟨x, hx, e⟩
    have e' : x = d := by simpa [eqF] using e
    exact e' ▸ hx
  · intro h
    exact ⟨d, h, by simp [eqF]⟩
@[simp] theorem oIn_row (d : Int) (r : List Int) : oIn (.int d) (rowD r) = .ok (decide (d ∈ r)) := inB_row d r
@[simp] theorem oNin_row (d : Int) (r : List Int) : oNin (.int d) (rowD r) = .ok (!decide (d ∈ r)) := by unfold oNin; rw [inB_row]; rfl
section
variable (f : Ev → R D) (fl fh : Ev → R (Option Int)) (δ : Ev) (fs fit : Ev → R (List D)) (t : Ev → R Bool)
@[simp] theorem e_mSl : mSl f fl fh δ = (f δ).bind fun x => (fl δ).bind fun l => (fh δ).bind fun u => oSl x l u := rfl
@[simp] theorem e_mP : mP f δ = (f δ).bind fun d => match d with | .int i => .ok (some i) | _ => .stuck := rfl
@[simp] theorem e_mNoP : mNoP δ = .ok none := rfl
@[simp] theorem e_mL : mL fs δ = (fs δ).bind fun ds => .ok (.lst ds) := rfl
@[simp] theorem e_mComp : mComp fit t f δ = (fit δ).bind fun ds => if ds.length ≤ 1000000 then noX (compZ t f (shE δ) ds) else .stuck := rfl
@[simp] theorem e_zApp (i : Nat) : zApp i f δ = (match δ[i]? with | some (some (.ow ds)) => bS (f δ) δ fun d => if ds.length < 1000000 then .next (δ.set i (some (.ow (ds ++ [d])))) else .stuck | _ => .stuck) := rfl
@[simp] theorem oNeg_int (i : Int) : oNeg (.int i) = .ok (.int (-i)) := rfl
@[simp] theorem itemsD_lst (ds : List D) : itemsD (.lst ds) = .ok ds := rfl
end
theorem oCat_ok {xs ys : List D} (h : xs.length + ys.length ≤ 1000000) : oCat (.lst xs) (.lst ys) = .ok (.lst (xs ++ ys)) := by simp [oCat, h]
theorem sIx_nat {n : Nat} {d k : Nat} (h : k ≤ n) : HT.sIx n d (some (k : Int)) = k := by
  rw [HT.sIx_nat]
  exact Nat.min_eq_left h
theorem iR1_nat {n : Nat} (h : n ≤ 1000000) : iR1 [.int (n : Int)] = .ok (rngD 0 n) := by
  simp only [iR1]
  exact if_pos ⟨by omega, by omega⟩
theorem iR2_ok {i j : Int} (h1 : -1000000 ≤ i) (h2 : i ≤ 1000000) (h3 : -1000000 ≤ j) (h4 : j ≤ 1000000) : iR2 [.int i, .int j] = .ok (rngD i j) := by
  simp only [iR2]
  exact if_pos ⟨⟨by omega, by omega⟩, by omega, by omega⟩
theorem fit1_var {δ : Ev} {i n : Nat} (h : mVar i δ = .ok (.int (n : Int))) (hl : n ≤ 1000000) : (fun δ => ((mCons (mVar i) mNil) δ).bind iR1) δ = .ok (rngD 0 n) := by
  have e : (mCons (mVar i) mNil) δ = .ok [.int (n : Int)] := by
    unfold mCons
    rw [h, R.bind_ok]
    rfl
  show ((mCons (mVar i) mNil) δ).bind iR1 = _
  rw [e, R.bind_ok, iR1_nat hl]
theorem fit2 {δ : Ev} {fs : Ev → R (List D)} {i j : Int} (h : fs δ = .ok [.int i, .int j]) (h1 : -1000000 ≤ i) (h2 : i ≤ 1000000) (h3 : -1000000 ≤ j) (h4 : j ≤ 1000000) : (fun δ => (fs δ).bind iR2) δ = .ok (rngD i j) := by
  show (fs δ).bind iR2 = _
  rw [h, R.bind_ok, iR2_ok h1 h2 h3 h4]
end L3
set_option linter.all false
set_option maxRecDepth 100000
namespace L3
open PySem L2
theorem zFor_map {α : Type} {f : α → D} {l : List α} {i : Nat} {fit : Ev → R (List D)} {F : Ev → SR} {δ : Ev} (P : Nat → Ev → Prop) (h : fit δ = .ok (l.map f)) (h0 : P 0 δ)
    (hs : ∀ k a δ, l[k]? = some a → P k δ → ∃ δ2, (F (δ.set i (some (.sh (f a)))) = .next δ2 ∨ F (δ.set i (some (.sh (f a)))) = .cont δ2) ∧ P (k + 1) δ2) : ∃ δ', zFor fit (bN i) F δ = .next δ' ∧ P l.length δ' := by
  have := zFor_next (fit := fit) (bd := bN i) (F := F) (δ := δ) (ds := l.map f) P h h0 (by
    intro k d δ1 hd p
    rw [List.getElem?_map] at hd
    cases q : l[k]? with
    | none => rw [q] at hd; cases hd
    | some a =>
      rw [q] at hd
      cases hd
      obtain ⟨δ2, h1, h2⟩ := hs k a δ1 q p
      exact ⟨_, δ2, rfl, h1, h2⟩)
  simpa using this
theorem cutD_to {α : Type} (xs : List α) {b : Nat} (h : b ≤ xs.length) : cutD xs none (some (b : Int)) = xs.take b := by
  unfold cutD
  rw [HT.sIx_none, sIx_nat h]
  simp
theorem cutD_from {α : Type} (xs : List α) {a : Nat} (h : a ≤ xs.length) : cutD xs (some (a : Int)) none = xs.drop a := by
  unfold cutD
  rw [HT.sIx_none, sIx_nat h]
  rw [List.take_of_length_le (by rw [List.length_drop]; omega)]
theorem e_mLst0 (δ : Ev) : mLst mNil δ = .ok (.lst []) := rfl
theorem e_mLst1 (f : Ev → R D) (δ : Ev) : mLst (mCons f mNil) δ = (f δ).bind fun x => .ok (.lst [x]) := by
  unfold mLst mCons
  cases f δ <;> simp [mNil]
theorem e_mLst2 (f g : Ev → R D) (δ : Ev) : mLst (mCons f (mCons g mNil)) δ = (f δ).bind fun x => (g δ).bind fun y => .ok (.lst [x, y]) := by
  unfold mLst mCons
  cases f δ <;> cases g δ <;> simp [mNil]
theorem e_mTup2 (f g : Ev → R D) (δ : Ev) : mTup (mCons f (mCons g mNil)) δ = (f δ).bind fun x => (g δ).bind fun y => .ok (.tup [x, y]) := by
  unfold mTup mCons
  cases f δ <;> cases g δ <;> simp [mNil]
theorem e_mTup3 (f g h : Ev → R D) (δ : Ev) : mTup (mCons f (mCons g (mCons h mNil))) δ = (f δ).bind fun x => (g δ).bind fun y => (h δ).bind fun z => .ok (.tup [x, y, z]) := by
  unfold mTup mCons
  cases f δ <;> cases g δ <;> cases h δ <;> simp [mNil]
def rngI (lo hi : Int) : List Int := (List.range (hi - lo).toNat).map fun k : Nat => lo + (k : Int)
theorem rngD_map (lo hi : Int) : rngD lo hi = (rngI lo hi).map D.int := by
  unfold rngD rngI
  rw [List.map_map]
  rfl
theorem mem_rngI {lo hi d : Int} : d ∈ rngI lo hi ↔ lo ≤ d ∧ d < hi := by
  unfold rngI
  rw [List.mem_map]
  constructor
  · rintro ⟨k, hk, rfl⟩
    have := List.mem_range.mp hk
    omega
  · rintro ⟨h1, h2⟩
    exact ⟨(d - lo).toNat, List.mem_range.mpr (by omega), by omega⟩
theorem rngI_len (lo hi : Int) : (rngI lo hi).length = (hi - lo).toNat := by simp [rngI]
@[simp] theorem oMin_int (i j : Int) : oMin [.int i, .int j] = .ok (.int (if j < i then j else i)) := rfl
@[simp] theorem oInt_bl (k : Bool) : oInt [.bl k] = .ok (.int (if k then 1 else 0)) := rfl
@[simp] theorem e_mCB (o : List D → R D) (fs : Ev → R (List D)) (δ : Ev) : mCB o fs δ = (fs δ).bind o := rfl
theorem e_mLst4 (f g h k : Ev → R D) (δ : Ev) : mLst (mCons f (mCons g (mCons h (mCons k mNil)))) δ = (f δ).bind fun x => (g δ).bind fun y => (h δ).bind fun z => (k δ).bind fun w => .ok (.lst [x, y, z, w]) := by
  unfold mLst mCons
  cases f δ <;> cases g δ <;> cases h δ <;> cases k δ <;> simp [mNil]
theorem e_mLstC3 (a b c : D) (δ : Ev) : mLst (fun _ => .ok [a, b, c]) δ = .ok (.lst [a, b, c]) := by simp [mLst]
theorem comp_map {α : Type} {l : List α} {h : α → D} {g : α → D} {f : Ev → R D} {fit : Ev → R (List D)} {δ : Ev} (hf : fit δ = .ok (l.map h)) (hl : l.length ≤ 1000000) (he : ∀ a ∈ l, f (shE δ ++ [some (.sh (h a))]) = .ok (g a)) : mComp fit (fun _ => .ok true) f δ = .ok (l.map g) := by
  have key : ∀ l : List α, (∀ a ∈ l, f (shE δ ++ [some (.sh (h a))]) = .ok (g a)) → compZ (fun _ => .ok true) f (shE δ) (l.map h) = .ok (l.map g) := by
    intro l
    induction l with
    | nil => intro _; rfl
    | cons a l ih =>
      intro he
      rw [List.map_cons, List.map_cons, compZ, R.bind_ok, if_pos rfl, he a List.mem_cons_self, R.bind_ok, ih fun b hb => he b (List.mem_cons_of_mem _ hb)]
      rfl
  unfold mComp
  rw [hf, R.bind_ok, if_pos (by rw [List.length_map]; exact hl), key l he]
  rfl
theorem comp_filter {α : Type} {l : List α} {h : α → D} {g : α → D} {p : α → Bool} {t : Ev → R Bool} {f : Ev → R D} {fit : Ev → R (List D)} {δ : Ev} (hf : fit δ = .ok (l.map h)) (hl : l.length ≤ 1000000) (ht : ∀ a ∈ l, t (shE δ ++ [some (.sh (h a))]) = .ok (p a))
    (he : ∀ a ∈ l, p a = true → f (shE δ ++ [some (.sh (h a))]) = .ok (g a)) : mComp fit t f δ = .ok ((l.filter p).map g) := by
  have key : ∀ l : List α, (∀ a ∈ l, t (shE δ ++ [some (.sh (h a))]) = .ok (p a)) → (∀ a ∈ l, p a = true → f (shE δ ++ [some (.sh (h a))]) = .ok (g a)) → compZ t f (shE δ) (l.map h) = .ok ((l.filter p).map g) := by
    intro l
    induction l with
    | nil => intro _ _; rfl
    | cons a l ih =>
      intro ht he
      have i := ih (fun b hb => ht b (List.mem_cons_of_mem _ hb)) (fun b hb => he b (List.mem_cons_of_mem _ hb))
      rw [List.map_cons, compZ, ht a List.mem_cons_self, R.bind_ok, List.filter_cons]
      cases c : p a with
      | true =>
        rw [if_pos rfl, he a List.mem_cons_self c, R.bind_ok, i]
        rfl
      | false => simpa using i
  unfold mComp
  rw [hf, R.bind_ok, if_pos (by rw [List.length_map]; exact hl), key l ht he]
  rfl
end L3
set_option Elab.async false
set_option linter.all false
set_option maxRecDepth 100000
set_option maxHeartbeats 400000
namespace Lw
open PySem PySem.Spec PyProof.Rows L2 L3
def top (i : Nat) : Stmt := PySem.Challenge.pw_inkdays_k09_figures.main.body.getD i (.Pass ⟨0, 0, 0, 0⟩)
def c_PLACES : D := .tup [D.str [60, 100, 62], D.str [60, 109, 62], D.str [60, 121, 62], D.str [60, 89, 62], D.str [60, 110, 62], D.str [60, 119, 62]]
def c_PLAIN_SIGNS : D := .str [97, 98, 99, 100, 101, 102, 103, 104, 105, 106, 107, 108, 109, 110, 111, 112, 113, 114, 115, 116, 117, 118, 119, 120, 121, 122, 48, 49, 50, 51, 52, 53, 54, 55, 56, 57, 32, 46, 47, 45, 44]
def c_MOST_LACKING_PARTS : D := .int 3
def c_LONGEST_FORM : D := .int 30
def c_LONGEST_TEXT : D := .int 20
def c_LAST_NUMBER : D := .int 3652058
def c_DAYS_OF_400_YEARS : D := .int 146097
def c_COMMON_LENGTHS : D := .tup [D.int 31, D.int 28, D.int 31, D.int 30, D.int 31, D.int 30, D.int 31, D.int 31, D.int 30, D.int 31, D.int 30, D.int 31]
def c_WEEKDAYS : D := .tup [D.str [109, 111, 110, 100, 97, 121], D.str [116, 117, 101, 115, 100, 97, 121], D.str [119, 101, 100, 110, 101, 115, 100, 97, 121], D.str [116, 104, 117, 114, 115, 100, 97, 121], D.str [102, 114, 105, 100, 97, 121], D.str [115, 97, 116, 117, 114, 100, 97, 121], D.str [115, 117, 110, 100, 97, 121]]
def c_MONTHS : D := .tup [D.str [106, 97, 110, 117, 97, 114, 121], D.str [102, 101, 98, 114, 117, 97, 114, 121], D.str [109, 97, 114, 99, 104], D.str [97, 112, 114, 105, 108], D.str [109, 97, 121], D.str [106, 117, 110, 101], D.str [106, 117, 108, 121], D.str [97, 117, 103, 117, 115, 116], D.str [115, 101, 112, 116, 101, 109, 98, 101, 114], D.str [111, 99, 116, 111, 98, 101, 114], D.str [110, 111, 118, 101, 109, 98, 101, 114], D.str [100, 101, 99, 101, 109, 98, 101, 114]]
def F_law_leap : Ev → SR := zRet (mAndV (m2 (op2 oEq) (m2 oMod (mVar 0) (mC (.int 4))) (mC (.int 0))) (mOrV (m2 (op2 oNe) (m2 oMod (mVar 0) (mC (.int 100))) (mC (.int 0))) (m2 (op2 oEq) (m2 oMod (mVar 0) (mC (.int 400))) (mC (.int 0)))))
def m_law_leap (ds : List D) : R D := finR (F_law_leap (startE 1 ds))
theorem s_law_leap : FnScope [("_law_year" : Str)] [("_law_year" : Str)] (defScope (top 43)) := ⟨rfl, rfl, rfl, by decide +kernel, rfl, by decide +kernel, by decide +kernel⟩
theorem d_law_leap {κ : Nat → Addr} {X : Cx} {B : Gd} (cx : Cxo X) (hcalm : X.calm = true) (hN : X.N = [("_law_year" : Str)]) (hsc : X.env.scope = defScope (top 43)) (hfn : ∀ y, X.fn y = true) (hu : X.A.units + 64 < cLine)  : QZs κ B X (defBody (top 43)) F_law_leap := by
  have hnd : X.N.Nodup := by rw [hN]; decide +kernel
  have V0 : VP X 0 ("_law_year" : Str) := vpl cx hnd hfn hN hsc rfl rfl (by decide) (by decide)
  exact qpzs_one (qpz_ret cx (qpx_and (qpx_eq hu ((qpx_mod ((V0.v).read) ((qpx_int).read)).read) ((qpx_int).read) (mark_no rfl)) (qpx_one (qpx_or (qpx_ne hu ((qpx_mod ((V0.v).read) ((qpx_int).read)).read) ((qpx_int).read) (mark_no rfl)) (qpx_one (qpx_eq hu ((qpx_mod ((V0.v).read) ((qpx_int).read)).read) ((qpx_int).read) (mark_no rfl)))))))
def F_law_month_1 : Ev → SR := zRet (m2 oIx (mLst (fun _ => .ok [D.int 31, D.int 28, D.int 31, D.int 30, D.int 31, D.int 30, D.int 31, D.int 31, D.int 30, D.int 31, D.int 30, D.int 31])) (m2 oSub (mVar 1) (mC (.int 1))))
def F_law_month : Ev → SR := zSeq (zIf (mAnd (m2t oEq (mVar 1) (mC (.int 2))) (mT (mCall m_law_leap (mCons (mVar 0) (mNil))))) (zRet (mC (.int 29))) (SR.next)) F_law_month_1
def m_law_month (ds : List D) : R D := finR (F_law_month (startE 2 ds))
theorem s_law_month : FnScope [("_law_year" : Str), ("_law_month_here" : Str)] [("_law_year" : Str), ("_law_month_here" : Str)] (defScope (top 44)) := ⟨rfl, rfl, rfl, by decide +kernel, rfl, by decide +kernel, by decide +kernel⟩
theorem d_law_month {κ : Nat → Addr} {X : Cx} {B : Gd} (cx : Cxo X) (hcalm : X.calm = true) (hN : X.N = [("_law_year" : Str), ("_law_month_here" : Str)]) (hsc : X.env.scope = defScope (top 44)) (hfn : ∀ y, X.fn y = true) (hu : X.A.units + 64 < cLine) (k_law_leap : Cal κ X ("_law_leap" : Str) 1 m_law_leap) : QZs κ B X (defBody (top 44)) F_law_month := by
  have hnd : X.N.Nodup := by rw [hN]; decide +kernel
  have V0 : VP X 0 ("_law_year" : Str) := vpl cx hnd hfn hN hsc rfl rfl (by decide) (by decide)
  have V1 : VP X 1 ("_law_month_here" : Str) := vpl cx hnd hfn hN hsc rfl rfl (by decide) (by decide)
  have hg_law_leap : Gl X ("_law_leap" : Str) := by show X.env.scope.names.lookup ("_law_leap" : Str) = _; rw [hsc]; rfl
  refine qpzs_cons (F1 := zIf (mAnd (m2t oEq (mVar 1) (mC (.int 2))) (mT (mCall m_law_leap (mCons (mVar 0) (mNil))))) (zRet (mC (.int 29))) (SR.next)) (F2 := F_law_month_1) ?_ ?_
  · exact qpz_if cx ((qpxw_and (qpxt_eq hu ((V1.v).read) ((qpx_int).read) (mark_no rfl)) (qpxw_and1 (qyt_val ((qy_call cx k_law_leap rfl hg_law_leap (qys_cons (V0.v) (qpxs_nil) rfl) (by decide) rfl (mlen_cons (mlen_nil))).read) rfl))).t) (qpzs_one (qpz_ret cx (qpx_int))) (qpzs_nil)
  exact qpzs_one (qpz_ret cx (qy_ix ((qpx_lst (qys_consts (ds := [D.int 31, D.int 28, D.int 31, D.int 30, D.int 31, D.int 30, D.int 31, D.int 31, D.int 30, D.int 31, D.int 30, D.int 31]) (by rfl))).read) ((qpx_sub ((V1.v).read) ((qpx_int).read)).read) rfl))
def S_law_first_6 : Ev → SR := zRet (mTup (mCons (mVar 3) (mCons (mVar 4) (mCons (mVar 5) (mNil)))))
def F_law_first_6 : Ev → SR := S_law_first_6
def S_law_first_5 : Ev → SR := zIf (m2t oEq (m2 oMod (m2 oDiv (mVar 2) (mC (.int 3718512))) (mC (.int 3))) (mC (.int 1))) (zSeq (zSet 3 (m2 oMul (mC (.int 4)) (m2 oAdd (mC (.int 1)) (m2 oMod (mVar 3) (mC (.int 2499)))))) (zSeq (zSet 4 (mC (.int 2))) (zSet 5 (m2 oAdd (mC (.int 20)) (m2 oMod (mVar 5) (mC (.int 9))))))) (SR.next)
def F_law_first_5 : Ev → SR := zSeq (S_law_first_5) F_law_first_6
def S_law_first_4 : Ev → SR := zSet 5 (m2 oAdd (mC (.int 1)) (m2 oMod (m2 oDiv (mVar 2) (mC (.int 119952))) (mCall m_law_month (mCons (mVar 3) (mCons (mVar 4) (mNil))))))
def F_law_first_4 : Ev → SR := zSeq (S_law_first_4) F_law_first_5
def S_law_first_3 : Ev → SR := zSet 4 (m2 oAdd (mC (.int 1)) (m2 oMod (m2 oDiv (mVar 2) (mC (.int 9996))) (mC (.int 12))))
def F_law_first_3 : Ev → SR := zSeq (S_law_first_3) F_law_first_4
def S_law_first_2 : Ev → SR := zSet 3 (m2 oAdd (mC (.int 1)) (m2 oMod (mVar 2) (mC (.int 9996))))
def F_law_first_2 : Ev → SR := zSeq (S_law_first_2) F_law_first_3
def S_law_first_1 : Ev → SR := zIf (mT (mVar 1)) (zSet 2 (m2 oMod (m2 oMul (m2 oMod (m2 oAdd (m2 oMul (mVar 0) (mC (.int 48271))) (mC (.int 4099))) (mC (.int 2147483647))) (mC (.int 16807))) (mC (.int 2147483629)))) (SR.next)
def F_law_first_1 : Ev → SR := zSeq (S_law_first_1) F_law_first_2
def S_law_first_0 : Ev → SR := zSet 2 (mVar 0)
def F_law_first : Ev → SR := zSeq (S_law_first_0) F_law_first_1
def m_law_first (ds : List D) : R D := finR (F_law_first (startE 6 ds))
theorem s_law_first : FnScope [("_law_cell" : Str), ("_law_mixed" : Str), ("_law_rest" : Str), ("_law_year" : Str), ("_law_month_here" : Str), ("_law_day" : Str)] [("_law_cell" : Str), ("_law_mixed" : Str)] (defScope (top 45)) := ⟨rfl, rfl, rfl, by decide +kernel, rfl, by decide +kernel, by decide +kernel⟩
theorem d_law_first {κ : Nat → Addr} {X : Cx} {B : Gd} (cx : Cxo X) (hcalm : X.calm = true) (hN : X.N = [("_law_cell" : Str), ("_law_mixed" : Str), ("_law_rest" : Str), ("_law_year" : Str), ("_law_month_here" : Str), ("_law_day" : Str)]) (hsc : X.env.scope = defScope (top 45)) (hfn : ∀ y, X.fn y = true) (hu : X.A.units + 64 < cLine) (k_law_month : Cal κ X ("_law_month" : Str) 2 m_law_month) : QZs κ B X (defBody (top 45)) F_law_first := by
  have hnd : X.N.Nodup := by rw [hN]; decide +kernel
  have V0 : VP X 0 ("_law_cell" : Str) := vpl cx hnd hfn hN hsc rfl rfl (by decide) (by decide)
  have V1 : VP X 1 ("_law_mixed" : Str) := vpl cx hnd hfn hN hsc rfl rfl (by decide) (by decide)
  have V2 : VP X 2 ("_law_rest" : Str) := vpl cx hnd hfn hN hsc rfl rfl (by decide) (by decide)
  have V3 : VP X 3 ("_law_year" : Str) := vpl cx hnd hfn hN hsc rfl rfl (by decide) (by decide)
  have V4 : VP X 4 ("_law_month_here" : Str) := vpl cx hnd hfn hN hsc rfl rfl (by decide) (by decide)
  have V5 : VP X 5 ("_law_day" : Str) := vpl cx hnd hfn hN hsc rfl rfl (by decide) (by decide)
  have hg_law_month : Gl X ("_law_month" : Str) := by show X.env.scope.names.lookup ("_law_month" : Str) = _; rw [hsc]; rfl
  refine qpzs_cons (F1 := S_law_first_0) (F2 := F_law_first_1) ?_ ?_
  · exact V2.s (V0.v) rfl
  refine qpzs_cons (F1 := S_law_first_1) (F2 := F_law_first_2) ?_ ?_
  · exact qpz_if cx (qyt_val ((V1.v).read) rfl) (qpzs_one (V2.s (qpx_mod ((qpx_mulI ((qpx_mod ((qpx_add ((qpx_mulI ((V0.v).read) ((qpx_int).read)).read) ((qpx_int).read)).read) ((qpx_int).read)).read) ((qpx_int).read)).read) ((qpx_int).read)) rfl)) (qpzs_nil)
  refine qpzs_cons (F1 := S_law_first_2) (F2 := F_law_first_3) ?_ ?_
  · exact V3.s (qpx_add ((qpx_int).read) ((qpx_mod ((V2.v).read) ((qpx_int).read)).read)) rfl
  refine qpzs_cons (F1 := S_law_first_3) (F2 := F_law_first_4) ?_ ?_
  · exact V4.s (qpx_add ((qpx_int).read) ((qpx_mod ((qpx_div ((V2.v).read) ((qpx_int).read)).read) ((qpx_int).read)).read)) rfl
  refine qpzs_cons (F1 := S_law_first_4) (F2 := F_law_first_5) ?_ ?_
  · exact V5.s (qpx_add ((qpx_int).read) ((qpx_mod ((qpx_div ((V2.v).read) ((qpx_int).read)).read) ((qy_call cx k_law_month rfl hg_law_month (qys_cons (V3.v) (qys_cons (V4.v) (qpxs_nil) rfl) rfl) (by decide) rfl (mlen_cons (mlen_cons (mlen_nil)))).read)).read)) rfl
  refine qpzs_cons (F1 := S_law_first_5) (F2 := F_law_first_6) ?_ ?_
  · exact qpz_if cx (qpxt_eq hu ((qpx_mod ((qpx_div ((V2.v).read) ((qpx_int).read)).read) ((qpx_int).read)).read) ((qpx_int).read) (mark_no rfl)) (qpzs_cons (V3.s (qpx_mulI ((qpx_int).read) ((qpx_add ((qpx_int).read) ((qpx_mod ((V3.v).read) ((qpx_int).read)).read)).read)) rfl) (qpzs_cons (V4.s (qpx_int) rfl) (qpzs_one (V5.s (qpx_add ((qpx_int).read) ((qpx_mod ((V5.v).read) ((qpx_int).read)).read)) rfl)))) (qpzs_nil)
  exact qpzs_one (qpz_ret cx (qpx_tup (qys_cons (V3.v) (qys_cons (V4.v) (qys_cons (V5.v) (qpxs_nil) rfl) rfl) rfl)))
def F_law_at_1 : Ev → SR := zRet (mC (.int 0))
def F_law_at : Ev → SR := zSeq (zIf (m2t oLt (mVar 1) (m1 oLen (mVar 0))) (zRet (m2 oIx (mVar 0) (mVar 1))) (SR.next)) F_law_at_1
def m_law_at (ds : List D) : R D := finR (F_law_at (startE 2 ds))
theorem s_law_at : FnScope [("_law_script" : Str), ("_law_k" : Str)] [("_law_script" : Str), ("_law_k" : Str)] (defScope (top 41)) := ⟨rfl, rfl, rfl, by decide +kernel, rfl, by decide +kernel, by decide +kernel⟩
theorem d_law_at {κ : Nat → Addr} {X : Cx} {B : Gd} (cx : Cxo X) (hcalm : X.calm = true) (hN : X.N = [("_law_script" : Str), ("_law_k" : Str)]) (hsc : X.env.scope = defScope (top 41)) (hfn : ∀ y, X.fn y = true) (hu : X.A.units + 64 < cLine) (b_len : X.mg ("len" : Str) = none) : QZs κ B X (defBody (top 41)) F_law_at := by
  have hnd : X.N.Nodup := by rw [hN]; decide +kernel
  have V0 : VP X 0 ("_law_script" : Str) := vpl cx hnd hfn hN hsc rfl rfl (by decide) (by decide)
  have V1 : VP X 1 ("_law_k" : Str) := vpl cx hnd hfn hN hsc rfl rfl (by decide) (by decide)
  have hg_len : Gl X ("len" : Str) := by show X.env.scope.names.lookup ("len" : Str) = _; rw [hsc]; rfl
  refine qpzs_cons (F1 := zIf (m2t oLt (mVar 1) (m1 oLen (mVar 0))) (zRet (m2 oIx (mVar 0) (mVar 1))) (SR.next)) (F2 := F_law_at_1) ?_ ?_
  · exact qpz_if cx (qpxt_lt ((V1.v).read) ((qy_len hg_len b_len ((V0.v).read) rfl).read) (mark_no rfl)) (qpzs_one (qpz_ret cx (qy_ix ((V0.v).read) ((V1.v).read) rfl))) (qpzs_nil)
  exact qpzs_one (qpz_ret cx (qpx_int))
def S_law_ways_4 : Ev → SR := zRet (mSl (mLst (mCons (m1 oStr (mVar 5)) (mCons (m2 oAdd (mC (.str [48])) (m1 oStr (mVar 5))) (mNil)))) (mNoP) (mP (m2 oAdd (mC (.int 1)) (mCB oInt (mCons (m2 (op2 oLt) (mVar 5) (mC (.int 10))) (mNil))))))
def F_law_ways_4 : Ev → SR := S_law_ways_4
def S_law_ways_3 : Ev → SR := zSet 5 (m2 oIx (mLst (mCons (mVar 4) (mCons (mVar 3) (mNil)))) (mCB oInt (mCons (m2 (op2 oEq) (mVar 0) (mC (.str [60, 109, 62]))) (mNil))))
def F_law_ways_3 : Ev → SR := zSeq (S_law_ways_3) F_law_ways_4
def S_law_ways_2 : Ev → SR := zIf (m2t oEq (mVar 0) (mC (.str [60, 89, 62]))) (zRet (mLst (mCons (mSl (m2 oAdd (mC (.str [48, 48, 48])) (m1 oStr (mVar 2))) (mP (m2 oSub (m1 oLen (m1 oStr (mVar 2))) (mC (.int 1)))) (mNoP)) (mNil)))) (SR.next)
def F_law_ways_2 : Ev → SR := zSeq (S_law_ways_2) F_law_ways_3
def S_law_ways_1 : Ev → SR := zIf (m2t oEq (mVar 0) (mC (.str [60, 121, 62]))) (zRet (mLst (mCons (m2 oAdd (m1 oStr (m2 oMod (m2 oDiv (mVar 2) (mC (.int 10))) (mC (.int 10)))) (m1 oStr (m2 oMod (mVar 2) (mC (.int 10))))) (mNil)))) (SR.next)
def F_law_ways_1 : Ev → SR := zSeq (S_law_ways_1) F_law_ways_2
def S_law_ways_0 : Ev → SR := zAsg (bTup 3 (bsCons (bN 2) (bsCons (bN 3) (bsCons (bN 4) (bsNil))))) (mVar 1)
def F_law_ways : Ev → SR := zSeq (S_law_ways_0) F_law_ways_1
def m_law_ways (ds : List D) : R D := finR (F_law_ways (startE 6 ds))
theorem s_law_ways : FnScope [("_law_token" : Str), ("_law_when" : Str), ("_law_year" : Str), ("_law_month_here" : Str), ("_law_day" : Str), ("_law_number_here" : Str)] [("_law_token" : Str), ("_law_when" : Str)] (defScope (top 47)) := ⟨rfl, rfl, rfl, by decide +kernel, rfl, by decide +kernel, by decide +kernel⟩
theorem d_law_ways {κ : Nat → Addr} {X : Cx} {B : Gd} (cx : Cxo X) (hcalm : X.calm = true) (hN : X.N = [("_law_token" : Str), ("_law_when" : Str), ("_law_year" : Str), ("_law_month_here" : Str), ("_law_day" : Str), ("_law_number_here" : Str)]) (hsc : X.env.scope = defScope (top 47)) (hfn : ∀ y, X.fn y = true) (hu : X.A.units + 64 < cLine) (b_int : X.mg ("int" : Str) = none) (b_len : X.mg ("len" : Str) = none) (b_str : X.mg ("str" : Str) = none) : QZs κ B X (defBody (top 47)) F_law_ways := by
  have hnd : X.N.Nodup := by rw [hN]; decide +kernel
  have V0 : VP X 0 ("_law_token" : Str) := vpl cx hnd hfn hN hsc rfl rfl (by decide) (by decide)
  have V1 : VP X 1 ("_law_when" : Str) := vpl cx hnd hfn hN hsc rfl rfl (by decide) (by decide)
  have V2 : VP X 2 ("_law_year" : Str) := vpl cx hnd hfn hN hsc rfl rfl (by decide) (by decide)
  have V3 : VP X 3 ("_law_month_here" : Str) := vpl cx hnd hfn hN hsc rfl rfl (by decide) (by decide)
  have V4 : VP X 4 ("_law_day" : Str) := vpl cx hnd hfn hN hsc rfl rfl (by decide) (by decide)
  have V5 : VP X 5 ("_law_number_here" : Str) := vpl cx hnd hfn hN hsc rfl rfl (by decide) (by decide)
  have hg_int : Gl X ("int" : Str) := by show X.env.scope.names.lookup ("int" : Str) = _; rw [hsc]; rfl
  have hg_len : Gl X ("len" : Str) := by show X.env.scope.names.lookup ("len" : Str) = _; rw [hsc]; rfl
  have hg_str : Gl X ("str" : Str) := by show X.env.scope.names.lookup ("str" : Str) = _; rw [hsc]; rfl
  refine qpzs_cons (F1 := S_law_ways_0) (F2 := F_law_ways_1) ?_ ?_
  · exact qy_asg cx (V1.v) (qy_tup hcalm (qy_cons (V2.t) (qy_cons (V3.t) (qy_cons (V4.t) (qpgzs_nil) rfl) rfl) rfl) rfl rfl) rfl rfl rfl
  refine qpzs_cons (F1 := S_law_ways_1) (F2 := F_law_ways_2) ?_ ?_
  · exact qpz_if cx (qpxt_eq hu ((V0.v).read) ((qpx_str (l := [60, 121, 62]) (by decide +kernel)).read) (mark_no rfl)) (qpzs_one (qpz_ret cx (qpx_lst (qys_cons (qpx_add ((qy_str hg_str b_str ((qpx_mod ((qpx_div ((V2.v).read) ((qpx_int).read)).read) ((qpx_int).read)).read) rfl).read) ((qy_str hg_str b_str ((qpx_mod ((V2.v).read) ((qpx_int).read)).read) rfl).read)) (qpxs_nil) rfl)))) (qpzs_nil)
  refine qpzs_cons (F1 := S_law_ways_2) (F2 := F_law_ways_3) ?_ ?_
  · exact qpz_if cx (qpxt_eq hu ((V0.v).read) ((qpx_str (l := [60, 89, 62]) (by decide +kernel)).read) (mark_no rfl)) (qpzs_one (qpz_ret cx (qpx_lst (qys_cons (qy_sl ((qpx_add ((qpx_str (l := [48, 48, 48]) (by decide +kernel)).read) ((qy_str hg_str b_str ((V2.v).read) rfl).read)).read) (qpxo_some (qpx_sub ((qy_len hg_len b_len ((qy_str hg_str b_str ((V2.v).read) rfl).read) rfl).read) ((qpx_int).read))) (qpxo_none)) (qpxs_nil) rfl)))) (qpzs_nil)
  refine qpzs_cons (F1 := S_law_ways_3) (F2 := F_law_ways_4) ?_ ?_
  · exact V5.s (qy_ix ((qpx_lst (qys_cons (V4.v) (qys_cons (V3.v) (qpxs_nil) rfl) rfl)).read) ((qy_toint hg_int b_int (qys_cons (qpx_eq hu ((V0.v).read) ((qpx_str (l := [60, 109, 62]) (by decide +kernel)).read) (mark_no rfl)) (qpxs_nil) rfl) rfl).read) rfl) rfl
  exact qpzs_one (qpz_ret cx (qy_sl ((qpx_lst (qys_cons (qy_str hg_str b_str ((V5.v).read) rfl) (qys_cons (qpx_add ((qpx_str (l := [48]) (by decide +kernel)).read) ((qy_str hg_str b_str ((V5.v).read) rfl).read)) (qpxs_nil) rfl) rfl)).read) (qpxo_none) (qpxo_some (qpx_add ((qpx_int).read) ((qy_toint hg_int b_int (qys_cons (qpx_lt ((V5.v).read) ((qpx_int).read) (mark_no rfl)) (qpxs_nil) rfl) rfl).read)))))
def L_law_draws_1 : Ev → SR := zIf (mT (mVar 1)) (zSeq (zSet 5 (m2 oMod (m2 oAdd (m2 oAdd (m2 oMul (mVar 5) (mC (.int 48271))) (m2 oMul (mC (.int 7919)) (mVar 6))) (mC (.int 11))) (mC (.int 2147483647)))) (zApp 4 (m2 oMod (m2 oMod (m2 oMul (mVar 5) (mC (.int 16807))) (mC (.int 2147483629))) (mVar 3)))) (zSeq (zApp 4 (m2 oMod (mVar 5) (mVar 3))) (zSet 5 (m2 oDiv (mVar 5) (mVar 3))))
def S_law_draws_3 : Ev → SR := zRet (mVar 4)
def F_law_draws_3 : Ev → SR := fun δ => (S_law_draws_3) (frzE 4 δ)
def S_law_draws_2 : Ev → SR := zFor (fun δ => ((mCons (mVar 2) (mNil)) δ).bind iR1) (bN 6) (L_law_draws_1)
def F_law_draws_2 : Ev → SR := zSeq (S_law_draws_2) F_law_draws_3
def S_law_draws_1 : Ev → SR := zSet 5 (mVar 0)
def F_law_draws_1 : Ev → SR := zSeq (S_law_draws_1) F_law_draws_2
def S_law_draws_0 : Ev → SR := zOwn 4 (fun δ => lim ((mNil) δ))
def F_law_draws : Ev → SR := zSeq (S_law_draws_0) F_law_draws_1
def m_law_draws (ds : List D) : R D := finR (F_law_draws (startE 7 ds))
theorem s_law_draws : FnScope [("_law_cell" : Str), ("_law_mixed" : Str), ("_law_many" : Str), ("_law_most" : Str), ("_law_made" : Str), ("_law_rest" : Str), ("_law_k" : Str)] [("_law_cell" : Str), ("_law_mixed" : Str), ("_law_many" : Str), ("_law_most" : Str)] (defScope (top 42)) := ⟨rfl, rfl, rfl, by decide +kernel, rfl, by decide +kernel, by decide +kernel⟩
theorem d_law_draws {κ : Nat → Addr} {X : Cx} {B : Gd} (cx : Cxo X) (hcalm : X.calm = true) (hN : X.N = [("_law_cell" : Str), ("_law_mixed" : Str), ("_law_many" : Str), ("_law_most" : Str), ("_law_made" : Str), ("_law_rest" : Str), ("_law_k" : Str)]) (hsc : X.env.scope = defScope (top 42)) (hfn : ∀ y, X.fn y = true) (hu : X.A.units + 64 < cLine) (b_range : X.mg ("range" : Str) = none) : QZs κ B X (defBody (top 42)) F_law_draws := by
  have hnd : X.N.Nodup := by rw [hN]; decide +kernel
  have V0 : VP X 0 ("_law_cell" : Str) := vpl cx hnd hfn hN hsc rfl rfl (by decide) (by decide)
  have V1 : VP X 1 ("_law_mixed" : Str) := vpl cx hnd hfn hN hsc rfl rfl (by decide) (by decide)
  have V2 : VP X 2 ("_law_many" : Str) := vpl cx hnd hfn hN hsc rfl rfl (by decide) (by decide)
  have V3 : VP X 3 ("_law_most" : Str) := vpl cx hnd hfn hN hsc rfl rfl (by decide) (by decide)
  have V4 : VP X 4 ("_law_made" : Str) := vpl cx hnd hfn hN hsc rfl rfl (by decide) (by decide)
  have V5 : VP X 5 ("_law_rest" : Str) := vpl cx hnd hfn hN hsc rfl rfl (by decide) (by decide)
  have V6 : VP X 6 ("_law_k" : Str) := vpl cx hnd hfn hN hsc rfl rfl (by decide) (by decide)
  have hg_range : Gl X ("range" : Str) := by show X.env.scope.names.lookup ("range" : Str) = _; rw [hsc]; rfl
  refine qpzs_cons (F1 := S_law_draws_0) (F2 := F_law_draws_1) ?_ ?_
  · exact V4.w (qpxf_lst (qpxs_nil)) rfl
  refine qpzs_cons (F1 := S_law_draws_1) (F2 := F_law_draws_2) ?_ ?_
  · exact V5.s (V0.v) rfl
  refine qpzs_cons (F1 := S_law_draws_2) (F2 := F_law_draws_3) ?_ ?_
  · exact qy_for cx hcalm (qyi_range1 hg_range b_range (qys_cons (V2.v) (qpxs_nil) rfl) rfl) (fun B => V6.t) (fun B => qpzs_one (qpz_if cx (qyt_val ((V1.v).read) rfl) (qpzs_cons (V5.s (qpx_mod ((qpx_add ((qpx_add ((qpx_mulI ((V5.v).read) ((qpx_int).read)).read) ((qpx_mulI ((qpx_int).read) ((V6.v).read)).read)).read) ((qpx_int).read)).read) ((qpx_int).read)) rfl) (qpzs_one (V4.a (qpx_mod ((qpx_mod ((qpx_mulI ((V5.v).read) ((qpx_int).read)).read) ((qpx_int).read)).read) ((V3.v).read)) rfl rfl))) (qpzs_cons (V4.a (qpx_mod ((V5.v).read) ((V3.v).read)) rfl rfl) (qpzs_one (V5.s (qpx_div ((V5.v).read) ((V3.v).read)) rfl))))) rfl
  refine qpzs_frz 4 (F := _) ?_
  exact qpzs_one (qpz_ret cx (V4.v))
def S_law_text_7 : Ev → SR := zRet (mBS oJoin (mC (.str [])) (mCons (mL (mComp (fun δ => ((mCall m_law_draws (mCons (mVar 2) (mCons (m2 (op2 oEq) (m2 oMod (mVar 2) (mC (.int 3))) (mC (.int 0))) (mCons (m2 oAdd (mC (.int 1)) (m2 oMod (mVar 2) (mC (.int 4)))) (mCons (mC (.int 10)) (mNil)))))) δ).bind itemsD) (fun _ => .ok true) (m1 oStr (mVar 4)))) (mNil)))
def F_law_text_7 : Ev → SR := S_law_text_7
def S_law_text_6 : Ev → SR := zIf (m2t oEq (mVar 1) (mC (.int 5))) (zRet (m2 oAdd (mVar 0) (m2 oIx (mLst (fun _ => .ok [D.str [97], D.str [46], D.str [32], D.str [45]])) (m2 oMod (mVar 2) (mC (.int 4)))))) (SR.next)
def F_law_text_6 : Ev → SR := zSeq (S_law_text_6) F_law_text_7
def S_law_text_5 : Ev → SR := zIf (m2t oEq (mVar 1) (mC (.int 4))) (zRet (m2 oIx (mVar 3) (m2 oMod (mVar 2) (mC (.int 13))))) (SR.next)
def F_law_text_5 : Ev → SR := zSeq (S_law_text_5) F_law_text_6
def S_law_text_4 : Ev → SR := zIf (m2t oEq (mVar 1) (mC (.int 3))) (zRet (m2 oAdd (mVar 0) (m2 oIx (mC (.str [48, 49, 50, 51, 52, 53, 54, 55, 56, 57])) (m2 oMod (mVar 2) (mC (.int 10)))))) (SR.next)
def F_law_text_4 : Ev → SR := zSeq (S_law_text_4) F_law_text_5
def S_law_text_3 : Ev → SR := zIf (m2t oEq (mVar 1) (mC (.int 2))) (zRet (mSl (m2 oAdd (mVar 0) (mVar 0)) (mP (mC (.int 1))) (mP (m2 oSub (m2 oAdd (m1 oLen (mVar 0)) (mC (.int 1))) (m2 oMod (mVar 2) (mC (.int 2))))))) (SR.next)
def F_law_text_3 : Ev → SR := zSeq (S_law_text_3) F_law_text_4
def S_law_text_2 : Ev → SR := zIf (m2t oEq (mVar 1) (mC (.int 1))) (zRet (m2 oAdd (mC (.str [48])) (mVar 0))) (SR.next)
def F_law_text_2 : Ev → SR := zSeq (S_law_text_2) F_law_text_3
def S_law_text_1 : Ev → SR := zIf (m2t oEq (mVar 1) (mC (.int 0))) (zRet (mVar 0)) (SR.next)
def F_law_text_1 : Ev → SR := zSeq (S_law_text_1) F_law_text_2
def S_law_text_0 : Ev → SR := zSet 3 (mLst (fun _ => .ok [D.str [48], D.str [48, 48], D.str [49], D.str [48, 49], D.str [57], D.str [48, 57], D.str [49, 48], D.str [49, 50], D.str [51, 49], D.str [51, 50], D.str [57, 57], D.str [49, 48, 48], D.str [48, 48, 48, 49]]))
def F_law_text : Ev → SR := zSeq (S_law_text_0) F_law_text_1
def m_law_text (ds : List D) : R D := finR (F_law_text (startE 4 ds))
theorem s_law_text : FnScope [("_law_way" : Str), ("_law_pick" : Str), ("_law_more" : Str), ("_law_fixed" : Str)] [("_law_way" : Str), ("_law_pick" : Str), ("_law_more" : Str)] (defScope (top 48)) := ⟨rfl, rfl, rfl, by decide +kernel, rfl, by decide +kernel, by decide +kernel⟩
theorem d_law_text {κ : Nat → Addr} {X : Cx} {B : Gd} (cx : Cxo X) (hcalm : X.calm = true) (hN : X.N = [("_law_way" : Str), ("_law_pick" : Str), ("_law_more" : Str), ("_law_fixed" : Str)]) (hsc : X.env.scope = defScope (top 48)) (hfn : ∀ y, X.fn y = true) (hu : X.A.units + 64 < cLine) (k_law_draws : Cal κ X ("_law_draws" : Str) 4 m_law_draws) (b_len : X.mg ("len" : Str) = none) (b_str : X.mg ("str" : Str) = none) : QZs κ B X (defBody (top 48)) F_law_text := by
  have hnd : X.N.Nodup := by rw [hN]; decide +kernel
  have V0 : VP X 0 ("_law_way" : Str) := vpl cx hnd hfn hN hsc rfl rfl (by decide) (by decide)
  have V1 : VP X 1 ("_law_pick" : Str) := vpl cx hnd hfn hN hsc rfl rfl (by decide) (by decide)
  have V2 : VP X 2 ("_law_more" : Str) := vpl cx hnd hfn hN hsc rfl rfl (by decide) (by decide)
  have V3 : VP X 3 ("_law_fixed" : Str) := vpl cx hnd hfn hN hsc rfl rfl (by decide) (by decide)
  have hg_law_draws : Gl X ("_law_draws" : Str) := by show X.env.scope.names.lookup ("_law_draws" : Str) = _; rw [hsc]; rfl
  have hg_len : Gl X ("len" : Str) := by show X.env.scope.names.lookup ("len" : Str) = _; rw [hsc]; rfl
  refine qpzs_cons (F1 := S_law_text_0) (F2 := F_law_text_1) ?_ ?_
  · exact V3.s (qpx_lst (qys_consts (ds := [D.str [48], D.str [48, 48], D.str [49], D.str [48, 49], D.str [57], D.str [48, 57], D.str [49, 48], D.str [49, 50], D.str [51, 49], D.str [51, 50], D.str [57, 57], D.str [49, 48, 48], D.str [48, 48, 48, 49]]) (by rfl))) rfl
  refine qpzs_cons (F1 := S_law_text_1) (F2 := F_law_text_2) ?_ ?_
  · exact qpz_if cx (qpxt_eq hu ((V1.v).read) ((qpx_int).read) (mark_no rfl)) (qpzs_one (qpz_ret cx (V0.v))) (qpzs_nil)
  refine qpzs_cons (F1 := S_law_text_2) (F2 := F_law_text_3) ?_ ?_
  · exact qpz_if cx (qpxt_eq hu ((V1.v).read) ((qpx_int).read) (mark_no rfl)) (qpzs_one (qpz_ret cx (qpx_add ((qpx_str (l := [48]) (by decide +kernel)).read) ((V0.v).read)))) (qpzs_nil)
  refine qpzs_cons (F1 := S_law_text_3) (F2 := F_law_text_4) ?_ ?_
  · exact qpz_if cx (qpxt_eq hu ((V1.v).read) ((qpx_int).read) (mark_no rfl)) (qpzs_one (qpz_ret cx (qy_sl ((qpx_add ((V0.v).read) ((V0.v).read)).read) (qpxo_some (qpx_int)) (qpxo_some (qpx_sub ((qpx_add ((qy_len hg_len b_len ((V0.v).read) rfl).read) ((qpx_int).read)).read) ((qpx_mod ((V2.v).read) ((qpx_int).read)).read)))))) (qpzs_nil)
  refine qpzs_cons (F1 := S_law_text_4) (F2 := F_law_text_5) ?_ ?_
  · exact qpz_if cx (qpxt_eq hu ((V1.v).read) ((qpx_int).read) (mark_no rfl)) (qpzs_one (qpz_ret cx (qpx_add ((V0.v).read) ((qy_ix ((qpx_str (l := [48, 49, 50, 51, 52, 53, 54, 55, 56, 57]) (by decide +kernel)).read) ((qpx_mod ((V2.v).read) ((qpx_int).read)).read) rfl).read)))) (qpzs_nil)
  refine qpzs_cons (F1 := S_law_text_5) (F2 := F_law_text_6) ?_ ?_
  · exact qpz_if cx (qpxt_eq hu ((V1.v).read) ((qpx_int).read) (mark_no rfl)) (qpzs_one (qpz_ret cx (qy_ix ((V3.v).read) ((qpx_mod ((V2.v).read) ((qpx_int).read)).read) rfl))) (qpzs_nil)
  refine qpzs_cons (F1 := S_law_text_6) (F2 := F_law_text_7) ?_ ?_
  · exact qpz_if cx (qpxt_eq hu ((V1.v).read) ((qpx_int).read) (mark_no rfl)) (qpzs_one (qpz_ret cx (qpx_add ((V0.v).read) ((qy_ix ((qpx_lst (qys_consts (ds := [D.str [97], D.str [46], D.str [32], D.str [45]]) (by rfl))).read) ((qpx_mod ((V2.v).read) ((qpx_int).read)).read) rfl).read)))) (qpzs_nil)
  exact qpzs_one (qpz_ret cx (qy_join ((qpx_str (l := []) (by decide +kernel)).read) (qys_cons ((qcomp_by hcalm ⟨by decide +kernel, rfl, by decide +kernel, rfl, by rw [hN]; decide +kernel, by rw [hsc]; decide +kernel, hnd⟩ (qpicz_seq (qy_call cx k_law_draws rfl hg_law_draws (qys_cons (V2.v) (qys_cons (qpx_eq hu ((qpx_mod ((V2.v).read) ((qpx_int).read)).read) ((qpx_int).read) (mark_no rfl)) (qys_cons (qpx_add ((qpx_int).read) ((qpx_mod ((V2.v).read) ((qpx_int).read)).read)) (qys_cons (qpx_int) (qpxs_nil) rfl) rfl) rfl) rfl) (by decide) rfl (mlen_cons (mlen_cons (mlen_cons (mlen_cons (mlen_nil))))))) (fun X' B' hC => by (have cx : Cxo X' := hC.cxo); (have hcalm : X'.calm = true := hC.calm.trans hcalm); (have hu : X'.A.units + 64 < cLine := by rw [hC.A]; exact hu); exact qpts_nil) (fun X' B' hC => by (have cx : Cxo X' := hC.cxo); (have hcalm : X'.calm = true := hC.calm.trans hcalm); (have hu : X'.A.units + 64 < cLine := by rw [hC.A]; exact hu); (have z4 : ∀ {B : Gd} {pos : Pos}, QX κ B X' (.Name ("_law_figure" : Str) pos) (mVar 4) := qpx_var 4 (hC.x (by rw [hN]; rfl)) (.inl (hC.look rfl (by decide))) (by decide) (by decide)); (have hg_str : Gl X' ("str" : Str) := hC.look rfl (by decide)); (have b_str : X'.mg ("str" : Str) = none := by rw [hC.mg]; exact b_str); exact qy_str hg_str b_str ((z4).read) rfl) rfl).px) (qpxs_nil) rfl) rfl rfl rfl))
def F_split_into_parts_1 : Ev → SR := zRet (mVar 1)
def F_split_into_parts : Ev → SR := zSeq (zGrp 0 1 2 3 (mOr (m2t oEq (mVar 2) (mC (.int 0))) (m2t oNe (m2 oIx (mVar 3) (mC (.int 2))) (m2 oIx (m2 oIx (mVar 0) (m2 oSub (mVar 2) (mC (.int 1)))) (mC (.int 2)))))) F_split_into_parts_1
def m_split_into_parts (ds : List D) : R D := finR (F_split_into_parts (startE 4 ds))
theorem s_split_into_parts : FnScope [("pieces" : Str), ("parts" : Str), ("k" : Str), ("piece" : Str)] [("pieces" : Str)] (defScope (top 31)) := ⟨rfl, rfl, rfl, by decide +kernel, rfl, by decide +kernel, by decide +kernel⟩
theorem d_split_into_parts {κ : Nat → Addr} {X : Cx} {B : Gd} (cx : Cxo X) (hcalm : X.calm = true) (hN : X.N = [("pieces" : Str), ("parts" : Str), ("k" : Str), ("piece" : Str)]) (hsc : X.env.scope = defScope (top 31)) (hfn : ∀ y, X.fn y = true) (hu : X.A.units + 64 < cLine) (b_enumerate : X.mg ("enumerate" : Str) = none) : QZs κ B X (defBody (top 31)) F_split_into_parts := by
  have hnd : X.N.Nodup := by rw [hN]; decide +kernel
  have V0 : VP X 0 ("pieces" : Str) := vpl cx hnd hfn hN hsc rfl rfl (by decide) (by decide)
  have V1 : VP X 1 ("parts" : Str) := vpl cx hnd hfn hN hsc rfl rfl (by decide) (by decide)
  have V2 : VP X 2 ("k" : Str) := vpl cx hnd hfn hN hsc rfl rfl (by decide) (by decide)
  have V3 : VP X 3 ("piece" : Str) := vpl cx hnd hfn hN hsc rfl rfl (by decide) (by decide)
  have hg_enumerate : Gl X ("enumerate" : Str) := by show X.env.scope.names.lookup ("enumerate" : Str) = _; rw [hsc]; rfl
  refine qpzs_groups cx hcalm hnd hfn hg_enumerate b_enumerate V0.n V0.vi (by decide) (by decide) V1.n V1.l V1.vi (by decide) (by decide) V2.n V2.l V3.n V3.l V3.vi (by decide) (by decide) (by decide) (by decide) (by decide) (by decide) (by decide) (by decide) ((qpxw_or (qpxt_eq hu ((V2.v).read) ((qpx_int).read) (mark_no rfl)) (qpxw_or1 (qpxt_ne hu ((qy_ix ((V3.v).read) ((qpx_int).read) rfl).read) ((qy_ix ((qy_ix ((V0.v).read) ((qpx_sub ((V2.v).read) ((qpx_int).read)).read) rfl).read) ((qpx_int).read) rfl).read) (mark_no rfl)))).t) rfl rfl rfl rfl rfl rfl rfl rfl rfl rfl rfl rfl  (F := F_split_into_parts_1) ?_
  exact qpzs_one (qpz_ret cx (V1.v))
def S_token_at_4 : Ev → SR := SR.exc 3
def F_token_at_4 : Ev → SR := S_token_at_4
def S_token_at_3 : Ev → SR := zIf (mOr (m2t oIn (mVar 3) (mC c_PLAIN_SIGNS)) (m2t oIn (mVar 3) (mC (.str [91, 93])))) (zRet (mVar 3)) (SR.next)
def F_token_at_3 : Ev → SR := zSeq (S_token_at_3) F_token_at_4
def S_token_at_2 : Ev → SR := zSet 3 (m2 oIx (mVar 0) (mVar 1))
def F_token_at_2 : Ev → SR := zSeq (S_token_at_2) F_token_at_3
def S_token_at_1 : Ev → SR := zIf (m2t oIn (mVar 2) (mC c_PLACES)) (zRet (mVar 2)) (SR.next)
def F_token_at_1 : Ev → SR := zSeq (S_token_at_1) F_token_at_2
def S_token_at_0 : Ev → SR := zSet 2 (mSl (mVar 0) (mP (mVar 1)) (mP (m2 oAdd (mVar 1) (mC (.int 3)))))
def F_token_at : Ev → SR := zSeq (S_token_at_0) F_token_at_1
def m_token_at (ds : List D) : R D := finR (F_token_at (startE 4 ds))
theorem s_token_at : FnScope [("form" : Str), ("start" : Str), ("place" : Str), ("sign" : Str)] [("form" : Str), ("start" : Str)] (defScope (top 23)) := ⟨rfl, rfl, rfl, by decide +kernel, rfl, by decide +kernel, by decide +kernel⟩
theorem d_token_at {κ : Nat → Addr} {X : Cx} {B : Gd} (cx : Cxo X) (hcalm : X.calm = true) (hN : X.N = [("form" : Str), ("start" : Str), ("place" : Str), ("sign" : Str)]) (hsc : X.env.scope = defScope (top 23)) (hfn : ∀ y, X.fn y = true) (hu : X.A.units + 64 < cLine) (c_PLACES' : ∃ u v, X.mg ("PLACES" : Str) = some u ∧ RelV v u ∧ ∀ G, Den ⟨X.K, κ⟩ G v c_PLACES) (c_PLAIN_SIGNS' : ∃ u v, X.mg ("PLAIN_SIGNS" : Str) = some u ∧ RelV v u ∧ ∀ G, Den ⟨X.K, κ⟩ G v c_PLAIN_SIGNS) (x_BadForm : ExcAt κ X ("BadForm" : Str) 3) : QZs κ B X (defBody (top 23)) F_token_at := by
  have hnd : X.N.Nodup := by rw [hN]; decide +kernel
  have V0 : VP X 0 ("form" : Str) := vpl cx hnd hfn hN hsc rfl rfl (by decide) (by decide)
  have V1 : VP X 1 ("start" : Str) := vpl cx hnd hfn hN hsc rfl rfl (by decide) (by decide)
  have V2 : VP X 2 ("place" : Str) := vpl cx hnd hfn hN hsc rfl rfl (by decide) (by decide)
  have V3 : VP X 3 ("sign" : Str) := vpl cx hnd hfn hN hsc rfl rfl (by decide) (by decide)
  have hg_PLACES : Gl X ("PLACES" : Str) := by show X.env.scope.names.lookup ("PLACES" : Str) = _; rw [hsc]; rfl
  have hg_PLAIN_SIGNS : Gl X ("PLAIN_SIGNS" : Str) := by show X.env.scope.names.lookup ("PLAIN_SIGNS" : Str) = _; rw [hsc]; rfl
  have hg_BadForm : Gl X ("BadForm" : Str) := by show X.env.scope.names.lookup ("BadForm" : Str) = _; rw [hsc]; rfl
  have g_PLACES : ∀ {B : Gd} {pos : Pos}, QX κ B X (.Name ("PLACES" : Str) pos) (mC c_PLACES) := let ⟨_, _, h1, h2, h3⟩ := c_PLACES'; qpx_glob hg_PLACES h1 h2 h3 (by decide)
  have g_PLAIN_SIGNS : ∀ {B : Gd} {pos : Pos}, QX κ B X (.Name ("PLAIN_SIGNS" : Str) pos) (mC c_PLAIN_SIGNS) := let ⟨_, _, h1, h2, h3⟩ := c_PLAIN_SIGNS'; qpx_glob hg_PLAIN_SIGNS h1 h2 h3 (by decide)
  refine qpzs_cons (F1 := S_token_at_0) (F2 := F_token_at_1) ?_ ?_
  · exact V2.s (qy_sl ((V0.v).read) (qpxo_some (V1.v)) (qpxo_some (qpx_add ((V1.v).read) ((qpx_int).read)))) rfl
  refine qpzs_cons (F1 := S_token_at_1) (F2 := F_token_at_2) ?_ ?_
  · exact qpz_if cx (qpxt_in hu ((V2.v).read) ((g_PLACES).read) (mark_no rfl)) (qpzs_one (qpz_ret cx (V2.v))) (qpzs_nil)
  refine qpzs_cons (F1 := S_token_at_2) (F2 := F_token_at_3) ?_ ?_
  · exact V3.s (qy_ix ((V0.v).read) ((V1.v).read) rfl) rfl
  refine qpzs_cons (F1 := S_token_at_3) (F2 := F_token_at_4) ?_ ?_
  · exact qpz_if cx ((qpxw_or (qpxt_in hu ((V3.v).read) ((g_PLAIN_SIGNS).read) (mark_no rfl)) (qpxw_or1 (qpxt_in hu ((V3.v).read) ((qpx_str (l := [91, 93]) (by decide +kernel)).read) (mark_no rfl)))).t) (qpzs_one (qpz_ret cx (V3.v))) (qpzs_nil)
  exact qpzs_one (qpz_raise cx hcalm x_BadForm hg_BadForm (by decide))
def L_cut_into_tokens_1 : Ev → SR := zSeq (zSet 3 (mCall m_token_at (mCons (mVar 0) (mCons (mVar 2) (mNil))))) (zSeq (zApp 1 (mVar 3)) (zAug 2 (fun i j => i + j) (m1 oLen (mVar 3))))
def S_cut_into_tokens_3 : Ev → SR := zRet (mVar 1)
def F_cut_into_tokens_3 : Ev → SR := fun δ => (S_cut_into_tokens_3) (frzE 1 δ)
def S_cut_into_tokens_2 : Ev → SR := whileZ (m2t oLt (mVar 2) (m1 oLen (mVar 0))) (L_cut_into_tokens_1) 40
def F_cut_into_tokens_2 : Ev → SR := zSeq (S_cut_into_tokens_2) F_cut_into_tokens_3
def S_cut_into_tokens_1 : Ev → SR := zSet 2 (mC (.int 0))
def F_cut_into_tokens_1 : Ev → SR := zSeq (S_cut_into_tokens_1) F_cut_into_tokens_2
def S_cut_into_tokens_0 : Ev → SR := zOwn 1 (fun δ => lim ((mNil) δ))
def F_cut_into_tokens : Ev → SR := zSeq (S_cut_into_tokens_0) F_cut_into_tokens_1
def m_cut_into_tokens (ds : List D) : R D := finR (F_cut_into_tokens (startE 4 ds))
theorem s_cut_into_tokens : FnScope [("form" : Str), ("tokens" : Str), ("start" : Str), ("token" : Str)] [("form" : Str)] (defScope (top 24)) := ⟨rfl, rfl, rfl, by decide +kernel, rfl, by decide +kernel, by decide +kernel⟩
theorem d_cut_into_tokens {κ : Nat → Addr} {X : Cx} {B : Gd} (cx : Cxo X) (hcalm : X.calm = true) (hN : X.N = [("form" : Str), ("tokens" : Str), ("start" : Str), ("token" : Str)]) (hsc : X.env.scope = defScope (top 24)) (hfn : ∀ y, X.fn y = true) (hu : X.A.units + 64 < cLine) (k_token_at : Cal κ X ("token_at" : Str) 2 m_token_at) (b_len : X.mg ("len" : Str) = none) : QZs κ B X (defBody (top 24)) F_cut_into_tokens := by
  have hnd : X.N.Nodup := by rw [hN]; decide +kernel
  have V0 : VP X 0 ("form" : Str) := vpl cx hnd hfn hN hsc rfl rfl (by decide) (by decide)
  have V1 : VP X 1 ("tokens" : Str) := vpl cx hnd hfn hN hsc rfl rfl (by decide) (by decide)
  have V2 : VP X 2 ("start" : Str) := vpl cx hnd hfn hN hsc rfl rfl (by decide) (by decide)
  have V3 : VP X 3 ("token" : Str) := vpl cx hnd hfn hN hsc rfl rfl (by decide) (by decide)
  have hg_token_at : Gl X ("token_at" : Str) := by show X.env.scope.names.lookup ("token_at" : Str) = _; rw [hsc]; rfl
  have hg_len : Gl X ("len" : Str) := by show X.env.scope.names.lookup ("len" : Str) = _; rw [hsc]; rfl
  refine qpzs_cons (F1 := S_cut_into_tokens_0) (F2 := F_cut_into_tokens_1) ?_ ?_
  · exact V1.w (qpxf_lst (qpxs_nil)) rfl
  refine qpzs_cons (F1 := S_cut_into_tokens_1) (F2 := F_cut_into_tokens_2) ?_ ?_
  · exact V2.s (qpx_int) rfl
  refine qpzs_cons (F1 := S_cut_into_tokens_2) (F2 := F_cut_into_tokens_3) ?_ ?_
  · exact qpz_while cx 40 (qpxt_lt ((V2.v).read) ((qy_len hg_len b_len ((V0.v).read) rfl).read) (mark_no rfl)) (qpzs_cons (V3.s (qy_call cx k_token_at rfl hg_token_at (qys_cons (V0.v) (qys_cons (V2.v) (qpxs_nil) rfl) rfl) (by decide) rfl (mlen_cons (mlen_cons (mlen_nil)))) rfl) (qpzs_cons (V1.a (V3.v) rfl rfl) (qpzs_one (V2.ua (qy_len hg_len b_len ((V3.v).read) rfl)))))
  refine qpzs_frz 1 (F := _) ?_
  exact qpzs_one (qpz_ret cx (V1.v))
def F_piece_of_1 : Ev → SR := zRet (mTup (mCons (mC (.str [115, 105, 103, 110])) (mCons (mVar 0) (mCons (mVar 1) (mNil)))))
def F_piece_of : Ev → SR := zSeq (zIf (m2t oIn (mVar 0) (mC c_PLACES)) (zRet (mTup (mCons (mC (.str [112, 108, 97, 99, 101])) (mCons (m2 oIx (mVar 0) (mC (.int 1))) (mCons (mVar 1) (mNil)))))) (SR.next)) F_piece_of_1
def m_piece_of (ds : List D) : R D := finR (F_piece_of (startE 2 ds))
theorem s_piece_of : FnScope [("token" : Str), ("part" : Str)] [("token" : Str), ("part" : Str)] (defScope (top 25)) := ⟨rfl, rfl, rfl, by decide +kernel, rfl, by decide +kernel, by decide +kernel⟩
theorem d_piece_of {κ : Nat → Addr} {X : Cx} {B : Gd} (cx : Cxo X) (hcalm : X.calm = true) (hN : X.N = [("token" : Str), ("part" : Str)]) (hsc : X.env.scope = defScope (top 25)) (hfn : ∀ y, X.fn y = true) (hu : X.A.units + 64 < cLine) (c_PLACES' : ∃ u v, X.mg ("PLACES" : Str) = some u ∧ RelV v u ∧ ∀ G, Den ⟨X.K, κ⟩ G v c_PLACES) : QZs κ B X (defBody (top 25)) F_piece_of := by
  have hnd : X.N.Nodup := by rw [hN]; decide +kernel
  have V0 : VP X 0 ("token" : Str) := vpl cx hnd hfn hN hsc rfl rfl (by decide) (by decide)
  have V1 : VP X 1 ("part" : Str) := vpl cx hnd hfn hN hsc rfl rfl (by decide) (by decide)
  have hg_PLACES : Gl X ("PLACES" : Str) := by show X.env.scope.names.lookup ("PLACES" : Str) = _; rw [hsc]; rfl
  have g_PLACES : ∀ {B : Gd} {pos : Pos}, QX κ B X (.Name ("PLACES" : Str) pos) (mC c_PLACES) := let ⟨_, _, h1, h2, h3⟩ := c_PLACES'; qpx_glob hg_PLACES h1 h2 h3 (by decide)
  refine qpzs_cons (F1 := zIf (m2t oIn (mVar 0) (mC c_PLACES)) (zRet (mTup (mCons (mC (.str [112, 108, 97, 99, 101])) (mCons (m2 oIx (mVar 0) (mC (.int 1))) (mCons (mVar 1) (mNil)))))) (SR.next)) (F2 := F_piece_of_1) ?_ ?_
  · exact qpz_if cx (qpxt_in hu ((V0.v).read) ((g_PLACES).read) (mark_no rfl)) (qpzs_one (qpz_ret cx (qpx_tup (qys_cons (qpx_str (l := [112, 108, 97, 99, 101]) (by decide +kernel)) (qys_cons (qy_ix ((V0.v).read) ((qpx_int).read) rfl) (qys_cons (V1.v) (qpxs_nil) rfl) rfl) rfl)))) (qpzs_nil)
  exact qpzs_one (qpz_ret cx (qpx_tup (qys_cons (qpx_str (l := [115, 105, 103, 110]) (by decide +kernel)) (qys_cons (V0.v) (qys_cons (V1.v) (qpxs_nil) rfl) rfl) rfl)))
def L_number_pieces_1 : Ev → SR := zIf (m2t oEq (mVar 5) (mC (.str [91]))) (zSeq (zIf (mT (mVar 3)) (SR.exc 3) (SR.next)) (zSeq (zSet 3 (mC (.bl true))) (zAug 2 (fun i j => i + j) (mC (.int 1))))) (zIf (m2t oEq (mVar 5) (mC (.str [93]))) (zSeq (zIf (mNot (mT (mVar 3))) (SR.exc 3) (SR.next)) (zSeq (zIf (m2t oEq (m2 oIx (mVar 0) (m2 oSub (mVar 4) (mC (.int 1)))) (mC (.str [91]))) (SR.exc 3) (SR.next)) (zSet 3 (mC (.bl false))))) (zApp 1 (mCall m_piece_of (mCons (mVar 5) (mCons (mIf (mT (mVar 3)) (mVar 2) (mC (.int 0))) (mNil))))))
def S_number_pieces_6 : Ev → SR := zRet (mVar 1)
def F_number_pieces_6 : Ev → SR := fun δ => (S_number_pieces_6) (frzE 1 δ)
def S_number_pieces_5 : Ev → SR := zIf (m2t oGt (mVar 2) (mC c_MOST_LACKING_PARTS)) (SR.exc 3) (SR.next)
def F_number_pieces_5 : Ev → SR := zSeq (S_number_pieces_5) F_number_pieces_6
def S_number_pieces_4 : Ev → SR := zIf (mT (mVar 3)) (SR.exc 3) (SR.next)
def F_number_pieces_4 : Ev → SR := zSeq (S_number_pieces_4) F_number_pieces_5
def S_number_pieces_3 : Ev → SR := zFor (fun δ => ((mVar 0) δ).bind enumD) (bTup 2 (bsCons (bN 4) (bsCons (bN 5) (bsNil)))) (L_number_pieces_1)
def F_number_pieces_3 : Ev → SR := zSeq (S_number_pieces_3) F_number_pieces_4
def S_number_pieces_2 : Ev → SR := zSet 3 (mC (.bl false))
def F_number_pieces_2 : Ev → SR := zSeq (S_number_pieces_2) F_number_pieces_3
def S_number_pieces_1 : Ev → SR := zSet 2 (mC (.int 0))
def F_number_pieces_1 : Ev → SR := zSeq (S_number_pieces_1) F_number_pieces_2
def S_number_pieces_0 : Ev → SR := zOwn 1 (fun δ => lim ((mNil) δ))
def F_number_pieces : Ev → SR := zSeq (S_number_pieces_0) F_number_pieces_1
def m_number_pieces (ds : List D) : R D := finR (F_number_pieces (startE 6 ds))
theorem s_number_pieces : FnScope [("tokens" : Str), ("pieces" : Str), ("parts" : Str), ("inside" : Str), ("k" : Str), ("token" : Str)] [("tokens" : Str)] (defScope (top 26)) := ⟨rfl, rfl, rfl, by decide +kernel, rfl, by decide +kernel, by decide +kernel⟩
theorem d_number_pieces {κ : Nat → Addr} {X : Cx} {B : Gd} (cx : Cxo X) (hcalm : X.calm = true) (hN : X.N = [("tokens" : Str), ("pieces" : Str), ("parts" : Str), ("inside" : Str), ("k" : Str), ("token" : Str)]) (hsc : X.env.scope = defScope (top 26)) (hfn : ∀ y, X.fn y = true) (hu : X.A.units + 64 < cLine) (k_piece_of : Cal κ X ("piece_of" : Str) 2 m_piece_of) (c_MOST_LACKING_PARTS' : ∃ u v, X.mg ("MOST_LACKING_PARTS" : Str) = some u ∧ RelV v u ∧ ∀ G, Den ⟨X.K, κ⟩ G v c_MOST_LACKING_PARTS) (b_enumerate : X.mg ("enumerate" : Str) = none) (x_BadForm : ExcAt κ X ("BadForm" : Str) 3) : QZs κ B X (defBody (top 26)) F_number_pieces := by
  have hnd : X.N.Nodup := by rw [hN]; decide +kernel
  have V0 : VP X 0 ("tokens" : Str) := vpl cx hnd hfn hN hsc rfl rfl (by decide) (by decide)
  have V1 : VP X 1 ("pieces" : Str) := vpl cx hnd hfn hN hsc rfl rfl (by decide) (by decide)
  have V2 : VP X 2 ("parts" : Str) := vpl cx hnd hfn hN hsc rfl rfl (by decide) (by decide)
  have V3 : VP X 3 ("inside" : Str) := vpl cx hnd hfn hN hsc rfl rfl (by decide) (by decide)
  have V4 : VP X 4 ("k" : Str) := vpl cx hnd hfn hN hsc rfl rfl (by decide) (by decide)
  have V5 : VP X 5 ("token" : Str) := vpl cx hnd hfn hN hsc rfl rfl (by decide) (by decide)
  have hg_piece_of : Gl X ("piece_of" : Str) := by show X.env.scope.names.lookup ("piece_of" : Str) = _; rw [hsc]; rfl
  have hg_MOST_LACKING_PARTS : Gl X ("MOST_LACKING_PARTS" : Str) := by show X.env.scope.names.lookup ("MOST_LACKING_PARTS" : Str) = _; rw [hsc]; rfl
  have hg_enumerate : Gl X ("enumerate" : Str) := by show X.env.scope.names.lookup ("enumerate" : Str) = _; rw [hsc]; rfl
  have hg_BadForm : Gl X ("BadForm" : Str) := by show X.env.scope.names.lookup ("BadForm" : Str) = _; rw [hsc]; rfl
  have g_MOST_LACKING_PARTS : ∀ {B : Gd} {pos : Pos}, QX κ B X (.Name ("MOST_LACKING_PARTS" : Str) pos) (mC c_MOST_LACKING_PARTS) := let ⟨_, _, h1, h2, h3⟩ := c_MOST_LACKING_PARTS'; qpx_glob hg_MOST_LACKING_PARTS h1 h2 h3 (by decide)
  refine qpzs_cons (F1 := S_number_pieces_0) (F2 := F_number_pieces_1) ?_ ?_
  · exact V1.w (qpxf_lst (qpxs_nil)) rfl
  refine qpzs_cons (F1 := S_number_pieces_1) (F2 := F_number_pieces_2) ?_ ?_
  · exact V2.s (qpx_int) rfl
  refine qpzs_cons (F1 := S_number_pieces_2) (F2 := F_number_pieces_3) ?_ ?_
  · exact V3.s (qpx_bl) rfl
  refine qpzs_cons (F1 := S_number_pieces_3) (F2 := F_number_pieces_4) ?_ ?_
  · exact qy_forG cx hcalm (qpig_enum hg_enumerate b_enumerate (V0.v) rfl) (fun B => qy_tup hcalm (qy_cons (V4.t) (qy_cons (V5.t) (qpgzs_nil) rfl) rfl) rfl rfl) (fun B => qpzs_one (qpz_if cx (qpxt_eq hu ((V5.v).read) ((qpx_str (l := [91]) (by decide +kernel)).read) (mark_no rfl)) (qpzs_cons (qpz_if cx (qyt_val ((V3.v).read) rfl) (qpzs_one (qpz_raise cx hcalm x_BadForm hg_BadForm (by decide))) (qpzs_nil)) (qpzs_cons (V3.s (qpx_bl) rfl) (qpzs_one (V2.ua (qpx_int))))) (qpzs_one (qpz_if cx (qpxt_eq hu ((V5.v).read) ((qpx_str (l := [93]) (by decide +kernel)).read) (mark_no rfl)) (qpzs_cons (qpz_if cx (qpxt_not (qyt_val ((V3.v).read) rfl)) (qpzs_one (qpz_raise cx hcalm x_BadForm hg_BadForm (by decide))) (qpzs_nil)) (qpzs_cons (qpz_if cx (qpxt_eq hu ((qy_ix ((V0.v).read) ((qpx_sub ((V4.v).read) ((qpx_int).read)).read) rfl).read) ((qpx_str (l := [91]) (by decide +kernel)).read) (mark_no rfl)) (qpzs_one (qpz_raise cx hcalm x_BadForm hg_BadForm (by decide))) (qpzs_nil)) (qpzs_one (V3.s (qpx_bl) rfl)))) (qpzs_one (V1.a (qy_call cx k_piece_of rfl hg_piece_of (qys_cons (V5.v) (qys_cons (qpx_if (qyt_val ((V3.v).read) rfl) (V2.v) (qpx_int)) (qpxs_nil) rfl) rfl) (by decide) rfl (mlen_cons (mlen_cons (mlen_nil)))) rfl rfl)))))) rfl
  refine qpzs_cons (F1 := S_number_pieces_4) (F2 := F_number_pieces_5) ?_ ?_
  · exact qpz_if cx (qyt_val ((V3.v).read) rfl) (qpzs_one (qpz_raise cx hcalm x_BadForm hg_BadForm (by decide))) (qpzs_nil)
  refine qpzs_cons (F1 := S_number_pieces_5) (F2 := F_number_pieces_6) ?_ ?_
  · exact qpz_if cx (qpxt_gt ((V2.v).read) ((g_MOST_LACKING_PARTS).read) (mark_no rfl)) (qpzs_one (qpz_raise cx hcalm x_BadForm hg_BadForm (by decide))) (qpzs_nil)
  refine qpzs_frz 1 (F := _) ?_
  exact qpzs_one (qpz_ret cx (V1.v))
def L_read_form_1 : Ev → SR := zIf (m2t oGt (mBL oCount (mVar 1) (mCons (mVar 2) (mNil))) (mC (.int 1))) (SR.exc 3) (SR.next)
def S_read_form_3 : Ev → SR := zRet (mCall m_number_pieces (mCons (mVar 1) (mNil)))
def F_read_form_3 : Ev → SR := S_read_form_3
def S_read_form_2 : Ev → SR := zFor (fun δ => ((mC c_PLACES) δ).bind itemsD) (bN 2) (L_read_form_1)
def F_read_form_2 : Ev → SR := zSeq (S_read_form_2) F_read_form_3
def S_read_form_1 : Ev → SR := zSet 1 (mCall m_cut_into_tokens (mCons (mVar 0) (mNil)))
def F_read_form_1 : Ev → SR := zSeq (S_read_form_1) F_read_form_2
def S_read_form_0 : Ev → SR := zIf (mOr (m2t oLt (m1 oLen (mVar 0)) (mC (.int 1))) (m2t oGt (m1 oLen (mVar 0)) (mC c_LONGEST_FORM))) (SR.exc 3) (SR.next)
def F_read_form : Ev → SR := zSeq (S_read_form_0) F_read_form_1
def m_read_form (ds : List D) : R D := finR (F_read_form (startE 3 ds))
theorem s_read_form : FnScope [("form" : Str), ("tokens" : Str), ("place" : Str)] [("form" : Str)] (defScope (top 27)) := ⟨rfl, rfl, rfl, by decide +kernel, rfl, by decide +kernel, by decide +kernel⟩
theorem d_read_form {κ : Nat → Addr} {X : Cx} {B : Gd} (cx : Cxo X) (hcalm : X.calm = true) (hN : X.N = [("form" : Str), ("tokens" : Str), ("place" : Str)]) (hsc : X.env.scope = defScope (top 27)) (hfn : ∀ y, X.fn y = true) (hu : X.A.units + 64 < cLine) (k_cut_into_tokens : Cal κ X ("cut_into_tokens" : Str) 1 m_cut_into_tokens) (k_number_pieces : Cal κ X ("number_pieces" : Str) 1 m_number_pieces) (c_LONGEST_FORM' : ∃ u v, X.mg ("LONGEST_FORM" : Str) = some u ∧ RelV v u ∧ ∀ G, Den ⟨X.K, κ⟩ G v c_LONGEST_FORM) (c_PLACES' : ∃ u v, X.mg ("PLACES" : Str) = some u ∧ RelV v u ∧ ∀ G, Den ⟨X.K, κ⟩ G v c_PLACES) (b_len : X.mg ("len" : Str) = none) (x_BadForm : ExcAt κ X ("BadForm" : Str) 3) : QZs κ B X (defBody (top 27)) F_read_form := by
  have hnd : X.N.Nodup := by rw [hN]; decide +kernel
  have V0 : VP X 0 ("form" : Str) := vpl cx hnd hfn hN hsc rfl rfl (by decide) (by decide)
  have V1 : VP X 1 ("tokens" : Str) := vpl cx hnd hfn hN hsc rfl rfl (by decide) (by decide)
  have V2 : VP X 2 ("place" : Str) := vpl cx hnd hfn hN hsc rfl rfl (by decide) (by decide)
  have hg_cut_into_tokens : Gl X ("cut_into_tokens" : Str) := by show X.env.scope.names.lookup ("cut_into_tokens" : Str) = _; rw [hsc]; rfl
  have hg_number_pieces : Gl X ("number_pieces" : Str) := by show X.env.scope.names.lookup ("number_pieces" : Str) = _; rw [hsc]; rfl
  have hg_LONGEST_FORM : Gl X ("LONGEST_FORM" : Str) := by show X.env.scope.names.lookup ("LONGEST_FORM" : Str) = _; rw [hsc]; rfl
  have hg_PLACES : Gl X ("PLACES" : Str) := by show X.env.scope.names.lookup ("PLACES" : Str) = _; rw [hsc]; rfl
  have hg_len : Gl X ("len" : Str) := by show X.env.scope.names.lookup ("len" : Str) = _; rw [hsc]; rfl
  have hg_BadForm : Gl X ("BadForm" : Str) := by show X.env.scope.names.lookup ("BadForm" : Str) = _; rw [hsc]; rfl
  have g_LONGEST_FORM : ∀ {B : Gd} {pos : Pos}, QX κ B X (.Name ("LONGEST_FORM" : Str) pos) (mC c_LONGEST_FORM) := let ⟨_, _, h1, h2, h3⟩ := c_LONGEST_FORM'; qpx_glob hg_LONGEST_FORM h1 h2 h3 (by decide)
  have g_PLACES : ∀ {B : Gd} {pos : Pos}, QX κ B X (.Name ("PLACES" : Str) pos) (mC c_PLACES) := let ⟨_, _, h1, h2, h3⟩ := c_PLACES'; qpx_glob hg_PLACES h1 h2 h3 (by decide)
  refine qpzs_cons (F1 := S_read_form_0) (F2 := F_read_form_1) ?_ ?_
  · exact qpz_if cx ((qpxw_or (qpxt_lt ((qy_len hg_len b_len ((V0.v).read) rfl).read) ((qpx_int).read) (mark_no rfl)) (qpxw_or1 (qpxt_gt ((qy_len hg_len b_len ((V0.v).read) rfl).read) ((g_LONGEST_FORM).read) (mark_no rfl)))).t) (qpzs_one (qpz_raise cx hcalm x_BadForm hg_BadForm (by decide))) (qpzs_nil)
  refine qpzs_cons (F1 := S_read_form_1) (F2 := F_read_form_2) ?_ ?_
  · exact V1.s (qy_call cx k_cut_into_tokens rfl hg_cut_into_tokens (qys_cons (V0.v) (qpxs_nil) rfl) (by decide) rfl (mlen_cons (mlen_nil))) rfl
  refine qpzs_cons (F1 := S_read_form_2) (F2 := F_read_form_3) ?_ ?_
  · exact qy_for cx hcalm (qpiz_seq (g_PLACES)) (fun B => V2.t) (fun B => qpzs_one (qpz_if cx (qpxt_gt ((qy_count ((V1.v).read) (qys_cons (V2.v) (qpxs_nil) rfl) rfl rfl rfl).read) ((qpx_int).read) (mark_no rfl)) (qpzs_one (qpz_raise cx hcalm x_BadForm hg_BadForm (by decide))) (qpzs_nil))) rfl
  exact qpzs_one (qpz_ret cx (qy_call cx k_number_pieces rfl hg_number_pieces (qys_cons (V1.v) (qpxs_nil) rfl) (by decide) rfl (mlen_cons (mlen_nil))))
def F_parts_of_form : Ev → SR := zRet (mCall m_split_into_parts (mCons (mCall m_read_form (mCons (mVar 0) (mNil))) (mNil)))
def m_parts_of_form (ds : List D) : R D := finR (F_parts_of_form (startE 1 ds))
theorem s_parts_of_form : FnScope [("form" : Str)] [("form" : Str)] (defScope (top 32)) := ⟨rfl, rfl, rfl, by decide +kernel, rfl, by decide +kernel, by decide +kernel⟩
theorem d_parts_of_form {κ : Nat → Addr} {X : Cx} {B : Gd} (cx : Cxo X) (hcalm : X.calm = true) (hN : X.N = [("form" : Str)]) (hsc : X.env.scope = defScope (top 32)) (hfn : ∀ y, X.fn y = true) (hu : X.A.units + 64 < cLine) (k_split_into_parts : Cal κ X ("split_into_parts" : Str) 1 m_split_into_parts) (k_read_form : Cal κ X ("read_form" : Str) 1 m_read_form) : QZs κ B X (defBody (top 32)) F_parts_of_form := by
  have hnd : X.N.Nodup := by rw [hN]; decide +kernel
  have V0 : VP X 0 ("form" : Str) := vpl cx hnd hfn hN hsc rfl rfl (by decide) (by decide)
  have hg_split_into_parts : Gl X ("split_into_parts" : Str) := by show X.env.scope.names.lookup ("split_into_parts" : Str) = _; rw [hsc]; rfl
  have hg_read_form : Gl X ("read_form" : Str) := by show X.env.scope.names.lookup ("read_form" : Str) = _; rw [hsc]; rfl
  exact qpzs_one (qpz_ret cx (qy_call cx k_split_into_parts rfl hg_split_into_parts (qys_cons (qy_call cx k_read_form rfl hg_read_form (qys_cons (V0.v) (qpxs_nil) rfl) (by decide) rfl (mlen_cons (mlen_nil))) (qpxs_nil) rfl) (by decide) rfl (mlen_cons (mlen_nil))))
def L_check_text_1 : Ev → SR := zIf (m2t oNin (mVar 1) (mC c_PLAIN_SIGNS)) (SR.exc 5) (SR.next)
def F_check_text_1 : Ev → SR := zFor (fun δ => ((mVar 0) δ).bind itemsS) (bN 1) (L_check_text_1)
def F_check_text : Ev → SR := zSeq (zIf (mOr (m2t oLt (m1 oLen (mVar 0)) (mC (.int 1))) (m2t oGt (m1 oLen (mVar 0)) (mC c_LONGEST_TEXT))) (SR.exc 5) (SR.next)) F_check_text_1
def m_check_text (ds : List D) : R D := finR (F_check_text (startE 2 ds))
theorem s_check_text : FnScope [("text" : Str), ("sign" : Str)] [("text" : Str)] (defScope (top 30)) := ⟨rfl, rfl, rfl, by decide +kernel, rfl, by decide +kernel, by decide +kernel⟩
theorem d_check_text {κ : Nat → Addr} {X : Cx} {B : Gd} (cx : Cxo X) (hcalm : X.calm = true) (hN : X.N = [("text" : Str), ("sign" : Str)]) (hsc : X.env.scope = defScope (top 30)) (hfn : ∀ y, X.fn y = true) (hu : X.A.units + 64 < cLine) (c_LONGEST_TEXT' : ∃ u v, X.mg ("LONGEST_TEXT" : Str) = some u ∧ RelV v u ∧ ∀ G, Den ⟨X.K, κ⟩ G v c_LONGEST_TEXT) (c_PLAIN_SIGNS' : ∃ u v, X.mg ("PLAIN_SIGNS" : Str) = some u ∧ RelV v u ∧ ∀ G, Den ⟨X.K, κ⟩ G v c_PLAIN_SIGNS) (b_len : X.mg ("len" : Str) = none) (x_BadText : ExcAt κ X ("BadText" : Str) 5) : QZs κ B X (defBody (top 30)) F_check_text := by
  have hnd : X.N.Nodup := by rw [hN]; decide +kernel
  have V0 : VP X 0 ("text" : Str) := vpl cx hnd hfn hN hsc rfl rfl (by decide) (by decide)
  have V1 : VP X 1 ("sign" : Str) := vpl cx hnd hfn hN hsc rfl rfl (by decide) (by decide)
  have hg_LONGEST_TEXT : Gl X ("LONGEST_TEXT" : Str) := by show X.env.scope.names.lookup ("LONGEST_TEXT" : Str) = _; rw [hsc]; rfl
  have hg_PLAIN_SIGNS : Gl X ("PLAIN_SIGNS" : Str) := by show X.env.scope.names.lookup ("PLAIN_SIGNS" : Str) = _; rw [hsc]; rfl
  have hg_len : Gl X ("len" : Str) := by show X.env.scope.names.lookup ("len" : Str) = _; rw [hsc]; rfl
  have hg_BadText : Gl X ("BadText" : Str) := by show X.env.scope.names.lookup ("BadText" : Str) = _; rw [hsc]; rfl
  have g_LONGEST_TEXT : ∀ {B : Gd} {pos : Pos}, QX κ B X (.Name ("LONGEST_TEXT" : Str) pos) (mC c_LONGEST_TEXT) := let ⟨_, _, h1, h2, h3⟩ := c_LONGEST_TEXT'; qpx_glob hg_LONGEST_TEXT h1 h2 h3 (by decide)
  have g_PLAIN_SIGNS : ∀ {B : Gd} {pos : Pos}, QX κ B X (.Name ("PLAIN_SIGNS" : Str) pos) (mC c_PLAIN_SIGNS) := let ⟨_, _, h1, h2, h3⟩ := c_PLAIN_SIGNS'; qpx_glob hg_PLAIN_SIGNS h1 h2 h3 (by decide)
  refine qpzs_cons (F1 := zIf (mOr (m2t oLt (m1 oLen (mVar 0)) (mC (.int 1))) (m2t oGt (m1 oLen (mVar 0)) (mC c_LONGEST_TEXT))) (SR.exc 5) (SR.next)) (F2 := F_check_text_1) ?_ ?_
  · exact qpz_if cx ((qpxw_or (qpxt_lt ((qy_len hg_len b_len ((V0.v).read) rfl).read) ((qpx_int).read) (mark_no rfl)) (qpxw_or1 (qpxt_gt ((qy_len hg_len b_len ((V0.v).read) rfl).read) ((g_LONGEST_TEXT).read) (mark_no rfl)))).t) (qpzs_one (qpz_raise cx hcalm x_BadText hg_BadText (by decide))) (qpzs_nil)
  exact qpzs_one (qy_for cx hcalm (qpiz_str (V0.v)) (fun B => V1.t) (fun B => qpzs_one (qpz_if cx (qpxt_nin hu ((V1.v).read) ((g_PLAIN_SIGNS).read) (mark_no rfl)) (qpzs_one (qpz_raise cx hcalm x_BadText hg_BadText (by decide))) (qpzs_nil))) rfl)
def L_ends_of_piece_1 : Ev → SR := zSeq (zSet 6 (m2 oAdd (mVar 4) (m1 oLen (mVar 5)))) (zIf (mAnd (m2t oEq (mSl (mVar 1) (mP (mVar 4)) (mP (mVar 6))) (mVar 5)) (m2t oNin (mVar 6) (mVarR 3))) (zApp 3 (mVar 6)) (SR.next))
def L_ends_of_piece_2 : Ev → SR := zFor (fun δ => ((mVar 0) δ).bind itemsD) (bN 5) (L_ends_of_piece_1)
def S_ends_of_piece_2 : Ev → SR := zRet (mVar 3)
def F_ends_of_piece_2 : Ev → SR := fun δ => (S_ends_of_piece_2) (frzE 3 δ)
def S_ends_of_piece_1 : Ev → SR := zFor (fun δ => ((mVar 2) δ).bind itemsD) (bN 4) (L_ends_of_piece_2)
def F_ends_of_piece_1 : Ev → SR := zSeq (S_ends_of_piece_1) F_ends_of_piece_2
def S_ends_of_piece_0 : Ev → SR := zOwn 3 (fun δ => lim ((mNil) δ))
def F_ends_of_piece : Ev → SR := zSeq (S_ends_of_piece_0) F_ends_of_piece_1
def m_ends_of_piece (ds : List D) : R D := finR (F_ends_of_piece (startE 7 ds))
theorem s_ends_of_piece : FnScope [("written" : Str), ("text" : Str), ("starts" : Str), ("ends" : Str), ("start" : Str), ("way" : Str), ("end" : Str)] [("written" : Str), ("text" : Str), ("starts" : Str)] (defScope (top 36)) := ⟨rfl, rfl, rfl, by decide +kernel, rfl, by decide +kernel, by decide +kernel⟩
theorem d_ends_of_piece {κ : Nat → Addr} {X : Cx} {B : Gd} (cx : Cxo X) (hcalm : X.calm = true) (hN : X.N = [("written" : Str), ("text" : Str), ("starts" : Str), ("ends" : Str), ("start" : Str), ("way" : Str), ("end" : Str)]) (hsc : X.env.scope = defScope (top 36)) (hfn : ∀ y, X.fn y = true) (hu : X.A.units + 64 < cLine) (b_len : X.mg ("len" : Str) = none) : QZs κ B X (defBody (top 36)) F_ends_of_piece := by
  have hnd : X.N.Nodup := by rw [hN]; decide +kernel
  have V0 : VP X 0 ("written" : Str) := vpl cx hnd hfn hN hsc rfl rfl (by decide) (by decide)
  have V1 : VP X 1 ("text" : Str) := vpl cx hnd hfn hN hsc rfl rfl (by decide) (by decide)
  have V2 : VP X 2 ("starts" : Str) := vpl cx hnd hfn hN hsc rfl rfl (by decide) (by decide)
  have V3 : VP X 3 ("ends" : Str) := vpl cx hnd hfn hN hsc rfl rfl (by decide) (by decide)
  have V4 : VP X 4 ("start" : Str) := vpl cx hnd hfn hN hsc rfl rfl (by decide) (by decide)
  have V5 : VP X 5 ("way" : Str) := vpl cx hnd hfn hN hsc rfl rfl (by decide) (by decide)
  have V6 : VP X 6 ("end" : Str) := vpl cx hnd hfn hN hsc rfl rfl (by decide) (by decide)
  have hg_len : Gl X ("len" : Str) := by show X.env.scope.names.lookup ("len" : Str) = _; rw [hsc]; rfl
  refine qpzs_cons (F1 := S_ends_of_piece_0) (F2 := F_ends_of_piece_1) ?_ ?_
  · exact V3.w (qpxf_lst (qpxs_nil)) rfl
  refine qpzs_cons (F1 := S_ends_of_piece_1) (F2 := F_ends_of_piece_2) ?_ ?_
  · exact qy_for cx hcalm (qpiz_seq (V2.v)) (fun B => V4.t) (fun B => qpzs_one (qy_for cx hcalm (qpiz_seq (V0.v)) (fun B => V5.t) (fun B => qpzs_cons (V6.s (qpx_add ((V4.v).read) ((qy_len hg_len b_len ((V5.v).read) rfl).read)) rfl) (qpzs_one (qpz_if cx ((qpxw_and (qpxt_eq hu ((qy_sl ((V1.v).read) (qpxo_some (V4.v)) (qpxo_some (V6.v))).read) ((V5.v).read) (mark_no rfl)) (qpxw_and1 (qpxt_nin hu ((V6.v).read) (V3.r) (mark_no rfl)))).t) (qpzs_one (V3.a (V6.v) rfl rfl)) (qpzs_nil)))) rfl)) rfl
  refine qpzs_frz 3 (F := _) ?_
  exact qpzs_one (qpz_ret cx (V3.v))
def L_ends_of_part_1 : Ev → SR := zSeq (zSet 6 (mIf (m2t oEq (m2 oIx (mVar 5) (mC (.int 0))) (mC (.str [112, 108, 97, 99, 101]))) (m2 oDix (mVar 1) (m2 oIx (mVar 5) (mC (.int 1)))) (mLst (mCons (m2 oIx (mVar 5) (mC (.int 1))) (mNil))))) (zSeq (zSet 4 (mCall m_ends_of_piece (mCons (mVar 6) (mCons (mVar 2) (mCons (mVar 4) (mNil)))))) (zIf (m2t oEq (mVar 4) (mLst (mNil))) (zRet (mLst (mNil))) (SR.next)))
def S_ends_of_part_2 : Ev → SR := zRet (mVar 4)
def F_ends_of_part_2 : Ev → SR := S_ends_of_part_2
def S_ends_of_part_1 : Ev → SR := zFor (fun δ => ((mVar 0) δ).bind itemsD) (bN 5) (L_ends_of_part_1)
def F_ends_of_part_1 : Ev → SR := zSeq (S_ends_of_part_1) F_ends_of_part_2
def S_ends_of_part_0 : Ev → SR := zSet 4 (mVar 3)
def F_ends_of_part : Ev → SR := zSeq (S_ends_of_part_0) F_ends_of_part_1
def m_ends_of_part (ds : List D) : R D := finR (F_ends_of_part (startE 7 ds))
theorem s_ends_of_part : FnScope [("part" : Str), ("ways" : Str), ("text" : Str), ("starts" : Str), ("ends" : Str), ("piece" : Str), ("written" : Str)] [("part" : Str), ("ways" : Str), ("text" : Str), ("starts" : Str)] (defScope (top 37)) := ⟨rfl, rfl, rfl, by decide +kernel, rfl, by decide +kernel, by decide +kernel⟩
theorem d_ends_of_part {κ : Nat → Addr} {X : Cx} {B : Gd} (cx : Cxo X) (hcalm : X.calm = true) (hN : X.N = [("part" : Str), ("ways" : Str), ("text" : Str), ("starts" : Str), ("ends" : Str), ("piece" : Str), ("written" : Str)]) (hsc : X.env.scope = defScope (top 37)) (hfn : ∀ y, X.fn y = true) (hu : X.A.units + 64 < cLine) (k_ends_of_piece : Cal κ X ("ends_of_piece" : Str) 3 m_ends_of_piece) : QZs κ B X (defBody (top 37)) F_ends_of_part := by
  have hnd : X.N.Nodup := by rw [hN]; decide +kernel
  have V0 : VP X 0 ("part" : Str) := vpl cx hnd hfn hN hsc rfl rfl (by decide) (by decide)
  have V1 : VP X 1 ("ways" : Str) := vpl cx hnd hfn hN hsc rfl rfl (by decide) (by decide)
  have V2 : VP X 2 ("text" : Str) := vpl cx hnd hfn hN hsc rfl rfl (by decide) (by decide)
  have V3 : VP X 3 ("starts" : Str) := vpl cx hnd hfn hN hsc rfl rfl (by decide) (by decide)
  have V4 : VP X 4 ("ends" : Str) := vpl cx hnd hfn hN hsc rfl rfl (by decide) (by decide)
  have V5 : VP X 5 ("piece" : Str) := vpl cx hnd hfn hN hsc rfl rfl (by decide) (by decide)
  have V6 : VP X 6 ("written" : Str) := vpl cx hnd hfn hN hsc rfl rfl (by decide) (by decide)
  have hg_ends_of_piece : Gl X ("ends_of_piece" : Str) := by show X.env.scope.names.lookup ("ends_of_piece" : Str) = _; rw [hsc]; rfl
  refine qpzs_cons (F1 := S_ends_of_part_0) (F2 := F_ends_of_part_1) ?_ ?_
  · exact V4.s (V3.v) rfl
  refine qpzs_cons (F1 := S_ends_of_part_1) (F2 := F_ends_of_part_2) ?_ ?_
  · exact qy_for cx hcalm (qpiz_seq (V0.v)) (fun B => V5.t) (fun B => qpzs_cons (V6.s (qpx_if (qpxt_eq hu ((qy_ix ((V5.v).read) ((qpx_int).read) rfl).read) ((qpx_str (l := [112, 108, 97, 99, 101]) (by decide +kernel)).read) (mark_no rfl)) (qy_dix hu (V1.v) (qy_ix ((V5.v).read) ((qpx_int).read) rfl) (fun _ _ => rfl)) (qpx_lst (qys_cons (qy_ix ((V5.v).read) ((qpx_int).read) rfl) (qpxs_nil) rfl))) rfl) (qpzs_cons (V4.s (qy_call cx k_ends_of_piece rfl hg_ends_of_piece (qys_cons (V6.v) (qys_cons (V2.v) (qys_cons (V4.v) (qpxs_nil) rfl) rfl) rfl) (by decide) rfl (mlen_cons (mlen_cons (mlen_cons (mlen_nil))))) rfl) (qpzs_one (qpz_if cx (qpxt_eq hu ((V4.v).read) ((qpx_lst (qpxs_nil)).read) (mark_no rfl)) (qpzs_one (qpz_ret cx (qpx_lst (qpxs_nil)))) (qpzs_nil))))) rfl
  exact qpzs_one (qpz_ret cx (V4.v))
def L_is_written_1 : Ev → SR := zSeq (zSet 5 (mVar 3)) (zSeq (zSet 3 (mCall m_ends_of_part (mCons (mVar 4) (mCons (mVar 1) (mCons (mVar 2) (mCons (mVar 5) (mNil))))))) (zIf (m2t oGt (m2 oIx (m2 oIx (mVar 4) (mC (.int 0))) (mC (.int 2))) (mC (.int 0))) (zSet 3 (m2 oCat (mVar 5) (mL (mComp (fun δ => ((mVar 3) δ).bind itemsD) (m2t oNin (mVar 6) (mVar 5)) (mVar 6))))) (SR.next)))
def S_is_written_2 : Ev → SR := zRet (m2 (op2 oIn) (m1 oLen (mVar 2)) (mVar 3))
def F_is_written_2 : Ev → SR := S_is_written_2
def S_is_written_1 : Ev → SR := zFor (fun δ => ((mVar 0) δ).bind itemsD) (bN 4) (L_is_written_1)
def F_is_written_1 : Ev → SR := zSeq (S_is_written_1) F_is_written_2
def S_is_written_0 : Ev → SR := zSet 3 (mLst (mCons (mC (.int 0)) (mNil)))
def F_is_written : Ev → SR := zSeq (S_is_written_0) F_is_written_1
def m_is_written (ds : List D) : R D := finR (F_is_written (startE 6 ds))
theorem s_is_written : FnScope [("parts" : Str), ("ways" : Str), ("text" : Str), ("ends" : Str), ("part" : Str), ("starts" : Str)] [("parts" : Str), ("ways" : Str), ("text" : Str)] (defScope (top 38)) := ⟨rfl, rfl, rfl, by decide +kernel, rfl, by decide +kernel, by decide +kernel⟩
theorem d_is_written {κ : Nat → Addr} {X : Cx} {B : Gd} (cx : Cxo X) (hcalm : X.calm = true) (hN : X.N = [("parts" : Str), ("ways" : Str), ("text" : Str), ("ends" : Str), ("part" : Str), ("starts" : Str)]) (hsc : X.env.scope = defScope (top 38)) (hfn : ∀ y, X.fn y = true) (hu : X.A.units + 64 < cLine) (k_ends_of_part : Cal κ X ("ends_of_part" : Str) 4 m_ends_of_part) (b_len : X.mg ("len" : Str) = none) : QZs κ B X (defBody (top 38)) F_is_written := by
  have hnd : X.N.Nodup := by rw [hN]; decide +kernel
  have V0 : VP X 0 ("parts" : Str) := vpl cx hnd hfn hN hsc rfl rfl (by decide) (by decide)
  have V1 : VP X 1 ("ways" : Str) := vpl cx hnd hfn hN hsc rfl rfl (by decide) (by decide)
  have V2 : VP X 2 ("text" : Str) := vpl cx hnd hfn hN hsc rfl rfl (by decide) (by decide)
  have V3 : VP X 3 ("ends" : Str) := vpl cx hnd hfn hN hsc rfl rfl (by decide) (by decide)
  have V4 : VP X 4 ("part" : Str) := vpl cx hnd hfn hN hsc rfl rfl (by decide) (by decide)
  have V5 : VP X 5 ("starts" : Str) := vpc cx hnd hfn hN hsc rfl rfl (by decide) (by decide)
  have hg_ends_of_part : Gl X ("ends_of_part" : Str) := by show X.env.scope.names.lookup ("ends_of_part" : Str) = _; rw [hsc]; rfl
  have hg_len : Gl X ("len" : Str) := by show X.env.scope.names.lookup ("len" : Str) = _; rw [hsc]; rfl
  refine qpzs_cons (F1 := S_is_written_0) (F2 := F_is_written_1) ?_ ?_
  · exact V3.s (qpx_lst (qys_cons (qpx_int) (qpxs_nil) rfl)) rfl
  refine qpzs_cons (F1 := S_is_written_1) (F2 := F_is_written_2) ?_ ?_
  · exact qy_for cx hcalm (qpiz_seq (V0.v)) (fun B => V4.t) (fun B => qpzs_cons (V5.s (V3.v) rfl) (qpzs_cons (V3.s (qy_call cx k_ends_of_part rfl hg_ends_of_part (qys_cons (V4.v) (qys_cons (V1.v) (qys_cons (V2.v) (qys_cons (V5.v) (qpxs_nil) rfl) rfl) rfl) rfl) (by decide) rfl (mlen_cons (mlen_cons (mlen_cons (mlen_cons (mlen_nil)))))) rfl) (qpzs_one (qpz_if cx (qpxt_gt ((qy_ix ((qy_ix ((V4.v).read) ((qpx_int).read) rfl).read) ((qpx_int).read) rfl).read) ((qpx_int).read) (mark_no rfl)) (qpzs_one (V3.s (qpx_cat ((V5.v).read) (((qcomp_by hcalm ⟨by decide +kernel, rfl, by decide +kernel, rfl, by rw [hN]; decide +kernel, by rw [hsc]; decide +kernel, hnd⟩ (qpicz_seq (V3.v)) (fun X' B' hC => by (have cx : Cxo X' := hC.cxo); (have hcalm : X'.calm = true := hC.calm.trans hcalm); (have hu : X'.A.units + 64 < cLine := by rw [hC.A]; exact hu); (have z5 : ∀ {B : Gd} {pos : Pos}, QX κ B X' (.Name ("starts" : Str) pos) (mVar 5) := qpx_var 5 (hC.n V5.n) (hC.vis rfl) (by decide) (by decide)); (have z6 : ∀ {B : Gd} {pos : Pos}, QX κ B X' (.Name ("end" : Str) pos) (mVar 6) := qpx_var 6 (hC.x (by rw [hN]; rfl)) (.inl (hC.look rfl (by decide))) (by decide) (by decide)); exact qpts_one (qpxt_nin hu ((z6).read) ((z5).read) (mark_no rfl))) (fun X' B' hC => by (have cx : Cxo X' := hC.cxo); (have hcalm : X'.calm = true := hC.calm.trans hcalm); (have hu : X'.A.units + 64 < cLine := by rw [hC.A]; exact hu); (have z6 : ∀ {B : Gd} {pos : Pos}, QX κ B X' (.Name ("end" : Str) pos) (mVar 6) := qpx_var 6 (hC.x (by rw [hN]; rfl)) (.inl (hC.look rfl (by decide))) (by decide) (by decide)); exact z6) rfl).px).read)) rfl)) (qpzs_nil))))) rfl
  exact qpzs_one (qpz_ret cx (qpx_in hu ((qy_len hg_len b_len ((V2.v).read) rfl).read) ((V3.v).read) (mark_no rfl)))
def F_has_number : Ev → SR := zRet (mAndV (m2 (op2 oLe) (mC (.int 0)) (mVar 0)) (m2 (op2 oLe) (mVar 0) (mC c_LAST_NUMBER)))
def m_has_number (ds : List D) : R D := finR (F_has_number (startE 1 ds))
theorem s_has_number : FnScope [("number" : Str)] [("number" : Str)] (defScope (top 14)) := ⟨rfl, rfl, rfl, by decide +kernel, rfl, by decide +kernel, by decide +kernel⟩
theorem d_has_number {κ : Nat → Addr} {X : Cx} {B : Gd} (cx : Cxo X) (hcalm : X.calm = true) (hN : X.N = [("number" : Str)]) (hsc : X.env.scope = defScope (top 14)) (hfn : ∀ y, X.fn y = true) (hu : X.A.units + 64 < cLine) (c_LAST_NUMBER' : ∃ u v, X.mg ("LAST_NUMBER" : Str) = some u ∧ RelV v u ∧ ∀ G, Den ⟨X.K, κ⟩ G v c_LAST_NUMBER) : QZs κ B X (defBody (top 14)) F_has_number := by
  have hnd : X.N.Nodup := by rw [hN]; decide +kernel
  have V0 : VP X 0 ("number" : Str) := vpl cx hnd hfn hN hsc rfl rfl (by decide) (by decide)
  have hg_LAST_NUMBER : Gl X ("LAST_NUMBER" : Str) := by show X.env.scope.names.lookup ("LAST_NUMBER" : Str) = _; rw [hsc]; rfl
  have g_LAST_NUMBER : ∀ {B : Gd} {pos : Pos}, QX κ B X (.Name ("LAST_NUMBER" : Str) pos) (mC c_LAST_NUMBER) := let ⟨_, _, h1, h2, h3⟩ := c_LAST_NUMBER'; qpx_glob hg_LAST_NUMBER h1 h2 h3 (by decide)
  exact qpzs_one (qpz_ret cx (qpx_and (qpx_le ((qpx_int).read) ((V0.v).read) (mark_no rfl)) (qpx_one (qpx_le ((V0.v).read) ((g_LAST_NUMBER).read) (mark_no rfl)))))
def F_days_ahead_of_year_1 : Ev → SR := zRet (m2 oAdd (m2 oSub (m2 oAdd (m2 oMul (mVar 1) (mC (.int 365))) (m2 oDiv (mVar 1) (mC (.int 4)))) (m2 oDiv (mVar 1) (mC (.int 100)))) (m2 oDiv (mVar 1) (mC (.int 400))))
def F_days_ahead_of_year : Ev → SR := zSeq (zSet 1 (m2 oSub (mVar 0) (mC (.int 1)))) F_days_ahead_of_year_1
def m_days_ahead_of_year (ds : List D) : R D := finR (F_days_ahead_of_year (startE 2 ds))
theorem s_days_ahead_of_year : FnScope [("year" : Str), ("whole" : Str)] [("year" : Str)] (defScope (top 13)) := ⟨rfl, rfl, rfl, by decide +kernel, rfl, by decide +kernel, by decide +kernel⟩
theorem d_days_ahead_of_year {κ : Nat → Addr} {X : Cx} {B : Gd} (cx : Cxo X) (hcalm : X.calm = true) (hN : X.N = [("year" : Str), ("whole" : Str)]) (hsc : X.env.scope = defScope (top 13)) (hfn : ∀ y, X.fn y = true) (hu : X.A.units + 64 < cLine)  : QZs κ B X (defBody (top 13)) F_days_ahead_of_year := by
  have hnd : X.N.Nodup := by rw [hN]; decide +kernel
  have V0 : VP X 0 ("year" : Str) := vpl cx hnd hfn hN hsc rfl rfl (by decide) (by decide)
  have V1 : VP X 1 ("whole" : Str) := vpl cx hnd hfn hN hsc rfl rfl (by decide) (by decide)
  refine qpzs_cons (F1 := zSet 1 (m2 oSub (mVar 0) (mC (.int 1)))) (F2 := F_days_ahead_of_year_1) ?_ ?_
  · exact V1.s (qpx_sub ((V0.v).read) ((qpx_int).read)) rfl
  exact qpzs_one (qpz_ret cx (qpx_add ((qpx_sub ((qpx_add ((qpx_mulI ((V1.v).read) ((qpx_int).read)).read) ((qpx_div ((V1.v).read) ((qpx_int).read)).read)).read) ((qpx_div ((V1.v).read) ((qpx_int).read)).read)).read) ((qpx_div ((V1.v).read) ((qpx_int).read)).read)))
def L_year_with_1 : Ev → SR := zAug 2 (fun i j => i + j) (mC (.int 1))
def S_year_with_3 : Ev → SR := zRet (mVar 2)
def F_year_with_3 : Ev → SR := S_year_with_3
def S_year_with_2 : Ev → SR := whileZ (m2t oLe (mCall m_days_ahead_of_year (mCons (m2 oAdd (mVar 2) (mC (.int 1))) (mNil))) (mVar 0)) (L_year_with_1) 10
def F_year_with_2 : Ev → SR := zSeq (S_year_with_2) F_year_with_3
def S_year_with_1 : Ev → SR := zSet 2 (m2 oAdd (m2 oAdd (m2 oMul (mVar 1) (mC (.int 400))) (m2 oDiv (m2 oMod (mVar 0) (mC c_DAYS_OF_400_YEARS)) (mC (.int 366)))) (mC (.int 1)))
def F_year_with_1 : Ev → SR := zSeq (S_year_with_1) F_year_with_2
def S_year_with_0 : Ev → SR := zSet 1 (m2 oDiv (mVar 0) (mC c_DAYS_OF_400_YEARS))
def F_year_with : Ev → SR := zSeq (S_year_with_0) F_year_with_1
def m_year_with (ds : List D) : R D := finR (F_year_with (startE 3 ds))
theorem s_year_with : FnScope [("number" : Str), ("cycles" : Str), ("year" : Str)] [("number" : Str)] (defScope (top 15)) := ⟨rfl, rfl, rfl, by decide +kernel, rfl, by decide +kernel, by decide +kernel⟩
theorem d_year_with {κ : Nat → Addr} {X : Cx} {B : Gd} (cx : Cxo X) (hcalm : X.calm = true) (hN : X.N = [("number" : Str), ("cycles" : Str), ("year" : Str)]) (hsc : X.env.scope = defScope (top 15)) (hfn : ∀ y, X.fn y = true) (hu : X.A.units + 64 < cLine) (k_days_ahead_of_year : Cal κ X ("days_ahead_of_year" : Str) 1 m_days_ahead_of_year) (c_DAYS_OF_400_YEARS' : ∃ u v, X.mg ("DAYS_OF_400_YEARS" : Str) = some u ∧ RelV v u ∧ ∀ G, Den ⟨X.K, κ⟩ G v c_DAYS_OF_400_YEARS) : QZs κ B X (defBody (top 15)) F_year_with := by
  have hnd : X.N.Nodup := by rw [hN]; decide +kernel
  have V0 : VP X 0 ("number" : Str) := vpl cx hnd hfn hN hsc rfl rfl (by decide) (by decide)
  have V1 : VP X 1 ("cycles" : Str) := vpl cx hnd hfn hN hsc rfl rfl (by decide) (by decide)
  have V2 : VP X 2 ("year" : Str) := vpl cx hnd hfn hN hsc rfl rfl (by decide) (by decide)
  have hg_days_ahead_of_year : Gl X ("days_ahead_of_year" : Str) := by show X.env.scope.names.lookup ("days_ahead_of_year" : Str) = _; rw [hsc]; rfl
  have hg_DAYS_OF_400_YEARS : Gl X ("DAYS_OF_400_YEARS" : Str) := by show X.env.scope.names.lookup ("DAYS_OF_400_YEARS" : Str) = _; rw [hsc]; rfl
  have g_DAYS_OF_400_YEARS : ∀ {B : Gd} {pos : Pos}, QX κ B X (.Name ("DAYS_OF_400_YEARS" : Str) pos) (mC c_DAYS_OF_400_YEARS) := let ⟨_, _, h1, h2, h3⟩ := c_DAYS_OF_400_YEARS'; qpx_glob hg_DAYS_OF_400_YEARS h1 h2 h3 (by decide)
  refine qpzs_cons (F1 := S_year_with_0) (F2 := F_year_with_1) ?_ ?_
  · exact V1.s (qpx_div ((V0.v).read) ((g_DAYS_OF_400_YEARS).read)) rfl
  refine qpzs_cons (F1 := S_year_with_1) (F2 := F_year_with_2) ?_ ?_
  · exact V2.s (qpx_add ((qpx_add ((qpx_mulI ((V1.v).read) ((qpx_int).read)).read) ((qpx_div ((qpx_mod ((V0.v).read) ((g_DAYS_OF_400_YEARS).read)).read) ((qpx_int).read)).read)).read) ((qpx_int).read)) rfl
  refine qpzs_cons (F1 := S_year_with_2) (F2 := F_year_with_3) ?_ ?_
  · exact qpz_while cx 10 (qpxt_le ((qy_call cx k_days_ahead_of_year rfl hg_days_ahead_of_year (qys_cons (qpx_add ((V2.v).read) ((qpx_int).read)) (qpxs_nil) rfl) (by decide) rfl (mlen_cons (mlen_nil))).read) ((V0.v).read) (mark_no rfl)) (qpzs_one (V2.ua (qpx_int)))
  exact qpzs_one (qpz_ret cx (V2.v))
def F_is_leap : Ev → SR := zRet (mAndV (m2 (op2 oEq) (m2 oMod (mVar 0) (mC (.int 4))) (mC (.int 0))) (mOrV (m2 (op2 oNe) (m2 oMod (mVar 0) (mC (.int 100))) (mC (.int 0))) (m2 (op2 oEq) (m2 oMod (mVar 0) (mC (.int 400))) (mC (.int 0)))))
def m_is_leap (ds : List D) : R D := finR (F_is_leap (startE 1 ds))
theorem s_is_leap : FnScope [("year" : Str)] [("year" : Str)] (defScope (top 11)) := ⟨rfl, rfl, rfl, by decide +kernel, rfl, by decide +kernel, by decide +kernel⟩
theorem d_is_leap {κ : Nat → Addr} {X : Cx} {B : Gd} (cx : Cxo X) (hcalm : X.calm = true) (hN : X.N = [("year" : Str)]) (hsc : X.env.scope = defScope (top 11)) (hfn : ∀ y, X.fn y = true) (hu : X.A.units + 64 < cLine)  : QZs κ B X (defBody (top 11)) F_is_leap := by
  have hnd : X.N.Nodup := by rw [hN]; decide +kernel
  have V0 : VP X 0 ("year" : Str) := vpl cx hnd hfn hN hsc rfl rfl (by decide) (by decide)
  exact qpzs_one (qpz_ret cx (qpx_and (qpx_eq hu ((qpx_mod ((V0.v).read) ((qpx_int).read)).read) ((qpx_int).read) (mark_no rfl)) (qpx_one (qpx_or (qpx_ne hu ((qpx_mod ((V0.v).read) ((qpx_int).read)).read) ((qpx_int).read) (mark_no rfl)) (qpx_one (qpx_eq hu ((qpx_mod ((V0.v).read) ((qpx_int).read)).read) ((qpx_int).read) (mark_no rfl)))))))
def F_month_length_1 : Ev → SR := zRet (m2 oIx (mC c_COMMON_LENGTHS) (m2 oSub (mVar 1) (mC (.int 1))))
def F_month_length : Ev → SR := zSeq (zIf (mAnd (m2t oEq (mVar 1) (mC (.int 2))) (mT (mCall m_is_leap (mCons (mVar 0) (mNil))))) (zRet (mC (.int 29))) (SR.next)) F_month_length_1
def m_month_length (ds : List D) : R D := finR (F_month_length (startE 2 ds))
theorem s_month_length : FnScope [("year" : Str), ("month" : Str)] [("year" : Str), ("month" : Str)] (defScope (top 12)) := ⟨rfl, rfl, rfl, by decide +kernel, rfl, by decide +kernel, by decide +kernel⟩
theorem d_month_length {κ : Nat → Addr} {X : Cx} {B : Gd} (cx : Cxo X) (hcalm : X.calm = true) (hN : X.N = [("year" : Str), ("month" : Str)]) (hsc : X.env.scope = defScope (top 12)) (hfn : ∀ y, X.fn y = true) (hu : X.A.units + 64 < cLine) (k_is_leap : Cal κ X ("is_leap" : Str) 1 m_is_leap) (c_COMMON_LENGTHS' : ∃ u v, X.mg ("COMMON_LENGTHS" : Str) = some u ∧ RelV v u ∧ ∀ G, Den ⟨X.K, κ⟩ G v c_COMMON_LENGTHS) : QZs κ B X (defBody (top 12)) F_month_length := by
  have hnd : X.N.Nodup := by rw [hN]; decide +kernel
  have V0 : VP X 0 ("year" : Str) := vpl cx hnd hfn hN hsc rfl rfl (by decide) (by decide)
  have V1 : VP X 1 ("month" : Str) := vpl cx hnd hfn hN hsc rfl rfl (by decide) (by decide)
  have hg_is_leap : Gl X ("is_leap" : Str) := by show X.env.scope.names.lookup ("is_leap" : Str) = _; rw [hsc]; rfl
  have hg_COMMON_LENGTHS : Gl X ("COMMON_LENGTHS" : Str) := by show X.env.scope.names.lookup ("COMMON_LENGTHS" : Str) = _; rw [hsc]; rfl
  have g_COMMON_LENGTHS : ∀ {B : Gd} {pos : Pos}, QX κ B X (.Name ("COMMON_LENGTHS" : Str) pos) (mC c_COMMON_LENGTHS) := let ⟨_, _, h1, h2, h3⟩ := c_COMMON_LENGTHS'; qpx_glob hg_COMMON_LENGTHS h1 h2 h3 (by decide)
  refine qpzs_cons (F1 := zIf (mAnd (m2t oEq (mVar 1) (mC (.int 2))) (mT (mCall m_is_leap (mCons (mVar 0) (mNil))))) (zRet (mC (.int 29))) (SR.next)) (F2 := F_month_length_1) ?_ ?_
  · exact qpz_if cx ((qpxw_and (qpxt_eq hu ((V1.v).read) ((qpx_int).read) (mark_no rfl)) (qpxw_and1 (qyt_val ((qy_call cx k_is_leap rfl hg_is_leap (qys_cons (V0.v) (qpxs_nil) rfl) (by decide) rfl (mlen_cons (mlen_nil))).read) rfl))).t) (qpzs_one (qpz_ret cx (qpx_int))) (qpzs_nil)
  exact qpzs_one (qpz_ret cx (qy_ix ((g_COMMON_LENGTHS).read) ((qpx_sub ((V1.v).read) ((qpx_int).read)).read) rfl))
def L_date_of_1 : Ev → SR := zSeq (zAug 2 (fun i j => i - j) (mCall m_month_length (mCons (mVar 1) (mCons (mVar 3) (mNil))))) (zAug 3 (fun i j => i + j) (mC (.int 1)))
def S_date_of_5 : Ev → SR := zRet (mTup (mCons (mVar 1) (mCons (mVar 3) (mCons (m2 oAdd (mVar 2) (mC (.int 1))) (mNil)))))
def F_date_of_5 : Ev → SR := S_date_of_5
def S_date_of_4 : Ev → SR := whileZ (m2t oGe (mVar 2) (mCall m_month_length (mCons (mVar 1) (mCons (mVar 3) (mNil))))) (L_date_of_1) 20
def F_date_of_4 : Ev → SR := zSeq (S_date_of_4) F_date_of_5
def S_date_of_3 : Ev → SR := zSet 3 (mC (.int 1))
def F_date_of_3 : Ev → SR := zSeq (S_date_of_3) F_date_of_4
def S_date_of_2 : Ev → SR := zSet 2 (m2 oSub (mVar 0) (mCall m_days_ahead_of_year (mCons (mVar 1) (mNil))))
def F_date_of_2 : Ev → SR := zSeq (S_date_of_2) F_date_of_3
def S_date_of_1 : Ev → SR := zSet 1 (mCall m_year_with (mCons (mVar 0) (mNil)))
def F_date_of_1 : Ev → SR := zSeq (S_date_of_1) F_date_of_2
def S_date_of_0 : Ev → SR := zIf (mNot (mT (mCall m_has_number (mCons (mVar 0) (mNil))))) (SR.exc 1) (SR.next)
def F_date_of : Ev → SR := zSeq (S_date_of_0) F_date_of_1
def m_date_of (ds : List D) : R D := finR (F_date_of (startE 4 ds))
theorem s_date_of : FnScope [("number" : Str), ("year" : Str), ("rest" : Str), ("month" : Str)] [("number" : Str)] (defScope (top 16)) := ⟨rfl, rfl, rfl, by decide +kernel, rfl, by decide +kernel, by decide +kernel⟩
theorem d_date_of {κ : Nat → Addr} {X : Cx} {B : Gd} (cx : Cxo X) (hcalm : X.calm = true) (hN : X.N = [("number" : Str), ("year" : Str), ("rest" : Str), ("month" : Str)]) (hsc : X.env.scope = defScope (top 16)) (hfn : ∀ y, X.fn y = true) (hu : X.A.units + 64 < cLine) (k_has_number : Cal κ X ("has_number" : Str) 1 m_has_number) (k_year_with : Cal κ X ("year_with" : Str) 1 m_year_with) (k_days_ahead_of_year : Cal κ X ("days_ahead_of_year" : Str) 1 m_days_ahead_of_year) (k_month_length : Cal κ X ("month_length" : Str) 2 m_month_length) (x_NoSuchDay : ExcAt κ X ("NoSuchDay" : Str) 1) : QZs κ B X (defBody (top 16)) F_date_of := by
  have hnd : X.N.Nodup := by rw [hN]; decide +kernel
  have V0 : VP X 0 ("number" : Str) := vpl cx hnd hfn hN hsc rfl rfl (by decide) (by decide)
  have V1 : VP X 1 ("year" : Str) := vpl cx hnd hfn hN hsc rfl rfl (by decide) (by decide)
  have V2 : VP X 2 ("rest" : Str) := vpl cx hnd hfn hN hsc rfl rfl (by decide) (by decide)
  have V3 : VP X 3 ("month" : Str) := vpl cx hnd hfn hN hsc rfl rfl (by decide) (by decide)
  have hg_has_number : Gl X ("has_number" : Str) := by show X.env.scope.names.lookup ("has_number" : Str) = _; rw [hsc]; rfl
  have hg_year_with : Gl X ("year_with" : Str) := by show X.env.scope.names.lookup ("year_with" : Str) = _; rw [hsc]; rfl
  have hg_days_ahead_of_year : Gl X ("days_ahead_of_year" : Str) := by show X.env.scope.names.lookup ("days_ahead_of_year" : Str) = _; rw [hsc]; rfl
  have hg_month_length : Gl X ("month_length" : Str) := by show X.env.scope.names.lookup ("month_length" : Str) = _; rw [hsc]; rfl
  have hg_NoSuchDay : Gl X ("NoSuchDay" : Str) := by show X.env.scope.names.lookup ("NoSuchDay" : Str) = _; rw [hsc]; rfl
  refine qpzs_cons (F1 := S_date_of_0) (F2 := F_date_of_1) ?_ ?_
  · exact qpz_if cx (qpxt_not (qyt_val ((qy_call cx k_has_number rfl hg_has_number (qys_cons (V0.v) (qpxs_nil) rfl) (by decide) rfl (mlen_cons (mlen_nil))).read) rfl)) (qpzs_one (qpz_raise cx hcalm x_NoSuchDay hg_NoSuchDay (by decide))) (qpzs_nil)
  refine qpzs_cons (F1 := S_date_of_1) (F2 := F_date_of_2) ?_ ?_
  · exact V1.s (qy_call cx k_year_with rfl hg_year_with (qys_cons (V0.v) (qpxs_nil) rfl) (by decide) rfl (mlen_cons (mlen_nil))) rfl
  refine qpzs_cons (F1 := S_date_of_2) (F2 := F_date_of_3) ?_ ?_
  · exact V2.s (qpx_sub ((V0.v).read) ((qy_call cx k_days_ahead_of_year rfl hg_days_ahead_of_year (qys_cons (V1.v) (qpxs_nil) rfl) (by decide) rfl (mlen_cons (mlen_nil))).read)) rfl
  refine qpzs_cons (F1 := S_date_of_3) (F2 := F_date_of_4) ?_ ?_
  · exact V3.s (qpx_int) rfl
  refine qpzs_cons (F1 := S_date_of_4) (F2 := F_date_of_5) ?_ ?_
  · exact qpz_while cx 20 (qpxt_ge ((V2.v).read) ((qy_call cx k_month_length rfl hg_month_length (qys_cons (V1.v) (qys_cons (V3.v) (qpxs_nil) rfl) rfl) (by decide) rfl (mlen_cons (mlen_cons (mlen_nil)))).read) (mark_no rfl)) (qpzs_cons (V2.us (qy_call cx k_month_length rfl hg_month_length (qys_cons (V1.v) (qys_cons (V3.v) (qpxs_nil) rfl) rfl) (by decide) rfl (mlen_cons (mlen_cons (mlen_nil))))) (qpzs_one (V3.ua (qpx_int))))
  exact qpzs_one (qpz_ret cx (qpx_tup (qys_cons (V1.v) (qys_cons (V3.v) (qys_cons (qpx_add ((V2.v).read) ((qpx_int).read)) (qpxs_nil) rfl) rfl) rfl)))
def F_beginnings : Ev → SR := zRet (mL (mComp (fun δ => ((mCons (mC (.int 1)) (mCons (m2 oAdd (m1 oLen (mVar 0)) (mC (.int 1))) (mNil))) δ).bind iR2) (fun _ => .ok true) (mSl (mVar 0) (mNoP) (mP (mVar 1)))))
def m_beginnings (ds : List D) : R D := finR (F_beginnings (startE 1 ds))
theorem s_beginnings : FnScope [("name" : Str)] [("name" : Str)] (defScope (top 34)) := ⟨rfl, rfl, rfl, by decide +kernel, rfl, by decide +kernel, by decide +kernel⟩
theorem d_beginnings {κ : Nat → Addr} {X : Cx} {B : Gd} (cx : Cxo X) (hcalm : X.calm = true) (hN : X.N = [("name" : Str)]) (hsc : X.env.scope = defScope (top 34)) (hfn : ∀ y, X.fn y = true) (hu : X.A.units + 64 < cLine) (b_len : X.mg ("len" : Str) = none) (b_range : X.mg ("range" : Str) = none) : QZs κ B X (defBody (top 34)) F_beginnings := by
  have hnd : X.N.Nodup := by rw [hN]; decide +kernel
  have V0 : VP X 0 ("name" : Str) := vpc cx hnd hfn hN hsc rfl rfl (by decide) (by decide)
  have hg_len : Gl X ("len" : Str) := by show X.env.scope.names.lookup ("len" : Str) = _; rw [hsc]; rfl
  have hg_range : Gl X ("range" : Str) := by show X.env.scope.names.lookup ("range" : Str) = _; rw [hsc]; rfl
  exact qpzs_one (qpz_ret cx ((qcomp_by hcalm ⟨by decide +kernel, rfl, by decide +kernel, rfl, by rw [hN]; decide +kernel, by rw [hsc]; decide +kernel, hnd⟩ (qpicz_range2 hg_range b_range (qys_cons (qpx_int) (qys_cons (qpx_add ((qy_len hg_len b_len ((V0.v).read) rfl).read) ((qpx_int).read)) (qpxs_nil) rfl) rfl) rfl rfl) (fun X' B' hC => by (have cx : Cxo X' := hC.cxo); (have hcalm : X'.calm = true := hC.calm.trans hcalm); (have hu : X'.A.units + 64 < cLine := by rw [hC.A]; exact hu); exact qpts_nil) (fun X' B' hC => by (have cx : Cxo X' := hC.cxo); (have hcalm : X'.calm = true := hC.calm.trans hcalm); (have hu : X'.A.units + 64 < cLine := by rw [hC.A]; exact hu); (have z0 : ∀ {B : Gd} {pos : Pos}, QX κ B X' (.Name ("name" : Str) pos) (mVar 0) := qpx_var 0 (hC.n V0.n) (hC.vis rfl) (by decide) (by decide)); (have z1 : ∀ {B : Gd} {pos : Pos}, QX κ B X' (.Name ("length" : Str) pos) (mVar 1) := qpx_var 1 (hC.x (by rw [hN]; rfl)) (.inl (hC.look rfl (by decide))) (by decide) (by decide)); exact qy_sl ((z0).read) (qpxo_none) (qpxo_some (z1))) rfl).px))
def F_weekday_of_1 : Ev → SR := zRet (m2 oMod (mVar 0) (mC (.int 7)))
def F_weekday_of : Ev → SR := zSeq (zIf (mNot (mT (mCall m_has_number (mCons (mVar 0) (mNil))))) (SR.exc 1) (SR.next)) F_weekday_of_1
def m_weekday_of (ds : List D) : R D := finR (F_weekday_of (startE 1 ds))
theorem s_weekday_of : FnScope [("number" : Str)] [("number" : Str)] (defScope (top 17)) := ⟨rfl, rfl, rfl, by decide +kernel, rfl, by decide +kernel, by decide +kernel⟩
theorem d_weekday_of {κ : Nat → Addr} {X : Cx} {B : Gd} (cx : Cxo X) (hcalm : X.calm = true) (hN : X.N = [("number" : Str)]) (hsc : X.env.scope = defScope (top 17)) (hfn : ∀ y, X.fn y = true) (hu : X.A.units + 64 < cLine) (k_has_number : Cal κ X ("has_number" : Str) 1 m_has_number) (x_NoSuchDay : ExcAt κ X ("NoSuchDay" : Str) 1) : QZs κ B X (defBody (top 17)) F_weekday_of := by
  have hnd : X.N.Nodup := by rw [hN]; decide +kernel
  have V0 : VP X 0 ("number" : Str) := vpl cx hnd hfn hN hsc rfl rfl (by decide) (by decide)
  have hg_has_number : Gl X ("has_number" : Str) := by show X.env.scope.names.lookup ("has_number" : Str) = _; rw [hsc]; rfl
  have hg_NoSuchDay : Gl X ("NoSuchDay" : Str) := by show X.env.scope.names.lookup ("NoSuchDay" : Str) = _; rw [hsc]; rfl
  refine qpzs_cons (F1 := zIf (mNot (mT (mCall m_has_number (mCons (mVar 0) (mNil))))) (SR.exc 1) (SR.next)) (F2 := F_weekday_of_1) ?_ ?_
  · exact qpz_if cx (qpxt_not (qyt_val ((qy_call cx k_has_number rfl hg_has_number (qys_cons (V0.v) (qpxs_nil) rfl) (by decide) rfl (mlen_cons (mlen_nil))).read) rfl)) (qpzs_one (qpz_raise cx hcalm x_NoSuchDay hg_NoSuchDay (by decide))) (qpzs_nil)
  exact qpzs_one (qpz_ret cx (qpx_mod ((V0.v).read) ((qpx_int).read)))
def F_figures_1 : Ev → SR := zRet (mLst (mCons (m1 oStr (mVar 0)) (mNil)))
def F_figures : Ev → SR := zSeq (zIf (m2t oLt (mVar 0) (mC (.int 10))) (zRet (mLst (mCons (m1 oStr (mVar 0)) (mCons (m1 (oFs [48]) (mVar 0)) (mNil))))) (SR.next)) F_figures_1
def m_figures (ds : List D) : R D := finR (F_figures (startE 1 ds))
theorem s_figures : FnScope [("number" : Str)] [("number" : Str)] (defScope (top 33)) := ⟨rfl, rfl, rfl, by decide +kernel, rfl, by decide +kernel, by decide +kernel⟩
theorem d_figures {κ : Nat → Addr} {X : Cx} {B : Gd} (cx : Cxo X) (hcalm : X.calm = true) (hN : X.N = [("number" : Str)]) (hsc : X.env.scope = defScope (top 33)) (hfn : ∀ y, X.fn y = true) (hu : X.A.units + 64 < cLine) (b_str : X.mg ("str" : Str) = none) : QZs κ B X (defBody (top 33)) F_figures := by
  have hnd : X.N.Nodup := by rw [hN]; decide +kernel
  have V0 : VP X 0 ("number" : Str) := vpl cx hnd hfn hN hsc rfl rfl (by decide) (by decide)
  have hg_str : Gl X ("str" : Str) := by show X.env.scope.names.lookup ("str" : Str) = _; rw [hsc]; rfl
  refine qpzs_cons (F1 := zIf (m2t oLt (mVar 0) (mC (.int 10))) (zRet (mLst (mCons (m1 oStr (mVar 0)) (mCons (m1 (oFs [48]) (mVar 0)) (mNil))))) (SR.next)) (F2 := F_figures_1) ?_ ?_
  · exact qpz_if cx (qpxt_lt ((V0.v).read) ((qpx_int).read) (mark_no rfl)) (qpzs_one (qpz_ret cx (qpx_lst (qys_cons (qy_str hg_str b_str ((V0.v).read) rfl) (qys_cons (qy_fstr (l := [48]) (by decide +kernel) (by decide) ((V0.v).read)) (qpxs_nil) rfl) rfl)))) (qpzs_nil)
  exact qpzs_one (qpz_ret cx (qpx_lst (qys_cons (qy_str hg_str b_str ((V0.v).read) rfl) (qpxs_nil) rfl)))
def S_ways_of_day_3 : Ev → SR := zRet (mDisp ([Sum.inr ("d" : Str), Sum.inr ("m" : Str), Sum.inr ("y" : Str), Sum.inr ("Y" : Str), Sum.inr ("n" : Str), Sum.inr ("w" : Str)]) (mCons (mCall m_figures (mCons (m2 oIx (mVar 1) (mC (.int 2))) (mNil))) (mCons (mCall m_figures (mCons (mVar 3) (mNil))) (mCons (mLst (mCons (mBS oZfill (m1 oStr (m2 oMod (mVar 2) (mC (.int 100)))) (mCons (mC (.int 2)) (mNil))) (mNil))) (mCons (mLst (mCons (mBS oZfill (m1 oStr (mVar 2)) (mCons (mC (.int 4)) (mNil))) (mNil))) (mCons (mCall m_beginnings (mCons (m2 oIx (mC c_MONTHS) (m2 oSub (mVar 3) (mC (.int 1)))) (mNil))) (mCons (mCall m_beginnings (mCons (m2 oIx (mC c_WEEKDAYS) (mCall m_weekday_of (mCons (mVar 0) (mNil)))) (mNil))) (mNil))))))))
def F_ways_of_day_3 : Ev → SR := S_ways_of_day_3
def S_ways_of_day_2 : Ev → SR := zSet 3 (m2 oIx (mVar 1) (mC (.int 1)))
def F_ways_of_day_2 : Ev → SR := zSeq (S_ways_of_day_2) F_ways_of_day_3
def S_ways_of_day_1 : Ev → SR := zSet 2 (m2 oIx (mVar 1) (mC (.int 0)))
def F_ways_of_day_1 : Ev → SR := zSeq (S_ways_of_day_1) F_ways_of_day_2
def S_ways_of_day_0 : Ev → SR := zSet 1 (mCall m_date_of (mCons (mVar 0) (mNil)))
def F_ways_of_day : Ev → SR := zSeq (S_ways_of_day_0) F_ways_of_day_1
def m_ways_of_day (ds : List D) : R D := finR (F_ways_of_day (startE 4 ds))
theorem s_ways_of_day : FnScope [("number" : Str), ("date" : Str), ("year" : Str), ("month" : Str)] [("number" : Str)] (defScope (top 35)) := ⟨rfl, rfl, rfl, by decide +kernel, rfl, by decide +kernel, by decide +kernel⟩
theorem d_ways_of_day {κ : Nat → Addr} {X : Cx} {B : Gd} (cx : Cxo X) (hcalm : X.calm = true) (hN : X.N = [("number" : Str), ("date" : Str), ("year" : Str), ("month" : Str)]) (hsc : X.env.scope = defScope (top 35)) (hfn : ∀ y, X.fn y = true) (hu : X.A.units + 64 < cLine) (k_date_of : Cal κ X ("date_of" : Str) 1 m_date_of) (k_beginnings : Cal κ X ("beginnings" : Str) 1 m_beginnings) (k_weekday_of : Cal κ X ("weekday_of" : Str) 1 m_weekday_of) (k_figures : Cal κ X ("figures" : Str) 1 m_figures) (c_WEEKDAYS' : ∃ u v, X.mg ("WEEKDAYS" : Str) = some u ∧ RelV v u ∧ ∀ G, Den ⟨X.K, κ⟩ G v c_WEEKDAYS) (c_MONTHS' : ∃ u v, X.mg ("MONTHS" : Str) = some u ∧ RelV v u ∧ ∀ G, Den ⟨X.K, κ⟩ G v c_MONTHS) (b_str : X.mg ("str" : Str) = none) : QZs κ B X (defBody (top 35)) F_ways_of_day := by
  have hnd : X.N.Nodup := by rw [hN]; decide +kernel
  have V0 : VP X 0 ("number" : Str) := vpl cx hnd hfn hN hsc rfl rfl (by decide) (by decide)
  have V1 : VP X 1 ("date" : Str) := vpl cx hnd hfn hN hsc rfl rfl (by decide) (by decide)
  have V2 : VP X 2 ("year" : Str) := vpl cx hnd hfn hN hsc rfl rfl (by decide) (by decide)
  have V3 : VP X 3 ("month" : Str) := vpl cx hnd hfn hN hsc rfl rfl (by decide) (by decide)
  have hg_date_of : Gl X ("date_of" : Str) := by show X.env.scope.names.lookup ("date_of" : Str) = _; rw [hsc]; rfl
  have hg_beginnings : Gl X ("beginnings" : Str) := by show X.env.scope.names.lookup ("beginnings" : Str) = _; rw [hsc]; rfl
  have hg_weekday_of : Gl X ("weekday_of" : Str) := by show X.env.scope.names.lookup ("weekday_of" : Str) = _; rw [hsc]; rfl
  have hg_figures : Gl X ("figures" : Str) := by show X.env.scope.names.lookup ("figures" : Str) = _; rw [hsc]; rfl
  have hg_WEEKDAYS : Gl X ("WEEKDAYS" : Str) := by show X.env.scope.names.lookup ("WEEKDAYS" : Str) = _; rw [hsc]; rfl
  have hg_MONTHS : Gl X ("MONTHS" : Str) := by show X.env.scope.names.lookup ("MONTHS" : Str) = _; rw [hsc]; rfl
  have hg_str : Gl X ("str" : Str) := by show X.env.scope.names.lookup ("str" : Str) = _; rw [hsc]; rfl
  have g_WEEKDAYS : ∀ {B : Gd} {pos : Pos}, QX κ B X (.Name ("WEEKDAYS" : Str) pos) (mC c_WEEKDAYS) := let ⟨_, _, h1, h2, h3⟩ := c_WEEKDAYS'; qpx_glob hg_WEEKDAYS h1 h2 h3 (by decide)
  have g_MONTHS : ∀ {B : Gd} {pos : Pos}, QX κ B X (.Name ("MONTHS" : Str) pos) (mC c_MONTHS) := let ⟨_, _, h1, h2, h3⟩ := c_MONTHS'; qpx_glob hg_MONTHS h1 h2 h3 (by decide)
  refine qpzs_cons (F1 := S_ways_of_day_0) (F2 := F_ways_of_day_1) ?_ ?_
  · exact V1.s (qy_call cx k_date_of rfl hg_date_of (qys_cons (V0.v) (qpxs_nil) rfl) (by decide) rfl (mlen_cons (mlen_nil))) rfl
  refine qpzs_cons (F1 := S_ways_of_day_1) (F2 := F_ways_of_day_2) ?_ ?_
  · exact V2.s (qy_ix ((V1.v).read) ((qpx_int).read) rfl) rfl
  refine qpzs_cons (F1 := S_ways_of_day_2) (F2 := F_ways_of_day_3) ?_ ?_
  · exact V3.s (qy_ix ((V1.v).read) ((qpx_int).read) rfl) rfl
  exact qpzs_one (qpz_ret cx (qpx_disp (qpxd_cons (qy_call cx k_figures rfl hg_figures (qys_cons (qy_ix ((V1.v).read) ((qpx_int).read) rfl) (qpxs_nil) rfl) (by decide) rfl (mlen_cons (mlen_nil))) (qpxd_cons (qy_call cx k_figures rfl hg_figures (qys_cons (V3.v) (qpxs_nil) rfl) (by decide) rfl (mlen_cons (mlen_nil))) (qpxd_cons (qpx_lst (qys_cons (qy_zfill ((qy_str hg_str b_str ((qpx_mod ((V2.v).read) ((qpx_int).read)).read) rfl).read) (qys_cons (qpx_int) (qpxs_nil) rfl) rfl rfl rfl) (qpxs_nil) rfl)) (qpxd_cons (qpx_lst (qys_cons (qy_zfill ((qy_str hg_str b_str ((V2.v).read) rfl).read) (qys_cons (qpx_int) (qpxs_nil) rfl) rfl rfl rfl) (qpxs_nil) rfl)) (qpxd_cons (qy_call cx k_beginnings rfl hg_beginnings (qys_cons (qy_ix ((g_MONTHS).read) ((qpx_sub ((V3.v).read) ((qpx_int).read)).read) rfl) (qpxs_nil) rfl) (by decide) rfl (mlen_cons (mlen_nil))) (qpxd_cons (qy_call cx k_beginnings rfl hg_beginnings (qys_cons (qy_ix ((g_WEEKDAYS).read) ((qy_call cx k_weekday_of rfl hg_weekday_of (qys_cons (V0.v) (qpxs_nil) rfl) (by decide) rfl (mlen_cons (mlen_nil))).read) rfl) (qpxs_nil) rfl) (by decide) rfl (mlen_cons (mlen_nil))) (qpxd_nil))))))) (by simp) (by decide) (by decide +kernel)))
def S_fits_2 : Ev → SR := zRet (mCall m_is_written (mCons (mVar 3) (mCons (mCall m_ways_of_day (mCons (mVar 2) (mNil))) (mCons (mVar 1) (mNil)))))
def F_fits_2 : Ev → SR := S_fits_2
def S_fits_1 : Ev → SR := zDrop (mCall m_check_text (mCons (mVar 1) (mNil)))
def F_fits_1 : Ev → SR := zSeq (S_fits_1) F_fits_2
def S_fits_0 : Ev → SR := zSet 3 (mCall m_parts_of_form (mCons (mVar 0) (mNil)))
def F_fits : Ev → SR := zSeq (S_fits_0) F_fits_1
def m_fits (ds : List D) : R D := finR (F_fits (startE 4 ds))
theorem s_fits : FnScope [("form" : Str), ("text" : Str), ("number" : Str), ("parts" : Str)] [("form" : Str), ("text" : Str), ("number" : Str)] (defScope (top 39)) := ⟨rfl, rfl, rfl, by decide +kernel, rfl, by decide +kernel, by decide +kernel⟩
theorem d_fits {κ : Nat → Addr} {X : Cx} {B : Gd} (cx : Cxo X) (hcalm : X.calm = true) (hN : X.N = [("form" : Str), ("text" : Str), ("number" : Str), ("parts" : Str)]) (hsc : X.env.scope = defScope (top 39)) (hfn : ∀ y, X.fn y = true) (hu : X.A.units + 64 < cLine) (k_parts_of_form : Cal κ X ("parts_of_form" : Str) 1 m_parts_of_form) (k_check_text : Cal κ X ("check_text" : Str) 1 m_check_text) (k_is_written : Cal κ X ("is_written" : Str) 3 m_is_written) (k_ways_of_day : Cal κ X ("ways_of_day" : Str) 1 m_ways_of_day) : QZs κ B X (defBody (top 39)) F_fits := by
  have hnd : X.N.Nodup := by rw [hN]; decide +kernel
  have V0 : VP X 0 ("form" : Str) := vpl cx hnd hfn hN hsc rfl rfl (by decide) (by decide)
  have V1 : VP X 1 ("text" : Str) := vpl cx hnd hfn hN hsc rfl rfl (by decide) (by decide)
  have V2 : VP X 2 ("number" : Str) := vpl cx hnd hfn hN hsc rfl rfl (by decide) (by decide)
  have V3 : VP X 3 ("parts" : Str) := vpl cx hnd hfn hN hsc rfl rfl (by decide) (by decide)
  have hg_parts_of_form : Gl X ("parts_of_form" : Str) := by show X.env.scope.names.lookup ("parts_of_form" : Str) = _; rw [hsc]; rfl
  have hg_check_text : Gl X ("check_text" : Str) := by show X.env.scope.names.lookup ("check_text" : Str) = _; rw [hsc]; rfl
  have hg_is_written : Gl X ("is_written" : Str) := by show X.env.scope.names.lookup ("is_written" : Str) = _; rw [hsc]; rfl
  have hg_ways_of_day : Gl X ("ways_of_day" : Str) := by show X.env.scope.names.lookup ("ways_of_day" : Str) = _; rw [hsc]; rfl
  refine qpzs_cons (F1 := S_fits_0) (F2 := F_fits_1) ?_ ?_
  · exact V3.s (qy_call cx k_parts_of_form rfl hg_parts_of_form (qys_cons (V0.v) (qpxs_nil) rfl) (by decide) rfl (mlen_cons (mlen_nil))) rfl
  refine qpzs_cons (F1 := S_fits_1) (F2 := F_fits_2) ?_ ?_
  · exact qy_expr cx (qy_call cx k_check_text rfl hg_check_text (qys_cons (V1.v) (qpxs_nil) rfl) (by decide) rfl (mlen_cons (mlen_nil))) rfl
  exact qpzs_one (qpz_ret cx (qy_call cx k_is_written rfl hg_is_written (qys_cons (V3.v) (qys_cons (qy_call cx k_ways_of_day rfl hg_ways_of_day (qys_cons (V2.v) (qpxs_nil) rfl) (by decide) rfl (mlen_cons (mlen_nil))) (qys_cons (V1.v) (qpxs_nil) rfl) rfl) rfl) (by decide) rfl (mlen_cons (mlen_cons (mlen_cons (mlen_nil))))))
def L_law_number_1 : Ev → SR := zSet 4 (m2 oAdd (mVar 4) (mCall m_law_month (mCons (mVar 0) (mCons (mVar 5) (mNil)))))
def S_law_number_3 : Ev → SR := zRet (mVar 4)
def F_law_number_3 : Ev → SR := S_law_number_3
def S_law_number_2 : Ev → SR := zFor (fun δ => ((mCons (mC (.int 1)) (mCons (mVar 1) (mNil))) δ).bind iR2) (bN 5) (L_law_number_1)
def F_law_number_2 : Ev → SR := zSeq (S_law_number_2) F_law_number_3
def S_law_number_1 : Ev → SR := zSet 4 (m2 oSub (m2 oAdd (m2 oAdd (m2 oSub (m2 oAdd (m2 oMul (mC (.int 365)) (mVar 3)) (m2 oDiv (mVar 3) (mC (.int 4)))) (m2 oDiv (mVar 3) (mC (.int 100)))) (m2 oDiv (mVar 3) (mC (.int 400)))) (mVar 2)) (mC (.int 1)))
def F_law_number_1 : Ev → SR := zSeq (S_law_number_1) F_law_number_2
def S_law_number_0 : Ev → SR := zSet 3 (m2 oSub (mVar 0) (mC (.int 1)))
def F_law_number : Ev → SR := zSeq (S_law_number_0) F_law_number_1
def m_law_number (ds : List D) : R D := finR (F_law_number (startE 6 ds))
theorem s_law_number : FnScope [("_law_year" : Str), ("_law_month_here" : Str), ("_law_day" : Str), ("_law_past" : Str), ("_law_number_here" : Str), ("_law_k" : Str)] [("_law_year" : Str), ("_law_month_here" : Str), ("_law_day" : Str)] (defScope (top 46)) := ⟨rfl, rfl, rfl, by decide +kernel, rfl, by decide +kernel, by decide +kernel⟩
theorem d_law_number {κ : Nat → Addr} {X : Cx} {B : Gd} (cx : Cxo X) (hcalm : X.calm = true) (hN : X.N = [("_law_year" : Str), ("_law_month_here" : Str), ("_law_day" : Str), ("_law_past" : Str), ("_law_number_here" : Str), ("_law_k" : Str)]) (hsc : X.env.scope = defScope (top 46)) (hfn : ∀ y, X.fn y = true) (hu : X.A.units + 64 < cLine) (k_law_month : Cal κ X ("_law_month" : Str) 2 m_law_month) (b_range : X.mg ("range" : Str) = none) : QZs κ B X (defBody (top 46)) F_law_number := by
  have hnd : X.N.Nodup := by rw [hN]; decide +kernel
  have V0 : VP X 0 ("_law_year" : Str) := vpl cx hnd hfn hN hsc rfl rfl (by decide) (by decide)
  have V1 : VP X 1 ("_law_month_here" : Str) := vpl cx hnd hfn hN hsc rfl rfl (by decide) (by decide)
  have V2 : VP X 2 ("_law_day" : Str) := vpl cx hnd hfn hN hsc rfl rfl (by decide) (by decide)
  have V3 : VP X 3 ("_law_past" : Str) := vpl cx hnd hfn hN hsc rfl rfl (by decide) (by decide)
  have V4 : VP X 4 ("_law_number_here" : Str) := vpl cx hnd hfn hN hsc rfl rfl (by decide) (by decide)
  have V5 : VP X 5 ("_law_k" : Str) := vpl cx hnd hfn hN hsc rfl rfl (by decide) (by decide)
  have hg_law_month : Gl X ("_law_month" : Str) := by show X.env.scope.names.lookup ("_law_month" : Str) = _; rw [hsc]; rfl
  have hg_range : Gl X ("range" : Str) := by show X.env.scope.names.lookup ("range" : Str) = _; rw [hsc]; rfl
  refine qpzs_cons (F1 := S_law_number_0) (F2 := F_law_number_1) ?_ ?_
  · exact V3.s (qpx_sub ((V0.v).read) ((qpx_int).read)) rfl
  refine qpzs_cons (F1 := S_law_number_1) (F2 := F_law_number_2) ?_ ?_
  · exact V4.s (qpx_sub ((qpx_add ((qpx_add ((qpx_sub ((qpx_add ((qpx_mulI ((qpx_int).read) ((V3.v).read)).read) ((qpx_div ((V3.v).read) ((qpx_int).read)).read)).read) ((qpx_div ((V3.v).read) ((qpx_int).read)).read)).read) ((qpx_div ((V3.v).read) ((qpx_int).read)).read)).read) ((V2.v).read)).read) ((qpx_int).read)) rfl
  refine qpzs_cons (F1 := S_law_number_2) (F2 := F_law_number_3) ?_ ?_
  · exact qy_for cx hcalm (qyi_range2 hg_range b_range (qys_cons (qpx_int) (qys_cons (V1.v) (qpxs_nil) rfl) rfl) rfl rfl) (fun B => V5.t) (fun B => qpzs_one (V4.s (qpx_add ((V4.v).read) ((qy_call cx k_law_month rfl hg_law_month (qys_cons (V0.v) (qys_cons (V5.v) (qpxs_nil) rfl) rfl) (by decide) rfl (mlen_cons (mlen_cons (mlen_nil)))).read)) rfl)) rfl
  exact qpzs_one (qpz_ret cx (V4.v))
def S_law_9 : Ev → SR := zRet (mAndV (m1 (fun x => blR (isTy x .bool)) (mVar 8)) (m2 (op2 oEq) (mVar 8) (m2 (op2 oIn) (mVar 7) (mVar 5))))
def F_law_9 : Ev → SR := S_law_9
def S_law_8 : Ev → SR := zSet 8 (mCall m_fits (mCons (mVar 4) (mCons (mVar 7) (mCons (mCall m_law_number (mCons (mVar 1) (mCons (mVar 2) (mCons (mVar 3) (mNil))))) (mNil)))))
def F_law_8 : Ev → SR := zSeq (S_law_8) F_law_9
def S_law_7 : Ev → SR := zIf (m2t oEq (mVar 7) (mC (.str []))) (zSet 7 (mVar 6)) (SR.next)
def F_law_7 : Ev → SR := zSeq (S_law_7) F_law_8
def S_law_6 : Ev → SR := zSet 7 (mCall m_law_text (mCons (mVar 6) (mCons (m2 oMod (mCall m_law_at (mCons (mVar 0) (mCons (mC (.int 3)) (mNil)))) (mC (.int 7))) (mCons (mCall m_law_at (mCons (mVar 0) (mCons (mC (.int 4)) (mNil)))) (mNil)))))
def F_law_6 : Ev → SR := zSeq (S_law_6) F_law_7
def S_law_5 : Ev → SR := zSet 6 (m2 oIx (mVar 5) (m2 oMod (m2 oDiv (mCall m_law_at (mCons (mVar 0) (mCons (mC (.int 2)) (mNil)))) (mC (.int 4))) (m1 oLen (mVar 5))))
def F_law_5 : Ev → SR := zSeq (S_law_5) F_law_6
def S_law_4 : Ev → SR := zSet 5 (mCall m_law_ways (mCons (mVar 4) (mCons (mTup (mCons (mVar 1) (mCons (mVar 2) (mCons (mVar 3) (mNil))))) (mNil))))
def F_law_4 : Ev → SR := zSeq (S_law_4) F_law_5
def S_law_3 : Ev → SR := zSet 4 (m2 oIx (mLst (fun _ => .ok [D.str [60, 100, 62], D.str [60, 109, 62], D.str [60, 121, 62], D.str [60, 89, 62]])) (m2 oMod (mCall m_law_at (mCons (mVar 0) (mCons (mC (.int 2)) (mNil)))) (mC (.int 4))))
def F_law_3 : Ev → SR := zSeq (S_law_3) F_law_4
def S_law_2 : Ev → SR := zIf (m2t oEq (m2 oMod (m2 oDiv (mCall m_law_at (mCons (mVar 0) (mCons (mC (.int 1)) (mNil)))) (mC (.int 2))) (mC (.int 3))) (mC (.int 2))) (zSeq (zSet 2 (m2 oIx (mLst (mCons (mC (.int 1)) (mCons (mC (.int 3)) (mCons (mC (.int 5)) (mCons (mC (.int 7)) (mCons (mC (.int 8)) (mCons (mC (.int 10)) (mCons (mC (.int 12)) (mCons (mVar 2) (mNil)))))))))) (m2 oMod (mVar 2) (mC (.int 8))))) (zSet 3 (mCall m_law_month (mCons (mVar 1) (mCons (mVar 2) (mNil)))))) (SR.next)
def F_law_2 : Ev → SR := zSeq (S_law_2) F_law_3
def S_law_1 : Ev → SR := zIf (m2t oEq (m2 oMod (m2 oDiv (mCall m_law_at (mCons (mVar 0) (mCons (mC (.int 1)) (mNil)))) (mC (.int 2))) (mC (.int 3))) (mC (.int 1))) (zSeq (zSet 1 (m2 oAdd (mC (.int 1)) (m2 oMod (mVar 1) (mC (.int 20))))) (zSet 3 (mCB oMin (mCons (mVar 3) (mCons (mC (.int 28)) (mNil)))))) (SR.next)
def F_law_1 : Ev → SR := zSeq (S_law_1) F_law_2
def S_law_0 : Ev → SR := zAsg (bTup 3 (bsCons (bN 1) (bsCons (bN 2) (bsCons (bN 3) (bsNil))))) (mCall m_law_first (mCons (mCall m_law_at (mCons (mVar 0) (mCons (mC (.int 0)) (mNil)))) (mCons (m2 (op2 oEq) (m2 oMod (mCall m_law_at (mCons (mVar 0) (mCons (mC (.int 1)) (mNil)))) (mC (.int 2))) (mC (.int 0))) (mNil))))
def F_law : Ev → SR := zSeq (S_law_0) F_law_1
def m_law (ds : List D) : R D := finR (F_law (startE 9 ds))
theorem s_law : FnScope [("_law_script" : Str), ("_law_year" : Str), ("_law_month_here" : Str), ("_law_day" : Str), ("_law_token" : Str), ("_law_ways_here" : Str), ("_law_way" : Str), ("_law_text_here" : Str), ("_law_found" : Str)] [("_law_script" : Str)] (defScope (top 49)) := ⟨rfl, rfl, rfl, by decide +kernel, rfl, by decide +kernel, by decide +kernel⟩
theorem d_law {κ : Nat → Addr} {X : Cx} {B : Gd} (cx : Cxo X) (hcalm : X.calm = true) (hN : X.N = [("_law_script" : Str), ("_law_year" : Str), ("_law_month_here" : Str), ("_law_day" : Str), ("_law_token" : Str), ("_law_ways_here" : Str), ("_law_way" : Str), ("_law_text_here" : Str), ("_law_found" : Str)]) (hsc : X.env.scope = defScope (top 49)) (hfn : ∀ y, X.fn y = true) (hu : X.A.units + 64 < cLine) (k_law_first : Cal κ X ("_law_first" : Str) 2 m_law_first) (k_law_at : Cal κ X ("_law_at" : Str) 2 m_law_at) (k_law_month : Cal κ X ("_law_month" : Str) 2 m_law_month) (k_law_ways : Cal κ X ("_law_ways" : Str) 2 m_law_ways) (k_law_text : Cal κ X ("_law_text" : Str) 3 m_law_text) (k_fits : Cal κ X ("fits" : Str) 3 m_fits) (k_law_number : Cal κ X ("_law_number" : Str) 3 m_law_number) (b_bool : X.mg ("bool" : Str) = none) (b_isinstance : X.mg ("isinstance" : Str) = none) (b_len : X.mg ("len" : Str) = none) (b_min : X.mg ("min" : Str) = none) : QZs κ B X (defBody (top 49)) F_law := by
  have hnd : X.N.Nodup := by rw [hN]; decide +kernel
  have V0 : VP X 0 ("_law_script" : Str) := vpl cx hnd hfn hN hsc rfl rfl (by decide) (by decide)
  have V1 : VP X 1 ("_law_year" : Str) := vpl cx hnd hfn hN hsc rfl rfl (by decide) (by decide)
  have V2 : VP X 2 ("_law_month_here" : Str) := vpl cx hnd hfn hN hsc rfl rfl (by decide) (by decide)
  have V3 : VP X 3 ("_law_day" : Str) := vpl cx hnd hfn hN hsc rfl rfl (by decide) (by decide)
  have V4 : VP X 4 ("_law_token" : Str) := vpl cx hnd hfn hN hsc rfl rfl (by decide) (by decide)
  have V5 : VP X 5 ("_law_ways_here" : Str) := vpl cx hnd hfn hN hsc rfl rfl (by decide) (by decide)
  have V6 : VP X 6 ("_law_way" : Str) := vpl cx hnd hfn hN hsc rfl rfl (by decide) (by decide)
  have V7 : VP X 7 ("_law_text_here" : Str) := vpl cx hnd hfn hN hsc rfl rfl (by decide) (by decide)
  have V8 : VP X 8 ("_law_found" : Str) := vpl cx hnd hfn hN hsc rfl rfl (by decide) (by decide)
  have hg_law_first : Gl X ("_law_first" : Str) := by show X.env.scope.names.lookup ("_law_first" : Str) = _; rw [hsc]; rfl
  have hg_law_at : Gl X ("_law_at" : Str) := by show X.env.scope.names.lookup ("_law_at" : Str) = _; rw [hsc]; rfl
  have hg_law_month : Gl X ("_law_month" : Str) := by show X.env.scope.names.lookup ("_law_month" : Str) = _; rw [hsc]; rfl
  have hg_law_ways : Gl X ("_law_ways" : Str) := by show X.env.scope.names.lookup ("_law_ways" : Str) = _; rw [hsc]; rfl
  have hg_law_text : Gl X ("_law_text" : Str) := by show X.env.scope.names.lookup ("_law_text" : Str) = _; rw [hsc]; rfl
  have hg_fits : Gl X ("fits" : Str) := by show X.env.scope.names.lookup ("fits" : Str) = _; rw [hsc]; rfl
  have hg_law_number : Gl X ("_law_number" : Str) := by show X.env.scope.names.lookup ("_law_number" : Str) = _; rw [hsc]; rfl
  have hg_bool : Gl X ("bool" : Str) := by show X.env.scope.names.lookup ("bool" : Str) = _; rw [hsc]; rfl
  have hg_isinstance : Gl X ("isinstance" : Str) := by show X.env.scope.names.lookup ("isinstance" : Str) = _; rw [hsc]; rfl
  have hg_len : Gl X ("len" : Str) := by show X.env.scope.names.lookup ("len" : Str) = _; rw [hsc]; rfl
  have hg_min : Gl X ("min" : Str) := by show X.env.scope.names.lookup ("min" : Str) = _; rw [hsc]; rfl
  refine qpzs_cons (F1 := S_law_0) (F2 := F_law_1) ?_ ?_
  · exact qy_asg cx (qy_call cx k_law_first rfl hg_law_first (qys_cons (qy_call cx k_law_at rfl hg_law_at (qys_cons (V0.v) (qys_cons (qpx_int) (qpxs_nil) rfl) rfl) (by decide) rfl (mlen_cons (mlen_cons (mlen_nil)))) (qys_cons (qpx_eq hu ((qpx_mod ((qy_call cx k_law_at rfl hg_law_at (qys_cons (V0.v) (qys_cons (qpx_int) (qpxs_nil) rfl) rfl) (by decide) rfl (mlen_cons (mlen_cons (mlen_nil)))).read) ((qpx_int).read)).read) ((qpx_int).read) (mark_no rfl)) (qpxs_nil) rfl) rfl) (by decide) rfl (mlen_cons (mlen_cons (mlen_nil)))) (qy_tup hcalm (qy_cons (V1.t) (qy_cons (V2.t) (qy_cons (V3.t) (qpgzs_nil) rfl) rfl) rfl) rfl rfl) rfl rfl rfl
  refine qpzs_cons (F1 := S_law_1) (F2 := F_law_2) ?_ ?_
  · exact qpz_if cx (qpxt_eq hu ((qpx_mod ((qpx_div ((qy_call cx k_law_at rfl hg_law_at (qys_cons (V0.v) (qys_cons (qpx_int) (qpxs_nil) rfl) rfl) (by decide) rfl (mlen_cons (mlen_cons (mlen_nil)))).read) ((qpx_int).read)).read) ((qpx_int).read)).read) ((qpx_int).read) (mark_no rfl)) (qpzs_cons (V1.s (qpx_add ((qpx_int).read) ((qpx_mod ((V1.v).read) ((qpx_int).read)).read)) rfl) (qpzs_one (V3.s (qy_min hcalm hg_min b_min (qys_cons (V3.v) (qys_cons (qpx_int) (qpxs_nil) rfl) rfl) rfl rfl) rfl))) (qpzs_nil)
  refine qpzs_cons (F1 := S_law_2) (F2 := F_law_3) ?_ ?_
  · exact qpz_if cx (qpxt_eq hu ((qpx_mod ((qpx_div ((qy_call cx k_law_at rfl hg_law_at (qys_cons (V0.v) (qys_cons (qpx_int) (qpxs_nil) rfl) rfl) (by decide) rfl (mlen_cons (mlen_cons (mlen_nil)))).read) ((qpx_int).read)).read) ((qpx_int).read)).read) ((qpx_int).read) (mark_no rfl)) (qpzs_cons (V2.s (qy_ix ((qpx_lst (qys_cons (qpx_int) (qys_cons (qpx_int) (qys_cons (qpx_int) (qys_cons (qpx_int) (qys_cons (qpx_int) (qys_cons (qpx_int) (qys_cons (qpx_int) (qys_cons (V2.v) (qpxs_nil) rfl) rfl) rfl) rfl) rfl) rfl) rfl) rfl)).read) ((qpx_mod ((V2.v).read) ((qpx_int).read)).read) rfl) rfl) (qpzs_one (V3.s (qy_call cx k_law_month rfl hg_law_month (qys_cons (V1.v) (qys_cons (V2.v) (qpxs_nil) rfl) rfl) (by decide) rfl (mlen_cons (mlen_cons (mlen_nil)))) rfl))) (qpzs_nil)
  refine qpzs_cons (F1 := S_law_3) (F2 := F_law_4) ?_ ?_
  · exact V4.s (qy_ix ((qpx_lst (qys_consts (ds := [D.str [60, 100, 62], D.str [60, 109, 62], D.str [60, 121, 62], D.str [60, 89, 62]]) (by rfl))).read) ((qpx_mod ((qy_call cx k_law_at rfl hg_law_at (qys_cons (V0.v) (qys_cons (qpx_int) (qpxs_nil) rfl) rfl) (by decide) rfl (mlen_cons (mlen_cons (mlen_nil)))).read) ((qpx_int).read)).read) rfl) rfl
  refine qpzs_cons (F1 := S_law_4) (F2 := F_law_5) ?_ ?_
  · exact V5.s (qy_call cx k_law_ways rfl hg_law_ways (qys_cons (V4.v) (qys_cons (qpx_tup (qys_cons (V1.v) (qys_cons (V2.v) (qys_cons (V3.v) (qpxs_nil) rfl) rfl) rfl)) (qpxs_nil) rfl) rfl) (by decide) rfl (mlen_cons (mlen_cons (mlen_nil)))) rfl
  refine qpzs_cons (F1 := S_law_5) (F2 := F_law_6) ?_ ?_
  · exact V6.s (qy_ix ((V5.v).read) ((qpx_mod ((qpx_div ((qy_call cx k_law_at rfl hg_law_at (qys_cons (V0.v) (qys_cons (qpx_int) (qpxs_nil) rfl) rfl) (by decide) rfl (mlen_cons (mlen_cons (mlen_nil)))).read) ((qpx_int).read)).read) ((qy_len hg_len b_len ((V5.v).read) rfl).read)).read) rfl) rfl
  refine qpzs_cons (F1 := S_law_6) (F2 := F_law_7) ?_ ?_
  · exact V7.s (qy_call cx k_law_text rfl hg_law_text (qys_cons (V6.v) (qys_cons (qpx_mod ((qy_call cx k_law_at rfl hg_law_at (qys_cons (V0.v) (qys_cons (qpx_int) (qpxs_nil) rfl) rfl) (by decide) rfl (mlen_cons (mlen_cons (mlen_nil)))).read) ((qpx_int).read)) (qys_cons (qy_call cx k_law_at rfl hg_law_at (qys_cons (V0.v) (qys_cons (qpx_int) (qpxs_nil) rfl) rfl) (by decide) rfl (mlen_cons (mlen_cons (mlen_nil)))) (qpxs_nil) rfl) rfl) rfl) (by decide) rfl (mlen_cons (mlen_cons (mlen_cons (mlen_nil))))) rfl
  refine qpzs_cons (F1 := S_law_7) (F2 := F_law_8) ?_ ?_
  · exact qpz_if cx (qpxt_eq hu ((V7.v).read) ((qpx_str (l := []) (by decide +kernel)).read) (mark_no rfl)) (qpzs_one (V7.s (V6.v) rfl)) (qpzs_nil)
  refine qpzs_cons (F1 := S_law_8) (F2 := F_law_9) ?_ ?_
  · exact V8.s (qy_call cx k_fits rfl hg_fits (qys_cons (V4.v) (qys_cons (V7.v) (qys_cons (qy_call cx k_law_number rfl hg_law_number (qys_cons (V1.v) (qys_cons (V2.v) (qys_cons (V3.v) (qpxs_nil) rfl) rfl) rfl) (by decide) rfl (mlen_cons (mlen_cons (mlen_cons (mlen_nil))))) (qpxs_nil) rfl) rfl) rfl) (by decide) rfl (mlen_cons (mlen_cons (mlen_cons (mlen_nil))))) rfl
  exact qpzs_one (qpz_ret cx (qpx_and (qy_isinst .bool (by decide +kernel) hg_isinstance b_isinstance hg_bool b_bool (by decide) (by decide) ((V8.v).read) rfl) (qpx_one (qpx_eq hu ((V8.v).read) ((qpx_in hu ((V7.v).read) ((V5.v).read) (mark_no rfl)).read) (mark_no rfl)))))
structure TX (K : PySem.W.Frag) (mg : Str → Option Value) (κ : Nat → Addr) : Prop where
  fn_law_leap : FT K mg ("_law_leap" : Str) (top 43) [("_law_year" : Str)]
  fn_law_month : FT K mg ("_law_month" : Str) (top 44) [("_law_year" : Str), ("_law_month_here" : Str)]
  fn_law_first : FT K mg ("_law_first" : Str) (top 45) [("_law_cell" : Str), ("_law_mixed" : Str)]
  fn_law_at : FT K mg ("_law_at" : Str) (top 41) [("_law_script" : Str), ("_law_k" : Str)]
  fn_law_ways : FT K mg ("_law_ways" : Str) (top 47) [("_law_token" : Str), ("_law_when" : Str)]
  fn_law_draws : FT K mg ("_law_draws" : Str) (top 42) [("_law_cell" : Str), ("_law_mixed" : Str), ("_law_many" : Str), ("_law_most" : Str)]
  fn_law_text : FT K mg ("_law_text" : Str) (top 48) [("_law_way" : Str), ("_law_pick" : Str), ("_law_more" : Str)]
  fn_split_into_parts : FT K mg ("split_into_parts" : Str) (top 31) [("pieces" : Str)]
  fn_token_at : FT K mg ("token_at" : Str) (top 23) [("form" : Str), ("start" : Str)]
  fn_cut_into_tokens : FT K mg ("cut_into_tokens" : Str) (top 24) [("form" : Str)]
  fn_piece_of : FT K mg ("piece_of" : Str) (top 25) [("token" : Str), ("part" : Str)]
  fn_number_pieces : FT K mg ("number_pieces" : Str) (top 26) [("tokens" : Str)]
  fn_read_form : FT K mg ("read_form" : Str) (top 27) [("form" : Str)]
  fn_parts_of_form : FT K mg ("parts_of_form" : Str) (top 32) [("form" : Str)]
  fn_check_text : FT K mg ("check_text" : Str) (top 30) [("text" : Str)]
  fn_ends_of_piece : FT K mg ("ends_of_piece" : Str) (top 36) [("written" : Str), ("text" : Str), ("starts" : Str)]
  fn_ends_of_part : FT K mg ("ends_of_part" : Str) (top 37) [("part" : Str), ("ways" : Str), ("text" : Str), ("starts" : Str)]
  fn_is_written : FT K mg ("is_written" : Str) (top 38) [("parts" : Str), ("ways" : Str), ("text" : Str)]
  fn_has_number : FT K mg ("has_number" : Str) (top 14) [("number" : Str)]
  fn_days_ahead_of_year : FT K mg ("days_ahead_of_year" : Str) (top 13) [("year" : Str)]
  fn_year_with : FT K mg ("year_with" : Str) (top 15) [("number" : Str)]
  fn_is_leap : FT K mg ("is_leap" : Str) (top 11) [("year" : Str)]
  fn_month_length : FT K mg ("month_length" : Str) (top 12) [("year" : Str), ("month" : Str)]
  fn_date_of : FT K mg ("date_of" : Str) (top 16) [("number" : Str)]
  fn_beginnings : FT K mg ("beginnings" : Str) (top 34) [("name" : Str)]
  fn_weekday_of : FT K mg ("weekday_of" : Str) (top 17) [("number" : Str)]
  fn_figures : FT K mg ("figures" : Str) (top 33) [("number" : Str)]
  fn_ways_of_day : FT K mg ("ways_of_day" : Str) (top 35) [("number" : Str)]
  fn_fits : FT K mg ("fits" : Str) (top 39) [("form" : Str), ("text" : Str), ("number" : Str)]
  fn_law_number : FT K mg ("_law_number" : Str) (top 46) [("_law_year" : Str), ("_law_month_here" : Str), ("_law_day" : Str)]
  fn_law : FT K mg ("law" : Str) (top 49) [("_law_script" : Str)]
  c_PLACES : ∃ u v, mg ("PLACES" : Str) = some u ∧ RelV v u ∧ ∀ G, Den ⟨K, κ⟩ G v Lw.c_PLACES
  c_PLAIN_SIGNS : ∃ u v, mg ("PLAIN_SIGNS" : Str) = some u ∧ RelV v u ∧ ∀ G, Den ⟨K, κ⟩ G v Lw.c_PLAIN_SIGNS
  c_MOST_LACKING_PARTS : ∃ u v, mg ("MOST_LACKING_PARTS" : Str) = some u ∧ RelV v u ∧ ∀ G, Den ⟨K, κ⟩ G v Lw.c_MOST_LACKING_PARTS
  c_LONGEST_FORM : ∃ u v, mg ("LONGEST_FORM" : Str) = some u ∧ RelV v u ∧ ∀ G, Den ⟨K, κ⟩ G v Lw.c_LONGEST_FORM
  c_LONGEST_TEXT : ∃ u v, mg ("LONGEST_TEXT" : Str) = some u ∧ RelV v u ∧ ∀ G, Den ⟨K, κ⟩ G v Lw.c_LONGEST_TEXT
  c_LAST_NUMBER : ∃ u v, mg ("LAST_NUMBER" : Str) = some u ∧ RelV v u ∧ ∀ G, Den ⟨K, κ⟩ G v Lw.c_LAST_NUMBER
  c_DAYS_OF_400_YEARS : ∃ u v, mg ("DAYS_OF_400_YEARS" : Str) = some u ∧ RelV v u ∧ ∀ G, Den ⟨K, κ⟩ G v Lw.c_DAYS_OF_400_YEARS
  c_COMMON_LENGTHS : ∃ u v, mg ("COMMON_LENGTHS" : Str) = some u ∧ RelV v u ∧ ∀ G, Den ⟨K, κ⟩ G v Lw.c_COMMON_LENGTHS
  c_WEEKDAYS : ∃ u v, mg ("WEEKDAYS" : Str) = some u ∧ RelV v u ∧ ∀ G, Den ⟨K, κ⟩ G v Lw.c_WEEKDAYS
  c_MONTHS : ∃ u v, mg ("MONTHS" : Str) = some u ∧ RelV v u ∧ ∀ G, Den ⟨K, κ⟩ G v Lw.c_MONTHS
  b_bool : mg ("bool" : Str) = none
  b_enumerate : mg ("enumerate" : Str) = none
  b_int : mg ("int" : Str) = none
  b_isinstance : mg ("isinstance" : Str) = none
  b_len : mg ("len" : Str) = none
  b_min : mg ("min" : Str) = none
  b_range : mg ("range" : Str) = none
  b_str : mg ("str" : Str) = none
  x_BadForm : ExcM κ K mg ("BadForm" : Str) 3
  x_BadText : ExcM κ K mg ("BadText" : Str) 5
  x_NoSuchDay : ExcM κ K mg ("NoSuchDay" : Str) 1
section
variable {P : Program} {w : World} {K : PySem.W.Frag} {mg : Str → Option Value} {base : Heap} {κ : Nat → Addr}
theorem ok_law_leap (T : TX K mg κ)  : MC P w K mg base κ ("_law_leap" : Str) [("_law_year" : Str)] m_law_leap 1 := by
  obtain ⟨f, fd, F, hm, hb⟩ := T.fn_law_leap
  refine ⟨f, fd, qfn_mirror (k := 0) F s_law_leap (fun X B cx hc e1 e2 e3 e4 e5 hN hsc hfn hr hfr => ?_), hm, F.kp, hb, F.at⟩
  subst e1 e2 e3 e4 e5
  exact d_law_leap cx hc hN hsc hfn hr.units 
theorem ok_law_month (T : TX K mg κ) (o_law_leap : MC P w K mg base κ ("_law_leap" : Str) [("_law_year" : Str)] m_law_leap 1) : MC P w K mg base κ ("_law_month" : Str) [("_law_year" : Str), ("_law_month_here" : Str)] m_law_month 2 := by
  obtain ⟨f, fd, F, hm, hb⟩ := T.fn_law_month
  refine ⟨f, fd, qfn_mirror (k := 1) F s_law_month (fun X B cx hc e1 e2 e3 e4 e5 hN hsc hfn hr hfr => ?_), hm, F.kp, hb, F.at⟩
  subst e1 e2 e3 e4 e5
  exact d_law_month cx hc hN hsc hfn hr.units (o_law_leap.cal hr (by decide))
theorem ok_law_first (T : TX K mg κ) (o_law_month : MC P w K mg base κ ("_law_month" : Str) [("_law_year" : Str), ("_law_month_here" : Str)] m_law_month 2) : MC P w K mg base κ ("_law_first" : Str) [("_law_cell" : Str), ("_law_mixed" : Str)] m_law_first 3 := by
  obtain ⟨f, fd, F, hm, hb⟩ := T.fn_law_first
  refine ⟨f, fd, qfn_mirror (k := 2) F s_law_first (fun X B cx hc e1 e2 e3 e4 e5 hN hsc hfn hr hfr => ?_), hm, F.kp, hb, F.at⟩
  subst e1 e2 e3 e4 e5
  exact d_law_first cx hc hN hsc hfn hr.units (o_law_month.cal hr (by decide))
theorem ok_law_at (T : TX K mg κ)  : MC P w K mg base κ ("_law_at" : Str) [("_law_script" : Str), ("_law_k" : Str)] m_law_at 1 := by
  obtain ⟨f, fd, F, hm, hb⟩ := T.fn_law_at
  refine ⟨f, fd, qfn_mirror (k := 0) F s_law_at (fun X B cx hc e1 e2 e3 e4 e5 hN hsc hfn hr hfr => ?_), hm, F.kp, hb, F.at⟩
  subst e1 e2 e3 e4 e5
  exact d_law_at cx hc hN hsc hfn hr.units T.b_len
theorem ok_law_ways (T : TX K mg κ)  : MC P w K mg base κ ("_law_ways" : Str) [("_law_token" : Str), ("_law_when" : Str)] m_law_ways 1 := by
  obtain ⟨f, fd, F, hm, hb⟩ := T.fn_law_ways
  refine ⟨f, fd, qfn_mirror (k := 0) F s_law_ways (fun X B cx hc e1 e2 e3 e4 e5 hN hsc hfn hr hfr => ?_), hm, F.kp, hb, F.at⟩
  subst e1 e2 e3 e4 e5
  exact d_law_ways cx hc hN hsc hfn hr.units T.b_int T.b_len T.b_str
theorem ok_law_draws (T : TX K mg κ)  : MC P w K mg base κ ("_law_draws" : Str) [("_law_cell" : Str), ("_law_mixed" : Str), ("_law_many" : Str), ("_law_most" : Str)] m_law_draws 1 := by
  obtain ⟨f, fd, F, hm, hb⟩ := T.fn_law_draws
  refine ⟨f, fd, qfn_mirror (k := 0) F s_law_draws (fun X B cx hc e1 e2 e3 e4 e5 hN hsc hfn hr hfr => ?_), hm, F.kp, hb, F.at⟩
  subst e1 e2 e3 e4 e5
  exact d_law_draws cx hc hN hsc hfn hr.units T.b_range
theorem ok_law_text (T : TX K mg κ) (o_law_draws : MC P w K mg base κ ("_law_draws" : Str) [("_law_cell" : Str), ("_law_mixed" : Str), ("_law_many" : Str), ("_law_most" : Str)] m_law_draws 1) : MC P w K mg base κ ("_law_text" : Str) [("_law_way" : Str), ("_law_pick" : Str), ("_law_more" : Str)] m_law_text 2 := by
  obtain ⟨f, fd, F, hm, hb⟩ := T.fn_law_text
  refine ⟨f, fd, qfn_mirror (k := 1) F s_law_text (fun X B cx hc e1 e2 e3 e4 e5 hN hsc hfn hr hfr => ?_), hm, F.kp, hb, F.at⟩
  subst e1 e2 e3 e4 e5
  exact d_law_text cx hc hN hsc hfn hr.units (o_law_draws.cal hr (by decide)) T.b_len T.b_str
theorem ok_split_into_parts (T : TX K mg κ)  : MC P w K mg base κ ("split_into_parts" : Str) [("pieces" : Str)] m_split_into_parts 1 := by
  obtain ⟨f, fd, F, hm, hb⟩ := T.fn_split_into_parts
  refine ⟨f, fd, qfn_mirror (k := 0) F s_split_into_parts (fun X B cx hc e1 e2 e3 e4 e5 hN hsc hfn hr hfr => ?_), hm, F.kp, hb, F.at⟩
  subst e1 e2 e3 e4 e5
  exact d_split_into_parts cx hc hN hsc hfn hr.units T.b_enumerate
theorem ok_token_at (T : TX K mg κ)  : MC P w K mg base κ ("token_at" : Str) [("form" : Str), ("start" : Str)] m_token_at 1 := by
  obtain ⟨f, fd, F, hm, hb⟩ := T.fn_token_at
  refine ⟨f, fd, qfn_mirror (k := 0) F s_token_at (fun X B cx hc e1 e2 e3 e4 e5 hN hsc hfn hr hfr => ?_), hm, F.kp, hb, F.at⟩
  subst e1 e2 e3 e4 e5
  exact d_token_at cx hc hN hsc hfn hr.units T.c_PLACES T.c_PLAIN_SIGNS (T.x_BadForm.at rfl rfl)
theorem ok_cut_into_tokens (T : TX K mg κ) (o_token_at : MC P w K mg base κ ("token_at" : Str) [("form" : Str), ("start" : Str)] m_token_at 1) : MC P w K mg base κ ("cut_into_tokens" : Str) [("form" : Str)] m_cut_into_tokens 2 := by
  obtain ⟨f, fd, F, hm, hb⟩ := T.fn_cut_into_tokens
  refine ⟨f, fd, qfn_mirror (k := 1) F s_cut_into_tokens (fun X B cx hc e1 e2 e3 e4 e5 hN hsc hfn hr hfr => ?_), hm, F.kp, hb, F.at⟩
  subst e1 e2 e3 e4 e5
  exact d_cut_into_tokens cx hc hN hsc hfn hr.units (o_token_at.cal hr (by decide)) T.b_len
theorem ok_piece_of (T : TX K mg κ)  : MC P w K mg base κ ("piece_of" : Str) [("token" : Str), ("part" : Str)] m_piece_of 1 := by
  obtain ⟨f, fd, F, hm, hb⟩ := T.fn_piece_of
  refine ⟨f, fd, qfn_mirror (k := 0) F s_piece_of (fun X B cx hc e1 e2 e3 e4 e5 hN hsc hfn hr hfr => ?_), hm, F.kp, hb, F.at⟩
  subst e1 e2 e3 e4 e5
  exact d_piece_of cx hc hN hsc hfn hr.units T.c_PLACES
theorem ok_number_pieces (T : TX K mg κ) (o_piece_of : MC P w K mg base κ ("piece_of" : Str) [("token" : Str), ("part" : Str)] m_piece_of 1) : MC P w K mg base κ ("number_pieces" : Str) [("tokens" : Str)] m_number_pieces 2 := by
  obtain ⟨f, fd, F, hm, hb⟩ := T.fn_number_pieces
  refine ⟨f, fd, qfn_mirror (k := 1) F s_number_pieces (fun X B cx hc e1 e2 e3 e4 e5 hN hsc hfn hr hfr => ?_), hm, F.kp, hb, F.at⟩
  subst e1 e2 e3 e4 e5
  exact d_number_pieces cx hc hN hsc hfn hr.units (o_piece_of.cal hr (by decide)) T.c_MOST_LACKING_PARTS T.b_enumerate (T.x_BadForm.at rfl rfl)
theorem ok_read_form (T : TX K mg κ) (o_cut_into_tokens : MC P w K mg base κ ("cut_into_tokens" : Str) [("form" : Str)] m_cut_into_tokens 2) (o_number_pieces : MC P w K mg base κ ("number_pieces" : Str) [("tokens" : Str)] m_number_pieces 2) : MC P w K mg base κ ("read_form" : Str) [("form" : Str)] m_read_form 3 := by
  obtain ⟨f, fd, F, hm, hb⟩ := T.fn_read_form
  refine ⟨f, fd, qfn_mirror (k := 2) F s_read_form (fun X B cx hc e1 e2 e3 e4 e5 hN hsc hfn hr hfr => ?_), hm, F.kp, hb, F.at⟩
  subst e1 e2 e3 e4 e5
  exact d_read_form cx hc hN hsc hfn hr.units (o_cut_into_tokens.cal hr (by decide)) (o_number_pieces.cal hr (by decide)) T.c_LONGEST_FORM T.c_PLACES T.b_len (T.x_BadForm.at rfl rfl)
theorem ok_parts_of_form (T : TX K mg κ) (o_split_into_parts : MC P w K mg base κ ("split_into_parts" : Str) [("pieces" : Str)] m_split_into_parts 1) (o_read_form : MC P w K mg base κ ("read_form" : Str) [("form" : Str)] m_read_form 3) : MC P w K mg base κ ("parts_of_form" : Str) [("form" : Str)] m_parts_of_form 4 := by
  obtain ⟨f, fd, F, hm, hb⟩ := T.fn_parts_of_form
  refine ⟨f, fd, qfn_mirror (k := 3) F s_parts_of_form (fun X B cx hc e1 e2 e3 e4 e5 hN hsc hfn hr hfr => ?_), hm, F.kp, hb, F.at⟩
  subst e1 e2 e3 e4 e5
  exact d_parts_of_form cx hc hN hsc hfn hr.units (o_split_into_parts.cal hr (by decide)) (o_read_form.cal hr (by decide))
theorem ok_check_text (T : TX K mg κ)  : MC P w K mg base κ ("check_text" : Str) [("text" : Str)] m_check_text 1 := by
  obtain ⟨f, fd, F, hm, hb⟩ := T.fn_check_text
  refine ⟨f, fd, qfn_mirror (k := 0) F s_check_text (fun X B cx hc e1 e2 e3 e4 e5 hN hsc hfn hr hfr => ?_), hm, F.kp, hb, F.at⟩
  subst e1 e2 e3 e4 e5
  exact d_check_text cx hc hN hsc hfn hr.units T.c_LONGEST_TEXT T.c_PLAIN_SIGNS T.b_len (T.x_BadText.at rfl rfl)
theorem ok_ends_of_piece (T : TX K mg κ)  : MC P w K mg base κ ("ends_of_piece" : Str) [("written" : Str), ("text" : Str), ("starts" : Str)] m_ends_of_piece 1 := by
  obtain ⟨f, fd, F, hm, hb⟩ := T.fn_ends_of_piece
  refine ⟨f, fd, qfn_mirror (k := 0) F s_ends_of_piece (fun X B cx hc e1 e2 e3 e4 e5 hN hsc hfn hr hfr => ?_), hm, F.kp, hb, F.at⟩
  subst e1 e2 e3 e4 e5
  exact d_ends_of_piece cx hc hN hsc hfn hr.units T.b_len
theorem ok_ends_of_part (T : TX K mg κ) (o_ends_of_piece : MC P w K mg base κ ("ends_of_piece" : Str) [("written" : Str), ("text" : Str), ("starts" : Str)] m_ends_of_piece 1) : MC P w K mg base κ ("ends_of_part" : Str) [("part" : Str), ("ways" : Str), ("text" : Str), ("starts" : Str)] m_ends_of_part 2 := by
  obtain ⟨f, fd, F, hm, hb⟩ := T.fn_ends_of_part
  refine ⟨f, fd, qfn_mirror (k := 1) F s_ends_of_part (fun X B cx hc e1 e2 e3 e4 e5 hN hsc hfn hr hfr => ?_), hm, F.kp, hb, F.at⟩
  subst e1 e2 e3 e4 e5
  exact d_ends_of_part cx hc hN hsc hfn hr.units (o_ends_of_piece.cal hr (by decide))
theorem ok_is_written (T : TX K mg κ) (o_ends_of_part : MC P w K mg base κ ("ends_of_part" : Str) [("part" : Str), ("ways" : Str), ("text" : Str), ("starts" : Str)] m_ends_of_part 2) : MC P w K mg base κ ("is_written" : Str) [("parts" : Str), ("ways" : Str), ("text" : Str)] m_is_written 3 := by
  obtain ⟨f, fd, F, hm, hb⟩ := T.fn_is_written
  refine ⟨f, fd, qfn_mirror (k := 2) F s_is_written (fun X B cx hc e1 e2 e3 e4 e5 hN hsc hfn hr hfr => ?_), hm, F.kp, hb, F.at⟩
  subst e1 e2 e3 e4 e5
  exact d_is_written cx hc hN hsc hfn hr.units (o_ends_of_part.cal hr (by decide)) T.b_len
theorem ok_has_number (T : TX K mg κ)  : MC P w K mg base κ ("has_number" : Str) [("number" : Str)] m_has_number 1 := by
  obtain ⟨f, fd, F, hm, hb⟩ := T.fn_has_number
  refine ⟨f, fd, qfn_mirror (k := 0) F s_has_number (fun X B cx hc e1 e2 e3 e4 e5 hN hsc hfn hr hfr => ?_), hm, F.kp, hb, F.at⟩
  subst e1 e2 e3 e4 e5
  exact d_has_number cx hc hN hsc hfn hr.units T.c_LAST_NUMBER
theorem ok_days_ahead_of_year (T : TX K mg κ)  : MC P w K mg base κ ("days_ahead_of_year" : Str) [("year" : Str)] m_days_ahead_of_year 1 := by
  obtain ⟨f, fd, F, hm, hb⟩ := T.fn_days_ahead_of_year
  refine ⟨f, fd, qfn_mirror (k := 0) F s_days_ahead_of_year (fun X B cx hc e1 e2 e3 e4 e5 hN hsc hfn hr hfr => ?_), hm, F.kp, hb, F.at⟩
  subst e1 e2 e3 e4 e5
  exact d_days_ahead_of_year cx hc hN hsc hfn hr.units 
theorem ok_year_with (T : TX K mg κ) (o_days_ahead_of_year : MC P w K mg base κ ("days_ahead_of_year" : Str) [("year" : Str)] m_days_ahead_of_year 1) : MC P w K mg base κ ("year_with" : Str) [("number" : Str)] m_year_with 2 := by
  obtain ⟨f, fd, F, hm, hb⟩ := T.fn_year_with
  refine ⟨f, fd, qfn_mirror (k := 1) F s_year_with (fun X B cx hc e1 e2 e3 e4 e5 hN hsc hfn hr hfr => ?_), hm, F.kp, hb, F.at⟩
  subst e1 e2 e3 e4 e5
  exact d_year_with cx hc hN hsc hfn hr.units (o_days_ahead_of_year.cal hr (by decide)) T.c_DAYS_OF_400_YEARS
theorem ok_is_leap (T : TX K mg κ)  : MC P w K mg base κ ("is_leap" : Str) [("year" : Str)] m_is_leap 1 := by
  obtain ⟨f, fd, F, hm, hb⟩ := T.fn_is_leap
  refine ⟨f, fd, qfn_mirror (k := 0) F s_is_leap (fun X B cx hc e1 e2 e3 e4 e5 hN hsc hfn hr hfr => ?_), hm, F.kp, hb, F.at⟩
  subst e1 e2 e3 e4 e5
  exact d_is_leap cx hc hN hsc hfn hr.units 
theorem ok_month_length (T : TX K mg κ) (o_is_leap : MC P w K mg base κ ("is_leap" : Str) [("year" : Str)] m_is_leap 1) : MC P w K mg base κ ("month_length" : Str) [("year" : Str), ("month" : Str)] m_month_length 2 := by
  obtain ⟨f, fd, F, hm, hb⟩ := T.fn_month_length
  refine ⟨f, fd, qfn_mirror (k := 1) F s_month_length (fun X B cx hc e1 e2 e3 e4 e5 hN hsc hfn hr hfr => ?_), hm, F.kp, hb, F.at⟩
  subst e1 e2 e3 e4 e5
  exact d_month_length cx hc hN hsc hfn hr.units (o_is_leap.cal hr (by decide)) T.c_COMMON_LENGTHS
theorem ok_date_of (T : TX K mg κ) (o_has_number : MC P w K mg base κ ("has_number" : Str) [("number" : Str)] m_has_number 1) (o_year_with : MC P w K mg base κ ("year_with" : Str) [("number" : Str)] m_year_with 2) (o_days_ahead_of_year : MC P w K mg base κ ("days_ahead_of_year" : Str) [("year" : Str)] m_days_ahead_of_year 1) (o_month_length : MC P w K mg base κ ("month_length" : Str) [("year" : Str), ("month" : Str)] m_month_length 2) : MC P w K mg base κ ("date_of" : Str) [("number" : Str)] m_date_of 3 := by
  obtain ⟨f, fd, F, hm, hb⟩ := T.fn_date_of
  refine ⟨f, fd, qfn_mirror (k := 2) F s_date_of (fun X B cx hc e1 e2 e3 e4 e5 hN hsc hfn hr hfr => ?_), hm, F.kp, hb, F.at⟩
  subst e1 e2 e3 e4 e5
  exact d_date_of cx hc hN hsc hfn hr.units (o_has_number.cal hr (by decide)) (o_year_with.cal hr (by decide)) (o_days_ahead_of_year.cal hr (by decide)) (o_month_length.cal hr (by decide)) (T.x_NoSuchDay.at rfl rfl)
theorem ok_beginnings (T : TX K mg κ)  : MC P w K mg base κ ("beginnings" : Str) [("name" : Str)] m_beginnings 1 := by
  obtain ⟨f, fd, F, hm, hb⟩ := T.fn_beginnings
  refine ⟨f, fd, qfn_mirror (k := 0) F s_beginnings (fun X B cx hc e1 e2 e3 e4 e5 hN hsc hfn hr hfr => ?_), hm, F.kp, hb, F.at⟩
  subst e1 e2 e3 e4 e5
  exact d_beginnings cx hc hN hsc hfn hr.units T.b_len T.b_range
theorem ok_weekday_of (T : TX K mg κ) (o_has_number : MC P w K mg base κ ("has_number" : Str) [("number" : Str)] m_has_number 1) : MC P w K mg base κ ("weekday_of" : Str) [("number" : Str)] m_weekday_of 2 := by
  obtain ⟨f, fd, F, hm, hb⟩ := T.fn_weekday_of
  refine ⟨f, fd, qfn_mirror (k := 1) F s_weekday_of (fun X B cx hc e1 e2 e3 e4 e5 hN hsc hfn hr hfr => ?_), hm, F.kp, hb, F.at⟩
  subst e1 e2 e3 e4 e5
  exact d_weekday_of cx hc hN hsc hfn hr.units (o_has_number.cal hr (by decide)) (T.x_NoSuchDay.at rfl rfl)
theorem ok_figures (T : TX K mg κ)  : MC P w K mg base κ ("figures" : Str) [("number" : Str)] m_figures 1 := by
  obtain ⟨f, fd, F, hm, hb⟩ := T.fn_figures
  refine ⟨f, fd, qfn_mirror (k := 0) F s_figures (fun X B cx hc e1 e2 e3 e4 e5 hN hsc hfn hr hfr => ?_), hm, F.kp, hb, F.at⟩
  subst e1 e2 e3 e4 e5
  exact d_figures cx hc hN hsc hfn hr.units T.b_str
theorem ok_ways_of_day (T : TX K mg κ) (o_date_of : MC P w K mg base κ ("date_of" : Str) [("number" : Str)] m_date_of 3) (o_beginnings : MC P w K mg base κ ("beginnings" : Str) [("name" : Str)] m_beginnings 1) (o_weekday_of : MC P w K mg base κ ("weekday_of" : Str) [("number" : Str)] m_weekday_of 2) (o_figures : MC P w K mg base κ ("figures" : Str) [("number" : Str)] m_figures 1) : MC P w K mg base κ ("ways_of_day" : Str) [("number" : Str)] m_ways_of_day 4 := by
  obtain ⟨f, fd, F, hm, hb⟩ := T.fn_ways_of_day
  refine ⟨f, fd, qfn_mirror (k := 3) F s_ways_of_day (fun X B cx hc e1 e2 e3 e4 e5 hN hsc hfn hr hfr => ?_), hm, F.kp, hb, F.at⟩
  subst e1 e2 e3 e4 e5
  exact d_ways_of_day cx hc hN hsc hfn hr.units (o_date_of.cal hr (by decide)) (o_beginnings.cal hr (by decide)) (o_weekday_of.cal hr (by decide)) (o_figures.cal hr (by decide)) T.c_WEEKDAYS T.c_MONTHS T.b_str
theorem ok_fits (T : TX K mg κ) (o_parts_of_form : MC P w K mg base κ ("parts_of_form" : Str) [("form" : Str)] m_parts_of_form 4) (o_check_text : MC P w K mg base κ ("check_text" : Str) [("text" : Str)] m_check_text 1) (o_is_written : MC P w K mg base κ ("is_written" : Str) [("parts" : Str), ("ways" : Str), ("text" : Str)] m_is_written 3) (o_ways_of_day : MC P w K mg base κ ("ways_of_day" : Str) [("number" : Str)] m_ways_of_day 4) : MC P w K mg base κ ("fits" : Str) [("form" : Str), ("text" : Str), ("number" : Str)] m_fits 5 := by
  obtain ⟨f, fd, F, hm, hb⟩ := T.fn_fits
  refine ⟨f, fd, qfn_mirror (k := 4) F s_fits (fun X B cx hc e1 e2 e3 e4 e5 hN hsc hfn hr hfr => ?_), hm, F.kp, hb, F.at⟩
  subst e1 e2 e3 e4 e5
  exact d_fits cx hc hN hsc hfn hr.units (o_parts_of_form.cal hr (by decide)) (o_check_text.cal hr (by decide)) (o_is_written.cal hr (by decide)) (o_ways_of_day.cal hr (by decide))
theorem ok_law_number (T : TX K mg κ) (o_law_month : MC P w K mg base κ ("_law_month" : Str) [("_law_year" : Str), ("_law_month_here" : Str)] m_law_month 2) : MC P w K mg base κ ("_law_number" : Str) [("_law_year" : Str), ("_law_month_here" : Str), ("_law_day" : Str)] m_law_number 3 := by
  obtain ⟨f, fd, F, hm, hb⟩ := T.fn_law_number
  refine ⟨f, fd, qfn_mirror (k := 2) F s_law_number (fun X B cx hc e1 e2 e3 e4 e5 hN hsc hfn hr hfr => ?_), hm, F.kp, hb, F.at⟩
  subst e1 e2 e3 e4 e5
  exact d_law_number cx hc hN hsc hfn hr.units (o_law_month.cal hr (by decide)) T.b_range
theorem ok_law (T : TX K mg κ) (o_law_first : MC P w K mg base κ ("_law_first" : Str) [("_law_cell" : Str), ("_law_mixed" : Str)] m_law_first 3) (o_law_at : MC P w K mg base κ ("_law_at" : Str) [("_law_script" : Str), ("_law_k" : Str)] m_law_at 1) (o_law_month : MC P w K mg base κ ("_law_month" : Str) [("_law_year" : Str), ("_law_month_here" : Str)] m_law_month 2) (o_law_ways : MC P w K mg base κ ("_law_ways" : Str) [("_law_token" : Str), ("_law_when" : Str)] m_law_ways 1) (o_law_text : MC P w K mg base κ ("_law_text" : Str) [("_law_way" : Str), ("_law_pick" : Str), ("_law_more" : Str)] m_law_text 2) (o_fits : MC P w K mg base κ ("fits" : Str) [("form" : Str), ("text" : Str), ("number" : Str)] m_fits 5) (o_law_number : MC P w K mg base κ ("_law_number" : Str) [("_law_year" : Str), ("_law_month_here" : Str), ("_law_day" : Str)] m_law_number 3) : MC P w K mg base κ ("law" : Str) [("_law_script" : Str)] m_law 6 := by
  obtain ⟨f, fd, F, hm, hb⟩ := T.fn_law
  refine ⟨f, fd, qfn_mirror (k := 5) F s_law (fun X B cx hc e1 e2 e3 e4 e5 hN hsc hfn hr hfr => ?_), hm, F.kp, hb, F.at⟩
  subst e1 e2 e3 e4 e5
  exact d_law cx hc hN hsc hfn hr.units (o_law_first.cal hr (by decide)) (o_law_at.cal hr (by decide)) (o_law_month.cal hr (by decide)) (o_law_ways.cal hr (by decide)) (o_law_text.cal hr (by decide)) (o_fits.cal hr (by decide)) (o_law_number.cal hr (by decide)) T.b_bool T.b_isinstance T.b_len T.b_min
end
def spLaw (K : PySem.W.Frag) : Sp := fun vs H Q _ => ∃ (a : Addr) (ns : List Int), vs = [.ref a] ∧ SqL K H a (ns.map V.int) ∧ ns.length ≤ 63 ∧ ∀ H', Q (.bl true) H'
theorem all_mk {l : PySem.W.OpenLaw} {w : World} {K : PySem.W.Frag} {h : Heap} {mg : Str → Option Value} {fa : Addr} (main : ∀ ns : List Int, ns.length ≤ 63 → m_law [.lst (ns.map D.int)] = .ok (.bl true)) (X : K.In h) (G : h.Ns mainGlobals mg) (hfa : mg "law" = some (.ref fa))
    {f_law : Addr} {oc_law kV_law dc_law pm_law cd_law ct_law : Value} {od_law an_law : Option Addr} {sl_law : Array (Option Value)}
    {a_PLACES' : Addr} {dd_PLACES : Option Addr} {its_PLACES : Array Value} {n_PLACES : Nat} {sl_PLACES : Array (Option Value)}
    {t_PLAIN_SIGNS : Tok} {qy_PLAIN_SIGNS : Str}
    {t_MOST_LACKING_PARTS : Tok}
    {t_LONGEST_FORM : Tok}
    {t_LONGEST_TEXT : Tok}
    {t_LAST_NUMBER : Tok}
    {t_DAYS_OF_400_YEARS : Tok}
    {a_COMMON_LENGTHS' : Addr} {dd_COMMON_LENGTHS : Option Addr} {its_COMMON_LENGTHS : Array Value} {n_COMMON_LENGTHS : Nat} {sl_COMMON_LENGTHS : Array (Option Value)}
    {a_WEEKDAYS' : Addr} {dd_WEEKDAYS : Option Addr} {its_WEEKDAYS : Array Value} {n_WEEKDAYS : Nat} {sl_WEEKDAYS : Array (Option Value)}
    {a_MONTHS' : Addr} {dd_MONTHS : Option Addr} {its_MONTHS : Array Value} {n_MONTHS : Nat} {sl_MONTHS : Array (Option Value)}
    {C_InkError : Addr}
    {C_NoSuchDay : Addr}
    {C_BadForm : Addr}
    {C_BadText : Addr}
    (f_law_leap : FF K ("_law_leap" : Str) (top 43))
    (f_law_month : FF K ("_law_month" : Str) (top 44))
    (f_law_first : FF K ("_law_first" : Str) (top 45))
    (f_law_at : FF K ("_law_at" : Str) (top 41))
    (f_law_ways : FF K ("_law_ways" : Str) (top 47))
    (f_law_draws : FF K ("_law_draws" : Str) (top 42))
    (f_law_text : FF K ("_law_text" : Str) (top 48))
    (f_split_into_parts : FF K ("split_into_parts" : Str) (top 31))
    (f_token_at : FF K ("token_at" : Str) (top 23))
    (f_cut_into_tokens : FF K ("cut_into_tokens" : Str) (top 24))
    (f_piece_of : FF K ("piece_of" : Str) (top 25))
    (f_number_pieces : FF K ("number_pieces" : Str) (top 26))
    (f_read_form : FF K ("read_form" : Str) (top 27))
    (f_parts_of_form : FF K ("parts_of_form" : Str) (top 32))
    (f_check_text : FF K ("check_text" : Str) (top 30))
    (f_ends_of_piece : FF K ("ends_of_piece" : Str) (top 36))
    (f_ends_of_part : FF K ("ends_of_part" : Str) (top 37))
    (f_is_written : FF K ("is_written" : Str) (top 38))
    (f_has_number : FF K ("has_number" : Str) (top 14))
    (f_days_ahead_of_year : FF K ("days_ahead_of_year" : Str) (top 13))
    (f_year_with : FF K ("year_with" : Str) (top 15))
    (f_is_leap : FF K ("is_leap" : Str) (top 11))
    (f_month_length : FF K ("month_length" : Str) (top 12))
    (f_date_of : FF K ("date_of" : Str) (top 16))
    (f_beginnings : FF K ("beginnings" : Str) (top 34))
    (f_weekday_of : FF K ("weekday_of" : Str) (top 17))
    (f_figures : FF K ("figures" : Str) (top 33))
    (f_ways_of_day : FF K ("ways_of_day" : Str) (top 35))
    (f_fits : FF K ("fits" : Str) (top 39))
    (f_law_number : FF K ("_law_number" : Str) (top 46))
    (a_law : PySem.W.nsIn K mainGlobals ("law" : Str) = some (some (.ref f_law)))
    (l_law : K.lookup f_law = some ⟨oc_law, od_law, .func (PySem.W.fnOf ("law" : Str) ("law" : Str) (defArgs (top 49)) (defBody (top 49)) (defScope (top 49)) .none kV_law dc_law pm_law an_law cd_law ct_law), sl_law⟩)
    (d_law : PySem.W.codeIn K cd_law ("law" : Str) = true)
    (p_law : PySem.W.keepIn K (.ref f_law) = true)
    (a_PLACES : PySem.W.nsIn K mainGlobals ("PLACES" : Str) = some (some (.ref a_PLACES')))
    (l_PLACES : K.lookup a_PLACES' = some ⟨.type "tuple", dd_PLACES, .seq its_PLACES n_PLACES, sl_PLACES⟩)
    (v_PLACES : Vals ([stV [60, 100, 62], stV [60, 109, 62], stV [60, 121, 62], stV [60, 89, 62], stV [60, 110, 62], stV [60, 119, 62]] : List V) its_PLACES.toList)
    (a_PLAIN_SIGNS : PySem.W.nsIn K mainGlobals ("PLAIN_SIGNS" : Str) = some (some (.str qy_PLAIN_SIGNS t_PLAIN_SIGNS)))
    (qy_PLAIN_SIGNS' : qy_PLAIN_SIGNS = ⟨([97, 98, 99, 100, 101, 102, 103, 104, 105, 106, 107, 108, 109, 110, 111, 112, 113, 114, 115, 116, 117, 118, 119, 120, 121, 122, 48, 49, 50, 51, 52, 53, 54, 55, 56, 57, 32, 46, 47, 45, 44] : List Nat).toArray⟩)
    (a_MOST_LACKING_PARTS : PySem.W.nsIn K mainGlobals ("MOST_LACKING_PARTS" : Str) = some (some (.int 3 t_MOST_LACKING_PARTS)))
    (a_LONGEST_FORM : PySem.W.nsIn K mainGlobals ("LONGEST_FORM" : Str) = some (some (.int 30 t_LONGEST_FORM)))
    (a_LONGEST_TEXT : PySem.W.nsIn K mainGlobals ("LONGEST_TEXT" : Str) = some (some (.int 20 t_LONGEST_TEXT)))
    (a_LAST_NUMBER : PySem.W.nsIn K mainGlobals ("LAST_NUMBER" : Str) = some (some (.int 3652058 t_LAST_NUMBER)))
    (a_DAYS_OF_400_YEARS : PySem.W.nsIn K mainGlobals ("DAYS_OF_400_YEARS" : Str) = some (some (.int 146097 t_DAYS_OF_400_YEARS)))
    (a_COMMON_LENGTHS : PySem.W.nsIn K mainGlobals ("COMMON_LENGTHS" : Str) = some (some (.ref a_COMMON_LENGTHS')))
    (l_COMMON_LENGTHS : K.lookup a_COMMON_LENGTHS' = some ⟨.type "tuple", dd_COMMON_LENGTHS, .seq its_COMMON_LENGTHS n_COMMON_LENGTHS, sl_COMMON_LENGTHS⟩)
    (v_COMMON_LENGTHS : Vals ([V.int 31, V.int 28, V.int 31, V.int 30, V.int 31, V.int 30, V.int 31, V.int 31, V.int 30, V.int 31, V.int 30, V.int 31] : List V) its_COMMON_LENGTHS.toList)
    (a_WEEKDAYS : PySem.W.nsIn K mainGlobals ("WEEKDAYS" : Str) = some (some (.ref a_WEEKDAYS')))
    (l_WEEKDAYS : K.lookup a_WEEKDAYS' = some ⟨.type "tuple", dd_WEEKDAYS, .seq its_WEEKDAYS n_WEEKDAYS, sl_WEEKDAYS⟩)
    (v_WEEKDAYS : Vals ([stV [109, 111, 110, 100, 97, 121], stV [116, 117, 101, 115, 100, 97, 121], stV [119, 101, 100, 110, 101, 115, 100, 97, 121], stV [116, 104, 117, 114, 115, 100, 97, 121], stV [102, 114, 105, 100, 97, 121], stV [115, 97, 116, 117, 114, 100, 97, 121], stV [115, 117, 110, 100, 97, 121]] : List V) its_WEEKDAYS.toList)
    (a_MONTHS : PySem.W.nsIn K mainGlobals ("MONTHS" : Str) = some (some (.ref a_MONTHS')))
    (l_MONTHS : K.lookup a_MONTHS' = some ⟨.type "tuple", dd_MONTHS, .seq its_MONTHS n_MONTHS, sl_MONTHS⟩)
    (v_MONTHS : Vals ([stV [106, 97, 110, 117, 97, 114, 121], stV [102, 101, 98, 114, 117, 97, 114, 121], stV [109, 97, 114, 99, 104], stV [97, 112, 114, 105, 108], stV [109, 97, 121], stV [106, 117, 110, 101], stV [106, 117, 108, 121], stV [97, 117, 103, 117, 115, 116], stV [115, 101, 112, 116, 101, 109, 98, 101, 114], stV [111, 99, 116, 111, 98, 101, 114], stV [110, 111, 118, 101, 109, 98, 101, 114], stV [100, 101, 99, 101, 109, 98, 101, 114]] : List V) its_MONTHS.toList)
    (a_bool : PySem.W.nsIn K mainGlobals ("bool" : Str) = some none)
    (a_enumerate : PySem.W.nsIn K mainGlobals ("enumerate" : Str) = some none)
    (a_int : PySem.W.nsIn K mainGlobals ("int" : Str) = some none)
    (a_isinstance : PySem.W.nsIn K mainGlobals ("isinstance" : Str) = some none)
    (a_len : PySem.W.nsIn K mainGlobals ("len" : Str) = some none)
    (a_min : PySem.W.nsIn K mainGlobals ("min" : Str) = some none)
    (a_range : PySem.W.nsIn K mainGlobals ("range" : Str) = some none)
    (a_str : PySem.W.nsIn K mainGlobals ("str" : Str) = some none)
    (a_InkError : PySem.W.nsIn K mainGlobals ("InkError" : Str) = some (some (.ref C_InkError)))
    (a_NoSuchDay : PySem.W.nsIn K mainGlobals ("NoSuchDay" : Str) = some (some (.ref C_NoSuchDay)))
    (a_BadForm : PySem.W.nsIn K mainGlobals ("BadForm" : Str) = some (some (.ref C_BadForm)))
    (a_BadText : PySem.W.nsIn K mainGlobals ("BadText" : Str) = some (some (.ref C_BadText)))
    (e_BadForm : PySem.W.excIn K C_BadForm [.type "ValueError", .type "Exception", .type "BaseException", .type "object"] "ValueError.__new__" = true)
    (e_BadText : PySem.W.excIn K C_BadText [.type "ValueError", .type "Exception", .type "BaseException", .type "object"] "ValueError.__new__" = true)
    (e_NoSuchDay : PySem.W.excIn K C_NoSuchDay [.type "ValueError", .type "Exception", .type "BaseException", .type "object"] "ValueError.__new__" = true)
    : ∃ fd : FuncData, (∀ (s : Shared) (v : Value), BindsTo s fd ⟨[v], []⟩ [(("_law_script" : Str), v)]) ∧ ∀ base : Heap, K.In base → base.Ns mainGlobals mg → FnOk l.prog w K mg base (CXR l.prog w) 6 fa fd [("_law_script" : Str)] (spLaw K) := by
  have T : TX K mg (fun n : Nat => if n = 0 then C_InkError else if n = 1 then C_NoSuchDay else if n = 3 then C_BadForm else if n = 5 then C_BadText else 0) := ⟨f_law_leap.ft X G fun _ _ _ _ _ _ us hl => match us, hl with | [_], _ => rfl, f_law_month.ft X G fun _ _ _ _ _ _ us hl => match us, hl with | [_, _], _ => rfl, f_law_first.ft X G fun _ _ _ _ _ _ us hl => match us, hl with | [_, _], _ => rfl, f_law_at.ft X G fun _ _ _ _ _ _ us hl => match us, hl with | [_, _], _ => rfl, f_law_ways.ft X G fun _ _ _ _ _ _ us hl => match us, hl with | [_, _], _ => rfl, f_law_draws.ft X G fun _ _ _ _ _ _ us hl => match us, hl with | [_, _, _, _], _ => rfl, f_law_text.ft X G fun _ _ _ _ _ _ us hl => match us, hl with | [_, _, _], _ => rfl, f_split_into_parts.ft X G fun _ _ _ _ _ _ us hl => match us, hl with | [_], _ => rfl, f_token_at.ft X G fun _ _ _ _ _ _ us hl => match us, hl with | [_, _], _ => rfl, f_cut_into_tokens.ft X G fun _ _ _ _ _ _ us hl => match us, hl with | [_], _ => rfl, f_piece_of.ft X G fun _ _ _ _ _ _ us hl => match us, hl with | [_, _], _ => rfl, f_number_pieces.ft X G fun _ _ _ _ _ _ us hl => match us, hl with | [_], _ => rfl, f_read_form.ft X G fun _ _ _ _ _ _ us hl => match us, hl with | [_], _ => rfl, f_parts_of_form.ft X G fun _ _ _ _ _ _ us hl => match us, hl with | [_], _ => rfl, f_check_text.ft X G fun _ _ _ _ _ _ us hl => match us, hl with | [_], _ => rfl, f_ends_of_piece.ft X G fun _ _ _ _ _ _ us hl => match us, hl with | [_, _, _], _ => rfl, f_ends_of_part.ft X G fun _ _ _ _ _ _ us hl => match us, hl with | [_, _, _, _], _ => rfl, f_is_written.ft X G fun _ _ _ _ _ _ us hl => match us, hl with | [_, _, _], _ => rfl, f_has_number.ft X G fun _ _ _ _ _ _ us hl => match us, hl with | [_], _ => rfl, f_days_ahead_of_year.ft X G fun _ _ _ _ _ _ us hl => match us, hl with | [_], _ => rfl, f_year_with.ft X G fun _ _ _ _ _ _ us hl => match us, hl with | [_], _ => rfl, f_is_leap.ft X G fun _ _ _ _ _ _ us hl => match us, hl with | [_], _ => rfl, f_month_length.ft X G fun _ _ _ _ _ _ us hl => match us, hl with | [_, _], _ => rfl, f_date_of.ft X G fun _ _ _ _ _ _ us hl => match us, hl with | [_], _ => rfl, f_beginnings.ft X G fun _ _ _ _ _ _ us hl => match us, hl with | [_], _ => rfl, f_weekday_of.ft X G fun _ _ _ _ _ _ us hl => match us, hl with | [_], _ => rfl, f_figures.ft X G fun _ _ _ _ _ _ us hl => match us, hl with | [_], _ => rfl, f_ways_of_day.ft X G fun _ _ _ _ _ _ us hl => match us, hl with | [_], _ => rfl, f_fits.ft X G fun _ _ _ _ _ _ us hl => match us, hl with | [_, _, _], _ => rfl, f_law_number.ft X G fun _ _ _ _ _ _ us hl => match us, hl with | [_, _, _], _ => rfl, ⟨_, _, fun_mk (st := (top 49)) l_law d_law p_law, PySem.W.mg_of X G a_law, (fun_mk (st := (top 49)) l_law d_law p_law).binds (ps := [("_law_script" : Str)]) fun _ _ _ _ _ _ us hl => match us, hl with | [_], _ => rfl⟩, tup_const (PySem.W.mg_of X G a_PLACES) l_PLACES v_PLACES (by decide) (by intro G; repeat (first | exact dens_nil | refine dens_cons (by unfold Den; rfl) ?_)), ⟨_, .str qy_PLAIN_SIGNS, PySem.W.mg_of X G a_PLAIN_SIGNS, ⟨_, rfl⟩, fun _ => by unfold Lw.c_PLAIN_SIGNS Den; rw [qy_PLAIN_SIGNS']⟩, ⟨_, .int 3, PySem.W.mg_of X G a_MOST_LACKING_PARTS, ⟨_, rfl⟩, fun _ => by unfold Lw.c_MOST_LACKING_PARTS Den; rfl⟩, ⟨_, .int 30, PySem.W.mg_of X G a_LONGEST_FORM, ⟨_, rfl⟩, fun _ => by unfold Lw.c_LONGEST_FORM Den; rfl⟩, ⟨_, .int 20, PySem.W.mg_of X G a_LONGEST_TEXT, ⟨_, rfl⟩, fun _ => by unfold Lw.c_LONGEST_TEXT Den; rfl⟩, ⟨_, .int 3652058, PySem.W.mg_of X G a_LAST_NUMBER, ⟨_, rfl⟩, fun _ => by unfold Lw.c_LAST_NUMBER Den; rfl⟩, ⟨_, .int 146097, PySem.W.mg_of X G a_DAYS_OF_400_YEARS, ⟨_, rfl⟩, fun _ => by unfold Lw.c_DAYS_OF_400_YEARS Den; rfl⟩, tup_const (PySem.W.mg_of X G a_COMMON_LENGTHS) l_COMMON_LENGTHS v_COMMON_LENGTHS (by decide) (by intro G; repeat (first | exact dens_nil | refine dens_cons (by unfold Den; rfl) ?_)), tup_const (PySem.W.mg_of X G a_WEEKDAYS) l_WEEKDAYS v_WEEKDAYS (by decide) (by intro G; repeat (first | exact dens_nil | refine dens_cons (by unfold Den; rfl) ?_)), tup_const (PySem.W.mg_of X G a_MONTHS) l_MONTHS v_MONTHS (by decide) (by intro G; repeat (first | exact dens_nil | refine dens_cons (by unfold Den; rfl) ?_)), PySem.W.mg_none_of X G a_bool, PySem.W.mg_none_of X G a_enumerate, PySem.W.mg_none_of X G a_int, PySem.W.mg_none_of X G a_isinstance, PySem.W.mg_none_of X G a_len, PySem.W.mg_none_of X G a_min, PySem.W.mg_none_of X G a_range, PySem.W.mg_none_of X G a_str, ⟨PySem.W.mg_of X G a_BadForm, e_BadForm⟩, ⟨PySem.W.mg_of X G a_BadText, e_BadText⟩, ⟨PySem.W.mg_of X G a_NoSuchDay, e_NoSuchDay⟩⟩
  have e := hfa.symm.trans (PySem.W.mg_of X G a_law)
  cases e
  refine ⟨PySem.W.fnOf "law" "law" (defArgs (top 49)) (defBody (top 49)) (defScope (top 49)) .none kV_law dc_law pm_law an_law cd_law ct_law, fun s v => .of_eq rfl, fun base _ _ => ?_⟩
  have o_law_leap := ok_law_leap (P := l.prog) (w := w) (base := base) T 
  have o_law_month := ok_law_month (P := l.prog) (w := w) (base := base) T o_law_leap
  have o_law_first := ok_law_first (P := l.prog) (w := w) (base := base) T o_law_month
  have o_law_at := ok_law_at (P := l.prog) (w := w) (base := base) T 
  have o_law_ways := ok_law_ways (P := l.prog) (w := w) (base := base) T 
  have o_law_draws := ok_law_draws (P := l.prog) (w := w) (base := base) T 
  have o_law_text := ok_law_text (P := l.prog) (w := w) (base := base) T o_law_draws
  have o_split_into_parts := ok_split_into_parts (P := l.prog) (w := w) (base := base) T 
  have o_token_at := ok_token_at (P := l.prog) (w := w) (base := base) T 
  have o_cut_into_tokens := ok_cut_into_tokens (P := l.prog) (w := w) (base := base) T o_token_at
  have o_piece_of := ok_piece_of (P := l.prog) (w := w) (base := base) T 
  have o_number_pieces := ok_number_pieces (P := l.prog) (w := w) (base := base) T o_piece_of
  have o_read_form := ok_read_form (P := l.prog) (w := w) (base := base) T o_cut_into_tokens o_number_pieces
  have o_parts_of_form := ok_parts_of_form (P := l.prog) (w := w) (base := base) T o_split_into_parts o_read_form
  have o_check_text := ok_check_text (P := l.prog) (w := w) (base := base) T 
  have o_ends_of_piece := ok_ends_of_piece (P := l.prog) (w := w) (base := base) T 
  have o_ends_of_part := ok_ends_of_part (P := l.prog) (w := w) (base := base) T o_ends_of_piece
  have o_is_written := ok_is_written (P := l.prog) (w := w) (base := base) T o_ends_of_part
  have o_has_number := ok_has_number (P := l.prog) (w := w) (base := base) T 
  have o_days_ahead_of_year := ok_days_ahead_of_year (P := l.prog) (w := w) (base := base) T 
  have o_year_with := ok_year_with (P := l.prog) (w := w) (base := base) T o_days_ahead_of_year
  have o_is_leap := ok_is_leap (P := l.prog) (w := w) (base := base) T 
  have o_month_length := ok_month_length (P := l.prog) (w := w) (base := base) T o_is_leap
  have o_date_of := ok_date_of (P := l.prog) (w := w) (base := base) T o_has_number o_year_with o_days_ahead_of_year o_month_length
  have o_beginnings := ok_beginnings (P := l.prog) (w := w) (base := base) T 
  have o_weekday_of := ok_weekday_of (P := l.prog) (w := w) (base := base) T o_has_number
  have o_figures := ok_figures (P := l.prog) (w := w) (base := base) T 
  have o_ways_of_day := ok_ways_of_day (P := l.prog) (w := w) (base := base) T o_date_of o_beginnings o_weekday_of o_figures
  have o_fits := ok_fits (P := l.prog) (w := w) (base := base) T o_parts_of_form o_check_text o_is_written o_ways_of_day
  have o_law_number := ok_law_number (P := l.prog) (w := w) (base := base) T o_law_month
  have o_law := ok_law (P := l.prog) (w := w) (base := base) T o_law_first o_law_at o_law_month o_law_ways o_law_text o_fits o_law_number
  have FL := fun_mk (st := top 49) l_law d_law p_law
  exact law_fn (PySem.W.mg_of X G a_law) l_law o_law main
theorem walk {l : PySem.W.OpenLaw} {q : Program} {loose : List Str} {XP : (Str → Option Value) → Heap → Prop} {YP : World → Heap → Prop} {d : DefRec} {K : Params → PySem.W.Frag} (hn : l.most = some 63) (hdf : d.params.defaults = [])
    (hY : ∀ (w : World) (h : Heap), YP w h → (K w.params).In h)
    (F : ∀ (w : World) (mg : Str → Option Value) (fa : Addr) (h : Heap), (K w.params).In h → h.Ns mainGlobals mg → mg d.name = some (.ref fa) →
      ∃ fd : FuncData, (∀ (s : Shared) (u : Value), BindsTo s fd ⟨[u], []⟩ [(("_law_script" : Str), u)]) ∧ ∀ base : Heap, (K w.params).In base → base.Ns mainGlobals mg → FnOk l.prog w (K w.params) mg base (CXR l.prog w) 6 fa fd [("_law_script" : Str)] (spLaw (K w.params))) :
    PySem.W.WalkO q loose XP YP l.row.toRowW d [] (fun f vs => PySem.call f vs) :=
  L2.walk_of (n := 63) (k := 6) (x := ("_law_script" : Str)) (CX := fun w => CXR l.prog w) (sp := fun w => spLaw (K w.params)) hn (by decide) hdf ⟨rfl, by decide, by decide⟩ hY F (fun _ _ a ns hl _ hS => ⟨a, ns, rfl, hS, hl, fun _ => rfl⟩) fun _ _ _ _ _ z => by obtain ⟨_, _, _, _, _, _, _, _, _, _, z⟩ := z; exact z
end Lw
set_option Elab.async false
set_option linter.all false
set_option maxRecDepth 100000
set_option maxHeartbeats 400000
namespace Lw
open PySem L2 L3
local macro_rules | `(tactic| simp_arith [$ls,*]) => `(tactic| simp -implicitDefEqProofs only [e_zSet, e_zIf, e_zRet, e_zOwn, e_zApp, e_zDrop, e_zAsg, e_mCall, e_mCons, e_mVar, e_mVarR, e_m2, e_m2t, e_m1, e_mC, e_mNil, e_mAnd, e_mOr, e_mNot, e_mT, e_mLst0, e_mLst1, e_mLst2, e_mLst4, e_mLstC3, e_mCB, e_mTup2, e_mTup3, e_mIf, e_bN, e_mAndV, e_mOrV, e_mNotV, e_mL, e_mSl, e_mP, e_mNoP, List.getElem?_cons_succ, List.getElem?_cons_zero, List.set_cons_zero, List.set_cons_succ, R.bind_ok, bS_ok, oAdd_int, oSub_int, oLt_int, oLe_int, oGt_int, oGe_int, oNeg_int, oLen_lst, oLen_tup, tru_bl, boolD_bl, blR_ok, op2_int_eq, op2_int_ne, op2_int_lt, op2_int_le, op2_int_gt, op2_int_ge, itemsD_lst, if_true, Bool.false_eq_true, if_false, decide_true, decide_false, List.length_map, $ls,*])
theorem at_eq (ns : List Int) (k : Nat) : m_law_at [.lst (ns.map D.int), .int (k : Int)] = .ok (.int (cell ns k)) := by
  unfold m_law_at F_law_at startE cell
  by_cases h : k < ns.length
  · have e : atI (ns.map D.int) (k : Int) = some (D.int (ns.getD k 0)) := atI_some (by simp [h])
    have h' : (k : Int) < (ns.length : Int) := by omega
    simp [zSeq, oIx_lst e, h']
  · have h' : ¬ (k : Int) < (ns.length : Int) := by omega
    simp [zSeq, F_law_at_1, h', List.getElem?_eq_none (Nat.le_of_not_lt h)]
theorem strI_nat (n : Nat) : strI (n : Int) = (Nat.toDigits 10 n).map Char.toNat := by
  unfold strI
  show (Str.ofString (Nat.repr n)).cps.toList = _
  rw [Nat.repr_eq_ofList_toDigits, PySem.W.Fast.ofString_ofList]
theorem digit_nat : ∀ n < 10, (Nat.digitChar n).toNat = 48 + n := by decide
theorem strI_lt {n : Nat} (h : n < 10) : strI (n : Int) = [48 + n] := by
  rw [strI_nat, Nat.toDigits_of_lt_base h]
  simp [digit_nat n h]
theorem strI_ge {n : Nat} (h : 10 ≤ n) : strI (n : Int) = strI ((n / 10 : Nat) : Int) ++ [48 + n % 10] := by
  rw [strI_nat, strI_nat, Nat.toDigits_of_base_le (by decide) h]
  simp [digit_nat (n % 10) (Nat.mod_lt _ (by decide))]
def dg (n : Nat) : List Nat := if n < 10 then [48 + n] else if n < 100 then [48 + n / 10, 48 + n % 10] else if n < 1000 then [48 + n / 100, 48 + n / 10 % 10, 48 + n % 10] else [48 + n / 1000, 48 + n / 100 % 10, 48 + n / 10 % 10, 48 + n % 10]
theorem strI_dg {n : Nat} (h : n < 10000) : strI (n : Int) = dg n := by
  unfold dg
  by_cases h1 : n < 10
  · rw [if_pos h1, strI_lt h1]
  · rw [if_neg h1, strI_ge (by omega)]
    by_cases h2 : n < 100
    · rw [if_pos h2, strI_lt (by omega)]; rfl
    · rw [if_neg h2, strI_ge (by omega)]
      by_cases h3 : n < 1000
      · rw [if_pos h3, strI_lt (by omega), Nat.div_div_eq_div_mul]; rfl
      · rw [if_neg h3, strI_ge (by omega), strI_lt (by omega), Nat.div_div_eq_div_mul n 10 10, Nat.div_div_eq_div_mul]; rfl
theorem oStr_dg {n : Nat} (h : n < 10000) : oStr (.int (n : Int)) = .ok (.str (dg n)) := by
  simp only [oStr]
  rw [if_pos (by omega), strI_dg h]
theorem oFs_dg {n : Nat} (h : n < 10000) : oFs [48] (.int (n : Int)) = .ok (.str (48 :: dg n)) := by
  unfold oFs
  rw [oStr_dg h]
  rfl
theorem dg_digit {n : Nat} (h : n < 10000) : ∀ c ∈ dg n, 48 ≤ c ∧ c ≤ 57 := by
  unfold dg
  intro c hc
  split at hc
  · simp at hc; omega
  · split at hc
    · simp at hc; omega
    · split at hc
      · simp at hc; omega
      · simp at hc; omega
theorem dg_len {n : Nat} : 1 ≤ (dg n).length ∧ (dg n).length ≤ 4 := by
  unfold dg
  split
  · simp
  · split
    · simp
    · split <;> simp
def zf2 (y : Nat) : List Nat := [48 + y / 10 % 10, 48 + y % 10]
def zf4 (y : Nat) : List Nat := [48 + y / 1000 % 10, 48 + y / 100 % 10, 48 + y / 10 % 10, 48 + y % 10]
theorem zfill_dg {l : List Nat} {c : Nat} {r : List Nat} (e : l = c :: r) (hc : 48 ≤ c) (k : Nat) (h : l.length ≤ k) : (Txt.zfill ⟨l.toArray⟩ (k : Int)).cps.toList = List.replicate (k - l.length) 48 ++ l := by
  unfold Txt.zfill
  have hl : (⟨l.toArray⟩ : Str).length = l.length := by simp [Str.length]
  rw [hl]
  by_cases h1 : (k : Int) ≤ l.length
  · rw [if_pos h1]
    have : k - l.length = 0 := by omega
    rw [this]
    rfl
  · rw [if_neg h1]
    subst e
    unfold zfilled
    simp
    have h43 : ¬ c = 43 := by omega
    have h45 : ¬ c = 45 := by omega
    simp [h43, h45, Builtin.Str.padded]
theorem zfill2 (y : Nat) : (Txt.zfill ⟨(dg (y % 100)).toArray⟩ 2).cps.toList = zf2 y := by
  have hm : y % 100 < 100 := Nat.mod_lt _ (by decide)
  unfold zf2
  by_cases h : y % 100 < 10
  · have e : dg (y % 100) = [48 + y % 100] := by unfold dg; rw [if_pos h]
    have := zfill_dg e (by omega) 2 (by rw [e]; simp)
    rw [show ((2 : Nat) : Int) = 2 from rfl] at this
    rw [this, e]
    simp
    omega
  · have e : dg (y % 100) = [48 + y % 100 / 10, 48 + y % 100 % 10] := by unfold dg; rw [if_neg h, if_pos hm]
    have := zfill_dg e (by omega) 2 (by rw [e]; simp)
    rw [show ((2 : Nat) : Int) = 2 from rfl] at this
    rw [this, e]
    simp
    omega
theorem zfill4 {y : Nat} (hy : y < 10000) : (Txt.zfill ⟨(dg y).toArray⟩ 4).cps.toList = zf4 y := by
  have key : ∀ c r, dg y = c :: r → 48 ≤ c → (Txt.zfill ⟨(dg y).toArray⟩ 4).cps.toList = List.replicate (4 - (dg y).length) 48 ++ dg y := fun c r e hc => zfill_dg e hc 4 dg_len.2
  unfold zf4
  by_cases h1 : y < 10
  · have e : dg y = [48 + y] := by unfold dg; rw [if_pos h1]
    rw [key _ _ e (by omega), e]
    simp [List.replicate]
    omega
  · by_cases h2 : y < 100
    · have e : dg y = [48 + y / 10, 48 + y % 10] := by unfold dg; rw [if_neg h1, if_pos h2]
      rw [key _ _ e (by omega), e]
      simp [List.replicate]
      omega
    · by_cases h3 : y < 1000
      · have e : dg y = [48 + y / 100, 48 + y / 10 % 10, 48 + y % 10] := by unfold dg; rw [if_neg h1, if_neg h2, if_pos h3]
        rw [key _ _ e (by omega), e]
        simp [List.replicate]
        omega
      · have e : dg y = [48 + y / 1000, 48 + y / 100 % 10, 48 + y / 10 % 10, 48 + y % 10] := by unfold dg; rw [if_neg h1, if_neg h2, if_neg h3]
        rw [key _ _ e (by omega), e]
        simp [List.replicate]
        omega
theorem okP_str {s : List Nat} (h : ∀ c ∈ s, c < 1114112) : okP (.str s) = true := by
  unfold okP SeqAt.shaped
  simp only [plainD, toP, PyData.canLay0, PyData.depth, Bool.true_and]
  rw [Bool.and_eq_true]
  refine ⟨?_, by decide⟩
  unfold PySem.PyData.strOk
  simp only [List.all_toArray, List.all_eq_true, decide_eq_true_eq]
  exact h
theorem eqD_str (a b : List Nat) : eqD (.str a) (.str b) = (a == b) := by
  simp only [eqD, toP, PyData.eqv]
  by_cases h : a = b
  · subst h; rw [beq_self_eq_true, beq_self_eq_true]
  · have : ¬ (⟨a.toArray⟩ : Str) = ⟨b.toArray⟩ := fun e => h (by injection e with e; simpa using e)
    rw [beq_eq_false_iff_ne.mpr h]
    exact beq_eq_false_iff_ne.mpr this
theorem oEq_str {a b : List Nat} (ha : ∀ c ∈ a, c < 1114112) (hb : ∀ c ∈ b, c < 1114112) : oEq (.str a) (.str b) = .ok (a == b) := by
  unfold oEq
  rw [okP_str ha, okP_str hb, eqD_str]
  rfl
theorem oLen_str {s : List Nat} (h : s.length ≤ 1000) : oLen (.str s) = .ok (.int s.length) := by
  simp only [oLen]
  rw [if_pos (by omega)]
theorem inB_strs (t : List Nat) (l : List (List Nat)) : inB (.str t) (.lst (l.map D.str)) = .ok (decide (t ∈ l)) := by
  have hf : (l.map D.str).all flatD = true := by simp [flatD]
  simp only [inB, flatD, hf, Bool.and_self, if_true]
  congr 1
  induction l with
  | nil => simp
  | cons a l ih =>
    rw [List.map_cons, List.any_cons, ih (by simp [flatD])]
    simp only [eqF]
    by_cases h : a = t
    · subst h; simp
    · have : ¬ t = a := fun e => h e.symm
      simp [h, this]
def places : List (List Nat) := [[60, 100, 62], [60, 109, 62], [60, 121, 62], [60, 89, 62], [60, 110, 62], [60, 119, 62]]
def signs : List Nat := [97, 98, 99, 100, 101, 102, 103, 104, 105, 106, 107, 108, 109, 110, 111, 112, 113, 114, 115, 116, 117, 118, 119, 120, 121, 122, 48, 49, 50, 51, 52, 53, 54, 55, 56, 57, 32, 46, 47, 45, 44]
def allT : List (List Nat) := places ++ signs.map fun c => [c]
def isPl (t : List Nat) : Bool := places.any fun a => a == t
abbrev Part := Bool × List (List Nat)
def inner (p : Part) : List Nat := if p.1 then [91] ++ p.2.flatten ++ [93] else p.2.flatten
def form (ps : List Part) : List Nat := ps.flatMap inner
def tks (p : Part) : List (List Nat) := if p.1 then [91] :: (p.2 ++ [[93]]) else p.2
def toks (ps : List Part) : List (List Nat) := ps.flatMap tks
theorem form_toks (ps : List Part) : form ps = (toks ps).flatten := by
  induction ps with
  | nil => rfl
  | cons p ps ih =>
    unfold form toks at ih ⊢
    rw [List.flatMap_cons, List.flatMap_cons, List.flatten_append, ih]
    congr 1
    unfold inner tks
    cases p.1 <;> simp
def pieceD (k : Int) (t : List Nat) : D := if t.length = 3 then .tup [.str [112, 108, 97, 99, 101], .str [t.getD 1 0], .int k] else .tup [.str [115, 105, 103, 110], .str t, .int k]
def pcs : Nat → List Part → List D
  | _, [] => []
  | n, p :: ps => p.2.map (pieceD (if p.1 then ((n + 1 : Nat) : Int) else 0)) ++ pcs (if p.1 then n + 1 else n) ps
theorem strsD_map (ts : List (List Nat)) : strsD (ts.map D.str) = some ts := by
  induction ts with
  | nil => rfl
  | cons t ts ih => simp [strsD, ih]
def cnt (ps : List Part) : Nat := ps.countP (·.1)
def allTk (ps : List Part) : List (List Nat) := ps.flatMap (·.2)
theorem pcs_len : ∀ (ps : List Part) (n : Nat), (pcs n ps).length = (allTk ps).length
  | [], _ => rfl
  | p :: ps, n => by
    have ih := pcs_len ps (if p.1 then n + 1 else n)
    simp only [pcs]
    rw [List.length_append, List.length_map, ih]
    unfold allTk
    rw [List.flatMap_cons, List.length_append]
theorem loopZ_next {bd : D → Ev → Option Ev} {F : Ev → SR} {d : D} {ds : List D} {δ δ1 δ2 : Ev} (h1 : bd d δ = some δ1) (h2 : F δ1 = .next δ2) : loopZ bd F (d :: ds) δ = loopZ bd F ds δ2 := by
  rw [loopZ]
  simp only [h1, h2]
theorem loopZ_ret {bd : D → Ev → Option Ev} {F : Ev → SR} {d v : D} {ds : List D} {δ δ1 : Ev} (h1 : bd d δ = some δ1) (h2 : F δ1 = .ret v) : loopZ bd F (d :: ds) δ = .ret v := by
  rw [loopZ]
  simp only [h1, h2]
def allB : List (List Nat) := allT ++ [[91], [93]]
theorem cutD_over {α : Type} (xs : List α) {a b : Nat} (h : a ≤ xs.length) (h2 : a ≤ b) : cutD xs (some (a : Int)) (some (b : Int)) = (xs.drop a).take (b - a) := by
  unfold cutD
  rw [HT.sIx_nat, HT.sIx_nat, Nat.min_eq_left h]
  by_cases hb : b ≤ xs.length
  · rw [Nat.min_eq_left hb]
  · rw [Nat.min_eq_right (by omega), List.take_of_length_le (by rw [List.length_drop]; omega), List.take_of_length_le (by rw [List.length_drop]; omega)]
theorem inB_places (s : List Nat) : inB (.str s) c_PLACES = .ok (isPl s) := by
  unfold inB c_PLACES
  simp only [flatD, List.all_cons, List.all_nil, Bool.and_self, if_true, List.any_cons, List.any_nil, eqF, Bool.or_false]
  congr 1
  unfold isPl places
  simp only [List.any_cons, List.any_nil, Bool.or_false]
theorem isPl_head {s : List Nat} (h : isPl s = true) : s.head? = some 60 ∧ s.length = 3 := by
  have : ∀ s ∈ places, s.head? = some 60 ∧ s.length = 3 := by decide
  exact this s (by simpa [isPl] using h)
theorem plain_in : ∀ c ∈ signs, (!(Builtin.Str.occurrences ⟨signs.toArray⟩ ⟨[c].toArray⟩ 0 (⟨signs.toArray⟩ : Str).length 1).isEmpty) = true := by decide +kernel
theorem plain_not : ∀ c ∈ [91, 93], (!(Builtin.Str.occurrences ⟨signs.toArray⟩ ⟨[c].toArray⟩ 0 (⟨signs.toArray⟩ : Str).length 1).isEmpty) = false := by decide +kernel
theorem brack_in : ∀ c ∈ [91, 93], (!(Builtin.Str.occurrences ⟨[91, 93].toArray⟩ ⟨[c].toArray⟩ 0 (⟨[91, 93].toArray⟩ : Str).length 1).isEmpty) = true := by decide +kernel
theorem allB_cases {t : List Nat} (h : t ∈ allB) : (isPl t = true ∧ t.length = 3) ∨ (∃ c ∈ signs, t = [c]) ∨ (∃ c ∈ [91, 93], t = [c]) := by
  unfold allB allT at h
  rcases List.mem_append.mp h with h | h
  · rcases List.mem_append.mp h with h | h
    · have hp : isPl t = true := by simpa [isPl] using h
      exact .inl ⟨hp, (isPl_head hp).2⟩
    · obtain ⟨c, hc, rfl⟩ := List.mem_map.mp h
      exact .inr (.inl ⟨c, hc, rfl⟩)
  · refine .inr (.inr ?_)
    rcases List.mem_cons.mp h with rfl | h
    · exact ⟨91, by simp, rfl⟩
    · have : t = [93] := by simpa using h
      exact ⟨93, by simp, this⟩
theorem no60 : ∀ c, (c ∈ signs ∨ c ∈ [91, 93]) → c ≠ 60 := by
  have h1 : ∀ c ∈ signs, c ≠ 60 := by decide
  have h2 : ∀ c ∈ [91, 93], c ≠ 60 := by decide
  exact fun c h => h.elim (h1 c) (h2 c)
theorem token_at_eq {pre post t : List Nat} (ht : t ∈ allB) (hl : (pre ++ t ++ post).length ≤ 1000) : m_token_at [.str (pre ++ t ++ post), .int pre.length] = .ok (.str t) := by
  have hsl : ∀ l : List Nat, l.length ≤ 1000 → pre.length ≤ l.length → oSl (.str l) (some (pre.length : Int)) (some ((pre.length : Int) + 3)) = .ok (.str ((l.drop pre.length).take 3)) := fun l h1 h2 => by
    simp only [oSl]
    rw [if_pos (by omega), show (pre.length : Int) + 3 = ((pre.length + 3 : Nat) : Int) by push_cast; rfl, cutD_over _ h2 (by omega), show pre.length + 3 - pre.length = 3 by omega]
  have hd : (pre ++ t ++ post).drop pre.length = t ++ post := by simp
  have h0 := hsl _ hl (by simp)
  rw [hd] at h0
  generalize hL : pre ++ t ++ post = L at *
  unfold m_token_at F_token_at
  rw [zSeq_next (δ' := [some (.sh (.str L)), some (.sh (.int pre.length)), some (.sh (.str ((t ++ post).take 3))), none]) (by
    simp only [S_token_at_0, startE, List.map_cons, List.map_nil, List.length_cons, List.length_nil, List.cons_append, List.nil_append, e_zSet, e_mSl, e_mP, e_m2, e_mC, e_mVar, List.getElem?_cons_succ, List.getElem?_cons_zero, R.bind_ok, oAdd_int, h0, bS_ok]
    rfl)]
  have tst : m2t oIn (mVar 2) (mC c_PLACES) [some (.sh (.str L)), some (.sh (.int pre.length)), some (.sh (.str ((t ++ post).take 3))), none] = .ok (isPl ((t ++ post).take 3)) := by
    simp only [e_m2t, e_mC, e_mVar, List.getElem?_cons_succ, List.getElem?_cons_zero, R.bind_ok, oIn, inB_places]
  unfold F_token_at_1 S_token_at_1
  rcases allB_cases ht with ⟨h1, h2⟩ | hs
  · have : (t ++ post).take 3 = t := by rw [List.take_append, List.take_of_length_le (by omega)]; simp [h2]
    rw [this] at tst ⊢
    rw [zSeq_ret (d := .str t) (by rw [zIf_yes (tst.trans (by rw [h1]))]; simp)]
    rfl
  · obtain ⟨c, hc, rfl⟩ : ∃ c, (c ∈ signs ∨ c ∈ [91, 93]) ∧ t = [c] := by
      rcases hs with ⟨c, h, e⟩ | ⟨c, h, e⟩
      · exact ⟨c, .inl h, e⟩
      · exact ⟨c, .inr h, e⟩
    have hno : isPl (([c] ++ post).take 3) = false := by
      cases z : isPl (([c] ++ post).take 3) with
      | false => rfl
      | true =>
        have := (isPl_head z).1
        simp at this
        exact absurd this (no60 c hc)
    rw [zSeq_next (δ' := [some (.sh (.str L)), some (.sh (.int pre.length)), some (.sh (.str (([c] ++ post).take 3))), none]) (by rw [zIf_no (tst.trans (by rw [hno]))])]
    have hix : oIx (.str L) (.int (pre.length : Int)) = .ok (.str [c]) := by
      have : atI L (pre.length : Int) = some c := atI_some (by rw [← hL]; simp)
      simp only [oIx]
      rw [if_pos (by omega), this]
    unfold F_token_at_2
    rw [zSeq_next (δ' := [some (.sh (.str L)), some (.sh (.int pre.length)), some (.sh (.str (([c] ++ post).take 3))), some (.sh (.str [c]))]) (by
      simp only [S_token_at_2, e_zSet, e_m2, e_mVar, List.getElem?_cons_succ, List.getElem?_cons_zero, R.bind_ok, hix, bS_ok]
      rfl)]
    have ok : mOr (m2t oIn (mVar 3) (mC c_PLAIN_SIGNS)) (m2t oIn (mVar 3) (mC (.str [91, 93]))) [some (.sh (.str L)), some (.sh (.int pre.length)), some (.sh (.str (([c] ++ post).take 3))), some (.sh (.str [c]))] = .ok true := by
      have p1 : inB (.str [c]) c_PLAIN_SIGNS = .ok (!(Builtin.Str.occurrences ⟨signs.toArray⟩ ⟨[c].toArray⟩ 0 (⟨signs.toArray⟩ : Str).length 1).isEmpty) := rfl
      have p2 : inB (.str [c]) (.str [91, 93]) = .ok (!(Builtin.Str.occurrences ⟨[91, 93].toArray⟩ ⟨[c].toArray⟩ 0 (⟨[91, 93].toArray⟩ : Str).length 1).isEmpty) := rfl
      simp only [e_mOr, e_m2t, e_mC, e_mVar, List.getElem?_cons_succ, List.getElem?_cons_zero, R.bind_ok, oIn, p1, p2]
      rcases hc with hc | hc
      · rw [plain_in c hc]; rfl
      · rw [plain_not c hc, brack_in c hc]; rfl
    unfold F_token_at_3 S_token_at_3
    rw [zSeq_ret (d := .str [c]) (by rw [zIf_yes ok]; simp)]
    rfl
theorem allB_pos {t : List Nat} (h : t ∈ allB) : 0 < t.length := by
  rcases allB_cases h with ⟨_, h⟩ | ⟨c, _, rfl⟩ | ⟨c, _, rfl⟩
  · omega
  · simp
  · simp
theorem cut_loop : ∀ (rest done : List (List Nat)) (n : Nat) (x3 : Option Sl), (∀ t ∈ rest, t ∈ allB) → rest.length < n → (done ++ rest).flatten.length ≤ 1000 → done.length + rest.length ≤ 1000 → ∃ y3,
    whileZ (m2t oLt (mVar 2) (m1 oLen (mVar 0))) L_cut_into_tokens_1 n [some (.sh (.str (done ++ rest).flatten)), some (.ow (done.map D.str)), some (.sh (.int done.flatten.length)), x3]
      = .next [some (.sh (.str (done ++ rest).flatten)), some (.ow ((done ++ rest).map D.str)), some (.sh (.int (done ++ rest).flatten.length)), y3]
  | [], done, n + 1, x3, _, _, hl, _ => by
    refine ⟨x3, ?_⟩
    rw [List.append_nil] at hl ⊢
    have : oLen (.str done.flatten) = .ok (.int done.flatten.length) := by simp only [oLen]; rw [if_pos (by omega)]
    rw [whileZ_false (by
      simp only [e_m2t, e_m1, e_mVar, List.getElem?_cons_succ, List.getElem?_cons_zero, R.bind_ok, this, oLt_int]
      simp)]
  | t :: rest, done, n + 1, x3, hv, hn, hl, hk => by
    have ht := hv t List.mem_cons_self
    have hpos := allB_pos ht
    have e1 : (done ++ t :: rest).flatten = done.flatten ++ t ++ rest.flatten := by simp
    have hll : ((done ++ t :: rest).flatten.length : Int) = done.flatten.length + t.length + rest.flatten.length := by rw [e1, List.length_append, List.length_append]; push_cast; rfl
    have hlen : oLen (.str (done ++ t :: rest).flatten) = .ok (.int (done ++ t :: rest).flatten.length) := by simp only [oLen]; rw [if_pos (by omega)]
    have hlt : oLen (.str t) = .ok (.int t.length) := by simp only [oLen]; rw [if_pos (by omega)]
    have htk : m_token_at [.str (done ++ t :: rest).flatten, .int done.flatten.length] = .ok (.str t) := by
      rw [e1]
      exact token_at_eq ht (by rw [← e1]; exact hl)
    have ih := cut_loop rest (done ++ [t]) n (some (.sh (.str t))) (fun z hz => hv z (List.mem_cons_of_mem _ hz)) (by simp at hn; omega) (by simpa using hl) (by simp at hk ⊢; omega)
    obtain ⟨y3, ih⟩ := ih
    refine ⟨y3, ?_⟩
    rw [whileZ_true (δ' := [some (.sh (.str (done ++ t :: rest).flatten)), some (.ow ((done ++ [t]).map D.str)), some (.sh (.int (done.flatten.length + t.length))), some (.sh (.str t))]) (by
      simp only [e_m2t, e_m1, e_mVar, List.getElem?_cons_succ, List.getElem?_cons_zero, R.bind_ok, hlen, oLt_int]
      rw [decide_eq_true (by omega)]) (by
      unfold L_cut_into_tokens_1
      rw [zSeq_next (δ' := [some (.sh (.str (done ++ t :: rest).flatten)), some (.ow (done.map D.str)), some (.sh (.int done.flatten.length)), some (.sh (.str t))]) (by
        simp only [e_zSet, e_mCall, e_mCons, e_mVar, e_mNil, List.getElem?_cons_succ, List.getElem?_cons_zero, R.bind_ok, htk, bS_ok]
        rfl)]
      rw [zSeq_next (δ' := [some (.sh (.str (done ++ t :: rest).flatten)), some (.ow ((done ++ [t]).map D.str)), some (.sh (.int done.flatten.length)), some (.sh (.str t))]) (by
        have : (done.map D.str).length < 1000000 := by rw [List.length_map]; omega
        simp only [e_zApp, e_mVar, List.getElem?_cons_succ, List.getElem?_cons_zero, bS_ok, this, if_true]
        simp)]
      simp only [zAug, List.getElem?_cons_succ, List.getElem?_cons_zero, e_m1, e_mVar, R.bind_ok, hlt, bS_ok]
      rfl)]
    have e2 : done ++ t :: rest = done ++ [t] ++ rest := by simp
    have e3 : ((done.flatten.length : Int) + t.length) = ((done ++ [t]).flatten.length : Int) := by simp
    rw [e2, e3]
    exact ih
theorem cut_eq {ts : List (List Nat)} (hv : ∀ t ∈ ts, t ∈ allB) (hl : ts.flatten.length ≤ 30) : m_cut_into_tokens [.str ts.flatten] = .ok (.lst (ts.map D.str)) := by
  have hn : ∀ l : List (List Nat), (∀ t ∈ l, t ∈ allB) → l.length ≤ l.flatten.length := by
    intro l
    induction l with
    | nil => intro _; simp
    | cons t l ih =>
      intro h
      have h1 := ih fun z hz => h z (List.mem_cons_of_mem _ hz)
      have h2 := allB_pos (h t List.mem_cons_self)
      rw [List.flatten_cons, List.length_append, List.length_cons]
      omega
  have hts := hn ts hv
  unfold m_cut_into_tokens F_cut_into_tokens
  rw [zSeq_next (δ' := [some (.sh (.str ts.flatten)), some (.ow []), none, none]) (by simp [S_cut_into_tokens_0, startE, lim])]
  unfold F_cut_into_tokens_1
  rw [zSeq_next (δ' := [some (.sh (.str ts.flatten)), some (.ow []), some (.sh (.int 0)), none]) (by simp [S_cut_into_tokens_1])]
  obtain ⟨y3, e⟩ := cut_loop ts [] 40 none hv (by omega) (by simpa using (by omega : ts.flatten.length ≤ 1000)) (by simp; omega)
  unfold F_cut_into_tokens_2 S_cut_into_tokens_2
  rw [zSeq_next (δ' := [some (.sh (.str ts.flatten)), some (.ow (ts.map D.str)), some (.sh (.int ts.flatten.length)), y3]) (by simpa using e)]
  simp [F_cut_into_tokens_3, S_cut_into_tokens_3, frzE]
def Run (bd : D → Ev → Option Ev) (F : Ev → SR) : List D → Ev → Ev → Prop
  | [], δ, δ' => δ' = δ
  | d :: ds, δ, δ' => ∃ δ1 δ2, bd d δ = some δ1 ∧ F δ1 = .next δ2 ∧ Run bd F ds δ2 δ'
theorem run_loop {bd : D → Ev → Option Ev} {F : Ev → SR} : ∀ {xs : List D} {δ δ' : Ev}, Run bd F xs δ δ' → loopZ bd F xs δ = .next δ'
  | [], _, _, h => by rw [h]; rfl
  | d :: xs, δ, δ', ⟨δ1, δ2, h1, h2, h3⟩ => by
    rw [loopZ]
    simp only [h1, h2]
    exact run_loop h3
theorem run_append {bd : D → Ev → Option Ev} {F : Ev → SR} : ∀ {xs ys : List D} {δ δ1 δ2 : Ev}, Run bd F xs δ δ1 → Run bd F ys δ1 δ2 → Run bd F (xs ++ ys) δ δ2
  | [], _, _, _, _, h, k => by rw [h] at k; exact k
  | d :: xs, _, _, _, _, ⟨a, b, h1, h2, h3⟩, k => ⟨a, b, h1, h2, run_append h3 k⟩
theorem enumFrom_append : ∀ (xs ys : List D) (n : Nat), enumFrom n (xs ++ ys) = enumFrom n xs ++ enumFrom (n + xs.length) ys
  | [], ys, n => by simp [enumFrom]
  | x :: xs, ys, n => by simp [enumFrom, enumFrom_append xs ys (n + 1), Nat.add_assoc, Nat.add_comm 1]
theorem okP_tok : ∀ t ∈ allB, okP (.str t) = true := by decide +kernel
theorem eq_open : ∀ t ∈ allB, oEq (.str t) (.str [91]) = .ok (t == [91]) := by
  have h : ∀ t ∈ allB, eqD (.str t) (.str [91]) = (t == [91]) := by decide +kernel
  intro t ht
  unfold oEq
  rw [okP_tok t ht, okP_tok [91] (by decide), h t ht]
  rfl
theorem eq_close : ∀ t ∈ allB, oEq (.str t) (.str [93]) = .ok (t == [93]) := by
  have h : ∀ t ∈ allB, eqD (.str t) (.str [93]) = (t == [93]) := by decide +kernel
  intro t ht
  unfold oEq
  rw [okP_tok t ht, okP_tok [93] (by decide), h t ht]
  rfl
theorem allT_no : ∀ t ∈ allT, (t == [91]) = false ∧ (t == [93]) = false := by decide +kernel
theorem allT_sub {t : List Nat} (h : t ∈ allT) : t ∈ allB := List.mem_append_left _ h
theorem allT_pl : ∀ t ∈ allT, isPl t = decide (t.length = 3) := by decide +kernel
theorem piece_of_eq {t : List Nat} (ht : t ∈ allT) (k : Int) : m_piece_of [.str t, .int k] = .ok (pieceD k t) := by
  have tst : m2t oIn (mVar 0) (mC c_PLACES) (startE 2 [.str t, .int k]) = .ok (isPl t) := by
    simp only [startE, List.map_cons, List.map_nil, List.cons_append, List.nil_append, e_m2t, e_mC, e_mVar, List.getElem?_cons_zero, R.bind_ok, oIn, inB_places]
  unfold m_piece_of F_piece_of
  rw [allT_pl t ht] at tst
  by_cases h3 : t.length = 3
  · have hix : oIx (.str t) (.int 1) = .ok (.str [t.getD 1 0]) := by
      obtain ⟨a, b, c, rfl⟩ : ∃ a b c, t = [a, b, c] := by
        match t, h3 with
        | [a, b, c], _ => exact ⟨a, b, c, rfl⟩
      rfl
    rw [zSeq_ret (d := pieceD k t) (by
      rw [zIf_yes (tst.trans (by rw [decide_eq_true h3]))]
      simp only [startE, List.map_cons, List.map_nil, List.cons_append, List.nil_append, e_zRet, e_mTup, e_mCons, e_mC, e_m2, e_mVar, e_mNil, List.getElem?_cons_succ, List.getElem?_cons_zero, R.bind_ok, hix, List.length_cons, List.length_nil]
      rw [if_pos (by decide)]
      simp [pieceD, h3])]
    rfl
  · rw [zSeq_next (δ' := startE 2 [.str t, .int k]) (by rw [zIf_no (tst.trans (by rw [decide_eq_false h3]))])]
    simp only [F_piece_of_1, startE, List.map_cons, List.map_nil, List.cons_append, List.nil_append, e_zRet, e_mTup, e_mCons, e_mC, e_m2, e_mVar, e_mNil, List.getElem?_cons_succ, List.getElem?_cons_zero, R.bind_ok, List.length_cons, List.length_nil]
    rw [if_pos (by decide)]
    simp [pieceD, h3]
def stN (TL : List (List Nat)) (made : List D) (n : Int) (b : Bool) (x4 x5 : Option Sl) : Ev := [some (.sh (.lst (TL.map D.str))), some (.ow made), some (.sh (.int n)), some (.sh (.bl b)), x4, x5]
theorem np_plain {TL : List (List Nat)} {made : List D} {n : Int} {b : Bool} {i : Nat} {t : List Nat} (ht : t ∈ allT) (hm : made.length < 1000000) :
    L_number_pieces_1 (stN TL made n b (some (.sh (.int i))) (some (.sh (.str t)))) = .next (stN TL (made ++ [pieceD (if b then n else 0) t]) n b (some (.sh (.int i))) (some (.sh (.str t)))) := by
  have h1 := eq_open t (allT_sub ht)
  have h2 := eq_close t (allT_sub ht)
  rw [(allT_no t ht).1] at h1
  rw [(allT_no t ht).2] at h2
  unfold L_number_pieces_1 stN
  rw [zIf_no (by simp only [e_m2t, e_mC, e_mVar, List.getElem?_cons_succ, List.getElem?_cons_zero, R.bind_ok, h1])]
  rw [zIf_no (by simp only [e_m2t, e_mC, e_mVar, List.getElem?_cons_succ, List.getElem?_cons_zero, R.bind_ok, h2])]
  have hp : mCall m_piece_of (mCons (mVar 5) (mCons (mIf (mT (mVar 3)) (mVar 2) (mC (.int 0))) (mNil))) [some (.sh (.lst (TL.map D.str))), some (.ow made), some (.sh (.int n)), some (.sh (.bl b)), some (.sh (.int i)), some (.sh (.str t))] = .ok (pieceD (if b then n else 0) t) := by
    cases b <;> simp only [e_mCall, e_mCons, e_mIf, e_mT, e_mVar, e_mC, e_mNil, List.getElem?_cons_succ, List.getElem?_cons_zero, R.bind_ok, tru_bl, if_true, Bool.false_eq_true, if_false, piece_of_eq ht]
  simp only [e_zApp, List.getElem?_cons_succ, List.getElem?_cons_zero, hp, bS_ok, hm, if_true, List.set_cons_succ, List.set_cons_zero]
theorem np_open {TL : List (List Nat)} {made : List D} {n : Int} {i : Nat} :
    L_number_pieces_1 (stN TL made n false (some (.sh (.int i))) (some (.sh (.str [91])))) = .next (stN TL made (n + 1) true (some (.sh (.int i))) (some (.sh (.str [91])))) := by
  have h1 := eq_open [91] (by decide)
  unfold L_number_pieces_1 stN
  rw [zIf_yes (by simp only [e_m2t, e_mC, e_mVar, List.getElem?_cons_succ, List.getElem?_cons_zero, R.bind_ok, h1]; rfl)]
  simp [zSeq, zAug]
theorem np_close {TL : List (List Nat)} {made : List D} {n : Int} {i : Nat} {t : List Nat} (hi : TL[i]? = some t) (ht : t ∈ allT) :
    L_number_pieces_1 (stN TL made n true (some (.sh (.int ((i + 1 : Nat) : Int)))) (some (.sh (.str [93])))) = .next (stN TL made n false (some (.sh (.int ((i + 1 : Nat) : Int)))) (some (.sh (.str [93])))) := by
  have h1 := eq_open [93] (by decide)
  have h2 := eq_close [93] (by decide)
  have h3 := eq_open t (allT_sub ht)
  rw [(allT_no t ht).1] at h3
  have hix : oIx (.lst (TL.map D.str)) (.int (((i + 1 : Nat) : Int) - 1)) = .ok (.str t) := by
    rw [show ((i + 1 : Nat) : Int) - 1 = (i : Int) by push_cast; omega]
    exact oIx_lst (atI_some (by simp [hi]))
  unfold L_number_pieces_1 stN
  rw [zIf_no (by simp only [e_m2t, e_mC, e_mVar, List.getElem?_cons_succ, List.getElem?_cons_zero, R.bind_ok, h1]; rfl)]
  rw [zIf_yes (by simp only [e_m2t, e_mC, e_mVar, List.getElem?_cons_succ, List.getElem?_cons_zero, R.bind_ok, h2]; rfl)]
  rw [zSeq_next (δ' := [some (.sh (.lst (TL.map D.str))), some (.ow made), some (.sh (.int n)), some (.sh (.bl true)), some (.sh (.int ((i + 1 : Nat) : Int))), some (.sh (.str [93]))]) (by rw [zIf_no (by simp)])]
  rw [zSeq_next (δ' := [some (.sh (.lst (TL.map D.str))), some (.ow made), some (.sh (.int n)), some (.sh (.bl true)), some (.sh (.int ((i + 1 : Nat) : Int))), some (.sh (.str [93]))]) (by
    rw [zIf_no (by simp only [e_m2t, e_m2, e_mC, e_mVar, List.getElem?_cons_succ, List.getElem?_cons_zero, R.bind_ok, oSub_int, hix, h3])])]
  simp
abbrev bdN : D → Ev → Option Ev := bTup 2 (bsCons (bN 4) (bsCons (bN 5) (bsNil)))
theorem np_run {TL : List (List Nat)} {n : Int} {b : Bool} : ∀ (ts : List (List Nat)) (made : List D) (i : Nat) (x4 x5 : Option Sl), (∀ t ∈ ts, t ∈ allT) → made.length + ts.length < 1000000 → ∃ y4 y5,
    Run bdN L_number_pieces_1 (enumFrom i (ts.map D.str)) (stN TL made n b x4 x5) (stN TL (made ++ ts.map (pieceD (if b then n else 0))) n b y4 y5)
  | [], made, i, x4, x5, _, _ => ⟨x4, x5, by simp [enumFrom, Run]⟩
  | t :: ts, made, i, x4, x5, hv, hm => by
    rw [List.length_cons] at hm
    obtain ⟨y4, y5, ih⟩ := np_run (TL := TL) (n := n) (b := b) ts (made ++ [pieceD (if b then n else 0) t]) (i + 1) (some (.sh (.int i))) (some (.sh (.str t))) (fun z hz => hv z (List.mem_cons_of_mem _ hz)) (by simp; omega)
    refine ⟨y4, y5, stN TL made n b (some (.sh (.int i))) (some (.sh (.str t))), _, rfl, np_plain (hv t List.mem_cons_self) (by omega), ?_⟩
    simpa using ih
theorem np_part {TL : List (List Nat)} {i : Nat} {p : Part} {rest : List (List Nat)} {made : List D} {n : Nat} (x4 x5 : Option Sl) (hT : TL.drop i = tks p ++ rest) (hv : ∀ t ∈ p.2, t ∈ allT) (hne : p.1 = true → p.2 ≠ []) (hm : made.length + p.2.length < 1000000) : ∃ y4 y5,
    Run bdN L_number_pieces_1 (enumFrom i ((tks p).map D.str)) (stN TL made n false x4 x5) (stN TL (made ++ p.2.map (pieceD (if p.1 then ((n + 1 : Nat) : Int) else 0))) ((if p.1 then n + 1 else n : Nat) : Int) false y4 y5) := by
  obtain ⟨l, ts⟩ := p
  cases l with
  | false =>
    obtain ⟨y4, y5, h⟩ := np_run (TL := TL) (n := n) (b := false) ts made i x4 x5 hv hm
    exact ⟨y4, y5, by simpa [tks] using h⟩
  | true =>
    have hne' : ts ≠ [] := hne rfl
    obtain ⟨y4, y5, h⟩ := np_run (TL := TL) (n := ((n : Nat) : Int) + 1) (b := true) ts made (i + 1) (some (.sh (.int i))) (some (.sh (.str [91]))) hv hm
    have hix : TL[i + ts.length]? = some (ts.getLast hne') := by
      have : (TL.drop i)[ts.length]? = some (ts.getLast hne') := by
        rw [hT]
        simp only [tks, if_true]
        rw [List.getLast_eq_getElem]
        have hpos : 0 < ts.length := List.length_pos_iff.mpr hne'
        obtain ⟨m, hm⟩ : ∃ m, ts.length = m + 1 := ⟨ts.length - 1, by omega⟩
        simp only [hm, List.cons_append, List.append_assoc, List.getElem?_cons_succ]
        rw [List.getElem?_append_left (by omega)]
        simp [hm]
      rw [List.getElem?_drop] at this
      exact this
    have hc := np_close (TL := TL) (made := made ++ ts.map (pieceD (((n : Nat) : Int) + 1))) (n := ((n : Nat) : Int) + 1) hix (hv _ (List.getLast_mem hne'))
    refine ⟨some (.sh (.int ((i + ts.length + 1 : Nat) : Int))), some (.sh (.str [93])), ?_⟩
    have e : (tks (true, ts)).map D.str = D.str [91] :: (ts.map D.str ++ [D.str [93]]) := by simp [tks]
    rw [e]
    refine ⟨stN TL made n false (some (.sh (.int i))) (some (.sh (.str [91]))), _, rfl, np_open, ?_⟩
    rw [enumFrom_append]
    refine run_append h ?_
    rw [List.length_map, show i + 1 + ts.length = i + ts.length + 1 by omega]
    refine ⟨_, _, rfl, hc, ?_⟩
    show _ = _
    simp
theorem np_parts {TL : List (List Nat)} : ∀ (ps : List Part) (i : Nat) (made : List D) (n : Nat) (x4 x5 : Option Sl), TL.drop i = toks ps → (∀ p ∈ ps, ∀ t ∈ p.2, t ∈ allT) → (∀ p ∈ ps, p.1 = true → p.2 ≠ []) → made.length + (allTk ps).length < 1000000 → ∃ y4 y5,
    Run bdN L_number_pieces_1 (enumFrom i ((toks ps).map D.str)) (stN TL made n false x4 x5) (stN TL (made ++ pcs n ps) ((n + cnt ps : Nat) : Int) false y4 y5)
  | [], i, made, n, x4, x5, _, _, _, _ => ⟨x4, x5, by simp [toks, enumFrom, Run, pcs, cnt]⟩
  | p :: ps, i, made, n, x4, x5, hT, hv, hne, hm => by
    have e : toks (p :: ps) = tks p ++ toks ps := by unfold toks; rw [List.flatMap_cons]
    have e2 : allTk (p :: ps) = p.2 ++ allTk ps := by unfold allTk; rw [List.flatMap_cons]
    rw [e2, List.length_append] at hm
    rw [e] at hT
    obtain ⟨y4, y5, h1⟩ := np_part (n := n) (made := made) x4 x5 hT (hv p List.mem_cons_self) (hne p List.mem_cons_self) (by omega)
    have hT2 : TL.drop (i + (tks p).length) = toks ps := by
      rw [← List.drop_drop, hT]
      simp
    obtain ⟨z4, z5, h2⟩ := np_parts ps (i + (tks p).length) (made ++ p.2.map (pieceD (if p.1 then ((n + 1 : Nat) : Int) else 0))) (if p.1 then n + 1 else n) y4 y5 hT2 (fun q hq => hv q (List.mem_cons_of_mem _ hq)) (fun q hq => hne q (List.mem_cons_of_mem _ hq)) (by rw [List.length_append, List.length_map]; omega)
    refine ⟨z4, z5, ?_⟩
    rw [e, List.map_append, enumFrom_append, List.length_map]
    have hN : (if p.1 then n + 1 else n) + cnt ps = n + cnt (p :: ps) := by
      unfold cnt
      rw [List.countP_cons]
      cases p.1 <;> simp
      omega
    rw [hN, List.append_assoc] at h2
    exact run_append h1 h2
theorem number_pieces_eq {ps : List Part} (hv : ∀ p ∈ ps, ∀ t ∈ p.2, t ∈ allT) (hne : ∀ p ∈ ps, p.1 = true → p.2 ≠ []) (hc : cnt ps ≤ 3) (hm : (allTk ps).length ≤ 1000) : m_number_pieces [.lst ((toks ps).map D.str)] = .ok (.lst (pcs 0 ps)) := by
  unfold m_number_pieces F_number_pieces
  rw [zSeq_next (δ' := [some (.sh (.lst ((toks ps).map D.str))), some (.ow []), none, none, none, none]) (by simp [S_number_pieces_0, startE, lim])]
  unfold F_number_pieces_1
  rw [zSeq_next (δ' := [some (.sh (.lst ((toks ps).map D.str))), some (.ow []), some (.sh (.int 0)), none, none, none]) (by simp [S_number_pieces_1])]
  unfold F_number_pieces_2
  rw [zSeq_next (δ' := stN (toks ps) [] ((0 : Nat) : Int) false none none) (by simp [S_number_pieces_2, stN])]
  obtain ⟨y4, y5, h⟩ := np_parts (TL := toks ps) ps 0 [] 0 none none rfl hv hne (by simp; omega)
  unfold F_number_pieces_3 S_number_pieces_3
  rw [zSeq_next (δ' := stN (toks ps) (pcs 0 ps) (cnt ps : Int) false y4 y5) (by
    unfold zFor
    have e : (fun δ => ((mVar 0) δ).bind enumD) (stN (toks ps) [] ((0 : Nat) : Int) false none none) = .ok (enumFrom 0 ((toks ps).map D.str)) := rfl
    rw [e, bS_ok]
    have := run_loop h
    simpa using this)]
  have hc' : ¬ (3 : Int) < (cnt ps : Int) := by omega
  simp [F_number_pieces_4, S_number_pieces_4, F_number_pieces_5, S_number_pieces_5, F_number_pieces_6, S_number_pieces_6, stN, zSeq, c_MOST_LACKING_PARTS, hc', frzE]
structure OkP (ps : List Part) : Prop where
  v : ∀ p ∈ ps, ∀ t ∈ p.2, t ∈ allT
  ne : ∀ p ∈ ps, p.1 = true → p.2 ≠ []
  c : cnt ps ≤ 3
  nd : ((allTk ps).filter isPl).Nodup
  lo : 1 ≤ (form ps).length
  hi : (form ps).length ≤ 30
theorem nodup_count {p : List Nat} : ∀ {l : List (List Nat)}, l.Nodup → l.countP (fun x => x == p) ≤ 1
  | [], _ => by simp
  | a :: l, h => by
    have hh := List.nodup_cons.mp h
    rw [List.countP_cons]
    by_cases e : a = p
    · subst e
      have : l.countP (fun x => x == a) = 0 := by
        rw [List.countP_eq_zero]
        intro x hx z
        have : x = a := by simpa using z
        subst this
        exact hh.1 hx
      rw [this]
      simp
    · have := nodup_count (p := p) hh.2
      simp [e]
      exact this
theorem toks_count {p : List Nat} (hp : p ∈ places) : ∀ ps : List Part, (toks ps).countP (fun x => x == p) = (allTk ps).countP (fun x => x == p)
  | [] => rfl
  | q :: ps => by
    have h1 : ∀ p ∈ places, ([91] == p) = false ∧ ([93] == p) = false := by decide
    have ih := toks_count hp ps
    unfold toks allTk at ih ⊢
    rw [List.flatMap_cons, List.flatMap_cons, List.countP_append, List.countP_append, ih]
    congr 1
    unfold tks
    cases q.1 with
    | false => rfl
    | true =>
      simp only [if_true]
      rw [List.countP_cons, List.countP_append, (h1 p hp).1, List.countP_singleton, (h1 p hp).2]
      simp
theorem count_le {ps : List Part} (h : ((allTk ps).filter isPl).Nodup) {p : List Nat} (hp : p ∈ places) : (toks ps).countP (fun x => x == p) ≤ 1 := by
  rw [toks_count hp]
  have e : (allTk ps).countP (fun x => x == p) = ((allTk ps).filter isPl).countP (fun x => x == p) := by
    rw [List.countP_filter]
    refine List.countP_congr fun x _ => ?_
    constructor
    · intro hx
      have : x = p := by simpa using hx
      subst this
      have hpl : isPl x = true := by simpa [isPl] using hp
      simp [hpl]
    · intro hx
      simp at hx
      simp [hx.1]
  rw [e]
  exact nodup_count h
theorem toks_allB {ps : List Part} (hv : ∀ p ∈ ps, ∀ t ∈ p.2, t ∈ allT) : ∀ t ∈ toks ps, t ∈ allB := by
  intro t ht
  unfold toks at ht
  obtain ⟨p, hp, ht⟩ := List.mem_flatMap.mp ht
  unfold tks at ht
  cases hl : p.1 with
  | false => rw [hl] at ht; exact allT_sub (hv p hp t ht)
  | true =>
    rw [hl] at ht
    simp only [if_true] at ht
    rcases List.mem_cons.mp ht with rfl | ht
    · decide
    · rcases List.mem_append.mp ht with ht | ht
      · exact allT_sub (hv p hp t ht)
      · have : t = [93] := by simpa using ht
        subst this
        decide
theorem allTk_le {ps : List Part} (hv : ∀ p ∈ ps, ∀ t ∈ p.2, t ∈ allT) : (allTk ps).length ≤ (form ps).length := by
  induction ps with
  | nil => simp [allTk]
  | cons p ps ih =>
    have h1 := ih fun q hq => hv q (List.mem_cons_of_mem _ hq)
    have h2 : ∀ l : List (List Nat), (∀ t ∈ l, t ∈ allT) → l.length ≤ l.flatten.length := by
      intro l
      induction l with
      | nil => intro _; simp
      | cons t l ih =>
        intro h
        have h1 := ih fun z hz => h z (List.mem_cons_of_mem _ hz)
        have h2 := allB_pos (allT_sub (h t List.mem_cons_self))
        rw [List.flatten_cons, List.length_append, List.length_cons]
        omega
    have h3 := h2 p.2 (hv p List.mem_cons_self)
    have h4 : p.2.flatten.length ≤ (inner p).length := by
      unfold inner
      cases p.1 with
      | true => rw [if_pos rfl, List.length_append, List.length_append]; omega
      | false => rw [if_neg (by decide)]; omega
    unfold allTk form at *
    rw [List.flatMap_cons, List.flatMap_cons, List.length_append, List.length_append]
    omega
theorem read_form_eq {ps : List Part} (h : OkP ps) : m_read_form [.str (form ps)] = .ok (.lst (pcs 0 ps)) := by
  have hlen : oLen (.str (form ps)) = .ok (.int (form ps).length) := by simp only [oLen]; rw [if_pos (by have := h.hi; omega)]
  have hcut : m_cut_into_tokens [.str (form ps)] = .ok (.lst ((toks ps).map D.str)) := by
    have hh := h.hi
    rw [form_toks] at hh ⊢
    exact cut_eq (toks_allB h.v) hh
  have hnp := number_pieces_eq h.v h.ne h.c (by have := allTk_le h.v; have := h.hi; omega)
  have t1 : ¬ ((form ps).length : Int) < 1 := by have := h.lo; omega
  have t2 : ¬ (30 : Int) < ((form ps).length : Int) := by have := h.hi; omega
  unfold m_read_form F_read_form
  rw [zSeq_next (δ' := [some (.sh (.str (form ps))), none, none]) (by
    unfold S_read_form_0
    rw [zIf_no (by
      simp only [startE, List.map_cons, List.map_nil, List.cons_append, List.nil_append, e_mOr, e_m2t, e_m1, e_mC, e_mVar, List.getElem?_cons_zero, R.bind_ok, hlen, oLt_int, decide_eq_false t1, Bool.false_eq_true, if_false, c_LONGEST_FORM, oGt_int, decide_eq_false t2])]
    rfl)]
  unfold F_read_form_1
  rw [zSeq_next (δ' := [some (.sh (.str (form ps))), some (.sh (.lst ((toks ps).map D.str))), none]) (by
    simp only [S_read_form_1, e_zSet, e_mCall, e_mCons, e_mVar, e_mNil, List.getElem?_cons_zero, R.bind_ok, hcut, bS_ok]
    rfl)]
  obtain ⟨δ', e, x2, h3⟩ := zFor_next (fit := fun δ => ((mC c_PLACES) δ).bind itemsD) (bd := bN 2) (F := L_read_form_1) (δ := [some (.sh (.str (form ps))), some (.sh (.lst ((toks ps).map D.str))), none]) (ds := places.map D.str)
    (fun k δ => ∃ x2, δ = [some (.sh (.str (form ps))), some (.sh (.lst ((toks ps).map D.str))), x2]) rfl ⟨none, rfl⟩ (by
      rintro k d δ hd ⟨x2, rfl⟩
      rw [List.getElem?_map] at hd
      cases q : places[k]? with
      | none => rw [q] at hd; cases hd
      | some p =>
        rw [q] at hd
        cases hd
        have hp := List.mem_of_getElem? q
        refine ⟨[some (.sh (.str (form ps))), some (.sh (.lst ((toks ps).map D.str))), some (.sh (.str p))], [some (.sh (.str (form ps))), some (.sh (.lst ((toks ps).map D.str))), some (.sh (.str p))], rfl, .inl ?_, _, rfl⟩
        have hcount : mBL oCount (mVar 1) (mCons (mVar 2) (mNil)) [some (.sh (.str (form ps))), some (.sh (.lst ((toks ps).map D.str))), some (.sh (.str p))] = .ok (.int ((toks ps).countP (fun x => x == p) : Nat)) := by
          have e1 : (mCons (mVar 2) (mNil)) [some (.sh (.str (form ps))), some (.sh (.lst ((toks ps).map D.str))), some (.sh (.str p))] = .ok [.str p] := rfl
          have e2 : mVar 1 [some (.sh (.str (form ps))), some (.sh (.lst ((toks ps).map D.str))), some (.sh (.str p))] = .ok (.lst ((toks ps).map D.str)) := rfl
          unfold mBL
          rw [e2, R.bind_ok]
          dsimp only
          rw [e1, R.bind_ok]
          have hf : ((toks ps).map D.str).all flatD = true := by simp [flatD]
          simp only [oCount, hf, flatD, Bool.and_self, if_true]
          rw [List.countP_map]
          rfl
        have hle := count_le h.nd hp
        unfold L_read_form_1
        rw [zIf_no (by
          simp only [e_m2t, hcount, e_mC, R.bind_ok, oGt_int]
          rw [decide_eq_false (by omega)])])
  unfold F_read_form_2 S_read_form_2
  rw [zSeq_next e, h3]
  simp only [F_read_form_3, S_read_form_3, e_zRet, e_mCall, e_mCons, e_mVar, e_mNil, List.getElem?_cons_succ, List.getElem?_cons_zero, R.bind_ok, hnp, bS_ok, finR_ret]
structure Tx (s : List Nat) : Prop where
  l : s.length ≤ 1000
  c : ∀ c ∈ s, c < 1114112
def ni (l : List Nat) : List D := l.map fun n : Nat => D.int (n : Int)
theorem ni_row (l : List Nat) : (.lst (ni l) : D) = rowD (l.map fun n : Nat => (n : Int)) := by simp [ni, rowD]
theorem inB_ni (e : Nat) (l : List Nat) : inB (.int (e : Int)) (.lst (ni l)) = .ok (decide (e ∈ l)) := by
  rw [ni_row, inB_row]
  congr 1
  simp only [List.mem_map, decide_eq_decide]
  constructor
  · rintro ⟨a, ha, hb⟩
    have : a = e := by omega
    subst this; exact ha
  · exact fun h => ⟨e, h, rfl⟩
def addE (tx : List Nat) (s : Nat) (E : List Nat) (w : List Nat) : List Nat := if (tx.drop s).take w.length = w ∧ s + w.length ∉ E then E ++ [s + w.length] else E
def wayE (tx : List Nat) (ws : List (List Nat)) (E : List Nat) (s : Nat) : List Nat := ws.foldl (addE tx s) E
def pieceE (tx : List Nat) (ws : List (List Nat)) (S : List Nat) : List Nat := S.foldl (wayE tx ws) []
structure EOk (tx E : List Nat) : Prop where
  nd : E.Nodup
  le : ∀ e ∈ E, e ≤ tx.length
theorem EOk.len {tx E : List Nat} (h : EOk tx E) : E.length ≤ tx.length + 1 := by
  have := nodup_le (E.map fun n : Nat => (n : Int)) (rngI 0 (tx.length + 1)) (by
    have : ∀ l : List Nat, l.Nodup → (l.map fun n : Nat => (n : Int)).Nodup := by
      intro l
      induction l with
      | nil => intro _; simp
      | cons a l ih =>
        intro h
        have hh := List.nodup_cons.mp h
        rw [List.map_cons, List.nodup_cons]
        refine ⟨fun z => ?_, ih hh.2⟩
        obtain ⟨b, hb, e⟩ := List.mem_map.mp z
        have : b = a := by omega
        subst this
        exact hh.1 hb
    exact this E h.nd) (fun x hx => by
    obtain ⟨a, ha, rfl⟩ := List.mem_map.mp hx
    have := h.le a ha
    exact mem_rngI.mpr (by omega))
  rw [List.length_map, rngI_len] at this
  omega
theorem take_eq_le {tx w : List Nat} {s : Nat} (hs : s ≤ tx.length) (h : (tx.drop s).take w.length = w) : s + w.length ≤ tx.length := by
  have := congrArg List.length h
  rw [List.length_take, List.length_drop] at this
  omega
theorem addE_ok {tx : List Nat} {s : Nat} {E w : List Nat} (hs : s ≤ tx.length) (h : EOk tx E) : EOk tx (addE tx s E w) := by
  unfold addE
  split
  · rename_i c
    refine ⟨List.nodup_append.mpr ⟨h.nd, by simp, fun a ha b hb => ?_⟩, fun e he => ?_⟩
    · have : b = s + w.length := by simpa using hb
      subst this
      rintro rfl
      exact c.2 ha
    · rcases List.mem_append.mp he with he | he
      · exact h.le e he
      · have : e = s + w.length := by simpa using he
        subst this
        exact take_eq_le hs c.1
  · exact h
theorem mem_addE {tx : List Nat} {s : Nat} {E w : List Nat} {e : Nat} : e ∈ addE tx s E w ↔ e ∈ E ∨ ((tx.drop s).take w.length = w ∧ e = s + w.length) := by
  unfold addE
  split
  · rename_i c
    rw [List.mem_append]
    simp only [List.mem_singleton, c.1, true_and]
  · rename_i c
    constructor
    · exact .inl
    · rintro (h | ⟨h1, rfl⟩)
      · exact h
      · by_cases z : s + w.length ∈ E
        · exact z
        · exact absurd ⟨h1, z⟩ c
theorem wayE_ok {tx : List Nat} {s : Nat} (hs : s ≤ tx.length) : ∀ (ws : List (List Nat)) {E : List Nat}, EOk tx E → EOk tx (wayE tx ws E s)
  | [], E, h => h
  | w :: ws, E, h => wayE_ok hs ws (addE_ok hs h)
theorem mem_wayE {tx : List Nat} {s : Nat} {e : Nat} : ∀ (ws : List (List Nat)) {E : List Nat}, e ∈ wayE tx ws E s ↔ e ∈ E ∨ ∃ w ∈ ws, (tx.drop s).take w.length = w ∧ e = s + w.length
  | [], E => by simp [wayE]
  | w :: ws, E => by
    have := mem_wayE (tx := tx) (s := s) (e := e) ws (E := addE tx s E w)
    show e ∈ wayE tx ws (addE tx s E w) s ↔ _
    rw [this, mem_addE, or_assoc]
    simp
def At1 (tx : List Nat) (ws : List (List Nat)) (s e : Nat) : Prop := ∃ w ∈ ws, (tx.drop s).take w.length = w ∧ e = s + w.length
theorem foldE_ok {tx : List Nat} {ws : List (List Nat)} : ∀ (S : List Nat) {E : List Nat}, (∀ s ∈ S, s ≤ tx.length) → EOk tx E → EOk tx (S.foldl (wayE tx ws) E)
  | [], E, _, h => h
  | s :: S, E, hS, h => foldE_ok S (fun z hz => hS z (List.mem_cons_of_mem _ hz)) (wayE_ok (hS s List.mem_cons_self) ws h)
theorem pieceE_ok {tx : List Nat} {ws : List (List Nat)} {S : List Nat} (h : EOk tx S) : EOk tx (pieceE tx ws S) := foldE_ok S h.le ⟨by simp, by simp⟩
theorem mem_foldE {tx : List Nat} {ws : List (List Nat)} {e : Nat} : ∀ (S : List Nat) {E : List Nat}, e ∈ S.foldl (wayE tx ws) E ↔ e ∈ E ∨ ∃ s ∈ S, At1 tx ws s e
  | [], E => by simp
  | s :: S, E => by
    rw [List.foldl_cons, mem_foldE S, mem_wayE, or_assoc]
    simp [At1]
theorem mem_pieceE {tx : List Nat} {ws : List (List Nat)} {S : List Nat} {e : Nat} : e ∈ pieceE tx ws S ↔ ∃ s ∈ S, At1 tx ws s e := by
  unfold pieceE
  rw [mem_foldE]
  simp
theorem pieceE_nil {tx : List Nat} {ws : List (List Nat)} : pieceE tx ws [] = [] := rfl
theorem ep_one {W S4 : D} {tx : List Nat} (ht : Tx tx) {E : List Nat} {s : Nat} (hs : s ≤ tx.length) (hE : EOk tx E) {w : List Nat} (hw : Tx w) (x6 : Option Sl) :
    L_ends_of_piece_1 [some (.sh W), some (.sh (.str tx)), some (.sh S4), some (.ow ((ni E))), some (.sh (.int s)), some (.sh (.str w)), x6] = .next [some (.sh W), some (.sh (.str tx)), some (.sh S4), some (.ow ((ni (addE tx s E w)))), some (.sh (.int s)), some (.sh (.str w)), some (.sh (.int (((s + w.length : Nat) : Int))))] := by
  unfold L_ends_of_piece_1
  rw [zSeq_next (δ' := [some (.sh W), some (.sh (.str tx)), some (.sh S4), some (.ow ((ni E))), some (.sh (.int s)), some (.sh (.str w)), some (.sh (.int (((s + w.length : Nat) : Int))))]) (by simp_arith [oLen_str hw.l]; simp)]
  have hl := hE.len
  have hl2 := ht.l
  have hcut : oSl (.str tx) (some (s : Int)) (some ((s + w.length : Nat) : Int)) = .ok (.str ((tx.drop s).take w.length)) := by
    simp only [oSl]
    rw [if_pos (by omega), cutD_over _ hs (by omega)]
    congr 3
    omega
  have hdr : ∀ c ∈ (tx.drop s).take w.length, c < 1114112 := fun c hc => ht.c c (List.mem_of_mem_drop (List.mem_of_mem_take hc))
  have hnl : (ni E).length < 1000000 := by simp [ni]; omega
  by_cases c1 : (tx.drop s).take w.length = w
  · by_cases c2 : s + w.length ∈ E
    · have : addE tx s E w = E := by unfold addE; rw [if_neg (fun z => z.2 c2)]
      rw [this, zIf_no (by simp_arith [hcut, c1, oEq_str hw.c hw.c, oNin, inB_ni, beq_self_eq_true, c2, Bool.not_true])]
    · have : addE tx s E w = E ++ [s + w.length] := by unfold addE; rw [if_pos ⟨c1, c2⟩]
      rw [this, zIf_yes (by simp_arith [hcut, c1, oEq_str hw.c hw.c, oNin, inB_ni, beq_self_eq_true, c2, Bool.not_false])]
      simp_arith [hnl]
      simp [ni]
  · have : addE tx s E w = E := by unfold addE; rw [if_neg (fun z => c1 z.1)]
    rw [this, zIf_no (by simp_arith [hcut, oEq_str hdr hw.c, beq_eq_false_iff_ne.mpr c1])]
theorem ends_of_piece_eq {tx : List Nat} (ht : Tx tx) {ws : List (List Nat)} (hw : ∀ w ∈ ws, Tx w) {S : List Nat} (hS : ∀ s ∈ S, s ≤ tx.length) : m_ends_of_piece [.lst (ws.map D.str), .str tx, .lst (ni S)] = .ok (.lst (ni (pieceE tx ws S))) := by
  unfold m_ends_of_piece F_ends_of_piece
  rw [zSeq_next (δ' := [some (.sh (.lst (ws.map D.str))), some (.sh (.str tx)), some (.sh (.lst (ni S))), some (.ow ([])), none, none, none]) (by simp [S_ends_of_piece_0, startE, lim])]
  obtain ⟨δ', e, x4, x5, x6, h3⟩ := zFor_map (f := fun n : Nat => D.int (n : Int)) (l := S) (i := 4) (fit := fun δ => ((mVar 2) δ).bind itemsD) (F := L_ends_of_piece_2) (δ := [some (.sh (.lst (ws.map D.str))), some (.sh (.str tx)), some (.sh (.lst (ni S))), some (.ow ([])), none, none, none])
    (fun k δ => ∃ x4 x5 x6, δ = [some (.sh (.lst (ws.map D.str))), some (.sh (.str tx)), some (.sh (.lst (ni S))), some (.ow ((ni ((S.take k).foldl (wayE tx ws) [])))), x4, x5, x6]) rfl ⟨none, none, none, rfl⟩ (by
      rintro k s δ hk ⟨x4, x5, x6, rfl⟩
      have hs := hS s (List.mem_of_getElem? hk)
      have hE : EOk tx ((S.take k).foldl (wayE tx ws) []) := foldE_ok _ (fun z hz => hS z (List.mem_of_mem_take hz)) ⟨by simp, by simp⟩
      obtain ⟨δ2, e2, y5, y6, h2⟩ := zFor_map (f := D.str) (l := ws) (i := 5) (fit := fun δ => ((mVar 0) δ).bind itemsD) (F := L_ends_of_piece_1) (δ := [some (.sh (.lst (ws.map D.str))), some (.sh (.str tx)), some (.sh (.lst (ni S))), some (.ow ((ni ((S.take k).foldl (wayE tx ws) [])))), some (.sh (.int s)), x5, x6])
        (fun j δ => ∃ x5 x6, δ = [some (.sh (.lst (ws.map D.str))), some (.sh (.str tx)), some (.sh (.lst (ni S))), some (.ow ((ni (wayE tx (ws.take j) ((S.take k).foldl (wayE tx ws) []) s)))), some (.sh (.int s)), x5, x6]) rfl ⟨x5, x6, rfl⟩ (by
          rintro j w δ hj ⟨x5, x6, rfl⟩
          refine ⟨_, .inl (ep_one ht hs (wayE_ok hs _ hE) (hw w (List.mem_of_getElem? hj)) x6), some (.sh (.str w)), some (.sh (.int ((s + w.length : Nat) : Int))), ?_⟩
          have : addE tx s (wayE tx (ws.take j) ((S.take k).foldl (wayE tx ws) []) s) w = wayE tx (ws.take (j + 1)) ((S.take k).foldl (wayE tx ws) []) s := by
            unfold wayE
            rw [List.take_add_one, hj]
            simp
          rw [this])
      refine ⟨_, .inl (e2.trans (by rw [h2])), some (.sh (.int (s : Int))), y5, y6, ?_⟩
      rw [List.take_length]
      have : wayE tx ws ((S.take k).foldl (wayE tx ws) []) s = (S.take (k + 1)).foldl (wayE tx ws) [] := by
        rw [List.take_add_one, hk]
        simp
      rw [this])
  unfold F_ends_of_piece_1 S_ends_of_piece_1
  rw [zSeq_next e, h3, List.take_length]
  rfl
def partE (tx : List Nat) (W : List Nat → List (List Nat)) (ts : List (List Nat)) (S : List Nat) : List Nat := ts.foldl (fun S t => pieceE tx (W t) S) S
theorem partE_nil {tx : List Nat} {W : List Nat → List (List Nat)} : ∀ ts : List (List Nat), partE tx W ts [] = []
  | [] => rfl
  | t :: ts => by
    show partE tx W ts (pieceE tx (W t) []) = []
    rw [pieceE_nil]
    exact partE_nil ts
theorem partE_ok {tx : List Nat} {W : List Nat → List (List Nat)} : ∀ (ts : List (List Nat)) {S : List Nat}, EOk tx S → EOk tx (partE tx W ts S)
  | [], S, h => h
  | t :: ts, S, h => partE_ok ts (pieceE_ok h)
def PR (tx : List Nat) (W : List Nat → List (List Nat)) : List (List Nat) → Nat → Nat → Prop
  | [], s, e => s = e
  | t :: ts, s, e => ∃ m, At1 tx (W t) s m ∧ PR tx W ts m e
theorem mem_partE {tx : List Nat} {W : List Nat → List (List Nat)} {e : Nat} : ∀ (ts : List (List Nat)) {S : List Nat}, e ∈ partE tx W ts S ↔ ∃ s ∈ S, PR tx W ts s e
  | [], S => by simp [partE, PR]
  | t :: ts, S => by
    show e ∈ partE tx W ts (pieceE tx (W t) S) ↔ _
    rw [mem_partE ts]
    constructor
    · rintro ⟨m, hm, h⟩
      obtain ⟨s, hs, h1⟩ := mem_pieceE.mp hm
      exact ⟨s, hs, m, h1, h⟩
    · rintro ⟨s, hs, m, h1, h⟩
      exact ⟨m, mem_pieceE.mpr ⟨s, hs, h1⟩, h⟩
structure WD (wd : D) (W : List Nat → List (List Nat)) : Prop where
  pl : ∀ t ∈ places, oDix wd (.str [t.getD 1 0]) = .ok (.lst ((W t).map D.str))
  sg : ∀ c ∈ signs, W [c] = [[c]]
  ok : ∀ t ∈ allT, ∀ w ∈ W t, Tx w
theorem allT_cases {t : List Nat} (h : t ∈ allT) : (t ∈ places ∧ t.length = 3) ∨ ∃ c ∈ signs, t = [c] := by
  unfold allT at h
  rcases List.mem_append.mp h with h | h
  · have : ∀ t ∈ places, t.length = 3 := by decide
    exact .inl ⟨h, this t h⟩
  · obtain ⟨c, hc, rfl⟩ := List.mem_map.mp h
    exact .inr ⟨c, hc, rfl⟩
theorem signs_lt : ∀ c ∈ signs, c < 123 := by decide
theorem part_one {P S0 wd : D} {W : List Nat → List (List Nat)} (hw : WD wd W) {tx : List Nat} (ht : Tx tx) {S : List Nat} (hS : EOk tx S) {k : Int} {t : List Nat} (hT : t ∈ allT) (x6 : Option Sl) :
    L_ends_of_part_1 [some (.sh P), some (.sh wd), some (.sh (.str tx)), some (.sh S0), some (.sh (.lst (ni S))), some (.sh (pieceD k t)), x6] = (if pieceE tx (W t) S = [] then .ret (.lst []) else .next [some (.sh P), some (.sh wd), some (.sh (.str tx)), some (.sh S0), some (.sh (.lst (ni (pieceE tx (W t) S)))), some (.sh (pieceD k t)), some (.sh (.lst ((W t).map D.str)))]) := by
  unfold L_ends_of_part_1
  have hwr : zSet 6 (mIf (m2t oEq (m2 oIx (mVar 5) (mC (.int 0))) (mC (.str [112, 108, 97, 99, 101]))) (m2 oDix (mVar 1) (m2 oIx (mVar 5) (mC (.int 1)))) (mLst (mCons (m2 oIx (mVar 5) (mC (.int 1))) (mNil)))) [some (.sh P), some (.sh wd), some (.sh (.str tx)), some (.sh S0), some (.sh (.lst (ni S))), some (.sh (pieceD k t)), x6] = .next [some (.sh P), some (.sh wd), some (.sh (.str tx)), some (.sh S0), some (.sh (.lst (ni S))), some (.sh (pieceD k t)), some (.sh (.lst ((W t).map D.str)))] := by
    rcases allT_cases hT with ⟨hp, h3⟩ | ⟨c, hc, rfl⟩
    · have e : pieceD k t = .tup [.str [112, 108, 97, 99, 101], .str [t.getD 1 0], .int k] := by unfold pieceD; rw [if_pos h3]
      have i0 : oIx (pieceD k t) (.int 0) = .ok (.str [112, 108, 97, 99, 101]) := by rw [e]; rfl
      have i1 : oIx (pieceD k t) (.int 1) = .ok (.str [t.getD 1 0]) := by rw [e]; rfl
      have hq : oEq (.str [112, 108, 97, 99, 101]) (.str [112, 108, 97, 99, 101]) = .ok true := by rw [oEq_str (by decide) (by decide)]; rfl
      simp_arith [i0, i1, hq, hw.pl t hp]
    · have e : pieceD k [c] = .tup [.str [115, 105, 103, 110], .str [c], .int k] := by unfold pieceD; rw [if_neg (by simp)]
      have i0 : oIx (pieceD k [c]) (.int 0) = .ok (.str [115, 105, 103, 110]) := by rw [e]; rfl
      have i1 : oIx (pieceD k [c]) (.int 1) = .ok (.str [c]) := by rw [e]; rfl
      have hq : oEq (.str [115, 105, 103, 110]) (.str [112, 108, 97, 99, 101]) = .ok false := by rw [oEq_str (by decide) (by decide)]; rfl
      simp_arith [i0, i1, hq, hw.sg c hc]
      rfl
  rw [zSeq_next hwr]
  have he := ends_of_piece_eq ht (ws := W t) (hw.ok t hT) (S := S) hS.le
  rw [zSeq_next (δ' := [some (.sh P), some (.sh wd), some (.sh (.str tx)), some (.sh S0), some (.sh (.lst (ni (pieceE tx (W t) S)))), some (.sh (pieceD k t)), some (.sh (.lst ((W t).map D.str)))]) (by simp_arith [he])]
  have hnil : oEq (.lst (ni (pieceE tx (W t) S))) (.lst []) = .ok (pieceE tx (W t) S).isEmpty := by
    unfold oEq
    rw [ni_row, okP_row, show okP (.lst []) = true from okP_row []]
    simp only [Bool.and_self, if_true]
    rw [show (rowD ((pieceE tx (W t) S).map fun n : Nat => (n : Int))) = .lst (((pieceE tx (W t) S).map fun n : Nat => (n : Int)).map D.int) from rfl, eqD_nil]
    cases pieceE tx (W t) S <;> rfl
  cases hz : pieceE tx (W t) S with
  | nil =>
    rw [hz] at hnil
    rw [zIf_yes (by simp_arith [hnil]; rfl), if_pos rfl]
    rfl
  | cons a l =>
    rw [hz] at hnil
    rw [zIf_no (by simp_arith [hnil]; rfl), if_neg (by simp)]
theorem part_loop {P S0 wd : D} {W : List Nat → List (List Nat)} (hw : WD wd W) {tx : List Nat} (ht : Tx tx) {k : Int} : ∀ (ts : List (List Nat)) {S : List Nat} (x5 x6 : Option Sl), (∀ t ∈ ts, t ∈ allT) → EOk tx S →
    (loopZ (bN 5) L_ends_of_part_1 (ts.map (pieceD k)) [some (.sh P), some (.sh wd), some (.sh (.str tx)), some (.sh S0), some (.sh (.lst (ni S))), x5, x6] = .ret (.lst []) ∧ partE tx W ts S = []) ∨ ∃ y5 y6, loopZ (bN 5) L_ends_of_part_1 (ts.map (pieceD k)) [some (.sh P), some (.sh wd), some (.sh (.str tx)), some (.sh S0), some (.sh (.lst (ni S))), x5, x6] = .next [some (.sh P), some (.sh wd), some (.sh (.str tx)), some (.sh S0), some (.sh (.lst (ni (partE tx W ts S)))), y5, y6]
  | [], S, x5, x6, _, _ => .inr ⟨x5, x6, rfl⟩
  | t :: ts, S, x5, x6, hT, hS => by
    have h1 := part_one (P := P) (S0 := S0) hw ht hS (k := k) (hT t List.mem_cons_self) x6
    by_cases hz : pieceE tx (W t) S = []
    · refine .inl ⟨?_, ?_⟩
      · rw [if_pos hz] at h1
        exact loopZ_ret (δ1 := [some (.sh P), some (.sh wd), some (.sh (.str tx)), some (.sh S0), some (.sh (.lst (ni S))), some (.sh (pieceD k t)), x6]) rfl h1
      · show partE tx W ts (pieceE tx (W t) S) = []
        rw [hz, partE_nil]
    · rw [if_neg hz] at h1
      have e : loopZ (bN 5) L_ends_of_part_1 ((t :: ts).map (pieceD k)) [some (.sh P), some (.sh wd), some (.sh (.str tx)), some (.sh S0), some (.sh (.lst (ni S))), x5, x6] = loopZ (bN 5) L_ends_of_part_1 (ts.map (pieceD k)) [some (.sh P), some (.sh wd), some (.sh (.str tx)), some (.sh S0), some (.sh (.lst (ni (pieceE tx (W t) S)))), some (.sh (pieceD k t)), some (.sh (.lst ((W t).map D.str)))] := loopZ_next (δ1 := [some (.sh P), some (.sh wd), some (.sh (.str tx)), some (.sh S0), some (.sh (.lst (ni S))), some (.sh (pieceD k t)), x6]) rfl h1
      rw [e]
      exact part_loop hw ht ts _ _ (fun z hz => hT z (List.mem_cons_of_mem _ hz)) (pieceE_ok hS)
theorem ends_of_part_eq {wd : D} {W : List Nat → List (List Nat)} (hw : WD wd W) {tx : List Nat} (ht : Tx tx) {k : Int} {ts : List (List Nat)} (hT : ∀ t ∈ ts, t ∈ allT) {S : List Nat} (hS : EOk tx S) : m_ends_of_part [.lst (ts.map (pieceD k)), wd, .str tx, .lst (ni S)] = .ok (.lst (ni (partE tx W ts S))) := by
  unfold m_ends_of_part F_ends_of_part
  rw [zSeq_next (δ' := [some (.sh (.lst (ts.map (pieceD k)))), some (.sh wd), some (.sh (.str tx)), some (.sh (.lst (ni S))), some (.sh (.lst (ni S))), none, none]) (by simp [S_ends_of_part_0, startE])]
  unfold F_ends_of_part_1
  have hz : S_ends_of_part_1 [some (.sh (.lst (ts.map (pieceD k)))), some (.sh wd), some (.sh (.str tx)), some (.sh (.lst (ni S))), some (.sh (.lst (ni S))), none, none] = loopZ (bN 5) L_ends_of_part_1 (ts.map (pieceD k)) [some (.sh (.lst (ts.map (pieceD k)))), some (.sh wd), some (.sh (.str tx)), some (.sh (.lst (ni S))), some (.sh (.lst (ni S))), none, none] := rfl
  rcases part_loop (P := .lst (ts.map (pieceD k))) (S0 := .lst (ni S)) hw ht (k := k) ts none none hT hS with ⟨h1, h2⟩ | ⟨y5, y6, h1⟩
  · rw [zSeq_ret (hz.trans h1), h2]
    rfl
  · rw [zSeq_next (hz.trans h1)]
    rfl
abbrev Grp := Int × List (List Nat)
def gD (g : Grp) : D := .lst (g.2.map (pieceD g.1))
def grpE1 (tx : List Nat) (W : List Nat → List (List Nat)) (S : List Nat) (g : Grp) : List Nat := if 0 < g.1 then S ++ (partE tx W g.2 S).filter (fun e => !decide (e ∈ S)) else partE tx W g.2 S
def GR (tx : List Nat) (W : List Nat → List (List Nat)) : List Grp → Nat → Nat → Prop
  | [], s, e => s = e
  | g :: gs, s, e => ∃ m, (PR tx W g.2 s m ∨ (0 < g.1 ∧ m = s)) ∧ GR tx W gs m e
theorem grpE1_ok {tx : List Nat} {W : List Nat → List (List Nat)} {S : List Nat} (h : EOk tx S) (g : Grp) : EOk tx (grpE1 tx W S g) := by
  unfold grpE1
  have hp := partE_ok (W := W) g.2 h
  split
  · refine ⟨List.nodup_append.mpr ⟨h.nd, hp.nd.filter _, fun a ha b hb => ?_⟩, fun e he => ?_⟩
    · have := (List.mem_filter.mp hb).2
      rintro rfl
      simp [ha] at this
    · rcases List.mem_append.mp he with he | he
      · exact h.le e he
      · exact hp.le e (List.mem_filter.mp he).1
  · exact hp
theorem mem_grpE1 {tx : List Nat} {W : List Nat → List (List Nat)} {S : List Nat} {g : Grp} {e : Nat} : e ∈ grpE1 tx W S g ↔ ∃ s ∈ S, PR tx W g.2 s e ∨ (0 < g.1 ∧ e = s) := by
  unfold grpE1
  split
  · rename_i hk
    rw [List.mem_append, List.mem_filter, mem_partE]
    constructor
    · rintro (h | ⟨⟨s, hs, h⟩, _⟩)
      · exact ⟨e, h, .inr ⟨hk, rfl⟩⟩
      · exact ⟨s, hs, .inl h⟩
    · rintro ⟨s, hs, h | ⟨_, rfl⟩⟩
      · by_cases z : e ∈ S
        · exact .inl z
        · exact .inr ⟨⟨s, hs, h⟩, by simp [z]⟩
      · exact .inl hs
  · rename_i hk
    rw [mem_partE]
    constructor
    · rintro ⟨s, hs, h⟩
      exact ⟨s, hs, .inl h⟩
    · rintro ⟨s, hs, h | ⟨h, _⟩⟩
      · exact ⟨s, hs, h⟩
      · exact absurd h hk
theorem mem_grps {tx : List Nat} {W : List Nat → List (List Nat)} {e : Nat} : ∀ (gs : List Grp) {S : List Nat}, e ∈ gs.foldl (grpE1 tx W) S ↔ ∃ s ∈ S, GR tx W gs s e
  | [], S => by simp [GR]
  | g :: gs, S => by
    rw [List.foldl_cons, mem_grps gs]
    constructor
    · rintro ⟨m, hm, h⟩
      obtain ⟨s, hs, h1⟩ := mem_grpE1.mp hm
      exact ⟨s, hs, m, h1, h⟩
    · rintro ⟨s, hs, m, h1, h⟩
      exact ⟨m, mem_grpE1.mpr ⟨s, hs, h1⟩, h⟩
theorem grps_ok {tx : List Nat} {W : List Nat → List (List Nat)} : ∀ (gs : List Grp) {S : List Nat}, EOk tx S → EOk tx (gs.foldl (grpE1 tx W) S)
  | [], S, h => h
  | g :: gs, S, h => grps_ok gs (grpE1_ok h g)
theorem written_one {P wd : D} {W : List Nat → List (List Nat)} (hw : WD wd W) {tx : List Nat} (ht : Tx tx) {S : List Nat} (hS : EOk tx S) {g : Grp} (hg : ∀ t ∈ g.2, t ∈ allT) (hne : g.2 ≠ []) (x5 : Option Sl) :
    L_is_written_1 [some (.sh P), some (.sh wd), some (.sh (.str tx)), some (.sh (.lst (ni S))), some (.sh (gD g)), x5] = .next [some (.sh P), some (.sh wd), some (.sh (.str tx)), some (.sh (.lst (ni (grpE1 tx W S g)))), some (.sh (gD g)), some (.sh (.lst (ni S)))] := by
  unfold L_is_written_1
  rw [zSeq_next (δ' := [some (.sh P), some (.sh wd), some (.sh (.str tx)), some (.sh (.lst (ni S))), some (.sh (gD g)), some (.sh (.lst (ni S)))]) (by simp_arith [])]
  have hp := ends_of_part_eq hw ht (k := g.1) hg hS
  rw [zSeq_next (δ' := [some (.sh P), some (.sh wd), some (.sh (.str tx)), some (.sh (.lst (ni (partE tx W g.2 S)))), some (.sh (gD g)), some (.sh (.lst (ni S)))]) (by simp_arith [gD, hp])]
  obtain ⟨t, ts, e2⟩ : ∃ t ts, g.2 = t :: ts := by
    cases h : g.2 with
    | nil => exact absurd h hne
    | cons t ts => exact ⟨t, ts, rfl⟩
  have i0 : oIx (gD g) (.int 0) = .ok (pieceD g.1 t) := by unfold gD; rw [e2]; exact oIx_lst (atI_some (k := 0) rfl)
  have i2 : oIx (pieceD g.1 t) (.int 2) = .ok (.int g.1) := by
    unfold pieceD
    split <;> rfl
  have hl := (partE_ok (W := W) g.2 hS).len
  have hl2 := hS.len
  have hl3 := ht.l
  unfold grpE1
  by_cases hk : 0 < g.1
  · rw [zIf_yes (by simp_arith [i0, i2, hk]), if_pos hk]
    have hc : mComp (fun δ => ((mVar 3) δ).bind itemsD) (m2t oNin (mVar 6) (mVar 5)) (mVar 6) [some (.sh P), some (.sh wd), some (.sh (.str tx)), some (.sh (.lst (ni (partE tx W g.2 S)))), some (.sh (gD g)), some (.sh (.lst (ni S)))] = .ok (ni ((partE tx W g.2 S).filter (fun e => !decide (e ∈ S)))) := by
      refine comp_filter (l := partE tx W g.2 S) (h := fun n : Nat => D.int (n : Int)) (g := fun n : Nat => D.int (n : Int)) (p := fun e => !decide (e ∈ S)) rfl (by omega) (fun a ha => ?_) (fun a ha _ => rfl)
      show oNin (.int (a : Int)) (.lst (ni S)) = _
      rw [oNin, inB_ni]
      rfl
    have hfl : ((partE tx W g.2 S).filter (fun e => !decide (e ∈ S))).length ≤ (partE tx W g.2 S).length := List.length_filter_le _ _
    have hcat : oCat (.lst (ni S)) (.lst (ni ((partE tx W g.2 S).filter (fun e => !decide (e ∈ S))))) = .ok (.lst (ni (S ++ (partE tx W g.2 S).filter (fun e => !decide (e ∈ S))))) := by
      rw [oCat_ok (by simp only [ni, List.length_map]; omega)]
      simp [ni]
    rw [e_zSet, e_m2, e_mL, hc]
    simp_arith [hcat]
  · rw [zIf_no (by simp_arith [i0, i2, hk]), if_neg hk]
theorem is_written_eq {wd : D} {W : List Nat → List (List Nat)} (hw : WD wd W) {tx : List Nat} (ht : Tx tx) {gs : List Grp} (hg : ∀ g ∈ gs, (∀ t ∈ g.2, t ∈ allT) ∧ g.2 ≠ []) : ∃ b, m_is_written [.lst (gs.map gD), wd, .str tx] = .ok (.bl b) ∧ (b = true ↔ GR tx W gs 0 tx.length) := by
  refine ⟨decide (tx.length ∈ gs.foldl (grpE1 tx W) [0]), ?_, ?_⟩
  · unfold m_is_written F_is_written
    rw [zSeq_next (δ' := [some (.sh (.lst (gs.map gD))), some (.sh wd), some (.sh (.str tx)), some (.sh (.lst (ni [0]))), none, none]) (by simp [S_is_written_0, startE, ni])]
    obtain ⟨δ', e, x4, x5, h3⟩ := zFor_map (f := gD) (l := gs) (i := 4) (fit := fun δ => ((mVar 0) δ).bind itemsD) (F := L_is_written_1) (δ := [some (.sh (.lst (gs.map gD))), some (.sh wd), some (.sh (.str tx)), some (.sh (.lst (ni [0]))), none, none])
      (fun k δ => ∃ x4 x5, δ = [some (.sh (.lst (gs.map gD))), some (.sh wd), some (.sh (.str tx)), some (.sh (.lst (ni ((gs.take k).foldl (grpE1 tx W) [0])))), x4, x5]) rfl ⟨none, none, rfl⟩ (by
        rintro k g δ hk ⟨x4, x5, rfl⟩
        obtain ⟨h1, h2⟩ := hg g (List.mem_of_getElem? hk)
        refine ⟨_, .inl (written_one hw ht (grps_ok _ ⟨by simp, by simp⟩) h1 h2 x5), some (.sh (gD g)), some (.sh (.lst (ni ((gs.take k).foldl (grpE1 tx W) [0])))), ?_⟩
        rw [List.take_add_one, hk]
        simp)
    unfold F_is_written_1 S_is_written_1
    rw [zSeq_next e, h3, List.take_length]
    unfold F_is_written_2 S_is_written_2
    simp_arith [oLen_str ht.l, op2, oIn, inB_ni]
    rfl
  · rw [decide_eq_true_eq, mem_grps]
    simp
def months : List (List Nat) := [[106, 97, 110, 117, 97, 114, 121], [102, 101, 98, 114, 117, 97, 114, 121], [109, 97, 114, 99, 104], [97, 112, 114, 105, 108], [109, 97, 121], [106, 117, 110, 101], [106, 117, 108, 121], [97, 117, 103, 117, 115, 116], [115, 101, 112, 116, 101, 109, 98, 101, 114], [111, 99, 116, 111, 98, 101, 114], [110, 111, 118, 101, 109, 98, 101, 114], [100, 101, 99, 101, 109, 98, 101, 114]]
def weekdays : List (List Nat) := [[109, 111, 110, 100, 97, 121], [116, 117, 101, 115, 100, 97, 121], [119, 101, 100, 110, 101, 115, 100, 97, 121], [116, 104, 117, 114, 115, 100, 97, 121], [102, 114, 105, 100, 97, 121], [115, 97, 116, 117, 114, 100, 97, 121], [115, 117, 110, 100, 97, 121]]
def figs (n : Nat) : List (List Nat) := if n < 10 then [dg n, 48 :: dg n] else [dg n]
def begs (s : List Nat) : List (List Nat) := (List.range s.length).map fun k => s.take (k + 1)
def WY (y m d w : Nat) (t : List Nat) : List (List Nat) :=
  if t = [60, 100, 62] then figs d else if t = [60, 109, 62] then figs m else if t = [60, 121, 62] then [zf2 y] else if t = [60, 89, 62] then [zf4 y] else
  if t = [60, 110, 62] then begs (months.getD (m - 1) []) else if t = [60, 119, 62] then begs (weekdays.getD w []) else [t]
abbrev strsL (l : List (List Nat)) : D := .lst (l.map D.str)
def wayD (y m d w : Nat) : D := .dic [Sum.inr ("d" : Str), Sum.inr ("m" : Str), Sum.inr ("y" : Str), Sum.inr ("Y" : Str), Sum.inr ("n" : Str), Sum.inr ("w" : Str)]
  [strsL (figs d), strsL (figs m), strsL [zf2 y], strsL [zf4 y], strsL (begs (months.getD (m - 1) [])), strsL (begs (weekdays.getD w []))]
theorem name_small : ∀ s ∈ months ++ weekdays, s.length ≤ 9 ∧ ∀ c ∈ s, c < 123 := by decide
theorem mem_months (m : Nat) : months.getD (m - 1) [] = [] ∨ months.getD (m - 1) [] ∈ months ++ weekdays := by
  rw [List.getD_eq_getElem?_getD]
  cases h : months[m - 1]? with
  | none => exact .inl rfl
  | some s => exact .inr (List.mem_append_left _ (List.mem_of_getElem? h))
theorem mem_weekdays (w : Nat) : weekdays.getD w [] = [] ∨ weekdays.getD w [] ∈ months ++ weekdays := by
  rw [List.getD_eq_getElem?_getD]
  cases h : weekdays[w]? with
  | none => exact .inl rfl
  | some s => exact .inr (List.mem_append_right _ (List.mem_of_getElem? h))
theorem name_tx {s : List Nat} (h : s = [] ∨ s ∈ months ++ weekdays) : s.length ≤ 9 ∧ ∀ c ∈ s, c < 123 := by
  rcases h with rfl | h
  · simp
  · exact name_small s h
theorem figs_tx {n : Nat} (h : n < 10000) : ∀ w ∈ figs n, Tx w := by
  have hd := dg_digit h
  have hl := @dg_len n
  have h1 : Tx (dg n) := ⟨by omega, fun c hc => by have := hd c hc; omega⟩
  have h2 : Tx (48 :: dg n) := ⟨by simp; omega, fun c hc => by
    rcases List.mem_cons.mp hc with rfl | hc
    · omega
    · exact h1.c c hc⟩
  intro w hw
  unfold figs at hw
  split at hw
  · rcases List.mem_cons.mp hw with rfl | hw
    · exact h1
    · have : w = 48 :: dg n := by simpa using hw
      subst this; exact h2
  · have : w = dg n := by simpa using hw
    subst this; exact h1
theorem begs_tx {s : List Nat} (h : s.length ≤ 9 ∧ ∀ c ∈ s, c < 123) : ∀ w ∈ begs s, Tx w := by
  intro w hw
  obtain ⟨k, hk, rfl⟩ := List.mem_map.mp hw
  refine ⟨?_, fun c hc => ?_⟩
  · rw [List.length_take]; omega
  · have := h.2 c (List.mem_of_mem_take hc)
    omega
theorem WY_tx {y m d w : Nat} (hm : m < 10000) (hd : d < 10000) {t : List Nat} (ht : t ∈ allT) : ∀ x ∈ WY y m d w t, Tx x := by
  intro x hx
  unfold WY at hx
  split at hx
  · exact figs_tx hd x hx
  · split at hx
    · exact figs_tx hm x hx
    · split at hx
      · have : x = zf2 y := by simpa using hx
        subst this
        refine ⟨by simp [zf2], fun c hc => ?_⟩
        simp [zf2] at hc
        omega
      · split at hx
        · have : x = zf4 y := by simpa using hx
          subst this
          refine ⟨by simp [zf4], fun c hc => ?_⟩
          simp [zf4] at hc
          omega
        · split at hx
          · exact begs_tx (name_tx (mem_months m)) x hx
          · split at hx
            · exact begs_tx (name_tx (mem_weekdays w)) x hx
            · have : x = t := by simpa using hx
              subst this
              have : ∀ t ∈ allT, t.length ≤ 3 ∧ ∀ c ∈ t, c < 123 := by decide
              obtain ⟨h1, h2⟩ := this x ht
              exact ⟨by omega, fun c hc => by have := h2 c hc; omega⟩
theorem WY_sign (y m d w : Nat) : ∀ c ∈ signs, WY y m d w [c] = [[c]] := fun c _ => by simp [WY]
theorem WD_way {y m d w : Nat} (hm : m < 10000) (hd : d < 10000) : WD (wayD y m d w) (WY y m d w) where
  pl := by
    intro t ht
    simp only [places, List.mem_cons, List.not_mem_nil, or_false] at ht
    rcases ht with rfl | rfl | rfl | rfl | rfl | rfl <;> rfl
  sg := WY_sign y m d w
  ok := fun t ht => WY_tx hm hd ht
theorem figures_eq {n : Nat} (h : n < 10000) : m_figures [.int (n : Int)] = .ok (strsL (figs n)) := by
  unfold m_figures F_figures figs
  simp only [startE, List.map_cons, List.map_nil, List.length_cons, List.length_nil]
  by_cases c : n < 10
  · have c' : (n : Int) < 10 := by omega
    rw [zSeq_ret (d := strsL [dg n, 48 :: dg n]) (by
      rw [zIf_yes (by simp [c'])]
      simp [oStr_dg h, oFs_dg h]), if_pos c]
    rfl
  · have c' : ¬ (n : Int) < 10 := by omega
    rw [zSeq_next (δ' := [some (.sh (.int n))]) (by rw [zIf_no (by simp [c'])]; rfl), if_neg c]
    simp [F_figures_1, oStr_dg h]
theorem begs_rng (s : List Nat) : begs s = (rngI 1 (s.length + 1)).map fun k => s.take k.toNat := by
  unfold begs rngI
  rw [List.map_map]
  have : ((s.length : Int) + 1 - 1).toNat = s.length := by omega
  rw [this]
  refine List.map_congr_left fun k hk => ?_
  simp only [Function.comp]
  congr 1
  omega
theorem beginnings_eq {s : List Nat} (h : s.length ≤ 1000) : m_beginnings [.str s] = .ok (strsL (begs s)) := by
  unfold m_beginnings F_beginnings
  have hc : mComp (fun δ => ((mCons (mC (.int 1)) (mCons (m2 oAdd (m1 oLen (mVar 0)) (mC (.int 1))) (mNil))) δ).bind iR2) (fun _ => .ok true) (mSl (mVar 0) (mNoP) (mP (mVar 1))) [some (.sh (.str s))] = .ok ((rngI 1 (s.length + 1)).map fun k => D.str (s.take k.toNat)) := by
    have e1 : (mCons (mC (.int 1)) (mCons (m2 oAdd (m1 oLen (mVar 0)) (mC (.int 1))) (mNil))) [some (.sh (.str s))] = .ok [.int 1, .int ((s.length : Int) + 1)] := by
      simp_arith [oLen_str h]
    refine comp_map (l := rngI 1 (s.length + 1)) (h := D.int) ?_ (by rw [rngI_len]; omega) (fun a ha => ?_)
    · rw [← rngD_map]
      exact fit2 (fs := mCons (mC (.int 1)) (mCons (m2 oAdd (m1 oLen (mVar 0)) (mC (.int 1))) (mNil))) e1 (by omega) (by omega) (by omega) (by omega)
    · have hb := mem_rngI.mp ha
      obtain ⟨k, rfl⟩ : ∃ k : Nat, a = (k : Int) := ⟨a.toNat, by omega⟩
      show oSl (.str s) none (some (k : Int)) = _
      simp only [oSl]
      rw [if_pos (by omega), cutD_to _ (by omega)]
      rfl
  have e2 : startE 1 [.str s] = [some (.sh (.str s))] := rfl
  rw [e2, e_zRet, e_mL, hc, begs_rng]
  simp [List.map_map, Function.comp]
def kt : Nat → List Part → List (Int × List Nat)
  | _, [] => []
  | n, p :: ps => p.2.map (fun t => ((if p.1 then ((n + 1 : Nat) : Int) else 0), t)) ++ kt (if p.1 then n + 1 else n) ps
def pcK (p : Int × List Nat) : D := pieceD p.1 p.2
theorem pcs_kt : ∀ (ps : List Part) (n : Nat), pcs n ps = (kt n ps).map pcK
  | [], _ => rfl
  | p :: ps, n => by
    simp only [pcs, kt, List.map_append, List.map_map, pcs_kt ps]
    rfl
def gAdd (gs : List Grp) (p : Int × List Nat) : List Grp := match gs.getLast? with
  | none => [(p.1, [p.2])]
  | some g => if g.1 = p.1 then gs.dropLast ++ [(p.1, g.2 ++ [p.2])] else gs ++ [(p.1, [p.2])]
def gL (g : Grp) : List D := g.2.map (pieceD g.1)
theorem pc_ix2 (p : Int × List Nat) : oIx (pcK p) (.int 2) = .ok (.int p.1) := by
  unfold pcK pieceD
  split <;> rfl
theorem oNe_int (i j : Int) : oNe (.int i) (.int j) = .ok (!decide (i = j)) := by
  unfold oNe
  rw [show okP (.int i) = true from rfl, show okP (.int j) = true from rfl]
  simp [eqD, toP, PyData.eqv]
  rfl
theorem oEq_int (i j : Int) : oEq (.int i) (.int j) = .ok (decide (i = j)) := by
  unfold oEq
  rw [show okP (.int i) = true from rfl, show okP (.int j) = true from rfl]
  simp [eqD, toP, PyData.eqv]
  rfl
theorem grp_loop {L : List (Int × List Nat)} {d0 : D} (hd0 : d0 = .lst (L.map pcK)) : ∀ (rest done : List (Int × List Nat)) (gs : List Grp), L = done ++ rest → (gs.getLast?.map (·.1)) = (done.getLast?.map (·.1)) →
    grp (grpE 1 2 3 [some (.sh d0), none, none, none]) (mOr (m2t oEq (mVar 2) (mC (.int 0))) (m2t oNe (m2 oIx (mVar 3) (mC (.int 2))) (m2 oIx (m2 oIx (mVar 0) (m2 oSub (mVar 2) (mC (.int 1)))) (mC (.int 2))))) done.length (rest.map pcK) (gs.map gL) = .ok ((rest.foldl gAdd gs).map gL)
  | [], done, gs, _, _ => rfl
  | p :: rest, done, gs, hL, hk => by
    have henv : grpE 1 2 3 [some (.sh d0), none, none, none] done.length (pcK p) = [some (.sh d0), none, some (.sh (.int ((done.length : Int)))), some (.sh (pcK p))] := rfl
    have ih := fun gs' h => grp_loop hd0 rest (done ++ [p]) gs' (by rw [hL]; simp) h
    rw [List.length_append] at ih
    simp only [List.length_cons, List.length_nil, Nat.zero_add] at ih
    rw [List.map_cons, grp, henv, List.foldl_cons]
    cases hz : done.getLast? with
    | none =>
      have hn : done = [] := List.getLast?_eq_none_iff.mp hz
      subst hn
      have hg : gs = [] := by
        rw [hz] at hk
        cases h : gs.getLast? with
        | none => exact List.getLast?_eq_none_iff.mp h
        | some g => rw [h] at hk; cases hk
      subst hg
      have et : (mOr (m2t oEq (mVar 2) (mC (.int 0))) (m2t oNe (m2 oIx (mVar 3) (mC (.int 2))) (m2 oIx (m2 oIx (mVar 0) (m2 oSub (mVar 2) (mC (.int 1)))) (mC (.int 2))))) [some (.sh d0), none, some (.sh (.int ((([] : List (Int × List Nat)).length : Int)))), some (.sh (pcK p))] = .ok true := by
        simp_arith [List.length_nil, oEq_int]
        simp
      rw [et]
      exact ih [(p.1, [p.2])] (by simp)
    | some q =>
      have hne : done ≠ [] := by rintro rfl; cases hz
      have hpos : 0 < done.length := List.length_pos_iff.mpr hne
      have hlast : (L.map pcK)[done.length - 1]? = some (pcK q) := by
        rw [hL, List.getElem?_map, List.getElem?_append_left (by omega), ← List.getLast?_eq_getElem?, hz]
        rfl
      have hix : oIx d0 (.int ((done.length : Int) - 1)) = .ok (pcK q) := by
        rw [hd0]
        have : ((done.length : Int) - 1) = ((done.length - 1 : Nat) : Int) := by omega
        rw [this]
        exact oIx_lst (atI_some hlast)
      have hn0 : ¬ (done.length : Int) = 0 := by omega
      have et : (mOr (m2t oEq (mVar 2) (mC (.int 0))) (m2t oNe (m2 oIx (mVar 3) (mC (.int 2))) (m2 oIx (m2 oIx (mVar 0) (m2 oSub (mVar 2) (mC (.int 1)))) (mC (.int 2))))) [some (.sh d0), none, some (.sh (.int ((done.length : Int)))), some (.sh (pcK p))] = .ok (!decide (p.1 = q.1)) := by
        simp_arith [oEq_int, hn0, pc_ix2, hix, oNe_int]
      rw [et]
      obtain ⟨g, hg⟩ : ∃ g, gs.getLast? = some g := by
        cases h : gs.getLast? with
        | none => rw [h, hz] at hk; cases hk
        | some g => exact ⟨g, rfl⟩
      have hgq : g.1 = q.1 := by rw [hg, hz] at hk; simpa using hk
      by_cases c : p.1 = q.1
      · have e1 : gAdd gs p = gs.dropLast ++ [(p.1, g.2 ++ [p.2])] := by unfold gAdd; rw [hg]; simp [hgq, c]
        have e2 : (gs.map gL).getLast? = some (gL g) := by rw [List.getLast?_map, hg]; rfl
        have := ih (gAdd gs p) (by rw [e1]; simp)
        rw [decide_eq_true c]
        simp only [Bool.not_true, e2]
        rw [← this, e1, List.map_append]
        congr 2
        · simp
        · simp [gL, pcK, hgq, c]
      · have e1 : gAdd gs p = gs ++ [(p.1, [p.2])] := by unfold gAdd; rw [hg]; simp [hgq, Ne.symm c]
        have := ih (gAdd gs p) (by rw [e1]; simp)
        rw [decide_eq_false c]
        simp only [Bool.not_false]
        rw [← this, e1, List.map_append]
        rfl
def grps (ps : List Part) : List Grp := (kt 0 ps).foldl gAdd []
theorem split_eq {ps : List Part} (h : (allTk ps).length ≤ 1000) : m_split_into_parts [.lst (pcs 0 ps)] = .ok (.lst ((grps ps).map gD)) := by
  have hl : (pcs 0 ps).length ≤ 100000 := by rw [pcs_len]; omega
  unfold m_split_into_parts F_split_into_parts
  have e0 : startE 4 [.lst (pcs 0 ps)] = [some (.sh (.lst (pcs 0 ps))), none, none, none] := rfl
  rw [e0]
  have hg := grp_loop (L := kt 0 ps) (d0 := .lst (pcs 0 ps)) (by rw [pcs_kt]) (kt 0 ps) [] [] rfl rfl
  rw [← pcs_kt] at hg
  obtain ⟨x2, x3, hz⟩ : ∃ x2 x3, zGrp 0 1 2 3 (mOr (m2t oEq (mVar 2) (mC (.int 0))) (m2t oNe (m2 oIx (mVar 3) (mC (.int 2))) (m2 oIx (m2 oIx (mVar 0) (m2 oSub (mVar 2) (mC (.int 1)))) (mC (.int 2))))) [some (.sh (.lst (pcs 0 ps))), none, none, none] = .next [some (.sh (.lst (pcs 0 ps))), some (.sh (.lst ((grps ps).map gD))), x2, x3] := by
    unfold zGrp
    simp only [List.getElem?_cons_zero]
    rw [if_pos hl]
    have hg' : grp (grpE 1 2 3 [some (.sh (.lst (pcs 0 ps))), none, none, none]) (mOr (m2t oEq (mVar 2) (mC (.int 0))) (m2t oNe (m2 oIx (mVar 3) (mC (.int 2))) (m2 oIx (m2 oIx (mVar 0) (m2 oSub (mVar 2) (mC (.int 1)))) (mC (.int 2))))) 0 (pcs 0 ps) [] = .ok ((grps ps).map gL) := hg
    rw [hg']
    have em : ((grps ps).map gL).map D.lst = (grps ps).map gD := by rw [List.map_map]; rfl
    simp only [em]
    cases (pcs 0 ps).getLast? with
    | none => exact ⟨none, none, rfl⟩
    | some d => exact ⟨_, _, rfl⟩
  rw [zSeq_next hz]
  rfl
theorem parts_of_form_eq {ps : List Part} (h : OkP ps) : m_parts_of_form [.str (form ps)] = .ok (.lst ((grps ps).map gD)) := by
  have h1 := read_form_eq h
  have h2 := split_eq (ps := ps) (by have := allTk_le h.v; have := h.hi; omega)
  unfold m_parts_of_form F_parts_of_form
  simp [startE, h1, h2]
theorem check_text_eq {tx : List Nat} (h1 : 1 ≤ tx.length) (h2 : tx.length ≤ 20) (hs : ∀ c ∈ tx, c ∈ signs) : m_check_text [.str tx] = .ok .non := by
  have t1 : ¬ (tx.length : Int) < 1 := by omega
  have t2 : ¬ (20 : Int) < (tx.length : Int) := by omega
  unfold m_check_text F_check_text
  rw [zSeq_next (δ' := [some (.sh (.str tx)), none]) (by
    rw [zIf_no (by simp [startE, oLen_str (s := tx) (by omega), t1, t2, c_LONGEST_TEXT])]
    rfl)]
  obtain ⟨δ', e, x1, h3⟩ := zFor_map (f := fun c : Nat => D.str [c]) (l := tx) (i := 1) (fit := fun δ => ((mVar 0) δ).bind itemsS) (F := L_check_text_1) (δ := [some (.sh (.str tx)), none])
    (fun k δ => ∃ x1, δ = [some (.sh (.str tx)), x1]) rfl ⟨none, rfl⟩ (by
      rintro k c δ hk ⟨x1, rfl⟩
      have hc := plain_in c (hs c (List.mem_of_getElem? hk))
      refine ⟨[some (.sh (.str tx)), some (.sh (.str [c]))], .inl ?_, _, rfl⟩
      unfold L_check_text_1
      have hin : oNin (.str [c]) c_PLAIN_SIGNS = .ok false := by
        show ((R.ok (!(Builtin.Str.occurrences ⟨signs.toArray⟩ ⟨[c].toArray⟩ 0 (⟨signs.toArray⟩ : Str).length 1).isEmpty)).bind fun k => R.ok (!k)) = _
        rw [hc]
        rfl
      rw [zIf_no (by simp_arith [hin])]
      rfl)
  unfold F_check_text_1
  rw [e, h3]
  rfl
def leap (y : Int) : Bool := y % 4 == 0 && (!(y % 100 == 0) || y % 400 == 0)
def mlen (y m : Int) : Int := if m = 2 ∧ leap y = true then 29 else [31, 28, 31, 30, 31, 30, 31, 31, 30, 31, 30, 31].getD (m - 1).toNat 0
def ahead (y : Int) : Int := (y - 1) * 365 + (y - 1) / 4 - (y - 1) / 100 + (y - 1) / 400
def msum (y : Int) : Nat → Int
  | 0 => 0
  | k + 1 => msum y k + mlen y (k + 1)
def num (y m d : Int) : Int := ahead y + msum y (m - 1).toNat + d - 1
def hasD (y m d : Int) : Bool := decide (1 ≤ y) && decide (y ≤ 9999) && decide (1 ≤ m) && decide (m ≤ 12) && decide (1 ≤ d) && decide (d ≤ mlen y m)
theorem month12 {m : Int} (h1 : 1 ≤ m) (h2 : m ≤ 12) : m = 1 ∨ m = 2 ∨ m = 3 ∨ m = 4 ∨ m = 5 ∨ m = 6 ∨ m = 7 ∨ m = 8 ∨ m = 9 ∨ m = 10 ∨ m = 11 ∨ m = 12 := by omega
theorem mlen_bd (y : Int) {m : Int} (h1 : 1 ≤ m) (h2 : m ≤ 12) : 28 ≤ mlen y m ∧ mlen y m ≤ 31 := by
  rcases month12 h1 h2 with rfl | rfl | rfl | rfl | rfl | rfl | rfl | rfl | rfl | rfl | rfl | rfl <;> cases h : leap y <;> simp [mlen, h]
theorem is_leap_eq (y : Int) : m_is_leap [.int y] = .ok (.bl (leap y)) := by
  unfold m_is_leap F_is_leap startE leap
  cases h1 : (y % 4 == 0) <;> cases h2 : (y % 100 == 0) <;> cases h3 : (y % 400 == 0) <;> simp [oMod_int, h1, h2, h3]
theorem month_eq (y m : Int) (h1 : 1 ≤ m) (h2 : m ≤ 12) : m_month_length [.int y, .int m] = .ok (.int (mlen y m)) := by
  unfold m_month_length F_month_length startE mlen
  rcases month12 h1 h2 with rfl | rfl | rfl | rfl | rfl | rfl | rfl | rfl | rfl | rfl | rfl | rfl <;> cases h : leap y <;>
    simp [zSeq, is_leap_eq, h, F_month_length_1, c_COMMON_LENGTHS, oIx, atI, ixN]
theorem ahead_eq (y : Int) : m_days_ahead_of_year [.int y] = .ok (.int (ahead y)) := by
  unfold m_days_ahead_of_year F_days_ahead_of_year startE ahead
  simp [zSeq, F_days_ahead_of_year_1, oMul_r, oDiv_int]
theorem has_number_eq (n : Int) : m_has_number [.int n] = .ok (.bl (decide (0 ≤ n) && decide (n ≤ 3652058))) := by
  unfold m_has_number F_has_number startE
  by_cases c : 0 ≤ n <;> simp [c, c_LAST_NUMBER]
theorem msum12 (y : Int) : msum y 12 = 365 + (if leap y = true then 1 else 0) := by
  cases h : leap y <;> simp [msum, mlen, h]
theorem ahead_succ (y : Int) : ahead (y + 1) = ahead y + msum y 12 := by
  rw [msum12]
  unfold ahead leap
  by_cases h1 : y % 4 = 0 <;> by_cases h2 : y % 100 = 0 <;> by_cases h3 : y % 400 = 0 <;> simp [h1, h2, h3] <;> omega
theorem ahead_ge {y : Int} (h : 10000 ≤ y) : 3652059 ≤ ahead y := by
  unfold ahead
  by_cases c : y = 10000
  · subst c; decide
  · omega
theorem year_with_eq (n : Int) (h0 : 0 ≤ n) : ∃ y, 1 ≤ y ∧ ahead y ≤ n ∧ n < ahead (y + 1) ∧ m_year_with [.int n] = .ok (.int y) := by
  unfold m_year_with F_year_with
  have hq : 0 ≤ n / 146097 := by omega
  generalize hy0 : n / 146097 * 400 + n % 146097 / 366 + 1 = y0
  have a0 : ahead y0 ≤ n := by unfold ahead; omega
  have y1 : 1 ≤ y0 := by omega
  have e0 : F_year_with_1 [some (.sh (.int n)), some (.sh (.int (n / 146097))), none] = F_year_with_2 [some (.sh (.int n)), some (.sh (.int (n / 146097))), some (.sh (.int y0))] := by
    unfold F_year_with_1
    rw [zSeq_next (δ' := [some (.sh (.int n)), some (.sh (.int (n / 146097))), some (.sh (.int y0))]) (by simp [S_year_with_1, oMul_r, oDiv_int, oMod_int, c_DAYS_OF_400_YEARS, ← hy0])]
  have es : startE 3 [D.int n] = [some (.sh (.int n)), none, none] := rfl
  have st : ∀ F, finR (zSeq S_year_with_0 F (startE 3 [.int n])) = finR (F [some (.sh (.int n)), some (.sh (.int (n / 146097))), none]) := fun F => by
    rw [es, zSeq_next (δ' := [some (.sh (.int n)), some (.sh (.int (n / 146097))), none]) (by simp [S_year_with_0, oDiv_int, c_DAYS_OF_400_YEARS])]
  rw [st, e0]
  unfold F_year_with_2
  obtain ⟨δ', k', e, ⟨y, rfl, hy, ha, hk⟩, hf⟩ := whileZ_inv (t := m2t oLe (mCall m_days_ahead_of_year (mCons (m2 oAdd (mVar 2) (mC (.int 1))) (mNil))) (mVar 0)) (F := L_year_with_1)
    (fun k δ => ∃ y, δ = [some (.sh (.int n)), some (.sh (.int (n / 146097))), some (.sh (.int y))] ∧ y0 ≤ y ∧ ahead y ≤ n ∧ (k : Int) = 3 - (y - y0)) (fun k δ ⟨y, hδ, hy, ha, hk⟩ => by
      subst hδ
      by_cases c : ahead (y + 1) ≤ n
      · refine .inr ⟨by simp [ahead_eq, c], [some (.sh (.int n)), some (.sh (.int (n / 146097))), some (.sh (.int (y + 1)))], k - 1, ?_, by simp [L_year_with_1, zAug], y + 1, rfl, by omega, c, ?_⟩
        · have : y - y0 ≤ 2 := by unfold ahead at ha; omega
          omega
        · have : y - y0 ≤ 2 := by unfold ahead at ha; omega
          omega
      · exact .inl (by simp [ahead_eq, c])) 10 3 [some (.sh (.int n)), some (.sh (.int (n / 146097))), some (.sh (.int y0))] (by omega) ⟨y0, rfl, by omega, a0, by omega⟩
  refine ⟨y, by omega, ha, ?_, ?_⟩
  · by_cases c : ahead (y + 1) ≤ n
    · simp [ahead_eq, c] at hf
    · omega
  · rw [zSeq_next (F1 := S_year_with_2) e]
    simp [F_year_with_3, S_year_with_3]
theorem msum_le (y : Int) : ∀ (a b : Nat), a ≤ b → b ≤ 12 → msum y a ≤ msum y b := fun a b h hb => by
  induction b with
  | zero => have : a = 0 := by omega
            subst this; exact Int.le_refl _
  | succ b ih =>
    by_cases c : a = b + 1
    · subst c; exact Int.le_refl _
    · have h1 := ih (by omega) (by omega)
      have h2 := mlen_bd y (m := b + 1) (by omega) (by omega)
      show msum y a ≤ msum y b + mlen y (b + 1)
      omega
def ms (y m : Int) : Int := msum y (m - 1).toNat
theorem date_of_eq (n : Int) (h0 : 0 ≤ n) (h1 : n ≤ 3652058) : ∃ y m d, m_date_of [.int n] = .ok (.tup [.int y, .int m, .int d]) ∧ hasD y m d = true ∧ num y m d = n := by
  obtain ⟨y, hy, ha, hb, ey⟩ := year_with_eq n h0
  have hy2 : y ≤ 9999 := by
    by_cases c : 10000 ≤ y
    · have := ahead_ge c; omega
    · omega
  unfold m_date_of F_date_of
  have es : startE 4 [D.int n] = [some (.sh (.int n)), none, none, none] := rfl
  rw [es, zSeq_next (δ' := [some (.sh (.int n)), none, none, none]) (by simp [S_date_of_0, has_number_eq, h0, h1])]
  unfold F_date_of_1
  rw [zSeq_next (δ' := [some (.sh (.int n)), some (.sh (.int y)), none, none]) (by simp [S_date_of_1, ey])]
  unfold F_date_of_2
  rw [zSeq_next (δ' := [some (.sh (.int n)), some (.sh (.int y)), some (.sh (.int (n - ahead y))), none]) (by simp [S_date_of_2, ahead_eq])]
  unfold F_date_of_3
  rw [zSeq_next (δ' := [some (.sh (.int n)), some (.sh (.int y)), some (.sh (.int (n - ahead y))), some (.sh (.int 1))]) (by simp [S_date_of_3])]
  unfold F_date_of_4
  rw [ahead_succ] at hb
  obtain ⟨δ', k', e, ⟨m, rfl, hm1, hm2, hr, hk⟩, hf⟩ := whileZ_inv (t := m2t oGe (mVar 2) (mCall m_month_length (mCons (mVar 1) (mCons (mVar 3) (mNil))))) (F := L_date_of_1)
    (fun k δ => ∃ m : Int, δ = [some (.sh (.int n)), some (.sh (.int y)), some (.sh (.int (n - ahead y - ms y m))), some (.sh (.int m))] ∧ 1 ≤ m ∧ m ≤ 12 ∧ 0 ≤ n - ahead y - ms y m ∧ (k : Int) = 12 - m) (fun k δ ⟨m, hδ, hm1, hm2, hr, hk⟩ => by
      subst hδ
      have hml := month_eq y m hm1 hm2
      have hst : ms y m + mlen y m = ms y (m + 1) := by
        show msum y (m - 1).toNat + mlen y m = msum y (m + 1 - 1).toNat
        rw [show m + 1 - 1 = m by omega]
        have : m.toNat = (m - 1).toNat + 1 := by omega
        rw [this]
        show _ = msum y (m - 1).toNat + mlen y (((m - 1).toNat : Int) + 1)
        rw [show (((m - 1).toNat : Int) + 1) = m by omega]
      by_cases c : mlen y m ≤ n - ahead y - ms y m
      · have hm : m < 12 := by
          by_cases c2 : m = 12
          · subst c2
            have : ms y (12 + 1) = msum y 12 := rfl
            omega
          · omega
        refine .inr ⟨by simp [hml, c], [some (.sh (.int n)), some (.sh (.int y)), some (.sh (.int (n - ahead y - ms y (m + 1)))), some (.sh (.int (m + 1)))], k - 1, by omega, ?_, m + 1, rfl, by omega, by omega, ?_, by omega⟩
        · have : n - ahead y - ms y m - mlen y m = n - ahead y - ms y (m + 1) := by omega
          simp [L_date_of_1, zSeq, zAug, hml, this]
        · omega
      · exact .inl (by simp [hml, c])) 20 11 [some (.sh (.int n)), some (.sh (.int y)), some (.sh (.int (n - ahead y))), some (.sh (.int 1))] (by omega) ⟨1, by simp [ms, msum], by omega, by omega, by simp [ms, msum]; omega, by omega⟩
  rw [zSeq_next (F1 := S_date_of_4) e]
  have hml := month_eq y m hm1 hm2
  refine ⟨y, m, n - ahead y - ms y m + 1, by simp [F_date_of_5, S_date_of_5], ?_, ?_⟩
  · by_cases c : mlen y m ≤ n - ahead y - ms y m
    · simp [hml, c] at hf
    · simp [hasD]; omega
  · unfold num
    have : msum y (m - 1).toNat = ms y m := rfl
    omega
theorem weekday_eq (n : Int) (h0 : 0 ≤ n) (h1 : n ≤ 3652058) : m_weekday_of [.int n] = .ok (.int (n % 7)) := by
  unfold m_weekday_of F_weekday_of startE
  simp [zSeq, has_number_eq, h0, h1, F_weekday_of_1, oMod_int]
def ok3 (y m d : Int) : Prop := 1 ≤ y ∧ 1 ≤ m ∧ m ≤ 12 ∧ 1 ≤ d ∧ d ≤ mlen y m
theorem msum_step (y : Int) {m : Int} (h1 : 1 ≤ m) : msum y m.toNat = msum y (m - 1).toNat + mlen y m := by
  obtain ⟨k, rfl⟩ : ∃ k : Nat, m = (k : Int) + 1 := ⟨(m - 1).toNat, by omega⟩
  rw [show ((k : Int) + 1).toNat = k + 1 by omega, show ((k : Int) + 1 - 1).toNat = k by omega]
  rfl
theorem num_in {y m d : Int} (h : ok3 y m d) : ahead y ≤ num y m d ∧ num y m d < ahead (y + 1) := by
  obtain ⟨h0, h1, h2, h3, h4⟩ := h
  have e1 := msum_step y h1
  have e2 := msum_le y m.toNat 12 (by omega) (by omega)
  have e3 := msum_le y 0 (m - 1).toNat (by omega) (by omega)
  have e4 := ahead_succ y
  have e5 : msum y 0 = 0 := rfl
  unfold num
  omega
theorem ahead_mono {y z : Int} (h : y < z) : ahead (y + 1) ≤ ahead z := by
  by_cases c : z = y + 1
  · rw [c]; omega
  · unfold ahead; omega
theorem hasD_ok3 {y m d : Int} (h : hasD y m d = true) : ok3 y m d := by
  simp [hasD] at h
  unfold ok3
  omega
theorem num_inj {y m d y' m' d' : Int} (h : ok3 y m d) (h' : ok3 y' m' d') (e : num y m d = num y' m' d') : y = y' ∧ m = m' ∧ d = d' := by
  have a := num_in h
  have a' := num_in h'
  have ey : y = y' := by
    rcases Int.lt_trichotomy y y' with c | c | c
    · have := ahead_mono c; omega
    · exact c
    · have := ahead_mono c; omega
  subst ey
  obtain ⟨h0, h1, h2, h3, h4⟩ := h
  obtain ⟨h0', h1', h2', h3', h4'⟩ := h'
  have e1 := msum_step y h1
  have e1' := msum_step y h1'
  unfold num at e
  have em : m = m' := by
    rcases Int.lt_trichotomy m m' with c | c | c
    · have := msum_le y m.toNat (m' - 1).toNat (by omega) (by omega); omega
    · exact c
    · have := msum_le y m'.toNat (m - 1).toNat (by omega) (by omega); omega
  subst em
  exact ⟨rfl, rfl, by omega⟩
theorem hasD_num {y m d : Int} (h : hasD y m d = true) : 0 ≤ num y m d ∧ num y m d ≤ 3652058 := by
  have h3 := hasD_ok3 h
  have h1 := num_in h3
  have hy : y ≤ 9999 := by
    unfold hasD at h
    simp only [Bool.and_eq_true, decide_eq_true_eq] at h
    exact h.1.1.1.1.2
  have h4 : 0 ≤ ahead y := by
    have := h3.1
    unfold ahead; omega
  have h5 : ahead (y + 1) ≤ 3652059 := by
    have := h3.1
    unfold ahead; omega
  omega
theorem date_of_num {y m d : Int} (h : hasD y m d = true) : m_date_of [.int (num y m d)] = .ok (.tup [.int y, .int m, .int d]) := by
  obtain ⟨h0, h1⟩ := hasD_num h
  obtain ⟨y', m', d', e, h', hn⟩ := date_of_eq (num y m d) h0 h1
  obtain ⟨rfl, rfl, rfl⟩ := num_inj (hasD_ok3 h') (hasD_ok3 h) hn
  exact e
theorem ways_of_day_eq {y m d w : Nat} (h : hasD y m d = true) (hw : num y m d % 7 = (w : Int)) : m_ways_of_day [.int (num y m d)] = .ok (wayD y m d w) := by
  obtain ⟨h0, h1⟩ := hasD_num h
  have hd := date_of_num h
  have hb : (1 ≤ y ∧ y ≤ 9999) ∧ (1 ≤ m ∧ m ≤ 12) ∧ (1 ≤ d ∧ d ≤ 31) := by
    have h3 := hasD_ok3 h
    have := (mlen_bd y h3.2.1 h3.2.2.1).2
    have := h3.2.2.2.2
    unfold hasD at h
    simp only [Bool.and_eq_true, decide_eq_true_eq] at h
    omega
  have hw7 : w < 7 := by omega
  unfold m_ways_of_day F_ways_of_day
  have e0 : startE 4 [.int (num y m d)] = [some (.sh (.int ((num y m d)))), none, none, none] := rfl
  rw [e0, zSeq_next (δ' := [some (.sh (.int ((num y m d)))), some (.sh (.tup [.int y, .int m, .int d])), none, none]) (by simp_arith [S_ways_of_day_0, hd])]
  unfold F_ways_of_day_1
  rw [zSeq_next (δ' := [some (.sh (.int ((num y m d)))), some (.sh (.tup [.int y, .int m, .int d])), some (.sh (.int y)), none]) (by simp_arith [S_ways_of_day_1]; rfl)]
  unfold F_ways_of_day_2
  rw [zSeq_next (δ' := [some (.sh (.int ((num y m d)))), some (.sh (.tup [.int y, .int m, .int d])), some (.sh (.int y)), some (.sh (.int m))]) (by simp_arith [S_ways_of_day_2]; rfl)]
  unfold F_ways_of_day_3 S_ways_of_day_3
  have i2 : oIx (.tup [.int y, .int m, .int d]) (.int 2) = .ok (.int (d : Int)) := rfl
  have f1 := figures_eq (n := d) (by omega)
  have f2 := figures_eq (n := m) (by omega)
  have hmod : oMod (.int (y : Int)) (.int 100) = .ok (.int ((y % 100 : Nat) : Int)) := by
    rw [oMod_int _ (by omega)]
    simp
  have z2 : mBS oZfill (m1 oStr (m2 oMod (mVar 2) (mC (.int 100)))) (mCons (mC (.int 2)) (mNil)) [some (.sh (.int ((num y m d)))), some (.sh (.tup [.int y, .int m, .int d])), some (.sh (.int y)), some (.sh (.int m))] = .ok (.str (zf2 y)) := by
    have e1 : (m1 oStr (m2 oMod (mVar 2) (mC (.int 100)))) [some (.sh (.int ((num y m d)))), some (.sh (.tup [.int y, .int m, .int d])), some (.sh (.int y)), some (.sh (.int m))] = .ok (.str (dg (y % 100))) := by
      simp_arith [hmod, oStr_dg (n := y % 100) (by omega)]
    have e2 : (mCons (mC (.int 2)) (mNil)) [some (.sh (.int ((num y m d)))), some (.sh (.tup [.int y, .int m, .int d])), some (.sh (.int y)), some (.sh (.int m))] = .ok [.int 2] := rfl
    unfold mBS
    rw [e1, R.bind_ok]
    dsimp only
    rw [e2, R.bind_ok]
    simp only [oZfill]
    rw [if_pos (by omega), zfill2]
  have z4 : mBS oZfill (m1 oStr (mVar 2)) (mCons (mC (.int 4)) (mNil)) [some (.sh (.int ((num y m d)))), some (.sh (.tup [.int y, .int m, .int d])), some (.sh (.int y)), some (.sh (.int m))] = .ok (.str (zf4 y)) := by
    have e1 : (m1 oStr (mVar 2)) [some (.sh (.int ((num y m d)))), some (.sh (.tup [.int y, .int m, .int d])), some (.sh (.int y)), some (.sh (.int m))] = .ok (.str (dg y)) := by
      simp_arith [oStr_dg (n := y) (by omega)]
    have e2 : (mCons (mC (.int 4)) (mNil)) [some (.sh (.int ((num y m d)))), some (.sh (.tup [.int y, .int m, .int d])), some (.sh (.int y)), some (.sh (.int m))] = .ok [.int 4] := rfl
    unfold mBS
    rw [e1, R.bind_ok]
    dsimp only
    rw [e2, R.bind_ok]
    simp only [oZfill]
    rw [if_pos (by omega), zfill4 (by omega)]
  have hmo : oIx c_MONTHS (.int ((m : Int) - 1)) = .ok (.str (months.getD (m - 1) [])) := by
    have : ((m : Int) - 1) = ((m - 1 : Nat) : Int) := by omega
    rw [this]
    have hm : m - 1 < 12 := by omega
    have : c_MONTHS = .tup (months.map D.str) := rfl
    rw [this]
    refine oIx_tup (atI_some ?_)
    rw [List.getElem?_map, List.getD_eq_getElem?_getD, List.getElem?_eq_getElem (h := by show m - 1 < 12; omega)]
    rfl
  have hwk : oIx c_WEEKDAYS (.int (w : Int)) = .ok (.str (weekdays.getD w [])) := by
    have : c_WEEKDAYS = .tup (weekdays.map D.str) := rfl
    rw [this]
    refine oIx_tup (atI_some ?_)
    rw [List.getElem?_map, List.getD_eq_getElem?_getD, List.getElem?_eq_getElem (h := by show w < 7; omega)]
    rfl
  have hwd := weekday_eq (num y m d) h0 h1
  rw [hw] at hwd
  have b1 := beginnings_eq (s := months.getD (m - 1) []) (by have := (name_tx (mem_months m)).1; omega)
  have b2 := beginnings_eq (s := weekdays.getD w []) (by have := (name_tx (mem_weekdays w)).1; omega)
  have e3 : (mCons (mCall m_figures (mCons (m2 oIx (mVar 1) (mC (.int 2))) (mNil))) (mCons (mCall m_figures (mCons (mVar 3) (mNil))) (mCons (mLst (mCons (mBS oZfill (m1 oStr (m2 oMod (mVar 2) (mC (.int 100)))) (mCons (mC (.int 2)) (mNil))) (mNil))) (mCons (mLst (mCons (mBS oZfill (m1 oStr (mVar 2)) (mCons (mC (.int 4)) (mNil))) (mNil))) (mCons (mCall m_beginnings (mCons (m2 oIx (mC c_MONTHS) (m2 oSub (mVar 3) (mC (.int 1)))) (mNil))) (mCons (mCall m_beginnings (mCons (m2 oIx (mC c_WEEKDAYS) (mCall m_weekday_of (mCons (mVar 0) (mNil)))) (mNil))) (mNil))))))) [some (.sh (.int ((num y m d)))), some (.sh (.tup [.int y, .int m, .int d])), some (.sh (.int y)), some (.sh (.int m))] = .ok [strsL (figs d), strsL (figs m), strsL [zf2 y], strsL [zf4 y], strsL (begs (months.getD (m - 1) [])), strsL (begs (weekdays.getD w []))] := by
    simp_arith [i2, f1, f2, z2, z4, hmo, hwk, hwd, b1, b2]
    rfl
  rw [e_zRet]
  unfold mDisp
  rw [e3, R.bind_ok, if_pos (by simp)]
  rfl
theorem fits_eq {y m d w : Nat} (h : hasD y m d = true) (hw : num y m d % 7 = (w : Int)) {ps : List Part} (hp : OkP ps) {tx : List Nat} (h1 : 1 ≤ tx.length) (h2 : tx.length ≤ 20) (hs : ∀ c ∈ tx, c ∈ signs)
    (hg : ∀ g ∈ grps ps, (∀ t ∈ g.2, t ∈ allT) ∧ g.2 ≠ []) : ∃ b, m_fits [.str (form ps), .str tx, .int (num y m d)] = .ok (.bl b) ∧ (b = true ↔ GR tx (WY y m d w) (grps ps) 0 tx.length) := by
  have hb : m < 10000 ∧ d < 10000 := by
    have h3 := hasD_ok3 h
    have := (mlen_bd y h3.2.1 h3.2.2.1).2
    have := h3.2.2.2.2
    have := h3.2.2.1
    omega
  have htx : Tx tx := ⟨by omega, fun c hc => by have := signs_lt c (hs c hc); omega⟩
  obtain ⟨b, e, hb2⟩ := is_written_eq (WD_way (y := y) (w := w) hb.1 hb.2) htx hg
  refine ⟨b, ?_, hb2⟩
  have e1 := parts_of_form_eq hp
  have e2 := check_text_eq h1 h2 hs
  have e3 := ways_of_day_eq h hw
  unfold m_fits F_fits
  have e0 : startE 4 [.str (form ps), .str tx, .int (num y m d)] = [some (.sh (.str (form ps))), some (.sh (.str tx)), some (.sh (.int ((num y m d)))), none] := rfl
  rw [e0, zSeq_next (δ' := [some (.sh (.str (form ps))), some (.sh (.str tx)), some (.sh (.int ((num y m d)))), some (.sh (.lst ((grps ps).map gD)))]) (by simp_arith [S_fits_0, e1])]
  unfold F_fits_1
  rw [zSeq_next (δ' := [some (.sh (.str (form ps))), some (.sh (.str tx)), some (.sh (.int ((num y m d)))), some (.sh (.lst ((grps ps).map gD)))]) (by simp_arith [S_fits_1, e2])]
  unfold F_fits_2 S_fits_2
  simp_arith [e3, e]
  rfl
theorem places_allT {t : List Nat} (h : t ∈ places) : t ∈ allT := List.mem_append_left _ h
theorem okP_one {t : List Nat} (h : t ∈ places) : OkP [(false, [t])] where
  v := fun p hp u hu => by
    have : p = (false, [t]) := by simpa using hp
    subst this
    have : u = t := by simpa using hu
    subst this
    exact places_allT h
  ne := fun p hp z => by
    have : p = (false, [t]) := by simpa using hp
    subst this
    cases z
  c := by simp [cnt]
  nd := by
    have : allTk [(false, [t])] = [t] := by simp [allTk]
    rw [this]
    by_cases c : isPl t = true <;> simp [List.filter, c]
  lo := by
    have : ∀ t ∈ places, 1 ≤ t.length := by decide
    have := this t h
    simp [form, inner]; omega
  hi := by
    have : ∀ t ∈ places, t.length ≤ 30 := by decide
    have := this t h
    simp [form, inner]; omega
theorem fits_one {y m d w : Nat} (h : hasD y m d = true) (hw : num y m d % 7 = (w : Int)) {t : List Nat} (ht : t ∈ places) {tx : List Nat} (h1 : 1 ≤ tx.length) (h2 : tx.length ≤ 20) (hs : ∀ c ∈ tx, c ∈ signs) :
    m_fits [.str t, .str tx, .int (num y m d)] = .ok (.bl (decide (tx ∈ WY y m d w t))) := by
  have hg : grps [(false, [t])] = [(0, [t])] := rfl
  have hf : form [(false, [t])] = t := by simp [form, inner]
  obtain ⟨b, e, hb⟩ := fits_eq h hw (okP_one ht) h1 h2 hs (fun g hg' => by
    rw [hg] at hg'
    have : g = (0, [t]) := by simpa using hg'
    subst this
    exact ⟨fun u hu => by
      have : u = t := by simpa using hu
      subst this
      exact places_allT ht, by simp⟩)
  rw [hf] at e
  rw [e]
  congr 2
  rw [hg] at hb
  have : GR tx (WY y m d w) [(0, [t])] 0 tx.length ↔ tx ∈ WY y m d w t := by
    constructor
    · rintro ⟨m1, h1 | h1, h2⟩
      · obtain ⟨m2, h3, h4⟩ := h1
        have h4' : m2 = m1 := h4
        have h2' : m1 = tx.length := h2
        subst h4' h2'
        obtain ⟨x, hx, e1, e2⟩ := h3
        have : x.length = tx.length := by omega
        rw [this] at e1
        simp at e1
        subst e1
        exact hx
      · simp at h1
    · intro hx
      exact ⟨tx.length, .inl ⟨tx.length, ⟨tx, hx, by simp, by simp⟩, rfl⟩, rfl⟩
  rw [this] at hb
  cases b with
  | true => simp [hb.mp rfl]
  | false =>
    have : ¬ tx ∈ WY y m d w t := fun z => by have := hb.mpr z; cases this
    simp [this]
theorem digit_sign : ∀ c, 48 ≤ c → c ≤ 57 → c ∈ signs := by
  intro c h1 h2
  have : ∀ c ∈ [48, 49, 50, 51, 52, 53, 54, 55, 56, 57], c ∈ signs := by decide
  refine this c ?_
  simp only [List.mem_cons, List.not_mem_nil, or_false]
  omega
theorem oAdd_str {a b : List Nat} (h : a.length + b.length ≤ 1000) : oAdd (.str a) (.str b) = .ok (.str (a ++ b)) := by
  simp only [oAdd]
  rw [if_pos (by omega)]
theorem mem_cutD {α : Type} {xs : List α} {lo hi : Option Int} {x : α} (h : x ∈ cutD xs lo hi) : x ∈ xs := List.mem_of_mem_drop (List.mem_of_mem_take h)
theorem len_cutD {α : Type} (xs : List α) (lo hi : Option Int) : (cutD xs lo hi).length ≤ xs.length := by
  unfold cutD
  rw [List.length_take, List.length_drop]
  omega
theorem oSl_str {s : List Nat} (h : s.length ≤ 1000) (lo hi : Option Int) : oSl (.str s) lo hi = .ok (.str (cutD s lo hi)) := by
  simp only [oSl]
  rw [if_pos (by omega)]
theorem draws_eq (c : Int) (mx : Bool) {n m : Nat} (hn : n ≤ 1000) (hm : 0 < m) (hm2 : m ≤ 1000) : ∃ ps : List Int, m_law_draws [.int c, .bl mx, .int n, .int m] = .ok (rowD ps) ∧ ps.length = n ∧ ∀ x ∈ ps, 0 ≤ x ∧ x < m := by
  unfold m_law_draws F_law_draws
  rw [zSeq_next (δ' := [some (.sh (.int c)), some (.sh (.bl mx)), some (.sh (.int n)), some (.sh (.int m)), some (.ow []), none, none]) (by simp [S_law_draws_0, startE, lim])]
  unfold F_law_draws_1
  rw [zSeq_next (δ' := [some (.sh (.int c)), some (.sh (.bl mx)), some (.sh (.int n)), some (.sh (.int m)), some (.ow []), some (.sh (.int c)), none]) (by simp [S_law_draws_1])]
  have hm' : (0 : Int) < m := by omega
  have hmod : ∀ x : Int, oMod (.int x) (.int (m : Int)) = .ok (.int (x % m)) := fun x => oMod_int _ hm'
  have hdiv : ∀ x : Int, oDiv (.int x) (.int (m : Int)) = .ok (.int (x / m)) := fun x => oDiv_int _ hm' (by omega)
  obtain ⟨δ', e, ps, r, x6, hl, hb, h3⟩ := zFor_next (fit := fun δ => ((mCons (mVar 2) (mNil)) δ).bind iR1) (bd := bN 6) (F := L_law_draws_1) (δ := [some (.sh (.int c)), some (.sh (.bl mx)), some (.sh (.int n)), some (.sh (.int m)), some (.ow []), some (.sh (.int c)), none]) (ds := rngD 0 n)
    (fun k δ => ∃ (ps : List Int) (r : Int) (x6 : Option Sl), ps.length = k ∧ (∀ x ∈ ps, 0 ≤ x ∧ x < (m : Int)) ∧ δ = [some (.sh (.int c)), some (.sh (.bl mx)), some (.sh (.int n)), some (.sh (.int m)), some (.ow (ps.map D.int)), some (.sh (.int r)), x6])
    (fit1_var rfl (by omega)) ⟨[], c, none, rfl, by simp, rfl⟩ (by
      rintro k d δ hd ⟨ps, r, x6, hl, hb, rfl⟩
      obtain ⟨rfl, hk⟩ := rngD_get hd
      have hlen : (ps.map D.int).length < 1000000 := by rw [List.length_map]; omega
      have good : ∀ y : Int, ∀ x ∈ ps ++ [y % m], 0 ≤ x ∧ x < (m : Int) := fun y x hx => by
        rcases List.mem_append.mp hx with hx | hx
        · exact hb x hx
        · have : x = y % m := by simpa using hx
          rw [this]
          exact ⟨Int.emod_nonneg _ (by omega), Int.emod_lt_of_pos _ hm'⟩
      cases mx with
      | true =>
        have h1 : oMul (.int r) (.int 48271) = .ok (.int (r * 48271)) := oMul_r _ (by decide) (by decide)
        have h2 : oMul (.int 7919) (.int (0 + (k : Int))) = .ok (.int (7919 * (0 + k))) := oMul_l _ (by decide) (by decide)
        have h3 : ∀ x : Int, oMod (.int x) (.int 2147483647) = .ok (.int (x % 2147483647)) := fun x => oMod_int _ (by decide)
        have h4 : ∀ x : Int, oMod (.int x) (.int 2147483629) = .ok (.int (x % 2147483629)) := fun x => oMod_int _ (by decide)
        have h5 : ∀ x : Int, oMul (.int x) (.int 16807) = .ok (.int (x * 16807)) := fun x => oMul_r _ (by decide) (by decide)
        refine ⟨_, [some (.sh (.int c)), some (.sh (.bl true)), some (.sh (.int n)), some (.sh (.int m)), some (.ow ((ps ++ [((r * 48271 + 7919 * (0 + k) + 11) % 2147483647) * 16807 % 2147483629 % m]).map D.int)), some (.sh (.int ((r * 48271 + 7919 * (0 + k) + 11) % 2147483647))), some (.sh (.int (0 + k)))], rfl, .inl ?_, _, _, _, by simp [hl], good _, rfl⟩
        unfold L_law_draws_1
        rw [zIf_yes (by simp)]
        rw [zSeq_next (δ' := [some (.sh (.int c)), some (.sh (.bl true)), some (.sh (.int n)), some (.sh (.int m)), some (.ow (ps.map D.int)), some (.sh (.int ((r * 48271 + 7919 * (0 + k) + 11) % 2147483647))), some (.sh (.int (0 + k)))]) (by
          simp only [e_bN, List.set_cons_succ, List.set_cons_zero, e_zSet, e_m2, e_mC, e_mVar, List.getElem?_cons_succ, List.getElem?_cons_zero, R.bind_ok, h1, h2, h3, oAdd_int, bS_ok])]
        simp only [e_zApp, e_m2, e_mC, e_mVar, List.getElem?_cons_succ, List.getElem?_cons_zero, R.bind_ok, h4, h5, hmod, bS_ok, hlen, if_true, List.set_cons_succ, List.set_cons_zero]
        simp
      | false =>
        refine ⟨_, [some (.sh (.int c)), some (.sh (.bl false)), some (.sh (.int n)), some (.sh (.int m)), some (.ow ((ps ++ [r % m]).map D.int)), some (.sh (.int (r / m))), some (.sh (.int (0 + k)))], rfl, .inl ?_, _, _, _, by simp [hl], good _, rfl⟩
        unfold L_law_draws_1
        rw [zIf_no (by simp)]
        rw [zSeq_next (δ' := [some (.sh (.int c)), some (.sh (.bl false)), some (.sh (.int n)), some (.sh (.int m)), some (.ow ((ps ++ [r % m]).map D.int)), some (.sh (.int r)), some (.sh (.int (0 + k)))]) (by
          simp only [e_bN, List.set_cons_succ, List.set_cons_zero, e_zApp, e_m2, e_mC, e_mVar, List.getElem?_cons_succ, List.getElem?_cons_zero, R.bind_ok, hmod, bS_ok, hlen, if_true]
          simp)]
        simp only [e_zSet, e_m2, e_mC, e_mVar, List.getElem?_cons_succ, List.getElem?_cons_zero, R.bind_ok, hdiv, bS_ok, List.set_cons_succ, List.set_cons_zero])
  unfold F_law_draws_2 S_law_draws_2
  rw [zSeq_next e, h3]
  refine ⟨ps, by simp [F_law_draws_3, S_law_draws_3, frzE], ?_, hb⟩
  rw [hl, rngD_length]
  omega
theorem law_leap_eq (y : Int) : m_law_leap [.int y] = .ok (.bl (leap y)) := by
  unfold m_law_leap F_law_leap startE leap
  cases h1 : (y % 4 == 0) <;> cases h2 : (y % 100 == 0) <;> cases h3 : (y % 400 == 0) <;> simp [oMod_int, h1, h2, h3]
theorem law_month_eq (y m : Int) (h1 : 1 ≤ m) (h2 : m ≤ 12) : m_law_month [.int y, .int m] = .ok (.int (mlen y m)) := by
  unfold m_law_month F_law_month startE mlen
  rcases month12 h1 h2 with rfl | rfl | rfl | rfl | rfl | rfl | rfl | rfl | rfl | rfl | rfl | rfl <;> cases h : leap y <;>
    simp [zSeq, law_leap_eq, h, F_law_month_1, oIx, atI, ixN]
theorem law_number_eq (y m d : Int) (hm : 1 ≤ m) (hm2 : m ≤ 12) : m_law_number [.int y, .int m, .int d] = .ok (.int (num y m d)) := by
  unfold m_law_number F_law_number
  show finR (zSeq _ _ [some (.sh (.int y)), some (.sh (.int m)), some (.sh (.int d)), none, none, none]) = _
  rw [zSeq_next (δ' := [some (.sh (.int y)), some (.sh (.int m)), some (.sh (.int d)), some (.sh (.int (y - 1))), none, none]) (by simp [S_law_number_0])]
  unfold F_law_number_1
  rw [zSeq_next (δ' := [some (.sh (.int y)), some (.sh (.int m)), some (.sh (.int d)), some (.sh (.int (y - 1))), some (.sh (.int (365 * (y - 1) + (y - 1) / 4 - (y - 1) / 100 + (y - 1) / 400 + d - 1))), none]) (by simp [S_law_number_1, oMul_l, oDiv_int])]
  unfold F_law_number_2
  obtain ⟨δ', e, u, p⟩ := zFor_next (fit := fun δ => ((mCons (mC (.int 1)) (mCons (mVar 1) (mNil))) δ).bind iR2) (bd := bN 5) (F := L_law_number_1) (δ := [some (.sh (.int y)), some (.sh (.int m)), some (.sh (.int d)), some (.sh (.int (y - 1))), some (.sh (.int (365 * (y - 1) + (y - 1) / 4 - (y - 1) / 100 + (y - 1) / 400 + d - 1))), none]) (ds := rngD 1 m)
    (fun k δ => ∃ u, δ = [some (.sh (.int y)), some (.sh (.int m)), some (.sh (.int d)), some (.sh (.int (y - 1))), some (.sh (.int (365 * (y - 1) + (y - 1) / 4 - (y - 1) / 100 + (y - 1) / 400 + d - 1 + msum y k))), u])
    (by
      have : (-(2 ^ 62) ≤ m ∧ m < 2 ^ 62) := by omega
      simp [iR2]
      omega) ⟨none, by simp [msum]⟩ (fun k dd δ hd ⟨u, hδ⟩ => by
      subst hδ
      obtain ⟨rfl, hk⟩ := rngD_get hd
      refine ⟨_, [some (.sh (.int y)), some (.sh (.int m)), some (.sh (.int d)), some (.sh (.int (y - 1))), some (.sh (.int (365 * (y - 1) + (y - 1) / 4 - (y - 1) / 100 + (y - 1) / 400 + d - 1 + msum y (k + 1)))), some (.sh (.int (1 + k)))], rfl, .inl ?_, _, rfl⟩
      have hml := law_month_eq y (1 + k) (by omega) (by omega)
      simp [L_law_number_1, hml, msum]
      rw [show (1 + k : Int) = k + 1 by omega]
      omega)
  rw [rngD_length] at p
  rw [zSeq_next (F1 := S_law_number_2) e, p]
  simp [F_law_number_3, S_law_number_3, num, ahead]
  omega
theorem law_first_eq (x : Int) (b : Bool) : ∃ y m d, m_law_first [.int x, .bl b] = .ok (.tup [.int y, .int m, .int d]) ∧ 1 ≤ y ∧ y ≤ 9996 ∧ 1 ≤ m ∧ m ≤ 12 ∧ 1 ≤ d ∧ d ≤ mlen y m := by
  unfold m_law_first F_law_first
  show ∃ y m d, finR (zSeq _ _ [some (.sh (.int x)), some (.sh (.bl b)), none, none, none, none]) = _ ∧ _
  rw [zSeq_next (δ' := [some (.sh (.int x)), some (.sh (.bl b)), some (.sh (.int x)), none, none, none]) (by simp [S_law_first_0])]
  unfold F_law_first_1
  obtain ⟨r, e1⟩ : ∃ r, S_law_first_1 [some (.sh (.int x)), some (.sh (.bl b)), some (.sh (.int x)), none, none, none] = .next [some (.sh (.int x)), some (.sh (.bl b)), some (.sh (.int r)), none, none, none] := by
    cases b
    · exact ⟨x, by simp [S_law_first_1]⟩
    · exact ⟨_, by simp [S_law_first_1, oMul_r, oMod_int]; rfl⟩
  rw [zSeq_next e1]
  unfold F_law_first_2
  rw [zSeq_next (δ' := [some (.sh (.int x)), some (.sh (.bl b)), some (.sh (.int r)), some (.sh (.int (1 + r % 9996))), none, none]) (by simp [S_law_first_2, oMod_int])]
  unfold F_law_first_3
  rw [zSeq_next (δ' := [some (.sh (.int x)), some (.sh (.bl b)), some (.sh (.int r)), some (.sh (.int (1 + r % 9996))), some (.sh (.int (1 + r / 9996 % 12))), none]) (by simp [S_law_first_3, oMod_int, oDiv_int])]
  unfold F_law_first_4
  have hy1 : 1 ≤ 1 + r % 9996 ∧ 1 + r % 9996 ≤ 9996 := by omega
  have hm1 : 1 ≤ 1 + r / 9996 % 12 ∧ 1 + r / 9996 % 12 ≤ 12 := by omega
  generalize 1 + r % 9996 = y at hy1
  generalize 1 + r / 9996 % 12 = m at hm1
  have hml := law_month_eq y m hm1.1 hm1.2
  have hbd := mlen_bd y hm1.1 hm1.2
  have hr1 := Int.emod_nonneg (r / 119952) (show mlen y m ≠ 0 by omega)
  have hr2 := Int.emod_lt_of_pos (r / 119952) (show 0 < mlen y m by omega)
  rw [zSeq_next (δ' := [some (.sh (.int x)), some (.sh (.bl b)), some (.sh (.int r)), some (.sh (.int y)), some (.sh (.int m)), some (.sh (.int (1 + r / 119952 % mlen y m)))]) (by simp [S_law_first_4, oDiv_int, hml, oMod_int _ (show 0 < mlen y m by omega)])]
  unfold F_law_first_5
  by_cases c : r / 3718512 % 3 = 1
  · generalize 1 + r / 119952 % mlen y m = dd
    rw [zSeq_next (δ' := [some (.sh (.int x)), some (.sh (.bl b)), some (.sh (.int r)), some (.sh (.int (4 * (1 + y % 2499)))), some (.sh (.int 2)), some (.sh (.int (20 + dd % 9)))]) (by simp [S_law_first_5, zSeq, oDiv_int, oMod_int, oMul_l, c])]
    refine ⟨4 * (1 + y % 2499), 2, 20 + dd % 9, by simp [F_law_first_6, S_law_first_6], by omega, by omega, by omega, by omega, by omega, ?_⟩
    have := mlen_bd (4 * (1 + y % 2499)) (m := 2) (by omega) (by omega)
    omega
  · rw [zSeq_next (δ' := [some (.sh (.int x)), some (.sh (.bl b)), some (.sh (.int r)), some (.sh (.int y)), some (.sh (.int m)), some (.sh (.int (1 + r / 119952 % mlen y m)))]) (by simp [S_law_first_5, zSeq, oDiv_int, oMod_int, c])]
    exact ⟨y, m, 1 + r / 119952 % mlen y m, by simp [F_law_first_6, S_law_first_6], by omega, by omega, by omega, by omega, by omega, by omega⟩
end Lw
set_option Elab.async false
set_option linter.all false
set_option maxRecDepth 100000
set_option maxHeartbeats 400000
namespace Lw
open PySem L2 L3
local macro_rules | `(tactic| simp_arith [$ls,*]) => `(tactic| simp -implicitDefEqProofs only [e_zSet, e_zIf, e_zRet, e_zOwn, e_zApp, e_zDrop, e_zAsg, e_mCall, e_mCons, e_mVar, e_mVarR, e_m2, e_m2t, e_m1, e_mC, e_mNil, e_mAnd, e_mOr, e_mNot, e_mT, e_mLst0, e_mLst1, e_mLst2, e_mLst4, e_mLstC3, e_mCB, e_mTup2, e_mTup3, e_mIf, e_bN, e_mAndV, e_mOrV, e_mNotV, e_mL, e_mSl, e_mP, e_mNoP, List.getElem?_cons_succ, List.getElem?_cons_zero, List.set_cons_zero, List.set_cons_succ, R.bind_ok, bS_ok, oAdd_int, oSub_int, oLt_int, oLe_int, oGt_int, oGe_int, oNeg_int, oLen_lst, oLen_tup, tru_bl, boolD_bl, blR_ok, op2_int_eq, op2_int_ne, op2_int_lt, op2_int_le, op2_int_gt, op2_int_ge, itemsD_lst, if_true, Bool.false_eq_true, if_false, decide_true, decide_false, List.length_map, $ls,*])
theorem pl4 {t : List Nat} (h : t = [60, 100, 62] ∨ t = [60, 109, 62] ∨ t = [60, 121, 62] ∨ t = [60, 89, 62]) : t ∈ places := by
  rcases h with rfl | rfl | rfl | rfl <;> decide
theorem zf4_drop {y : Nat} (h : y < 10000) : ([48, 48, 48] ++ dg y).drop ((dg y).length - 1) = zf4 y := by
  unfold dg zf4
  split
  · simp; omega
  · split
    · simp; omega
    · split
      · simp; omega
      · simp; omega
theorem figs_cut {n : Nat} (k : Int) (h : k = if n < 10 then 2 else 1) : cutD ([dg n, [48] ++ dg n].map D.str) none (some k) = (figs n).map D.str := by
  unfold figs
  by_cases c : n < 10
  · rw [if_pos c] at h ⊢
    subst h
    exact cutD_to (b := 2) _ (by simp)
  · rw [if_neg c] at h ⊢
    subst h
    exact cutD_to (b := 1) _ (by simp)
theorem law_ways_eq {y m d : Nat} (w : Nat) (hy : y < 10000) (hm : m < 10000) (hd : d < 10000) {t : List Nat} (ht : t = [60, 100, 62] ∨ t = [60, 109, 62] ∨ t = [60, 121, 62] ∨ t = [60, 89, 62]) :
    m_law_ways [.str t, .tup [.int y, .int m, .int d]] = .ok (strsL (WY y m d w t)) := by
  have htc : ∀ c ∈ t, c < 1114112 := by rcases ht with rfl | rfl | rfl | rfl <;> decide
  have q1 : oEq (.str t) (.str [60, 121, 62]) = .ok (t == [60, 121, 62]) := oEq_str htc (by decide)
  have q2 : oEq (.str t) (.str [60, 89, 62]) = .ok (t == [60, 89, 62]) := oEq_str htc (by decide)
  have q3 : oEq (.str t) (.str [60, 109, 62]) = .ok (t == [60, 109, 62]) := oEq_str htc (by decide)
  unfold m_law_ways F_law_ways
  have e0 : startE 6 [.str t, .tup [.int y, .int m, .int d]] = [some (.sh (.str t)), some (.sh (.tup [.int y, .int m, .int d])), none, none, none, none] := rfl
  rw [e0, zSeq_next (δ' := [some (.sh (.str t)), some (.sh (.tup [.int y, .int m, .int d])), some (.sh (.int y)), some (.sh (.int m)), some (.sh (.int d)), none]) (by rfl)]
  unfold F_law_ways_1
  by_cases c1 : t = [60, 121, 62]
  · have hmod : oMod (.int ((y / 10 : Nat) : Int)) (.int 10) = .ok (.int ((y / 10 % 10 : Nat) : Int)) := by rw [oMod_int _ (by omega)]; simp
    have hdiv : oDiv (.int (y : Int)) (.int 10) = .ok (.int ((y / 10 : Nat) : Int)) := by rw [oDiv_int _ (by omega) (by omega)]; simp
    have hmod2 : oMod (.int (y : Int)) (.int 10) = .ok (.int ((y % 10 : Nat) : Int)) := by rw [oMod_int _ (by omega)]; simp
    have d1 : dg (y / 10 % 10) = [48 + y / 10 % 10] := by unfold dg; rw [if_pos (by omega)]
    have d2 : dg (y % 10) = [48 + y % 10] := by unfold dg; rw [if_pos (by omega)]
    have ha : oAdd (.str [48 + y / 10 % 10]) (.str [48 + y % 10]) = .ok (.str (zf2 y)) := oAdd_str (by simp)
    rw [zSeq_ret (d := strsL [zf2 y]) (by
      unfold S_law_ways_1
      rw [zIf_yes (by simp_arith [q1]; rw [c1]; rfl)]
      simp_arith [hdiv, hmod, hmod2, oStr_dg (n := y / 10 % 10) (by omega), oStr_dg (n := y % 10) (by omega), d1, d2, ha]
      rfl)]
    subst c1
    rfl
  · rw [zSeq_next (δ' := [some (.sh (.str t)), some (.sh (.tup [.int y, .int m, .int d])), some (.sh (.int y)), some (.sh (.int m)), some (.sh (.int d)), none]) (by
      unfold S_law_ways_1
      rw [zIf_no (by simp_arith [q1, beq_eq_false_iff_ne.mpr c1])])]
    unfold F_law_ways_2
    by_cases c2 : t = [60, 89, 62]
    · have hl : (dg y).length ≤ 1000 := by have := @dg_len y; omega
      have ha : oAdd (.str [48, 48, 48]) (.str (dg y)) = .ok (.str ([48, 48, 48] ++ dg y)) := oAdd_str (by simp; have := @dg_len y; omega)
      have hsub : ((dg y).length : Int) - 1 = (((dg y).length - 1 : Nat) : Int) := by have := (@dg_len y).1; omega
      have hcut : oSl (.str ([48, 48, 48] ++ dg y)) (some (((dg y).length - 1 : Nat) : Int)) none = .ok (.str (zf4 y)) := by
        rw [oSl_str (by simp; have := @dg_len y; omega), cutD_from _ (by simp; omega), zf4_drop hy]
      rw [zSeq_ret (d := strsL [zf4 y]) (by
        unfold S_law_ways_2
        rw [zIf_yes (by simp_arith [q2]; rw [c2]; rfl)]
        simp_arith [oStr_dg (n := y) (by omega), ha, oLen_str hl, hsub, hcut]
        rfl)]
      subst c2
      rfl
    · rw [zSeq_next (δ' := [some (.sh (.str t)), some (.sh (.tup [.int y, .int m, .int d])), some (.sh (.int y)), some (.sh (.int m)), some (.sh (.int d)), none]) (by
        unfold S_law_ways_2
        rw [zIf_no (by simp_arith [q2, beq_eq_false_iff_ne.mpr c2])])]
      unfold F_law_ways_3
      obtain ⟨n, hn, e3, eW⟩ : ∃ n : Nat, n < 10000 ∧ S_law_ways_3 [some (.sh (.str t)), some (.sh (.tup [.int y, .int m, .int d])), some (.sh (.int y)), some (.sh (.int m)), some (.sh (.int d)), none] = .next [some (.sh (.str t)), some (.sh (.tup [.int y, .int m, .int d])), some (.sh (.int y)), some (.sh (.int m)), some (.sh (.int d)), some (.sh (.int n))] ∧ WY y m d w t = figs n := by
        rcases ht with rfl | rfl | rfl | rfl
        · refine ⟨d, hd, ?_, rfl⟩
          unfold S_law_ways_3
          simp_arith [op2, q3, oInt_bl]
          rfl
        · refine ⟨m, hm, ?_, rfl⟩
          unfold S_law_ways_3
          simp_arith [op2, q3, oInt_bl]
          rfl
        · exact absurd rfl c1
        · exact absurd rfl c2
      rw [zSeq_next e3, eW]
      unfold F_law_ways_4 S_law_ways_4
      have ha : oAdd (.str [48]) (.str (dg n)) = .ok (.str ([48] ++ dg n)) := oAdd_str (by simp; have := @dg_len n; omega)
      have hcut : oSl (.lst [.str (dg n), .str ([48] ++ dg n)]) none (some (1 + if decide ((n : Int) < 10) = true then 1 else 0)) = .ok (strsL (figs n)) := by
        show R.ok (D.lst (cutD ([dg n, [48] ++ dg n].map D.str) none (some _))) = _
        rw [figs_cut _ (by
          by_cases c : n < 10
          · rw [if_pos c, if_pos (by simp; omega)]; rfl
          · rw [if_neg c, if_neg (by simp; omega)]; rfl)]
      simp_arith [oStr_dg hn, ha, op2, oInt_bl, hcut]
      rfl
theorem law_text_eq {w : List Nat} (h1 : 1 ≤ w.length) (h2 : w.length ≤ 5) (hs : ∀ c ∈ w, c ∈ signs) (p c : Int) : ∃ tx, m_law_text [.str w, .int p, .int c] = .ok (.str tx) ∧ tx.length ≤ 20 ∧ ∀ c ∈ tx, c ∈ signs := by
  unfold m_law_text F_law_text
  generalize hF : (D.lst [D.str [48], D.str [48, 48], D.str [49], D.str [48, 49], D.str [57], D.str [48, 57], D.str [49, 48], D.str [49, 50], D.str [51, 49], D.str [51, 50], D.str [57, 57], D.str [49, 48, 48], D.str [48, 48, 48, 49]]) = fx
  have e0 : startE 4 [.str w, .int p, .int c] = [some (.sh (.str w)), some (.sh (.int p)), some (.sh (.int c)), none] := rfl
  rw [e0, zSeq_next (δ' := [some (.sh (.str w)), some (.sh (.int p)), some (.sh (.int c)), some (.sh fx)]) (by subst hF; rfl)]
  have m13 : 0 ≤ c % 13 ∧ c % 13 < 13 := by omega
  unfold F_law_text_1
  by_cases p0 : p = 0
  · rw [zSeq_ret (d := .str w) (by unfold S_law_text_1; rw [zIf_yes (by simp_arith [oEq_int, p0])]; rfl)]
    exact ⟨w, rfl, by omega, hs⟩
  rw [zSeq_next (δ' := [some (.sh (.str w)), some (.sh (.int p)), some (.sh (.int c)), some (.sh fx)]) (by unfold S_law_text_1; rw [zIf_no (by simp_arith [oEq_int, p0])])]
  unfold F_law_text_2
  by_cases p1 : p = 1
  · rw [zSeq_ret (d := .str ([48] ++ w)) (by unfold S_law_text_2; rw [zIf_yes (by simp_arith [oEq_int, p1])]; simp_arith [oAdd_str (a := [48]) (b := w) (by simp; omega)])]
    refine ⟨[48] ++ w, rfl, by simp; omega, fun x hx => ?_⟩
    rcases List.mem_append.mp hx with hx | hx
    · have : x = 48 := by simpa using hx
      subst this; decide
    · exact hs x hx
  rw [zSeq_next (δ' := [some (.sh (.str w)), some (.sh (.int p)), some (.sh (.int c)), some (.sh fx)]) (by unfold S_law_text_2; rw [zIf_no (by simp_arith [oEq_int, p1])])]
  unfold F_law_text_3
  by_cases p2 : p = 2
  · rw [zSeq_ret (d := .str (cutD (w ++ w) (some 1) (some ((w.length : Int) + 1 - c % 2)))) (by
      unfold S_law_text_3
      rw [zIf_yes (by simp_arith [oEq_int, p2])]
      simp_arith [oAdd_str (a := w) (b := w) (by omega), oLen_str (s := w) (by omega), oMod_int c (j := 2) (by omega), oSl_str (s := w ++ w) (by simp; omega)])]
    refine ⟨_, rfl, ?_, fun x hx => ?_⟩
    · have := len_cutD (w ++ w) (some 1) (some ((w.length : Int) + 1 - c % 2))
      rw [List.length_append] at this
      omega
    · rcases List.mem_append.mp (mem_cutD hx) with hx | hx <;> exact hs x hx
  rw [zSeq_next (δ' := [some (.sh (.str w)), some (.sh (.int p)), some (.sh (.int c)), some (.sh fx)]) (by unfold S_law_text_3; rw [zIf_no (by simp_arith [oEq_int, p2])])]
  unfold F_law_text_4
  by_cases p3 : p = 3
  · obtain ⟨k, hk⟩ : ∃ k : Nat, c % 10 = (k : Int) := ⟨(c % 10).toNat, by omega⟩
    have hk10 : k < 10 := by omega
    have hix : oIx (.str [48, 49, 50, 51, 52, 53, 54, 55, 56, 57]) (.int (k : Int)) = .ok (.str [48 + k]) := by
      have : ∀ k < 10, atI [48, 49, 50, 51, 52, 53, 54, 55, 56, 57] ((k : Nat) : Int) = some (48 + k) := by decide
      simp [oIx, this k hk10]
    rw [zSeq_ret (d := .str (w ++ [48 + k])) (by
      unfold S_law_text_4
      rw [zIf_yes (by simp_arith [oEq_int, p3])]
      simp_arith [oMod_int c (j := 10) (by omega), hk, hix, oAdd_str (a := w) (b := [48 + k]) (by simp; omega)])]
    refine ⟨_, rfl, by simp; omega, fun x hx => ?_⟩
    rcases List.mem_append.mp hx with hx | hx
    · exact hs x hx
    · have : x = 48 + k := by simpa using hx
      exact digit_sign x (by omega) (by omega)
  rw [zSeq_next (δ' := [some (.sh (.str w)), some (.sh (.int p)), some (.sh (.int c)), some (.sh fx)]) (by unfold S_law_text_4; rw [zIf_no (by simp_arith [oEq_int, p3])])]
  unfold F_law_text_5
  by_cases p4 : p = 4
  · obtain ⟨k, hk⟩ : ∃ k : Nat, c % 13 = (k : Int) := ⟨(c % 13).toNat, by omega⟩
    have hk13 : k < 13 := by omega
    have hmem : ∃ tx, oIx fx (.int (k : Int)) = .ok (.str tx) ∧ tx.length ≤ 20 ∧ ∀ c ∈ tx, c ∈ signs := by
      have key : ∀ k < 13, ([[48], [48, 48], [49], [48, 49], [57], [48, 57], [49, 48], [49, 50], [51, 49], [51, 50], [57, 57], [49, 48, 48], [48, 48, 48, 49]] : List (List Nat)).getD k [] ∈ ([[48], [48, 48], [49], [48, 49], [57], [48, 57], [49, 48], [49, 50], [51, 49], [51, 50], [57, 57], [49, 48, 48], [48, 48, 48, 49]] : List (List Nat)) := by decide
      have key2 : ∀ t ∈ ([[48], [48, 48], [49], [48, 49], [57], [48, 57], [49, 48], [49, 50], [51, 49], [51, 50], [57, 57], [49, 48, 48], [48, 48, 48, 49]] : List (List Nat)), t.length ≤ 20 ∧ ∀ c ∈ t, c ∈ signs := by decide
      refine ⟨_, ?_, key2 _ (key k hk13)⟩
      subst hF
      refine oIx_lst (atI_some ?_)
      match k, hk13 with
      | 0, _ | 1, _ | 2, _ | 3, _ | 4, _ | 5, _ | 6, _ | 7, _ | 8, _ | 9, _ | 10, _ | 11, _ | 12, _ => rfl
    obtain ⟨tx, hix, hl, ht⟩ := hmem
    rw [zSeq_ret (d := .str tx) (by
      unfold S_law_text_5
      rw [zIf_yes (by simp_arith [oEq_int, p4])]
      simp_arith [oMod_int c (j := 13) (by omega), hk, hix])]
    exact ⟨tx, rfl, hl, ht⟩
  rw [zSeq_next (δ' := [some (.sh (.str w)), some (.sh (.int p)), some (.sh (.int c)), some (.sh fx)]) (by unfold S_law_text_5; rw [zIf_no (by simp_arith [oEq_int, p4])])]
  unfold F_law_text_6
  by_cases p5 : p = 5
  · obtain ⟨k, hk⟩ : ∃ k : Nat, c % 4 = (k : Int) := ⟨(c % 4).toNat, by omega⟩
    have hk4 : k < 4 := by omega
    obtain ⟨x, hix, hx⟩ : ∃ x, m2 oIx (mLst (fun _ => .ok [D.str [97], D.str [46], D.str [32], D.str [45]])) (m2 oMod (mVar 2) (mC (.int 4))) [some (.sh (.str w)), some (.sh (.int p)), some (.sh (.int c)), some (.sh fx)] = .ok (.str [x]) ∧ x ∈ signs := by
      have hmo : m2 oMod (mVar 2) (mC (.int 4)) [some (.sh (.str w)), some (.sh (.int p)), some (.sh (.int c)), some (.sh fx)] = .ok (.int (k : Int)) := by
        simp_arith [oMod_int c (j := 4) (by omega), hk]
      have hls : mLst (fun _ => .ok [D.str [97], D.str [46], D.str [32], D.str [45]]) [some (.sh (.str w)), some (.sh (.int p)), some (.sh (.int c)), some (.sh fx)] = .ok (.lst [D.str [97], D.str [46], D.str [32], D.str [45]]) := by simp
      rw [e_m2, hls, R.bind_ok, hmo, R.bind_ok]
      match k, hk4 with
      | 0, _ => exact ⟨97, rfl, by decide⟩
      | 1, _ => exact ⟨46, rfl, by decide⟩
      | 2, _ => exact ⟨32, rfl, by decide⟩
      | 3, _ => exact ⟨45, rfl, by decide⟩
    rw [zSeq_ret (d := .str (w ++ [x])) (by
      unfold S_law_text_6
      rw [zIf_yes (by simp_arith [oEq_int, p5]), e_zRet, e_m2, hix]
      simp_arith [oAdd_str (a := w) (b := [x]) (by simp; omega)])]
    refine ⟨_, rfl, by simp; omega, fun z hz => ?_⟩
    rcases List.mem_append.mp hz with hz | hz
    · exact hs z hz
    · have : z = x := by simpa using hz
      subst this; exact hx
  rw [zSeq_next (δ' := [some (.sh (.str w)), some (.sh (.int p)), some (.sh (.int c)), some (.sh fx)]) (by unfold S_law_text_6; rw [zIf_no (by simp_arith [oEq_int, p5])])]
  unfold F_law_text_7 S_law_text_7
  obtain ⟨k, hk⟩ : ∃ k : Nat, 1 + c % 4 = (k : Int) := ⟨(1 + c % 4).toNat, by omega⟩
  obtain ⟨ps, hd, hl, hb⟩ := draws_eq c (decide (c % 3 = 0)) (n := k) (m := 10) (by omega) (by omega) (by omega)
  have hd' : m_law_draws [.int c, .bl (decide (c % 3 = 0)), .int (k : Int), .int 10] = .ok (rowD ps) := hd
  have hc : mComp (fun δ => ((mCall m_law_draws (mCons (mVar 2) (mCons (m2 (op2 oEq) (m2 oMod (mVar 2) (mC (.int 3))) (mC (.int 0))) (mCons (m2 oAdd (mC (.int 1)) (m2 oMod (mVar 2) (mC (.int 4)))) (mCons (mC (.int 10)) (mNil)))))) δ).bind itemsD) (fun _ => .ok true) (m1 oStr (mVar 4)) [some (.sh (.str w)), some (.sh (.int p)), some (.sh (.int c)), some (.sh fx)] = .ok (ps.map fun x => D.str [48 + x.toNat]) := by
    refine comp_map (l := ps) (h := D.int) ?_ (by omega) (fun a ha => ?_)
    · simp_arith [oMod_int c (j := 3) (by omega), oMod_int c (j := 4) (by omega), op2, oEq_int, hk, hd']
    · have hx := hb a ha
      show oStr (.int a) = _
      obtain ⟨n, rfl⟩ : ∃ n : Nat, a = (n : Int) := ⟨a.toNat, by omega⟩
      rw [oStr_dg (n := n) (by omega)]
      have : dg n = [48 + n] := by unfold dg; rw [if_pos (by omega)]
      rw [this]
      rfl
  have hj : mBS oJoin (mC (.str [])) (mCons (mL (mComp (fun δ => ((mCall m_law_draws (mCons (mVar 2) (mCons (m2 (op2 oEq) (m2 oMod (mVar 2) (mC (.int 3))) (mC (.int 0))) (mCons (m2 oAdd (mC (.int 1)) (m2 oMod (mVar 2) (mC (.int 4)))) (mCons (mC (.int 10)) (mNil)))))) δ).bind itemsD) (fun _ => .ok true) (m1 oStr (mVar 4)))) (mNil)) [some (.sh (.str w)), some (.sh (.int p)), some (.sh (.int c)), some (.sh fx)] = .ok (.str (ps.map fun x => 48 + x.toNat)) := by
    unfold mBS
    rw [e_mC, R.bind_ok]
    dsimp only
    rw [e_mCons, e_mL, hc]
    simp only [R.bind_ok, e_mNil]
    have hs2 : strsD (ps.map fun x => D.str [48 + x.toNat]) = some (ps.map fun x => [48 + x.toNat]) := by
      rw [← strsD_map, List.map_map]
      rfl
    have hf : (ps.map fun x => [48 + x.toNat]).flatten = ps.map fun x => 48 + x.toNat := by
      clear hc hd hd' hl hb hs2
      induction ps with
      | nil => rfl
      | cons a l ih => rw [List.map_cons, List.flatten_cons, ih]; rfl
    simp only [oJoin, hs2, hf]
    rw [if_pos (by simp; omega)]
  rw [e_zRet, hj]
  refine ⟨_, rfl, by simp; omega, fun z hz => ?_⟩
  obtain ⟨x, hx, rfl⟩ := List.mem_map.mp hz
  have := hb x hx
  exact digit_sign _ (by omega) (by omega)
theorem WY_plain {y m d w : Nat} (hy : y < 10000) (hm : m < 10000) (hd : d < 10000) {t : List Nat} (ht : t = [60, 100, 62] ∨ t = [60, 109, 62] ∨ t = [60, 121, 62] ∨ t = [60, 89, 62]) :
    WY y m d w t ≠ [] ∧ (WY y m d w t).length ≤ 2 ∧ ∀ x ∈ WY y m d w t, 1 ≤ x.length ∧ x.length ≤ 5 ∧ ∀ c ∈ x, c ∈ signs := by
  have hf : ∀ n < 10000, figs n ≠ [] ∧ (figs n).length ≤ 2 ∧ ∀ x ∈ figs n, 1 ≤ x.length ∧ x.length ≤ 5 ∧ ∀ c ∈ x, c ∈ signs := fun n hn => by
    have hl := @dg_len n
    have hdg : ∀ c ∈ dg n, c ∈ signs := fun c hc => by
      have := dg_digit hn c hc
      exact digit_sign c this.1 this.2
    have h48 : ∀ c ∈ 48 :: dg n, c ∈ signs := fun c hc => by
      rcases List.mem_cons.mp hc with rfl | hc
      · decide
      · exact hdg c hc
    unfold figs
    split
    · refine ⟨by simp, by simp, fun x hx => ?_⟩
      rcases List.mem_cons.mp hx with rfl | hx
      · exact ⟨by omega, by omega, hdg⟩
      · have : x = 48 :: dg n := by simpa using hx
        subst this
        exact ⟨by simp, by simp; omega, h48⟩
    · refine ⟨by simp, by simp, fun x hx => ?_⟩
      have : x = dg n := by simpa using hx
      subst this
      exact ⟨by omega, by omega, hdg⟩
  rcases ht with rfl | rfl | rfl | rfl
  · exact hf d hd
  · exact hf m hm
  · have : WY y m d w [60, 121, 62] = [zf2 y] := rfl
    rw [this]
    refine ⟨by simp, by simp, fun x hx => ?_⟩
    have : x = zf2 y := by simpa using hx
    subst this
    refine ⟨by simp [zf2], by simp [zf2], fun c hc => ?_⟩
    simp [zf2] at hc
    exact digit_sign c (by omega) (by omega)
  · have : WY y m d w [60, 89, 62] = [zf4 y] := rfl
    rw [this]
    refine ⟨by simp, by simp, fun x hx => ?_⟩
    have : x = zf4 y := by simpa using hx
    subst this
    refine ⟨by simp [zf4], by simp [zf4], fun c hc => ?_⟩
    simp [zf4] at hc
    exact digit_sign c (by omega) (by omega)
theorem main (ns : List Int) (_ : ns.length ≤ 63) : m_law [.lst (ns.map D.int)] = .ok (.bl true) := by
  have a0 : m_law_at [.lst (ns.map D.int), .int 0] = .ok (.int (cell ns 0)) := by simpa using at_eq ns 0
  have a1 : m_law_at [.lst (ns.map D.int), .int 1] = .ok (.int (cell ns 1)) := by simpa using at_eq ns 1
  have a2 : m_law_at [.lst (ns.map D.int), .int 2] = .ok (.int (cell ns 2)) := by simpa using at_eq ns 2
  have a3 : m_law_at [.lst (ns.map D.int), .int 3] = .ok (.int (cell ns 3)) := by simpa using at_eq ns 3
  have a4 : m_law_at [.lst (ns.map D.int), .int 4] = .ok (.int (cell ns 4)) := by simpa using at_eq ns 4
  generalize cell ns 0 = c0 at a0
  generalize cell ns 1 = c1 at a1
  generalize cell ns 2 = c2 at a2
  generalize cell ns 3 = c3 at a3
  generalize cell ns 4 = c4 at a4
  generalize hS : (D.lst (ns.map D.int)) = S at *
  obtain ⟨y, m, d, ef, hy1, hy2, hm1, hm2, hd1, hd2⟩ := law_first_eq c0 (decide (c1 % 2 = 0))
  unfold m_law F_law
  have e0 : startE 9 [S] = [some (.sh S), none, none, none, none, none, none, none, none] := rfl
  rw [e0, zSeq_next (δ' := [some (.sh S), some (.sh (.int y)), some (.sh (.int m)), some (.sh (.int d)), none, none, none, none, none]) (by
    unfold S_law_0
    simp_arith [a0, a1, oMod_int c1 (j := 2) (by omega), op2, oEq_int, ef]
    rfl)]
  -- the date
  obtain ⟨y, m, d, hok, hy9, e12⟩ : ∃ y' m' d' : Nat, hasD y' m' d' = true ∧ y' ≤ 9996 ∧ F_law_1 [some (.sh S), some (.sh (.int y)), some (.sh (.int m)), some (.sh (.int d)), none, none, none, none, none] = F_law_3 [some (.sh S), some (.sh (.int ((y' : Int)))), some (.sh (.int ((m' : Int)))), some (.sh (.int ((d' : Int)))), none, none, none, none, none] := by
    have hb := mlen_bd y hm1 hm2
    have hq : ∀ {a b c : Int}, 1 ≤ a → a ≤ 9996 → 1 ≤ b → b ≤ 12 → 1 ≤ c → c ≤ mlen a b → ∃ y' m' d' : Nat, hasD y' m' d' = true ∧ y' ≤ 9996 ∧ F_law_3 [some (.sh S), some (.sh (.int a)), some (.sh (.int b)), some (.sh (.int c)), none, none, none, none, none] = F_law_3 [some (.sh S), some (.sh (.int ((y' : Int)))), some (.sh (.int ((m' : Int)))), some (.sh (.int ((d' : Int)))), none, none, none, none, none] := fun {a b c} h1 h2 h3 h4 h5 h6 => by
      refine ⟨a.toNat, b.toNat, c.toNat, ?_, by omega, ?_⟩
      · rw [show ((a.toNat : Nat) : Int) = a by omega, show ((b.toNat : Nat) : Int) = b by omega, show ((c.toNat : Nat) : Int) = c by omega]
        simp [hasD, h1, h3, h4, h5, h6]
        omega
      · rw [show ((a.toNat : Nat) : Int) = a by omega, show ((b.toNat : Nat) : Int) = b by omega, show ((c.toNat : Nat) : Int) = c by omega]
    have hdv : oDiv (.int c1) (.int 2) = .ok (.int (c1 / 2)) := oDiv_int _ (by omega) (by omega)
    have hmd : oMod (.int (c1 / 2)) (.int 3) = .ok (.int (c1 / 2 % 3)) := oMod_int _ (by omega)
    unfold F_law_1
    by_cases k1 : c1 / 2 % 3 = 1
    · have k2 : ¬ (c1 / 2 % 3 = 2) := by omega
      rw [zSeq_next (δ' := [some (.sh S), some (.sh (.int ((1 + y % 20)))), some (.sh (.int m)), some (.sh (.int ((if 28 < d then 28 else d)))), none, none, none, none, none]) (by
        unfold S_law_1
        rw [zIf_yes (by simp_arith [a1, hdv, hmd, oEq_int, k1])]
        rw [zSeq_next (δ' := [some (.sh S), some (.sh (.int ((1 + y % 20)))), some (.sh (.int m)), some (.sh (.int d)), none, none, none, none, none]) (by simp_arith [oMod_int y (j := 20) (by omega)])]
        simp_arith [oMin_int])]
      unfold F_law_2
      rw [zSeq_next (δ' := [some (.sh S), some (.sh (.int ((1 + y % 20)))), some (.sh (.int m)), some (.sh (.int ((if 28 < d then 28 else d)))), none, none, none, none, none]) (by
        unfold S_law_2
        rw [zIf_no (by simp_arith [a1, hdv, hmd, oEq_int, k2])])]
      have hb2 := mlen_bd (1 + y % 20) hm1 hm2
      exact hq (by omega) (by omega) hm1 hm2 (by split <;> omega) (by split <;> omega)
    · rw [zSeq_next (δ' := [some (.sh S), some (.sh (.int y)), some (.sh (.int m)), some (.sh (.int d)), none, none, none, none, none]) (by
        unfold S_law_1
        rw [zIf_no (by simp_arith [a1, hdv, hmd, oEq_int, k1])])]
      unfold F_law_2
      by_cases k2 : c1 / 2 % 3 = 2
      · obtain ⟨k, hk⟩ : ∃ k : Nat, m % 8 = (k : Int) := ⟨(m % 8).toNat, by omega⟩
        have hk8 : k < 8 := by omega
        obtain ⟨m', hm', hix⟩ : ∃ m' : Int, (1 ≤ m' ∧ m' ≤ 12) ∧ oIx (.lst [.int 1, .int 3, .int 5, .int 7, .int 8, .int 10, .int 12, .int m]) (.int (k : Int)) = .ok (.int m') := by
          match k, hk8 with
          | 0, _ => exact ⟨1, by omega, rfl⟩
          | 1, _ => exact ⟨3, by omega, rfl⟩
          | 2, _ => exact ⟨5, by omega, rfl⟩
          | 3, _ => exact ⟨7, by omega, rfl⟩
          | 4, _ => exact ⟨8, by omega, rfl⟩
          | 5, _ => exact ⟨10, by omega, rfl⟩
          | 6, _ => exact ⟨12, by omega, rfl⟩
          | 7, _ => exact ⟨m, by omega, rfl⟩
        have hls : mLst (mCons (mC (.int 1)) (mCons (mC (.int 3)) (mCons (mC (.int 5)) (mCons (mC (.int 7)) (mCons (mC (.int 8)) (mCons (mC (.int 10)) (mCons (mC (.int 12)) (mCons (mVar 2) (mNil))))))))) [some (.sh S), some (.sh (.int y)), some (.sh (.int m)), some (.sh (.int d)), none, none, none, none, none] = .ok (.lst [.int 1, .int 3, .int 5, .int 7, .int 8, .int 10, .int 12, .int m]) := rfl
        have hlm := law_month_eq y m' hm'.1 hm'.2
        rw [zSeq_next (δ' := [some (.sh S), some (.sh (.int y)), some (.sh (.int m')), some (.sh (.int ((mlen y m')))), none, none, none, none, none]) (by
          unfold S_law_2
          rw [zIf_yes (by simp_arith [a1, hdv, hmd, oEq_int, k2])]
          rw [zSeq_next (δ' := [some (.sh S), some (.sh (.int y)), some (.sh (.int m')), some (.sh (.int d)), none, none, none, none, none]) (by
            rw [e_zSet, e_m2, hls]
            simp_arith [oMod_int m (j := 8) (by omega), hk, hix])]
          simp_arith [hlm])]
        have hb2 := mlen_bd y hm'.1 hm'.2
        exact hq hy1 hy2 hm'.1 hm'.2 (by omega) (by omega)
      · rw [zSeq_next (δ' := [some (.sh S), some (.sh (.int y)), some (.sh (.int m)), some (.sh (.int d)), none, none, none, none, none]) (by
          unfold S_law_2
          rw [zIf_no (by simp_arith [a1, hdv, hmd, oEq_int, k2])])]
        exact hq hy1 hy2 hm1 hm2 hd1 hd2
  rw [e12]
  have hb := hasD_ok3 hok
  have hml := (mlen_bd y hb.2.1 hb.2.2.1).2
  have hbd : y < 10000 ∧ m < 10000 ∧ d < 10000 := by
    have := hb.2.2.1
    have := hb.2.2.2.2
    omega
  have hm12 := hb.2.2.1
  obtain ⟨w, hw⟩ : ∃ w : Nat, num y m d % 7 = (w : Int) := ⟨(num y m d % 7).toNat, by omega⟩
  -- the token
  obtain ⟨t, ht, et⟩ : ∃ t, (t = [60, 100, 62] ∨ t = [60, 109, 62] ∨ t = [60, 121, 62] ∨ t = [60, 89, 62]) ∧ S_law_3 [some (.sh S), some (.sh (.int y)), some (.sh (.int m)), some (.sh (.int d)), none, none, none, none, none] = .next [some (.sh S), some (.sh (.int y)), some (.sh (.int m)), some (.sh (.int d)), some (.sh (.str t)), none, none, none, none] := by
    obtain ⟨k, hk⟩ : ∃ k : Nat, c2 % 4 = (k : Int) := ⟨(c2 % 4).toNat, by omega⟩
    have hk4 : k < 4 := by omega
    have hls : mLst (fun _ => .ok [D.str [60, 100, 62], D.str [60, 109, 62], D.str [60, 121, 62], D.str [60, 89, 62]]) [some (.sh S), some (.sh (.int y)), some (.sh (.int m)), some (.sh (.int d)), none, none, none, none, none] = .ok (.lst [D.str [60, 100, 62], D.str [60, 109, 62], D.str [60, 121, 62], D.str [60, 89, 62]]) := by simp
    have hgo : ∀ t, oIx (.lst [D.str [60, 100, 62], D.str [60, 109, 62], D.str [60, 121, 62], D.str [60, 89, 62]]) (.int (k : Int)) = .ok (.str t) → S_law_3 [some (.sh S), some (.sh (.int y)), some (.sh (.int m)), some (.sh (.int d)), none, none, none, none, none] = .next [some (.sh S), some (.sh (.int y)), some (.sh (.int m)), some (.sh (.int d)), some (.sh (.str t)), none, none, none, none] := fun t hix => by
      unfold S_law_3
      rw [e_zSet, e_m2, hls]
      simp_arith [a2, oMod_int c2 (j := 4) (by omega), hk, hix]
    match k, hk4, hgo with
    | 0, _, hgo => exact ⟨_, .inl rfl, hgo _ rfl⟩
    | 1, _, hgo => exact ⟨_, .inr (.inl rfl), hgo _ rfl⟩
    | 2, _, hgo => exact ⟨_, .inr (.inr (.inl rfl)), hgo _ rfl⟩
    | 3, _, hgo => exact ⟨_, .inr (.inr (.inr rfl)), hgo _ rfl⟩
  unfold F_law_3
  rw [zSeq_next et]
  have hway := law_ways_eq w hbd.1 hbd.2.1 hbd.2.2 ht
  unfold F_law_4
  rw [zSeq_next (δ' := [some (.sh S), some (.sh (.int y)), some (.sh (.int m)), some (.sh (.int d)), some (.sh (.str t)), some (.sh (strsL (WY y m d w t))), none, none, none]) (by unfold S_law_4; simp_arith [hway])]
  obtain ⟨hne, hlen, hall⟩ := WY_plain (w := w) hbd.1 hbd.2.1 hbd.2.2 ht
  have hpos : 0 < (WY y m d w t).length := List.length_pos_iff.mpr hne
  obtain ⟨k, hk⟩ : ∃ k : Nat, c2 / 4 % ((WY y m d w t).length : Int) = (k : Int) := ⟨(c2 / 4 % ((WY y m d w t).length : Int)).toNat, by
    have := Int.emod_nonneg (c2 / 4) (show ((WY y m d w t).length : Int) ≠ 0 by omega)
    omega⟩
  have hkl : k < (WY y m d w t).length := by
    have := Int.emod_lt_of_pos (c2 / 4) (show (0 : Int) < ((WY y m d w t).length : Int) by omega)
    omega
  obtain ⟨h1, h5, hsg⟩ := hall _ (List.getElem_mem hkl)
  have hmemw : (WY y m d w t)[k] ∈ WY y m d w t := List.getElem_mem hkl
  generalize hx : (WY y m d w t)[k] = x at *
  have hix : oIx (strsL (WY y m d w t)) (.int (k : Int)) = .ok (.str x) := oIx_lst (atI_some (by rw [List.getElem?_map, List.getElem?_eq_getElem hkl, hx]; rfl))
  unfold F_law_5
  rw [zSeq_next (δ' := [some (.sh S), some (.sh (.int y)), some (.sh (.int m)), some (.sh (.int d)), some (.sh (.str t)), some (.sh (strsL (WY y m d w t))), some (.sh (.str x)), none, none]) (by
    unfold S_law_5
    simp_arith [a2, oDiv_int c2 (j := 4) (by omega) (by omega), oMod_int (c2 / 4) (j := ((WY y m d w t).length : Int)) (by omega), hk, hix])]
  obtain ⟨tx, etx, hl20, hsx⟩ := law_text_eq h1 h5 hsg (c3 % 7) c4
  unfold F_law_6
  rw [zSeq_next (δ' := [some (.sh S), some (.sh (.int y)), some (.sh (.int m)), some (.sh (.int d)), some (.sh (.str t)), some (.sh (strsL (WY y m d w t))), some (.sh (.str x)), some (.sh (.str tx)), none]) (by
    unfold S_law_6
    simp_arith [a3, a4, oMod_int c3 (j := 7) (by omega), etx])]
  have htc : ∀ c ∈ tx, c < 1114112 := fun c hc => by have := signs_lt c (hsx c hc); omega
  obtain ⟨tx, h1x, h2x, hsx, e7⟩ : ∃ tx', 1 ≤ tx'.length ∧ tx'.length ≤ 20 ∧ (∀ c ∈ tx', c ∈ signs) ∧ S_law_7 [some (.sh S), some (.sh (.int y)), some (.sh (.int m)), some (.sh (.int d)), some (.sh (.str t)), some (.sh (strsL (WY y m d w t))), some (.sh (.str x)), some (.sh (.str tx)), none] = .next [some (.sh S), some (.sh (.int y)), some (.sh (.int m)), some (.sh (.int d)), some (.sh (.str t)), some (.sh (strsL (WY y m d w t))), some (.sh (.str x)), some (.sh (.str tx')), none] := by
    by_cases z : tx = []
    · refine ⟨x, h1, by omega, hsg, ?_⟩
      unfold S_law_7
      rw [zIf_yes (by simp_arith [oEq_str htc (show ∀ c ∈ ([] : List Nat), c < 1114112 by simp)]; rw [z]; rfl)]
      rfl
    · refine ⟨tx, List.length_pos_iff.mpr z, hl20, hsx, ?_⟩
      unfold S_law_7
      rw [zIf_no (by simp_arith [oEq_str htc (show ∀ c ∈ ([] : List Nat), c < 1114112 by simp), beq_eq_false_iff_ne.mpr z])]
  unfold F_law_7
  rw [zSeq_next e7]
  have hfit := fits_one hok hw (pl4 ht) h1x h2x hsx
  have hnum := law_number_eq y m d hb.2.1 hb.2.2.1
  unfold F_law_8
  rw [zSeq_next (δ' := [some (.sh S), some (.sh (.int y)), some (.sh (.int m)), some (.sh (.int d)), some (.sh (.str t)), some (.sh (strsL (WY y m d w t))), some (.sh (.str x)), some (.sh (.str tx)), some (.sh (.bl (decide (tx ∈ WY y m d w t))))]) (by
    unfold S_law_8
    simp_arith [hnum, hfit])]
  unfold F_law_9 S_law_9
  have hin : oIn (.str tx) (strsL (WY y m d w t)) = .ok (decide (tx ∈ WY y m d w t)) := inB_strs tx _
  have hqq : oEq (.bl (decide (tx ∈ WY y m d w t))) (.bl (decide (tx ∈ WY y m d w t))) = .ok true := by
    cases decide (tx ∈ WY y m d w t) <;> rfl
  simp_arith [isTy, op2, hin, hqq]
  rfl
end Lw
open PySem PySem.W PyProof.Rows
set_option maxRecDepth 100000 in
set_option maxHeartbeats 0 in
theorem PySem.Challenge.cw_inkdays_k09_figures_holds : PySem.Challenge.rw_inkdays_k09_figures.Holds := by
  w_on; o_law; k_head; (case hw => w_witness2)
  k_fill
  refine Lw.walk (l := PySem.Challenge.rw_inkdays_k09_figures) rfl rfl (fun w h Y => PySem.W.kIn_of Y) ?F
  case F =>
    intro w mg fa h KX G hmg
    refine' Lw.all_mk Lw.main KX G hmg ?f_law_leap ?f_law_month ?f_law_first ?f_law_at ?f_law_ways ?f_law_draws ?f_law_text ?f_split_into_parts ?f_token_at ?f_cut_into_tokens ?f_piece_of ?f_number_pieces ?f_read_form ?f_parts_of_form ?f_check_text ?f_ends_of_piece ?f_ends_of_part ?f_is_written ?f_has_number ?f_days_ahead_of_year ?f_year_with ?f_is_leap ?f_month_length ?f_date_of ?f_beginnings ?f_weekday_of ?f_figures ?f_ways_of_day ?f_fits ?f_law_number ?a_law ?l_law ?d_law ?p_law ?a_PLACES ?l_PLACES ?v_PLACES ?a_PLAIN_SIGNS ?y_PLAIN_SIGNS' ?a_MOST_LACKING_PARTS ?a_LONGEST_FORM ?a_LONGEST_TEXT ?a_LAST_NUMBER ?a_DAYS_OF_400_YEARS ?a_COMMON_LENGTHS ?l_COMMON_LENGTHS ?v_COMMON_LENGTHS ?a_WEEKDAYS ?l_WEEKDAYS ?v_WEEKDAYS ?a_MONTHS ?l_MONTHS ?v_MONTHS ?a_bool ?a_enumerate ?a_int ?a_isinstance ?a_len ?a_min ?a_range ?a_str ?a_InkError ?a_NoSuchDay ?a_BadForm ?a_BadText ?e_BadForm ?e_BadText ?e_NoSuchDay
    (case f_law_leap => (refine' L3.FF.mk ?xa ?xl ?xd ?xp; (case xa => k_is); (case xl => k_is); (case xd => k_is); (case xp => k_is)))
    (case f_law_month => (refine' L3.FF.mk ?xa ?xl ?xd ?xp; (case xa => k_is); (case xl => k_is); (case xd => k_is); (case xp => k_is)))
    (case f_law_first => (refine' L3.FF.mk ?xa ?xl ?xd ?xp; (case xa => k_is); (case xl => k_is); (case xd => k_is); (case xp => k_is)))
    (case f_law_at => (refine' L3.FF.mk ?xa ?xl ?xd ?xp; (case xa => k_is); (case xl => k_is); (case xd => k_is); (case xp => k_is)))
    (case f_law_ways => (refine' L3.FF.mk ?xa ?xl ?xd ?xp; (case xa => k_is); (case xl => k_is); (case xd => k_is); (case xp => k_is)))
    (case f_law_draws => (refine' L3.FF.mk ?xa ?xl ?xd ?xp; (case xa => k_is); (case xl => k_is); (case xd => k_is); (case xp => k_is)))
    (case f_law_text => (refine' L3.FF.mk ?xa ?xl ?xd ?xp; (case xa => k_is); (case xl => k_is); (case xd => k_is); (case xp => k_is)))
    (case f_split_into_parts => (refine' L3.FF.mk ?xa ?xl ?xd ?xp; (case xa => k_is); (case xl => k_is); (case xd => k_is); (case xp => k_is)))
    (case f_token_at => (refine' L3.FF.mk ?xa ?xl ?xd ?xp; (case xa => k_is); (case xl => k_is); (case xd => k_is); (case xp => k_is)))
    (case f_cut_into_tokens => (refine' L3.FF.mk ?xa ?xl ?xd ?xp; (case xa => k_is); (case xl => k_is); (case xd => k_is); (case xp => k_is)))
    (case f_piece_of => (refine' L3.FF.mk ?xa ?xl ?xd ?xp; (case xa => k_is); (case xl => k_is); (case xd => k_is); (case xp => k_is)))
    (case f_number_pieces => (refine' L3.FF.mk ?xa ?xl ?xd ?xp; (case xa => k_is); (case xl => k_is); (case xd => k_is); (case xp => k_is)))
    (case f_read_form => (refine' L3.FF.mk ?xa ?xl ?xd ?xp; (case xa => k_is); (case xl => k_is); (case xd => k_is); (case xp => k_is)))
    (case f_parts_of_form => (refine' L3.FF.mk ?xa ?xl ?xd ?xp; (case xa => k_is); (case xl => k_is); (case xd => k_is); (case xp => k_is)))
    (case f_check_text => (refine' L3.FF.mk ?xa ?xl ?xd ?xp; (case xa => k_is); (case xl => k_is); (case xd => k_is); (case xp => k_is)))
    (case f_ends_of_piece => (refine' L3.FF.mk ?xa ?xl ?xd ?xp; (case xa => k_is); (case xl => k_is); (case xd => k_is); (case xp => k_is)))
    (case f_ends_of_part => (refine' L3.FF.mk ?xa ?xl ?xd ?xp; (case xa => k_is); (case xl => k_is); (case xd => k_is); (case xp => k_is)))
    (case f_is_written => (refine' L3.FF.mk ?xa ?xl ?xd ?xp; (case xa => k_is); (case xl => k_is); (case xd => k_is); (case xp => k_is)))
    (case f_has_number => (refine' L3.FF.mk ?xa ?xl ?xd ?xp; (case xa => k_is); (case xl => k_is); (case xd => k_is); (case xp => k_is)))
    (case f_days_ahead_of_year => (refine' L3.FF.mk ?xa ?xl ?xd ?xp; (case xa => k_is); (case xl => k_is); (case xd => k_is); (case xp => k_is)))
    (case f_year_with => (refine' L3.FF.mk ?xa ?xl ?xd ?xp; (case xa => k_is); (case xl => k_is); (case xd => k_is); (case xp => k_is)))
    (case f_is_leap => (refine' L3.FF.mk ?xa ?xl ?xd ?xp; (case xa => k_is); (case xl => k_is); (case xd => k_is); (case xp => k_is)))
    (case f_month_length => (refine' L3.FF.mk ?xa ?xl ?xd ?xp; (case xa => k_is); (case xl => k_is); (case xd => k_is); (case xp => k_is)))
    (case f_date_of => (refine' L3.FF.mk ?xa ?xl ?xd ?xp; (case xa => k_is); (case xl => k_is); (case xd => k_is); (case xp => k_is)))
    (case f_beginnings => (refine' L3.FF.mk ?xa ?xl ?xd ?xp; (case xa => k_is); (case xl => k_is); (case xd => k_is); (case xp => k_is)))
    (case f_weekday_of => (refine' L3.FF.mk ?xa ?xl ?xd ?xp; (case xa => k_is); (case xl => k_is); (case xd => k_is); (case xp => k_is)))
    (case f_figures => (refine' L3.FF.mk ?xa ?xl ?xd ?xp; (case xa => k_is); (case xl => k_is); (case xd => k_is); (case xp => k_is)))
    (case f_ways_of_day => (refine' L3.FF.mk ?xa ?xl ?xd ?xp; (case xa => k_is); (case xl => k_is); (case xd => k_is); (case xp => k_is)))
    (case f_fits => (refine' L3.FF.mk ?xa ?xl ?xd ?xp; (case xa => k_is); (case xl => k_is); (case xd => k_is); (case xp => k_is)))
    (case f_law_number => (refine' L3.FF.mk ?xa ?xl ?xd ?xp; (case xa => k_is); (case xl => k_is); (case xd => k_is); (case xp => k_is)))
    (case a_law => k_is)
    (case l_law => k_is)
    (case d_law => k_is)
    (case p_law => k_is)
    (case a_PLACES => k_is)
    (case l_PLACES => k_is)
    (case v_PLACES => repeat (first | exact .nil | refine .cons ⟨_, rfl⟩ ?_))
    (case a_PLAIN_SIGNS => k_is)
    (case y_PLAIN_SIGNS' => decide +kernel)
    (case a_MOST_LACKING_PARTS => k_is)
    (case a_LONGEST_FORM => k_is)
    (case a_LONGEST_TEXT => k_is)
    (case a_LAST_NUMBER => k_is)
    (case a_DAYS_OF_400_YEARS => k_is)
    (case a_COMMON_LENGTHS => k_is)
    (case l_COMMON_LENGTHS => k_is)
    (case v_COMMON_LENGTHS => repeat (first | exact .nil | refine .cons ⟨_, rfl⟩ ?_))
    (case a_WEEKDAYS => k_is)
    (case l_WEEKDAYS => k_is)
    (case v_WEEKDAYS => repeat (first | exact .nil | refine .cons ⟨_, rfl⟩ ?_))
    (case a_MONTHS => k_is)
    (case l_MONTHS => k_is)
    (case v_MONTHS => repeat (first | exact .nil | refine .cons ⟨_, rfl⟩ ?_))
    (case a_bool => k_is)
    (case a_enumerate => k_is)
    (case a_int => k_is)
    (case a_isinstance => k_is)
    (case a_len => k_is)
    (case a_min => k_is)
    (case a_range => k_is)
    (case a_str => k_is)
    (case a_InkError => k_is)
    (case a_NoSuchDay => k_is)
    (case a_BadForm => k_is)
    (case a_BadText => k_is)
    (case e_BadForm => k_exc)
    (case e_BadText => k_exc)
    (case e_NoSuchDay => k_exc)
