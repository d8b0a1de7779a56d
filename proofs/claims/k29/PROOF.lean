import PyProof.Rows.All
import Wide.All
import OpenK.AllK
import Wide.FinOn
import Lean
import PyProof.EqAt
import PyProof.EqKinds
import PyProof.TupleCall
import KE.KTryMore
import PyProof.EnumFor
import PyProof.EnumMake
import PyProof.EnumStmt
import PyProof.Rows.EnumRows
import PyProof.StrWalks
import PyProof.StrCalls
import PyProof.FString
import PyProof.ConsumeWalk
import PyProof.ListRange
import PyProof.SumWalkG
import PyProof.Rows.SeqCalls
import KE.KRevIter
import KE.KRevSl
import PyProof.Rows.FactsT2
import PyProof.SetKind
import PyProof.Rows.SetFrom
import PyProof.Rows.SortShell
import PyProof.SetRoads
import PyProof.CollectWalk
import KE.KDictSum
import PyProof.Rows.SortWalk
import PyProof.P3In
import PyProof.ZipIter
import PyProof.Rows.ZipMeets
import PyProof.Rows.MinMaxN
import PySem.Challenge.RW_inkdays_k29_lists_apart
set_option compiler.extract_closed false
set_option Elab.async false
set_option linter.all false
set_option maxRecDepth 100000
noncomputable section
namespace L2
open PySem PySem.Spec PyProof.Rows
noncomputable abbrev cY:=Sum Int Str
noncomputable def tw:cY->Value->Bool
 | .inl k,v=>Value.isInt k v
 | .inr x,v=>Value.isStrOf x v
noncomputable def K7 (w:World):cY->Int
 | .inl k=>hashInt k
 | .inr x=>hashStr w x
theorem b8:∀ {k:cY} {v:Value},tw k v=true->(∃ i t,k=Sum.inl i/\v=Value.int i t) \/ (∃ x t,k=Sum.inr x/\v=Value.str x t)
 | .inl i,v,h=>by
  obtain ⟨t,e⟩:=Value.isInt_shape (k:=i) (v:=v) h
  exact .inl ⟨i,t,rfl,e⟩
 | .inr x,v,h=>by
  obtain ⟨t,e⟩:=Value.isStrOf_shape (x:=x) (v:=v) h
  exact .inr ⟨x,t,rfl,e⟩
theorem Ay (i:Int) (t:Tok):tw (.inl i) (.int i t)=true:=by simp [tw,Value.isInt]
theorem Az (x:Str) (t:Tok):tw (.inr x) (.str x t)=true:=by simp [tw,Value.isStrOf]
theorem Hm (a b:Int):decide ((Sum.inl a:cY)=Sum.inl b)=(a == b):=by
 by_cases e:a=b
 ·subst e;simp
 ·have h:¬ (Sum.inl a:cY)=Sum.inl b:=λ q=>e (Sum.inl.inj q)
  rw [decide_eq_false h]
  exact (beq_eq_false_iff_ne.mpr e).symm
theorem Hr (a b:Str):decide ((Sum.inr a:cY)=Sum.inr b)=decide (a=b):=by
 by_cases e:a=b
 ·subst e;simp
 ·have h:¬ (Sum.inr a:cY)=Sum.inr b:=λ q=>e (Sum.inr.inj q)
  rw [decide_eq_false h,decide_eq_false e]
theorem Ho (a:Int) (b:Str):decide ((Sum.inl a:cY)=Sum.inr b)=false:=decide_eq_false (λ q=>nomatch q)
theorem Hq (a:Str) (b:Int):decide ((Sum.inr a:cY)=Sum.inl b)=false:=decide_eq_false (λ q=>nomatch q)
noncomputable def c9 (prog:Program) (w:World):PySem.KeyKind prog w cY where
 is:=tw
 hash:=K7 w
 inj:=λ v a b ha hb=>by
  rcases b8 ha with ⟨i,t,rfl,rfl⟩ | ⟨x,t,rfl,rfl⟩
  ·rcases b8 hb with ⟨j,u,rfl,e⟩ | ⟨y,u,rfl,e⟩
   ·injection e with e1 _;rw [e1]
   ·exact nomatch e
  ·rcases b8 hb with ⟨j,u,rfl,e⟩ | ⟨y,u,rfl,e⟩
   ·exact nomatch e
   ·injection e with e1 _;rw [e1]
 byValue:=λ k v h=>by
  rcases b8 h with ⟨i,t,rfl,rfl⟩ | ⟨x,t,rfl,rfl⟩ <;> rfl
 pyHash:=λ hv h=>by
  rcases b8 hv with ⟨i,t,rfl,rfl⟩ | ⟨x,t,rfl,rfl⟩
  ·exact wpAny_pyHash_int h
  ·exact wpAny_pyHash_str h
 eqBool:=λ hu hv h=>by
  rcases b8 hu with ⟨i,t,rfl,rfl⟩ | ⟨x,t,rfl,rfl⟩
  ·rcases b8 hv with ⟨j,u,rfl,rfl⟩ | ⟨y,u,rfl,rfl⟩
   ·rw [Hm] at h;exact wpAny_eqBool_int h
   ·rw [Ho] at h;exact SeqAt.EqAt.int_str i t y u _ _ _ _ h
  ·rcases b8 hv with ⟨j,u,rfl,rfl⟩ | ⟨y,u,rfl,rfl⟩
   ·rw [Hq] at h;exact SeqAt.EqAt.str_int x t j u _ _ _ _ h
   ·rw [Hr] at h;exact wpAny_eqBool_str h
 «strs»:=λ k x t v h=>by
  rcases b8 h with ⟨i,u,rfl,e⟩ | ⟨y,u,rfl,e⟩
  ·exact nomatch e
  ·injection e with e1 _
   subst e1
   cases v <;> rfl
theorem wR (prog:Program) (w:World) (i:Int) (t:Tok):(c9 prog w).is (.inl i) (.int i t)=true:=Ay i t
theorem wS (prog:Program) (w:World) (x:Str) (t:Tok):(c9 prog w).is (.inr x) (.str x t)=true:=Az x t
end L2
namespace L2
open PySem PySem.Spec PyProof.Rows
inductive V where
 | non | bl (b:Bool) | int (i:Int) | str (x:Str) | byt (b:Array UInt8) | flt (b:UInt64) | ref (a:Addr) | ty (n:String)
 deriving DecidableEq
noncomputable def bG:V->Value->Prop
 | .non,u=>u=Value.none
 | .bl b,u=>u=Value.bool b
 | .int i,u=>∃ t,u=Value.int i t
 | .str x,u=>∃ t,u=Value.str x t
 | .byt b,u=>∃ t,u=Value.bytes b t
 | .flt b,u=>∃ t,u=Value.float b t
 | .ref a,u=>u=Value.ref a
 | .ty n,u=>u=Value.type n
noncomputable abbrev ba:List V->List Value->Prop:=Paired bG
theorem ba.length {xs:List V} {us:List Value} (r:ba xs us):xs.length=us.length:=Paired.length r
theorem ba.get:∀ {xs:List V} {us:List Value} {i:Nat} {x:V},ba xs us->xs[i]?=some x->∃ u,us[i]?=some u/\bG x u
 | _,_,_,_,.nil,e=>by simp at e
 | _,_,0,_,.cons r _,e=>by simp at e;subst e;exact ⟨_,rfl,r⟩
 | _,_,i + 1,x,.cons _ t,e=>by
  obtain ⟨u,h1,h2⟩:=ba.get (i:=i) (x:=x) t (by simpa using e)
  exact ⟨u,by simpa using h1,h2⟩
theorem ba.append:∀ {xs ys:List V} {us ws:List Value},ba xs us->ba ys ws->ba (xs++ys) (us++ws)
 | _,_,_,_,.nil,s=>s
 | _,_,_,_,.cons r t,s=>.cons r (ba.append t s)
theorem ba.take:∀ {xs:List V} {us:List Value} (n:Nat),ba xs us->ba (xs.take n) (us.take n)
 | _,_,0,_=>.nil
 | _,_,_ + 1,.nil=>.nil
 | _,_,n + 1,.cons r t=>.cons r (ba.take n t)
theorem ba.drop:∀ {xs:List V} {us:List Value} (n:Nat),ba xs us->ba (xs.drop n) (us.drop n)
 | _,_,0,r=>r
 | _,_,_ + 1,.nil=>.nil
 | _,_,n + 1,.cons _ t=>ba.drop n t
noncomputable def zV:Option V->Option Value->Prop
 | some v,some u=>bG v u
 | none,none=>True
 | _,_=>False
noncomputable def KV {κ:Type}:List (κ × V)->List (κ × Value)->Prop:=Paired λ (p:κ × V) (q:κ × Value)=>p.1=q.1/\bG p.2 q.2
noncomputable def kV:cY->V
 | .inl i=>.int i
 | .inr x=>.str x
inductive HO where
  | lst (xs:List V)
  | tup (xs:List V)
  | dK (kvs:List (cY × V)) | dT (kvs:List (List cY × V))
  | set (S:Int->Bool) (n:Nat)
  | ins (C dx:Addr) (fs:List (Str × V))
  | own (x:Addr)
  | xd (fs:List (Str × V))
  | met (f x:Addr)
  | rng (lo hi:Int)
  | frz (o:Obj) (u:HO)
  | tbl (ps:Array Value)
  | ext (φ:Heap->Prop)
noncomputable abbrev Hp:=Addr->Option HO
noncomputable def upd (H:Hp) (a:Addr) (o:HO):Hp:=λ b=>if b=a then some o else H b
theorem aw {H:Hp} {a:Addr} {o:HO}:upd H a o a=some o:=by unfold upd;rw [if_pos rfl]
theorem aq {H:Hp} {a b:Addr} {o:HO} (h:b ≠ a):upd H a o b=H b:=by unfold upd;rw [if_neg h]
theorem CB {H:Hp} {a b:Addr} {o u:HO} (h:H a=some o) (h':H b=some u) (d:o ≠ u):a ≠ b:=by
 intro e;subst e;rw [h] at h';exact d (Option.some.inj h')
theorem az {H:Hp} {a b:Addr} {o:HO} (h:H a=some o) (h':H b=none):a ≠ b:=by
 intro e;subst e;rw [h] at h';cases h'
section
variable (P:Program) (w:World)
noncomputable def dG (H:Hp) (h:Heap) (a:Addr):HO->Prop
 | .lst xs=>xs.length <= sizeLine/\∃ (its:List Value) (n:Nat),ba xs its/\h.get? a=some { cls:=.type "list",data:=.seq its.toArray n }
 | .tup xs=>xs.length <= sizeLine/\∃ its:List Value,ba xs its/\IsTup h a its.toArray
 | .dK kvs=>kvs.length <= sizeLine/\(a == sysModules)=false/\∃ vs,KV kvs vs/\h.DictOf (c9 P w) a vs
 | .dT kvs=>kvs.length <= sizeLine/\(a == sysModules)=false/\∃ xs:List (List cY × Addr × Value),
   Paired (λ (p:List cY × V) (q:List cY × Addr × Value)=>p.1=q.1/\H q.2.1=some (.tup (p.1.map kV))/\bG p.2 q.2.2) kvs xs ∧
   ∃ o es ep,h.get? a=some o/\o.ExactDict/\o.data=.dict es ep/\es.toList=xs.map (entryOfKey (tupleKind (c9 P w)))/\(xs.map (·.1)).Nodup
 | .set S n=>h.SetOf (intKind P w) a S n
 | .ins C dx fs=>H dx=some (.own a)/\fs.length <= 1000/\dx ≠ a/\h.get? a=some (PySem.W.instObj C dx) ∧
   ∃ mA,h.Ns1 dx mA/\(∀ f,zV (fs.lookup f) (mA f))/\PySem.Within mA (fs.map (·.1))
 | .own _=>∃ o,h.get? a=some o
 | .xd fs=>∃ mA,h.Ns1 a mA/\∀ f,zV (fs.lookup f) (mA f)
 | .rng lo hi=>∃ t u v,h.get? a=some { cls:=.type "range",data:=.fields #[.int lo t,.int hi u,.int 1 v] }
 | .frz o u=>h.get? a=some o/\dG H h a u
 | .tbl ps=>h.get? a=some { cls:=.none,data:=.fields ps }
 | .met f x=>h.get? a=some (PySem.W.methodObj (.ref f) (.ref x))
 | .ext φ=>φ h/\(∃ o,h.get? a=some o)/\∀ h1 h2:Heap,φ h1->(∀ o,h1.get? a=some o->h2.get? a=some o)->φ h2
noncomputable def nF (H:Hp) (h:Heap):Prop:=∀ a o,H a=some o->dG P w H h a o
end
section
variable {P:Program} {w:World} {H H':Hp} {h h':Heap} {a:Addr} {o:HO}
theorem dG.lt (x:dG P w H h a o):a < h.objs.size:=by
 cases o with
 | lst xs=>obtain ⟨_,_,_,_,e⟩:=x;exact Heap.lt_size e
 | tup xs=>obtain ⟨_,_,_,p⟩:=x;exact p.lt
 | dK kvs=>obtain ⟨_,_,_,_,o,_,_,e,_⟩:=x;exact Heap.lt_size e
 | dT kvs=>obtain ⟨_,_,_,_,o,_,_,e,_⟩:=x;exact Heap.lt_size e
 | set S n=>obtain ⟨o,_,_,_,e,_⟩:=x;exact Heap.lt_size e
 | ins C dx fs=>obtain ⟨_,_,_,e,_⟩:=x;exact Heap.lt_size e
 | own y=>obtain ⟨_,e⟩:=x;exact Heap.lt_size e
 | xd fs=>obtain ⟨_,⟨_,_,_,e,_⟩,_⟩:=x;exact Heap.lt_size e
 | rng lo hi=>obtain ⟨_,_,_,e⟩:=x;exact Heap.lt_size e
 | frz ob u=>obtain ⟨e,_⟩:=x;exact Heap.lt_size e
 | tbl ps=>exact Heap.lt_size (show h.get? a=some _ from x)
 | met f y=>exact Heap.lt_size (show h.get? a=some _ from x)
 | ext φ=>obtain ⟨_,⟨_,e⟩,_⟩:=x;exact Heap.lt_size e
theorem Paired.mapP {α β:Type} {F G:α->β->Prop}:∀ {l₁:List α} {l₂:List β},Paired F l₁ l₂->(∀ a b,F a b->G a b)->Paired G l₁ l₂
 | _,_,.nil,_=>.nil
 | _,_,.cons r t,f=>.cons (f _ _ r) (Paired.mapP t f)
theorem dG.stay (x:dG P w H h a o) (k:∀ b u,(b=a \/ H b=some (.own a))->h.get? b=some u->h'.get? b=some u)
  (ho:∀ b,H b=some (.own a)->H' b=some (.own a)) (ht:∀ b xs,H b=some (.tup xs)->H' b=some (.tup xs)):dG P w H' h' a o:=by
 induction o with
 | lst xs=>obtain ⟨z,its,n,r,e⟩:=x;exact ⟨z,its,n,r,k _ _ (.inl rfl) e⟩
 | tup xs=>obtain ⟨z,its,r,ob,e,c⟩:=x;exact ⟨z,its,r,ob,k _ _ (.inl rfl) e,c⟩
 | dK kvs=>obtain ⟨z,y,vs,r,ob,es,ep,e,c⟩:=x;exact ⟨z,y,vs,r,ob,es,ep,k _ _ (.inl rfl) e,c⟩
 | dT kvs =>
  obtain ⟨z,y,xs,r,ob,es,ep,e,c⟩:=x
  exact ⟨z,y,xs,Paired.mapP r λ p q z=>⟨z.1,ht _ _ z.2.1,z.2.2⟩,ob,es,ep,k _ _ (.inl rfl) e,c⟩
 | set S n=>obtain ⟨ob,es,ep,t,e,c⟩:=x;exact ⟨ob,es,ep,t,k _ _ (.inl rfl) e,c⟩
 | ins C dx fs =>
  obtain ⟨d,z,ne,e,mA,⟨od,es,ep,e2,c⟩,r⟩:=x
  exact ⟨ho _ d,z,ne,k _ _ (.inl rfl) e,mA,⟨od,es,ep,k _ _ (.inr d) e2,c⟩,r⟩
 | own y=>obtain ⟨ob,e⟩:=x;exact ⟨ob,k _ _ (.inl rfl) e⟩
 | xd fs=>obtain ⟨mA,⟨od,es,ep,e,c⟩,r⟩:=x;exact ⟨mA,⟨od,es,ep,k _ _ (.inl rfl) e,c⟩,r⟩
 | rng lo hi=>obtain ⟨t,u,v,e⟩:=x;exact ⟨t,u,v,k _ _ (.inl rfl) e⟩
 | frz ob u ih=>obtain ⟨e,q⟩:=x;exact ⟨k _ _ (.inl rfl) e,ih q⟩
 | tbl ps =>
  have e:h.get? a=some { cls:=.none,data:=.fields ps }:=x
  show h'.get? a=some { cls:=.none,data:=.fields ps }
  exact k a _ (.inl rfl) e
 | met f y =>
  have e:h.get? a=some (PySem.W.methodObj (.ref f) (.ref y)):=x
  show h'.get? a=some (PySem.W.methodObj (.ref f) (.ref y))
  exact k a _ (.inl rfl) e
 | ext φ=>obtain ⟨p,⟨o,e⟩,st⟩:=x;exact ⟨st _ _ p λ o q=>k _ _ (.inl rfl) q,⟨o,k _ _ (.inl rfl) e⟩,st⟩
theorem nF.lt (x:nF P w H h) (e:H a=some o):a < h.objs.size:=(x a o e).lt
theorem nF.fresh (x:nF P w H h) (e:h.objs.size <= a):H a=none:=by
 cases q:H a with
 | none=>rfl
 | some u=>exact absurd (Nat.lt_of_lt_of_le (x.lt q) e) (Nat.lt_irrefl _)
theorem nF.kept (x:nF P w H h) (k:∀ b u,h.get? b=some u->h'.get? b=some u):nF P w H h':=λ a o e =>
 (x a o e).stay (λ b u _ q=>k b u q) (λ _ q=>q) λ _ _ q=>q
theorem nF.laid (x:nF P w H h) (k:∀ b u,h.get? b=some u->h'.get? b=some u) (hp:h.objs.size <= a) (new:dG P w (upd H a o) h' a o):nF P w (upd H a o) h':=λ b u e=>by
 have hn:=x.fresh hp
 by_cases hb:b=a
 ·subst hb;rw [aw] at e;cases e;exact new
 ·rw [aq hb] at e
  exact (x b u e).stay (λ c v _ q=>k c v q) (λ c q=>by rw [aq (az q hn)];exact q) λ c xs q=>by rw [aq (az q hn)];exact q
end
noncomputable def Rd (H:Hp) (a:Addr) (u:HO):Prop:=H a=some u \/ ∃ o,H a=some (.frz o u)
theorem Rd.ok {P:Program} {w:World} {H:Hp} {h:Heap} {a:Addr} {u:HO} (r:Rd H a u) (x:nF P w H h):dG P w H h a u:=by
 rcases r with r | ⟨o,r⟩
 ·exact x a u r
 ·obtain ⟨_,q⟩:=x a _ r
  exact q
noncomputable def Jp:Option HO->Prop
 | some (.lst _)=>True
 | some (.dK _)=>True
 | some (.dT _)=>True
 | some (.set _ _)=>True
 | some (.ins _ _ _)=>True
 | some (.ext _)=>True
 | _=>False
section
variable {P:Program} {w:World} {H:Hp} {h h':Heap} {x e:Addr} {o':HO}
theorem nF.write (ok:nF P w H h) (mu:Jp (H x)) (he:e=x \/ H e=some (.own x)) (k:∀ b u,b ≠ e->h.get? b=some u->h'.get? b=some u) (heo:∃ u,h'.get? e=some u)
  (new:dG P w (upd H x o') h' x o'):nF P w (upd H x o') h':=λ b u q=>by
 have nown:∀ c y,H c=some (.own y)->c ≠ x:=λ c y r z=>by subst z;rw [r] at mu;exact mu
 have ntup:∀ c xs,H c=some (.tup xs)->c ≠ x:=λ c xs r z=>by subst z;rw [r] at mu;exact mu
 by_cases hb:b=x
 ·subst hb;rw [aw] at q;cases q;exact new
 ·rw [aq hb] at q
  by_cases hbe:b=e
  ·have q':H b=some (.own x):=by
    rcases he with z | z
    ·exact absurd (hbe.trans z) hb
    ·rw [hbe];exact z
   rw [q] at q';cases q'
   obtain ⟨v,hv⟩:=heo
   exact ⟨v,by rw [hbe];exact hv⟩
  ·refine (ok b u q).stay (λ c v hc r=>k c v ?_ r) (λ c r=>by rw [aq (nown c b r)];exact r) λ c xs r=>by rw [aq (ntup c xs r)];exact r
   rcases hc with rfl | hc
   ·exact hbe
   ·rintro rfl
    rcases he with z | z
    ·exact nown c b hc z
    ·rw [hc] at z;cases z;exact hb rfl
end
structure Un (fs ex:List Addr) (H H':Hp) (h h':Heap):Prop where
 keep:∀ b o,h.get? b=some o->H b=none->b ∉ fs->b ∉ ex->h'.get? b=some o
 slot:∀ b o,h.get? b=some o->H b=none->b∈fs->b ∉ ex->∃ sl,h'.get? b=some { o with slots:=sl }
 free:∀ b o,h.get? b=some o->H b=none->b ∉ ex->H' b=none
 there:∀ b o,h.get? b=some o->b ∉ ex->∃ o',h'.get? b=some o'
 tups:∀ b xs,H b=some (.tup xs)->H' b=some (.tup xs)
 frzs:∀ b o u,H b=some (.frz o u)->H' b=some (.frz o u)
 tbls:∀ b ps,H b=some (.tbl ps)->∃ more,H' b=some (.tbl (ps++more))
section
variable {fs fs' ex ex':List Addr} {H H1 H2:Hp} {h h1 h2 h':Heap} {a x e:Addr} {o:HO}
theorem Un.any (u:Un fs ex H H1 h h1) {b:Addr} {ob:Obj} (q:h.get? b=some ob) (n:H b=none) (hx:b ∉ ex):∃ sl,h1.get? b=some { ob with slots:=sl }:=by
 by_cases hb:b∈fs
 ·exact u.slot b ob q n hb hx
 ·exact ⟨ob.slots,u.keep b ob q n hb hx⟩
theorem Un.kept (k:∀ b u,h.get? b=some u->h'.get? b=some u):Un fs ex H H h h':=
 ⟨λ b ob q _ _ _=>k b ob q,λ b ob q _ _ _=>⟨ob.slots,k b ob q⟩,λ _ _ _ n _=>n,λ b ob q _=>⟨ob,k b ob q⟩,λ _ _ q=>q,λ _ _ _ q=>q,λ _ ps q=>⟨#[],by rw [q];simp⟩⟩
theorem Un.refl:Un fs ex H H h h:=Un.kept λ _ _ q=>q
theorem Un.laid (k:∀ b u,h.get? b=some u->h'.get? b=some u) (hp:h.objs.size <= a) (hn:H a=none):Un fs ex H (upd H a o) h h' where
 keep:=λ b u q _ _ _=>k b u q
 slot:=λ b u q _ _ _=>⟨u.slots,k b u q⟩
 free:=λ b u q n _=>by rw [aq (Nat.ne_of_lt (Nat.lt_of_lt_of_le (Heap.lt_size q) hp))];exact n
 there:=λ b u q _=>⟨u,k b u q⟩
 tups:=λ b xs q=>by rw [aq (az q hn)];exact q
 frzs:=λ b u xs q=>by rw [aq (az q hn)];exact q
 tbls:=λ b ps q=>⟨#[],by rw [aq (az q hn),q];simp⟩
theorem Un.write (mu:Jp (H x)) (he:e=x \/ H e=some (.own x)) (k:∀ b u,b ≠ e->h.get? b=some u->h'.get? b=some u) (heo:∃ u,h'.get? e=some u):Un fs ex H (upd H x o) h h':=by
 have hx:∀ b,H b=none->b ≠ x:=λ b n z=>by subst z;rw [n] at mu;exact mu
 have hb:∀ b,H b=none->b ≠ e:=λ b n z=>by
  subst z
  rcases he with r | r
  ·exact hx b n r
  ·rw [n] at r;cases r
 have hm:∀ b u,H b=some u->¬ Jp (some u)->b ≠ x:=λ b u q nm z=>by subst z;rw [q] at mu;exact nm mu
 refine ⟨λ b u q n _ _=>k b u (hb b n) q,λ b u q n _ _=>⟨u.slots,k b u (hb b n) q⟩,λ b u q n _=>by rw [aq (hx b n)];exact n,λ b u q _=>?_,
  λ b xs q=>by rw [aq (hm b _ q λ z=>z)];exact q,λ b u xs q=>by rw [aq (hm b _ q λ z=>z)];exact q,λ b ps q=>⟨#[],by rw [aq (hm b _ q λ z=>z),q];simp⟩⟩
 by_cases hbe:b=e
 ·subst hbe;exact heo
 ·exact ⟨u,k b u hbe q⟩
end
noncomputable def F6 (h:Heap) (H:Hp):List Addr:=(List.range h.objs.size).filter λ a=>(H a).isSome
noncomputable def uN (h:Heap) (H:Hp):Heap:=PySem.W.hideAll h (F6 h H)
theorem Au (h:Heap) (H:Hp):(uN h H).objs.size=h.objs.size:=PySem.W.hideAll_size _ _
theorem Cf {h:Heap} {H:Hp} {b:Addr} {o:Obj} (e:h.get? b=some o) (n:H b=none):(uN h H).get? b=some o:=
 PySem.W.hideAll_get _ e λ hm=>by
  have q:(H b).isSome=true:=(List.mem_filter.mp hm).2
  rw [n] at q;simp at q
theorem ET {h:Heap} {H:Hp} {b:Addr} {o:Obj} (e:(uN h H).get? b=some o):h.get? b=some o/\H b=none:=by
 have e':h.get? b=some o:=PySem.W.of_hideAll (F6 h H) e
 refine ⟨e',?_⟩
 cases q:H b with
 | none=>rfl
 | some x =>
  have hm:b∈F6 h H:=List.mem_filter.mpr ⟨List.mem_range.mpr (Heap.lt_size e'),by simp [q]⟩
  have z:(uN h H).get? b=none:=PySem.W.hideAll_none (F6 h H) hm
  rw [z] at e;cases e
noncomputable def Ej (g h:Heap) (L:Addr):List (Addr × Obj):=(List.range h.objs.size).filterMap λ a=>if a=L \/ (g.get? a).isSome=true then none else (h.get? a).map λ o=>(a,o)
noncomputable def aG (g h:Heap) (L d:Addr):List (Addr × Obj):=(Ej g h L).filter λ p=>decide (p.1 ≠ d)
end L2
namespace L2
open PySem PySem.Spec PyProof.Rows
structure Mod (K:PySem.W.Frag) (mg:Str->Option Value) (base:Heap):Prop where
 kin:K.In base
 glob:base.Ns mainGlobals mg
 blt:∃ mb,base.Ns builtinsNs mb/\∀ x:Str,x ≠ "__name__"->mb x=bootBuiltins x
 nolimit:base.NoLimit
structure Cx where
 prog:Program
 w:World
 K:PySem.W.Frag
 mg:Str->Option Value
 base:Heap
 A:Around
 N:List Str
 s₀:Shared
 H₀:Hp
 env:Env
 outer:List Env
 stack:List Env
 ex:List Addr
 fn:Str->Bool
 calm:Bool
 pn:List (Addr × Obj)
 xe:Value->Shared->Prop
 sg:List (Addr × Obj)->List (Option V)->Prop:=λ _ _=>True
noncomputable def oQ (l:List Env):List Addr:=l.filterMap (·.frame)
noncomputable abbrev Cx.fs (X:Cx):List Addr:=oQ X.outer
noncomputable def kT (sc:Scope) (x:Str):Prop:=sc.names.lookup x=some .local \/ sc.names.lookup x=some .cell \/ sc.names.lookup x=some .free
noncomputable def mM (sc:Scope) (x:Str):Prop:=sc.names.lookup x=some .local \/ sc.names.lookup x=some .cell
noncomputable def KI (env:Env) (h:Heap) (m:Str->Option Value) (x:Str) (u:Value):Prop:=
 (env.kindOf x=some .local/\m x=some u) \/ ((env.kindOf x=some .cell \/ env.kindOf x=some .free)/\∃ c,env.cells.lookup x=some c/\h.IsCell c (some u))
structure Cx.Ok (X:Cx):Prop where
 mod:Mod X.K X.mg X.base
 kind:X.env.scope.kind=.function
 glob:X.env.globals=mainGlobals
 blt:X.env.builtins=builtinsNs
 above:X.s₀.heap.objs.size <= X.env.locals
 inj:∀ x y c,X.env.cells.lookup x=some c->X.env.cells.lookup y=some c->x=y
 has:∀ x,(X.env.kindOf x=some .cell \/ X.env.kindOf x=some .free)->∃ c,X.env.cells.lookup x=some c
 cab:∀ x c,X.fn x=true->X.env.cells.lookup x=some c->X.s₀.heap.objs.size <= c
 hd:X.calm=true->X.A.handled=none
 frames:X.A.frames=some X.stack
 stk:X.stack=X.outer \/ (X.stack=X.env :: X.outer/\X.env.frame=some X.env.locals)
 exf:∀ b∈X.ex,b ≠ X.env.locals/\∀ x c,X.env.cells.lookup x=some c->c ≠ b
 bs:∀ b o,X.base.get? b=some o->X.s₀.heap.get? b=some o/\X.H₀ b=none
 bsz:X.base.objs.size <= X.s₀.heap.objs.size
 noex:∀ b o,X.base.get? b=some o->b ∉ X.ex
 exfs:∀ b∈X.ex,b ∉ X.fs
 funs:X.s₀.heap.FunFrames X.base X.outer
 frf:∀ b∈X.fs,X.H₀ b=none
structure Inv (X:Cx) (pins:List (Addr × Obj)) (σ:List (Option V)) (H:Hp) (s:Shared):Prop where
 ok:X.Ok
 os:s.os=X.s₀.os
 bare:AllBare s.gens
 base:Un X.fs X.ex X.H₀ H X.s₀.heap s.heap
 loc:∃ m,s.heap.Ns X.env.locals m/\∀ (i:Nat) (x:Str) (v:V),X.N[i]?=some x->σ[i]?=some (some v)->kT X.env.scope x->∃ u,bG v u/\KI X.env s.heap m x u
 cell:∀ x c,X.env.cells.lookup x=some c->∃ v,s.heap.IsCell c v
 free:H X.env.locals=none
 freeC:∀ x c,X.env.cells.lookup x=some c->H c=none
 pin:∀ p∈X.pn++pins,s.heap.get? p.1=some p.2/\H p.1=none/\p.1 ≠ X.env.locals/\p.1 ∉ X.fs/\∀ v,p.2.data ≠ .cell v
 hok:nF X.prog X.w H s.heap
 len:σ.length=X.N.length
 sgm:X.sg pins σ
section
variable {X:Cx} {pins:List (Addr × Obj)} {σ:List (Option V)} {H H':Hp} {s:Shared} {h':Heap}
theorem Cx.Ok.nofr (ok:X.Ok) {b:Addr} {o:Obj} (e:X.base.get? b=some o):b ∉ X.fs:=λ hb=>by
 have:=(ok.funs.mem hb).1
 rw [e] at this;cases this
theorem Inv.bs (I:Inv X pins σ H s):∀ b o,X.base.get? b=some o->s.heap.get? b=some o/\H b=none:=λ b o e =>
 ⟨I.base.keep b o (I.ok.bs b o e).1 (I.ok.bs b o e).2 (I.ok.nofr e) (I.ok.noex b o e),I.base.free b o (I.ok.bs b o e).1 (I.ok.bs b o e).2 (I.ok.noex b o e)⟩
theorem Inv.bk (I:Inv X pins σ H s):∀ b o,X.base.get? b=some o->s.heap.get? b=some o:=λ b o e=>(I.bs b o e).1
theorem Inv.mod (I:Inv X pins σ H s):Mod X.K X.mg X.base:=I.ok.mod
theorem Inv.kIn (I:Inv X pins σ H s):X.K.In s.heap:=I.ok.mod.kin.keeps I.bk
theorem Inv.lt (I:Inv X pins σ H s):X.env.locals < s.heap.objs.size:=let ⟨_,hn,_⟩:=I.loc;hn.lt
theorem Inv.sz (I:Inv X pins σ H s):X.s₀.heap.objs.size <= s.heap.objs.size:=Nat.le_trans I.ok.above (Nat.le_of_lt I.lt)
theorem Inv.nofs (I:Inv X pins σ H s) {a:Addr} (h:s.heap.objs.size <= a):a ∉ X.fs:=λ hb=>by
 obtain ⟨_,o,ho,_⟩:=I.ok.funs.mem hb
 exact absurd (Nat.lt_of_lt_of_le (Heap.lt_size ho) (Nat.le_trans I.sz h)) (Nat.lt_irrefl _)
theorem Inv.cne (I:Inv X pins σ H s):∀ x c,X.env.cells.lookup x=some c->c ≠ X.env.locals:=λ x c e z=>by
 obtain ⟨v,o,ho,hd⟩:=I.cell x c e
 obtain ⟨m,⟨o',es,ep,ho',hd',_⟩,_⟩:=I.loc
 rw [z,ho'] at ho;cases ho;rw [hd'] at hd;cases hd
theorem Inv.funs (I:Inv X pins σ H s):s.heap.FunFrames X.base X.outer:=by
 have all:∀ (l:List Env),(∀ b∈oQ l,b∈X.fs)->X.s₀.heap.FunFrames X.base l->s.heap.FunFrames X.base l:=by
  intro l
  induction l with
  | nil=>intro _ _;trivial
  | cons env r ih =>
   intro hs hl
   obtain ⟨hk,⟨L,o,hf,hn,ho,hd⟩,hr⟩:=hl
   have hL:L∈X.fs:=hs L (by unfold oQ;rw [List.filterMap_cons,hf];exact List.mem_cons_self)
   obtain ⟨sl,e⟩:=I.base.slot L o ho (I.ok.frf L hL) hL λ z=>I.ok.exfs L z hL
   exact ⟨hk,⟨L,_,hf,hn,e,hd⟩,ih (λ b hb=>hs b (by unfold oQ;rw [List.filterMap_cons,hf];exact List.mem_cons_of_mem _ hb)) hr⟩
 exact all X.outer (λ _ hb=>hb) I.ok.funs
theorem Inv.stack (I:Inv X pins σ H s):s.heap.FunFrames X.base X.stack:=by
 rcases I.ok.stk with e | ⟨e,hf⟩
 ·rw [e];exact I.funs
 ·rw [e]
  obtain ⟨m,hn,_⟩:=I.loc
  refine .cons (by rw [I.ok.kind];decide) hf hn ?_ I.funs
  exact Heap.get?_none_of_le (Nat.le_trans I.ok.bsz I.ok.above)
theorem Inv.stkSub (I:Inv X pins σ H s):∀ b∈oQ X.stack,b∈X.env.locals :: X.fs:=λ b hb=>by
 rcases I.ok.stk with e | ⟨e,hf⟩
 ·rw [e] at hb;exact List.mem_cons_of_mem _ hb
 ·rw [e] at hb
  unfold oQ at hb
  rw [List.filterMap_cons,hf] at hb
  exact hb
theorem Inv.stkFree (I:Inv X pins σ H s):∀ b∈oQ X.stack,H b=none:=λ b hb=>by
 rcases List.mem_cons.mp (I.stkSub b hb) with e | hb
 ·rw [e];exact I.free
 ·obtain ⟨_,o,ho,_⟩:=I.ok.funs.mem hb
  exact I.base.free b o ho (I.ok.frf b hb) λ z=>I.ok.exfs b z hb
theorem Inv.step {g':Array GenState} {t':Nat} {d':Drawn} {ch:List Addr} (I:Inv X pins σ H s)
  (hch:∀ b∈ch,(b∈X.ex \/ X.s₀.heap.get? b=none)/\b ≠ X.env.locals/\(∀ x c,X.env.cells.lookup x=some c->c ≠ b)/\∀ p∈X.pn++pins,p.1 ≠ b)
  (keep:∀ b o,b ≠ X.env.locals->b ∉ X.fs->b ∉ ch->s.heap.get? b=some o->H b=none->h'.get? b=some o)
  (slot:∀ b o,b ≠ X.env.locals->b∈X.fs->b ∉ ch->s.heap.get? b=some o->H b=none->∃ sl,h'.get? b=some { o with slots:=sl }) (free:∀ b o,b ∉ ch->s.heap.get? b=some o->H b=none->H' b=none)
  (there:∀ b o,b ∉ ch->s.heap.get? b=some o->∃ o',h'.get? b=some o')
  (tups:∀ b xs,H b=some (.tup xs)->H' b=some (.tup xs)) (frzs:∀ b o u,H b=some (.frz o u)->H' b=some (.frz o u)) (tbls:∀ b ps,H b=some (.tbl ps)->∃ more,H' b=some (.tbl (ps++more)))
  (ns:∀ m,s.heap.Ns X.env.locals m->h'.Ns X.env.locals m) (hok:nF X.prog X.w H' h') (hg:AllBare g') :
  Inv X pins σ H' { s with heap:=h',gens:=g',drawn:=d',toks:=t' }:=by
 have neL:∀ b o,X.s₀.heap.get? b=some o->b ≠ X.env.locals:=λ b o e=>Nat.ne_of_lt (Nat.lt_of_lt_of_le (Heap.lt_size e) I.ok.above)
 have neC:∀ b o,X.s₀.heap.get? b=some o->b ∉ X.ex->b ∉ ch:=λ b o e hx hb=>by
  rcases (hch b hb).1 with z | z
  ·exact hx z
  ·rw [z] at e;cases e
 have cellK:∀ x c,X.env.cells.lookup x=some c->∀ v,s.heap.IsCell c v->h'.IsCell c v:=λ x c e v ⟨o,ho,hd⟩=>by
  have nch:c ∉ ch:=λ z=>(hch c z).2.2.1 x c e rfl
  by_cases hc:c∈X.fs
  ·obtain ⟨sl,q⟩:=slot c o (I.cne x c e) hc nch ho (I.freeC x c e)
   exact ⟨_,q,hd⟩
  ·exact ⟨o,keep c o (I.cne x c e) hc nch ho (I.freeC x c e),hd⟩
 refine ⟨I.ok,I.os,hg,⟨λ b o e n hb hx=>?_,λ b o e n hb hx=>?_,λ b o e n hx=>?_,λ b o e hx=>?_,λ b xs e=>tups b xs (I.base.tups b xs e),λ b o xs e=>frzs b o xs (I.base.frzs b o xs e),λ b ps e=>?_⟩,?_,λ x c e=>?_,?_,λ x c e=>?_,λ p hp=>?_,hok,I.len,I.sgm⟩
 ·exact keep b o (neL b o e) hb (neC b o e hx) (I.base.keep b o e n hb hx) (I.base.free b o e n hx)
 ·obtain ⟨sl,e1⟩:=I.base.slot b o e n hb hx
  obtain ⟨sl',e2⟩:=slot b _ (neL b o e) hb (neC b o e hx) e1 (I.base.free b o e n hx)
  exact ⟨sl',e2⟩
 ·obtain ⟨o',e1⟩:=I.base.there b o e hx
  exact free b o' (neC b o e hx) e1 (I.base.free b o e n hx)
 ·obtain ⟨o',e1⟩:=I.base.there b o e hx
  exact there b o' (neC b o e hx) e1
 ·obtain ⟨m1,e1⟩:=I.base.tbls b ps e
  obtain ⟨m2,e2⟩:=tbls b _ e1
  exact ⟨m1++m2,by rw [e2,Array.append_assoc]⟩
 ·obtain ⟨m,hn,hl⟩:=I.loc
  refine ⟨m,ns m hn,λ i x v e1 e2 e3=>?_⟩
  obtain ⟨u,r,l⟩:=hl i x v e1 e2 e3
  refine ⟨u,r,?_⟩
  rcases l with l | ⟨k,c,e,z⟩
  ·exact .inl l
  ·exact .inr ⟨k,c,e,cellK x c e _ z⟩
 ·obtain ⟨v,z⟩:=I.cell x c e
  exact ⟨v,cellK x c e v z⟩
 ·obtain ⟨m,⟨o,_,_,ho,_⟩,_⟩:=I.loc
  exact free _ o (λ z=>(hch _ z).2.1 rfl) ho I.free
 ·obtain ⟨v,o,ho,hd⟩:=I.cell x c e
  exact free c o (λ z=>(hch c z).2.2.1 x c e rfl) ho (I.freeC x c e)
 ·obtain ⟨e,n,ne,nf,d⟩:=I.pin p hp
  have nch:p.1 ∉ ch:=λ z=>(hch p.1 z).2.2.2 p hp rfl
  exact ⟨keep p.1 p.2 ne nf nch e n,free p.1 p.2 nch e n,ne,nf,d⟩
theorem Inv.un {t':Nat} (I:Inv X pins σ H s) (u:Un X.fs [] H H' s.heap h') (hok:nF X.prog X.w H' h'):Inv X pins σ H' { s with heap:=h',toks:=t' }:=by
 obtain ⟨m,⟨o,es,ep,ho,r⟩,_⟩:=id I.loc
 obtain ⟨sl,hL⟩:=u.any ho I.free (by simp)
 exact I.step (g':=s.gens) (d':=s.drawn) (ch:=[]) (λ _ z=>nomatch z) (λ b o _ hb _ e n=>u.keep b o e n hb (by simp)) (λ b o _ hb _ e n=>u.slot b o e n hb (by simp)) (λ b o _ e n=>u.free b o e n (by simp)) (λ b o _ e=>u.there b o e (by simp)) u.tups u.frzs u.tbls (λ m' hm=>by
  obtain ⟨o',es',ep',ho',r'⟩:=hm
  rw [ho] at ho';cases ho'
  exact ⟨_,es',ep',hL,r'⟩) hok I.bare
theorem Inv.call {g':Array GenState} {t':Nat} {d':Drawn} {ch:List Addr} (I:Inv X pins σ H s) (u:Un (oQ X.stack) ch H H' s.heap h') (hok:nF X.prog X.w H' h') (hg:AllBare g')
  (hch:∀ b∈ch,(b∈X.ex \/ X.s₀.heap.get? b=none)/\b ≠ X.env.locals/\(∀ x c,X.env.cells.lookup x=some c->c ≠ b)/\∀ p∈X.pn++pins,p.1 ≠ b) :
  Inv X pins σ H' { s with heap:=h',gens:=g',drawn:=d',toks:=t' }:=by
 obtain ⟨m,⟨o,es,ep,ho,r⟩,_⟩:=id I.loc
 obtain ⟨sl,hL⟩:=u.any ho I.free λ z=>(hch _ z).2.1 rfl
 exact I.step (ch:=ch) hch (λ b o hL hb hc e n=>u.keep b o e n (λ z=>(List.mem_cons.mp (I.stkSub b z)).elim hL hb) hc) (λ b o _ _ hc e n=>u.any e n hc) (λ b o hc e n=>u.free b o e n hc) (λ b o hc e=>u.there b o e hc) u.tups u.frzs u.tbls (λ m' hm=>by
  obtain ⟨o',es',ep',ho',r'⟩:=hm
  rw [ho] at ho';cases ho'
  exact ⟨_,es',ep',hL,r'⟩) hok hg
theorem Inv.turned {t':Nat} {it:Addr} (I:Inv X pins σ H s) (k:∀ b o,b ≠ it->s.heap.get? b=some o->h'.get? b=some o) (hn:H it=none) (hL:it ≠ X.env.locals)
  (h1:it∈X.ex \/ X.s₀.heap.objs.size <= it) (h2:∀ x c,X.env.cells.lookup x=some c->c ≠ it) (h3:∀ p∈X.pn++pins,p.1 ≠ it):Inv X pins σ H { s with heap:=h',toks:=t' }:=by
 have nit:∀ b u,H b=some u->b ≠ it:=λ b u e z=>by rw [z,hn] at e;cases e
 refine I.step (g':=s.gens) (d':=s.drawn) (ch:=[it]) (λ b hb=>?_) (λ b o _ _ hc e _=>k b o (λ z=>hc (by simp [z])) e) (λ b o _ _ hc e _=>⟨o.slots,k b o (λ z=>hc (by simp [z])) e⟩) (λ _ _ _ _ n=>n)
  (λ b o hc e=>⟨o,k b o (λ z=>hc (by simp [z])) e⟩) (λ _ _ e=>e) (λ _ _ _ e=>e) (λ b ps e=>⟨#[],by rw [e];simp⟩) (λ m hm=>?_) (λ b u e=>?_) I.bare
 ·have e:b=it:=by simpa using hb
  subst e
  exact ⟨h1.imp id Heap.get?_none_of_le,hL,h2,h3⟩
 ·obtain ⟨o,es,ep,ho,r⟩:=hm
  exact ⟨o,es,ep,k _ o (Ne.symm hL) ho,r⟩
 ·refine (I.hok b u e).stay (λ c v hc q=>k c v ?_ q) (λ _ q=>q) λ _ _ q=>q
  rcases hc with z | z
  ·rw [z];exact nit b u e
  ·exact nit c _ z
theorem Inv.tok (I:Inv X pins σ H s) (t:Nat):Inv X pins σ H { s with toks:=t }:=I.un (h':=s.heap) (t':=t) Un.refl I.hok
theorem Inv.kept {t':Nat} (I:Inv X pins σ H s) (k:∀ b u,s.heap.get? b=some u->h'.get? b=some u):Inv X pins σ H { s with heap:=h',toks:=t' }:=I.un (Un.kept k) (I.hok.kept k)
theorem Inv.laid {a:Addr} {o:HO} {t':Nat} (I:Inv X pins σ H s) (k:∀ b u,s.heap.get? b=some u->h'.get? b=some u) (hp:s.heap.objs.size <= a) (new:dG X.prog X.w (upd H a o) h' a o) :
  Inv X pins σ (upd H a o) { s with heap:=h',toks:=t' }:=I.un (Un.laid k hp (I.hok.fresh hp)) (I.hok.laid k hp new)
theorem Inv.write {x e:Addr} {o:HO} {t':Nat} (I:Inv X pins σ H s) (mu:Jp (H x)) (he:e=x \/ H e=some (.own x)) (k:∀ b u,b ≠ e->s.heap.get? b=some u->h'.get? b=some u) (heo:∃ u,h'.get? e=some u)
  (new:dG X.prog X.w (upd H x o) h' x o):Inv X pins σ (upd H x o) { s with heap:=h',toks:=t' }:=I.un (Un.write mu he k heo) (I.hok.write mu he k heo new)
theorem Inv.pins_of {pins':List (Addr × Obj)} (I:Inv X pins σ H s) (h:∀ p∈pins',s.heap.get? p.1=some p.2/\H p.1=none/\p.1 ≠ X.env.locals/\p.1 ∉ X.fs/\∀ v,p.2.data ≠ .cell v) (hsg:X.sg pins' σ):Inv X pins' σ H s:=
 ⟨I.ok,I.os,I.bare,I.base,I.loc,I.cell,I.free,I.freeC,λ p hp=>(List.mem_append.mp hp).elim (λ z=>I.pin p (List.mem_append_left _ z)) (h p),I.hok,I.len,hsg⟩
theorem wU {N:List Str} (hN:N.Nodup) {i j:Nat} {x:Str} (a:N[i]?=some x) (b:N[j]?=some x):i=j:=by
 obtain ⟨h1,e1⟩:=List.getElem?_eq_some_iff.mp a
 obtain ⟨h2,e2⟩:=List.getElem?_eq_some_iff.mp b
 exact (List.getElem_inj hN).mp (e1.trans e2.symm)
theorem tL {M:Model} {A:Around} {E:Value->Shared->Prop} {i:Nat} {x:Str} {v:V} {u:Value} {Q:Unit->Shared->Prop} (I:Inv X pins σ H s) (hN:X.N.Nodup) (hi:X.N[i]?=some x) (hx:mM X.env.scope x) (r:bG v u)
  (h:∀ s',Inv X pins (σ.set i (some v)) H s'->(∃ a,Heap.SameBut a s.heap s'.heap/\(a=X.env.locals \/ X.env.cells.lookup x=some a))->Q () s') (hf:X.fn x=true \/ X.env.scope.names.lookup x=some .local) (hsg:∀ p σ v,X.sg p σ->X.sg p (σ.set i (some v))):wpAny M A (storeName X.env x u) Q E s:=by
 obtain ⟨m,hn,hl⟩:=id I.loc
 have hcls:(X.env.scope.kind == .class || (X.env.scope.kind == .module && X.env.locals != X.env.globals))=false:=by rw [I.ok.kind];rfl
 have hiσ:i < σ.length:=by rw [I.len];exact (List.getElem?_eq_some_iff.mp hi).1
 have cne:=I.cne
 have tracked:∀ {a:Addr} {h':Heap},(∃ o,s.heap.get? a=some o/\H a=none)->Heap.SameBut a s.heap h'->nF X.prog X.w H h':=λ {a h'} ha hs b ob e=>by
  obtain ⟨_,_,hfree⟩:=ha
  refine (I.hok b ob e).stay (λ c w' hc q=>(hs.2 c ?_).trans q) (λ _ q=>q) λ _ _ q=>q
  rintro rfl
  rcases hc with rfl | hc
  ·rw [hfree] at e;cases e
  ·rw [hfree] at hc;cases hc
 rcases hx with hk | hk
 ·refine wpAny_storeName_local hk hn (λ h' hn' hs=>?_) hcls
  obtain ⟨oL,_,_,hoL,_⟩:=id hn
  refine h _ ⟨I.ok,I.os,I.bare,⟨λ b o e n hb hx=>?_,λ b o e n hb hx=>?_,I.base.free,λ b o e hx=>?_,I.base.tups,I.base.frzs,I.base.tbls⟩,⟨_,hn',λ j y v' e1 e2 e3=>?_⟩,λ y c e=>?_,I.free,I.freeC,λ p hp=>?_,tracked ⟨oL,hoL,I.free⟩ hs,by simpa using I.len,hsg _ _ _ I.sgm⟩ ⟨_,hs,.inl rfl⟩
  ·exact (hs.2 b (Nat.ne_of_lt (Nat.lt_of_lt_of_le (Heap.lt_size e) I.ok.above))).trans (I.base.keep b o e n hb hx)
  ·obtain ⟨sl,e1⟩:=I.base.slot b o e n hb hx
   exact ⟨sl,(hs.2 b (Nat.ne_of_lt (Nat.lt_of_lt_of_le (Heap.lt_size e) I.ok.above))).trans e1⟩
  ·obtain ⟨o',e1⟩:=I.base.there b o e hx
   exact ⟨o',(hs.2 b (Nat.ne_of_lt (Nat.lt_of_lt_of_le (Heap.lt_size e) I.ok.above))).trans e1⟩
  ·by_cases hj:j=i
   ·subst hj
    rw [hi] at e1;cases e1
    rw [List.getElem?_set_self hiσ] at e2
    cases e2
    exact ⟨u,r,.inl ⟨hk,by simp⟩⟩
   ·rw [List.getElem?_set_ne (Ne.symm hj)] at e2
    obtain ⟨u',r',q⟩:=hl j y v' e1 e2 e3
    refine ⟨u',r',?_⟩
    rcases q with ⟨k,e⟩ | ⟨k,c,e,z⟩
    ·refine .inl ⟨k,?_⟩
     have:y ≠ x:=λ e=>hj (wU hN e1 (e ▸ hi))
     simp [this,e]
    ·exact .inr ⟨k,c,e,z.sameBut hs (cne y c e)⟩
  ·obtain ⟨w',z⟩:=I.cell y c e
   exact ⟨w',z.sameBut hs (cne y c e)⟩
  ·obtain ⟨e,n,ne,nf,d⟩:=I.pin p hp
   exact ⟨(hs.2 p.1 ne).trans e,n,ne,nf,d⟩
 ·have hfn:X.fn x=true:=by
   rcases hf with z | z
   ·exact z
   ·rw [z] at hk;cases hk
  obtain ⟨c,hc⟩:=I.ok.has x (.inl hk)
  obtain ⟨w',z⟩:=I.cell x c hc
  refine wpAny_storeName_cell I.ok.kind hk hc z (λ h' hc' hs=>?_)
  obtain ⟨oc,hoc,hocd⟩:=id z
  refine h { s with heap:=h' } ⟨I.ok,I.os,I.bare,⟨λ b o e n hb hx=>?_,λ b o e n hb hx=>?_,I.base.free,λ b o e hx=>?_,I.base.tups,I.base.frzs,I.base.tbls⟩,⟨m,hn.sameBut hs (Ne.symm (cne x c hc)),λ j y v' e1 e2 e3=>?_⟩,λ y c' e=>?_,I.free,I.freeC,λ p hp=>?_,tracked ⟨oc,hoc,I.freeC x c hc⟩ hs,by simpa using I.len,hsg _ _ _ I.sgm⟩ ⟨c,hs,.inr hc⟩
  ·exact (hs.2 b (Nat.ne_of_lt (Nat.lt_of_lt_of_le (Heap.lt_size e) (I.ok.cab x c hfn hc)))).trans (I.base.keep b o e n hb hx)
  ·obtain ⟨sl,e1⟩:=I.base.slot b o e n hb hx
   exact ⟨sl,(hs.2 b (Nat.ne_of_lt (Nat.lt_of_lt_of_le (Heap.lt_size e) (I.ok.cab x c hfn hc)))).trans e1⟩
  ·obtain ⟨o',e1⟩:=I.base.there b o e hx
   exact ⟨o',(hs.2 b (Nat.ne_of_lt (Nat.lt_of_lt_of_le (Heap.lt_size e) (I.ok.cab x c hfn hc)))).trans e1⟩
  ·by_cases hj:j=i
   ·subst hj
    rw [hi] at e1;cases e1
    rw [List.getElem?_set_self hiσ] at e2
    cases e2
    exact ⟨u,r,.inr ⟨.inl hk,c,hc,hc'⟩⟩
   ·rw [List.getElem?_set_ne (Ne.symm hj)] at e2
    obtain ⟨u',r',q⟩:=hl j y v' e1 e2 e3
    refine ⟨u',r',?_⟩
    rcases q with q | ⟨k,c',e,z'⟩
    ·exact .inl q
    ·refine .inr ⟨k,c',e,z'.sameBut hs ?_⟩
     rintro rfl
     exact hj (wU hN e1 (I.ok.inj _ _ _ e hc ▸ hi))
  ·by_cases hcc:c'=c
   ·subst hcc;exact ⟨_,hc'⟩
   ·obtain ⟨w2,z2⟩:=I.cell y c' e
    exact ⟨w2,z2.sameBut hs hcc⟩
  ·obtain ⟨e,n,ne,nf,d⟩:=I.pin p hp
   refine ⟨(hs.2 p.1 ?_).trans e,n,ne,nf,d⟩
   intro q
   rw [q,hoc] at e
   have q':oc=p.2:=Option.some.inj e
   exact d w' (by rw [<- q'];exact hocd)
theorem cD {M:Model} {A:Around} {E:Value->Shared->Prop} {i:Nat} {x:Str} {v:V} {u:Value} {Q:Unit->Shared->Prop} (I:Inv X pins σ H s) (hN:X.N.Nodup) (hi:X.N[i]?=some x) (hx:mM X.env.scope x) (r:bG v u)
  (h:∀ s',Inv X pins (σ.set i (some v)) H s'->Q () s') (hf:X.fn x=true \/ X.env.scope.names.lookup x=some .local:=by first | exact .inl rfl | exact .inr rfl | assumption) (hsg:∀ p σ v,X.sg p σ->X.sg p (σ.set i (some v)):=by first | exact λ _ _ _ _=>trivial | assumption):wpAny M A (storeName X.env x u) Q E s:=
 tL I hN hi hx r (λ s' I' _=>h s' I') hf hsg
theorem Inv.call' {s':Shared} {ch:List Addr} (I:Inv X pins σ H s) (ho:s'.os=s.os) (u:Un (oQ X.stack) ch H H' s.heap s'.heap) (hok:nF X.prog X.w H' s'.heap) (hg:AllBare s'.gens)
  (hch:∀ b∈ch,(b∈X.ex \/ X.s₀.heap.get? b=none)/\b ≠ X.env.locals/\(∀ x c,X.env.cells.lookup x=some c->c ≠ b)/\∀ p∈X.pn++pins,p.1 ≠ b):Inv X pins σ H' s':=by
 obtain ⟨h',g',d',t',o'⟩:=s'
 have e:o'=s.os:=ho
 subst e
 exact I.call (g':=g') (t':=t') (d':=d') u hok hg hch
end
noncomputable abbrev XK:=Value->Option Addr->Hp->Prop
noncomputable abbrev St:=List (Option V)
noncomputable abbrev VK:=V->Hp->Prop
noncomputable abbrev TE:=St->Hp->VK->Prop
noncomputable abbrev TT:=St->Hp->(Bool->Hp->Prop)->Prop
noncomputable abbrev TA:=St->Hp->(List V->Hp->Prop)->Prop
structure Ends where
 nx:St->Hp->Prop
 rt:VK
 bk:St->Hp->Prop:=λ _ _=>False
 ct:St->Hp->Prop:=λ _ _=>False
noncomputable abbrev TS:=Ends->St->Hp->Prop
inductive EP (X:Cx) (pins:List (Addr × Obj)) (σ:St) (Q:VK) (u:Value) (s':Shared):Prop
 | mk (v:V) (H':Hp) (I:Inv X pins σ H' s') (r:bG v u) (q:Q v H')
inductive TP (X:Cx) (pins:List (Addr × Obj)) (σ:St) (Q:Bool->Hp->Prop) (b:Bool) (s':Shared):Prop
 | mk (H':Hp) (I:Inv X pins σ H' s') (q:Q b H')
inductive AP (X:Cx) (pins:List (Addr × Obj)) (σ:St) (Q:List V->Hp->Prop) (us:List Value) (s':Shared):Prop
 | mk (vs:List V) (H':Hp) (I:Inv X pins σ H' s') (r:ba vs us) (q:Q vs H')
inductive SN (X:Cx) (pins:List (Addr × Obj)) (Q:St->Hp->Prop) (s':Shared):Prop
 | mk (σ':St) (H':Hp) (I:Inv X pins σ' H' s') (q:Q σ' H')
inductive SR (X:Cx) (pins:List (Addr × Obj)) (Q:VK) (u:Value) (s':Shared):Prop
 | mk (v:V) (σ':St) (H':Hp) (I:Inv X pins σ' H' s') (r:bG v u) (q:Q v H')
noncomputable def SP (X:Cx) (pins:List (Addr × Obj)) (D:Ends) (f:Flow) (s':Shared):Prop:=
 match f with
 | .next=>SN X pins D.nx s'
 | .brk=>SN X pins D.bk s'
 | .cont=>SN X pins D.ct s'
 | .ret u=>SR X pins D.rt u s'
noncomputable def PE (X:Cx) (e:Expr) (t:TE):Prop:=
 ∀ (pins:List (Addr × Obj)) (s:Shared) (σ:St) (H:Hp) (Q:VK),Inv X pins σ H s->t σ H Q->wpAny (model X.prog X.w) X.A (eval e X.env) (EP X pins σ Q) X.xe s
noncomputable def PT (X:Cx) (e:Expr) (t:TT):Prop:=
 ∀ (pins:List (Addr × Obj)) (s:Shared) (σ:St) (H:Hp) (Q:Bool->Hp->Prop),Inv X pins σ H s->t σ H Q->wpAny (model X.prog X.w) X.A (isTrue e X.env (eval e X.env)) (TP X pins σ Q) X.xe s
noncomputable def PW (X:Cx) (e:Expr) (t:TT):Prop:=
 ∀ (whole:Sem Value) (pins:List (Addr × Obj)) (s:Shared) (σ:St) (H:Hp) (Q:Bool->Hp->Prop),Inv X pins σ H s->t σ H Q->wpAny (model X.prog X.w) X.A (isTrue e X.env whole) (TP X pins σ Q) X.xe s
theorem PW.pt {X:Cx} {e:Expr} {t:TT} (h:PW X e t):PT X e t:=h _
noncomputable def PA (X:Cx) (es:List Expr) (t:TA):Prop:=
 ∀ (pos:Pos) (pins:List (Addr × Obj)) (s:Shared) (σ:St) (H:Hp) (Q:List V->Hp->Prop),Inv X pins σ H s->t σ H Q->wpAny (model X.prog X.w) X.A (spliced (backTo pos (starEach es X.env))) (AP X pins σ Q) X.xe s
noncomputable def PS (X:Cx) (st:Stmt) (t:TS):Prop:=
 ∀ (pins:List (Addr × Obj)) (s:Shared) (σ:St) (H:Hp) (D:Ends),Inv X pins σ H s->t D σ H->wpAny (model X.prog X.w) X.A (exec st X.env) (SP X pins D) X.xe s
noncomputable def GN (X:Cx) (st:List Stmt) (t:TS):Prop:=
 ∀ (pins:List (Addr × Obj)) (s:Shared) (σ:St) (H:Hp) (D:Ends),Inv X pins σ H s->t D σ H->wpAny (model X.prog X.w) X.A (execs st X.env) (SP X pins D) X.xe s
theorem br {α:Type} {t:Sem α} {Q Q':α->Shared->Prop} {M:Model} {A:Around} {E:Value->Shared->Prop} {s:Shared} (h:wpAny M A t Q E s) (hQ:∀ a s,Q a s->Q' a s):wpAny M A t Q' E s:=wpAny_mono h hQ λ _ _ x=>x
end L2
namespace L2
open PySem PySem.Spec PyProof.Rows
section
variable {X:Cx}
noncomputable def xI (i:Nat):TE:=λ σ H Q=>∃ v,σ[i]?=some (some v)/\Q v H
noncomputable def tC (v:V):TE:=λ _ H Q=>Q v H
theorem b0 {i:Nat} {x:Str} {pos:Pos} (hN:X.N[i]?=some x) (hv:kT X.env.scope x) (hd:(x == ("__debug__" : Str))=false:=by decide) (hcd:(x == ("__classdict__" : Str))=false:=by decide):PE X (.Name x pos) (xI i):=by
 intro pins s σ H Q I h
 obtain ⟨v,e,h⟩:=h
 obtain ⟨m,hn,hl⟩:=I.loc
 obtain ⟨u,r,l⟩:=hl i x v hN e hv
 have fin:EP X pins σ Q u s:=⟨v,H,I,r,h⟩
 rcases l with ⟨hk,hm⟩ | ⟨hk,c,hc,hcell⟩
 ·exact wpAny_Name (wpAny_loadName_local I.ok.kind hk hn hm fin) hd
 ·rcases hk with hk | hk
  ·exact wpAny_Name (wpAny_loadName_cell I.ok.kind hk hc hcell fin) hd
  ·exact wpAny_Name (wpAny_loadName_free I.ok.kind hk hc hcell fin hcd) hd
theorem o3 {i j pos}:PE X (.Constant (.int i) j pos) (tC (.int i)):=λ _ _ _ H _ I h=>wpAny_Constant_int ⟨.int i,H,I.tok _,⟨_,rfl⟩,h⟩
theorem Gy {b j pos}:PE X (.Constant (.bool b) j pos) (tC (.bl b)):=λ _ _ _ H _ I h=>Constant_bool ⟨.bl b,H,I,rfl,h⟩
theorem HG {j pos}:PE X (.Constant .none j pos) (tC .non):=λ _ _ _ H _ I h=>Constant_none ⟨.non,H,I,rfl,h⟩
noncomputable def Gl (X:Cx) (x:Str):Prop:=X.env.kindOf x=some .globalImplicit
theorem zw {E:Value->Shared->Prop} {pins:List (Addr × Obj)} {s:Shared} {σ:St} {H:Hp} {x:Str} {u:Value} {pos:Pos} {Q:Value->Shared->Prop} (I:Inv X pins σ H s) (hg:Gl X x) (hm:X.mg x=some u) (h:Q u s)
  (hd:(x == ("__debug__" : Str))=false:=by decide):wpAny (model X.prog X.w) X.A (eval (.Name x pos) X.env) Q E s:=
 Calls.Name_function_global I.ok.kind hg (Calls.loadGlobal_global (by rw [I.ok.glob];exact I.mod.glob.keeps I.bk) hm h) hd
theorem gM {E:Value->Shared->Prop} {pins:List (Addr × Obj)} {s:Shared} {σ:St} {H:Hp} {x:Str} {u:Value} {pos:Pos} {Q:Value->Shared->Prop} (I:Inv X pins σ H s) (hg:Gl X x) (hm:X.mg x=none) (hv:bootBuiltins x=some u) (h:Q u s)
  (hn:x ≠ "__name__":=by decide) (hd:(x == ("__debug__" : Str))=false:=by decide):wpAny (model X.prog X.w) X.A (eval (.Name x pos) X.env) Q E s:=by
 obtain ⟨mb,h1,h2⟩:=I.mod.blt
 exact Calls.Name_function_global I.ok.kind hg (Calls.loadGlobal_builtin (by rw [I.ok.glob];exact I.mod.glob.keeps I.bk) hm (by rw [I.ok.blt];exact h1.keeps I.bk) ((h2 x hn).trans hv) h) hd
theorem E5 {x:Str} {v:V} {u:Value} {pos:Pos} (hg:Gl X x) (hm:X.mg x=none) (hv:bootBuiltins x=some u) (r:bG v u) (hn:x ≠ "__name__":=by decide) (hd:(x == ("__debug__" : Str))=false:=by decide):PE X (.Name x pos) (tC v):=
 λ _ _ _ H _ I h=>gM I hg hm hv ⟨v,H,I,r,h⟩ hn hd
variable {a b:Expr} {ta tb:TE} {pos:Pos}
variable {tA tB':TT} {aG:List Expr}
noncomputable def Lq (t u:TT):TT:=λ σ H Q=>t σ H λ c H1=>if c=true then u σ H1 Q else Q false H1
noncomputable def LP (t u:TT):TT:=λ σ H Q=>t σ H λ c H1=>if c=true then Q true H1 else u σ H1 Q
noncomputable def Ls (t:TT):TT:=λ σ H Q=>t σ H λ c H1=>Q (!c) H1
theorem Fo (ha:PT X a tA):PW X (.BoolOp .And [a] pos) tA:=by
 intro wh pins s σ H Q I h
 refine isTrue_and (br (ha pins s σ H Q I h) λ c s1 e=>?_)
 cases c with
 | true=>exact isTrue_and_nil e
 | false=>exact e
theorem HY (ha:PT X a tA):PW X (.BoolOp .Or [a] pos) tA:=by
 intro wh pins s σ H Q I h
 refine isTrue_or (br (ha pins s σ H Q I h) λ c s1 e=>?_)
 cases c with
 | false=>exact isTrue_or_nil e
 | true=>exact e
theorem HX (ha:PT X a tA) (hb:PW X (.BoolOp .And (b :: aG) pos) tB'):PW X (.BoolOp .And (a :: b :: aG) pos) (Lq tA tB'):=by
 intro wh pins s σ H Q I h
 refine isTrue_and (br (ha pins s σ H _ I h) λ c s1 ⟨H1,I1,q1⟩=>?_)
 cases c with
 | true=>exact hb wh pins s1 σ H1 Q I1 q1
 | false=>exact ⟨H1,I1,q1⟩
theorem JT (ha:PT X a tA) (hb:PW X (.BoolOp .Or (b :: aG) pos) tB'):PW X (.BoolOp .Or (a :: b :: aG) pos) (LP tA tB'):=by
 intro wh pins s σ H Q I h
 refine isTrue_or (br (ha pins s σ H _ I h) λ c s1 ⟨H1,I1,q1⟩=>?_)
 cases c with
 | true=>exact ⟨H1,I1,q1⟩
 | false=>exact hb wh pins s1 σ H1 Q I1 q1
theorem HV (ha:PT X a tA):PT X (.UnaryOp .Not a pos) (Ls tA):=by
 intro pins s σ H Q I h
 exact isTrue_not (br (ha pins s σ H (λ c H1=>Q (!c) H1) I h) λ _ _ ⟨H1,I1,q1⟩=>⟨H1,I1,q1⟩)
noncomputable def J9 (ta tb:TE):TE:=λ σ H Q=>ta σ H λ x H1=>∃ c,x=.bl c/\if c=true then tb σ H1 Q else Q (.bl false) H1
noncomputable def Kd (ta:TE):TE:=λ σ H Q=>ta σ H λ x H1=>∃ c,x=.bl c/\Q (.bl (!c)) H1
theorem HI {op} {t:TE} (h:PE X a t):PE X (.BoolOp op [a] pos) t:=λ pins s σ H Q I hw=>BoolOp_one (h pins s σ H Q I hw)
theorem HF (ha:PE X a ta) (hb:PE X (.BoolOp .And (b :: aG) pos) tb):PE X (.BoolOp .And (a :: b :: aG) pos) (J9 ta tb):=by
 intro pins s σ H Q I h
 refine BoolOp_and (br (ha pins s σ H _ I h) λ v s1 ⟨x,H1,I1,r1,q1⟩=>?_)
 obtain ⟨c,rfl,q1⟩:=q1
 cases r1
 refine wpAny_truthy_bool ?_
 cases c with
 | true=>exact hb pins s1 σ H1 Q I1 q1
 | false=>exact ⟨.bl false,H1,I1,rfl,q1⟩
theorem HH (ha:PE X a ta):PE X (.UnaryOp .Not a pos) (Kd ta):=by
 intro pins s σ H Q I h
 refine UnaryOp_ (br (ha pins s σ H _ I h) λ v s1 ⟨x,H1,I1,r1,q1⟩=>?_)
 obtain ⟨c,rfl,q1⟩:=q1
 cases r1
 exact not_of (wpAny_truthy_bool ⟨.bl (!c),H1,I1,rfl,q1⟩)
noncomputable def LO (t:TT) (ta tb:TE):TE:=λ σ H Q=>t σ H λ c H1=>if c=true then ta σ H1 Q else tb σ H1 Q
theorem CS {c:Expr} (hc:PT X c tA) (ha:PE X a ta) (hb:PE X b tb):PE X (.IfExp c a b pos) (LO tA ta tb):=by
 intro pins s σ H Q I h
 refine wpAny_IfExp (br (hc pins s σ H _ I h) λ d s1 ⟨H1,I1,q1⟩=>?_)
 cases d with
 | true=>exact ha pins s1 σ H1 Q I1 q1
 | false=>exact hb pins s1 σ H1 Q I1 q1
end
end L2
namespace L2
open PySem PySem.Spec PyProof.Rows
noncomputable def bz (K:PySem.W.Frag) (H:Hp) (a:Addr) (xs:List V):Prop:=
 Rd H a (.lst xs) ∨
  ∃ (o:Obj) (its:Array Value) (n:Nat),K.lookup a=some o/\o.cls=.type "list"/\(o.dict=none/\o.slots = #[])/\o.data=.seq its n/\its.size <= sizeLine/\ba xs its.toList
noncomputable def mS (K:PySem.W.Frag) (H:Hp) (a:Addr) (xs:List V):Prop:=
 Rd H a (.tup xs) ∨
  ∃ (o:Obj) (its:Array Value) (n:Nat),K.lookup a=some o/\o.cls=.type "tuple"/\o.data=.seq its n/\its.size <= sizeLine/\ba xs its.toList
noncomputable def KQ:Value->Option V
 | .none=>some .non
 | .bool b=>some (.bl b)
 | .int i _=>some (.int i)
 | .str x _=>some (.str x)
 | .bytes b _=>some (.byt b)
 | .float b _=>some (.flt b)
 | .ref a=>some (.ref a)
 | .type n=>some (.ty n)
 | _=>none
theorem bG.abs {x:V} {u:Value} (r:bG x u):KQ u=some x:=by
 cases x with
 | non=>cases r;rfl
 | bl _=>cases r;rfl
 | int _=>obtain ⟨t,rfl⟩:=r;rfl
 | str _=>obtain ⟨t,rfl⟩:=r;rfl
 | byt _=>obtain ⟨t,rfl⟩:=r;rfl
 | flt _=>obtain ⟨t,rfl⟩:=r;rfl
 | ref _=>cases r;rfl
 | ty _=>cases r;rfl
theorem bG.inj {x y:V} {u:Value} (r:bG x u) (q:bG y u):x=y:=Option.some.inj (r.abs.symm.trans q.abs)
theorem ba.inj:∀ {xs ys:List V} {us:List Value},ba xs us->ba ys us->xs=ys
 | _,_,_,.nil,.nil=>rfl
 | _,_,_,.cons r t,.cons r' t'=>by rw [r.inj r',ba.inj t t']
section
variable {X:Cx} {pins:List (Addr × Obj)} {σ:St} {H:Hp} {s:Shared} {a:Addr} {xs ys:List V}
theorem bz.of {K:PySem.W.Frag} (h:H a=some (.lst xs)):bz K H a xs:=.inl (.inl h)
theorem mS.of {K:PySem.W.Frag} (h:H a=some (.tup xs)):mS K H a xs:=.inl (.inl h)
theorem Inv.list (I:Inv X pins σ H s) (h:bz X.K H a xs):∃ its:List Value,ba xs its/\PlainL s.heap a its.toArray/\xs.length <= sizeLine:=by
 rcases h with h | ⟨o,its,n,hk,hc,hd,hs,hz,r⟩
 ·obtain ⟨z,its,n,r,e⟩:=h.ok I.hok
  exact ⟨its,r,⟨_,n,e,rfl,rfl,rfl⟩,z⟩
 ·refine ⟨its.toList,r,⟨o,n,I.kIn a o hk,hc,hd.1,by simpa using hs⟩,?_⟩
  have e:=r.length
  simp only [Array.length_toList] at e
  omega
theorem Inv.tuple (I:Inv X pins σ H s) (h:mS X.K H a xs):∃ its:List Value,ba xs its/\IsTup s.heap a its.toArray/\xs.length <= sizeLine:=by
 rcases h with h | ⟨o,its,n,hk,hc,hs,hz,r⟩
 ·obtain ⟨z,its,r,p⟩:=h.ok I.hok
  exact ⟨its,r,p,z⟩
 ·refine ⟨its.toList,r,⟨o,I.kIn a o hk,hc,n,by simpa using hs⟩,?_⟩
  have e:=r.length
  simp only [Array.length_toList] at e
  omega
theorem Inv.list_inj (I:Inv X pins σ H s) (h:bz X.K H a xs) (h':bz X.K H a ys):xs=ys:=by
 obtain ⟨its,r,⟨o,n,e,_,_,d⟩,_⟩:=I.list h
 obtain ⟨its',r',⟨o',n',e',_,_,d'⟩,_⟩:=I.list h'
 rw [e] at e';cases e'
 rw [d] at d'
 injection d' with d1 _
 have:its=its':=by simpa using congrArg Array.toList d1
 subst this
 exact r.inj r'
theorem Inv.tuple_inj (I:Inv X pins σ H s) (h:mS X.K H a xs) (h':mS X.K H a ys):xs=ys:=by
 obtain ⟨its,r,⟨o,e,_,n,d⟩,_⟩:=I.tuple h
 obtain ⟨its',r',⟨o',e',_,n',d'⟩,_⟩:=I.tuple h'
 rw [e] at e';cases e'
 rw [d] at d'
 injection d' with d1 _
 have:its=its':=by simpa using congrArg Array.toList d1
 subst this
 exact r.inj r'
end
noncomputable abbrev Cx.wish (X:Cx) (E:Value->Shared->Prop):Cx:={ X with xe:=E }
theorem Cx.Ok.unwish {X:Cx} {E:Value->Shared->Prop} (ok:(X.wish E).Ok):X.Ok:=
 ⟨ok.mod,ok.kind,ok.glob,ok.blt,ok.above,ok.inj,ok.has,ok.cab,ok.hd,ok.frames,ok.stk,ok.exf,ok.bs,ok.bsz,ok.noex,ok.exfs,ok.funs,ok.frf⟩
section
variable {X:Cx} {pins:List (Addr × Obj)} {σ:St} {H:Hp} {s:Shared} {E:Value->Shared->Prop}
theorem Inv.unwish (I:Inv (X.wish E) pins σ H s):Inv X pins σ H s:=⟨I.ok.unwish,I.os,I.bare,I.base,I.loc,I.cell,I.free,I.freeC,I.pin,I.hok,I.len,I.sgm⟩
end
section
variable {X:Cx} {st:Stmt} {aG:List Stmt} {t u:TS} {e:Expr} {te:TE} {pos:Pos}
noncomputable def IY (t u:TS):TS:=λ D σ H=>t { D with nx:=u D } σ H
theorem xk (h1:PS X st t) (h2:GN X aG u):GN X (st :: aG) (IY t u):=by
 intro pins s σ H D I h
 refine wpAny_execs_cons (br (h1 pins s σ H { D with nx:=u D } I h) λ f s1 q=>?_)
 cases f with
 | next =>
  obtain ⟨σ',H',I',q⟩:=q
  exact h2 pins s1 σ' H' D I' q
 | ret v=>exact q
 | brk=>exact q
 | cont=>exact q
theorem vq (h1:PS X st t):GN X [st] t:=by
 intro pins s σ H D I h
 refine wpAny_execs_cons (br (h1 pins s σ H D I h) λ f s1 q=>?_)
 cases f with
 | next=>exact wpAny_execs_nil q
 | ret v=>exact q
 | brk=>exact q
 | cont=>exact q
theorem Inv.quiet {pins:List (Addr × Obj)} {σ:St} {H:Hp} {s:Shared} (I:Inv X pins σ H s):interactive X.env=false:=by simp [interactive,I.ok.kind]
noncomputable def tP (te:TE):TS:=λ D σ H=>te σ H λ _ H1=>D.nx σ H1
theorem vo (he:PE X e te) (hs:swapsWith e none pos.line X.env=pure false:=by rfl):PS X (.Expr e pos) (tP te):=by
 intro pins s σ H D I h
 exact wpAny_Expr_any (br (he pins s σ H _ I h) λ v s1 ⟨x,H1,I1,r1,q1⟩=>⟨σ,H1,I1,q1⟩) I.quiet hs
end
noncomputable abbrev TG:=V->St->Hp->(St->Hp->Prop)->Prop
noncomputable abbrev BG:=List V->St->Hp->(St->Hp->Prop)->Prop
noncomputable def PG (X:Cx) (target:Expr) (t:TG):Prop:=
 ∀ (pins:List (Addr × Obj)) (s:Shared) (σ:St) (H:Hp) (v:V) (u:Value) (Q:St->Hp->Prop),Inv X pins σ H s->bG v u->t v σ H Q →
  wpAny (model X.prog X.w) X.A (assign target X.env u) (λ _ s'=>SN X pins Q s') X.xe s
noncomputable def Gk (X:Cx) (ts:List Expr) (t:BG):Prop:=
 ∀ (pins:List (Addr × Obj)) (s:Shared) (σ:St) (H:Hp) (vs:List V) (us:List Value) (Q:St->Hp->Prop),Inv X pins σ H s->ba vs us->t vs σ H Q →
  wpAny (model X.prog X.w) X.A (assignInOrder ((assignEach ts X.env).map (·.2)) us) (λ _ s'=>SN X pins Q s') X.xe s
inductive HN (X:Cx) (pins:List (Addr × Obj)) (σ:St) (Q:Hp->Prop) (s':Shared):Prop
 | mk (H':Hp) (I:Inv X pins σ H' s') (q:Q H')
noncomputable abbrev LB:=V->V->Hp->VK->Prop
noncomputable def Kw (X:Cx) (op:Operator) (t:LB):Prop:=
 ∀ (pins:List (Addr × Obj)) (s:Shared) (σ:St) (H:Hp) (x y:V) (v u:Value) (Q:VK),Inv X pins σ H s->bG x v->bG y u->t x y H Q →
  wpAny (model X.prog X.w) X.A (inplaceOp op v u) (EP X pins σ Q) X.xe s
section
variable {X:Cx} {pos:Pos}
noncomputable def Ce (i:Nat):TG:=λ v σ H Q=>Q (σ.set i (some v)) H
theorem qr {i:Nat} {x:Str} (hN:X.N.Nodup) (hi:X.N[i]?=some x) (hx:mM X.env.scope x) (hf:X.fn x=true \/ X.env.scope.names.lookup x=some .local:=by first | exact .inl rfl | exact .inr rfl | assumption) (hsg:∀ p σ v,X.sg p σ->X.sg p (σ.set i (some v)):=by first | exact λ _ _ _ _=>trivial | assumption):PG X (.Name x pos) (Ce i):=by
 intro pins s σ H v u Q I r h
 exact wpAny_assign_Name (cD I hN hi hx r (λ s' I'=>⟨_,H,I',h⟩) hf)
noncomputable def K4:BG:=λ vs σ H Q=>vs=[]/\Q σ H
noncomputable def JC (t:TG) (u:BG):BG:=λ vs σ H Q=>∃ v r,vs=v :: r/\t v σ H λ σ' H'=>u r σ' H' Q
theorem E8:Gk X [] K4:=by
 intro pins s σ H vs us Q I r h
 obtain ⟨e,h⟩:=h
 subst e
 cases r
 exact assignInOrder_nil ⟨σ,H,I,h⟩
theorem CV {e:Expr} {es:List Expr} {t:TG} {u:BG} (h1:PG X e t) (h2:Gk X es u)
  (hs:(assignEach (e :: es) X.env).map (·.2)=assign e X.env :: (assignEach es X.env).map (·.2):=by rfl):Gk X (e :: es) (JC t u):=by
 intro pins s σ H vs us Q I r h
 obtain ⟨v,vr,e1,h⟩:=h
 subst e1
 cases r with
 | cons r rr =>
  rw [hs]
  refine assignInOrder_cons (br (h1 pins s σ H _ _ _ I r h) λ _ s1 ⟨σ1,H1,I1,q1⟩=>?_)
  exact h2 pins s1 σ1 H1 _ _ Q I1 rr q1
noncomputable def K5 (K:PySem.W.Frag) (n:Nat) (t:BG):TG:=λ v σ H Q=>∃ a xs,v=.ref a/\mS K H a xs/\xs.length=n/\t xs σ H Q
theorem HL {es:List Expr} {k:Nat} {t:BG} {n:Nat} (hc:X.calm=true) (h:Gk X es t)
  (hn:(assignEach es X.env).length=n:=by rfl) (hst:(assignEach es X.env).findIdx? (·.1)=none:=by rfl):PG X (.Tuple es k pos) (K5 X.K n t):=by
 intro pins s σ H v u Q I r hw
 obtain ⟨a,xs,e1,hq,hl,hw⟩:=hw
 subst e1
 cases r
 obtain ⟨its,rv,ht,hz⟩:=I.tuple hq
 refine assign_Tuple_tuple (I.ok.hd hc) ht (by simp [hn,<- hl,rv.length]) hst λ h' hx=>?_
 have I1:Inv X pins σ H { s with heap:=h' }:=I.kept (t':=s.toks) λ b o e=>hx b o (Nat.ne_of_lt (Heap.lt_size e)) e
 exact h pins _ σ H xs _ Q I1 (by simpa using rv) hw
noncomputable def Lr (te:TE) (g:TG):TS:=λ D σ H=>te σ H λ x H1=>g x σ H1 D.nx
theorem HU {i:Nat} {x:Str} {e:Expr} {te:TE} {pos':Pos} (hN:X.N.Nodup) (hi:X.N[i]?=some x) (hx:mM X.env.scope x) (he:PE X e te) (hs:swapsWith e (some (.Name x pos')) pos.line X.env=pure false:=by rfl) (hf:X.fn x=true \/ X.env.scope.names.lookup x=some .local:=by first | exact .inl rfl | exact .inr rfl | assumption) (hsg:∀ p σ v,X.sg p σ->X.sg p (σ.set i (some v)):=by first | exact λ _ _ _ _=>trivial | assumption) :
  PS X (.Assign [.Name x pos'] e pos) (Lr te (Ce i)):=by
 intro pins s σ H D I h
 refine wpAny_Assign_Name (br (he pins s σ H _ I h) λ v s1 ⟨y,H1,I1,r1,q1⟩=>?_) hs
 exact cD I1 hN hi hx r1 (λ s2 I2=>⟨_,H1,I2,q1⟩) hf
noncomputable def Ky (f:Int->Int->Int):LB:=λ x y H Q=>∃ i j,x=.int i/\y=.int j/\Q (.int (f i j)) H
theorem Hh:Kw X .Add (Ky λ i j=>i + j):=by
 intro pins s σ H x y v u Q I r1 r2 h
 obtain ⟨i,j,e1,e2,q⟩:=h
 subst e1;subst e2
 obtain ⟨t,rfl⟩:=r1
 obtain ⟨t',rfl⟩:=r2
 exact iadd_int ⟨.int _,H,I.tok _,⟨_,rfl⟩,q⟩
theorem Hi:Kw X .Sub (Ky λ i j=>i - j):=by
 intro pins s σ H x y v u Q I r1 r2 h
 obtain ⟨i,j,e1,e2,q⟩:=h
 subst e1;subst e2
 obtain ⟨t,rfl⟩:=r1
 obtain ⟨t',rfl⟩:=r2
 exact isub_int ⟨.int _,H,I.tok _,⟨_,rfl⟩,q⟩
end
section
variable {X:Cx} {pos:Pos}
end
structure It where
 go:Nat->Hp->Prop
 yld:Nat->Hp->V->Hp->Prop
 stop:Nat->Hp->Prop
noncomputable def uc (X:Cx) (pins:List (Addr × Obj)) (H:Hp) (b:Addr):Prop:=
 H b=none/\b ≠ X.env.locals/\b ∉ X.fs/\(b∈X.ex \/ X.s₀.heap.objs.size <= b)/\(∀ x c,X.env.cells.lookup x=some c->c ≠ b)/\∀ p∈X.pn++pins,p.1 ≠ b
theorem Inv.fpOk {X:Cx} {pins:List (Addr × Obj)} {σ:St} {H H':Hp} {s:Shared} {b:Addr} (I:Inv X pins σ H s) (hb:s.heap.objs.size <= b) (hn:H' b=none):uc X pins H' b:=by
 refine ⟨hn,Nat.ne_of_gt (Nat.lt_of_lt_of_le I.lt hb),I.nofs hb,.inr (Nat.le_trans I.sz hb),λ x c e z=>?_,λ p hp z=>?_⟩
 ·obtain ⟨v,q⟩:=I.cell x c e
  exact absurd (Nat.lt_of_lt_of_le q.lt (by rw [z];exact hb)) (Nat.lt_irrefl _)
 ·exact absurd (Nat.lt_of_lt_of_le (Heap.lt_size (I.pin p hp).1) (by rw [z];exact hb)) (Nat.lt_irrefl _)
inductive YI (X:Cx) (pins:List (Addr × Obj)) (σ:St) (y:V->Hp->Prop) (tn:Heap->Prop) (fp:List Addr) (u:Value) (s2:Shared):Prop
 | mk (x:V) (H':Hp) (I:Inv X pins σ H' s2) (r:bG x u) (y:y x H') (t:tn s2.heap) (f:∀ b∈fp,H' b=none)
structure Turn (P:Program) (w:World) (K:PySem.W.Frag) (tg:Expr) (J:It) (fp:List Addr) (it:Addr) (tn:Nat->Heap->Prop):Prop where
 mem:it∈fp
 obj:∀ i h,tn i h->∀ b∈fp,∃ o,h.get? b=some o/\∀ v,o.data ≠ .cell v
 keep:∀ i h h',tn i h->(∀ b∈fp,∀ o,h.get? b=some o->h'.get? b=some o)->tn i h'
 item:∀ (X:Cx),X.prog=P->X.w=w->X.K=K->X.calm=true->∀ (i:Nat) (pins:List (Addr × Obj)) (s:Shared) (σ:St) (H:Hp) (E:Value->Shared->Prop),Inv X pins σ H s->(∀ b∈fp,uc X pins H b)->tn i s.heap->J.go i H →
  wpAny (model P w) X.A (pyNext (.ref it)) (λ r s1=>∃ u,r=some u ∧
   wpAny (model P w) X.A (letOwnedTupleGo tg (.ref it) u) (λ _ s2=>YI X pins σ (J.yld i H) (tn (i + 1)) fp u s2) E s1) E s
 done:∀ (X:Cx),X.prog=P->X.w=w->X.K=K->X.calm=true->∀ (i:Nat) (pins:List (Addr × Obj)) (s:Shared) (σ:St) (H:Hp) (E:Value->Shared->Prop),Inv X pins σ H s->(∀ b∈fp,uc X pins H b)->tn i s.heap->J.stop i H →
  wpAny (model P w) X.A (pyNext (.ref it)) (λ r s1=>r=none/\Inv X pins σ H s1) E s
 self:∀ (A:Around) (i:Nat) (s:Shared) (Q:Value->Shared->Prop) (E:Value->Shared->Prop),tn i s.heap->Q (.ref it) s->wpAny (model P w) A (pyIter (.ref it)) Q E s
noncomputable abbrev TI:=St->Hp->(It->Hp->Prop)->Prop
inductive PIE (X:Cx) (pins:List (Addr × Obj)) (σ:St) (tg:Expr) (R:It->Hp->Prop) (itv:Value) (s2:Shared):Prop
 | mk (it:Addr) (fp:List Addr) (tn:Nat->Heap->Prop) (J:It) (H':Hp) (e:itv=.ref it) (I:Inv X pins σ H' s2) (T:Turn X.prog X.w X.K tg J fp it tn) (t:tn 0 s2.heap) (f:∀ b∈fp,uc X pins H' b) (r:R J H')
noncomputable def PI (X:Cx) (tg iter:Expr) (wi:TI):Prop:=
 ∀ (pins:List (Addr × Obj)) (s:Shared) (σ:St) (H:Hp) (R:It->Hp->Prop),Inv X pins σ H s->wi σ H R →
  wpAny (model X.prog X.w) X.A (eval iter X.env) (λ v s1=>wpAny (model X.prog X.w) X.A (pyIter v) (PIE X pins σ tg R) X.xe s1) X.xe s
theorem zt {M:Model} {A:Around} {E:Value->Shared->Prop} {s:Shared} {tg:Expr} {it:Addr} {u:Value} {o:Obj} {n:String} {vs:Array Value} {Q:Unit->Shared->Prop} (ho:s.heap.get? it=some o) (hc:o.cls=.type n) (hd:o.data=.fields vs)
    (hn:["enumerate", "zip", "dict_itemiterator", "dict_reverseitemiterator", "odict_iterator", "itertools.zip_longest", "itertools.pairwise"].contains n=false) (hQ:Q () s):wpAny M A (letOwnedTupleGo tg (.ref it) u) Q E s:=by
  unfold letOwnedTupleGo
  cases tg <;> first
    | exact wpAny_pure hQ
    | (cases u <;> first
        | exact wpAny_pure hQ
        | (refine wpAny_bind (wpAny_load ho ?_)
           rw [hc,hd]
           show wpAny M A (if (["enumerate", "zip", "dict_itemiterator", "dict_reverseitemiterator", "odict_iterator", "itertools.zip_longest", "itertools.pairwise"].contains n && vs[0]? == some (rawInt _))=true then _ else _) Q E s
           rw [if_neg (by intro h;rw [hn,Bool.false_and] at h;cases h)]
           exact wpAny_pure hQ))
noncomputable def Jg (K:PySem.W.Frag) (a:Addr):It:=
 ⟨λ i H=>∃ xs x,bz K H a xs/\xs[i]?=some x,λ i H x H'=>H'=H/\∀ xs,bz K H a xs->xs[i]?=some x,λ i H=>∃ xs,bz K H a xs/\xs.length <= i⟩
noncomputable def KG (K:PySem.W.Frag) (a:Addr):It:=
 ⟨λ i H=>∃ xs x,mS K H a xs/\xs[i]?=some x,λ i H x H'=>H'=H/\∀ xs,mS K H a xs->xs[i]?=some x,λ i H=>∃ xs,mS K H a xs/\xs.length <= i⟩
noncomputable def GK (lo:Int) (n:Nat):It:=⟨λ i _=>i < n,λ i H x H'=>H'=H/\x=.int (lo + i),λ i _=>n <= i⟩
theorem tR {P:Program} {w:World} {K:PySem.W.Frag} {tg:Expr} (a it:Addr):Turn P w K tg (Jg K a) [it] it (λ i h=>h.IsListIter it a i) where
 mem:=by simp
 obj:=λ i h st b hb=>by
  have e:b=it:=by simpa using hb
  subst e
  obtain ⟨o,e,c,d⟩:=st
  exact ⟨o,e,λ v z=>by rw [d] at z;cases z⟩
 keep:=λ i h h' st k=>st.at λ o e=>k it (by simp) o e
 item:=by
  intro X hP hw hK hc i pins s σ H E I hf st hg
  subst hP hw hK
  obtain ⟨xs,x,hq,hx⟩:=hg
  obtain ⟨its,rv,p,hz⟩:=I.list hq
  obtain ⟨u,hu,ru⟩:=rv.get hx
  obtain ⟨f0,f1,f2,f3,f4,f5⟩:=hf it (by simp)
  refine wpAny_pyNext_list_item st p.isList (x:=u) (by simpa using hu) λ h' st' sb=>?_
  have I1:Inv X pins σ H { s with heap:=h' }:=I.turned (t':=s.toks) (λ b o hb e=>(sb.2 b hb).trans e) f0 f1 f3 f4 f5
  obtain ⟨o,e,c,d⟩:=id st'
  exact ⟨u,rfl,zt (s:={ s with heap:=h' }) e c d (by decide) ⟨x,H,I1,ru,⟨rfl,λ ys hy=>by rw [I.list_inj hy hq];exact hx⟩,st',λ b hb=>(hf b hb).1⟩⟩
 done:=by
  intro X hP hw hK hc i pins s σ H E I hf st hg
  subst hP hw hK
  obtain ⟨xs,hq,hx⟩:=hg
  obtain ⟨its,rv,p,hz⟩:=I.list hq
  obtain ⟨f0,f1,f2,f3,f4,f5⟩:=hf it (by simp)
  have hl:=rv.length
  exact wpAny_pyNext_list_end (I.ok.hd hc) st p.isList (by simp;omega) λ h' eb=>⟨rfl,I.turned (t':=s.toks) (λ b o hb e=>eb b o hb e) f0 f1 f3 f4 f5⟩
 self:=λ _ _ _ _ _ st h=>wpAny_pyIter_listiter st h
theorem rV {P:Program} {w:World} {K:PySem.W.Frag} {tg:Expr} (a it:Addr):Turn P w K tg (KG K a) [it] it (λ i h=>h.IsTupleIter it a i) where
 mem:=by simp
 obj:=λ i h st b hb=>by
  have e:b=it:=by simpa using hb
  subst e
  obtain ⟨o,e,c,d⟩:=st
  exact ⟨o,e,λ v z=>by rw [d] at z;cases z⟩
 keep:=λ i h h' st k=>st.at λ o e=>k it (by simp) o e
 item:=by
  intro X hP hw hK hc i pins s σ H E I hf st hg
  subst hP hw hK
  obtain ⟨xs,x,hq,hx⟩:=hg
  obtain ⟨its,rv,p,hz⟩:=I.tuple hq
  obtain ⟨u,hu,ru⟩:=rv.get hx
  obtain ⟨f0,f1,f2,f3,f4,f5⟩:=hf it (by simp)
  refine wpAny_pyNext_tuple_item st (show s.heap.IsTuple a its.toArray from p) (x:=u) (by simpa using hu) λ h' st' sb=>?_
  have I1:Inv X pins σ H { s with heap:=h' }:=I.turned (t':=s.toks) (λ b o hb e=>(sb.2 b hb).trans e) f0 f1 f3 f4 f5
  obtain ⟨o,e,c,d⟩:=id st'
  exact ⟨u,rfl,zt (s:={ s with heap:=h' }) e c d (by decide) ⟨x,H,I1,ru,⟨rfl,λ ys hy=>by rw [I.tuple_inj hy hq];exact hx⟩,st',λ b hb=>(hf b hb).1⟩⟩
 done:=by
  intro X hP hw hK hc i pins s σ H E I hf st hg
  subst hP hw hK
  obtain ⟨xs,hq,hx⟩:=hg
  obtain ⟨its,rv,p,hz⟩:=I.tuple hq
  obtain ⟨f0,f1,f2,f3,f4,f5⟩:=hf it (by simp)
  have hl:=rv.length
  exact wpAny_pyNext_tuple_end (I.ok.hd hc) st (show s.heap.IsTuple a its.toArray from p) (by simp;omega) λ h' eb=>⟨rfl,I.turned (t':=s.toks) (λ b o hb e=>eb b o hb e) f0 f1 f3 f4 f5⟩
 self:=λ _ _ _ _ _ st h=>wpAny_pyIter_tupleiter st h
theorem rT {P:Program} {w:World} {K:PySem.W.Frag} {tg:Expr} (it:Addr) (lo:Int) (n:Nat):Turn P w K tg (GK lo n) [it] it (λ i h=>IsRangeIter h it (lo + (i:Nat) * 1) ((n:Int) - (i:Nat)) 1) where
 mem:=by simp
 obj:=λ i h st b hb=>by
  have e:b=it:=by simpa using hb
  subst e
  exact ⟨_,st,λ v z=>by
   have z':Data.fields _=Data.cell v:=z
   cases z'⟩
 keep:=λ i h h' st k=>k it (by simp) _ st
 item:=by
  intro X hP hw hK hc i pins s σ H E I hf st hg
  subst hP hw hK
  obtain ⟨f0,f1,f2,f3,f4,f5⟩:=hf it (by simp)
  have W:=Walks.range (prog:=X.prog) (w:=X.w) (I.ok.hd hc) it lo 1 n
  refine W.item i s _ _ hg st λ v h' tk hv st' kk=>?_
  obtain ⟨t,rfl⟩:=hv
  have I1:Inv X pins σ H { s with heap:=h',toks:=tk }:=I.turned (λ b o hb e=>kk b o (by simpa using hb) e) f0 f1 f3 f4 f5
  refine ⟨_,rfl,zt (s:={ s with heap:=h',toks:=tk }) (n := "range_iterator") st' rfl rfl (by decide) ⟨.int (lo + i),H,I1,⟨t,?_⟩,⟨rfl,rfl⟩,st',λ b hb=>(hf b hb).1⟩⟩
  rw [Int.mul_one]
 done:=by
  intro X hP hw hK hc i pins s σ H E I hf st hg
  subst hP hw hK
  obtain ⟨f0,f1,f2,f3,f4,f5⟩:=hf it (by simp)
  exact wpAny_pyNext_range_end (I.ok.hd hc) st (by have:n <= i:=hg;omega) λ h' eb=>⟨rfl,I.turned (t':=s.toks) (λ b o hb e=>eb b o hb e) f0 f1 f3 f4 f5⟩
 self:=λ _ _ _ _ _ st h=>wpAny_pyIter_rangeiter st h
end L2
namespace L2
open PySem PySem.Spec PyProof.Rows
section
variable {X:Cx} {tg:Expr}
noncomputable def Cj (K:PySem.W.Frag) (tl:TE):TI:=λ σ H R=>tl σ H λ x H1=>∃ a,x=.ref a/\(∃ xs,bz K H1 a xs)/\R (Jg K a) H1
noncomputable def JD (K:PySem.W.Frag) (tl:TE):TI:=λ σ H R=>tl σ H λ x H1=>∃ a,x=.ref a/\(∃ xs,mS K H1 a xs)/\R (KG K a) H1
theorem vh {l:Expr} {tl:TE} (hl:PE X l tl):PI X tg l (Cj X.K tl):=by
 intro pins s σ H R I h
 refine br (hl pins s σ H _ I h) λ v s1 ⟨x,H1,I1,r1,q1⟩=>?_
 obtain ⟨a,e,⟨xs,hq⟩,q⟩:=q1
 subst e
 cases r1
 obtain ⟨its,rv,p,hz⟩:=I1.list hq
 refine wpAny_pyIter_list p.isList ?_
 refine ⟨s1.heap.objs.size,[s1.heap.objs.size],_,_,H1,rfl,I1.kept (t':=s1.toks) λ b o e=>Heap.get?_push_of_some _ e,tR a _,⟨_,Heap.get?_push_size _ rfl,rfl,rfl⟩,λ b hb=>?_,q⟩
 have e:b=s1.heap.objs.size:=by simpa using hb
 subst e
 exact I1.fpOk (Nat.le_refl _) (I1.hok.fresh (Nat.le_refl _))
theorem HP {l:Expr} {tl:TE} (hl:PE X l tl):PI X tg l (JD X.K tl):=by
 intro pins s σ H R I h
 refine br (hl pins s σ H _ I h) λ v s1 ⟨x,H1,I1,r1,q1⟩=>?_
 obtain ⟨a,e,⟨xs,hq⟩,q⟩:=q1
 subst e
 cases r1
 obtain ⟨its,rv,p,hz⟩:=I1.tuple hq
 refine wpAny_pyIter_tuple (show s1.heap.IsTuple a its.toArray from p) ?_
 refine ⟨s1.heap.objs.size,[s1.heap.objs.size],_,_,H1,rfl,I1.kept (t':=s1.toks) λ b o e=>Heap.get?_push_of_some _ e,rV a _,⟨_,Heap.get?_push_size _ rfl,rfl,rfl⟩,λ b hb=>?_,q⟩
 have e:b=s1.heap.objs.size:=by simpa using hb
 subst e
 exact I1.fpOk (Nat.le_refl _) (I1.hok.fresh (Nat.le_refl _))
theorem DF {pins:List (Addr × Obj)} {σ:St} {H:Hp} {s:Shared} {R:It->Hp->Prop} {E:Value->Shared->Prop} {lo hi:Int} {t u v:Tok} {tk:Nat} (I:Inv X pins σ H s) (h1:-(2 ^ 62) <= lo) (h2:lo < 2 ^ 62) (h3:-(2 ^ 62) <= hi) (h4:hi < 2 ^ 62)
  (q:R (GK lo (hi - lo).toNat) H):wpAny (model X.prog X.w) X.A (pyIter (.ref s.heap.objs.size)) (PIE X pins σ tg R) E { s with heap:=s.heap.push { cls:=.type "range",data:=.fields #[.int lo t,.int hi u,.int 1 v] },toks:=tk }:=by
 refine wpAny_pyIter_range (IsRange.new ..) (small_one h1 h2 h3 h4) ?_
 have I1:Inv X pins σ H { s with heap:=s.heap.push { cls:=.type "range",data:=.fields #[.int lo t,.int hi u,.int 1 v] },toks:=tk }:=I.kept λ b o e=>Heap.get?_push_of_some _ e
 refine ⟨(s.heap.push { cls:=.type "range",data:=.fields #[.int lo t,.int hi u,.int 1 v] }).objs.size,[(s.heap.push { cls:=.type "range",data:=.fields #[.int lo t,.int hi u,.int 1 v] }).objs.size],_,_,H,rfl,
  I1.kept (t':=tk) λ b o e=>Heap.get?_push_of_some _ e,rT _ lo (hi - lo).toNat,?_,λ b hb=>?_,q⟩
 ·have e1:lo + ((0:Nat):Int) * 1=lo:=by simp
  have e2:(((hi - lo).toNat:Nat):Int) - ((0:Nat):Int)=Builtin.Range.rangeSize lo hi 1:=by rw [rangeSize_one];split <;> omega
  show IsRangeIter _ _ (lo + ((0:Nat):Int) * 1) ((((hi - lo).toNat:Nat):Int) - ((0:Nat):Int)) 1
  rw [e1,e2]
  exact Heap.get?_push_size _ rfl
 ·have e:b=(s.heap.push { cls:=.type "range",data:=.fields #[.int lo t,.int hi u,.int 1 v] }).objs.size:=by simpa using hb
  subst e
  exact I1.fpOk (Nat.le_refl _) (I1.hok.fresh (Nat.le_refl _))
noncomputable def Gr (ta:TA):TI:=λ σ H R=>ta σ H λ vs H1=>∃ j:Int,vs=[.int j]/\-(2 ^ 62) <= j/\j < 2 ^ 62/\R (GK 0 j.toNat) H1
theorem AT {a:Expr} {ta:TA} {p pos:Pos} (hg:Gl X "range") (hm:X.mg "range" = none) (ha:PA X [a] ta) (hs:starEach [a] X.env=[(false,eval a X.env)]:=by rfl):PI X tg (.Call (.Name "range" p) [a] [] pos) (Gr ta):=by
 intro pins s σ H R I h
 refine Call_ (gM I hg hm boot_range (PyProof.Rows.callWith_type1 (br (ha pos pins s σ H _ I h) λ us s1 ⟨vs,H1,I1,r1,q1⟩=>?_) hs rfl))
 obtain ⟨j,e,q1,q2,q⟩:=q1
 subst e
 cases r1 with
 | cons r rr =>
  cases rr
  obtain ⟨t,rfl⟩:=r
  exact call_range_1 (DF I1 (by omega) (by omega) q1 q2 (by simpa using q))
noncomputable def Kc (wi:TI) (g:TG) (tb:TS):TS:=λ D σ H=>wi σ H λ J H1=>∃ W:Nat->Nat->St->Hp->Prop,(∃ m,W 0 m σ H1)/\∀ i m σ H,W i m σ H →
 (J.stop i H/\D.nx σ H) \/ (J.go i H/\∃ N:St->Hp->Prop,(∀ σ' H',N σ' H'->∃ m',m' < m/\W (i + 1) m' σ' H')/\∀ x H',J.yld i H x H'->g x σ H' λ σ2 H2=>tb { D with nx:=N,ct:=N,bk:=D.nx } σ2 H2)
noncomputable def o6 (fp:List Addr) (h:Heap):List (Addr × Obj):=fp.filterMap λ b=>(h.get? b).map λ o=>(b,o)
theorem dA {fp:List Addr} {h:Heap} {b:Addr} {o:Obj} (hb:b∈fp) (e:h.get? b=some o):(b,o)∈o6 fp h:=List.mem_filterMap.mpr ⟨b,hb,by rw [e];rfl⟩
theorem AN {fp:List Addr} {h:Heap} {p:Addr × Obj} (hp:p∈o6 fp h):p.1∈fp/\h.get? p.1=some p.2:=by
 obtain ⟨b,hb,e⟩:=List.mem_filterMap.mp hp
 cases q:h.get? b with
 | none=>rw [q] at e;cases e
 | some o =>
  rw [q] at e
  have e':(b,o)=p:=Option.some.inj e
  subst e'
  exact ⟨hb,q⟩
theorem Inv.pinned (hsgA:∀ p σ,X.sg p σ) {pins:List (Addr × Obj)} {σ:St} {H:Hp} {s:Shared} {fp:List Addr} (I:Inv X pins σ H s) (hf:∀ b∈fp,uc X pins H b) (ho:∀ b∈fp,∃ o,s.heap.get? b=some o/\∀ v,o.data ≠ .cell v):Inv X (pins++o6 fp s.heap) σ H s:=
 I.pins_of (hsg:=hsgA _ _) λ p hp=>(List.mem_append.mp hp).elim (λ z=>I.pin p (List.mem_append_right _ z)) λ z=>by
  obtain ⟨hb,e⟩:=AN z
  obtain ⟨f0,f1,f2,_⟩:=hf p.1 hb
  obtain ⟨o,e',d⟩:=ho p.1 hb
  rw [e] at e';cases e'
  exact ⟨e,f0,f1,f2,d⟩
theorem Inv.unpinned (hsgA:∀ p σ,X.sg p σ) {pins pl:List (Addr × Obj)} {σ:St} {H:Hp} {s:Shared} (I:Inv X (pins++pl) σ H s):Inv X pins σ H s:=I.pins_of (hsg:=hsgA _ _) λ p hp=>I.pin p (List.mem_append_right _ (List.mem_append_left _ hp))
theorem C8 (hsgA:∀ p σ,X.sg p σ) {iter:Expr} {body:List Stmt} {wi:TI} {g:TG} {tb:TS} {pos:Pos} (hp:PassesOwn (model X.prog X.w) X.A X.env X.xe) (hc:X.calm=true) (hi:PI X tg iter wi) (hg:PG X tg g) (hb:GN X body tb)
  (hs:∀ x,foldedSetIterable iter X.env x=pure x:=by intro _;rfl):PS X (.For tg iter body [] pos) (Kc wi g tb):=by
 intro pins s σ H D I h
 refine wpAny_For (br (hi pins s σ H _ I h) λ v s1 h1=>br h1 λ itv s2 h2=>?_) hs
 obtain ⟨it,fp,tn,J,H2,e,I2,T,st2,f2,W,⟨m0,w0⟩,turn⟩:=h2
 subst e
 have stat:∀ {H':Hp},(∀ b∈fp,H' b=none)->∀ b∈fp,uc X pins H' b:=λ hn b hb=>⟨hn b hb,(f2 b hb).2⟩
 refine codeAny_forLoop_any (λ n s'=>∃ i σ' H',Inv X pins σ' H' s'/\tn i s'.heap/\(∀ b∈fp,H' b=none)/\W i n σ' H') ?_ m0 ⟨0,σ,H2,I2,st2,λ b hb=>(f2 b hb).1,w0⟩
 rintro n s3 ⟨i,σ3,H3,I3,st3,fr3,w3⟩
 rcases turn i n σ3 H3 w3 with ⟨stop,qn⟩ | ⟨go,N,hN,step⟩
 ·refine wpAny_passesOwn hp (br (T.done X rfl rfl rfl hc i pins s3 σ3 H3 X.xe I3 (stat fr3) st3 stop) λ r s4 ⟨hr,I4⟩=>?_)
  subst hr
  exact wpAny_execs_nil ⟨σ3,H3,I4,qn⟩
 ·refine wpAny_passesOwn hp (br (T.item X rfl rfl rfl hc i pins s3 σ3 H3 X.xe I3 (stat fr3) st3 go) λ r s4 ⟨u,hr,h4⟩=>?_)
  subst hr
  refine wpAny_passesOwn hp (br h4 λ _ s5 ⟨x,H5,I5,r5,y5,st5,fr5⟩=>?_)
  have I5':=Inv.pinned hsgA I5 (stat fr5) (T.obj _ _ st5)
  refine wpAny_passesOwn hp (br (hg _ s5 σ3 H5 x u _ I5' r5 (step x H5 y5)) λ _ s6 ⟨σ6,H6,I6,q6⟩=>?_)
  refine wpAny_passesOwn hp (br (hb _ s6 σ6 H6 _ I6 q6) λ f s7 q7=>?_)
  have again:∀ {σ7:St} {H7:Hp},Inv X (pins++o6 fp s5.heap) σ7 H7 s7->N σ7 H7->∃ m,m < n/\∃ i σ' H',Inv X pins σ' H' s7/\tn i s7.heap/\(∀ b∈fp,H' b=none)/\W i m σ' H':=λ {σ7 H7} I7 n7=>by
   obtain ⟨m',hm,w7⟩:=hN σ7 H7 n7
   refine ⟨m',hm,i + 1,σ7,H7,(Inv.unpinned hsgA I7),T.keep _ _ _ st5 λ b hb o e=>(I7.pin (b,o) (List.mem_append_right _ (List.mem_append_right _ (dA hb e)))).1,λ b hb=>?_,w7⟩
   obtain ⟨o,e,d⟩:=T.obj _ _ st5 b hb
   exact (I7.pin (b,o) (List.mem_append_right _ (List.mem_append_right _ (dA hb e)))).2.1
  cases f with
  | next=>obtain ⟨σ7,H7,I7,n7⟩:=q7;exact again I7 n7
  | cont=>obtain ⟨σ7,H7,I7,n7⟩:=q7;exact again I7 n7
  | brk=>obtain ⟨σ7,H7,I7,q7⟩:=q7;exact ⟨σ7,H7,(Inv.unpinned hsgA I7),q7⟩
  | ret v=>obtain ⟨x7,σ7,H7,I7,r7,q7⟩:=q7;exact ⟨x7,σ7,H7,(Inv.unpinned hsgA I7),r7,q7⟩
end
theorem wH {K:PySem.W.Frag} {a:Addr} {xs:List V} {g:TG} {tb:TS} {D:Ends} {σ:St} {H:Hp} (Pv:Nat->St->Hp->Prop) (h0:Pv 0 σ H) (hl:∀ i σ H,i <= xs.length->Pv i σ H->bz K H a xs)
  (hs:∀ i x σ H,xs[i]?=some x->Pv i σ H->g x σ H λ σ2 H2=>tb { D with nx:=Pv (i + 1),ct:=Pv (i + 1),bk:=D.nx } σ2 H2) (hd:∀ σ H,Pv xs.length σ H->D.nx σ H) :
  ∃ W:Nat->Nat->St->Hp->Prop,(∃ m,W 0 m σ H)/\∀ i m σ H,W i m σ H →
   ((Jg K a).stop i H/\D.nx σ H) \/ ((Jg K a).go i H/\∃ N:St->Hp->Prop,(∀ σ' H',N σ' H'->∃ m',m' < m/\W (i + 1) m' σ' H')/\∀ x H',(Jg K a).yld i H x H'->g x σ H' λ σ2 H2=>tb { D with nx:=N,ct:=N,bk:=D.nx } σ2 H2):=by
 refine ⟨λ i m σ H=>m=xs.length - i/\i <= xs.length/\Pv i σ H,⟨xs.length,by simp,Nat.zero_le _,h0⟩,?_⟩
 rintro i m σ H ⟨rfl,hi,p⟩
 have q:=hl i σ H hi p
 by_cases hlt:i < xs.length
 ·refine .inr ⟨⟨xs,xs[i],q,by simp [hlt]⟩,Pv (i + 1),λ σ' H' p'=>⟨xs.length - (i + 1),by omega,rfl,hlt,p'⟩,λ x H' y=>?_⟩
  obtain ⟨e,y⟩:=y
  subst e
  exact hs i x σ _ (y xs q) p
 ·have e:i=xs.length:=by omega
  subst e
  exact .inl ⟨⟨xs,q,Nat.le_refl _⟩,hd σ H p⟩
end L2
namespace L2
open PySem PySem.Spec PyProof.Rows
noncomputable abbrev R2:=V->V->Hp->VK->Prop
noncomputable def my (X:Cx) (f:Value->Value->Sem Value) (r:R2):Prop:=
 ∀ (pins:List (Addr × Obj)) (s:Shared) (σ:St) (H:Hp) (x y:V) (v u:Value) (Q:VK),Inv X pins σ H s->bG x v->bG y u->r x y H Q →
  wpAny (model X.prog X.w) X.A (f v u) (EP X pins σ Q) X.xe s
noncomputable def KP (X:Cx) (f:Value->Sem Value) (r:V->Hp->VK->Prop):Prop:=
 ∀ (pins:List (Addr × Obj)) (s:Shared) (σ:St) (H:Hp) (x:V) (v:Value) (Q:VK),Inv X pins σ H s->bG x v->r x H Q →
  wpAny (model X.prog X.w) X.A (f v) (EP X pins σ Q) X.xe s
noncomputable def jM (X:Cx) (f:Value) (r:List V->Hp->VK->Prop):Prop:=
 ∀ (pins:List (Addr × Obj)) (s:Shared) (σ:St) (H:Hp) (xs:List V) (us:List Value) (Q:VK),Inv X pins σ H s->ba xs us->r xs H Q →
  wpAny (model X.prog X.w) X.A (call f us) (EP X pins σ Q) X.xe s
noncomputable def KO (X:Cx) (r:V->Hp->(Bool->Hp->Prop)->Prop):Prop:=
 ∀ (pins:List (Addr × Obj)) (s:Shared) (σ:St) (H:Hp) (x:V) (v:Value) (Q:Bool->Hp->Prop),Inv X pins σ H s->bG x v->r x H Q →
  wpAny (model X.prog X.w) X.A (truthy v) (TP X pins σ Q) X.xe s
noncomputable def Jl (r:R2) (ta tb:TE):TE:=λ σ H Q=>ta σ H λ x H1=>tb σ H1 λ y H2=>r x y H2 Q
noncomputable def LR (r:V->Hp->VK->Prop) (ta:TE):TE:=λ σ H Q=>ta σ H λ x H1=>r x H1 Q
noncomputable def rI (C:Int->Int->Prop) (g:Int->Int->V):R2:=λ x y H Q=>∃ i j,x=.int i/\y=.int j/\C i j/\Q (g i j) H
noncomputable def DD (g:Int->Int->V):R2:=λ x y H Q=>∃ i j,x=.int i/\y=.int j/\Q (g i j) H
noncomputable def rU (g:Int->V):V->Hp->VK->Prop:=λ x H Q=>∃ i,x=.int i/\Q (g i) H
section
variable {X:Cx} {a b c:Expr} {ta tb tc:TE} {pos:Pos}
theorem GS (ha:PE X a ta) (hb:PE X b tb) {pins:List (Addr × Obj)} {s:Shared} {σ:St} {H:Hp} {R:V->V->Hp->Prop} (I:Inv X pins σ H s)
  (h:ta σ H λ x H1=>tb σ H1 λ y H2=>R x y H2) {Q:Value->Shared->Prop} {f:Value->Value->Sem Value}
  (hf:∀ v u s2 x y H2,Inv X pins σ H2 s2->bG x v->bG y u->R x y H2->wpAny (model X.prog X.w) X.A (f v u) Q X.xe s2) :
  wpAny (model X.prog X.w) X.A (eval a X.env) (λ v s₁=>wpAny (model X.prog X.w) X.A (eval b X.env) (λ u s₂=>wpAny (model X.prog X.w) X.A (f v u) Q X.xe s₂) X.xe s₁) X.xe s:=by
 refine br (ha pins s σ H _ I h) λ v s1 ⟨x,H1,I1,r1,q1⟩=>?_
 refine br (hb pins s1 σ H1 _ I1 q1) λ u s2 ⟨y,H2,I2,r2,q2⟩=>?_
 exact hf v u s2 x y H2 I2 r1 r2 q2
theorem JP {op:Operator} {r:R2} (ho:my X (binaryOp op) r) (ha:PE X a ta) (hb:PE X b tb):PE X (.BinOp a op b pos) (Jl r ta tb):=by
 intro pins s σ H Q I h
 exact wpAny_BinOp (GS ha hb I h λ v u s2 x y H2 I2 rx ry q=>ho pins s2 σ H2 x y v u Q I2 rx ry q)
theorem JQ {op:UnaryOp} {r:V->Hp->VK->Prop} (ho:KP X (unaryOp op) r) (ha:PE X a ta):PE X (.UnaryOp op a pos) (LR r ta):=by
 intro pins s σ H Q I h
 exact UnaryOp_ (br (ha pins s σ H _ I h) λ v s1 ⟨x,H1,I1,r1,q1⟩=>ho pins s1 σ H1 x v Q I1 r1 q1)
theorem Lf {f:Value->Value->Sem Value} {C:Int->Int->Prop} {g:Int->Int->Int}
  (rule:∀ (i j:Int) (t u:Tok) (s:Shared) (Q:Value->Shared->Prop) (E:Value->Shared->Prop),C i j->Q (.int (g i j) s.toks) { s with toks:=s.toks + 1 }->wpAny (model X.prog X.w) X.A (f (.int i t) (.int j u)) Q E s) :
  my X f (rI C λ i j=>.int (g i j)):=by
 intro pins s σ H x y v u Q I rx ry h
 obtain ⟨i,j,rfl,rfl,hc,q⟩:=h
 obtain ⟨t,rfl⟩:=rx
 obtain ⟨t',rfl⟩:=ry
 exact rule i j t t' s _ _ hc ⟨.int (g i j),H,I.tok _,⟨_,rfl⟩,q⟩
theorem Hw {f:Value->Value->Sem Value} {g:Int->Int->Int}
  (rule:∀ (i j:Int) (t u:Tok) (s:Shared) (Q:Value->Shared->Prop) (E:Value->Shared->Prop),Q (.int (g i j) s.toks) { s with toks:=s.toks + 1 }->wpAny (model X.prog X.w) X.A (f (.int i t) (.int j u)) Q E s) :
  my X f (DD λ i j=>.int (g i j)):=by
 intro pins s σ H x y v u Q I rx ry h
 obtain ⟨i,j,rfl,rfl,q⟩:=h
 obtain ⟨t,rfl⟩:=rx
 obtain ⟨t',rfl⟩:=ry
 exact rule i j t t' s _ _ ⟨.int (g i j),H,I.tok _,⟨_,rfl⟩,q⟩
theorem EW {f:Value->Value->Sem Value} {g:Int->Int->Bool}
  (rule:∀ (i j:Int) (t u:Tok) (s:Shared) (Q:Value->Shared->Prop) (E:Value->Shared->Prop),Q (.bool (g i j)) s->wpAny (model X.prog X.w) X.A (f (.int i t) (.int j u)) Q E s) :
  my X f (DD λ i j=>.bl (g i j)):=by
 intro pins s σ H x y v u Q I rx ry h
 obtain ⟨i,j,rfl,rfl,q⟩:=h
 obtain ⟨t,rfl⟩:=rx
 obtain ⟨t',rfl⟩:=ry
 exact rule i j t t' s _ _ ⟨.bl (g i j),H,I,rfl,q⟩
noncomputable def Jm (i j:Int):Prop:=0 < j/\j < 1073741824
noncomputable def Ec (i j:Int):Prop:=(-(2 ^ 64) < i/\i < 2 ^ 64) \/ (-(2 ^ 64) < j/\j < 2 ^ 64)
theorem Ec.ok {i j:Int} (h:Ec i j):IntMulOk i j:=by
 rcases h with ⟨h1,h2⟩ | ⟨h1,h2⟩
 ·exact .of_left (intBits_le_64 h1 h2)
 ·exact .of_right (intBits_le_64 h1 h2)
theorem Hz:my X (binaryOp .Add) (DD λ i j=>.int (i + j)):=Hw λ _ _ _ _ _ _ _ q=>add_int q
theorem HD:my X (binaryOp .Sub) (DD λ i j=>.int (i - j)):=Hw λ _ _ _ _ _ _ _ q=>sub_int q
theorem HC:my X (binaryOp .Mult) (rI Ec λ i j=>.int (i * j)):=Lf λ _ _ _ _ _ _ _ hc q=>mul_int q hc.ok
theorem E4:my X (binaryOp .FloorDiv) (rI Jm λ i j=>.int (i / j)):=Lf λ i j _ _ _ _ _ hc q=>by
 have h1:(0:Int) < j:=hc.1
 have h2:j < 1073741824:=hc.2
 exact floordiv_int (by omega) (by rw [Int.fdiv_eq_ediv_of_nonneg i (by omega)];exact q) (.inl (PyProof.noPylong_small (by omega)))
theorem HB:my X (binaryOp .Mod) (rI (λ _ j=>0 < j) λ i j=>.int (i % j)):=Lf λ i j _ _ _ _ _ hc q=>by
 have h1:(0:Int) < j:=hc
 exact mod_int' (by omega) (by rw [Int.fmod_eq_emod_of_nonneg i (by omega)];exact q)
theorem HA:my X (binaryOp .BitAnd) (DD λ i j=>.int (Builtin.bitAnd i j)):=Hw λ _ _ _ _ _ _ _ q=>and_int q
theorem LS {f:Value->Sem Value} {g:Int->Int}
  (rule:∀ (i:Int) (t:Tok) (s:Shared) (Q:Value->Shared->Prop) (E:Value->Shared->Prop),Q (.int (g i) s.toks) { s with toks:=s.toks + 1 }->wpAny (model X.prog X.w) X.A (f (.int i t)) Q E s) :
  KP X f (rU λ i=>.int (g i)):=by
 intro pins s σ H x v Q I rx h
 obtain ⟨i,rfl,q⟩:=h
 obtain ⟨t,rfl⟩:=rx
 exact rule i t s _ _ ⟨.int (g i),H,I.tok _,⟨_,rfl⟩,q⟩
theorem Ja:KP X (unaryOp .USub) (rU λ i=>.int (-i)):=LS λ _ _ _ _ _ q=>neg_int q
end
section
variable {X:Cx} {a b c:Expr} {ta tb tc:TE} {pos:Pos}
theorem JO:my X (compareOp .Lt) (DD λ i j=>.bl (decide (i < j))):=EW λ _ _ _ _ _ _ _ q=>lt_int q
theorem Gx:my X (compareOp .LtE) (DD λ i j=>.bl (decide (i <= j))):=EW λ _ _ _ _ _ _ _ q=>le_int q
theorem Gw:my X (compareOp .Gt) (DD λ i j=>.bl (decide (j < i))):=EW λ _ _ _ _ _ _ _ q=>gt_int q
theorem JN:my X (compareOp .GtE) (DD λ i j=>.bl (decide (j <= i))):=EW λ _ _ _ _ _ _ _ q=>ge_int q
theorem E6 {op:CmpOp} {r:R2} (ho:my X (compareOp op) r) (ha:PE X a ta) (hb:PE X b tb) (hm:behindInMarks op b=false):PE X (.Compare a [op] [b] pos) (Jl r ta tb):=by
 intro pins s σ H Q I h
 exact wpAny_Compare1 (GS ha hb I h λ v u s2 x y H2 I2 rx ry q=>ho pins s2 σ H2 x y v u Q I2 rx ry q) hm
noncomputable def Kf (t:TE):TT:=λ σ H Q=>t σ H λ x H'=>∃ k,x=.bl k/\Q k H'
theorem Fk {op:CmpOp} {r:R2} (ho:my X (compareOp op) r) (ha:PE X a ta) (hb:PE X b tb) (hm:behindInMarks op b=false):PT X (.Compare a [op] [b] pos) (Kf (Jl r ta tb)):=by
 intro pins s σ H Q I h
 refine wpAny_isTrue_Compare1 (br (ha pins s σ H _ I h) λ v s1 ⟨x,H1,I1,r1,q1⟩=>br (hb pins s1 σ H1 _ I1 q1) λ u s2 ⟨y,H2,I2,r2,q2⟩ =>
  br (ho pins s2 σ H2 x y v u _ I2 r1 r2 q2) λ c s3 ⟨z,H3,I3,r3,k,e,q3⟩=>?_) hm
 subst e
 cases r3
 exact wpAny_truthy_bool ⟨H3,I3,q3⟩
noncomputable def Ei (K:PySem.W.Frag) (x:V) (H:Hp) (k:Bool):Prop:=
 match x with
 | .non=>k=false
 | .bl b=>k=b
 | .int i=>k=(i != 0)
 | .str y=>y.length <= sizeLine/\k=((y.length:Int) != 0)
 | .byt y=>y.size <= sizeLine/\k=((y.size:Int) != 0)
 | .ref p=>(∃ xs,bz K H p xs/\k = !xs.isEmpty) \/ (∃ xs,mS K H p xs/\k = !xs.isEmpty) \/ ∃ kvs,H p=some (.dK kvs)/\k = !kvs.isEmpty
 | _=>False
theorem ym {κ:Type} {kvs:List (κ × V)} {vs:List (κ × Value)} (r:KV kvs vs):(!vs.isEmpty) = !kvs.isEmpty:=by
 cases r <;> rfl
theorem q9 {xs:List V} {its:List Value} (r:ba xs its):(!its.toArray.isEmpty) = !xs.isEmpty:=by
 cases r <;> simp
theorem oS:(sizeLine:Nat) < 2 ^ 63:=by rw [sizeLine_eq];decide
theorem IZ:KO X (λ x H Q=>∃ k,Ei X.K x H k/\Q k H):=by
 intro pins s σ H x v Q I rx h
 obtain ⟨k,e,q⟩:=h
 have hl:=oS
 have hs:sizeLine=16777216:=sizeLine_eq
 cases x with
 | non =>
  cases rx
  have e':k=false:=e
  subst e'
  exact truthy_none ⟨H,I,q⟩
 | bl b =>
  cases rx
  have e':k=b:=e
  subst e'
  exact wpAny_truthy_bool ⟨H,I,q⟩
 | int i =>
  obtain ⟨t,rfl⟩:=rx
  have e':k=(i != 0):=e
  subst e'
  exact PySem.P.truthy_int ⟨H,I,q⟩
 | str y =>
  obtain ⟨t,rfl⟩:=rx
  obtain ⟨hy,e'⟩:y.length <= sizeLine/\k=((y.length:Int) != 0):=e
  subst e'
  exact PySem.P.truthy_str (by omega) ⟨H,I.tok _,q⟩
 | byt y =>
  obtain ⟨t,rfl⟩:=rx
  obtain ⟨hy,e'⟩:y.size <= sizeLine/\k=((y.size:Int) != 0):=e
  subst e'
  exact PySem.W.truthy_bytes (by omega) ⟨H,I.tok _,q⟩
 | ref p =>
  cases rx
  have e':(∃ xs,bz X.K H p xs/\k = !xs.isEmpty) \/ (∃ xs,mS X.K H p xs/\k = !xs.isEmpty) \/ ∃ kvs,H p=some (.dK kvs)/\k = !kvs.isEmpty:=e
  rcases e' with ⟨xs,hx,e'⟩ | ⟨xs,hx,e'⟩ | ⟨kvs,hx,e'⟩
  ·subst e'
   obtain ⟨its,r,pl,hz⟩:=I.list hx
   have hlen:=r.length
   exact wpAny_truthy_list pl.isList (by simp only [List.size_toArray];omega) ⟨H,I.tok _,by rw [q9 r];exact q⟩
  ·subst e'
   obtain ⟨its,r,pl,hz⟩:=I.tuple hx
   have hlen:=r.length
   exact truthy_tuple pl (by simp only [List.size_toArray];omega) ⟨H,I.tok _,by rw [q9 r];exact q⟩
  ·subst e'
   obtain ⟨hz,hS,vs,r,m⟩:kvs.length <= sizeLine/\(p == sysModules)=false/\∃ vs,KV kvs vs/\s.heap.DictOf (c9 X.prog X.w) p vs:=I.hok p _ hx
   have hlen:kvs.length=vs.length:=Paired.length r
   exact wpAny_truthy_dict hS m (by omega) ⟨H,I.tok _,by rw [ym r];exact q⟩
 | _=>exact (show False from e).elim
theorem C9 (ha:PE X a ta) (he:∀ whole,isTrue a X.env whole=(do let v ← whole;standAt a.pos;holding [v] (truthy v))) :
  PT X a (λ σ H Q=>ta σ H λ x H'=>∃ k,Ei X.K x H' k/\Q k H'):=by
 intro pins s σ H Q I h
 exact isTrue_plain (br (ha pins s σ H _ I h) λ v s1 ⟨x,H1,I1,r1,q1⟩=>IZ pins s1 σ H1 x v Q I1 r1 q1) (he _)
theorem yH:my X (binaryOp .Add) (λ x y H Q=>∃ i j,x=.str i/\y=.str j/\i.length + j.length <= sizeLine/\Q (.str (i++j)) H):=by
 intro pins s σ H x y v u Q I rx ry h
 obtain ⟨i,j,rfl,rfl,hz,q⟩:=h
 obtain ⟨t,rfl⟩:=rx
 obtain ⟨t',rfl⟩:=ry
 exact add_str (λ t' tk=>⟨.str (i++j),H,I.tok _,⟨_,rfl⟩,q⟩) hz
theorem rX {x:V} {us:List Value} (r:ba [x] us):∃ u,us=[u]/\bG x u:=by
 cases r with
 | cons r1 r2=>cases r2;exact ⟨_,rfl,r1⟩
theorem Kh {x y:V} {us:List Value} (r:ba [x,y] us):∃ u w',us=[u,w']/\bG x u/\bG y w':=by
 cases r with
 | cons r1 r2 =>
  cases r2 with
  | cons r3 r4=>cases r4;exact ⟨_,_,rfl,r1,r3⟩
theorem Ab (hc:X.calm=true):jM X (.builtin "min") (λ xs H Q=>∃ i j,xs=[.int i,.int j]/\Q (.int (if j < i then j else i)) H):=by
 intro pins s σ H xs us Q I r h
 obtain ⟨i,j,rfl,q⟩:=h
 obtain ⟨u,w',rfl,⟨t,rfl⟩,⟨t',rfl⟩⟩:=Kh r
 refine min_two_ints (I.ok.hd hc) λ h' tk k=>⟨_,H,I.kept k,?_,q⟩
 by_cases hj:j < i
 ·rw [if_pos hj,if_pos hj];exact ⟨_,rfl⟩
 ·rw [if_neg hj,if_neg hj];exact ⟨_,rfl⟩
theorem Aa:jM X (.type "int") (λ xs H Q=>(∃ i,xs=[.int i]/\Q (.int i) H) \/ ∃ k,xs=[.bl k]/\Q (.int (if k then 1 else 0)) H):=by
 intro pins s σ H xs us Q I r h
 rcases h with ⟨i,rfl,q⟩ | ⟨k,rfl,q⟩
 ·obtain ⟨u,rfl,t,rfl⟩:=rX r
  exact call_int_int ⟨.int i,H,I,⟨_,rfl⟩,q⟩
 ·obtain ⟨u,rfl,r1⟩:=rX r
  cases r1
  exact call_int_bool ⟨.int (if k then 1 else 0),H,I.tok _,⟨_,rfl⟩,q⟩
end
end L2
namespace L2
open PySem PySem.Spec PyProof.Rows
section
variable {prog:Program} {w:World} {A:Around} {E:Value->Shared->Prop} {s:Shared} {K:PySem.W.Frag} {x dx C f:Addr} {mA:Str->Option Value} {name:Str} {v:Value}
end
section
variable {P:Program} {w:World} {H H':Hp} {h h':Heap} {a C dx:Addr} {fs fs':List (Str × V)}
end
structure Cls (K:PySem.W.Frag) (C:Addr):Prop where
 pg:PySem.W.plainGet K C Str.empty=true
 hd:PySem.W.hasDictIn K C=true
 po:PySem.W.plainOver K C=true
 sa:PySem.W.findIn K (.ref C) "__setattr__" = some (some (.builtin "object.__setattr__"))
noncomputable def GL (K:PySem.W.Frag) (C:Addr) (f:Str):Prop:=PySem.W.findIn K (.ref C) f=some none
structure Meth (K:PySem.W.Frag) (C:Addr) (m:Str) (f:Addr):Prop where
 at_:PySem.W.findIn K (.ref C) m=some (some (.ref f))
 fn:PySem.W.isFn K (.ref f)=true
 kp:PySem.W.keepIn K (.ref f)=true
section
variable {X:Cx} {pins:List (Addr × Obj)} {σ:St} {H:Hp} {s:Shared} {a C dx:Addr} {fs:List (Str × V)} {f:Str} {v:V} {A:Around} {E:Value->Shared->Prop}
end
section
variable {X:Cx} {o e value:Expr} {f:Str} {pos pos' tpos:Pos} {ta tv:TE}
end
section
variable {X:Cx} {pins:List (Addr × Obj)} {σ:St} {H:Hp} {s:Shared} {A:Around} {E:Value->Shared->Prop} {Q:Value->Shared->Prop} {c:Value} {b:Bool}
end
end L2
namespace L2
open PySem PySem.Spec PyProof.Rows
structure Room (k:Nat) (A:Around):Prop where
 hd:A.handled=none
 dp:A.depth + 3 * k + 5 < recursionLimit
 un:A.units + 16 * k + 200 < cLine
theorem Room.mono {j k:Nat} {A:Around} (r:Room k A) (h:j <= k):Room j A:=⟨r.hd,by have:=r.dp;omega,by have:=r.un;omega⟩
theorem Room.deeper {k:Nat} {A:Around} (r:Room (k + 1) A) (env:Env):Room k (A.deeper env):=
 ⟨r.hd,by have:=r.dp;show A.depth + 1 + 3 * k + 5 < _;omega,by have:=r.un;show A.units + 3 + 16 * k + 200 < _;omega⟩
theorem Room.depth {k:Nat} {A:Around} (r:Room k A):A.depth < recursionLimit:=by have:=r.dp;omega
theorem Room.units {k:Nat} {A:Around} (r:Room k A):A.units + 64 < cLine:=by have:=r.un;omega
noncomputable def Br:TA:=λ _ H Q=>Q [] H
noncomputable def tN (ta:TE) (tr:TA):TA:=λ σ H Q=>ta σ H λ x H1=>tr σ H1 λ xs H2=>Q (x :: xs) H2
section
variable {X:Cx} {e:Expr} {es:List Expr} {te:TE} {t:TA} {pos:Pos}
theorem cA:PA X [] Br:=λ _ _ _ _ H Q I h=>Calls.spliced_nil ⟨[],H,I,.nil,h⟩
theorem bw (ha:PE X e te) (hr:PA X es t) (hs:starEach (e :: es) X.env=(false,eval e X.env) :: starEach es X.env:=by rfl):PA X (e :: es) (tN te t):=by
 intro pos pins s σ H Q I h
 rw [hs]
 show wpAny _ _ (spliced ((false,eval e X.env) :: backTo pos (starEach es X.env))) _ _ s
 refine Calls.spliced_cons (br (ha pins s σ H _ I h) λ u s1 ⟨x,H1,I1,r1,q1⟩=>?_)
 exact br (hr pos pins s1 σ H1 _ I1 q1) λ us s2 ⟨xs,H2,I2,r2,q2⟩=>⟨x :: xs,H2,I2,.cons r1 r2,q2⟩
noncomputable def Lu (t:TA):TE:=λ σ H Q=>t σ H λ xs H1=>xs.length <= sizeLine/\∀ p,H1 p=none->Q (.ref p) (upd H1 p (.tup xs))
noncomputable def IX (t:TA):TE:=λ σ H Q=>t σ H λ xs H1=>xs.length <= sizeLine/\∀ p,H1 p=none->Q (.ref p) (upd H1 p (.lst xs))
theorem HJ {x1} (h:PA X es t):PE X (.Tuple es x1 pos) (Lu t):=by
 intro pins s σ H Q I hq
 refine wpAny_Tuple_spliced (br (h pos pins s σ H _ I hq) λ us s1 ⟨xs,H1,I1,r,z,q⟩=>⟨by rw [<- r.length];exact z,?_⟩)
 have hf:H1 s1.heap.objs.size=none:=I1.hok.fresh (Nat.le_refl _)
 refine ⟨.ref s1.heap.objs.size,upd H1 s1.heap.objs.size (.tup xs),I1.laid (t':=s1.toks) (λ b u e=>Heap.get?_push_of_some _ e) (Nat.le_refl _) ?_,rfl,q _ hf⟩
 exact ⟨z,us,r,⟨_,Heap.get?_push_size _ rfl,rfl,_,rfl⟩⟩
theorem yJ (h:PA X es t):PE X (.List es pos) (IX t):=by
 intro pins s σ H Q I hq
 refine wpAny_List_spliced (br (h pos pins s σ H _ I hq) λ us s1 ⟨xs,H1,I1,r,z,q⟩=>⟨by rw [<- r.length];exact z,?_⟩)
 have hf:H1 s1.heap.objs.size=none:=I1.hok.fresh (Nat.le_refl _)
 refine ⟨.ref s1.heap.objs.size,upd H1 s1.heap.objs.size (.lst xs),I1.laid (t':=s1.toks) (λ b u e=>Heap.get?_push_of_some _ e) (Nat.le_refl _) ?_,rfl,q _ hf⟩
 exact ⟨z,us,0,r,Heap.get?_push_size _ rfl⟩
end
noncomputable abbrev Sp:=List V->Hp->VK->XK->Prop
noncomputable abbrev Bv:=List Env->Hp->Shared->XK->Value->Shared->Prop
structure Env0 (P:Program) (w:World) (K:PySem.W.Frag) (mg:Str->Option Value) (base:Heap) (A:Around) (outer:List Env) (s:Shared) (H:Hp):Prop where
 frames:A.frames=some outer
 mod:Mod K mg base
 bs:∀ b o,base.get? b=some o->s.heap.get? b=some o/\H b=none
 bsz:base.objs.size <= s.heap.objs.size
 funs:s.heap.FunFrames base outer
 frf:∀ b∈oQ outer,H b=none
 hok:nF P w H s.heap
 bare:AllBare s.gens
noncomputable def CE (outer:List Env) (P:Program) (w:World) (H:Hp) (s:Shared) (Q:VK) (u:Value) (s':Shared):Prop:=
 ∃ v H',s'.os=s.os/\AllBare s'.gens/\Un (oQ outer) [] H H' s.heap s'.heap/\nF P w H' s'.heap/\bG v u/\Q v H'
noncomputable def CR (CX:Bv) (outer:List Env) (P:Program) (w:World) (H:Hp) (s:Shared) (Q:VK) (E:XK) (r:Result) (s':Shared):Prop:=
 match r with
 | .ok (.ret u)=>CE outer P w H s Q u s'
 | .ok _=>False
 | .error e=>CX outer H s E e s'
structure FnOk (P:Program) (w:World) (K:PySem.W.Frag) (mg:Str->Option Value) (base:Heap) (CX:Bv) (k:Nat) (f:Addr) (fd:FuncData) (ps:List Str) (sp:Sp):Prop where
 len:∀ vs H Q E,sp vs H Q E->vs.length=ps.length
 run:∀ (A:Around) (outer:List Env) (s:Shared) (H:Hp) (args:Args) (us:List Value) (vs:List V) (Q:VK) (E:XK),Room k A->Env0 P w K mg base A outer s H->BindsTo s fd args (ps.zip us)->ba vs us->sp vs H Q E →
  codeAny (model P w) A (.call (.ref f) args) (CR CX outer P w H s Q E) s
theorem FnOk.imp {P:Program} {w:World} {K:PySem.W.Frag} {mg:Str->Option Value} {base:Heap} {CX:Bv} {k:Nat} {f:Addr} {fd:FuncData} {ps:List Str} {sp sp':Sp} (F:FnOk P w K mg base CX k f fd ps sp)
  (h:∀ vs H Q E,sp' vs H Q E->sp vs H Q E):FnOk P w K mg base CX k f fd ps sp':=
 ⟨λ vs H Q E q=>F.len vs H Q E (h _ _ _ _ q),λ A outer s H args us vs Q E hr he hb hv hs=>F.run A outer s H args us vs Q E hr he hb hv (h _ _ _ _ hs)⟩
section
variable {X:Cx} {pins:List (Addr × Obj)} {σ:St} {H:Hp} {s s':Shared}
theorem Inv.env0 (I:Inv X pins σ H s):Env0 X.prog X.w X.K X.mg X.base X.A X.stack s H:=
 ⟨I.ok.frames,I.ok.mod,I.bs,Nat.le_trans I.ok.bsz I.sz,I.stack,I.stkFree,I.hok,I.bare⟩
theorem Inv.after {Q:VK} {u:Value} (I:Inv X pins σ H s) (h:CE X.stack X.prog X.w H s Q u s'):EP X pins σ Q u s':=by
 obtain ⟨v,H',os,bare,un,hok,r,q⟩:=h
 obtain ⟨hh,g,d,t,os'⟩:=s'
 obtain rfl:os'=s.os:=os
 exact ⟨v,H',I.call (h':=hh) (g':=g) (d':=d) (t':=t) (ch:=[]) un hok bare (λ b z=>absurd z (by simp)),r,q⟩
end
noncomputable def Kb (sp:Sp) (dvs:List V) (E:XK) (t:TA):TE:=λ σ H Q=>t σ H λ vs H1=>sp (vs++dvs) H1 Q E
noncomputable def iZ (K:PySem.W.Frag) (fd:FuncData) (ps:List Str) (ds:List Value):Prop:=
 ∀ (s:Shared) (us:List Value),K.In s.heap->(us++ds).length=ps.length->BindsTo s fd ⟨us,[]⟩ (ps.zip (us++ds))
theorem iZ.all {K:PySem.W.Frag} {fd:FuncData} {ps:List Str} (h:∀ us:List Value,us.length=ps.length->bindArgs fd ⟨us,[]⟩=pure (ps.zip us)):iZ K fd ps []:=λ s us _ hl=>by
 rw [List.append_nil] at hl ⊢
 exact .of_eq (h us hl)
noncomputable def xS (CX:Bv) (X:Cx) (E:XK):Prop:=∀ (pins:List (Addr × Obj)) (σ:St) (H:Hp) (s:Shared) (e:Value) (s':Shared),Inv X pins σ H s->CX X.stack H s E e s'->X.xe e s'
section
variable {X:Cx} {CX:Bv} {k:Nat} {f C:Addr} {fd:FuncData} {ps:List Str} {sp:Sp} {dvs:List V} {ds:List Value} {E:XK} {x m:Str} {p pos apos:Pos} {e o:Expr} {es:List Expr} {ta:TE} {t:TA}
theorem IS {pins:List (Addr × Obj)} {σ:St} {H:Hp} {s:Shared} {Q:VK} {us:List Value} {vs:List V} (F:FnOk X.prog X.w X.K X.mg X.base CX k f fd ps sp) (hr:Room k X.A) (hb:iZ X.K fd ps ds) (hd:ba dvs ds) (hx:xS CX X E)
  (I:Inv X pins σ H s) (r:ba vs us) (h:sp (vs++dvs) H Q E):wpAny (model X.prog X.w) X.A (call (.ref f) us) (EP X pins σ Q) X.xe s:=by
 have r2:ba (vs++dvs) (us++ds):=r.append hd
 have hl:(us++ds).length=ps.length:=by rw [<- r2.length];exact F.len _ _ _ _ h
 refine wpAny_call (codeAny_mono (F.run X.A X.stack s H ⟨us,[]⟩ (us++ds) (vs++dvs) Q E hr I.env0 (hb s us I.kIn hl) r2 h) λ r s' hq=>?_)
 cases r with
 | error e=>exact hx pins σ H s e s' I hq
 | ok fl =>
  cases fl with
  | ret u=>exact I.after hq
  | next=>exact False.elim hq
  | brk=>exact False.elim hq
  | cont=>exact False.elim hq
theorem kJ (F:FnOk X.prog X.w X.K X.mg X.base CX k f fd ps sp) (hr:Room k X.A) (hg:Gl X x) (hm:X.mg x=some (.ref f)) (hk:PySem.W.keepIn X.K (.ref f)=true) (hb:iZ X.K fd ps ds) (hd:ba dvs ds) (hx:xS CX X E)
  (ha:PA X (e :: es) t) (hdb:(x == ("__debug__" : Str))=false:=by decide) (he:starEach (e :: es) X.env=(false,eval e X.env) :: starEach es X.env:=by rfl) (hpl:(backTo pos (starEach es X.env)).any (·.1)=false:=by rfl) :
  PE X (.Call (.Name x p) (e :: es) [] pos) (Kb sp dvs E t):=by
 intro pins s σ H Q I h
 refine wpAny_Call_Name_kw (zw I hg hm ?_ hdb)
 refine PySem.W.callWith_K (h₀:=X.base) I.ok.mod.kin hk (br (ha pos pins s σ H _ I h) λ us s1 ⟨vs,H1,I1,r,q⟩=>⟨I1.kIn,?_⟩) he hpl
 exact IS F hr hb hd hx I1 r q
end
section
variable {X:Cx} {CX:Bv} {k:Nat} {f C:Addr} {fd:FuncData} {ps ks:List Str} {sp:Sp} {E:XK} {x m:Str} {p pos apos kpos:Pos} {e o:Expr} {es:List Expr} {kws:List Keyword} {te ta:TE} {t tk:TA} {nm:Option Str}
variable {g:List Value->List Value->List Value} {gV:List V->List V->List V}
end
structure FnScope (N P:List Str) (sc:Scope):Prop where
 kind:sc.kind=.function
 co:sc.isCoroutine=false
 gen:sc.isGenerator=false
 nd:N.Nodup
 pre:N.take P.length=P
 par:∀ x∈P,sc.names.lookup x=some .local \/ sc.names.lookup x=some .cell
 nofree:∀ y∈sc.names,y.2 ≠ .free
theorem sU {kindOf:Str->Option NameKind} {x:Str}:∀ {binds:List (Str × Value)} {m:Str->Option Value},(∀ v,(x,v) ∉ binds)->bindL kindOf binds m x=m x
 | [],_,_=>rfl
 | (n,v) :: r,m,h=>by
  unfold bindL
  rw [sU λ w hw=>h w (List.mem_cons_of_mem _ hw)]
  split
  ·have:x ≠ n:=by rintro rfl;exact h v List.mem_cons_self
   simp [this]
  ·rfl
theorem sS {kindOf:Str->Option NameKind} {x:Str}:∀ {binds:List (Str × Value)} {m:Str->Option Value},(∀ v,(x,v) ∉ binds)->bindC kindOf binds m x=m x
 | [],_,_=>rfl
 | (n,v) :: r,m,h=>by
  unfold bindC
  rw [sS λ w hw=>h w (List.mem_cons_of_mem _ hw)]
  split
  ·rfl
  ·have:x ≠ n:=by rintro rfl;exact h v List.mem_cons_self
   simp [this]
theorem sT {kindOf:Str->Option NameKind} {x:Str} {v:Value}:∀ {P:List Str} {vs:List Value} {i:Nat} {m:Str->Option Value},P.Nodup->P[i]?=some x->vs[i]?=some v->kindOf x=some .local →
  bindL kindOf (P.zip vs) m x=some v
 | [],_,_,_,_,h,_,_=>by simp at h
 | _ :: _,[],_,_,_,_,h,_=>by simp at h
 | p :: P,w :: vs,0,m,nd,h1,h2,hk=>by
  simp at h1 h2;subst h1;subst h2
  show bindL kindOf ((p,w) :: P.zip vs) m p=_
  unfold bindL
  rw [sU λ v hv=>(List.nodup_cons.mp nd).1 (List.of_mem_zip hv).1,if_pos hk]
  simp
 | p :: P,w :: vs,i + 1,m,nd,h1,h2,hk=>by
  show bindL kindOf ((p,w) :: P.zip vs) m x=_
  unfold bindL
  exact sT (i:=i) (List.nodup_cons.mp nd).2 (by simpa using h1) (by simpa using h2) hk
theorem sR {kindOf:Str->Option NameKind} {x:Str} {v:Value}:∀ {P:List Str} {vs:List Value} {i:Nat} {m:Str->Option Value},P.Nodup->P[i]?=some x->vs[i]?=some v->kindOf x ≠ some .local →
  bindC kindOf (P.zip vs) m x=some v
 | [],_,_,_,_,h,_,_=>by simp at h
 | _ :: _,[],_,_,_,_,h,_=>by simp at h
 | p :: P,w :: vs,0,m,nd,h1,h2,hk=>by
  simp at h1 h2;subst h1;subst h2
  show bindC kindOf ((p,w) :: P.zip vs) m p=_
  unfold bindC
  rw [sS λ v hv=>(List.nodup_cons.mp nd).1 (List.of_mem_zip hv).1,if_neg hk]
  simp
 | p :: P,w :: vs,i + 1,m,nd,h1,h2,hk=>by
  show bindC kindOf ((p,w) :: P.zip vs) m x=_
  unfold bindC
  exact sR (i:=i) (List.nodup_cons.mp nd).2 (by simpa using h1) (by simpa using h2) hk
noncomputable def start (N:List Str) (vs:List V):St:=vs.map some++List.replicate (N.length - vs.length) none
noncomputable def wj (CX:Bv) (P:Program) (w:World) (K:PySem.W.Frag) (mg:Str->Option Value) (base:Heap) (N:List Str) (qual:Str) (scope:Scope) (f:Addr) (cd:Value) (A:Around) (outer:List Env) (s:Shared) (H:Hp) (E:XK):Cx where
 prog:=P
 w:=w
 K:=K
 mg:=mg
 base:=base
 A:=A.deeper (envOfC qual scope s.heap.objs.size f cd)
 N:=N
 s₀:=s
 H₀:=H
 env:=envOfC qual scope s.heap.objs.size f cd
 outer:=outer
 stack:=envOfC qual scope s.heap.objs.size f cd :: outer
 ex:=[]
 calm:=true
 fn:=λ _=>true
 pn:=[]
 xe:=λ e s'=>wpAny (model P w) (A.deeper (envOfC qual scope s.heap.objs.size f cd)) (leaving (envOfC qual scope s.heap.objs.size f cd) e) (λ _ s''=>CX outer H s E e s'') (λ e' s''=>CX outer H s E e' s'') s'
theorem we {sc:Scope} {n:Nat} {x:Str} (h:sc.names.lookup x=some .cell):∃ c,(cellsFrom n sc.names []).lookup x=some c:=by
 have q:=PySem.W.cellsFrom_some sc.names n [] (.inl h)
 exact Option.isSome_iff_exists.mp q
theorem Ax {CX:Bv} {P:Program} {w:World} {K:PySem.W.Frag} {mg:Str->Option Value} {base:Heap} {N ps:List Str} {qual:Str} {scope:Scope} {f:Addr} {cd:Value} {A:Around} {outer:List Env} {s s1:Shared} {H:Hp} {E:XK} {us:List Value} {vs:List V}
  (S:FnScope N ps scope) (hd:A.handled=none) (e0:Env0 P w K mg base A outer s H) (hl:vs.length=ps.length) (r:ba vs us)
  (x:InCallC s s.heap.objs.size (bindL (envOfC qual scope s.heap.objs.size f cd).kindOf (ps.zip us) λ _=>none) (cellsFrom (s.heap.objs.size + 1) scope.names []) (bindC (envOfC qual scope s.heap.objs.size f cd).kindOf (ps.zip us) λ _=>none) s1) :
  Inv (wj CX P w K mg base N qual scope f cd A outer s H E) [] (start N vs) H s1:=by
 have hpl:ps.length <= N.length:=by have:=congrArg List.length S.pre;rw [List.length_take] at this;omega
 obtain ⟨h1,tk,rfl,hk⟩:=x.done
 have noA:∀ b:Addr,b ∉ (wj CX P w K mg base N qual scope f cd A outer s H E).ex:=λ b z=>absurd (show b∈([]:List Addr) from z) (by simp)
 refine ⟨⟨e0.mod,S.kind,rfl,rfl,Nat.le_refl _,λ y z c h1 h2=>?_,λ y hy=>?_,λ y c _ h=>?_,λ _=>hd,Around.frames_deeper e0.frames,.inr ⟨rfl,rfl⟩,λ b z=>absurd z (noA b),e0.bs,e0.bsz,λ b _ _=>noA b,λ b z=>absurd z (noA b),e0.funs,e0.frf⟩,
  rfl,e0.bare,Un.kept hk,⟨_,x.toInCall.ns,λ i y v h1 h2 h3=>?_⟩,λ y c h=>⟨_,x.cell y c h⟩,e0.hok.fresh (Nat.le_refl _),λ y c h=>?_,λ p hp=>absurd (show p∈([]:List (Addr × Obj)) from hp) (by simp),e0.hok.kept hk,?_,trivial⟩
 ·exact name_of_addr x.apart (PySem.mem_of_lookup h1) (PySem.mem_of_lookup h2)
 ·have hy:scope.names.lookup y=some .cell \/ scope.names.lookup y=some .free:=hy
  rcases hy with hy | hy
  ·exact we hy
  ·exact absurd rfl (S.nofree _ (PySem.mem_of_lookup hy))
 ·exact Nat.le_of_lt (x.above y c (PySem.mem_of_lookup h))
 ·have hi:i < vs.length:=by
   unfold start at h2
   by_cases hi:i < vs.length
   ·exact hi
   ·rw [List.getElem?_append_right (by simpa using hi)] at h2
    rw [List.getElem?_replicate] at h2
    split at h2 <;> cases h2
  have ha:vs[i]?=some v:=by
   unfold start at h2
   rw [List.getElem?_append_left (by simpa using hi),List.getElem?_map] at h2
   cases e:vs[i]? with
   | none=>rw [e] at h2;cases h2
   | some a=>rw [e] at h2;cases h2;rfl
  obtain ⟨u,hu,rv⟩:=r.get ha
  have hp:ps[i]?=some y:=by
   rw [<- S.pre,List.getElem?_take_of_lt (by omega)];exact h1
  have ndP:ps.Nodup:=by rw [<- S.pre];exact S.nd.sublist (List.take_sublist _ _)
  refine ⟨u,rv,?_⟩
  rcases S.par y (List.mem_of_getElem? hp) with k | k
  ·exact .inl ⟨k,sT ndP hp hu k⟩
  ·obtain ⟨c,e⟩:=we (n:=s.heap.objs.size + 1) k
   refine .inr ⟨.inl k,c,e,?_⟩
   have q:=x.cell y c e
   rw [sR ndP hp hu (by show scope.names.lookup y ≠ _;rw [k];decide)] at q
   exact q
 ·exact e0.hok.fresh (Nat.le_of_lt (x.above y c (PySem.mem_of_lookup h)))
 ·unfold start
  show _=N.length
  rw [List.length_append,List.length_map,List.length_replicate]
  omega
theorem Ca {CX:Bv} {P:Program} {w:World} {K:PySem.W.Frag} {mg:Str->Option Value} {base:Heap} {k:Nat} {f:Addr} {name qual:Str} {params:Arguments} {body:List Stmt} {scope:Scope} {dV kV doc pm cdv ct oc:Value} {an od:Option Addr}
  {osl:Array (Option Value)} {N ps:List Str} {sp:Sp} (lk:K.lookup f=some ⟨oc,od,.func (PySem.W.fnOf name qual params body scope dV kV doc pm an cdv ct),osl⟩) (hcd:PySem.W.codeIn K cdv qual=true) (S:FnScope N ps scope)
  (len:∀ vs H Q E,sp vs H Q E->vs.length=ps.length)
  (hbody:∀ (A:Around) (outer:List Env) (s:Shared) (H:Hp) (vs:List V) (Q:VK) (E:XK),Room k (A.deeper (envOfC qual scope s.heap.objs.size f cdv))->sp vs H Q E →
   ∃ t,GN (wj CX P w K mg base N qual scope f cdv A outer s H E) body t/\t { nx:=λ _ H'=>Q .non H',rt:=Q } (start N vs) H) :
  FnOk P w K mg base CX (k + 1) f (PySem.W.fnOf name qual params body scope dV kV doc pm an cdv ct) ps sp:=by
 refine ⟨len,λ A outer s H args us vs Q E hr e0 hb r hsp=>?_⟩
 have hl:=len _ _ _ _ hsp
 have KX:K.In s.heap:=e0.mod.kin.keeps λ b o e=>(e0.bs b o e).1
 have lim:s.heap.NoLimit:=e0.mod.nolimit.keeps λ b o e=>(e0.bs b o e).1
 have hkind:∀ y∈ps.zip us,scope.names.lookup y.1=some .local \/ (scope.names.lookup y.1=some .cell/\((cellsFrom (s.heap.objs.size + 1) scope.names []).lookup y.1).isSome=true):=λ ⟨n,v⟩ hy=>by
  rcases S.par n (List.of_mem_zip hy).1 with q | q
  ·exact .inl q
  ·exact .inr ⟨q,PySem.W.cellsFrom_some _ _ _ (.inl q)⟩
 refine codeAny_call_function hr.depth (KX _ _ lk) rfl S.co S.gen rfl (PySem.W.codeRec_of KX hcd) (hb _ _ _ _ ?_)
 refine wpAny_newFunctionEnv_cells S.kind hkind λ env he s1 x=>?_
 subst he
 refine ⟨lim.keeps x.toInCall.keep,codeAny_func ?_⟩
 obtain ⟨t,ht,hq⟩:=hbody A outer s H vs Q E (hr.deeper _) hsp
 have I:Inv (wj CX P w K mg base N qual scope f cdv A outer s H E) [] (start N vs) H s1:=Ax S hr.hd e0 hl r x
 refine wpAny_mono (ht [] s1 (start N vs) H _ I hq) (λ fl s' hs=>?_) λ e s' hs=>hs
 have fin:∀ {σ':St} {H':Hp} {v:V} {u:Value},Inv (wj CX P w K mg base N qual scope f cdv A outer s H E) [] σ' H' s'->bG v u->Q v H'->CE outer P w H s Q u s':=
  λ {σ' H' v u} J rv q=>⟨v,H',J.os,J.bare,J.base,J.hok,rv,q⟩
 cases fl with
 | ret u =>
  obtain ⟨v,σ',H',J,rv,q⟩:=hs
  exact fin J rv q
 | next =>
  obtain ⟨σ',H',J,q⟩:=hs
  exact fin (v:=V.non) (u:=Value.none) J rfl q
 | brk =>
  obtain ⟨_,_,_,q⟩:=hs
  exact False.elim q
 | cont =>
  obtain ⟨_,_,_,q⟩:=hs
  exact False.elim q
end L2
namespace L2
open PySem PySem.Spec PyProof.Rows
section
variable {X:Cx} {x:Str} {p pos:Pos} {e:Expr} {es:List Expr} {t:TA} {id T:String} {r:List V->Hp->VK->Prop}
noncomputable def LI (r:List V->Hp->VK->Prop) (t:TA):TE:=λ σ H Q=>t σ H λ vs H1=>r vs H1 Q
theorem ma (hc:jM X (.builtin id) r) (hg:Gl X x) (hm:X.mg x=none) (hv:bootBuiltins x=some (.builtin id)) (ha:PA X (e :: es) t) (hn:x ≠ "__name__":=by decide) (hdb:(x == ("__debug__" : Str))=false:=by decide)
  (he:starEach (e :: es) X.env=(false,eval e X.env) :: starEach es X.env:=by rfl) (hpl:(backTo pos (starEach es X.env)).any (·.1)=false:=by rfl):PE X (.Call (.Name x p) (e :: es) [] pos) (LI r t):=by
 intro pins s σ H Q I h
 refine wpAny_Call_Name_kw (gM I hg hm hv ?_ hn hdb)
 exact PyProof.Rows.callWith_builtin1 (br (ha pos pins s σ H _ I h) λ us s1 ⟨vs,H1,I1,r1,q1⟩=>hc pins s1 σ H1 vs us Q I1 r1 q1) he hpl
theorem tG (hc:jM X (.type T) r) (hg:Gl X x) (hm:X.mg x=none) (hv:bootBuiltins x=some (.type T)) (ha:PA X (e :: es) t) (hn:x ≠ "__name__":=by decide) (hdb:(x == ("__debug__" : Str))=false:=by decide)
  (he:starEach (e :: es) X.env=(false,eval e X.env) :: starEach es X.env:=by rfl) (hpl:(backTo pos (starEach es X.env)).any (·.1)=false:=by rfl):PE X (.Call (.Name x p) (e :: es) [] pos) (LI r t):=by
 intro pins s σ H Q I h
 refine wpAny_Call_Name_kw (gM I hg hm hv ?_ hn hdb)
 exact PyProof.Rows.callWith_type1 (br (ha pos pins s σ H _ I h) λ us s1 ⟨vs,H1,I1,r1,q1⟩=>hc pins s1 σ H1 vs us Q I1 r1 q1) he hpl
end
end L2
namespace HT
open PySem PyProof.Rows
section
open PySem.SeqAt
open PySem.AutoSeq1 (wpAny_loadPart')
open PySem.MeetsSeq PySem.MeetsSeq2 PySem.MeetsSeq3
end
section
variable {prog:Program} {w:World} {A:Around} {E:Value->Shared->Prop} {s:Shared}
noncomputable def sIx (n d:Nat):Option Int->Nat
 | none=>d
 | some v=>if v < 0 then (v + (n:Int)).toNat else min v.toNat n
theorem sIx_none (n d:Nat):sIx n d none=d:=rfl
theorem sIx_nat (n d k:Nat):sIx n d (some (k:Int))=min k n:=by
 show (if (k:Int) < 0 then ((k:Int) + (n:Int)).toNat else min (k:Int).toNat n)=min k n
 rw [if_neg (by omega),Int.toNat_natCast]
theorem yZ (n d:Nat) (hd:d <= n) (o:Option Int):sIx n d o <= n:=by
 cases o with
 | none=>exact hd
 | some v =>
  show (if v < 0 then (v + (n:Int)).toNat else min v.toNat n) <= n
  by_cases hv:v < 0
  ·rw [if_pos hv];omega
  ·rw [if_neg hv];exact Nat.min_le_right _ _
theorem zn (v:Int) (n d:Nat):(if v < 0 then max (v + (n:Int)) 0 else min v (n:Int))=((sIx n d (some v):Nat):Int):=by
 show (if v < 0 then max (v + (n:Int)) 0 else min v (n:Int))=(((if v < 0 then (v + (n:Int)).toNat else min v.toNat n):Nat):Int)
 by_cases hv:v < 0
 ·simp only [if_pos hv];omega
 ·simp only [if_neg hv];omega
theorem xT (lo hi:Option Int) (n:Nat):Builtin.Slice.sliceAdjust lo hi 1 (n:Int)=(((sIx n 0 lo:Nat):Int),((sIx n n hi:Nat):Int)):=by
 have h1:¬ ((1:Int) < 0):=by omega
 unfold Builtin.Slice.sliceAdjust
 simp only [h1,if_false]
 refine Prod.ext ?_ ?_
 ·cases lo with
  | none=>rfl
  | some v=>exact zn v n 0
 ·cases hi with
  | none=>rfl
  | some v=>exact zn v n n
theorem yM (i j:Nat):Builtin.Slice.slicePlaces (i:Int) (j:Int) 1=j - i:=by
 unfold Builtin.Slice.slicePlaces
 have h1:(1:Int) > 0:=by omega
 simp only [h1,if_true,Int.ediv_one]
 split <;> omega
theorem rQ {v:Value} {o:Option Int} {Q:Option Int->Shared->Prop} (p:IsPart v o) (h:Q o s):wpAny (model prog w) A (Builtin.Slice.slicePartIndex v) Q E s:=by
 cases p with
 | none=>exact slicePart_none h
 | int i t=>exact slicePart_int h
theorem pf {sl:Addr} {vl vu:Value} {lo hi:Option Int} {n:Nat} {Q:Int × Int × Nat->Shared->Prop} (hs:s.heap.IsSliceOf sl vl vu .none) (pl:IsPart vl lo) (pu:IsPart vu hi)
  (h:Q (((sIx n 0 lo:Nat):Int),1,sIx n n hi - sIx n 0 lo) s):wpAny (model prog w) A (Builtin.Slice.sliceApplied (.ref sl) (pure (n:Int))) Q E s:=by
 obtain ⟨os,hos,hcs,hds⟩:=id hs
 unfold Builtin.Slice.sliceApplied Builtin.Slice.sliceFields
 refine wpAny_bind (wpAny_bind (wpAny_field hos hds (x:=vl) rfl (wpAny_bind (wpAny_field hos hds (x:=vu) rfl (wpAny_bind (wpAny_field hos hds (x:=.none) rfl (wpAny_pure ?_)))))))
 refine wpAny_bind (slicePart_none ?_)
 show wpAny _ _ (if ((1:Int) == 0)=true then _ else _) _ _ s
 rw [if_neg (by decide)]
 refine wpAny_bind (rQ pl (wpAny_bind (rQ pu (wpAny_bind (wpAny_pure ?_)))))
 show wpAny _ _ (match Builtin.Slice.sliceAdjust lo hi 1 (n:Int) with | (lo,hi)=>pure (lo,(1:Int),Builtin.Slice.slicePlaces lo hi 1)) _ _ s
 rw [xT lo hi n]
 show wpAny _ _ (pure (((sIx n 0 lo:Nat):Int),(1:Int),Builtin.Slice.slicePlaces ((sIx n 0 lo:Nat):Int) ((sIx n n hi:Nat):Int) 1)) _ _ s
 rw [yM]
 exact wpAny_pure h
theorem C1 (xs:Array Value) (i k:Nat):((List.range k).filterMap λ (m:Nat)=>xs[((i:Int) + (m:Int) * 1).toNat]?).toArray=((xs.toList.drop i).take k).toArray:=by
 have e:(λ (m:Nat)=>xs[((i:Int) + (m:Int) * 1).toNat]?)=λ m=>xs[i + m]?:=by
  funext m
  have:((i:Int) + (m:Int) * 1).toNat=i + m:=by omega
  rw [this]
 rw [e]
 have:=pick_run xs i k
 rw [List.filterMap_map] at this
 have e2:((λ x=>xs[x]?) ∘ λ x=>i + x)=λ m=>xs[i + m]?:=rfl
 rw [e2] at this
 rw [this]
theorem getItem_tuple_cut {t sl:Addr} {items:Array Value} {vl vu:Value} {lo hi:Option Int} {Q:Value->Shared->Prop} (ht:IsTup s.heap t items) (hs:s.heap.IsSliceOf sl vl vu .none) (pl:IsPart vl lo) (pu:IsPart vu hi)
  (hw:¬ (sIx items.size 0 lo=0/\sIx items.size items.size hi=items.size))
  (h:Q (.ref s.heap.objs.size) { s with heap:=s.heap.push { cls:=.type "tuple",data:=.seq ((items.toList.drop (sIx items.size 0 lo)).take (sIx items.size items.size hi - sIx items.size 0 lo)).toArray } })
  (hsz:items.size <= sizeLine):wpAny (model prog w) A (getItem (.ref t) (.ref sl)) Q E s:=by
 have htake:sizeOk (.seq ((items.toList.drop (sIx items.size 0 lo)).take (sIx items.size items.size hi - sIx items.size 0 lo)).toArray):=by
  show ((items.toList.drop (sIx items.size 0 lo)).take (sIx items.size items.size hi - sIx items.size 0 lo)).toArray.size <= sizeLine
  rw [List.size_toArray,List.length_take,List.length_drop,Array.length_toList]
  omega
 have hj:sIx items.size items.size hi <= items.size:=yZ _ _ (Nat.le_refl _) hi
 obtain ⟨os,hos,hcs,hds⟩:=id hs
 have hTs:s.TypeIs (.ref sl) "slice":=⟨os,hos,hcs⟩
 unfold getItem
 try with_reducible refine wpAny_holding ?_
 first | refine wpAny_bind (wpAny_pure ?_) | skip
 refine wpAny_bind (wpAny_sequenceKey ht.typeIs (by decide) ?_)
 refine wpAny_bind (wpAny_callSpecial?_slot (name:=Str.ofString "__getitem__") ht.typeIs PyProof.Rows.slot_tuple_getitem
  (wpAny_call_entry PyProof.Rows.slot_tuple_getitem ht.typeIs entry_tuple_getitem ?_ (args_tuple_getitem _ _)))
 show wpAny _ _ (Builtin.Tuple.tupleItemsOf (.ref t) >>= _) _ _ s
 refine wpAny_bind (tupleItemsOf_ ht ?_)
 refine wpAny_bind (wpAny_typeOf hTs ?_)
 rw [if_pos (by decide)]
 refine wpAny_bind (pf hs pl pu ?_)
 have hno:¬ ((((sIx items.size 0 lo:Nat):Int) == 0 && (1:Int) == 1 && (sIx items.size items.size hi - sIx items.size 0 lo) == items.size)=true):=by
  intro q
  rw [Bool.and_eq_true,Bool.and_eq_true] at q
  have q1:((sIx items.size 0 lo:Nat):Int)=0:=eq_of_beq q.1.1
  have q2:sIx items.size items.size hi - sIx items.size 0 lo=items.size:=eq_of_beq q.2
  exact hw ⟨by omega,by omega⟩
 show wpAny _ _ (if (((sIx items.size 0 lo:Nat):Int) == 0 && (1:Int) == 1 && (sIx items.size items.size hi - sIx items.size 0 lo) == items.size)=true then _ else _) _ _ s
 rw [if_neg hno,C1]
 first
  | exact wpAny_bind (m:=Builtin.Tuple.tupleExact _) (wpAny_newObj_type (wpAny_pure ⟨_,rfl,wpAny_pure h⟩) htake)
  | exact wpAny_bind (m:=Builtin.Tuple.tupleExact _) (wpAny_newObj_type (wpAny_bind (wpAny_pure (wpAny_pure ⟨_,rfl,wpAny_pure h⟩))) htake)
  | exact wpAny_bind (wpAny_bind (m:=Builtin.Tuple.tupleExact _) (wpAny_newObj_type (wpAny_pure (wpAny_pure ⟨_,rfl,wpAny_pure h⟩)) htake))
  | exact wpAny_bind (wpAny_bind (m:=Builtin.Tuple.tupleExact _) (wpAny_newObj_type (wpAny_pure ⟨_,rfl,wpAny_pure h⟩) htake))
end
end HT
namespace L2
open PySem PySem.Spec PyProof.Rows
noncomputable abbrev TO:=St->Hp->(Option Int->Hp->Prop)->Prop
noncomputable def PO (X:Cx) (e:Option Expr) (t:TO):Prop:=
 ∀ (pins:List (Addr × Obj)) (s:Shared) (σ:St) (H:Hp) (Q:Option Int->Hp->Prop),Inv X pins σ H s->t σ H Q →
  wpAny (model X.prog X.w) X.A (evalPart e X.env) (λ u s'=>∃ o H',Inv X pins σ H' s'/\IsPart u o/\Q o H') X.xe s
noncomputable def F5:TO:=λ _ H Q=>Q none H
noncomputable def Ke (t:TE):TO:=λ σ H Q=>t σ H λ x H1=>∃ i,x=.int i/\Q (some i) H1
section
variable {X:Cx} {e:Expr} {te:TE} {lo hi:Option Expr} {tl th:TO} {pos p2:Pos}
theorem Ff:PO X none F5:=by
 intro pins s σ H Q I h
 rw [evalPart_none]
 exact wpAny_pure ⟨none,H,I,.none,h⟩
theorem Fg (h:PE X e te):PO X (some e) (Ke te):=by
 intro pins s σ H Q I hw
 rw [evalPart_some]
 refine br (h pins s σ H _ I hw) λ u s1 ⟨x,H1,I1,r1,q1⟩=>?_
 obtain ⟨i,rfl,q⟩:=q1
 obtain ⟨t,rfl⟩:=r1
 exact ⟨some i,H1,I1,.int i t,q⟩
noncomputable def D8 (X:Cx) (r:V->Option Int->Option Int->Hp->VK->Prop):Prop:=
 ∀ (pins:List (Addr × Obj)) (s:Shared) (σ:St) (H:Hp) (x:V) (v vl vu:Value) (lo hi:Option Int) (sl:Addr) (Q:VK),Inv X pins σ H s->bG x v->s.heap.IsSliceOf sl vl vu .none->IsPart vl lo->IsPart vu hi->r x lo hi H Q →
  ∃ T id,typeLookup (.type T) "__getitem__" = pure (some (.builtin id))/\s.TypeIs v T/\wpAny (model X.prog X.w) X.A (getItem v (.ref sl)) (EP X pins σ Q) X.xe s
theorem D8.or {r r':V->Option Int->Option Int->Hp->VK->Prop} (h:D8 X r) (h':D8 X r'):D8 X (λ x lo hi H Q=>r x lo hi H Q \/ r' x lo hi H Q):=by
 intro pins s σ H x v vl vu lo hi sl Q I rx hs pl pu q
 rcases q with q | q
 ·exact h pins s σ H x v vl vu lo hi sl Q I rx hs pl pu q
 ·exact h' pins s σ H x v vl vu lo hi sl Q I rx hs pl pu q
noncomputable def LQ (r:V->Option Int->Option Int->Hp->VK->Prop) (te:TE) (tl th:TO):TE:=λ σ H Q=>te σ H λ x H1=>tl σ H1 λ l H2=>th σ H2 λ u H3=>r x l u H3 Q
theorem CT {r:V->Option Int->Option Int->Hp->VK->Prop} (hr:D8 X r) (he:PE X e te) (hl:PO X lo tl) (hu:PO X hi th):PE X (.Subscript e (.Slice lo hi none p2) pos) (LQ r te tl th):=by
 intro pins s σ H Q I h
 refine Subscript_ (br (he pins s σ H _ I h) λ v s1 ⟨x,H1,I1,r1,q1⟩=>?_)
 refine wpAny_Slice (br (hl pins s1 σ H1 _ I1 q1) λ vl s2 ⟨l,H2,I2,pl,q2⟩=>br (hu pins s2 σ H2 _ I2 q2) λ vu s3 ⟨u,H3,I3,pu,q3⟩=>?_)
 rw [evalPart_none]
 refine wpAny_pure ?_
 have I4:Inv X pins σ H3 { s3 with heap:=s3.heap.push { cls:=.type "slice",data:=.fields #[vl,vu,.none] } }:=I3.kept (t':=s3.toks) λ b ob q=>Heap.get?_push_of_some _ q
 obtain ⟨T,id,hT,ht,hg⟩:=hr pins { s3 with heap:=s3.heap.push { cls:=.type "slice",data:=.fields #[vl,vu,.none] } } σ H3 x v vl vu l u s3.heap.objs.size Q I4 r1 (Heap.IsSliceOf.new ..) pl pu q3
 show wpAny (model X.prog X.w) X.A (subscriptTail e (.Slice lo hi none p2) v (.ref s3.heap.objs.size)) (EP X pins σ Q) X.xe { s3 with heap:=s3.heap.push { cls:=.type "slice",data:=.fields #[vl,vu,.none] } }
 exact tail_any (ops:=[.ref s3.heap.objs.size,v]) ht hT hg (by with_unfolding_all rfl)
noncomputable def sf (xs:List V) (lo hi:Option Int):List V:=(xs.drop (HT.sIx xs.length 0 lo)).take (HT.sIx xs.length xs.length hi - HT.sIx xs.length 0 lo)
theorem pJ (xs:List V) (lo hi:Option Int):(sf xs lo hi).length <= xs.length:=by
 unfold sf
 rw [List.length_take,List.length_drop]
 omega
noncomputable def Lm (K:PySem.W.Frag):V->Option Int->Option Int->Hp->VK->Prop:=λ x lo hi H Q=>∃ a xs,x=.ref a/\mS K H a xs ∧
 ¬ (HT.sIx xs.length 0 lo=0/\HT.sIx xs.length xs.length hi=xs.length)/\∀ p,H p=none->Q (.ref p) (upd H p (.tup (sf xs lo hi)))
theorem IU:D8 X (Lm X.K):=by
 intro pins s σ H x v vl vu lo hi sl Q I rx hs pl pu h
 obtain ⟨a,xs,rfl,hx,hw,q⟩:=h
 cases rx
 obtain ⟨its,r,ht,hz⟩:=I.tuple hx
 have hlen:its.toArray.size=xs.length:=by rw [List.size_toArray];exact r.length.symm
 refine ⟨"tuple",_,PyProof.Rows.slot_tuple_getitem.lookup,ht.typeIs,?_⟩
 refine HT.getItem_tuple_cut ht hs pl pu (by rw [hlen];exact hw) ?_ (by rw [hlen];exact hz)
 rw [hlen]
 refine ⟨.ref s.heap.objs.size,_,I.laid (t':=s.toks) (o:=.tup (sf xs lo hi)) (λ b ob q=>Heap.get?_push_of_some _ q) (Nat.le_refl _) ?_,rfl,q _ (I.hok.fresh (Nat.le_refl _))⟩
 exact ⟨Nat.le_trans (pJ xs lo hi) hz,_,(r.drop (HT.sIx xs.length 0 lo)).take (HT.sIx xs.length xs.length hi - HT.sIx xs.length 0 lo),IsTup.new _ _⟩
end
end L2
namespace L2
open PySem PySem.Spec PyProof.Rows
noncomputable def EJ (n:Nat) (i:Int):Option Nat:=if 0 <= i then (if i < n then some i.toNat else none) else if -(n:Int) <= i then some (i + n).toNat else none
noncomputable def qD {α:Type} (xs:List α) (i:Int):Option α:=(EJ xs.length i).bind λ j=>xs[j]?
theorem EK {n:Nat} {i:Int} {j:Nat} (h:EJ n i=some j):seqIndex? i n=some j/\j < n/\-(n:Int) <= i/\i < n:=by
 unfold EJ at h
 by_cases h0:0 <= i
 ·rw [if_pos h0] at h
  by_cases h1:i < n
  ·rw [if_pos h1] at h
   have e:i.toNat=j:=Option.some.inj h
   exact ⟨by rw [seqIndex_of h0 h1,e],by omega,by omega,h1⟩
  ·rw [if_neg h1] at h;cases h
 ·rw [if_neg h0] at h
  by_cases h1:-(n:Int) <= i
  ·rw [if_pos h1] at h
   have e:(i + n).toNat=j:=Option.some.inj h
   exact ⟨by rw [seqIndex_neg (by omega) h1,e],by omega,h1,by omega⟩
  ·rw [if_neg h1] at h;cases h
theorem ut {α:Type} {xs:List α} {i:Int} {v:α} (h:qD xs i=some v):∃ j,seqIndex? i xs.length=some j/\xs[j]?=some v/\j < xs.length/\-(xs.length:Int) <= i/\i < xs.length:=by
 unfold qD at h
 cases e:EJ xs.length i with
 | none=>rw [e] at h;cases h
 | some j =>
  rw [e] at h
  obtain ⟨h1,h2,h3,h4⟩:=EK e
  exact ⟨j,h1,h,h2,h3,h4⟩
theorem El {α:Type} {xs:List α} {j:Nat} {v:α} (h:xs[j]?=some v):qD xs (j:Int)=some v:=by
 have hj:j < xs.length:=(List.getElem?_eq_some_iff.mp h).1
 have e:EJ xs.length (j:Int)=some j:=by
  unfold EJ
  rw [if_pos (by omega),if_pos (by omega)];simp
 unfold qD;rw [e];exact h
noncomputable def ug (b:Expr):Prop:=∀ o i,subscripted b false o i=operate [o,i] (getItem o i)
noncomputable def Ee (X:Cx) (r:R2):Prop:=
 ∀ (value slice:Expr) (pins:List (Addr × Obj)) (s:Shared) (σ:St) (H:Hp) (x y:V) (v u:Value) (Q:VK),Inv X pins σ H s->bG x v->bG y u->r x y H Q →
  subscripted slice false v u=operate [v,u] (getItem v u)->wpAny (model X.prog X.w) X.A (subscriptTail value slice v u) (EP X pins σ Q) X.xe s
noncomputable def KL (X:Cx) (id:String) (r:V->List V->Hp->VK->Prop):Prop:=
 ∀ (pins:List (Addr × Obj)) (s:Shared) (σ:St) (H:Hp) (x:V) (xs:List V) (v:Value) (us:List Value) (Q:VK),Inv X pins σ H s->bG x v->ba xs us->r x xs H Q →
  wpAny (model X.prog X.w) X.A (call (.builtin id) (v :: us)) (EP X pins σ Q) X.xe s
section
variable {X:Cx} {a b:Expr} {ta tb:TE} {pos:Pos}
theorem Ee.or {r r':R2} (h:Ee X r) (h':Ee X r'):Ee X (λ x y H Q=>r x y H Q \/ r' x y H Q):=by
 intro value slice pins s σ H x y v u Q I rx ry q hs
 rcases q with q | q
 ·exact h value slice pins s σ H x y v u Q I rx ry q hs
 ·exact h' value slice pins s σ H x y v u Q I rx ry q hs
theorem Gz {r:R2} (hr:Ee X r) (ha:PE X a ta) (hb:PE X b tb) (hs:ug b):PE X (.Subscript a b pos) (Jl r ta tb):=by
 intro pins s σ H Q I h
 exact Subscript_ (GS ha hb I h λ v u s2 x y H2 I2 rx ry q=>hr a b pins s2 σ H2 x y v u Q I2 rx ry q (hs _ _))
noncomputable def J3 (K:PySem.W.Frag):R2:=λ x y H Q=>∃ p xs i v,x=.ref p/\y=.int i/\bz K H p xs/\qD xs i=some v/\Q v H
noncomputable def FN (K:PySem.W.Frag):R2:=λ x y H Q=>∃ p xs i v,x=.ref p/\y=.int i/\mS K H p xs/\qD xs i=some v/\Q v H
noncomputable def J4:R2:=λ x y H Q=>∃ z i c,x=.str z/\y=.int i/\z.length <= sizeLine/\qD z.cps.toList i=some c/\Q (.str ⟨#[c]⟩) H
theorem EL:Ee X (J3 X.K):=by
 intro value slice pins s σ H x y v u Q I rx ry h hs
 obtain ⟨p,xs,i,z,rfl,rfl,hq,he,q⟩:=h
 cases rx
 obtain ⟨t,rfl⟩:=ry
 obtain ⟨its,r,pl,hz⟩:=I.list hq
 obtain ⟨j,h1,h2,h3,h4,h5⟩:=ut he
 obtain ⟨w,ew,rw'⟩:=r.get h2
 have hl:=r.length
 have hn:=oS
 have fin:EP X pins σ Q w s:=⟨z,H,I,rw',q⟩
 by_cases h0:0 <= i
 ·have hj:i.toNat=j:=by
   rw [seqIndex_of h0 h5] at h1
   exact Option.some.inj h1
  exact item_listR pl.isList h0 (by omega) (by rw [hj];simpa using ew) fin hs
 ·have hj:(i + (its.toArray.size:Int)).toNat=j:=by
   rw [seqIndex_neg (by omega) h4] at h1
   rw [List.size_toArray,<- hl]
   exact Option.some.inj h1
  exact subscriptTail_builtinR (x:=w) pl.isList.typeIs slot_list_getitem.lookup
   (wpAny_getItem_list_neg (Q:=λ r s'=>r=w/\EP X pins σ Q r s') pl.isList (by omega) (by rw [List.size_toArray] <;> omega) (by omega) (by rw [hj];simpa using ew) ⟨rfl,fin⟩) hs
theorem Cq:Ee X (FN X.K):=by
 intro value slice pins s σ H x y v u Q I rx ry h hs
 obtain ⟨p,xs,i,z,rfl,rfl,hq,he,q⟩:=h
 cases rx
 obtain ⟨t,rfl⟩:=ry
 obtain ⟨its,r,pl,hz⟩:=I.tuple hq
 obtain ⟨j,h1,h2,h3,h4,h5⟩:=ut he
 obtain ⟨w,ew,rw'⟩:=r.get h2
 have hl:=r.length
 have hn:=oS
 have fin:EP X pins σ Q w s:=⟨z,H,I,rw',q⟩
 exact subscriptTail_builtinR (x:=w) pl.typeIs slot_tuple_getitem.lookup
  (getItem_tuple (j:=j) (Q:=λ r s'=>r=w/\EP X pins σ Q r s') pl (by omega) (by omega) (by rw [List.size_toArray,<- hl];exact h1) (by simpa using ew) ⟨rfl,fin⟩) hs
theorem Hl:Ee X J4:=by
 intro value slice pins s σ H x y v u Q I rx ry h hs
 obtain ⟨z,i,c,rfl,rfl,hz,he,q⟩:=h
 obtain ⟨t,rfl⟩:=rx
 obtain ⟨t',rfl⟩:=ry
 obtain ⟨j,h1,h2,h3,h4,h5⟩:=ut he
 have hl:z.cps.toList.length=z.length:=by simp [Str.length]
 rw [hl] at h1 h4 h5
 have hn:=oS
 exact tail_any (typeIs_str s z t) slot_str_getitem.lookup (getItem_str (c:=c) (by
  have e1:decide (i < -(2 ^ 63:Int))=false:=decide_eq_false (by omega)
  have e2:decide (i ≥ 2 ^ 63)=false:=decide_eq_false (by omega)
  rw [e1,e2,Bool.or_false]) (by rw [h1];simpa using h2) ⟨.str ⟨#[c]⟩,H,I.tok _,⟨_,rfl⟩,q⟩) hs
noncomputable def LH (K:PySem.W.Frag):R2:=λ x y H Q=>J3 K x y H Q \/ FN K x y H Q \/ J4 x y H Q
theorem Hk:Ee X (LH X.K):=EL.or (Cq.or Hl)
theorem vS (lo hi:Option Int) (n:Nat):(sliceBounds lo hi none n).1=((HT.sIx n 0 lo:Nat):Int)/\(sliceBounds lo hi none n).2.1=((HT.sIx n n hi:Nat):Int)/\(sliceBounds lo hi none n).2.2=1:=by
 refine ⟨?_,?_,rfl⟩
 ·cases lo with
  | none=>simp [sliceBounds,HT.sIx]
  | some i =>
   simp only [sliceBounds,HT.sIx,Option.getD_none,show (1:Int) > 0 by decide,if_true]
   by_cases h:i < 0
   ·simp only [h,if_true] <;> omega
   ·simp only [h,if_false] <;> omega
 ·cases hi with
  | none=>simp [sliceBounds,HT.sIx]
  | some i =>
   simp only [sliceBounds,HT.sIx,Option.getD_none,show (1:Int) > 0 by decide,if_true]
   by_cases h:i < 0
   ·simp only [h,if_true] <;> omega
   ·simp only [h,if_false] <;> omega
theorem sL (its:List Value) (lo hi:Option Int):slicePick its.toArray lo hi none=((its.drop (HT.sIx its.length 0 lo)).take (HT.sIx its.length its.length hi - HT.sIx its.length 0 lo)).toArray:=by
 obtain ⟨h1,h2,h3⟩:=vS lo hi its.toArray.size
 unfold slicePick
 rw [h1,h2,h3]
 simp only [sliceRange_one,pick_run,List.size_toArray] <;> rfl
noncomputable def J5 (K:PySem.W.Frag):V->Option Int->Option Int->Hp->VK->Prop:=λ x lo hi H Q=>∃ a xs,x=.ref a/\bz K H a xs/\∀ p,H p=none->Q (.ref p) (upd H p (.lst (sf xs lo hi)))
theorem FR:D8 X (J5 X.K):=by
 intro pins s σ H x v vl vu lo hi sl Q I rx hs pl pu h
 obtain ⟨a,xs,rfl,hx,q⟩:=h
 cases rx
 obtain ⟨its,r,ht,hz⟩:=I.list hx
 have hlen:=r.length
 refine ⟨"list",_,slot_list_getitem.lookup,ht.isList.typeIs,?_⟩
 refine wpAny_getItem_list_slice ht.isList hs pl pu .none (by simp) ?_ (by rw [List.size_toArray] <;> omega)
 rw [sL,<- hlen]
 refine ⟨.ref s.heap.objs.size,_,I.laid (t':=s.toks) (o:=.lst (sf xs lo hi)) (λ b ob q=>Heap.get?_push_of_some _ q) (Nat.le_refl _) ?_,rfl,q _ (I.hok.fresh (Nat.le_refl _))⟩
 exact ⟨Nat.le_trans (pJ xs lo hi) hz,_,0,(r.drop (HT.sIx xs.length 0 lo)).take (HT.sIx xs.length xs.length hi - HT.sIx xs.length 0 lo),Heap.get?_push_size _ rfl⟩
noncomputable def i8:V->Bool
 | .non=>true
 | .bl _=>true
 | .int _=>true
 | .str _=>true
 | _=>false
noncomputable def Ea:V->V->Bool
 | .non,.non=>true
 | .bl a,.bl b=>a == b
 | .bl a,.int b=>(if a then 1 else 0) == b
 | .int a,.bl b=>a == (if b then 1 else 0)
 | .int a,.int b=>a == b
 | .str a,.str b=>a == b
 | _,_=>false
theorem G9 {A:Around} {s:Shared} {y x:V} {u v:Value} (ry:bG y u) (rx:bG x v) (fy:i8 y=true) (fx:i8 x=true):SeqAt.EqAt A s u v (Ea y x):=by
 cases y with
 | non =>
  cases ry
  cases x with
  | non=>cases rx;exact SeqAt.EqAt.same _
  | bl b=>cases rx;exact SeqAt.EqAt.none_bool b
  | int b=>obtain ⟨t,rfl⟩:=rx;exact SeqAt.EqAt.none_int b t
  | str b=>obtain ⟨t,rfl⟩:=rx;exact SeqAt.EqAt.none_str b t
  | _=>exact absurd (show false=true from fx) Bool.false_ne_true
 | bl a =>
  cases ry
  cases x with
  | non=>cases rx;exact SeqAt.EqAt.bool_none a
  | bl b=>cases rx;exact SeqAt.EqAt.bool_bool a b
  | int b=>obtain ⟨t,rfl⟩:=rx;exact SeqAt.EqAt.bool_int a b t
  | str b=>obtain ⟨t,rfl⟩:=rx;exact SeqAt.EqAt.bool_str a b t
  | _=>exact absurd (show false=true from fx) Bool.false_ne_true
 | int a =>
  obtain ⟨t',rfl⟩:=ry
  cases x with
  | non=>cases rx;exact SeqAt.EqAt.int_none a t'
  | bl b=>cases rx;exact SeqAt.EqAt.int_bool a t' b
  | int b=>obtain ⟨t,rfl⟩:=rx;exact SeqAt.EqAt.int_int a t' b t
  | str b=>obtain ⟨t,rfl⟩:=rx;exact SeqAt.EqAt.int_str a t' b t
  | _=>exact absurd (show false=true from fx) Bool.false_ne_true
 | str a =>
  obtain ⟨t',rfl⟩:=ry
  cases x with
  | non=>cases rx;exact SeqAt.EqAt.str_none a t'
  | bl b=>cases rx;exact SeqAt.EqAt.str_bool a t' b
  | int b=>obtain ⟨t,rfl⟩:=rx;exact SeqAt.EqAt.str_int a t' b t
  | str b=>obtain ⟨t,rfl⟩:=rx;exact SeqAt.EqAt.str_str a t' b t
  | _=>exact absurd (show false=true from fx) Bool.false_ne_true
 | _=>exact absurd (show false=true from fy) Bool.false_ne_true
noncomputable def EB (x:V) (u:Value):Bool:=match u with
 | .none=>Ea .non x
 | .bool b=>Ea (.bl b) x
 | .int i _=>Ea (.int i) x
 | .str z _=>Ea (.str z) x
 | _=>false
theorem B5 {x y:V} {u:Value} (r:bG y u) (f:i8 y=true):EB x u=Ea y x:=by
 cases y with
 | non=>cases r;rfl
 | bl b=>cases r;rfl
 | int i=>obtain ⟨t,rfl⟩:=r;rfl
 | str z=>obtain ⟨t,rfl⟩:=r;rfl
 | _=>exact absurd (show false=true from f) Bool.false_ne_true
theorem ur {x:V}:∀ {xs:List V} {us:List Value},ba xs us->xs.all i8=true->us.any (EB x)=xs.any λ y=>Ea y x
 | _,_,.nil,_=>rfl
 | y :: xs,u :: us,.cons r t,f=>by
  rw [List.all_cons,Bool.and_eq_true] at f
  rw [List.any_cons,List.any_cons,B5 r f.1,ur t f.2]
theorem rg {A:Around} {s:Shared} {x:V} {v:Value} (rx:bG x v) (fx:i8 x=true):∀ {xs:List V} {us:List Value},ba xs us->xs.all i8=true->∀ u∈us,SeqAt.EqAt A s u v (EB x u)
 | _,_,.nil,_=>λ u hu=>by cases hu
 | y :: xs,u :: us,.cons r t,f=>λ u' hu=>by
  rw [List.all_cons,Bool.and_eq_true] at f
  rcases List.mem_cons.mp hu with rfl | hu
  ·rw [B5 r f.1];exact G9 r rx f.1 fx
  ·exact rg rx fx t f.2 u' hu
noncomputable def Ji (x:V) (xs:List V):Bool:=xs.any λ y=>Ea y x
noncomputable def LG (K:PySem.W.Frag) (neg:Bool):R2:=λ x y H Q=>∃ p xs,y=.ref p/\(bz K H p xs \/ mS K H p xs)/\i8 x=true/\xs.all i8=true/\Q (.bl (if neg then !Ji x xs else Ji x xs)) H
theorem vb:my X (compareOp .NotIn) (LG X.K true):=by
 intro pins s σ H x y v u Q I rx ry h
 obtain ⟨p,xs,rfl,hq,fx,fs,q⟩:=h
 cases ry
 rcases hq with hq | hq
 ·obtain ⟨its,r,pl,hz⟩:=I.list hq
  refine SeqAt.notIn_listAt (EB x) pl.isList (λ w hw=>rg rx fx r fs w (by simpa using hw)) ⟨.bl _,H,I,rfl,?_⟩
  rw [show its.toArray.any (EB x)=its.any (EB x) by simp,ur r fs]
  exact q
 ·obtain ⟨its,r,pl,hz⟩:=I.tuple hq
  refine SeqAt.notIn_tupleAt (EB x) pl (λ w hw=>rg rx fx r fs w (by simpa using hw)) ⟨.bl _,H,I,rfl,?_⟩
  rw [show its.toArray.any (EB x)=its.any (EB x) by simp,ur r fs]
  exact q
theorem vc:my X (compareOp .NotIn) (λ x y H Q=>∃ i j,x=.str i/\y=.str j/\Q (.bl (!(!(Builtin.Str.occurrences j i 0 j.length 1).isEmpty))) H):=by
 intro pins s σ H x y v u Q I rx ry h
 obtain ⟨i,j,rfl,rfl,q⟩:=h
 obtain ⟨t,rfl⟩:=rx
 obtain ⟨t',rfl⟩:=ry
 exact notIn_str ⟨.bl _,H,I,rfl,q⟩
theorem uy:jM X (.builtin "len") (λ xs H Q=>∃ p ys,xs=[.ref p]/\(bz X.K H p ys \/ mS X.K H p ys)/\Q (.int ys.length) H):=by
 intro pins s σ H xs us Q I r h
 obtain ⟨p,ys,rfl,hq,q⟩:=h
 obtain ⟨u,rfl,rx⟩:=rX r
 cases rx
 have hn:=oS
 rcases hq with hq | hq
 ·obtain ⟨its,r',pl,hz⟩:=I.list hq
  have hlen:=r'.length
  exact Calls.call_len_list pl.isList (by simp only [List.size_toArray] <;> omega) ⟨.int ys.length,H,I.tok _,⟨s.toks + 1,by rw [List.size_toArray,hlen]⟩,q⟩
 ·obtain ⟨its,r',pl,hz⟩:=I.tuple hq
  have hlen:=r'.length
  exact len_tuple pl (by simp only [List.size_toArray] <;> omega) ⟨.int ys.length,H,I.tok _,⟨s.toks + 1,by rw [List.size_toArray,hlen]⟩,q⟩
theorem uz:jM X (.builtin "len") (λ xs H Q=>∃ z,xs=[.str z]/\z.length <= sizeLine/\Q (.int z.length) H):=by
 intro pins s σ H xs us Q I r h
 obtain ⟨z,rfl,hz,q⟩:=h
 obtain ⟨u,rfl,t,rfl⟩:=rX r
 have hn:=oS
 exact len_str (by omega) ⟨.int z.length,H,I.tok _,⟨_,rfl⟩,q⟩
theorem uA:jM X (.type "list") (λ xs H Q=>∃ p ys,xs=[.ref p]/\(bz X.K H p ys \/ mS X.K H p ys)/\∀ l,H l=none->Q (.ref l) (upd H l (.lst ys))):=by
 intro pins s σ H xs us Q I r h
 obtain ⟨p,ys,rfl,hq,q⟩:=h
 obtain ⟨u,rfl,rx⟩:=rX r
 cases rx
 have fin:∀ (its:List Value),ba ys its->ys.length <= sizeLine->∀ (h':Heap) (c':Nat),(∀ b o',s.heap.get? b=some o'->h'.get? b=some o') →
   h'.get? s.heap.objs.size=some { cls:=.type "list",dict:=none,data:=.seq its.toArray c',slots:=#[] }->EP X pins σ Q (.ref s.heap.objs.size) { s with heap:=h' }:=λ its r' hz h' c' kp e =>
  ⟨.ref s.heap.objs.size,_,I.laid (t':=s.toks) kp (Nat.le_refl _) (show dG X.prog X.w _ h' _ (.lst ys) from ⟨hz,its,c',r',e⟩),rfl,q _ (I.hok.fresh (Nat.le_refl _))⟩
 rcases hq with hq | hq
 ·obtain ⟨its,r',pl,hz⟩:=I.list hq
  have hlen:=r'.length
  obtain ⟨o,ho,hc,n,hd⟩:=pl.isList
  exact call_list_seq p (.inl rfl) ho hc hd (λ h' c' kp e=>fin its r' hz h' c' kp e) (by simp only [List.size_toArray] <;> omega)
 ·obtain ⟨its,r',pl,hz⟩:=I.tuple hq
  have hlen:=r'.length
  obtain ⟨o,ho,hc,n,hd⟩:=pl
  exact call_list_seq p (.inr rfl) ho hc hd (λ h' c' kp e=>fin its r' hz h' c' kp e) (by simp only [List.size_toArray] <;> omega)
noncomputable def Lx (K:PySem.W.Frag) (T:String) (x:V) (H:Hp):Prop:=match x with
 | .str _=>T = "str"
 | .int _=>T = "int"
 | .ref p=>(T = "list"/\∃ xs,bz K H p xs) \/ (T = "tuple"/\∃ o,K.lookup p=some o/\o.cls=.type "tuple"/\o.dict=none) ∨
   (T = "dict"/\((∃ kvs,H p=some (.dK kvs)) \/ ∃ kvs,H p=some (.dT kvs))) \/ (T = "set"/\∃ S n,H p=some (.set S n))
 | _=>False
theorem DV {pins:List (Addr × Obj)} {σ:St} {H:Hp} {s:Shared} {T:String} {x:V} {v:Value} (I:Inv X pins σ H s) (r:bG x v) (ty:Lx X.K T x H) :
  s.TypeIs v T/\∀ a,v=.ref a->∃ ob,s.heap.get? a=some ob/\ob.dict=none:=by
 cases x with
 | str z =>
  obtain ⟨t,rfl⟩:=r
  cases (show T = "str" from ty)
  exact ⟨typeIs_str s z t,λ _ e=>nomatch e⟩
 | int i =>
  obtain ⟨t,rfl⟩:=r
  cases (show T = "int" from ty)
  exact ⟨typeIs_int s i t,λ _ e=>nomatch e⟩
 | ref p =>
  cases r
  rcases ty with ⟨rfl,xs,hq⟩ | ⟨rfl,o,hk,hc,hd⟩ | ⟨rfl,hk⟩ | ⟨rfl,S,n,hk⟩
  ·obtain ⟨its,_,pl,_⟩:=I.list hq
   refine ⟨pl.isList.typeIs,λ a e=>?_⟩
   cases e
   obtain ⟨o,n,e,c,hd,_⟩:=pl
   exact ⟨o,e,hd⟩
  ·refine ⟨⟨o,I.kIn p o hk,hc⟩,λ a e=>?_⟩
   cases e
   exact ⟨o,I.kIn _ o hk,hd⟩
  ·have z:∃ o,s.heap.get? p=some o/\o.ExactDict:=by
    rcases hk with ⟨kvs,hk⟩ | ⟨kvs,hk⟩
    ·obtain ⟨_,_,_,_,o,_,_,e,ex,_⟩:=I.hok p _ hk
     exact ⟨o,e,ex⟩
    ·obtain ⟨_,_,_,_,o,_,_,e,ex,_⟩:=I.hok p _ hk
     exact ⟨o,e,ex⟩
   obtain ⟨o,e,ex⟩:=z
   refine ⟨⟨o,e,ex.1⟩,λ a e2=>?_⟩
   cases e2
   exact ⟨o,e,ex.2.1⟩
  ·obtain ⟨o,_,_,_,e,ex,_⟩:=I.hok p _ hk
   refine ⟨⟨o,e,ex.1⟩,λ a e2=>?_⟩
   cases e2
   exact ⟨o,e,ex.2.1⟩
 | _=>exact False.elim ty
noncomputable def Ka (K:PySem.W.Frag) (T:String) (r:V->List V->Hp->VK->Prop) (to:TE):TE:=λ σ H Q=>to σ H λ x H1=>Lx K T x H1/\r x [] H1 Q
noncomputable def KB (K:PySem.W.Frag) (T:String) (r:V->List V->Hp->VK->Prop) (to:TE) (t:TA):TE:=λ σ H Q=>to σ H λ x H1=>Lx K T x H1/\t σ H1 λ xs H2=>r x xs H2 Q
variable {o e:Expr} {es:List Expr} {to:TE} {t:TA} {name:Str} {apos cpos:Pos} {T id:String} {r:V->List V->Hp->VK->Prop}
theorem vf (pa:PlainAttrs T) (slot:Slot T name id) (hty:typeOf (.builtin id)=pure (.type "method_descriptor")) (hm:KL X id r) (ho:PE X o to)
  (hbase:attributeBase o name X.env (eval o X.env)=eval o X.env:=by rfl) (hline:(apos.endLine == cpos.line)=true:=by rfl):PE X (.Call (.Attribute o name apos) [] [] cpos) (Ka X.K T r to):=by
 intro pins s σ H Q I h
 refine wpAny_Call_method0_late hbase hline (br (ho pins s σ H _ I h) λ v s1 ⟨x,H1,I1,r1,ty,q1⟩=>?_)
 obtain ⟨h1,h2⟩:=DV I1 r1 ty
 exact ⟨T,id,pa,slot,hty,h1,h2,Calls.callWith_builtin rfl (PySem.evalArgs_none (hm pins s1 σ H1 x [] v [] Q I1 r1 .nil q1))⟩
theorem rC (pa:PlainAttrs T) (slot:Slot T name id) (hty:typeOf (.builtin id)=pure (.type "method_descriptor")) (hm:KL X id r) (ho:PE X o to) (ha:PA X (e :: es) t)
  (hbase:attributeBase o name X.env (eval o X.env)=eval o X.env:=by rfl)
  (hfew:((backTo cpos (starEach (e :: es) X.env)).all (λ x=>!x.1) && (backToKw cpos (keywordEach [] X.env)).all (λ x=>x.1.isSome)
   && decide ((e :: es).length + ([]:List Keyword).length + (if ([]:List Keyword).isEmpty then 0 else 1) < 30))=true:=by rfl)
  (hline:(apos.endLine == cpos.line)=true:=by rfl) (hs:starEach (e :: es) X.env=(false,eval e X.env) :: starEach es X.env:=by rfl) (hplain:(backTo cpos (starEach es X.env)).any (·.1)=false:=by rfl) :
  PE X (.Call (.Attribute o name apos) (e :: es) [] cpos) (KB X.K T r to t):=by
 intro pins s σ H Q I h
 refine wpAny_Call_method_late hbase hfew hline rfl (br (ho pins s σ H _ I h) λ v s1 ⟨x,H1,I1,r1,ty,q1⟩=>?_)
 obtain ⟨h1,h2⟩:=DV I1 r1 ty
 refine ⟨T,id,pa,slot,hty,h1,h2,?_⟩
 have hA:=ha cpos pins s1 σ H1 _ I1 q1
 rw [hs] at hA ⊢
 refine Calls.callWith_builtin (by show (false || (backTo cpos (starEach es X.env)).any (·.1))=false;rw [hplain] <;> rfl) (Calls.evalArgs_plain ?_)
 exact br hA λ us s2 ⟨vs,H2,I2,r2,q2⟩=>hm pins s2 σ H2 x vs v us Q I2 r1 r2 q2
end
end L2
namespace L2
open PySem PySem.Spec PyProof.Rows
noncomputable def KJ (X:Cx) (id:String) (r:V->List V->Hp->VK->Prop):Prop:=
 ∀ (pins:List (Addr × Obj)) (s:Shared) (σ:St) (H:Hp) (x:V) (xs:List V) (v:Value) (us:List Value) (Q:VK),Inv X pins σ H s->bG x v->ba xs us->r x xs H Q →
  wpAny (model X.prog X.w) X.A (call (.builtin id) (v :: us)) (EP X pins σ Q) X.xe s
theorem ba.one:∀ {x:V} {us:List Value},ba [x] us->∃ u,us=[u]/\bG x u
 | _,_,.cons r .nil=>⟨_,rfl,r⟩
theorem ba.zero:∀ {us:List Value},ba [] us->us=[]
 | _,.nil=>rfl
theorem ba.dropLast {xs:List V} {us:List Value} (h:ba xs us):ba xs.dropLast us.dropLast:=by
 induction h with
 | nil=>exact .nil
 | cons r t ih =>
  cases t with
  | nil=>exact .nil
  | cons q t'=>exact .cons r ih
theorem ba.reverse {xs:List V} {us:List Value} (h:ba xs us):ba xs.reverse us.reverse:=by
 induction h with
 | nil=>exact .nil
 | cons r t ih=>rw [List.reverse_cons,List.reverse_cons];exact ba.append ih (.cons r .nil)
theorem yg {α:Type} (l:List α):l.eraseIdx (l.length - 1)=l.dropLast:=by
 induction l with
 | nil=>rfl
 | cons a r ih =>
  cases r with
  | nil=>rfl
  | cons b r =>
   have e:(a :: b :: r).length - 1=((b :: r).length - 1) + 1:=by
    have h1:(a :: b :: r).length=r.length + 2:=rfl
    have h2:(b :: r).length=r.length + 1:=rfl
    omega
   rw [e,List.eraseIdx_cons_succ,ih]
   all_goals rfl
section
variable {X:Cx} {pins:List (Addr × Obj)} {σ:St} {H:Hp} {s:Shared} {l b:Addr} {xs ys zs:List V}
theorem Inv.lset {its its':List Value} {n:Nat} {f:Array Value->Array Value} {t':Nat} (I:Inv X pins σ H s) (hH:H l=some (.lst xs))
  (e:s.heap.get? l=some { cls:=.type "list",data:=.seq its.toArray n }) (hf:f its.toArray=its'.toArray) (hv:ba ys its') (hz:ys.length <= sizeLine) :
  Inv X pins σ (upd H l (.lst ys)) { s with heap:=s.heap.update l (Obj.mapSeq f),toks:=t' }:=by
 have q:=PySem.IsL.update e f
 rw [hf] at q
 refine I.write (x:=l) (e:=l) (by rw [hH];exact trivial) (.inl rfl) (λ b' u hb hu=>(Heap.get?_update_other s.heap (Obj.mapSeq f) (Ne.symm hb)).trans hu) ⟨_,q⟩ ?_
 exact ⟨hz,its',_,hv,q⟩
theorem Inv.lnew {its:List Value} {t':Nat} (I:Inv X pins σ H s) (hv:ba ys its) (hz:ys.length <= sizeLine) :
  Inv X pins σ (upd H s.heap.objs.size (.lst ys)) { s with heap:=s.heap.push { cls:=.type "list",data:=.seq its.toArray },toks:=t' }:=
 I.laid (λ _ _ q=>Heap.get?_push_of_some _ q) (Nat.le_refl _) ⟨hz,its,0,hv,Heap.get?_push_size _ rfl⟩
theorem Inv.fresh (I:Inv X pins σ H s):H s.heap.objs.size=none:=I.hok.fresh (Nat.le_refl _)
theorem Inv.lstM (I:Inv X pins σ H s) (hH:H l=some (.lst xs)):xs.length <= sizeLine/\∃ (its:List Value) (n:Nat),ba xs its/\xs.length=its.length/\s.heap.get? l=some { cls:=.type "list",data:=.seq its.toArray n }:=by
 obtain ⟨z,its,n,r,e⟩:=I.hok l _ hH
 exact ⟨z,its,n,r,r.length,e⟩
end
section
variable {X:Cx}
noncomputable def qv:V->List V->Hp->VK->Prop:=λ x vs H Q=>∃ l xs y,x=.ref l/\vs=[y]/\H l=some (.lst xs)/\xs.length < sizeLine/\Q .non (upd H l (.lst (xs++[y])))
theorem fI:KJ X "list.append" qv:=by
 intro pins s σ H x vs v us Q I rx rv h
 obtain ⟨l,xs,y,rfl,rfl,hH,hz,q⟩:=h
 cases rx
 obtain ⟨u,rfl,ru⟩:=rv.one
 obtain ⟨z,its,n,r,hl,e⟩:=I.lstM hH
 refine call_meets F.slot_list_append ⟨_,e,rfl⟩ F.entry_list_append (F.args_list_append_2 _ _) (PySem.list_append l its.toArray n u (by rw [List.size_toArray];omega)) ⟨e,?_⟩
 refine ⟨.non,_,I.lset (its':=its++[u]) hH e (by simp) (r.append (.cons ru .nil)) ?_,rfl,q⟩
 rw [List.length_append,List.length_singleton]
 omega
noncomputable def Lk:V->List V->Hp->VK->Prop:=λ x vs H Q=>∃ l xs y,x=.ref l/\vs=[]/\H l=some (.lst xs)/\xs[xs.length - 1]?=some y/\Q y (upd H l (.lst xs.dropLast))
theorem Ht:KJ X "list.pop" Lk:=by
 intro pins s σ H x vs v us Q I rx rv h
 obtain ⟨l,xs,y,rfl,rfl,hH,hy,q⟩:=h
 cases rx
 have hus:=rv.zero
 subst hus
 obtain ⟨z,its,n,r,hl,e⟩:=I.lstM hH
 obtain ⟨u,hu,ru⟩:=r.get hy
 have hy':its.toArray[its.toArray.size - 1]?=some u:=by
  show its.toArray[its.length - 1]?=some u
  rw [<- Array.getElem?_toList,<- hl]
  exact hu
 refine call_meets F.slot_list_pop ⟨_,e,rfl⟩ F.entry_list_pop (F.args_list_pop_1 _) (MeetsSeq.list_pop_last l its.toArray n u hy' (by rw [List.size_toArray];omega)) ⟨e,?_⟩
 refine ⟨y,_,I.lset (its':=its.dropLast) hH e ?_ r.dropLast ?_,ru,q⟩
 ·show its.toArray.eraseIdxIfInBounds (its.toArray.size - 1)=its.dropLast.toArray
  rw [List.size_toArray,List.eraseIdxIfInBounds_toArray,yg]
 ·rw [List.length_dropLast]
  omega
noncomputable def xu:V->List V->Hp->VK->Prop:=λ x vs H Q=>∃ l xs,x=.ref l/\vs=[]/\H l=some (.lst xs)/\Q .non (upd H l (.lst xs.reverse))
theorem nq:KJ X "list.reverse" xu:=by
 intro pins s σ H x vs v us Q I rx rv h
 obtain ⟨l,xs,rfl,rfl,hH,q⟩:=h
 cases rx
 have hus:=rv.zero
 subst hus
 obtain ⟨z,its,n,r,hl,e⟩:=I.lstM hH
 refine call_meets F.slot_list_reverse ⟨_,e,rfl⟩ F.entry_list_reverse (F.args_list_reverse_1 _) (AutoSeq1.list_reverse_list_0 l its.toArray n (by rw [List.size_toArray];omega)) ⟨e,?_⟩
 refine ⟨.non,_,I.lset (its':=its.reverse) hH e (by simp) r.reverse ?_,rfl,q⟩
 rw [List.length_reverse]
 omega
end
section
variable {prog:Program} {w:World} {A:Around} {E:Value->Shared->Prop} {s:Shared}
end
section
variable {X:Cx}
end
end L2
namespace Att
open PySem PySem.W PySem.Calls PyProof.Rows
theorem qb {P:Params} {h:Heap}:∀ (ns:List Int) (vs:List Value),WellAll P h vs (ns.map WData.int)->IntsAre vs ns:=by
 intro ns
 induction ns with
 | nil =>
  intro vs w
  rw [List.map_nil] at w
  cases w
  exact .nil
 | cons n ns ih =>
  intro vs w
  rw [List.map_cons] at w
  cases w with
  | cons a b =>
   cases a
   exact .cons _ _ (ih _ b)
theorem Bl {l:OpenLaw} {n:Nat} (hn:l.most=some n) {P:Params} {h:Heap} {args:List WData} {vals:List Value}
  (hpre:l.row.toRowW.claim.pre args=true) (hwl:WellAll P h vals args) :
  ∃ a vs ns,vals=[Value.ref a]/\args=[WData.list (ns.map WData.int)]/\h.get? a=some { cls:=.type "list",data:=.seq vs.toArray }/\IntsAre vs ns/\ns.length <= n:=by
 have hsh:WShape.hasAll [] args [.list .int]=true:=(pre_splitW hpre).1
 have hc:l.pre.holds [] { args:=args }=true:=(pre_splitW hpre).2
 obtain ⟨d,r,rfl,h1,h2⟩:=hasAllW_cons hsh
 obtain rfl:=hasAllW_nil h2
 obtain ⟨xs,rfl,h3⟩:=hasW_list h1
 obtain ⟨ns,rfl⟩:=items_int h3
 have hlen:ns.length <= n:=by
  unfold OpenLaw.pre at hc
  have h4:(WTm.not (.lt (.lit (.int (n:Int))) (.len (.arg 0)))).holds [] { args:=[.list (ns.map .int)] }=true:=by
   have h4:=(holds_andW hc).1
   rw [hn] at h4
   exact h4
  have h5:=condW_of h4 (w_not (w_lt w_lit (w_len_list (w_arg rfl))))
  rw [List.length_map] at h5
  refine Nat.le_of_not_lt λ q=>?_
  have q':(n:Int) < ((ns.length:Nat):Int):=by omega
  first
   | (rw [decide_eq_true q'] at h5;exact absurd h5 (by decide))
   | (simp at h5;omega)
 cases hwl with
 | cons w1 w2 =>
  cases w2
  cases w1 with
  | list ho hall=>exact ⟨_,_,ns,rfl,rfl,ho,qb ns _ hall,hlen⟩
theorem AW (l:OpenLaw) (args:List WData):l.row.toRowW.claim.post args (.bool true) args=true:=
 postW_of (r:=l.row.toRowW) (X:=(true == true))
  (show WShape.has [] (.bool true) .bool=true by first | rfl | decide | simp [WShape.has,WShape.arms,WShape.armsAll])
  (show (WTm.eq .res (.lit (.bool true))).value [] { args:=args,res:=some (.bool true),after:=args }=some (.bool (true == true)) from w_eq_bool (w_res rfl) w_lit) rfl
theorem attach_call {l:OpenLaw} {n:Nat} {q:Program} {loose:List Str} {XP:(Str->Option Value)->Heap->Prop} {YP:World->Heap->Prop} {d:DefRec}
  (hn:l.most=some n) (hdf:d.params.defaults=[])
  (call:∀ (w:World) (s₀ s₁:Shared) (mg mb:Str->Option Value) (fa:Addr) (o:Obj) (pm cd doc:Value) (a:Addr) (vs:List Value) (ns:List Int),
   Ground q loose [] XP w s₀ mg mb s₁.heap->YP w s₁.heap →
   s₁.heap.get? fa=some o->o.data=.func (docDef d.name d.params d.body d.scope pm cd doc)->s₁.heap.CodeRec cd d.name->mg d.name=some (.ref fa) →
   s₁.heap.get? a=some { cls:=.type "list",data:=.seq vs.toArray }->IntsAre vs ns->ns.length <= n->s₁.gens = #[] →
   codeAny (model l.prog w) callerA (.call (.ref fa) ⟨[.ref a],[]⟩) (λ r s'=>r=.ok (.ret (.bool true))/\OldK s₁.heap s'.heap/\s'.os=s₁.os/\AllBare s'.gens) s₁) :
  WalkO q loose XP YP l.row.toRowW d [] (λ f vs=>PySem.call f vs):=by
 intro w s₀ s₁ mg mb G Y fa o pm cd doc dV kV ho hd hcd hD hmg hg args vals as hpre hlay hrd hwl hlo
 obtain rfl:dV=.none:=Dflts.none hD hdf
 obtain rfl:kV=.none:=Dflts.noKw hD
 obtain ⟨a,vs,ns,rfl,rfl,hobj,hints,hlen⟩:=Bl hn hpre hwl
 refine enter_call (codeAny_mono (call w s₀ s₁ mg mb fa o pm cd doc a vs ns G Y ho (fd_plain hd) hcd hmg hobj hints hlen hg) λ r s' hq=>?_)
 obtain ⟨rfl,h2,h3,h4⟩:=hq
 exact ⟨.inl ⟨.bool true,.bool true,[],rfl,λ _=>rfl,.bool true,AW l _,λ _=>⟨List.Pairwise.nil,λ _ hm=>(nomatch hm)⟩⟩,h2,h3,h4⟩
section
variable {prog:Program} {w:World} {A:Around} {E:Value->Shared->Prop} {s:Shared} {K:Frag}
end
end Att
namespace L2
open PySem PySem.Spec PyProof.Rows
theorem mq:∀ {vs:List Value} {ns:List Int},IntsAre vs ns->ba (ns.map V.int) vs
 | _,_,.nil=>.nil
 | _,_,.cons n t h=>.cons ⟨t,rfl⟩ (mq h)
noncomputable def GM (H:Hp):Prop:=∀ b,H b=none \/ ∃ o xs,H b=some (.frz o (.lst xs))
theorem Ct {P:Program} {w:World} {K:PySem.W.Frag} {mg mb:Str->Option Value} {CX:Bv} {k:Nat} {fa a:Addr} {fd:FuncData} {x:Str} {sp:Sp} {s₁:Shared} {vs:List Value} {ns:List Int}
  (KX:K.In s₁.heap) (hns:s₁.heap.Ns mainGlobals mg) (hb:s₁.heap.Ns builtinsNs mb) (hbb:∀ x:Str,x ≠ "__name__"->mb x=bootBuiltins x) (hlim:s₁.heap.NoLimit) (hg:s₁.gens = #[])
  (ha:s₁.heap.get? a=some { cls:=.type "list",data:=.seq vs.toArray }) (hi:IntsAre vs ns) (hl:ns.length <= sizeLine) (hr:Room k callerA)
  (F:∀ base:Heap,K.In base->base.Ns mainGlobals mg->FnOk P w K mg base CX k fa fd [x] sp) (hbind:∀ (s:Shared) (u:Value),BindsTo s fd ⟨[u],[]⟩ [(x,u)])
  (hsp:∀ H:Hp,GM H->bz K H a (ns.map V.int)->sp [.ref a] H (λ v _=>v=.bl true) λ _ _ _=>False)
  (hCX:∀ H e s',CX [] H s₁ (λ _ _ _=>False) e s'->False) :
  codeAny (model P w) callerA (.call (.ref fa) ⟨[.ref a],[]⟩) (λ r s'=>r=.ok (.ret (.bool true))/\OldK s₁.heap s'.heap/\s'.os=s₁.os/\AllBare s'.gens) s₁:=by
 have rv:=mq hi
 have lenV:=hi.length
 have core:∀ H:Hp,GM H->bz K H a (ns.map V.int)->nF P w H s₁.heap->(∀ b,H b ≠ none->b=a)->(H a ≠ none->K.lookup a=none) →
   codeAny (model P w) callerA (.call (.ref fa) ⟨[.ref a],[]⟩) (λ r s'=>r=.ok (.ret (.bool true))/\OldK s₁.heap s'.heap/\s'.os=s₁.os/\AllBare s'.gens) s₁:=by
  intro H hO hS hok hA hK
  have base_of:∀ {b:Addr} {o:Obj},s₁.heap.get? b=some o->H b=none->(uN s₁.heap H).get? b=some o:=λ e n=>Cf e n
  have noA:∀ {b:Addr} {o:Obj} {es:Array DictEntry} {ep:Nat},s₁.heap.get? b=some o->o.data=.dict es ep->H b=none:=λ {b o es ep} e d=>by
   cases q:H b with
   | none=>rfl
   | some u =>
    have e':b=a:=hA b (by rw [q];simp)
    subst e'
    rw [ha] at e;cases e
    have d':Data.seq vs.toArray _=Data.dict es ep:=d
    cases d'
  have nsK:∀ {b:Addr} {m:Str->Option Value},s₁.heap.Ns b m->(uN s₁.heap H).Ns b m:=λ {b m} ⟨o,es,ep,e,d,r⟩=>⟨o,es,ep,base_of e (noA e d),d,r⟩
  have hKb:K.In (uN s₁.heap H):=λ b o e=>base_of (KX b o e) (by
   cases q:H b with
   | none=>rfl
   | some u =>
    have e':b=a:=hA b (by rw [q];simp)
    subst e'
    rw [hK (by rw [q];simp)] at e;cases e)
  have hM:Mod K mg (uN s₁.heap H):=⟨hKb,nsK hns,⟨mb,nsK hb,hbb⟩,let ⟨mc,h1,h2⟩:=hlim;⟨mc,nsK h1,h2⟩⟩
  have e0:Env0 P w K mg (uN s₁.heap H) callerA [] s₁ H:=⟨rfl,hM,λ b o e=>ET e,Nat.le_of_eq (Au _ _),trivial,λ b hb=>absurd (show b∈([]:List Addr) from hb) (by simp),hok,.of_eq hg⟩
  refine codeAny_mono ((F _ hKb (nsK hns)).run callerA [] s₁ H ⟨[.ref a],[]⟩ [.ref a] [.ref a] _ _ hr e0 (hbind s₁ (.ref a)) (.cons rfl .nil) (hsp H hO hS)) λ r s' h=>?_
  cases r with
  | error e=>exact (hCX H e s' h).elim
  | ok fl =>
   cases fl with
   | next=>exact False.elim h
   | brk=>exact False.elim h
   | cont=>exact False.elim h
   | ret u =>
    obtain ⟨v,H',os,bare,un,hok',r',q⟩:=h
    have q':v=.bl true:=q
    subst q'
    obtain rfl:u=Value.bool true:=r'
    refine ⟨rfl,OldK.of_keep λ b o e=>?_,os,bare⟩
    cases q:H b with
    | none=>exact un.keep b o e q (by intro z;exact absurd (show b∈([]:List Addr) from z) (by simp)) (by simp)
    | some u =>
     rcases hO b with z | ⟨ob,xs,z⟩
     ·rw [q] at z;cases z
     ·have z2:=un.frzs b ob _ z
      obtain ⟨e1,_⟩:=hok b _ z
      obtain ⟨e2,_⟩:=hok' b _ z2
      rw [e] at e1;cases e1
      exact e2
 cases hk:K.lookup a with
 | some o =>
  have e:=KX a o hk
  rw [ha] at e
  cases e
  refine core (λ _=>none) (λ _=>.inl rfl) (.inr ⟨_,vs.toArray,_,hk,rfl,⟨rfl,rfl⟩,rfl,by rw [List.size_toArray,lenV];exact hl,by simpa using rv⟩) (λ b u z=>by have z':(none:Option HO)=some u:=z;cases z') (λ b z=>absurd rfl z) λ z=>absurd rfl z
 | none =>
  refine core (λ b=>if b=a then some (.frz { cls:=.type "list",data:=.seq vs.toArray } (.lst (ns.map V.int))) else none) (λ b=>?_) (.inl (.inr ⟨{ cls:=.type "list",data:=.seq vs.toArray },if_pos rfl⟩)) (λ b u z=>?_) (λ b z=>?_) λ _=>hk
  ·by_cases hb:b=a
   ·exact .inr ⟨_,_,if_pos hb⟩
   ·exact .inl (if_neg hb)
  ·by_cases hb:b=a
   ·have z':=(if_pos hb).symm.trans z
    cases z'
    subst hb
    exact ⟨ha,by rw [List.length_map];exact hl,vs,_,rv,ha⟩
   ·have z':=(if_neg hb).symm.trans z
    cases z'
  ·by_cases hb:b=a
   ·exact hb
   ·exact absurd (if_neg hb) z
end L2
namespace L2
open PySem PySem.Spec PyProof.Rows
theorem Ge {l:PySem.W.OpenLaw} {n k:Nat} {q:Program} {loose:List Str} {XP:(Str->Option Value)->Heap->Prop} {YP:World->Heap->Prop} {d:DefRec} {K:Params->PySem.W.Frag} {CX:World->Bv} {sp:World->Sp} {x:Str}
  (hn:l.most=some n) (hn2:n <= sizeLine) (hdf:d.params.defaults=[]) (hr:Room k callerA)
  (hY:∀ (w:World) (h:Heap),YP w h->(K w.params).In h)
  (F:∀ (w:World) (mg:Str->Option Value) (fa:Addr) (h:Heap),(K w.params).In h->h.Ns mainGlobals mg->mg d.name=some (.ref fa) →
   ∃ fd:FuncData,(∀ (s:Shared) (u:Value),BindsTo s fd ⟨[u],[]⟩ [(x,u)]) ∧
    ∀ base:Heap,(K w.params).In base->base.Ns mainGlobals mg->FnOk l.prog w (K w.params) mg base (CX w) k fa fd [x] (sp w))
  (hsp:∀ (w:World) (H:Hp) (a:Addr) (ns:List Int),ns.length <= n->GM H->bz (K w.params) H a (ns.map V.int)->sp w [.ref a] H (λ v _=>v=.bl true) λ _ _ _=>False)
  (hCX:∀ (w:World) (H:Hp) (s:Shared) (e:Value) (s':Shared),CX w [] H s (λ _ _ _=>False) e s'->False) :
  PySem.W.WalkO q loose XP YP l.row.toRowW d [] (λ f vs=>PySem.call f vs):=by
 refine Att.attach_call hn hdf λ w s₀ s₁ mg mb fa o pm cd doc a vs ns G Y ho hd hcd hmg hobj hints hlen hg=>?_
 have KX:=hY w _ Y
 obtain ⟨fd,hb,hF⟩:=F w mg fa _ KX G.T.g hmg
 exact Ct KX G.T.g G.T.b G.T.builtins G.T.nolimit hg hobj hints (Nat.le_trans hlen hn2) hr hF hb (λ H hO hS=>hsp w H a ns hlen hO hS) λ H e s'=>hCX w H s₁ e s'
end L2
namespace L2
open PySem PySem.Spec PyProof.Rows
noncomputable def c7 (s:Stmt):Arguments:=match s with
 | .FunctionDef _ a _ _ _ _ _ _ _ _=>a
 | _=>{ posonlyargs:=[],args:=[],vararg:=none,kwonlyargs:=[],kw_defaults:=[],kwarg:=none,defaults:=[] }
noncomputable def ay (s:Stmt):List Stmt:=match s with
 | .FunctionDef _ _ b _ _ _ _ _ _ _=>b
 | _=>[]
noncomputable def am (s:Stmt):Scope:=match s with
 | .FunctionDef _ _ _ _ _ _ sc _ _ _=>sc
 | _=>{ kind:=.function,names:=[],isGenerator:=false,isCoroutine:=false }
structure Fun (K:PySem.W.Frag) (x qual:Str) (st:Stmt) (f:Addr) (fd:FuncData):Prop where
 ex:∃ (oc:Value) (od:Option Addr) (kV doc pm:Value) (an:Option Addr) (cdv ct:Value) (osl:Array (Option Value)),
  fd=PySem.W.fnOf x qual (c7 st) (ay st) (am st) .none kV doc pm an cdv ct/\K.lookup f=some ⟨oc,od,.func fd,osl⟩/\PySem.W.codeIn K cdv qual=true
 kp:PySem.W.keepIn K (.ref f)=true
section
variable {P:Program} {w:World} {K:PySem.W.Frag} {mg:Str->Option Value} {base:Heap}
theorem Fun.binds {x qual:Str} {st:Stmt} {f:Addr} {fd:FuncData} {ps:List Str} (F:Fun K x qual st f fd)
  (h:∀ (kV doc pm:Value) (an:Option Addr) (cdv ct:Value) (us:List Value),us.length=ps.length->bindArgs (PySem.W.fnOf x qual (c7 st) (ay st) (am st) .none kV doc pm an cdv ct) ⟨us,[]⟩=pure (ps.zip us)):iZ K fd ps []:=by
 obtain ⟨oc,od,kV,doc,pm,an,cdv,ct,osl,rfl,lk,hcd⟩:=F.ex
 exact .all (h kV doc pm an cdv ct)
theorem qY {x qual:Str} {st:Stmt} {f:Addr} {oc:Value} {od an:Option Addr} {osl:Array (Option Value)} {kV doc pm cdv ct:Value} (l:K.lookup f=some ⟨oc,od,.func (PySem.W.fnOf x qual (c7 st) (ay st) (am st) .none kV doc pm an cdv ct),osl⟩)
  (c:PySem.W.codeIn K cdv qual=true) (k:PySem.W.keepIn K (.ref f)=true):Fun K x qual st f (PySem.W.fnOf x qual (c7 st) (ay st) (am st) .none kV doc pm an cdv ct):=⟨⟨oc,od,kV,doc,pm,an,cdv,ct,osl,rfl,l,c⟩,k⟩
end
section
variable {X:Cx}
end
noncomputable def aM (H H':Hp):Prop:=∀ b o,H b=some o->H' b=some o
theorem aM.refl (H:Hp):aM H H:=λ _ _ h=>h
theorem aM.trans {H H1 H2:Hp} (a:aM H H1) (b:aM H1 H2):aM H H2:=λ c o h=>b c o (a c o h)
theorem aM.free {H H':Hp} (e:aM H H') {l:Addr} (h:H' l=Option.none):H l=Option.none:=by
 cases q:H l with
 | none=>rfl
 | some o =>
  rw [e l o q] at h
  cases h
theorem aM.seq {K:PySem.W.Frag} {H H':Hp} {a:Addr} {xs:List V} (e:aM H H') (h:bz K H a xs):bz K H' a xs:=by
 rcases h with (h | ⟨o,h⟩) | h
 ·exact .inl (.inl (e _ _ h))
 ·exact .inl (.inr ⟨o,e _ _ h⟩)
 ·exact .inr h
end L2
namespace L2
open PySem PySem.Spec PyProof.Rows
section
variable {κ:Type} [DecidableEq κ]
noncomputable def om (kvs:List (κ × V)) (k:κ):Option V:=(kvs.find? λ kv=>decide (kv.1=k)).map (·.2)
noncomputable def o7 (kvs:List (κ × V)) (k:κ) (v:V):List (κ × V):=
 if (kvs.any λ kv=>decide (kv.1=k))=true then kvs.map (λ kv=>if kv.1=k then (kv.1,v) else kv) else kvs++[(k,v)]
theorem ou {p:κ × V} {r:List (κ × V)} {k:κ} (e:p.1=k):om (p :: r) k=some p.2:=by simp [om,List.find?_cons,e]
theorem oq {p:κ × V} {r:List (κ × V)} {k:κ} (e:¬ p.1=k):om (p :: r) k=om r k:=by simp [om,List.find?_cons,e]
theorem xL (k:κ):∀ kvs:List (κ × V),(kvs.any λ kv=>decide (kv.1=k))=(om kvs k).isSome
 | []=>rfl
 | p :: r=>by
  rw [List.any_cons]
  by_cases e:p.1=k
  ·simp only [ou e,decide_eq_true e,Bool.true_or,Option.isSome_some]
  ·rw [oq e,decide_eq_false e,Bool.false_or];exact xL k r
theorem pN (kvs:List (κ × V)) (k:κ) (v:V):(o7 kvs k v).length <= kvs.length + 1:=by
 unfold o7
 split
 ·rw [List.length_map];omega
 ·rw [List.length_append,List.length_cons,List.length_nil];omega
theorem zV.isSome_eq {o:Option V} {u:Option Value} (r:zV o u):o.isSome=u.isSome:=by
 cases o with
 | none=>cases u with
  | none=>rfl
  | some _=>exact (show False from r).elim
 | some _=>cases u with
  | none=>exact (show False from r).elim
  | some _=>rfl
theorem KV.val {kvs:List (κ × V)} {vs:List (κ × Value)} (r:KV kvs vs) (k:κ):zV (om kvs k) (valueAt vs k):=by
 unfold KV at r
 induction r with
 | nil=>exact True.intro
 | @cons p q ps qs h t ih =>
  obtain ⟨h1,h2⟩:=h
  by_cases e:p.1=k
  ·have e':q.1=k:=h1.symm.trans e
   have b:valueAt (q :: qs) k=some q.2:=by simp [valueAt,List.find?_cons,e']
   rw [ou e,b];exact h2
  ·have e':¬ q.1=k:=λ z=>e (h1.trans z)
   have b:valueAt (q :: qs) k=valueAt qs k:=by simp [valueAt,List.find?_cons,e']
   rw [oq e,b];exact ih
theorem KV.any {kvs:List (κ × V)} {vs:List (κ × Value)} (r:KV kvs vs) (k:κ):(kvs.any λ kv=>decide (kv.1=k))=vs.any λ kv=>decide (kv.1=k):=by
 unfold KV at r
 induction r with
 | nil=>rfl
 | cons h t ih=>rw [List.any_cons,List.any_cons,ih,h.1]
theorem KV.repl {kvs:List (κ × V)} {vs:List (κ × Value)} (r:KV kvs vs) (k:κ) {y:V} {u:Value} (ry:bG y u) :
  KV (kvs.map λ kv=>if kv.1=k then (kv.1,y) else kv) (vs.map λ kv=>if kv.1=k then (kv.1,u) else kv):=by
 unfold KV at r ⊢
 induction r with
 | nil=>exact .nil
 | @cons p q ps qs h t ih =>
  rw [List.map_cons,List.map_cons]
  refine .cons ?_ ih
  obtain ⟨h1,h2⟩:=h
  by_cases e:p.1=k
  ·rw [if_pos e,if_pos (h1.symm.trans e)];exact ⟨h1,ry⟩
  ·rw [if_neg e,if_neg (λ z=>e (h1.trans z))];exact ⟨h1,h2⟩
theorem KV.put {kvs:List (κ × V)} {vs:List (κ × Value)} (r:KV kvs vs) (k:κ) {y:V} {u:Value} (ry:bG y u):KV (o7 kvs k y) (stored vs k u):=by
 unfold o7 stored
 rw [r.any k]
 by_cases e:(vs.any λ kv=>decide (kv.1=k))=true
 ·rw [if_pos e,if_pos e];exact r.repl k ry
 ·rw [if_neg e,if_neg e];exact Paired.snoc r ⟨rfl,ry⟩
theorem KV.length {kvs:List (κ × V)} {vs:List (κ × Value)} (r:KV kvs vs):kvs.length=vs.length:=Paired.length r
end
theorem Cr {P:Program} {w:World} {k:cY} {u:Value} (r:bG (kV k) u):(c9 P w).is k u=true:=by
 cases k with
 | inl i=>obtain ⟨t,e⟩:=(show ∃ t,u=Value.int i t from r);subst e;exact wR P w i t
 | inr x=>obtain ⟨t,e⟩:=(show ∃ t,u=Value.str x t from r);subst e;exact wS P w x t
theorem tu {P:Program} {w:World}:∀ {ks:List cY} {us:List Value},ba (ks.map kV) us->ItemsAre (c9 P w) ks us
 | [],_,r=>by rw [List.map_nil] at r;cases r;exact .nil
 | k :: ks,_,r=>by
  rw [List.map_cons] at r
  cases r with
  | cons h t=>exact .cons (Cr h) (tu t)
noncomputable abbrev KT (H:Hp):List (List cY × V)->List (List cY × Addr × Value)->Prop:=Paired λ p q=>p.1=q.1/\H q.2.1=some (.tup (p.1.map kV))/\bG p.2 q.2.2
theorem KT.val {H:Hp} {kvs:List (List cY × V)} {xs:List (List cY × Addr × Value)} (r:KT H kvs xs) (k:List cY):zV (om kvs k) ((atKey xs k).map (·.2)):=by
 induction r with
 | nil=>exact True.intro
 | @cons p q ps qs h t ih =>
  obtain ⟨h1,_,h2⟩:=h
  by_cases e:p.1=k
  ·have e':q.1=k:=h1.symm.trans e
   have b:atKey (q :: qs) k=some q.2:=by simp [atKey,List.find?_cons,e']
   rw [ou e,b];exact h2
  ·have e':¬ q.1=k:=λ z=>e (h1.trans z)
   have b:atKey (q :: qs) k=atKey qs k:=by simp [atKey,List.find?_cons,e']
   rw [oq e,b];exact ih
theorem KT.repl {H:Hp} {kvs:List (List cY × V)} {xs:List (List cY × Addr × Value)} (r:KT H kvs xs) (k:List cY) {y:V} {u:Value} (ry:bG y u) :
  KT H (kvs.map λ kv=>if kv.1=k then (kv.1,y) else kv) (xs.map (putAt k u)):=by
 induction r with
 | nil=>exact .nil
 | @cons p q ps qs h t ih =>
  rw [List.map_cons,List.map_cons]
  refine .cons ?_ ih
  obtain ⟨h1,h2,h3⟩:=h
  unfold putAt
  by_cases e:p.1=k
  ·rw [if_pos e,if_pos (h1.symm.trans e)];exact ⟨h1,h2,ry⟩
  ·rw [if_neg e,if_neg (λ z=>e (h1.trans z))];exact ⟨h1,h2,h3⟩
theorem KT.put {H:Hp} {kvs:List (List cY × V)} {xs:List (List cY × Addr × Value)} (r:KT H kvs xs) (k:List cY) {b:Addr} {y:V} {u:Value} (hb:H b=some (.tup (k.map kV))) (ry:bG y u) :
  KT H (o7 kvs k y) (storedH xs k b u):=by
 have e:(kvs.any λ kv=>decide (kv.1=k))=(atKey xs k).isSome:=by
  rw [xL,(r.val k).isSome_eq,Option.isSome_map]
 unfold o7 storedH
 rw [e]
 by_cases q:(atKey xs k).isSome=true
 ·rw [if_pos q,if_pos q];exact r.repl k ry
 ·rw [if_neg q,if_neg q];exact Paired.snoc r ⟨rfl,hb,ry⟩
theorem KT.keeps {H H':Hp} {kvs:List (List cY × V)} {xs:List (List cY × Addr × Value)} (r:KT H kvs xs) (ht:∀ b ys,H b=some (.tup ys)->H' b=some (.tup ys)):KT H' kvs xs:=
 Paired.mapP r λ _ _ z=>⟨z.1,ht _ _ z.2.1,z.2.2⟩
section
variable {P:Program} {w:World} {H:Hp} {h:Heap} {a:Addr}
theorem GD {u:HO} (ok:nF P w H h) (e:Rd H a u):dG P w H h a u:=e.ok ok
theorem Gp {kvs:List (cY × V)} (ok:nF P w H h) (e:Rd H a (.dK kvs)):kvs.length <= sizeLine/\(a == sysModules)=false/\∃ vs,KV kvs vs/\h.DictOf (c9 P w) a vs:=
 show dG P w H h a (.dK kvs) from GD ok e
theorem Jv {kvs:List (cY × V)} (ok:nF P w H h) (e:H a=some (.dK kvs)):kvs.length <= sizeLine/\(a == sysModules)=false/\∃ vs,KV kvs vs/\h.DictOf (c9 P w) a vs:=Gp ok (.inl e)
theorem yo {ks:List cY} (ok:nF P w H h) (e:H a=some (.tup (ks.map kV))):(tupleKind (c9 P w)).is h ks a:=by
 obtain ⟨_,its,r,o,h1,h2,n,h3⟩:=(show dG P w H h a (.tup (ks.map kV)) from ok a _ e)
 exact ⟨o,its.toArray,n,h1,h2,h3,by simpa using tu r⟩
theorem Gq {kvs:List (List cY × V)} (ok:nF P w H h) (e:Rd H a (.dT kvs)):kvs.length <= sizeLine/\(a == sysModules)=false ∧
  ∃ xs,KT H kvs xs/\h.DictOfH (tupleKind (c9 P w)) a xs:=by
 obtain ⟨z,y,xs,r,o,es,ep,h1,h2,h3,h4,h5⟩:=(show dG P w H h a (.dT kvs) from GD ok e)
 refine ⟨z,y,xs,r,o,es,ep,h1,h2,h3,h4,λ x hx=>?_,h5⟩
 have all:∀ {l:List (List cY × V)} {m:List (List cY × Addr × Value)},KT H l m->∀ x∈m,(tupleKind (c9 P w)).is h x.1 x.2.1:=by
  intro l m q
  induction q with
  | nil=>intro x hx;exact nomatch hx
  | @cons p q ps qs hq t ih =>
   intro x hx
   rcases List.mem_cons.mp hx with e | hx
   ·subst e
    exact yo ok (by rw [<- hq.1];exact hq.2.1)
   ·exact ih x hx
 exact all r x hx
theorem Jw {kvs:List (List cY × V)} (ok:nF P w H h) (e:H a=some (.dT kvs)):kvs.length <= sizeLine/\(a == sysModules)=false ∧
  ∃ xs,KT H kvs xs/\h.DictOfH (tupleKind (c9 P w)) a xs:=Gq ok (.inl e)
end
noncomputable def By (H:Hp) (a:Addr) (y:V) (r:Option V):Prop:=
 (∃ kvs k,Rd H a (.dK kvs)/\y=kV k/\r=om kvs k) \/ ∃ kvs k b,Rd H a (.dT kvs)/\y=.ref b/\H b=some (.tup (k.map kV))/\r=om kvs k
noncomputable def Bz (H:Hp) (a:Addr) (y v:V) (H':Hp):Prop:=
 (∃ kvs k,H a=some (.dK kvs)/\y=kV k/\kvs.length < sizeLine/\H'=upd H a (.dK (o7 kvs k v))) ∨
 ∃ kvs k b,H a=some (.dT kvs)/\y=.ref b/\H b=some (.tup (k.map kV))/\kvs.length < sizeLine/\H'=upd H a (.dT (o7 kvs k v))
theorem By.k {H:Hp} {a:Addr} {kvs:List (cY × V)} {k:cY} (e:H a=some (.dK kvs)):By H a (kV k) (om kvs k):=.inl ⟨kvs,k,.inl e,rfl,rfl⟩
theorem Bz.k {H:Hp} {a:Addr} {kvs:List (cY × V)} {k:cY} {v:V} (e:H a=some (.dK kvs)) (hl:kvs.length < sizeLine):Bz H a (kV k) v (upd H a (.dK (o7 kvs k v))):=.inl ⟨kvs,k,e,rfl,hl,rfl⟩
section
variable {X:Cx} {pins:List (Addr × Obj)} {σ:St} {H:Hp} {s:Shared} {a:Addr} {y v:V} {u r:Value} {o:Option V} {A:Around} {E:Value->Shared->Prop}
theorem Inv.big (I:Inv X pins σ H s):sysModules < s.heap.objs.size:=by
 have h:mainGlobals < s.heap.objs.size:=(I.mod.glob.keeps I.bk).lt
 exact Nat.lt_trans (by decide) h
theorem KU {Q:Value->Shared->Prop} (hu:A.units + 1 < cLine) (I:Inv X pins σ H s) (g:By H a y o) (ry:bG y u) (h:∀ s',Inv X pins σ H s'->Q (.bool o.isSome) s') :
  wpAny (model X.prog X.w) A (compareOp .In u (.ref a)) Q E s:=by
 rcases g with ⟨kvs,k,e,ey,l⟩ | ⟨kvs,k,b,e,ey,eb,l⟩
 ·subst ey
  obtain ⟨z,hd,vs,rel,dd⟩:=Gp I.hok e
  refine wpAny_in_of (Cr ry) hd dd.mapOf ?_
  rw [<- (rel.val k).isSome_eq,<- l]
  exact h _ (I.tok _)
 ·subst ey
  cases (show u=Value.ref b from ry)
  obtain ⟨z,hd,xs,rel,dd⟩:=Gq I.hok e
  refine wpAny_in_heap (tupleKind_room_in1 hu) (yo I.hok eb) hd dd ?_
  have q:=(rel.val k).isSome_eq
  rw [Option.isSome_map] at q
  rw [<- q,<- l]
  exact h _ (I.tok _)
theorem zo {h':Heap} {t':Nat} {ob:HO} (I:Inv X pins σ H s) (mu:Jp (H a)) (hs:Heap.SameBut a s.heap h') (he:∃ q,h'.get? a=some q) (new:dG X.prog X.w (upd H a ob) h' a ob) :
  Inv X pins σ (upd H a ob) { s with heap:=h',toks:=t' }:=
 I.write (x:=a) (e:=a) mu (.inl rfl) (λ b q hb z=>(hs.2 b hb).trans z) he new
theorem GV {P:Program} {w:World} {H':Hp} {h':Heap} {kvs:List (cY × V)} {vs:List (cY × Value)} (z:kvs.length <= sizeLine) (hd:(a == sysModules)=false) (rel:KV kvs vs) (dd:h'.DictOf (c9 P w) a vs) :
  dG P w H' h' a (.dK kvs):=⟨z,hd,vs,rel,dd⟩
theorem Af {H':Hp} {Q:Unit->Shared->Prop} (hu:A.units + 1 < cLine) (I:Inv X pins σ H s) (g:Bz H a y v H') (ry:bG y u) (rv:bG v r) (h:∀ s',Inv X pins σ H' s'->Q () s') :
  wpAny (model X.prog X.w) A (setItem (.ref a) u r) Q E s:=by
 rcases g with ⟨kvs,k,e,ey,l,eH⟩ | ⟨kvs,k,b,e,ey,eb,l,eH⟩
 ·subst ey eH
  obtain ⟨z,hd,vs,rel,dd⟩:=Jv I.hok e
  have hz:vs.length <= sizeLine:=by rw [<- rel.length];exact z
  have hl:(o7 kvs k v).length <= sizeLine:=by have:=pN kvs k v;omega
  refine wpAny_setItem_pairs (hsz:=hz) (Cr ry) dd λ h' dd' hs=>h _ ?_
  have he:∃ q,h'.get? a=some q:=let ⟨q,_,_,hq,_⟩:=dd';⟨q,hq⟩
  exact zo I (by rw [e];exact True.intro) hs he (GV hl hd (rel.put k rv) dd')
 ·subst ey eH
  cases (show u=Value.ref b from ry)
  obtain ⟨z,hd,xs,rel,dd⟩:=Jw I.hok e
  have hz:xs.length <= sizeLine:=by rw [<- Paired.length rel];exact z
  have hl:(o7 kvs k v).length <= sizeLine:=by have:=pN kvs k v;omega
  refine wpAny_setItem_heap (hsz:=hz) (tupleKind_room_in1 hu) (yo I.hok eb) dd λ h' dd' hs=>h _ ?_
  obtain ⟨q,es,ep,hq,h2,h3,h4,_,h5⟩:=dd'
  refine zo I (by rw [e];exact True.intro) hs ⟨q,hq⟩ ⟨hl,hd,_,(rel.put k eb rv).keeps λ c ys ec=>?_,q,es,ep,hq,h2,h3,h4,h5⟩
  rw [aq (CB ec e (λ z=>nomatch z))]
  exact ec
end
section
variable {X:Cx} {pins:List (Addr × Obj)} {σ:St} {H:Hp} {s:Shared} {a:Addr} {kvs:List (cY × V)} {k:cY} {u:Value} {A:Around} {E:Value->Shared->Prop}
end
noncomputable def GE (td ty tv:TE):TS:=λ D σ H=>tv σ H λ v H1=>td σ H1 λ x H2=>ty σ H2 λ y H3=>∃ a H4,x=.ref a/\Bz H3 a y v H4/\D.nx σ H4
section
variable {X:Cx} {o i e value:Expr} {pos pos' tpos:Pos} {td ty tv:TE}
theorem Fj (hu:X.A.units + 1 < cLine) (ho:PE X o td) (hi:PE X i ty) (hv:PE X value tv) (hs:swapsWith value (some (.Subscript o i pos')) pos.line X.env=pure false) :
  PS X (.Assign [.Subscript o i pos'] value pos) (GE td ty tv):=by
 intro pins s σ H D I h
 refine wpAny_Assign_Subscript (br (hv pins s σ H _ I h) λ r s1 ⟨v,H1,I1,rv,q1⟩=>br (ho pins s1 σ H1 _ I1 q1) λ u s2 ⟨x,H2,I2,rx,q2⟩=>br (hi pins s2 σ H2 _ I2 q2) λ iv s3 ⟨y,H3,I3,ry,a,H4,ex,g,q3⟩=>?_) hs
 subst ex
 obtain rfl:u=Value.ref a:=rx
 exact Af hu I3 g ry rv λ s4 I4=>⟨σ,H4,I4,q3⟩
end
theorem B1 {P:Program} {w:World} {H:Hp} (h:Heap) (hb:sysModules < h.objs.size):dG P w H (h.push { cls:=.type "dict",data:=.dict #[] }) h.objs.size (.dK []):=
 ⟨Nat.zero_le _,beq_eq_false_iff_ne.mpr (Ne.symm (Nat.ne_of_lt hb)),[],.nil,Heap.DictOf.new h⟩
noncomputable def IW:TE:=λ _ H Q=>∀ p,H p=none->Q (.ref p) (upd H p (.dK []))
section
variable {X:Cx} {pos:Pos}
theorem CQ:PE X (.Dict [] [] pos) IW:=λ pins s σ H Q I h =>
 wpAny_Dict_empty ⟨.ref s.heap.objs.size,_,I.laid (a:=s.heap.objs.size) (o:=.dK []) (t':=s.toks) (λ _ _ q=>Heap.get?_push_of_some _ q) (Nat.le_refl _) (B1 s.heap I.big),rfl,h _ (I.hok.fresh (Nat.le_refl _))⟩
end
end L2
namespace L3
open PySem PySem.Spec PyProof.Rows L2
noncomputable abbrev St:=L2.St
structure FreshX (X:Cx) (pins:List (Addr × Obj)) (H:Hp) (b:Addr):Prop where
 nl:b ≠ X.env.locals
 nc:∀ x c,X.env.cells.lookup x=some c->c ≠ b
 np:∀ p∈X.pn++pins,p.1 ≠ b
 n0:X.s₀.heap.get? b=none
 nh:H b=none
structure Flies (X:Cx) (pins:List (Addr × Obj)) (H:Hp) (s:Shared) (ea:Addr) (C:Value):Prop where
 ex:∃ oe vs a0,s.heap.get? ea=some oe/\oe.cls=C/\oe.data=.fields vs/\vs[0]?=some a0 ∧
  (vs[1]?=some .none \/ ∃ T oT ts,vs[1]?=some (.ref T)/\T ≠ ea/\s.heap.get? T=some oT/\oT.data=.fields ts/\ts[3]?=some .none/\FreshX X pins H T)
 fr:FreshX X pins H ea
noncomputable def pU (P:Program) (w:World):Bv:=λ outer H s E e s'=>∃ (ea:Addr) (C:Value) (H':Hp),e=.ref ea/\s'.os=s.os/\AllBare s'.gens/\Un (oQ outer) [] H H' s.heap s'.heap/\nF P w H' s'.heap ∧
 (s.heap.get? ea=none/\H' ea=none) ∧
 (∃ oe vs a0 T oT ts,s'.heap.get? ea=some oe/\oe.cls=C/\oe.data=.fields vs/\vs[0]?=some a0/\vs[1]?=some (.ref T)/\T ≠ ea/\s'.heap.get? T=some oT/\oT.data=.fields ts/\ts[3]?=some .none/\s.heap.get? T=none/\H' T=none) ∧
 E C none H'
theorem rn {P:Program} {w:World} {H:Hp} {h:Heap} {a:Addr} {o:HO} (x:dG P w H h a o):∃ u,h.get? a=some u:=by
 cases o with
 | lst xs=>obtain ⟨_,_,_,_,e⟩:=x;exact ⟨_,e⟩
 | tup xs=>obtain ⟨_,_,_,ob,e,_⟩:=x;exact ⟨_,e⟩
 | dK kvs=>obtain ⟨_,_,_,_,o,_,_,e,_⟩:=x;exact ⟨_,e⟩
 | dT kvs=>obtain ⟨_,_,_,_,o,_,_,e,_⟩:=x;exact ⟨_,e⟩
 | set S n=>obtain ⟨o,_,_,_,e,_⟩:=x;exact ⟨_,e⟩
 | ins C dx fs=>obtain ⟨_,_,_,e,_⟩:=x;exact ⟨_,e⟩
 | own y=>exact x
 | xd fs=>obtain ⟨_,⟨_,_,_,e,_⟩,_⟩:=x;exact ⟨_,e⟩
 | rng lo hi=>obtain ⟨_,_,_,e⟩:=x;exact ⟨_,e⟩
 | frz ob u=>obtain ⟨e,_⟩:=x;exact ⟨_,e⟩
 | tbl ps=>exact ⟨_,x⟩
 | met f y=>exact ⟨_,x⟩
 | ext φ=>obtain ⟨_,e,_⟩:=x;exact e
section
variable {X:Cx} {pins:List (Addr × Obj)} {σ:St} {H H':Hp} {s s':Shared} {ea:Addr} {C:Value}
theorem oP (I:Inv X pins σ H s) (hex:X.ex=[]) {b:Addr} (e:s.heap.get? b=none) (n:H' b=none):FreshX X pins H' b where
 nl:=λ z=>by
  obtain ⟨m,⟨o,_,_,ho,_⟩,_⟩:=I.loc
  rw [<- z,e] at ho;cases ho
 nc:=λ x c h z=>by
  obtain ⟨v,o,ho,_⟩:=I.cell x c h
  rw [z,e] at ho;cases ho
 np:=λ p hp z=>by
  have:=(I.pin p hp).1
  rw [z,e] at this;cases this
 n0:=by
  cases q:X.s₀.heap.get? b with
  | none=>rfl
  | some o =>
   obtain ⟨o',h'⟩:=I.base.there b o q (by rw [hex];simp)
   rw [e] at h';cases h'
 nh:=n
theorem Aw (I:Inv X pins σ H s) (hex:X.ex=[]) {E:XK} {e:Value} (h:pU X.prog X.w X.stack H s E e s') :
  ∃ ea C H',e=.ref ea/\Inv X pins σ H' s'/\Flies X pins H' s' ea C/\E C none H':=by
 obtain ⟨ea,C,H',rfl,os,bare,un,hok,⟨n1,n2⟩,⟨oe,vs,a0,T,oT,ts,t1,t2,t3,t4,t5,t6,t7,t8,t9,t10,t11⟩,hE⟩:=h
 refine ⟨ea,C,H',rfl,I.call' os un hok bare (ch:=[]) (λ b z=>absurd z (by simp)),⟨⟨oe,vs,a0,t1,t2,t3,t4,.inr ⟨T,oT,ts,t5,t6,t7,t8,t9,oP I hex t10 t11⟩⟩,oP I hex n1 n2⟩,hE⟩
noncomputable def He (X:Cx) (s:Shared) (l:List Addr):Heap:=PySem.W.hideAll s.heap (oQ X.stack++l)
theorem tj {l:List Addr}:(He X s l).StaysIn s.heap:=λ b o q=>PySem.W.of_hideAll _ q
theorem q8 {l:List Addr} {b:Addr} (h:b∈l):(He X s l).get? b=none:=PySem.W.hideAll_none _ (List.mem_append_right _ h)
theorem zr {l:List Addr} {b:Addr} {o:Obj} (e:s.heap.get? b=some o) (h1:b ∉ oQ X.stack) (h2:b ∉ l):(He X s l).get? b=some o:=
 PySem.W.hideAll_get _ e λ z=>(List.mem_append.mp z).elim h1 h2
theorem qZ (I:Inv X pins σ H s) {l:List Addr}:s.heap.FunFrames (He X s l) X.stack:=
 PySem.W.funFrames_hide I.stack λ env he a ha=>List.mem_append_left _ (List.mem_filterMap.mpr ⟨env,he,ha⟩)
theorem Cv {M:Model} {E:XK} {E':Value->Shared->Prop} (I:Inv X pins σ H s) (hex:X.ex=[]) (hst:X.stack=X.env :: X.outer) (hf:X.env.frame=some X.env.locals) (F:Flies X pins H s ea C) (h:E C none H) :
  wpAny M X.A (leaving X.env (.ref ea)) (λ _ s''=>pU X.prog X.w X.outer X.H₀ X.s₀ E (.ref ea) s'') E' s:=by
 obtain ⟨oe,vs,a0,t1,t2,t3,t4,t5⟩:=F.ex
 have hfr:X.A.frames=some (X.env :: X.outer):=by rw [<- hst];exact I.ok.frames
 have fin:∀ (l:List Addr) (h':Heap),(∀ b∈l,FreshX X pins H b)->ea∈l->Heap.LeftW (He X s l) (X.env :: X.outer) ea C a0 s.heap h'->pU X.prog X.w X.outer X.H₀ X.s₀ E (.ref ea) { s with heap:=h' }:=by
  intro l h' hl he hL
  obtain ⟨k1,k2,⟨oe',vs',T,oT,ts,g1,⟨g2,g3⟩,g4,g5,g6,g7,g8,g9,g10⟩,k4⟩:=hL
  have stk0:∀ b o,b∈oQ X.stack->s.heap.get? b=some o->∀ vs,o.data ≠ .fields vs:=λ b o hb e=>by
   obtain ⟨_,o',e',d⟩:=I.stack.mem hb
   rw [e] at e';cases e';exact d
  have keep:∀ b o,b ∉ oQ X.stack->b ∉ l->s.heap.get? b=some o->h'.get? b=some o:=λ b o n1 n2 e=>k1 b o (zr e n1 n2)
  have up:∀ b o,b∈oQ X.stack->s.heap.get? b=some o->∃ sl,h'.get? b=some { o with slots:=sl }:=λ b o hb e=>k4 b o e (stk0 b o hb e)
  have F6:∀ b o,H b=some o->b ∉ oQ X.stack/\b ∉ l:=λ b o e =>
   ⟨λ z=>(by rw [I.stkFree b z] at e;cases e),λ z=>(by rw [(hl b z).nh] at e;cases e)⟩
  have old:∀ b o,X.s₀.heap.get? b=some o->b ∉ l/\b ≠ X.env.locals:=λ b o e =>
   ⟨λ z=>(by rw [(hl b z).n0] at e;cases e),Nat.ne_of_lt (Nat.lt_of_lt_of_le (Heap.lt_size e) I.ok.above)⟩
  have stk:∀ b,b ≠ X.env.locals->b ∉ oQ X.outer->b ∉ oQ X.stack:=λ b n1 n2 hb=>(List.mem_cons.mp (I.stkSub b hb)).elim n1 n2
  have inst:∀ b,b∈oQ X.outer->b∈oQ X.stack:=λ b hb=>by
   rw [hst]
   unfold oQ
   rw [List.filterMap_cons,hf]
   exact List.mem_cons_of_mem _ hb
  have Tn:∀ o,s.heap.get? T=some o->T∈l:=λ o e=>by
   refine Classical.byContradiction λ n=>?_
   have ns:T ∉ oQ X.stack:=λ z=>by
    obtain ⟨_,o',e',d⟩:=k2.mem (by rw [hst] at z;exact z)
    rw [g8] at e';cases e';exact d ts g9
   have:=zr (X:=X) e ns n
   rw [g6] at this;cases this
  refine ⟨ea,C,H,rfl,I.os,I.bare,⟨λ b o e n hb _=>?_,λ b o e n hb _=>?_,λ b o e n _=>?_,λ b o e _=>?_,I.base.tups,I.base.frzs,I.base.tbls⟩,λ a o e=>?_,⟨(hl ea he).n0,(hl ea he).nh⟩,⟨oe',vs',a0,T,oT,ts,g1,g2,g4,g3,g5,g7,g8,g9,g10,?_,?_⟩,h⟩
  ·exact keep b o (stk b (old b o e).2 hb) (old b o e).1 (I.base.keep b o e n hb (by rw [hex];simp))
  ·obtain ⟨sl,e1⟩:=I.base.slot b o e n hb (by rw [hex];simp)
   obtain ⟨sl',e2⟩:=up b _ (inst b hb) e1
   exact ⟨sl',e2⟩
  ·exact I.base.free b o e n (by rw [hex];simp)
  ·obtain ⟨o',e1⟩:=I.base.there b o e (by rw [hex];simp)
   by_cases hb:b∈oQ X.stack
   ·obtain ⟨sl,q⟩:=up b o' hb e1
    exact ⟨_,q⟩
   ·exact ⟨_,keep b o' hb (old b o e).1 e1⟩
  ·refine (I.hok a o e).stay (λ b u hb q=>?_) (λ _ q=>q) λ _ _ q=>q
   rcases hb with rfl | hb
   ·exact keep b u (F6 b o e).1 (F6 b o e).2 q
   ·exact keep b u (F6 b _ hb).1 (F6 b _ hb).2 q
  ·cases q:X.s₀.heap.get? T with
   | none=>rfl
   | some o =>
    obtain ⟨o',e1⟩:=I.base.there T o q (by rw [hex];simp)
    have:=(hl T (Tn o' e1)).n0
    rw [q] at this;cases this
  ·cases q:H T with
   | none=>rfl
   | some o =>
    obtain ⟨u,e1⟩:=rn (I.hok T o q)
    have:=(hl T (Tn u e1)).nh
    rw [q] at this;cases this
 rcases t5 with t5 | ⟨T,oT,ts,t5,t6,t7,t8,t9,fT⟩
 ·have fl:=qZ I (l:=[ea])
  rw [hst] at fl
  refine wpAny_leaving_firstW (base:=He X s [ea]) (a0:=a0) hfr fl hf t1 tj (q8 (by simp)) t3 t5 t4 λ h' hL=>?_
  rw [t2] at hL
  exact fin [ea] h' (λ b hb=>by simp at hb;subst hb;exact F.fr) (by simp) hL
 ·have fl:=qZ I (l:=[ea,T])
  rw [hst] at fl
  refine wpAny_leaving_nextW (base:=He X s [ea,T]) (cls:=C) (a0:=a0) hfr fl hf ⟨oe,vs,T,oT,ts,t1,⟨t2,t4⟩,t3,t5,q8 (by simp),t6,t7,t8,t9⟩ tj (q8 (by simp)) λ h' hL=>?_
  exact fin [ea,T] h' (λ b hb=>by
   simp at hb
   rcases hb with rfl | rfl
   ·exact F.fr
   ·exact fT) (by simp) hL
end
end L3
namespace L3
open PySem PySem.Spec PyProof.Rows L2
theorem eQ {α β:Type} {A C:α->β->Prop} {P:Prop} (h:∃ a b,A a b/\C a b) (k:∀ a b,A a b->C a b->P):P:=by
 obtain ⟨a,b,h1,h2⟩:=h
 exact k a b h1 h2
inductive D where
 | non | bl (b:Bool) | int (i:Int) | str (x:List Nat) | tup (ds:List D) | lst (ds:List D) | ob (c:Nat) (ns:List Str) (ds:List D) | dic (ks:List cY) (ds:List D)
inductive R (α:Type) where
 | ok (a:α) | exc (c:Nat) | stuck
noncomputable def R.bind {α β:Type}:R α->(α->R β)->R β
 | .ok a,f=>f a
 | .exc c,_=>.exc c
 | .stuck,_=>.stuck
@[simp] theorem R.bind_ok {α β:Type} (a:α) (f:α->R β):(R.ok a).bind f=f a:=rfl
@[simp] theorem R.bind_exc {α β:Type} (c:Nat) (f:α->R β):(R.exc c:R α).bind f=R.exc c:=rfl
@[simp] theorem R.bind_stuck {α β:Type} (f:α->R β):(R.stuck:R α).bind f=R.stuck:=rfl
structure Zx where
 K:PySem.W.Frag
 κ:Nat->Addr
noncomputable abbrev Jk (x:List Nat):V:=.str ⟨x.toArray⟩
mutual
noncomputable def aN (Z:Zx) (G:Hp):V->D->Prop
 | v,.non=>v=.non
 | v,.bl b=>v=.bl b
 | v,.int i=>v=.int i
 | v,.str x=>v=Jk x
 | v,.tup ds=>∃ a vs,v=.ref a/\mS Z.K G a vs/\Dens Z G vs ds
 | v,.lst ds=>∃ a vs,v=.ref a/\bz Z.K G a vs/\Dens Z G vs ds
 | v,.ob c ns ds=>∃ a dx vs,v=.ref a/\G a=some (.ins (Z.κ c) dx (ns.zip vs))/\ns.length=vs.length/\Dens Z G vs ds
 | v,.dic ks ds=>∃ a vs,v=.ref a/\G a=some (.dK (ks.zip vs))/\ks.length=vs.length/\Dens Z G vs ds
noncomputable def Dens (Z:Zx) (G:Hp):List V->List D->Prop
 | [],[]=>True
 | v :: vs,d :: ds=>aN Z G v d/\Dens Z G vs ds
 | [],_ :: _=>False
 | _ :: _,[]=>False
end
theorem bE {K:PySem.W.Frag} {H H':Hp} {a:Addr} {xs:List V} (e:aM H H') (h:mS K H a xs):mS K H' a xs:=by
 rcases h with (h | ⟨o,h⟩) | h
 ·exact .inl (.inl (e _ _ h))
 ·exact .inl (.inr ⟨o,e _ _ h⟩)
 ·exact .inr h
section
variable {Z:Zx} {G G':Hp}
mutual
theorem aN.mono (s:aM G G'):∀ {v:V} {d:D},aN Z G v d->aN Z G' v d
 | v,.non,h=>by unfold aN at h ⊢;exact h
 | v,.bl b,h=>by unfold aN at h ⊢;exact h
 | v,.int i,h=>by unfold aN at h ⊢;exact h
 | v,.str x,h=>by unfold aN at h ⊢;exact h
 | v,.tup ds,h=>by
  unfold aN at h ⊢
  obtain ⟨a,vs,e,q,r⟩:=h
  exact ⟨a,vs,e,bE s q,Dens.mono s r⟩
 | v,.lst ds,h=>by
  unfold aN at h ⊢
  obtain ⟨a,vs,e,q,r⟩:=h
  exact ⟨a,vs,e,s.seq q,Dens.mono s r⟩
 | v,.ob c ns ds,h=>by
  unfold aN at h ⊢
  obtain ⟨a,dx,vs,e,q,l,r⟩:=h
  exact ⟨a,dx,vs,e,s _ _ q,l,Dens.mono s r⟩
 | v,.dic ks ds,h=>by
  unfold aN at h ⊢
  obtain ⟨a,vs,e,q,l,r⟩:=h
  exact ⟨a,vs,e,s _ _ q,l,Dens.mono s r⟩
theorem Dens.mono (s:aM G G'):∀ {vs:List V} {ds:List D},Dens Z G vs ds->Dens Z G' vs ds
 | [],[],h=>by unfold Dens;trivial
 | v :: vs,d :: ds,h=>by
  unfold Dens at h ⊢
  exact ⟨aN.mono s h.1,Dens.mono s h.2⟩
 | [],_ :: _,h=>by unfold Dens at h;exact h.elim
 | _ :: _,[],h=>by unfold Dens at h;exact h.elim
end
theorem bg:Dens Z G [] []:=by unfold Dens;trivial
theorem aP {v:V} {vs:List V} {d:D} {ds:List D} (h:aN Z G v d) (r:Dens Z G vs ds):Dens Z G (v :: vs) (d :: ds):=by unfold Dens;exact ⟨h,r⟩
theorem Dens.length:∀ {vs:List V} {ds:List D},Dens Z G vs ds->vs.length=ds.length
 | [],[],_=>rfl
 | _ :: _,_ :: _,h=>by unfold Dens at h;simp [Dens.length h.2]
 | [],_ :: _,h=>by unfold Dens at h;exact h.elim
 | _ :: _,[],h=>by unfold Dens at h;exact h.elim
theorem Dens.get:∀ {vs:List V} {ds:List D} {i:Nat} {d:D},Dens Z G vs ds->ds[i]?=some d->∃ v,vs[i]?=some v/\aN Z G v d
 | [],[],_,_,_,e=>by simp at e
 | v :: _,_ :: _,0,_,h,e=>by unfold Dens at h;simp at e;subst e;exact ⟨v,rfl,h.1⟩
 | _ :: _,_ :: _,i + 1,_,h,e=>by unfold Dens at h;simpa using Dens.get h.2 (by simpa using e)
 | [],_ :: _,_,_,h,_=>by unfold Dens at h;exact h.elim
 | _ :: _,[],_,_,h,_=>by unfold Dens at h;exact h.elim
theorem Dens.append:∀ {vs:List V} {ds:List D} {us:List V} {es:List D},Dens Z G vs ds->Dens Z G us es->Dens Z G (vs++us) (ds++es)
 | [],[],_,_,_,h=>h
 | _ :: _,_ :: _,_,_,h,k=>by unfold Dens at h;exact aP h.1 (Dens.append h.2 k)
 | [],_ :: _,_,_,h,_=>by unfold Dens at h;exact h.elim
 | _ :: _,[],_,_,h,_=>by unfold Dens at h;exact h.elim
theorem Dens.drop:∀ {vs:List V} {ds:List D} (n:Nat),Dens Z G vs ds->Dens Z G (vs.drop n) (ds.drop n)
 | _,_,0,h=>h
 | [],[],_ + 1,_=>by simp;exact bg
 | _ :: _,_ :: _,n + 1,h=>by unfold Dens at h;simpa using Dens.drop n h.2
 | [],_ :: _,_ + 1,h=>by unfold Dens at h;exact h.elim
 | _ :: _,[],_ + 1,h=>by unfold Dens at h;exact h.elim
theorem Dens.take:∀ {vs:List V} {ds:List D} (n:Nat),Dens Z G vs ds->Dens Z G (vs.take n) (ds.take n)
 | _,_,0,_=>by simp;exact bg
 | [],[],_ + 1,_=>by simp;exact bg
 | _ :: _,_ :: _,n + 1,h=>by unfold Dens at h;simpa using aP h.1 (Dens.take n h.2)
 | [],_ :: _,_ + 1,h=>by unfold Dens at h;exact h.elim
 | _ :: _,[],_ + 1,h=>by unfold Dens at h;exact h.elim
theorem sZ (ns:List Int):Dens Z G (ns.map V.int) (ns.map D.int):=by
 induction ns with
 | nil=>exact bg
 | cons n r ih=>exact aP (by unfold aN;rfl) ih
end
inductive Sl where
 | sh (d:D) | ow (ds:List D) | oo (c:Nat) (ns:List Str) (ds:List D)
noncomputable abbrev Ev:=List (Option Sl)
structure Gd where
 g:Hp
 m:Addr->Prop
structure Hold (B:Gd) (H₀ G H:Hp):Prop where
 gG:aM B.g G
 GH:aM G H
 old:∀ b o,H₀ b=some o->¬ B.m b->H b=some o
 there:∀ b,H₀ b ≠ none->H b ≠ none
 lent:∀ b,H₀ b ≠ none->B.g b=none->G b=none
inductive ShE (Z:Zx) (G:Hp) (σ:St) (i:Nat) (d:D):Prop
 | mk (v:V) (s:σ[i]?=some (some v)) (d:aN Z G v d)
inductive OwE (Z:Zx) (H₀ G H:Hp) (σ:St) (i:Nat) (ds:List D):Prop
 | mk (a:Addr) (vs:List V) (s:σ[i]?=some (some (.ref a))) (h:H a=some (.lst vs)) (d:Dens Z G vs ds) (g:G a=none) (n:H₀ a=none)
structure Rep (Z:Zx) (B:Gd) (H₀ G H:Hp) (σ:St) (δ:Ev):Prop extends Hold B H₀ G H where
 len:σ.length=δ.length
 sh:∀ (i:Nat) d,δ[i]?=some (some (.sh d))->ShE Z G σ i d
 ow:∀ (i:Nat) ds,δ[i]?=some (some (.ow ds))->OwE Z H₀ G H σ i ds
 sep:∀ (i j:Nat) ds es a,i ≠ j->δ[i]?=some (some (.ow ds))->δ[j]?=some (some (.ow es))->σ[i]?=some (some (.ref a))->σ[j]?=some (some (.ref a))->False
 oo:∀ (i:Nat) c ns ds,δ[i]?=some (some (.oo c ns ds))->∃ x dx vs,σ[i]?=some (some (.ref x))/\H x=some (.ins (Z.κ c) dx (ns.zip vs))/\ns.length=vs.length/\Dens Z G vs ds/\G x=none/\B.m x
 oo1:∀ (i j:Nat) c ns ds c' ns' ds' x,i ≠ j->δ[i]?=some (some (.oo c ns ds))->δ[j]?=some (some (.oo c' ns' ds'))->σ[i]?=some (some (.ref x))->σ[j]?=some (some (.ref x))->False
structure Ext (G H G' H':Hp):Prop where
 sG:aM G G'
 sH:aM H H'
 GH:aM G' H'
 new:∀ a,G' a ≠ none->G a ≠ none \/ H a=none
theorem Ext.refl {G H:Hp} (h:aM G H):Ext G H G H:=⟨aM.refl _,aM.refl _,h,λ _ z=>.inl z⟩
theorem Ext.trans {G H G1 H1 G2 H2:Hp} (a:Ext G H G1 H1) (b:Ext G1 H1 G2 H2):Ext G H G2 H2:=
 ⟨a.sG.trans b.sG,a.sH.trans b.sH,b.GH,λ x z=>(b.new x z).elim (a.new x) λ q=>.inr (a.sH.free q)⟩
section
variable {Z:Zx} {B:Gd} {H₀ G H G' H':Hp} {σ:St} {δ:Ev}
theorem Hold.ext (h:Hold B H₀ G H) (e:Ext G H G' H'):Hold B H₀ G' H' where
 gG:=h.gG.trans e.sG
 GH:=e.GH
 old:=λ b o q n=>e.sH _ _ (h.old b o q n)
 there:=λ b q=>by
  have:=h.there b q
  cases z:H b with
  | none=>exact absurd z this
  | some o=>rw [e.sH _ _ z];simp
 lent:=λ b q n=>by
  cases z:G' b with
  | none=>rfl
  | some o =>
   rcases e.new b (by rw [z];simp) with y | y
   ·exact absurd (h.lent b q n) y
   ·exact absurd y (h.there b q)
theorem Rep.ext (r:Rep Z B H₀ G H σ δ) (e:Ext G H G' H'):Rep Z B H₀ G' H' σ δ where
 toHold:=r.toHold.ext e
 len:=r.len
 sh:=λ i d q=>let ⟨v,a,b⟩:=r.sh i d q;⟨v,a,b.mono e.sG⟩
 ow:=λ i ds q=>by
  obtain ⟨a,vs,x1,x2,x3,x4,x5⟩:=r.ow i ds q
  refine ⟨a,vs,x1,e.sH _ _ x2,x3.mono e.sG,?_,x5⟩
  cases z:G' a with
  | none=>rfl
  | some o =>
   rcases e.new a (by rw [z];simp) with y | y
   ·exact absurd x4 y
   ·rw [x2] at y;cases y
 sep:=r.sep
 oo:=λ i c ns ds q=>by
  obtain ⟨x,dx,vs,x1,x2,x3,x4,x5,x6⟩:=r.oo i c ns ds q
  refine ⟨x,dx,vs,x1,e.sH _ _ x2,x3,x4.mono e.sG,?_,x6⟩
  cases z:G' x with
  | none=>rfl
  | some o =>
   rcases e.new x (by rw [z];simp) with y | y
   ·exact absurd x5 y
   ·rw [x2] at y;cases y
 oo1:=r.oo1
theorem bb {α:Type} {l:List α} {i j:Nat} {x y:α} (h:(l.set i x)[j]?=some y):(j=i/\y=x/\i < l.length) \/ (j ≠ i/\l[j]?=some y):=by
 by_cases e:j=i
 ·subst e
  by_cases hl:j < l.length
  ·rw [List.getElem?_set_self hl] at h;exact .inl ⟨rfl,(Option.some.inj h).symm,hl⟩
  ·rw [List.getElem?_eq_none (by simpa using hl)] at h;cases h
 ·rw [List.getElem?_set_ne (Ne.symm e)] at h;exact .inr ⟨e,h⟩
theorem Rep.setSh (r:Rep Z B H₀ G H σ δ) {i:Nat} {v:V} {d:D} (h:aN Z G v d):Rep Z B H₀ G H (σ.set i (some v)) (δ.set i (some (.sh d))) where
 toHold:=r.toHold
 len:=by simpa using r.len
 sh:=λ j e q=>by
  rcases bb q with ⟨rfl,e1,hl⟩ | ⟨n,q⟩
  ·cases e1
   exact ⟨v,List.getElem?_set_self (by rw [r.len];exact hl),h⟩
  ·obtain ⟨u,a,b⟩:=r.sh j e q
   exact ⟨u,by rw [List.getElem?_set_ne (Ne.symm n)];exact a,b⟩
 ow:=λ j ds q=>by
  rcases bb q with ⟨rfl,e1,hl⟩ | ⟨n,q⟩
  ·cases e1
  ·obtain ⟨a,vs,x1,x2,x3,x4,x5⟩:=r.ow j ds q
   exact ⟨a,vs,by rw [List.getElem?_set_ne (Ne.symm n)];exact x1,x2,x3,x4,x5⟩
 sep:=λ j k ds es a n q1 q2 s1 s2=>by
  rcases bb q1 with ⟨_,e1,_⟩ | ⟨n1,q1⟩
  ·cases e1
  ·rcases bb q2 with ⟨_,e1,_⟩ | ⟨n2,q2⟩
   ·cases e1
   ·rw [List.getElem?_set_ne (Ne.symm n1)] at s1
    rw [List.getElem?_set_ne (Ne.symm n2)] at s2
    exact r.sep j k ds es a n q1 q2 s1 s2
 oo:=λ j c ns ds q=>by
  rcases bb q with ⟨rfl,e1,hl⟩ | ⟨n,q⟩
  ·cases e1
  ·obtain ⟨x,dx,vs,x1,x2⟩:=r.oo j c ns ds q
   exact ⟨x,dx,vs,by rw [List.getElem?_set_ne (Ne.symm n)];exact x1,x2⟩
 oo1:=λ j k c ns ds c' ns' ds' x n q1 q2 s1 s2=>by
  rcases bb q1 with ⟨_,e1,_⟩ | ⟨n1,p1⟩
  ·cases e1
  ·rcases bb q2 with ⟨_,e2,_⟩ | ⟨n2,p2⟩
   ·cases e2
   ·rw [List.getElem?_set_ne (Ne.symm n1)] at s1
    rw [List.getElem?_set_ne (Ne.symm n2)] at s2
    exact r.oo1 j k c ns ds c' ns' ds' x n p1 p2 s1 s2
theorem Rep.setOw (r:Rep Z B H₀ G H σ δ) {i:Nat} {a:Addr} {vs:List V} {ds:List D} (h1:H a=some (.lst vs)) (h2:Dens Z G vs ds) (h3:G a=none) (h4:H₀ a=none)
  (h5:∀ (j:Nat) es,δ[j]?=some (some (.ow es))->j ≠ i->σ[j]? ≠ some (some (.ref a))):Rep Z B H₀ G H (σ.set i (some (.ref a))) (δ.set i (some (.ow ds))) where
 toHold:=r.toHold
 len:=by simpa using r.len
 sh:=λ j e q=>by
  rcases bb q with ⟨rfl,e1,hl⟩ | ⟨n,q⟩
  ·cases e1
  ·obtain ⟨u,a,b⟩:=r.sh j e q
   exact ⟨u,by rw [List.getElem?_set_ne (Ne.symm n)];exact a,b⟩
 ow:=λ j es q=>by
  rcases bb q with ⟨rfl,e1,hl⟩ | ⟨n,q⟩
  ·cases e1
   exact ⟨a,vs,List.getElem?_set_self (by rw [r.len];exact hl),h1,h2,h3,h4⟩
  ·obtain ⟨b,us,x1,x2,x3,x4,x5⟩:=r.ow j es q
   exact ⟨b,us,by rw [List.getElem?_set_ne (Ne.symm n)];exact x1,x2,x3,x4,x5⟩
 sep:=λ j k es fs b n q1 q2 s1 s2=>by
  rcases bb q1 with ⟨ej,e1,l1⟩ | ⟨n1,p1⟩
  ·rcases bb q2 with ⟨ek,_⟩ | ⟨n2,p2⟩
   ·exact n (ej.trans ek.symm)
   ·rw [ej,List.getElem?_set_self (by rw [r.len];exact l1)] at s1
    rw [List.getElem?_set_ne (Ne.symm n2)] at s2
    cases s1
    exact h5 k fs p2 n2 s2
  ·rcases bb q2 with ⟨ek,e1,l2⟩ | ⟨n2,p2⟩
   ·rw [ek,List.getElem?_set_self (by rw [r.len];exact l2)] at s2
    rw [List.getElem?_set_ne (Ne.symm n1)] at s1
    cases s2
    exact h5 j es p1 n1 s1
   ·rw [List.getElem?_set_ne (Ne.symm n1)] at s1
    rw [List.getElem?_set_ne (Ne.symm n2)] at s2
    exact r.sep j k es fs b n p1 p2 s1 s2
 oo:=λ j c ns es q=>by
  rcases bb q with ⟨rfl,e1,hl⟩ | ⟨n,q⟩
  ·cases e1
  ·obtain ⟨x,dx,us,x1,x2⟩:=r.oo j c ns es q
   exact ⟨x,dx,us,by rw [List.getElem?_set_ne (Ne.symm n)];exact x1,x2⟩
 oo1:=λ j k c ns es c' ns' es' x n q1 q2 s1 s2=>by
  rcases bb q1 with ⟨_,e1,_⟩ | ⟨n1,p1⟩
  ·cases e1
  ·rcases bb q2 with ⟨_,e2,_⟩ | ⟨n2,p2⟩
   ·cases e2
   ·rw [List.getElem?_set_ne (Ne.symm n1)] at s1
    rw [List.getElem?_set_ne (Ne.symm n2)] at s2
    exact r.oo1 j k c ns es c' ns' es' x n p1 p2 s1 s2
theorem Rep.updOw (r:Rep Z B H₀ G H σ δ) {i:Nat} {a:Addr} {ds es:List D} {us:List V} (q:δ[i]?=some (some (.ow ds))) (s:σ[i]?=some (some (.ref a))) (h2:Dens Z G us es) :
  Rep Z B H₀ G (upd H a (.lst us)) σ (δ.set i (some (.ow es))):=by
 obtain ⟨a',vs,x1,x2,x3,x4,x5⟩:=r.ow i ds q
 rw [s] at x1;cases x1
 have ha:∀ b o,G b=some o->b ≠ a:=λ b o z e=>by rw [e,x4] at z;cases z
 refine ⟨⟨r.gG,λ b o z=>by rw [aq (ha b o z)];exact r.GH b o z,λ b o z n=>?_,λ b z=>?_,r.lent⟩,by simpa using r.len,λ j e q'=>?_,λ j fs q'=>?_,λ j k fs gs b n q1 q2 s1 s2=>?_,λ j c ns fs q'=>?_,λ j k c ns fs c' ns' fs' x n q1 q2 s1 s2=>?_⟩
 ·rw [aq (by rintro rfl;rw [x5] at z;cases z)];exact r.old b o z n
 ·by_cases hb:b=a
  ·subst hb;rw [aw];simp
  ·rw [aq hb];exact r.there b z
 ·rcases bb q' with ⟨_,e1,_⟩ | ⟨n,q'⟩
  ·cases e1
  ·exact r.sh j e q'
 ·rcases bb q' with ⟨rfl,e1,_⟩ | ⟨n,q'⟩
  ·cases e1
   exact ⟨a,us,s,aw,h2,x4,x5⟩
  ·obtain ⟨b,ws,y1,y2,y3,y4,y5⟩:=r.ow j fs q'
   have:b ≠ a:=by rintro rfl;exact r.sep j i fs ds b n q' q y1 s
   exact ⟨b,ws,y1,by rw [aq this];exact y2,y3,y4,y5⟩
 ·have f:∀ (l:Nat) es',(δ.set i (some (.ow es)))[l]?=some (some (.ow es'))->∃ es'',δ[l]?=some (some (.ow es'')):=λ l es' z=>by
   rcases bb z with ⟨rfl,_⟩ | ⟨_,z⟩
   ·exact ⟨ds,q⟩
   ·exact ⟨_,z⟩
  obtain ⟨_,z1⟩:=f j fs q1
  obtain ⟨_,z2⟩:=f k gs q2
  exact r.sep j k _ _ b n z1 z2 s1 s2
 ·rcases bb q' with ⟨_,e1,_⟩ | ⟨n,q'⟩
  ·cases e1
  ·obtain ⟨x,dx,ws,y1,y2,y3⟩:=r.oo j c ns fs q'
   have:x ≠ a:=CB y2 x2 (by intro z;cases z)
   exact ⟨x,dx,ws,y1,by rw [aq this];exact y2,y3⟩
 ·rcases bb q1 with ⟨_,e1,_⟩ | ⟨_,p1⟩
  ·cases e1
  ·rcases bb q2 with ⟨_,e2,_⟩ | ⟨_,p2⟩
   ·cases e2
   ·exact r.oo1 j k c ns fs c' ns' fs' x n p1 p2 s1 s2
noncomputable def iY (i:Nat) (δ:Ev):Ev:=match δ[i]? with
 | some (some (.ow ds))=>δ.set i (some (.sh (.lst ds)))
 | _=>δ
theorem Rep.freeze (r:Rep Z B H₀ G H σ δ) (i:Nat):∃ G',Rep Z B H₀ G' H σ (iY i δ):=by
 unfold iY
 split
 ·rename_i ds q
  obtain ⟨a,vs,x1,x2,x3,x4,x5⟩:=r.ow i ds q
  have sg:aM G (upd G a (.lst vs)):=λ b o z=>by
   rw [aq (by rintro rfl;rw [x4] at z;cases z)];exact z
  have sh':aM (upd G a (.lst vs)) H:=λ b o z=>by
   by_cases hb:b=a
   ·subst hb;rw [aw] at z;cases z;exact x2
   ·rw [aq hb] at z;exact r.GH b o z
  refine ⟨upd G a (.lst vs),⟨⟨r.gG.trans sg,sh',r.old,r.there,λ b z n=>?_⟩,by simpa using r.len,λ j e q'=>?_,λ j fs q'=>?_,λ j k fs gs b n q1 q2 s1 s2=>?_,λ j c ns fs q'=>?_,λ j k c ns fs c' ns' fs' x n q1 q2 s1 s2=>?_⟩⟩
  ·rw [aq (by rintro rfl;exact z x5)];exact r.lent b z n
  ·rcases bb q' with ⟨rfl,e1,_⟩ | ⟨n,q'⟩
   ·cases e1
    exact ⟨.ref a,x1,by unfold aN;exact ⟨a,vs,rfl,bz.of aw,x3.mono sg⟩⟩
   ·obtain ⟨u,y1,y2⟩:=r.sh j e q'
    exact ⟨u,y1,y2.mono sg⟩
  ·rcases bb q' with ⟨_,e1,_⟩ | ⟨n,q'⟩
   ·cases e1
   ·obtain ⟨b,ws,y1,y2,y3,y4,y5⟩:=r.ow j fs q'
    have:b ≠ a:=by rintro rfl;exact r.sep j i fs ds b n q' q y1 x1
    exact ⟨b,ws,y1,y2,y3.mono sg,by rw [aq this];exact y4,y5⟩
  ·rcases bb q1 with ⟨_,e1,_⟩ | ⟨n1,q1⟩
   ·cases e1
   ·rcases bb q2 with ⟨_,e1,_⟩ | ⟨n2,q2⟩
    ·cases e1
    ·exact r.sep j k fs gs b n q1 q2 s1 s2
  ·rcases bb q' with ⟨_,e1,_⟩ | ⟨n,q'⟩
   ·cases e1
   ·obtain ⟨x,dx,ws,y1,y2,y3,y4,y5,y6⟩:=r.oo j c ns fs q'
    have:x ≠ a:=CB y2 x2 (by intro z;cases z)
    exact ⟨x,dx,ws,y1,y2,y3,y4.mono sg,by rw [aq this];exact y5,y6⟩
  ·rcases bb q1 with ⟨_,e1,_⟩ | ⟨_,p1⟩
   ·cases e1
   ·rcases bb q2 with ⟨_,e2,_⟩ | ⟨_,p2⟩
    ·cases e2
    ·exact r.oo1 j k c ns fs c' ns' fs' x n p1 p2 s1 s2
 ·exact ⟨G,r⟩
end
end L3
namespace L3
open PySem PySem.Spec PyProof.Rows L2
noncomputable abbrev At (X:Cx) (pins:List (Addr × Obj)) (σ:St) (Ex:Value->Shared->Prop):Cx:={ X with xe:=Ex,sg:=λ p τ=>p=pins/\τ=σ }
theorem JM {X:Cx} {pins:List (Addr × Obj)} {σ:St} {Ex:Value->Shared->Prop} (ok:X.Ok):(At X pins σ Ex).Ok:=
 ⟨ok.mod,ok.kind,ok.glob,ok.blt,ok.above,ok.inj,ok.has,ok.cab,ok.hd,ok.frames,ok.stk,ok.exf,ok.bs,ok.bsz,ok.noex,ok.exfs,ok.funs,ok.frf⟩
theorem EU {X:Cx} {pins:List (Addr × Obj)} {σ:St} {Ex Ex':Value->Shared->Prop} (ok:(At X pins σ Ex).Ok):(X.wish Ex').Ok:=
 ⟨ok.mod,ok.kind,ok.glob,ok.blt,ok.above,ok.inj,ok.has,ok.cab,ok.hd,ok.frames,ok.stk,ok.exf,ok.bs,ok.bsz,ok.noex,ok.exfs,ok.funs,ok.frf⟩
theorem bq {X:Cx} {pins:List (Addr × Obj)} {σ:St} {Ex Ex':Value->Shared->Prop} {H:Hp} {s:Shared} (I:Inv (X.wish Ex') pins σ H s):Inv (At X pins σ Ex) pins σ H s:=
 ⟨JM I.ok.unwish,I.os,I.bare,I.base,I.loc,I.cell,I.free,I.freeC,I.pin,I.hok,I.len,⟨rfl,rfl⟩⟩
theorem aH {X:Cx} {pins pins':List (Addr × Obj)} {σ σ':St} {Ex:Value->Shared->Prop} {H:Hp} {s:Shared} (hsg:∀ p τ,X.sg p τ) (I:Inv (At X pins σ Ex) pins' σ' H s):Inv (X.wish Ex) pins σ H s:=by
 obtain ⟨rfl,rfl⟩:=I.sgm
 exact ⟨EU I.ok,I.os,I.bare,I.base,I.loc,I.cell,I.free,I.freeC,I.pin,I.hok,I.len,hsg _ _⟩
noncomputable def EX (X:Cx) (pins:List (Addr × Obj)) (σ:St) (Ex:Value->Shared->Prop):XK:=λ C _ H'=>∀ ea s',Inv (X.wish Ex) pins σ H' s'->Flies X pins H' s' ea C->Ex (.ref ea) s'
theorem B8 {X:Cx} {pins pins':List (Addr × Obj)} {σ:St} {Ex:Value->Shared->Prop} {H:Hp} {s:Shared} {ea:Addr} {C:Value} (F:Flies (At X pins σ Ex) pins' H s ea C):Flies X pins' H s ea C:=by
 have c:∀ {b},FreshX (At X pins σ Ex) pins' H b->FreshX X pins' H b:=λ f=>⟨f.nl,f.nc,f.np,f.n0,f.nh⟩
 obtain ⟨⟨oe,vs,a0,t1,t2,t3,t4,t5⟩,fr⟩:=F
 refine ⟨⟨oe,vs,a0,t1,t2,t3,t4,t5.imp id ?_⟩,c fr⟩
 rintro ⟨T,oT,ts,x1,x2,x3,x4,x5,x6⟩
 exact ⟨T,oT,ts,x1,x2,x3,x4,x5,c x6⟩
structure Cxo (X:Cx):Prop where
 sg:∀ p τ,X.sg p τ
 ex:X.ex=[]
theorem fL {X:Cx} (c:Cxo X) {pins:List (Addr × Obj)} {σ:St} {Ex:Value->Shared->Prop}:xS (pU X.prog X.w) (At X pins σ Ex) (EX X pins σ Ex):=by
 intro pins' σ' H s e s' I h
 obtain ⟨rfl,rfl⟩:=I.sgm
 obtain ⟨ea,C,H',rfl,I',F,hE⟩:=Aw I c.ex h
 exact hE ea s' (aH c.sg I') (B8 F)
theorem be {X:Cx} {e:Expr} {t t':TE} (h:PE X e t) (k:∀ σ H Q,t' σ H Q->t σ H Q):PE X e t':=λ pins s σ H Q I q=>h pins s σ H Q I (k σ H Q q)
theorem vv {X:Cx} {e:Expr} {t t':TT} (h:PT X e t) (k:∀ σ H Q,t' σ H Q->t σ H Q):PT X e t':=λ pins s σ H Q I q=>h pins s σ H Q I (k σ H Q q)
theorem Db {X:Cx} {e:Expr} {t t':TT} (h:PW X e t) (k:∀ σ H Q,t' σ H Q->t σ H Q):PW X e t':=λ wh pins s σ H Q I q=>h wh pins s σ H Q I (k σ H Q q)
theorem CP {X:Cx} {e:List Expr} {t t':TA} (h:PA X e t) (k:∀ σ H Q,t' σ H Q->t σ H Q):PA X e t':=λ pos pins s σ H Q I q=>h pos pins s σ H Q I (k σ H Q q)
noncomputable def sO {α β:Type} (rel:Hp->Hp->β->α->Prop) (κ:Nat->Addr) (E:XK) (G H:Hp) (r:R α) (Q:β->Hp->Prop):Prop:=match r with
 | .ok d=>∀ v H' G',Ext G H G' H'->rel G' H' v d->Q v H'
 | .exc c=>∀ H' G',Ext G H G' H'->E (.ref (κ c)) none H'
 | .stuck=>False
section
variable {α α' β β':Type} {rel:Hp->Hp->β->α->Prop} {rel':Hp->Hp->β'->α'->Prop} {κ:Nat->Addr} {E:XK} {G H G' H':Hp}
theorem sO.pre {r:R α} {Q:β->Hp->Prop} (e:Ext G H G' H') (h:sO rel κ E G H r Q):sO rel κ E G' H' r Q:=by
 cases r with
 | ok d=>exact λ v H2 G2 e2 q=>h v H2 G2 (e.trans e2) q
 | exc c=>exact λ H2 G2 e2=>h H2 G2 (e.trans e2)
 | stuck=>exact h
theorem sO.seq {ra:R α} {k:α->R α'} {P:β->Hp->Prop} {Q:β'->Hp->Prop} (h:sO rel' κ E G H (ra.bind k) Q)
  (hk:∀ a v H1 G1,Ext G H G1 H1->rel G1 H1 v a->sO rel' κ E G1 H1 (k a) Q->P v H1):sO rel κ E G H ra P:=by
 cases ra with
 | ok d=>exact λ v H2 G2 e2 q=>hk d v H2 G2 e2 q (sO.pre e2 h)
 | exc c=>exact h
 | stuck=>exact h
end
noncomputable abbrev nN (X:Cx) (κ:Nat->Addr):Hp->Hp->V->D->Prop:=λ G _ v d=>aN ⟨X.K,κ⟩ G v d
noncomputable abbrev lT (X:Cx) (κ:Nat->Addr):Hp->Hp->List V->List D->Prop:=λ G _ v d=>Dens ⟨X.K,κ⟩ G v d
noncomputable abbrev GR:Hp->Hp->Bool->Bool->Prop:=λ _ _ b d=>b=d
noncomputable def gN (X:Cx) (κ:Nat->Addr):Hp->Hp->V->D->Prop:=λ G H v d=>aN ⟨X.K,κ⟩ G v d \/ ∃ a vs ds,v=.ref a/\d=.lst ds/\H a=some (.lst vs)/\Dens ⟨X.K,κ⟩ G vs ds
theorem gY {X:Cx} {κ:Nat->Addr} {G H G' H':Hp} {v:V} {d:D} (e:Ext G H G' H') (h:gN X κ G H v d):gN X κ G' H' v d:=by
 rcases h with h | ⟨a,vs,ds,h1,h2,h3,h4⟩
 ·exact .inl (h.mono e.sG)
 ·exact .inr ⟨a,vs,ds,h1,h2,e.sH _ _ h3,h4.mono e.sG⟩
noncomputable def tO {α β:Type} (rel:Hp->Hp->β->α->Prop) (X:Cx) (κ:Nat->Addr) (B:Gd) (E:XK) (f:Ev->R α):St->Hp->(β->Hp->Prop)->Prop:=
 λ σ H Q=>∃ G δ,Rep ⟨X.K,κ⟩ B X.H₀ G H σ δ/\sO rel κ E G H (f δ) Q
noncomputable def PX (κ:Nat->Addr) (B:Gd) (X:Cx) (e:Expr) (f:Ev->R D):Prop:=∀ pins σ Ex,PE (At X pins σ Ex) e (tO (nN X κ) X κ B (EX X pins σ Ex) f)
noncomputable def dN (κ:Nat->Addr) (B:Gd) (X:Cx) (e:Expr) (f:Ev->R D):Prop:=∀ pins σ Ex,PE (At X pins σ Ex) e (tO (gN X κ) X κ B (EX X pins σ Ex) f)
noncomputable def r9 (κ:Nat->Addr) (B:Gd) (X:Cx) (es:List Expr) (f:Ev->R (List D)):Prop:=∀ pins σ Ex,PA (At X pins σ Ex) es (tO (lT X κ) X κ B (EX X pins σ Ex) f)
noncomputable def mO (κ:Nat->Addr) (B:Gd) (X:Cx) (e:Expr) (f:Ev->R Bool):Prop:=∀ pins σ Ex,PT (At X pins σ Ex) e (tO GR X κ B (EX X pins σ Ex) f)
noncomputable def Eh (κ:Nat->Addr) (B:Gd) (X:Cx) (e:Expr) (f:Ev->R Bool):Prop:=∀ pins σ Ex,PW (At X pins σ Ex) e (tO GR X κ B (EX X pins σ Ex) f)
section
variable {κ:Nat->Addr} {B:Gd} {X:Cx} {a b c:Expr} {fa fb fc:Ev->R D} {pos:Pos}
theorem PX.read (h:PX κ B X a fa):dN κ B X a fa:=λ pins σ Ex=>be (h pins σ Ex) λ τ H Q hz=>eQ hz λ G δ r q=>⟨G,δ,r,by
 cases e:fa δ with
 | ok d=>rw [e] at q;exact λ v H' G' x y=>q v H' G' x (.inl y)
 | exc c=>rw [e] at q;exact q
 | stuck=>rw [e] at q;exact q⟩
noncomputable def mC (d:D):Ev->R D:=λ _=>.ok d
theorem Ic {e:Expr} {v:V} {d:D} (h:∀ pins σ Ex,PE (At X pins σ Ex) e (tC v)) (hd:∀ G,aN ⟨X.K,κ⟩ G v d):PX κ B X e (mC d):=λ pins σ Ex=>be (h pins σ Ex) λ τ H Q hz=>eQ hz λ G δ r q=>q v H G (Ext.refl r.GH) (hd G)
theorem Ih {i:Int} {j pos}:PX κ B X (.Constant (.int i) j pos) (mC (.int i)):=Ic (λ _ _ _=>o3) λ _=>by unfold aN;rfl
theorem JU {i:Bool} {j pos}:PX κ B X (.Constant (.bool i) j pos) (mC (.bl i)):=Ic (λ _ _ _=>Gy) λ _=>by unfold aN;rfl
theorem Im {j pos}:PX κ B X (.Constant .none j pos) (mC .non):=Ic (λ _ _ _=>HG) λ _=>by unfold aN;rfl
noncomputable def ac (i:Nat):Ev->R D:=λ δ=>match δ[i]? with
 | some (some (.sh d))=>.ok d
 | _=>.stuck
noncomputable def bO (i:Nat):Ev->R D:=λ δ=>match δ[i]? with
 | some (some (.sh d))=>.ok d
 | some (some (.ow ds))=>.ok (.lst ds)
 | _=>.stuck
theorem Ir (i:Nat) {x:Str} (hN:X.N[i]?=some x) (hv:kT X.env.scope x) (hd:(x == ("__debug__" : Str))=false) (hcd:(x == ("__classdict__" : Str))=false):PX κ B X (.Name x pos) (ac i):=λ pins σ Ex =>
 be (b0 (X:=At X pins σ Ex) hN hv hd hcd) λ τ H Q hz=>eQ hz λ G δ r q=>by
  unfold ac at q
  split at q
  ·rename_i d e
   obtain ⟨v,e1,e2⟩:=r.sh i d e
   exact ⟨v,e1,q v H G (Ext.refl r.GH) e2⟩
  ·exact q.elim
theorem Ft (i:Nat) {x:Str} (hN:X.N[i]?=some x) (hv:kT X.env.scope x) (hd:(x == ("__debug__" : Str))=false) (hcd:(x == ("__classdict__" : Str))=false):dN κ B X (.Name x pos) (bO i):=λ pins σ Ex =>
 be (b0 (X:=At X pins σ Ex) hN hv hd hcd) λ τ H Q hz=>eQ hz λ G δ r q=>by
  unfold bO at q
  split at q
  ·rename_i d e
   obtain ⟨v,e1,e2⟩:=r.sh i d e
   exact ⟨v,e1,q v H G (Ext.refl r.GH) (.inl e2)⟩
  ·rename_i ds e
   obtain ⟨l,vs,e1,e2,e3,_⟩:=r.ow i ds e
   exact ⟨.ref l,e1,q _ H G (Ext.refl r.GH) (.inr ⟨l,vs,ds,rfl,rfl,e2,e3⟩)⟩
  ·exact q.elim
noncomputable def m2 (op:D->D->R D) (fa fb:Ev->R D):Ev->R D:=λ δ=>(fa δ).bind λ x=>(fb δ).bind λ y=>op x y
noncomputable def m1 (op:D->R D) (fa:Ev->R D):Ev->R D:=λ δ=>(fa δ).bind op
noncomputable def oB (κ:Nat->Addr) (X:Cx) (r:R2) (op:D->D->R D):Prop:=∀ x y v u G H Q E,aM G H->gN X κ G H v x->gN X κ G H u y->sO (nN X κ) κ E G H (op x y) Q->r v u H Q
theorem rG {o:Operator} {r:R2} {op:D->D->R D} (ho:∀ Y:Cx,Y.K=X.K->my Y (binaryOp o) r) (hop:oB κ X r op) (ha:dN κ B X a fa) (hb:dN κ B X b fb):PX κ B X (.BinOp a o b pos) (m2 op fa fb):=λ pins σ Ex =>
 be (JP (ho (At X pins σ Ex) rfl) (ha pins σ Ex) (hb pins σ Ex)) λ τ H Q hz=>eQ hz λ G δ rp q=>⟨G,δ,rp,q.seq λ x v H1 G1 e1 d1 q1=>⟨G1,δ,rp.ext e1,q1.seq λ y u H2 G2 e2 d2 q2 =>
  hop x y v u G2 H2 Q _ e2.GH (gY e2 d1) d2 q2⟩⟩
theorem yO {o:CmpOp} {r:R2} {op:D->D->R D} (ho:∀ Y:Cx,Y.K=X.K->Y.A=X.A->my Y (compareOp o) r) (hop:oB κ X r op) (ha:dN κ B X a fa) (hb:dN κ B X b fb) (hm:behindInMarks o b=false):PX κ B X (.Compare a [o] [b] pos) (m2 op fa fb):=λ pins σ Ex =>
 be (E6 (ho (At X pins σ Ex) rfl rfl) (ha pins σ Ex) (hb pins σ Ex) hm) λ τ H Q hz=>eQ hz λ G δ rp q=>⟨G,δ,rp,q.seq λ x v H1 G1 e1 d1 q1=>⟨G1,δ,rp.ext e1,q1.seq λ y u H2 G2 e2 d2 q2 =>
  hop x y v u G2 H2 Q _ e2.GH (gY e2 d1) d2 q2⟩⟩
noncomputable def bY (op:D->D->R Bool) (fa fb:Ev->R D):Ev->R Bool:=λ δ=>(fa δ).bind λ x=>(fb δ).bind λ y=>op x y
noncomputable def D9:R Bool->R D
 | .ok b=>.ok (.bl b)
 | .exc c=>.exc c
 | .stuck=>.stuck
noncomputable def kI (op:D->D->R Bool):D->D->R D:=λ x y=>D9 (op x y)
theorem fR {o:CmpOp} {r:R2} {op:D->D->R Bool} (ho:∀ Y:Cx,Y.K=X.K->Y.A=X.A->my Y (compareOp o) r) (hop:oB κ X r (kI op)) (ha:dN κ B X a fa) (hb:dN κ B X b fb) (hm:behindInMarks o b=false):mO κ B X (.Compare a [o] [b] pos) (bY op fa fb):=λ pins σ Ex =>
 vv (Fk (ho (At X pins σ Ex) rfl rfl) (ha pins σ Ex) (hb pins σ Ex) hm) λ τ H Q hz=>eQ hz λ G δ rp q=>⟨G,δ,rp,q.seq λ x v H1 G1 e1 d1 q1=>⟨G1,δ,rp.ext e1,q1.seq λ y u H2 G2 e2 d2 q2 =>
  hop x y v u G2 H2 _ _ e2.GH (gY e2 d1) d2 (by
   unfold kI
   cases e:op x y with
   | ok k =>
    rw [e] at q2
    intro z H3 G3 e3 d3
    have d3':z=.bl k:=by simpa [aN] using d3
    exact ⟨k,d3',q2 k H3 G3 e3 rfl⟩
   | exc c=>rw [e] at q2;exact q2
   | stuck=>rw [e] at q2;exact q2)⟩⟩
theorem nB {G H:Hp} {v:V} {i:Int} (h:gN X κ G H v (.int i)):v=.int i:=by
 rcases h with h | ⟨_,_,_,_,e,_⟩
 ·simpa [aN] using h
 ·cases e
theorem nM {Z:Zx} {G:Hp} {i:Int}:aN Z G (.int i) (.int i):=by unfold aN;rfl
theorem Ep {Z:Zx} {G:Hp} {i:Bool}:aN Z G (.bl i) (.bl i):=by unfold aN;rfl
theorem KS {Z:Zx} {G:Hp}:aN Z G .non .non:=by unfold aN;rfl
noncomputable def oI (C:Int->Int->Bool) (g:Int->Int->Int):D->D->R D
 | .int i,.int j=>if C i j then .ok (.int (g i j)) else .stuck
 | _,_=>.stuck
theorem yG {C:Int->Int->Prop} {C':Int->Int->Bool} {g:Int->Int->Int} (hc:∀ i j,C' i j=true->C i j):oB κ X (rI C λ i j=>.int (g i j)) (oI C' g):=by
 intro x y v u G H Q E s d1 d2 q
 unfold oI at q
 split at q
 ·rename_i i j
  split at q
  ·rename_i h
   exact ⟨i,j,nB d1,nB d2,hc _ _ h,q _ H G (Ext.refl s) nM⟩
  ·exact q.elim
 ·exact q.elim
noncomputable def Lb (g:Int->Int->Int):D->D->R D
 | .int i,.int j=>.ok (.int (g i j))
 | _,_=>.stuck
theorem EY {g:Int->Int->Int}:oB κ X (DD λ i j=>.int (g i j)) (Lb g):=by
 intro x y v u G H Q E s d1 d2 q
 unfold Lb at q
 split at q
 ·exact ⟨_,_,nB d1,nB d2,q _ H G (Ext.refl s) nM⟩
 ·exact q.elim
noncomputable def kX:D->D->R D:=Lb λ i j=>i - j
noncomputable def kW:D->D->R D:=oI (λ i j=>(decide (-(2 ^ 64) < i) && decide (i < 2 ^ 64)) || (decide (-(2 ^ 64) < j) && decide (j < 2 ^ 64))) λ i j=>i * j
noncomputable def nr:D->D->R D:=oI (λ _ j=>decide (0 < j) && decide (j < 1073741824)) λ i j=>i / j
noncomputable def cL:D->D->R D:=oI (λ _ j=>decide (0 < j)) λ i j=>i % j
theorem Iq (ha:dN κ B X a fa) (hb:dN κ B X b fb):PX κ B X (.BinOp a .Sub b pos) (m2 kX fa fb):=rG (λ _ _=>HD) EY ha hb
theorem Fs (ha:dN κ B X a fa) (hb:dN κ B X b fb):PX κ B X (.BinOp a .Mult b pos) (m2 kW fa fb):=rG (λ _ _=>HC) (yG λ i j h=>by unfold Ec;simpa using h) ha hb
theorem Ig (ha:dN κ B X a fa) (hb:dN κ B X b fb):PX κ B X (.BinOp a .FloorDiv b pos) (m2 nr fa fb):=rG (λ _ _=>E4) (yG λ i j h=>by unfold Jm;simpa using h) ha hb
theorem Ik (ha:dN κ B X a fa) (hb:dN κ B X b fb):PX κ B X (.BinOp a .Mod b pos) (m2 cL fa fb):=rG (λ _ _=>HB) (yG λ i j h=>by simpa using h) ha hb
noncomputable def d0:D->D->R D
 | .int i,.int j=>.ok (.int (i + j))
 | .str x,.str y=>if x.length + y.length <= 1000000 then .ok (.str (x++y)) else .stuck
 | _,_=>.stuck
theorem Bg {G H:Hp} {v:V} {x:List Nat} (h:gN X κ G H v (.str x)):v=Jk x:=by
 rcases h with h | ⟨_,_,_,_,e,_⟩
 ·simpa [aN] using h
 ·cases e
theorem Hy {Y:Cx} {f:Value->Value->Sem Value} {r r':R2} (h:my Y f r) (h':my Y f r'):my Y f (λ x y H Q=>r x y H Q \/ r' x y H Q):=by
 intro pins s σ H x y v u Q I rx ry q
 rcases q with q | q
 ·exact h pins s σ H x y v u Q I rx ry q
 ·exact h' pins s σ H x y v u Q I rx ry q
theorem xW {n:Nat} (h:n <= 1000000):n <= sizeLine:=Nat.le_trans h (by rw [sizeLine_eq];decide)
theorem HZ (ha:dN κ B X a fa) (hb:dN κ B X b fb):PX κ B X (.BinOp a .Add b pos) (m2 d0 fa fb):=rG (λ _ _=>Hy Hz yH) (by
 intro x y v u G H Q E s d1 d2 q
 unfold d0 at q
 split at q
 ·exact .inl ⟨_,_,nB d1,nB d2,q _ H G (Ext.refl s) nM⟩
 ·rename_i x y
  split at q
  ·rename_i h
   refine .inr ⟨_,_,Bg d1,Bg d2,xW (by simpa [Str.length] using h),?_⟩
   exact q _ H G (Ext.refl s) (by unfold aN;show V.str ⟨x.toArray++y.toArray⟩=V.str ⟨(x++y).toArray⟩;simp)
  ·exact q.elim
 ·exact q.elim) ha hb
noncomputable def AI (p:Int->Int->Bool):D->D->R Bool
 | .int i,.int j=>.ok (p i j)
 | _,_=>.stuck
theorem jW {p:Int->Int->Bool}:oB κ X (DD λ i j=>.bl (p i j)) (kI (AI p)):=by
 intro x y v u G H Q E s d1 d2 q
 unfold kI AI at q
 split at q
 ·exact ⟨_,_,nB d1,nB d2,q _ H G (Ext.refl s) Ep⟩
 ·exact False.elim q
noncomputable def qd:D->D->R Bool:=AI λ i j=>decide (i < j)
noncomputable def xR:D->D->R Bool:=AI λ i j=>decide (i <= j)
noncomputable def wV:D->D->R Bool:=AI λ i j=>decide (j < i)
noncomputable def Gu:D->D->R Bool:=AI λ i j=>decide (j <= i)
theorem JZ (ha:dN κ B X a fa) (hb:dN κ B X b fb) (hm:behindInMarks .LtE b=false):PX κ B X (.Compare a [.LtE] [b] pos) (m2 (kI xR) fa fb):=yO (λ _ _ _=>Gx) jW ha hb hm
theorem JW (ha:dN κ B X a fa) (hb:dN κ B X b fb) (hm:behindInMarks .Gt b=false):PX κ B X (.Compare a [.Gt] [b] pos) (m2 (kI wV) fa fb):=yO (λ _ _ _=>Gw) jW ha hb hm
theorem Iy (ha:dN κ B X a fa) (hb:dN κ B X b fb) (hm:behindInMarks .Lt b=false):mO κ B X (.Compare a [.Lt] [b] pos) (bY qd fa fb):=fR (λ _ _ _=>JO) jW ha hb hm
theorem Ix (ha:dN κ B X a fa) (hb:dN κ B X b fb) (hm:behindInMarks .LtE b=false):mO κ B X (.Compare a [.LtE] [b] pos) (bY xR fa fb):=fR (λ _ _ _=>Gx) jW ha hb hm
theorem Iw (ha:dN κ B X a fa) (hb:dN κ B X b fb) (hm:behindInMarks .Gt b=false):mO κ B X (.Compare a [.Gt] [b] pos) (bY wV fa fb):=fR (λ _ _ _=>Gw) jW ha hb hm
theorem Iu (ha:dN κ B X a fa) (hb:dN κ B X b fb) (hm:behindInMarks .GtE b=false):mO κ B X (.Compare a [.GtE] [b] pos) (bY Gu fa fb):=fR (λ _ _ _=>JN) jW ha hb hm
noncomputable def Eb:D->R Bool
 | .non=>.ok false
 | .bl b=>.ok b
 | .int i=>.ok (i != 0)
 | .str x=>if x.length <= 1000000 then .ok (!x.isEmpty) else .stuck
 | .tup ds=>.ok (!ds.isEmpty)
 | .lst ds=>.ok (!ds.isEmpty)
 | .ob _ _ _=>.stuck
 | .dic _ _=>.stuck
theorem nR {Z:Zx} {G:Hp} {vs:List V} {ds:List D} (h:Dens Z G vs ds):vs.isEmpty=ds.isEmpty:=by
 have:=h.length
 cases vs <;> cases ds <;> simp_all
noncomputable def mT (f:Ev->R D):Ev->R Bool:=λ δ=>(f δ).bind Eb
theorem Lv {G H:Hp} {v:V} {d:D} {k:Bool} (s:aM G H) (h:gN X κ G H v d) (e:Eb d=.ok k):Ei X.K v H k:=by
 have seq:∀ {a:Addr} {vs:List V} {ds:List D},bz X.K H a vs->Dens ⟨X.K,κ⟩ G vs ds->R.ok (!ds.isEmpty)=R.ok k->Ei X.K (.ref a) H k:=λ h1 h2 e=>by
  injection e with e
  exact .inl ⟨_,h1,by rw [nR h2,e]⟩
 rcases h with h | ⟨a,vs,ds,rfl,rfl,h3,h4⟩
 ·cases d with
  | non=>unfold aN at h;subst h;injection e with e;exact e.symm
  | bl b=>unfold aN at h;subst h;injection e with e;exact e.symm
  | int i=>unfold aN at h;subst h;injection e with e;exact e.symm
  | str x =>
   unfold aN at h;subst h
   simp only [Eb] at e
   split at e
   ·rename_i hx
    injection e with e
    refine ⟨xW (by simpa [Str.length] using hx),?_⟩
    rw [<- e]
    cases x with
    | nil=>rfl
    | cons c l =>
     have:((l.length + 1:Nat):Int) ≠ 0:=by omega
     simp [Str.length]
     exact this
   ·cases e
  | tup ds =>
   unfold aN at h
   obtain ⟨a,vs,rfl,h1,h2⟩:=h
   injection e with e
   exact .inr (.inl ⟨_,bE s h1,by rw [nR h2,e]⟩)
  | lst ds =>
   unfold aN at h
   obtain ⟨a,vs,rfl,h1,h2⟩:=h
   exact seq (s.seq h1) h2 e
  | ob _ _ _=>cases e
  | dic _ _=>cases e
 ·exact seq (bz.of h3) h4 e
theorem Fy (ha:dN κ B X a fa) (he:∀ whole,isTrue a X.env whole=(do let v ← whole;standAt a.pos;holding [v] (truthy v))):mO κ B X a (mT fa):=λ pins σ Ex =>
 vv (C9 (X:=At X pins σ Ex) (ha pins σ Ex) he) λ τ H Q hz=>eQ hz λ G δ rp q=>⟨G,δ,rp,q.seq λ x v H1 G1 e1 d1 q1=>by
  cases e:Eb x with
  | ok k=>rw [e] at q1;exact ⟨k,Lv e1.GH d1 e,q1 k H1 G1 (Ext.refl e1.GH) rfl⟩
  | exc c =>
   exfalso
   cases x <;> simp [Eb] at e
   split at e <;> cases e
  | stuck=>rw [e] at q1;exact q1.elim⟩
noncomputable def oU (f:Ev->R Bool):Ev->R Bool:=λ δ=>(f δ).bind λ k=>.ok (!k)
noncomputable def gT (f g:Ev->R Bool):Ev->R Bool:=λ δ=>(f δ).bind λ k=>if k then g δ else .ok false
noncomputable def Cy (f g:Ev->R Bool):Ev->R Bool:=λ δ=>(f δ).bind λ k=>if k then .ok true else g δ
variable {ta tb:Ev->R Bool} {aG:List Expr}
theorem Fx (ha:mO κ B X a ta):mO κ B X (.UnaryOp .Not a pos) (oU ta):=λ pins σ Ex =>
 vv (HV (ha pins σ Ex)) λ τ H Q hz=>eQ hz λ G δ rp q=>⟨G,δ,rp,q.seq λ x v H1 G1 e1 d1 q1=>by
  cases d1
  exact q1 (!x) H1 G1 (Ext.refl e1.GH) rfl⟩
theorem Dl (ha:mO κ B X a ta):Eh κ B X (.BoolOp .And [a] pos) ta:=λ pins σ Ex=>Fo (ha pins σ Ex)
theorem FA (ha:mO κ B X a ta):Eh κ B X (.BoolOp .Or [a] pos) ta:=λ pins σ Ex=>HY (ha pins σ Ex)
theorem Fz (ha:mO κ B X a ta) (hb:Eh κ B X (.BoolOp .And (b :: aG) pos) tb):Eh κ B X (.BoolOp .And (a :: b :: aG) pos) (gT ta tb):=λ pins σ Ex =>
 Db (HX (ha pins σ Ex) (hb pins σ Ex)) λ τ H Q hz=>eQ hz λ G δ rp q=>⟨G,δ,rp,q.seq λ x v H1 G1 e1 d1 q1=>by
  cases d1
  cases x with
  | true=>exact ⟨G1,δ,rp.ext e1,q1⟩
  | false=>exact q1 false H1 G1 (Ext.refl e1.GH) rfl⟩
theorem IA (ha:mO κ B X a ta) (hb:Eh κ B X (.BoolOp .Or (b :: aG) pos) tb):Eh κ B X (.BoolOp .Or (a :: b :: aG) pos) (Cy ta tb):=λ pins σ Ex =>
 Db (JT (ha pins σ Ex) (hb pins σ Ex)) λ τ H Q hz=>eQ hz λ G δ rp q=>⟨G,δ,rp,q.seq λ x v H1 G1 e1 d1 q1=>by
  cases d1
  cases x with
  | true=>exact q1 true H1 G1 (Ext.refl e1.GH) rfl
  | false=>exact ⟨G1,δ,rp.ext e1,q1⟩⟩
theorem Eh.t (h:Eh κ B X a ta):mO κ B X a ta:=λ pins σ Ex=>(h pins σ Ex).pt
noncomputable def pI:D->R Bool
 | .bl b=>.ok b
 | _=>.stuck
noncomputable def nT (f g:Ev->R D):Ev->R D:=λ δ=>(f δ).bind λ x=>(pI x).bind λ k=>if k then g δ else .ok (.bl false)
noncomputable def K8 (f g:Ev->R D):Ev->R D:=λ δ=>(f δ).bind λ x=>(pI x).bind λ k=>if k then .ok (.bl true) else g δ
noncomputable def zB (f:Ev->R D):Ev->R D:=λ δ=>(f δ).bind λ x=>(pI x).bind λ k=>.ok (.bl (!k))
theorem wb {x:D} {α:Type} {k:Bool->R α} {rel:Hp->Hp->V->α->Prop} {E:XK} {G H:Hp} {Q:V->Hp->Prop} {v:V} {Z:Zx} {G':Hp} (d:aN Z G' v x) (h:sO rel κ E G H ((pI x).bind k) Q):∃ c,v=.bl c/\x=.bl c/\sO rel κ E G H (k c) Q:=by
 cases x with
 | bl c=>exact ⟨c,by simpa [aN] using d,rfl,h⟩
 | _=>exact h.elim
theorem Ip {op} (h:PX κ B X a fa):PX κ B X (.BoolOp op [a] pos) fa:=λ pins σ Ex=>HI (h pins σ Ex)
theorem Ia (ha:PX κ B X a fa) (hb:PX κ B X (.BoolOp .And (b :: aG) pos) fb):PX κ B X (.BoolOp .And (a :: b :: aG) pos) (nT fa fb):=λ pins σ Ex =>
 be (HF (ha pins σ Ex) (hb pins σ Ex)) λ τ H Q hz=>eQ hz λ G δ rp q=>⟨G,δ,rp,q.seq λ x v H1 G1 e1 d1 q1=>by
  obtain ⟨k,rfl,rfl,q1⟩:=wb d1 q1
  refine ⟨k,rfl,?_⟩
  cases k with
  | true=>exact ⟨G1,δ,rp.ext e1,q1⟩
  | false=>exact q1 _ H1 G1 (Ext.refl e1.GH) Ep⟩
theorem Io (ha:PX κ B X a fa):PX κ B X (.UnaryOp .Not a pos) (zB fa):=λ pins σ Ex =>
 be (HH (ha pins σ Ex)) λ τ H Q hz=>eQ hz λ G δ rp q=>⟨G,δ,rp,q.seq λ x v H1 G1 e1 d1 q1=>by
  obtain ⟨k,rfl,rfl,q1⟩:=wb d1 q1
  exact ⟨k,rfl,q1 _ H1 G1 (Ext.refl e1.GH) Ep⟩⟩
noncomputable def JG (t:Ev->R Bool) (f g:Ev->R D):Ev->R D:=λ δ=>(t δ).bind λ k=>if k then f δ else g δ
theorem JX (hc:mO κ B X c ta) (ha:PX κ B X a fa) (hb:PX κ B X b fb):PX κ B X (.IfExp c a b pos) (JG ta fa fb):=λ pins σ Ex =>
 be (CS (hc pins σ Ex) (ha pins σ Ex) (hb pins σ Ex)) λ τ H Q hz=>eQ hz λ G δ rp q=>⟨G,δ,rp,q.seq λ x v H1 G1 e1 d1 q1=>by
  cases d1
  cases x with
  | true=>exact ⟨G1,δ,rp.ext e1,q1⟩
  | false=>exact ⟨G1,δ,rp.ext e1,q1⟩⟩
noncomputable def bP:D->D->R D
 | .lst ds,.int i=>match qD ds i with | some d=>.ok d | none=>.stuck
 | .tup ds,.int i=>match qD ds i with | some d=>.ok d | none=>.stuck
 | .str x,.int i=>if x.length <= 1000000 then (match qD x i with | some c=>.ok (.str [c]) | none=>.stuck) else .stuck
 | _,_=>.stuck
theorem ww {Z:Zx} {G:Hp} {vs:List V} {ds:List D} {i:Int} {d:D} (h:Dens Z G vs ds) (e:qD ds i=some d):∃ v,qD vs i=some v/\aN Z G v d:=by
 unfold qD at e ⊢
 rw [h.length]
 cases q:EJ ds.length i with
 | none=>rw [q] at e;cases e
 | some j =>
  rw [q] at e
  exact h.get e
theorem JY (ha:dN κ B X a fa) (hb:dN κ B X b fb) (hs:ug b):PX κ B X (.Subscript a b pos) (m2 bP fa fb):=λ pins σ Ex =>
 be (Gz (Hk (X:=At X pins σ Ex)) (ha pins σ Ex) (hb pins σ Ex) hs) λ τ H Q hz=>eQ hz λ G δ rp q=>⟨G,δ,rp,q.seq λ x v H1 G1 e1 d1 q1=>⟨G1,δ,rp.ext e1,q1.seq λ y u H2 G2 e2 d2 q2=>by
  have d1:=gY e2 d1
  have lst:∀ {p:Addr} {vs:List V} {ds:List D} {i:Int},bz X.K H2 p vs->Dens ⟨X.K,κ⟩ G2 vs ds->u=.int i->sO (nN X κ) κ (EX X pins σ Ex) G2 H2 (match qD ds i with | some d=>.ok d | none=>.stuck) Q->LH X.K (.ref p) u H2 Q:=λ {p vs ds i} h1 h2 h3 q=>by
   cases e:qD ds i with
   | none=>rw [e] at q;exact q.elim
   | some d =>
    rw [e] at q
    obtain ⟨w,x1,x2⟩:=ww h2 e
    exact .inl ⟨p,vs,i,w,rfl,h3,h1,x1,q w H2 G2 (Ext.refl e2.GH) x2⟩
  cases y with
  | int i =>
   cases x with
   | lst ds =>
    rcases d1 with d1 | ⟨p,vs,es,rfl,e,h3,h4⟩
    ·unfold aN at d1
     obtain ⟨p,vs,rfl,h1,h2⟩:=d1
     exact lst (e2.GH.seq h1) h2 (nB d2) q2
    ·cases e
     exact lst (bz.of h3) h4 (nB d2) q2
   | tup ds =>
    rcases d1 with d1 | ⟨p,vs,es,rfl,e,h3,h4⟩
    ·unfold aN at d1
     obtain ⟨p,vs,rfl,h1,h2⟩:=d1
     simp only [bP] at q2
     cases e:qD ds i with
     | none=>rw [e] at q2;exact False.elim q2
     | some d =>
      rw [e] at q2
      obtain ⟨w,x1,x2⟩:=ww h2 e
      exact .inr (.inl ⟨p,vs,i,w,rfl,nB d2,bE e2.GH h1,x1,q2 w H2 G2 (Ext.refl e2.GH) x2⟩)
    ·cases e
   | str x =>
    simp only [bP] at q2
    split at q2
    ·rename_i hx
     cases e:qD x i with
     | none=>rw [e] at q2;exact False.elim q2
     | some d =>
      rw [e] at q2
      have ev:=Bg d1
      subst ev
      exact .inr (.inr ⟨_,i,d,rfl,nB d2,xW (by simpa [Str.length] using hx),by simpa using e,q2 _ H2 G2 (Ext.refl e2.GH) (by unfold aN;rfl)⟩)
    ·exact False.elim q2
   | _=>exact False.elim q2
  | _=>cases x <;> exact False.elim q2⟩⟩
noncomputable def au:Ev->R (List D):=λ _=>.ok []
noncomputable def af (f:Ev->R D) (g:Ev->R (List D)):Ev->R (List D):=λ δ=>(f δ).bind λ x=>(g δ).bind λ xs=>.ok (x :: xs)
variable {es:List Expr} {fs:Ev->R (List D)}
theorem vw:r9 κ B X [] au:=λ pins σ Ex=>CP cA λ τ H Q hz=>eQ hz λ G δ rp q=>q [] H G (Ext.refl rp.GH) bg
theorem xm (ha:PX κ B X a fa) (hr:r9 κ B X es fs) (hs:starEach (a :: es) X.env=(false,eval a X.env) :: starEach es X.env):r9 κ B X (a :: es) (af fa fs):=λ pins σ Ex =>
 CP (bw (X:=At X pins σ Ex) (ha pins σ Ex) (hr pins σ Ex) hs) λ τ H Q hz=>eQ hz λ G δ rp q=>⟨G,δ,rp,q.seq λ x v H1 G1 e1 d1 q1=>⟨G1,δ,rp.ext e1,q1.seq λ y u H2 G2 e2 d2 q2 =>
  q2 (v :: u) H2 G2 (Ext.refl e2.GH) (aP (d1.mono e2.sG) d2)⟩⟩
theorem i7 {G H:Hp} {p:Addr} {o:HO} (s:aM G H) (n:H p=none):Ext G H (upd G p o) (upd H p o):=by
 have ng:=s.free n
 refine ⟨λ b u e=>?_,λ b u e=>?_,λ b u e=>?_,λ b e=>?_⟩
 ·rw [aq (az e ng)];exact e
 ·rw [aq (az e n)];exact e
 ·by_cases hb:b=p
  ·subst hb;rw [aw] at e ⊢;exact e
  ·rw [aq hb] at e ⊢;exact s b u e
 ·by_cases hb:b=p
  ·subst hb;exact .inr n
  ·rw [aq hb] at e;exact .inl e
noncomputable def K9 (f:Ev->R (List D)):Ev->R D:=λ δ=>(f δ).bind λ xs=>if xs.length <= 1000000 then .ok (.tup xs) else .stuck
noncomputable def iR (f:Ev->R (List D)):Ev->R D:=λ δ=>(f δ).bind λ xs=>if xs.length <= 1000000 then .ok (.lst xs) else .stuck
theorem Ij (h:r9 κ B X es fs):PX κ B X (.List es pos) (iR fs):=λ pins σ Ex =>
 be (yJ (h pins σ Ex)) λ τ H Q hz=>eQ hz λ G δ rp q=>⟨G,δ,rp,q.seq λ x v H1 G1 e1 d1 q1=>by
  split at q1
  ·rename_i hl
   refine ⟨xW (by rw [d1.length];exact hl),λ p hp=>?_⟩
   have e:=i7 (o:=.lst v) e1.GH hp
   exact q1 _ _ _ e (by unfold aN;exact ⟨p,v,rfl,bz.of aw,d1.mono e.sG⟩)
  ·exact q1.elim⟩
end
noncomputable def GG (K:PySem.W.Frag) (κ:Nat->Addr) (n:Nat) (m:List D->R D):Sp:=λ vs H Q E=>vs.length=n/\∃ G ds,aM G H/\Dens ⟨K,κ⟩ G vs ds/\sO (λ G _ v d=>aN ⟨K,κ⟩ G v d) κ E G H (m ds) Q
structure Cal (κ:Nat->Addr) (X:Cx) (x:Str) (n:Nat) (m:List D->R D):Prop where
 ex:∃ f fd ps k,FnOk X.prog X.w X.K X.mg X.base (pU X.prog X.w) k f fd ps (GG X.K κ n m)/\Room k X.A/\X.mg x=some (.ref f)/\PySem.W.keepIn X.K (.ref f)=true/\iZ X.K fd ps []
section
variable {κ:Nat->Addr} {B:Gd} {X:Cx} {a:Expr} {es:List Expr} {fs:Ev->R (List D)} {p pos:Pos} {x:Str} {m:List D->R D} {n:Nat}
noncomputable def aQ (m:List D->R D) (fs:Ev->R (List D)):Ev->R D:=λ δ=>(fs δ).bind m
theorem Fq (c:Cxo X) (C:Cal κ X x n m) (hn:(a :: es).length=n) (hg:Gl X x) (ha:r9 κ B X (a :: es) fs) (hdb:(x == ("__debug__" : Str))=false) (he:starEach (a :: es) X.env=(false,eval a X.env) :: starEach es X.env) (hpl:(backTo pos (starEach es X.env)).any (·.1)=false)
  (hlen:∀ δ ds,fs δ=.ok ds->ds.length=n):PX κ B X (.Call (.Name x p) (a :: es) [] pos) (aQ m fs):=λ pins σ Ex=>by
 obtain ⟨f,fd,ps,k,F,hr,hm,hk,hb⟩:=C.ex
 refine be (kJ (X:=At X pins σ Ex) (E:=EX X pins σ Ex) F hr hg hm hk hb .nil (fL c) (ha pins σ Ex) hdb he hpl) λ τ H Q hz=>eQ hz λ G δ rp q=>⟨G,δ,rp,?_⟩
 unfold aQ at q
 cases e:fs δ with
 | ok ds =>
  rw [e] at q
  intro v H1 G1 e1 d1
  rw [List.append_nil]
  exact ⟨by rw [Dens.length d1,hlen δ ds e],G1,ds,e1.GH,d1,sO.pre e1 q⟩
 | exc c=>rw [e] at q;exact q
 | stuck=>rw [e] at q;exact q
end
end L3
namespace L3
open PySem PySem.Spec PyProof.Rows L2
inductive SR where
 | next (δ:Ev) | brk (δ:Ev) | cont (δ:Ev) | ret (d:D) | exc (c:Nat) (δ:Ev) | stuck
noncomputable def bS {α:Type} (r:R α) (δ:Ev) (k:α->SR):SR:=match r with
 | .ok d=>k d
 | .exc c=>.exc c δ
 | .stuck=>.stuck
@[simp] theorem eC {α:Type} (d:α) (δ:Ev) (k:α->SR):bS (.ok d) δ k=k d:=rfl
@[simp] theorem KR {α:Type} (c:Nat) (δ:Ev) (k:α->SR):bS (.exc c) δ k=.exc c δ:=rfl
@[simp] theorem Jt {α:Type} (δ:Ev) (k:α->SR):bS .stuck δ k=.stuck:=rfl
noncomputable def c0 (κ:Nat->Addr) (B:Gd) (X:Cx) (Ex:Value->Shared->Prop) (pins:List (Addr × Obj)) (Dn:Ends) (r:SR):Prop:=match r with
 | .next δ'=>∀ σ' H' G',Rep ⟨X.K,κ⟩ B X.H₀ G' H' σ' δ'->Dn.nx σ' H'
 | .brk δ'=>∀ σ' H' G',Rep ⟨X.K,κ⟩ B X.H₀ G' H' σ' δ'->Dn.bk σ' H'
 | .cont δ'=>∀ σ' H' G',Rep ⟨X.K,κ⟩ B X.H₀ G' H' σ' δ'->Dn.ct σ' H'
 | .ret d=>∀ v H' G',Hold B X.H₀ G' H'->aN ⟨X.K,κ⟩ G' v d->Dn.rt v H'
 | .exc c δ'=>∀ ea s' σ' H' G',Inv (X.wish Ex) pins σ' H' s'->Flies X pins H' s' ea (.ref (κ c))->Rep ⟨X.K,κ⟩ B X.H₀ G' H' σ' δ'->Ex (.ref ea) s'
 | .stuck=>False
noncomputable def PZ (κ:Nat->Addr) (B:Gd) (X:Cx) (st:Stmt) (F:Ev->SR):Prop:=∀ Ex pins s σ H G δ Dn,PassesOwn (model X.prog X.w) X.A X.env Ex->Inv (X.wish Ex) pins σ H s->Rep ⟨X.K,κ⟩ B X.H₀ G H σ δ->c0 κ B X Ex pins Dn (F δ) →
 wpAny (model X.prog X.w) X.A (exec st X.env) (SP (X.wish Ex) pins Dn) Ex s
noncomputable def sP (κ:Nat->Addr) (B:Gd) (X:Cx) (st:List Stmt) (F:Ev->SR):Prop:=∀ Ex pins s σ H G δ Dn,PassesOwn (model X.prog X.w) X.A X.env Ex->Inv (X.wish Ex) pins σ H s->Rep ⟨X.K,κ⟩ B X.H₀ G H σ δ->c0 κ B X Ex pins Dn (F δ) →
 wpAny (model X.prog X.w) X.A (execs st X.env) (SP (X.wish Ex) pins Dn) Ex s
section
variable {κ:Nat->Addr} {B:Gd} {X:Cx} {e a b c:Expr} {f fa fb:Ev->R D} {pos pos':Pos} {Ex:Value->Shared->Prop} {pins:List (Addr × Obj)} {s:Shared} {σ:St} {H G:Hp} {δ:Ev} {Dn:Ends}
theorem PX.stm (cx:Cxo X) (h:PX κ B X e f) (I:Inv (X.wish Ex) pins σ H s) (rp:Rep ⟨X.K,κ⟩ B X.H₀ G H σ δ) {k:D->SR} (hp:c0 κ B X Ex pins Dn (bS (f δ) δ k)) :
  wpAny (model X.prog X.w) X.A (eval e X.env) (λ u s'=>∃ d v H' G',Inv (X.wish Ex) pins σ H' s'/\bG v u/\Rep ⟨X.K,κ⟩ B X.H₀ G' H' σ δ/\aN ⟨X.K,κ⟩ G' v d/\c0 κ B X Ex pins Dn (k d)) Ex s:=by
 refine br (h pins σ Ex pins s σ H (λ v H'=>∃ d G',Rep ⟨X.K,κ⟩ B X.H₀ G' H' σ δ/\aN ⟨X.K,κ⟩ G' v d/\c0 κ B X Ex pins Dn (k d)) (bq I) ⟨G,δ,rp,?_⟩) λ u s' ⟨v,H',I',r,d,G',x1,x2,x3⟩=>⟨d,v,H',G',aH cx.sg I',r,x1,x2,x3⟩
 cases q:f δ with
 | ok d=>rw [q] at hp;exact λ v H' G' e1 d1=>⟨d,G',rp.ext e1,d1,hp⟩
 | exc c=>rw [q] at hp;exact λ H' G' e1 ea s' I' F=>hp ea s' σ H' G' I' F (rp.ext e1)
 | stuck=>rw [q] at hp;exact hp
theorem mO.stm (cx:Cxo X) {f:Ev->R Bool} (h:mO κ B X e f) (I:Inv (X.wish Ex) pins σ H s) (rp:Rep ⟨X.K,κ⟩ B X.H₀ G H σ δ) {k:Bool->SR} (hp:c0 κ B X Ex pins Dn (bS (f δ) δ k)) :
  wpAny (model X.prog X.w) X.A (isTrue e X.env (eval e X.env)) (λ u s'=>∃ H' G',Inv (X.wish Ex) pins σ H' s'/\Rep ⟨X.K,κ⟩ B X.H₀ G' H' σ δ/\c0 κ B X Ex pins Dn (k u)) Ex s:=by
 refine br (h pins σ Ex pins s σ H (λ v H'=>∃ G',Rep ⟨X.K,κ⟩ B X.H₀ G' H' σ δ/\c0 κ B X Ex pins Dn (k v)) (bq I) ⟨G,δ,rp,?_⟩) λ u s' ⟨H',I',G',x1,x2⟩=>⟨H',G',aH cx.sg I',x1,x2⟩
 cases q:f δ with
 | ok d =>
  rw [q] at hp
  intro v H' G' e1 d1
  cases d1
  exact ⟨G',rp.ext e1,hp⟩
 | exc c=>rw [q] at hp;exact λ H' G' e1 ea s' I' F=>hp ea s' σ H' G' I' F (rp.ext e1)
 | stuck=>rw [q] at hp;exact hp
noncomputable def aD (F1 F2:Ev->SR):Ev->SR:=λ δ=>match F1 δ with
 | .next δ'=>F2 δ'
 | r=>r
theorem FD:sP κ B X [] SR.next:=λ Ex pins s σ H G δ Dn hp I rp h=>wpAny_execs_nil ⟨σ,H,I,h σ H G rp⟩
theorem Dt {st:Stmt} {aG:List Stmt} {F1 F2:Ev->SR} (h1:PZ κ B X st F1) (h2:sP κ B X aG F2):sP κ B X (st :: aG) (aD F1 F2):=λ Ex pins s σ H G δ Dn hp I rp h=>by
 refine wpAny_execs_cons (br (h1 Ex pins s σ H G δ { Dn with nx:=λ σ' H'=>∃ G' δ',Rep ⟨X.K,κ⟩ B X.H₀ G' H' σ' δ'/\c0 κ B X Ex pins Dn (F2 δ') } hp I rp ?_) λ f s1 q=>?_)
 ·unfold aD at h
  cases q:F1 δ with
  | next δ'=>rw [q] at h;exact λ σ' H' G' r=>⟨G',δ',r,h⟩
  | brk δ'=>rw [q] at h;exact h
  | cont δ'=>rw [q] at h;exact h
  | ret d=>rw [q] at h;exact h
  | exc c δ'=>rw [q] at h;exact h
  | stuck=>rw [q] at h;exact h
 ·cases f with
  | next =>
   obtain ⟨σ',H',I',G',δ',r,q⟩:=q
   exact h2 Ex pins s1 σ' H' G' δ' Dn hp I' r q
  | ret v=>exact q
  | brk=>exact q
  | cont=>exact q
theorem FE {st:Stmt} {F:Ev->SR} (h1:PZ κ B X st F):sP κ B X [st] F:=λ Ex pins s σ H G δ Dn hp I rp h=>by
 refine wpAny_execs_cons (br (h1 Ex pins s σ H G δ Dn hp I rp h) λ f s1 q=>?_)
 cases f with
 | next=>exact wpAny_execs_nil q
 | ret v=>exact q
 | brk=>exact q
 | cont=>exact q
theorem FC (i:Nat) {sts:List Stmt} {F:Ev->SR} (h:sP κ B X sts F):sP κ B X sts (λ δ=>F (iY i δ)):=λ Ex pins s σ H G δ Dn hp I rp q=>by
 obtain ⟨G',r'⟩:=rp.freeze i
 exact h Ex pins s σ H G' _ Dn hp I r' q
theorem Dm:PZ κ B X (.Break pos) SR.brk:=λ Ex pins s σ H G δ Dn hp I rp h=>wpAny_Break ⟨σ,H,I,h σ H G rp⟩
noncomputable def de (f:Ev->R D):Ev->SR:=λ δ=>bS (f δ) δ .ret
theorem IF (cx:Cxo X) (h:PX κ B X e f):PZ κ B X (.Return (some e) pos) (de f):=λ Ex pins s σ H G δ Dn hp I rp q =>
 wpAny_Return_some (br (h.stm cx I rp q) (by rintro v s1 ⟨d,x,H',G',I',r,rp',dn,q⟩;exact ⟨x,σ,H',I',r,q x H' G' rp'.toHold dn⟩))
noncomputable def Kr (f:Ev->R D):Ev->SR:=λ δ=>bS (f δ) δ λ _=>.next δ
noncomputable def bo (i:Nat) (f:Ev->R D):Ev->SR:=λ δ=>bS (f δ) δ λ d=>.next (δ.set i (some (.sh d)))
theorem IG (cx:Cxo X) {i:Nat} {x:Str} (hN:X.N.Nodup) (hi:X.N[i]?=some x) (hx:mM X.env.scope x) (hf:X.fn x=true \/ X.env.scope.names.lookup x=some .local) (h:PX κ B X e f) (hs:swapsWith e (some (.Name x pos')) pos.line X.env=pure false) :
  PZ κ B X (.Assign [.Name x pos'] e pos) (bo i f):=λ Ex pins s σ H G δ Dn hp I rp q=>by
 refine wpAny_Assign_Name (br (h.stm cx I rp q) λ v s1 ⟨d,y,H',G',I',r,rp',dn,q⟩=>?_) hs
 exact cD (X:=X.wish Ex) I' hN hi hx r (λ s2 I2=>⟨_,H',I2,q _ H' G' (rp'.setSh dn)⟩) hf (λ p σ v _=>cx.sg p _)
noncomputable def fN (t:Ev->R Bool) (F1 F2:Ev->SR):Ev->SR:=λ δ=>bS (t δ) δ λ k=>if k then F1 δ else F2 δ
theorem J0 (cx:Cxo X) {t:Ev->R Bool} {s1 s2:List Stmt} {F1 F2:Ev->SR} (hc:mO κ B X c t) (h1:sP κ B X s1 F1) (h2:sP κ B X s2 F2):PZ κ B X (.If c s1 s2 pos) (fN t F1 F2):=λ Ex pins s σ H G δ Dn hp I rp q=>by
 refine wpAny_If (br (hc.stm cx I rp q) λ d s1 ⟨H',G',I',rp',q⟩=>?_)
 cases d with
 | true=>exact h1 Ex pins s1 σ H' G' δ Dn hp I' rp' q
 | false=>exact h2 Ex pins s1 σ H' G' δ Dn hp I' rp' q
noncomputable def nE (i:Nat) (g:Int->Int->Int) (f:Ev->R D):Ev->SR:=λ δ=>match δ[i]? with
 | some (some (.sh (.int x)))=>bS (f δ) δ λ d=>match d with
  | .int y=>.next (δ.set i (some (.sh (.int (g x y)))))
  | _=>.stuck
 | _=>.stuck
theorem IB (cx:Cxo X) {i:Nat} {x:Str} {op:Operator} {g:Int->Int->Int} (ho:∀ Y:Cx,Kw Y op (Ky g)) (hN:X.N.Nodup) (hi:X.N[i]?=some x) (hx:mM X.env.scope x) (hf:X.fn x=true \/ X.env.scope.names.lookup x=some .local) (h:PX κ B X e f) :
  PZ κ B X (.AugAssign (.Name x pos') op e pos) (nE i g f):=λ Ex pins s σ H G δ Dn hp I rp q=>by
 unfold nE at q
 split at q
 ·rename_i z ez
  obtain ⟨v,e1,e2⟩:=rp.sh i _ ez
  have e2':v=.int z:=by simpa [aN] using e2
  subst e2'
  obtain ⟨m,hn,hl⟩:=I.loc
  have vis:kT X.env.scope x:=by rcases hx with k | k;exact .inl k;exact .inr (.inl k)
  obtain ⟨u,r,l⟩:=hl i x _ hi e1 vis
  refine wpAny_AugAssign_Name ?_
  have go:wpAny (model X.prog X.w) X.A (eval e X.env) (λ w s₂=>wpAny (model X.prog X.w) X.A (inplaceOp op u w) (λ r s₃=>wpAny (model X.prog X.w) X.A (storeName X.env x r) (λ _=>SP (X.wish Ex) pins Dn .next) Ex s₃) Ex s₂) Ex s:=by
   refine br (h.stm cx I rp q) λ w s1 ⟨d,y,H1,G1,I1,r1,rp1,dn,q1⟩=>?_
   cases d with
   | int j =>
    have dn':y=.int j:=by simpa [aN] using dn
    subst dn'
    refine br (ho (X.wish Ex) pins s1 σ H1 (.int z) (.int j) u w (λ v H'=>H'=H1/\v=.int (g z j)) I1 r r1 ⟨z,j,rfl,rfl,rfl,rfl⟩) λ w2 s2 ⟨zv,H2,I2,r2,e3,e4⟩=>?_
    subst e3
    subst e4
    exact cD (X:=X.wish Ex) I2 hN hi hx r2 (λ s3 I3=>⟨_,_,I3,q1 _ _ G1 (rp1.setSh nM)⟩) hf (λ p σ v _=>cx.sg p _)
   | _=>exact False.elim q1
  rcases l with ⟨hk,hm⟩ | ⟨hk,c,hc,hcell⟩
  ·exact wpAny_loadName_local I.ok.kind hk hn hm go
  ·rcases hk with hk | hk
   ·exact wpAny_loadName_cell I.ok.kind hk hc hcell go
   ·rcases hx with k | k
    ·have:X.env.scope.names.lookup x=some .free:=hk
     rw [k] at this;cases this
    ·have:X.env.scope.names.lookup x=some .free:=hk
     rw [k] at this;cases this
 ·exact False.elim q
noncomputable def gZ (κ:Nat->Addr) (B:Gd) (X:Cx) (bnd:D->Ev->Option Ev):TG:=λ v σ H Q=>∃ G δ d δ',Rep ⟨X.K,κ⟩ B X.H₀ G H σ δ/\aN ⟨X.K,κ⟩ G v d/\bnd d δ=some δ'/\∀ σ',Rep ⟨X.K,κ⟩ B X.H₀ G H σ' δ'->Q σ' H
noncomputable def xP (κ:Nat->Addr) (B:Gd) (X:Cx) (tg:Expr) (bnd:D->Ev->Option Ev):Prop:=∀ Ex,PG (X.wish Ex) tg (gZ κ B X bnd)
noncomputable def LL (κ:Nat->Addr) (B:Gd) (X:Cx) (bnd:List D->Ev->Option Ev):BG:=λ vs σ H Q=>∃ G δ ds δ',Rep ⟨X.K,κ⟩ B X.H₀ G H σ δ/\Dens ⟨X.K,κ⟩ G vs ds/\bnd ds δ=some δ'/\∀ σ',Rep ⟨X.K,κ⟩ B X.H₀ G H σ' δ'->Q σ' H
noncomputable def v3 (κ:Nat->Addr) (B:Gd) (X:Cx) (tg:List Expr) (bnd:List D->Ev->Option Ev):Prop:=∀ Ex,Gk (X.wish Ex) tg (LL κ B X bnd)
theorem CU {Y:Cx} {t:Expr} {g g':TG} (h:PG Y t g) (k:∀ v σ H Q,g' v σ H Q->g v σ H Q):PG Y t g':=λ pins s σ H v u Q I r q=>h pins s σ H v u Q I r (k v σ H Q q)
theorem zL {Y:Cx} {t:List Expr} {g g':BG} (h:Gk Y t g) (k:∀ v σ H Q,g' v σ H Q->g v σ H Q):Gk Y t g':=λ pins s σ H v u Q I r q=>h pins s σ H v u Q I r (k v σ H Q q)
noncomputable def bN (i:Nat):D->Ev->Option Ev:=λ d δ=>some (δ.set i (some (.sh d)))
theorem CW (cx:Cxo X) {i:Nat} {x:Str} (hN:X.N.Nodup) (hi:X.N[i]?=some x) (hx:mM X.env.scope x) (hf:X.fn x=true \/ X.env.scope.names.lookup x=some .local):xP κ B X (.Name x pos) (bN i):=λ Ex =>
 CU (qr (X:=X.wish Ex) hN hi hx hf (λ p σ v _=>cx.sg p _)) λ v σ H Q ⟨G,δ,d,δ',rp,dn,e,k⟩=>by
  cases e
  exact k _ (rp.setSh dn)
noncomputable def iM:List D->Ev->Option Ev:=λ ds δ=>match ds with | []=>some δ | _=>none
noncomputable def bp (b:D->Ev->Option Ev) (bs:List D->Ev->Option Ev):List D->Ev->Option Ev:=λ ds δ=>match ds with | d :: r=>(b d δ).bind (bs r) | _=>none
theorem CY:v3 κ B X [] iM:=λ Ex=>zL E8 λ vs σ H Q ⟨G,δ,ds,δ',rp,dn,e,k⟩=>by
 cases ds with
 | nil =>
  cases vs with
  | nil=>cases e;exact ⟨rfl,k σ rp⟩
  | cons _ _=>unfold Dens at dn;exact dn.elim
 | cons _ _=>cases e
theorem AS {tg:Expr} {tgs:List Expr} {bd:D->Ev->Option Ev} {bs:List D->Ev->Option Ev} (h1:xP κ B X tg bd) (h2:v3 κ B X tgs bs)
  (hs:(assignEach (tg :: tgs) X.env).map (·.2)=assign tg X.env :: (assignEach tgs X.env).map (·.2)):v3 κ B X (tg :: tgs) (bp bd bs):=λ Ex =>
 zL (CV (X:=X.wish Ex) (h1 Ex) (h2 Ex) hs) λ vs σ H Q ⟨G,δ,ds,δ',rp,dn,e,k⟩=>by
  cases ds with
  | nil=>cases e
  | cons d r =>
   cases vs with
   | nil=>unfold Dens at dn;exact dn.elim
   | cons v vr =>
    unfold Dens at dn
    simp only [bp] at e
    cases q:bd d δ with
    | none=>rw [q] at e;cases e
    | some δ1 =>
     rw [q] at e
     exact ⟨v,vr,rfl,G,δ,d,δ1,rp,dn.1,q,λ σ' r'=>⟨G,δ1,r,δ',r',dn.2,e,k⟩⟩
theorem wz {P:Program} {w:World} {A:Around} {E:Value->Shared->Prop} {it l:Addr} {its:Array Value} (hne:l ≠ it):∀ (n i:Nat) (s:Shared) (Q:List Value->Shared->Prop),s.heap.IsListIter it l i->s.heap.IsList l its->i + n <= its.size →
  (∀ h',h'.IsListIter it l (i + n)->Heap.SameBut it s.heap h'->Q ((its.toList.drop i).take n) { s with heap:=h' })->wpAny (model P w) A (draw (.ref it) n) Q E s
 | 0,i,s,Q,hi,_,_,q=>by
  have z:=q s.heap hi (Heap.SameBut.refl ..)
  rw [List.take_zero] at z
  exact wpAny_pure z
 | n + 1,i,s,Q,hi,hl,hle,q=>by
  have lt:i < its.size:=by omega
  show wpAny _ _ (pyNext (.ref it) >>= _) Q E s
  refine wpAny_bind (wpAny_pyNext_list_item hi hl (x:=its[i]) (by simp [lt]) λ g hg sg=>wpAny_bind (wpAny_holding (wz hne n (i + 1) _ _ hg (hl.extBut sg.extBut hne) (by omega) λ g2 hg2 sg2=>wpAny_pure ?_)))
  have z:=q g2 (by rw [show i + (n + 1)=i + 1 + n by omega];exact hg2) (sg.trans sg2)
  rw [show its.toList.drop i=its[i] :: its.toList.drop (i + 1) by simp [List.drop_eq_getElem_cons,lt],List.take_succ_cons] at z
  exact z
theorem zf {P:Program} {w:World} {A:Around} {E:Value->Shared->Prop} {s:Shared} {l:Addr} {its:Array Value} {tgs:List (Bool × (Value->Sem Unit))} {Q:Unit->Shared->Prop} (hh:A.handled=none) (hl:s.heap.IsList l its)
  (hn:tgs.length=its.size) (hs:tgs.findIdx? (·.1)=none) (h:∀ h',Heap.ExtBut s.heap.objs.size s.heap h'->wpAny (model P w) A (assignInOrder (tgs.map (·.2)) its.toList) Q E { s with heap:=h' }):wpAny (model P w) A (unpack (.ref l) tgs) Q E s:=by
 have ne:l ≠ s.heap.objs.size:=by
  obtain ⟨o,ho,_⟩:=hl
  exact Nat.ne_of_lt (Heap.lt_size ho)
 unfold unpack
 rw [hn,hs]
 refine wpAny_bind (wpAny_holding ?_)
 unfold unpackItems
 refine wpAny_bind ?_
 unfold notIterableAtAll
 refine wpAny_bind (wpAny_specialOf hl.typeIs slot_list_iter.lookup (wpAny_pure ?_))
 simp only [Bool.false_eq_true,if_false]
 refine wpAny_bind (wpAny_holding (wpAny_pyIter_list hl (wpAny_bind (wpAny_holding (wz ne its.size 0 _ _ ⟨_,Heap.get?_push_size _ rfl,rfl,rfl⟩ (hl.push _) (by omega) λ g hg sg=>?_)))))
 rw [List.drop_zero,List.take_of_length_le (by simp),if_neg (by simp)]
 refine wpAny_bind (wpAny_holding (wpAny_pyNext_list_end hh hg ((hl.push _).extBut sg.extBut ne) (by simp) λ g2 e2=>?_))
 simp only [Option.isSome_none,Bool.false_eq_true,if_false]
 exact wpAny_pure (h g2 λ b o hb e=>e2 b o hb (sg.extBut b o hb (Heap.get?_push_of_some _ e)))
noncomputable def K3 (K:PySem.W.Frag) (n:Nat) (t:BG):TG:=λ v σ H Q=>∃ a xs,v=.ref a/\bz K H a xs/\xs.length=n/\t xs σ H Q
theorem HK {X:Cx} {pos:Pos} {es:List Expr} {k:Nat} {t:BG} {n:Nat} (hc:X.calm=true) (h:Gk X es t) (hn:(assignEach es X.env).length=n) (hst:(assignEach es X.env).findIdx? (·.1)=none):PG X (.Tuple es k pos) (K3 X.K n t):=by
 intro pins s σ H v u Q I r ⟨a,xs,e1,hq,hl,hw⟩
 subst e1
 cases r
 obtain ⟨its,rv,ht,hz⟩:=I.list hq
 rw [assign_Tuple]
 refine wpAny_bind (wpAny_standAt (zf (I.ok.hd hc) ht.isList (by simp [hn,<- hl,rv.length]) hst λ h' hx=>?_))
 exact h pins _ σ H xs _ Q (I.kept (t':=s.toks) λ b o e=>hx b o (Nat.ne_of_lt (Heap.lt_size e)) e) (by simpa using rv) hw
noncomputable def kU (n:Nat) (bs:List D->Ev->Option Ev):D->Ev->Option Ev:=λ d δ=>match d with | .tup ds=>(if ds.length=n then bs ds δ else none) | .lst ds=>(if ds.length=n then bs ds δ else none) | _=>none
theorem AR {X:Cx} {e:Expr} {t t':TG} (h:PG X e t) (h':PG X e t'):PG X e (λ v σ H Q=>t v σ H Q \/ t' v σ H Q):=λ pins s σ H v u Q I r q=>q.elim (h pins s σ H v u Q I r) (h' pins s σ H v u Q I r)
theorem E9 {tgs:List Expr} {k n:Nat} {bs:List D->Ev->Option Ev} (hc:X.calm=true) (h:v3 κ B X tgs bs) (hn:(assignEach tgs X.env).length=n) (hst:(assignEach tgs X.env).findIdx? (·.1)=none):xP κ B X (.Tuple tgs k pos) (kU n bs):=λ Ex =>
 CU (AR (HL (X:=X.wish Ex) hc (h Ex) hn hst) (HK (X:=X.wish Ex) hc (h Ex) hn hst)) λ v σ H Q ⟨G,δ,d,δ',rp,dn,e,kk⟩=>by
  unfold kU at e
  split at e
  ·rename_i ds
   split at e
   ·rename_i hl
    unfold aN at dn
    obtain ⟨l,vs,rfl,h1,h2⟩:=dn
    exact .inl ⟨l,vs,rfl,bE rp.GH h1,by rw [h2.length];exact hl,G,δ,ds,δ',rp,h2,e,kk⟩
   ·cases e
  ·rename_i ds
   split at e
   ·rename_i hl
    unfold aN at dn
    obtain ⟨l,vs,rfl,h1,h2⟩:=dn
    exact .inr ⟨l,vs,rfl,rp.GH.seq h1,by rw [h2.length];exact hl,G,δ,ds,δ',rp,h2,e,kk⟩
   ·cases e
  ·cases e
noncomputable def LA (bd:D->Ev->Option Ev) (f:Ev->R D):Ev->SR:=λ δ=>bS (f δ) δ λ d=>match bd d δ with | some δ'=>.next δ' | none=>.stuck
end
end L3
namespace L3
open PySem PySem.Spec PyProof.Rows L2
noncomputable def cu (bd:D->Ev->Option Ev) (F:Ev->SR):List D->Ev->SR
 | [],δ=>.next δ
 | d :: ds,δ=>match bd d δ with
  | none=>.stuck
  | some δ1=>match F δ1 with
   | .next δ2=>cu bd F ds δ2
   | .cont δ2=>cu bd F ds δ2
   | .brk δ2=>.next δ2
   | r=>r
noncomputable def vZ (X:Cx) (κ:Nat->Addr) (J:It) (G:Hp) (ds:List D):Prop:=∃ vs,Dens ⟨X.K,κ⟩ G vs ds/\∀ H',aM G H'->∀ i,(i < vs.length->J.go i H'/\∀ x H'',J.yld i H' x H''->H''=H'/\vs[i]?=some x)/\(vs.length <= i->J.stop i H')
noncomputable def Gm (κ:Nat->Addr) (B:Gd) (X:Cx) (tg e:Expr) (f:Ev->R (List D)):Prop:=∀ pins σ Ex,PI (At X pins σ Ex) tg e (tO (λ G _ J ds=>vZ X κ J G ds) X κ B (EX X pins σ Ex) f)
theorem vg {Y:Cx} {tg e:Expr} {w w':TI} (h:PI Y tg e w) (k:∀ σ H R,w' σ H R->w σ H R):PI Y tg e w':=λ pins s σ H R I q=>h pins s σ H R I (k σ H R q)
theorem JR {Y:Cx} {tg e:Expr} {w w':TI} (h:PI Y tg e w) (h':PI Y tg e w'):PI Y tg e (λ σ H R=>w σ H R \/ w' σ H R):=λ pins s σ H R I q=>q.elim (h pins s σ H R I) (h' pins s σ H R I)
section
variable {κ:Nat->Addr} {B:Gd} {X:Cx} {e tg:Expr} {f:Ev->R D} {pos:Pos}
theorem tt {G H:Hp} {a:Addr} {vs:List V} {ds:List D} (h:bz X.K G a vs) (d:Dens ⟨X.K,κ⟩ G vs ds):vZ X κ (Jg X.K a) G ds:=
 ⟨vs,d,λ H' s i=>⟨λ hi=>⟨⟨vs,vs[i],s.seq h,by simp [hi]⟩,λ x H'' y=>⟨y.1,y.2 vs (s.seq h)⟩⟩,λ hi=>⟨vs,s.seq h,hi⟩⟩⟩
theorem wL {G H:Hp} {a:Addr} {vs:List V} {ds:List D} (h:mS X.K G a vs) (d:Dens ⟨X.K,κ⟩ G vs ds):vZ X κ (KG X.K a) G ds:=
 ⟨vs,d,λ H' s i=>⟨λ hi=>⟨⟨vs,vs[i],bE s h,by simp [hi]⟩,λ x H'' y=>⟨y.1,y.2 vs (bE s h)⟩⟩,λ hi=>⟨vs,bE s h,hi⟩⟩⟩
noncomputable def aV:D->R (List D)
 | .lst ds=>.ok ds
 | .tup ds=>.ok ds
 | _=>.stuck
theorem Fe (h:PX κ B X e f):Gm κ B X tg e (λ δ=>(f δ).bind aV):=λ pins σ Ex =>
 vg (JR (vh (X:=At X pins σ Ex) (h pins σ Ex)) (HP (X:=At X pins σ Ex) (h pins σ Ex))) λ τ H R hz=>eQ hz λ G δ rp q=>by
  dsimp only at q
  cases e:f δ with
  | ok d =>
   rw [e] at q
   cases d with
   | lst ds =>
    refine .inl ⟨G,δ,rp,?_⟩
    rw [e]
    intro v H' G' e1 d1
    unfold aN at d1
    obtain ⟨a,vs,rfl,h1,h2⟩:=d1
    exact ⟨a,rfl,⟨vs,e1.GH.seq h1⟩,q _ H' G' e1 (tt (H:=H') h1 h2)⟩
   | tup ds =>
    refine .inr ⟨G,δ,rp,?_⟩
    rw [e]
    intro v H' G' e1 d1
    unfold aN at d1
    obtain ⟨a,vs,rfl,h1,h2⟩:=d1
    exact ⟨a,rfl,⟨vs,bE e1.GH h1⟩,q _ H' G' e1 (wL (H:=H') h1 h2)⟩
   | _=>exact False.elim q
  | exc c =>
   rw [e] at q
   refine .inl ⟨G,δ,rp,?_⟩
   rw [e]
   exact q
  | stuck=>rw [e] at q;exact False.elim q
theorem wK {G:Hp} {lo:Int} {n:Nat}:vZ X κ (GK lo n) G ((List.range n).map λ i=>D.int (lo + (i:Nat))):=by
 refine ⟨(List.range n).map λ i=>V.int (lo + (i:Nat)),?_,λ H' s i=>⟨λ hi=>⟨?_,λ x H'' y=>?_⟩,λ hi=>?_⟩⟩
 ·generalize List.range n=l
  induction l with
  | nil=>exact bg
  | cons a l ih=>exact aP nM ih
 ·simpa [GK] using hi
 ·obtain ⟨y1,y2⟩:=y
  refine ⟨y1,?_⟩
  rw [y2]
  have:i < n:=by simpa using hi
  simp [this]
 ·simpa [GK] using hi
noncomputable def kZ (lo hi:Int):List D:=(List.range (hi - lo).toNat).map λ i=>D.int (lo + (i:Nat))
noncomputable def lW:List D->R (List D)
 | [.int j]=>if -(2 ^ 62) <= j/\j < 2 ^ 62 then .ok (kZ 0 j) else .stuck
 | _=>.stuck
theorem mh {Z:Zx} {G:Hp} {vs:List V} {i:Int} (h:Dens Z G vs [.int i]):vs=[.int i]:=by
 match vs,h with
 | [v],h=>unfold Dens at h;have:=h.1;unfold aN at this;rw [this]
 | [],h=>unfold Dens at h;exact h.elim
 | _ :: _ :: _,h=>unfold Dens at h;have:=h.2;unfold Dens at this;exact this.elim
theorem Ah {Z:Zx} {G:Hp} {vs:List V} {i j:Int} (h:Dens Z G vs [.int i,.int j]):vs=[.int i,.int j]:=by
 match vs,h with
 | [],h=>unfold Dens at h;exact h.elim
 | v :: vr,h=>unfold Dens at h;have h1:=h.1;unfold aN at h1;rw [h1,mh h.2]
theorem yL {a:Expr} {fs:Ev->R (List D)} {p pos:Pos} (hg:Gl X "range") (hm:X.mg "range" = none) (ha:r9 κ B X [a] fs) (hs:starEach [a] X.env=[(false,eval a X.env)]):Gm κ B X tg (.Call (.Name "range" p) [a] [] pos) (λ δ=>(fs δ).bind lW):=λ pins σ Ex =>
 vg (AT (X:=At X pins σ Ex) hg hm (ha pins σ Ex) hs) λ τ H R hz=>eQ hz λ G δ rp q=>⟨G,δ,rp,q.seq λ x v H1 G1 e1 d1 q1=>by
  unfold lW at q1
  split at q1
  ·rename_i j
   split at q1
   ·rename_i hj
    refine ⟨j,mh d1,hj.1,hj.2,?_⟩
    have:=q1 _ H1 G1 (Ext.refl e1.GH) (wK (lo:=0) (n:=(j - 0).toNat))
    simpa using this
   ·exact False.elim q1
  ·exact False.elim q1⟩
theorem Rep.raise {Z:Zx} {H₀ G H:Hp} {σ:St} {δ:Ev} (r:Rep Z B H₀ G H σ δ):Rep Z ⟨G,B.m⟩ H₀ G H σ δ:=⟨⟨aM.refl _,r.GH,r.old,r.there,λ _ _ n=>n⟩,r.len,r.sh,r.ow,r.sep,r.oo,r.oo1⟩
theorem Hold.lower {H₀ G G' H':Hp} (g:aM B.g G) (l:∀ b,H₀ b ≠ none->B.g b=none->G b=none) (r:Hold ⟨G,B.m⟩ H₀ G' H'):Hold B H₀ G' H':=⟨g.trans r.gG,r.GH,r.old,r.there,λ b z n=>r.lent b z (l b z n)⟩
theorem Rep.lower {Z:Zx} {H₀ G G' H':Hp} {σ:St} {δ:Ev} (g:aM B.g G) (l:∀ b,H₀ b ≠ none->B.g b=none->G b=none) (r:Rep Z ⟨G,B.m⟩ H₀ G' H' σ δ):Rep Z B H₀ G' H' σ δ:=⟨r.toHold.lower g l,r.len,r.sh,r.ow,r.sep,r.oo,r.oo1⟩
theorem qX {pins pl:List (Addr × Obj)} {H:Hp} {s:Shared} {ea:Addr} {C:Value} (F:Flies X (pins++pl) H s ea C):Flies X pins H s ea C:=by
 have c:∀ {b},FreshX X (pins++pl) H b->FreshX X pins H b:=λ f=>⟨f.nl,f.nc,λ p hp=>f.np p ((List.mem_append.mp hp).elim (λ z=>List.mem_append_left _ z) λ z=>List.mem_append_right _ (List.mem_append_left _ z)),f.n0,f.nh⟩
 obtain ⟨⟨oe,vs,a0,t1,t2,t3,t4,t5⟩,fr⟩:=F
 refine ⟨⟨oe,vs,a0,t1,t2,t3,t4,t5.imp id ?_⟩,c fr⟩
 rintro ⟨T,oT,ts,x1,x2,x3,x4,x5,x6⟩
 exact ⟨T,oT,ts,x1,x2,x3,x4,x5,c x6⟩
noncomputable def cG (fit:Ev->R (List D)) (bd:D->Ev->Option Ev) (F:Ev->SR):Ev->SR:=λ δ=>bS (fit δ) δ λ ds=>cu bd F ds δ
noncomputable def qy (X:Cx) (κ:Nat->Addr) (J:It) (G:Hp) (ds:List D):Prop:=∀ H' G',aM G G'->aM G' H'->∀ i,(∀ d,ds[i]?=some d->J.go i H'/\∀ x H'',J.yld i H' x H''->∃ G'',Ext G' H' G'' H''/\aN ⟨X.K,κ⟩ G'' x d)/\(ds.length <= i->J.stop i H')
noncomputable def Jq (κ:Nat->Addr) (B:Gd) (X:Cx) (tg e:Expr) (f:Ev->R (List D)):Prop:=∀ pins σ Ex,PI (At X pins σ Ex) tg e (tO (λ G _ J ds=>qy X κ J G ds) X κ B (EX X pins σ Ex) f)
theorem wJ {X:Cx} {κ:Nat->Addr} {J:It} {G:Hp} {ds:List D} (h:vZ X κ J G ds):qy X κ J G ds:=by
 obtain ⟨vs,hd,h⟩:=h
 intro H' G' s1 s2 i
 obtain ⟨h1,h2⟩:=h H' (s1.trans s2) i
 have hl:=hd.length
 refine ⟨λ d e=>?_,λ hi=>h2 (by omega)⟩
 have hi:=(List.getElem?_eq_some_iff.mp e).1
 obtain ⟨g1,g2⟩:=h1 (by omega)
 refine ⟨g1,λ x H'' y=>?_⟩
 obtain ⟨rfl,e2⟩:=g2 x H'' y
 obtain ⟨v,e3,dv⟩:=hd.get e
 rw [e2] at e3
 cases e3
 exact ⟨G',Ext.refl s2,dv.mono s1⟩
inductive FI (κ:Nat->Addr) (B:Gd) (X:Cx) (Ex:Value->Shared->Prop) (pins:List (Addr × Obj)) (tn:Nat->Heap->Prop) (fp:List Addr) (ds:List D) (G2:Hp) (Q:St->Hp->Prop) (P:List D->Ev->Prop) (n:Nat) (s':Shared):Prop
 | mk (i:Nat) (σ':St) (H' G':Hp) (δ':Ev) (I:Inv (X.wish Ex) pins σ' H' s') (t:tn i s'.heap) (f:∀ b∈fp,H' b=none) (e:n=ds.length - i) (l:i <= ds.length) (r:Rep ⟨X.K,κ⟩ ⟨G2,B.m⟩ X.H₀ G' H' σ' δ') (j:Q σ' H') (q:P (ds.drop i) δ')
theorem zO (cx:Cxo X) (hc:X.calm=true) {iter:Expr} {body:List Stmt} {fit:Ev->R (List D)} {bd:D->Ev->Option Ev} {F:Ev->SR} (hi:Jq κ B X tg iter fit) (hg:∀ B,xP κ B X tg bd) (hb:∀ B,sP κ B X body F)
  (hs:∀ x,foldedSetIterable iter X.env x=pure x):PZ κ B X (.For tg iter body [] pos) (cG fit bd F):=λ Ex pins s σ H G δ Dn hp I rp h=>by
 have hsgA:∀ p τ,(X.wish Ex).sg p τ:=cx.sg
 refine wpAny_For (br (hi pins σ Ex pins s σ H (λ J H'=>∃ G' ds,Rep ⟨X.K,κ⟩ B X.H₀ G' H' σ δ/\qy X κ J G' ds/\c0 κ B X Ex pins Dn (cu bd F ds δ)) (bq I) ⟨G,δ,rp,?_⟩) λ v s1 h1=>br h1 λ itv s2 h2=>?_) hs
 ·unfold cG at h
  cases q:fit δ with
  | ok ds=>rw [q] at h;exact λ J H' G' e1 d1=>⟨G',ds,rp.ext e1,d1,h⟩
  | exc c=>rw [q] at h;exact λ H' G' e1 ea s' I' F'=>h ea s' σ H' G' I' F' (rp.ext e1)
  | stuck=>rw [q] at h;exact h
 obtain ⟨it,fp,tn,J,H2,e,I2,T,st2,f2,G2,ds,rp2,hJ,q2⟩:=h2
 subst e
 have I2':=aH cx.sg I2
 have stat:∀ {H':Hp},(∀ b∈fp,H' b=none)->∀ b∈fp,uc (X.wish Ex) pins H' b:=λ hn b hb=>⟨hn b hb,(f2 b hb).2⟩
 refine codeAny_forLoop_any (FI κ B X Ex pins tn fp ds G2 (λ _ _=>True) (λ l δ'=>c0 κ B X Ex pins Dn (cu bd F l δ'))) ?_ ds.length
  ⟨0,σ,H2,G2,δ,I2',st2,λ b hb=>(f2 b hb).1,rfl,Nat.zero_le _,rp2.raise,trivial,q2⟩
 rintro n s3 ⟨i,σ3,H3,G3,δ3,I3,st3,fr3,rfl,hi3,rp3,-,q3⟩
 have q3:c0 κ B X Ex pins Dn (cu bd F (ds.drop i) δ3):=q3
 have low:∀ {G' H':Hp} {σ':St} {δ':Ev},Rep ⟨X.K,κ⟩ ⟨G2,B.m⟩ X.H₀ G' H' σ' δ'->Rep ⟨X.K,κ⟩ B X.H₀ G' H' σ' δ':=λ r=>r.lower rp2.gG rp2.lent
 have same3:aM G2 H3:=rp3.gG.trans rp3.GH
 by_cases hlt:i < ds.length
 ·obtain ⟨dx,hdx⟩:∃ d,ds[i]?=some d:=⟨ds[i],by simp [hlt]⟩
  obtain ⟨go,yl⟩:=(hJ H3 G3 rp3.gG rp3.GH i).1 dx hdx
  refine wpAny_passesOwn hp (br (T.item (X.wish Ex) rfl rfl rfl hc i pins s3 σ3 H3 Ex I3 (stat fr3) st3 go) λ r s4 ⟨u,hr,h4⟩=>?_)
  subst hr
  refine wpAny_passesOwn hp (br h4 λ _ s5 ⟨x,H5,I5,r5,y5,st5,fr5⟩=>?_)
  obtain ⟨G5,e5,dd⟩:=yl x H5 y5
  have I5':=Inv.pinned hsgA I5 (stat fr5) (T.obj _ _ st5)
  have hdrop:ds.drop i=dx :: ds.drop (i + 1):=by
   rw [List.drop_eq_getElem_cons hlt]
   simp [hlt] at hdx
   rw [hdx]
  rw [hdrop] at q3
  unfold cu at q3
  cases eb:bd dx δ3 with
  | none=>rw [eb] at q3;exact False.elim q3
  | some δ4 =>
   rw [eb] at q3
   refine wpAny_passesOwn hp (br (hg ⟨G2,B.m⟩ Ex _ s5 σ3 _ x u (λ σ' H'=>H'=H5/\Rep ⟨X.K,κ⟩ ⟨G2,B.m⟩ X.H₀ G5 H5 σ' δ4) I5' r5 ⟨G5,δ3,dx,δ4,rp3.ext e5,dd,eb,λ σ' r'=>⟨rfl,r'⟩⟩) λ _ s6 ⟨σ6,H6,I6,e6,rp6⟩=>?_)
   subst e6
   refine wpAny_passesOwn hp (br (hb ⟨G2,B.m⟩ Ex _ s6 σ6 _ G5 δ4 { Dn with nx:=λ σ' H'=>∃ G' δ',Rep ⟨X.K,κ⟩ ⟨G2,B.m⟩ X.H₀ G' H' σ' δ'/\c0 κ B X Ex pins Dn (cu bd F (ds.drop (i + 1)) δ'),ct:=λ σ' H'=>∃ G' δ',Rep ⟨X.K,κ⟩ ⟨G2,B.m⟩ X.H₀ G' H' σ' δ'/\c0 κ B X Ex pins Dn (cu bd F (ds.drop (i + 1)) δ'),bk:=Dn.nx } hp I6 rp6 ?_) λ fl s7 q7=>?_)
   ·cases ef:F δ4 with
    | next δ5=>simp only [ef] at q3;exact λ σ' H' G' r=>⟨G',δ5,r,q3⟩
    | cont δ5=>simp only [ef] at q3;exact λ σ' H' G' r=>⟨G',δ5,r,q3⟩
    | brk δ5=>simp only [ef] at q3;exact λ σ' H' G' r=>q3 σ' H' G' (low r)
    | ret d=>simp only [ef] at q3;exact λ v H' G' r=>q3 v H' G' (r.lower rp2.gG rp2.lent)
    | exc c δ5=>simp only [ef] at q3;exact λ ea s' σ' H' G' I' F' r=>q3 ea s' σ' H' G' (Inv.unpinned hsgA I') (qX F') (low r)
    | stuck=>simp only [ef] at q3;exact q3
   ·have again:∀ {σ7:St} {H7:Hp},Inv (X.wish Ex) (pins++o6 fp s5.heap) σ7 H7 s7->(∃ G' δ',Rep ⟨X.K,κ⟩ ⟨G2,B.m⟩ X.H₀ G' H7 σ7 δ'/\c0 κ B X Ex pins Dn (cu bd F (ds.drop (i + 1)) δ')) →
      ∃ m,m < ds.length - i/\FI κ B X Ex pins tn fp ds G2 (λ _ _=>True) (λ l δ'=>c0 κ B X Ex pins Dn (cu bd F l δ')) m s7:=λ {σ7 H7} I7 ⟨G7,δ7,r7,n7⟩=>by
     refine ⟨ds.length - (i + 1),by omega,i + 1,σ7,H7,G7,δ7,Inv.unpinned hsgA I7,T.keep _ _ _ st5 λ b hb o e=>(I7.pin (b,o) (List.mem_append_right _ (List.mem_append_right _ (dA hb e)))).1,λ b hb=>?_,rfl,hlt,r7,trivial,n7⟩
     obtain ⟨o,e,d⟩:=T.obj _ _ st5 b hb
     exact (I7.pin (b,o) (List.mem_append_right _ (List.mem_append_right _ (dA hb e)))).2.1
    cases fl with
    | next=>obtain ⟨σ7,H7,I7,n7⟩:=q7;exact again I7 n7
    | cont=>obtain ⟨σ7,H7,I7,n7⟩:=q7;exact again I7 n7
    | brk=>obtain ⟨σ7,H7,I7,q7⟩:=q7;exact ⟨σ7,H7,Inv.unpinned hsgA I7,q7⟩
    | ret v=>obtain ⟨x7,σ7,H7,I7,r7,q7⟩:=q7;exact ⟨x7,σ7,H7,Inv.unpinned hsgA I7,r7,q7⟩
 ·have hie:i=ds.length:=by omega
  refine wpAny_passesOwn hp (br (T.done (X.wish Ex) rfl rfl rfl hc i pins s3 σ3 H3 Ex I3 (stat fr3) st3 ((hJ H3 G3 rp3.gG rp3.GH i).2 (by omega))) λ r s4 ⟨hr,I4⟩=>?_)
  subst hr
  rw [hie,List.drop_length] at q3
  exact wpAny_execs_nil ⟨σ3,H3,I4,q3 σ3 H3 G3 (low rp3)⟩
theorem IC (cx:Cxo X) (hc:X.calm=true) {iter:Expr} {body:List Stmt} {fit:Ev->R (List D)} {bd:D->Ev->Option Ev} {F:Ev->SR} (hi:Gm κ B X tg iter fit) (hg:∀ B,xP κ B X tg bd) (hb:∀ B,sP κ B X body F)
  (hs:∀ x,foldedSetIterable iter X.env x=pure x):PZ κ B X (.For tg iter body [] pos) (cG fit bd F):=zO cx hc (λ pins σ Ex=>vg (hi pins σ Ex) λ τ H R hz=>eQ hz λ G δ rp q=>⟨G,δ,rp,by
  cases e:fit δ <;> rw [e] at q
  ·exact λ J H' G' e1 d1=>q J H' G' e1 (wJ d1)
  ·exact q
  ·exact q⟩) hg hb hs
noncomputable def b5 (t:Ev->R Bool) (F:Ev->SR):Nat->Ev->SR
 | 0,_=>.stuck
 | n + 1,δ=>bS (t δ) δ λ k=>if k then (match F δ with
  | .next δ'=>b5 t F n δ'
  | .cont δ'=>b5 t F n δ'
  | .brk δ'=>.next δ'
  | r=>r) else .next δ
theorem Dp (cx:Cxo X) (N:Nat) {c:Expr} {body:List Stmt} {t:Ev->R Bool} {F:Ev->SR} (hc:mO κ B X c t) (hb:sP κ B X body F):PZ κ B X (.While c body [] pos) (b5 t F N):=λ Ex pins s σ H G δ Dn hp I rp h=>by
 refine wpAny_While (codeAny_whileLoop (λ n s'=>∃ σ' H' G' δ',Inv (X.wish Ex) pins σ' H' s'/\Rep ⟨X.K,κ⟩ B X.H₀ G' H' σ' δ'/\c0 κ B X Ex pins Dn (b5 t F n δ')) ?_ N ⟨σ,H,G,δ,I,rp,h⟩)
 rintro n s1 ⟨σ1,H1,G1,δ1,I1,rp1,q1⟩
 cases n with
 | zero=>exact False.elim q1
 | succ n =>
  unfold b5 at q1
  refine wpAny_passesOwn hp (br (hc.stm cx I1 rp1 q1) λ b s2 ⟨H2,G2,I2,rp2,q2⟩=>?_)
  cases b with
  | true =>
   rw [if_pos rfl]
   rw [if_pos rfl] at q2
   refine wpAny_passesOwn hp (br (hb Ex pins s2 σ1 H2 G2 δ1 { Dn with nx:=λ σ' H'=>∃ G' δ',Rep ⟨X.K,κ⟩ B X.H₀ G' H' σ' δ'/\c0 κ B X Ex pins Dn (b5 t F n δ'),ct:=λ σ' H'=>∃ G' δ',Rep ⟨X.K,κ⟩ B X.H₀ G' H' σ' δ'/\c0 κ B X Ex pins Dn (b5 t F n δ'),bk:=Dn.nx } hp I2 rp2 ?_) λ f s3 q3=>?_)
   ·cases ef:F δ1 with
    | next δ5=>simp only [ef] at q2;exact λ σ' H' G' r=>⟨G',δ5,r,q2⟩
    | cont δ5=>simp only [ef] at q2;exact λ σ' H' G' r=>⟨G',δ5,r,q2⟩
    | brk δ5=>simp only [ef] at q2;exact q2
    | ret d=>simp only [ef] at q2;exact q2
    | exc c δ5=>simp only [ef] at q2;exact q2
    | stuck=>simp only [ef] at q2;exact q2
   ·cases f with
    | next=>obtain ⟨σ3,H3,I3,G3,δ3,r3,n3⟩:=q3;exact ⟨n,Nat.lt_succ_self n,σ3,H3,G3,δ3,I3,r3,n3⟩
    | cont=>obtain ⟨σ3,H3,I3,G3,δ3,r3,n3⟩:=q3;exact ⟨n,Nat.lt_succ_self n,σ3,H3,G3,δ3,I3,r3,n3⟩
    | brk=>exact q3
    | ret v=>exact q3
  | false =>
   rw [if_neg Bool.false_ne_true]
   exact wpAny_execs_nil ⟨σ1,H2,I2,q2 σ1 H2 G2 rp2⟩
end
noncomputable def iP:SR->R D
 | .next _=>.ok .non
 | .ret d=>.ok d
 | .exc c _=>.exc c
 | _=>.stuck
noncomputable def av (n:Nat) (ds:List D):Ev:=ds.map (λ d=>some (.sh d))++List.replicate (n - ds.length) none
structure FrmOk (X:Cx):Prop where
 st:X.stack=X.env :: X.outer
 fr:X.env.frame=some X.env.locals
theorem yj {P:Program} {w:World} {K:PySem.W.Frag} {mg:Str->Option Value} {base:Heap} {κ:Nat->Addr} {x qual:Str} {st:Stmt} {f:Addr} {fd:FuncData} {N ps:List Str} {k:Nat} {F:Ev->SR}
  (Fn:Fun K x qual st f fd) (S:FnScope N ps (am st))
  (hb:∀ (X:Cx) (B:Gd),Cxo X->X.calm=true->X.prog=P->X.w=w->X.K=K->X.mg=mg->X.base=base->X.N=N->X.env.scope=am st->(∀ y,X.fn y=true)->Room k X.A->FrmOk X->(∀ b,X.H₀ b=none->B.m b)->sP κ B X (ay st) F) :
  FnOk P w K mg base (pU P w) (k + 1) f fd ps (GG K κ ps.length λ ds=>iP (F (av N.length ds))):=by
 obtain ⟨oc,od,kV,doc,pm,an,cdv,ct,osl,rfl,lk,hcd⟩:=Fn.ex
 refine Ca lk hcd S (λ vs H Q E h=>h.1) λ A outer s H vs Q E hr hsp=>?_
 obtain ⟨hl,G,ds,sm,dn,hq⟩:=hsp
 dsimp only at hq
 generalize hX:wj (pU P w) P w K mg base N qual (am st) f cdv A outer s H E=X
 have eP:X.prog=P:=by rw [<- hX];rfl
 have ew:X.w=w:=by rw [<- hX];rfl
 have eK:X.K=K:=by rw [<- hX];rfl
 have cx:Cxo X:=by rw [<- hX];exact ⟨λ _ _=>trivial,rfl⟩
 have body:=λ B hB=>hb X B cx (by rw [<- hX];rfl) eP ew eK (by rw [<- hX];rfl) (by rw [<- hX];rfl) (by rw [<- hX];rfl) (by rw [<- hX];rfl) (λ y=>by rw [<- hX];rfl) (by rw [<- hX];exact hr) (by rw [<- hX];exact ⟨rfl,rfl⟩) hB
 have e0:X.H₀=H:=by rw [<- hX];rfl
 refine ⟨λ Dn σ H=>∃ B G δ,(∀ b,X.H₀ b=none->B.m b)/\Rep ⟨X.K,κ⟩ B X.H₀ G H σ δ/\∀ pins,c0 κ B X X.xe pins Dn (F δ),λ pins s' σ H' Dn I ⟨B,G,δ,hB,rp,h⟩=>?_,⟨G,λ b=>H b=none⟩,G,av N.length ds,(λ b z=>by rw [e0] at z;exact z),?_,λ pins=>?_⟩
 ·refine body B hB X.xe pins s' σ H' G δ Dn ?_ I rp (h pins)
  rw [<- hX]
  exact PassesOwn.leaving
 ·rw [e0,eK]
  have hld:ds.length=vs.length:=dn.length.symm
  refine ⟨⟨aM.refl _,sm,λ _ _ e _=>e,λ _ e=>e,λ _ _ e=>e⟩,?_,λ i d e=>?_,λ i es e=>?_,λ i j es fs a n e=>?_,λ i c ns es e=>?_,λ i j c ns es c' ns' es' x0 n0 e=>?_⟩
  ·unfold L2.start av
   simp [hld]
  ·unfold av at e
   by_cases hi:i < ds.length
   ·rw [List.getElem?_append_left (by simpa using hi),List.getElem?_map] at e
    cases q:ds[i]? with
    | none=>rw [q] at e;cases e
    | some d' =>
     rw [q] at e
     cases e
     obtain ⟨v,e1,e2⟩:=dn.get q
     refine ⟨v,?_,e2⟩
     unfold L2.start
     rw [List.getElem?_append_left (by simp;omega),List.getElem?_map,e1]
     rfl
   ·rw [List.getElem?_append_right (by simpa using hi),List.getElem?_replicate] at e
    split at e <;> cases e
  ·unfold av at e
   by_cases hi:i < ds.length
   ·rw [List.getElem?_append_left (by simpa using hi),List.getElem?_map] at e
    cases q:ds[i]? with
    | none=>rw [q] at e;cases e
    | some d'=>rw [q] at e;cases e
   ·rw [List.getElem?_append_right (by simpa using hi),List.getElem?_replicate] at e
    split at e <;> cases e
  ·unfold av at e
   by_cases hi:i < ds.length
   ·rw [List.getElem?_append_left (by simpa using hi),List.getElem?_map] at e
    cases q:ds[i]? with
    | none=>rw [q] at e;cases e
    | some d'=>rw [q] at e;cases e
   ·rw [List.getElem?_append_right (by simpa using hi),List.getElem?_replicate] at e
    split at e <;> cases e
  ·unfold av at e
   by_cases hi:i < ds.length
   ·rw [List.getElem?_append_left (by simpa using hi),List.getElem?_map] at e
    cases q:ds[i]? with
    | none=>rw [q] at e;cases e
    | some d'=>rw [q] at e;cases e
   ·rw [List.getElem?_append_right (by simpa using hi),List.getElem?_replicate] at e
    split at e <;> cases e
  ·unfold av at e
   by_cases hi:i < ds.length
   ·rw [List.getElem?_append_left (by simpa using hi),List.getElem?_map] at e
    cases q:ds[i]? with
    | none=>rw [q] at e;cases e
    | some d'=>rw [q] at e;cases e
   ·rw [List.getElem?_append_right (by simpa using hi),List.getElem?_replicate] at e
    split at e <;> cases e
 ·have ext:∀ {G' H':Hp},Hold ⟨G,λ b=>H b=none⟩ X.H₀ G' H'->Ext G H G' H':=λ {G' H'} h=>by
   rw [e0] at h
   refine ⟨h.gG,λ b o e=>h.old b o e (by dsimp only;rw [e];simp),h.GH,λ a n=>?_⟩
   cases q:H a with
   | none=>exact .inr rfl
   | some o =>
    refine .inl λ z=>n ?_
    exact h.lent a (by rw [q];simp) z
  cases q:F (av N.length ds) with
  | next δ'=>rw [q] at hq;exact λ σ' H' G' r=>hq .non H' G' (ext r.toHold) KS
  | ret d=>rw [q] at hq;exact λ v H' G' r dd=>hq v H' G' (ext r) (by rw [eK] at dd;exact dd)
  | exc c δ' =>
   rw [q] at hq
   intro ea s' σ' H' G' I' F' r
   have hE:E (.ref (κ c)) none H':=hq H' G' (ext r.toHold)
   have I2:Inv X pins σ' H' s':=by
    have:=I'.unwish
    exact this
   have:=Cv (M:=model P w) (E:=E) (E':=λ e' s''=>pU P w outer H s E e' s'') I2 cx.ex (by rw [<- hX];rfl) (by rw [<- hX];rfl) F' hE
   rw [<- hX] at this ⊢
   exact this
  | brk δ'=>rw [q] at hq;exact False.elim hq
  | cont δ'=>rw [q] at hq;exact False.elim hq
  | stuck=>rw [q] at hq;exact False.elim hq
theorem An {P:Program} {w:World} {K:PySem.W.Frag} {mg:Str->Option Value} {base:Heap} {κ:Nat->Addr} {x qual:Str} {st:Stmt} {f:Addr} {fd:FuncData} {N ps:List Str} {k:Nat} {F:Ev->SR}
  (Fn:Fun K x qual st f fd) (S:FnScope N ps (am st))
  (hb:∀ (X:Cx) (B:Gd),Cxo X->X.calm=true->X.prog=P->X.w=w->X.K=K->X.mg=mg->X.base=base->X.N=N->X.env.scope=am st->(∀ y,X.fn y=true)->Room k X.A->FrmOk X->sP κ B X (ay st) F) :
  FnOk P w K mg base (pU P w) (k + 1) f fd ps (GG K κ ps.length λ ds=>iP (F (av N.length ds))):=yj Fn S λ X B a1 a2 a3 a4 a5 a6 a7 a8 a9 a10 a11 a12 _=>hb X B a1 a2 a3 a4 a5 a6 a7 a8 a9 a10 a11 a12
end L3
namespace L3
open PySem PySem.Spec PyProof.Rows L2
noncomputable def uL (X:Cx) (κ:Nat->Addr) (E:XK) (G H:Hp) (r:R (List D)) (Q:VK):Prop:=match r with
 | .ok ds=>∀ a vs H' G',Ext G H G' H'->H' a=some (.lst vs)->G' a=none->H a=none->Dens ⟨X.K,κ⟩ G' vs ds->Q (.ref a) H'
 | .exc c=>∀ H' G',Ext G H G' H'->E (.ref (κ c)) none H'
 | .stuck=>False
noncomputable def xQ (κ:Nat->Addr) (B:Gd) (X:Cx) (e:Expr) (f:Ev->R (List D)):Prop:=∀ pins σ Ex,PE (At X pins σ Ex) e (λ τ H Q=>∃ G δ,Rep ⟨X.K,κ⟩ B X.H₀ G H τ δ/\uL X κ (EX X pins σ Ex) G H (f δ) Q)
section
variable {κ:Nat->Addr} {B:Gd} {X:Cx} {e:Expr} {es:List Expr} {f:Ev->R D} {fl fs:Ev->R (List D)} {pos pos' pos'' apos:Pos}
theorem uL.pre {E:XK} {G H G' H':Hp} {r:R (List D)} {Q:VK} (e:Ext G H G' H') (h:uL X κ E G H r Q):uL X κ E G' H' r Q:=by
 cases r with
 | ok d=>exact λ a vs H2 G2 e2 h1 h2 h3 h4=>h a vs H2 G2 (e.trans e2) h1 h2 (e.sH.free h3) h4
 | exc c=>exact λ H2 G2 e2=>h H2 G2 (e.trans e2)
 | stuck=>exact h
theorem nQ {G H:Hp} {p:Addr} {o:HO} (s:aM G H) (n:H p=none):Ext G H G (upd H p o):=by
 refine ⟨aM.refl _,λ b u e=>?_,λ b u e=>?_,λ b e=>.inl e⟩
 ·rw [aq (az e n)];exact e
 ·rw [aq (az (s b u e) n)];exact s b u e
noncomputable def lim (r:R (List D)):R (List D):=r.bind λ xs=>if xs.length <= 1000000 then .ok xs else .stuck
theorem zN (h:r9 κ B X es fs):xQ κ B X (.List es pos) (λ δ=>lim (fs δ)):=λ pins σ Ex =>
 be (yJ (h pins σ Ex)) λ τ H Q hz=>eQ hz λ G δ rp q=>⟨G,δ,rp,by
  unfold lim at q
  dsimp only at q
  cases e:fs δ with
  | ok xs =>
   rw [e] at q
   intro v H1 G1 e1 d1
   simp only [R.bind_ok] at q
   split at q
   ·rename_i hl
    refine ⟨xW (by rw [Dens.length d1];exact hl),λ p hp=>?_⟩
    exact q p v _ G1 (e1.trans (nQ e1.GH hp)) aw (e1.GH.free hp) (e1.sH.free hp) d1
   ·exact False.elim q
  | exc c=>rw [e] at q;exact q
  | stuck=>rw [e] at q;exact q⟩
theorem c8 {G H G' H':Hp} {a:Addr} {vs:List V} (e:Ext G H G' H') (h1:H' a=some (.lst vs)) (h2:G' a=none) (h3:H a=none):Ext G H (upd G' a (.lst vs)) H':=by
 have sg:aM G' (upd G' a (.lst vs)):=λ b o z=>by rw [aq (az z h2)];exact z
 refine ⟨e.sG.trans sg,e.sH,λ b o z=>?_,λ b z=>?_⟩
 ·by_cases hb:b=a
  ·subst hb;rw [aw] at z;cases z;exact h1
  ·rw [aq hb] at z;exact e.GH b o z
 ·by_cases hb:b=a
  ·subst hb;exact .inr h3
  ·rw [aq hb] at z;exact e.new b z
noncomputable def mL (fl:Ev->R (List D)):Ev->R D:=λ δ=>(fl δ).bind λ ds=>.ok (.lst ds)
theorem xQ.px (h:xQ κ B X e fl):PX κ B X e (mL fl):=λ pins σ Ex=>be (h pins σ Ex) λ τ H Q hz=>eQ hz λ G δ rp q=>⟨G,δ,rp,by
 unfold mL at q
 cases e:fl δ with
 | ok ds =>
  rw [e] at q
  intro a vs H' G' e1 h1 h2 h3 h4
  have sg:aM G' (upd G' a (.lst vs)):=λ b o z=>by rw [aq (az z h2)];exact z
  exact q _ H' _ (c8 e1 h1 h2 h3) (by unfold aN;exact ⟨a,vs,rfl,bz.of aw,h4.mono sg⟩)
 | exc c=>rw [e] at q;exact q
 | stuck=>rw [e] at q;exact q⟩
noncomputable def dM (i:Nat) (fl:Ev->R (List D)):Ev->SR:=λ δ=>bS (fl δ) δ λ ds=>.next (δ.set i (some (.ow ds)))
theorem ID (cx:Cxo X) {i:Nat} {x:Str} (hN:X.N.Nodup) (hi:X.N[i]?=some x) (hx:mM X.env.scope x) (hf:X.fn x=true \/ X.env.scope.names.lookup x=some .local) (h:xQ κ B X e fl) (hs:swapsWith e (some (.Name x pos')) pos.line X.env=pure false) :
  PZ κ B X (.Assign [.Name x pos'] e pos) (dM i fl):=λ Ex pins s σ H G δ Dn hp I rp q=>by
 unfold dM at q
 refine wpAny_Assign_Name (br (h pins σ Ex pins s σ H (λ v H'=>∃ a ds vs G',v=.ref a/\Ext G H G' H'/\H' a=some (.lst vs)/\G' a=none/\H a=none/\Dens ⟨X.K,κ⟩ G' vs ds/\c0 κ B X Ex pins Dn (.next (δ.set i (some (.ow ds))))) (bq I) ⟨G,δ,rp,?_⟩)
  λ v s1 ⟨y,H',I',r,a,ds,vs,G',e0,e1,h1,h2,h3,h4,q⟩=>?_) hs
 ·cases e:fl δ with
  | ok ds=>rw [e] at q;exact λ a vs H' G' e1 h1 h2 h3 h4=>⟨a,ds,vs,G',rfl,e1,h1,h2,h3,h4,q⟩
  | exc c=>rw [e] at q;exact λ H' G' e1 ea s' I' F=>q ea s' σ H' G' I' F (rp.ext e1)
  | stuck=>rw [e] at q;exact q
 ·subst e0
  have rp':=rp.ext e1
  refine cD (X:=X.wish Ex) (aH cx.sg I') hN hi hx r (λ s2 I2=>⟨_,H',I2,q _ H' G' (rp'.setOw h1 h4 h2 ?_ λ j es z n z2=>?_)⟩) hf (λ p σ v _=>cx.sg p _)
  ·cases q0:X.H₀ a with
   | none=>rfl
   | some o=>exact absurd h3 (rp.there a (by rw [q0];simp))
  ·obtain ⟨b,us,y1,y2,_⟩:=rp.ow j es z
   rw [y1] at z2
   cases z2
   rw [h3] at y2;cases y2
noncomputable def cF (i:Nat) (f:Ev->R D):Ev->SR:=λ δ=>match δ[i]? with
 | some (some (.ow ds))=>bS (f δ) δ λ d=>if ds.length < 1000000 then .next (δ.set i (some (.ow (ds++[d])))) else .stuck
 | _=>.stuck
theorem A1 (cx:Cxo X) {i:Nat} {x:Str} (hN:X.N[i]?=some x) (hv:kT X.env.scope x) (hd:(x == ("__debug__" : Str))=false) (hcd:(x == ("__classdict__" : Str))=false) (h:PX κ B X e f)
  (hsw:swapsWith (.Call (.Attribute (.Name x pos) "append" apos) [e] [] pos') none pos''.line X.env=pure false)
  (hbase:attributeBase (.Name x pos) "append" X.env (eval (.Name x pos) X.env)=eval (.Name x pos) X.env)
  (hfew:((backTo pos' (starEach [e] X.env)).all (λ x=>!x.1) && (backToKw pos' (keywordEach [] X.env)).all (λ x=>x.1.isSome)
   && decide (([e]:List Expr).length + ([]:List Keyword).length + (if ([]:List Keyword).isEmpty then 0 else 1) < 30))=true)
  (hline:(apos.endLine == pos'.line)=true) (hs:starEach [e] X.env=(false,eval e X.env) :: starEach [] X.env) (hpl:(backTo pos' (starEach [] X.env)).any (·.1)=false) :
  PZ κ B X (.Expr (.Call (.Attribute (.Name x pos) "append" apos) [e] [] pos') pos'') (cF i f):=λ Ex pins s σ H G δ Dn hp I rp q=>by
 unfold cF at q
 split at q
 ·rename_i ds ed
  obtain ⟨a,vs,x1,x2,x3,x4,x5⟩:=rp.ow i ds ed
  have pe:=rC (X:=At X pins σ Ex) PySem.F.plainAttrs_list PySem.F.slot_list_append PySem.F.type_list_append fI (b0 (X:=At X pins σ Ex) (pos:=pos) hN hv hd hcd) (xm h vw hs pins σ Ex) hbase hfew hline hs hpl
  refine wpAny_Expr_any (br (pe pins s σ H (λ _ H'=>∃ G' δ',Rep ⟨X.K,κ⟩ B X.H₀ G' H' σ δ'/\c0 κ B X Ex pins Dn (.next δ')) (bq I) ⟨.ref a,x1,.inl ⟨rfl,vs,bz.of x2⟩,G,δ,rp,?_⟩) (by rintro v s1 ⟨y,H',I',r,G',δ',rp',q⟩;exact ⟨σ,H',aH cx.sg I',q σ H' G' rp'⟩)) I.quiet hsw
  unfold af au
  cases e:f δ with
  | ok d =>
   rw [e] at q
   simp only [R.bind_ok]
   intro us H1 G1 e1 d1
   simp only [eC] at q
   split at q
   ·rename_i hl
    obtain ⟨y,rfl,dy⟩:∃ y,us=[y]/\aN ⟨X.K,κ⟩ G1 y d:=by
     match us,d1 with
     | [y],d1=>unfold lT Dens at d1;exact ⟨y,rfl,d1.1⟩
     | [],d1=>unfold lT Dens at d1;exact d1.elim
     | _ :: _ :: _,d1=>unfold lT Dens at d1;have:=d1.2;unfold Dens at this;exact this.elim
    have rp1:=rp.ext e1
    refine ⟨a,vs,y,rfl,rfl,e1.sH _ _ x2,?_,G1,_,rp1.updOw ed x1 ((x3.mono e1.sG).append (aP dy bg)),q⟩
    have:=x3.length
    rw [sizeLine_eq]
    omega
   ·exact False.elim q
  | exc c =>
   rw [e] at q
   exact λ H' G' e1 ea s' I' F=>q ea s' σ H' G' I' F (rp.ext e1)
  | stuck=>rw [e] at q;exact q
 ·exact False.elim q
end
end L3
namespace L3
open PySem PySem.Spec PyProof.Rows L2
mutual
noncomputable def oh:D->PyData
 | .non=>.none
 | .bl b=>.bool b
 | .int i=>.int i
 | .str x=>.str ⟨x.toArray⟩
 | .tup ds=>.tuple (toPs ds)
 | .lst ds=>.list (toPs ds)
 | .ob _ _ _=>.none
 | .dic _ _=>.none
noncomputable def toPs:List D->List PyData
 | []=>[]
 | d :: ds=>oh d :: toPs ds
end
mutual
noncomputable def eL:D->Bool
 | .non | .bl _ | .int _ | .str _=>true
 | .tup ds=>plainDs ds
 | .lst ds=>plainDs ds
 | .ob _ _ _=>false
 | .dic _ _=>false
noncomputable def plainDs:List D->Bool
 | []=>true
 | d :: ds=>eL d && plainDs ds
end
section
variable {κ:Nat->Addr} {Y:Cx} {pins:List (Addr × Obj)} {σ:St} {H G:Hp} {s:Shared}
mutual
theorem xw (I:Inv Y pins σ H s) (sm:aM G H):∀ {d:D} {v:V} {u:Value},aN ⟨Y.K,κ⟩ G v d->eL d=true->bG v u->∃ as,Reads s.heap u (oh d) as
 | .non,v,u,h,_,r=>by unfold aN at h;subst h;cases r;exact ⟨_,.none⟩
 | .bl b,v,u,h,_,r=>by unfold aN at h;subst h;cases r;exact ⟨_,.bool b⟩
 | .int i,v,u,h,_,r=>by unfold aN at h;subst h;obtain ⟨t,rfl⟩:=r;exact ⟨_,.int i t⟩
 | .str x,v,u,h,_,r=>by unfold aN at h;subst h;obtain ⟨t,rfl⟩:=r;exact ⟨_,.str _ t⟩
 | .tup ds,v,u,h,p,r=>by
  unfold aN at h
  obtain ⟨a,vs,rfl,h1,h2⟩:=h
  cases r
  obtain ⟨its,rv,⟨o,e,hc,n,hd⟩,_⟩:=I.tuple (bE sm h1)
  obtain ⟨as,q⟩:=reads_ofs I sm h2 (by unfold eL at p;exact p) rv
  exact ⟨as,reads_tuple_at e hc hd (by simpa using q)⟩
 | .lst ds,v,u,h,p,r=>by
  unfold aN at h
  obtain ⟨a,vs,rfl,h1,h2⟩:=h
  cases r
  obtain ⟨its,rv,⟨o,n,e,hc,_,hd⟩,_⟩:=I.list (sm.seq h1)
  obtain ⟨as,q⟩:=reads_ofs I sm h2 (by unfold eL at p;exact p) rv
  exact ⟨a :: as,reads_list_at e hc hd (by simpa using q)⟩
 | .ob _ _ _,_,_,_,p,_=>by unfold eL at p;cases p
 | .dic _ _,_,_,_,p,_=>by unfold eL at p;cases p
theorem reads_ofs (I:Inv Y pins σ H s) (sm:aM G H):∀ {ds:List D} {vs:List V} {us:List Value},Dens ⟨Y.K,κ⟩ G vs ds->plainDs ds=true->ba vs us->∃ as,ReadsAll s.heap us (toPs ds) as
 | [],[],us,_,_,r=>by cases r;exact ⟨_,.nil⟩
 | d :: ds,v :: vs,us,h,p,r=>by
  unfold Dens at h
  unfold plainDs at p
  have p:=Bool.and_eq_true_iff.mp p
  cases r with
  | cons r1 r2 =>
   obtain ⟨as,q1⟩:=xw I sm h.1 p.1 r1
   obtain ⟨bs,q2⟩:=reads_ofs I sm h.2 p.2 r2
   exact ⟨_,.cons q1 q2⟩
 | [],_ :: _,_,h,_,_=>by unfold Dens at h;exact h.elim
 | _ :: _,[],_,h,_,_=>by unfold Dens at h;exact h.elim
end
theorem cT (I:Inv Y pins σ H s) (sm:aM G H) {d:D} {v:V} {u:Value} (h:gN Y κ G H v d) (p:eL d=true) (r:bG v u):∃ as,Reads s.heap u (oh d) as:=by
 rcases h with h | ⟨a,vs,ds,rfl,rfl,h3,h4⟩
 ·exact xw I sm h p r
 ·cases r
  obtain ⟨its,rv,⟨o,n,e,hc,_,hd⟩,_⟩:=I.list (bz.of h3)
  obtain ⟨as,q⟩:=reads_ofs I sm h4 (by unfold eL at p;exact p) rv
  exact ⟨a :: as,reads_list_at e hc hd (by simpa using q)⟩
end
noncomputable def nG (d:D):Bool:=eL d && SeqAt.shaped (oh d)
noncomputable def wB (x y:D):Bool:=(oh x).eqv (oh y)
noncomputable def kg (x y:D):R Bool:=if nG x && nG y then .ok (wB x y) else .stuck
noncomputable def zG (x y:D):R Bool:=if nG x && nG y then .ok (!wB x y) else .stuck
noncomputable def FM (X:Cx) (κ:Nat->Addr) (neg:Bool):R2:=λ v u H Q=>∃ G x y,aM G H/\gN X κ G H v x/\gN X κ G H u y/\nG x=true/\nG y=true/\Q (.bl (neg ^^ wB x y)) H
section
variable {κ:Nat->Addr} {B:Gd} {X:Cx} {a b c:Expr} {fa fb:Ev->R D} {pos p p':Pos}
theorem iV {X Y:Cx} {κ:Nat->Addr} (e:Y.K=X.K) {G H:Hp} {v:V} {d:D} (h:gN X κ G H v d):gN Y κ G H v d:=by
 unfold gN at h ⊢
 rw [e];exact h
theorem CN (hu:X.A.units + 64 < cLine):∀ Y:Cx,Y.K=X.K->Y.A=X.A->my Y (compareOp .Eq) (FM X κ false):=by
 intro Y eK eA pins s σ H v u v' u' Q I r1 r2 ⟨G,x,y,sm,d1,d2,o1,o2,q⟩
 have o1:=Bool.and_eq_true_iff.mp o1
 have o2:=Bool.and_eq_true_iff.mp o2
 obtain ⟨as,q1⟩:=cT I sm (iV eK d1) o1.1 r1
 obtain ⟨bs,q2⟩:=cT I sm (iV eK d2) o2.1 r2
 exact eq_dataH q1 q2 o1.2 o2.2 (by rw [eA];exact hu) ⟨.bl _,H,I,rfl,by simpa [wB] using q⟩
theorem Hx (hu:X.A.units + 64 < cLine):∀ Y:Cx,Y.K=X.K->Y.A=X.A->my Y (compareOp .NotEq) (FM X κ true):=by
 intro Y eK eA pins s σ H v u v' u' Q I r1 r2 ⟨G,x,y,sm,d1,d2,o1,o2,q⟩
 have o1:=Bool.and_eq_true_iff.mp o1
 have o2:=Bool.and_eq_true_iff.mp o2
 obtain ⟨as,q1⟩:=cT I sm (iV eK d1) o1.1 r1
 obtain ⟨bs,q2⟩:=cT I sm (iV eK d2) o2.1 r2
 exact ne_dataH q1 q2 o1.2 o2.2 (by rw [eA];exact hu) ⟨.bl _,H,I,rfl,by simpa [wB] using q⟩
theorem zK:oB κ X (FM X κ false) (kI kg):=by
 intro x y v u G H Q E s d1 d2 q
 unfold kI kg at q
 split at q
 ·rename_i h
  have h:=Bool.and_eq_true_iff.mp h
  exact ⟨G,x,y,s,d1,d2,h.1,h.2,by simpa using q _ H G (Ext.refl s) Ep⟩
 ·exact False.elim q
theorem EZ:oB κ X (FM X κ true) (kI zG):=by
 intro x y v u G H Q E s d1 d2 q
 unfold kI zG at q
 split at q
 ·rename_i h
  have h:=Bool.and_eq_true_iff.mp h
  exact ⟨G,x,y,s,d1,d2,h.1,h.2,by simpa using q _ H G (Ext.refl s) Ep⟩
 ·exact False.elim q
theorem JV (hu:X.A.units + 64 < cLine) (ha:dN κ B X a fa) (hb:dN κ B X b fb) (hm:behindInMarks .Eq b=false):PX κ B X (.Compare a [.Eq] [b] pos) (m2 (kI kg) fa fb):=yO (CN hu) zK ha hb hm
theorem Is (hu:X.A.units + 64 < cLine) (ha:dN κ B X a fa) (hb:dN κ B X b fb) (hm:behindInMarks .Eq b=false):mO κ B X (.Compare a [.Eq] [b] pos) (bY kg fa fb):=fR (CN hu) zK ha hb hm
theorem Iz (hu:X.A.units + 64 < cLine) (ha:dN κ B X a fa) (hb:dN κ B X b fb) (hm:behindInMarks .NotEq b=false):mO κ B X (.Compare a [.NotEq] [b] pos) (bY zG fa fb):=fR (Hx hu) EZ ha hb hm
@[simp] theorem db (i j:Int):kg (.int i) (.int j)=.ok (i == j):=rfl
@[simp] theorem zH (i j:Int):zG (.int i) (.int j)=.ok (!(i == j)):=rfl
@[simp] theorem La (i j:Bool):kg (.bl i) (.bl j)=.ok (i == j):=rfl
@[simp] theorem Lc (i j:Bool):zG (.bl i) (.bl j)=.ok (!(i == j)):=rfl
noncomputable def cj:D->R D
 | .lst ds=>.ok (.int ds.length)
 | .tup ds=>.ok (.int ds.length)
 | .str x=>if x.length <= 1000000 then .ok (.int x.length) else .stuck
 | _=>.stuck
theorem BQ {Y:Cx} {f:Value} {r r':List V->Hp->VK->Prop} (h:jM Y f r) (h':jM Y f r'):jM Y f (λ xs H Q=>r xs H Q \/ r' xs H Q):=by
 intro pins s σ H xs us Q I rx q
 rcases q with q | q
 ·exact h pins s σ H xs us Q I rx q
 ·exact h' pins s σ H xs us Q I rx q
theorem Ii (hg:Gl X "len") (hm:X.mg "len" = none) (ha:dN κ B X a fa) (hs:starEach [a] X.env=(false,eval a X.env) :: starEach [] X.env) (hpl:(backTo pos (starEach [] X.env)).any (·.1)=false):PX κ B X (.Call (.Name "len" p) [a] [] pos) (m1 cj fa):=λ pins σ Ex =>
 be (ma (X:=At X pins σ Ex) (BQ uy uz) hg hm PySem.boot_len (bw (X:=At X pins σ Ex) (ha pins σ Ex) cA hs) (by decide) (by decide) hs hpl) λ τ H Q hz=>eQ hz λ G δ rp q=>⟨G,δ,rp,q.seq λ x v H1 G1 e1 d1 q1=>by
  have lst:∀ {q:Addr} {vs:List V} {ds:List D},(bz X.K H1 q vs \/ mS X.K H1 q vs)->Dens ⟨X.K,κ⟩ G1 vs ds->sO (nN X κ) κ (EX X pins σ Ex) G1 H1 (.ok (.int ds.length)) Q →
   (∃ p ys,[V.ref q]=[.ref p]/\(bz X.K H1 p ys \/ mS X.K H1 p ys)/\Q (.int ys.length) H1):=λ {q vs ds} h1 h2 h3=>⟨q,vs,rfl,h1,by
    rw [h2.length];exact h3 _ H1 G1 (Ext.refl e1.GH) nM⟩
  cases x with
  | lst ds =>
   rcases d1 with d1 | ⟨l,vs,es,rfl,e,h3,h4⟩
   ·unfold aN at d1
    obtain ⟨l,vs,rfl,h1,h2⟩:=d1
    exact .inl (lst (.inl (e1.GH.seq h1)) h2 q1)
   ·cases e
    exact .inl (lst (.inl (bz.of h3)) h4 q1)
  | tup ds =>
   rcases d1 with d1 | ⟨l,vs,es,rfl,e,h3,h4⟩
   ·unfold aN at d1
    obtain ⟨l,vs,rfl,h1,h2⟩:=d1
    exact .inl (lst (.inr (bE e1.GH h1)) h2 q1)
   ·cases e
  | str x =>
   simp only [cj] at q1
   split at q1
   ·rename_i hx
    have ev:=Bg d1
    subst ev
    refine .inr ⟨_,rfl,xW (by simpa [Str.length] using hx),?_⟩
    have:=q1 _ H1 G1 (Ext.refl e1.GH) nM
    simpa [Str.length] using this
   ·exact False.elim q1
  | _=>exact False.elim q1⟩
inductive Ty where
 | int | bool | str | tuple | list
noncomputable def Ty.nm:Ty->String
 | .int => "int" | .bool => "bool" | .str => "str" | .tuple => "tuple" | .list => "list"
noncomputable def m9:D->Ty->R Bool
 | .non,_=>.ok false
 | .bl _,.int=>.ok true
 | .bl _,.bool=>.ok true
 | .bl _,_=>.ok false
 | .int _,.int=>.ok true
 | .int _,_=>.ok false
 | .str _,.str=>.ok true
 | .str _,_=>.ok false
 | .tup _,.tuple=>.ok true
 | .tup _,_=>.ok false
 | .lst _,.list=>.ok true
 | .lst _,_=>.ok false
 | .ob _ _ _,_=>.stuck
 | .dic _ _,_=>.stuck
theorem EM {K:PySem.W.Frag} (T:Ty):PySem.W.kitOne K (.type "NoneType") (.type T.nm)=some false/\PySem.W.kitOne K (.type "bool") (.type T.nm)=some (match T with | .int=>true | .bool=>true | _=>false) ∧
  PySem.W.kitOne K (.type "int") (.type T.nm)=some (match T with | .int=>true | _=>false)/\PySem.W.kitOne K (.type "str") (.type T.nm)=some (match T with | .str=>true | _=>false) ∧
  PySem.W.kitOne K (.type "tuple") (.type T.nm)=some (match T with | .tuple=>true | _=>false)/\PySem.W.kitOne K (.type "list") (.type T.nm)=some (match T with | .list=>true | _=>false):=by
 cases T <;> exact ⟨rfl,rfl,rfl,rfl,rfl,rfl⟩
theorem uw (T:Ty):bootBuiltins (Str.ofString T.nm)=some (.type T.nm):=by
 cases T <;> decide +kernel
noncomputable def LN (X:Cx) (κ:Nat->Addr) (T:Ty):List V->Hp->VK->Prop:=λ xs H Q=>∃ G v x k,xs=[v,.ty T.nm]/\aM G H/\gN X κ G H v x/\m9 x T=.ok k/\Q (.bl k) H
theorem BP (T:Ty):∀ Y:Cx,Y.K=X.K->jM Y (.builtin "isinstance") (LN X κ T):=by
 rintro Y eK pins s σ H xs us Q I rx ⟨G,v,x,k,e,sm,d,hk,q⟩
 subst e
 obtain ⟨k1,k2,k3,k4,k5,k6⟩:=EM (K:=Y.K) T
 have d:=iV eK d
 cases rx with | cons r1 rx=>cases rx with | cons r2 rx=>cases rx with | nil =>
  rename_i u t
  cases r2
  have fin:∀ (b:Bool),R.ok b=R.ok k->∀ tk,EP Y pins σ Q (.bool b) { s with toks:=tk }:=λ b e tk=>by
   injection e with e
   subst e
   exact ⟨.bl b,H,I.tok tk,rfl,q⟩
  have lst:∀ {l:Addr} {vs:List V},v=.ref l->bz Y.K H l vs->m9 (.lst []) T=.ok k->wpAny (model Y.prog Y.w) Y.A (call (.builtin "isinstance") [u,.type T.nm]) (EP Y pins σ Q) Y.xe s:=λ {l vs} e0 h1 e=>by
   subst e0
   cases r1
   obtain ⟨its,_,⟨o,n,e1,hc,_⟩,_⟩:=I.list h1
   exact PySem.W.kia_one (PySem.W.kitx_list (K:=Y.K)) I.kIn ⟨o,e1,hc⟩ k6 (by intro z;cases z) (fin _ (by rw [<- e];cases T <;> rfl))
  rcases d with d | ⟨l,vs,ds,e0,e,h3,h4⟩
  ·cases x with
   | non=>unfold aN at d;subst d;cases r1;exact PySem.W.kia_one (PySem.W.kitx_none (K:=Y.K)) I.kIn trivial k1 (by intro z;cases z) (fin _ (by rw [<- hk];cases T <;> rfl))
   | bl b=>unfold aN at d;subst d;cases r1;exact PySem.W.kia_one (PySem.W.kitx_bool (K:=Y.K)) I.kIn trivial k2 (by intro z;cases z) (fin _ (by rw [<- hk];cases T <;> rfl))
   | int i=>unfold aN at d;subst d;obtain ⟨tk,rfl⟩:=r1;exact PySem.W.kia_one (PySem.W.kitx_int (K:=Y.K)) I.kIn trivial k3 (by intro z;cases z) (fin _ (by rw [<- hk];cases T <;> rfl))
   | str i=>unfold aN at d;subst d;obtain ⟨tk,rfl⟩:=r1;exact PySem.W.kia_one (PySem.W.kitx_str (K:=Y.K)) I.kIn trivial k4 (by intro z;cases z) (fin _ (by rw [<- hk];cases T <;> rfl))
   | tup ds =>
    unfold aN at d
    obtain ⟨l,vs,rfl,h1,_⟩:=d
    cases r1
    obtain ⟨its,_,⟨o,e1,hc,_⟩,_⟩:=I.tuple (bE sm h1)
    exact PySem.W.kia_one (PySem.W.kitx_tuple (K:=Y.K)) I.kIn ⟨o,e1,hc⟩ k5 (by intro z;cases z) (fin _ (by rw [<- hk];cases T <;> rfl))
   | lst ds =>
    unfold aN at d
    obtain ⟨l,vs,e0,h1,_⟩:=d
    exact lst e0 (sm.seq h1) (by rw [<- hk];cases T <;> rfl)
   | ob _ _ _=>cases hk
   | dic _ _=>cases hk
  ·subst e
   exact lst e0 (bz.of h3) (by rw [<- hk];cases T <;> rfl)
theorem A0 (T:Ty) {y:Str} (hy:y=Str.ofString T.nm) (hg:Gl X "isinstance") (hm:X.mg "isinstance" = none) (hgT:Gl X y) (hmT:X.mg y=none) (hn:y ≠ "__name__") (hdb:(y == ("__debug__" : Str))=false) (ha:dN κ B X a fa)
  (hs:starEach [a,.Name y p'] X.env=(false,eval a X.env) :: starEach [.Name y p'] X.env) (hs2:starEach [.Name y p'] X.env=(false,eval (.Name y p') X.env) :: starEach [] X.env) (hpl:(backTo pos (starEach [.Name y p'] X.env)).any (·.1)=false) :
  PX κ B X (.Call (.Name "isinstance" p) [a,.Name y p'] [] pos) (m1 (λ x=>D9 (m9 x T)) fa):=λ pins σ Ex =>
 be (ma (X:=At X pins σ Ex) (BP (κ:=κ) (X:=X) T (At X pins σ Ex) rfl) hg hm PyProof.Rows.boot_isinstance (bw (X:=At X pins σ Ex) (ha pins σ Ex) (bw (X:=At X pins σ Ex) (E5 (X:=At X pins σ Ex) (v:=.ty T.nm) hgT hmT (by rw [hy];exact uw T) rfl hn hdb) cA hs2) hs) (by decide) (by decide) hs hpl) λ τ H Q hz=>eQ hz λ G δ rp q=>⟨G,δ,rp,q.seq λ x v H1 G1 e1 d1 q1=>by
  cases e:m9 x T with
  | ok k=>rw [e] at q1;exact ⟨G1,v,x,k,rfl,e1.GH,d1,e,q1 _ H1 G1 (Ext.refl e1.GH) Ep⟩
  | exc c=>cases x <;> cases T <;> cases e
  | stuck=>rw [e] at q1;exact False.elim q1⟩
end
end L3
namespace L2
theorem Fun.at {K:PySem.W.Frag} {x qual:PySem.Str} {st:PySem.Stmt} {f:PySem.Addr} {fd:PySem.FuncData} (F:Fun K x qual st f fd):∃ oc od osl,K.lookup f=some ⟨oc,od,.func fd,osl⟩:=by
 obtain ⟨oc,od,_,_,_,_,_,_,osl,_,l,_⟩:=F.ex
 exact ⟨oc,od,osl,l⟩
end L2
namespace L3
open PySem PySem.Spec PyProof.Rows L2
noncomputable def MC (P:Program) (w:World) (K:PySem.W.Frag) (mg:Str->Option Value) (base:Heap) (κ:Nat->Addr) (x:Str) (ps:List Str) (m:List D->R D) (k:Nat):Prop:=
 ∃ f fd,FnOk P w K mg base (pU P w) k f fd ps (GG K κ ps.length m)/\mg x=some (.ref f)/\PySem.W.keepIn K (.ref f)=true/\iZ K fd ps []/\∃ oc od osl,K.lookup f=some ⟨oc,od,.func fd,osl⟩
theorem MC.cal {κ:Nat->Addr} {X:Cx} {x:Str} {ps:List Str} {n:Nat} {m:List D->R D} {k j:Nat} (h:MC X.prog X.w X.K X.mg X.base κ x ps m k) (hr:Room j X.A) (hj:k <= j) (hn:ps.length=n:=by rfl):Cal κ X x n m:=by
 obtain ⟨f,fd,F,h1,h2,h3,_⟩:=h
 subst hn
 exact ⟨f,fd,ps,k,F,hr.mono hj,h1,h2,h3⟩
theorem bh:∀ (δ:Ev) (ds:List D),au δ=.ok ds->ds.length=0:=λ δ ds h=>by
 unfold au at h;injection h with h;subst h;rfl
theorem ar {f:Ev->R D} {fs:Ev->R (List D)} {n:Nat} (h:∀ δ ds,fs δ=.ok ds->ds.length=n):∀ (δ:Ev) (ds:List D),af f fs δ=.ok ds->ds.length=n + 1:=λ δ ds e=>by
 unfold af at e
 cases q:f δ with
 | ok x =>
  rw [q] at e
  cases q2:fs δ with
  | ok xs =>
   rw [q2] at e
   injection e with e
   subst e
   simp [h δ xs q2]
  | exc c=>rw [q2] at e;cases e
  | stuck=>rw [q2] at e;cases e
 | exc c=>rw [q] at e;cases e
 | stuck=>rw [q] at e;cases e
theorem Hs {P:Program} {w:World} {K:PySem.W.Frag} {mg:Str->Option Value} {base:Heap} {κ:Nat->Addr} {y:Str} {m:List D->R D} {k:Nat} {f:Addr} {fd:FuncData} {oc:Value} {od:Option Addr} {osl:Array (Option Value)}
  (hm:mg "law" = some (.ref f)) (l:K.lookup f=some ⟨oc,od,.func fd,osl⟩) (o:MC P w K mg base κ "law" [y] m k) (main:∀ ns:List Int,ns.length <= 63->m [.lst (ns.map D.int)]=.ok (.bl true)) :
  FnOk P w K mg base (pU P w) k f fd [y] (λ vs H Q _=>∃ (a:Addr) (ns:List Int),vs=[.ref a]/\bz K H a (ns.map V.int)/\ns.length <= 63/\∀ H',Q (.bl true) H'):=by
 obtain ⟨f',fd',F,h1,_,_,oc',od',osl',l'⟩:=o
 rw [hm] at h1;cases h1
 rw [l] at l';cases l'
 refine F.imp λ vs H Q E ⟨a,ns,e,hS,hl,hq⟩=>?_
 subst e
 refine ⟨rfl,H,[.lst (ns.map D.int)],aM.refl _,aP (by unfold aN;exact ⟨a,_,rfl,hS,sZ ns⟩) bg,?_⟩
 rw [main ns hl]
 intro v H' G' _ d
 have:v=.bl true:=by simpa [aN] using d
 subst this
 exact hq H'
end L3
namespace L3
open PySem PySem.Spec PyProof.Rows L2
noncomputable def aA:Expr->Bool
 | .Starred _ _=>false
 | _=>true
theorem aB {e:Expr} {es:List Expr} {env:Env} (h:aA e=true):starEach (e :: es) env=(false,eval e env) :: starEach es env:=by
 cases e <;> first | rfl | exact Bool.noConfusion h
theorem eD {pos:Pos} {env:Env}:∀ {es:List Expr},es.all aA=true->(backTo pos (starEach es env)).any (·.1)=false
 | [],_=>rfl
 | e :: es,h=>by
  simp only [List.all_cons,Bool.and_eq_true] at h
  rw [aB h.1]
  show (false || (backTo pos (starEach es env)).any (·.1))=false
  rw [eD h.2];rfl
theorem qE {pos:Pos} {env:Env} {e:Expr} (h:aA e=true):((backTo pos (starEach [e] env)).all (λ x=>!x.1) && (backToKw pos (keywordEach [] env)).all (λ x=>x.1.isSome)
   && decide (([e]:List Expr).length + ([]:List Keyword).length + (if ([]:List Keyword).isEmpty then 0 else 1) < 30))=true:=by
 rw [aB h];rfl
noncomputable def fK:Expr->Bool
 | .ListComp _ _ _ _=>false
 | .SetComp _ _ _ _=>false
 | .DictComp _ _ _ _ _=>false
 | _=>true
theorem aZ {e:Expr} {t:Option Expr} {n:Nat} {env:Env} (h:fK e=true):swapsWith e t n env=pure false:=by
 cases e <;> first | rfl | exact Bool.noConfusion h
theorem Aj {t:Expr} {ts:List Expr} {env:Env} (h:aA t=true):(assignEach (t :: ts) env).map (·.2)=assign t env :: (assignEach ts env).map (·.2):=by
 cases t <;> first | rfl | exact Bool.noConfusion h
theorem qT {env:Env}:∀ {ts:List Expr},ts.all aA=true->(assignEach ts env).length=ts.length/\(assignEach ts env).findIdx? (·.1)=none
 | [],_=>⟨rfl,rfl⟩
 | t :: ts,h=>by
  simp only [List.all_cons,Bool.and_eq_true] at h
  obtain ⟨h1,h2⟩:=qT (env:=env) h.2
  have e:assignEach (t :: ts) env=(false,assign t env) :: assignEach ts env:=by
   have:=h.1
   cases t <;> first | rfl | exact Bool.noConfusion this
  rw [e]
  refine ⟨by simp [h1],?_⟩
  rw [List.findIdx?_cons]
  simp [h2]
noncomputable def Lh:Expr->Bool
 | .Name _ _ | .Call _ _ _ _ | .Subscript _ _ _ | .Attribute _ _ _ | .BinOp _ _ _ _ | .Tuple _ _ _ | .List _ _=>true
 | _=>false
theorem F7 {a:Expr} {env:Env} (h:Lh a=true):∀ whole,isTrue a env whole=(do let v ← whole;standAt a.pos;holding [v] (truthy v)):=by
 intro w
 cases a <;> first | rfl | exact Bool.noConfusion h
noncomputable def vW:Expr->Bool
 | .Name _ _ | .Call _ _ _ _ | .Subscript _ _ _ | .Attribute _ _ _ | .BinOp _ _ _ _ | .List _ _ | .Constant _ _ _ | .IfExp _ _ _ _ | .UnaryOp _ _ _ | .Compare _ _ _ _ | .BoolOp _ _ _=>true
 | _=>false
theorem kD {a:Expr} {env:Env} (h:vW a=true):∀ x,foldedSetIterable a env x=pure x:=by
 intro x
 cases a <;> first | rfl | exact Bool.noConfusion h
theorem Gs {b:Expr} (h:vW b=true):ug b:=by
 intro o i
 cases b <;> first | rfl | exact Bool.noConfusion h
noncomputable def LM:Expr->Bool
 | .Set _ _ _=>false
 | _=>true
theorem ax {o:CmpOp} {b:Expr} (h:LM b=true):behindInMarks o b=false:=by
 cases b <;> first | rfl | exact Bool.noConfusion h
section
variable {κ:Nat->Addr} {B:Gd} {X:Cx} {a b e k tg:Expr} {es tgs:List Expr} {f fa fb fk:Ev->R D} {fs fl:Ev->R (List D)} {pos pos' pos'' apos p p':Pos} {x:Str} {m:List D->R D} {n i:Nat}
theorem Gh (ha:PX κ B X a fa) (hr:r9 κ B X es fs) (h:aA a=true):r9 κ B X (a :: es) (af fa fs):=xm ha hr (aB h)
theorem Jb (c:Cxo X) (C:Cal κ X x n m) (hn:(a :: es).length=n) (hg:Gl X x) (ha:r9 κ B X (a :: es) fs) (hdb:(x == ("__debug__" : Str))=false) (h:(a :: es).all aA=true) (hlen:∀ δ ds,fs δ=.ok ds->ds.length=n) :
  PX κ B X (.Call (.Name x p) (a :: es) [] pos) (aQ m fs):=by
 have h':=h
 simp only [List.all_cons,Bool.and_eq_true] at h'
 exact Fq c C hn hg ha hdb (aB h'.1) (eD h'.2) hlen
theorem Kn (cx:Cxo X) (hN:X.N.Nodup) (hi:X.N[i]?=some x) (hx:mM X.env.scope x) (hf:X.fn x=true \/ X.env.scope.names.lookup x=some .local) (h:PX κ B X e f) (hs:fK e=true):PZ κ B X (.Assign [.Name x pos'] e pos) (bo i f):=IG cx hN hi hx hf h (aZ hs)
theorem Km (cx:Cxo X) (hN:X.N.Nodup) (hi:X.N[i]?=some x) (hx:mM X.env.scope x) (hf:X.fn x=true \/ X.env.scope.names.lookup x=some .local) (h:xQ κ B X e fl) (hs:fK e=true):PZ κ B X (.Assign [.Name x pos'] e pos) (dM i fl):=ID cx hN hi hx hf h (aZ hs)
theorem DZ (cx:Cxo X) (hN:X.N[i]?=some x) (hv:kT X.env.scope x) (hd:(x == ("__debug__" : Str))=false) (hcd:(x == ("__classdict__" : Str))=false) (h:PX κ B X e f) (hs:aA e=true) (hline:(apos.endLine == pos'.line)=true) :
  PZ κ B X (.Expr (.Call (.Attribute (.Name x pos) "append" apos) [e] [] pos') pos'') (cF i f):=A1 cx hN hv hd hcd h (aZ rfl) rfl (qE hs) hline (aB hs) rfl
theorem Kq {kk:Nat} {bs:List D->Ev->Option Ev} (hc:X.calm=true) (h:v3 κ B X tgs bs) (hn:tgs.length=n) (hst:tgs.all aA=true):xP κ B X (.Tuple tgs kk pos) (kU n bs):=E9 hc h ((qT hst).1.trans hn) (qT hst).2
theorem Jc {bd:D->Ev->Option Ev} {bs:List D->Ev->Option Ev} (h1:xP κ B X tg bd) (h2:v3 κ B X tgs bs) (h:aA tg=true):v3 κ B X (tg :: tgs) (bp bd bs):=AS h1 h2 (Aj h)
theorem Jf (ha:dN κ B X a fa) (h:Lh a=true):mO κ B X a (mT fa):=Fy ha (F7 h)
theorem Ly (ha:dN κ B X a fa) (hb:dN κ B X b fb) (h:vW b=true):PX κ B X (.Subscript a b pos) (m2 bP fa fb):=JY ha hb (Gs h)
theorem Kk (hg:Gl X "len") (hm:X.mg "len" = none) (ha:dN κ B X a fa) (h:aA a=true):PX κ B X (.Call (.Name "len" p) [a] [] pos) (m1 cj fa):=Ii hg hm ha (aB h) rfl
theorem D0 (T:Ty) {y:Str} (hy:y=Str.ofString T.nm) (hg:Gl X "isinstance") (hm:X.mg "isinstance" = none) (hgT:Gl X y) (hmT:X.mg y=none) (hn:y ≠ "__name__") (hdb:(y == ("__debug__" : Str))=false) (ha:dN κ B X a fa) (h:aA a=true) :
  PX κ B X (.Call (.Name "isinstance" p) [a,.Name y p'] [] pos) (m1 (λ x=>D9 (m9 x T)) fa):=A0 T hy hg hm hgT hmT hn hdb ha (aB h) rfl rfl
theorem Bu (hg:Gl X "range") (hm:X.mg "range" = none) (ha:r9 κ B X [a] fs) (h:aA a=true):Gm κ B X tg (.Call (.Name "range" p) [a] [] pos) (λ δ=>(fs δ).bind lW):=yL hg hm ha (aB h)
theorem Kj (cx:Cxo X) (hc:X.calm=true) {iter:Expr} {body:List Stmt} {fit:Ev->R (List D)} {bd:D->Ev->Option Ev} {F:Ev->SR} (hi:Gm κ B X tg iter fit) (hg:∀ B,xP κ B X tg bd) (hb:∀ B,sP κ B X body F) (h:vW iter=true):PZ κ B X (.For tg iter body [] pos) (cG fit bd F):=IC cx hc hi hg hb (kD h)
end
end L3
namespace L3
open PySem PySem.Spec PyProof.Rows L2
noncomputable abbrev LK:List Value:=[.type "ValueError",.type "Exception",.type "BaseException",.type "object"]
noncomputable def Ed (κ:Nat->Addr) (K:PySem.W.Frag) (mg:Str->Option Value) (x:Str) (c:Nat):Prop:=mg x=some (.ref (κ c))/\PySem.W.excIn K (κ c) LK "ValueError.__new__" = true
noncomputable def vY (κ:Nat->Addr) (X:Cx) (x:Str) (c:Nat):Prop:=Ed κ X.K X.mg x c
theorem Ed.at {κ:Nat->Addr} {K:PySem.W.Frag} {mg:Str->Option Value} {X:Cx} {x:Str} {c:Nat} (h:Ed κ K mg x c) (e1:X.K=K) (e2:X.mg=mg):vY κ X x c:=by
 unfold vY;rw [e1,e2];exact h
theorem EC {K:PySem.W.Frag} {h:Heap} {C:Addr} {bmB:List Value} {newId:String} (X:K.In h) (q:PySem.W.excIn K C bmB newId=true) :
  ∃ bm N nm qn bs hdct sn sub ab col dd k0 k1 k2 k3 k5 mN,h.get? C=some (excClassObj nm qn C N bs bm hdct sn sub ab col dd k0 k1 k2 k3 k5 newId)/\h.Ns N mN/\mN "__init__" = none/\OwnTail h bmB bm:=by
 unfold PySem.W.excIn at q
 split at q
 case h_2=>cases q
 rename_i dct cld slt look
 split at q
 case h_2=>cases q
 rename_i self bm z0 z1 z2 z3 nw z5 hmro hslots
 simp only [Bool.and_eq_true,beq_iff_eq,Bool.not_eq_true'] at q
 obtain ⟨⟨⟨⟨⟨es,en⟩,hdl⟩,htl⟩,hns⟩,hin⟩:=q
 subst es
 subst en
 obtain ⟨f1,f2,f3,f4,f5,f6,f7,f8,f9,f10,f11⟩:=cld
 dsimp only at hmro hdl hns hin
 subst hmro
 subst hdl
 have hsl:slt = #[z0,z1,z2,z3,some (.builtin nw),z5]:=by
  cases slt with
  | mk l=>simp only at hslots;rw [hslots]
 subst hsl
 exact ⟨bm,f4,f1,f5,f2,f6,f7,f8,f9,f10,dct,z0,z1,z2,z3,z5,_,X _ _ look,.of_isNs (PySem.W.isNs_of_in X hns),PySem.W.nsMap_none_of_in X hns hin,PySem.W.tail_of_in X htl⟩
section
variable {κ:Nat->Addr} {B:Gd} {X:Cx} {pos:Pos} {x:Str}
theorem Do {cpos np p:Pos} {c:Nat} (cx:Cxo X) (hc:X.calm=true) (C:vY κ X x c) (hg:Gl X x) {y:Str} {j:Nat} (hd:(x == ("__debug__" : Str))=false):PZ κ B X (.Raise (some (.Call (.Name x np) [.Constant (.str y) j p] [] cpos)) none pos) (λ δ=>.exc c δ):=λ Ex pins s σ H G δ Dn hp I rp h=>by
 obtain ⟨hm,hin⟩:=C
 obtain ⟨bm,N,nm,qn,bs,hdct,sn,sub,ab,col,dd,k0,k1,k2,k3,k5,mN,hC,hN,hni,T⟩:=EC I.kIn hin
 refine wpAny_Raise_call_subT (C:=κ c) (nm:=nm) (q:=qn) (N:=N) (bs:=bs) (bm:=bm) (hdct:=hdct) (sn:=sn) (sub:=sub) (ab:=ab) (col:=col) (dd:=dd) (k0:=k0) (k1:=k1) (k2:=k2) (k3:=k3) (k5:=k5)
  PySem.F.excBase_ValueError (mN:=mN) (T.hasType PySem.F.excBase_ValueError.hasBase) (I.ok.hd hc) rfl hni (zw (X:=X.wish Ex) I hg hm ⟨rfl,?_⟩ hd)
 rw [aB (e:=.Constant (.str y) j p) (es:=[]) rfl]
 refine Calls.evalArgs_plain ?_
 show wpAny _ _ (spliced ((false,eval (.Constant (.str y) j p) X.env) :: backTo cpos (starEach [] X.env))) _ _ s
 refine Calls.spliced_cons (Calls.Constant_str (pos:=p) (k:=j) ?_)
 refine Calls.spliced_nil ?_
 have I1:Inv (X.wish Ex) pins σ H { s with toks:=s.toks + 1 }:=I.tok _
 refine ⟨rfl,by rw [sizeLine_eq];show 1 <= 16777216;decide,hC,hN,T,λ h' e hmade=>?_⟩
 obtain ⟨t,he,htn,ht⟩:=hmade.there
 have ne:H e=none:=by
  cases q:H e with
  | none=>rfl
  | some o =>
   obtain ⟨u,hu⟩:=rn (I.hok e o q)
   have:=hmade.new
   rw [hu] at this;cases this
 have fr:FreshX (X.wish Ex) pins H e:=oP I1 cx.ex hmade.new ne
 refine h e { s with heap:=h',toks:=s.toks + 1 } σ H G (I.kept (t':=s.toks + 1) λ b u z=>hmade.keeps b u z) ⟨⟨_,_,_,he,rfl,rfl,rfl,.inl rfl⟩,⟨fr.nl,fr.nc,fr.np,fr.n0,fr.nh⟩⟩ rp
end
section
variable {κ:Nat->Addr} {B:Gd} {X:Cx} {pos:Pos} {Ex:Value->Shared->Prop} {pins:List (Addr × Obj)} {s:Shared} {σ:St} {H G:Hp} {δ:Ev} {Dn:Ends} {ea:Addr} {C:Value}
end
end L3
namespace L3
open PySem PySem.Spec PyProof.Rows L2
section
variable {κ:Nat->Addr} {B:Gd} {X:Cx} {a b c:Expr} {fa fb:Ev->R D} {fs:Ev->R (List D)} {es:List Expr} {pos p:Pos}
noncomputable def yp (o:List D->R D) (fs:Ev->R (List D)):Ev->R D:=λ δ=>(fs δ).bind o
noncomputable def nW:List D->R D
 | [.int i,.int j]=>.ok (.int (if j < i then j else i))
 | _=>.stuck
theorem sV:bootBuiltins "min" = some (.builtin "min"):=by decide +kernel
theorem Kl (hc:X.calm=true) (hg:Gl X "min") (hm:X.mg "min" = none) (ha:r9 κ B X [a,b] fs) (h:aA a=true) (h':aA b=true):PX κ B X (.Call (.Name "min" p) [a,b] [] pos) (yp nW fs):=λ pins σ Ex =>
 be (ma (X:=At X pins σ Ex) (Ab hc) hg hm sV (ha pins σ Ex) (by decide) (by decide) (aB h) (eD (by simp [h']))) λ τ H Q hz=>eQ hz λ G δ rp q=>⟨G,δ,rp,q.seq λ x v H1 G1 e1 d1 q1=>by
  unfold nW at q1
  split at q1
  ·rename_i i j
   exact ⟨i,j,Ah d1,q1 _ H1 G1 (Ext.refl e1.GH) nM⟩
  ·exact False.elim q1⟩
noncomputable def AJ:List D->R D
 | [.int i]=>.ok (.int i)
 | [.bl k]=>.ok (.int (if k then 1 else 0))
 | _=>.stuck
theorem Gg (hg:Gl X "int") (hm:X.mg "int" = none) (ha:r9 κ B X [a] fs) (h:aA a=true):PX κ B X (.Call (.Name "int" p) [a] [] pos) (yp AJ fs):=λ pins σ Ex =>
 be (tG (X:=At X pins σ Ex) Aa hg hm (uw .int) (ha pins σ Ex) (by decide) (by decide) (aB h) (eD rfl)) λ τ H Q hz=>eQ hz λ G δ rp q=>⟨G,δ,rp,q.seq λ x v H1 G1 e1 d1 q1=>by
  unfold AJ at q1
  split at q1
  ·rename_i i
   exact .inl ⟨i,mh d1,q1 _ H1 G1 (Ext.refl e1.GH) nM⟩
  ·rename_i k
   refine .inr ⟨k,?_,q1 _ H1 G1 (Ext.refl e1.GH) nM⟩
   match v,d1 with
   | [w],d1=>unfold lT Dens at d1;have:=d1.1;unfold aN at this;rw [this]
   | [],d1=>unfold lT Dens at d1;exact d1.elim
   | _ :: _ :: _,d1=>unfold lT Dens at d1;have:=d1.2;unfold Dens at this;exact this.elim
  ·exact False.elim q1⟩
noncomputable def Jr (κ:Nat->Addr) (B:Gd) (X:Cx) (e:Option Expr) (f:Ev->R (Option Int)):Prop:=∀ pins σ Ex,PO (At X pins σ Ex) e (tO (λ _ _ (a:Option Int) b=>a=b) X κ B (EX X pins σ Ex) f)
theorem C7 {Y:Cx} {e:Option Expr} {t t':TO} (h:PO Y e t) (k:∀ σ H Q,t' σ H Q->t σ H Q):PO Y e t':=λ pins s σ H Q I q=>h pins s σ H Q I (k σ H Q q)
noncomputable def sw:Ev->R (Option Int):=λ _=>.ok none
noncomputable def mP (f:Ev->R D):Ev->R (Option Int):=λ δ=>(f δ).bind λ d=>match d with
 | .int i=>.ok (some i)
 | _=>.stuck
theorem Dh:Jr κ B X none sw:=λ pins σ Ex=>C7 Ff λ τ H Q hz=>eQ hz λ G δ rp q=>q none H G (Ext.refl rp.GH) rfl
theorem Di (h:PX κ B X a fa):Jr κ B X (some a) (mP fa):=λ pins σ Ex=>C7 (Fg (h pins σ Ex)) λ τ H Q hz=>eQ hz λ G δ rp q=>⟨G,δ,rp,q.seq λ x v H1 G1 e1 d1 q1=>by
 cases x with
 | int i =>
  unfold nN aN at d1
  exact ⟨i,d1,q1 _ H1 G1 (Ext.refl e1.GH) rfl⟩
 | _=>exact False.elim q1⟩
noncomputable def jS {α:Type} (xs:List α) (lo hi:Option Int):List α:=(xs.drop (HT.sIx xs.length 0 lo)).take (HT.sIx xs.length xs.length hi - HT.sIx xs.length 0 lo)
theorem wx {Z:Zx} {G:Hp} {vs:List V} {ds:List D} (h:Dens Z G vs ds) (lo hi:Option Int):Dens Z G (sf vs lo hi) (jS ds lo hi):=by
 unfold sf jS
 rw [h.length]
 exact (h.drop _).take _
end
end L3
namespace L3
open PySem PySem.Spec PyProof.Rows L2
theorem wf (n d:Nat) (v:Option Int) (hd:d <= n):(match v with | none=>((d:Nat):Int) | some i=>(if (1:Int) > 0 then max 0 (min (if i < 0 then i + (n:Int) else i) (n:Int)) else max (-1) (min (if i < 0 then i + (n:Int) else i) ((n:Int) - 1))))=((HT.sIx n d v:Nat):Int):=by
 cases v with
 | none=>rfl
 | some i =>
  simp only [show (1:Int) > 0 by decide,if_true,HT.sIx]
  by_cases h:i < 0
  ·simp only [h,if_true];omega
  ·simp only [h,if_false];omega
theorem EF (lo hi:Option Int) (n:Nat):Builtin.Str.strSliceIndices lo hi 1 n=sliceRange ((HT.sIx n 0 lo:Nat):Int) ((HT.sIx n n hi:Nat):Int) 1:=by
 rw [<- wf n 0 lo (Nat.zero_le _),<- wf n n hi (Nat.le_refl _)]
 cases lo <;> cases hi <;> rfl
theorem yZ (n d:Nat) (v:Option Int) (hd:d <= n) (hv:∀ i,v=some i->i < 0->i + n <= n):HT.sIx n d v <= n:=by
 cases v with
 | none=>exact hd
 | some i =>
  show (if i < 0 then (i + (n:Int)).toNat else min i.toNat n) <= n
  split <;> omega
theorem F8 (l:List Nat) (lo hi:Option Int):Txt.slice ⟨l.toArray⟩ lo hi=⟨(jS l lo hi).toArray⟩:=by
 have hlen:(⟨l.toArray⟩:Str).length=l.length:=by simp [Str.length]
 unfold Txt.slice jS
 rw [hlen,EF,sliceRange_one]
 have hb:HT.sIx l.length l.length hi <= l.length:=yZ _ _ _ (Nat.le_refl _) λ i _ h=>by omega
 generalize HT.sIx l.length 0 lo=a
 generalize HT.sIx l.length l.length hi=b at hb
 by_cases c:b - a=l.length
 ·rw [if_pos (by simp [c])]
  have e:l.length=0 \/ (a=0/\b=l.length):=by omega
  rcases e with e | ⟨rfl,rfl⟩
  ·have:l=[]:=List.length_eq_zero_iff.mp e
   subst this
   simp
  ·simp
 ·rw [if_neg (by simp [c])]
  rw [pick_run]
noncomputable def Ll:V->Option Int->Option Int->Hp->VK->Prop:=λ x lo hi H Q=>∃ l:List Nat,x=Jk l/\l.length <= 1000000/\Q (Jk (jS l lo hi)) H
noncomputable def tF:Value->Option (Int × Tok)
 | .int i t=>some (i,t)
 | _=>none
theorem BW {α:Type} (l:List α) (lo hi:Option Int):(jS l lo hi).length <= l.length:=by
 unfold jS
 rw [List.length_take,List.length_drop]
 omega
theorem IT {X:Cx}:D8 X Ll:=by
 intro pins s σ H x v vl vu lo hi sl Q I rx hs pl pu ⟨l,e,hz,q⟩
 subst e
 obtain ⟨t,rfl⟩:=rx
 refine ⟨"str",_,slot_str_getitem.lookup,typeIs_str _ _ _,?_⟩
 obtain ⟨o,ho,hc,hd⟩:=hs
 have h1:vl=partValue (tF vl)/\(tF vl).map (·.1)=lo:=by cases pl <;> exact ⟨rfl,rfl⟩
 have h2:vu=partValue (tF vu)/\(tF vu).map (·.1)=hi:=by cases pu <;> exact ⟨rfl,rfl⟩
 refine wpAny_getItem_str_slice (l:=tF vl) (u:=tF vu) (st:=none) ⟨o,ho,hc,by rw [hd,<- h1.1,<- h2.1];rfl⟩ rfl ?_
 have e2:Txt.slice ⟨l.toArray⟩ lo hi=⟨(jS l lo hi).toArray⟩:=F8 l lo hi
 unfold sliceMade slicePicked
 rw [h1.2,h2.2]
 refine post_val_or_str ?_
 have e3:∀ P:Str->Prop,P (Txt.slice ⟨l.toArray⟩ lo hi)->P (if ((Option.map (λ x:Int × Tok=>x.fst) none).getD 1 == 1 && (Builtin.Str.strSliceIndices lo hi ((Option.map (λ x:Int × Tok=>x.fst) none).getD 1) (⟨l.toArray⟩:Str).length).length == (⟨l.toArray⟩:Str).length)=true then ⟨l.toArray⟩ else ⟨((Builtin.Str.strSliceIndices lo hi ((Option.map (λ x:Int × Tok=>x.fst) none).getD 1) (⟨l.toArray⟩:Str).length).filterMap ((⟨l.toArray⟩:Str).cps[·]?)).toArray⟩):=λ P h=>h
 refine e3 (λ z=>z.length <= sizeLine/\∀ t' k,(EP X pins σ Q) (.str z t') { s with toks:=k }) ?_
 rw [e2]
 refine ⟨?_,λ t' k=>⟨Jk (jS l lo hi),H,I.tok _,⟨_,rfl⟩,q⟩⟩
 have:=BW l lo hi
 simp only [Str.length,List.size_toArray]
 have:(1000000:Nat) <= sizeLine:=by decide
 omega
section
variable {κ:Nat->Addr} {B:Gd} {X:Cx} {a b:Expr} {fa fb:Ev->R D} {pos:Pos}
noncomputable def CG (x:D) (lo hi:Option Int):R D:=match x with
 | .tup ds=>if HT.sIx ds.length 0 lo=0/\HT.sIx ds.length ds.length hi=ds.length then .stuck else .ok (.tup (jS ds lo hi))
 | .lst ds=>.ok (.lst (jS ds lo hi))
 | .str l=>if l.length <= 1000000 then .ok (.str (jS l lo hi)) else .stuck
 | _=>.stuck
noncomputable def AD (fa:Ev->R D) (fl fh:Ev->R (Option Int)):Ev->R D:=λ δ=>(fa δ).bind λ x=>(fl δ).bind λ l=>(fh δ).bind λ u=>CG x l u
theorem Lz {lo hi:Option Expr} {fl fh:Ev->R (Option Int)} {p2:Pos} (ha:dN κ B X a fa) (hl:Jr κ B X lo fl) (hh:Jr κ B X hi fh):PX κ B X (.Subscript a (.Slice lo hi none p2) pos) (AD fa fl fh):=λ pins σ Ex =>
 be (CT (X:=At X pins σ Ex) (D8.or IU (D8.or FR IT)) (ha pins σ Ex) (hl pins σ Ex) (hh pins σ Ex)) λ τ H Q hz=>eQ hz λ G δ rp q=>⟨G,δ,rp,q.seq λ x v H1 G1 e1 d1 q1=>⟨G1,δ,rp.ext e1,q1.seq λ l lv H2 G2 e2 d2 q2=>⟨G2,δ,(rp.ext e1).ext e2,q2.seq λ u uv H3 G3 e3 d3 q3=>by
  subst d2
  subst d3
  have d1':=gY (e2.trans e3) d1
  cases x with
  | tup ds =>
   rcases d1' with d | ⟨_,_,_,_,z,_⟩
   ·unfold aN at d
    obtain ⟨y,vs,rfl,h1,h2⟩:=d
    simp only [CG] at q3
    split at q3
    ·exact False.elim q3
    ·rename_i hw
     refine .inl ⟨y,vs,rfl,bE e3.GH h1,by rw [h2.length];exact hw,λ p hp=>?_⟩
     have e:=i7 (o:=.tup (sf vs lv uv)) e3.GH hp
     exact q3 _ _ _ e (by unfold nN aN;exact ⟨p,_,rfl,mS.of aw,(wx h2 lv uv).mono e.sG⟩)
   ·cases z
  | lst ds =>
   have main:∀ (y:Addr) (vs:List V),bz X.K H3 y vs->Dens ⟨X.K,κ⟩ G3 vs ds->J5 X.K (.ref y) lv uv H3 Q:=λ y vs h1 h2=>by
    refine ⟨y,vs,rfl,h1,λ p hp=>?_⟩
    have e:=i7 (o:=.lst (sf vs lv uv)) e3.GH hp
    exact q3 _ _ _ e (by unfold nN aN;exact ⟨p,_,rfl,bz.of aw,(wx h2 lv uv).mono e.sG⟩)
   rcases d1' with d | ⟨y,vs,_,rfl,z,h1,h2⟩
   ·unfold aN at d
    obtain ⟨y,vs,rfl,h1,h2⟩:=d
    exact .inr (.inl (main y vs (e3.GH.seq h1) h2))
   ·cases z
    exact .inr (.inl (main y vs (bz.of h1) h2))
  | str l =>
   simp only [CG] at q3
   split at q3
   ·rename_i hz
    have dd:v=Jk l:=by
     rcases d1' with d | ⟨_,_,_,_,z,_⟩
     ·unfold aN at d;exact d
     ·cases z
    exact .inr (.inr ⟨l,dd,hz,q3 _ _ _ (Ext.refl e3.GH) (by unfold nN aN;rfl)⟩)
   ·exact False.elim q3
  | _=>exact False.elim q3⟩⟩⟩
noncomputable def dH:D->Bool
 | .non | .bl _ | .int _ | .str _=>true
 | _=>false
noncomputable def Hc:D->D->Bool
 | .non,.non=>true
 | .bl a,.bl b=>a == b
 | .bl a,.int b=>(if a then 1 else 0) == b
 | .int a,.bl b=>a == (if b then 1 else 0)
 | .int a,.int b=>a == b
 | .str a,.str b=>a == b
 | _,_=>false
theorem wv {Z:Zx} {G:Hp} {v:V} {d:D} (h:aN Z G v d) (f:dH d=true):i8 v=true:=by
 cases d with
 | non=>unfold aN at h;subst h;rfl
 | bl _=>unfold aN at h;subst h;rfl
 | int _=>unfold aN at h;subst h;rfl
 | str _=>unfold aN at h;subst h;rfl
 | _=>cases f
theorem FZ (a b:List Nat):((⟨a.toArray⟩:Str) == ⟨b.toArray⟩)=(a == b):=by
 rw [Bool.eq_iff_iff,beq_iff_eq,beq_iff_eq]
 constructor
 ·intro h
  have:=congrArg (λ z:Str=>z.cps.toList) h
  simpa using this
 ·intro h;rw [h]
theorem Er {Z:Zx} {G:Hp} {v u:V} {d e:D} (h:aN Z G v d) (h':aN Z G u e) (f:dH d=true) (f':dH e=true):Ea v u=Hc d e:=by
 cases d <;> first | (cases f;done) | (cases e <;> first | (cases f';done) | (unfold aN at h h';subst h;subst h';first | rfl | exact FZ _ _))
theorem zp {Z:Zx} {G:Hp} {v:V} {d:D} (h:aN Z G v d) (f:dH d=true):∀ {vs:List V} {ds:List D},Dens Z G vs ds->ds.all dH=true->vs.all i8=true/\Ji v vs=ds.any λ e=>Hc e d
 | [],[],_,_=>⟨rfl,rfl⟩
 | w :: vs,e :: ds,hd,hf=>by
  unfold Dens at hd
  simp only [List.all_cons,Bool.and_eq_true] at hf
  obtain ⟨i1,i2⟩:=zp h f hd.2 hf.2
  refine ⟨by simp only [List.all_cons,Bool.and_eq_true];exact ⟨wv hd.1 hf.1,i1⟩,?_⟩
  show (Ea w v || Ji v vs)=_
  rw [i2,Er hd.1 h hf.1 f]
  rfl
 | [],_ :: _,hd,_=>by unfold Dens at hd;exact hd.elim
 | _ :: _,[],hd,_=>by unfold Dens at hd;exact hd.elim
noncomputable def EG (x y:D):R Bool:=match y with
 | .lst ds=>if dH x && ds.all dH then .ok (ds.any λ e=>Hc e x) else .stuck
 | .tup ds=>if dH x && ds.all dH then .ok (ds.any λ e=>Hc e x) else .stuck
 | .str j=>match x with
  | .str i=>.ok (!(Builtin.Str.occurrences ⟨j.toArray⟩ ⟨i.toArray⟩ 0 (⟨j.toArray⟩:Str).length 1).isEmpty)
  | _=>.stuck
 | _=>.stuck
noncomputable def wZ (x y:D):R Bool:=(EG x y).bind λ k=>.ok (!k)
theorem EH {x y:D} {v u:V} {G H:Hp} {k:Bool} (sm:aM G H) (d1:gN X κ G H v x) (d2:gN X κ G H u y) (h:EG x y=.ok k) :
  (∃ p xs,u=.ref p/\(bz X.K H p xs \/ mS X.K H p xs)/\i8 v=true/\xs.all i8=true/\Ji v xs=k) \/ (∃ i j,v=.str i/\u=.str j/\(!(Builtin.Str.occurrences j i 0 j.length 1).isEmpty)=k):=by
 have seq:∀ {ds:List D} {vs:List V},Dens ⟨X.K,κ⟩ G vs ds->(if dH x && ds.all dH then R.ok (ds.any λ e=>Hc e x) else .stuck)=.ok k->i8 v=true/\vs.all i8=true/\Ji v vs=k:=λ {ds vs} hd e=>by
  split at e
  ·rename_i hf
   rw [Bool.and_eq_true] at hf
   have dx:aN ⟨X.K,κ⟩ G v x:=by
    rcases d1 with d | ⟨_,_,_,_,z,_⟩
    ·exact d
    ·rw [z] at hf;cases hf.1
   obtain ⟨i1,i2⟩:=zp dx hf.1 hd hf.2
   cases e
   exact ⟨wv dx hf.1,i1,i2⟩
  ·cases e
 cases y with
 | lst ds =>
  simp only [EG] at h
  rcases d2 with d | ⟨p,vs,ds',rfl,z,h1,h2⟩
  ·unfold aN at d
   obtain ⟨p,vs,rfl,h1,h2⟩:=d
   obtain ⟨a1,a2,a3⟩:=seq h2 h
   exact .inl ⟨p,vs,rfl,.inl (sm.seq h1),a1,a2,a3⟩
  ·cases z
   obtain ⟨a1,a2,a3⟩:=seq h2 h
   exact .inl ⟨p,vs,rfl,.inl (bz.of h1),a1,a2,a3⟩
 | tup ds =>
  simp only [EG] at h
  rcases d2 with d | ⟨p,vs,ds',rfl,z,h1,h2⟩
  ·unfold aN at d
   obtain ⟨p,vs,rfl,h1,h2⟩:=d
   obtain ⟨a1,a2,a3⟩:=seq h2 h
   exact .inl ⟨p,vs,rfl,.inr (bE sm h1),a1,a2,a3⟩
  ·cases z
 | str j =>
  cases x with
  | str i =>
   simp only [EG] at h
   cases h
   exact .inr ⟨_,_,Bg d1,Bg d2,rfl⟩
  | _=>cases h
 | _=>cases h
noncomputable def J1 (X:Cx) (neg:Bool):R2:=λ x y H Q=>LG X.K neg x y H Q \/ ∃ i j,x=.str i/\y=.str j/\Q (.bl (neg ^^ (!(Builtin.Str.occurrences j i 0 j.length 1).isEmpty))) H
theorem E2 {Y:Cx} (eK:Y.K=X.K):my Y (compareOp .NotIn) (J1 X true):=by
 intro pins s σ H x y v u Q I rx ry h
 rcases h with h | ⟨i,j,e1,e2,q⟩
 ·exact vb pins s σ H x y v u Q I rx ry (by rw [eK];exact h)
 ·exact vc pins s σ H x y v u Q I rx ry ⟨i,j,e1,e2,by simpa using q⟩
theorem CM:oB κ X (J1 X true) (kI wZ):=by
 intro x y v u G H Q E sm d1 d2 q
 unfold kI wZ at q
 cases e:EG x y with
 | ok k =>
  rw [e] at q
  have q':Q (.bl (!k)) H:=q _ H G (Ext.refl sm) (by unfold nN aN;rfl)
  rcases EH sm d1 d2 e with ⟨p,xs,z1,z2,z3,z4,z5⟩ | ⟨i,j,z1,z2,z3⟩
  ·exact .inl ⟨p,xs,z1,z2,z3,z4,by simpa [z5] using q'⟩
  ·exact .inr ⟨i,j,z1,z2,by rw [z3];simpa using q'⟩
 | exc c=>unfold EG at e;split at e <;> (try split at e) <;> cases e
 | stuck=>rw [e] at q;exact q.elim
theorem Fw (hu:X.A.units + 64 < cLine) (ha:dN κ B X a fa) (hb:dN κ B X b fb) (hm:behindInMarks .NotIn b=false):mO κ B X (.Compare a [.NotIn] [b] pos) (bY wZ fa fb):=fR (λ _ eK _=>E2 eK) CM ha hb hm
theorem _root_.L2.Inv.lstS {X:Cx} {pins:List (Addr × Obj)} {σ:St} {H:Hp} {s:Shared} {l:Addr} {xs:List V} (I:Inv X pins σ H s) (h:bz X.K H l xs) :
  xs.length <= sizeLine/\∃ (its:List Value) (n:Nat),ba xs its/\xs.length=its.length/\s.heap.get? l=some { cls:=.type "list",data:=.seq its.toArray n }:=by
 rcases h with h | ⟨o,its,n,hk,hc,hd,hs,hz,r⟩
 ·obtain ⟨z,its,n,r,e⟩:=h.ok I.hok
  exact ⟨z,its,n,r,r.length,e⟩
 ·have e:=I.kIn l o hk
  have lr:=r.length
  refine ⟨by simp only [Array.length_toList] at lr;omega,its.toList,n,r,lr,?_⟩
  obtain ⟨oc,od,dt,sl⟩:=o
  dsimp only at hc hd hs
  obtain ⟨rfl,rfl⟩:=hd
  subst hc
  subst hs
  exact e
noncomputable def GA (K:PySem.W.Frag):R2:=λ x y H Q=>∃ l b xs zs,x=.ref l/\y=.ref b/\bz K H l xs/\bz K H b zs/\xs.length + zs.length <= sizeLine/\∀ p,H p=none->Q (.ref p) (upd H p (.lst (xs++zs)))
theorem E3 {X:Cx}:my X (binaryOp .Add) (GA X.K):=by
 intro pins s σ H x y v u Q I rx ry ⟨l,b,xs,zs,e1,e2,hH,hB,hz,q⟩
 subst e1
 subst e2
 cases rx
 cases ry
 obtain ⟨z,its,n,r,hl,e⟩:=I.lstS hH
 obtain ⟨z2,its2,n2,r2,hl2,e2⟩:=I.lstS hB
 refine PySem.P.add_list e e2 ?_ (by rw [List.size_toArray,List.size_toArray];omega)
 rw [show its.toArray++its2.toArray=(its++its2).toArray by simp]
 exact ⟨.ref _,_,I.lnew (t':=s.toks) (r.append r2) (by rw [List.length_append];omega),rfl,q _ I.fresh⟩
noncomputable def qc (x y:D):R D:=match x,y with
 | .lst xs,.lst ys=>if xs.length + ys.length <= 1000000 then .ok (.lst (xs++ys)) else .stuck
 | _,_=>.stuck
theorem IN {G H:Hp} {v:V} {ds:List D} (sm:aM G H) (h:gN X κ G H v (.lst ds)):∃ l vs,v=.ref l/\bz X.K H l vs/\Dens ⟨X.K,κ⟩ G vs ds:=by
 rcases h with h | ⟨l,vs,ds',e,z,h1,h2⟩
 ·unfold aN at h
  obtain ⟨l,vs,e,h1,h2⟩:=h
  exact ⟨l,vs,e,sm.seq h1,h2⟩
 ·cases z
  exact ⟨l,vs,e,bz.of h1,h2⟩
theorem CJ:oB κ X (GA X.K) qc:=by
 intro x y v u G H Q E sm d1 d2 q
 unfold qc at q
 split at q
 ·rename_i xs ys
  split at q
  ·rename_i hl
   obtain ⟨l,vs,e1,h1,h2⟩:=IN sm d1
   obtain ⟨b,us,e2,h3,h4⟩:=IN sm d2
   have:(1000000:Nat) <= sizeLine:=by decide
   refine ⟨l,b,vs,us,e1,e2,h1,h3,by rw [h2.length,h4.length];omega,λ p hp=>?_⟩
   have e:=i7 (o:=.lst (vs++us)) sm hp
   exact q _ _ _ e (by unfold nN aN;exact ⟨p,_,rfl,bz.of aw,(h2.append h4).mono e.sG⟩)
  ·exact q.elim
 ·exact q.elim
theorem Ie (ha:dN κ B X a fa) (hb:dN κ B X b fb):PX κ B X (.BinOp a .Add b pos) (m2 qc fa fb):=rG (λ Y eK=>by rw [<- eK];exact E3) CJ ha hb
noncomputable def JF (op:D->List D->R D) (fo:Ev->R D) (fs:Ev->R (List D)):Ev->R D:=λ δ=>(fo δ).bind λ x=>match x with
 | .lst ds=>(fs δ).bind λ ys=>op (.lst ds) ys
 | _=>.stuck
end
end L3
namespace L3
open PySem PySem.Spec PyProof.Rows L2
structure ClsM (κ:Nat->Addr) (K:PySem.W.Frag) (c:Nat) (ns:List Str):Prop where
 cl:Cls K (κ c)
 na:∀ f∈ns,GL K (κ c) f
section
variable {κ:Nat->Addr} {B:Gd} {X:Cx} {a e:Expr} {es:List Expr} {f fa:Ev->R D} {fs:Ev->R (List D)} {pos pos' apos p:Pos} {x:Str}
structure Mth (κ:Nat->Addr) (X:Cx) (c:Nat) (x:Str) (n:Nat) (m:List D->R D):Prop where
 ex:∃ f fd ps k,FnOk X.prog X.w X.K X.mg X.base (pU X.prog X.w) k f fd ps (GG X.K κ n m)/\Room k X.A/\Meth X.K (κ c) x f/\iZ X.K fd ps []
end
end L3
namespace L3
open PySem PySem.Spec PyProof.Rows L2
theorem mV {env:Env}:∀ (ns:List (Str × NameKind)) (acc:List (Str × Addr)),(∀ y∈ns,y.2=.free->∃ c,env.cells.lookup y.1=some c)->(∀ y c,acc.lookup y=some c->env.cells.lookup y=some c) →
  ∃ cl,(forIn ns acc (λ (p:Str × NameKind) (cs:List (Str × Addr))=>(match p with | (name,kind)=>if (kind == NameKind.free)=true then do let c ← cellOf env name;pure (ForInStep.yield ((name,c) :: cs)) else pure (ForInStep.yield cs):Sem (ForInStep (List (Str × Addr))))):Sem _)=pure cl ∧
   (∀ y c,cl.lookup y=some c->env.cells.lookup y=some c)/\(∀ y,(∃ c,acc.lookup y=some c) \/ (y,NameKind.free)∈ns->∃ c,cl.lookup y=some c)
 | [],acc,_,h2=>⟨acc,rfl,h2,λ y h=>h.elim id λ z=>by simp at z⟩
 | (n,k) :: r,acc,h1,h2=>by
  rw [List.forIn_cons]
  by_cases hk:k=.free
  ·subst hk
   obtain ⟨c,hc⟩:=h1 (n,.free) List.mem_cons_self rfl
   obtain ⟨cl,e,p,q⟩:=mV r ((n,c) :: acc) (λ y hy=>h1 y (List.mem_cons_of_mem _ hy)) (λ y d hd=>by
    rw [List.lookup_cons] at hd
    cases hy:y == n with
    | true=>rw [hy] at hd;cases hd;rw [eq_of_beq hy];exact hc
    | false=>rw [hy] at hd;exact h2 y d hd)
   refine ⟨cl,?_,p,λ y h=>q y ?_⟩
   ·rw [<- e]
    have:cellOf env n=pure c:=by unfold cellOf;rw [hc]
    simp only [beq_self_eq_true,if_true,this,pure_bind]
   ·rcases h with ⟨d,hd⟩ | h
    ·rw [List.lookup_cons]
     cases hy:y == n with
     | true=>exact .inl ⟨c,rfl⟩
     | false=>exact .inl ⟨d,hd⟩
    ·rcases List.mem_cons.mp h with h | h
     ·cases h;rw [List.lookup_cons];exact .inl ⟨c,by simp⟩
     ·exact .inr h
  ·obtain ⟨cl,e,p,q⟩:=mV r acc (λ y hy=>h1 y (List.mem_cons_of_mem _ hy)) h2
   have hb:(k == NameKind.free)=false:=by simpa using hk
   refine ⟨cl,?_,p,λ y h=>q y ?_⟩
   ·rw [<- e]
    simp only [hb,Bool.false_eq_true,if_false,pure_bind]
   ·rcases h with h | h
    ·exact .inl h
    ·rcases List.mem_cons.mp h with h | h
     ·cases h;exact absurd rfl hk
     ·exact .inr h
theorem eO {env:Env}:∀ {names:List (Str × NameKind)} {y:Str},
  (names.map λ (n,k)=>if (k == NameKind.free && env.scope.kind == .function && env.kindOf n == some .cell) then (n,NameKind.cell) else (n,k)).lookup y=(names.lookup y).map λ k=>if (k == NameKind.free && env.scope.kind == .function && env.kindOf y == some .cell) then NameKind.cell else k
 | [],_=>rfl
 | (n,k) :: r,y=>by
  have ih:=@eO env r y
  show List.lookup y ((if (k == NameKind.free && env.scope.kind == .function && env.kindOf n == some .cell)=true then (n,NameKind.cell) else (n,k)) :: _)=_
  cases hy:y == n with
  | true =>
   have e:=eq_of_beq hy
   subst e
   by_cases hc:(k == NameKind.free && env.scope.kind == .function && env.kindOf y == some .cell)=true
   ·rw [if_pos hc];simp only [List.lookup_cons,beq_self_eq_true,Option.map_some];rw [if_pos hc]
   ·rw [if_neg hc];simp only [List.lookup_cons,beq_self_eq_true,Option.map_some];rw [if_neg hc]
  | false =>
   by_cases hc:(k == NameKind.free && env.scope.kind == .function && env.kindOf n == some .cell)=true
   ·rw [if_pos hc];simp only [List.lookup_cons,hy];exact ih
   ·rw [if_neg hc];simp only [List.lookup_cons,hy];exact ih
theorem lY {α:Type} {y:Str} {a:α}:∀ {l:List (Str × α)},l.lookup y=some a->(y,a)∈l
 | [],h=>by cases h
 | (n,k) :: r,h=>by
  rw [List.lookup_cons] at h
  cases hy:y == n with
  | true=>rw [hy] at h;cases h;rw [eq_of_beq hy];exact List.mem_cons_self
  | false=>rw [hy] at h;exact List.mem_cons_of_mem _ (lY h)
noncomputable abbrev Jn (X:Cx) (sc:Scope) (cl:List (Str × Addr)) (C:Addr) (s₁:Shared) (H₁:Hp) (pn:List (Addr × Obj)) (x:Str):Cx:=
 { X with env:=compEnvC sc cl C X.env,N:=X.N++[x],s₀:=s₁,H₀:=H₁,outer:=X.stack,stack:=X.stack,ex:=[],fn:=λ _=>false,pn:=pn,xe:=λ _ _=>False,sg:=λ _ _=>True }
section
variable {κ:Nat->Addr} {B:Gd} {X:Cx} {sc:Scope} {x y:Str} {cl:List (Str × Addr)} {C:Addr} {s₁:Shared} {H₁:Hp} {pn:List (Addr × Obj)}
theorem BU {k:NameKind} (h:sc.names.lookup y=some k) (hk:k ≠ .free):(Jn X sc cl C s₁ H₁ pn x).env.scope.names.lookup y=some k:=by
 show List.lookup y (sc.names.map _)=_
 have:=@eO X.env sc.names y
 refine this.trans ?_
 rw [h]
 have hb:(k == NameKind.free)=false:=by simpa using hk
 simp only [Option.map_some,hb,Bool.false_and,Bool.false_eq_true,if_false]
theorem En (h:sc.names.lookup y=some .free):kT (Jn X sc cl C s₁ H₁ pn x).env.scope y:=by
 have:=@eO X.env sc.names y
 rw [h] at this
 simp only [Option.map_some] at this
 by_cases hc:(NameKind.free == NameKind.free && X.env.scope.kind == .function && X.env.kindOf y == some .cell)=true
 ·rw [if_pos hc] at this;exact .inr (.inl this)
 ·rw [if_neg hc] at this;exact .inr (.inr this)
end
section
variable {X:Cx} {sc:Scope} {x:Str} {cl:List (Str × Addr)} {C:Addr} {sb s4:Shared} {Hb H4:Hp} {pins:List (Addr × Obj)} {σ:St} {m:Str->Option Value} {E:Value->Shared->Prop}
end
inductive PIcE (X:Cx) (pins:List (Addr × Obj)) (σ:St) (tg:Expr) (R:It->Hp->Prop) (itv:Value) (s2:Shared):Prop
 | mk (sb:Shared) (Hb:Hp) (it:Addr) (fp:List Addr) (tn:Nat->Heap->Prop) (J:It) (e:itv=.ref it) (I:Inv X pins σ Hb sb) (I':Inv X pins σ Hb s2) (k:∀ b o,sb.heap.get? b=some o->s2.heap.get? b=some o) (o:s2.os=sb.os) (z:sb.heap.objs.size <= s2.heap.objs.size) (T:Turn X.prog X.w X.K tg J fp it tn) (t:tn 0 s2.heap) (f:∀ b∈fp,sb.heap.objs.size <= b/\b < s2.heap.objs.size) (r:R J Hb)
noncomputable def D6 (X:Cx) (tg iter:Expr) (wi:TI):Prop:=
 ∀ (pins:List (Addr × Obj)) (s:Shared) (σ:St) (H:Hp) (R:It->Hp->Prop),Inv X pins σ H s->wi σ H R →
  wpAny (model X.prog X.w) X.A (eval iter X.env) (λ v s1=>wpAny (model X.prog X.w) X.A (pyIter v) (PIcE X pins σ tg R) X.xe s1) X.xe s
section
variable {X:Cx} {tg:Expr}
theorem CZ {l:Expr} {tl:TE} (hl:PE X l tl):D6 X tg l (Cj X.K tl):=by
 intro pins s σ H R I h
 refine br (hl pins s σ H _ I h) λ v s1 ⟨x,H1,I1,r1,q1⟩=>?_
 obtain ⟨a,e,⟨xs,hq⟩,q⟩:=q1
 subst e
 cases r1
 obtain ⟨its,rv,p,hz⟩:=I1.list hq
 refine wpAny_pyIter_list p.isList ?_
 refine ⟨s1,H1,s1.heap.objs.size,[s1.heap.objs.size],_,_,rfl,I1,I1.kept (t':=s1.toks) λ b o e=>Heap.get?_push_of_some _ e,λ b o e=>Heap.get?_push_of_some _ e,rfl,by simp [Heap.size_push],tR a _,⟨_,Heap.get?_push_size _ rfl,rfl,rfl⟩,λ b hb=>?_,q⟩
 have e:b=s1.heap.objs.size:=by simpa using hb
 subst e
 simp [Heap.size_push]
theorem Fa {l:Expr} {tl:TE} (hl:PE X l tl):D6 X tg l (JD X.K tl):=by
 intro pins s σ H R I h
 refine br (hl pins s σ H _ I h) λ v s1 ⟨x,H1,I1,r1,q1⟩=>?_
 obtain ⟨a,e,⟨xs,hq⟩,q⟩:=q1
 subst e
 cases r1
 obtain ⟨its,rv,p,hz⟩:=I1.tuple hq
 refine wpAny_pyIter_tuple (show s1.heap.IsTuple a its.toArray from p) ?_
 refine ⟨s1,H1,s1.heap.objs.size,[s1.heap.objs.size],_,_,rfl,I1,I1.kept (t':=s1.toks) λ b o e=>Heap.get?_push_of_some _ e,λ b o e=>Heap.get?_push_of_some _ e,rfl,by simp [Heap.size_push],rV a _,⟨_,Heap.get?_push_size _ rfl,rfl,rfl⟩,λ b hb=>?_,q⟩
 have e:b=s1.heap.objs.size:=by simpa using hb
 subst e
 simp [Heap.size_push]
theorem Bh {pins:List (Addr × Obj)} {σ:St} {H:Hp} {s:Shared} {R:It->Hp->Prop} {E:Value->Shared->Prop} {lo hi:Int} {t u v:Tok} {tk:Nat} (I:Inv X pins σ H s) (h1:-(2 ^ 62) <= lo) (h2:lo < 2 ^ 62) (h3:-(2 ^ 62) <= hi) (h4:hi < 2 ^ 62)
  (q:R (GK lo (hi - lo).toNat) H):wpAny (model X.prog X.w) X.A (pyIter (.ref s.heap.objs.size)) (PIcE X pins σ tg R) E { s with heap:=s.heap.push { cls:=.type "range",data:=.fields #[.int lo t,.int hi u,.int 1 v] },toks:=tk }:=by
 refine wpAny_pyIter_range (IsRange.new ..) (small_one h1 h2 h3 h4) ?_
 have I1:Inv X pins σ H { s with heap:=s.heap.push { cls:=.type "range",data:=.fields #[.int lo t,.int hi u,.int 1 v] },toks:=tk }:=I.kept λ b o e=>Heap.get?_push_of_some _ e
 refine ⟨s,H,(s.heap.push { cls:=.type "range",data:=.fields #[.int lo t,.int hi u,.int 1 v] }).objs.size,[(s.heap.push { cls:=.type "range",data:=.fields #[.int lo t,.int hi u,.int 1 v] }).objs.size],_,_,rfl,I,
  I1.kept (t':=tk) λ b o e=>Heap.get?_push_of_some _ e,λ b o e=>Heap.get?_push_of_some _ (Heap.get?_push_of_some _ e),rfl,by simp [Heap.size_push];omega,rT _ lo (hi - lo).toNat,?_,λ b hb=>?_,q⟩
 ·have e1:lo + ((0:Nat):Int) * 1=lo:=by simp
  have e2:(((hi - lo).toNat:Nat):Int) - ((0:Nat):Int)=Builtin.Range.rangeSize lo hi 1:=by rw [rangeSize_one];split <;> omega
  show IsRangeIter _ _ (lo + ((0:Nat):Int) * 1) ((((hi - lo).toNat:Nat):Int) - ((0:Nat):Int)) 1
  rw [e1,e2]
  exact Heap.get?_push_size _ rfl
 ·have e:b=(s.heap.push { cls:=.type "range",data:=.fields #[.int lo t,.int hi u,.int 1 v] }).objs.size:=by simpa using hb
  subst e
  simp [Heap.size_push]
theorem yK {a:Expr} {ta:TA} {p pos:Pos} (hg:Gl X "range") (hm:X.mg "range" = none) (ha:PA X [a] ta) (hs:starEach [a] X.env=[(false,eval a X.env)]):D6 X tg (.Call (.Name "range" p) [a] [] pos) (Gr ta):=by
 intro pins s σ H R I h
 refine Call_ (gM I hg hm boot_range (PyProof.Rows.callWith_type1 (br (ha pos pins s σ H _ I h) λ us s1 ⟨vs,H1,I1,r1,q1⟩=>?_) hs rfl))
 obtain ⟨j,e,q1,q2,q⟩:=q1
 subst e
 cases r1 with
 | cons r rr =>
  cases rr
  obtain ⟨t,rfl⟩:=r
  exact call_range_1 (Bh I1 (by omega) (by omega) q1 q2 (by simpa using q))
end
noncomputable def Ef (κ:Nat->Addr) (B:Gd) (X:Cx) (tg e:Expr) (f:Ev->R (List D)):Prop:=∀ pins σ Ex,D6 (At X pins σ Ex) tg e (tO (λ G _ J ds=>vZ X κ J G ds) X κ B (EX X pins σ Ex) f)
theorem vj {Y:Cx} {tg e:Expr} {w w':TI} (h:D6 Y tg e w) (k:∀ σ H R,w' σ H R->w σ H R):D6 Y tg e w':=λ pins s σ H R I q=>h pins s σ H R I (k σ H R q)
theorem HQ {Y:Cx} {tg e:Expr} {w w':TI} (h:D6 Y tg e w) (h':D6 Y tg e w'):D6 Y tg e (λ σ H R=>w σ H R \/ w' σ H R):=λ pins s σ H R I q=>q.elim (h pins s σ H R I) (h' pins s σ H R I)
section
variable {κ:Nat->Addr} {B:Gd} {X:Cx} {e tg:Expr} {f:Ev->R D} {pos:Pos}
theorem C5 (h:PX κ B X e f):Ef κ B X tg e (λ δ=>(f δ).bind aV):=λ pins σ Ex =>
 vj (HQ (CZ (X:=At X pins σ Ex) (h pins σ Ex)) (Fa (X:=At X pins σ Ex) (h pins σ Ex))) λ τ H R hz=>eQ hz λ G δ rp q=>by
  dsimp only at q
  cases e:f δ with
  | ok d =>
   rw [e] at q
   cases d with
   | lst ds =>
    refine .inl ⟨G,δ,rp,?_⟩
    rw [e]
    intro v H' G' e1 d1
    unfold aN at d1
    obtain ⟨a,vs,rfl,h1,h2⟩:=d1
    exact ⟨a,rfl,⟨vs,e1.GH.seq h1⟩,q _ H' G' e1 (tt (H:=H') h1 h2)⟩
   | tup ds =>
    refine .inr ⟨G,δ,rp,?_⟩
    rw [e]
    intro v H' G' e1 d1
    unfold aN at d1
    obtain ⟨a,vs,rfl,h1,h2⟩:=d1
    exact ⟨a,rfl,⟨vs,bE e1.GH h1⟩,q _ H' G' e1 (wL (H:=H') h1 h2)⟩
   | _=>exact False.elim q
  | exc c =>
   rw [e] at q
   refine .inl ⟨G,δ,rp,?_⟩
   rw [e]
   exact q
  | stuck=>rw [e] at q;exact False.elim q
theorem xf {a:Expr} {fs:Ev->R (List D)} {p pos:Pos} (hg:Gl X "range") (hm:X.mg "range" = none) (ha:r9 κ B X [a] fs) (h:aA a=true):Ef κ B X tg (.Call (.Name "range" p) [a] [] pos) (λ δ=>(fs δ).bind lW):=λ pins σ Ex =>
 vj (yK (X:=At X pins σ Ex) hg hm (ha pins σ Ex) (aB h)) λ τ H R hz=>eQ hz λ G δ rp q=>⟨G,δ,rp,q.seq λ x v H1 G1 e1 d1 q1=>by
  unfold lW at q1
  split at q1
  ·rename_i j
   split at q1
   ·rename_i hj
    refine ⟨j,mh d1,hj.1,hj.2,?_⟩
    have:=q1 _ H1 G1 (Ext.refl e1.GH) (wK (lo:=0) (n:=(j - 0).toNat))
    simpa using this
   ·exact False.elim q1
  ·exact False.elim q1⟩
end
noncomputable def nD (δ:Ev):Ev:=δ.map λ o=>match o with
 | some (.sh d)=>some (.sh d)
 | _=>none
noncomputable def LF:R (List D)->R (List D)
 | .ok l=>.ok l
 | _=>.stuck
noncomputable def Eg (κ:Nat->Addr) (B:Gd) (X:Cx) (ifs:List Expr) (t:Ev->R Bool):Prop:=∀ pins σ Ex s H Q,Inv (At X pins σ Ex) pins σ H s->tO GR X κ B (EX X pins σ Ex) t σ H Q →
 wpAny (model X.prog X.w) X.A (forIn ifs true λ c r=>if r=true then do let ok ← isTrue c X.env (eval c X.env);pure (ForInStep.yield ok) else pure (ForInStep.yield r)) (TP (At X pins σ Ex) pins σ Q) Ex s
theorem Fl {κ:Nat->Addr} {B:Gd} {X:Cx}:Eg κ B X [] (λ _=>.ok true):=λ pins σ Ex s H Q I hz=>eQ hz λ G δ rp q=>wpAny_tests_nil ⟨H,I,q true H G (Ext.refl rp.GH) rfl⟩
theorem Fm {κ:Nat->Addr} {B:Gd} {X:Cx} {c:Expr} {t:Ev->R Bool} (h:mO κ B X c t):Eg κ B X [c] t:=λ pins σ Ex s H Q I q=>wpAny_tests_one (h pins σ Ex pins s σ H Q I q)
noncomputable def Fr (H₀ H:Hp) (vs:List V):Prop:=∀ v∈vs,∃ q us,v=V.ref q/\H q=some (.lst us)/\H₀ q=none
section
variable {H₀ H₁ H H':Hp} {vs ws:List V} {a:Addr}
theorem Fr.nil:Fr H₀ H []:=λ v hv=>absurd hv List.not_mem_nil
theorem Fr.same (s:aM H H') (h:Fr H₀ H vs):Fr H₀ H' vs:=λ v hv=>by
 obtain ⟨q,us,e1,e2,e3⟩:=h v hv
 exact ⟨q,us,e1,s _ _ e2,e3⟩
theorem Fr.upd (h:Fr H₀ H vs):Fr H₀ (upd H a (.lst ws)) vs:=λ v hv=>by
 obtain ⟨q,us,e1,e2,e3⟩:=h v hv
 by_cases c:q=a
 ·exact ⟨q,ws,e1,by rw [c,aw],e3⟩
 ·exact ⟨q,us,e1,by rw [aq c];exact e2,e3⟩
theorem Fr.base (hh:∀ b,H₀ b ≠ none->H₁ b ≠ none) (h:Fr H₁ H vs):Fr H₀ H vs:=λ v hv=>by
 obtain ⟨q,us,e1,e2,e3⟩:=h v hv
 refine ⟨q,us,e1,e2,?_⟩
 cases z:H₀ q with
 | none=>rfl
 | some o=>exact absurd e3 (hh q (by rw [z];simp))
theorem Fr.snoc {v:V} (h:Fr H₀ H vs) (hv:∃ q us,v=V.ref q/\H q=some (.lst us)/\H₀ q=none):Fr H₀ H (vs++[v]):=λ u hu=>by
 rcases List.mem_append.mp hu with hu | hu
 ·exact h u hu
 ·rw [List.mem_singleton.mp hu];exact hv
theorem Fr.rev (h:Fr H₀ H vs):Fr H₀ H vs.reverse:=λ v hv=>h v (List.mem_reverse.mp hv)
end
noncomputable def KN (ψ:Bool) (κ:Nat->Addr) (B:Gd) (X:Cx) (e:Expr) (f:Ev->R D):Prop:=∀ pins σ Ex,PE (At X pins σ Ex) e (λ τ H Q=>∃ G δ,Rep ⟨X.K,κ⟩ B X.H₀ G H τ δ/\sO (λ G' H' v d=>aN ⟨X.K,κ⟩ G' v d/\(ψ=true->∃ q us,v=V.ref q/\H' q=some (.lst us)/\H q=none)) κ (EX X pins σ Ex) G H (f δ) Q)
theorem PX.n {κ:Nat->Addr} {B:Gd} {X:Cx} {e:Expr} {f:Ev->R D} (h:PX κ B X e f):KN false κ B X e f:=λ pins σ Ex=>be (h pins σ Ex) λ τ H Q hz=>eQ hz λ G δ rp q=>⟨G,δ,rp,by
 cases z:f δ with
 | ok d=>rw [z] at q;exact λ v H' G' e1 d1=>q v H' G' e1 ⟨d1,λ z=>by cases z⟩
 | exc c=>rw [z] at q;exact q
 | stuck=>rw [z] at q;exact q⟩
theorem xQ.n {κ:Nat->Addr} {B:Gd} {X:Cx} {e:Expr} {fl:Ev->R (List D)} (h:xQ κ B X e fl):KN true κ B X e (mL fl):=λ pins σ Ex=>be (h pins σ Ex) λ τ H Q hz=>eQ hz λ G δ rp q=>⟨G,δ,rp,by
 unfold mL at q
 cases e:fl δ with
 | ok ds =>
  rw [e] at q
  intro a vs H' G' e1 h1 h2 h3 h4
  have sg:aM G' (upd G' a (.lst vs)):=λ b o z=>by rw [aq (az z h2)];exact z
  exact q _ H' _ (c8 e1 h1 h2 h3) ⟨by unfold aN;exact ⟨a,vs,rfl,bz.of aw,h4.mono sg⟩,λ _=>⟨a,vs,rfl,h1,h3⟩⟩
 | exc c=>rw [e] at q;exact q
 | stuck=>rw [e] at q;exact q⟩
section
variable {κ:Nat->Addr} {B:Gd} {X:Cx} {sc:Scope} {x:Str} {px pos:Pos} {iter elt:Expr} {ifs:List Expr} {fit:Ev->R (List D)} {t:Ev->R Bool} {f:Ev->R D}
end
end L3
namespace L3
open PySem PySem.Spec PyProof.Rows L2
noncomputable abbrev kS (α:Type):=PySem.W.Frag->(Nat->Addr)->Hp->Hp->Hp->V->α->Prop
noncomputable def ρ1:kS (List D):=λ K κ H₀ G' H' v ds=>∃ a vs,v=.ref a/\H' a=some (.lst vs)/\G' a=none/\H₀ a=none/\Dens ⟨K,κ⟩ G' vs ds
noncomputable def PR {α:Type} (κ:Nat->Addr) (B:Gd) (X:Cx) (e:Expr) (ρ:kS α) (f:Ev->R α):Prop:=∀ pins σ Ex,PE (At X pins σ Ex) e (λ τ H Q=>∃ G δ,Rep ⟨X.K,κ⟩ B X.H₀ G H τ δ/\match f δ with
 | .ok r=>∀ v H' G',Hold B X.H₀ G' H'->ρ X.K κ X.H₀ G' H' v r->Q v H'
 | _=>False)
noncomputable def BB {α:Type} (κ:Nat->Addr) (B:Gd) (X:Cx) (st:List Stmt) (ρ:kS α) (F:Ev->R α):Prop:=∀ Ex pins s σ H G δ Dn,PassesOwn (model X.prog X.w) X.A X.env Ex->Inv (X.wish Ex) pins σ H s->Rep ⟨X.K,κ⟩ B X.H₀ G H σ δ->(match F δ with
 | .ok r=>∀ v H' G',Hold B X.H₀ G' H'->ρ X.K κ X.H₀ G' H' v r->Dn.rt v H'
 | _=>False)->wpAny (model X.prog X.w) X.A (execs st X.env) (SP (X.wish Ex) pins Dn) Ex s
section
variable {α:Type} {ρ:kS α} {κ:Nat->Addr} {B:Gd} {X:Cx} {e:Expr} {f:Ev->R α} {pos:Pos}
theorem JS {fl:Ev->R (List D)} (h:xQ κ B X e fl):PR κ B X e ρ1 fl:=λ pins σ Ex=>be (h pins σ Ex) λ τ H Q hz=>eQ hz λ G δ rp q=>⟨G,δ,rp,by
 cases z:fl δ with
 | ok ds =>
  rw [z] at q
  intro a vs H' G' e1 h1 h2 h3 h4
  refine q _ H' G' (rp.toHold.ext e1) ⟨a,vs,rfl,h1,h2,?_,h4⟩
  cases q0:X.H₀ a with
  | none=>rfl
  | some o=>exact absurd h3 (rp.there a (by rw [q0];simp))
 | exc c=>rw [z] at q;exact False.elim q
 | stuck=>rw [z] at q;exact False.elim q⟩
noncomputable def gP (i:Nat):Ev->R (List D):=λ δ=>match δ[i]? with
 | some (some (.ow ds))=>.ok ds
 | _=>.stuck
theorem HS (i:Nat) {x:Str} (hN:X.N[i]?=some x) (hv:kT X.env.scope x) (hd:(x == ("__debug__" : Str))=false) (hcd:(x == ("__classdict__" : Str))=false):PR κ B X (.Name x pos) ρ1 (gP i):=λ pins σ Ex =>
 be (b0 (X:=At X pins σ Ex) hN hv hd hcd) λ τ H Q hz=>eQ hz λ G δ r q=>by
  unfold gP at q
  split at q
  ·rename_i r' e
   split at e
   ·rename_i ds e'
    injection e with e
    subst e
    obtain ⟨a,vs,x1,x2,x3,x4,x5⟩:=r.ow i _ e'
    exact ⟨.ref a,x1,q _ H G r.toHold ⟨a,vs,rfl,x2,x4,x5,x3⟩⟩
   ·cases e
  ·exact q.elim
theorem zP (cx:Cxo X) (h:PR κ B X e ρ f):BB κ B X [.Return (some e) pos] ρ f:=λ Ex pins s σ H G δ Dn hp I rp q=>by
 refine wpAny_execs_cons (wpAny_Return_some (br (h pins σ Ex pins s σ H (λ v H'=>Dn.rt v H') (bq I) ⟨G,δ,rp,q⟩) λ v s1 ⟨x,H',I',r,q⟩=>?_))
 exact ⟨x,σ,H',aH cx.sg I',r,q⟩
noncomputable def aX (F1:Ev->SR) (F2:Ev->R α):Ev->R α:=λ δ=>match F1 δ with
 | .next δ'=>F2 δ'
 | _=>.stuck
theorem Dq {st:Stmt} {aG:List Stmt} {F1:Ev->SR} {F2:Ev->R α} (h1:PZ κ B X st F1) (h2:BB κ B X aG ρ F2):BB κ B X (st :: aG) ρ (aX F1 F2):=λ Ex pins s σ H G δ Dn hp I rp h=>by
 refine wpAny_execs_cons (br (h1 Ex pins s σ H G δ { nx:=λ σ' H'=>∃ G' δ',Rep ⟨X.K,κ⟩ B X.H₀ G' H' σ' δ'/\(match F2 δ' with | .ok r=>∀ v H' G',Hold B X.H₀ G' H'->ρ X.K κ X.H₀ G' H' v r->Dn.rt v H' | _=>False),rt:=λ _ _=>False } hp I rp ?_) λ f s1 q=>?_)
 ·unfold aX at h
  cases q:F1 δ with
  | next δ'=>rw [q] at h;exact λ σ' H' G' r=>⟨G',δ',r,h⟩
  | brk δ'=>rw [q] at h;exact False.elim h
  | cont δ'=>rw [q] at h;exact False.elim h
  | ret d=>rw [q] at h;exact False.elim h
  | exc c δ'=>rw [q] at h;exact False.elim h
  | stuck=>rw [q] at h;exact False.elim h
 ·cases f with
  | next =>
   obtain ⟨σ',H',I',G',δ',r,q⟩:=q
   exact h2 Ex pins s1 σ' H' G' δ' Dn hp I' r q
  | ret v=>obtain ⟨_,_,_,_,_,q⟩:=q;exact False.elim q
  | brk=>obtain ⟨_,_,_,q⟩:=q;exact False.elim q
  | cont=>obtain ⟨_,_,_,q⟩:=q;exact False.elim q
end
noncomputable def GI {α:Type} (K:PySem.W.Frag) (κ:Nat->Addr) (n:Nat) (ρ:kS α) (m:List D->R α):Sp:=λ vs H Q E=>vs.length=n/\∃ G ds,aM G H/\Dens ⟨K,κ⟩ G vs ds/\sO (λ G' H' v d=>ρ K κ H G' H' v d) κ E G H (m ds) Q
theorem Bi {Z:Zx} {N:List Str} {G H:Hp} {vs:List V} {ds:List D} (sm:aM G H) (dn:Dens Z G vs ds):Rep Z ⟨G,λ _=>False⟩ H G H (L2.start N vs) (av N.length ds):=by
 have hld:ds.length=vs.length:=dn.length.symm
 have none':∀ {i:Nat} {o:Sl},(av N.length ds)[i]?=some (some o)->∃ d,o=.sh d/\∃ v,(L2.start N vs)[i]?=some (some v)/\aN Z G v d:=λ {i o} e=>by
  unfold av at e
  by_cases hi:i < ds.length
  ·rw [List.getElem?_append_left (by simpa using hi),List.getElem?_map] at e
   cases q:ds[i]? with
   | none=>rw [q] at e;cases e
   | some d' =>
    rw [q] at e
    cases e
    obtain ⟨v,e1,e2⟩:=dn.get q
    refine ⟨d',rfl,v,?_,e2⟩
    unfold L2.start
    rw [List.getElem?_append_left (by simp;omega),List.getElem?_map,e1]
    rfl
  ·rw [List.getElem?_append_right (by simpa using hi),List.getElem?_replicate] at e
   split at e <;> cases e
 refine ⟨⟨aM.refl _,sm,λ _ _ e _=>e,λ _ e=>e,λ _ _ e=>e⟩,?_,λ i d e=>?_,λ i es e=>?_,λ i j es fs a n e=>?_,λ i c ns es e=>?_,λ i j c ns es c' ns' es' x0 n0 e=>?_⟩
 ·unfold L2.start av
  simp [hld]
 ·obtain ⟨d',e1,v,e2,e3⟩:=none' e
  cases e1
  exact ⟨v,e2,e3⟩
 ·obtain ⟨_,e1,_⟩:=none' e;cases e1
 ·obtain ⟨_,e1,_⟩:=none' e;cases e1
 ·obtain ⟨_,e1,_⟩:=none' e;cases e1
 ·obtain ⟨_,e1,_⟩:=none' e;cases e1
noncomputable def l4 {α:Type}:R α->R α
 | .ok a=>.ok a
 | _=>.stuck
theorem yk {α:Type} {ρ:kS α} {P:Program} {w:World} {K:PySem.W.Frag} {mg:Str->Option Value} {base:Heap} {κ:Nat->Addr} {x qual:Str} {st:Stmt} {f:Addr} {fd:FuncData} {N ps:List Str} {k:Nat} {F:Ev->R α}
  (Fn:Fun K x qual st f fd) (S:FnScope N ps (am st))
  (hb:∀ (X:Cx) (B:Gd),Cxo X->X.calm=true->X.prog=P->X.w=w->X.K=K->X.mg=mg->X.base=base->X.N=N->X.env.scope=am st->(∀ y,X.fn y=true)->Room k X.A->FrmOk X->BB κ B X (ay st) ρ F) :
  FnOk P w K mg base (pU P w) (k + 1) f fd ps (GI K κ ps.length ρ λ ds=>l4 (F (av N.length ds))):=by
 obtain ⟨oc,od,kV,doc,pm,an,cdv,ct,osl,rfl,lk,hcd⟩:=Fn.ex
 refine Ca lk hcd S (λ vs H Q E h=>h.1) λ A outer s H vs Q E hr hsp=>?_
 obtain ⟨hl,G,ds,sm,dn,hq⟩:=hsp
 dsimp only at hq
 generalize hX:wj (pU P w) P w K mg base N qual (am st) f cdv A outer s H E=X
 have eP:X.prog=P:=by rw [<- hX];rfl
 have ew:X.w=w:=by rw [<- hX];rfl
 have eK:X.K=K:=by rw [<- hX];rfl
 have cx:Cxo X:=by rw [<- hX];exact ⟨λ _ _=>trivial,rfl⟩
 have e0:X.H₀=H:=by rw [<- hX];rfl
 have body:=λ B=>hb X B cx (by rw [<- hX];rfl) eP ew eK (by rw [<- hX];rfl) (by rw [<- hX];rfl) (by rw [<- hX];rfl) (by rw [<- hX];rfl) (λ y=>by rw [<- hX];rfl) (by rw [<- hX];exact hr) (by rw [<- hX];exact ⟨rfl,rfl⟩)
 refine ⟨λ Dn σ H=>∃ B G δ,Rep ⟨X.K,κ⟩ B X.H₀ G H σ δ/\(match F δ with | .ok r=>∀ v H' G',Hold B X.H₀ G' H'->ρ X.K κ X.H₀ G' H' v r->Dn.rt v H' | _=>False),λ pins s' σ H' Dn I ⟨B,G,δ,rp,h⟩=>?_,⟨G,λ _=>False⟩,G,av N.length ds,?_,?_⟩
 ·refine body B X.xe pins s' σ H' G δ Dn ?_ I rp h
  rw [<- hX]
  exact PassesOwn.leaving
 ·rw [e0,eK]
  exact Bi sm dn
 ·cases q:F (av N.length ds) with
  | ok r =>
   rw [q] at hq
   intro v H' G' hh hρ
   rw [e0] at hh hρ
   rw [eK] at hρ
   refine hq v H' G' ⟨hh.gG,λ b o e=>hh.old b o e id,hh.GH,λ a n=>?_⟩ hρ
   cases z:H a with
   | none=>exact .inr rfl
   | some o=>exact .inl λ y=>n (hh.lent a (by rw [z];simp) y)
  | exc c=>rw [q] at hq;exact False.elim hq
  | stuck=>rw [q] at hq;exact False.elim hq
structure CalR {α:Type} (κ:Nat->Addr) (X:Cx) (x:Str) (n:Nat) (ρ:kS α) (m:List D->R α):Prop where
 ex:∃ f fd ps k,FnOk X.prog X.w X.K X.mg X.base (pU X.prog X.w) k f fd ps (GI X.K κ n ρ m)/\Room k X.A/\X.mg x=some (.ref f)/\PySem.W.keepIn X.K (.ref f)=true/\iZ X.K fd ps []
noncomputable def iX {α:Type} (P:Program) (w:World) (K:PySem.W.Frag) (mg:Str->Option Value) (base:Heap) (κ:Nat->Addr) (x:Str) (ps:List Str) (ρ:kS α) (m:List D->R α) (k:Nat):Prop:=
 ∃ f fd,FnOk P w K mg base (pU P w) k f fd ps (GI K κ ps.length ρ m)/\mg x=some (.ref f)/\PySem.W.keepIn K (.ref f)=true/\iZ K fd ps []/\∃ oc od osl,K.lookup f=some ⟨oc,od,.func fd,osl⟩
theorem iX.cal {α:Type} {ρ:kS α} {κ:Nat->Addr} {X:Cx} {x:Str} {ps:List Str} {n:Nat} {m:List D->R α} {k j:Nat} (h:iX X.prog X.w X.K X.mg X.base κ x ps ρ m k) (hr:Room j X.A) (hj:k <= j) (hn:ps.length=n:=by rfl):CalR κ X x n ρ m:=by
 obtain ⟨f,fd,F,h1,h2,h3,_⟩:=h
 subst hn
 exact ⟨f,fd,ps,k,F,hr.mono hj,h1,h2,h3⟩
noncomputable def mF (m:List D->R (List D)):List D->R D:=λ ds=>(m ds).bind λ l=>.ok (.lst l)
theorem FU {K:PySem.W.Frag} {κ:Nat->Addr} {n:Nat} {m:List D->R (List D)}:∀ vs H Q E,GG K κ n (mF m) vs H Q E->GI K κ n ρ1 m vs H Q E:=λ vs H Q E ⟨hl,G,ds,sm,dn,q⟩=>by
 refine ⟨hl,G,ds,sm,dn,?_⟩
 unfold mF at q
 cases z:m ds with
 | ok l =>
  rw [z] at q
  intro v H' G' e1 ⟨a,ws,e2,h1,h2,h3,h4⟩
  subst e2
  have sg:aM G' (upd G' a (.lst ws)):=λ b o z=>by rw [aq (az z h2)];exact z
  exact q _ H' _ (c8 e1 h1 h2 h3) (by unfold aN;exact ⟨a,ws,rfl,bz.of aw,h4.mono sg⟩)
 | exc c=>rw [z] at q;exact q
 | stuck=>rw [z] at q;exact q
theorem iX.mc {P:Program} {w:World} {K:PySem.W.Frag} {mg:Str->Option Value} {base:Heap} {κ:Nat->Addr} {x:Str} {ps:List Str} {m:List D->R (List D)} {k:Nat} (h:iX P w K mg base κ x ps ρ1 m k):MC P w K mg base κ x ps (mF m) k:=by
 obtain ⟨f,fd,F,r⟩:=h
 exact ⟨f,fd,F.imp FU,r⟩
section
variable {κ:Nat->Addr} {B:Gd} {X:Cx} {a:Expr} {es:List Expr} {fs:Ev->R (List D)} {p pos:Pos} {x:Str} {m:List D->R (List D)} {n:Nat}
theorem De (c:Cxo X) (C:CalR κ X x n ρ1 m) (hn:(a :: es).length=n) (hg:Gl X x) (ha:r9 κ B X (a :: es) fs) (hdb:(x == ("__debug__" : Str))=false) (h:(a :: es).all aA=true)
  (hlen:∀ δ ds,fs δ=.ok ds->ds.length=n):xQ κ B X (.Call (.Name x p) (a :: es) [] pos) (λ δ=>(fs δ).bind m):=λ pins σ Ex=>by
 have h':=h
 simp only [List.all_cons,Bool.and_eq_true] at h'
 obtain ⟨f,fd,ps,k,F,hr,hm,hk,hb⟩:=C.ex
 refine be (kJ (X:=At X pins σ Ex) (E:=EX X pins σ Ex) F hr hg hm hk hb .nil (fL c) (ha pins σ Ex) hdb (aB h'.1) (eD h'.2)) λ τ H Q hz=>eQ hz λ G δ rp q=>⟨G,δ,rp,?_⟩
 dsimp only at q
 cases e:fs δ with
 | ok ds =>
  rw [e] at q
  intro v H1 G1 e1 d1
  rw [List.append_nil]
  refine ⟨by rw [Dens.length d1,hlen δ ds e],G1,ds,e1.GH,d1,?_⟩
  have q':=uL.pre e1 q
  simp only [R.bind_ok] at q'
  cases z:m ds with
  | ok l =>
   rw [z] at q'
   rintro v' H' G' e2 ⟨b,ws,rfl,h1,h2,h3,h4⟩
   exact q' b ws H' G' e2 h1 h2 h3 h4
  | exc c=>rw [z] at q';exact q'
  | stuck=>rw [z] at q';exact q'
 | exc c=>rw [e] at q;exact q
 | stuck=>rw [e] at q;exact q
end
end L3
namespace L3
open PySem PySem.Spec PyProof.Rows L2
noncomputable def ri:D->D->R D
 | .int i,.int j=>.ok (.int (Builtin.bitAnd i j))
 | _,_=>.stuck
section
variable {κ:Nat->Addr} {B:Gd} {X:Cx} {a b:Expr} {fa fb:Ev->R D} {pos:Pos}
theorem Fp (ha:dN κ B X a fa) (hb:dN κ B X b fb):PX κ B X (.BinOp a .BitAnd b pos) (m2 ri fa fb):=rG (λ _ _=>HA) (by
 intro x y v u G H Q E s d1 d2 q
 unfold ri at q
 split at q
 ·exact ⟨_,_,nB d1,nB d2,q _ H G (Ext.refl s) nM⟩
 ·exact False.elim q) ha hb
end
section
variable {X:Cx} {tg:Expr}
end
section
variable {κ:Nat->Addr} {B:Gd} {X:Cx} {tg:Expr}
end
section
variable {κ:Nat->Addr} {B:Gd} {X:Cx} {sc:Scope} {x:Str} {px pos:Pos} {iter elt:Expr} {ifs:List Expr} {fit:Ev->R (List D)} {t:Ev->R Bool} {f:Ev->R D}
end
theorem Bq {elt:Expr} {gens:List Comprehension} {sc:Scope} {pos py:Pos} {y:Str} {n:Nat} {env:Env} (hk:env.scope.kind=.function) (h:env.scope.names.lookup y=some .local) (hl:(py.line == pos.line)=true) (hn:(sc.names.any λ p=>p.1 == y && (p.2 == .local || p.2 == .cell))=false) :
  swapsWith (.ListComp elt gens sc pos) (some (.Name y py)) n env=pure true:=by
 show (pure (env.blockKind == .function && env.kindOf y == some .local && py.line == pos.line && !(sc.names.any λ (n,k)=>n == y && (k == .local || k == .cell))):Sem Bool)=_
 have e:env.kindOf y=some .local:=h
 have hb:env.blockKind=.function:=by unfold Env.blockKind;rw [hk];rfl
 rw [hb,e,hl,hn]
 rfl
section
variable {κ:Nat->Addr} {B:Gd} {X:Cx} {sc:Scope} {x y:Str} {px py pos spos:Pos} {iter elt:Expr} {ifs:List Expr} {fit:Ev->R (List D)} {t:Ev->R Bool} {f:Ev->R D} {i:Nat}
end
section
variable {κ:Nat->Addr} {B:Gd} {X:Cx} {e k:Expr} {f fk:Ev->R D} {pos pos' apos:Pos} {x:Str} {i:Nat}
end
noncomputable def nv:D->R D
 | .int i=>.ok (.int (-i))
 | _=>.stuck
section
variable {κ:Nat->Addr} {B:Gd} {X:Cx} {a b:Expr} {fa fb:Ev->R D} {p pos:Pos}
theorem Il (ha:dN κ B X a fa):PX κ B X (.UnaryOp .USub a pos) (m1 nv fa):=λ pins σ Ex =>
 be (JQ Ja (ha pins σ Ex)) λ τ H Q hz=>eQ hz λ G δ rp q=>⟨G,δ,rp,q.seq λ x v H1 G1 e1 d1 q1=>by
  unfold nv at q1
  split at q1
  ·exact ⟨_,nB d1,q1 _ H1 G1 (Ext.refl e1.GH) nM⟩
  ·exact False.elim q1⟩
theorem Df (hg:Gl X "list") (hm:X.mg "list" = none) (ha:dN κ B X a fa) (h:aA a=true):xQ κ B X (.Call (.Name "list" p) [a] [] pos) (λ δ=>(fa δ).bind aV):=λ pins σ Ex =>
 be (tG (X:=At X pins σ Ex) uA hg hm (uw .list) (bw (X:=At X pins σ Ex) (ha pins σ Ex) cA (aB h)) (by decide) (by decide) (aB h) rfl) λ τ H Q hz=>eQ hz λ G δ rp q=>⟨G,δ,rp,by
  dsimp only at q
  cases e:fa δ with
  | exc c=>rw [e] at q;exact q
  | stuck=>rw [e] at q;exact q
  | ok d =>
   rw [e] at q
   intro v H1 G1 e1 d1
   have q1:=uL.pre e1 q
   have fin:∀ {p:Addr} {ys:List V} {ds:List D},(bz X.K H1 p ys \/ mS X.K H1 p ys)->Dens ⟨X.K,κ⟩ G1 ys ds->uL X κ (EX X pins σ Ex) G1 H1 (.ok ds) Q->∃ p' ys',[V.ref p]=[V.ref p']/\(bz X.K H1 p' ys' \/ mS X.K H1 p' ys')/\∀ l,H1 l=none->Q (.ref l) (upd H1 l (.lst ys')):=λ {p ys ds} h1 h2 h3 =>
    ⟨p,ys,rfl,h1,λ l hl=>h3 l ys _ G1 (nQ e1.GH hl) aw (e1.GH.free hl) hl h2⟩
   cases d with
   | lst ds =>
    rcases d1 with d1 | ⟨l,vs,es,rfl,e2,h3,h4⟩
    ·unfold aN at d1
     obtain ⟨l,vs,rfl,h1,h2⟩:=d1
     exact fin (.inl (e1.GH.seq h1)) h2 q1
    ·cases e2
     exact fin (.inl (bz.of h3)) h4 q1
   | tup ds =>
    rcases d1 with d1 | ⟨l,vs,es,rfl,e2,h3,h4⟩
    ·unfold aN at d1
     obtain ⟨l,vs,rfl,h1,h2⟩:=d1
     exact fin (.inr (bE e1.GH h1)) h2 q1
    ·cases e2
   | _=>exact False.elim q1⟩
end
end L3
namespace L3
open PySem PySem.Spec PyProof.Rows L2
noncomputable def Kt (K:PySem.W.Frag) (a:Addr):It:=
 ⟨λ i H=>∃ xs x,bz K H a xs/\xs[i]?=some x,λ i H x H'=>∃ v p,(∀ xs,bz K H a xs->xs[i]?=some v)/\H p=none/\x=.ref p/\H'=upd H p (.tup [.int (i:Nat),v]),λ i H=>∃ xs,bz K H a xs/\xs.length <= i⟩
theorem tQ {P:Program} {w:World} {K:PySem.W.Frag} {tgs:List Expr} {kk:Nat} {tpos:Pos} (l e it:Addr) (hne:e ≠ it):Turn P w K (.Tuple tgs kk tpos) (Kt K l) [e,it] e (λ i h=>(∃ old,IsEnum h e it (i:Nat) old)/\h.IsListIter it l i) where
 mem:=by simp
 obj:=λ i h st b hb=>by
  obtain ⟨⟨old,h1⟩,o,h2,_,h3⟩:=st
  rcases List.mem_cons.mp hb with rfl | hb
  ·exact ⟨_,h1,λ v z=>by
    have z':Data.fields _=Data.cell v:=z
    cases z'⟩
  ·have e':b=it:=by simpa using hb
   subst e'
   exact ⟨o,h2,λ v z=>by rw [h3] at z;cases z⟩
 keep:=λ i h h' st k=>by
  obtain ⟨⟨old,h1⟩,h2⟩:=st
  exact ⟨⟨old,k e (by simp) _ h1⟩,h2.at λ o x=>k it (by simp) o x⟩
 item:=by
  intro X hP hw hK hc i pins s σ H E I hf st hg
  subst hP hw hK
  obtain ⟨⟨old,h1⟩,h2⟩:=st
  obtain ⟨xs,x,hq,hx⟩:=hg
  obtain ⟨its,rv,p,hz⟩:=I.list hq
  obtain ⟨u,hu,ru⟩:=rv.get hx
  obtain ⟨f0,f1,f2,f3,f4,f5⟩:=hf e (by simp)
  obtain ⟨g0,g1,g2,g3,g4,g5⟩:=hf it (by simp)
  have hes:e < s.heap.objs.size:=Heap.lt_size h1
  refine wpAny_pyNext_enum_item h1 h2 p.isList (x:=u) (by simpa using hu) hne λ h' ho hi ht hs hk=>⟨_,rfl,?_⟩
  refine wpAny_letOwnedTupleGo_enum ho λ h'' he hsb=>?_
  have hn:H s.heap.objs.size=none:=I.hok.fresh (Nat.le_refl _)
  have tup:h''.get? s.heap.objs.size=some { cls:=.type "tuple",data:=.seq #[.int i s.toks,u] }:=hsb.extBut _ _ (Nat.ne_of_gt hes) ht
  have kp:∀ b o,b ≠ e->b ≠ it->s.heap.get? b=some o->h''.get? b=some o:=λ b o hb1 hb2 q=>hsb.extBut b o hb1 (hk b o hb1 hb2 q)
  have nin:∀ {b:Addr},b ∉ [e,it]->b ≠ e/\b ≠ it:=λ {b} h=>by simpa using h
  have ne_tr:∀ b o,H b=some o->b ≠ e/\b ≠ it:=λ b o q=>⟨(by rintro rfl;rw [f0] at q;cases q),(by rintro rfl;rw [g0] at q;cases q)⟩
  have nep:∀ b o,s.heap.get? b=some o->b ≠ s.heap.objs.size:=λ b o q=>Nat.ne_of_lt (Heap.lt_size q)
  have J:=I.step (H':=upd H s.heap.objs.size (.tup [.int (i:Nat),x])) (h':=h'') (g':=s.gens) (d':=s.drawn) (t':=s.toks + 1) (ch:=[e,it]) (λ b hb=>by
    rcases List.mem_cons.mp hb with rfl | hb
    ·exact ⟨f3.imp id Heap.get?_none_of_le,f1,f4,f5⟩
    ·have e':b=it:=by simpa using hb
     subst e'
     exact ⟨g3.imp id Heap.get?_none_of_le,g1,g4,g5⟩)
   (λ b o _ _ hch q _=>kp b o (nin hch).1 (nin hch).2 q) (λ b o _ _ hch q _=>⟨o.slots,kp b o (nin hch).1 (nin hch).2 q⟩) (λ b o _ q n=>by rw [aq (nep b o q)];exact n)
   (λ b o hch q=>⟨o,kp b o (nin hch).1 (nin hch).2 q⟩) (λ b xs q=>by rw [aq (az q hn)];exact q) (λ b o u q=>by rw [aq (az q hn)];exact q) (λ b ps q=>⟨#[],by rw [aq (az q hn),q];simp⟩)
   (λ m hm=>by
    obtain ⟨o,es,ep,ho',r⟩:=hm
    exact ⟨o,es,ep,kp _ o (Ne.symm f1) (Ne.symm g1) ho',r⟩)
   (λ b o q=>by
    by_cases hb:b=s.heap.objs.size
    ·subst hb
     rw [aw] at q
     cases q
     exact ⟨by simp [sizeLine_eq],[.int i s.toks,u],.cons ⟨_,rfl⟩ (.cons ru .nil),_,tup,rfl,_,rfl⟩
    ·rw [aq hb] at q
     refine (I.hok b o q).stay (λ c v hc q'=>?_) (λ c q'=>by rw [aq (az q' hn)];exact q') λ c xs q'=>by rw [aq (az q' hn)];exact q'
     have hcc:c ≠ e/\c ≠ it:=by
      rcases hc with z | z
      ·rw [z];exact ne_tr b o q
      ·exact ne_tr c _ z
     exact kp c v hcc.1 hcc.2 q') I.bare
  refine ⟨.ref s.heap.objs.size,_,J,rfl,⟨x,_,λ ys hy=>by rw [I.list_inj hy hq];exact hx,hn,rfl,rfl⟩,⟨⟨u,?_⟩,(hi.extBut hsb.extBut (Ne.symm hne))⟩,λ b hb=>?_⟩
  ·have he':IsEnum h'' e it ((i:Int) + 1) u:=he
   rw [show (((i + 1:Nat)):Int)=(i:Int) + 1 by push_cast;rfl]
   exact he'
  ·have hlt:b < s.heap.objs.size:=by
    rcases List.mem_cons.mp hb with rfl | hb
    ·exact hes
    ·have e':b=it:=by simpa using hb
     subst e'
     obtain ⟨o,ho',_⟩:=h2
     exact Heap.lt_size ho'
   rw [aq (Nat.ne_of_lt hlt)]
   exact (hf b hb).1
 done:=by
  intro X hP hw hK hc i pins s σ H E I hf st hg
  subst hP hw hK
  obtain ⟨⟨old,h1⟩,h2⟩:=st
  obtain ⟨xs,hq,hx⟩:=hg
  obtain ⟨its,rv,p,hz⟩:=I.list hq
  obtain ⟨g0,g1,g2,g3,g4,g5⟩:=hf it (by simp)
  have hl:=rv.length
  exact wpAny_pyNext_enum_end (I.ok.hd hc) h1 h2 p.isList (by simp;omega) λ h' eb=>⟨rfl,I.turned (t':=s.toks) (λ b o hb e=>eb b o hb e) g0 g1 g3 g4 g5⟩
 self:=λ _ _ _ _ _ st h=>by
  obtain ⟨⟨old,h1⟩,_⟩:=st
  exact wpAny_pyIter_enum h1 h
noncomputable def bM:Nat->List D->List D
 | _,[]=>[]
 | n,d :: ds=>.tup [.int (n:Int),d] :: bM (n + 1) ds
noncomputable def pL:D->R (List D)
 | .lst ds=>.ok (bM 0 ds)
 | _=>.stuck
theorem kC:∀ (ds:List D) (n:Nat),(bM n ds).length=ds.length
 | [],_=>rfl
 | d :: ds,n=>by simp [bM,kC ds (n + 1)]
theorem nO:∀ (ds:List D) (n i:Nat) (d:D),(bM n ds)[i]?=some d->∃ x,ds[i]?=some x/\d=.tup [.int ((n + i:Nat):Int),x]
 | [],_,_,_,h=>by simp [bM] at h
 | x :: ds,n,0,d,h=>by simp [bM] at h;exact ⟨x,rfl,h.symm⟩
 | x :: ds,n,i + 1,d,h=>by
  simp only [bM,List.getElem?_cons_succ] at h
  obtain ⟨y,h1,h2⟩:=nO ds (n + 1) i d h
  exact ⟨y,by simpa using h1,by rw [h2];congr 3;omega⟩
theorem rb {X:Cx} {κ:Nat->Addr} {G:Hp} {a:Addr} {vs:List V} {ds:List D} (h:bz X.K G a vs) (d:Dens ⟨X.K,κ⟩ G vs ds):qy X κ (Kt X.K a) G (bM 0 ds):=by
 intro H' G' s1 s2 i
 have sq:bz X.K H' a vs:=(s1.trans s2).seq h
 refine ⟨λ e he=>?_,λ hi=>⟨vs,sq,by rw [d.length,<- kC ds 0];exact hi⟩⟩
 obtain ⟨y,hy,rfl⟩:=nO ds 0 i e he
 obtain ⟨v,hv,dv⟩:=d.get hy
 refine ⟨⟨vs,v,sq,hv⟩,?_⟩
 rintro x H'' ⟨v',p,q1,q3,rfl,rfl⟩
 have q2:=q1 vs sq
 rw [hv] at q2
 cases q2
 have ee:=i7 (o:=.tup [.int (i:Nat),v]) s2 q3
 refine ⟨_,ee,?_⟩
 unfold aN
 refine ⟨p,_,rfl,mS.of aw,aP (by unfold aN;simp) (aP ((dv.mono s1).mono ee.sG) bg)⟩
section
variable {κ:Nat->Addr} {B:Gd} {X:Cx} {e:Expr} {f:Ev->R D} {tgs:List Expr} {kk:Nat} {p pos tpos:Pos}
theorem C6 (hg:Gl X "enumerate") (hm:X.mg "enumerate" = none) (h:PX κ B X e f) (hs:aA e=true):Jq κ B X (.Tuple tgs kk tpos) (.Call (.Name "enumerate" p) [e] [] pos) (λ δ=>(f δ).bind pL):=λ pins σ Ex pins' s τ H R I hz=>eQ hz λ G δ rp q=>by
 dsimp only at q
 refine Call_ (gM I hg hm boot_enumerate (PyProof.Rows.callWith_type1 (br (bw (X:=At X pins σ Ex) (h pins σ Ex) cA (aB hs) pos pins' s τ H (λ vs H1=>∃ a xs ds G1,vs=[.ref a]/\bz X.K G1 a xs/\Dens ⟨X.K,κ⟩ G1 xs ds/\Ext G H G1 H1/\R (Kt X.K a) H1) I ⟨G,δ,rp,?_⟩) λ us s1 ⟨vs,H1,I1,r1,q1⟩=>?_) (aB hs) rfl))
 ·cases e':f δ with
  | ok d =>
   rw [e'] at q
   cases d with
   | lst ds =>
    intro v H1 G1 e1 d1
    unfold nN aN at d1
    obtain ⟨a,xs,rfl,h1,h2⟩:=d1
    exact ⟨a,xs,ds,G1,rfl,h1,h2,e1,q _ H1 G1 e1 (rb h1 h2)⟩
   | _=>exact False.elim q
  | exc c=>rw [e'] at q;exact q
  | stuck=>rw [e'] at q;exact False.elim q
 ·obtain ⟨a,xs,ds,G1,rfl,h1,h2,e1,q1⟩:=q1
  cases r1 with
  | cons r rr =>
   cases rr
   cases r
   obtain ⟨its,rv,pl,hz⟩:=I1.list (e1.GH.seq h1)
   refine call_enumerate_list pl.isList λ h' he hi hsz hk=>?_
   refine wpAny_pyIter_enum he ?_
   have I2:Inv (At X pins σ Ex) pins' τ H1 { s1 with heap:=h' }:=I1.kept (t':=s1.toks) hk
   refine ⟨s1.heap.objs.size + 1,[s1.heap.objs.size + 1,s1.heap.objs.size],_,_,H1,rfl,I2,tQ a _ _ (Nat.succ_ne_self _),⟨⟨_,he⟩,hi⟩,λ b hb=>?_,q1⟩
   rcases List.mem_cons.mp hb with rfl | hb
   ·exact I1.fpOk (Nat.le_succ _) (I1.hok.fresh (Nat.le_succ _))
   ·have e':b=s1.heap.objs.size:=by simpa using hb
    subst e'
    exact I1.fpOk (Nat.le_refl _) (I1.hok.fresh (Nat.le_refl _))
theorem Jd (cx:Cxo X) (hc:X.calm=true) {tg iter:Expr} {body:List Stmt} {fit:Ev->R (List D)} {bd:D->Ev->Option Ev} {F:Ev->SR} (hi:Jq κ B X tg iter fit) (hg:∀ B,xP κ B X tg bd) (hb:∀ B,sP κ B X body F) (h:vW iter=true):PZ κ B X (.For tg iter body [] pos) (cG fit bd F):=zO cx hc hi hg hb (kD h)
end
end L3
namespace L3
open PySem PySem.Spec PyProof.Rows L2
section
variable {κ:Nat->Addr} {B:Gd} {X:Cx} {a e tg:Expr} {f fa:Ev->R D} {p pos:Pos}
end
end L3
namespace L3
open PySem PySem.Spec PyProof.Rows L2
section
variable {κ:Nat->Addr} {B:Gd} {X:Cx} {a b:Expr} {fa fb:Ev->R D} {p pos:Pos}
end
end L3
namespace L3
open PySem PySem.Spec PyProof.Rows L2
end L3
namespace L3
open PySem PySem.Spec PyProof.Rows L2
section
variable {κ:Nat->Addr} {B:Gd} {X:Cx} {a b:Expr} {fs:Ev->R (List D)} {p pos p' pos':Pos}
end
end L3
namespace L3
open PySem PySem.Spec PyProof.Rows L2
theorem Dens.rev {Z:Zx} {G:Hp}:∀ {vs:List V} {ds:List D},Dens Z G vs ds->Dens Z G vs.reverse ds.reverse:=by
 intro vs
 induction vs with
 | nil=>intro ds h;cases ds with
  | nil=>exact h
  | cons _ _=>unfold Dens at h;exact h.elim
 | cons v vs ih=>intro ds h;cases ds with
  | nil=>unfold Dens at h;exact h.elim
  | cons d ds =>
   unfold Dens at h
   rw [List.reverse_cons,List.reverse_cons]
   exact (ih h.2).append (aP h.1 bg)
noncomputable def sM (i:Nat):Ev->SR:=λ δ=>match δ[i]? with
 | some (some (.ow ds))=>.next (δ.set i (some (.ow ds.reverse)))
 | _=>.stuck
section
variable {κ:Nat->Addr} {B:Gd} {X:Cx} {pos pos' pos'' apos:Pos}
theorem yP (cx:Cxo X) {i:Nat} {x:Str} (hN:X.N[i]?=some x) (hv:kT X.env.scope x) (hd:(x == ("__debug__" : Str))=false) (hcd:(x == ("__classdict__" : Str))=false) (hline:(apos.endLine == pos'.line)=true) :
  PZ κ B X (.Expr (.Call (.Attribute (.Name x pos) "reverse" apos) [] [] pos') pos'') (sM i):=λ Ex pins s σ H G δ Dn hp I rp q=>by
 unfold sM at q
 split at q
 ·rename_i ds ed
  obtain ⟨a,vs,x1,x2,x3,x4,x5⟩:=rp.ow i ds ed
  have pe:=vf (X:=At X pins σ Ex) PySem.F.plainAttrs_list PySem.F.slot_list_reverse PySem.F.type_list_reverse nq (b0 (X:=At X pins σ Ex) (pos:=pos) hN hv hd hcd) rfl hline
  refine wpAny_Expr_any (br (pe pins s σ H (λ _ H'=>∃ G' δ',Rep ⟨X.K,κ⟩ B X.H₀ G' H' σ δ'/\c0 κ B X Ex pins Dn (.next δ')) (bq I) ⟨.ref a,x1,.inl ⟨rfl,vs,bz.of x2⟩,?_⟩) (by rintro v s1 ⟨y,H',I',r,G',δ',rp',q⟩;exact ⟨σ,H',aH cx.sg I',q σ H' G' rp'⟩)) I.quiet (aZ rfl)
  exact ⟨a,vs,rfl,rfl,x2,G,_,rp.updOw ed x1 (Dens.rev x3),q⟩
 ·exact False.elim q
end
end L3
namespace L3
open PySem PySem.Spec PyProof.Rows L2
theorem mq {ns:List Int} {its:List Value} (r:ba (ns.map V.int) its):∀ (i:Nat) (v:Value),its.toArray[i]?=some v->∃ t,v=.int (ns.getD i 0) t:=by
 intro i v h
 rw [List.getElem?_toArray] at h
 induction ns generalizing its i with
 | nil=>cases its with
  | nil=>simp at h
  | cons _ _=>cases r
 | cons n ns ih=>cases its with
  | nil=>simp at h
  | cons u us =>
   cases r with
   | cons hu t =>
    cases i with
    | zero =>
     obtain ⟨k,hk⟩:∃ k,u=Value.int n k:=hu
     have e:u=v:=by simpa using h
     exact ⟨k,by rw [<- e,hk];rfl⟩
    | succ i =>
     obtain ⟨k,hk⟩:=ih t i (by simpa using h)
     exact ⟨k,by rw [hk];rfl⟩
noncomputable def bC:List Int->Int
 | []=>0
 | n :: ns=>n + bC ns
theorem yN (ns:List Int) (n:Nat) (h:n <= ns.length):preSum (λ i=>ns.getD i 0) n=bC (ns.take n):=by
 have ap:∀ (xs:List Int) (y:Int),bC (xs++[y])=bC xs + y:=by
  intro xs y
  induction xs with
  | nil=>simp [bC]
  | cons x xs ih=>simp only [List.cons_append,bC,ih];omega
 induction n with
 | zero=>rfl
 | succ n ih =>
  have e:ns.take (n + 1)=ns.take n++[ns.getD n 0]:=by
   rw [List.take_add_one,List.getD_eq_getElem?_getD,List.getElem?_eq_getElem (by omega)];rfl
  rw [e,ap,<- ih (by omega)]
  rfl
theorem BS {X:Cx} (hc:X.calm=true):jM X (.builtin "sum") (λ xs H Q=>∃ (p:Addr) (ns:List Int),xs=[.ref p]/\bz X.K H p (ns.map V.int)/\Q (.int (bC ns)) H):=by
 intro pins s σ H xs us Q I r h
 obtain ⟨p,ns,rfl,hq,q⟩:=h
 obtain ⟨u,rfl,rx⟩:=rX r
 cases rx
 obtain ⟨its,r',pl,hz⟩:=I.list hq
 have hlen:=r'.length
 rw [List.length_map] at hlen
 refine call_sum_walkG (wpAny_pyIter_list pl.isList ?_)
 have hp0:p < s.heap.objs.size:=by
  obtain ⟨o,ho,_⟩:=pl.isList
  exact Heap.lt_size ho
 have hp:p ≠ s.heap.objs.size:=Nat.ne_of_lt hp0
 have W:Walks X.prog X.w X.A.in1 s.heap.objs.size _ _ _ _ _:=Walks.list (A:=X.A.in1) (show X.A.in1.handled=none from I.ok.hd hc) s.heap.objs.size p hp its.toArray
 refine ⟨s.heap.objs.size,_,_,_,_,_,(λ i=>ns.getD i 0),rfl,W,⟨⟨_,Heap.get?_push_size _ rfl,rfl,rfl⟩,?_⟩,?_,?_,?_⟩
 ·exact pl.isList.at λ o e=>Heap.get?_push_of_some _ e
 ·intro b hb
  have hsz:(s.heap.push { cls:=.type "list_iterator",data:=.fields #[.ref p,.int 0 0] }).objs.size=s.heap.objs.size + 1:=by simp [Heap.push]
  rcases List.mem_cons.mp hb with rfl | hb
  ·exact Heap.lt_size (Heap.get?_push_size _ rfl)
  ·have e:b=p:=by simpa using hb
   subst e
   obtain ⟨o,ho,_⟩:=pl.isList
   exact Heap.lt_size (Heap.get?_push_of_some _ ho)
 ·exact mq r'
 ·intro h' tk t' kk
  refine ⟨.int (bC ns),H,I.kept (t':=tk) λ b o e=>kk b o ?_ (Heap.get?_push_of_some _ e),⟨t',?_⟩,q⟩
  ·intro hb
   have e1:b=s.heap.objs.size:=by simpa using hb
   subst e1
   exact absurd (Heap.lt_size e) (Nat.lt_irrefl _)
  ·rw [List.size_toArray,<- hlen,yN ns ns.length (Nat.le_refl _),List.take_length]
noncomputable def i9:List D->Option (List Int)
 | []=>some []
 | .int b :: ds=>(i9 ds).map (b :: ·)
 | _=>none
noncomputable def AM:D->R D
 | .lst ds=>match i9 ds with
  | some ns=>.ok (.int (bC ns))
  | none=>.stuck
 | _=>.stuck
theorem ky {K} {G:Hp} {vs:List V} {ds:List D} {bs:List Int} (h:Dens K G vs ds) (e:i9 ds=some bs):vs=bs.map V.int:=by
 induction ds generalizing vs bs with
 | nil=>cases e;cases vs with
  | nil=>rfl
  | cons _ _=>cases h
 | cons d ds ih =>
  cases d with
  | int b =>
   cases e1:i9 ds with
   | none=>simp [i9,e1] at e
   | some bs1 =>
    have e2:bs=b :: bs1:=by simpa [i9,e1] using e.symm
    subst e2
    cases vs with
    | nil=>cases h
    | cons v vs =>
     obtain ⟨h1,h2⟩:aN K G v (.int b)/\Dens K G vs ds:=by
      first | exact h | (cases h;constructor <;> assumption)
     unfold aN at h1
     subst h1
     rw [ih h2 e1];rfl
  | _=>simp [i9] at e
section
variable {κ:Nat->Addr} {B:Gd} {X:Cx} {a b:Expr} {fa fb:Ev->R D} {p pos:Pos}
theorem Ko (hc:X.calm=true) (hg:Gl X "sum") (hm:X.mg "sum" = none) (ha:dN κ B X a fa) (h:aA a=true):PX κ B X (.Call (.Name "sum" p) [a] [] pos) (m1 AM fa):=λ pins σ Ex =>
 be (ma (X:=At X pins σ Ex) (BS hc) hg hm boot_sum (bw (X:=At X pins σ Ex) (ha pins σ Ex) cA (aB h)) (by decide) (by decide) (aB h) rfl) λ τ H Q hz=>eQ hz λ G δ rp q=>⟨G,δ,rp,q.seq λ x v H1 G1 e1 d1 q1=>by
  cases x with
  | lst ds =>
   simp only [AM] at q1
   split at q1
   ·rename_i bs eb
    have fin:∀ {q:Addr} {vs:List V},bz X.K H1 q vs->Dens ⟨X.K,κ⟩ G1 vs ds->∃ (p:Addr) (bs:List Int),[V.ref q]=[V.ref p]/\bz X.K H1 p (bs.map V.int)/\Q (.int (bC bs)) H1:=λ {q vs} h1 h2 =>
     ⟨q,bs,rfl,ky h2 eb ▸ h1,q1 _ H1 G1 (Ext.refl e1.GH) nM⟩
    rcases d1 with d1 | ⟨l,vs,es,rfl,e,h3,h4⟩
    ·unfold aN at d1
     obtain ⟨l,vs,rfl,h1,h2⟩:=d1
     exact fin (e1.GH.seq h1) h2
    ·cases e
     exact fin (bz.of h3) h4
   ·exact False.elim q1
  | _=>exact False.elim q1⟩
end
end L3
namespace L3
open PySem PySem.Spec PyProof.Rows L2
noncomputable def KH (K:PySem.W.Frag) (a:Addr) (n:Nat):It:=
 ⟨λ i H=>i < n/\∃ xs,bz K H a xs/\xs.length=n,λ i H x H'=>H'=H/\∀ xs,bz K H a xs->xs[n - 1 - i]?=some x,λ i H=>n <= i⟩
theorem DU {P:Program} {w:World} {K:PySem.W.Frag} {tg:Expr} (a it:Addr) (n:Nat):Turn P w K tg (KH K a n) [it] it (λ i h=>i <= n/\h.IsRevIter it a ((n:Int) - 1 - (i:Nat))) where
 mem:=by simp
 obj:=λ i h st b hb=>by
  have e:b=it:=by simpa using hb
  subst e
  obtain ⟨_,o,e,c,d⟩:=st
  exact ⟨o,e,λ v z=>by rw [d] at z;cases z⟩
 keep:=λ i h h' st k=>⟨st.1,st.2.at λ o e=>k it (by simp) o e⟩
 item:=by
  intro X hP hw hK hc i pins s σ H E I hf st hg
  subst hP hw hK
  obtain ⟨hi,xs,hq,hn⟩:=hg
  obtain ⟨its,rv,p,hz⟩:=I.list hq
  have hx:xs[n - 1 - i]?=some (xs[n - 1 - i]'(by omega)):=List.getElem?_eq_getElem (by omega)
  obtain ⟨u,hu,ru⟩:=rv.get hx
  obtain ⟨f0,f1,f2,f3,f4,f5⟩:=hf it (by simp)
  have hit:=st.2
  have e:(n:Int) - 1 - (i:Nat)=((n - 1 - i:Nat):Int):=by omega
  rw [e] at hit
  refine wpAny_pyNext_rev_item hit p.isList (x:=u) (by simpa using hu) λ h' st' sb=>?_
  have e2:((n - 1 - i:Nat):Int) - 1=(n:Int) - 1 - ((i + 1:Nat):Nat):=by omega
  rw [e2] at st'
  have I1:Inv X pins σ H { s with heap:=h' }:=I.turned (t':=s.toks) (λ b o hb e=>(sb.2 b hb).trans e) f0 f1 f3 f4 f5
  obtain ⟨o,e,c,d⟩:=id st'
  exact ⟨u,rfl,zt (s:={ s with heap:=h' }) e c d (by decide) ⟨_,H,I1,ru,⟨rfl,λ ys hy=>by rw [I.list_inj hy hq];exact hx⟩,⟨hi,st'⟩,λ b hb=>(hf b hb).1⟩⟩
 done:=by
  intro X hP hw hK hc i pins s σ H E I hf st hg
  subst hP hw hK
  have hg':n <= i:=hg
  obtain ⟨f0,f1,f2,f3,f4,f5⟩:=hf it (by simp)
  have hit:=st.2
  have e:(n:Int) - 1 - (i:Nat) = -1:=by have:=st.1;omega
  rw [e] at hit
  exact wpAny_pyNext_rev_end (I.ok.hd hc) hit λ h' eb=>⟨rfl,I.turned (t':=s.toks) (λ b o hb e=>eb b o hb e) f0 f1 f3 f4 f5⟩
 self:=λ _ _ _ _ _ st h=>wpAny_pyIter_revIter st.2 h
noncomputable def K6 (K:PySem.W.Frag) (ta:TA):TI:=λ σ H R=>ta σ H λ vs H1=>∃ a xs,vs=[.ref a]/\bz K H1 a xs/\R (KH K a xs.length) H1
theorem HM {X:Cx} {tg a:Expr} {ta:TA} {p pos:Pos} (hg:Gl X "reversed") (hm:X.mg "reversed" = none) (ha:PA X [a] ta) (hs:aA a=true):PI X tg (.Call (.Name "reversed" p) [a] [] pos) (K6 X.K ta):=by
 intro pins s σ H R I h
 refine Call_ (gM I hg hm boot_reversed (PyProof.Rows.callWith_type1 (br (ha pos pins s σ H _ I h) λ us s1 ⟨vs,H1,I1,r1,q1⟩=>?_) (aB hs) rfl))
 obtain ⟨l,xs,e,hq,q⟩:=q1
 subst e
 obtain ⟨u,rfl,rx⟩:=rX r1
 cases rx
 obtain ⟨its,rv,pl,hz⟩:=I1.list hq
 have hl:=rv.length
 refine call_reversed_list pl.isList ?_
 have hit:(s1.heap.push (revObj l ((its.toArray.size:Int) - 1))).IsRevIter s1.heap.objs.size l ((xs.length:Int) - 1 - ((0:Nat):Nat)):=by
  refine ⟨_,Heap.get?_push_size _ rfl,rfl,?_⟩
  show Data.fields _=_
  rw [List.size_toArray,<- hl]
  simp
 refine wpAny_pyIter_revIter (i:=(xs.length:Int) - 1 - ((0:Nat):Nat)) hit ?_
 refine ⟨s1.heap.objs.size,[s1.heap.objs.size],_,_,H1,rfl,I1.kept (t':=s1.toks) λ b o e=>Heap.get?_push_of_some _ e,DU l _ xs.length,⟨Nat.zero_le _,hit⟩,λ b hb=>?_,q⟩
 have e:b=s1.heap.objs.size:=by simpa using hb
 subst e
 exact I1.fpOk (Nat.le_refl _) (I1.hok.fresh (Nat.le_refl _))
end L3
namespace L3
open PySem PySem.Spec PyProof.Rows L2
noncomputable def vI:D->R (List D)
 | .lst ds=>.ok ds.reverse
 | _=>.stuck
section
variable {κ:Nat->Addr} {B:Gd} {X:Cx} {e tg:Expr} {f:Ev->R D} {p pos:Pos}
theorem Cm {G:Hp} {a:Addr} {vs:List V} {ds:List D} (h:bz X.K G a vs) (d:Dens ⟨X.K,κ⟩ G vs ds):vZ X κ (KH X.K a vs.length) G ds.reverse:=by
 refine ⟨vs.reverse,Dens.rev d,λ H' s i=>⟨λ hi=>⟨?_,λ x H'' y=>?_⟩,λ hi=>?_⟩⟩
 ·rw [List.length_reverse] at hi
  exact ⟨hi,vs,s.seq h,rfl⟩
 ·rw [List.length_reverse] at hi
  obtain ⟨y1,y2⟩:=y
  refine ⟨y1,?_⟩
  rw [List.getElem?_reverse hi]
  exact y2 vs (s.seq h)
 ·rw [List.length_reverse] at hi
  exact hi
theorem Fd (hg:Gl X "reversed") (hm:X.mg "reversed" = none) (h:PX κ B X e f) (hs:aA e=true):Gm κ B X tg (.Call (.Name "reversed" p) [e] [] pos) (λ δ=>(f δ).bind vI):=λ pins σ Ex =>
 vg (HM (X:=At X pins σ Ex) hg hm (bw (X:=At X pins σ Ex) (h pins σ Ex) cA (aB hs)) hs) λ τ H R hz=>eQ hz λ G δ rp q=>⟨G,δ,rp,q.seq λ x v H1 G1 e1 d1 q1=>by
  cases x with
  | lst ds =>
   unfold nN aN at d1
   obtain ⟨a,vs,rfl,h1,h2⟩:=d1
   exact ⟨a,vs,rfl,e1.GH.seq h1,q1 _ H1 G1 (Ext.refl e1.GH) (Cm h1 h2)⟩
  | _=>exact False.elim q1⟩
end
end L3
namespace L3
open PySem PySem.Spec PyProof.Rows L2
end L3
namespace L3
open PySem PySem.Spec PyProof.Rows L2
section
variable {κ:Nat->Addr} {B:Gd} {X:Cx} {a:Expr} {fa:Ev->R D} {pos:Pos}
end
end L3
namespace L3
open PySem
theorem qG (xs:Array Nat) (j:Nat) (hr:∀ i k:Nat,i < k->k < xs.size->xs.getD i j < xs.getD k j):∀ (fuel lo hi:Nat),hi - lo <= fuel->lo <= hi->hi <= xs.size →
  (∀ i,i < lo->xs.getD i j < j)->(∀ i,hi <= i->i < xs.size->j <= xs.getD i j) →
  (∀ i,i < SetTable.below.go xs j fuel lo hi->xs.getD i j < j)/\(∀ i,SetTable.below.go xs j fuel lo hi <= i->i < xs.size->j <= xs.getD i j)/\SetTable.below.go xs j fuel lo hi <= xs.size
 | 0,lo,hi,hf,hl,hs,h1,h2=>by
  have:lo=hi:=by omega
  subst this
  unfold SetTable.below.go
  exact ⟨h1,h2,hs⟩
 | fuel + 1,lo,hi,hf,hl,hs,h1,h2=>by
  unfold SetTable.below.go
  by_cases c:lo < hi
  ·rw [if_pos c]
   dsimp only
   by_cases d:xs.getD ((lo + hi) / 2) j < j
   ·rw [if_pos d]
    refine qG xs j hr fuel _ _ (by omega) (by omega) hs (λ i hi'=>?_) h2
    by_cases e:i=(lo + hi) / 2
    ·rw [e];exact d
    ·have:=hr i ((lo + hi) / 2) (by omega) (by omega)
     omega
   ·rw [if_neg d]
    refine qG xs j hr fuel _ _ (by omega) (by omega) (by omega) h1 λ i hi' hi2=>?_
    by_cases e:i=(lo + hi) / 2
    ·rw [e];omega
    ·have:=hr ((lo + hi) / 2) i (by omega) hi2
     omega
  ·rw [if_neg c]
   have:lo=hi:=by omega
   subst this
   exact ⟨h1,h2,hs⟩
theorem fF {xs:Array Nat} {i d:Nat} (h:i < xs.size):xs.getD i d=xs.toList[i]'(by simpa using h):=by
 simp [Array.getD,h]
theorem vK {xs:Array Nat} (h:xs.toList.Pairwise (· < ·)) (j:Nat):∀ i k:Nat,i < k->k < xs.size->xs.getD i j < xs.getD k j:=by
 intro i k hik hk
 rw [fF (by omega),fF hk]
 exact List.pairwise_iff_getElem.mp h i k (by simpa using (by omega:i < xs.size)) (by simpa using hk) hik
theorem mU {xs:Array Nat} (h:xs.toList.Pairwise (· < ·)) (j:Nat) :
  (∀ i,i < SetTable.below xs j->xs.getD i j < j)/\(∀ i,SetTable.below xs j <= i->i < xs.size->j <= xs.getD i j)/\SetTable.below xs j <= xs.size:=by
 unfold SetTable.below
 exact qG xs j (vK h j) xs.size 0 xs.size (by omega) (by omega) (Nat.le_refl _) (by intro i hi;omega) (by intro i h1 h2;omega)
theorem qH {xs:Array Nat} (h:xs.toList.Pairwise (· < ·)) {k:Nat} (hk:k < xs.size):SetTable.below xs (xs.getD k 0 + 1)=k + 1:=by
 obtain ⟨h1,h2,h3⟩:=mU h (xs.getD k 0 + 1)
 have g:∀ d d' i,i < xs.size->xs.getD i d=xs.getD i d':=λ d d' i hi=>by rw [fF hi,fF hi]
 apply Nat.le_antisymm
 ·apply Nat.le_of_not_lt
  intro c
  have:=h1 (k + 1) c
  have h4:=vK h 0 k (k + 1) (by omega) (by omega)
  rw [g (xs.getD k 0 + 1) 0 (k + 1) (by omega)] at this
  omega
 ·apply Nat.le_of_not_lt
  intro c
  have:=h2 k (by omega) hk
  rw [g (xs.getD k 0 + 1) 0 k hk] at this
  omega
theorem qI {xs:Array Nat} (h:xs.toList.Pairwise (· < ·)):SetTable.below xs 0=0:=by
 obtain ⟨h1,_,_⟩:=mU h 0
 apply Nat.eq_zero_of_not_pos
 intro c
 have:=h1 0 c
 omega
noncomputable def zW (bt:Bool) (t:SetTable):Prop:=t.dummies = #[]/\t.place.toList.Pairwise (· < ·)/\(bt=true \/ t.led=true)
theorem Bs (bt:Bool):zW bt (.fresh 0 0 (!bt)):=⟨rfl,List.Pairwise.nil,by cases bt <;> simp [SetTable.fresh]⟩
theorem FS {t:SetTable} (h:t.dummies = #[]) (j:Nat):t.slot j ≠ .dummy:=by
 unfold SetTable.slot
 have:SetTable.has t.dummies j=false:=by rw [h];simp [SetTable.has,SetTable.below,SetTable.below.go]
 rw [this]
 dsimp only
 split
 ·simp
 ·simp
theorem xj {t:SetTable} (hd:t.dummies = #[]) (ha:Nat->Int) (h:Int):∀ (fuel:Nat) (p:SetTable.Probe) (j:Nat) (d:Option Nat),p.dummy=none->SetTable.probe.go t ha h fuel p=some (.empty j d)->t.slot j=.empty/\d=none
 | 0,p,j,d,_,e=>by unfold SetTable.probe.go at e;cases e
 | fuel + 1,p,j,d,hp,e=>by
  unfold SetTable.probe.go at e
  split at e
  ·rename_i q
   cases e
   exact ⟨q,hp⟩
  ·rename_i q
   exact absurd q (FS hd _)
  ·split at e
   ·cases e
   ·refine xj hd ha h fuel _ j d ?_ e
    unfold SetTable.advance
    split
    ·exact hp
    ·exact hp
theorem Aq {t:SetTable} (hd:t.dummies = #[]) {h:Int} {j:Nat} {b:Bool} (e:t.freeSlot h=some (j,b)):t.slot j=.empty/\b=false:=by
 unfold SetTable.freeSlot at e
 split at e
 ·rename_i j' d q
  unfold SetTable.probe at q
  obtain ⟨h1,h2⟩:=xj hd _ _ _ _ _ _ rfl q
  subst h2
  cases e
  exact ⟨h1,rfl⟩
 ·cases e
theorem HW {bt:Bool} {t:SetTable} (h:zW bt t) {j:Nat} (hs:t.slot j=.empty):zW bt (t.put j).1:=by
 obtain ⟨h1,h2,h3⟩:=h
 unfold SetTable.put
 dsimp only
 refine ⟨?_,?_,h3⟩
 ·have:SetTable.has t.dummies j=false:=by rw [h1];simp [SetTable.has,SetTable.below,SetTable.below.go]
  dsimp only
  rw [this]
  exact h1
 ·dsimp only
  rw [SetTable.toList_insertAt]
  obtain ⟨b1,b2,b3⟩:=mU h2 j
  have hne:t.place[SetTable.below t.place j]? ≠ some j:=by
   intro c
   unfold SetTable.slot at hs
   dsimp only at hs
   rw [c] at hs
   simp at hs
  have hp:=h2
  rw [<- List.take_append_drop (SetTable.below t.place j) t.place.toList] at hp
  obtain ⟨p1,p2,p3⟩:=List.pairwise_append.mp hp
  refine List.pairwise_append.mpr ⟨p1,List.pairwise_cons.mpr ⟨λ y hy=>?_,p2⟩,λ x hx y hy=>?_⟩
  ·obtain ⟨i,hi,rfl⟩:=List.getElem_of_mem hy
   rw [List.getElem_drop]
   have hlt:SetTable.below t.place j + i < t.place.size:=by simp at hi;omega
   have:=b2 (SetTable.below t.place j + i) (by omega) hlt
   rw [fF hlt] at this
   apply Nat.lt_of_le_of_ne this
   intro e
   cases i with
   | zero =>
    apply hne
    rw [Array.getElem?_eq_getElem (by omega)]
    simp only [Nat.add_zero] at e
    exact congrArg some e.symm
   | succ i =>
    have h5:=vK h2 j (SetTable.below t.place j) (SetTable.below t.place j + (i + 1)) (by omega) hlt
    have h6:=b2 (SetTable.below t.place j) (Nat.le_refl _) (by omega)
    rw [fF (xs:=t.place) (i:=SetTable.below t.place j + (i + 1)) hlt] at h5
    omega
  ·have lt:x < j:=by
    obtain ⟨i,hi,rfl⟩:=List.getElem_of_mem hx
    rw [List.getElem_take]
    have hi':i < SetTable.below t.place j:=by simp at hi;omega
    have hlt:i < t.place.size:=by omega
    have:=b1 i hi'
    rwa [fF hlt] at this
   rcases List.mem_cons.mp hy with rfl | hy
   ·exact lt
   ·exact p3 x hx y hy
theorem og {bt:Bool} {t:SetTable} (h:zW bt t) (n:Nat):zW bt (t.standIn n):=by
 refine ⟨rfl,?_,h.2.2⟩
 unfold SetTable.standIn
 simpa using List.pairwise_lt_range (n:=n)
theorem yI {bt:Bool} {t:SetTable} (h:zW bt t) (n:Nat):zW bt (t.orStandIn n):=by
 unfold SetTable.orStandIn
 split
 ·exact h
 ·exact og h n
theorem AA {bt:Bool} {t:SetTable} (h:zW bt t) (es:Array (Int × Value)) (k:Int) (x:Value):zW bt (layNew t es k x).2.1:=by
 unfold layNew
 split
 ·rename_i j b e
  exact yI (HW h (Aq h.1 e).1) _
 ·exact og h _
theorem B9 {α:Type} (f:Nat->Option α):∀ l:List Nat,l.Pairwise (· < ·)->((l.filterMap λ j=>(f j).map (j,·)).map (·.1)).Pairwise (· < ·)/\∀ y∈(l.filterMap λ j=>(f j).map (j,·)).map (·.1),y∈l
 | [],_=>⟨List.Pairwise.nil,by simp⟩
 | a :: l,h=>by
  obtain ⟨h1,h2⟩:=List.pairwise_cons.mp h
  obtain ⟨i1,i2⟩:=B9 f l h2
  cases e:f a with
  | none =>
   rw [List.filterMap_cons_none (by simp [e])]
   exact ⟨i1,λ y hy=>List.mem_cons_of_mem _ (i2 y hy)⟩
  | some b =>
   rw [List.filterMap_cons_some (b:=(a,b)) (by simp [e])]
   refine ⟨List.pairwise_cons.mpr ⟨λ y hy=>h1 y (i2 y hy),i1⟩,λ y hy=>?_⟩
   rcases List.mem_cons.mp hy with rfl | hy
   ·exact List.mem_cons_self
   ·exact List.mem_cons_of_mem _ (i2 y hy)
theorem DG {bt:Bool} {t:SetTable} (h:zW bt t) (es:Array (Int × Value)) (n:Nat):zW bt (relayAll t es n).2.1:=by
 unfold relayAll
 split
 ·rename_i t' order e
  dsimp only
  split
  ·unfold SetTable.relaid SetTable.laid at e
   simp only [Option.bind_eq_bind,Option.bind_eq_some_iff] at e
   obtain ⟨ow,_,e⟩:=e
   simp only [Option.pure_def,Option.some.injEq,Prod.mk.injEq] at e
   obtain ⟨rfl,_⟩:=e
   refine ⟨rfl,?_,h.2.2⟩
   dsimp only
   exact (B9 (λ j=>ow.getD j none) _ List.pairwise_lt_range).1
  ·exact og h _
 ·exact og h _
theorem zM {α:Type} (next:Nat->Nat):∀ (fuel k:Nat) (left:List α) (out:Array α),left.length=fuel->(pickOrder.go next fuel k left out).toList.Perm (out.toList++left)
 | 0,k,left,out,h=>by
  have:left=[]:=List.eq_nil_of_length_eq_zero h
  subst this
  unfold pickOrder.go
  simp
 | fuel + 1,k,left,out,h=>by
  unfold pickOrder.go
  have hlt:next k % left.length < left.length:=Nat.mod_lt _ (by omega)
  rw [List.getElem?_eq_getElem hlt]
  dsimp only
  refine (zM next fuel (k + 1) _ _ (by rw [List.length_eraseIdx_of_lt hlt];omega)).trans ?_
  rw [Array.toList_push,List.append_assoc]
  refine List.Perm.append_left _ ?_
  have e:=List.eraseIdx_eq_take_drop_succ left (next k % left.length)
  rw [e]
  have e2:left=left.take (next k % left.length)++left[next k % left.length] :: left.drop (next k % left.length + 1):=by
   rw [<- List.drop_eq_getElem_cons hlt,List.take_append_drop]
  conv=>rhs;rw [e2]
  rw [List.singleton_append]
  exact List.perm_middle.symm
theorem tI {α:Type} (next:Nat->Nat) (xs:Array α):(pickOrder next xs).toList.Perm xs.toList:=by
 unfold pickOrder
 have:=zM next xs.size 0 xs.toList #[] (by simp)
 simpa using this
end L3
namespace L3
open PySem PySem.Spec PyProof.Rows
noncomputable abbrev ux (w:World):Bool:=w.params.followText "set-order"
structure SX (prog:Program) (w:World) (o:Obj) (es:Array (Int × Value)) (ep:Nat) (t:SetTable):Prop where
 ex:o.ExactSet
 dat:o.data=.set es ep t
 el:ElemsOf (intKind prog w) es.toList
 fit:t.fits es.size=true
 tab:zW (ux w) t
noncomputable def ik:Value->Int
 | .int i _=>i
 | _=>0
noncomputable def oR (es:List (Int × Value)):List Int:=es.map λ e=>ik e.2
section
variable {prog:Program} {w:World} {A:Around} {E:Value->Shared->Prop} {s:Shared}
theorem ye {l:List (Int × Value)} (h:ElemsOf (intKind prog w) l) {e:Int × Value} (he:e∈l):∃ t,e.2=.int (ik e.2) t:=by
 obtain ⟨⟨k,hk,_⟩,_⟩:=h e he
 obtain ⟨t,ht⟩:=Value.isInt_shape hk
 exact ⟨t,by rw [ht];rfl⟩
theorem Co {l:List (Int × Value)} (h:ElemsOf (intKind prog w) l) {e:Int × Value} (he:e∈l) (k:Int):(intKind prog w).is k e.2=decide (k=ik e.2):=by
 obtain ⟨t,ht⟩:=ye h he
 have:(intKind prog w).is (ik e.2) e.2=true:=by rw [ht];exact intKind_is _ _ _ _
 exact KeyKind.is_eq_decide this k
theorem Al {l:List (Int × Value)} (h:ElemsOf (intKind prog w) l) {k:Int} {j:Nat} (e:l.findIdx? (λ e=>(intKind prog w).is k e.2)=some j):k∈oR l:=by
 obtain ⟨hj,hp,_⟩:=List.findIdx?_eq_some_iff_getElem.mp e
 rw [Co h (List.getElem_mem hj)] at hp
 exact List.mem_map.mpr ⟨_,List.getElem_mem hj,(of_decide_eq_true hp).symm⟩
theorem Ak {l:List (Int × Value)} (h:ElemsOf (intKind prog w) l) {k:Int} (e:l.findIdx? (λ e=>(intKind prog w).is k e.2)=none):¬ k∈oR l:=by
 intro c
 obtain ⟨x,hx,hk⟩:=List.mem_map.mp c
 have:=List.findIdx?_eq_none_iff.mp e x hx
 rw [Co h hx,hk] at this
 simp at this
theorem SX.kept {o:Obj} {es:Array (Int × Value)} {ep:Nat} {t:SetTable} {es':Array (Int × Value)} {t':SetTable} (h:SX prog w o es ep t) (h1:ElemsOf (intKind prog w) es'.toList) (h2:t'.fits es'.size=true) (h3:zW (ux w) t') :
  SX prog w { o with data:=.set es' (ep + 1) t' } es' (ep + 1) t':=⟨h.ex,rfl,h1,h2,h3⟩
theorem DW {h:Heap} {a:Addr} {o:Obj} {es:Array (Int × Value)} {ep:Nat} {t:SetTable} (ho:h.get? a=some o) (hd:o.data=.set es ep t) (es':Array (Int × Value)) (t':SetTable) :
  (h.update a (Obj.putSet es' t')).get? a=some { o with data:=.set es' (ep + 1) t' }:=by
 have q:=Heap.get?_update_self (Obj.putSet es' t') ho (by rw [putSet_of es' t' hd];rfl)
 rwa [putSet_of es' t' hd] at q
theorem add_int {a:Addr} {o:Obj} {es:Array (Int × Value)} {ep:Nat} {t:SetTable} {k:Int} {tk:Tok} {Q:Bool->Shared->Prop} (ho:s.heap.get? a=some o) (hx:SX prog w o es ep t) (hb:es.size + 1 < scanBound)
  (h1:k∈oR es.toList->Q false s)
  (h2:∀ h' o' es' ep' t',¬ k∈oR es.toList->Heap.SameBut a s.heap h'->h'.get? a=some o'->SX prog w o' es' ep' t'->(oR es'.toList).Perm (oR es.toList++[k])->Q true { s with heap:=h' }) :
  wpAny (model prog w) A (setAddHashed a (.int k tk) ((intKind prog w).hash k)) Q E s:=by
 have isk:(intKind prog w).is k (.int k tk)=true:=intKind_is _ _ _ _
 unfold setAddHashed setAddHashedIn
 refine wpAny_holding (wpAny_bind (wpAny_setState_of ho hx.dat hx.fit ?_))
 dsimp only
 rw [byScan_of (knd:=intKind prog w) (x:=.int k tk) rfl (by omega) hx.el,if_pos rfl]
 unfold setAddByScan
 refine wpAny_bind (wpAny_bind (wpAny_rule (wpAny_bind (wpAny_setScan_of isk ho hx.dat hx.fit hx.el ?_))))
 cases f:es.toList.findIdx? (λ e=>(intKind prog w).is k e.2) with
 | some j=>exact wpAny_pure (wpAny_pure (h1 (Al hx.el f)))
 | none =>
  dsimp only
  have quietly:∀ (b:Bool) {s₁:Shared} {Q':Unit->Shared->Prop},Q' () s₁->wpAny (model prog w) A (match b with | true=>rule "set.scan.the-table-gave-way" | false=>pure ()) Q' E s₁:=
   λ b s₁ Q' z=>by cases b <;> first | exact wpAny_pure z | exact wpAny_rule z
  have nk:=Ak hx.el f
  have pm:=layNew_perm t es ((intKind prog w).hash k) (.int k tk)
  have ft:=layNew_fits t es ((intKind prog w).hash k) (.int k tk)
  have tb:=AA hx.tab es ((intKind prog w).hash k) (.int k tk)
  generalize layNew t es ((intKind prog w).hash k) (.int k tk)=Z at pm ft tb ⊢
  obtain ⟨es1,t1,wd,gv⟩:=Z
  dsimp only at pm ft tb ⊢
  rw [Array.toList_push] at pm
  have el1:ElemsOf (intKind prog w) es1.toList:=(hx.el.push isk rfl).perm pm
  have sz1:es1.size < scanBound:=by
   have:=pm.length_eq
   simp at this
   omega
  have ky1:(oR es1.toList).Perm (oR es.toList++[k]):=by
   have:=pm.map (λ e:Int × Value=>ik e.2)
   simpa [oR,ik] using this
  have aG:wpAny (model prog w) A (do
    storeSet a es1 t1
    if (!wd && t1.tooFull)=true then do
      (match (relayAll t1 es1 (SetTable.grown es1.size)).2.2 with | true=>rule "set.scan.the-table-gave-way" | false=>pure ())
      storeSet a (relayAll t1 es1 (SetTable.grown es1.size)).1 (relayAll t1 es1 (SetTable.grown es1.size)).2.1
      pure (some true)
     else pure (some true)) (λ r s'=>r=some true/\Q true s') E s:=by
   refine wpAny_bind (wpAny_storeSet_of ho hx.dat ?_ (fits_of_scanBound sz1))
   have o1:=DW ho hx.dat es1 t1
   have x1:=hx.kept el1 ft tb
   have b1:=Heap.SameBut.update s.heap a (Obj.putSet es1 t1)
   split
   ·have pm2:=relayAll_perm t1 es1 (SetTable.grown es1.size)
    have ft2:=relayAll_fits t1 es1 (SetTable.grown es1.size)
    have tb2:=DG tb es1 (SetTable.grown es1.size)
    generalize relayAll t1 es1 (SetTable.grown es1.size)=Y at pm2 ft2 tb2 ⊢
    obtain ⟨es2,t2,g2⟩:=Y
    dsimp only at pm2 ft2 tb2 ⊢
    have sz2:es2.size < scanBound:=by
     have:=pm2.length_eq
     simp at this
     omega
    refine wpAny_bind (quietly _ (wpAny_bind (wpAny_storeSet_of o1 rfl ?_ (fits_of_scanBound sz2))))
    refine wpAny_pure ⟨rfl,h2 _ _ _ _ _ nk (b1.trans (Heap.SameBut.update _ a _)) (DW o1 rfl es2 t2) (x1.kept (el1.perm pm2) ft2 tb2) ?_⟩
    exact (pm2.map (λ e:Int × Value=>ik e.2)).trans ky1
   ·exact wpAny_pure ⟨rfl,h2 _ _ _ _ _ nk b1 o1 x1 ky1⟩
  refine wpAny_bind (quietly _ ?_)
  split
  ·refine wpAny_bind ?_
   rw [hashByValue_scannable 8 (x:=.int k tk) rfl]
   refine wpAny_pure ?_
   simp only [plainKind,if_true]
   refine wpAny_mono aG (λ r s' z=>?_) λ _ _ z=>z
   obtain ⟨rfl,z⟩:=z
   exact wpAny_pure z
  ·refine wpAny_bind (wpAny_pure ?_)
   simp only [if_true]
   refine wpAny_mono aG (λ r s' z=>?_) λ _ _ z=>z
   obtain ⟨rfl,z⟩:=z
   exact wpAny_pure z
theorem rW {R:Result->Shared->Prop} {I:Addr} {fp wr:List Addr} {G:Array GenState->Array GenState->Prop} {n:Nat} {P:Nat->Value->Prop} {St:Nat->Shared->Prop} (W:WalksS prog w A.in1 I fp wr G n P St) (S:Addr) (hSf:S ∉ fp)
  (ns:List Int) (hn:ns.length=n) (hv:∀ i v,P i v->∃ t,v=.int (ns.getD i 0) t) (hb:∀ ks:List Int,ks.Nodup->(∀ x∈ks,x∈ns)->ks.length + 1 < scanBound) :
  ∀ (k i:Nat) (s:Shared) (o:Obj) (es:Array (Int × Value)) (ep:Nat) (t:SetTable),n - i=k->i <= n->St i s->s.heap.get? S=some o->SX prog w o es ep t->(oR es.toList).Nodup->(∀ x,x∈oR es.toList ↔ x∈ns.take i) →
   (∀ s' o' es' ep' t',Moved (S :: wr) G s s'->s'.heap.get? S=some o'->SX prog w o' es' ep' t'->(oR es'.toList).Nodup->(∀ x,x∈oR es'.toList ↔ x∈ns)->R (.ok (.ret .none)) s') →
   codeAny (model prog w) A (.builtin "set.update.loop" ⟨[.ref S,.ref I],[]⟩) R s
 | 0,i,s,o,es,ep,t,hk,hi,st,ho,hx,nd,mm,hR=>by
  have e:i=n:=by omega
  subst e
  have hSw:S ∉ wr:=λ h=>hSf (W.sub _ h)
  refine codeAny_builtin F.entry_set_update_loop ?_
  rw [Around.under_plainId F.plain_set_update_loop _]
  refine wpAny_bind (W.done s _ _ st λ s' hm=>?_)
  refine wpAny_pure (hR s' o es ep t (hm.mono λ b hb=>List.mem_cons_of_mem _ hb) (hm.heap S _ hSw ho) hx nd λ x=>?_)
  rw [mm x,<- hn,List.take_length]
 | k + 1,i,s,o,es,ep,t,hk,hi,st,ho,hx,nd,mm,hR=>by
  have lt:i < n:=by omega
  have hSw:S ∉ wr:=λ h=>hSf (W.sub _ h)
  have hsub:∀ b∈wr,b∈S :: wr:=λ b hb=>List.mem_cons_of_mem _ hb
  refine codeAny_builtin F.entry_set_update_loop ?_
  rw [Around.under_plainId F.plain_set_update_loop _]
  refine wpAny_bind (W.item i s _ _ lt st λ v s' hP st' hm=>?_)
  obtain ⟨tk,rfl⟩:=hv i v hP
  have gi:ns[i]?=some (ns.getD i 0):=by rw [List.getD_eq_getElem?_getD,List.getElem?_eq_getElem (by omega)];rfl
  have tk1:∀ x,x∈ns.take (i + 1) ↔ x∈ns.take i \/ x=ns.getD i 0:=λ x=>by rw [List.take_add_one,gi];simp
  have ho':=hm.heap S _ hSw ho
  have cnt:es.size + 1 < scanBound:=by
   have:=hb _ nd λ x hx=>List.mem_of_mem_take ((mm x).mp hx)
   simpa [oR] using this
  show wpAny _ A.in1 (holding [Value.int (ns.getD i 0) tk] (setAdd S (.int (ns.getD i 0) tk)) >>= _) _ _ s'
  refine wpAny_bind (wpAny_holding ?_)
  unfold setAdd
  refine wpAny_holding (wpAny_bind ((intKind prog w).pyHash (k:=ns.getD i 0) (intKind_is _ _ _ _) ?_))
  refine add_int (s:={ s' with toks:=s'.toks + 1 }) ho' hx cnt (λ hin=>?_) λ h' o' es' ep' t' hnin sb ho2 hx2 pm=>?_
  ·refine wpAny_pure ⟨plainId_quiet F.plain_set_update_loop _,rW W S hSf ns hn hv hb k (i + 1) _ o es ep t (by omega) lt (W.frame _ s' _ _ st' (Nat.le_succ _) λ b _ o e=>e) ho' hx nd (λ x=>?_) λ s'' o'' es'' ep'' t'' hm2 a b c d=>?_⟩
   ·rw [tk1,<- mm]
    exact ⟨.inl,λ z=>z.elim id λ z=>z ▸ hin⟩
   ·exact hR s'' o'' es'' ep'' t'' (Moved.trans W.gtrans ((hm.mono hsub).then_heap (Nat.le_succ _) λ b o _ e=>e) hm2) a b c d
  ·refine wpAny_pure ⟨plainId_quiet F.plain_set_update_loop _,rW W S hSf ns hn hv hb k (i + 1) _ o' es' ep' t' (by omega) lt (W.frame _ s' _ _ st' (Nat.le_succ _) λ b hb o e=>?_) ho2 hx2 ?_ (λ x=>?_) λ s'' o'' es'' ep'' t'' hm2 a b c d=>?_⟩
   ·rw [sb.2 b λ h:b=S=>hSf (h ▸ hb)];exact e
   ·refine pm.nodup_iff.mpr (List.nodup_append.mpr ⟨nd,by simp,λ a ha b hb=>?_⟩)
    have:b=ns.getD i 0:=by simpa using hb
    subst this
    rintro rfl
    exact hnin ha
   ·rw [pm.mem_iff,tk1,<- mm,List.mem_append]
    simp
   ·refine hR s'' o'' es'' ep'' t'' (Moved.trans W.gtrans ((hm.mono hsub).then_heap (Nat.le_succ _) λ b o hb e=>?_) hm2) a b c d
    rw [sb.2 b λ h:b=S=>hb (h ▸ List.mem_cons_self)];exact e
noncomputable abbrev pc (w:World):Obj:={ cls:=.type "set",dict:=none,data:=.set #[] 0 (.fresh 0 0 (!ux w)) }
theorem IV:SX prog w (pc w) #[] 0 (.fresh 0 0 (!ux w)):=⟨⟨rfl,rfl,rfl⟩,rfl,λ e he=>by simp at he,by rfl,Bs _⟩
theorem FQ (a:Value) {Q₁:Value->Shared->Prop} (h:Q₁ (.ref s.heap.objs.size) { s with heap:=s.heap.push (pc w) }) :
  codeAny (model prog w) A (.call (.builtin "set.__new__") ⟨[.type "set",a],[]⟩) (wants Q₁ E) s:=by
 refine codeAny_of_tree ?_
 refine wpAny_bind (wpAny_of_eq (F.newCall_set_1 a) (wpAny_pure ⟨plainId_quiet F.plain_set_new _,codeAny_builtin F.entry_set_new ?_⟩))
 rw [Around.under_plainId F.plain_set_new _]
 unfold Builtin.«set.__new__» Builtin.Frozenset.newClass
 have sb:=sub_set_self
 obtain ⟨hp,g,d,tk,os⟩:=s
 dsimp only
 wp_walk
 refine wpAny_askSetting (wpAny_pure ?_)
 simp only [newObj]
 exact wpAny_bind (wpAny_alloc (wpAny_pure (wpAny_pure h)))
theorem DL {l:Addr} {items:Array Value} {ns:List Int} (hh:A.handled=none) (hl:s.heap.IsList l items) (hi:IntsAre items.toList ns)
  (hb:∀ ks:List Int,ks.Nodup->(∀ x∈ks,x∈ns)->ks.length + 1 < scanBound) {Q:Value->Shared->Prop}
  (h:∀ (h':Heap) (tk:Nat) o es ep t,h'.get? s.heap.objs.size=some o->SX prog w o es ep t->(oR es.toList).Nodup->(∀ x,x∈oR es.toList ↔ x∈ns)->(∀ b o,b < s.heap.objs.size->s.heap.get? b=some o->h'.get? b=some o)->Q .none { s with heap:=h',toks:=tk }) :
  codeAny (model prog w) A (.call (.builtin "set.__init__") ⟨[.ref s.heap.objs.size,.ref l],[]⟩) (wants Q E) { s with heap:=s.heap.push (pc w) }:=by
 have hS:(s.heap.push (pc w)).get? s.heap.objs.size=some (pc w):=Heap.get?_push_size _ rfl
 have hT:Shared.TypeIs { s with heap:=s.heap.push (pc w) } (.ref s.heap.objs.size) "set":=⟨_,hS,rfl⟩
 refine codeAny_call_builtin F.called_set.init.plain F.entry_set_init (check_set_init_1 hT ?_)
 obtain ⟨ol,hol,hcl,nl,hdl⟩:=hl
 obtain ⟨c1,c2,c3,c4⟩:=ol
 simp only at hcl hdl
 subst hcl;subst hdl
 have hol':(s.heap.push (pc w)).get? l=some { cls:=.type "list",dict:=c2,data:=.seq items nl,slots:=c4 }:=Heap.get?_push_of_some _ hol
 have k1:=F.sub_list_set
 have k2:=F.sub_list_frozenset
 have k3:(Value.type "list" == Value.type "dict")=false:=by decide
 have hl1:(s.heap.push (pc w)).IsList l items:=⟨_,hol',rfl,nl,rfl⟩
 unfold Builtin.«set.__init__» noKeywords Builtin.Frozenset.updateFrom
 generalize hPI:pyIter=PI
 wp_walk
 subst hPI
 refine wpAny_pyIter_list hl1 (wpAny_bind (wpAny_runValue ?_))
 have lS:l < s.heap.objs.size:=Heap.lt_size hol
 have hh3:A.in1.in1.handled=none:=by simp [hh]
 have n1:l ≠ (s.heap.push (pc w)).objs.size:=by rw [Heap.size_push];exact Nat.ne_of_lt (Nat.lt_succ_of_lt lS)
 have n2:s.heap.objs.size ∉ [(s.heap.push (pc w)).objs.size,l]:=by
  rw [Heap.size_push]
  intro z
  rcases List.mem_cons.mp z with z | z
  ·exact Nat.ne_of_lt (Nat.lt_succ_self _) z
  ·exact Nat.ne_of_gt lS (List.mem_singleton.mp z)
 have ln:ns.length=items.size:=by have:=IntsAre.length hi;simpa using this.symm
 refine rW ((Walks.list hh3 _ l n1 items).toS) s.heap.objs.size n2 ns ln (λ i v hv=>IntsAre.int_at hi i v (by rw [Array.getElem?_toList];exact hv)) hb items.size 0 _ (pc w) #[] 0 _ (by omega) (Nat.zero_le _)
  ⟨⟨_,Heap.get?_push_size _ rfl,rfl,rfl⟩,hl1.push _⟩ (Heap.get?_push_of_some _ hS) IV (by simp [oR]) (by simp [oR]) λ s' o' es' ep' t' hm a1 a2 a3 a4=>?_
 rw [Moved.eq_with hm]
 refine wpAny_pure (wpAny_pure (h _ _ o' es' ep' t' a1 a2 a3 a4 λ b o hb e=>?_))
 refine hm.heap b o ?_ (Heap.get?_push_of_some _ (Heap.get?_push_of_some _ e))
 rw [Heap.size_push]
 intro z
 rcases List.mem_cons.mp z with z | z
 ·exact Nat.ne_of_lt hb z
 ·exact Nat.ne_of_lt (Nat.lt_succ_of_lt hb) (List.mem_singleton.mp z)
end
end L3
namespace L3
open PySem PySem.Spec PyProof.Rows
section
variable {prog:Program} {w:World} {A:Around} {E:Value->Shared->Prop} {s:Shared}
set_option maxHeartbeats 3200000 in
theorem BR {l:Addr} {items:Array Value} {ns:List Int} {Q:Value->Shared->Prop} (hh:A.handled=none) (hl:s.heap.IsList l items) (hi:IntsAre items.toList ns)
  (hb:∀ ks:List Int,ks.Nodup->(∀ x∈ks,x∈ns)->ks.length + 1 < scanBound)
  (h:∀ (h':Heap) (tk:Nat) o es ep t,h'.get? s.heap.objs.size=some o->SX prog w o es ep t->(oR es.toList).Nodup->(∀ x,x∈oR es.toList ↔ x∈ns)->(∀ b o,b < s.heap.objs.size->s.heap.get? b=some o->h'.get? b=some o)->Q (.ref s.heap.objs.size) { s with heap:=h',toks:=tk }) :
  wpAny (model prog w) A (call (.type "set") [.ref l]) Q E s:=by
 obtain ⟨c,tl,m1⟩:=F.called_set.mro
 have m2:=F.called_set.made
 have m3:=F.called_set.sub
 refine wpAny_call (codeAny_of_tree ?_)
 refine wpAny_pure ⟨Code.quiet_builtin _ (by decide +kernel),codeAny_builtin F.entry_type_call ?_⟩
 rw [Around.under_plain (weight_type_call_type "set" [.ref l] []) rfl]
 have m4:=F.called_set.notType
 have m5:=F.called_set.canCreate
 have m6:=F.typeCall_set_1 (.ref l)
 repeat (any_goals (first | assumption | wp_step))
 refine codeAny_mono (FQ (.ref l) (E:=E) (Q₁:=λ v s₁=>v=.ref s.heap.objs.size/\s₁={ s with heap:=s.heap.push (pc w) }) ⟨rfl,rfl⟩) λ r s₁ z=>?_
 cases r with
 | error e=>exact z
 | ok fl =>
  cases fl with
  | ret obj =>
   obtain ⟨rfl,rfl⟩:=z
   have hT:Shared.TypeIs { s with heap:=s.heap.push (pc w) } (.ref s.heap.objs.size) "set":=⟨_,Heap.get?_push_size _ rfl,rfl⟩
   have n1:=F.called_set.init.lookup
   have n2:=F.called_set.init.bind (.ref s.heap.objs.size)
   repeat (any_goals (first | assumption | wp_step))
   refine codeAny_mono (DL (E:=E) (Q:=λ v s₂=>v=.none/\∃ (h':Heap) (tk:Nat) (o:Obj) (es:Array (Int × Value)) (ep:Nat) (t:SetTable),s₂={ s with heap:=h',toks:=tk }/\h'.get? s.heap.objs.size=some o/\SX prog w o es ep t/\(oR es.toList).Nodup/\(∀ x,x∈oR es.toList ↔ x∈ns)/\(∀ b o,b < s.heap.objs.size->s.heap.get? b=some o->h'.get? b=some o))
    (by simpa using hh) hl hi hb λ h' tk o es ep t a1 a2 a3 a4 a5=>⟨rfl,h',tk,o,es,ep,t,rfl,a1,a2,a3,a4,a5⟩) λ r₂ s₂ z₂=>?_
   cases r₂ with
   | error e=>exact z₂
   | ok f₂ =>
    cases f₂ with
    | ret v =>
     obtain ⟨rfl,h',tk,o,es,ep,t,rfl,a1,a2,a3,a4,a5⟩:=z₂
     repeat (any_goals (first | assumption | wp_step))
     exact h h' tk o es ep t a1 a2 a3 a4 a5
    | _=>exact z₂.elim
  | _=>exact z.elim
theorem d7:Slot "set_iterator" "__next__" "set_iterator.__next__":=
 .of (owner := "set_iterator") (n := "__next__") (by rw [typeLookup_type,builtinLookup_eq_fast];kernel_rfl) (by decide +kernel) (by decide +kernel) (by decide +kernel)
  (by first | exact .inl (by decide +kernel) | exact .inr (by decide +kernel)) (by rw [isSubtype_type];kernel_rfl)
theorem pK:entryFor table "set_iterator.__next__" = some Builtin.«set_iterator.__next__»:=entryFor_of_tree (by kernel_rfl)
theorem pP:Manifest.owners.lookup (String.ofList ['r','o','t','a','r','e','t','i','_','t','e','s'].reverse)=some Manifest.sig_set_iterator:=by kernel_rfl
theorem qC (a:Value):argsOk "set_iterator.__next__" ⟨[a],[]⟩:=by
 unfold argsOk;rw [signature?_of (id := "set_iterator.__next__") (n:=['_','_','t','x','e','n','_','_']) (o:=['r','o','t','a','r','e','t','i','_','t','e','s']) (by kernel_rfl) pP];kernel_rfl
theorem yf:entryFor table "set.__iter__" = some Builtin.«frozenset.__iter__»:=
 entryFor_alias (id' := "frozenset.__iter__") (by kernel_rfl) rfl (by decide +kernel) (by kernel_rfl)
noncomputable def fU (h:Heap) (I a:Addr) (first:Value) (i n ep:Nat):Prop:=∃ o,h.get? I=some o/\o.cls=.type "set_iterator"/\o.data=.fields #[first,.int i 0,.ref a,.int n 0,.int ep 0]
theorem fU.ty {I a:Addr} {f:Value} {i n ep:Nat} (h:fU s.heap I a f i n ep):s.TypeIs (.ref I) "set_iterator":=let ⟨o,ho,hc,_⟩:=h;⟨o,ho,hc⟩
end
end L3
namespace L3
open PySem PySem.Spec PyProof.Rows
section
variable {prog:Program} {w:World} {A:Around} {E:Value->Shared->Prop} {s:Shared}
theorem xX {src:Source} {n:Nat} {Q:Nat->Shared->Prop} (hn:n ≠ 0) (h:∀ i,i < n->∀ d,Q i { s with drawn:=d }):wpAny (model prog w) A (choose src n) Q E s:=
 λ _ _ _=>⟨hn,h _ (Nat.mod_lt _ (Nat.pos_of_ne_zero hn)) _⟩
theorem yh {α:Type} {l:List α} {i:Nat} {x:α} (h:l[i]?=some x):(x :: l.eraseIdx i).Perm l:=by
 obtain ⟨hlt,e⟩:=List.getElem?_eq_some_iff.mp h
 rw [List.eraseIdx_eq_take_drop_succ]
 have e2:l=l.take i++l[i] :: l.drop (i + 1):=by rw [<- List.drop_eq_getElem_cons hlt,List.take_append_drop]
 conv=>rhs;rw [e2,e]
 exact List.perm_middle.symm
theorem wy {α:Type}:∀ (n:Nat) (xs:List α) (s:Shared) (Q:List α->Shared->Prop),xs.length=n->(∀ ys,ys.Perm xs->∀ d,Q ys { s with drawn:=d })->wpAny (model prog w) A (drawOrder n xs) Q E s
 | 0,xs,s,Q,hn,h=>by
  have:xs=[]:=List.eq_nil_of_length_eq_zero hn
  subst this
  unfold drawOrder
  exact wpAny_pure (h [] (.refl _) s.drawn)
 | n + 1,[],s,Q,hn,h=>by cases hn
 | n + 1,x :: xs,s,Q,hn,h=>by
  unfold drawOrder
  refine wpAny_bind (xX (by simp) λ i hi d=>?_)
  rw [List.getElem?_eq_getElem hi]
  dsimp only
  refine wpAny_bind (wy n _ _ _ (by rw [List.length_eraseIdx_of_lt hi];simp at hn ⊢;omega) λ ys hp d'=>wpAny_pure ?_)
  exact h _ ((hp.cons _).trans (yh (List.getElem?_eq_getElem hi))) d'
inductive Rd (w:World) (a:Addr) (es:Array (Int × Value)) (ep:Nat) (t:SetTable):List Value->(Nat->Value)->Addr->Option (List Nat)->Prop where
 | text (hb:ux w=true):Rd w a es ep t ((pickOrder (w.params.setOrder a ep) es).toList.map (·.2)) (λ _=>.int 0 0) a none
 | drawn (hb:ux w=false) (ps:List Nat) (hp:ps.Perm (List.range es.size)) (b:Addr):Rd w a es ep t (ps.map λ j=>(es.getD j (0,.none)).2) (λ _=>.ref b) b (some ps)
 | slots (hb:ux w=false) (hd:(!t.plain && decide (es.size > 1))=false):Rd w a es ep t (es.toList.map (·.2)) (λ i=>.int (if i=0 then 0 else ((t.place.getD (i - 1) 0 + 1:Nat):Int)) 0) a none
theorem Rd.perm {a:Addr} {es:Array (Int × Value)} {ep:Nat} {t:SetTable} {vs:List Value} {f:Nat->Value} {b:Addr} {tp:Option (List Nat)} (h:Rd w a es ep t vs f b tp):vs.Perm (es.toList.map (·.2)):=by
 cases h with
 | text hb=>exact (tI _ _).map _
 | drawn hb ps hp b =>
  refine (hp.map _).trans ?_
  have:(List.range es.size).map (λ j=>(es.getD j (0,.none)).2)=es.toList.map (·.2):=by
   apply List.ext_getElem?
   intro i
   rw [List.getElem?_map,List.getElem?_map]
   by_cases c:i < es.size
   ·rw [List.getElem?_range c]
    simp [Array.getD,c]
   ·rw [List.getElem?_eq_none (by simpa using c),List.getElem?_eq_none (by simpa using c)]
    rfl
  rw [this]
 | slots hb hd=>exact .refl _
noncomputable def Js (h:Heap) (b:Addr) (tp:Option (List Nat)):Prop:=∀ ps,tp=some ps->∃ o n,h.get? b=some o/\o.data=.seq (ps.map λ (j:Nat)=>Value.int j 0).toArray n/\o.cls=.type "tuple"
theorem Cp {a:Addr} {o:Obj} {es:Array (Int × Value)} {ep:Nat} {t:SetTable} {Q:Value->Shared->Prop} (ho:s.heap.get? a=some o) (hx:SX prog w o es ep t) (hz:es.size <= sizeLine)
  (h:∀ (I:Addr) (s1:Shared) vs f b tp,Rd w a es ep t vs f b tp->fU s1.heap I a (f 0) 0 es.size ep->Js s1.heap b tp->I ≠ b->(∀ c o,s.heap.get? c=some o->s1.heap.get? c=some o)->s.heap.objs.size <= I->(∃ h' d,s1={ s with heap:=h',drawn:=d })->Q (.ref I) s1) :
  wpAny (model prog w) A (pyIter (.ref a)) Q E s:=by
 have hT:s.TypeIs (.ref a) "set":=⟨o,ho,hx.ex.1⟩
 refine wpAny_pyIter_slot hT F.slot_set_iter (wpAny_call_entry F.slot_set_iter hT yf ?_ (F.args_set_iter_1 _))
 unfold Builtin.«frozenset.__iter__» Builtin.Frozenset.slot0 slotArgs
 simp only [List.isEmpty_nil,Bool.not_true,Bool.false_eq_true,↓reduceIte,bind_assoc,List.length_nil,bne_self_eq_false]
 unfold Builtin.Frozenset.addrOf Builtin.Frozenset.sizeOf setDrawn setsByText
 refine wpAny_bind (wpAny_pure (wpAny_bind (wpAny_pure ?_)))
 refine wpAny_bind (wpAny_bind (wpAny_setEntries_of ho hx.dat hx.fit (wpAny_pure ?_)))
 refine wpAny_bind (wpAny_bind (wpAny_setState_of ho hx.dat hx.fit ?_))
 refine wpAny_bind (wpAny_bind (wpAny_askSetting (wpAny_pure (wpAny_pure ?_))))
 dsimp only
 have plain:∀ vs f b tp,Rd w a es ep t vs f b tp->f 0=.int 0 0->b=a->tp=none->wpAny (model prog w) A.in1 (do
   let first ← pure (rawInt 0)
   ret (← newFields "set_iterator" [first,rawInt 0,.ref a,rawInt es.size,rawInt (← setEpoch a)])) (λ fin s'=>∃ r,fin=Fin.done (.ret r)/\∃ T' r',s'.TypeIs r T'/\typeLookup (.type T') "__next__" = pure (some r')/\Q r s') E s:=by
  intro vs f b tp rd e1 e2 e3
  subst e2 e3
  refine wpAny_bind (wpAny_pure (wpAny_bind (wpAny_setEpoch_of ho hx.dat hx.fit ?_)))
  refine wpAny_bind (wpAny_newObj_type (wpAny_pure ⟨_,rfl, "set_iterator",_,⟨_,Heap.get?_push_size _ rfl,rfl⟩,d7.lookup,?_⟩))
  refine h s.heap.objs.size _ vs f b none rd ⟨_,Heap.get?_push_size _ rfl,rfl,by rw [e1];rfl⟩ (λ _ z=>by cases z) (Nat.ne_of_gt (Heap.lt_size ho)) (λ c o e=>Heap.get?_push_of_some _ e) (Nat.le_refl _) ⟨_,_,rfl⟩
 cases bt:ux w with
 | true =>
  have:(!w.params.followText "set-order" && (!t.plain && decide (es.size > 1)))=false:=by rw [show w.params.followText "set-order" = true from bt];rfl
  show wpAny _ _ (if (!w.params.followText "set-order" && (!t.plain && decide (es.size > 1)))=true then _ else _) _ _ _
  rw [if_neg (by rw [this];exact Bool.false_ne_true)]
  exact plain _ _ _ _ (.text bt) rfl rfl rfl
 | false =>
  cases dr:(!t.plain && decide (es.size > 1)) with
  | false =>
   show wpAny _ _ (if (!w.params.followText "set-order" && (!t.plain && decide (es.size > 1)))=true then _ else _) _ _ _
   rw [if_neg (by rw [dr];simp)]
   exact plain _ _ _ _ (.slots bt dr) rfl rfl rfl
  | true =>
   show wpAny _ _ (if (!w.params.followText "set-order" && (!t.plain && decide (es.size > 1)))=true then _ else _) _ _ _
   rw [if_pos (by rw [dr,show w.params.followText "set-order" = false from bt];rfl)]
   refine wpAny_bind (wy es.size (List.range es.size) _ _ List.length_range λ ps hp d=>?_)
   refine wpAny_bind (wpAny_newTuple ?_ (by rw [List.length_map,hp.length_eq,List.length_range];exact hz))
   have ho1:(s.heap.push { cls:=.type "tuple",data:=.seq (ps.map λ (i:Nat)=>rawInt i).toArray }).get? a=some o:=Heap.get?_push_of_some _ ho
   refine wpAny_bind (wpAny_setEpoch_of ho1 hx.dat hx.fit ?_)
   refine wpAny_bind (wpAny_newObj_type (wpAny_pure ⟨_,rfl, "set_iterator",_,⟨_,Heap.get?_push_size _ rfl,rfl⟩,d7.lookup,?_⟩))
   refine h _ _ _ _ s.heap.objs.size (some ps) (.drawn bt ps hp s.heap.objs.size) ⟨_,Heap.get?_push_size _ rfl,rfl,rfl⟩ (λ ps' z=>?_) ?_ (λ c o e=>Heap.get?_push_of_some _ (Heap.get?_push_of_some _ e)) ?_ ⟨_,_,rfl⟩
   ·cases z
    exact ⟨_,0,Heap.get?_push_of_some _ (Heap.get?_push_size _ rfl),rfl,rfl⟩
   ·show (s.heap.push _).objs.size ≠ s.heap.objs.size
    rw [Heap.size_push]
    exact Nat.ne_of_gt (Nat.lt_succ_self _)
   ·show s.heap.objs.size <= (s.heap.push _).objs.size
    rw [Heap.size_push]
    exact Nat.le_succ _
theorem fU.step {h:Heap} {I a:Addr} {f:Value} {i n ep:Nat} (hi:fU h I a f i n ep) (g:Value) :
  fU ((h.update I (Obj.mapFields (·.setIfInBounds 0 g))).update I (Obj.mapFields (·.setIfInBounds 1 (rawInt ((i:Int) + 1))))) I a g (i + 1) n ep:=by
 obtain ⟨o,ho,hc,hd⟩:=hi
 have h1:=Heap.get?_update_self (Obj.mapFields (·.setIfInBounds 0 g)) ho (Obj.isFreed_of_fields (Obj.data_mapFields hd _))
 have d1:=Obj.data_mapFields hd (·.setIfInBounds 0 g)
 have h2:=Heap.get?_update_self (Obj.mapFields (·.setIfInBounds 1 (rawInt ((i:Int) + 1)))) h1 (Obj.isFreed_of_fields (Obj.data_mapFields d1 _))
 exact ⟨_,h2,(Obj.cls_mapFields ..).trans ((Obj.cls_mapFields ..).trans hc),by rw [Obj.data_mapFields d1];simp [rawInt]⟩
theorem fU.step1 {h:Heap} {I a:Addr} {f:Value} {i n ep:Nat} (hi:fU h I a f i n ep) :
  fU (h.update I (Obj.mapFields (·.setIfInBounds 1 (rawInt ((i:Int) + 1))))) I a f (i + 1) n ep:=by
 obtain ⟨o,ho,hc,hd⟩:=hi
 have h1:=Heap.get?_update_self (Obj.mapFields (·.setIfInBounds 1 (rawInt ((i:Int) + 1)))) ho (Obj.isFreed_of_fields (Obj.data_mapFields hd _))
 exact ⟨_,h1,(Obj.cls_mapFields ..).trans hc,by rw [Obj.data_mapFields hd];simp [rawInt]⟩
theorem Cw {o:Obj} {es:Array (Int × Value)} {ep:Nat} {t:SetTable} (hx:SX prog w o es ep t) (hb:ux w=false):t.led=true:=hx.tab.2.2.resolve_left (by rw [hb];exact Bool.false_ne_true)
theorem xg {o:Obj} {es:Array (Int × Value)} {ep:Nat} {t:SetTable} (hx:SX prog w o es ep t):t.place.size=es.size:=by
 have:=hx.fit
 simp only [SetTable.fits,Bool.and_eq_true,beq_iff_eq] at this
 exact this.1
theorem AG {I a b:Addr} {o:Obj} {es:Array (Int × Value)} {ep:Nat} {t:SetTable} {vs:List Value} {f:Nat->Value} {tp:Option (List Nat)} {i:Nat} {v:Value} {Q:Option Value->Shared->Prop} (rd:Rd w a es ep t vs f b tp) (hi:fU s.heap I a (f i) i es.size ep) (htp:Js s.heap b tp) (ho:s.heap.get? a=some o) (hx:SX prog w o es ep t) (hv:vs[i]?=some v)
  (hQ:∀ h',fU h' I a (f (i + 1)) (i + 1) es.size ep->Heap.SameBut I s.heap h'->Q (some v) { s with heap:=h' }) :
  wpAny (model prog w) A (pyNext (.ref I)) Q E s:=by
 have hT:=hi.ty
 obtain ⟨oi,hoi,hc,hd⟩:=id hi
 unfold pyNext
 refine wpAny_bind (wpAny_attempt (wpAny_callSpecial?_slot (name:=Str.ofString "__next__") hT d7 (wpAny_call_entry d7 hT pK ?_ (qC _))))
 unfold Builtin.«set_iterator.__next__» slotArgs
 simp only [List.isEmpty_nil,Bool.not_true,Bool.false_eq_true,↓reduceIte,bind_assoc,List.length_nil,bne_self_eq_false]
 refine wpAny_bind (wpAny_pure (wpAny_bind (wpAny_fieldsOf hoi hd ?_)))
 dsimp only
 refine wpAny_bind (wpAny_setEntries_of ho hx.dat hx.fit ?_)
 rw [if_neg (by simp)]
 cases rd with
 | text hb =>
  dsimp only
  refine wpAny_bind ?_
  unfold setNext setWalk setsByText
  refine wpAny_bind (wpAny_setState_of ho hx.dat hx.fit ?_)
  refine wpAny_bind (wpAny_bind (wpAny_askSetting (wpAny_pure ?_)))
  refine wpAny_ite_split (λ _=>?_) (λ z=>absurd hb z)
  dsimp only
  rw [if_neg (by simp)]
  refine wpAny_bind (wpAny_bind (wpAny_setState_of ho hx.dat hx.fit ?_))
  refine wpAny_bind (wpAny_bind (wpAny_askSetting (wpAny_pure ?_)))
  refine wpAny_ite_split (λ _=>?_) (λ z=>absurd hb z)
  refine wpAny_bind (wpAny_askSetting (wpAny_pure (wpAny_pure ?_)))
  have hg:(pickOrder (w.params.setOrder a ep) es)[((i:Int)).toNat]?.map (·.2)=some v:=by
   rw [List.getElem?_map,Array.getElem?_toList] at hv
   simpa using hv
  cases q:(pickOrder (w.params.setOrder a ep) es)[((i:Int)).toNat]? with
  | none=>rw [q] at hg;cases hg
  | some e =>
   rw [q] at hg
   cases hg
   have q':(pickOrder ((Setting.mk (model prog w).prog (model prog w).w.params).params.setOrder a (es,ep,t).2.1) (es,ep,t).1)[((i:Int)).toNat]?=some e:=q
   rw [q']
   show wpAny _ _ (setField (.ref I) 0 (rawInt ((((0:Int)).toNat:Nat):Int)) >>= _) _ _ _
   refine wpAny_bind (wpAny_setField hoi hd (by simp) ?_)
   have h1:=Heap.get?_update_self (Obj.mapFields (·.setIfInBounds 0 (rawInt ((((0:Int)).toNat:Nat):Int)))) hoi (Obj.isFreed_of_fields (Obj.data_mapFields hd _))
   refine wpAny_bind (wpAny_setField h1 (Obj.data_mapFields hd _) (by simp) (wpAny_pure ⟨_,rfl,wpAny_pure (hQ _ (hi.step _) ?_)⟩))
   exact (Heap.SameBut.update ..).trans (Heap.SameBut.update ..)
 | drawn hb ps hp b =>
  obtain ⟨ot,n,hot,hdt,_⟩:=htp ps rfl
  dsimp only
  refine wpAny_bind (wpAny_seqItems hot hdt ?_)
  dsimp only
  rw [List.getElem?_map] at hv
  cases q:ps[i]? with
  | none=>rw [q] at hv;cases hv
  | some j =>
   rw [q] at hv
   cases hv
   have hj:j < es.size:=List.mem_range.mp (hp.mem_iff.mp (List.mem_of_getElem? q))
   have e1:((ps.map λ (j:Nat)=>Value.int j 0).toArray)[((i:Int)).toNat]?=some (.int j 0):=by simp [q]
   rw [e1]
   dsimp only
   unfold setNextDrawn
   refine wpAny_bind (wpAny_bind (wpAny_setState_of ho hx.dat hx.fit ?_))
   dsimp only
   rw [if_neg (by simp)]
   have e2:es[((j:Int)).toNat]?=some es[j]:=by simp [hj]
   rw [e2]
   refine wpAny_pure (wpAny_bind (wpAny_setField hoi hd (by simp) (wpAny_pure ⟨_,rfl,wpAny_pure ?_⟩)))
   have e3:es.getD j (0,.none)=es[j]:=by simp [Array.getD,hj]
   dsimp only at hQ
   rw [e3] at hQ
   exact hQ _ hi.step1 (Heap.SameBut.update ..)
 | slots hb hdr =>
  have ris:=hx.tab.2.1
  have ps:=xg hx
  have hil:i < es.size:=by
   have:=(List.getElem?_eq_some_iff.mp hv).1
   simpa using this
  dsimp only
  refine wpAny_bind ?_
  unfold setNext setsByText
  refine wpAny_bind (wpAny_setState_of ho hx.dat hx.fit ?_)
  refine wpAny_bind (wpAny_bind (wpAny_askSetting (wpAny_pure ?_)))
  refine wpAny_ite_split (λ z=>absurd (hb.symm.trans z) Bool.false_ne_true) (λ _=>?_)
  dsimp only
  show wpAny _ _ (if (!t.plain && decide (es.size > 1))=true then _ else _) _ _ _
  rw [if_neg (by rw [hdr];exact Bool.false_ne_true)]
  show wpAny _ _ ((if (!t.led && !es.isEmpty)=true then unsupported "set:maker-not-led" else pure PUnit.unit) >>= _) _ _ _
  rw [if_neg (by rw [Cw hx hb];simp)]
  refine wpAny_bind (wpAny_pure (wpAny_pure ?_))
  have hbl:SetTable.below t.place (if i=0 then (0:Int) else ((t.place.getD (i - 1) 0 + 1:Nat):Int)).toNat=i:=by
   by_cases c:i=0
   ·subst c
    exact qI ris
   ·rw [if_neg c,Int.toNat_natCast,qH ris (by omega)]
    omega
  rw [hbl]
  have e1:es[i]?=some es[i]:=by simp [hil]
  have e2:t.place[i]?=some (t.place.getD i 0):=by simp [Array.getD,ps,hil]
  rw [e1,e2]
  dsimp only
  have ev:es[i].2=v:=by
   rw [List.getElem?_map,Array.getElem?_toList,e1] at hv
   simpa using hv
  rw [ev]
  refine wpAny_bind (wpAny_setField hoi hd (by simp) ?_)
  have h1:=Heap.get?_update_self (Obj.mapFields (·.setIfInBounds 0 (rawInt ((t.place.getD i 0 + 1:Nat):Int)))) hoi (Obj.isFreed_of_fields (Obj.data_mapFields hd _))
  refine wpAny_bind (wpAny_setField h1 (Obj.data_mapFields hd _) (by simp) (wpAny_pure ⟨_,rfl,wpAny_pure (hQ _ ?_ ((Heap.SameBut.update ..).trans (Heap.SameBut.update ..)))⟩))
  exact hi.step _
theorem AF {I a b:Addr} {o:Obj} {es:Array (Int × Value)} {ep:Nat} {t:SetTable} {vs:List Value} {f:Nat->Value} {tp:Option (List Nat)} {Q:Option Value->Shared->Prop} (hh:A.handled=none) (rd:Rd w a es ep t vs f b tp) (hi:fU s.heap I a (f es.size) es.size es.size ep) (htp:Js s.heap b tp) (ho:s.heap.get? a=some o) (hx:SX prog w o es ep t)
  (hQ:∀ h',(∀ c o,c ≠ I->s.heap.get? c=some o->h'.get? c=some o)->Q none { s with heap:=h' }) :
  wpAny (model prog w) A (pyNext (.ref I)) Q E s:=by
 have hT:=hi.ty
 have vl:vs.length=es.size:=by have:=rd.perm.length_eq;simpa using this
 obtain ⟨oi,hoi,hc,hd⟩:=id hi
 unfold pyNext
 refine wpAny_bind (wpAny_attempt (wpAny_callSpecial?_slot (name:=Str.ofString "__next__") hT d7 (wpAny_call_entry d7 hT pK ?_ (qC _))))
 unfold Builtin.«set_iterator.__next__» slotArgs
 simp only [List.isEmpty_nil,Bool.not_true,Bool.false_eq_true,↓reduceIte,bind_assoc,List.length_nil,bne_self_eq_false]
 refine wpAny_bind (wpAny_pure (wpAny_bind (wpAny_fieldsOf hoi hd ?_)))
 dsimp only
 refine wpAny_bind (wpAny_setEntries_of ho hx.dat hx.fit ?_)
 rw [if_neg (by simp)]
 have fin:∀ (h1:Heap),(∀ c o,c ≠ I->s.heap.get? c=some o->h1.get? c=some o)->wpAny (model prog w) A.in1 (newExc (.type "StopIteration") [] >>= λ e=>(raiseNew e:Sem PySem.Fin)) (λ fin s'=>∃ v,fin=PySem.Fin.done (.ret v)/\wpAny (model prog w) A (pure (some v)) Q E s')
   (λ e s'=>wpAny (model prog w) A (do let b ← isInstance e (.type "StopIteration");if b=true then pure none else throw e) Q E s') { s with heap:=h1 }:=by
  intro h1 k1
  refine wpAny_bind ?_
  simp only [newExc,newTuple]
  refine wpAny_bind (wpAny_newObj_type ?_ (by size_fits))
  refine wpAny_bind (m:=firstArgMember _ _) (wpAny_of_eq (a:=Value.none) (by first | rfl | (simp only [firstArgMember];rfl)) (wpAny_newObj_type ?_ (by size_fits)))
  simp only [raiseNew]
  refine wpAny_bind (wpAny_handled ?_)
  rw [show A.in1.handled=none from hh]
  refine wpAny_bind (wpAny_pure (wpAny_throw ?_))
  refine wpAny_bind (wpAny_isInstance (T := "StopIteration") (b:=true) ⟨_,Heap.get?_push_size _ rfl,rfl⟩ isSubtype_stop (wpAny_pure (hQ _ λ c o n e=>?_)))
  exact Heap.get?_push_of_some _ (Heap.get?_push_of_some _ (k1 c o n e))
 cases rd with
 | text hb =>
  dsimp only
  refine wpAny_bind ?_
  unfold setNext setWalk setsByText
  refine wpAny_bind (wpAny_setState_of ho hx.dat hx.fit ?_)
  refine wpAny_bind (wpAny_bind (wpAny_askSetting (wpAny_pure ?_)))
  refine wpAny_ite_split (λ _=>?_) (λ z=>absurd hb z)
  dsimp only
  rw [if_neg (by simp)]
  refine wpAny_bind (wpAny_bind (wpAny_setState_of ho hx.dat hx.fit ?_))
  refine wpAny_bind (wpAny_bind (wpAny_askSetting (wpAny_pure ?_)))
  refine wpAny_ite_split (λ _=>?_) (λ z=>absurd hb z)
  refine wpAny_bind (wpAny_askSetting (wpAny_pure (wpAny_pure ?_)))
  have hg:(pickOrder (w.params.setOrder a ep) es)[((es.size:Int)).toNat]?=none:=by
   rw [<- Array.getElem?_toList]
   refine List.getElem?_eq_none ?_
   have:=(tI (w.params.setOrder a ep) es).length_eq
   simp at this ⊢
   omega
  have hg':(pickOrder ((Setting.mk (model prog w).prog (model prog w).w.params).params.setOrder a (es,ep,t).2.1) (es,ep,t).1)[((es.size:Int)).toNat]?=none:=hg
  rw [hg']
  show wpAny _ _ (setField (.ref I) 2 .none >>= _) _ _ _
  refine wpAny_bind (wpAny_setField hoi hd (by simp) (fin _ λ c o n e=>?_))
  rw [(Heap.SameBut.update s.heap I _).2 c n];exact e
 | drawn hb ps hp b =>
  obtain ⟨ot,n,hot,hdt,_⟩:=htp ps rfl
  dsimp only
  refine wpAny_bind (wpAny_seqItems hot hdt ?_)
  dsimp only
  have e1:((ps.map λ (j:Nat)=>Value.int j 0).toArray)[((es.size:Int)).toNat]?=none:=by
   have:=hp.length_eq
   simp at this
   simp [this]
  rw [e1]
  show wpAny _ _ (setField (.ref I) 0 (rawInt 0) >>= _) _ _ _
  refine wpAny_bind (wpAny_setField hoi hd (by simp) ?_)
  have h1:=Heap.get?_update_self (Obj.mapFields (·.setIfInBounds 0 (rawInt 0))) hoi (Obj.isFreed_of_fields (Obj.data_mapFields hd _))
  refine wpAny_bind (wpAny_setField h1 (Obj.data_mapFields hd _) (by simp) (fin _ λ c o n e=>?_))
  rw [((Heap.SameBut.update s.heap I _).trans (Heap.SameBut.update _ I _)).2 c n];exact e
 | slots hb hdr =>
  have ris:=hx.tab.2.1
  have ps:=xg hx
  dsimp only
  refine wpAny_bind ?_
  unfold setNext setsByText
  refine wpAny_bind (wpAny_setState_of ho hx.dat hx.fit ?_)
  refine wpAny_bind (wpAny_bind (wpAny_askSetting (wpAny_pure ?_)))
  refine wpAny_ite_split (λ z=>absurd (hb.symm.trans z) Bool.false_ne_true) (λ _=>?_)
  dsimp only
  show wpAny _ _ (if (!t.plain && decide (es.size > 1))=true then _ else _) _ _ _
  rw [if_neg (by rw [hdr];exact Bool.false_ne_true)]
  show wpAny _ _ ((if (!t.led && !es.isEmpty)=true then unsupported "set:maker-not-led" else pure PUnit.unit) >>= _) _ _ _
  rw [if_neg (by rw [Cw hx hb];simp)]
  refine wpAny_bind (wpAny_pure (wpAny_pure ?_))
  have hbl:SetTable.below t.place (if es.size=0 then (0:Int) else ((t.place.getD (es.size - 1) 0 + 1:Nat):Int)).toNat=es.size:=by
   by_cases c:es.size=0
   ·rw [if_pos c,c]
    exact qI ris
   ·rw [if_neg c,Int.toNat_natCast,qH ris (by omega)]
    omega
  rw [hbl]
  have e1:es[es.size]?=none:=by simp
  rw [e1]
  dsimp only
  refine wpAny_bind (wpAny_setField hoi hd (by simp) (fin _ λ c o n e=>?_))
  rw [(Heap.SameBut.update s.heap I _).2 c n];exact e
end
end L3
namespace L3
open PySem PySem.Spec PyProof.Rows
section
variable {prog:Program} {w:World} {A:Around} {E:Value->Shared->Prop} {s:Shared}
theorem kR:Slot "set_iterator" "__iter__" "set_iterator.__iter__":=
 .of (owner := "set_iterator") (n := "__iter__") (by rw [typeLookup_type,builtinLookup_eq_fast];kernel_rfl) (by decide +kernel) (by decide +kernel) (by decide +kernel)
  (by first | exact .inl (by decide +kernel) | exact .inr (by decide +kernel)) (by rw [isSubtype_type];kernel_rfl)
theorem oM:entryFor table "set_iterator.__iter__" = some Builtin.«dict_keyiterator.__iter__»:=
 entryFor_alias (id' := "dict_keyiterator.__iter__") (by kernel_rfl) rfl (by decide +kernel) (by kernel_rfl)
theorem pW (a:Value):argsOk "set_iterator.__iter__" ⟨[a],[]⟩:=by
 unfold argsOk;rw [signature?_of (id := "set_iterator.__iter__") (n:=['_','_','r','e','t','i','_','_']) (o:=['r','o','t','a','r','e','t','i','_','t','e','s']) (by kernel_rfl) pP];kernel_rfl
theorem fU.keep {h h':Heap} {I a:Addr} {f:Value} {i n ep:Nat} (x:fU h I a f i n ep) (e:∀ o,h.get? I=some o->h'.get? I=some o):fU h' I a f i n ep:=let ⟨o,ho,r⟩:=x;⟨o,e o ho,r⟩
theorem DX {I a b:Addr} {o:Obj} {es:Array (Int × Value)} {ep:Nat} {t:SetTable} {vs:List Value} {f:Nat->Value} {tp:Option (List Nat)} (hh:A.handled=none) (rd:Rd w a es ep t vs f b tp) (hx:SX prog w o es ep t) (na:a ≠ I) (nb:b ≠ I) :
  Walks prog w A I [I,a,b] [I] es.size (λ i v=>vs[i]?=some v) (λ i h=>fU h I a (f i) i es.size ep/\h.get? a=some o/\Js h b tp) where
 sub:=λ c hc=>by rw [List.mem_singleton.mp hc];exact List.mem_cons_self
 frame:=λ i h h' st hk=>⟨st.1.keep (hk I (by simp)),hk a (by simp) _ st.2.1,λ ps e=>let ⟨o,n,x,y⟩:=st.2.2 ps e;⟨o,n,hk b (by simp) _ x,y⟩⟩
 item:=λ i s Q E hi st hQ=>by
  have vl:vs.length=es.size:=by have:=rd.perm.length_eq;simpa using this
  refine AG rd st.1 st.2.2 st.2.1 hx (List.getElem?_eq_getElem (by omega)) λ h' x1 x2=>?_
  have kp:∀ c o,c ∉ [I]->s.heap.get? c=some o->h'.get? c=some o:=λ c o n e=>by rw [x2.2 c λ z=>n (by simp [z])];exact e
  exact hQ _ h' s.toks (List.getElem?_eq_getElem (by omega)) ⟨x1,kp a _ (by simpa using na) st.2.1,λ ps e=>let ⟨o,n,x,y⟩:=st.2.2 ps e;⟨o,n,kp b _ (by simpa using nb) x,y⟩⟩ kp
 done:=λ s Q E st hQ=>AF hh rd st.1 st.2.2 st.2.1 hx λ h' x=>hQ h' s.toks λ c o n e=>x c o (λ z=>n (by simp [z])) e
 self:=λ i s Q E st hQ=>by
  refine wpAny_pyIter_slot st.1.ty kR (wpAny_call_entry kR st.1.ty oM ?_ (pW _))
  show wpAny _ _ (ret (.ref I)) _ _ s
  exact wpAny_pure ⟨_,rfl, "set_iterator",_,st.1.ty,d7.lookup,hQ⟩
theorem Ci {r:Addr} {Q:Bool->Shared->Prop} (hT:s.TypeIs (.ref r) "set") (h:Q false s):wpAny (model prog w) A (Builtin.List.listLengthHint (.ref r)) Q E s:=by
 unfold Builtin.List.listLengthHint
 refine wpAny_bind (wpAny_specialOf hT F.slot_set_len.lookup ?_)
 generalize hid:("set.__len__" : String)=id0
 wp_delta
 rw [show splitId id0=some ("set", "__len__") from by subst hid;decide +kernel]
 subst hid
 refine wpAny_bind (wpAny_isInstance (T := "set") (b:=true) hT (by rw [isSubtype_type];kernel_rfl) ?_)
 refine wpAny_ite_split (λ z=>absurd z (by decide)) (λ _=>?_)
 refine wpAny_ite_split (λ _=>?_) (λ z=>absurd (by decide +kernel) z)
 exact wpAny_bind (wpAny_typeOf hT (wpAny_pure h))
structure Kp (s s1:Shared):Prop where
 heap:∀ c o,s.heap.get? c=some o->s1.heap.get? c=some o
 gens:s1.gens=s.gens
 os:s1.os=s.os
theorem yi {R:Result->Shared->Prop} {a S:Addr} {o:Obj} {es:Array (Int × Value)} {ep:Nat} {t:SetTable} {res:Value} {c₀:Nat} (hh:A.handled=none) (ho:s.heap.get? a=some o) (hx:SX prog w o es ep t) (hz:es.size <= sizeLine) (nS:S ≠ a)
  (hS:s.heap.get? S=some { cls:=.type "list",data:=.seq #[] c₀ })
  (hR:∀ (s1:Shared) (vs:List Value) acc c,vs.Perm (es.toList.map (·.2))->ItemsOf (λ i v=>vs[i]?=some v) acc es.size->(∀ b o,b ≠ S->s.heap.get? b=some o->s1.heap.get? b=some o)->s1.gens=s.gens->s1.os=s.os->s1.heap.get? S=some { cls:=.type "list",dict:=none,data:=.seq acc c,slots:=#[] }->R (.ok (.ret res)) s1) :
  wpAny (model prog w) A.in1 (Builtin.List.listExtendWith (.ref S) (.ref a) res)
   (λ fin s'=>match fin with | .done f=>R (.ok f) s' | .again c'=>c'.quiet=true/\codeAny (model prog w) A c' R s') (λ e s'=>R (.error e) s') s:=by
 have hT:s.TypeIs (.ref a) "set":=⟨o,ho,hx.ex.1⟩
 unfold Builtin.List.listExtendWith
 refine wpAny_bind (wpAny_typeOf (T := "set") hT ?_)
 have q1:Builtin.List.listSameRef (.ref S) (.ref a)=false:=by simp [Builtin.List.listSameRef,nS]
 have q2:(Value.type "set" == Value.type "list")=false:=by decide
 have q3:(Value.type "set" == Value.type "tuple")=false:=by decide
 simp only [q1,q2,q3,Bool.or_false,Bool.false_eq_true,if_false]
 refine wpAny_bind (Cp ho hx hz λ I s1 vs f b tp rd hi htp nI kp lI ⟨h',d,e⟩=>?_)
 have e1:s1.heap=h':=by rw [e]
 have ho1:=kp a o ho
 have hS1:=kp S _ hS
 have na:a ≠ I:=Nat.ne_of_lt (Nat.lt_of_lt_of_le (Heap.lt_size ho) lI)
 have nSI:S ≠ I:=Nat.ne_of_lt (Nat.lt_of_lt_of_le (Heap.lt_size hS) lI)
 have nSb:S ≠ b:=by
  cases rd with
  | text _=>exact nS
  | slots _ _=>exact nS
  | drawn hb ps hp b =>
   rintro rfl
   obtain ⟨o',n',x,_,y⟩:=htp ps rfl
   rw [hS1] at x
   cases x
   exact absurd (show Value.type "list" = Value.type "tuple" from y) (by decide)
 have hT1:s1.TypeIs (.ref a) "set":=⟨o,ho1,hx.ex.1⟩
 have g1:s1.gens=s.gens:=by rw [e]
 have o1:s1.os=s.os:=by rw [e]
 have W:=(DX (A:=A.in1) hh rd hx na (Ne.symm nI)).toS
 have key:∀ (h:Heap) (c₁:Nat),(fU h I a (f 0) 0 es.size ep/\h.get? a=some o/\Js h b tp)->(∀ b o,b ≠ S->s1.heap.get? b=some o->h.get? b=some o)->h.get? S=some { cls:=.type "list",data:=.seq #[] c₁ } →
   codeAny (model prog w) A (.builtin "list.extend.loop" ⟨[.ref S,.ref I,res],[]⟩) R { s1 with heap:=h }:=by
  intro h c₁ st kp2 hS2
  refine codeAny_extend_loopS W hz S (by simp [nSI,nS,nSb]) res es.size 0 _ #[] c₁ rfl (Nat.zero_le _) st hS2 (ItemsOf.nil _) λ s' acc c hm hS' it=>?_
  refine hR s' vs acc c rd.perm it (λ c o n e=>hm.heap c o (λ z=>?_) (kp2 c o n (kp c o e))) (hm.gens.trans g1) (hm.os.trans o1) hS'
  rcases List.mem_cons.mp z with z | z
  ·exact n z
  ·exact Nat.ne_of_lt (Nat.lt_of_lt_of_le (Heap.lt_size e) lI) (List.mem_singleton.mp z)
 refine wpAny_bind (wpAny_holding (Ci hT1 ?_))
 refine wpAny_ite_split (λ _=>?_) (λ _=>wpAny_pure ⟨plainId_quiet F.plain_extend_loop _,key s1.heap c₀ ⟨hi,ho1,htp⟩ (λ b o _ e=>e) hS1⟩)
 refine wpAny_bind (wpAny_rule (wpAny_bind ?_))
 show wpAny _ _ (updateSeq S (·.push .none) >>= λ _=>updateSeq S (·.pop)) _ _ _
 refine wpAny_bind (wpAny_updateSeq hS1 rfl ?_)
 have hS2:=Heap.get?_update_self (Obj.mapSeq (·.push Value.none)) hS1 rfl
 refine wpAny_updateSeq (hz:=by seq_fits) hS2 rfl ?_
 have hS3:=Heap.get?_update_self (Obj.mapSeq (·.pop)) hS2 rfl
 have ot:∀ b o,b ≠ S->s1.heap.get? b=some o->((s1.heap.update S (Obj.mapSeq (·.push Value.none))).update S (Obj.mapSeq (·.pop))).get? b=some o:=λ b o n e =>
  (Heap.get?_update_other _ _ (Ne.symm n)).trans ((Heap.get?_update_other _ _ (Ne.symm n)).trans e)
 refine wpAny_pure ⟨plainId_quiet F.plain_extend_loop _,key _ _ ⟨hi.keep λ o e=>ot I o (Ne.symm nSI) e,ot a _ (Ne.symm nS) ho1,λ ps e=>?_⟩ ot hS3⟩
 obtain ⟨o',n',x,y⟩:=htp ps e
 exact ⟨o',n',ot b o' (Ne.symm nSb) x,y⟩
theorem wg {a:Addr} {o:Obj} {es:Array (Int × Value)} {ep:Nat} {t:SetTable} {R:List Value->Shared->Prop} (hh:A.handled=none) (ho:s.heap.get? a=some o) (hx:SX prog w o es ep t) (hz:es.size <= sizeLine)
  (h:∀ (s1:Shared) (vs:List Value),vs.Perm (es.toList.map (·.2))->Kp s s1->R vs s1):wpAny (model prog w) A (collect (.ref a)) R E s:=by
 have lt:=Heap.lt_size ho
 unfold collect
 refine wpAny_bind (wpAny_runValue (codeAny_builtin entry_proto_collect' ?_))
 rw [Around.under_plainId PySem.F.plain_proto_collect _]
 refine wpAny_bind (wpAny_newObj_type (wpAny_pure ⟨plainId_quiet PySem.F.plain_list_iadd _,codeAny_builtin entry_list_iadd' ?_⟩))
 rw [Around.under_plainId PySem.F.plain_list_iadd _]
 have hS:(s.heap.push { cls:=.type "list",data:=.seq ([]:List Value).toArray }).get? s.heap.objs.size=some { cls:=.type "list",data:=.seq #[] }:=Heap.get?_push_size _ rfl
 have main:=yi (prog:=prog) (w:=w) (A:=A) (s:={ s with heap:=s.heap.push { cls:=.type "list",data:=.seq ([]:List Value).toArray } }) (res:=.ref s.heap.objs.size) (c₀:=0)
  (R:=λ (q:Result) (s':Shared)=>∃ (vs:List Value) (acc:Array Value) (c:Nat),q=.ok (.ret (.ref s.heap.objs.size))/\vs.Perm (es.toList.map (·.2))/\acc.toList=vs/\Kp s s'/\s'.heap.get? s.heap.objs.size=some { cls:=.type "list",dict:=none,data:=.seq acc c,slots:=#[] })
  (by simpa using hh) (Heap.get?_push_of_some _ ho) hx hz (Nat.ne_of_gt lt) hS (λ s1 vs acc c pm it kp g os' hg=>⟨vs,acc,c,rfl,pm,?_,⟨λ b o e=>kp b o (Nat.ne_of_lt (Heap.lt_size e)) (Heap.get?_push_of_some _ e),g,os'⟩,hg⟩)
 ·refine wpAny_mono main (λ fin s' x=>?_) λ e s' x=>?_
  ·cases fin with
   | done f =>
    obtain ⟨vs,acc,c,e,pm,ev,kp,hg⟩:=x
    cases e
    show wpAny _ A (load s.heap.objs.size >>= _) _ _ _
    refine wpAny_bind (wpAny_load hg (wpAny_pure ?_))
    rw [ev]
    exact h s' vs pm kp
   | again c1 =>
    refine ⟨x.1,codeAny_mono x.2 λ q s2 y=>?_⟩
    obtain ⟨vs,acc,c,rfl,pm,ev,kp,hg⟩:=y
    show wpAny _ A (load s.heap.objs.size >>= _) _ _ _
    refine wpAny_bind (wpAny_load hg (wpAny_pure ?_))
    rw [ev]
    exact h s2 vs pm kp
  ·obtain ⟨_,_,_,e',_⟩:=x
   cases e'
 ·apply List.ext_getElem?
  intro i
  have vl:vs.length=es.size:=by have:=pm.length_eq;simpa using this
  by_cases c:i < es.size
  ·rw [Array.getElem?_toList,Array.getElem?_eq_getElem (by rw [it.1];exact c)]
   exact (it.2 i _ (Array.getElem?_eq_getElem (by rw [it.1];exact c))).symm
  ·rw [List.getElem?_eq_none (by simp [it.1];omega),List.getElem?_eq_none (by omega)]
theorem zd {a:Addr} {o:Obj} {es:Array (Int × Value)} {ep:Nat} {t:SetTable} {Q:Value->Shared->Prop} (hh:A.handled=none) (ho:s.heap.get? a=some o) (hx:SX prog w o es ep t) (h64:es.size < 64)
  (h:∀ (s1:Shared) (h2:Heap) (out:List Value) (ns:List Int) (e:Nat),IntsAre out ns->ns.Perm (oR es.toList)->ns.Pairwise (· <= ·)->Kp s s1->(∀ c o,s1.heap.get? c=some o->h2.get? c=some o)->h2.get? s1.heap.objs.size=some (seqObj "list" out.toArray e)->Q (.ref s1.heap.objs.size) { s1 with heap:=h2 }) :
  wpAny (model prog w) A (call (.builtin "sorted") [.ref a]) Q E s:=by
 refine Calls.call_function_entry kind_sorted plain_sorted entry_sorted (args_sorted1 _) ?_
 unfold Builtin.«sorted»
 refine wpAny_bind (m:=checkCount "sorted" 1 1 _) (wpAny_pure (wpAny_bind (wg (A:=A.in1) (by simpa using hh) ho hx (by rw [sizeLine_eq];omega) λ s1 vs pm kp=>?_)))
 have vl:vs.length=es.size:=by have:=pm.length_eq;simpa using this
 have hI:∀ (l:List (Int × Value)),(∀ e∈l,∃ t,e.2=.int (ik e.2) t)->IntsAre (l.map (·.2)) (oR l):=by
  intro l
  induction l with
  | nil=>intro _;exact .nil
  | cons e l ih =>
   intro he
   obtain ⟨t,ht⟩:=he e List.mem_cons_self
   have:=ih λ x hx=>he x (List.mem_cons_of_mem _ hx)
   show IntsAre (e.2 :: l.map (·.2)) (ik e.2 :: oR l)
   rw [ht]
   exact .cons _ t this
 obtain ⟨ns,hns,hpn⟩:∃ ns,IntsAre vs ns/\ns.Perm (oR es.toList):=by
  have base:=hI es.toList λ e he=>ye hx.el he
  refine ⟨vs.map ik,?_,?_⟩
  ·have:∀ l:List Value,(∀ v∈l,∃ t,v=.int (ik v) t)->IntsAre l (l.map ik):=by
    intro l
    induction l with
    | nil=>intro _;exact .nil
    | cons v l ih =>
     intro hv
     obtain ⟨t,ht⟩:=hv v List.mem_cons_self
     have:=ih λ x hx=>hv x (List.mem_cons_of_mem _ hx)
     rw [List.map_cons]
     rw [ht]
     exact .cons _ t this
   refine this vs λ v hv=>?_
   obtain ⟨e,he,rfl⟩:=List.mem_map.mp (pm.mem_iff.mp hv)
   exact ye hx.el he
  ·have:=pm.map ik
   rw [List.map_map] at this
   exact this
 refine wpAny_bind (wpAny_newList ?_ (by rw [vl,sizeLine_eq];omega))
 have hoL:(s1.heap.push { cls:=.type "list",data:=.seq vs.toArray }).get? s1.heap.objs.size=some (seqObj "list" vs.toArray 0):=Heap.get?_push_size _ rfl
 refine wpAny_bind (wpAny_holding (wpAny_call_entry slot_list_sort ⟨_,hoL,rfl⟩ entry_list_sort (list_sort_tree hoL hns (by omega) λ out ns' a1 a2 a3=>⟨_,rfl,?_⟩) (args_list_sort _)))
 obtain ⟨e,he⟩:=sortedHeap_at (out:=out) hoL
 refine wpAny_pure ⟨_,rfl,h s1 _ out.toList ns' e a1 (a2.trans hpn) a3 kp (λ c o q1=>?_) (by simpa using he)⟩
 have q2:=Heap.lt_size q1
 rw [sortedHeap_old (Nat.ne_of_lt q2) (by rw [size_push'];exact Nat.lt_succ_of_lt q2)]
 exact Heap.get?_push_of_some _ q1
end
end L3
namespace L3
open PySem PySem.Spec PyProof.Rows L2
noncomputable def wI (x:Int):List Int->List Int
 | []=>[x]
 | y :: ys=>if x < y then x :: y :: ys else if x=y then y :: ys else y :: wI x ys
noncomputable def kf (ns:List Int):List Int:=ns.foldr wI []
theorem rh {x z:Int}:∀ {l:List Int},z∈wI x l ↔ z=x \/ z∈l
 | []=>by simp [wI]
 | y :: ys=>by
  unfold wI
  split
  ·simp
  ·split
   ·rename_i e
    subst e
    simp
   ·simp only [List.mem_cons,rh (l:=ys)]
    constructor
    ·rintro (h | h | h)
     ·exact .inr (.inl h)
     ·exact .inl h
     ·exact .inr (.inr h)
    ·rintro (h | h | h)
     ·exact .inr (.inl h)
     ·exact .inl h
     ·exact .inr (.inr h)
theorem zu {x:Int}:∀ {l:List Int},l.Pairwise (· < ·)->(wI x l).Pairwise (· < ·)
 | [],_=>by simp [wI]
 | y :: ys,h=>by
  obtain ⟨h1,h2⟩:=List.pairwise_cons.mp h
  unfold wI
  split
  ·rename_i c
   refine List.pairwise_cons.mpr ⟨λ z hz=>?_,h⟩
   rcases List.mem_cons.mp hz with rfl | hz
   ·exact c
   ·exact Int.lt_trans c (h1 z hz)
  ·split
   ·exact h
   ·rename_i c d
    refine List.pairwise_cons.mpr ⟨λ z hz=>?_,zu h2⟩
    rcases rh.mp hz with rfl | hz
    ·omega
    ·exact h1 z hz
theorem fW {z:Int}:∀ {ns:List Int},z∈kf ns ↔ z∈ns
 | []=>by simp [kf]
 | n :: ns=>by
  have:=fW (z:=z) (ns:=ns)
  unfold kf at this ⊢
  rw [List.foldr_cons,rh,this,List.mem_cons]
theorem oa:∀ ns:List Int,(kf ns).Pairwise (· < ·)
 | []=>List.Pairwise.nil
 | n :: ns=>by
  have:=oa ns
  unfold kf at this ⊢
  rw [List.foldr_cons]
  exact zu this
theorem vV:∀ {l m:List Int},l.Pairwise (· < ·)->m.Pairwise (· < ·)->(∀ z,z∈l ↔ z∈m)->l=m
 | [],[],_,_,_=>rfl
 | [],b :: m,_,_,h=>by have:=(h b).mpr List.mem_cons_self;cases this
 | a :: l,[],_,_,h=>by have:=(h a).mp List.mem_cons_self;cases this
 | a :: l,b :: m,hl,hm,h=>by
  obtain ⟨l1,l2⟩:=List.pairwise_cons.mp hl
  obtain ⟨m1,m2⟩:=List.pairwise_cons.mp hm
  have e:a=b:=by
   have p:=(h a).mp List.mem_cons_self
   have q:=(h b).mpr List.mem_cons_self
   rcases List.mem_cons.mp p with p | p
   ·exact p
   ·rcases List.mem_cons.mp q with q | q
    ·exact q.symm
    ·have:=m1 a p
     have:=l1 b q
     omega
  subst e
  congr 1
  refine vV l2 m2 λ z=>?_
  have:=h z
  simp only [List.mem_cons] at this
  constructor
  ·intro hz
   have n:=l1 z hz
   exact (this.mp (.inr hz)).resolve_left (by omega)
  ·intro hz
   have n:=m1 z hz
   exact (this.mpr (.inr hz)).resolve_left (by omega)
theorem l7:∀ (ks:List Int) (m:List Int),ks.Nodup->(∀ x∈ks,x∈m)->ks.length <= m.length
 | [],m,_,_=>Nat.zero_le _
 | k :: ks,m,h,hs=>by
  obtain ⟨h1,h2⟩:=List.nodup_cons.mp h
  have:=l7 ks (m.erase k) h2 λ x hx=>(List.mem_erase_of_ne (by rintro rfl;exact h1 hx)).mpr (hs x (List.mem_cons_of_mem _ hx))
  rw [List.length_erase_of_mem (hs k List.mem_cons_self)] at this
  have:=List.length_pos_of_mem (hs k List.mem_cons_self)
  simp
  omega
theorem xK {l:List Int} (h:l.Pairwise (· < ·)):l.Nodup:=h.imp λ h=>by omega
theorem BN:bootBuiltins "set" = some (.type "set"):=by decide +kernel
theorem wc:bootBuiltins "sorted" = some (.builtin "sorted"):=by decide +kernel
theorem Ck {X:Cx} {pins:List (Addr × Obj)} {σ:St} {H:Hp} {s s1:Shared} (I:Inv X pins σ H s) (k:Kp s s1):Inv X pins σ H s1:=by
 have J:=I.kept (t':=0) k.heap
 exact ⟨J.ok,k.os.trans I.os,by rw [k.gens];exact I.bare,J.base,J.loc,J.cell,J.free,J.freeC,J.pin,J.hok,J.len,J.sgm⟩
theorem xM:∀ {ns:List Int} {its:List Value},ba (ns.map V.int) its->IntsAre its ns
 | [],its,h=>by cases h;exact .nil
 | n :: ns,its,h=>by
  rw [List.map_cons] at h
  cases h with
  | cons r rr =>
   obtain ⟨t,rfl⟩:=r
   exact .cons n t (xM rr)
theorem v6:∀ {its:List Value} {ns:List Int},IntsAre its ns->ba (ns.map V.int) its
 | _,_,.nil=>.nil
 | _,_,.cons n t r=>.cons ⟨t,rfl⟩ (v6 r)
theorem E7 {X:Cx} {a:Expr} {ta:TA} {p pos p' pos':Pos} (hc:X.calm=true) (hgs:Gl X "sorted") (hms:X.mg "sorted" = none) (hg:Gl X "set") (hm:X.mg "set" = none) (ha:PA X [a] ta) (hs:aA a=true) :
  PE X (.Call (.Name "sorted" p) [.Call (.Name "set" p') [a] [] pos'] [] pos) (λ σ H Q=>ta σ H λ vs H1=>∃ (q:Addr) (ns:List Int),vs=[.ref q]/\bz X.K H1 q (ns.map V.int)/\(kf ns).length < 64/\∀ l,H1 l=none->Q (.ref l) (upd H1 l (.lst ((kf ns).map V.int)))):=by
 intro pins s σ H Q I h
 refine wpAny_Call_Name_kw (gM I hgs hms wc ?_ (by decide) (by decide))
 refine PyProof.Rows.callWith_builtin1 ?_ (aB rfl) rfl
 rw [aB rfl]
 show wpAny _ _ (spliced ((false,eval _ X.env) :: backTo pos (starEach [] X.env))) _ _ s
 refine Calls.spliced_cons (Call_ (gM I hg hm BN (PyProof.Rows.callWith_type1 (br (ha pos' pins s σ H _ I h) λ us s1 ⟨vs,H1,I1,r1,q1⟩=>?_) (aB hs) rfl)))
 obtain ⟨q,ns,e,hq,h64,hQ⟩:=q1
 subst e
 cases r1 with
 | cons r rr =>
  cases rr
  cases r
  obtain ⟨its,r',pl,hz⟩:=I1.list hq
  have ia:=xM r'
  have hd:=I1.ok.hd hc
  refine BR (items:=its.toArray) (ns:=ns) hd pl.isList (by simpa using ia) (λ ks nd hk=>?_) λ h' tk o es ep t g1 g2 g3 g4 g5=>?_
  ·have:=l7 ks (kf ns) nd λ x hx=>fW.mpr (hk x hx)
   unfold scanBound
   omega
  ·have k1:Kp s1 { s1 with heap:=h',toks:=tk }:=⟨λ c o e=>g5 c o (Heap.lt_size e) e,rfl,rfl⟩
   have I2:=Ck I1 k1
   have sz:es.size < 64:=by
    have:=l7 _ (kf ns) g3 λ x hx=>fW.mpr ((g4 x).mp hx)
    simp [oR] at this
    omega
   refine Calls.spliced_nil (zd hd g1 g2 sz λ s2 h2 out ns' e a1 a2 a3 k2 k3 a4=>?_)
   have I3:=Ck I2 k2
   have en:ns'=kf ns:=by
    refine vV ?_ (oa ns) λ z=>?_
    ·have nd:ns'.Nodup:=a2.nodup_iff.mpr g3
     have:ns'.Pairwise λ a b=>a <= b/\a ≠ b:=a3.and nd
     exact this.imp λ h=>by omega
    ·rw [a2.mem_iff,g4,fW]
   subst en
   exact ⟨.ref _,_,I3.laid (t':=s2.toks) k3 (Nat.le_refl _) (show dG X.prog X.w _ h2 _ (.lst _) from ⟨by rw [List.length_map];exact xW (by omega),out,e,v6 a1,by simpa [seqObj] using a4⟩),rfl,hQ _ (I3.hok.fresh (Nat.le_refl _))⟩
noncomputable def rR:D->R (List D)
 | .lst ds=>match i9 ds with
  | some ns=>if (kf ns).length < 64 then .ok ((kf ns).map D.int) else .stuck
  | none=>.stuck
 | _=>.stuck
section
variable {κ:Nat->Addr} {B:Gd} {X:Cx} {a:Expr} {fa:Ev->R D} {p pos p' pos':Pos}
theorem Dg (hc:X.calm=true) (hgs:Gl X "sorted") (hms:X.mg "sorted" = none) (hg:Gl X "set") (hm:X.mg "set" = none) (ha:dN κ B X a fa) (h:aA a=true):xQ κ B X (.Call (.Name "sorted" p) [.Call (.Name "set" p') [a] [] pos'] [] pos) (λ δ=>(fa δ).bind rR):=λ pins σ Ex =>
 be (E7 (X:=At X pins σ Ex) hc hgs hms hg hm (bw (X:=At X pins σ Ex) (ha pins σ Ex) cA (aB h)) h) λ τ H Q hz=>eQ hz λ G δ rp q=>⟨G,δ,rp,by
  dsimp only at q
  cases e:fa δ with
  | exc c=>rw [e] at q;exact q
  | stuck=>rw [e] at q;exact q
  | ok d =>
   rw [e] at q
   intro v H1 G1 e1 d1
   have q1:=uL.pre e1 q
   change uL X κ (EX X pins σ Ex) G1 H1 (rR d) Q at q1
   cases d with
   | lst ds =>
    simp only [rR] at q1
    split at q1
    ·rename_i ns en
     split at q1
     ·rename_i h64
      have fin:∀ {q:Addr} {vs:List V},bz X.K H1 q vs->Dens ⟨X.K,κ⟩ G1 vs ds->∃ (p:Addr) (ms:List Int),[V.ref q]=[V.ref p]/\bz X.K H1 p (ms.map V.int)/\(kf ms).length < 64/\∀ l,H1 l=none->Q (.ref l) (upd H1 l (.lst ((kf ms).map V.int))):=λ {q vs} h1 h2 =>
       ⟨q,ns,rfl,ky h2 en ▸ h1,h64,λ l hl=>q1 l _ _ G1 (nQ e1.GH hl) aw (e1.GH.free hl) hl (sZ _)⟩
      rcases d1 with d1 | ⟨l,vs,es,rfl,e,h3,h4⟩
      ·unfold aN at d1
       obtain ⟨l,vs,rfl,h1,h2⟩:=d1
       exact fin (e1.GH.seq h1) h2
      ·cases e
       exact fin (bz.of h3) h4
     ·exact False.elim q1
    ·exact False.elim q1
   | _=>exact False.elim q1⟩
end
end L3
namespace L3
open PySem PySem.Spec PyProof.Rows L2
section
variable {κ:Nat->Addr} {B:Gd} {X:Cx} {e:Expr} {pos pos' p1 p2:Pos}
end
end L3
namespace L3
open PySem PySem.Spec PyProof.Rows L2
noncomputable def wW (x y:D):R Bool:=match y with
 | .lst ds=>if nG x && nG (.lst ds) then .ok (ds.any λ e=>wB e x) else .stuck
 | _=>.stuck
noncomputable def J2 (X:Cx) (κ:Nat->Addr):R2:=λ v u H Q=>∃ G x ds,aM G H/\gN X κ G H v x/\gN X κ G H u (.lst ds)/\nG x=true/\nG (.lst ds)=true/\Q (.bl (ds.any λ e=>wB e x)) H
theorem oj:∀ ds:List D,toPs ds=ds.map oh
 | []=>rfl
 | d :: ds=>by simp only [toPs,List.map_cons,oj ds]
section
variable {κ:Nat->Addr} {B:Gd} {X:Cx} {a b c:Expr} {fa fb:Ev->R D} {pos p p':Pos}
theorem E1 (hu:X.A.units + 64 < cLine):∀ Y:Cx,Y.K=X.K->Y.A=X.A->my Y (compareOp .In) (J2 X κ):=by
 intro Y eK eA pins s σ H v u v' u' Q I r1 r2 ⟨G,x,ds,sm,d1,d2,o1,o2,q⟩
 have o1:=Bool.and_eq_true_iff.mp o1
 have o2:=Bool.and_eq_true_iff.mp o2
 obtain ⟨as,q1⟩:=cT I sm (iV eK d1) o1.1 r1
 obtain ⟨bs,q2⟩:=cT I sm (iV eK d2) o2.1 r2
 have c2:=SeqAt.canLay_of_shaped o2.2
 have e2:=SeqAt.depth_of_shaped o2.2
 refine SeqAt.in_list_reads (xs:=toPs ds) q2 q1 (by simpa [oh,PyData.canLay0] using c2) (SeqAt.canLay_of_shaped o1.2) ?_ ⟨.bl _,H,I,rfl,?_⟩
 ·rw [eA]
  simp only [oh,PyData.depth] at e2
  have:=Nat.min_le_left (PyData.depthAll (toPs ds)) (oh x).depth
  omega
 ·rw [oj,List.any_map]
  exact q
theorem CL:oB κ X (J2 X κ) (kI wW):=by
 intro x y v u G H Q E s d1 d2 q
 unfold kI wW at q
 cases y with
 | lst ds =>
  dsimp only at q
  split at q
  ·rename_i h
   have h:=Bool.and_eq_true_iff.mp h
   exact ⟨G,x,ds,s,d1,d2,h.1,h.2,by simpa using q _ H G (Ext.refl s) Ep⟩
  ·exact False.elim q
 | _=>exact False.elim q
theorem Fv (hu:X.A.units + 64 < cLine) (ha:dN κ B X a fa) (hb:dN κ B X b fb) (hm:behindInMarks .In b=false):mO κ B X (.Compare a [.In] [b] pos) (bY wW fa fb):=fR (E1 hu) CL ha hb hm
end
end L3
namespace L3
open PySem PySem.Spec PyProof.Rows L2
section
variable {κ:Nat->Addr} {B:Gd} {X:Cx} {sc:Scope} {x y:Str} {px py pos spos:Pos} {iter elt:Expr} {ifs:List Expr} {fit:Ev->R (List D)} {t:Ev->R Bool} {f:Ev->R D} {i j:Nat}
end
end L3
namespace L3
open PySem PySem.Spec PyProof.Rows L2
noncomputable def Ku (K:PySem.W.Frag) (a b:Addr):It:=
  ⟨λ i H=>∃ xs ys x y,bz K H a xs/\bz K H b ys/\xs[i]?=some x/\ys[i]?=some y,
   λ i H x H'=>∃ v w p,(∀ xs,bz K H a xs->xs[i]?=some v)/\(∀ ys,bz K H b ys->ys[i]?=some w)/\H p=none/\x=.ref p/\H'=upd H p (.tup [v,w]),
   λ i H=>∃ xs ys,bz K H a xs/\bz K H b ys/\(xs.length <= i \/ ys.length <= i)⟩
structure ZApart (z TI TO i1 i2:Addr):Prop where
 a1:TI ≠ z
 a2:TO ≠ z
 a3:i1 ≠ z
 a4:i2 ≠ z
 a5:TI ≠ TO
 a6:TI ≠ i1
 a7:TI ≠ i2
 a8:TO ≠ i1
 a9:TO ≠ i2
 a10:i1 ≠ i2
noncomputable def LC (z TI TO i1 i2 l1 l2:Addr) (i:Nat) (h:Heap):Prop:=
 IsZip h z TI TO .none/\IsPair h TI (.ref i1) (.ref i2)/\(∃ a b,IsPair h TO a b)/\h.IsListIter i1 l1 i/\h.IsListIter i2 l2 i
theorem dk {h:Heap} {l b:Addr} {its:Array Value} {o:Obj} {n:String} (hl:h.IsList l its) (ho:h.get? b=some o) (hc:o.cls=.type n) (hn:n ≠ "list"):l ≠ b:=by
 rintro rfl
 obtain ⟨o',h1,h2,_⟩:=hl
 rw [h1] at ho
 cases ho
 rw [h2] at hc
 cases hc
 exact hn rfl
theorem wM {h:Heap} {it l:Addr} {i:Nat} (hi:h.IsListIter it l i):∃ o,h.get? it=some o/\o.cls=.type "list_iterator":=by
 obtain ⟨o,h1,h2,_⟩:=hi
 exact ⟨o,h1,h2⟩
theorem ZApart.full {z TI TO i1 i2 l1 l2:Addr} {h:Heap} {i:Nat} {xs ys:Array Value} (D:ZApart z TI TO i1 i2) (st:LC z TI TO i1 i2 l1 l2 i h) (h1:h.IsList l1 xs) (h2:h.IsList l2 ys):ZipApart z TI TO i1 i2 l1 l2:=by
 obtain ⟨s1,s2,⟨a,b,s3⟩,s4,s5⟩:=st
 obtain ⟨o4,g4,c4⟩:=wM s4
 obtain ⟨o5,g5,c5⟩:=wM s5
 exact ⟨D.a1,D.a2,D.a3,D.a4,D.a5,D.a6,D.a7,D.a8,D.a9,D.a10,dk h1 s1 rfl (by decide),dk h1 s3 rfl (by decide),dk h1 g4 c4 (by decide),dk h1 g5 c5 (by decide),dk h2 s1 rfl (by decide),dk h2 s3 rfl (by decide),dk h2 g4 c4 (by decide),dk h2 g5 c5 (by decide)⟩
theorem xJ {P:Program} {w:World} {K:PySem.W.Frag} {tgs:List Expr} {kk:Nat} {tpos:Pos} (l1 l2 z TI TO i1 i2:Addr) (D:ZApart z TI TO i1 i2):Turn P w K (.Tuple tgs kk tpos) (Ku K l1 l2) [z,TI,TO,i1,i2] z (LC z TI TO i1 i2 l1 l2) where
 mem:=by simp
 obj:=λ i h st b hb=>by
  obtain ⟨s1,s2,⟨a,b',s3⟩,⟨o4,s4,_,d4⟩,⟨o5,s5,_,d5⟩⟩:=st
  simp only [List.mem_cons,List.not_mem_nil,or_false] at hb
  rcases hb with rfl | rfl | rfl | rfl | rfl
  ·exact ⟨_,s1,λ v y=>nomatch (show Data.fields _=Data.cell v from y)⟩
  ·exact ⟨_,s2,λ v y=>nomatch (show Data.seq _ _=Data.cell v from y)⟩
  ·exact ⟨_,s3,λ v y=>nomatch (show Data.seq _ _=Data.cell v from y)⟩
  ·exact ⟨o4,s4,λ v y=>by rw [d4] at y;cases y⟩
  ·exact ⟨o5,s5,λ v y=>by rw [d5] at y;cases y⟩
 keep:=λ i h h' st k=>by
  obtain ⟨s1,s2,⟨a,b',s3⟩,s4,s5⟩:=st
  exact ⟨k z (by simp) _ s1,k TI (by simp) _ s2,⟨a,b',k TO (by simp) _ s3⟩,s4.at λ o x=>k i1 (by simp) o x,s5.at λ o x=>k i2 (by simp) o x⟩
 item:=by
  intro X hP hw hK hc i pins s σ H E I hf st hg
  subst hP hw hK
  obtain ⟨xs,ys,x,y,hq1,hq2,hx,hy⟩:=hg
  obtain ⟨its1,rv1,p1,_⟩:=I.list hq1
  obtain ⟨its2,rv2,p2,_⟩:=I.list hq2
  obtain ⟨u,hu,ru⟩:=rv1.get hx
  obtain ⟨v,hv,rv⟩:=rv2.get hy
  have F:=D.full st p1.isList p2.isList
  obtain ⟨s1,s2,⟨a,b',s3⟩,s4,s5⟩:=st
  have hzs:z < s.heap.objs.size:=Heap.lt_size s1
  refine wpAny_pyNext_zip_item F s1 s2 s3 s4 s5 p1.isList p2.isList (x:=u) (by simpa using hu) (y:=v) (by simpa using hv) λ h' e1 e2 e3 e4 e5 e6 hk=>⟨_,rfl,?_⟩
  refine wpAny_letOwnedTupleGo_zip e1 λ h'' he hsb=>?_
  have hn:H s.heap.objs.size=none:=I.hok.fresh (Nat.le_refl _)
  have tup:h''.get? s.heap.objs.size=some { cls:=.type "tuple",data:=.seq #[u,v] }:=hsb.extBut _ _ (Nat.ne_of_gt hzs) e5
  have kp:∀ b o,b ≠ z->b ≠ TO->b ≠ i1->b ≠ i2->s.heap.get? b=some o->h''.get? b=some o:=λ b o n1 n2 n3 n4 q=>hsb.extBut b o n1 (hk b o n1 n2 n3 n4 q)
  have nin:∀ {b:Addr},b ∉ [z,TO,i1,i2]->b ≠ z/\b ≠ TO/\b ≠ i1/\b ≠ i2:=λ {b} h=>by simpa using h
  have kpc:∀ b o,b ∉ [z,TO,i1,i2]->s.heap.get? b=some o->h''.get? b=some o:=λ b o h q=>kp b o (nin h).1 (nin h).2.1 (nin h).2.2.1 (nin h).2.2.2 q
  have sub:∀ b,b∈[z,TO,i1,i2]->b∈[z,TI,TO,i1,i2]:=λ b h=>by
   simp only [List.mem_cons,List.not_mem_nil,or_false] at h ⊢
   rcases h with h | h | h | h <;> simp [h]
  have ne_tr:∀ b o,H b=some o->b ∉ [z,TO,i1,i2]:=λ b o q h=>by rw [(hf b (sub b h)).1] at q;cases q
  have nep:∀ b o,s.heap.get? b=some o->b ≠ s.heap.objs.size:=λ b o q=>Nat.ne_of_lt (Heap.lt_size q)
  have J:=I.step (H':=upd H s.heap.objs.size (.tup [x,y])) (h':=h'') (g':=s.gens) (d':=s.drawn) (t':=s.toks) (ch:=[z,TO,i1,i2]) (λ b hb=>by
    obtain ⟨f0,f1,f2,f3,f4,f5⟩:=hf b (sub b hb)
    exact ⟨f3.imp id Heap.get?_none_of_le,f1,f4,f5⟩)
   (λ b o _ _ hch q _=>kpc b o hch q) (λ b o _ _ hch q _=>⟨o.slots,kpc b o hch q⟩) (λ b o _ q n=>by rw [aq (nep b o q)];exact n)
   (λ b o hch q=>⟨o,kpc b o hch q⟩) (λ b xs q=>by rw [aq (az q hn)];exact q) (λ b o u q=>by rw [aq (az q hn)];exact q) (λ b ps q=>⟨#[],by rw [aq (az q hn),q];simp⟩)
   (λ m hm=>by
    obtain ⟨o,es,ep,ho',r⟩:=hm
    exact ⟨o,es,ep,kpc _ o (λ h=>(hf _ (sub _ h)).2.1 rfl) ho',r⟩)
   (λ b o q=>by
    by_cases hb:b=s.heap.objs.size
    ·subst hb
     rw [aw] at q
     cases q
     exact ⟨by simp [sizeLine_eq],[u,v],.cons ru (.cons rv .nil),_,tup,rfl,_,rfl⟩
    ·rw [aq hb] at q
     refine (I.hok b o q).stay (λ c v hc q'=>?_) (λ c q'=>by rw [aq (az q' hn)];exact q') λ c xs q'=>by rw [aq (az q' hn)];exact q'
     refine kpc c v ?_ q'
     rcases hc with z' | z'
     ·rw [z'];exact ne_tr b o q
     ·exact ne_tr c _ z') I.bare
  refine ⟨.ref s.heap.objs.size,_,J,rfl,⟨x,y,_,λ zs hz=>by rw [I.list_inj hz hq1];exact hx,λ zs hz=>by rw [I.list_inj hz hq2];exact hy,hn,rfl,rfl⟩,⟨he,hsb.extBut _ _ D.a1 (hk _ _ D.a1 D.a5 D.a6 D.a7 s2),⟨_,_,hsb.extBut _ _ D.a2 e2⟩,e3.extBut hsb.extBut D.a3,e4.extBut hsb.extBut D.a4⟩,λ b hb=>?_⟩
  have hlt:b < s.heap.objs.size:=by
   simp only [List.mem_cons,List.not_mem_nil,or_false] at hb
   rcases hb with rfl | rfl | rfl | rfl | rfl
   ·exact hzs
   ·exact Heap.lt_size s2
   ·exact Heap.lt_size s3
   ·obtain ⟨o,ho',_⟩:=s4;exact Heap.lt_size ho'
   ·obtain ⟨o,ho',_⟩:=s5;exact Heap.lt_size ho'
  rw [aq (Nat.ne_of_lt hlt)]
  exact (hf b hb).1
 done:=by
  intro X hP hw hK hc i pins s σ H E I hf st hg
  subst hP hw hK
  obtain ⟨xs,ys,hq1,hq2,hx⟩:=hg
  obtain ⟨its1,rv1,p1,_⟩:=I.list hq1
  obtain ⟨its2,rv2,p2,_⟩:=I.list hq2
  have F:=D.full st p1.isList p2.isList
  obtain ⟨s1,s2,⟨a,b',s3⟩,s4,s5⟩:=st
  have hl1:=rv1.length
  have hl2:=rv2.length
  have sub:∀ b,b∈[z,TO,i1,i2]->b∈[z,TI,TO,i1,i2]:=λ b h=>by
   simp only [List.mem_cons,List.not_mem_nil,or_false] at h ⊢
   rcases h with h | h | h | h <;> simp [h]
  refine wpAny_pyNext_zip_end (I.ok.hd hc) F s1 s2 s3 s4 s5 p1.isList p2.isList (hx.imp (λ h=>by simp;omega) λ h=>by simp;omega) λ h' hk=>⟨rfl,?_⟩
  have nin:∀ {b:Addr},b ∉ [z,TO,i1,i2]->b ≠ z/\b ≠ TO/\b ≠ i1/\b ≠ i2:=λ {b} h=>by simpa using h
  have kpc:∀ b o,b ∉ [z,TO,i1,i2]->s.heap.get? b=some o->h'.get? b=some o:=λ b o h q=>hk b o (nin h).1 (nin h).2.1 (nin h).2.2.1 (nin h).2.2.2 q
  have ne_tr:∀ b o,H b=some o->b ∉ [z,TO,i1,i2]:=λ b o q h=>by rw [(hf b (sub b h)).1] at q;cases q
  refine I.step (g':=s.gens) (d':=s.drawn) (t':=s.toks) (ch:=[z,TO,i1,i2]) (λ b hb=>?_) (λ b o _ _ hch e _=>kpc b o hch e) (λ b o _ _ hch e _=>⟨o.slots,kpc b o hch e⟩) (λ _ _ _ _ n=>n)
   (λ b o hch e=>⟨o,kpc b o hch e⟩) (λ _ _ e=>e) (λ _ _ _ e=>e) (λ b ps e=>⟨#[],by rw [e];simp⟩) (λ m hm=>?_) (λ b u e=>?_) I.bare
  ·obtain ⟨f0,f1,f2,f3,f4,f5⟩:=hf b (sub b hb)
   exact ⟨f3.imp id Heap.get?_none_of_le,f1,f4,f5⟩
  ·obtain ⟨o,es,ep,ho,r⟩:=hm
   exact ⟨o,es,ep,kpc _ o (λ h=>(hf _ (sub _ h)).2.1 rfl) ho,r⟩
  ·refine (I.hok b u e).stay (λ c v hc q=>kpc c v ?_ q) (λ _ q=>q) λ _ _ q=>q
   rcases hc with z' | z'
   ·rw [z'];exact ne_tr b u e
   ·exact ne_tr c _ z'
 self:=λ _ _ _ _ _ st h=>wpAny_pyIter_zip st.1 h
noncomputable def kM:List D->List D->List D
 | x :: xs,y :: ys=>.tup [x,y] :: kM xs ys
 | _,_=>[]
noncomputable def r6:List D->R (List D)
 | [.lst xs,.lst ys]=>.ok (kM xs ys)
 | _=>.stuck
theorem xN:∀ (xs ys:List D) (i:Nat) (d:D),(kM xs ys)[i]?=some d->∃ x y,xs[i]?=some x/\ys[i]?=some y/\d=.tup [x,y]
 | [],_,_,_,h=>by simp [kM] at h
 | _ :: _,[],_,_,h=>by simp [kM] at h
 | x :: xs,y :: ys,0,d,h=>by simp [kM] at h;exact ⟨x,y,rfl,rfl,h.symm⟩
 | x :: xs,y :: ys,i + 1,d,h=>by
  simp only [kM,List.getElem?_cons_succ] at h
  obtain ⟨a,b,h1,h2,h3⟩:=xN xs ys i d h
  exact ⟨a,b,by simpa using h1,by simpa using h2,h3⟩
theorem xO:∀ (xs ys:List D),(kM xs ys).length=min xs.length ys.length
 | [],_=>by simp [kM]
 | _ :: _,[]=>by simp [kM]
 | x :: xs,y :: ys=>by simp only [kM,List.length_cons,xO xs ys];omega
theorem tq {X:Cx} {κ:Nat->Addr} {G:Hp} {a b:Addr} {vs us:List V} {ds es:List D} (h1:bz X.K G a vs) (d1:Dens ⟨X.K,κ⟩ G vs ds) (h2:bz X.K G b us) (d2:Dens ⟨X.K,κ⟩ G us es):qy X κ (Ku X.K a b) G (kM ds es):=by
 intro H' G' s1 s2 i
 have sq1:bz X.K H' a vs:=(s1.trans s2).seq h1
 have sq2:bz X.K H' b us:=(s1.trans s2).seq h2
 refine ⟨λ e he=>?_,λ hi=>⟨vs,us,sq1,sq2,by rw [d1.length,d2.length];rw [xO] at hi;omega⟩⟩
 obtain ⟨x,y,hx,hy,rfl⟩:=xN ds es i e he
 obtain ⟨v,hv,dv⟩:=d1.get hx
 obtain ⟨w,hw,dw⟩:=d2.get hy
 refine ⟨⟨vs,us,v,w,sq1,sq2,hv,hw⟩,?_⟩
 rintro x H'' ⟨v',w',p,q1,q2,q3,rfl,rfl⟩
 have q1:=q1 vs sq1
 have q2:=q2 us sq2
 rw [hv] at q1
 rw [hw] at q2
 cases q1
 cases q2
 have ee:=i7 (o:=.tup [v,w]) s2 q3
 refine ⟨_,ee,?_⟩
 unfold aN
 exact ⟨p,_,rfl,mS.of aw,aP ((dv.mono s1).mono ee.sG) (aP ((dw.mono s1).mono ee.sG) bg)⟩
theorem sW:bootBuiltins "zip" = some (.type "zip"):=by decide +kernel
section
variable {κ:Nat->Addr} {B:Gd} {X:Cx} {a b:Expr} {fs:Ev->R (List D)} {tgs:List Expr} {kk:Nat} {p pos tpos:Pos}
theorem Fc (hg:Gl X "zip") (hm:X.mg "zip" = none) (h:r9 κ B X [a,b] fs) (hs1:aA a=true) (hs2:aA b=true):Jq κ B X (.Tuple tgs kk tpos) (.Call (.Name "zip" p) [a,b] [] pos) (λ δ=>(fs δ).bind r6):=λ pins σ Ex pins' s τ H R I hz=>eQ hz λ G δ rp q=>by
 dsimp only at q
 refine Call_ (gM I hg hm sW (PyProof.Rows.callWith_type1 (br (h pins σ Ex pos pins' s τ H (λ vs H1=>∃ a b xs ys,vs=[.ref a,.ref b]/\bz X.K H1 a xs/\bz X.K H1 b ys/\R (Ku X.K a b) H1) I ⟨G,δ,rp,?_⟩) λ us s1 ⟨vs,H1,I1,r1,q1⟩=>?_) (aB hs1) (eD (by simp [hs2]))))
 ·cases e':fs δ with
  | ok d =>
   rw [e'] at q
   simp only [L3.R.bind_ok] at q
   unfold r6 at q
   split at q
   ·rename_i xs ys
    intro v H1 G1 e1 d1
    unfold lT at d1
    obtain ⟨v1,vs',rfl⟩:∃ v1 vs',v=v1 :: vs':=by
     cases v with
     | nil=>unfold Dens at d1;exact d1.elim
     | cons v1 vs'=>exact ⟨v1,vs',rfl⟩
    unfold Dens at d1
    obtain ⟨d1,d2⟩:=d1
    obtain ⟨v2,vs'',rfl⟩:∃ v2 vs'',vs'=v2 :: vs'':=by
     cases vs' with
     | nil=>unfold Dens at d2;exact d2.elim
     | cons v1 vs'=>exact ⟨v1,vs',rfl⟩
    unfold Dens at d2
    obtain ⟨d2,d3⟩:=d2
    cases vs'' with
    | cons _ _=>unfold Dens at d3;exact d3.elim
    | nil =>
     unfold aN at d1 d2
     obtain ⟨a,us,rfl,h1,h2⟩:=d1
     obtain ⟨b,ws,rfl,h3,h4⟩:=d2
     exact ⟨a,b,us,ws,rfl,e1.GH.seq h1,e1.GH.seq h3,q _ H1 G1 e1 (tq h1 h2 h3 h4)⟩
   ·exact False.elim q
  | exc c=>rw [e'] at q;exact q
  | stuck=>rw [e'] at q;exact False.elim q
 ·obtain ⟨a,b,xs,ys,rfl,h1,h2,q1⟩:=q1
  cases r1 with
  | cons r rr =>
   cases rr with
   | cons r' rr' =>
    cases rr'
    cases r
    cases r'
    obtain ⟨its1,rv1,p1,_⟩:=I1.list h1
    obtain ⟨its2,rv2,p2,_⟩:=I1.list h2
    refine call_zip_2 p1.isList p2.isList λ h' e1 e2 e3 e4 e5 e6 hk=>?_
    refine wpAny_pyIter_zip e1 ?_
    have I2:Inv (At X pins σ Ex) pins' τ H1 { s1 with heap:=h' }:=I1.kept (t':=s1.toks) hk
    refine ⟨s1.heap.objs.size + 4,[s1.heap.objs.size + 4,s1.heap.objs.size + 2,s1.heap.objs.size + 3,s1.heap.objs.size,s1.heap.objs.size + 1],_,_,H1,rfl,I2,xJ a b (s1.heap.objs.size + 4) (s1.heap.objs.size + 2) (s1.heap.objs.size + 3) s1.heap.objs.size (s1.heap.objs.size + 1) ⟨by simp,by simp,by simp,by simp,by simp,by simp,by simp,by simp,by simp,by simp⟩,⟨e1,e2,⟨_,_,e3⟩,e4,e5⟩,λ b hb=>?_,q1⟩
    have hle:s1.heap.objs.size <= b:=by
     simp only [List.mem_cons,List.not_mem_nil,or_false] at hb
     rcases hb with rfl | rfl | rfl | rfl | rfl <;> omega
    exact I1.fpOk hle (I1.hok.fresh hle)
end
end L3
namespace L3
open PySem PySem.Spec PyProof.Rows L2
section
variable {κ:Nat->Addr} {B:Gd} {X:Cx} {e:Expr} {f:Ev->R D} {t:Ev->R Bool}
theorem wC {G G1 G' H H':Hp} (s:aM G H) (e:Ext G1 H G' H'):Ext G H G H':=⟨aM.refl _,e.sH,s.trans e.sH,λ _ z=>.inl z⟩
theorem Dk (i:Nat) (h:mO κ B X e t):mO κ B X e (λ δ=>t (iY i δ)):=λ pins σ Ex=>vv (h pins σ Ex) λ τ H Q hz=>eQ hz λ G δ rp q=>by
 obtain ⟨G',rp'⟩:=rp.freeze i
 refine ⟨G',_,rp',?_⟩
 dsimp only at q
 cases e':t (iY i δ) with
 | ok d=>rw [e'] at q;exact λ v H' G2 e2 r2=>q v H' G (wC rp.GH e2) r2
 | exc c=>rw [e'] at q;exact λ H' G2 e2=>q H' G (wC rp.GH e2)
 | stuck=>rw [e'] at q;exact q
theorem oH {Z:Zx} {G G':Hp} {v:V} {d:D} (h:aN Z G v d) (hf:dH d=true):aN Z G' v d:=by
 cases d <;> first | (unfold aN at h ⊢;exact h) | (cases hf)
end
end L3
namespace L3
open PySem PySem.Spec PyProof.Rows L2
noncomputable def Hj (ds:List D) (d:D):Nat:=ds.findIdx λ e=>wB e d
noncomputable def nu (x:D) (ys:List D):R D:=match x,ys with
 | .lst ds,[d]=>if nG d && nG (.lst ds) && decide (Hj ds d < ds.length) && decide (ds.length <= 1000000) then .ok (.int ((Hj ds d:Nat):Int)) else .stuck
 | _,_=>.stuck
noncomputable def rm (x y:D):R Bool:=match y with
 | .lst ds=>if nG x && nG (.lst ds) then .ok (!ds.any λ e=>wB e x) else .stuck
 | _=>.stuck
noncomputable def Lj (X:Cx) (κ:Nat->Addr):V->List V->Hp->VK->Prop:=λ v us H Q=>∃ G ds d u,us=[u]/\aM G H/\gN X κ G H v (.lst ds)/\gN X κ G H u d/\nG d=true/\nG (.lst ds)=true/\Hj ds d < ds.length/\ds.length <= 1000000/\Q (.int ((Hj ds d:Nat):Int)) H
noncomputable def GC (X:Cx) (κ:Nat->Addr):R2:=λ v u H Q=>∃ G x ds,aM G H/\gN X κ G H v x/\gN X κ G H u (.lst ds)/\nG x=true/\nG (.lst ds)=true/\Q (.bl (!ds.any λ e=>wB e x)) H
section
variable {κ:Nat->Addr} {B:Gd} {X:Cx} {a b c:Expr} {fa fb:Ev->R D} {pos p p':Pos}
theorem CA (hu:X.A.units + 64 < cLine):∀ Y:Cx,Y.K=X.K->Y.A=X.A->KL Y "list.index" (Lj X κ):=by
 intro Y eK eA pins s σ H x vs v us Q I rx rv ⟨G,ds,d,u,e1,sm,d1,d2,o1,o2,hj,hz,q⟩
 subst e1
 obtain ⟨u',rfl,ru⟩:=rv.one
 have o1:=Bool.and_eq_true_iff.mp o1
 have o2:=Bool.and_eq_true_iff.mp o2
 obtain ⟨as,q1⟩:=cT I sm (iV eK d1) o2.1 rx
 obtain ⟨bs,q2⟩:=cT I sm (iV eK d2) o1.1 ru
 have c2:=SeqAt.canLay_of_shaped o2.2
 have e2:=SeqAt.depth_of_shaped o2.2
 have c2':PyData.canLayAll0 (toPs ds)=true:=by simpa [oh,PyData.canLay0] using c2
 generalize hL:oh (D.lst ds)=L at q1
 have hL':L=.list (toPs ds):=by rw [<- hL];rfl
 subst hL'
 cases q1 with
 | list h1 h2 h3 h4 =>
  rename_i l o items n as
  have hdep:Y.A.units + 1 + min (PyData.depthAll (toPs ds)) (oh d).depth < cLine:=by
   rw [eA]
   simp only [oh,PyData.depth] at e2
   have:=Nat.min_le_left (PyData.depthAll (toPs ds)) (oh d).depth
   omega
  have hmap:=SeqAt.readsAll_map (toPs ds) _ _ c2' h4
  rw [oj] at hmap
  have hlen:items.size=ds.length:=by
   have:=congrArg List.length hmap
   simpa using this
  have hval:∀ m (hm:m < items.size),PyData.eqv (SeqAt.readOf s.heap items[m]) (oh d)=wB (ds[m]'(by omega)) d:=λ m hm=>by
   have:=congrArg (λ z:List PyData=>z[m]?) hmap
   simp [hm,show m < ds.length by omega] at this
   rw [this]
   rfl
  obtain ⟨oc,od,odt,osl⟩:=o
  have h2:oc=.type "list":=h2
  have h3:odt=.seq items n:=h3
  subst h2 h3
  refine call_meets F.slot_list_index ⟨_,h1,rfl⟩ F.entry_list_index (F.args_list_index_2 _ _) (SeqAt.list_indexAt l items n od osl u' (λ y=>PyData.eqv (SeqAt.readOf s.heap y) (oh d)) (Hj ds d) (by omega) (by omega) ?_ ?_) ⟨h1,SeqAt.items_eqAt h4 q2 c2' (SeqAt.canLay_of_shaped o1.2) hdep,?_⟩
  ·rw [hval _ (by omega)]
   exact List.findIdx_getElem (p:=λ e=>wB e d) (w:=hj)
  ·intro m hm hlt
   rw [hval m hm]
   have:=List.not_of_lt_findIdx (p:=λ e=>wB e d) hlt
   simpa using this
  ·exact ⟨.int _,H,I.tok _,⟨_,rfl⟩,q⟩
theorem Gf {o e:Expr} {fo:Ev->R D} {fs:Ev->R (List D)} {apos:Pos} (hu:X.A.units + 64 < cLine) (ho:dN κ B X o fo) (ha:r9 κ B X [e] fs) (hs:aA e=true) (hline:(apos.endLine == pos.line)=true) (hbase:attributeBase o "index" X.env (eval o X.env)=eval o X.env) :
  PX κ B X (.Call (.Attribute o "index" apos) [e] [] pos) (JF nu fo fs):=λ pins σ Ex =>
 be (rC (X:=At X pins σ Ex) F.plainAttrs_list F.slot_list_index F.type_list_index (CA (κ:=κ) hu (At X pins σ Ex) rfl rfl) (ho pins σ Ex) (ha pins σ Ex) hbase (qE hs) hline (aB hs) rfl) λ τ H Q hz=>eQ hz λ G δ rp q=>⟨G,δ,rp,q.seq λ x v H1 G1 e1 d1 q1=>by
  cases x with
  | lst ds =>
   obtain ⟨l,vs,rfl,h1,h2⟩:=IN e1.GH d1
   refine ⟨.inl ⟨rfl,vs,h1⟩,G1,δ,rp.ext e1,q1.seq λ ys us H2 G2 e2 d2 q2=>?_⟩
   unfold nu at q2
   split at q2
   ·rename_i ds' d hx
    cases hx
    split at q2
    ·rename_i hf
     simp only [Bool.and_eq_true,decide_eq_true_eq] at hf
     obtain ⟨⟨⟨f1,f2⟩,f3⟩,f4⟩:=hf
     match us,d2 with
     | [u],d2 =>
      unfold lT Dens at d2
      exact ⟨G2,ds,d,u,rfl,e2.GH,gY e2 d1,.inl d2.1,f1,f2,f3,f4,q2 _ H2 G2 (Ext.refl e2.GH) (by unfold nN aN;rfl)⟩
     | [],d2=>unfold lT Dens at d2;exact d2.elim
     | _ :: _ :: _,d2=>unfold lT Dens at d2;have:=d2.2;unfold Dens at this;exact this.elim
    ·exact q2.elim
   ·exact q2.elim
  | _=>exact False.elim q1⟩
theorem CO (hu:X.A.units + 64 < cLine):∀ Y:Cx,Y.K=X.K->Y.A=X.A->my Y (compareOp .NotIn) (GC X κ):=by
 intro Y eK eA pins s σ H v u v' u' Q I r1 r2 ⟨G,x,ds,sm,d1,d2,o1,o2,q⟩
 have o1:=Bool.and_eq_true_iff.mp o1
 have o2:=Bool.and_eq_true_iff.mp o2
 obtain ⟨as,q1⟩:=cT I sm (iV eK d1) o1.1 r1
 obtain ⟨bs,q2⟩:=cT I sm (iV eK d2) o2.1 r2
 have c2:=SeqAt.canLay_of_shaped o2.2
 have e2:=SeqAt.depth_of_shaped o2.2
 refine SeqAt.notIn_list_reads (xs:=toPs ds) q2 q1 (by simpa [oh,PyData.canLay0] using c2) (SeqAt.canLay_of_shaped o1.2) ?_ ⟨.bl _,H,I,rfl,?_⟩
 ·rw [eA]
  simp only [oh,PyData.depth] at e2
  have:=Nat.min_le_left (PyData.depthAll (toPs ds)) (oh x).depth
  omega
 ·rw [oj,List.any_map]
  exact q
theorem AQ:oB κ X (GC X κ) (kI rm):=by
 intro x y v u G H Q E s d1 d2 q
 unfold kI rm at q
 cases y with
 | lst ds =>
  dsimp only at q
  split at q
  ·rename_i h
   have h:=Bool.and_eq_true_iff.mp h
   exact ⟨G,x,ds,s,d1,d2,h.1,h.2,by simpa using q _ H G (Ext.refl s) Ep⟩
  ·exact False.elim q
 | _=>exact False.elim q
theorem Dj (hu:X.A.units + 64 < cLine) (ha:dN κ B X a fa) (hb:dN κ B X b fb) (hm:behindInMarks .NotIn b=false):mO κ B X (.Compare a [.NotIn] [b] pos) (bY rm fa fb):=fR (CO hu) AQ ha hb hm
end
end L3
namespace L3
open PySem PySem.Spec PyProof.Rows L2
structure CompOkG (X:Cx) (sc:Scope) (N0 xs:List Str):Prop where
 cell:∀ y∈sc.names,y.2 ≠ .cell
 kind:sc.kind=.function
 names:∀ y∈sc.names,y.2=.local->sc.names.lookup y.1=some .local
 len:N0.length=X.N.length
 old:∀ (i:Nat) y,N0[i]?=some y->X.N[i]?=some y \/ sc.names.lookup y=none
 loc:∀ y∈N0,sc.names.lookup y ≠ some .local
 fr:∀ y∈sc.names,y.2=.free->X.env.scope.names.lookup y.1=some .cell
noncomputable abbrev pV (X:Cx) (sc:Scope) (cl:List (Str × Addr)) (C:Addr) (s₁:Shared) (H₁:Hp) (pn:List (Addr × Obj)) (N':List Str):Cx:=
 { X with env:=compEnvC sc cl C X.env,N:=N',s₀:=s₁,H₀:=H₁,outer:=X.stack,stack:=X.stack,ex:=[],fn:=λ _=>false,pn:=pn,xe:=λ _ _=>False,sg:=λ _ _=>True }
structure CmpIsG (X:Cx) (sc:Scope) (N':List Str) (X':Cx):Prop where
 cxo:Cxo X'
 calm:X'.calm=X.calm
 A:X'.A=X.A
 mg:X'.mg=X.mg
 K:X'.K=X.K
 N:X'.N=N'
 look:∀ {y:Str} {k:NameKind},sc.names.lookup y=some k->k ≠ .free->X'.env.scope.names.lookup y=some k
 vis:∀ {y:Str},sc.names.lookup y=some .free->kT X'.env.scope y
 cal:∀ {κ:Nat->Addr} {y:Str} {n:Nat} {m:List D->R D},Cal κ X y n m->Cal κ X' y n m
 cls:∀ {κ:Nat->Addr} {c:Nat} {ns:List Str},ClsM κ X.K c ns->ClsM κ X'.K c ns
 mth:∀ {κ:Nat->Addr} {c:Nat} {y:Str} {n:Nat} {m:List D->R D},Mth κ X c y n m->Mth κ X' c y n m
theorem i4 {N0 N:List Str} {ns:List (Str × NameKind)} (h:(decide (N0.length <= N.length) && (N0.zip N).all λ p=>p.1 == p.2 || (ns.lookup p.1).isNone)=true):∀ (i:Nat) y,N0[i]?=some y->N[i]?=some y \/ ns.lookup y=none:=by
 intro i y e
 rw [Bool.and_eq_true,decide_eq_true_eq,List.all_eq_true] at h
 have hi:=(List.getElem?_eq_some_iff.mp e).1
 have hi2:i < N.length:=by omega
 have:=h.2 (y,N[i]) (by
  rw [List.mem_iff_getElem?]
  refine ⟨i,?_⟩
  rw [List.getElem?_zip_eq_some]
  exact ⟨e,List.getElem?_eq_getElem hi2⟩)
 simp only [Bool.or_eq_true,beq_iff_eq,Option.isNone_iff_eq_none] at this
 rcases this with h | h
 ·exact .inl (by rw [List.getElem?_eq_getElem hi2,h])
 ·exact .inr h
theorem gQ {X:Cx} {sc:Scope} {N':List Str} {cl:List (Str × Addr)} {C:Addr} {s₁:Shared} {H₁:Hp} {pn:List (Addr × Obj)}:CmpIsG X sc N' (pV X sc cl C s₁ H₁ pn N') where
 cxo:=⟨λ _ _=>trivial,rfl⟩
 calm:=rfl
 A:=rfl
 mg:=rfl
 K:=rfl
 N:=rfl
 look:=λ h hk=>BU (s₁:=s₁) (H₁:=H₁) (pn:=pn) (x := "") h hk
 vis:=λ h=>En (s₁:=s₁) (H₁:=H₁) (pn:=pn) (x := "") h
 cal:=λ c=>⟨c.ex⟩
 cls:=λ c=>c
 mth:=λ c=>⟨c.ex⟩
section
variable {X:Cx} {sc:Scope} {N0 xs:List Str} {cl:List (Str × Addr)} {C:Addr} {sb s4:Shared} {Hb H4:Hp} {pins:List (Addr × Obj)} {σ:St} {m:Str->Option Value} {E:Value->Shared->Prop}
theorem xY (I:Inv X pins σ Hb sb) (I4:Inv X pins σ H4 s4) (u:Un (oQ X.stack) [] Hb H4 sb.heap s4.heap) (ho:s4.os=sb.os) (co:CompOkG X sc N0 xs)
  (cl1:∀ y c,cl.lookup y=some c->X.env.cells.lookup y=some c) (cl2:∀ y,(y,NameKind.free)∈sc.names->∃ c,cl.lookup y=some c)
  (hC:sb.heap.objs.size <= C) (hns:s4.heap.Ns C m) (hCn:H4 C=none):Inv ((pV X sc cl C sb Hb (X.pn++pins) (N0++xs)).wish E) [] (σ++List.replicate xs.length none) H4 s4:=by
 have lt:∀ {b o},sb.heap.get? b=some o->b ≠ C:=λ {b o} e z=>absurd (Nat.lt_of_lt_of_le (Heap.lt_size e) (z ▸ hC)) (Nat.lt_irrefl _)
 have look_of:∀ {y k},(pV X sc cl C sb Hb (X.pn++pins) (N0++xs)).env.scope.names.lookup y=some k->∃ k',sc.names.lookup y=some k'/\k=(if (k' == NameKind.free && X.env.scope.kind == .function && X.env.kindOf y == some .cell) then NameKind.cell else k'):=λ {y k} h=>by
  have r:=@eO X.env sc.names y
  cases q:sc.names.lookup y with
  | none=>rw [q] at r;have:=h.symm.trans r;cases this
  | some k' =>
   rw [q] at r
   have:=h.symm.trans r
   injection this with this
   exact ⟨k',rfl,this⟩
 have free_of:∀ {y},((pV X sc cl C sb Hb (X.pn++pins) (N0++xs)).env.scope.names.lookup y=some .cell \/ (pV X sc cl C sb Hb (X.pn++pins) (N0++xs)).env.scope.names.lookup y=some .free)->sc.names.lookup y=some .free:=λ {y} h=>by
  have key:∀ k,(k=NameKind.cell \/ k=.free)->(pV X sc cl C sb Hb (X.pn++pins) (N0++xs)).env.scope.names.lookup y=some k->sc.names.lookup y=some .free:=λ k hk h=>by
   obtain ⟨k',q,e⟩:=look_of h
   by_cases hf:k'=.free
   ·rw [q,hf]
   ·exfalso
    have hb:(k' == NameKind.free)=false:=by simpa using hf
    simp only [hb,Bool.false_and,Bool.false_eq_true,if_false] at e
    subst e
    rcases hk with rfl | rfl
    ·exact co.cell _ (lY q) rfl
    ·exact hf rfl
  rcases h with h | h
  ·exact key _ (.inl rfl) h
  ·exact key _ (.inr rfl) h
 have hlen4:σ.length=X.N.length:=I4.len
 refine ⟨⟨I.ok.mod,co.kind,I.ok.glob,I.ok.blt,hC,λ y z c h1 h2=>I.ok.inj y z c (cl1 y c h1) (cl1 z c h2),λ y h=>cl2 y (lY (free_of h)),(λ y c h=>Bool.noConfusion h),I.ok.hd,I.ok.frames,.inl rfl,(λ b hb=>by cases hb),λ b o e=>I.bs b o e,Nat.le_trans I.ok.bsz I.sz,(λ b o e hb=>by cases hb),(λ b hb=>by cases hb),I.stack,I.stkFree⟩,
  ho,I4.bare,u,⟨m,hns,λ i y v e1 e2 e3=>?_⟩,λ y c h=>I4.cell y c (cl1 y c h),hCn,λ y c h=>I4.freeC y c (cl1 y c h),λ p hp=>?_,I4.hok,?_,trivial⟩
 ·by_cases hi:i < σ.length
  ·rw [List.getElem?_append_left hi] at e2
   have hl0:i < N0.length:=by have:=co.len;omega
   have e0:N0[i]?=some y:=by
    have:(N0++xs)[i]?=some y:=e1
    rwa [List.getElem?_append_left hl0] at this
   rcases co.old i y e0 with e1' | hno
   ·have hy:y∈N0:=List.mem_of_getElem? e0
    rcases e3 with e3 | e3
    ·exfalso
     obtain ⟨k',q,e⟩:=look_of e3
     split at e
     ·cases e
     ·rw [<- e] at q
      exact co.loc y hy q
    ·have hf:=free_of e3
     have hcell:=co.fr (y,.free) (lY hf) rfl
     obtain ⟨c,hc⟩:=cl2 y (lY hf)
     obtain ⟨m',_,hl⟩:=I4.loc
     obtain ⟨w,r,l⟩:=hl i y v e1' e2 (.inr (.inl hcell))
     refine ⟨w,r,.inr ⟨e3,c,hc,?_⟩⟩
     rcases l with ⟨hk,_⟩ | ⟨_,c',hc',z⟩
     ·have:X.env.scope.names.lookup y=some .local:=hk
      rw [hcell] at this;cases this
     ·have:=(cl1 y c hc).symm.trans hc'
      cases this
      exact z
   ·exfalso
    rcases e3 with e3 | e3
    ·obtain ⟨k',q,_⟩:=look_of e3
     rw [hno] at q;cases q
    ·have hf:=free_of e3
     rw [hno] at hf;cases hf
  ·rw [List.getElem?_append_right (by omega),List.getElem?_replicate] at e2
   split at e2 <;> cases e2
 ·have hp:p∈X.pn++pins:=by simpa using hp
  obtain ⟨a1,a2,a3,a4,a5⟩:=I4.pin p hp
  obtain ⟨b1,_⟩:=I.pin p hp
  exact ⟨a1,a2,lt b1,λ z=>by
   rcases List.mem_cons.mp (I.stkSub _ z) with e | e
   ·exact a3 e
   ·exact a4 e,a5⟩
 ·show (σ++List.replicate xs.length none).length=(N0++xs).length
  simp [I4.len,co.len]
theorem mW {N':List Str} {pins':List (Addr × Obj)} {σ':St} {s':Shared} {H':Hp} {h':Heap} (I:Inv X pins σ Hb sb) (J:Inv ((pV X sc cl C sb Hb (X.pn++pins) N').wish E) pins' σ' H' s') (hC:sb.heap.objs.size <= C) (sbt:Heap.SameBut C s'.heap h'):Inv X pins σ H' { s' with heap:=h' }:=by
 have I1:Inv X pins σ H' s':=I.call' (ch:=[]) J.os J.base J.hok J.bare (λ b z=>by cases z)
 have lt:∀ {b o},sb.heap.get? b=some o->b ≠ C:=λ {b o} e z=>absurd (Nat.lt_of_lt_of_le (Heap.lt_size e) (z ▸ hC)) (Nat.lt_irrefl _)
 refine I1.turned (t':=s'.toks) (it:=C) (λ b o hb e=>sbt.extBut b o hb e) J.free (λ z=>?_) (.inr (Nat.le_trans I.sz hC)) (λ y c h z=>?_) (λ p hp z=>?_)
 ·obtain ⟨mm,⟨o,_,_,ho,_⟩,_⟩:=I.loc
  exact lt ho z.symm
 ·obtain ⟨v,o,ho,_⟩:=I.cell y c h
  exact lt ho z
 ·exact lt (I.pin p hp).1 z
end
theorem Ai {Z:Zx} {G:Hp} {v:List V} {xs ys:List D} (d1:Dens Z G v [.lst xs,.lst ys]):∃ a b us ws,v=[.ref a,.ref b]/\bz Z.K G a us/\Dens Z G us xs/\bz Z.K G b ws/\Dens Z G ws ys:=by
 match v,d1 with
 | [v1,v2],d1 =>
  unfold Dens at d1
  obtain ⟨d1,d2⟩:=d1
  unfold Dens at d2
  obtain ⟨d2,_⟩:=d2
  unfold aN at d1 d2
  obtain ⟨a,us,rfl,h1,h2⟩:=d1
  obtain ⟨b,ws,rfl,h3,h4⟩:=d2
  exact ⟨a,b,us,ws,rfl,h1,h2,h3,h4⟩
 | [],d1=>unfold Dens at d1;exact d1.elim
 | [_],d1=>unfold Dens at d1;have:=d1.2;unfold Dens at this;exact this.elim
 | _ :: _ :: _ :: _,d1=>unfold Dens at d1;have:=d1.2;unfold Dens at this;have:=this.2;unfold Dens at this;exact this.elim
noncomputable def r8 (κ:Nat->Addr) (B:Gd) (X:Cx) (tg e:Expr) (f:Ev->R (List D)):Prop:=∀ pins σ Ex,D6 (At X pins σ Ex) tg e (tO (λ G _ J ds=>qy X κ J G ds) X κ B (EX X pins σ Ex) f)
section
variable {κ:Nat->Addr} {B:Gd} {X:Cx} {e a b tg:Expr} {f:Ev->R D} {fs fit:Ev->R (List D)} {tgs:List Expr} {kk:Nat} {p pos tpos:Pos}
theorem Fb (h:Ef κ B X tg e fit):r8 κ B X tg e fit:=λ pins σ Ex=>vj (h pins σ Ex) λ τ H R hz=>eQ hz λ G δ rp q=>⟨G,δ,rp,by
 cases e':fit δ with
 | ok ds=>rw [e'] at q;exact λ J H' G' e1 d1=>q J H' G' e1 (wJ d1)
 | exc c=>rw [e'] at q;exact q
 | stuck=>rw [e'] at q;exact q⟩
theorem AU (hg:Gl X "enumerate") (hm:X.mg "enumerate" = none) (h:PX κ B X e f) (hs:aA e=true):r8 κ B X (.Tuple tgs kk tpos) (.Call (.Name "enumerate" p) [e] [] pos) (λ δ=>(f δ).bind pL):=λ pins σ Ex pins' s τ H R I hz=>eQ hz λ G δ rp q=>by
 dsimp only at q
 refine Call_ (gM I hg hm boot_enumerate (PyProof.Rows.callWith_type1 (br (bw (X:=At X pins σ Ex) (h pins σ Ex) cA (aB hs) pos pins' s τ H (λ vs H1=>∃ a xs,vs=[.ref a]/\bz X.K H1 a xs/\R (Kt X.K a) H1) I ⟨G,δ,rp,?_⟩) λ us s1 ⟨vs,H1,I1,r1,q1⟩=>?_) (aB hs) rfl))
 ·cases e':f δ with
  | ok d =>
   rw [e'] at q
   cases d with
   | lst ds =>
    intro v H1 G1 e1 d1
    unfold nN aN at d1
    obtain ⟨a,xs,rfl,h1,h2⟩:=d1
    exact ⟨a,xs,rfl,e1.GH.seq h1,q _ H1 G1 e1 (rb h1 h2)⟩
   | _=>exact False.elim q
  | exc c=>rw [e'] at q;exact q
  | stuck=>rw [e'] at q;exact False.elim q
 ·obtain ⟨a,xs,rfl,h1,q1⟩:=q1
  cases r1 with
  | cons r rr =>
   cases rr
   cases r
   obtain ⟨its,rv,pl,hz⟩:=I1.list h1
   refine call_enumerate_list pl.isList λ h' he hi hsz hk=>?_
   refine wpAny_pyIter_enum he ?_
   have I2:Inv (At X pins σ Ex) pins' τ H1 { s1 with heap:=h' }:=I1.kept (t':=s1.toks) hk
   have hsz':h'.objs.size=s1.heap.objs.size + 2:=hsz
   refine ⟨s1,H1,s1.heap.objs.size + 1,[s1.heap.objs.size + 1,s1.heap.objs.size],_,_,rfl,I1,I2,hk,rfl,by dsimp only;omega,tQ a _ _ (Nat.succ_ne_self _),⟨⟨_,he⟩,hi⟩,λ b hb=>?_,q1⟩
   simp only [List.mem_cons,List.not_mem_nil,or_false] at hb
   rcases hb with rfl | rfl <;> exact ⟨by simp,by show _ < h'.objs.size;rw [hsz'];simp⟩
theorem C0 (hg:Gl X "zip") (hm:X.mg "zip" = none) (h:r9 κ B X [a,b] fs) (hs1:aA a=true) (hs2:aA b=true):r8 κ B X (.Tuple tgs kk tpos) (.Call (.Name "zip" p) [a,b] [] pos) (λ δ=>(fs δ).bind r6):=λ pins σ Ex pins' s τ H R I hz=>eQ hz λ G δ rp q=>by
 dsimp only at q
 refine Call_ (gM I hg hm sW (PyProof.Rows.callWith_type1 (br (h pins σ Ex pos pins' s τ H (λ vs H1=>∃ a b xs ys,vs=[.ref a,.ref b]/\bz X.K H1 a xs/\bz X.K H1 b ys/\R (Ku X.K a b) H1) I ⟨G,δ,rp,?_⟩) λ us s1 ⟨vs,H1,I1,r1,q1⟩=>?_) (aB hs1) (eD (by simp [hs2]))))
 ·cases e':fs δ with
  | ok d =>
   rw [e'] at q
   simp only [L3.R.bind_ok] at q
   unfold r6 at q
   split at q
   ·rename_i xs ys
    intro v H1 G1 e1 d1
    obtain ⟨a,b,us,ws,rfl,h1,h2,h3,h4⟩:=Ai d1
    exact ⟨a,b,us,ws,rfl,e1.GH.seq h1,e1.GH.seq h3,q _ H1 G1 e1 (tq h1 h2 h3 h4)⟩
   ·exact False.elim q
  | exc c=>rw [e'] at q;exact q
  | stuck=>rw [e'] at q;exact False.elim q
 ·obtain ⟨a,b,xs,ys,rfl,h1,h2,q1⟩:=q1
  cases r1 with
  | cons r rr =>
   cases rr with
   | cons r' rr' =>
    cases rr'
    cases r
    cases r'
    obtain ⟨its1,rv1,p1,_⟩:=I1.list h1
    obtain ⟨its2,rv2,p2,_⟩:=I1.list h2
    refine call_zip_2 p1.isList p2.isList λ h' e1 e2 e3 e4 e5 e6 hk=>?_
    refine wpAny_pyIter_zip e1 ?_
    have I2:Inv (At X pins σ Ex) pins' τ H1 { s1 with heap:=h' }:=I1.kept (t':=s1.toks) hk
    have hsz':h'.objs.size=s1.heap.objs.size + 5:=e6
    refine ⟨s1,H1,s1.heap.objs.size + 4,[s1.heap.objs.size + 4,s1.heap.objs.size + 2,s1.heap.objs.size + 3,s1.heap.objs.size,s1.heap.objs.size + 1],_,_,rfl,I1,I2,hk,rfl,by dsimp only;omega,xJ a b (s1.heap.objs.size + 4) (s1.heap.objs.size + 2) (s1.heap.objs.size + 3) s1.heap.objs.size (s1.heap.objs.size + 1) ⟨by simp,by simp,by simp,by simp,by simp,by simp,by simp,by simp,by simp,by simp⟩,⟨e1,e2,⟨_,_,e3⟩,e4,e5⟩,λ b hb=>?_,q1⟩
    simp only [List.mem_cons,List.not_mem_nil,or_false] at hb
    rcases hb with rfl | rfl | rfl | rfl | rfl <;> exact ⟨by simp,by show _ < h'.objs.size;rw [hsz'];simp⟩
end
noncomputable def kQ (n:Nat) (bd:D->Ev->Option Ev) (t:Ev->R Bool) (f:Ev->R D) (δ:Ev):List D->R (List D)
 | []=>.ok []
 | d :: ds=>match bd d (δ++List.replicate n none) with
  | none=>.stuck
  | some δ1=>(t δ1).bind λ k=>if k then (f δ1).bind λ y=>(kQ n bd t f δ ds).bind λ ys=>.ok (y :: ys) else kQ n bd t f δ ds
noncomputable def bj (n:Nat) (fit:Ev->R (List D)) (bd:D->Ev->Option Ev) (t:Ev->R Bool) (f:Ev->R D):Ev->R (List D):=λ δ=>(fit δ).bind λ ds=>if ds.length <= 1000000 then LF (kQ n bd t f (nD δ) ds) else .stuck
structure BdOk (m n:Nat) (bd:D->Ev->Option Ev):Prop where
 any:∀ d (δ es:Ev),δ.length=m->es.length=n->bd d (δ++es)=bd d (δ++List.replicate n none)
 out:∀ d (δ δ1:Ev),δ.length=m->bd d (δ++List.replicate n none)=some δ1->∃ es:Ev,es.length=n/\(∀ e∈es,∀ o,e=some o->∃ d,o=.sh d)/\δ1=δ++es
theorem gX {m:Nat}:BdOk m 1 (bN m):=by
 constructor
 ·intro d δ es h1 h2
  match es,h2 with
  | [e],_ =>
   unfold bN
   rw [<- h1,List.set_append_right _ _ (Nat.le_refl _),List.set_append_right _ _ (Nat.le_refl _)]
   simp
 ·intro d δ δ1 h1 h2
  unfold bN at h2
  rw [<- h1,List.set_append_right _ _ (Nat.le_refl _)] at h2
  simp at h2
  exact ⟨[some (.sh d)],rfl,by simp,h2.symm⟩
theorem v8 {m:Nat}:BdOk m 2 (kU 2 (bp (bN m) (bp (bN (m + 1)) iM))):=by
 have st:∀ (δ es:Ev) (a b:D),δ.length=m->es.length=2->bp (bN m) (bp (bN (m + 1)) iM) [a,b] (δ++es)=some (δ++[some (.sh a),some (.sh b)]):=by
  intro δ es a b h1 h2
  match es,h2 with
  | [e1,e2],_ =>
   show some (((δ++[e1,e2]).set m (some (.sh a))).set (m + 1) (some (.sh b)))=_
   rw [<- h1,List.set_append_right _ _ (Nat.le_refl _),List.set_append_right _ _ (by omega)]
   simp
 have key:∀ (d:D) (δ es:Ev),δ.length=m->es.length=2->kU 2 (bp (bN m) (bp (bN (m + 1)) iM)) d (δ++es)=none \/ ∃ a b,(d=.tup [a,b] \/ d=.lst [a,b]):=by
  intro d δ es h1 h2
  cases d with
  | tup ds =>
   match ds with
   | [a,b]=>exact .inr ⟨a,b,.inl rfl⟩
   | []=>exact .inl rfl
   | [_]=>exact .inl rfl
   | _ :: _ :: _ :: _=>exact .inl (by unfold kU;simp)
  | lst ds =>
   match ds with
   | [a,b]=>exact .inr ⟨a,b,.inr rfl⟩
   | []=>exact .inl rfl
   | [_]=>exact .inl rfl
   | _ :: _ :: _ :: _=>exact .inl (by unfold kU;simp)
  | _=>exact .inl rfl
 have val:∀ (d:D) (δ es:Ev) (a b:D),δ.length=m->es.length=2->(d=.tup [a,b] \/ d=.lst [a,b])->kU 2 (bp (bN m) (bp (bN (m + 1)) iM)) d (δ++es)=some (δ++[some (.sh a),some (.sh b)]):=by
  intro d δ es a b h1 h2 h
  rcases h with rfl | rfl <;> exact st δ es a b h1 h2
 constructor
 ·intro d δ es h1 h2
  rcases key d δ es h1 h2 with h | ⟨a,b,h⟩
  ·rcases key d δ (List.replicate 2 none) h1 rfl with h' | ⟨a,b,h'⟩
   ·rw [h,h']
   ·rw [val d δ es a b h1 h2 h'] at h;cases h
  ·rw [val d δ es a b h1 h2 h,val d δ _ a b h1 rfl h]
 ·intro d δ δ1 h1 h2
  rcases key d δ (List.replicate 2 none) h1 rfl with h | ⟨a,b,h⟩
  ·rw [h] at h2;cases h2
  ·rw [val d δ _ a b h1 rfl h] at h2
   cases h2
   exact ⟨_,rfl,by simp,rfl⟩
theorem yX {Z:Zx} {G₁ H₁ G H H':Hp} {σ:St} {δ:Ev} (rp:Rep Z ⟨G₁,λ _=>False⟩ H₁ G H σ δ) (hsh:∀ (i:Nat) (o:Sl),δ[i]?=some (some o)->∃ d,o=.sh d) (e:Ext G₁ H₁ G H'):Rep Z ⟨G₁,λ _=>False⟩ H₁ G H' σ δ:=by
 refine ⟨⟨e.sG,e.GH,λ b o q _=>e.sH _ _ q,λ b q=>?_,rp.lent⟩,rp.len,rp.sh,λ i ds q=>?_,λ i j ds es a n q1=>?_,λ i c ns ds q=>?_,λ i j c ns ds c' ns' ds' x0 n0 q=>?_⟩
 ·cases z:H₁ b with
  | none=>exact absurd z q
  | some o=>rw [e.sH _ _ z];simp
 ·obtain ⟨_,z⟩:=hsh _ _ q;cases z
 ·obtain ⟨_,z⟩:=hsh _ _ q1;cases z
 ·obtain ⟨_,z⟩:=hsh _ _ q;cases z
 ·obtain ⟨_,z⟩:=hsh _ _ q;cases z
theorem yY {Z:Zx} {B:Gd} {H₀ G₁ H₁ G H:Hp} {σ:St} {δ:Ev} (n:Nat) (rp:Rep Z B H₀ G₁ H₁ σ δ) (e:Ext G₁ H₁ G H):Rep Z ⟨G₁,λ _=>False⟩ H₁ G H (σ++List.replicate n none) (nD δ++List.replicate n none):=by
 have hl:(nD δ).length=δ.length:=by simp [nD]
 have cases':∀ {i:Nat} {o:Sl},(nD δ++List.replicate n none)[i]?=some (some o)->∃ d',o=.sh d'/\∃ w,(σ++List.replicate n none)[i]?=some (some w)/\aN Z G w d':=λ {i o} q=>by
  by_cases hi:i < δ.length
  ·rw [List.getElem?_append_left (by omega)] at q
   simp only [nD,List.getElem?_map] at q
   cases z:δ[i]? with
   | none=>rw [z] at q;cases q
   | some o' =>
    rw [z] at q
    simp only [Option.map_some,Option.some.injEq] at q
    split at q
    ·rename_i d'
     cases q
     obtain ⟨w,e1,e2⟩:=rp.sh i d' z
     exact ⟨d',rfl,w,by rw [List.getElem?_append_left (by rw [rp.len];exact hi)];exact e1,e2.mono e.sG⟩
    ·cases q
  ·rw [List.getElem?_append_right (by omega),List.getElem?_replicate] at q
   split at q <;> cases q
 refine ⟨⟨e.sG,e.GH,λ b o q _=>e.sH _ _ q,λ b q=>?_,λ b q n=>?_⟩,by simp [hl,rp.len],λ i d' q=>?_,λ i ds q=>?_,λ i j ds es a n q1=>?_,λ i c ns ds q=>?_,λ i j c ns ds c' ns' ds' x0 n0 q=>?_⟩
 ·cases z:H₁ b with
  | none=>exact absurd z q
  | some o=>rw [e.sH _ _ z];simp
 ·cases z:G b with
  | none=>rfl
  | some o=>exact ((e.new b (by rw [z];simp)).elim (λ y=>y n) λ y=>q y).elim
 ·obtain ⟨d'',e1,w,e2,e3⟩:=cases' q
  cases e1
  exact ⟨w,e2,e3⟩
 ·obtain ⟨d'',e1,_⟩:=cases' q;cases e1
 ·obtain ⟨d'',e1,_⟩:=cases' q1;cases e1
 ·obtain ⟨d'',e1,_⟩:=cases' q;cases e1
 ·obtain ⟨d'',e1,_⟩:=cases' q;cases e1
theorem mr {prog:Program} {w:World} {A:Around} {R:Result->Shared->Prop} {s:Shared} {elt target iter:Expr} {ifs:List Expr} {scope:Scope} {pos:Pos} {it acc:Value} {env:Env} (I:Nat->Shared->Prop)
  (turn:∀ n s,I n s->wpAny (model prog w) A (pyNext it) (λ r s₁=>match r with
   | none=>R (.ok .next) s₁
   | some v=>wpAny (model prog w) A (letOwnedTupleGo target it v) (λ _ s₁'=>wpAny (model prog w) A (assign target env v) (λ _ s₂ =>
     wpAny (model prog w) A (forIn ifs true λ c r=>if r=true then do let ok ← isTrue c env (eval c env);pure (ForInStep.yield ok) else pure (ForInStep.yield r)) (λ ok s₃ =>
      if ok=true then wpAny (model prog w) A (eval elt env) (λ x s₄ =>
       wpAny (model prog w) A (call (.builtin "list.append") [acc,x]) (λ _ s₅=>∃ m,m < n/\I m s₅) (notedBy (model prog w) A env λ e s'=>R (.error e) s') s₄) (notedBy (model prog w) A env λ e s'=>R (.error e) s') s₃
      else ∃ m,m < n/\I m s₃) (notedBy (model prog w) A env λ e s'=>R (.error e) s') s₂) (notedBy (model prog w) A env λ e s'=>R (.error e) s') s₁') (notedBy (model prog w) A env λ e s'=>R (.error e) s') s₁) (notedBy (model prog w) A env λ e s'=>R (.error e) s') s)
  (n:Nat) (h:I n s) :
  codeAny (model prog w) A (.compLoop (.ListComp elt [⟨target,iter,ifs,0⟩] scope pos) 0 it acc env) R s:=by
 refine codeAny_loop rfl I (λ n s hI=>?_) n h
 show wpAny _ A ((compTurn (.ListComp elt [⟨target,iter,ifs,0⟩] scope pos) 0 it acc env).onRaise (λ x=>do noteFrame x env;theTreesLotGoes x)) _ _ s
 refine wpAny_noted ?_
 rw [compTurn_list]
 refine wpAny_bind (wpAny_standAt (wpAny_bind (wpAny_mono (turn n s hI) (λ r s₁ h₁=>?_) λ _ _ h'=>h')))
 cases r with
 | none=>exact wpAny_pure h₁
 | some v =>
  refine wpAny_bind (wpAny_mono h₁ (λ _ s₁' h₁=>?_) λ _ _ h'=>h')
  refine wpAny_bind (wpAny_mono h₁ (λ _ s₂ h₂=>wpAny_bind (wpAny_mono h₂ (λ ok s₃ h₃=>?_) λ _ _ h'=>h')) λ _ _ h'=>h')
  cases ok with
  | false=>exact wpAny_pure ⟨rfl,h₃⟩
  | true =>
   exact wpAny_bind (wpAny_bind (wpAny_mono h₃ (λ x s₄ h₄=>wpAny_bind (wpAny_mono h₄ (λ _ s₅ h₅=>wpAny_pure (wpAny_pure ⟨rfl,h₅⟩)) λ _ _ h'=>h')) λ _ _ h'=>h'))
section
variable {κ:Nat->Addr} {B:Gd} {X:Cx} {sc:Scope} {N0 xs:List Str} {pos:Pos} {tg iter elt:Expr} {ifs:List Expr} {fit:Ev->R (List D)} {bd:D->Ev->Option Ev} {t:Ev->R Bool} {f:Ev->R D}
noncomputable def vX (ψ:Bool) (κ:Nat->Addr) (X:Cx) (sc:Scope) (N':List Str) (pins:List (Addr × Obj)) (σ:St) (Ex:Value->Shared->Prop) (G H:Hp) (l:List D) (Da C:Addr) (s1:Shared):Prop:=
 ∃ (sb:Shared) (Hb:Hp) (cl:List (Str × Addr)) (E':Value->Shared->Prop) (σ':St) (H3 G3:Hp) (vs:List V),Inv (At X pins σ Ex) pins σ Hb sb/\sb.heap.objs.size <= C/\Inv ((pV X sc cl C sb Hb (X.pn++pins) N').wish E') [] σ' H3 s1/\Ext G H G3 H3/\H3 Da=some (.lst vs)/\G3 Da=none/\H Da=none/\Dens ⟨X.K,κ⟩ G3 vs l/\(ψ=true->Fr H H3 vs)
inductive CI (ψ:Bool) (Z:Zx) (Y:Cx) (tn:Nat->Heap->Prop) (fp:List Addr) (ds:List D) (Gb Hb:Hp) (m:Nat) (bd:D->Ev->Option Ev) (t:Ev->R Bool) (f:Ev->R D) (sd:Ev) (Da:Addr) (l:List D) (n:Nat) (s':Shared):Prop
 | mk (i:Nat) (σ':St) (es:Ev) (H' G':Hp) (acc:List D) (vs:List V) (aG:List D) (I:Inv Y [] σ' H' s') (t1:tn i s'.heap) (f1:∀ b∈fp,H' b=none) (e1:n=ds.length - i) (l1:i <= ds.length) (x1:Ext Gb Hb G' H') (e2:es.length=m) (r:Rep Z ⟨Gb,λ _=>False⟩ Hb G' H' σ' (sd++es)) (h1:H' Da=some (.lst vs)) (g1:G' Da=none) (d1:Dens Z G' vs acc) (l2:acc.length <= i) (c1:kQ m bd t f sd (ds.drop i)=.ok aG) (e3:acc++aG=l) (z1:ψ=true->Fr Hb H' vs)
theorem mX {ψ:Bool} {pins:List (Addr × Obj)} {τ:St} {Ex:Value->Shared->Prop} {s:Shared} {H G:Hp} {δ:Ev} {use:Option (Value->Sem Unit)} {Qv:Value->Shared->Prop} {cpos:Pos} (hc:X.calm=true) (co:CompOkG X sc N0 xs) (hi:r8 κ B X tg iter fit) (hbd:BdOk X.N.length xs.length bd)
  (hg:∀ B' cl C s₁ H₁ pn,xP κ B' (pV X sc cl C s₁ H₁ pn (N0++xs)) tg bd) (ht:∀ B' cl C s₁ H₁ pn,Eg κ B' (pV X sc cl C s₁ H₁ pn (N0++xs)) ifs t) (he:∀ B' cl C s₁ H₁ pn,KN ψ κ B' (pV X sc cl C s₁ H₁ pn (N0++xs)) elt f)
  (hs:∀ x,foldedSetIterable iter X.env x=pure x) (I:Inv (At X pins τ Ex) pins τ H s) (rp:Rep ⟨X.K,κ⟩ B X.H₀ G H τ δ)
  (q:match bj xs.length fit bd t f δ with
   | .ok l=>∀ Da C s1,vX ψ κ X sc (N0++xs) pins τ Ex G H l Da C s1->compPost (model X.prog X.w) X.A Ex use Qv (.ref Da) C (.ok .next) s1
   | .exc c=>∀ H' G',Ext G H G' H'->EX X pins τ Ex (.ref (κ c)) none H'
   | .stuck=>False) :
  wpAny (model X.prog X.w) X.A (comprehension (.ListComp elt [⟨tg,iter,ifs,0⟩] sc pos) sc X.env cpos (newList []) false (eval iter X.env) use) Qv Ex s:=by
 obtain ⟨cl,hcl,cl1,cl2⟩:=mV (env:=X.env) sc.names [] (λ y hy hk=>by
  have:=co.fr y hy hk
  exact I.ok.has y.1 (.inl this)) (λ y c h=>by cases h)
 have hclos:closureFor sc X.env=pure cl:=by
  unfold closureFor
  simp only [bind_pure]
  exact hcl
 refine wpAny_comprehension_free (use:=use) rfl hs hclos co.kind co.names ?_
 refine br (hi pins τ Ex pins s τ H (λ J H'=>∃ G' ds,Ext G H G' H'/\qy X κ J G' ds/\(match (if ds.length <= 1000000 then LF (kQ xs.length bd t f (nD δ) ds) else .stuck) with | .ok l=>∀ Da C s1,vX ψ κ X sc (N0++xs) pins τ Ex G H l Da C s1->compPost (model X.prog X.w) X.A Ex use Qv (.ref Da) C (.ok .next) s1 | _=>False)) I ⟨G,δ,rp,?_⟩) λ v s1 h1=>br h1 λ itv s2 h2=>?_
 ·unfold bj at q
  cases e:fit δ with
  | ok ds =>
   rw [e] at q
   simp only [R.bind_ok] at q
   refine λ J H' G' e1 d1=>⟨G',ds,e1,d1,?_⟩
   by_cases hb:ds.length <= 1000000
   ·rw [if_pos hb] at q ⊢
    cases ez:kQ xs.length bd t f (nD δ) ds with
    | ok l=>rw [ez] at q;exact q
    | exc c=>rw [ez] at q;exact False.elim q
    | stuck=>rw [ez] at q;exact False.elim q
   ·rw [if_neg hb] at q;exact False.elim q
  | exc c=>rw [e] at q;exact q
  | stuck=>rw [e] at q;exact q
 obtain ⟨sb,Hb,it,fp,tn,J,rfl,Ib,I2,kb,hos,hsz,T,st2,hfp,Gb,ds,e1,hJ,q2⟩:=h2
 have rpb:Rep ⟨X.K,κ⟩ B X.H₀ Gb Hb τ δ:=rp.ext e1
 by_cases hbig:ds.length <= 1000000
 case neg=>rw [if_neg hbig] at q2;exact False.elim q2
 rw [if_pos hbig] at q2
 cases ez:kQ xs.length bd t f (nD δ) ds with
 | exc c=>rw [ez] at q2;exact False.elim q2
 | stuck=>rw [ez] at q2;exact False.elim q2
 | ok l =>
 rw [ez] at q2
 have hf2:Hb s2.heap.objs.size=none:=I2.hok.fresh (Nat.le_refl _)
 have I3:=I2.laid (a:=s2.heap.objs.size) (o:=.lst []) (t':=s2.toks) (h':=s2.heap.push { cls:=.type "list",dict:=none,data:=.seq ([]:List Value).toArray }) (λ b u e=>Heap.get?_push_of_some _ e) (Nat.le_refl _) ⟨by decide,[],0,.nil,Heap.get?_push_size _ rfl⟩
 refine wpAny_newObj_type (wpAny_newFunctionEnv co.cell (by intro y hy;simp at hy) (λ h4 hns4 hsb4=>?_) co.kind)
 dsimp only at hns4 hsb4 ⊢
 generalize hH3:s2.heap.push { cls:=.type "list",dict:=none,data:=.seq ([]:List Value).toArray }=H3 at hns4 hsb4 I3 ⊢
 have hC:H3.objs.size=s2.heap.objs.size + 1:=by rw [<- hH3,Heap.size_push]
 have k34:∀ b o,H3.get? b=some o->h4.get? b=some o:=λ b o e=>hsb4.extBut b o (Nat.ne_of_lt (Heap.lt_size e)) (Heap.get?_push_of_some _ e)
 generalize hs4:({ s2 with heap:=h4,toks:=s2.toks + ([]:List (Str × Value)).length }:Shared)=s4
 have I4:Inv (At X pins τ Ex) pins τ (upd Hb s2.heap.objs.size (.lst [])) s4:=by
  have:=I3.kept (t':=s2.toks + ([]:List (Str × Value)).length) k34
  rw [<- hs4];exact this
 have hh4:s4.heap=h4:=by rw [<- hs4]
 have kb4:∀ b o,sb.heap.get? b=some o->s4.heap.get? b=some o:=λ b o e=>by
  rw [hh4];exact k34 b o (by rw [<- hH3];exact Heap.get?_push_of_some _ (kb b o e))
 have ub4:Un (oQ X.stack) [] Hb (upd Hb s2.heap.objs.size (.lst [])) sb.heap s4.heap:=Un.laid kb4 hsz hf2
 have hCb:sb.heap.objs.size <= H3.objs.size:=by omega
 have hfpD:∀ b∈fp,b ≠ s2.heap.objs.size:=λ b hb=>Nat.ne_of_lt (hfp b hb).2
 have hfpC:∀ b∈fp,b ≠ H3.objs.size:=λ b hb=>Nat.ne_of_lt (Nat.lt_trans (hfp b hb).2 (by rw [hC];exact Nat.lt_succ_self _))
 have hDC0:s2.heap.objs.size ≠ H3.objs.size:=by omega
 generalize hD:s2.heap.objs.size=Da at *
 generalize hCC:H3.objs.size=C at *
 have hDC:Da ≠ C:=hDC0
 let R:=compPost (model X.prog X.w) X.A Ex use Qv (.ref Da) C
 let E':=notedBy (model X.prog X.w) X.A (compEnvC sc cl C X.env) λ e s'=>R (.error e) s'
 have ent:=λ (E:Value->Shared->Prop)=>xY (E:=E) Ib I4 ub4 (by rw [<- hs4];exact hos) (N0:=N0) (xs:=xs) (sc:=sc) (cl:=cl) (C:=C) ⟨co.cell,co.kind,co.names,co.len,co.old,co.loc,co.fr⟩ cl1 (λ y hy=>cl2 y (.inr hy)) hCb (by rw [hh4];exact hns4) (by
  rw [aq (Ne.symm hDC)]
  exact Ib.hok.fresh hCb)
 let X':Cx:=pV X sc cl C sb Hb (X.pn++pins) (N0++xs)
 have lt:∀ {b o},sb.heap.get? b=some o->∀ c∈fp,b ≠ c:=λ {b o} e c hc z=>absurd (Nat.lt_of_lt_of_le (Heap.lt_size e) (z ▸ (hfp c hc).1)) (Nat.lt_irrefl _)
 have fok:∀ (E:Value->Shared->Prop) (pl:List (Addr × Obj)) (H':Hp),pl=[]->(∀ b∈fp,H' b=none)->∀ b∈fp,uc (X'.wish E) pl H' b:=λ E pl H' epl hn b hb=>by
  subst epl
  refine ⟨hn b hb,λ z=>?_,λ z=>?_,.inr (hfp b hb).1,λ y c e=>?_,λ p hp=>?_⟩
  ·exact hfpC b hb z
  ·obtain ⟨_,o,ho,_⟩:=Ib.stack.mem z
   exact lt ho b hb rfl
  ·obtain ⟨v,o,ho,_⟩:=Ib.cell y c (cl1 y c e)
   exact lt ho b hb
  ·have hp:p∈(X.pn++pins)++[]:=hp
   rw [List.append_nil] at hp
   exact lt (Ib.pin p hp).1 b hb
 have sgA:∀ (E:Value->Shared->Prop) p τ',(X'.wish E).sg p τ':=λ _ _ _=>trivial
 have hsl:(nD δ).length=X.N.length:=by
  have h1:τ.length=X.N.length:=I4.len
  have h2:=rp.len
  simp only [nD,List.length_map]
  omega
 have loop:codeAny (model X.prog X.w) X.A (.compLoop (.ListComp elt [⟨tg,iter,ifs,0⟩] sc pos) 0 (.ref it) (.ref Da) (compEnvC sc cl C X.env)) R s4:=by
  refine mr (CI ψ ⟨X.K,κ⟩ (X'.wish E') tn fp ds Gb Hb xs.length bd t f (nD δ) Da l) ?_ ds.length ?_
  case refine_2 =>
   refine ⟨0,_,List.replicate xs.length none,_,Gb,[],[],l,ent E',T.keep 0 _ _ st2 (λ b _ o e=>?_),λ b hb=>?_,rfl,Nat.zero_le _,nQ e1.GH hf2,by simp,yY xs.length rpb (nQ e1.GH hf2),aw,e1.GH.free hf2,bg,Nat.le_refl _,by simpa using ez,rfl,λ _=>Fr.nil⟩
   ·rw [hh4];exact k34 b o (by rw [<- hH3];exact Heap.get?_push_of_some _ e)
   ·rw [aq (hfpD b hb)]
    exact Ib.hok.fresh (hfp b hb).1
  rintro n s3 ⟨i,σ3,es3,H3',G3,acc,vs,aG,Iv,st3,fr3,rfl,hi3,ext3,hes3,rp3,hD3,gD3,dacc,hacc,hz,hl,hfr⟩
  by_cases hlt3:i < ds.length
  ·obtain ⟨dx,hdx⟩:∃ d,ds[i]?=some d:=⟨ds[i],by simp [hlt3]⟩
   obtain ⟨go,yl⟩:=(hJ H3' G3 ext3.sG ext3.GH i).1 dx hdx
   refine br (T.item (X'.wish E') rfl rfl rfl hc i [] s3 _ H3' E' Iv (fok E' [] H3' rfl fr3) st3 go) λ r s4' ⟨u,hr,h4'⟩=>?_
   subst hr
   have keepD:∀ {Ga Ha G' H':Hp} {ws:List V},Ext Ga Ha G' H'->Ha Da=some (.lst ws)->Ga Da=none->H' Da=some (.lst ws)/\G' Da=none:=λ {Ga Ha G' H' ws} ee h1 h2=>by
    refine ⟨ee.sH _ _ h1,?_⟩
    cases z:G' Da with
    | none=>rfl
    | some o =>
     rcases ee.new Da (by rw [z];simp) with y | y
     ·exact absurd h2 y
     ·rw [h1] at y;cases y
   have hdrop:ds.drop i=dx :: ds.drop (i + 1):=by
    rw [List.drop_eq_getElem_cons hlt3]
    simp [hlt3] at hdx
    rw [hdx]
   rw [hdrop] at hz
   unfold kQ at hz
   cases eb:bd dx (nD δ++List.replicate xs.length none) with
   | none=>rw [eb] at hz;cases hz
   | some δ1 =>
   rw [eb] at hz
   simp only at hz
   obtain ⟨es1,hes1,hsh1,rfl⟩:=hbd.out dx (nD δ) δ1 hsl eb
   refine br h4' λ _ s5 ⟨xv,H5,I5,r5,y5,st5,fr5⟩=>?_
   obtain ⟨G5,e5,dd⟩:=yl xv H5 y5
   have I5':=Inv.pinned (sgA E') I5 (fok E' [] _ rfl fr5) (T.obj _ _ st5)
   refine br (hg ⟨Gb,λ _=>False⟩ cl C sb Hb (X.pn++pins) E' _ s5 σ3 _ xv u (λ σ' H'=>H'=H5/\Rep ⟨X.K,κ⟩ ⟨Gb,λ _=>False⟩ Hb G5 H5 σ' (nD δ++es1)) I5' r5 ⟨G5,_,dx,_,rp3.ext e5,dd,by rw [hbd.any dx (nD δ) es3 hsl hes3];exact eb,λ σ' r'=>⟨rfl,r'⟩⟩) λ _ s6 ⟨σ6,H6,I6,e6,rp6⟩=>?_
   subst e6
   obtain ⟨hD5,gD5⟩:=keepD e5 hD3 gD3
   have back:∀ {s7:Shared} {H7:Hp},Inv (X'.wish E') ([]++o6 fp s5.heap) σ6 H7 s7->Inv (X'.wish E') [] σ6 H7 s7/\tn (i + 1) s7.heap/\∀ b∈fp,H7 b=none:=λ {s7 H7} I7 =>
    ⟨Inv.unpinned (sgA E') I7,T.keep _ _ _ st5 λ b hb o e=>(I7.pin (b,o) (List.mem_append_right _ (List.mem_append_right _ (dA hb e)))).1,λ b hb=>by
     obtain ⟨o,e,_⟩:=T.obj _ _ st5 b hb
     exact (I7.pin (b,o) (List.mem_append_right _ (List.mem_append_right _ (dA hb e)))).2.1⟩
   cases et:t (nD δ++es1) with
   | exc c=>rw [et] at hz;cases hz
   | stuck=>rw [et] at hz;cases hz
   | ok k =>
   rw [et] at hz
   simp only [L3.R.bind_ok] at hz
   refine br (ht ⟨Gb,λ _=>False⟩ cl C sb Hb (X.pn++pins) _ _ E' s6 _ (λ b H'=>b=k/\∃ G',Ext G5 H6 G' H') (bq I6) ⟨G5,_,rp6,?_⟩) λ ok s7 ⟨H7,I7,eok,G7,e7⟩=>?_
   ·rw [et];exact λ b H' G' ee eb=>⟨eb,G',ee⟩
   subst eok
   have I7:=aH (sgA (λ _ _=>False)) I7
   obtain ⟨hD7,gD7⟩:=keepD e7 hD5 gD5
   cases ok with
   | false =>
    simp only [Bool.false_eq_true,if_false] at hz ⊢
    obtain ⟨j1,j2,j3⟩:=back I7
    exact ⟨ds.length - (i + 1),by omega,i + 1,_,es1,H7,G7,acc,vs,aG,j1,j2,j3,rfl,hlt3,(ext3.trans e5).trans e7,hes1,rp6.ext e7,hD7,gD7,(dacc.mono e5.sG).mono e7.sG,by omega,hz,hl,λ z=>(hfr z).same (e5.sH.trans e7.sH)⟩
   | true =>
    simp only [if_true] at hz ⊢
    cases ef:f (nD δ++es1) with
    | exc c=>rw [ef] at hz;cases hz
    | stuck=>rw [ef] at hz;cases hz
    | ok dy =>
    rw [ef] at hz
    simp only [L3.R.bind_ok] at hz
    refine br (he ⟨Gb,λ _=>False⟩ cl C sb Hb (X.pn++pins) _ _ E' _ s7 _ H7 (λ y H'=>∃ G',Ext G7 H7 G' H'/\aN ⟨X.K,κ⟩ G' y dy/\(ψ=true->∃ q us,y=V.ref q/\H' q=some (.lst us)/\H7 q=none)) (bq I7) ⟨G7,_,rp6.ext e7,?_⟩) λ yu s8 ⟨yv,H8,I8,ry,G8,e8,dy8,fr8⟩=>?_
    ·rw [ef];exact λ y H' G' ee d=>⟨G',ee,d.1,d.2⟩
    have I8:=aH (sgA (λ _ _=>False)) I8
    obtain ⟨hD8,gD8⟩:=keepD e8 hD7 gD7
    have lacc:=dacc.length
    refine br (fI (X:=X'.wish E') _ s8 _ H8 (.ref Da) [yv] (.ref Da) [yu] (λ _ H'=>H'=upd H8 Da (.lst (vs++[yv]))) I8 rfl (.cons ry .nil) ⟨Da,vs,yv,rfl,rfl,hD8,by rw [sizeLine_eq];omega,rfl⟩) λ _ s9 ⟨_,H9,I9,_,e9⟩=>?_
    subst e9
    obtain ⟨j1,j2,j3⟩:=back I9
    cases ez2:kQ xs.length bd t f (nD δ) (ds.drop (i + 1)) with
    | exc c=>rw [ez2] at hz;cases hz
    | stuck=>rw [ez2] at hz;cases hz
    | ok rest' =>
    rw [ez2] at hz
    simp only [L3.R.bind_ok] at hz
    injection hz with hz
    have ex8:=((ext3.trans e5).trans e7).trans e8
    have rp8:=(rp6.ext e7).ext e8
    have hbD:Hb Da=none:=hf2
    have ex9:Ext Gb Hb G8 (upd H8 Da (.lst (vs++[yv]))):=⟨ex8.sG,λ b o z=>by rw [aq (by rintro rfl;rw [hf2] at z;cases z)];exact ex8.sH b o z,λ b o z=>by rw [aq (by rintro rfl;rw [gD8] at z;cases z)];exact ex8.GH b o z,ex8.new⟩
    have rp9:Rep ⟨X.K,κ⟩ ⟨Gb,λ _=>False⟩ Hb G8 (upd H8 Da (.lst (vs++[yv]))) σ6 (nD δ++es1):=yX rp8 (λ i o z=>by
     rcases List.mem_append.mp (List.mem_of_getElem? z) with z | z
     ·obtain ⟨o',_,z⟩:=List.mem_map.mp z
      split at z
      ·cases z;exact ⟨_,rfl⟩
      ·cases z
     ·exact hsh1 _ z o rfl) ex9
    refine ⟨ds.length - (i + 1),by omega,i + 1,_,es1,_,G8,acc++[dy],vs++[yv],rest',j1,j2,j3,rfl,hlt3,ex9,hes1,rp9,aw,gD8,(((dacc.mono e5.sG).mono e7.sG).mono e8.sG).append (aP dy8 bg),by simp;omega,ez2,by rw [<- hl,<- hz];simp,λ z=>Fr.upd (((hfr z).same ((e5.sH.trans e7.sH).trans e8.sH)).snoc (by obtain ⟨q,us,w1,w2,w3⟩:=fr8 z;exact ⟨q,us,w1,w2,((ext3.sH.trans e5.sH).trans e7.sH).free w3⟩))⟩
  ·have hie:i=ds.length:=by omega
   refine br (T.done (X'.wish E') rfl rfl rfl hc i [] s3 _ H3' E' Iv (fok E' [] H3' rfl fr3) st3 ((hJ H3' G3 ext3.sG ext3.GH i).2 (by omega))) λ r s4' ⟨hr,I4'⟩=>?_
   subst hr
   rw [hie,List.drop_length] at hz
   unfold kQ at hz
   injection hz with hz
   subst hz
   rw [List.append_nil] at hl
   subst hl
   exact q2 Da C s4' ⟨sb,Hb,cl,E',σ3,H3',G3,vs,Ib,hCb,I4',e1.trans ext3,hD3,gD3,e1.sH.free hf2,dacc,λ z=>(hfr z).base λ b hb w=>hb (e1.sH.free w)⟩
 have stn:tn 0 s4.heap:=T.keep 0 _ _ st2 (λ b _ o e=>by rw [hh4];exact k34 b o (by rw [<- hH3];exact Heap.get?_push_of_some _ e))
 exact codeAny_compStart_list loop (T.self X.A 0 s4 _ _ stn loop)
end
end L3
namespace L3
open PySem PySem.Spec PyProof.Rows L2
section
variable {κ:Nat->Addr} {B:Gd} {X:Cx} {sc:Scope} {N0 xs:List Str} {pos:Pos} {tg iter elt:Expr} {ifs:List Expr} {fit:Ev->R (List D)} {bd:D->Ev->Option Ev} {t:Ev->R Bool} {f:Ev->R D}
theorem BV (hc:X.calm=true) (co:CompOkG X sc N0 xs) (hi:r8 κ B X tg iter fit) (hbd:BdOk X.N.length xs.length bd)
  (hg:∀ X' B',CmpIsG X sc (N0++xs) X'->xP κ B' X' tg bd) (ht:∀ X' B',CmpIsG X sc (N0++xs) X'->Eg κ B' X' ifs t) (he:∀ X' B',CmpIsG X sc (N0++xs) X'->PX κ B' X' elt f)
  (hs:vW iter=true):xQ κ B X (.ListComp elt [⟨tg,iter,ifs,0⟩] sc pos) (bj xs.length fit bd t f):=λ pins σ Ex pins' s τ H Q I hz=>eQ hz λ G δ rp q=>by
 obtain ⟨rfl,rfl⟩:=I.sgm
 show wpAny (model X.prog X.w) X.A (eval (.ListComp elt [⟨tg,iter,ifs,0⟩] sc pos) X.env) _ Ex s
 rw [eval_ListComp]
 refine mX (ψ:=false) (use:=none) hc co hi hbd (λ _ _ _ _ _ _=>hg _ _ gQ) (λ _ _ _ _ _ _=>ht _ _ gQ) (λ _ _ _ _ _ _=>(he _ _ gQ).n) (kD hs) I rp ?_
 cases e:bj xs.length fit bd t f δ with
 | ok l =>
  rw [e] at q
  rintro Da C s1 ⟨sb,Hb,cl,E',σ',H3,G3,vs,Ib,hCb,J,ex,h1,h2,h3,h4,_⟩
  obtain ⟨mm,hnn,_⟩:=J.loc
  exact ⟨mm,hnn,λ h' sbt=>⟨.ref Da,H3,mW (X:=At X pins' τ Ex) (sc:=sc) (cl:=cl) (E:=E') Ib J hCb sbt,rfl,q Da vs H3 G3 ex h1 h2 h3 h4⟩⟩
 | exc c=>rw [e] at q;exact q
 | stuck=>rw [e] at q;exact q
theorem sX (cx:Cxo X) {y:Str} {py spos:Pos} {i:Nat} (hN:X.N.Nodup) (hy:X.N[i]?=some y) (hk:X.env.scope.kind=.function) (hx:X.env.scope.names.lookup y=some .local) (hl:(py.line == pos.line)=true) (hn:(sc.names.any λ p=>p.1 == y && (p.2 == .local || p.2 == .cell))=false)
  (hc:X.calm=true) (co:CompOkG X sc N0 xs) (hi:r8 κ B X tg iter fit) (hbd:BdOk X.N.length xs.length bd)
  (hg:∀ X' B',CmpIsG X sc (N0++xs) X'->xP κ B' X' tg bd) (ht:∀ X' B',CmpIsG X sc (N0++xs) X'->Eg κ B' X' ifs t) (he:∀ X' B',CmpIsG X sc (N0++xs) X'->PX κ B' X' elt f)
  (hs:vW iter=true) {Ex:Value->Shared->Prop} {pins:List (Addr × Obj)} {s:Shared} {σ:St} {H G:Hp} {δ:Ev} {Dn:Ends} (I:Inv (X.wish Ex) pins σ H s) (rp:Rep ⟨X.K,κ⟩ B X.H₀ G H σ δ)
  (q:match bj xs.length fit bd t f δ with
   | .ok l=>∀ Da vs H3 G3,Ext G H G3 H3->H3 Da=some (.lst vs)->G3 Da=none->H Da=none->Dens ⟨X.K,κ⟩ G3 vs l->Dn.nx (σ.set i (some (.ref Da))) H3
   | .exc c=>∀ ea s' σ' H' G',Inv (X.wish Ex) pins σ' H' s'->Flies X pins H' s' ea (.ref (κ c))->Rep ⟨X.K,κ⟩ B X.H₀ G' H' σ' δ->Ex (.ref ea) s'
   | .stuck=>False) :
  wpAny (model X.prog X.w) X.A (exec (.Assign [.Name y py] (.ListComp elt [⟨tg,iter,ifs,0⟩] sc pos) spos) X.env) (SP (X.wish Ex) pins Dn) Ex s:=by
 rw [exec_Assign_Name_used _ _ _ _ (Bq hk hx hl hn)]
 refine wpAny_bind (wpAny_standAt (wpAny_bind ?_))
 show wpAny _ X.A (do let _ ← comprehension (.ListComp elt [⟨tg,iter,ifs,0⟩] sc pos) sc X.env _ (newList []) false (eval iter X.env) (some (assign (.Name y py) X.env))) _ _ s
 refine wpAny_bind (wpAny_mono (mX (ψ:=false) (use:=some (assign (.Name y py) X.env)) (Qv:=λ _ s'=>SP (X.wish Ex) pins Dn .next s') (Ex:=Ex) (pins:=pins) (τ:=σ) hc co hi hbd (λ _ _ _ _ _ _=>hg _ _ gQ) (λ _ _ _ _ _ _=>ht _ _ gQ) (λ _ _ _ _ _ _=>(he _ _ gQ).n) (kD hs) (bq I) rp ?_) (λ _ s' hq=>wpAny_pure (wpAny_pure hq)) λ _ _ e=>e)
 cases e:bj xs.length fit bd t f δ with
 | ok l =>
  rw [e] at q
  rintro Da C s1 ⟨sb,Hb,cl,E',ov,H3,G3,vs,Ib,hCb,J,ex,h1,h2,h3,h4,_⟩
  have lt:∀ {b o},sb.heap.get? b=some o->b ≠ C:=λ {b o} e z=>absurd (Nat.lt_of_lt_of_le (Heap.lt_size e) (z ▸ hCb)) (Nat.lt_irrefl _)
  have I0:=mW (X:=At X pins σ Ex) (sc:=sc) (cl:=cl) (E:=E') Ib J hCb (Heap.SameBut.refl ..)
  have I1:Inv (X.wish Ex) pins σ H3 s1:=aH cx.sg I0
  show wpAny _ _ (assign (.Name y py) X.env (.ref Da)) _ _ s1
  refine wpAny_assign_Name (tL (X:=X.wish Ex) (v:=.ref Da) I1 hN hy (.inl hx) rfl (λ s2 I2 ⟨a,sba,ha⟩=>?_) (.inr hx) (λ p σ v _=>cx.sg p _))
  obtain ⟨mm,hnn,_⟩:=J.loc
  have hLC:X.env.locals ≠ C:=by
   obtain ⟨m',⟨o,_,_,ho,_⟩,_⟩:=Ib.loc
   exact lt ho
  have hcC:∀ z c,X.env.cells.lookup z=some c->c ≠ C:=λ z c hz=>by
   obtain ⟨v,o,ho,_⟩:=Ib.cell z c hz
   exact lt ho
  have haC:C ≠ a:=by
   rcases ha with rfl | ha
   ·exact Ne.symm hLC
   ·exact Ne.symm (hcC y a ha)
  refine ⟨mm,hnn.sameBut sba haC,λ h' sbt=>⟨_,H3,?_,q Da vs H3 G3 ex h1 h2 h3 h4⟩⟩
  exact I2.turned (t':=s2.toks) (it:=C) (λ b o hb e=>sbt.extBut b o hb e) J.free (Ne.symm hLC) (.inr (Nat.le_trans Ib.sz hCb)) (λ z c hz=>hcC z c hz) (λ p hp=>lt (Ib.pin p hp).1)
 | exc c =>
  rw [e] at q
  exact λ H' G' e1 ea s' I' F=>q ea s' σ H' G' I' F (rp.ext e1)
 | stuck=>rw [e] at q;exact q
theorem Bm (cx:Cxo X) {y:Str} {py spos:Pos} {i:Nat} (hN:X.N.Nodup) (hy:X.N[i]?=some y) (hk:X.env.scope.kind=.function) (hx:X.env.scope.names.lookup y=some .local) (hl:(py.line == pos.line)=true) (hn:(sc.names.any λ p=>p.1 == y && (p.2 == .local || p.2 == .cell))=false)
  (hc:X.calm=true) (co:CompOkG X sc N0 xs) (hi:r8 κ B X tg iter fit) (hbd:BdOk X.N.length xs.length bd)
  (hg:∀ X' B',CmpIsG X sc (N0++xs) X'->xP κ B' X' tg bd) (ht:∀ X' B',CmpIsG X sc (N0++xs) X'->Eg κ B' X' ifs t) (he:∀ X' B',CmpIsG X sc (N0++xs) X'->PX κ B' X' elt f)
  (hs:vW iter=true):PZ κ B X (.Assign [.Name y py] (.ListComp elt [⟨tg,iter,ifs,0⟩] sc pos) spos) (bo i (mL (bj xs.length fit bd t f))):=λ Ex pins s σ H G δ Dn hp I rp q=>by
 refine sX cx hN hy hk hx hl hn hc co hi hbd hg ht he hs I rp ?_
 unfold bo mL at q
 cases e:bj xs.length fit bd t f δ with
 | ok l =>
  rw [e] at q
  intro Da vs H3 G3 ex h1 h2 h3 h4
  have sg:aM G3 (upd G3 Da (.lst vs)):=λ b o z=>by rw [aq (az z h2)];exact z
  exact q _ H3 _ ((rp.ext (c8 ex h1 h2 h3)).setSh (by unfold aN;exact ⟨Da,vs,rfl,bz.of aw,h4.mono sg⟩))
 | exc c=>rw [e] at q;exact q
 | stuck=>rw [e] at q;exact q
end
end L3
namespace L3
open PySem PySem.Spec PyProof.Rows L2
noncomputable def D2 (i:Nat):Ev->SR:=λ δ=>match δ[i]? with
 | some (some (.ow ds))=>if ds.isEmpty then .stuck else .next (δ.set i (some (.ow ds.dropLast)))
 | _=>.stuck
section
variable {κ:Nat->Addr} {B:Gd} {X:Cx} {pos pos' pos'' apos:Pos}
theorem IE (cx:Cxo X) {i:Nat} {x:Str} (hN:X.N[i]?=some x) (hv:kT X.env.scope x) (hd:(x == ("__debug__" : Str))=false) (hcd:(x == ("__classdict__" : Str))=false) (hline:(apos.endLine == pos'.line)=true) :
  PZ κ B X (.Expr (.Call (.Attribute (.Name x pos) "pop" apos) [] [] pos') pos'') (D2 i):=λ Ex pins s σ H G δ Dn hp I rp q=>by
 unfold D2 at q
 split at q
 ·rename_i ds ed
  split at q
  ·exact False.elim q
  rename_i hne
  obtain ⟨a,vs,x1,x2,x3,x4,x5⟩:=rp.ow i ds ed
  have pe:=vf (X:=At X pins σ Ex) PySem.F.plainAttrs_list PySem.F.slot_list_pop PySem.F.type_list_pop Ht (b0 (X:=At X pins σ Ex) (pos:=pos) hN hv hd hcd) rfl hline
  refine wpAny_Expr_any (br (pe pins s σ H (λ _ H'=>∃ G' δ',Rep ⟨X.K,κ⟩ B X.H₀ G' H' σ δ'/\c0 κ B X Ex pins Dn (.next δ')) (bq I) ⟨.ref a,x1,.inl ⟨rfl,vs,bz.of x2⟩,?_⟩) (by rintro v s1 ⟨y,H',I',r,G',δ',rp',q⟩;exact ⟨σ,H',aH cx.sg I',q σ H' G' rp'⟩)) I.quiet (aZ rfl)
  have hl:=x3.length
  have hpos:0 < ds.length:=List.length_pos_iff.mpr (by simpa using hne)
  refine ⟨a,vs,vs[vs.length - 1],rfl,rfl,x2,by simp,G,_,rp.updOw ed x1 (es:=ds.dropLast) ?_,q⟩
  rw [List.dropLast_eq_take,List.dropLast_eq_take,hl]
  exact x3.take _
 ·exact False.elim q
end
noncomputable def kE:List Int->Int
 | []=>0
 | [a]=>a
 | a :: b :: l=>if kE (b :: l) < a then kE (b :: l) else a
theorem jV:∀ {l:List Int},l ≠ []->kE l∈l/\∀ a∈l,kE l <= a
 | [],h=>absurd rfl h
 | [a],_=>by simp [kE]
 | a :: b :: l,_=>by
  obtain ⟨h1,h2⟩:=jV (l:=b :: l) (by simp)
  unfold kE
  split
  ·rename_i c
   refine ⟨List.mem_cons_of_mem _ h1,λ x hx=>?_⟩
   rcases List.mem_cons.mp hx with rfl | hx
   ·omega
   ·exact h2 x hx
  ·rename_i c
   refine ⟨List.mem_cons_self,λ x hx=>?_⟩
   rcases List.mem_cons.mp hx with rfl | hx
   ·exact Int.le_refl _
   ·have:=h2 x hx;omega
theorem tm:∀ {ns:List Int} {its:List Value},ba (ns.map V.int) its->∃ xs:List (Int × Tok),its=xs.map (λ p=>Value.int p.1 p.2)/\xs.map (·.1)=ns
 | [],[],_=>⟨[],rfl,rfl⟩
 | n :: ns,u :: us,r=>by
  cases r with
  | cons h t =>
   obtain ⟨k,rfl⟩:=h
   obtain ⟨xs,rfl,rfl⟩:=tm t
   exact ⟨(n,k) :: xs,rfl,rfl⟩
 | [],_ :: _,r=>by cases r
 | _ :: _,[],r=>by cases r
theorem Ac {X:Cx} (hc:X.calm=true):jM X (.builtin "min") (λ xs H Q=>∃ p ns,xs=[.ref p]/\bz X.K H p (ns.map V.int)/\ns ≠ []/\Q (.int (kE ns)) H):=by
 intro pins s σ H xs us Q I rx ⟨p,ns,e,hq,hne,q⟩
 subst e
 obtain ⟨u,rfl,ru⟩:=rx.one
 cases ru
 obtain ⟨its,r',pl,hz⟩:=I.list hq
 obtain ⟨xs,rfl,e2⟩:=tm r'
 have hit:(xs.map λ p:Int × Tok=>Value.int p.1 p.2).toArray=intItems xs.toArray:=by simp [intItems]
 rw [hit] at pl
 have hsz:0 < xs.toArray.size:=by
  rw [List.size_toArray]
  cases xs with
  | nil=>simp at e2;exact absurd e2 hne
  | cons _ _=>simp
 refine min_intList (I.ok.hd hc) pl.isList hsz λ v h' tk hv hk=>?_
 obtain ⟨t,rfl⟩:=intItems_at hv
 obtain ⟨h1,h2⟩:=argBest_lt (numAt xs.toArray) (xs.toArray.size - 1)
 refine ⟨.int (kE ns),H,I.kept (t':=tk) hk,⟨t,?_⟩,q⟩
 obtain ⟨m1,m2⟩:=jV hne
 have hlt:=Nat.lt_of_le_of_lt h1 (Nat.sub_lt hsz Nat.one_pos)
 generalize hM:numAt xs.toArray (argBest (λ i j=>decide (numAt xs.toArray i < numAt xs.toArray j)) (xs.toArray.size - 1))=M at h2 ⊢
 have a1:M∈ns:=by
  rw [<- hM,<- e2,numAt_eq];exact getD_mem (by rw [List.length_map,Array.length_toList];exact hlt)
 have a2:∀ a∈ns,M <= a:=λ a ha=>by
  rw [<- e2] at ha
  obtain ⟨j,hj,rfl⟩:=mem_getD ha
  rw [List.length_map] at hj
  have:=h2 j (by rw [List.size_toArray];omega)
  rw [numAt_eq] at this
  simpa using this
 have b1:=a2 _ m1
 have b2:=m2 _ a1
 congr 1
 omega
noncomputable def rk:D->R D
 | .lst ds=>match i9 ds with
  | some (n :: ns)=>.ok (.int (kE (n :: ns)))
  | _=>.stuck
 | _=>.stuck
section
variable {κ:Nat->Addr} {B:Gd} {X:Cx} {a b:Expr} {fa fb:Ev->R D} {p pos:Pos}
theorem Je (hc:X.calm=true) (hg:Gl X "min") (hm:X.mg "min" = none) (ha:dN κ B X a fa) (h:aA a=true):PX κ B X (.Call (.Name "min" p) [a] [] pos) (m1 rk fa):=λ pins σ Ex =>
 be (ma (X:=At X pins σ Ex) (Ac hc) hg hm sV (bw (X:=At X pins σ Ex) (ha pins σ Ex) cA (aB h)) (by decide) (by decide) (aB h) rfl) λ τ H Q hz=>eQ hz λ G δ rp q=>⟨G,δ,rp,q.seq λ x v H1 G1 e1 d1 q1=>by
  cases x with
  | lst ds =>
   simp only [rk] at q1
   split at q1
   ·rename_i n ns eb
    have fin:∀ {q:Addr} {vs:List V},bz X.K H1 q vs->Dens ⟨X.K,κ⟩ G1 vs ds->∃ (p:Addr) (bs:List Int),[V.ref q]=[V.ref p]/\bz X.K H1 p (bs.map V.int)/\bs ≠ []/\Q (.int (kE bs)) H1:=λ {q vs} h1 h2 =>
     ⟨q,_,rfl,ky h2 eb ▸ h1,by simp,q1 _ H1 G1 (Ext.refl e1.GH) nM⟩
    rcases d1 with d1 | ⟨l,vs,es,rfl,e,h3,h4⟩
    ·unfold aN at d1
     obtain ⟨l,vs,rfl,h1,h2⟩:=d1
     exact fin (e1.GH.seq h1) h2
    ·cases e
     exact fin (bz.of h3) h4
   ·exact False.elim q1
  | _=>exact False.elim q1⟩
end
end L3
namespace L3
open PySem PySem.Spec PyProof.Rows L2
noncomputable def wN:D->Option cY
 | .int i=>some (.inl i)
 | .str x=>some (.inr ⟨x.toArray⟩)
 | _=>none
theorem Es {Z:Zx} {G:Hp} {v:V} {d:D} {k:cY} (h:aN Z G v d) (e:wN d=some k):v=kV k:=by
 cases d <;> simp [wN] at e <;> subst e <;> unfold aN at h <;> exact h
theorem DE {X:Cx} {κ:Nat->Addr} {G H:Hp} {v:V} {d:D} {k:cY} (h:gN X κ G H v d) (e:wN d=some k):v=kV k:=by
 rcases h with h | ⟨_,_,_,_,rfl,_⟩
 ·exact Es h e
 ·cases e
noncomputable def Go:List cY->List D->cY->Option D
 | k :: ks,d :: ds,x=>if k=x then some d else Go ks ds x
 | _,_,_=>none
theorem zi {Z:Zx} {G:Hp} {x:cY}:∀ {ks:List cY} {vs:List V} {ds:List D},ks.length=vs.length->Dens Z G vs ds->match Go ks ds x with
  | some d=>∃ v,om (ks.zip vs) x=some v/\aN Z G v d
  | none=>om (ks.zip vs) x=none
 | [],[],[],_,_=>rfl
 | k :: ks,v :: vs,d :: ds,hl,hd=>by
  unfold Dens at hd
  rw [List.zip_cons_cons]
  unfold Go
  by_cases c:k=x
  ·rw [if_pos c]
   exact ⟨v,ou c,hd.1⟩
  ·rw [if_neg c]
   have ih:=zi (x:=x) (ks:=ks) (by simpa using hl) hd.2
   rw [oq (p:=(k,v)) (r:=ks.zip vs) c]
   exact ih
 | [],_ :: _,_,hl,_=>by simp at hl
 | _ :: _,[],_,hl,_=>by simp at hl
 | _,[],_ :: _,_,hd=>by unfold Dens at hd;exact hd.elim
 | _,_ :: _,[],_,hd=>by unfold Dens at hd;exact hd.elim
noncomputable def yt (k x:D):R Bool:=match x,wN k with
 | .dic ks ds,some key=>.ok (Go ks ds key).isSome
 | _,_=>.stuck
section
variable {κ:Nat->Addr} {B:Gd} {X:Cx} {a b e o:Expr} {fa fb fo fk:Ev->R D} {pos p:Pos}
noncomputable def GB:R2:=λ v u H Q=>∃ a o,u=.ref a/\By H a v o/\Q (.bl o.isSome) H
theorem E0 (hu:X.A.units + 64 < cLine):∀ Y:Cx,Y.K=X.K->Y.A=X.A->my Y (compareOp .In) GB:=by
 intro Y eK eA pins s σ H v u v' u' Q I r1 r2 ⟨a,o,e,g,q⟩
 subst e
 cases r2
 exact KU (by rw [eA];omega) I g r1 λ s' I'=>⟨.bl _,H,I',rfl,q⟩
theorem CK:oB κ X GB (kI yt):=by
 intro x y v u G H Q E s d1 d2 q
 unfold kI yt at q
 split at q
 ·rename_i ks ds key ek
  rcases d2 with d2 | ⟨_,_,_,_,h,_⟩
  ·unfold aN at d2
   obtain ⟨l,vs,rfl,h1,h2,h3⟩:=d2
   have h4:=zi (x:=key) h2 h3
   have g:=By.k (k:=key) (s _ _ h1)
   rw [<- DE d1 ek] at g
   refine ⟨l,_,rfl,g,?_⟩
   have:(om (ks.zip vs) key).isSome=(Go ks ds key).isSome:=by
    cases c:Go ks ds key with
    | none=>rw [c] at h4;rw [h4];rfl
    | some d=>rw [c] at h4;obtain ⟨w,e4,_⟩:=h4;rw [e4];rfl
   rw [this]
   exact q _ H G (Ext.refl s) Ep
  ·cases h
 ·exact False.elim q
theorem Fu (hu:X.A.units + 64 < cLine) (ha:dN κ B X a fa) (hb:dN κ B X b fb) (hm:behindInMarks .In b=false):mO κ B X (.Compare a [.In] [b] pos) (bY yt fa fb):=fR (E0 hu) CK ha hb hm
end
section
variable {κ:Nat->Addr} {B:Gd} {X:Cx} {e:Expr} {f:Ev->R D} {fs:Ev->R (List D)} {pos p:Pos} {keys:List (Option Expr)} {values:List Expr} {ks:List cY}
end
noncomputable def uq (ks:List cY) (k:cY):List cY:=if (ks.any λ j=>decide (j=k))=true then ks else ks++[k]
noncomputable def ck:List Int->List cY->List cY
 | [],ks=>ks
 | n :: ns,ks=>ck ns (uq ks (.inl n))
noncomputable def n9 (k:Nat) (ns:List Int) (δ:Ev):Ev:=match ns.getLast? with
 | none=>δ
 | some n=>δ.set k (some (.sh (.int n)))
noncomputable def me (i j k:Nat):Ev->SR:=λ δ=>match δ[i]? with
 | some (some (.sh (.lst ds)))=>match i9 ds with
  | some ns=>if ns.length <= 1000000 then .next (n9 k ns (δ.set j (some (.sh (.dic (ck ns []) ((ck ns []).map λ _=>.bl true)))))) else .stuck
  | none=>.stuck
 | _=>.stuck
noncomputable def ph (ks:List cY):List (cY × V):=ks.map λ k=>(k,.bl true)
theorem AY (ks:List cY) (k:cY):o7 (ph ks) k (.bl true)=ph (uq ks k):=by
 have e:((ph ks).any λ kv=>decide (kv.1=k))=ks.any λ j=>decide (j=k):=by
  unfold ph
  rw [List.any_map]
  rfl
 unfold o7 uq
 rw [e]
 split
 ·unfold ph
  rw [List.map_map]
  refine List.map_congr_left λ j _=>?_
  simp only [Function.comp]
  split <;> rfl
 ·simp [ph]
theorem rc:∀ (ns:List Int) (n:Int) (ks:List cY),ck (ns++[n]) ks=uq (ck ns ks) (.inl n)
 | [],_,_=>rfl
 | m :: ns,n,ks=>rc ns n (uq ks (.inl m))
theorem tz:∀ (ns:List Int) (ks:List cY),(ck ns ks).length <= ks.length + ns.length
 | [],_=>by simp [ck]
 | m :: ns,ks=>by
  have:=tz ns (uq ks (.inl m))
  have h2:(uq ks (.inl m)).length <= ks.length + 1:=by unfold uq;split <;> simp
  simp only [ck,List.length_cons]
  omega
theorem yb {Z:Zx} {G:Hp} (ks:List cY):Dens Z G (ks.map λ _=>V.bl true) (ks.map λ _=>D.bl true):=by
 induction ks with
 | nil=>exact bg
 | cons _ _ ih=>exact aP (by unfold aN;rfl) ih
theorem DR (ks:List cY):ks.zip (ks.map λ _=>V.bl true)=ph ks:=by
 induction ks with
 | nil=>rfl
 | cons k ks ih=>simp [ph] at ih ⊢;exact ih
section
variable {κ:Nat->Addr} {B:Gd} {X:Cx}
theorem B0 {x y z:Str} {i j k:Nat} {p1 p2 p3 p4 p5 p6 p7 p8 p9 p10 p11:Pos} {aG:List Stmt} {C:Ev->Prop} {Ex:Value->Shared->Prop} {pins:List (Addr × Obj)} {s:Shared} {σ:St} {H G:Hp} {δ:Ev} {Dn:Ends} (cx:Cxo X) (hc:X.calm=true) (hu:X.A.units + 64 < cLine) (hND:X.N.Nodup) (hfn:∀ y,X.fn y=true) (hi:X.N[i]?=some x) (vx:kT X.env.scope x) (dx:(x == ("__debug__" : Str))=false) (cdx:(x == ("__classdict__" : Str))=false)
  (hj:X.N[j]?=some y) (ly:mM X.env.scope y) (vy:kT X.env.scope y) (dy:(y == ("__debug__" : Str))=false) (cdy:(y == ("__classdict__" : Str))=false)
  (hk:X.N[k]?=some z) (lz:mM X.env.scope z) (vz:kT X.env.scope z) (dz:(z == ("__debug__" : Str))=false) (cdz:(z == ("__classdict__" : Str))=false) (hij:i ≠ j) (hik:i ≠ k) (hjk:j ≠ k) {c:Nat}
  (hp:PassesOwn (model X.prog X.w) X.A X.env Ex) (I:Inv (X.wish Ex) pins σ H s) (rp:Rep ⟨X.K,κ⟩ B X.H₀ G H σ δ) (q:match me i j k δ with | .next δ'=>C δ' | _=>False)
  (hr:∀ s' σ' H' G' δ',Inv (X.wish Ex) pins σ' H' s'->Rep ⟨X.K,κ⟩ B X.H₀ G' H' σ' δ'->C δ'->wpAny (model X.prog X.w) X.A (execs aG X.env) (SP (X.wish Ex) pins Dn) Ex s') :
  wpAny (model X.prog X.w) X.A (execs (.Assign [.Name y p1] (.Dict [] [] p2) p3 :: .For (.Name z p4) (.Name x p5) [.Assign [.Subscript (.Name y p6) (.Name z p7) p8] (.Constant (.bool true) c p9) p10] [] p11 :: aG) X.env) (SP (X.wish Ex) pins Dn) Ex s:=by
 have hz:∃ ds ns,δ[i]?=some (some (.sh (.lst ds)))/\i9 ds=some ns/\ns.length <= 1000000/\C (n9 k ns (δ.set j (some (.sh (.dic (ck ns []) ((ck ns []).map λ _=>.bl true)))))):=by
  unfold me at q
  rcases h:(δ[i]?:Option (Option Sl)) with _ | _ | (d | es | ⟨c',ns',es'⟩)
  ·simp only [h] at q
  ·simp only [h] at q
  ·cases d with
   | lst ds =>
    cases h2:i9 ds with
    | none=>simp only [h,h2] at q
    | some ns =>
     simp only [h,h2] at q
     by_cases h3:ns.length <= 1000000
     ·rw [if_pos h3] at q
      exact ⟨ds,ns,rfl,h2,h3,q⟩
     ·rw [if_neg h3] at q;exact False.elim q
   | _=>simp only [h] at q
  ·simp only [h] at q
  ·simp only [h] at q
 obtain ⟨ds,ns,h1,h2,h3,q⟩:=hz
 have hu1:(X.wish Ex).A.units + 1 < cLine:=by show X.A.units + 1 < cLine;omega
 obtain ⟨vr,e1,d1⟩:=rp.sh i _ h1
 unfold aN at d1
 obtain ⟨a,vs,rfl,sq,dn⟩:=d1
 have hvs:=ky dn h2
 subst hvs
 have s1:=HU (X:=X.wish Ex) (pos:=p3) (pos':=p1) hND hj ly (CQ (X:=X.wish Ex) (pos:=p2)) rfl (.inl (hfn _)) (λ p σ v _=>cx.sg p _)
 have s2:=C8 (X:=X.wish Ex) (pos:=p11) cx.sg hp hc (vh (tg:=.Name z p4) (b0 (X:=X.wish Ex) (pos:=p5) hi vx dx cdx)) (qr (X:=X.wish Ex) (pos:=p4) hND hk lz (.inl (hfn _)) (λ p σ v _=>cx.sg p _)) (vq (Fj (X:=X.wish Ex) (pos:=p10) (pos':=p8) hu1 (b0 (X:=X.wish Ex) (pos:=p6) hj vy dy cdy) (b0 (X:=X.wish Ex) (pos:=p7) hk vz dz cdz) (Gy (X:=X.wish Ex) (b:=true) (j:=c) (pos:=p9)) rfl)) (λ _=>rfl)
 have hlenσ:σ.length=X.N.length:=I.len
 have hil:i < σ.length:=by rw [hlenσ];exact (List.getElem?_eq_some_iff.mp hi).1
 have hjl:j < σ.length:=by rw [hlenσ];exact (List.getElem?_eq_some_iff.mp hj).1
 have hkl:k < σ.length:=by rw [hlenσ];exact (List.getElem?_eq_some_iff.mp hk).1
 refine wpAny_execs_cons (br (s1 pins s σ H { nx:=λ σ1 H1=>∃ p,H p=none/\σ1=σ.set j (some (.ref p))/\H1=upd H p (.dK []),rt:=λ _ _=>False } I (λ p hpn=>⟨p,hpn,rfl,rfl⟩)) λ f s3 q3=>?_)
 cases f with
 | next =>
  obtain ⟨σ1,H1,I1,p,hpn,rfl,rfl⟩:=q3
  have gp:G p=none:=rp.GH.free hpn
  let σn:Nat->St:=λ n=>match (ns.take n).getLast? with
   | none=>σ.set j (some (.ref p))
   | some m=>(σ.set j (some (.ref p))).set k (some (.int m))
  let Hn:Nat->Hp:=λ n=>upd H p (.dK (ph (ck (ns.take n) [])))
  refine wpAny_execs_cons (br (s2 pins s3 _ _ { nx:=λ σ' H'=>σ'=σn ns.length/\H'=Hn ns.length,rt:=λ _ _=>False } I1 ?_) λ f s4 q4=>?_)
  ·have sqH:∀ n,bz X.K (Hn n) a (ns.map V.int):=λ n=>by
    have:aM G (Hn n):=λ b o z=>by
     show upd H p _ b=_
     rw [aq (az z gp)];exact rp.GH b o z
    exact this.seq sq
   have gi:∀ n,(σn n)[i]?=some (some (.ref a)):=λ n=>by
    show (match (ns.take n).getLast? with | none=>σ.set j (some (.ref p)) | some m=>(σ.set j (some (.ref p))).set k (some (.int m)))[i]?=_
    split
    ·rw [List.getElem?_set_ne (Ne.symm hij)];exact e1
    ·rw [List.getElem?_set_ne (Ne.symm hik),List.getElem?_set_ne (Ne.symm hij)];exact e1
   refine ⟨.ref a,gi 0,a,rfl,⟨_,sqH 0⟩,wH (xs:=ns.map V.int) (λ n σ' H'=>σ'=σn n/\H'=Hn n) ⟨rfl,rfl⟩ (λ n σ' H' _ ⟨_,e⟩=>by rw [e];exact sqH n) (λ n w σ' H' hw ⟨ea,eb⟩=>?_) (λ σ' H' ⟨ea,eb⟩=>?_)⟩
   ·subst ea eb
    rw [List.getElem?_map] at hw
    cases hm:ns[n]? with
    | none=>rw [hm] at hw;cases hw
    | some m =>
     rw [hm] at hw
     cases hw
     have et:ns.take (n + 1)=ns.take n++[m]:=by rw [List.take_add_one,hm];rfl
     have hset:(σn n).set k (some (.int m))=σn (n + 1):=by
      show (match (ns.take n).getLast? with | none=>σ.set j (some (.ref p)) | some m=>(σ.set j (some (.ref p))).set k (some (.int m))).set k (some (.int m))=(match (ns.take (n + 1)).getLast? with | none=>σ.set j (some (.ref p)) | some m=>(σ.set j (some (.ref p))).set k (some (.int m)))
      rw [et,List.getLast?_append]
      simp only [List.getLast?_singleton,Option.some_or]
      split
      ·rfl
      ·rw [List.set_set]
     show GE _ _ _ _ ((σn n).set k (some (.int m))) (Hn n)
     rw [hset]
     have gj:(σn (n + 1))[j]?=some (some (.ref p)):=by
      rw [<- hset]
      show ((match (ns.take n).getLast? with | none=>σ.set j (some (.ref p)) | some m=>(σ.set j (some (.ref p))).set k (some (.int m))).set k (some (.int m)))[j]?=_
      rw [List.getElem?_set_ne (Ne.symm hjk)]
      split
      ·exact List.getElem?_set_self hjl
      ·rw [List.getElem?_set_ne (Ne.symm hjk)];exact List.getElem?_set_self hjl
     have gk:(σn (n + 1))[k]?=some (some (.int m)):=by
      rw [<- hset]
      refine List.getElem?_set_self ?_
      show k < (match (ns.take n).getLast? with | none=>σ.set j (some (.ref p)) | some m=>(σ.set j (some (.ref p))).set k (some (.int m))).length
      split <;> simp [hkl]
     refine ⟨.ref p,gj,.int m,gk,p,_,rfl,Bz.k (k:=Sum.inl m) aw ?_,rfl,?_⟩
     ·have:=tz (ns.take n) []
      have hnl:=(List.getElem?_eq_some_iff.mp hm).1
      simp only [ph,List.length_map,List.length_nil,List.length_take] at this ⊢
      rw [sizeLine_eq]
      omega
     ·show upd (upd H p _) p _=upd H p _
      rw [AY,et,rc]
      funext b
      by_cases hb:b=p
      ·subst hb;rw [aw,aw]
      ·rw [aq hb,aq hb,aq hb]
   ·rw [List.length_map] at ea eb
    exact ⟨ea,eb⟩
  ·cases f with
   | next =>
    obtain ⟨σ4,H4,I4,rfl,rfl⟩:=q4
    have ht:ns.take ns.length=ns:=List.take_length
    have ex:=i7 (o:=.dK (ph (ck ns []))) rp.GH hpn
    have r1:=(rp.ext ex).setSh (i:=j) (v:=.ref p) (d:=.dic (ck ns []) ((ck ns []).map λ _=>.bl true)) (by
     unfold aN
     refine ⟨p,(ck ns []).map λ _=>.bl true,rfl,by rw [DR];exact aw,by simp,yb _⟩)
    have eH:Hn ns.length=upd H p (.dK (ph (ck ns []))):=by show upd H p _=_;rw [ht]
    have r2:∃ G',Rep ⟨X.K,κ⟩ B X.H₀ G' (Hn ns.length) (σn ns.length) (n9 k ns (δ.set j (some (.sh (.dic (ck ns []) ((ck ns []).map λ _=>.bl true)))))):=by
     refine ⟨upd G p (.dK (ph (ck ns []))),?_⟩
     rw [eH]
     show Rep _ _ _ _ _ (match (ns.take ns.length).getLast? with | none=>σ.set j (some (.ref p)) | some m=>(σ.set j (some (.ref p))).set k (some (.int m))) _
     rw [ht]
     unfold n9
     cases ns.getLast? with
     | none=>exact r1
     | some m=>exact r1.setSh (by unfold aN;rfl)
    obtain ⟨G',r2⟩:=r2
    exact hr s4 _ _ G' _ I4 r2 q
   | brk=>obtain ⟨_,_,_,z⟩:=q4;exact z.elim
   | cont=>obtain ⟨_,_,_,z⟩:=q4;exact z.elim
   | ret u=>obtain ⟨_,_,_,_,_,z⟩:=q4;exact z.elim
 | brk=>obtain ⟨_,_,_,z⟩:=q3;exact z.elim
 | cont=>obtain ⟨_,_,_,z⟩:=q3;exact z.elim
 | ret u=>obtain ⟨_,_,_,_,_,z⟩:=q3;exact z.elim
theorem D1 (i j k:Nat) (δ:Ev):(∃ δ',me i j k δ=.next δ') \/ me i j k δ=.stuck:=by
 unfold me
 split
 ·split
  ·split
   ·exact .inl ⟨_,rfl⟩
   ·exact .inr rfl
  ·exact .inr rfl
 ·exact .inr rfl
theorem Dr {α:Type} {ρ:kS α} {x y z:Str} {i j k:Nat} {p1 p2 p3 p4 p5 p6 p7 p8 p9 p10 p11:Pos} {aG:List Stmt} {F:Ev->R α} (cx:Cxo X) (hc:X.calm=true) (hu:X.A.units + 64 < cLine) (hND:X.N.Nodup) (hfn:∀ y,X.fn y=true) (hi:X.N[i]?=some x) (vx:kT X.env.scope x) (dx:(x == ("__debug__" : Str))=false) (cdx:(x == ("__classdict__" : Str))=false)
  (hj:X.N[j]?=some y) (ly:mM X.env.scope y) (vy:kT X.env.scope y) (dy:(y == ("__debug__" : Str))=false) (cdy:(y == ("__classdict__" : Str))=false)
  (hk:X.N[k]?=some z) (lz:mM X.env.scope z) (vz:kT X.env.scope z) (dz:(z == ("__debug__" : Str))=false) (cdz:(z == ("__classdict__" : Str))=false) (hij:i ≠ j) (hik:i ≠ k) (hjk:j ≠ k) {c:Nat} (hr:BB κ B X aG ρ F) :
  BB κ B X (.Assign [.Name y p1] (.Dict [] [] p2) p3 :: .For (.Name z p4) (.Name x p5) [.Assign [.Subscript (.Name y p6) (.Name z p7) p8] (.Constant (.bool true) c p9) p10] [] p11 :: aG) ρ (aX (me i j k) F):=λ Ex pins s σ H G δ Dn hp I rp q=>by
 refine B0 (c:=c) (C:=λ δ'=>match F δ' with | .ok r=>∀ v H' G',Hold B X.H₀ G' H'->ρ X.K κ X.H₀ G' H' v r->Dn.rt v H' | _=>False) cx hc hu hND hfn hi vx dx cdx hj ly vy dy cdy hk lz vz dz cdz hij hik hjk hp I rp ?_ λ s' σ' H' G' δ' I' rp' q'=>hr Ex pins s' σ' H' G' δ' Dn hp I' rp' ?_
 ·unfold aX at q
  rcases D1 i j k δ with ⟨δ',z⟩ | z
  ·rw [z] at q ⊢
   dsimp only at q ⊢
   cases zz:F δ' with
   | ok r=>rw [zz] at q;exact q
   | exc c=>rw [zz] at q;exact q
   | stuck=>rw [zz] at q;exact q
  ·rw [z] at q;exact False.elim q
 ·cases zz:F δ' with
  | ok r=>rw [zz] at q';exact q'
  | exc c=>rw [zz] at q';exact q'
  | stuck=>rw [zz] at q';exact q'
end
end L3
namespace L3
open PySem PySem.Spec PyProof.Rows L2
section
variable {X:Cx} {tg:Expr}
end
section
variable {κ:Nat->Addr} {B:Gd} {X:Cx} {tg:Expr}
end
end L3
namespace L3
open PySem PySem.Spec PyProof.Rows L2
structure GrpOk (Z:Zx) (H G' H':Hp) (p:Addr) (gs:List (List D)):Prop where
 fr:H p=none
 gp:G' p=none
 ex:∃ us,H' p=some (.lst us)/\us.length=gs.length/\(gs=[] \/ ∃ gs0 l us0 q ws,gs=gs0++[l]/\us=us0++[.ref q]/\Dens Z G' us0 (gs0.map D.lst)/\H' q=some (.lst ws)/\Dens Z G' ws l/\H q=none/\G' q=none/\q ≠ p)
theorem GrpOk.den {Z:Zx} {G H G' H':Hp} {p:Addr} {gs:List (List D)} (g:GrpOk Z H G' H' p gs) (e:Ext G H G' H'):∃ G2,Ext G H G2 H'/\aN Z G2 (.ref p) (.lst (gs.map D.lst)):=by
 obtain ⟨us,h1,h2,h3⟩:=g.ex
 rcases h3 with rfl | ⟨gs0,l,us0,q,ws,rfl,rfl,d1,hq,d2,f1,f2,f3⟩
 ·have hus:us=[]:=by simpa using h2
  subst hus
  refine ⟨upd G' p (.lst []),c8 e h1 g.gp g.fr,?_⟩
  unfold aN
  exact ⟨p,[],rfl,bz.of aw,bg⟩
 ·have sg:aM G' (upd G' q (.lst ws)):=λ b o z=>by rw [aq (az z f2)];exact z
  have e2:Ext G H (upd G' q (.lst ws)) H':=c8 e hq f2 f1
  have gp2:upd G' q (.lst ws) p=none:=by rw [aq (Ne.symm f3)];exact g.gp
  have sg2:aM (upd G' q (.lst ws)) (upd (upd G' q (.lst ws)) p (.lst (us0++[.ref q]))):=λ b o z=>by rw [aq (az z gp2)];exact z
  refine ⟨_,c8 e2 h1 gp2 g.fr,?_⟩
  unfold aN
  refine ⟨p,_,rfl,bz.of aw,?_⟩
  rw [List.map_append]
  refine ((d1.mono sg).mono sg2).append (aP ?_ bg)
  unfold aN
  exact ⟨q,ws,rfl,bz.of (by rw [aq f3,aw]),(d2.mono sg).mono sg2⟩
section
variable {κ:Nat->Addr} {B:Gd} {X:Cx}
end
end L3
namespace L3
open PySem PySem.Spec PyProof.Rows L2
noncomputable def ρF:kS (List D):=λ K κ H₀ G' H' v ds=>∃ a vs,v=.ref a/\H' a=some (.lst vs)/\G' a=none/\H₀ a=none/\Dens ⟨K,κ⟩ G' vs ds/\Fr H₀ H' vs
theorem DO {K:PySem.W.Frag} {κ:Nat->Addr} {n:Nat} {m:List D->R (List D)}:∀ vs H Q E,GI K κ n ρ1 m vs H Q E->GI K κ n ρF m vs H Q E:=λ vs H Q E h=>by
 obtain ⟨hl,G,ds,sm,dn,q⟩:=h
 refine ⟨hl,G,ds,sm,dn,?_⟩
 cases z:m ds with
 | ok l =>
  rw [z] at q
  rintro v H' G' e1 ⟨a,ws,e2,h1,h2,h3,h4,_⟩
  exact q v H' G' e1 ⟨a,ws,e2,h1,h2,h3,h4⟩
 | exc c=>rw [z] at q;exact q
 | stuck=>rw [z] at q;exact q
theorem iX.toR1 {P:Program} {w:World} {K:PySem.W.Frag} {mg:Str->Option Value} {base:Heap} {κ:Nat->Addr} {x:Str} {ps:List Str} {m:List D->R (List D)} {k:Nat} (h:iX P w K mg base κ x ps ρF m k):iX P w K mg base κ x ps ρ1 m k:=by
 obtain ⟨f,fd,F,r⟩:=h
 exact ⟨f,fd,F.imp DO,r⟩
noncomputable def wD (X:Cx) (κ:Nat->Addr) (E:XK) (G H:Hp) (r:R (List D)) (Q:VK):Prop:=match r with
 | .ok ds=>∀ a vs H' G',Ext G H G' H'->H' a=some (.lst vs)->G' a=none->H a=none->Dens ⟨X.K,κ⟩ G' vs ds->Fr H H' vs->Q (.ref a) H'
 | .exc c=>∀ H' G',Ext G H G' H'->E (.ref (κ c)) none H'
 | .stuck=>False
noncomputable def GO (κ:Nat->Addr) (B:Gd) (X:Cx) (e:Expr) (f:Ev->R (List D)):Prop:=∀ pins σ Ex,PE (At X pins σ Ex) e (λ τ H Q=>∃ G δ,Rep ⟨X.K,κ⟩ B X.H₀ G H τ δ/\wD X κ (EX X pins σ Ex) G H (f δ) Q)
section
variable {κ:Nat->Addr} {B:Gd} {X:Cx} {e c a:Expr} {es:List Expr} {f:Ev->R D} {fl fs:Ev->R (List D)} {pos pos' pos'' apos p:Pos} {x:Str} {m:List D->R (List D)} {n:Nat}
theorem wD.pre {E:XK} {G H G' H':Hp} {r:R (List D)} {Q:VK} (e:Ext G H G' H') (h:wD X κ E G H r Q):wD X κ E G' H' r Q:=by
 cases r with
 | ok d=>exact λ a vs H2 G2 e2 h1 h2 h3 h4 h5=>h a vs H2 G2 (e.trans e2) h1 h2 (e.sH.free h3) h4 (h5.base λ b hb z=>hb (e.sH.free z))
 | exc c=>exact λ H2 G2 e2=>h H2 G2 (e.trans e2)
 | stuck=>exact h
theorem Dc (cx:Cxo X) (C:CalR κ X x n ρF m) (hn:(a :: es).length=n) (hg:Gl X x) (ha:r9 κ B X (a :: es) fs) (hdb:(x == ("__debug__" : Str))=false) (h:(a :: es).all aA=true)
  (hlen:∀ δ ds,fs δ=.ok ds->ds.length=n):GO κ B X (.Call (.Name x p) (a :: es) [] pos) (λ δ=>(fs δ).bind m):=λ pins σ Ex=>by
 have h':=h
 simp only [List.all_cons,Bool.and_eq_true] at h'
 obtain ⟨f,fd,ps,k,F,hr,hm,hk,hb⟩:=C.ex
 refine be (kJ (X:=At X pins σ Ex) (E:=EX X pins σ Ex) F hr hg hm hk hb .nil (fL cx) (ha pins σ Ex) hdb (aB h'.1) (eD h'.2)) λ τ H Q hz=>eQ hz λ G δ rp q=>⟨G,δ,rp,?_⟩
 dsimp only at q
 cases e:fs δ with
 | ok ds =>
  rw [e] at q
  intro v H1 G1 e1 d1
  rw [List.append_nil]
  refine ⟨by rw [Dens.length d1,hlen δ ds e],G1,ds,e1.GH,d1,?_⟩
  have q':=wD.pre e1 q
  simp only [R.bind_ok] at q'
  cases z:m ds with
  | ok l =>
   rw [z] at q'
   rintro v' H' G' e2 ⟨b,ws,rfl,h1,h2,h3,h4,h5⟩
   exact q' b ws H' G' e2 h1 h2 h3 h4 h5
  | exc c=>rw [z] at q';exact q'
  | stuck=>rw [z] at q';exact q'
 | exc c=>rw [e] at q;exact q
 | stuck=>rw [e] at q;exact q
theorem HR (h:GO κ B X e fl):PR κ B X e ρF fl:=λ pins σ Ex=>be (h pins σ Ex) λ τ H Q hz=>eQ hz λ G δ rp q=>⟨G,δ,rp,by
 cases z:fl δ with
 | ok ds =>
  rw [z] at q
  intro a vs H' G' e1 h1 h2 h3 h4 h5
  refine q _ H' G' (rp.toHold.ext e1) ⟨a,vs,rfl,h1,h2,?_,h4,h5.base rp.there⟩
  cases q0:X.H₀ a with
  | none=>rfl
  | some o=>exact absurd h3 (rp.there a (by rw [q0];simp))
 | exc c=>rw [z] at q;exact False.elim q
 | stuck=>rw [z] at q;exact False.elim q⟩
theorem AZ {sc:Scope} {N0 xs:List Str} {tg iter elt:Expr} {ifs:List Expr} {fit:Ev->R (List D)} {bd:D->Ev->Option Ev} {t:Ev->R Bool} (hc:X.calm=true) (co:CompOkG X sc N0 xs) (hi:r8 κ B X tg iter fit) (hbd:BdOk X.N.length xs.length bd)
  (hg:∀ X' B',CmpIsG X sc (N0++xs) X'->xP κ B' X' tg bd) (ht:∀ X' B',CmpIsG X sc (N0++xs) X'->Eg κ B' X' ifs t) (he:∀ X' B',CmpIsG X sc (N0++xs) X'->xQ κ B' X' elt fl)
  (hs:vW iter=true):GO κ B X (.ListComp elt [⟨tg,iter,ifs,0⟩] sc pos) (bj xs.length fit bd t (mL fl)):=by
 rintro pins σ Ex pins' s τ H Q I ⟨G,δ,rp,q⟩
 obtain ⟨rfl,rfl⟩:=I.sgm
 show wpAny (model X.prog X.w) X.A (eval (.ListComp elt [⟨tg,iter,ifs,0⟩] sc pos) X.env) _ Ex s
 rw [eval_ListComp]
 refine mX (ψ:=true) (use:=none) hc co hi hbd (λ _ _ _ _ _ _=>hg _ _ gQ) (λ _ _ _ _ _ _=>ht _ _ gQ) (λ _ _ _ _ _ _=>(he _ _ gQ).n) (kD hs) I rp ?_
 cases e:bj xs.length fit bd t (mL fl) δ with
 | ok l =>
  rw [e] at q
  rintro Da C s1 ⟨sb,Hb,cl,E',σ',H3,G3,vs,Ib,hCb,J,ex,h1,h2,h3,h4,h5⟩
  obtain ⟨mm,hnn,_⟩:=J.loc
  exact ⟨mm,hnn,λ h' sbt=>⟨.ref Da,H3,mW (X:=At X pins' τ Ex) (sc:=sc) (cl:=cl) (E:=E') Ib J hCb sbt,rfl,q Da vs H3 G3 ex h1 h2 h3 h4 (h5 rfl)⟩⟩
 | exc c=>rw [e] at q;exact q
 | stuck=>rw [e] at q;exact q
end
noncomputable def FJ (i:Nat) (H₀:Hp) (σ:St) (H:Hp):Prop:=∃ a vs,σ[i]?=some (some (V.ref a))/\H a=some (.lst vs)/\Fr H₀ H vs
theorem FJ.same {i:Nat} {H₀ H H':Hp} {σ:St} (s:aM H H') (h:FJ i H₀ σ H):FJ i H₀ σ H':=by
 obtain ⟨a,vs,e1,e2,e3⟩:=h
 exact ⟨a,vs,e1,s _ _ e2,e3.same s⟩
theorem FJ.set {i j:Nat} {H₀ H:Hp} {σ:St} {o:Option V} (n:i ≠ j) (h:FJ i H₀ σ H):FJ i H₀ (σ.set j o) H:=by
 obtain ⟨a,vs,e1,e2,e3⟩:=h
 exact ⟨a,vs,by rw [List.getElem?_set_ne (Ne.symm n)];exact e1,e2,e3⟩
noncomputable def lC (i:Nat) (κ:Nat->Addr) (B:Gd) (X:Cx) (Ex:Value->Shared->Prop) (pins:List (Addr × Obj)) (Dn:Ends) (r:SR):Prop:=match r with
 | .next δ'=>∀ σ' H' G',Rep ⟨X.K,κ⟩ B X.H₀ G' H' σ' δ'->FJ i X.H₀ σ' H'->Dn.nx σ' H'
 | .exc c δ'=>∀ ea s' σ' H' G',Inv (X.wish Ex) pins σ' H' s'->Flies X pins H' s' ea (.ref (κ c))->Rep ⟨X.K,κ⟩ B X.H₀ G' H' σ' δ'->Ex (.ref ea) s'
 | _=>False
noncomputable def GP (i:Nat) (κ:Nat->Addr) (B:Gd) (X:Cx) (st:Stmt) (F:Ev->SR):Prop:=∀ Ex pins s σ H G δ Dn,PassesOwn (model X.prog X.w) X.A X.env Ex->Inv (X.wish Ex) pins σ H s->Rep ⟨X.K,κ⟩ B X.H₀ G H σ δ->FJ i X.H₀ σ H->lC i κ B X Ex pins Dn (F δ) →
 wpAny (model X.prog X.w) X.A (exec st X.env) (SP (X.wish Ex) pins Dn) Ex s
noncomputable def BE (i:Nat) (κ:Nat->Addr) (B:Gd) (X:Cx) (st:List Stmt) (F:Ev->SR):Prop:=∀ Ex pins s σ H G δ Dn,PassesOwn (model X.prog X.w) X.A X.env Ex->Inv (X.wish Ex) pins σ H s->Rep ⟨X.K,κ⟩ B X.H₀ G H σ δ->FJ i X.H₀ σ H->lC i κ B X Ex pins Dn (F δ) →
 wpAny (model X.prog X.w) X.A (execs st X.env) (SP (X.wish Ex) pins Dn) Ex s
noncomputable def BD (i:Nat) (κ:Nat->Addr) (B:Gd) (X:Cx) (st:List Stmt) (F:Ev->R (List D)):Prop:=∀ Ex pins s σ H G δ Dn,PassesOwn (model X.prog X.w) X.A X.env Ex->Inv (X.wish Ex) pins σ H s->Rep ⟨X.K,κ⟩ B X.H₀ G H σ δ->FJ i X.H₀ σ H->(match F δ with
 | .ok r=>∀ v H' G',Hold B X.H₀ G' H'->ρF X.K κ X.H₀ G' H' v r->Dn.rt v H'
 | _=>False)->wpAny (model X.prog X.w) X.A (execs st X.env) (SP (X.wish Ex) pins Dn) Ex s
section
variable {i:Nat} {κ:Nat->Addr} {B:Gd} {X:Cx} {e c a:Expr} {es:List Expr} {f:Ev->R D} {fl fs:Ev->R (List D)} {pos pos' pos'' apos p:Pos} {x:Str}
theorem Du {st:Stmt} {F:Ev->SR} (h1:GP i κ B X st F):BE i κ B X [st] F:=λ Ex pins s σ H G δ Dn hp I rp fj h=>by
 refine wpAny_execs_cons (br (h1 Ex pins s σ H G δ Dn hp I rp fj h) λ f s1 q=>?_)
 cases f with
 | next=>exact wpAny_execs_nil q
 | ret v=>exact q
 | brk=>exact q
 | cont=>exact q
theorem A5 {st:Stmt} {aG:List Stmt} {F1:Ev->SR} {F2:Ev->R (List D)} (h1:GP i κ B X st F1) (h2:BD i κ B X aG F2):BD i κ B X (st :: aG) (aX F1 F2):=λ Ex pins s σ H G δ Dn hp I rp fj h=>by
 refine wpAny_execs_cons (br (h1 Ex pins s σ H G δ { nx:=λ σ' H'=>∃ G' δ',Rep ⟨X.K,κ⟩ B X.H₀ G' H' σ' δ'/\FJ i X.H₀ σ' H'/\(match F2 δ' with | .ok r=>∀ v H' G',Hold B X.H₀ G' H'->ρF X.K κ X.H₀ G' H' v r->Dn.rt v H' | _=>False),rt:=λ _ _=>False } hp I rp fj ?_) λ f s1 q=>?_)
 ·unfold aX at h
  cases q:F1 δ with
  | next δ'=>rw [q] at h;exact λ σ' H' G' r j=>⟨G',δ',r,j,h⟩
  | brk δ'=>rw [q] at h;exact False.elim h
  | cont δ'=>rw [q] at h;exact False.elim h
  | ret d=>rw [q] at h;exact False.elim h
  | exc c δ'=>rw [q] at h;exact False.elim h
  | stuck=>rw [q] at h;exact False.elim h
 ·cases f with
  | next =>
   obtain ⟨σ',H',I',G',δ',r,j,q⟩:=q
   exact h2 Ex pins s1 σ' H' G' δ' Dn hp I' r j q
  | ret v=>obtain ⟨_,_,_,_,_,q⟩:=q;exact False.elim q
  | brk=>obtain ⟨_,_,_,q⟩:=q;exact False.elim q
  | cont=>obtain ⟨_,_,_,q⟩:=q;exact False.elim q
theorem Ds (cx:Cxo X) (hN:X.N[i]?=some x) (hv:kT X.env.scope x) (hd:(x == ("__debug__" : Str))=false) (hcd:(x == ("__classdict__" : Str))=false):BD i κ B X [.Return (some (.Name x p)) pos] (gP i):=λ Ex pins s σ H G δ Dn hp I rp fj q=>by
 refine wpAny_execs_cons (wpAny_Return_some (br (b0 (X:=At X pins σ Ex) (pos:=p) hN hv hd hcd pins s σ H (λ v H'=>Dn.rt v H') (bq I) ?_) λ v s1 ⟨y,H',I',r,q⟩=>?_))
 ·unfold gP at q
  cases e:δ[i]? with
  | none=>rw [e] at q;exact q.elim
  | some o =>
   cases o with
   | none=>rw [e] at q;exact q.elim
   | some o =>
    cases o with
    | sh d=>rw [e] at q;exact q.elim
    | oo c ns ds=>rw [e] at q;exact q.elim
    | ow ds =>
     rw [e] at q
     obtain ⟨a,vs,x1,x2,x3,x4,x5⟩:=rp.ow i _ e
     obtain ⟨a',vs',y1,y2,y3⟩:=fj
     rw [x1] at y1
     cases y1
     rw [x2] at y2
     cases y2
     exact ⟨.ref a,x1,q _ H G rp.toHold ⟨a,vs,rfl,x2,x4,x5,x3,y3⟩⟩
 ·exact ⟨y,σ,H',aH cx.sg I',r,q⟩
theorem A4 (cx:Cxo X) {aG:List Stmt} {F2:Ev->R (List D)} (hN:X.N.Nodup) (hi:X.N[i]?=some x) (hx:mM X.env.scope x) (hf:X.fn x=true \/ X.env.scope.names.lookup x=some .local)
  (hs:swapsWith (.List [] p) (some (.Name x pos')) pos.line X.env=pure false) (h2:BD i κ B X aG F2):BB κ B X (.Assign [.Name x pos'] (.List [] p) pos :: aG) ρF (aX (dM i (λ δ=>lim (au δ))) F2):=λ Ex pins s σ H G δ Dn hp I rp q=>by
 have eq0:aX (dM i (λ δ=>lim (au δ))) F2 δ=F2 (δ.set i (some (.ow []))):=by simp [aX,dM,lim,au]
 rw [eq0] at q
 refine wpAny_execs_cons (wpAny_Assign_Name (br (zN (κ:=κ) (B:=B) (pos:=p) vw pins σ Ex pins s σ H (λ v H'=>∃ a vs G',v=.ref a/\Ext G H G' H'/\H' a=some (.lst vs)/\G' a=none/\H a=none/\Dens ⟨X.K,κ⟩ G' vs []) (bq I) ⟨G,δ,rp,?_⟩)
  λ v s1 ⟨y,H',I',r,a,vs,G',e0,e1,h1,h3,h4,h5⟩=>?_) hs)
 ·exact λ a vs H' G' e1 h1 h2 h3 h4=>⟨a,vs,G',rfl,e1,h1,h2,h3,h4⟩
 ·subst e0
  have hv:vs=[]:=List.length_eq_zero_iff.mp h5.length
  subst hv
  have rp':=rp.ext e1
  refine cD (X:=X.wish Ex) (aH cx.sg I') hN hi hx r (λ s2 I2=>?_) hf (λ p σ v _=>cx.sg p _)
  refine h2 Ex pins s2 _ H' G' (δ.set i (some (.ow []))) Dn hp I2 (rp'.setOw h1 h5 h3 ?_ λ j es z n z2=>?_) ⟨a,[],?_,h1,Fr.nil⟩ ?_
  ·cases q0:X.H₀ a with
   | none=>rfl
   | some o=>exact absurd h4 (rp.there a (by rw [q0];simp))
  ·obtain ⟨b,us,y1,y2,_⟩:=rp.ow j es z
   rw [y1] at z2
   cases z2
   rw [h4] at y2;cases y2
  ·have hl:i < X.N.length:=by
    by_cases c:i < X.N.length
    ·exact c
    ·rw [List.getElem?_eq_none (by omega)] at hi;cases hi
   exact List.getElem?_set_self (by have:=I.len;show i < σ.length;rw [show σ.length=X.N.length from this];exact hl)
  ·cases z:F2 (δ.set i (some (.ow []))) with
   | ok r=>rw [z] at q;exact q
   | exc c=>rw [z] at q;exact q
   | stuck=>rw [z] at q;exact q
theorem IH (cx:Cxo X) {t:Ev->R Bool} {s1 s2:List Stmt} {F1 F2:Ev->SR} (hc:mO κ B X c t) (h1:BE i κ B X s1 F1) (h2:BE i κ B X s2 F2):GP i κ B X (.If c s1 s2 pos) (fN t F1 F2):=λ Ex pins s σ H G δ Dn hp I rp fj q=>by
 refine wpAny_If (br (hc pins σ Ex pins s σ H (λ v H'=>∃ G',Rep ⟨X.K,κ⟩ B X.H₀ G' H' σ δ/\aM H H'/\lC i κ B X Ex pins Dn (if v then F1 δ else F2 δ)) (bq I) ⟨G,δ,rp,?_⟩) λ d s1 ⟨H',I',G',rp',sm,q⟩=>?_)
 ·unfold fN at q
  cases e:t δ with
  | ok d =>
   rw [e] at q
   intro v H' G' e1 d1
   cases d1
   exact ⟨G',rp.ext e1,e1.sH,q⟩
  | exc c=>rw [e] at q;exact λ H' G' e1 ea s' I' F=>q ea s' σ H' G' I' F (rp.ext e1)
  | stuck=>rw [e] at q;exact q
 ·have I':=aH cx.sg I'
  cases d with
  | true=>exact h1 Ex pins s1 σ H' G' δ Dn hp I' rp' (fj.same sm) q
  | false=>exact h2 Ex pins s1 σ H' G' δ Dn hp I' rp' (fj.same sm) q
theorem yQ (cx:Cxo X) (hN:X.N[i]?=some x) (hv:kT X.env.scope x) (hd:(x == ("__debug__" : Str))=false) (hcd:(x == ("__classdict__" : Str))=false) (h:xQ κ B X e fl) (hs:aA e=true) (hline:(apos.endLine == pos'.line)=true) :
  GP i κ B X (.Expr (.Call (.Attribute (.Name x pos) "append" apos) [e] [] pos') pos'') (cF i (mL fl)):=λ Ex pins s σ H G δ Dn hp I rp fj q=>by
 unfold cF at q
 split at q
 ·rename_i ds ed
  obtain ⟨a,vs,x1,x2,x3,x4,x5⟩:=rp.ow i ds ed
  obtain ⟨a',vs',y1,y2,y3⟩:=fj
  rw [x1] at y1
  cases y1
  rw [x2] at y2
  cases y2
  have pe:=rC (X:=At X pins σ Ex) PySem.F.plainAttrs_list PySem.F.slot_list_append PySem.F.type_list_append fI (b0 (X:=At X pins σ Ex) (pos:=pos) hN hv hd hcd) (bw (X:=At X pins σ Ex) (h pins σ Ex) cA (aB hs)) rfl (qE hs) hline (aB hs) rfl
  refine wpAny_Expr_any (br (pe pins s σ H (λ _ H'=>∃ G' δ',Rep ⟨X.K,κ⟩ B X.H₀ G' H' σ δ'/\FJ i X.H₀ σ H'/\lC i κ B X Ex pins Dn (.next δ')) (bq I) ⟨.ref a,x1,.inl ⟨rfl,vs,bz.of x2⟩,G,δ,rp,?_⟩) (by rintro v s1 ⟨y,H',I',r,G',δ',rp',fj',q⟩;exact ⟨σ,H',aH cx.sg I',q σ H' G' rp' fj'⟩)) I.quiet (aZ rfl)
  unfold mL at q
  cases e:fl δ with
  | ok ks =>
   rw [e] at q
   simp only [R.bind_ok,eC] at q
   intro b ws H1 G1 e1 g1 g2 g3 g4
   split at q
   ·rename_i hl
    have e2:=c8 e1 g1 g2 g3
    have sg:aM G1 (upd G1 b (.lst ws)):=λ b' o z=>by rw [aq (az z g2)];exact z
    have dy:aN ⟨X.K,κ⟩ (upd G1 b (.lst ws)) (.ref b) (.lst ks):=by unfold aN;exact ⟨b,ws,rfl,bz.of aw,g4.mono sg⟩
    have rp1:=rp.ext e2
    refine ⟨a,vs,.ref b,rfl,rfl,e2.sH _ _ x2,?_,_,_,rp1.updOw ed x1 ((x3.mono e2.sG).append (aP dy bg)),⟨a,_,x1,aw,Fr.upd ((y3.same e1.sH).snoc ⟨b,ws,rfl,g1,?_⟩)⟩,q⟩
    ·have:=x3.length
     rw [sizeLine_eq]
     omega
    ·cases q0:X.H₀ b with
     | none=>rfl
     | some o=>exact absurd g3 (rp.there b (by rw [q0];simp))
   ·exact False.elim q
  | exc c =>
   rw [e] at q
   exact λ H' G' e1 ea s' I' F=>q ea s' σ H' G' I' F (rp.ext e1)
  | stuck=>rw [e] at q;exact q
 ·exact False.elim q
theorem xo (cx:Cxo X) (hN:X.N[i]?=some x) (hv:kT X.env.scope x) (hd:(x == ("__debug__" : Str))=false) (hcd:(x == ("__classdict__" : Str))=false) (hline:(apos.endLine == pos'.line)=true) :
  GP i κ B X (.Expr (.Call (.Attribute (.Name x pos) "reverse" apos) [] [] pos') pos'') (sM i):=λ Ex pins s σ H G δ Dn hp I rp fj q=>by
 unfold sM at q
 split at q
 ·rename_i ds ed
  obtain ⟨a,vs,x1,x2,x3,x4,x5⟩:=rp.ow i ds ed
  obtain ⟨a',vs',y1,y2,y3⟩:=fj
  rw [x1] at y1
  cases y1
  rw [x2] at y2
  cases y2
  have pe:=vf (X:=At X pins σ Ex) PySem.F.plainAttrs_list PySem.F.slot_list_reverse PySem.F.type_list_reverse nq (b0 (X:=At X pins σ Ex) (pos:=pos) hN hv hd hcd) rfl hline
  refine wpAny_Expr_any (br (pe pins s σ H (λ _ H'=>∃ G' δ',Rep ⟨X.K,κ⟩ B X.H₀ G' H' σ δ'/\FJ i X.H₀ σ H'/\lC i κ B X Ex pins Dn (.next δ')) (bq I) ⟨.ref a,x1,.inl ⟨rfl,vs,bz.of x2⟩,?_⟩) (by rintro v s1 ⟨y,H',I',r,G',δ',rp',fj',q⟩;exact ⟨σ,H',aH cx.sg I',q σ H' G' rp' fj'⟩)) I.quiet (aZ rfl)
  exact ⟨a,vs,rfl,rfl,x2,G,_,rp.updOw ed x1 (Dens.rev x3),⟨a,_,x1,aw,Fr.upd y3.rev⟩,q⟩
 ·exact False.elim q
theorem FB (cx:Cxo X) (hc:X.calm=true) {j:Nat} {y:Str} {py:Pos} {iter:Expr} {body:List Stmt} {fit:Ev->R (List D)} {F:Ev->SR} (hij:i ≠ j) (hN:X.N.Nodup) (hj:X.N[j]?=some y) (hy:mM X.env.scope y) (hf:X.fn y=true \/ X.env.scope.names.lookup y=some .local) (hi:Gm κ B X (.Name y py) iter fit) (hb:∀ B,BE i κ B X body F)
  (hs:∀ x,foldedSetIterable iter X.env x=pure x) (hno:∀ δ,(∃ δ',F δ=.cont δ') \/ (∃ δ',F δ=.brk δ')->False):GP i κ B X (.For (.Name y py) iter body [] pos) (cG fit (bN j) F):=λ Ex pins s σ H G δ Dn hp I rp fj h=>by
 have hsgA:∀ p τ,(X.wish Ex).sg p τ:=cx.sg
 refine wpAny_For (br (hi pins σ Ex pins s σ H (λ J H'=>∃ G' ds,Rep ⟨X.K,κ⟩ B X.H₀ G' H' σ δ/\aM H H'/\vZ X κ J G' ds/\lC i κ B X Ex pins Dn (cu (bN j) F ds δ)) (bq I) ⟨G,δ,rp,?_⟩) λ v s1 h1=>br h1 λ itv s2 h2=>?_) hs
 ·unfold cG at h
  cases q:fit δ with
  | ok ds=>rw [q] at h;exact λ J H' G' e1 d1=>⟨G',ds,rp.ext e1,e1.sH,d1,h⟩
  | exc c=>rw [q] at h;exact λ H' G' e1 ea s' I' F'=>h ea s' σ H' G' I' F' (rp.ext e1)
  | stuck=>rw [q] at h;exact h
 obtain ⟨it,fp,tn,J,H2,e,I2,T,st2,f2,G2,ds,rp2,sm2,hJ,q2⟩:=h2
 subst e
 have I2':=aH cx.sg I2
 obtain ⟨vs,dvs,hJ⟩:=hJ
 have hlen:=dvs.length
 have stat:∀ {H':Hp},(∀ b∈fp,H' b=none)->∀ b∈fp,uc (X.wish Ex) pins H' b:=λ hn b hb=>⟨hn b hb,(f2 b hb).2⟩
 refine codeAny_forLoop_any (λ n s'=>∃ k σ' H' G' δ',Inv (X.wish Ex) pins σ' H' s'/\tn k s'.heap/\(∀ b∈fp,H' b=none)/\n=ds.length - k/\k <= ds.length/\Rep ⟨X.K,κ⟩ ⟨G2,B.m⟩ X.H₀ G' H' σ' δ'/\FJ i X.H₀ σ' H'/\lC i κ B X Ex pins Dn (cu (bN j) F (ds.drop k) δ')) ?_ ds.length
  ⟨0,σ,H2,G2,δ,I2',st2,λ b hb=>(f2 b hb).1,rfl,Nat.zero_le _,rp2.raise,fj.same sm2,q2⟩
 rintro n s3 ⟨k,σ3,H3,G3,δ3,I3,st3,fr3,rfl,hi3,rp3,fj3,q3⟩
 have low:∀ {G' H':Hp} {σ':St} {δ':Ev},Rep ⟨X.K,κ⟩ ⟨G2,B.m⟩ X.H₀ G' H' σ' δ'->Rep ⟨X.K,κ⟩ B X.H₀ G' H' σ' δ':=λ r=>r.lower rp2.gG rp2.lent
 have same3:aM G2 H3:=rp3.gG.trans rp3.GH
 by_cases hlt:k < ds.length
 ·obtain ⟨go,yl⟩:=(hJ H3 same3 k).1 (by omega)
  refine wpAny_passesOwn hp (br (T.item (X.wish Ex) rfl rfl rfl hc k pins s3 σ3 H3 Ex I3 (stat fr3) st3 go) λ r s4 ⟨u,hr,h4⟩=>?_)
  subst hr
  refine wpAny_passesOwn hp (br h4 λ _ s5 ⟨x,H5,I5,r5,y5,st5,fr5⟩=>?_)
  obtain ⟨e5,vx⟩:=yl x H5 y5
  subst e5
  have I5':=Inv.pinned hsgA I5 (stat fr5) (T.obj _ _ st5)
  obtain ⟨dx,hdx⟩:∃ d,ds[k]?=some d:=⟨ds[k],by simp [hlt]⟩
  have dd:aN ⟨X.K,κ⟩ G3 x dx:=by
   obtain ⟨v',e1,e2⟩:=dvs.get hdx
   rw [vx] at e1;cases e1
   exact e2.mono rp3.gG
  have hdrop:ds.drop k=dx :: ds.drop (k + 1):=by
   rw [List.drop_eq_getElem_cons hlt]
   simp [hlt] at hdx
   rw [hdx]
  rw [hdrop] at q3
  unfold cu at q3
  have eb:bN j dx δ3=some (δ3.set j (some (.sh dx))):=rfl
  rw [eb] at q3
  refine wpAny_passesOwn hp (br (qr (X:=X.wish Ex) (pos:=py) hN hj hy hf (λ p σ v _=>cx.sg p _) _ s5 σ3 _ x u (λ σ' H'=>H'=H5/\Rep ⟨X.K,κ⟩ ⟨G2,B.m⟩ X.H₀ G3 H5 σ' (δ3.set j (some (.sh dx)))/\FJ i X.H₀ σ' H5) I5' r5 ⟨rfl,rp3.setSh dd,fj3.set hij⟩) λ _ s6 ⟨σ6,H6,I6,e6,rp6,fj6⟩=>?_)
  subst e6
  generalize δ3.set j (some (.sh dx))=δ4 at q3 rp6
  refine wpAny_passesOwn hp (br (hb ⟨G2,B.m⟩ Ex _ s6 σ6 _ G3 δ4 { nx:=λ σ' H'=>∃ G' δ',Rep ⟨X.K,κ⟩ ⟨G2,B.m⟩ X.H₀ G' H' σ' δ'/\FJ i X.H₀ σ' H'/\lC i κ B X Ex pins Dn (cu (bN j) F (ds.drop (k + 1)) δ'),rt:=λ _ _=>False } hp I6 rp6 fj6 ?_) λ fl s7 q7=>?_)
  ·cases ef:F δ4 with
   | next δ5=>simp only [ef] at q3;exact λ σ' H' G' r j=>⟨G',δ5,r,j,q3⟩
   | cont δ5=>simp only [ef] at q3 ⊢;exact (hno δ4 (.inl ⟨δ5,ef⟩)).elim
   | brk δ5=>simp only [ef] at q3 ⊢;exact (hno δ4 (.inr ⟨δ5,ef⟩)).elim
   | ret d=>simp only [ef] at q3;exact q3
   | exc c δ5=>simp only [ef] at q3;exact λ ea s' σ' H' G' I' F' r=>q3 ea s' σ' H' G' (Inv.unpinned hsgA I') (qX F') (low r)
   | stuck=>simp only [ef] at q3;exact q3
  ·cases fl with
   | next =>
    obtain ⟨σ7,H7,I7,G7,δ7,r7,j7,n7⟩:=q7
    refine ⟨ds.length - (k + 1),by omega,k + 1,σ7,H7,G7,δ7,Inv.unpinned hsgA I7,T.keep _ _ _ st5 λ b hb o e=>(I7.pin (b,o) (List.mem_append_right _ (List.mem_append_right _ (dA hb e)))).1,λ b hb=>?_,rfl,hlt,r7,j7,n7⟩
    obtain ⟨o,e,d⟩:=T.obj _ _ st5 b hb
    exact (I7.pin (b,o) (List.mem_append_right _ (List.mem_append_right _ (dA hb e)))).2.1
   | cont=>obtain ⟨σ7,H7,I7,q7⟩:=q7;exact q7.elim
   | brk=>obtain ⟨σ7,H7,I7,q7⟩:=q7;exact q7.elim
   | ret v=>obtain ⟨x7,σ7,H7,I7,r7,q7⟩:=q7;exact q7.elim
 ·have hie:k=ds.length:=by omega
  refine wpAny_passesOwn hp (br (T.done (X.wish Ex) rfl rfl rfl hc k pins s3 σ3 H3 Ex I3 (stat fr3) st3 ((hJ H3 same3 k).2 (by omega))) λ r s4 ⟨hr,I4⟩=>?_)
  subst hr
  rw [hie,List.drop_length] at q3
  exact wpAny_execs_nil ⟨σ3,H3,I4,q3 σ3 H3 G3 (low rp3) fj3⟩
end
end L3
namespace L3
open PySem PySem.Spec PyProof.Rows L2
noncomputable def KA:Sp:=λ vs H Q _=>∃ a us,vs=[V.ref a]/\H a=some (.lst us)/\us.length < 1000/\(∀ u∈us,∃ q ws,u=V.ref q/\q ≠ a/\H q=some (.lst ws)/\ws.length < 1000) ∧
 ∀ H',(∀ b o,H b=some o->b ≠ a->V.ref b ∉ us->H' b=some o)->(∀ b,H b ≠ none->H' b ≠ none)->Q .non H'
section
variable {X:Cx} {x y:Str} {c d:Int}
noncomputable def vU (K:PySem.W.Frag) (c d:Int):TS:=IY (Kc (Cj K (xI 0)) (Ce 1) (IY (tP (KB K "list" qv (xI 1) (tN (tC (.int c)) Br))) (tP (Ka K "list" xu (xI 1))))) (tP (KB K "list" qv (xI 0) (tN (IX (tN (tC (.int d)) Br)) Br)))
theorem AX {pr pt p1 a1 p2 p3 p4 p5 a5 p6 p7 p8 q1 a2 q2 q3 q4 q5:Pos} {j1 j2} (hsgA:∀ p σ,X.sg p σ) (hp:PassesOwn (model X.prog X.w) X.A X.env X.xe) (hc:X.calm=true) (hND:X.N.Nodup) (h0:X.N[0]?=some x) (h1:X.N[1]?=some y) (v0:kT X.env.scope x) (v1:kT X.env.scope y) (l1:mM X.env.scope y) (f1:X.fn y=true)
  (dx:(x == ("__debug__" : Str))=false) (cx:(x == ("__classdict__" : Str))=false) (dy:(y == ("__debug__" : Str))=false) (cy:(y == ("__classdict__" : Str))=false) (e1:(a1.endLine == p3.line)=true) (e2:(a5.endLine == p6.line)=true) (e3:(a2.endLine == q4.line)=true) :
  GN X [.For (.Name y pr) (.Name x pt) [.Expr (.Call (.Attribute (.Name y p1) "append" a1) [.Constant (.int c) j1 p2] [] p3) p4,.Expr (.Call (.Attribute (.Name y p5) "reverse" a5) [] [] p6) p7] [] p8,
   .Expr (.Call (.Attribute (.Name x q1) "append" a2) [.List [.Constant (.int d) j2 q2] q3] [] q4) q5] (vU X.K c d):=by
 refine xk (C8 hsgA hp hc (vh (b0 (i:=0) h0 v0 dx cx)) (qr (i:=1) hND h1 l1 (.inl f1) (λ _ _ _ _=>hsgA _ _)) (xk (vo ?_ (aZ rfl)) (vq (vo ?_ (aZ rfl)))) (kD rfl)) (vq (vo ?_ (aZ rfl)))
 ·exact rC PySem.F.plainAttrs_list PySem.F.slot_list_append PySem.F.type_list_append fI (b0 (i:=1) h1 v1 dy cy) (bw o3 cA) rfl rfl e1 rfl rfl
 ·exact vf PySem.F.plainAttrs_list PySem.F.slot_list_reverse PySem.F.type_list_reverse nq (b0 (i:=1) h1 v1 dy cy) rfl e2
 ·exact rC PySem.F.plainAttrs_list PySem.F.slot_list_append PySem.F.type_list_append fI (b0 (i:=0) h0 v0 dx cx) (bw (yJ (bw o3 cA)) cA) rfl rfl e3 rfl rfl
theorem xG {K:PySem.W.Frag} {N:List Str} {vs:List V} {H:Hp} {Q:VK} {E:XK} (hN:N.length=2) (h:KA vs H Q E):vU K c d { nx:=λ _ H'=>Q .non H',rt:=Q } (L2.start N vs) H:=by
 obtain ⟨a,us,rfl,ha,hl,hu,hq⟩:=h
 have hst:L2.start N [V.ref a]=[some (V.ref a),none]:=by unfold L2.start;rw [hN];rfl
 rw [hst]
 have h1000:(1000:Nat) + 1000 + 1000 < sizeLine:=by rw [sizeLine_eq];decide
 refine ⟨.ref a,rfl,a,rfl,⟨us,bz.of ha⟩,wH (K:=K) (a:=a) (xs:=us) (λ i σ H'=>(∃ o,σ=[some (V.ref a),o])/\H' a=some (.lst us)/\(∀ b o,H b=some o->b ≠ a->V.ref b ∉ us->H' b=some o)/\(∀ b,H b ≠ none->H' b ≠ none)/\∀ u∈us,∃ q ws,u=V.ref q/\q ≠ a/\H' q=some (.lst ws)/\ws.length < 1000 + i) ?_ ?_ ?_ ?_⟩
 ·exact ⟨⟨none,rfl⟩,ha,λ b o e _ _=>e,λ b e=>e,λ u hu'=>by simpa using hu u hu'⟩
 ·exact λ i σ H' _ h=>bz.of h.2.1
 ·rintro i v σ H' hv ⟨⟨o,rfl⟩,g1,g2,g3,g4⟩
  have hi:i < us.length:=by
   by_cases cc:i < us.length
   ·exact cc
   ·rw [List.getElem?_eq_none (by omega)] at hv;cases hv
  have hmem:v∈us:=List.mem_of_getElem? hv
  obtain ⟨q,ws,rfl,na,e1,l1⟩:=g4 v hmem
  show tP _ _ _ _
  refine ⟨.ref q,rfl,.inl ⟨rfl,ws,bz.of e1⟩,q,ws,.int c,rfl,rfl,e1,by omega,?_⟩
  refine ⟨.ref q,rfl,.inl ⟨rfl,_,bz.of aw⟩,q,_,rfl,rfl,aw,?_⟩
  have up:∀ b,b ≠ q->upd (upd H' q (.lst (ws++[V.int c]))) q (.lst (ws++[V.int c]).reverse) b=H' b:=λ b hb=>by rw [aq hb,aq hb]
  refine ⟨⟨_,rfl⟩,by rw [up a (Ne.symm na)];exact g1,λ b o' eb nb mb=>?_,λ b eb=>?_,λ u hu'=>?_⟩
  ·rw [up b (by rintro rfl;exact mb hmem)];exact g2 b o' eb nb mb
  ·by_cases hb:b=q
   ·subst hb;rw [aw];simp
   ·rw [up b hb];exact g3 b eb
  ·obtain ⟨q',ws',rfl,na',e1',l1'⟩:=g4 u hu'
   by_cases hb:q'=q
   ·subst hb
    rw [e1] at e1'
    cases e1'
    exact ⟨q',_,rfl,na,aw,by simp;omega⟩
   ·exact ⟨q',ws',rfl,na',by rw [up q' hb];exact e1',by omega⟩
 ·rintro σ H' ⟨⟨o,rfl⟩,g1,g2,g3,g4⟩
  show tP (KB K "list" qv (xI 0) (tN (IX (tN (tC (V.int d)) Br)) Br)) { nx:=λ _ H'=>Q .non H',rt:=Q } [some (V.ref a),o] H'
  refine ⟨.ref a,rfl,.inl ⟨rfl,us,bz.of g1⟩,by rw [sizeLine_eq];exact Nat.le_of_ble_eq_true rfl,λ p hp=>?_⟩
  have npa:a ≠ p:=by rintro rfl;rw [g1] at hp;cases hp
  refine ⟨a,us,.ref p,rfl,rfl,by rw [aq npa];exact g1,by omega,hq _ (λ b o' eb nb mb=>?_) λ b eb=>?_⟩
  ·rw [aq nb]
   have:=g2 b o' eb nb mb
   rw [aq (by rintro rfl;rw [this] at hp;cases hp)]
   exact this
  ·by_cases hb:b=a
   ·subst hb;rw [aw];simp
   ·rw [aq hb]
    have:=g3 b eb
    rw [aq (by rintro rfl;exact this hp)]
    exact this
end
theorem AH {X:Cx} {pins:List (Addr × Obj)} {σ:St} {H:Hp} {s:Shared} {q:Addr} {o:Obj} (I:Inv X pins σ H s) (h:H q ≠ none) (k:X.K.lookup q=some o):False:=h (I.bs q o (I.mod.kin q o k)).2
noncomputable def eR (ks:List D):Bool:=ks.all λ d=>match d with
 | .lst xs=>xs.all dH && decide (xs.length < 1000)
 | _=>false
theorem ti {ks:List D} (h:eR ks=true) {d:D} (hd:d∈ks):∃ xs,d=.lst xs/\xs.all dH=true/\xs.length < 1000:=by
 have:=List.all_eq_true.mp h d hd
 cases d with
 | lst xs=>simp only [Bool.and_eq_true,decide_eq_true_eq] at this;exact ⟨xs,rfl,this.1,this.2⟩
 | _=>cases this
theorem Dens.mem {Z:Zx} {G:Hp}:∀ {vs:List V} {ds:List D},Dens Z G vs ds->∀ v∈vs,∃ d∈ds,aN Z G v d
 | [],_,_,v,hv=>absurd hv List.not_mem_nil
 | _ :: _,[],h,_,_=>by unfold Dens at h;exact h.elim
 | u :: us,d :: ds,h,v,hv=>by
  unfold Dens at h
  rcases List.mem_cons.mp hv with e | hv
  ·exact ⟨d,List.mem_cons_self,by rw [e];exact h.1⟩
  ·obtain ⟨d',h1,h2⟩:=Dens.mem h.2 v hv
   exact ⟨d',List.mem_cons_of_mem _ h1,h2⟩
theorem qP {Z:Zx} {G G':Hp}:∀ {vs:List V} {ds:List D},Dens Z G vs ds->ds.all dH=true->Dens Z G' vs ds
 | [],[],_,_=>bg
 | [],_ :: _,h,_=>by unfold Dens at h;exact h.elim
 | _ :: _,[],h,_=>by unfold Dens at h;exact h.elim
 | u :: us,d :: ds,h,hf=>by
  unfold Dens at h
  simp only [List.all_cons,Bool.and_eq_true] at hf
  exact aP (oH h.1 hf.1) (qP h.2 hf.2)
theorem Et {Z:Zx} {G2 G3:Hp} {v:V} {xs:List D} (h:aN Z G2 v (.lst xs)) (hf:xs.all dH=true) (hv:∀ q,v=.ref q->G3 q=G2 q):aN Z G3 v (.lst xs):=by
 unfold aN at h ⊢
 obtain ⟨a,us,rfl,h1,h2⟩:=h
 refine ⟨a,us,rfl,?_,qP h2 hf⟩
 have e:=hv a rfl
 rcases h1 with (h | ⟨o,h⟩) | h
 ·exact .inl (.inl (by rw [e];exact h))
 ·exact .inl (.inr ⟨o,by rw [e];exact h⟩)
 ·exact .inr h
theorem qQ {Z:Zx} {G2 G3:Hp}:∀ {vs:List V} {ks:List D},Dens Z G2 vs ks->eR ks=true->(∀ q,V.ref q∈vs->G3 q=G2 q)->Dens Z G3 vs ks
 | [],[],_,_,_=>bg
 | [],_ :: _,h,_,_=>by unfold Dens at h;exact h.elim
 | _ :: _,[],h,_,_=>by unfold Dens at h;exact h.elim
 | u :: us,d :: ds,h,hf,hv=>by
  unfold Dens at h
  obtain ⟨xs,rfl,h1,_⟩:=ti hf List.mem_cons_self
  have hf':eR ds=true:=by unfold eR at hf ⊢;rw [List.all_cons,Bool.and_eq_true] at hf;exact hf.2
  exact aP (Et h.1 h1 λ q e=>hv q (by rw [e];exact List.mem_cons_self)) (qQ h.2 hf' λ q hq=>hv q (List.mem_cons_of_mem _ hq))
theorem zT {X:Cx} {κ:Nat->Addr} {pins:List (Addr × Obj)} {σ:St} {H0 H G:Hp} {s:Shared} {a:Addr} {vs:List V} {ds:List D} (I:Inv X pins σ H s) (sm:aM G H) (ga:G a=none) (dn:Dens ⟨X.K,κ⟩ G vs ds) (fr:Fr H0 H vs) (hf:eR ds=true) :
  ∀ u∈vs,∃ q ws,u=V.ref q/\q ≠ a/\H q=some (.lst ws)/\ws.length < 1000:=λ u hu=>by
 obtain ⟨q,us,rfl,e2,e3⟩:=fr u hu
 obtain ⟨d,hd,dd⟩:=dn.mem _ hu
 obtain ⟨xs,rfl,h1,h2⟩:=ti hf hd
 unfold aN at dd
 obtain ⟨q',us',e,hq,dus⟩:=dd
 cases e
 have hl:=dus.length
 rcases hq with (h | ⟨o,h⟩) | ⟨o,its,n,hk,_⟩
 ·have:=sm _ _ h
  rw [e2] at this
  cases this
  exact ⟨q,us,rfl,(by rintro rfl;rw [ga] at h;cases h),e2,by omega⟩
 ·have:=sm _ _ h
  rw [e2] at this
  cases this
 ·exact (AH I (by rw [e2];simp) hk).elim
structure CalS (X:Cx) (x:Str):Prop where
 ex:∃ f fd ps k,FnOk X.prog X.w X.K X.mg X.base (pU X.prog X.w) k f fd ps KA/\Room k X.A/\X.mg x=some (.ref f)/\PySem.W.keepIn X.K (.ref f)=true/\iZ X.K fd ps []
noncomputable def lZ (G G2 H1:Hp):Hp:=λ b=>match H1 b with
 | none=>G2 b
 | some _=>G b
theorem l3 {G G2 H1:Hp} {b:Addr} (h:H1 b ≠ none):lZ G G2 H1 b=G b:=by
 unfold lZ
 split
 ·rename_i e;exact absurd e h
 ·rfl
theorem l0 {G G2 H1:Hp} {b:Addr} (h:H1 b=none):lZ G G2 H1 b=G2 b:=by
 unfold lZ
 rw [h]
theorem wT {G H G1 H1 G2 H2:Hp} (s:aM G H) (s1:aM H H1) (e:Ext G1 H1 G2 H2):Ext G H (lZ G G2 H1) H2:=by
 have some':∀ {b o},G b=some o->H1 b ≠ none:=λ {b o} z=>by rw [s1 _ _ (s _ _ z)];simp
 refine ⟨λ b o z=>by rw [l3 (some' z)];exact z,s1.trans e.sH,λ b o z=>?_,λ b z=>?_⟩
 ·by_cases c:H1 b=none
  ·rw [l0 c] at z;exact e.GH _ _ z
  ·rw [l3 c] at z;exact e.sH _ _ (s1 _ _ (s _ _ z))
 ·by_cases c:H1 b=none
  ·exact .inr (s1.free c)
  ·rw [l3 c] at z;exact .inl z
inductive QF (Z:Zx) (G H:Hp) (ds:List D) (v:V) (H':Hp):Prop
 | mk (a:Addr) (vs:List V) (G':Hp) (e:v=.ref a) (x:Ext G H G' H') (h:H' a=some (.lst vs)) (g:G' a=none) (n:H a=none) (d:Dens Z G' vs ds) (f:Fr H H' vs)
theorem Rep.away {Z:Zx} {B:Gd} {H₀ G H H':Hp} {σ:St} {δ:Ev} (rp:Rep Z B H₀ G H σ δ) {A:Addr->Prop} (hG:∀ b,A b->G b=none) (h0:∀ b,A b->H₀ b=none) (how:∀ (j:Nat) es b,δ[j]?=some (some (.ow es))->σ[j]?=some (some (.ref b))->¬ A b)
  (hoo:∀ (j:Nat) c ns es b,δ[j]?=some (some (.oo c ns es))->σ[j]?=some (some (.ref b))->¬ A b) (hk:∀ b o,H b=some o->¬ A b->H' b=some o) (ht:∀ b,H b ≠ none->H' b ≠ none):Rep Z B H₀ G H' σ δ:=by
 refine ⟨⟨rp.gG,λ b o z=>hk b o (rp.GH b o z) (λ c=>by rw [hG b c] at z;cases z),λ b o z n=>hk b o (rp.old b o z n) (λ c=>by rw [h0 b c] at z;cases z),λ b z=>ht b (rp.there b z),rp.lent⟩,rp.len,rp.sh,λ j es z=>?_,rp.sep,λ j c ns es z=>?_,rp.oo1⟩
 ·obtain ⟨b,us,y1,y2,y3,y4,y5⟩:=rp.ow j es z
  exact ⟨b,us,y1,hk b _ y2 (how j es b z y1),y3,y4,y5⟩
 ·obtain ⟨b,dx,us,y1,y2,y3⟩:=rp.oo j c ns es z
  exact ⟨b,dx,us,y1,hk b _ y2 (hoo j c ns es b z y1),y3⟩
theorem Rep.forget {Z:Zx} {B:Gd} {H₀ G H:Hp} {σ:St} {δ:Ev} (rp:Rep Z B H₀ G H σ δ) (i:Nat) (o:Option V):Rep Z B H₀ G H (σ.set i o) (δ.set i none):=by
 have g:∀ {j:Nat} {s:Sl},(δ.set i none)[j]?=some (some s)->j ≠ i/\δ[j]?=some (some s):=λ {j s} z=>by
  rcases bb z with ⟨_,e,_⟩ | z
  ·cases e
  ·exact z
 refine ⟨rp.toHold,by simpa using rp.len,λ j d z=>?_,λ j es z=>?_,λ j k ds es a n z1 z2 s1 s2=>?_,λ j c ns es z=>?_,λ j k c ns ds c' ns' ds' x n z1 z2 s1 s2=>?_⟩
 ·obtain ⟨n,z⟩:=g z
  obtain ⟨v,y1,y2⟩:=rp.sh j d z
  exact ⟨v,by rw [List.getElem?_set_ne (Ne.symm n)];exact y1,y2⟩
 ·obtain ⟨n,z⟩:=g z
  obtain ⟨b,us,y1,y2,y3,y4,y5⟩:=rp.ow j es z
  exact ⟨b,us,by rw [List.getElem?_set_ne (Ne.symm n)];exact y1,y2,y3,y4,y5⟩
 ·obtain ⟨n1,z1⟩:=g z1
  obtain ⟨n2,z2⟩:=g z2
  rw [List.getElem?_set_ne (Ne.symm n1)] at s1
  rw [List.getElem?_set_ne (Ne.symm n2)] at s2
  exact rp.sep j k ds es a n z1 z2 s1 s2
 ·obtain ⟨n,z⟩:=g z
  rw [List.getElem?_set_ne (Ne.symm n)];exact rp.oo j c ns es z
 ·obtain ⟨n1,z1⟩:=g z1
  obtain ⟨n2,z2⟩:=g z2
  rw [List.getElem?_set_ne (Ne.symm n1)] at s1
  rw [List.getElem?_set_ne (Ne.symm n2)] at s2
  exact rp.oo1 j k c ns ds c' ns' ds' x n z1 z2 s1 s2
noncomputable def rY (it ik:Nat) (f:Ev->R (List D)) (m2:List D->R (List D)):Ev->SR:=λ δ=>match f δ with
 | .ok ds=>(match m2 [.lst ds] with
  | .ok ks=>if eR ds && eR ks && decide (ds.length < 1000) then .next ((δ.set it none).set ik (some (.sh (.lst ks)))) else .stuck
  | _=>.stuck)
 | _=>.stuck
section
variable {κ:Nat->Addr} {B:Gd} {X:Cx} {e:Expr} {f:Ev->R (List D)} {m2:List D->R (List D)} {x y g h:Str} {it ik:Nat} {aG:List Stmt} {F2:Ev->SR} {p p' q q' r1 r2 r3 t1 t2 t3 t4:Pos}
theorem oC {σ:St} {i:Nat} {v:V} (h:i < σ.length):(σ.set i (some v))[i]?=some (some v):=List.getElem?_set_self h
theorem AC {N:List Str} {i:Nat} {x:Str} (h:N[i]?=some x):i < N.length:=by
 by_cases c:i < N.length
 ·exact c
 ·rw [List.getElem?_eq_none (by omega)] at h;cases h
theorem A6 (cx:Cxo X) (hne:it ≠ ik) (hND:X.N.Nodup) (hx:X.N[it]?=some x) (lx:mM X.env.scope x) (vx:kT X.env.scope x) (fx:X.fn x=true) (dx:(x == ("__debug__" : Str))=false) (dx2:(x == ("__classdict__" : Str))=false) (hy:X.N[ik]?=some y) (ly:mM X.env.scope y) (fy:X.fn y=true)
  (hE:GO κ B X e f) (hsE:swapsWith e (some (.Name x p')) p.line X.env=pure false) (C2:CalR κ X g 1 ρF m2) (hg2:Gl X g) (dg:(g == ("__debug__" : Str))=false) (C3:CalS X h) (hg3:Gl X h) (dh:(h == ("__debug__" : Str))=false) (h2:sP κ B X aG F2) :
  sP κ B X (.Assign [.Name x p'] e p :: .Assign [.Name y q'] (.Call (.Name g r1) [.Name x r2] [] r3) q :: .Expr (.Call (.Name h t1) [.Name x t2] [] t3) t4 :: aG) (aD (rY it ik f m2) F2):=λ Ex pins s σ H G δ Dn hp I rp hq=>by
 unfold aD rY at hq
 cases e1:f δ with
 | exc c=>rw [e1] at hq;exact False.elim hq
 | stuck=>rw [e1] at hq;exact False.elim hq
 | ok ds =>
 rw [e1] at hq
 dsimp only at hq
 cases e2:m2 [.lst ds] with
 | exc c=>rw [e2] at hq;exact False.elim hq
 | stuck=>rw [e2] at hq;exact False.elim hq
 | ok ks =>
 rw [e2] at hq
 dsimp only at hq
 by_cases hfl:(eR ds && eR ks && decide (ds.length < 1000))=true
 case neg=>rw [if_neg hfl] at hq;exact False.elim hq
 rw [if_pos hfl] at hq
 dsimp only at hq
 simp only [Bool.and_eq_true,decide_eq_true_eq] at hfl
 obtain ⟨⟨fd,fk⟩,hlen⟩:=hfl
 have hlσ:σ.length=X.N.length:=I.len
 refine wpAny_execs_cons (wpAny_Assign_Name (br (hE pins σ Ex pins s σ H (QF ⟨X.K,κ⟩ G H ds) (bq I) ⟨G,δ,rp,?_⟩)
  λ v s1 hz=>?_) hsE)
 ·rw [e1]
  exact λ a vs H' G' x1 x2 x3 x4 x5 x6=>⟨a,vs,G',rfl,x1,x2,x3,x4,x5,x6⟩
 obtain ⟨y1,H1,I1,rr,⟨a,vs,G1,e0,x1,ha,ga,na,dv,fr⟩⟩:=hz
 subst e0
 refine cD (X:=X.wish Ex) (aH cx.sg I1) hND hx lx rr (λ s2 I2=>?_) (.inl fx) (λ p σ v _=>cx.sg p _)
 have rows:=zT I2 x1.GH ga dv fr fd
 obtain ⟨f2,fd2,ps2,k2,F2',hr2,hm2,hk2,hb2⟩:=C2.ex
 have pe2:=kJ (X:=At X pins (σ.set it (some (V.ref a))) Ex) (p:=r1) (pos:=r3) (E:=EX X pins (σ.set it (some (V.ref a))) Ex) F2' hr2 hg2 hm2 hk2 hb2 .nil (fL cx) (bw (X:=At X pins (σ.set it (some (V.ref a))) Ex) (b0 (X:=At X pins (σ.set it (some (V.ref a))) Ex) (pos:=r2) hx vx dx dx2) cA) dg
 have g1:aM G1 (upd G1 a (.lst vs)):=λ b o z=>by rw [aq (az z ga)];exact z
 have gH:aM (upd G1 a (.lst vs)) H1:=λ b o z=>by
  by_cases hb:b=a
  ·subst hb;rw [aw] at z;cases z;exact ha
  ·rw [aq hb] at z;exact x1.GH b o z
 refine wpAny_execs_cons (wpAny_Assign_Name (br (pe2 pins s2 _ H1 (QF ⟨X.K,κ⟩ (upd G1 a (.lst vs)) H1 ks) (bq I2) ⟨.ref a,oC (by rw [hlσ];exact AC hx),rfl,_,[.lst ds],gH,aP (by unfold aN;exact ⟨a,vs,rfl,bz.of aw,dv.mono g1⟩) bg,?_⟩)
  λ v s3 hz=>?_) (aZ rfl))
 ·rw [e2]
  rintro v H2 G2 x2 ⟨b,ws,z1,z2,z3,z4,z5,z6⟩
  exact ⟨b,ws,G2,z1,x2,z2,z3,z4,z5,z6⟩
 obtain ⟨y3,H2,I3,rr3,⟨b,ws,G2,e0,x2,hb,gb2,nb,dw,fr2⟩⟩:=hz
 subst e0
 refine cD (X:=X.wish Ex) (aH cx.sg I3) hND hy ly rr3 (λ s4 I4=>?_) (.inl fy) (λ p σ v _=>cx.sg p _)
 obtain ⟨f3,fd3,ps3,k3,F3,hr3,hm3,hk3,hb3⟩:=C3.ex
 have pe3:=kJ (X:=At X pins ((σ.set it (some (V.ref a))).set ik (some (V.ref b))) Ex) (p:=t1) (pos:=t3) (E:=EX X pins ((σ.set it (some (V.ref a))).set ik (some (V.ref b))) Ex) F3 hr3 hg3 hm3 hk3 hb3 .nil (fL cx) (bw (X:=At X pins ((σ.set it (some (V.ref a))).set ik (some (V.ref b))) Ex) (b0 (X:=At X pins ((σ.set it (some (V.ref a))).set ik (some (V.ref b))) Ex) (pos:=t2) hx vx dx dx2) cA) dh
 have sH2:aM H1 H2:=x2.sH
 have lvs:=dv.length
 refine wpAny_execs_cons (wpAny_Expr_any (br (pe3 pins s4 _ H2 (λ _ H3=>(∀ b o,H2 b=some o->b ≠ a->V.ref b ∉ vs->H3 b=some o)/\(∀ b,H2 b ≠ none->H3 b ≠ none)) (bq I4) ⟨.ref a,?_,a,vs,rfl,sH2 _ _ ha,by omega,λ u hu=>?_,λ H3 z1 z2=>⟨z1,z2⟩⟩) λ v s5 hz=>?_) I4.quiet (aZ rfl))
 ·rw [List.getElem?_set_ne (Ne.symm hne)]
  exact oC (by rw [hlσ];exact AC hx)
 ·obtain ⟨q1,w1,z1,z2,z3,z4⟩:=rows u hu
  exact ⟨q1,w1,z1,z2,sH2 _ _ z3,z4⟩
 obtain ⟨y5,H3,I5,rr5,k1,k2⟩:=hz
 have ex0:Ext G H (lZ G G2 H1) H2:=wT rp.GH x1.sH x2
 have gb3:lZ G G2 H1 b=none:=by rw [l0 nb];exact gb2
 have sg:aM (lZ G G2 H1) (upd (lZ G G2 H1) b (.lst ws)):=λ c o z=>by rw [aq (az z gb3)];exact z
 have ex:=c8 ex0 hb gb3 (x1.sH.free nb)
 have rp1:=(rp.ext ex).forget it (some (V.ref a))
 have dks:Dens ⟨X.K,κ⟩ (lZ G G2 H1) ws ks:=qQ dw fk λ q1 hq1=>by
  obtain ⟨q2,us,z1,z2,z3⟩:=fr2 _ hq1
  cases z1
  exact l0 z3
 have inA:∀ b1,(b1=a \/ V.ref b1∈vs)->H b1=none/\H1 b1 ≠ none:=λ b1 hb1=>by
  rcases hb1 with rfl | hb1
  ·exact ⟨na,by rw [ha];simp⟩
  ·obtain ⟨q2,us,z1,z2,z3⟩:=fr _ hb1
   cases z1
   exact ⟨z3,by rw [z2];simp⟩
 have rp2:Rep ⟨X.K,κ⟩ B X.H₀ (upd (lZ G G2 H1) b (.lst ws)) H3 (σ.set it (some (V.ref a))) (δ.set it none):=by
  refine rp1.away (A:=λ b1=>b1=a \/ V.ref b1∈vs) (λ b1 hb1=>?_) (λ b1 hb1=>?_) (λ j es b1 z1 z2 hb1=>?_) (λ j c ns es b1 z1 z2 hb1=>?_) (λ b1 o z1 hb1=>k1 b1 o z1 (λ z=>hb1 (.inl z)) λ z=>hb1 (.inr z)) k2
  ·rw [aq (by rintro rfl;exact (inA _ hb1).2 nb),l3 (inA b1 hb1).2];exact rp.GH.free (inA b1 hb1).1
  ·cases z:X.H₀ b1 with
   | none=>rfl
   | some o=>exact absurd (inA b1 hb1).1 (rp.there b1 (by rw [z];simp))
  ·rcases bb z1 with ⟨_,z,_⟩ | ⟨n,z1⟩
   ·cases z
   ·rw [List.getElem?_set_ne (Ne.symm n)] at z2
    obtain ⟨b2,us,w1,w2,_⟩:=rp.ow j es z1
    rw [w1] at z2
    cases z2
    rw [(inA b1 hb1).1] at w2;cases w2
  ·rcases bb z1 with ⟨_,z,_⟩ | ⟨n,z1⟩
   ·cases z
   ·rw [List.getElem?_set_ne (Ne.symm n)] at z2
    obtain ⟨b2,dx,us,w1,w2,_⟩:=rp.oo j c ns es z1
    rw [w1] at z2
    cases z2
    rw [(inA b1 hb1).1] at w2;cases w2
 have rp3:=rp2.setSh (i:=ik) (v:=V.ref b) (d:=.lst ks) (by unfold aN;exact ⟨b,ws,rfl,bz.of aw,dks.mono sg⟩)
 exact h2 Ex pins s5 _ H3 _ _ Dn hp (aH cx.sg I5) rp3 hq
end
end L3
namespace L3
open PySem PySem.Spec PyProof.Rows L2
inductive QO (Z:Zx) (G H:Hp) (ds:List D) (v:V) (H':Hp):Prop
 | mk (a:Addr) (vs:List V) (G':Hp) (e:v=.ref a) (x:Ext G H G' H') (h:H' a=some (.lst vs)) (g:G' a=none) (n:H a=none) (d:Dens Z G' vs ds)
inductive ρT (K:PySem.W.Frag) (κ:Nat->Addr) (H₀ G' H':Hp) (v:V) (r:List D × List D × List D):Prop
 | mk (den:aN ⟨K,κ⟩ G' v (.tup [.lst r.1,.lst r.2.1,.lst r.2.2])) (t p d a:Addr) (ps dd vs:List V) (e:v=.ref t) (ht:H' t=some (.tup [.ref p,.ref d,.ref a])) (hp:H' p=some (.lst ps)) (hd:H' d=some (.lst dd)) (ha:H' a=some (.lst vs))
  (nt:H₀ t=none) (np:H₀ p=none) (nd:H₀ d=none) (na:H₀ a=none) (fr:Fr H₀ H' vs) (tp:t ≠ p) (td:t ≠ d) (ta:t ≠ a) (pa:p ≠ a) (da:d ≠ a) (pd:p ≠ d) (vt:V.ref t ∉ vs) (vp:V.ref p ∉ vs) (vd:V.ref d ∉ vs) (va:V.ref a ∉ vs)
  (lp:ps.length=r.1.length) (ld:dd.length=r.2.1.length) (lv:vs.length=r.2.2.length) (sm:∀ u∈vs,∃ q ws,u=V.ref q/\H' q=some (.lst ws)/\ws.length < 1000)
noncomputable def re (i j:Nat) (f1 f2 f3:Ev->R (List D)):Ev->R (List D × List D × List D):=λ δ=>match f1 δ with
 | .ok ns=>(match f2 (δ.set i (some (.sh (.lst ns)))) with
  | .ok dd=>(match f3 ((δ.set i (some (.sh (.lst ns)))).set j (some (.sh (.lst dd)))) with
   | .ok pp=>if eR ns then .ok (pp,dd,ns) else .stuck
   | _=>.stuck)
  | _=>.stuck)
 | _=>.stuck
section
variable {κ:Nat->Addr} {B:Gd} {X:Cx} {sc:Scope} {N0 xs:List Str} {tg iter elt e1 e2:Expr} {ifs:List Expr} {fit:Ev->R (List D)} {bd:D->Ev->Option Ev} {t:Ev->R Bool} {f:Ev->R D} {f1 f2:Ev->R (List D)} {i j k:Nat} {xn xd xp:Str} {p1 p1' p2 p2' p3 p3' cpos r1 r2 r3 r4 r5:Pos} {kt:_}
theorem mi {Z:Zx} {G:Hp} {a:Addr} {vs:List V} {ds:List D} (h:G a=none) (d:Dens Z G vs ds):aN Z (upd G a (.lst vs)) (.ref a) (.lst ds):=by
 have sg:aM G (upd G a (.lst vs)):=λ b o z=>by rw [aq (az z h)];exact z
 unfold aN
 exact ⟨a,vs,rfl,bz.of aw,d.mono sg⟩
theorem A2 (cx:Cxo X) (hc:X.calm=true) (hND:X.N.Nodup) (vn:X.N[i]?=some xn) (ln:mM X.env.scope xn) (wn:kT X.env.scope xn) (fn:X.fn xn=true) (vd:X.N[j]?=some xd) (ld:mM X.env.scope xd) (wd:kT X.env.scope xd) (fd:X.fn xd=true) (vp:X.N[k]?=some xp) (lp:X.env.scope.names.lookup xp=some .local)
  (dn:(xn == ("__debug__" : Str))=false) (cn:(xn == ("__classdict__" : Str))=false) (dd':(xd == ("__debug__" : Str))=false) (cd:(xd == ("__classdict__" : Str))=false) (dp:(xp == ("__debug__" : Str))=false) (cp:(xp == ("__classdict__" : Str))=false)
  (hij:i ≠ j) (hik:i ≠ k) (hjk:j ≠ k) (h1:GO κ B X e1 f1) (hs1:swapsWith e1 (some (.Name xn p1')) p1.line X.env=pure false) (h2:xQ κ B X e2 f2) (hs2:swapsWith e2 (some (.Name xd p2')) p2.line X.env=pure false)
  (hk:X.env.scope.kind=.function) (hl:(p3'.line == cpos.line)=true) (hn:(sc.names.any λ p=>p.1 == xp && (p.2 == .local || p.2 == .cell))=false) (co:CompOkG X sc N0 xs) (hi:r8 κ B X tg iter fit) (hbd:BdOk X.N.length xs.length bd)
  (hg:∀ X' B',CmpIsG X sc (N0++xs) X'->xP κ B' X' tg bd) (ht:∀ X' B',CmpIsG X sc (N0++xs) X'->Eg κ B' X' ifs t) (he:∀ X' B',CmpIsG X sc (N0++xs) X'->PX κ B' X' elt f) (hs:vW iter=true) :
  BB κ B X [.Assign [.Name xn p1'] e1 p1,.Assign [.Name xd p2'] e2 p2,.Assign [.Name xp p3'] (.ListComp elt [⟨tg,iter,ifs,0⟩] sc cpos) p3,.Return (some (.Tuple [.Name xp r1,.Name xd r2,.Name xn r3] kt r4)) r5] ρT (re i j f1 f2 (bj xs.length fit bd t f)):=λ Ex pins s σ H G δ Dn hp I rp hq=>by
 unfold re at hq
 cases q1:f1 δ with
 | exc c=>rw [q1] at hq;exact False.elim hq
 | stuck=>rw [q1] at hq;exact False.elim hq
 | ok ns =>
 rw [q1] at hq
 dsimp only at hq
 cases q2:f2 (δ.set i (some (.sh (.lst ns)))) with
 | exc c=>rw [q2] at hq;exact False.elim hq
 | stuck=>rw [q2] at hq;exact False.elim hq
 | ok ds =>
 rw [q2] at hq
 dsimp only at hq
 cases q3:bj xs.length fit bd t f ((δ.set i (some (.sh (.lst ns)))).set j (some (.sh (.lst ds)))) with
 | exc c=>rw [q3] at hq;exact False.elim hq
 | stuck=>rw [q3] at hq;exact False.elim hq
 | ok pp =>
 rw [q3] at hq
 dsimp only at hq
 by_cases hf:eR ns=true
 case neg=>rw [if_neg hf] at hq;exact False.elim hq
 rw [if_pos hf] at hq
 dsimp only at hq
 have hlσ:σ.length=X.N.length:=I.len
 refine wpAny_execs_cons (wpAny_Assign_Name (br (h1 pins σ Ex pins s σ H (QF ⟨X.K,κ⟩ G H ns) (bq I) ⟨G,δ,rp,?_⟩)
  λ v s1 hz=>?_) hs1)
 ·rw [q1]
  exact λ a vs H' G' x1 x2 x3 x4 x5 x6=>⟨a,vs,G',rfl,x1,x2,x3,x4,x5,x6⟩
 obtain ⟨y1,H1,I1,rr,⟨a,vs,G1,e0,x1,ha,ga,na,dv,fr⟩⟩:=hz
 subst e0
 refine cD (X:=X.wish Ex) (aH cx.sg I1) hND vn ln rr (λ s2 I2=>?_) (.inl fn) (λ p σ v _=>cx.sg p _)
 have rows:=zT I2 x1.GH ga dv fr hf
 have ex1:=c8 x1 ha ga na
 have rp1:=(rp.ext ex1).setSh (i:=i) (v:=V.ref a) (mi ga dv)
 refine wpAny_execs_cons (wpAny_Assign_Name (br (h2 pins _ Ex pins s2 _ H1 (QO ⟨X.K,κ⟩ (upd G1 a (.lst vs)) H1 ds) (bq I2) ⟨_,_,rp1,?_⟩)
  λ v s3 hz=>?_) hs2)
 ·rw [q2]
  exact λ a vs H' G' x1 x2 x3 x4 x5=>⟨a,vs,G',rfl,x1,x2,x3,x4,x5⟩
 obtain ⟨y3,H2,I3,rr3,⟨d,dd,G2,e0,x2,hd,gd,nd,ddn⟩⟩:=hz
 subst e0
 refine cD (X:=X.wish Ex) (aH cx.sg I3) hND vd ld rr3 (λ s4 I4=>?_) (.inl fd) (λ p σ v _=>cx.sg p _)
 have ex2:=c8 x2 hd gd nd
 have rp2:=(rp1.ext ex2).setSh (i:=j) (v:=V.ref d) (mi gd ddn)
 refine wpAny_execs_cons (br (sX (N0:=N0) (xs:=xs) (Dn:={ nx:=λ σ' H'=>∃ p,σ'=((σ.set i (some (V.ref a))).set j (some (V.ref d))).set k (some (V.ref p))/\QO ⟨X.K,κ⟩ (upd G2 d (.lst dd)) H2 pp (.ref p) H',rt:=λ _ _=>False }) cx hND vp hk lp hl hn hc co hi hbd hg ht he hs I4 rp2 ?_) λ fl s5 hfl=>?_)
 ·rw [q3]
  exact λ p ps H3 G3 x1 x2 x3 x4 x5=>⟨p,rfl,⟨p,ps,G3,rfl,x1,x2,x3,x4,x5⟩⟩
 cases fl with
 | ret v=>obtain ⟨_,_,_,_,_,z⟩:=hfl;exact z.elim
 | brk=>obtain ⟨_,_,_,z⟩:=hfl;exact z.elim
 | cont=>obtain ⟨_,_,_,z⟩:=hfl;exact z.elim
 | next =>
 obtain ⟨σ5,H3,I5,p,rfl,⟨p',ps,G3,e0,x3,hpl,gp,np,dps⟩⟩:=hfl
 cases e0
 have ex3:=c8 x3 hpl gp np
 have hold:Hold B X.H₀ _ H3:=(rp2.ext ex3).toHold
 generalize hσ:((σ.set i (some (V.ref a))).set j (some (V.ref d))).set k (some (V.ref p))=σ3 at I5 ⊢
 have li:i < σ.length:=by rw [hlσ];exact AC vn
 have lj:j < σ.length:=by rw [hlσ];exact AC vd
 have lk:k < σ.length:=by rw [hlσ];exact AC vp
 have si:σ3[i]?=some (some (V.ref a)):=by rw [<- hσ,List.getElem?_set_ne (Ne.symm hik),List.getElem?_set_ne (Ne.symm hij)];exact oC li
 have sj:σ3[j]?=some (some (V.ref d)):=by rw [<- hσ,List.getElem?_set_ne (Ne.symm hjk)];exact oC (by simpa using lj)
 have sk:σ3[k]?=some (some (V.ref p)):=by rw [<- hσ];exact oC (by simpa using lk)
 have pe:=HJ (X:=At X pins σ3 Ex) (pos:=r4) (x1:=kt) (bw (X:=At X pins σ3 Ex) (b0 (X:=At X pins σ3 Ex) (pos:=r1) vp (.inl lp) dp cp) (bw (X:=At X pins σ3 Ex) (b0 (X:=At X pins σ3 Ex) (pos:=r2) vd wd dd' cd) (bw (X:=At X pins σ3 Ex) (b0 (X:=At X pins σ3 Ex) (pos:=r3) vn wn dn cn) cA)))
 have s12:aM H1 H2:=x2.sH
 have s23:aM H2 H3:=x3.sH
 have s03:aM H H3:=(x1.sH.trans s12).trans s23
 have ha3:H3 a=some (.lst vs):=s23 _ _ (s12 _ _ ha)
 have hd3:H3 d=some (.lst dd):=s23 _ _ hd
 have n0:∀ {b},H b=none->X.H₀ b=none:=λ {b} z=>by
  cases q0:X.H₀ b with
  | none=>rfl
  | some o=>exact absurd z (rp.there b (by rw [q0];simp))
 have pd:p ≠ d:=by rintro rfl;rw [hd] at np;cases np
 have pa:p ≠ a:=by rintro rfl;rw [s12 _ _ ha] at np;cases np
 have da:d ≠ a:=by rintro rfl;rw [ha] at nd;cases nd
 have inv1:∀ {b},V.ref b∈vs->∃ ws,H1 b=some (.lst ws)/\b ≠ a:=λ {b} z=>by
  obtain ⟨q,ws,z1,z2,z3,z4⟩:=rows _ z
  cases z1
  exact ⟨ws,z3,z2⟩
 refine wpAny_execs_cons (wpAny_Return_some (br (pe pins s5 σ3 H3 (λ v H'=>Dn.rt v H') (bq I5) ⟨.ref p,sk,.ref d,sj,.ref a,si,by rw [sizeLine_eq];exact Nat.le_of_ble_eq_true rfl,λ t nt=>?_⟩) (by rintro v s6 ⟨y6,H6,I6,rr6,q6⟩;exact ⟨y6,σ3,H6,aH cx.sg I6,rr6,q6⟩)))
 have ext4:=i7 (o:=.tup [V.ref p,V.ref d,V.ref a]) ex3.GH nt
 have tp:t ≠ p:=by rintro rfl;rw [hpl] at nt;cases nt
 have td:t ≠ d:=by rintro rfl;rw [hd3] at nt;cases nt
 have ta:t ≠ a:=by rintro rfl;rw [ha3] at nt;cases nt
 refine hq _ _ _ (hold.ext ext4) ⟨?_,t,p,d,a,ps,dd,vs,rfl,aw,by rw [aq (Ne.symm tp)];exact hpl,by rw [aq (Ne.symm td)];exact hd3,by rw [aq (Ne.symm ta)];exact ha3,n0 (s03.free nt),n0 (((x1.sH.trans s12)).free np),n0 (x1.sH.free nd),n0 na,?_,tp,td,ta,pa,da,pd,λ z=>?_,λ z=>?_,λ z=>?_,λ z=>?_,dps.length,ddn.length,dv.length,λ u hu=>?_⟩
 ·unfold aN
  refine ⟨t,_,rfl,mS.of aw,?_⟩
  have m1:=mi gp dps
  have m2:=(mi gd ddn).mono ex3.sG
  have m3:=((mi ga dv).mono ex2.sG).mono ex3.sG
  exact aP (m1.mono ext4.sG) (aP (m2.mono ext4.sG) (aP (m3.mono ext4.sG) bg))
 ·exact ((fr.base (λ b hb z=>hb (by
   cases q0:H b with
   | none=>exact absurd (n0 q0) hb
   | some o=>rw [q0] at z;cases z))).same ((s12.trans s23).trans (λ b o z=>by rw [aq (by rintro rfl;rw [z] at nt;cases nt)];exact z)))
 ·obtain ⟨ws,z1,z2⟩:=inv1 z
  rw [s23 _ _ (s12 _ _ z1)] at nt;cases nt
 ·obtain ⟨ws,z1,z2⟩:=inv1 z
  rw [s12 _ _ z1] at np;cases np
 ·obtain ⟨ws,z1,z2⟩:=inv1 z
  rw [z1] at nd;cases nd
 ·obtain ⟨ws,z1,z2⟩:=inv1 z
  exact z2 rfl
 ·obtain ⟨q,ws,z1,z2,z3,z4⟩:=rows u hu
  have:=s23 _ _ (s12 _ _ z3)
  exact ⟨q,ws,z1,by rw [aq (by rintro rfl;rw [this] at nt;cases nt)];exact this,z4⟩
end
noncomputable def KM (κ:Nat->Addr) (B:Gd) (X:Cx) (e:Expr) (f:Ev->R (List D × List D × List D)):Prop:=∀ pins σ Ex,PE (At X pins σ Ex) e (λ τ H Q=>∃ G δ,Rep ⟨X.K,κ⟩ B X.H₀ G H τ δ/\sO (λ G' H' v r=>ρT X.K κ H G' H' v r) κ (EX X pins σ Ex) G H (f δ) Q)
noncomputable def JH (m:List D->R (List D × List D × List D)):List D->R D:=λ ds=>(m ds).bind λ r=>.ok (.tup [.lst r.1,.lst r.2.1,.lst r.2.2])
theorem ρT.den {K:PySem.W.Frag} {κ:Nat->Addr} {H₀ G' H':Hp} {v:V} {r:List D × List D × List D} (h:ρT K κ H₀ G' H' v r):aN ⟨K,κ⟩ G' v (.tup [.lst r.1,.lst r.2.1,.lst r.2.2]):=by cases h;assumption
theorem FV {K:PySem.W.Frag} {κ:Nat->Addr} {n:Nat} {m:List D->R (List D × List D × List D)}:∀ vs H Q E,GG K κ n (JH m) vs H Q E->GI K κ n ρT m vs H Q E:=λ vs H Q E h=>by
 obtain ⟨hl,G,ds,sm,dn,q⟩:=h
 refine ⟨hl,G,ds,sm,dn,?_⟩
 unfold JH at q
 cases z:m ds with
 | ok l =>
  rw [z] at q
  exact λ v H' G' e1 h=>q v H' G' e1 h.den
 | exc c=>rw [z] at q;exact q
 | stuck=>rw [z] at q;exact q
theorem iX.mcT {P:Program} {w:World} {K:PySem.W.Frag} {mg:Str->Option Value} {base:Heap} {κ:Nat->Addr} {x:Str} {ps:List Str} {m:List D->R (List D × List D × List D)} {k:Nat} (h:iX P w K mg base κ x ps ρT m k):MC P w K mg base κ x ps (JH m) k:=by
 obtain ⟨f,fd,F,r⟩:=h
 exact ⟨f,fd,F.imp FV,r⟩
theorem Gj {K:PySem.W.Frag} {κ:Nat->Addr} {H H1 G' H':Hp} {v:V} {r:List D × List D × List D} (s:aM H H1) (h:ρT K κ H1 G' H' v r):ρT K κ H G' H' v r:=by
 obtain ⟨h0,t,p,d,a,ps,dd,vs,h1,h2,h3,h4,h5,n1,n2,n3,n4,h7,g1,g2,g3,g4,g5,g6,g7,g8,g9,u1,u2,u3,u4,u5⟩:=h
 exact ⟨h0,t,p,d,a,ps,dd,vs,h1,h2,h3,h4,h5,s.free n1,s.free n2,s.free n3,s.free n4,h7.base (λ b hb z=>hb (s.free z)),g1,g2,g3,g4,g5,g6,g7,g8,g9,u1,u2,u3,u4,u5⟩
section
variable {κ:Nat->Addr} {B:Gd} {X:Cx} {e a:Expr} {es:List Expr} {fs:Ev->R (List D)} {p pos:Pos} {x:Str} {m:List D->R (List D × List D × List D)} {n:Nat}
theorem Dd (c:Cxo X) (C:CalR κ X x n ρT m) (hn:(a :: es).length=n) (hg:Gl X x) (ha:r9 κ B X (a :: es) fs) (hdb:(x == ("__debug__" : Str))=false) (h:(a :: es).all aA=true)
  (hlen:∀ δ ds,fs δ=.ok ds->ds.length=n):KM κ B X (.Call (.Name x p) (a :: es) [] pos) (λ δ=>(fs δ).bind m):=λ pins σ Ex=>by
 have h':=h
 simp only [List.all_cons,Bool.and_eq_true] at h'
 obtain ⟨f,fd,ps,k,F,hr,hm,hk,hb⟩:=C.ex
 refine be (kJ (X:=At X pins σ Ex) (E:=EX X pins σ Ex) F hr hg hm hk hb .nil (fL c) (ha pins σ Ex) hdb (aB h'.1) (eD h'.2)) λ τ H Q hz=>eQ hz λ G δ rp q=>⟨G,δ,rp,?_⟩
 dsimp only at q
 cases e:fs δ with
 | ok ds =>
  rw [e] at q
  intro v H1 G1 e1 d1
  rw [List.append_nil]
  refine ⟨by rw [Dens.length d1,hlen δ ds e],G1,ds,e1.GH,d1,?_⟩
  have q':=sO.pre e1 q
  simp only [R.bind_ok] at q'
  cases z:m ds with
  | ok r =>
   rw [z] at q'
   exact λ v' H' G' e2 h=>q' v' H' G' e2 (Gj e1.sH h)
  | exc c=>rw [z] at q';exact q'
  | stuck=>rw [z] at q';exact q'
 | exc c=>rw [e] at q;exact q
 | stuck=>rw [e] at q;exact q
end
noncomputable def oz (it ik im:Nat) (f1:Ev->R (List D × List D × List D)) (f2:Ev->R (List D)) (f3:Ev->R D):Ev->SR:=λ δ=>match f1 δ with
 | .ok r=>(match f2 (δ.set it (some (.sh (.tup [.lst r.1,.lst r.2.1,.lst r.2.2])))) with
  | .ok ks=>(match f3 ((δ.set it (some (.sh (.tup [.lst r.1,.lst r.2.1,.lst r.2.2])))).set ik (some (.sh (.lst ks)))) with
   | .ok dm=>if eR ks && dH dm && (decide (r.1.length < 1000) && (decide (r.2.1.length < 1000) && decide (r.2.2.length < 1000))) then .next (((δ.set it none).set ik (some (.sh (.lst ks)))).set im (some (.sh dm))) else .stuck
   | _=>.stuck)
  | _=>.stuck)
 | _=>.stuck
section
variable {κ:Nat->Addr} {B:Gd} {X:Cx} {e1 e2 e3:Expr} {f1:Ev->R (List D × List D × List D)} {f2:Ev->R (List D)} {f3:Ev->R D} {x y z h:Str} {it ik im:Nat} {aG:List Stmt} {F2:Ev->SR} {c5 c6:Int}
 {p1 p1' p2 p2' p3 p3' t1 t2 t3 t4 t5 t6 u1 u2 u3 u4 u5 u6 u7 w1 w2 w3 w4 w5 w6 w7:Pos} {j4 j5 j6 l5 l6:_}
theorem yR (cx:Cxo X) (hik:it ≠ ik) (him:it ≠ im) (hkm:ik ≠ im) (hND:X.N.Nodup) (hx:X.N[it]?=some x) (lx:mM X.env.scope x) (vx:kT X.env.scope x) (fx:X.fn x=true) (dx:(x == ("__debug__" : Str))=false) (dx2:(x == ("__classdict__" : Str))=false)
  (hy:X.N[ik]?=some y) (ly:mM X.env.scope y) (fy:X.fn y=true) (hz:X.N[im]?=some z) (lz:mM X.env.scope z) (fz:X.fn z=true)
  (h1:KM κ B X e1 f1) (hs1:swapsWith e1 (some (.Name x p1')) p1.line X.env=pure false) (h2:GO κ B X e2 f2) (hs2:swapsWith e2 (some (.Name y p2')) p2.line X.env=pure false) (h3:PX κ B X e3 f3) (hs3:swapsWith e3 (some (.Name z p3')) p3.line X.env=pure false)
  (C4:CalS X h) (hg4:Gl X h) (dh:(h == ("__debug__" : Str))=false) (i5:(u4.endLine == u6.line)=true) (i6:(w4.endLine == w6.line)=true) (hr:sP κ B X aG F2) :
  sP κ B X (.Assign [.Name x p1'] e1 p1 :: .Assign [.Name y p2'] e2 p2 :: .Assign [.Name z p3'] e3 p3 :: .Expr (.Call (.Name h t1) [.Subscript (.Name x t2) (.Constant (.int 2) j4 t3) t4] [] t5) t6 ::
   .Expr (.Call (.Attribute (.Subscript (.Name x u1) (.Constant (.int 0) j5 u2) u3) "append" u4) [.Constant (.int c5) l5 u5] [] u6) u7 :: .Expr (.Call (.Attribute (.Subscript (.Name x w1) (.Constant (.int 1) j6 w2) w3) "append" w4) [.Constant (.int c6) l6 w5] [] w6) w7 :: aG) (aD (oz it ik im f1 f2 f3) F2):=λ Ex pins s σ H G δ Dn hp I rp hq=>by
 unfold aD oz at hq
 cases q1:f1 δ with
 | exc c=>rw [q1] at hq;exact False.elim hq
 | stuck=>rw [q1] at hq;exact False.elim hq
 | ok r =>
 rw [q1] at hq
 dsimp only at hq
 cases q2:f2 (δ.set it (some (.sh (.tup [.lst r.1,.lst r.2.1,.lst r.2.2])))) with
 | exc c=>rw [q2] at hq;exact False.elim hq
 | stuck=>rw [q2] at hq;exact False.elim hq
 | ok ks =>
 rw [q2] at hq
 dsimp only at hq
 cases q3:f3 ((δ.set it (some (.sh (.tup [.lst r.1,.lst r.2.1,.lst r.2.2])))).set ik (some (.sh (.lst ks)))) with
 | exc c=>rw [q3] at hq;exact False.elim hq
 | stuck=>rw [q3] at hq;exact False.elim hq
 | ok dm =>
 rw [q3] at hq
 dsimp only at hq
 by_cases hf:(eR ks && dH dm && (decide (r.1.length < 1000) && (decide (r.2.1.length < 1000) && decide (r.2.2.length < 1000))))=true
 case neg=>rw [if_neg hf] at hq;exact False.elim hq
 rw [if_pos hf] at hq
 dsimp only at hq
 simp only [Bool.and_eq_true,decide_eq_true_eq] at hf
 obtain ⟨⟨fk,fm⟩,b1,b2,b3⟩:=hf
 have hlσ:σ.length=X.N.length:=I.len
 have lt:it < σ.length:=by rw [hlσ];exact AC hx
 refine wpAny_execs_cons (wpAny_Assign_Name (br (h1 pins σ Ex pins s σ H (λ v H'=>∃ G',Ext G H G' H'/\ρT X.K κ H G' H' v r) (bq I) ⟨G,δ,rp,?_⟩) λ v s1 hz=>?_) hs1)
 ·rw [q1];exact λ v H' G' z1 z2=>⟨G',z1,z2⟩
 obtain ⟨y1,H1,I1,rr,G1,x1,⟨dT,t,p,d,a,ps,dd,vs,e0,ht,hpp,hd,ha,nt,np,nd,na,fr,tp,td,ta,pa,da,pd,vt,vp,vd,va,lp,ld,lv,rows⟩⟩:=hz
 subst e0
 refine cD (X:=X.wish Ex) (aH cx.sg I1) hND hx lx rr (λ s2 I2=>?_) (.inl fx) (λ p σ v _=>cx.sg p _)
 have rp1:=(rp.ext x1).setSh (i:=it) dT
 refine wpAny_execs_cons (wpAny_Assign_Name (br (h2 pins _ Ex pins s2 _ H1 (QF ⟨X.K,κ⟩ G1 H1 ks) (bq I2) ⟨_,_,rp1,?_⟩)
  λ v s3 hz=>?_) hs2)
 ·rw [q2];exact λ a vs H' G' z1 z2 z3 z4 z5 z6=>⟨a,vs,G',rfl,z1,z2,z3,z4,z5,z6⟩
 obtain ⟨y3,H2,I3,rr3,⟨b,ws,G2,e0,x2,hb,gb2,nb,dw,fr2⟩⟩:=hz
 subst e0
 refine cD (X:=X.wish Ex) (aH cx.sg I3) hND hy ly rr3 (λ s4 I4=>?_) (.inl fy) (λ p σ v _=>cx.sg p _)
 have ex2:=c8 x2 hb gb2 nb
 have rp2:=(rp1.ext ex2).setSh (i:=ik) (v:=V.ref b) (mi gb2 dw)
 refine wpAny_execs_cons (wpAny_Assign_Name (br (h3 pins _ Ex pins s4 _ H2 (λ v H'=>aM H2 H'/\aN ⟨X.K,κ⟩ (λ _=>none) v dm) (bq I4) ⟨_,_,rp2,?_⟩)
  λ v s5 hz=>?_) hs3)
 ·rw [q3];exact λ v H' G' z1 z2=>⟨z1.sH,oH z2 fm⟩
 obtain ⟨vm,H3,I5,rr5,s23,dvm⟩:=hz
 refine cD (X:=X.wish Ex) (aH cx.sg I5) hND hz lz rr5 (λ s6 I6=>?_) (.inl fz) (λ p σ v _=>cx.sg p _)
 generalize hσ:((σ.set it (some (V.ref t))).set ik (some (V.ref b))).set im (some vm)=σ3 at I6 ⊢
 have st:σ3[it]?=some (some (V.ref t)):=by rw [<- hσ,List.getElem?_set_ne (Ne.symm him),List.getElem?_set_ne (Ne.symm hik)];exact oC lt
 have s13:aM H1 H3:=x2.sH.trans s23
 have ht3:=s13 _ _ ht
 have hp3:=s13 _ _ hpp
 have hd3:=s13 _ _ hd
 have ha3:=s13 _ _ ha
 have ix:∀ {H':Hp} {c:Int} {v:V},H' t=some (.tup [.ref p,.ref d,.ref a])->qD [V.ref p,V.ref d,V.ref a] c=some v->∀ Q:VK,Q v H'->Jl (FN X.K) (xI it) (tC (.int c)) σ3 H' Q:=λ {H' c v} z1 z2 Q z3=>⟨.ref t,st,t,_,c,v,rfl,rfl,mS.of z1,z2,z3⟩
 have pix:∀ {c:Int} {jj} {q1 q2 q3:Pos},PE (At X pins σ3 Ex) (.Subscript (.Name x q1) (.Constant (.int c) jj q2) q3) (Jl (FN X.K) (xI it) (tC (.int c))):=λ {c jj q1 q2 q3}=>Gz (X:=At X pins σ3 Ex) Cq (b0 (X:=At X pins σ3 Ex) (pos:=q1) hx vx dx dx2) o3 (Gs rfl)
 obtain ⟨f4,fd4,ps4,k4,F4,hr4,hm4,hk4,hb4⟩:=C4.ex
 have pe4:=kJ (X:=At X pins σ3 Ex) (p:=t1) (pos:=t5) (E:=EX X pins σ3 Ex) F4 hr4 hg4 hm4 hk4 hb4 .nil (fL cx) (bw (X:=At X pins σ3 Ex) (pix (c:=2) (jj:=j4) (q1:=t2) (q2:=t3) (q3:=t4)) cA) dh
 refine wpAny_execs_cons (wpAny_Expr_any (br (pe4 pins s6 _ H3 (λ _ H4=>(∀ b o,H3 b=some o->b ≠ a->V.ref b ∉ vs->H4 b=some o)/\(∀ b,H3 b ≠ none->H4 b ≠ none)) (bq I6) (ix ht3 (v:=.ref a) rfl _ ⟨a,vs,rfl,ha3,by omega,λ u hu=>?_,λ H4 z1 z2=>⟨z1,z2⟩⟩)) λ v s7 hz=>?_) I6.quiet (aZ rfl))
 ·obtain ⟨q,ws',z1,z2,z3⟩:=rows u hu
  exact ⟨q,ws',z1,(by rintro rfl;rw [z1] at hu;exact va hu),s13 _ _ z2,z3⟩
 obtain ⟨y7,H4,I7,rr7,k1,k2⟩:=hz
 have ht4:H4 t=_:=k1 t _ ht3 ta vt
 have hp4:H4 p=_:=k1 p _ hp3 pa vp
 have hd4:H4 d=_:=k1 d _ hd3 da vd
 have I7':=aH cx.sg I7
 have pe5:=rC (X:=At X pins σ3 Ex) (apos:=u4) (cpos:=u6) PySem.F.plainAttrs_list PySem.F.slot_list_append PySem.F.type_list_append fI (pix (c:=0) (jj:=j5) (q1:=u1) (q2:=u2) (q3:=u3)) (bw (X:=At X pins σ3 Ex) (o3 (X:=At X pins σ3 Ex) (i:=c5) (j:=l5) (pos:=u5)) cA) rfl rfl i5 rfl rfl
 refine wpAny_execs_cons (wpAny_Expr_any (br (pe5 pins s7 σ3 H4 (λ _ H5=>H5=upd H4 p (.lst (ps++[V.int c5]))) (bq I7') (ix ht4 (v:=.ref p) rfl _ ⟨Or.inl ⟨rfl,ps,bz.of hp4⟩,p,ps,.int c5,rfl,rfl,hp4,by rw [sizeLine_eq];omega,rfl⟩)) λ v s8 hz=>?_) I7'.quiet (aZ rfl))
 obtain ⟨y8,H5,I8,rr8,e5⟩:=hz
 subst e5
 have I8':=aH cx.sg I8
 have pe6:=rC (X:=At X pins σ3 Ex) (apos:=w4) (cpos:=w6) PySem.F.plainAttrs_list PySem.F.slot_list_append PySem.F.type_list_append fI (pix (c:=1) (jj:=j6) (q1:=w1) (q2:=w2) (q3:=w3)) (bw (X:=At X pins σ3 Ex) (o3 (X:=At X pins σ3 Ex) (i:=c6) (j:=l6) (pos:=w5)) cA) rfl rfl i6 rfl rfl
 have ht5:upd H4 p (.lst (ps++[V.int c5])) t=some (.tup [.ref p,.ref d,.ref a]):=by rw [aq tp];exact ht4
 have hd5:upd H4 p (.lst (ps++[V.int c5])) d=some (.lst dd):=by rw [aq (Ne.symm pd)];exact hd4
 refine wpAny_execs_cons (wpAny_Expr_any (br (pe6 pins s8 σ3 _ (λ _ H6=>H6=upd (upd H4 p (.lst (ps++[V.int c5]))) d (.lst (dd++[V.int c6]))) (bq I8') (ix ht5 (v:=.ref d) rfl _ ⟨Or.inl ⟨rfl,dd,bz.of hd5⟩,d,dd,.int c6,rfl,rfl,hd5,by rw [sizeLine_eq];omega,rfl⟩)) λ v s9 hz=>?_) I8'.quiet (aZ rfl))
 obtain ⟨y9,H6,I9,rr9,e6⟩:=hz
 subst e6
 have I9':=aH cx.sg I9
 generalize hH6:upd (upd H4 p (.lst (ps++[V.int c5]))) d (.lst (dd++[V.int c6]))=H6 at I9'
 have ex0:Ext G H (lZ G G2 H1) H3:=wT rp.GH x1.sH ⟨x2.sG,s13,x2.GH.trans s23,x2.new⟩
 have gb3:lZ G G2 H1 b=none:=by rw [l0 nb];exact gb2
 have hb3:=s23 _ _ hb
 have sg:aM (lZ G G2 H1) (upd (lZ G G2 H1) b (.lst ws)):=λ c o z=>by rw [aq (az z gb3)];exact z
 have ex:=c8 ex0 hb3 gb3 (x1.sH.free nb)
 have rpA:=(rp.ext ex).forget it (some (V.ref t))
 have dks:Dens ⟨X.K,κ⟩ (lZ G G2 H1) ws ks:=qQ dw fk λ q1 hq1=>by
  obtain ⟨q2,us,z1,z2,z3⟩:=fr2 _ hq1
  cases z1
  exact l0 z3
 have inA:∀ b1,(b1=a \/ V.ref b1∈vs \/ b1=p \/ b1=d)->H b1=none/\H1 b1 ≠ none:=λ b1 hb1=>by
  rcases hb1 with rfl | hb1 | rfl | rfl
  ·exact ⟨na,by rw [ha];simp⟩
  ·obtain ⟨q2,us,z1,z2,z3⟩:=fr _ hb1
   cases z1
   exact ⟨z3,by rw [z2];simp⟩
  ·exact ⟨np,by rw [hpp];simp⟩
  ·exact ⟨nd,by rw [hd];simp⟩
 have rpB:Rep ⟨X.K,κ⟩ B X.H₀ (upd (lZ G G2 H1) b (.lst ws)) H6 (σ.set it (some (V.ref t))) (δ.set it none):=by
  refine rpA.away (A:=λ b1=>b1=a \/ V.ref b1∈vs \/ b1=p \/ b1=d) (λ b1 hb1=>?_) (λ b1 hb1=>?_) (λ j es b1 z1 z2 hb1=>?_) (λ j c ns es b1 z1 z2 hb1=>?_) (λ b1 o z1 hb1=>?_) (λ b1 z1=>?_)
  ·rw [aq (by rintro rfl;exact (inA _ hb1).2 nb),l3 (inA b1 hb1).2];exact rp.GH.free (inA b1 hb1).1
  ·cases z:X.H₀ b1 with
   | none=>rfl
   | some o=>exact absurd (inA b1 hb1).1 (rp.there b1 (by rw [z];simp))
  ·rcases bb z1 with ⟨_,z,_⟩ | ⟨n,z1⟩
   ·cases z
   ·rw [List.getElem?_set_ne (Ne.symm n)] at z2
    obtain ⟨b2,us,w1,w2,_⟩:=rp.ow j es z1
    rw [w1] at z2
    cases z2
    rw [(inA b1 hb1).1] at w2;cases w2
  ·rcases bb z1 with ⟨_,z,_⟩ | ⟨n,z1⟩
   ·cases z
   ·rw [List.getElem?_set_ne (Ne.symm n)] at z2
    obtain ⟨b2,dx,us,w1,w2,_⟩:=rp.oo j c ns es z1
    rw [w1] at z2
    cases z2
    rw [(inA b1 hb1).1] at w2;cases w2
  ·rw [<- hH6,aq (λ z=>hb1 (.inr (.inr (.inr z)))),aq (λ z=>hb1 (.inr (.inr (.inl z))))]
   exact k1 b1 o z1 (λ z=>hb1 (.inl z)) λ z=>hb1 (.inr (.inl z))
  ·rw [<- hH6]
   by_cases c1:b1=d
   ·subst c1;rw [aw];simp
   ·rw [aq c1]
    by_cases c2:b1=p
    ·subst c2;rw [aw];simp
    ·rw [aq c2];exact k2 b1 z1
 have rpC:=rpB.setSh (i:=ik) (v:=V.ref b) (d:=.lst ks) (by unfold aN;exact ⟨b,ws,rfl,bz.of aw,dks.mono sg⟩)
 have rpD:=rpC.setSh (i:=im) (v:=vm) (d:=dm) (oH dvm fm)
 rw [hσ] at rpD
 exact hr Ex pins s9 _ H6 _ _ Dn hp I9' rpD hq
end
end L3
namespace L3
open PySem PySem.Spec PyProof.Rows L2
structure QX (κ:Nat->Addr) (B:Gd) (X:Cx) (e:Expr) (f:Ev->R D):Prop where
 h:PX κ B X e f
structure QXr (κ:Nat->Addr) (B:Gd) (X:Cx) (e:Expr) (f:Ev->R D):Prop where
 h:dN κ B X e f
structure QXs (κ:Nat->Addr) (B:Gd) (X:Cx) (e:List Expr) (f:Ev->R (List D)):Prop where
 h:r9 κ B X e f
structure QXf (κ:Nat->Addr) (B:Gd) (X:Cx) (e:Expr) (f:Ev->R (List D)):Prop where
 h:xQ κ B X e f
structure QXt (κ:Nat->Addr) (B:Gd) (X:Cx) (e:Expr) (f:Ev->R Bool):Prop where
 h:mO κ B X e f
structure QXw (κ:Nat->Addr) (B:Gd) (X:Cx) (e:Expr) (f:Ev->R Bool):Prop where
 h:Eh κ B X e f
structure QIz (κ:Nat->Addr) (B:Gd) (X:Cx) (tg e:Expr) (f:Ev->R (List D)):Prop where
 h:Gm κ B X tg e f
structure QIg (κ:Nat->Addr) (B:Gd) (X:Cx) (tg e:Expr) (f:Ev->R (List D)):Prop where
 h:Jq κ B X tg e f
structure QGz (κ:Nat->Addr) (B:Gd) (X:Cx) (tg:Expr) (b:D->Ev->Option Ev):Prop where
 h:xP κ B X tg b
structure QGzs (κ:Nat->Addr) (B:Gd) (X:Cx) (tg:List Expr) (b:List D->Ev->Option Ev):Prop where
 h:v3 κ B X tg b
structure QZ (κ:Nat->Addr) (B:Gd) (X:Cx) (st:Stmt) (F:Ev->SR):Prop where
 h:PZ κ B X st F
structure QZs (κ:Nat->Addr) (B:Gd) (X:Cx) (st:List Stmt) (F:Ev->SR):Prop where
 h:sP κ B X st F
structure QXo (κ:Nat->Addr) (B:Gd) (X:Cx) (e:Option Expr) (f:Ev->R (Option Int)):Prop where
 h:Jr κ B X e f
section
variable {κ:Nat->Addr} {B:Gd} {X:Cx} {a b c e k tg:Expr} {es tgs aG:List Expr} {f fa fb fc fk:Ev->R D} {ta tb:Ev->R Bool} {fs fl:Ev->R (List D)} {pos pos' pos'' apos p p':Pos} {x:Str} {m:List D->R D} {n i:Nat}
theorem QX.read (h:QX κ B X e f):QXr κ B X e f:=⟨h.h.read⟩
theorem QXw.t (h:QXw κ B X e ta):QXt κ B X e ta:=⟨h.h.t⟩
theorem QXf.px (h:QXf κ B X e fl):QX κ B X e (mL fl):=⟨h.h.px⟩
theorem ak {i:Int} {j pos}:QX κ B X (.Constant (.int i) j pos) (mC (.int i)):=⟨Ih ⟩
theorem iT {i:Bool} {j pos}:QX κ B X (.Constant (.bool i) j pos) (mC (.bl i)):=⟨JU ⟩
theorem vE {j pos}:QX κ B X (.Constant .none j pos) (mC .non):=⟨Im ⟩
theorem cq (i:Nat) {x:Str} (hN:X.N[i]?=some x) (hv:kT X.env.scope x) (hd:(x == ("__debug__" : Str))=false) (hcd:(x == ("__classdict__" : Str))=false):QX κ B X (.Name x pos) (ac i):=⟨Ir i hN hv hd hcd⟩
theorem Dy (i:Nat) {x:Str} (hN:X.N[i]?=some x) (hv:kT X.env.scope x) (hd:(x == ("__debug__" : Str))=false) (hcd:(x == ("__classdict__" : Str))=false):QXr κ B X (.Name x pos) (bO i):=⟨Ft i hN hv hd hcd⟩
theorem gW (ha:QXr κ B X a fa) (hb:QXr κ B X b fb):QX κ B X (.BinOp a .Sub b pos) (m2 kX fa fb):=⟨Iq ha.h hb.h⟩
theorem iU (ha:QXr κ B X a fa) (hb:QXr κ B X b fb):QX κ B X (.BinOp a .Mult b pos) (m2 kW fa fb):=⟨Fs ha.h hb.h⟩
theorem gU (ha:QXr κ B X a fa) (hb:QXr κ B X b fb):QX κ B X (.BinOp a .FloorDiv b pos) (m2 nr fa fb):=⟨Ig ha.h hb.h⟩
theorem bf (ha:QXr κ B X a fa) (hb:QXr κ B X b fb):QX κ B X (.BinOp a .Mod b pos) (m2 cL fa fb):=⟨Ik ha.h hb.h⟩
theorem bK (ha:QXr κ B X a fa) (hb:QXr κ B X b fb):QX κ B X (.BinOp a .Add b pos) (m2 d0 fa fb):=⟨HZ ha.h hb.h⟩
theorem Dx (ha:QXr κ B X a fa) (hb:QXr κ B X b fb) (hm:behindInMarks .LtE b=false):QX κ B X (.Compare a [.LtE] [b] pos) (m2 (kI xR) fa fb):=⟨JZ ha.h hb.h hm⟩
theorem II (ha:QXr κ B X a fa) (hb:QXr κ B X b fb) (hm:behindInMarks .Gt b=false):QX κ B X (.Compare a [.Gt] [b] pos) (m2 (kI wV) fa fb):=⟨JW ha.h hb.h hm⟩
theorem eM (ha:QXr κ B X a fa) (hb:QXr κ B X b fb) (hm:behindInMarks .Lt b=false):QXt κ B X (.Compare a [.Lt] [b] pos) (bY qd fa fb):=⟨Iy ha.h hb.h hm⟩
theorem qu (ha:QXr κ B X a fa) (hb:QXr κ B X b fb) (hm:behindInMarks .LtE b=false):QXt κ B X (.Compare a [.LtE] [b] pos) (bY xR fa fb):=⟨Ix ha.h hb.h hm⟩
theorem n6 (ha:QXr κ B X a fa) (hb:QXr κ B X b fb) (hm:behindInMarks .Gt b=false):QXt κ B X (.Compare a [.Gt] [b] pos) (bY wV fa fb):=⟨Iw ha.h hb.h hm⟩
theorem zQ (ha:QXr κ B X a fa) (hb:QXr κ B X b fb) (hm:behindInMarks .GtE b=false):QXt κ B X (.Compare a [.GtE] [b] pos) (bY Gu fa fb):=⟨Iu ha.h hb.h hm⟩
theorem dP (ha:QXt κ B X a ta):QXt κ B X (.UnaryOp .Not a pos) (oU ta):=⟨Fx ha.h⟩
theorem dE (ha:QXt κ B X a ta):QXw κ B X (.BoolOp .And [a] pos) ta:=⟨Dl ha.h⟩
theorem fZ (ha:QXt κ B X a ta):QXw κ B X (.BoolOp .Or [a] pos) ta:=⟨FA ha.h⟩
theorem dQ (ha:QXt κ B X a ta) (hb:QXw κ B X (.BoolOp .And (b :: aG) pos) tb):QXw κ B X (.BoolOp .And (a :: b :: aG) pos) (gT ta tb):=⟨Fz ha.h hb.h⟩
theorem jd (ha:QXt κ B X a ta) (hb:QXw κ B X (.BoolOp .Or (b :: aG) pos) tb):QXw κ B X (.BoolOp .Or (a :: b :: aG) pos) (Cy ta tb):=⟨IA ha.h hb.h⟩
theorem vF {op} (h:QX κ B X a fa):QX κ B X (.BoolOp op [a] pos) fa:=⟨Ip h.h⟩
theorem vB (ha:QX κ B X a fa) (hb:QX κ B X (.BoolOp .And (b :: aG) pos) fb):QX κ B X (.BoolOp .And (a :: b :: aG) pos) (nT fa fb):=⟨Ia ha.h hb.h⟩
theorem FG (ha:QX κ B X a fa):QX κ B X (.UnaryOp .Not a pos) (zB fa):=⟨Io ha.h⟩
theorem IJ (hc:QXt κ B X c ta) (ha:QX κ B X a fa) (hb:QX κ B X b fb):QX κ B X (.IfExp c a b pos) (JG ta fa fb):=⟨JX hc.h ha.h hb.h⟩
theorem aj:QXs κ B X [] au:=⟨vw ⟩
theorem cM (h:QXs κ B X es fs):QX κ B X (.List es pos) (iR fs):=⟨Ij h.h⟩
theorem aI:QZs κ B X [] SR.next:=⟨FD ⟩
theorem al {st:Stmt} {aG:List Stmt} {F1 F2:Ev->SR} (h1:QZ κ B X st F1) (h2:QZs κ B X aG F2):QZs κ B X (st :: aG) (aD F1 F2):=⟨Dt h1.h h2.h⟩
theorem ao {st:Stmt} {F:Ev->SR} (h1:QZ κ B X st F):QZs κ B X [st] F:=⟨FE h1.h⟩
theorem eN (i:Nat) {sts:List Stmt} {F:Ev->SR} (h:QZs κ B X sts F):QZs κ B X sts (λ δ=>F (iY i δ)):=⟨FC i h.h⟩
theorem Bc:QZ κ B X (.Break pos) SR.brk:=⟨Dm ⟩
theorem aT (cx:Cxo X) (h:QX κ B X e f):QZ κ B X (.Return (some e) pos) (de f):=⟨IF cx h.h⟩
theorem aY (cx:Cxo X) {t:Ev->R Bool} {s1 s2:List Stmt} {F1 F2:Ev->SR} (hc:QXt κ B X c t) (h1:QZs κ B X s1 F1) (h2:QZs κ B X s2 F2):QZ κ B X (.If c s1 s2 pos) (fN t F1 F2):=⟨J0 cx hc.h h1.h h2.h⟩
theorem zR (cx:Cxo X) {i:Nat} {x:Str} {op:Operator} {g:Int->Int->Int} (ho:∀ Y:Cx,Kw Y op (Ky g)) (hN:X.N.Nodup) (hi:X.N[i]?=some x) (hx:mM X.env.scope x) (hf:X.fn x=true \/ X.env.scope.names.lookup x=some .local) (h:QX κ B X e f):QZ κ B X (.AugAssign (.Name x pos') op e pos) (nE i g f):=⟨IB cx ho hN hi hx hf h.h⟩
theorem cB (cx:Cxo X) {i:Nat} {x:Str} (hN:X.N.Nodup) (hi:X.N[i]?=some x) (hx:mM X.env.scope x) (hf:X.fn x=true \/ X.env.scope.names.lookup x=some .local):QGz κ B X (.Name x pos) (bN i):=⟨CW cx hN hi hx hf⟩
theorem jZ:QGzs κ B X [] iM:=⟨CY ⟩
theorem j9 (h:QX κ B X e f):QIz κ B X tg e (λ δ=>(f δ).bind aV):=⟨Fe h.h⟩
theorem kc (cx:Cxo X) (N:Nat) {c:Expr} {body:List Stmt} {t:Ev->R Bool} {F:Ev->SR} (hc:QXt κ B X c t) (hb:QZs κ B X body F):QZ κ B X (.While c body [] pos) (b5 t F N):=⟨Dp cx N hc.h hb.h⟩
theorem ca (h:QXs κ B X es fs):QXf κ B X (.List es pos) (λ δ=>lim (fs δ)):=⟨zN h.h⟩
theorem vD (hu:X.A.units + 64 < cLine) (ha:QXr κ B X a fa) (hb:QXr κ B X b fb) (hm:behindInMarks .Eq b=false):QX κ B X (.Compare a [.Eq] [b] pos) (m2 (kI kg) fa fb):=⟨JV hu ha.h hb.h hm⟩
theorem cr (hu:X.A.units + 64 < cLine) (ha:QXr κ B X a fa) (hb:QXr κ B X b fb) (hm:behindInMarks .Eq b=false):QXt κ B X (.Compare a [.Eq] [b] pos) (bY kg fa fb):=⟨Is hu ha.h hb.h hm⟩
theorem n8 (hu:X.A.units + 64 < cLine) (ha:QXr κ B X a fa) (hb:QXr κ B X b fb) (hm:behindInMarks .NotEq b=false):QXt κ B X (.Compare a [.NotEq] [b] pos) (bY zG fa fb):=⟨Iz hu ha.h hb.h hm⟩
theorem aa (ha:QX κ B X a fa) (hr:QXs κ B X es fs) (h:aA a=true):QXs κ B X (a :: es) (af fa fs):=⟨Gh ha.h hr.h h⟩
theorem aC (c:Cxo X) (C:Cal κ X x n m) (hn:(a :: es).length=n) (hg:Gl X x) (ha:QXs κ B X (a :: es) fs) (hdb:(x == ("__debug__" : Str))=false:=by decide) (h:(a :: es).all aA=true:=by rfl) (hlen:∀ δ ds,fs δ=.ok ds->ds.length=n:=by repeat (first | exact bh | refine ar ?_)):QX κ B X (.Call (.Name x p) (a :: es) [] pos) (aQ m fs):=⟨Jb c C hn hg ha.h hdb h hlen⟩
theorem IL (cx:Cxo X) (hN:X.N.Nodup) (hi:X.N[i]?=some x) (hx:mM X.env.scope x) (hf:X.fn x=true \/ X.env.scope.names.lookup x=some .local) (h:QX κ B X e f) (hs:fK e=true):QZ κ B X (.Assign [.Name x pos'] e pos) (bo i f):=⟨Kn cx hN hi hx hf h.h hs⟩
theorem IK (cx:Cxo X) (hN:X.N.Nodup) (hi:X.N[i]?=some x) (hx:mM X.env.scope x) (hf:X.fn x=true \/ X.env.scope.names.lookup x=some .local) (h:QXf κ B X e fl) (hs:fK e=true):QZ κ B X (.Assign [.Name x pos'] e pos) (dM i fl):=⟨Km cx hN hi hx hf h.h hs⟩
theorem Bf (cx:Cxo X) (hN:X.N[i]?=some x) (hv:kT X.env.scope x) (hd:(x == ("__debug__" : Str))=false) (hcd:(x == ("__classdict__" : Str))=false) (h:QX κ B X e f) (hs:aA e=true) (hline:(apos.endLine == pos'.line)=true):QZ κ B X (.Expr (.Call (.Attribute (.Name x pos) "append" apos) [e] [] pos') pos'') (cF i f):=⟨DZ cx hN hv hd hcd h.h hs hline⟩
theorem rL {kk:Nat} {bs:List D->Ev->Option Ev} (hc:X.calm=true) (h:QGzs κ B X tgs bs) (hn:tgs.length=n) (hst:tgs.all aA=true):QGz κ B X (.Tuple tgs kk pos) (kU n bs):=⟨Kq hc h.h hn hst⟩
theorem fS {bd:D->Ev->Option Ev} {bs:List D->Ev->Option Ev} (h1:QGz κ B X tg bd) (h2:QGzs κ B X tgs bs) (h:aA tg=true):QGzs κ B X (tg :: tgs) (bp bd bs):=⟨Jc h1.h h2.h h⟩
theorem cb (ha:QXr κ B X a fa) (h:Lh a=true):QXt κ B X a (mT fa):=⟨Jf ha.h h⟩
theorem bi (ha:QXr κ B X a fa) (hb:QXr κ B X b fb) (h:vW b=true):QX κ B X (.Subscript a b pos) (m2 bP fa fb):=⟨Ly ha.h hb.h h⟩
theorem cN (hg:Gl X "len") (hm:X.mg "len" = none) (ha:QXr κ B X a fa) (h:aA a=true):QX κ B X (.Call (.Name "len" p) [a] [] pos) (m1 cj fa):=⟨Kk hg hm ha.h h⟩
theorem kd (T:Ty) {y:Str} (hy:y=Str.ofString T.nm) (hg:Gl X "isinstance") (hm:X.mg "isinstance" = none) (hgT:Gl X y) (hmT:X.mg y=none) (hn:y ≠ "__name__") (hdb:(y == ("__debug__" : Str))=false) (ha:QXr κ B X a fa) (h:aA a=true):QX κ B X (.Call (.Name "isinstance" p) [a,.Name y p'] [] pos) (m1 (λ x=>D9 (m9 x T)) fa):=⟨D0 T hy hg hm hgT hmT hn hdb ha.h h⟩
theorem cO (hg:Gl X "range") (hm:X.mg "range" = none) (ha:QXs κ B X [a] fs) (h:aA a=true):QIz κ B X tg (.Call (.Name "range" p) [a] [] pos) (λ δ=>(fs δ).bind lW):=⟨Bu hg hm ha.h h⟩
theorem d6 (cx:Cxo X) (hc:X.calm=true) {iter:Expr} {body:List Stmt} {fit:Ev->R (List D)} {bd:D->Ev->Option Ev} {F:Ev->SR} (hi:QIz κ B X tg iter fit) (hg:∀ B,QGz κ B X tg bd) (hb:∀ B,QZs κ B X body F) (h:vW iter=true):QZ κ B X (.For tg iter body [] pos) (cG fit bd F):=⟨Kj cx hc hi.h (λ z=>(hg z).h) (λ z=>(hb z).h) h⟩
theorem Dz (hu:X.A.units + 64 < cLine) (ha:QXr κ B X a fa) (hb:QXr κ B X b fb) (hm:behindInMarks .In b=false):QXt κ B X (.Compare a [.In] [b] pos) (bY yt fa fb):=⟨Fu hu ha.h hb.h hm⟩
theorem FH (cx:Cxo X) {i:Nat} {x:Str} (hN:X.N[i]?=some x) (hv:kT X.env.scope x) (hd:(x == ("__debug__" : Str))=false) (hcd:(x == ("__classdict__" : Str))=false) (hline:(apos.endLine == pos'.line)=true):QZ κ B X (.Expr (.Call (.Attribute (.Name x pos) "pop" apos) [] [] pos') pos'') (D2 i):=⟨IE cx hN hv hd hcd hline⟩
theorem FK (hc:X.calm=true) (hg:Gl X "min") (hm:X.mg "min" = none) (ha:QXr κ B X a fa) (h:aA a=true):QX κ B X (.Call (.Name "min" p) [a] [] pos) (m1 rk fa):=⟨Je hc hg hm ha.h h⟩
theorem DA {o e:Expr} {fo:Ev->R D} {fs:Ev->R (List D)} {apos:Pos} (hu:X.A.units + 64 < cLine) (ho:QXr κ B X o fo) (ha:QXs κ B X [e] fs) (hs:aA e=true) (hline:(apos.endLine == pos.line)=true) (hbase:attributeBase o "index" X.env (eval o X.env)=eval o X.env):QX κ B X (.Call (.Attribute o "index" apos) [e] [] pos) (JF nu fo fs):=⟨Gf hu ho.h ha.h hs hline hbase⟩
theorem Ba (hu:X.A.units + 64 < cLine) (ha:QXr κ B X a fa) (hb:QXr κ B X b fb) (hm:behindInMarks .NotIn b=false):QXt κ B X (.Compare a [.NotIn] [b] pos) (bY rm fa fb):=⟨Dj hu ha.h hb.h hm⟩
theorem Bb (i:Nat) (h:QXt κ B X e t):QXt κ B X e (λ δ=>t (iY i δ)):=⟨Dk i h.h⟩
theorem Dv (hg:Gl X "zip") (hm:X.mg "zip" = none) (h:QXs κ B X [a,b] fs) (hs1:aA a=true) (hs2:aA b=true):QIg κ B X (.Tuple tgs kk tpos) (.Call (.Name "zip" p) [a,b] [] pos) (λ δ=>(fs δ).bind r6):=⟨Fc hg hm h.h hs1 hs2⟩
theorem xq (hu:X.A.units + 64 < cLine) (ha:QXr κ B X a fa) (hb:QXr κ B X b fb) (hm:behindInMarks .In b=false):QXt κ B X (.Compare a [.In] [b] pos) (bY wW fa fb):=⟨Fv hu ha.h hb.h hm⟩
theorem A9 (hc:X.calm=true) (hgs:Gl X "sorted") (hms:X.mg "sorted" = none) (hg:Gl X "set") (hm:X.mg "set" = none) (ha:QXr κ B X a fa) (h:aA a=true):QXf κ B X (.Call (.Name "sorted" p) [.Call (.Name "set" p') [a] [] pos'] [] pos) (λ δ=>(fa δ).bind rR):=⟨Dg hc hgs hms hg hm ha.h h⟩
theorem rH (hg:Gl X "reversed") (hm:X.mg "reversed" = none) (h:QX κ B X e f) (hs:aA e=true):QIz κ B X tg (.Call (.Name "reversed" p) [e] [] pos) (λ δ=>(f δ).bind vI):=⟨Fd hg hm h.h hs⟩
theorem pR (cx:Cxo X) {i:Nat} {x:Str} (hN:X.N[i]?=some x) (hv:kT X.env.scope x) (hd:(x == ("__debug__" : Str))=false) (hcd:(x == ("__classdict__" : Str))=false) (hline:(apos.endLine == pos'.line)=true):QZ κ B X (.Expr (.Call (.Attribute (.Name x pos) "reverse" apos) [] [] pos') pos'') (sM i):=⟨yP cx hN hv hd hcd hline⟩
theorem IM (hc:X.calm=true) (hg:Gl X "sum") (hm:X.mg "sum" = none) (ha:QXr κ B X a fa) (h:aA a=true):QX κ B X (.Call (.Name "sum" p) [a] [] pos) (m1 AM fa):=⟨Ko hc hg hm ha.h h⟩
theorem tJ (hg:Gl X "enumerate") (hm:X.mg "enumerate" = none) (h:QX κ B X e f) (hs:aA e=true):QIg κ B X (.Tuple tgs kk tpos) (.Call (.Name "enumerate" p) [e] [] pos) (λ δ=>(f δ).bind pL):=⟨C6 hg hm h.h hs⟩
theorem vH (cx:Cxo X) (hc:X.calm=true) {tg iter:Expr} {body:List Stmt} {fit:Ev->R (List D)} {bd:D->Ev->Option Ev} {F:Ev->SR} (hi:QIg κ B X tg iter fit) (hg:∀ B,QGz κ B X tg bd) (hb:∀ B,QZs κ B X body F) (h:vW iter=true):QZ κ B X (.For tg iter body [] pos) (cG fit bd F):=⟨Jd cx hc hi.h (λ z=>(hg z).h) (λ z=>(hb z).h) h⟩
theorem rK (ha:QXr κ B X a fa) (hb:QXr κ B X b fb):QX κ B X (.BinOp a .BitAnd b pos) (m2 ri fa fb):=⟨Fp ha.h hb.h⟩
theorem jc (ha:QXr κ B X a fa):QX κ B X (.UnaryOp .USub a pos) (m1 nv fa):=⟨Il ha.h⟩
theorem mo (hg:Gl X "list") (hm:X.mg "list" = none) (ha:QXr κ B X a fa) (h:aA a=true):QXf κ B X (.Call (.Name "list" p) [a] [] pos) (λ δ=>(fa δ).bind aV):=⟨Df hg hm ha.h h⟩
theorem DB (hc:X.calm=true) (hg:Gl X "min") (hm:X.mg "min" = none) (ha:QXs κ B X [a,b] fs) (h:aA a=true) (h':aA b=true):QX κ B X (.Call (.Name "min" p) [a,b] [] pos) (yp nW fs):=⟨Kl hc hg hm ha.h h h'⟩
theorem DC (hg:Gl X "int") (hm:X.mg "int" = none) (ha:QXs κ B X [a] fs) (h:aA a=true):QX κ B X (.Call (.Name "int" p) [a] [] pos) (yp AJ fs):=⟨Gg hg hm ha.h h⟩
theorem o8:QXo κ B X none sw:=⟨Dh ⟩
theorem ka (h:QX κ B X a fa):QXo κ B X (some a) (mP fa):=⟨Di h.h⟩
theorem zS {lo hi:Option Expr} {fl fh:Ev->R (Option Int)} {p2:Pos} (ha:QXr κ B X a fa) (hl:QXo κ B X lo fl) (hh:QXo κ B X hi fh):QX κ B X (.Subscript a (.Slice lo hi none p2) pos) (AD fa fl fh):=⟨Lz ha.h hl.h hh.h⟩
theorem xr (hu:X.A.units + 64 < cLine) (ha:QXr κ B X a fa) (hb:QXr κ B X b fb) (hm:behindInMarks .NotIn b=false):QXt κ B X (.Compare a [.NotIn] [b] pos) (bY wZ fa fb):=⟨Fw hu ha.h hb.h hm⟩
theorem vC (ha:QXr κ B X a fa) (hb:QXr κ B X b fb):QX κ B X (.BinOp a .Add b pos) (m2 qc fa fb):=⟨Ie ha.h hb.h⟩
theorem Bd {cpos np p:Pos} {c:Nat} (cx:Cxo X) (hc:X.calm=true) (C:vY κ X x c) (hg:Gl X x) {y:Str} {j:Nat} (hd:(x == ("__debug__" : Str))=false):QZ κ B X (.Raise (some (.Call (.Name x np) [.Constant (.str y) j p] [] cpos)) none pos) (λ δ=>.exc c δ):=⟨Do cx hc C hg hd⟩
end
theorem bn {P:Program} {w:World} {K:PySem.W.Frag} {mg:Str->Option Value} {base:Heap} {κ:Nat->Addr} {x qual:Str} {st:Stmt} {f:Addr} {fd:FuncData} {N ps:List Str} {k:Nat} {F:Ev->SR}
  (Fn:Fun K x qual st f fd) (S:FnScope N ps (am st))
  (hb:∀ (X:Cx) (B:Gd),Cxo X->X.calm=true->X.prog=P->X.w=w->X.K=K->X.mg=mg->X.base=base->X.N=N->X.env.scope=am st->(∀ y,X.fn y=true)->Room k X.A->FrmOk X->QZs κ B X (ay st) F) :
  FnOk P w K mg base (pU P w) (k + 1) f fd ps (GG K κ ps.length λ ds=>iP (F (av N.length ds))):=An Fn S λ X B a1 a2 a3 a4 a5 a6 a7 a8 a9 a10 a11 a12=>(hb X B a1 a2 a3 a4 a5 a6 a7 a8 a9 a10 a11 a12).h
end L3
namespace L3
open PySem PySem.Spec PyProof.Rows L2
structure QIcz (κ:Nat->Addr) (B:Gd) (X:Cx) (tg e:Expr) (f:Ev->R (List D)):Prop where
 h:Ef κ B X tg e f
structure QTs (κ:Nat->Addr) (B:Gd) (X:Cx) (e:List Expr) (f:Ev->R Bool):Prop where
 h:Eg κ B X e f
structure QR {α:Type} (κ:Nat->Addr) (B:Gd) (X:Cx) (e:Expr) (ρ:kS α) (f:Ev->R α):Prop where
 h:PR κ B X e ρ f
structure QZr {α:Type} (κ:Nat->Addr) (B:Gd) (X:Cx) (st:List Stmt) (ρ:kS α) (F:Ev->R α):Prop where
 h:BB κ B X st ρ F
section
variable {κ:Nat->Addr} {B:Gd} {X:Cx} {a b c e tg iter elt:Expr} {es ifs:List Expr} {f:Ev->R D} {t:Ev->R Bool} {fs fl fit:Ev->R (List D)} {pos p px:Pos} {x:Str} {m:List D->R (List D)} {n i:Nat} {sc:Scope}
theorem j8 (h:QX κ B X e f):QIcz κ B X tg e (λ δ=>(f δ).bind aV):=⟨C5 h.h⟩
theorem vA (hg:Gl X "range") (hm:X.mg "range" = none) (ha:QXs κ B X [a] fs) (h:aA a=true):QIcz κ B X tg (.Call (.Name "range" p) [a] [] pos) (λ δ=>(fs δ).bind lW):=⟨xf hg hm ha.h h⟩
theorem iS:QTs κ B X [] (λ _=>.ok true):=⟨Fl⟩
theorem Dw (h:QXt κ B X c t):QTs κ B X [c] t:=⟨Fm h.h⟩
theorem b6 (c:Cxo X) (C:CalR κ X x n ρ1 m) (hn:(a :: es).length=n) (hg:Gl X x) (ha:QXs κ B X (a :: es) fs) (hdb:(x == ("__debug__" : Str))=false) (h:(a :: es).all aA=true)
  (hlen:∀ δ ds,fs δ=.ok ds->ds.length=n):QXf κ B X (.Call (.Name x p) (a :: es) [] pos) (λ δ=>(fs δ).bind m):=⟨De c C hn hg ha.h hdb h hlen⟩
theorem md (h:QXf κ B X e fl):QR κ B X e ρ1 fl:=⟨JS h.h⟩
theorem qt (i:Nat) {x:Str} (hN:X.N[i]?=some x) (hv:kT X.env.scope x) (hd:(x == ("__debug__" : Str))=false) (hcd:(x == ("__classdict__" : Str))=false):QR κ B X (.Name x pos) ρ1 (gP i):=⟨HS i hN hv hd hcd⟩
end
structure QIcg (κ:Nat->Addr) (B:Gd) (X:Cx) (tg e:Expr) (f:Ev->R (List D)):Prop where
 h:r8 κ B X tg e f
section
variable {κ:Nat->Addr} {B:Gd} {X:Cx} {a b e tg iter elt:Expr} {tgs ifs:List Expr} {f:Ev->R D} {t:Ev->R Bool} {fs fit:Ev->R (List D)} {bd:D->Ev->Option Ev} {pos p tpos:Pos} {kk i:Nat} {sc:Scope} {N0 xs:List Str} {keys:List (Option Expr)} {values:List Expr} {ks:List cY}
theorem j0 (h:QIcz κ B X tg e fit):QIcg κ B X tg e fit:=⟨Fb h.h⟩
theorem yS (hg:Gl X "enumerate") (hm:X.mg "enumerate" = none) (h:QX κ B X e f) (hs:aA e=true):QIcg κ B X (.Tuple tgs kk tpos) (.Call (.Name "enumerate" p) [e] [] pos) (λ δ=>(f δ).bind pL):=⟨AU hg hm h.h hs⟩
theorem A7 (hg:Gl X "zip") (hm:X.mg "zip" = none) (h:QXs κ B X [a,b] fs) (hs1:aA a=true) (hs2:aA b=true):QIcg κ B X (.Tuple tgs kk tpos) (.Call (.Name "zip" p) [a,b] [] pos) (λ δ=>(fs δ).bind r6):=⟨C0 hg hm h.h hs1 hs2⟩
theorem jY (hc:X.calm=true) (co:CompOkG X sc N0 xs) (hi:QIcg κ B X tg iter fit) (hbd:BdOk X.N.length xs.length bd)
  (hg:∀ X' B',CmpIsG X sc (N0++xs) X'->QGz κ B' X' tg bd) (ht:∀ X' B',CmpIsG X sc (N0++xs) X'->QTs κ B' X' ifs t) (he:∀ X' B',CmpIsG X sc (N0++xs) X'->QX κ B' X' elt f)
  (hs:vW iter=true):QXf κ B X (.ListComp elt [⟨tg,iter,ifs,0⟩] sc pos) (bj xs.length fit bd t f):=⟨BV hc co hi.h hbd (λ X' B' h=>(hg X' B' h).h) (λ X' B' h=>(ht X' B' h).h) (λ X' B' h=>(he X' B' h).h) hs⟩
theorem yW (cx:Cxo X) {y:Str} {py spos:Pos} {i:Nat} (hN:X.N.Nodup) (hy:X.N[i]?=some y) (hk:X.env.scope.kind=.function) (hx:X.env.scope.names.lookup y=some .local) (hl:(py.line == pos.line)=true) (hn:(sc.names.any λ p=>p.1 == y && (p.2 == .local || p.2 == .cell))=false)
  (hc:X.calm=true) (co:CompOkG X sc N0 xs) (hi:QIcg κ B X tg iter fit) (hbd:BdOk X.N.length xs.length bd)
  (hg:∀ X' B',CmpIsG X sc (N0++xs) X'->QGz κ B' X' tg bd) (ht:∀ X' B',CmpIsG X sc (N0++xs) X'->QTs κ B' X' ifs t) (he:∀ X' B',CmpIsG X sc (N0++xs) X'->QX κ B' X' elt f)
  (hs:vW iter=true):QZ κ B X (.Assign [.Name y py] (.ListComp elt [⟨tg,iter,ifs,0⟩] sc pos) spos) (bo i (mL (bj xs.length fit bd t f))):=⟨Bm cx hN hy hk hx hl hn hc co hi.h hbd (λ X' B' h=>(hg X' B' h).h) (λ X' B' h=>(ht X' B' h).h) (λ X' B' h=>(he X' B' h).h) hs⟩
end
section
variable {κ:Nat->Addr} {B:Gd} {X:Cx} {a e:Expr} {es:List Expr} {fs:Ev->R (List D)} {pos pos' p p1 p2:Pos} {x y:Str} {n i j k:Nat}
end
section
variable {α:Type} {ρ:kS α} {κ:Nat->Addr} {B:Gd} {X:Cx} {e:Expr} {f:Ev->R α} {pos:Pos}
theorem cC (cx:Cxo X) (h:QR κ B X e ρ f):QZr κ B X [.Return (some e) pos] ρ f:=⟨zP cx h.h⟩
theorem aU {st:Stmt} {aG:List Stmt} {F1:Ev->SR} {F2:Ev->R α} (h1:QZ κ B X st F1) (h2:QZr κ B X aG ρ F2):QZr κ B X (st :: aG) ρ (aX F1 F2):=⟨Dq h1.h h2.h⟩
end
theorem aO {α:Type} {ρ:kS α} {P:Program} {w:World} {K:PySem.W.Frag} {mg:Str->Option Value} {base:Heap} {κ:Nat->Addr} {x qual:Str} {st:Stmt} {f:Addr} {fd:FuncData} {N ps:List Str} {k:Nat} {F:Ev->R α}
  (Fn:Fun K x qual st f fd) (S:FnScope N ps (am st))
  (hb:∀ (X:Cx) (B:Gd),Cxo X->X.calm=true->X.prog=P->X.w=w->X.K=K->X.mg=mg->X.base=base->X.N=N->X.env.scope=am st->(∀ y,X.fn y=true)->Room k X.A->FrmOk X->QZr κ B X (ay st) ρ F) :
  FnOk P w K mg base (pU P w) (k + 1) f fd ps (GI K κ ps.length ρ λ ds=>l4 (F (av N.length ds))):=yk Fn S λ X B a1 a2 a3 a4 a5 a6 a7 a8 a9 a10 a11 a12=>(hb X B a1 a2 a3 a4 a5 a6 a7 a8 a9 a10 a11 a12).h
structure VP (X:Cx) (i:Nat) (x:Str):Prop where
 cx:Cxo X
 nd:X.N.Nodup
 n:X.N[i]?=some x
 l:mM X.env.scope x
 vi:kT X.env.scope x
 fn:X.fn x=true
 d1:(x == ("__debug__" : Str))=false
 d2:(x == ("__classdict__" : Str))=false
section
variable {κ:Nat->Addr} {B:Gd} {X:Cx} {e k:Expr} {f fk:Ev->R D} {fl:Ev->R (List D)} {pos p p' p2 ap:Pos} {x:Str} {i:Nat} {N:List Str} {sc:Scope}
theorem mv {N P:List Str} {sc:Scope} (h1:sc.kind=.function:=by rfl) (h2:sc.isCoroutine=false:=by rfl) (h3:sc.isGenerator=false:=by rfl) (h4:N.Nodup:=by decide +kernel) (h5:N.take P.length=P:=by rfl) (h6:∀ x∈P,sc.names.lookup x=some .local \/ sc.names.lookup x=some .cell:=by decide +kernel) (h7:∀ y∈sc.names,y.2 ≠ .free:=by decide +kernel):FnScope N P sc:=⟨h1,h2,h3,h4,h5,h6,h7⟩
theorem cm {X:Cx} {x:Str} {sc:Scope} (hsc:X.env.scope=sc) (h:sc.names.lookup x=some .globalImplicit:=by rfl):Gl X x:=by
 show X.env.scope.names.lookup x=_
 rw [hsc];exact h
theorem aS (cx:Cxo X) (nd:X.N.Nodup) (fn:∀ y,X.fn y=true) (hN:X.N=N) (hsc:X.env.scope=sc) (n:N[i]?=some x:=by rfl) (lv:sc.names.lookup x=some .local:=by rfl) (d1:(x == ("__debug__" : Str))=false:=by decide) (d2:(x == ("__classdict__" : Str))=false:=by decide):VP X i x:=
 ⟨cx,nd,by rw [hN];exact n,.inl (by rw [hsc];exact lv),.inl (by rw [hsc];exact lv),fn x,d1,d2⟩
theorem Ki (cx:Cxo X) (nd:X.N.Nodup) (fn:∀ y,X.fn y=true) (hN:X.N=N) (hsc:X.env.scope=sc) (n:N[i]?=some x) (lv:sc.names.lookup x=some .cell) (d1:(x == ("__debug__" : Str))=false) (d2:(x == ("__classdict__" : Str))=false):VP X i x:=
 ⟨cx,nd,by rw [hN];exact n,.inr (by rw [hsc];exact lv),.inr (.inl (by rw [hsc];exact lv)),fn x,d1,d2⟩
theorem VP.v (V:VP X i x):QX κ B X (.Name x pos) (ac i):=cq i V.n V.vi V.d1 V.d2
theorem VP.r (V:VP X i x):QXr κ B X (.Name x pos) (bO i):=Dy i V.n V.vi V.d1 V.d2
theorem VP.s (V:VP X i x) (h:QX κ B X e f) (h2:fK e=true):QZ κ B X (.Assign [.Name x p'] e p) (bo i f):=IL V.cx V.nd V.n V.l (.inl V.fn) h h2
theorem VP.w (V:VP X i x) (h:QXf κ B X e fl) (h2:fK e=true):QZ κ B X (.Assign [.Name x p'] e p) (dM i fl):=IK V.cx V.nd V.n V.l (.inl V.fn) h h2
theorem VP.a (V:VP X i x) (h:QX κ B X e f) (h2:aA e=true) (h3:(ap.endLine == p'.line)=true):QZ κ B X (.Expr (.Call (.Attribute (.Name x p) "append" ap) [e] [] p') p2) (cF i f):=Bf V.cx V.n V.vi V.d1 V.d2 h h2 h3
theorem VP.t (V:VP X i x):QGz κ B X (.Name x p) (bN i):=cB V.cx V.nd V.n V.l (.inl V.fn)
theorem VP.ua (V:VP X i x) (h:QX κ B X e f):QZ κ B X (.AugAssign (.Name x p') .Add e p) (nE i (λ i j=>i + j) f):=zR V.cx (λ _=>Hh) V.nd V.n V.l (.inl V.fn) h
theorem VP.us (V:VP X i x) (h:QX κ B X e f):QZ κ B X (.AugAssign (.Name x p') .Sub e p) (nE i (λ i j=>i - j) f):=zR V.cx (λ _=>Hi) V.nd V.n V.l (.inl V.fn) h
end
noncomputable def FF (K:PySem.W.Frag) (x:Str) (st:Stmt):Prop:=∃ (f:Addr) (oc kV dc pm cd ct:Value) (od an:Option Addr) (sl:Array (Option Value)),PySem.W.nsIn K mainGlobals x=some (some (.ref f)) ∧
 K.lookup f=some ⟨oc,od,.func (PySem.W.fnOf x x (c7 st) (ay st) (am st) .none kV dc pm an cd ct),sl⟩/\PySem.W.codeIn K cd x=true/\PySem.W.keepIn K (.ref f)=true
theorem FF.mk {K:PySem.W.Frag} {x:Str} {st:Stmt} {f:Addr} {oc kV dc pm cd ct:Value} {od an:Option Addr} {sl:Array (Option Value)} (a:PySem.W.nsIn K mainGlobals x=some (some (.ref f))) (l:K.lookup f=some ⟨oc,od,.func (PySem.W.fnOf x x (c7 st) (ay st) (am st) .none kV dc pm an cd ct),sl⟩)
  (d:PySem.W.codeIn K cd x=true) (p:PySem.W.keepIn K (.ref f)=true):FF K x st:=⟨f,oc,kV,dc,pm,cd,ct,od,an,sl,a,l,d,p⟩
theorem FF.ft {K:PySem.W.Frag} {x:Str} {st:Stmt} {h:Heap} {mg:Str->Option Value} {ps:List Str} (F:FF K x st) (X:K.In h) (G:h.Ns mainGlobals mg)
  (hb:∀ (kV doc pm:Value) (an:Option Addr) (cdv ct:Value) (us:List Value),us.length=ps.length->bindArgs (PySem.W.fnOf x x (c7 st) (ay st) (am st) .none kV doc pm an cdv ct) ⟨us,[]⟩=pure (ps.zip us)):∃ f fd,Fun K x x st f fd/\mg x=some (.ref f)/\iZ K fd ps []:=by
 obtain ⟨f,oc,kV,dc,pm,cd,ct,od,an,sl,a,l,d,p⟩:=F
 exact ⟨f,_,qY l d p,PySem.W.mg_of X G a,(qY l d p).binds hb⟩
noncomputable def FT (K:PySem.W.Frag) (mg:Str->Option Value) (x:Str) (st:Stmt) (ps:List Str):Prop:=∃ f fd,Fun K x x st f fd/\mg x=some (.ref f)/\iZ K fd ps []
theorem bV {α:Type} {n:Nat} {us:List α} (h:us.length=n + 1):∃ a t,us=a :: t/\t.length=n:=by
 cases us with
 | nil=>cases h
 | cons a t=>exact ⟨a,t,rfl,Nat.succ.inj h⟩
theorem FF.ft1 {K:PySem.W.Frag} {x:Str} {st:Stmt} {h:Heap} {mg:Str->Option Value} {p0:Str} (F:FF K x st) (X:K.In h) (G:h.Ns mainGlobals mg)
  (hb:∀ (kV doc pm:Value) (an:Option Addr) (cdv ct a:Value),bindArgs (PySem.W.fnOf x x (c7 st) (ay st) (am st) .none kV doc pm an cdv ct) ⟨[a],[]⟩=pure [(p0,a)]):FT K mg x st [p0]:=
 F.ft (ps:=[p0]) X G λ kV doc pm an cdv ct us hl=>by
  obtain ⟨a,us1,e1,hl1⟩:=bV (n:=0) hl
  subst e1
  cases List.eq_nil_of_length_eq_zero hl1
  exact hb kV doc pm an cdv ct a
theorem FF.ft2 {K:PySem.W.Frag} {x:Str} {st:Stmt} {h:Heap} {mg:Str->Option Value} {p0 p1:Str} (F:FF K x st) (X:K.In h) (G:h.Ns mainGlobals mg)
  (hb:∀ (kV doc pm:Value) (an:Option Addr) (cdv ct a b:Value),bindArgs (PySem.W.fnOf x x (c7 st) (ay st) (am st) .none kV doc pm an cdv ct) ⟨[a,b],[]⟩=pure [(p0,a),(p1,b)]):FT K mg x st [p0,p1]:=
 F.ft (ps:=[p0,p1]) X G λ kV doc pm an cdv ct us hl=>by
  obtain ⟨a,us1,e1,hl1⟩:=bV (n:=1) hl
  subst e1
  obtain ⟨b,us2,e2,hl2⟩:=bV (n:=0) hl1
  subst e2
  cases List.eq_nil_of_length_eq_zero hl2
  exact hb kV doc pm an cdv ct a b
theorem FF.ft3 {K:PySem.W.Frag} {x:Str} {st:Stmt} {h:Heap} {mg:Str->Option Value} {p0 p1 p2:Str} (F:FF K x st) (X:K.In h) (G:h.Ns mainGlobals mg)
  (hb:∀ (kV doc pm:Value) (an:Option Addr) (cdv ct a b c:Value),bindArgs (PySem.W.fnOf x x (c7 st) (ay st) (am st) .none kV doc pm an cdv ct) ⟨[a,b,c],[]⟩=pure [(p0,a),(p1,b),(p2,c)]):FT K mg x st [p0,p1,p2]:=
 F.ft (ps:=[p0,p1,p2]) X G λ kV doc pm an cdv ct us hl=>by
  obtain ⟨a,us1,e1,hl1⟩:=bV (n:=2) hl
  subst e1
  obtain ⟨b,us2,e2,hl2⟩:=bV (n:=1) hl1
  subst e2
  obtain ⟨c,us3,e3,hl3⟩:=bV (n:=0) hl2
  subst e3
  cases List.eq_nil_of_length_eq_zero hl3
  exact hb kV doc pm an cdv ct a b c
theorem FF.ft4 {K:PySem.W.Frag} {x:Str} {st:Stmt} {h:Heap} {mg:Str->Option Value} {p0 p1 p2 p3:Str} (F:FF K x st) (X:K.In h) (G:h.Ns mainGlobals mg)
  (hb:∀ (kV doc pm:Value) (an:Option Addr) (cdv ct a b c d:Value),bindArgs (PySem.W.fnOf x x (c7 st) (ay st) (am st) .none kV doc pm an cdv ct) ⟨[a,b,c,d],[]⟩=pure [(p0,a),(p1,b),(p2,c),(p3,d)]):FT K mg x st [p0,p1,p2,p3]:=
 F.ft (ps:=[p0,p1,p2,p3]) X G λ kV doc pm an cdv ct us hl=>by
  obtain ⟨a,us1,e1,hl1⟩:=bV (n:=3) hl
  subst e1
  obtain ⟨b,us2,e2,hl2⟩:=bV (n:=2) hl1
  subst e2
  obtain ⟨c,us3,e3,hl3⟩:=bV (n:=1) hl2
  subst e3
  obtain ⟨d,us4,e4,hl4⟩:=bV (n:=0) hl3
  subst e4
  cases List.eq_nil_of_length_eq_zero hl4
  exact hb kV doc pm an cdv ct a b c d
theorem FF.ft5 {K:PySem.W.Frag} {x:Str} {st:Stmt} {h:Heap} {mg:Str->Option Value} {p0 p1 p2 p3 p4:Str} (F:FF K x st) (X:K.In h) (G:h.Ns mainGlobals mg)
  (hb:∀ (kV doc pm:Value) (an:Option Addr) (cdv ct a b c d e:Value),bindArgs (PySem.W.fnOf x x (c7 st) (ay st) (am st) .none kV doc pm an cdv ct) ⟨[a,b,c,d,e],[]⟩=pure [(p0,a),(p1,b),(p2,c),(p3,d),(p4,e)]):FT K mg x st [p0,p1,p2,p3,p4]:=
 F.ft (ps:=[p0,p1,p2,p3,p4]) X G λ kV doc pm an cdv ct us hl=>by
  obtain ⟨a,us1,e1,hl1⟩:=bV (n:=4) hl
  subst e1
  obtain ⟨b,us2,e2,hl2⟩:=bV (n:=3) hl1
  subst e2
  obtain ⟨c,us3,e3,hl3⟩:=bV (n:=2) hl2
  subst e3
  obtain ⟨d,us4,e4,hl4⟩:=bV (n:=1) hl3
  subst e4
  obtain ⟨e,us5,e5,hl5⟩:=bV (n:=0) hl4
  subst e5
  cases List.eq_nil_of_length_eq_zero hl5
  exact hb kV doc pm an cdv ct a b c d e
end L3
namespace L3
open PySem PySem.Spec PyProof.Rows L2
structure QXF (κ:Nat->Addr) (B:Gd) (X:Cx) (e:Expr) (f:Ev->R (List D)):Prop where
 h:GO κ B X e f
structure QXT (κ:Nat->Addr) (B:Gd) (X:Cx) (e:Expr) (f:Ev->R (List D × List D × List D)):Prop where
 h:KM κ B X e f
structure QZJ (i:Nat) (κ:Nat->Addr) (B:Gd) (X:Cx) (st:Stmt) (F:Ev->SR):Prop where
 h:GP i κ B X st F
structure QZsJ (i:Nat) (κ:Nat->Addr) (B:Gd) (X:Cx) (st:List Stmt) (F:Ev->SR):Prop where
 h:BE i κ B X st F
structure QZrJ (i:Nat) (κ:Nat->Addr) (B:Gd) (X:Cx) (st:List Stmt) (F:Ev->R (List D)):Prop where
 h:BD i κ B X st F
noncomputable def JJ (F:Ev->SR):Prop:=∀ δ,(∃ δ',F δ=.cont δ') \/ (∃ δ',F δ=.brk δ')->False
theorem mn (i:Nat) (f:Ev->R D):JJ (cF i f):=λ δ h=>by
 unfold cF at h
 split at h
 ·cases e:f δ with
  | ok d =>
   rw [e] at h
   simp only [eC] at h
   split at h <;> rcases h with ⟨_,h⟩ | ⟨_,h⟩ <;> cases h
  | exc c=>rw [e] at h;rcases h with ⟨_,h⟩ | ⟨_,h⟩ <;> cases h
  | stuck=>rw [e] at h;rcases h with ⟨_,h⟩ | ⟨_,h⟩ <;> cases h
 ·rcases h with ⟨_,h⟩ | ⟨_,h⟩ <;> cases h
theorem yr {t:Ev->R Bool} {F1 F2:Ev->SR} (h1:JJ F1) (h2:JJ F2):JJ (fN t F1 F2):=λ δ h=>by
 unfold fN at h
 cases e:t δ with
 | ok k =>
  rw [e] at h
  cases k with
  | true=>exact h1 δ h
  | false=>exact h2 δ h
 | exc c=>rw [e] at h;rcases h with ⟨_,h⟩ | ⟨_,h⟩ <;> cases h
 | stuck=>rw [e] at h;rcases h with ⟨_,h⟩ | ⟨_,h⟩ <;> cases h
noncomputable def rf {α:Type} (t:Ev->R Bool) (f F:Ev->R α):Ev->R α:=λ δ=>match t δ with
 | .ok k=>if k then f δ else F δ
 | _=>.stuck
theorem A3 {α:Type} {ρ:kS α} {κ:Nat->Addr} {B:Gd} {X:Cx} {c e:Expr} {t:Ev->R Bool} {f F:Ev->R α} {aG:List Stmt} {p p':Pos} (cx:Cxo X) (hc:mO κ B X c t) (h1:PR κ B X e ρ f) (h2:BB κ B X aG ρ F) :
  BB κ B X (.If c [.Return (some e) p'] [] p :: aG) ρ (rf t f F):=λ Ex pins s σ H G δ Dn hp I rp q=>by
 unfold rf at q
 cases et:t δ with
 | exc c=>rw [et] at q;exact False.elim q
 | stuck=>rw [et] at q;exact False.elim q
 | ok k =>
 rw [et] at q
 dsimp only at q
 refine wpAny_execs_cons (wpAny_If (br (hc pins σ Ex pins s σ H (λ v H'=>v=k/\∃ G',Rep ⟨X.K,κ⟩ B X.H₀ G' H' σ δ) (bq I) ⟨G,δ,rp,?_⟩) λ d s1 ⟨H',I',ek,G',rp'⟩=>?_))
 ·rw [et];exact λ v H' G' e1 d1=>⟨d1,G',rp.ext e1⟩
 subst ek
 have I':=aH cx.sg I'
 cases d with
 | true =>
  refine br (zP cx h1 Ex pins s1 σ H' G' δ { nx:=λ _ _=>False,rt:=Dn.rt } hp I' rp' ?_) λ fl s2 z=>?_
  ·simp only [if_true] at q
   cases z:f δ with
   | ok r=>rw [z] at q;exact q
   | exc c=>rw [z] at q;exact q
   | stuck=>rw [z] at q;exact q
  ·cases fl with
   | next=>obtain ⟨_,_,_,z⟩:=z;exact z.elim
   | ret v=>exact z
   | brk=>obtain ⟨_,_,_,z⟩:=z;exact z.elim
   | cont=>obtain ⟨_,_,_,z⟩:=z;exact z.elim
 | false =>
  simp only [Bool.false_eq_true,if_false] at q
  exact wpAny_execs_nil (h2 Ex pins s1 σ H' G' δ Dn hp I' rp' q)
section
variable {κ:Nat->Addr} {B:Gd} {X:Cx} {a b c e tg iter elt e1 e2 e3:Expr} {es ifs:List Expr} {f:Ev->R D} {t:Ev->R Bool} {fs fl fit:Ev->R (List D)} {pos pos' pos'' apos p p' px:Pos} {x y:Str} {m:List D->R (List D)} {n i j:Nat} {sc:Scope} {st:Stmt} {aG s1 s2:List Stmt} {F F1 F2:Ev->SR} {Fr2:Ev->R (List D)}
theorem fM (cx:Cxo X) (C:CalR κ X x n ρF m) (hn:(a :: es).length=n) (hg:Gl X x) (ha:QXs κ B X (a :: es) fs) (hdb:(x == ("__debug__" : Str))=false) (h:(a :: es).all aA=true)
  (hlen:∀ δ ds,fs δ=.ok ds->ds.length=n):QXF κ B X (.Call (.Name x p) (a :: es) [] pos) (λ δ=>(fs δ).bind m):=⟨Dc cx C hn hg ha.h hdb h hlen⟩
theorem n5 (h:QXF κ B X e fl):QR κ B X e ρF fl:=⟨HR h.h⟩
theorem yT {N0 xs:List Str} {bd:D->Ev->Option Ev} (hc:X.calm=true) (co:CompOkG X sc N0 xs) (hi:QIcg κ B X tg iter fit) (hbd:BdOk X.N.length xs.length bd)
  (hg:∀ X' B',CmpIsG X sc (N0++xs) X'->QGz κ B' X' tg bd) (ht:∀ X' B',CmpIsG X sc (N0++xs) X'->QTs κ B' X' ifs t) (he:∀ X' B',CmpIsG X sc (N0++xs) X'->QXf κ B' X' elt fl)
  (hs:vW iter=true):QXF κ B X (.ListComp elt [⟨tg,iter,ifs,0⟩] sc pos) (bj xs.length fit bd t (mL fl)):=⟨AZ hc co hi.h hbd (λ X' B' h=>(hg X' B' h).h) (λ X' B' h=>(ht X' B' h).h) (λ X' B' h=>(he X' B' h).h) hs⟩
theorem kK {α:Type} {ρ:kS α} {g G:Ev->R α} (cx:Cxo X) (hc:QXt κ B X c t) (h1:QR κ B X e ρ g) (h2:QZr κ B X aG ρ G):QZr κ B X (.If c [.Return (some e) p'] [] p :: aG) ρ (rf t g G):=⟨A3 cx hc.h h1.h h2.h⟩
theorem VP.oJ (V:VP X i x) (h2:QZrJ i κ B X aG Fr2):QZr κ B X (.Assign [.Name x pos'] (.List [] p) pos :: aG) ρF (aX (dM i (λ δ=>lim (au δ))) Fr2):=⟨A4 V.cx V.nd V.n V.l (.inl V.fn) (aZ rfl) h2.h⟩
theorem kL {Fr3:Ev->R (List D)} (h1:QZJ i κ B X st F1) (h2:QZrJ i κ B X aG Fr3):QZrJ i κ B X (st :: aG) (aX F1 Fr3):=⟨A5 h1.h h2.h⟩
theorem VP.rJ (V:VP X i x):QZrJ i κ B X [.Return (some (.Name x p)) pos] (gP i):=⟨Ds V.cx V.n V.vi V.d1 V.d2⟩
theorem dF (h:QZJ i κ B X st F):QZsJ i κ B X [st] F:=⟨Du h.h⟩
theorem vG (cx:Cxo X) (hc:QXt κ B X c t) (h1:QZsJ i κ B X s1 F1) (h2:QZsJ i κ B X s2 F2):QZJ i κ B X (.If c s1 s2 pos) (fN t F1 F2):=⟨IH cx hc.h h1.h h2.h⟩
theorem VP.aJ (V:VP X i x) (h:QXf κ B X e fl) (hs:aA e=true) (hl:(apos.endLine == pos'.line)=true):QZJ i κ B X (.Expr (.Call (.Attribute (.Name x pos) "append" apos) [e] [] pos') pos'') (cF i (mL fl)):=⟨yQ V.cx V.n V.vi V.d1 V.d2 h.h hs hl⟩
theorem VP.vJ (V:VP X i x) (hl:(apos.endLine == pos'.line)=true):QZJ i κ B X (.Expr (.Call (.Attribute (.Name x pos) "reverse" apos) [] [] pos') pos'') (sM i):=⟨xo V.cx V.n V.vi V.d1 V.d2 hl⟩
theorem VP.fJ (V:VP X j y) (hc:X.calm=true) {body:List Stmt} (hij:i ≠ j) (hi:QIz κ B X (.Name y p) iter fit) (hb:∀ B,QZsJ i κ B X body F) (hs:vW iter=true) (hno:JJ F):QZJ i κ B X (.For (.Name y p) iter body [] pos) (cG fit (bN j) F):=
 ⟨FB V.cx hc hij V.nd V.n V.l (.inl V.fn) hi.h (λ B=>(hb B).h) (kD hs) hno⟩
end
noncomputable def Kv (P:Program) (w:World) (K:PySem.W.Frag) (mg:Str->Option Value) (base:Heap) (x:Str) (ps:List Str) (k:Nat):Prop:=
 ∃ f fd,FnOk P w K mg base (pU P w) k f fd ps KA/\mg x=some (.ref f)/\PySem.W.keepIn K (.ref f)=true/\iZ K fd ps []
theorem Kv.cal {X:Cx} {x:Str} {ps:List Str} {k j:Nat} (h:Kv X.prog X.w X.K X.mg X.base x ps k) (hr:Room j X.A) (hj:k <= j):CalS X x:=by
 obtain ⟨f,fd,F,h1,h2,h3⟩:=h
 exact ⟨f,fd,ps,k,F,hr.mono hj,h1,h2,h3⟩
theorem Cb {P:Program} {w:World} {K:PySem.W.Frag} {mg:Str->Option Value} {base:Heap} {x qual:Str} {st:Stmt} {f:Addr} {fd:FuncData} {N ps:List Str} {k:Nat} {c d:Int} (Fn:Fun K x qual st f fd) (S:FnScope N ps (am st)) (hps:ps.length=1) (hN2:N.length=2)
  (hb:∀ (X:Cx),(∀ p σ,X.sg p σ)->PassesOwn (model X.prog X.w) X.A X.env X.xe->X.calm=true->X.N=N->X.env.scope=am st->(∀ y,X.fn y=true)->GN X (ay st) (vU X.K c d)):FnOk P w K mg base (pU P w) (k + 1) f fd ps KA:=by
 obtain ⟨oc,od,kV,doc,pm,an,cdv,ct,osl,rfl,lk,hcd⟩:=Fn.ex
 refine Ca lk hcd S (λ vs H Q E h=>by obtain ⟨a,us,rfl,_⟩:=h;exact hps.symm) λ A outer s H vs Q E hr hsp=>?_
 generalize hX:wj (pU P w) P w K mg base N qual (am st) f cdv A outer s H E=X
 refine ⟨vU X.K c d,hb X (by rw [<- hX];exact λ _ _=>trivial) (by rw [<- hX];exact PassesOwn.leaving) (by rw [<- hX];rfl) (by rw [<- hX];rfl) (by rw [<- hX];rfl) (λ y=>by rw [<- hX];rfl),xG hN2 hsp⟩
section
variable {κ:Nat->Addr} {B:Gd} {X:Cx} {e e1 e2 e3:Expr} {f:Ev->R (List D)} {m2:List D->R (List D)} {x y z g h:Str} {it ik im:Nat} {aG:List Stmt} {F2:Ev->SR} {p p' q q' r1 r2 r3:Pos} {f1:Ev->R (List D × List D × List D)} {f2:Ev->R (List D)} {f3:Ev->R D} {c5 c6:Int}
 {p1 p1' p2 p2' p3 p3' t1 t2 t3 t4 t5 t6 u1 u2 u3 u4 u5 u6 u7 w1 w2 w3 w4 w5 w6 w7:Pos} {j4 j5 j6 l5 l6:_}
theorem yV (V:VP X it x) (W:VP X ik y) (hne:it ≠ ik) (hE:QXF κ B X e f) (hsE:fK e=true) (C2:CalR κ X g 1 ρF m2) (hg2:Gl X g) (dg:(g == ("__debug__" : Str))=false) (C3:CalS X h) (hg3:Gl X h) (dh:(h == ("__debug__" : Str))=false) (h2:QZs κ B X aG F2) :
  QZs κ B X (.Assign [.Name x p'] e p :: .Assign [.Name y q'] (.Call (.Name g r1) [.Name x r2] [] r3) q :: .Expr (.Call (.Name h t1) [.Name x t2] [] t3) t4 :: aG) (aD (rY it ik f m2) F2):=
 ⟨A6 V.cx hne V.nd V.n V.l V.vi V.fn V.d1 V.d2 W.n W.l W.fn hE.h (aZ hsE) C2 hg2 dg C3 hg3 dh h2.h⟩
theorem A8 {a:Expr} {es:List Expr} {fs:Ev->R (List D)} {pos:Pos} {m:List D->R (List D × List D × List D)} {n:Nat} (c:Cxo X) (C:CalR κ X x n ρT m) (hn:(a :: es).length=n) (hg:Gl X x) (ha:QXs κ B X (a :: es) fs) (hdb:(x == ("__debug__" : Str))=false) (h:(a :: es).all aA=true)
  (hlen:∀ δ ds,fs δ=.ok ds->ds.length=n):QXT κ B X (.Call (.Name x p) (a :: es) [] pos) (λ δ=>(fs δ).bind m):=⟨Dd c C hn hg ha.h hdb h hlen⟩
theorem xt (V:VP X it x) (W:VP X ik y) (U:VP X im z) (hik:it ≠ ik) (him:it ≠ im) (hkm:ik ≠ im) (h1:QXT κ B X e1 f1) (hs1:fK e1=true) (h2:QXF κ B X e2 f2) (hs2:fK e2=true) (h3:QX κ B X e3 f3) (hs3:fK e3=true)
  (C4:CalS X h) (hg4:Gl X h) (dh:(h == ("__debug__" : Str))=false) (i5:(u4.endLine == u6.line)=true) (i6:(w4.endLine == w6.line)=true) (hr:QZs κ B X aG F2) :
  QZs κ B X (.Assign [.Name x p1'] e1 p1 :: .Assign [.Name y p2'] e2 p2 :: .Assign [.Name z p3'] e3 p3 :: .Expr (.Call (.Name h t1) [.Subscript (.Name x t2) (.Constant (.int 2) j4 t3) t4] [] t5) t6 ::
   .Expr (.Call (.Attribute (.Subscript (.Name x u1) (.Constant (.int 0) j5 u2) u3) "append" u4) [.Constant (.int c5) l5 u5] [] u6) u7 :: .Expr (.Call (.Attribute (.Subscript (.Name x w1) (.Constant (.int 1) j6 w2) w3) "append" w4) [.Constant (.int c6) l6 w5] [] w6) w7 :: aG) (aD (oz it ik im f1 f2 f3) F2):=
 ⟨yR V.cx hik him hkm V.nd V.n V.l V.vi V.fn V.d1 V.d2 W.n W.l W.fn U.n U.l U.fn h1.h (aZ hs1) h2.h (aZ hs2) h3.h (aZ hs3) C4 hg4 dh i5 i6 hr.h⟩
theorem yU {sc:Scope} {N0 xs:List Str} {tg iter elt e1 e2:Expr} {ifs:List Expr} {fit:Ev->R (List D)} {bd:D->Ev->Option Ev} {t:Ev->R Bool} {f:Ev->R D} {f1 f2:Ev->R (List D)} {i j k:Nat} {xn xd xp:Str} {p1 p1' p2 p2' p3 p3' cpos r1 r2 r3 r4 r5:Pos} {kt:_} (Vn:VP X i xn) (Vd:VP X j xd) (Vp:VP X k xp) (hc:X.calm=true) (lp:X.env.scope.names.lookup xp=some .local)
  (hij:i ≠ j) (hik:i ≠ k) (hjk:j ≠ k) (h1:QXF κ B X e1 f1) (hs1:fK e1=true) (h2:QXf κ B X e2 f2) (hs2:fK e2=true)
  (hk:X.env.scope.kind=.function) (hl:(p3'.line == cpos.line)=true) (hn:(sc.names.any λ p=>p.1 == xp && (p.2 == .local || p.2 == .cell))=false) (co:CompOkG X sc N0 xs) (hi:QIcg κ B X tg iter fit) (hbd:BdOk X.N.length xs.length bd)
  (hg:∀ X' B',CmpIsG X sc (N0++xs) X'->QGz κ B' X' tg bd) (ht:∀ X' B',CmpIsG X sc (N0++xs) X'->QTs κ B' X' ifs t) (he:∀ X' B',CmpIsG X sc (N0++xs) X'->QX κ B' X' elt f) (hs:vW iter=true) :
  QZr κ B X [.Assign [.Name xn p1'] e1 p1,.Assign [.Name xd p2'] e2 p2,.Assign [.Name xp p3'] (.ListComp elt [⟨tg,iter,ifs,0⟩] sc cpos) p3,.Return (some (.Tuple [.Name xp r1,.Name xd r2,.Name xn r3] kt r4)) r5] ρT (re i j f1 f2 (bj xs.length fit bd t f)):=
 ⟨A2 Vn.cx hc Vn.nd Vn.n Vn.l Vn.vi Vn.fn Vd.n Vd.l Vd.vi Vd.fn Vp.n lp Vn.d1 Vn.d2 Vd.d1 Vd.d2 Vp.d1 Vp.d2 hij hik hjk h1.h (aZ hs1) h2.h (aZ hs2) hk hl hn co hi.h hbd (λ X' B' h=>(hg X' B' h).h) (λ X' B' h=>(ht X' B' h).h) (λ X' B' h=>(he X' B' h).h) hs⟩
end
theorem Be {κ:Nat->Addr} {B:Gd} {X:Cx} {α:Type} {ρ:kS α} {x y z:Str} {i j k:Nat} {p1 p2 p3 p4 p5 p6 p7 p8 p9 p10 p11:Pos} {aG:List Stmt} {F:Ev->R α} (cx:Cxo X) (hc:X.calm=true) (hu:X.A.units + 64 < cLine) (hND:X.N.Nodup) (hfn:∀ y,X.fn y=true) (hi:X.N[i]?=some x) (vx:kT X.env.scope x) (dx:(x == ("__debug__" : Str))=false) (cdx:(x == ("__classdict__" : Str))=false)
  (hj:X.N[j]?=some y) (ly:mM X.env.scope y) (vy:kT X.env.scope y) (dy:(y == ("__debug__" : Str))=false) (cdy:(y == ("__classdict__" : Str))=false)
  (hk:X.N[k]?=some z) (lz:mM X.env.scope z) (vz:kT X.env.scope z) (dz:(z == ("__debug__" : Str))=false) (cdz:(z == ("__classdict__" : Str))=false) (hij:i ≠ j) (hik:i ≠ k) (hjk:j ≠ k) {c:Nat} (hr:QZr κ B X aG ρ F) :
  QZr κ B X (.Assign [.Name y p1] (.Dict [] [] p2) p3 :: .For (.Name z p4) (.Name x p5) [.Assign [.Subscript (.Name y p6) (.Name z p7) p8] (.Constant (.bool true) c p9) p10] [] p11 :: aG) ρ (aX (me i j k) F):=⟨Dr (c:=c) cx hc hu hND hfn hi vx dx cdx hj ly vy dy cdy hk lz vz dz cdz hij hik hjk hr.h⟩
theorem Gc {q:Program} {loose:List Str} {XP:(Str->Option Value)->Heap->Prop} {K:Params->PySem.W.Frag} {as:List Addr} {n t:Nat} {r:PySem.W.RowW} {d:DefRec} {kwd:List (Str × Expr)} {run:Value->List Value->Sem Value}
  (h:PySem.W.WalkO q loose XP (PySem.W.InK K) r d kwd run) (e:∀ P,as=(K P).map (·.1)):PySem.W.WalkX q loose XP (PySem.W.X.obsZ as) (PySem.W.X.valZ K n t) r d kwd run:=
 λ w s₀ s₁ mg mb G y a o pm cd doc dV kV h1 h2 h3 h4 h5 h6 args vals as' L h7 h8 h9 h10 h11=>h w s₀ s₁ mg mb G (PySem.W.InK.keeps w _ _ (PySem.W.X.z_facts e y).2.1 L.keeps) a o pm cd doc dV kV h1 h2 h3 h4 h5 h6 args vals as' h7 h8 h9 h10 h11
end L3
namespace L3
open L2
theorem ah {F1 F2:Ev->SR} {δ δ':Ev} (h:F1 δ=.next δ'):aD F1 F2 δ=F2 δ':=by unfold aD;rw [h]
theorem D4 {F1 F2:Ev->SR} {δ:Ev} {d:D} (h:F1 δ=.ret d):aD F1 F2 δ=.ret d:=by unfold aD;rw [h]
theorem bx {t:Ev->R Bool} {F1 F2:Ev->SR} {δ:Ev} (h:t δ=.ok false):fN t F1 F2 δ=F2 δ:=by unfold fN;rw [h];rfl
theorem bQ {t:Ev->R Bool} {F1 F2:Ev->SR} {δ:Ev} (h:t δ=.ok true):fN t F1 F2 δ=F1 δ:=by unfold fN;rw [h];rfl
@[simp] theorem Jh (δ:Ev):iP (.next δ)=.ok .non:=rfl
@[simp] theorem qW (d:D):iP (.ret d)=.ok d:=rfl
@[simp] theorem JA (c:Nat) (δ:Ev):iP (.exc c δ)=.exc c:=rfl
@[simp] theorem l8 (i j:Int):d0 (.int i) (.int j)=.ok (.int (i + j)):=rfl
@[simp] theorem nX (i j:Int):kX (.int i) (.int j)=.ok (.int (i - j)):=rfl
theorem aR (i:Int) {j:Int} (h:0 < j):cL (.int i) (.int j)=.ok (.int (i % j)):=by simp [cL,oI,h]
theorem eI (i:Int) {j:Int} (h:0 < j) (h2:j < 1073741824):nr (.int i) (.int j)=.ok (.int (i / j)):=by simp [nr,oI,h,h2]
theorem yw {i:Int} (j:Int) (h:-18446744073709551616 < i) (h2:i < 18446744073709551616):kW (.int i) (.int j)=.ok (.int (i * j)):=by simp [kW,oI,h,h2]
theorem uT (i:Int) {j:Int} (h:-18446744073709551616 < j) (h2:j < 18446744073709551616):kW (.int i) (.int j)=.ok (.int (i * j)):=by simp [kW,oI,h,h2]
@[simp] theorem ES (i j:Int):qd (.int i) (.int j)=.ok (decide (i < j)):=rfl
@[simp] theorem zF (i j:Int):xR (.int i) (.int j)=.ok (decide (i <= j)):=rfl
@[simp] theorem kG (i j:Int):wV (.int i) (.int j)=.ok (decide (j < i)):=rfl
@[simp] theorem zE (i j:Int):Gu (.int i) (.int j)=.ok (decide (j <= i)):=rfl
@[simp] theorem Le {op:D->D->R Bool} {x y:D} {b:Bool} (h:op x y=.ok b):kI op x y=.ok (.bl b):=by unfold kI;rw [h];rfl
@[simp] theorem GT (b:Bool):D9 (.ok b)=.ok (.bl b):=rfl
@[simp] theorem BM (b:Bool):pI (.bl b)=.ok b:=rfl
@[simp] theorem ze (b:Bool):Eb (.bl b)=.ok b:=rfl
@[simp] theorem KC (i:Int):Eb (.int i)=.ok (i != 0):=rfl
@[simp] theorem KD (ds:List D):Eb (.lst ds)=.ok (!ds.isEmpty):=rfl
@[simp] theorem KF (ds:List D):Eb (.tup ds)=.ok (!ds.isEmpty):=rfl
@[simp] theorem cQ (ds:List D):cj (.lst ds)=.ok (.int ds.length):=rfl
@[simp] theorem CD (ds:List D):cj (.tup ds)=.ok (.int ds.length):=rfl
theorem jb {ds:List D} {i:Int} {d:D} (h:qD ds i=some d):bP (.lst ds) (.int i)=.ok d:=by simp [bP,h]
theorem iL {α:Type} {l:List α} {k:Nat} {d:α} (h:l[k]?=some d):qD l (k:Int)=some d:=El h
section
variable (op:D->D->R D) (opb:D->D->R Bool) (o1:D->R D) (f g h:Ev->R D) (fs gs:Ev->R (List D)) (t u:Ev->R Bool) (m:List D->R D) (δ:Ev) (F1 F2:Ev->SR)
@[simp] theorem wA (d:D):mC d δ=.ok d:=rfl
@[simp] theorem bL (i:Nat):ac i δ=(match δ[i]? with | some (some (.sh d))=>.ok d | _=>.stuck):=rfl
@[simp] theorem kB (i:Nat):bO i δ=(match δ[i]? with | some (some (.sh d))=>.ok d | some (some (.ow ds))=>.ok (.lst ds) | _=>.stuck):=rfl
@[simp] theorem jL:m2 op f g δ=(f δ).bind λ x=>(g δ).bind λ y=>op x y:=rfl
@[simp] theorem jT:bY opb f g δ=(f δ).bind λ x=>(g δ).bind λ y=>opb x y:=rfl
@[simp] theorem uK:m1 o1 f δ=(f δ).bind o1:=rfl
@[simp] theorem kA:au δ=.ok []:=rfl
@[simp] theorem gS:af f fs δ=(f δ).bind λ x=>(fs δ).bind λ xs=>.ok (x :: xs):=rfl
@[simp] theorem gR:aQ m fs δ=(fs δ).bind m:=rfl
@[simp] theorem B4:mT f δ=(f δ).bind Eb:=rfl
@[simp] theorem yd:oU t δ=(t δ).bind λ k=>.ok (!k):=rfl
@[simp] theorem kz:gT t u δ=(t δ).bind λ k=>if k then u δ else .ok false:=rfl
@[simp] theorem B3:Cy t u δ=(t δ).bind λ k=>if k then .ok true else u δ:=rfl
@[simp] theorem Eu:nT f g δ=(f δ).bind λ x=>(pI x).bind λ k=>if k then g δ else .ok (.bl false):=rfl
@[simp] theorem GZ:K8 f g δ=(f δ).bind λ x=>(pI x).bind λ k=>if k then .ok (.bl true) else g δ:=rfl
@[simp] theorem Ez:zB f δ=(f δ).bind λ x=>(pI x).bind λ k=>.ok (.bl (!k)):=rfl
@[simp] theorem Jy:JG t f g δ=(t δ).bind λ k=>if k then f δ else g δ:=rfl
@[simp] theorem KZ:K9 fs δ=(fs δ).bind λ xs=>if xs.length <= 1000000 then .ok (.tup xs) else .stuck:=rfl
@[simp] theorem KW:iR fs δ=(fs δ).bind λ xs=>if xs.length <= 1000000 then .ok (.lst xs) else .stuck:=rfl
@[simp] theorem mZ (i:Nat):bo i f δ=bS (f δ) δ λ d=>.next (δ.set i (some (.sh d))):=rfl
@[simp] theorem qS:fN t F1 F2 δ=bS (t δ) δ λ k=>if k then F1 δ else F2 δ:=rfl
@[simp] theorem G6:de f δ=bS (f δ) δ .ret:=rfl
@[simp] theorem EA:Kr f δ=bS (f δ) δ λ _=>.next δ:=rfl
@[simp] theorem G4 (i:Nat):dM i fs δ=bS (fs δ) δ λ ds=>.next (δ.set i (some (.ow ds))):=rfl
@[simp] theorem GW (i:Nat) (d:D):bN i d δ=some (δ.set i (some (.sh d))):=rfl
@[simp] theorem G0 (bd:D->Ev->Option Ev):LA bd f δ=bS (f δ) δ λ d=>match bd d δ with | some δ'=>.next δ' | none=>.stuck:=rfl
@[simp] theorem yA (i j:Int):kI kg (.int i) (.int j)=.ok (.bl (i == j)):=rfl
@[simp] theorem yF (i j:Int):kI zG (.int i) (.int j)=.ok (.bl (!(i == j))):=rfl
@[simp] theorem yE (i j:Int):kI qd (.int i) (.int j)=.ok (.bl (decide (i < j))):=rfl
@[simp] theorem yD (i j:Int):kI xR (.int i) (.int j)=.ok (.bl (decide (i <= j))):=rfl
@[simp] theorem yC (i j:Int):kI wV (.int i) (.int j)=.ok (.bl (decide (j < i))):=rfl
@[simp] theorem yB (i j:Int):kI Gu (.int i) (.int j)=.ok (.bl (decide (j <= i))):=rfl
end
theorem tB {bd:D->Ev->Option Ev} {F:Ev->SR} (P:Nat->Ev->Prop):∀ (ds:List D) (n:Nat) (δ:Ev),P n δ->(∀ k d δ,ds[k]?=some d->P (n + k) δ->∃ δ1 δ2,bd d δ=some δ1/\(F δ1=.next δ2 \/ F δ1=.cont δ2)/\P (n + k + 1) δ2) →
  ∃ δ',cu bd F ds δ=.next δ'/\P (n + ds.length) δ'
 | [],n,δ,h0,_=>⟨δ,rfl,h0⟩
 | d :: ds,n,δ,h0,hs=>by
  obtain ⟨δ1,δ2,e1,e2,p2⟩:=hs 0 d δ rfl h0
  obtain ⟨δ',e3,p3⟩:=tB P ds (n + 1) δ2 p2 λ k d' δ'' e p=>by
   have:=hs (k + 1) d' δ'' (by simpa using e) (by rw [show n + (k + 1)=n + 1 + k by omega];exact p)
   rw [show n + (k + 1) + 1=n + 1 + k + 1 by omega] at this
   exact this
  refine ⟨δ',?_,by rw [List.length_cons,show n + (ds.length + 1)=n + 1 + ds.length by omega];exact p3⟩
  unfold cu
  simp only [e1]
  rcases e2 with e2 | e2 <;> simp only [e2,e3]
theorem cU {fit:Ev->R (List D)} {bd:D->Ev->Option Ev} {F:Ev->SR} {δ:Ev} {ds:List D} (P:Nat->Ev->Prop) (h:fit δ=.ok ds) (h0:P 0 δ) (hs:∀ k d δ,ds[k]?=some d->P k δ->∃ δ1 δ2,bd d δ=some δ1/\(F δ1=.next δ2 \/ F δ1=.cont δ2)/\P (k + 1) δ2) :
  ∃ δ',cG fit bd F δ=.next δ'/\P ds.length δ':=by
 obtain ⟨δ',e,p⟩:=tB P ds 0 δ h0 λ k d δ e q=>by simpa using hs k d δ e (by simpa using q)
 exact ⟨δ',by unfold cG;rw [h];exact e,by simpa using p⟩
theorem ke {lo hi:Int} {k:Nat} {d:D} (h:(kZ lo hi)[k]?=some d):d=.int (lo + k)/\lo + k < hi:=by
 unfold kZ at h
 rw [List.getElem?_map] at h
 cases q:(List.range (hi - lo).toNat)[k]? with
 | none=>rw [q] at h;cases h
 | some j =>
  rw [q] at h
  have hk:=(List.getElem?_eq_some_iff.mp q).1
  rw [List.length_range] at hk
  rw [List.getElem?_range hk] at q
  cases q
  cases h
  exact ⟨rfl,by omega⟩
theorem je (lo hi:Int):(kZ lo hi).length=(hi - lo).toNat:=by simp [kZ]
theorem ce {t:Ev->R Bool} {F:Ev->SR} {n:Nat} {δ:Ev} (h:t δ=.ok false):b5 t F (n + 1) δ=.next δ:=by simp [b5,h]
theorem jf {t:Ev->R Bool} {F:Ev->SR} {n:Nat} {δ δ':Ev} (h:t δ=.ok true) (h2:F δ=.next δ'):b5 t F (n + 1) δ=b5 t F n δ':=by simp [b5,h,h2]
noncomputable def cell (ns:List Int) (k:Nat):Int:=ns.getD k 0
end L3
namespace L3
open PySem L2
noncomputable abbrev ag (r:List Int):D:=.lst (r.map D.int)
noncomputable abbrev ae (rs:List (List Int)):D:=.lst (rs.map ag)
theorem nZ (r:List Int):plainDs (r.map D.int)=true:=by
 induction r with
 | nil=>rfl
 | cons a r ih=>simp [plainDs,eL,ih]
theorem wP (r:List Int):PyData.canLayAll0 (toPs (r.map D.int))=true:=by
 induction r with
 | nil=>rfl
 | cons a r ih=>simp [toPs,oh,PyData.canLayAll0,PyData.canLay0,ih]
theorem qR (r:List Int):PyData.depthAll (toPs (r.map D.int))=0:=by
 induction r with
 | nil=>rfl
 | cons a r ih=>simp [toPs,oh,PyData.depthAll,PyData.depth,ih]
theorem vk (rs:List (List Int)):plainDs (rs.map ag)=true:=by
 induction rs with
 | nil=>rfl
 | cons a r ih =>
  show (eL (ag a) && plainDs (r.map ag))=true
  rw [ih]
  simp [ag,eL,nZ]
theorem Cu (rs:List (List Int)):PyData.canLayAll0 (toPs (rs.map ag))=true:=by
 induction rs with
 | nil=>rfl
 | cons a r ih =>
  show (PyData.canLay0 (oh (ag a)) && PyData.canLayAll0 (toPs (r.map ag)))=true
  rw [ih]
  simp [ag,oh,PyData.canLay0,wP]
theorem yc (rs:List (List Int)):PyData.depthAll (toPs (rs.map ag)) <= 1:=by
 induction rs with
 | nil=>exact Nat.zero_le _
 | cons a r ih =>
  show max (PyData.depth (oh (ag a))) (PyData.depthAll (toPs (r.map ag))) <= 1
  simp only [ag,oh,PyData.depth,qR]
  omega
theorem kH (r:List Int):nG (ag r)=true:=by
 unfold nG SeqAt.shaped
 simp [ag,eL,nZ,oh,PyData.canLay0,wP,PyData.depth,qR]
theorem w9 (rs:List (List Int)):nG (ae rs)=true:=by
 have:=yc rs
 unfold nG SeqAt.shaped
 simp only [ae,eL,vk,oh,PyData.canLay0,Cu,PyData.depth,Bool.true_and,decide_eq_true_eq]
 omega
theorem qp (ds:List D):wB (.lst ds) (.lst [])=ds.isEmpty:=by
 unfold wB
 cases ds <;> simp [oh,toPs,PyData.eqv,PyData.eqvAll]
@[simp] theorem ja (r:List Int):kg (ag r) (.lst [])=.ok r.isEmpty:=by
 unfold kg
 rw [kH,show nG (.lst [])=true from kH [],qp]
 simp
@[simp] theorem Gv (r:List Int):zG (ag r) (.lst [])=.ok (!r.isEmpty):=by
 unfold zG
 rw [kH,show nG (.lst [])=true from kH [],qp]
 simp
@[simp] theorem eJ (rs:List (List Int)):kg (ae rs) (.lst [])=.ok rs.isEmpty:=by
 unfold kg
 rw [w9,show nG (.lst [])=true from kH [],qp]
 simp
theorem BI {α:Type} (l:List α):qD l (-1)=l.getLast?:=by
 cases l with
 | nil=>rfl
 | cons a l =>
  have:EJ (l.length + 1) (-1)=some l.length:=by
   unfold EJ
   rw [if_neg (by omega),if_pos (by omega)]
   congr 1
   omega
  unfold qD
  simp only [List.length_cons,this,Option.bind_some]
  rw [List.getLast?_eq_getElem?]
  simp
theorem fX {ds:List D} {d:D} (h:ds.getLast?=some d):bP (.lst ds) (.int (-1))=.ok d:=jb (by rw [BI,h])
theorem EI (d:Int) (r:List Int):EG (.int d) (ag r)=.ok (decide (d∈r)):=by
 have hf:(r.map D.int).all dH=true:=by simp [dH]
 unfold EG
 simp only [ag,hf]
 simp only [dH,Bool.and_self,if_true]
 congr 1
 rw [Bool.eq_iff_iff,List.any_map,List.any_eq_true,decide_eq_true_eq]
 constructor
 ·rintro ⟨x,hx,e⟩
  have e':x=d:=by simpa [Hc] using e
  exact e' ▸ hx
 ·intro h
  exact ⟨d,h,by simp [Hc]⟩
@[simp] theorem w8 (d:Int) (r:List Int):wZ (.int d) (ag r)=.ok (!decide (d∈r)):=by unfold wZ;rw [EI];rfl
theorem nV {rs:List (List Int)} {k:Nat} {r:List Int} (h:rs[k]?=some r):bP (ae rs) (.int (k:Int))=.ok (ag r):=jb (iL (by simp [h]))
theorem b9 {r:List Int} {k:Nat} {d:Int} (h:r[k]?=some d):bP (ag r) (.int (k:Int))=.ok (.int d):=jb (iL (by simp [h]))
section
variable (f:Ev->R D) (fl fh:Ev->R (Option Int)) (δ:Ev) (fs fit:Ev->R (List D)) (t:Ev->R Bool)
@[simp] theorem Jz:AD f fl fh δ=(f δ).bind λ x=>(fl δ).bind λ l=>(fh δ).bind λ u=>CG x l u:=rfl
@[simp] theorem KY:mP f δ=(f δ).bind λ d=>match d with | .int i=>.ok (some i) | _=>.stuck:=rfl
@[simp] theorem GY:sw δ=.ok none:=rfl
@[simp] theorem GX:mL fs δ=(fs δ).bind λ ds=>.ok (.lst ds):=rfl
@[simp] theorem oK (i:Nat):cF i f δ=(match δ[i]? with | some (some (.ow ds))=>bS (f δ) δ λ d=>if ds.length < 1000000 then .next (δ.set i (some (.ow (ds++[d])))) else .stuck | _=>.stuck):=rfl
@[simp] theorem wY (i:Int):nv (.int i)=.ok (.int (-i)):=rfl
@[simp] theorem yn (ds:List D):aV (.lst ds)=.ok ds:=rfl
@[simp] theorem Jj (i j:Int):ri (.int i) (.int j)=.ok (.int (Builtin.bitAnd i j)):=rfl
end
theorem uS {xs ys:List D} (h:xs.length + ys.length <= 1000000):qc (.lst xs) (.lst ys)=.ok (.lst (xs++ys)):=by simp [qc,h]
theorem sIx_nat {n:Nat} {d k:Nat} (h:k <= n):HT.sIx n d (some (k:Int))=k:=by
 rw [HT.sIx_nat]
 exact Nat.min_eq_left h
theorem BX {α:Type} (xs:List α) {a b:Nat} (h:a <= b) (h2:b <= xs.length):jS xs (some (a:Int)) (some (b:Int))=(xs.drop a).take (b - a):=by
 unfold jS
 rw [sIx_nat (k:=a) (by omega),sIx_nat (k:=b) h2]
theorem uO {n:Nat} (h:n <= 1000000):lW [.int (n:Int)]=.ok (kZ 0 n):=by
 simp only [lW]
 exact if_pos ⟨by omega,by omega⟩
theorem wG {δ:Ev} {i n:Nat} {ds:List D} (h:ac i δ=.ok (.lst ds)) (hn:ds.length=n) (hl:n <= 1000000):(λ δ=>((af (m1 cj (ac i)) au) δ).bind lW) δ=.ok (kZ 0 n):=by
 have e:(af (m1 cj (ac i)) au) δ=.ok [.int (n:Int)]:=by
  unfold af m1
  rw [h,R.bind_ok,cQ,hn]
  rfl
 show ((af (m1 cj (ac i)) au) δ).bind lW=_
 rw [e,R.bind_ok,uO hl]
theorem lU {δ:Ev} {i n:Nat} (h:ac i δ=.ok (.int (n:Int))) (hl:n <= 1000000):(λ δ=>((af (ac i) au) δ).bind lW) δ=.ok (kZ 0 n):=by
 have e:(af (ac i) au) δ=.ok [.int (n:Int)]:=by
  unfold af
  rw [h,R.bind_ok]
  rfl
 show ((af (ac i) au) δ).bind lW=_
 rw [e,R.bind_ok,uO hl]
theorem Hd {δ:Ev} {fs:Ev->R (List D)} {n:Nat} (h:fs δ=.ok [.int (n:Int)]) (hl:n <= 1000000):(λ δ=>(fs δ).bind lW) δ=.ok (kZ 0 n):=by
 show (fs δ).bind lW=_
 rw [h,R.bind_ok,uO hl]
end L3
namespace L3
open PySem L2
theorem iW {α:Type} {f:α->D} {l:List α} {i:Nat} {fit:Ev->R (List D)} {F:Ev->SR} {δ:Ev} (P:Nat->Ev->Prop) (h:fit δ=.ok (l.map f)) (h0:P 0 δ)
  (hs:∀ k a δ,l[k]?=some a->P k δ->∃ δ2,(F (δ.set i (some (.sh (f a))))=.next δ2 \/ F (δ.set i (some (.sh (f a))))=.cont δ2)/\P (k + 1) δ2):∃ δ',cG fit (bN i) F δ=.next δ'/\P l.length δ':=by
 have:=cU (fit:=fit) (bd:=bN i) (F:=F) (δ:=δ) (ds:=l.map f) P h h0 (by
  intro k d δ1 hd p
  rw [List.getElem?_map] at hd
  cases q:l[k]? with
  | none=>rw [q] at hd;cases hd
  | some a =>
   rw [q] at hd
   cases hd
   obtain ⟨δ2,h1,h2⟩:=hs k a δ1 q p
   exact ⟨_,δ2,rfl,h1,h2⟩)
 simpa using this
theorem pk {t:Ev->R Bool} {F:Ev->SR} {p:Int->Bool} (env:Nat->Ev) (b:List Int) (ht:∀ k,k <= b.length->t (env k)=.ok (match b[k]? with | some y=>p y | none=>false)) (hF:∀ k,F (env k)=.next (env (k + 1))) :
  ∀ (n k:Nat),k <= b.length->b.length < n + k->b5 t F n (env k)=.next (env (k + ((b.drop k).takeWhile p).length))
 | 0,k,h,hn=>by omega
 | n + 1,k,h,hn=>by
  have h1:=ht k h
  by_cases hk:k < b.length
  ·rw [List.getElem?_eq_getElem hk] at h1
   rw [List.drop_eq_getElem_cons hk,List.takeWhile_cons]
   cases c:p b[k] with
   | false =>
    rw [ce (by rw [h1];simp [c])]
    simp
   | true =>
    rw [jf (by rw [h1];simp [c]) (hF k),pk env b ht hF n (k + 1) hk (by omega)]
    simp only [if_true,List.length_cons]
    rw [show k + 1 + (List.takeWhile p (List.drop (k + 1) b)).length=k + ((List.takeWhile p (List.drop (k + 1) b)).length + 1) by omega]
  ·rw [List.getElem?_eq_none (by omega)] at h1
   rw [ce h1,List.drop_eq_nil_of_le (by omega)]
   simp
theorem rF {p:Int->Bool}:∀ {b:List Int} {k:Nat},k <= b.length->(∀ y∈b.take k,p y=true)->k + ((b.drop k).takeWhile p).length=(b.takeWhile p).length
 | b,0,_,_=>by simp
 | [],k + 1,h,_=>by simp at h
 | y :: b,k + 1,h,hp=>by
  have h1:p y=true:=hp y (by simp)
  have:=rF (p:=p) (b:=b) (k:=k) (by simpa using h) (λ z hz=>hp z (by simp [hz]))
  rw [List.drop_succ_cons,List.takeWhile_cons,h1]
  simp only [if_true,List.length_cons]
  omega
theorem dB {α:Type} {p:α->Bool}:∀ (b:List α),b.take (b.takeWhile p).length=b.takeWhile p
 | []=>rfl
 | y :: b=>by
  rw [List.takeWhile_cons]
  cases c:p y with
  | false=>simp
  | true=>simp [dB b]
theorem pS:∀ (xs ys:List Int),bC (xs++ys)=bC xs + bC ys
 | [],ys=>by simp [bC]
 | x :: xs,ys=>by simp only [List.cons_append,bC,pS xs ys];omega
theorem mj (r:List Int):i9 (r.map D.int)=some r:=by
 induction r with
 | nil=>rfl
 | cons a r ih=>simp [i9,ih]
@[simp] theorem CH (r:List Int):AM (ag r)=.ok (.int (bC r)):=by simp [AM,mj]
@[simp] theorem J6 (ds:List D):vI (.lst ds)=.ok ds.reverse:=rfl
@[simp] theorem K2 (i:Nat) (δ:Ev):sM i δ=(match δ[i]? with | some (some (.ow ds))=>.next (δ.set i (some (.ow ds.reverse))) | _=>.stuck):=rfl
theorem Eo {α:Type} (xs:List α) {b:Nat} (h:b <= xs.length):jS xs none (some (b:Int))=xs.take b:=by
 unfold jS
 rw [HT.sIx_none,sIx_nat h]
 simp
theorem sY {α:Type} (xs:List α) {a:Nat} (h:a <= xs.length):jS xs (some (a:Int)) none=xs.drop a:=by
 unfold jS
 rw [HT.sIx_none,sIx_nat h]
 rw [List.take_of_length_le (by rw [List.length_drop];omega)]
noncomputable def Bn (o:Option Sl):Option Sl:=match o with
 | some (.sh d)=>some (.sh d)
 | _=>none
theorem Ew (δ:Ev):iR au δ=.ok (.lst []):=rfl
theorem Ey (f:Ev->R D) (δ:Ev):iR (af f au) δ=(f δ).bind λ x=>.ok (.lst [x]):=by
 unfold iR af
 cases f δ <;> simp [au]
theorem aE {α:Type} {F1:Ev->SR} {F2:Ev->R α} {δ δ':Ev} (h:F1 δ=.next δ'):aX F1 F2 δ=F2 δ':=by unfold aX;rw [h]
theorem Bo {r:List Int} (h:r.length < 64):rR (ag r)=.ok ((kf r).map D.int):=by
 have:(kf r).length <= r.length:=l7 _ _ (xK (oa r)) λ x hx=>fW.mp hx
 simp only [rR,ag,mj]
 rw [if_pos (by omega)]
theorem DQ (r:List Int):(kf r).length <= r.length:=l7 _ _ (xK (oa r)) λ x hx=>fW.mp hx
@[simp] theorem CF (i j:Int):nW [.int i,.int j]=.ok (.int (if j < i then j else i)):=rfl
@[simp] theorem ER (k:Bool):AJ [.bl k]=.ok (.int (if k then 1 else 0)):=rfl
@[simp] theorem Jx (o:List D->R D) (fs:Ev->R (List D)) (δ:Ev):yp o fs δ=(fs δ).bind o:=rfl
theorem bZ {i:Nat} {f:Ev->R D} {δ:Ev} {d:D} {ds:List D} (h:f δ=.ok d) (hi:δ[i]?=some (some (.ow ds))) (hl:ds.length < 1000000):cF i f δ=.next (δ.set i (some (.ow (ds++[d])))):=by
 unfold cF
 rw [hi,h]
 simp [hl]
theorem bR {i:Nat} {f:Ev->R D} {δ:Ev} {d:D} (h:f δ=.ok d):bo i f δ=.next (δ.set i (some (.sh d))):=by unfold bo;rw [h];rfl
theorem oy {i:Nat} {f:Ev->R (List D)} {δ:Ev} {ds:List D} (h:f δ=.ok ds):dM i f δ=.next (δ.set i (some (.ow ds))):=by unfold dM;rw [h];rfl
theorem Gi {f:Ev->R D} {δ:Ev} {d:D} (h:f δ=.ok d):de f δ=.ret d:=by unfold de;rw [h];rfl
theorem kF (c:Int) {j:Int} (m:Nat) (h:0 < m:=by decide) (e:j=(m:Int):=by rfl):∃ k:Nat,c % j=(k:Int)/\k < m:=by
 subst e
 refine ⟨(c % m).toNat,(Int.toNat_of_nonneg (Int.emod_nonneg _ (Int.ofNat_ne_zero.mpr (Nat.ne_of_gt h)))).symm,?_⟩
 exact (Int.toNat_lt (Int.emod_nonneg _ (Int.ofNat_ne_zero.mpr (Nat.ne_of_gt h)))).mpr (Int.emod_lt_of_pos _ (by omega))
end L3
set_option maxHeartbeats 400000
namespace Lw
open PySem PySem.Spec PyProof.Rows L2 L3
noncomputable def aK (i:Nat):Stmt:=PySem.Challenge.pw_inkdays_k29_lists_apart.main.body.getD i (.Pass ⟨0,0,0,0⟩)
noncomputable def mJ:Ev->SR:=de (mC (.int 0))
noncomputable def qx:Ev->SR:=aD (fN (bY qd (ac 1) (m1 cj (ac 0))) (de (m2 bP (ac 0) (ac 1))) (SR.next)) mJ
noncomputable def aF (ds:List D):R D:=iP (qx (av 2 ds))
theorem DK:FnScope ["_law_script", "_law_k"] ["_law_script", "_law_k"] (am (aK 27)):=mv
theorem BZ {κ:Nat->Addr} {X:Cx} {B:Gd} (cx:Cxo X) (hcalm:X.calm=true) (hN:X.N=[("_law_script" : Str),("_law_k" : Str)]) (hsc:X.env.scope=am (aK 27)) (hfn:∀ y,X.fn y=true) (hu:X.A.units + 64 < cLine) (b_len:X.mg "len" = none):QZs κ B X (ay (aK 27)) qx:=by
 have hnd:X.N.Nodup:=by rw [hN];decide +kernel
 have V0:VP X 0 "_law_script":=aS cx hnd hfn hN hsc
 have V1:VP X 1 "_law_k":=aS cx hnd hfn hN hsc
 have hg_len:Gl X "len":=cm hsc
 refine al (F1:=fN (bY qd (ac 1) (m1 cj (ac 0))) (de (m2 bP (ac 0) (ac 1))) (SR.next)) (F2:=mJ) ?_ ?_
 ·exact aY cx (eM ((V1.v).read) ((cN hg_len b_len ((V0.v).read) rfl).read) (ax rfl)) (ao (aT cx (bi ((V0.v).read) ((V1.v).read) rfl))) (aI)
 exact ao (aT cx (ak))
noncomputable def lB:Ev->SR:=aD (fN (bY kg (m2 cL (ac 4) (mC (.int 2))) (mC (.int 1))) (cF 5 (ac 6)) (SR.next)) (bo 4 (m2 nr (ac 4) (mC (.int 2))))
noncomputable def v5:Ev->SR:=de (ac 5)
noncomputable def pD:Ev->SR:=λ δ=>(v5) (iY 5 δ)
noncomputable def lO:Ev->SR:=fN (gT (mT (ac 1)) (gT (bY kg (bO 5) (iR (au))) (bY wV (m2 cL (ac 0) (mC (.int 5))) (mC (.int 0))))) (cF 5 (m2 cL (m2 nr (ac 0) (mC (.int 5))) (ac 3))) (SR.next)
noncomputable def pC:Ev->SR:=aD (lO) pD
noncomputable def pG:Ev->SR:=cG (λ δ=>((af (ac 3) (au)) δ).bind lW) (bN 6) (lB)
noncomputable def pB:Ev->SR:=aD (pG) pC
noncomputable def pF:Ev->SR:=dM 5 (λ δ=>lim ((au) δ))
noncomputable def pA:Ev->SR:=aD (pF) pB
noncomputable def lN:Ev->SR:=fN (bY kg (ac 2) (mC (.int 2))) (bo 4 (m2 ri (m2 ri (ac 4) (m2 nr (ac 4) (mC (.int 1024)))) (m2 nr (ac 4) (mC (.int 1048576))))) (SR.next)
noncomputable def pz:Ev->SR:=aD (lN) pA
noncomputable def lM:Ev->SR:=fN (bY kg (ac 2) (mC (.int 1))) (bo 4 (m2 ri (ac 4) (m2 nr (ac 4) (mC (.int 1024))))) (SR.next)
noncomputable def pw:Ev->SR:=aD (lM) pz
noncomputable def lL:Ev->SR:=fN (mT (ac 1)) (bo 4 (m2 cL (m2 kW (m2 cL (m2 d0 (m2 kW (ac 0) (mC (.int 48271))) (mC (.int 12345))) (mC (.int 2147483647))) (mC (.int 16807))) (mC (.int 2147483629)))) (SR.next)
noncomputable def pv:Ev->SR:=aD (lL) pw
noncomputable def pE:Ev->SR:=bo 4 (m2 cL (ac 0) (mC (.int 1073741824)))
noncomputable def sN:Ev->SR:=aD (pE) pv
noncomputable def jU (ds:List D):R D:=iP (sN (av 7 ds))
theorem Bj:FnScope ["_law_cell", "_law_mixed", "_law_thin", "_law_length", "_law_bits", "_law_made", "_law_day"] ["_law_cell", "_law_mixed", "_law_thin", "_law_length"] (am (aK 28)):=mv
theorem Ae {κ:Nat->Addr} {X:Cx} {B:Gd} (cx:Cxo X) (hcalm:X.calm=true) (hN:X.N=[("_law_cell" : Str),("_law_mixed" : Str),("_law_thin" : Str),("_law_length" : Str),("_law_bits" : Str),("_law_made" : Str),("_law_day" : Str)]) (hsc:X.env.scope=am (aK 28)) (hfn:∀ y,X.fn y=true) (hu:X.A.units + 64 < cLine) (b_range:X.mg "range" = none):QZs κ B X (ay (aK 28)) sN:=by
 have hnd:X.N.Nodup:=by rw [hN];decide +kernel
 have V0:VP X 0 "_law_cell":=aS cx hnd hfn hN hsc
 have V1:VP X 1 "_law_mixed":=aS cx hnd hfn hN hsc
 have V2:VP X 2 "_law_thin":=aS cx hnd hfn hN hsc
 have V3:VP X 3 "_law_length":=aS cx hnd hfn hN hsc
 have V4:VP X 4 "_law_bits":=aS cx hnd hfn hN hsc
 have V5:VP X 5 "_law_made":=aS cx hnd hfn hN hsc
 have V6:VP X 6 "_law_day":=aS cx hnd hfn hN hsc
 have hg_range:Gl X "range":=cm hsc
 refine al (F1:=pE) (F2:=pv) ?_ ?_
 ·exact V4.s (bf ((V0.v).read) ((ak).read)) rfl
 refine al (F1:=lL) (F2:=pw) ?_ ?_
 ·exact aY cx (cb ((V1.v).read) rfl) (ao (V4.s (bf ((iU ((bf ((bK ((iU ((V0.v).read) ((ak).read)).read) ((ak).read)).read) ((ak).read)).read) ((ak).read)).read) ((ak).read)) rfl)) (aI)
 refine al (F1:=lM) (F2:=pz) ?_ ?_
 ·exact aY cx (cr hu ((V2.v).read) ((ak).read) (ax rfl)) (ao (V4.s (rK ((V4.v).read) ((gU ((V4.v).read) ((ak).read)).read)) rfl)) (aI)
 refine al (F1:=lN) (F2:=pA) ?_ ?_
 ·exact aY cx (cr hu ((V2.v).read) ((ak).read) (ax rfl)) (ao (V4.s (rK ((rK ((V4.v).read) ((gU ((V4.v).read) ((ak).read)).read)).read) ((gU ((V4.v).read) ((ak).read)).read)) rfl)) (aI)
 refine al (F1:=pF) (F2:=pB) ?_ ?_
 ·exact V5.w (ca (aj)) rfl
 refine al (F1:=pG) (F2:=pC) ?_ ?_
 ·exact d6 cx hcalm (cO hg_range b_range (aa (V3.v) (aj) rfl) rfl) (λ B=>V6.t) (λ B=>al (aY cx (cr hu ((bf ((V4.v).read) ((ak).read)).read) ((ak).read) (ax rfl)) (ao (V5.a (V6.v) rfl rfl)) (aI)) (ao (V4.s (gU ((V4.v).read) ((ak).read)) rfl))) rfl
 refine al (F1:=lO) (F2:=pD) ?_ ?_
 ·exact aY cx ((dQ (cb ((V1.v).read) rfl) (dQ (cr hu (V5.r) ((cM (aj)).read) (ax rfl)) (dE (n6 ((bf ((V0.v).read) ((ak).read)).read) ((ak).read) (ax rfl))))).t) (ao (V5.a (bf ((gU ((V0.v).read) ((ak).read)).read) ((V3.v).read)) rfl rfl)) (aI)
 refine eN 5 (F:=_) ?_
 exact ao (aT cx (V5.v))
noncomputable def fQ:Ev->SR:=aD (bo 8 (aQ aF (af (ac 0) (af (m2 d0 (ac 1) (ac 7)) (au))))) (aD (fN (mT (ac 4)) (bo 8 (m2 d0 (m2 d0 (ac 8) (m2 kW (mC (.int 1000003)) (ac 7))) (aQ aF (af (ac 0) (af (mC (.int 1)) (au)))))) (SR.next)) (cF 6 (aQ jU (af (ac 8) (af (ac 4) (af (ac 5) (af (ac 3) (au))))))))
noncomputable def mE:Ev->SR:=de (ac 6)
noncomputable def jv:Ev->SR:=λ δ=>(mE) (iY 6 δ)
noncomputable def jJ:Ev->SR:=cG (λ δ=>((af (ac 2) (au)) δ).bind lW) (bN 7) (fQ)
noncomputable def ju:Ev->SR:=aD (jJ) jv
noncomputable def jI:Ev->SR:=dM 6 (λ δ=>lim ((au) δ))
noncomputable def jt:Ev->SR:=aD (jI) ju
noncomputable def jH:Ev->SR:=bo 5 (m2 cL (m2 nr (aQ aF (af (ac 0) (af (mC (.int 0)) (au)))) (mC (.int 2))) (mC (.int 3)))
noncomputable def js:Ev->SR:=aD (jH) jt
noncomputable def jG:Ev->SR:=bo 4 (m2 (kI kg) (m2 cL (aQ aF (af (ac 0) (af (mC (.int 0)) (au)))) (mC (.int 2))) (mC (.int 0)))
noncomputable def lu:Ev->SR:=aD (jG) js
noncomputable def du (ds:List D):R D:=iP (lu (av 9 ds))
theorem xA:FnScope ["_law_script", "_law_at_here", "_law_many", "_law_length", "_law_mixed", "_law_thin", "_law_made", "_law_k", "_law_cell"] ["_law_script", "_law_at_here", "_law_many", "_law_length"] (am (aK 29)):=mv
theorem wp {κ:Nat->Addr} {X:Cx} {B:Gd} (cx:Cxo X) (hcalm:X.calm=true) (hN:X.N=[("_law_script" : Str),("_law_at_here" : Str),("_law_many" : Str),("_law_length" : Str),("_law_mixed" : Str),("_law_thin" : Str),("_law_made" : Str),("_law_k" : Str),("_law_cell" : Str)]) (hsc:X.env.scope=am (aK 29)) (hfn:∀ y,X.fn y=true) (hu:X.A.units + 64 < cLine) (k_law_at:Cal κ X "_law_at" 2 aF) (k_law_row:Cal κ X "_law_row" 4 jU) (b_range:X.mg "range" = none):QZs κ B X (ay (aK 29)) lu:=by
 have hnd:X.N.Nodup:=by rw [hN];decide +kernel
 have V0:VP X 0 "_law_script":=aS cx hnd hfn hN hsc
 have V1:VP X 1 "_law_at_here":=aS cx hnd hfn hN hsc
 have V2:VP X 2 "_law_many":=aS cx hnd hfn hN hsc
 have V3:VP X 3 "_law_length":=aS cx hnd hfn hN hsc
 have V4:VP X 4 "_law_mixed":=aS cx hnd hfn hN hsc
 have V5:VP X 5 "_law_thin":=aS cx hnd hfn hN hsc
 have V6:VP X 6 "_law_made":=aS cx hnd hfn hN hsc
 have V7:VP X 7 "_law_k":=aS cx hnd hfn hN hsc
 have V8:VP X 8 "_law_cell":=aS cx hnd hfn hN hsc
 have hg_law_at:Gl X "_law_at":=cm hsc
 have hg_law_row:Gl X "_law_row":=cm hsc
 have hg_range:Gl X "range":=cm hsc
 refine al (F1:=jG) (F2:=js) ?_ ?_
 ·exact V4.s (vD hu ((bf ((aC cx k_law_at rfl hg_law_at (aa (V0.v) (aa (ak) (aj) rfl) rfl)).read) ((ak).read)).read) ((ak).read) (ax rfl)) rfl
 refine al (F1:=jH) (F2:=jt) ?_ ?_
 ·exact V5.s (bf ((gU ((aC cx k_law_at rfl hg_law_at (aa (V0.v) (aa (ak) (aj) rfl) rfl)).read) ((ak).read)).read) ((ak).read)) rfl
 refine al (F1:=jI) (F2:=ju) ?_ ?_
 ·exact V6.w (ca (aj)) rfl
 refine al (F1:=jJ) (F2:=jv) ?_ ?_
 ·exact d6 cx hcalm (cO hg_range b_range (aa (V2.v) (aj) rfl) rfl) (λ B=>V7.t) (λ B=>al (V8.s (aC cx k_law_at rfl hg_law_at (aa (V0.v) (aa (bK ((V1.v).read) ((V7.v).read)) (aj) rfl) rfl)) rfl) (al (aY cx (cb ((V4.v).read) rfl) (ao (V8.s (bK ((bK ((V8.v).read) ((iU ((ak).read) ((V7.v).read)).read)).read) ((aC cx k_law_at rfl hg_law_at (aa (V0.v) (aa (ak) (aj) rfl) rfl)).read)) rfl)) (aI)) (ao (V6.a (aC cx k_law_row rfl hg_law_row (aa (V8.v) (aa (V4.v) (aa (V5.v) (aa (V3.v) (aj) rfl) rfl) rfl) rfl)) rfl rfl)))) rfl
 refine eN 6 (F:=_) ?_
 exact ao (aT cx (V6.v))
noncomputable def fP:Ev->SR:=fN (mT (ac 1)) (aD (bo 5 (m2 cL (m2 d0 (m2 d0 (m2 kW (ac 5) (mC (.int 48271))) (m2 kW (mC (.int 7919)) (ac 6))) (mC (.int 11))) (mC (.int 2147483647)))) (cF 4 (m2 cL (m2 cL (m2 kW (ac 5) (mC (.int 16807))) (mC (.int 2147483629))) (ac 3)))) (aD (cF 4 (m2 cL (ac 5) (ac 3))) (bo 5 (m2 nr (ac 5) (ac 3))))
noncomputable def mB:Ev->SR:=de (ac 4)
noncomputable def jp:Ev->SR:=λ δ=>(mB) (iY 4 δ)
noncomputable def jD:Ev->SR:=cG (λ δ=>((af (ac 2) (au)) δ).bind lW) (bN 6) (fP)
noncomputable def jo:Ev->SR:=aD (jD) jp
noncomputable def jC:Ev->SR:=bo 5 (ac 0)
noncomputable def jn:Ev->SR:=aD (jC) jo
noncomputable def jB:Ev->SR:=dM 4 (λ δ=>lim ((au) δ))
noncomputable def lb:Ev->SR:=aD (jB) jn
noncomputable def d8 (ds:List D):R D:=iP (lb (av 7 ds))
theorem xy:FnScope ["_law_cell", "_law_mixed", "_law_many", "_law_most", "_law_made", "_law_rest", "_law_k"] ["_law_cell", "_law_mixed", "_law_many", "_law_most"] (am (aK 30)):=mv
theorem wm {κ:Nat->Addr} {X:Cx} {B:Gd} (cx:Cxo X) (hcalm:X.calm=true) (hN:X.N=[("_law_cell" : Str),("_law_mixed" : Str),("_law_many" : Str),("_law_most" : Str),("_law_made" : Str),("_law_rest" : Str),("_law_k" : Str)]) (hsc:X.env.scope=am (aK 30)) (hfn:∀ y,X.fn y=true) (hu:X.A.units + 64 < cLine) (b_range:X.mg "range" = none):QZs κ B X (ay (aK 30)) lb:=by
 have hnd:X.N.Nodup:=by rw [hN];decide +kernel
 have V0:VP X 0 "_law_cell":=aS cx hnd hfn hN hsc
 have V1:VP X 1 "_law_mixed":=aS cx hnd hfn hN hsc
 have V2:VP X 2 "_law_many":=aS cx hnd hfn hN hsc
 have V3:VP X 3 "_law_most":=aS cx hnd hfn hN hsc
 have V4:VP X 4 "_law_made":=aS cx hnd hfn hN hsc
 have V5:VP X 5 "_law_rest":=aS cx hnd hfn hN hsc
 have V6:VP X 6 "_law_k":=aS cx hnd hfn hN hsc
 have hg_range:Gl X "range":=cm hsc
 refine al (F1:=jB) (F2:=jn) ?_ ?_
 ·exact V4.w (ca (aj)) rfl
 refine al (F1:=jC) (F2:=jo) ?_ ?_
 ·exact V5.s (V0.v) rfl
 refine al (F1:=jD) (F2:=jp) ?_ ?_
 ·exact d6 cx hcalm (cO hg_range b_range (aa (V2.v) (aj) rfl) rfl) (λ B=>V6.t) (λ B=>ao (aY cx (cb ((V1.v).read) rfl) (al (V5.s (bf ((bK ((bK ((iU ((V5.v).read) ((ak).read)).read) ((iU ((ak).read) ((V6.v).read)).read)).read) ((ak).read)).read) ((ak).read)) rfl) (ao (V4.a (bf ((bf ((iU ((V5.v).read) ((ak).read)).read) ((ak).read)).read) ((V3.v).read)) rfl rfl))) (al (V4.a (bf ((V5.v).read) ((V3.v).read)) rfl rfl) (ao (V5.s (gU ((V5.v).read) ((V3.v).read)) rfl))))) rfl
 refine eN 4 (F:=_) ?_
 exact ao (aT cx (V4.v))
noncomputable def iy:Ev->SR:=aD (bo 11 (aQ aF (af (ac 0) (af (m2 d0 (m2 d0 (ac 1) (mC (.int 1))) (ac 10)) (au))))) (aD (fN (mT (ac 5)) (bo 11 (m2 d0 (m2 d0 (ac 11) (m2 kW (mC (.int 1000003)) (ac 10))) (aQ aF (af (ac 0) (af (mC (.int 1)) (au)))))) (SR.next)) (aD (bo 12 (aQ d8 (af (ac 11) (af (ac 5) (af (mC (.int 8)) (af (ac 3) (au))))))) (aD (bo 13 (m2 cL (m2 bP (ac 12) (mC (.int 0))) (m2 d0 (ac 4) (mC (.int 1))))) (aD (bo 14 (AD (ac 12) (mP (mC (.int 2))) (mP (m2 d0 (mC (.int 2)) (m2 cL (m2 bP (ac 12) (mC (.int 1))) (mC (.int 6))))))) (aD (fN (mT (ac 6)) (aD (bo 13 (yp AJ (af (nT (m2 (kI kg) (m2 cL (m2 bP (ac 12) (mC (.int 0))) (mC (.int 5))) (mC (.int 1))) (m2 (kI wV) (ac 4) (mC (.int 0)))) (au)))) (bo 14 (mL (bj 1 (λ δ=>((AD (ac 12) (mP (mC (.int 2))) (sw)) δ).bind aV) (bN 15) (λ _=>.ok true) (yp nW (af (m2 kX (ac 3) (mC (.int 1))) (af (m2 d0 (ac 9) (m2 cL (ac 15) (mC (.int 9)))) (au)))))))) (SR.next)) (aD (fN (gT (bY wV (ac 10) (mC (.int 0))) (bY qd (m2 d0 (ac 9) (ac 13)) (ac 3))) (bo 9 (m2 d0 (ac 9) (ac 13))) (SR.next)) (aD (cF 7 (ac 9)) (cF 8 (mL (λ δ=>((m2 qc (ac 14) (iR (af (ac 9) (au)))) δ).bind rR))))))))))
noncomputable def qB:Ev->SR:=de (iR (af (ac 7) (af (ac 8) (au))))
noncomputable def jQ:Ev->SR:=λ δ=>(qB) (iY 7 δ)
noncomputable def lm:Ev->SR:=λ δ=>(jQ) (iY 8 δ)
noncomputable def lK:Ev->SR:=cG (λ δ=>((af (ac 2) (au)) δ).bind lW) (bN 10) (iy)
noncomputable def ll:Ev->SR:=aD (lK) lm
noncomputable def lJ:Ev->SR:=bo 9 (m2 cL (aQ aF (af (ac 0) (af (ac 1) (au)))) (ac 3))
noncomputable def lh:Ev->SR:=aD (lJ) ll
noncomputable def lH:Ev->SR:=dM 8 (λ δ=>lim ((au) δ))
noncomputable def lg:Ev->SR:=aD (lH) lh
noncomputable def lG:Ev->SR:=dM 7 (λ δ=>lim ((au) δ))
noncomputable def lf:Ev->SR:=aD (lG) lg
noncomputable def lF:Ev->SR:=bo 6 (m2 (kI kg) (m2 cL (aQ aF (af (ac 0) (af (mC (.int 1)) (au)))) (mC (.int 2))) (mC (.int 1)))
noncomputable def lc:Ev->SR:=aD (lF) lf
noncomputable def lE:Ev->SR:=bo 5 (m2 (kI kg) (m2 cL (aQ aF (af (ac 0) (af (mC (.int 0)) (au)))) (mC (.int 2))) (mC (.int 0)))
noncomputable def nJ:Ev->SR:=aD (lE) lc
noncomputable def dD (ds:List D):R D:=iP (nJ (av 15 ds))
theorem vP:FnScope ["_law_script", "_law_at_here", "_law_many", "_law_length", "_law_gap", "_law_mixed", "_law_near", "_law_path", "_law_rows", "_law_day", "_law_k", "_law_cell", "_law_picks", "_law_step", "_law_others"] ["_law_script", "_law_at_here", "_law_many", "_law_length", "_law_gap"] (am (aK 31)):=mv
theorem uF {κ:Nat->Addr} {X:Cx} {B:Gd} (cx:Cxo X) (hcalm:X.calm=true) (hN:X.N=[("_law_script" : Str),("_law_at_here" : Str),("_law_many" : Str),("_law_length" : Str),("_law_gap" : Str),("_law_mixed" : Str),("_law_near" : Str),("_law_path" : Str),("_law_rows" : Str),("_law_day" : Str),("_law_k" : Str),("_law_cell" : Str),("_law_picks" : Str),("_law_step" : Str),("_law_others" : Str)]) (hsc:X.env.scope=am (aK 31)) (hfn:∀ y,X.fn y=true) (hu:X.A.units + 64 < cLine) (k_law_at:Cal κ X "_law_at" 2 aF) (k_law_draws:Cal κ X "_law_draws" 4 d8) (b_int:X.mg "int" = none) (b_min:X.mg "min" = none) (b_range:X.mg "range" = none) (b_set:X.mg "set" = none) (b_sorted:X.mg "sorted" = none):QZs κ B X (ay (aK 31)) nJ:=by
 have hnd:X.N.Nodup:=by rw [hN];decide +kernel
 have V0:VP X 0 "_law_script":=aS cx hnd hfn hN hsc
 have V1:VP X 1 "_law_at_here":=aS cx hnd hfn hN hsc
 have V2:VP X 2 "_law_many":=aS cx hnd hfn hN hsc
 have V3:VP X 3 "_law_length":=Ki cx hnd hfn hN hsc rfl rfl (by decide) (by decide)
 have V4:VP X 4 "_law_gap":=aS cx hnd hfn hN hsc
 have V5:VP X 5 "_law_mixed":=aS cx hnd hfn hN hsc
 have V6:VP X 6 "_law_near":=aS cx hnd hfn hN hsc
 have V7:VP X 7 "_law_path":=aS cx hnd hfn hN hsc
 have V8:VP X 8 "_law_rows":=aS cx hnd hfn hN hsc
 have V9:VP X 9 "_law_day":=Ki cx hnd hfn hN hsc rfl rfl (by decide) (by decide)
 have V10:VP X 10 "_law_k":=aS cx hnd hfn hN hsc
 have V11:VP X 11 "_law_cell":=aS cx hnd hfn hN hsc
 have V12:VP X 12 "_law_picks":=aS cx hnd hfn hN hsc
 have V13:VP X 13 "_law_step":=aS cx hnd hfn hN hsc
 have lv14:X.env.scope.names.lookup ("_law_others" : Str)=some .local:=by rw [hsc];rfl
 have V14:VP X 14 "_law_others":=aS cx hnd hfn hN hsc
 have hg_law_at:Gl X "_law_at":=cm hsc
 have hg_law_draws:Gl X "_law_draws":=cm hsc
 have hg_int:Gl X "int":=cm hsc
 have hg_range:Gl X "range":=cm hsc
 have hg_set:Gl X "set":=cm hsc
 have hg_sorted:Gl X "sorted":=cm hsc
 refine al (F1:=lE) (F2:=lc) ?_ ?_
 ·exact V5.s (vD hu ((bf ((aC cx k_law_at rfl hg_law_at (aa (V0.v) (aa (ak) (aj) rfl) rfl)).read) ((ak).read)).read) ((ak).read) (ax rfl)) rfl
 refine al (F1:=lF) (F2:=lf) ?_ ?_
 ·exact V6.s (vD hu ((bf ((aC cx k_law_at rfl hg_law_at (aa (V0.v) (aa (ak) (aj) rfl) rfl)).read) ((ak).read)).read) ((ak).read) (ax rfl)) rfl
 refine al (F1:=lG) (F2:=lg) ?_ ?_
 ·exact V7.w (ca (aj)) rfl
 refine al (F1:=lH) (F2:=lh) ?_ ?_
 ·exact V8.w (ca (aj)) rfl
 refine al (F1:=lJ) (F2:=ll) ?_ ?_
 ·exact V9.s (bf ((aC cx k_law_at rfl hg_law_at (aa (V0.v) (aa (V1.v) (aj) rfl) rfl)).read) ((V3.v).read)) rfl
 refine al (F1:=lK) (F2:=lm) ?_ ?_
 ·exact d6 cx hcalm (cO hg_range b_range (aa (V2.v) (aj) rfl) rfl) (λ B=>V10.t) (λ B=>al (V11.s (aC cx k_law_at rfl hg_law_at (aa (V0.v) (aa (bK ((bK ((V1.v).read) ((ak).read)).read) ((V10.v).read)) (aj) rfl) rfl)) rfl) (al (aY cx (cb ((V5.v).read) rfl) (ao (V11.s (bK ((bK ((V11.v).read) ((iU ((ak).read) ((V10.v).read)).read)).read) ((aC cx k_law_at rfl hg_law_at (aa (V0.v) (aa (ak) (aj) rfl) rfl)).read)) rfl)) (aI)) (al (V12.s (aC cx k_law_draws rfl hg_law_draws (aa (V11.v) (aa (V5.v) (aa (ak) (aa (V3.v) (aj) rfl) rfl) rfl) rfl)) rfl) (al (V13.s (bf ((bi ((V12.v).read) ((ak).read) rfl).read) ((bK ((V4.v).read) ((ak).read)).read)) rfl) (al (V14.s (zS ((V12.v).read) (ka (ak)) (ka (bK ((ak).read) ((bf ((bi ((V12.v).read) ((ak).read) rfl).read) ((ak).read)).read)))) rfl) (al (aY cx (cb ((V6.v).read) rfl) (al (V13.s (DC hg_int b_int (aa (vB (vD hu ((bf ((bi ((V12.v).read) ((ak).read) rfl).read) ((ak).read)).read) ((ak).read) (ax rfl)) (vF (II ((V4.v).read) ((ak).read) (ax rfl)))) (aj) rfl) rfl) rfl) (ao (yW (N0:=[("_law_script" : Str),("_law_at_here" : Str),("_law_many" : Str),("_law_length" : Str),("_law_gap" : Str),("_law_mixed" : Str),("_law_near" : Str),("_law_path" : Str),("_law_rows" : Str),("_law_day" : Str),("_law_k" : Str),("_law_cell" : Str),("_law_picks" : Str),("_law_step" : Str),("_law_others" : Str)]) (xs:=[("_law_pick" : Str)]) cx hnd V14.n (by rw [hsc];rfl) lv14 rfl (by decide +kernel) hcalm ⟨by decide +kernel,rfl,by decide +kernel,(congrArg List.length hN).symm,by rw [hN];exact i4 (by decide +kernel),by decide +kernel,by rw [hsc];decide +kernel⟩ (j0 (j8 (zS ((V12.v).read) (ka (ak)) (o8)))) (by rw [hN];exact gX) (λ X' B' hC=>by (have cx:Cxo X':=hC.cxo);(have hcalm:X'.calm=true:=hC.calm.trans hcalm);(have hu:X'.A.units + 64 < cLine:=by rw [hC.A];exact hu);(have hN':=hC.N);(have tt15:∀ {B:Gd} {pos:Pos},QGz κ B X' (.Name "_law_pick" pos) (bN 15):=cB cx (by rw [hN'];decide +kernel) (by rw [hN'];rfl) (.inl (hC.look rfl (by decide))) (.inr (hC.look rfl (by decide))));exact tt15) (λ X' B' hC=>by (have cx:Cxo X':=hC.cxo);(have hcalm:X'.calm=true:=hC.calm.trans hcalm);(have hu:X'.A.units + 64 < cLine:=by rw [hC.A];exact hu);(have hN':=hC.N);exact iS) (λ X' B' hC=>by (have cx:Cxo X':=hC.cxo);(have hcalm:X'.calm=true:=hC.calm.trans hcalm);(have hu:X'.A.units + 64 < cLine:=by rw [hC.A];exact hu);(have hN':=hC.N);(have z3:∀ {B:Gd} {pos:Pos},QX κ B X' (.Name "_law_length" pos) (ac 3):=cq 3 (by rw [hN'];rfl) (hC.vis rfl) (by decide) (by decide));(have z9:∀ {B:Gd} {pos:Pos},QX κ B X' (.Name "_law_day" pos) (ac 9):=cq 9 (by rw [hN'];rfl) (hC.vis rfl) (by decide) (by decide));(have z15:∀ {B:Gd} {pos:Pos},QX κ B X' (.Name "_law_pick" pos) (ac 15):=cq 15 (by rw [hN'];rfl) (.inl (hC.look rfl (by decide))) (by decide) (by decide));(have hg_min:Gl X' "min":=hC.look rfl (by decide));(have b_min:X'.mg "min" = none:=by rw [hC.mg];exact b_min);exact DB hcalm hg_min b_min (aa (gW ((z3).read) ((ak).read)) (aa (bK ((z9).read) ((bf ((z15).read) ((ak).read)).read)) (aj) rfl) rfl) rfl rfl) rfl))) (aI)) (al (aY cx ((dQ (n6 ((V10.v).read) ((ak).read) (ax rfl)) (dE (eM ((bK ((V9.v).read) ((V13.v).read)).read) ((V3.v).read) (ax rfl)))).t) (ao (V9.s (bK ((V9.v).read) ((V13.v).read)) rfl)) (aI)) (al (V7.a (V9.v) rfl rfl) (ao (V8.a ((A9 hcalm hg_sorted b_sorted hg_set b_set ((vC ((V14.v).read) ((cM (aa (V9.v) (aj) rfl)).read)).read) rfl).px) rfl rfl)))))))))) rfl
 refine eN 8 (F:=jQ) ?_
 refine eN 7 (F:=_) ?_
 exact ao (aT cx (cM (aa (V7.v) (aa (V8.v) (aj) rfl) rfl)))
noncomputable def jl:Ev->R (List D):=bj 1 (λ δ=>((ac 0) δ).bind aV) (bN 1) (λ _=>.ok true) (mL (λ δ=>((ac 1) δ).bind aV))
noncomputable def bJ (ds:List D):R (List D):=l4 (jl (av 1 ds))
noncomputable def eF:List D->R D:=mF bJ
theorem vO:FnScope ["_law_rows"] ["_law_rows"] (am (aK 35)):=mv
theorem uE {κ:Nat->Addr} {X:Cx} {B:Gd} (cx:Cxo X) (hcalm:X.calm=true) (hN:X.N=[("_law_rows" : Str)]) (hsc:X.env.scope=am (aK 35)) (hfn:∀ y,X.fn y=true) (hu:X.A.units + 64 < cLine) (b_list:X.mg "list" = none):QZr κ B X (ay (aK 35)) ρF jl:=by
 have hnd:X.N.Nodup:=by rw [hN];decide +kernel
 have V0:VP X 0 "_law_rows":=aS cx hnd hfn hN hsc
 exact cC cx (n5 (yT (N0:=[("_law_rows" : Str)]) (xs:=[("_law_row_here" : Str)]) hcalm ⟨by decide +kernel,rfl,by decide +kernel,(congrArg List.length hN).symm,by rw [hN];exact i4 (by decide +kernel),by decide +kernel,by rw [hsc];decide +kernel⟩ (j0 (j8 (V0.v))) (by rw [hN];exact gX) (λ X' B' hC=>by (have cx:Cxo X':=hC.cxo);(have hcalm:X'.calm=true:=hC.calm.trans hcalm);(have hu:X'.A.units + 64 < cLine:=by rw [hC.A];exact hu);(have hN':=hC.N);(have tt1:∀ {B:Gd} {pos:Pos},QGz κ B X' (.Name "_law_row_here" pos) (bN 1):=cB cx (by rw [hN'];decide +kernel) (by rw [hN'];rfl) (.inl (hC.look rfl (by decide))) (.inr (hC.look rfl (by decide))));exact tt1) (λ X' B' hC=>by (have cx:Cxo X':=hC.cxo);(have hcalm:X'.calm=true:=hC.calm.trans hcalm);(have hu:X'.A.units + 64 < cLine:=by rw [hC.A];exact hu);(have hN':=hC.N);exact iS) (λ X' B' hC=>by (have cx:Cxo X':=hC.cxo);(have hcalm:X'.calm=true:=hC.calm.trans hcalm);(have hu:X'.A.units + 64 < cLine:=by rw [hC.A];exact hu);(have hN':=hC.N);(have z1:∀ {B:Gd} {pos:Pos},QX κ B X' (.Name "_law_row_here" pos) (ac 1):=cq 1 (by rw [hN'];rfl) (.inl (hC.look rfl (by decide))) (by decide) (by decide));(have hg_list:Gl X' "list":=hC.look rfl (by decide));(have b_list:X'.mg "list" = none:=by rw [hC.mg];exact b_list);exact mo hg_list b_list ((z1).read) rfl) rfl))
noncomputable def gx:Ev->SR:=nE 4 (λ i j=>i + j) (mC (.int 1))
noncomputable def gy:Ev->SR:=aD (b5 (gT (bY qd (ac 4) (m1 cj (ac 0))) (bY xR (m2 bP (ac 0) (ac 4)) (ac 5))) (gx) 1000) (fN (gT (bY wV (ac 4) (mC (.int 0))) (bY xR (m2 kX (ac 5) (m2 bP (ac 0) (m2 kX (ac 4) (mC (.int 1))))) (ac 2))) (cF 3 (ac 5)) (SR.next))
noncomputable def jO:Ev->R (List D):=gP 3
noncomputable def gF:Ev->SR:=cG (λ δ=>((ac 1) δ).bind aV) (bN 5) (gy)
noncomputable def eT:Ev->R (List D):=aX gF jO
noncomputable def gE:Ev->SR:=bo 4 (mC (.int 0))
noncomputable def eS:Ev->R (List D):=aX gE eT
noncomputable def gD:Ev->SR:=dM 3 (λ δ=>lim ((au) δ))
noncomputable def ib:Ev->R (List D):=aX gD eS
noncomputable def bW (ds:List D):R (List D):=l4 (ib (av 6 ds))
noncomputable def sx:List D->R D:=mF bW
theorem sJ:FnScope ["ahead", "row", "gap", "days", "passed", "day"] ["ahead", "row", "gap"] (am (aK 1)):=mv
theorem sr {κ:Nat->Addr} {X:Cx} {B:Gd} (cx:Cxo X) (hcalm:X.calm=true) (hN:X.N=[("ahead" : Str),("row" : Str),("gap" : Str),("days" : Str),("passed" : Str),("day" : Str)]) (hsc:X.env.scope=am (aK 1)) (hfn:∀ y,X.fn y=true) (hu:X.A.units + 64 < cLine) (b_len:X.mg "len" = none):QZr κ B X (ay (aK 1)) ρ1 ib:=by
 have hnd:X.N.Nodup:=by rw [hN];decide +kernel
 have V0:VP X 0 "ahead":=aS cx hnd hfn hN hsc
 have V1:VP X 1 "row":=aS cx hnd hfn hN hsc
 have V2:VP X 2 "gap":=aS cx hnd hfn hN hsc
 have V3:VP X 3 "days":=aS cx hnd hfn hN hsc
 have V4:VP X 4 "passed":=aS cx hnd hfn hN hsc
 have V5:VP X 5 "day":=aS cx hnd hfn hN hsc
 have hg_len:Gl X "len":=cm hsc
 refine aU (F1:=gD) (F2:=eS) ?_ ?_
 ·exact V3.w (ca (aj)) rfl
 refine aU (F1:=gE) (F2:=eT) ?_ ?_
 ·exact V4.s (ak) rfl
 refine aU (F1:=gF) (F2:=jO) ?_ ?_
 ·exact d6 cx hcalm (j9 (V1.v)) (λ B=>V5.t) (λ B=>al (kc cx 1000 ((dQ (eM ((V4.v).read) ((cN hg_len b_len ((V0.v).read) rfl).read) (ax rfl)) (dE (qu ((bi ((V0.v).read) ((V4.v).read) rfl).read) ((V5.v).read) (ax rfl)))).t) (ao (V4.ua (ak)))) (ao (aY cx ((dQ (n6 ((V4.v).read) ((ak).read) (ax rfl)) (dE (qu ((gW ((V5.v).read) ((bi ((V0.v).read) ((gW ((V4.v).read) ((ak).read)).read) rfl).read)).read) ((V2.v).read) (ax rfl)))).t) (ao (V3.a (V5.v) rfl rfl)) (aI)))) rfl
 exact cC cx (qt 3 V3.n V3.vi (by decide) (by decide))
noncomputable def eB:Ev->SR:=fN (bY kg (bO 2) (iR (au))) (cF 2 (mL (λ δ=>((ac 3) δ).bind aV))) (cF 2 (mL (λ δ=>((af (m2 bP (bO 2) (m1 nv (mC (.int 1)))) (af (ac 3) (af (ac 1) (au)))) δ).bind bW)))
noncomputable def gh:Ev->R (List D):=gP 2
noncomputable def iI:Ev->SR:=cG (λ δ=>((ac 0) δ).bind aV) (bN 3) (eB)
noncomputable def gg:Ev->R (List D):=aX iI gh
noncomputable def lD:Ev->SR:=dM 2 (λ δ=>lim ((au) δ))
noncomputable def jk:Ev->R (List D):=aX lD gg
noncomputable def cg (ds:List D):R (List D):=l4 (jk (av 4 ds))
noncomputable def eE:List D->R D:=mF cg
theorem vN:FnScope ["rows", "gap", "told", "row"] ["rows", "gap"] (am (aK 3)):=mv
theorem uD {κ:Nat->Addr} {X:Cx} {B:Gd} (cx:Cxo X) (hcalm:X.calm=true) (hN:X.N=[("rows" : Str),("gap" : Str),("told" : Str),("row" : Str)]) (hsc:X.env.scope=am (aK 3)) (hfn:∀ y,X.fn y=true) (hu:X.A.units + 64 < cLine) (kr_days_behind:CalR κ X ("days_behind" : Str) 3 ρ1 bW) (b_list:X.mg "list" = none):QZr κ B X (ay (aK 3)) ρF jk:=by
 have hnd:X.N.Nodup:=by rw [hN];decide +kernel
 have V0:VP X 0 "rows":=aS cx hnd hfn hN hsc
 have V1:VP X 1 "gap":=aS cx hnd hfn hN hsc
 have V2:VP X 2 "told":=aS cx hnd hfn hN hsc
 have V3:VP X 3 "row":=aS cx hnd hfn hN hsc
 have hg_days_behind:Gl X "days_behind":=cm hsc
 have hg_list:Gl X "list":=cm hsc
 refine V2.oJ (Fr2:=gg) ?_
 refine kL (F1:=iI) (Fr3:=gh) ?_ ?_
 ·exact V3.fJ hcalm (by decide) (j9 (V0.v)) (λ B=>dF (vG cx (cr hu (V2.r) ((cM (aj)).read) (ax rfl)) (dF (V2.aJ (mo hg_list b_list ((V3.v).read) rfl) rfl rfl)) (dF (V2.aJ (b6 cx kr_days_behind rfl hg_days_behind (aa (bi (V2.r) ((jc ((ak).read)).read) rfl) (aa (V3.v) (aa (V1.v) (aj) rfl) rfl) rfl) (by decide) rfl (ar (ar (ar (bh))))) rfl rfl)))) rfl (yr (mn _ _) (mn _ _))
 exact V2.rJ
noncomputable def iu:Ev->SR:=nE 4 (λ i j=>i + j) (mC (.int 1))
noncomputable def iw:Ev->SR:=aD (b5 (gT (bY qd (ac 4) (m1 cj (ac 1))) (bY qd (m2 bP (ac 1) (ac 4)) (ac 5))) (iu) 1000) (fN (gT (bY qd (ac 4) (m1 cj (ac 1))) (bY xR (m2 kX (m2 bP (ac 1) (ac 4)) (ac 5)) (ac 2))) (cF 3 (ac 5)) (SR.next))
noncomputable def kN:Ev->R (List D):=gP 3
noncomputable def iG:Ev->SR:=cG (λ δ=>((ac 0) δ).bind aV) (bN 5) (iw)
noncomputable def gc:Ev->R (List D):=aX iG kN
noncomputable def iF:Ev->SR:=bo 4 (mC (.int 0))
noncomputable def gb:Ev->R (List D):=aX iF gc
noncomputable def iE:Ev->SR:=dM 3 (λ δ=>lim ((au) δ))
noncomputable def jg:Ev->R (List D):=aX iE gb
noncomputable def cf (ds:List D):R (List D):=l4 (jg (av 6 ds))
noncomputable def uQ:List D->R D:=mF cf
theorem vM:FnScope ["row", "behind", "gap", "days", "passed", "day"] ["row", "behind", "gap"] (am (aK 2)):=mv
theorem uC {κ:Nat->Addr} {X:Cx} {B:Gd} (cx:Cxo X) (hcalm:X.calm=true) (hN:X.N=[("row" : Str),("behind" : Str),("gap" : Str),("days" : Str),("passed" : Str),("day" : Str)]) (hsc:X.env.scope=am (aK 2)) (hfn:∀ y,X.fn y=true) (hu:X.A.units + 64 < cLine) (b_len:X.mg "len" = none):QZr κ B X (ay (aK 2)) ρ1 jg:=by
 have hnd:X.N.Nodup:=by rw [hN];decide +kernel
 have V0:VP X 0 "row":=aS cx hnd hfn hN hsc
 have V1:VP X 1 "behind":=aS cx hnd hfn hN hsc
 have V2:VP X 2 "gap":=aS cx hnd hfn hN hsc
 have V3:VP X 3 "days":=aS cx hnd hfn hN hsc
 have V4:VP X 4 "passed":=aS cx hnd hfn hN hsc
 have V5:VP X 5 "day":=aS cx hnd hfn hN hsc
 have hg_len:Gl X "len":=cm hsc
 refine aU (F1:=iE) (F2:=gb) ?_ ?_
 ·exact V3.w (ca (aj)) rfl
 refine aU (F1:=iF) (F2:=gc) ?_ ?_
 ·exact V4.s (ak) rfl
 refine aU (F1:=iG) (F2:=kN) ?_ ?_
 ·exact d6 cx hcalm (j9 (V0.v)) (λ B=>V5.t) (λ B=>al (kc cx 1000 ((dQ (eM ((V4.v).read) ((cN hg_len b_len ((V1.v).read) rfl).read) (ax rfl)) (dE (eM ((bi ((V1.v).read) ((V4.v).read) rfl).read) ((V5.v).read) (ax rfl)))).t) (ao (V4.ua (ak)))) (ao (aY cx ((dQ (eM ((V4.v).read) ((cN hg_len b_len ((V1.v).read) rfl).read) (ax rfl)) (dE (qu ((gW ((bi ((V1.v).read) ((V4.v).read) rfl).read) ((V5.v).read)).read) ((V2.v).read) (ax rfl)))).t) (ao (V3.a (V5.v) rfl rfl)) (aI)))) rfl
 exact cC cx (qt 3 V3.n V3.vi (by decide) (by decide))
noncomputable def fO:Ev->SR:=fN (bY kg (bO 2) (iR (au))) (cF 2 (mL (λ δ=>((ac 3) δ).bind aV))) (cF 2 (mL (λ δ=>((af (ac 3) (af (m2 bP (bO 2) (m1 nv (mC (.int 1)))) (af (ac 1) (au)))) δ).bind cf)))
noncomputable def hZ:Ev->R (List D):=gP 2
noncomputable def jA:Ev->SR:=sM 2
noncomputable def hV:Ev->R (List D):=aX jA hZ
noncomputable def jz:Ev->SR:=cG (λ δ=>((ac 0) δ).bind vI) (bN 3) (fO)
noncomputable def hU:Ev->R (List D):=aX jz hV
noncomputable def mz:Ev->SR:=dM 2 (λ δ=>lim ((au) δ))
noncomputable def kh:Ev->R (List D):=aX mz hU
noncomputable def bI (ds:List D):R (List D):=l4 (kh (av 4 ds))
noncomputable def wQ:List D->R D:=mF bI
theorem xx:FnScope ["rows", "gap", "told", "row"] ["rows", "gap"] (am (aK 4)):=mv
theorem wk {κ:Nat->Addr} {X:Cx} {B:Gd} (cx:Cxo X) (hcalm:X.calm=true) (hN:X.N=[("rows" : Str),("gap" : Str),("told" : Str),("row" : Str)]) (hsc:X.env.scope=am (aK 4)) (hfn:∀ y,X.fn y=true) (hu:X.A.units + 64 < cLine) (kr_days_ahead:CalR κ X ("days_ahead" : Str) 3 ρ1 cf) (b_list:X.mg "list" = none) (b_reversed:X.mg "reversed" = none):QZr κ B X (ay (aK 4)) ρF kh:=by
 have hnd:X.N.Nodup:=by rw [hN];decide +kernel
 have V0:VP X 0 "rows":=aS cx hnd hfn hN hsc
 have V1:VP X 1 "gap":=aS cx hnd hfn hN hsc
 have V2:VP X 2 "told":=aS cx hnd hfn hN hsc
 have V3:VP X 3 "row":=aS cx hnd hfn hN hsc
 have hg_days_ahead:Gl X "days_ahead":=cm hsc
 have hg_list:Gl X "list":=cm hsc
 have hg_reversed:Gl X "reversed":=cm hsc
 refine V2.oJ (Fr2:=hU) ?_
 refine kL (F1:=jz) (Fr3:=hV) ?_ ?_
 ·exact V3.fJ hcalm (by decide) (rH hg_reversed b_reversed (V0.v) rfl) (λ B=>dF (vG cx (cr hu (V2.r) ((cM (aj)).read) (ax rfl)) (dF (V2.aJ (mo hg_list b_list ((V3.v).read) rfl) rfl rfl)) (dF (V2.aJ (b6 cx kr_days_ahead rfl hg_days_ahead (aa (V3.v) (aa (bi (V2.r) ((jc ((ak).read)).read) rfl) (aa (V1.v) (aj) rfl) rfl) rfl) (by decide) rfl (ar (ar (ar (bh))))) rfl rfl)))) rfl (yr (mn _ _) (mn _ _))
 refine kL (F1:=jA) (Fr3:=hZ) ?_ ?_
 ·exact V2.vJ rfl
 exact V2.rJ
noncomputable def eY:Ev->R (List D):=λ δ=>((af (aQ eE (af (ac 0) (af (ac 1) (au)))) (af (ac 1) (au))) δ).bind bI
noncomputable def bD (ds:List D):R (List D):=l4 (eY (av 2 ds))
noncomputable def bA:List D->R D:=mF bD
theorem qi:FnScope ["rows", "gap"] ["rows", "gap"] (am (aK 5)):=mv
theorem pZ {κ:Nat->Addr} {X:Cx} {B:Gd} (cx:Cxo X) (hcalm:X.calm=true) (hN:X.N=[("rows" : Str),("gap" : Str)]) (hsc:X.env.scope=am (aK 5)) (hfn:∀ y,X.fn y=true) (hu:X.A.units + 64 < cLine) (kr_back_days:CalR κ X ("back_days" : Str) 2 ρF bI) (k_forth_days:Cal κ X "forth_days" 2 eE):QZr κ B X (ay (aK 5)) ρF eY:=by
 have hnd:X.N.Nodup:=by rw [hN];decide +kernel
 have V0:VP X 0 "rows":=aS cx hnd hfn hN hsc
 have V1:VP X 1 "gap":=aS cx hnd hfn hN hsc
 have hg_back_days:Gl X "back_days":=cm hsc
 have hg_forth_days:Gl X "forth_days":=cm hsc
 exact cC cx (n5 (fM cx kr_back_days rfl hg_back_days (aa (aC cx k_forth_days rfl hg_forth_days (aa (V0.v) (aa (V1.v) (aj) rfl) rfl)) (aa (V1.v) (aj) rfl) rfl) (by decide) rfl (ar (ar (bh)))))
noncomputable def gl:Ev->R (List D):=λ δ=>((af (ac 0) (af (ac 1) (au))) δ).bind bD
noncomputable def dS:Ev->R (List D):=rf (bY kg (ac 2) (mC (.int 1))) (λ δ=>((af (ac 0) (af (ac 1) (au))) δ).bind bI) gl
noncomputable def dO:Ev->R (List D):=rf (bY kg (ac 2) (mC (.int 0))) (λ δ=>((af (ac 0) (af (ac 1) (au))) δ).bind cg) dS
noncomputable def aW (ds:List D):R (List D):=l4 (dO (av 3 ds))
noncomputable def eG:List D->R D:=mF aW
theorem vQ:FnScope ["_law_handed", "_law_gap", "_law_which"] ["_law_handed", "_law_gap", "_law_which"] (am (aK 38)):=mv
theorem uG {κ:Nat->Addr} {X:Cx} {B:Gd} (cx:Cxo X) (hcalm:X.calm=true) (hN:X.N=[("_law_handed" : Str),("_law_gap" : Str),("_law_which" : Str)]) (hsc:X.env.scope=am (aK 38)) (hfn:∀ y,X.fn y=true) (hu:X.A.units + 64 < cLine) (kr_forth_days:CalR κ X ("forth_days" : Str) 2 ρF cg) (kr_back_days:CalR κ X ("back_days" : Str) 2 ρF bI) (kr_possible_days:CalR κ X ("possible_days" : Str) 2 ρF bD):QZr κ B X (ay (aK 38)) ρF dO:=by
 have hnd:X.N.Nodup:=by rw [hN];decide +kernel
 have V0:VP X 0 "_law_handed":=aS cx hnd hfn hN hsc
 have V1:VP X 1 "_law_gap":=aS cx hnd hfn hN hsc
 have V2:VP X 2 "_law_which":=aS cx hnd hfn hN hsc
 have hg_forth_days:Gl X "forth_days":=cm hsc
 have hg_back_days:Gl X "back_days":=cm hsc
 have hg_possible_days:Gl X "possible_days":=cm hsc
 refine kK cx (cr hu ((V2.v).read) ((ak).read) (ax rfl)) (n5 (fM cx kr_forth_days rfl hg_forth_days (aa (V0.v) (aa (V1.v) (aj) rfl) rfl) (by decide) rfl (ar (ar (bh))))) (G:=dS) ?_
 refine kK cx (cr hu ((V2.v).read) ((ak).read) (ax rfl)) (n5 (fM cx kr_back_days rfl hg_back_days (aa (V0.v) (aa (V1.v) (aj) rfl) rfl) (by decide) rfl (ar (ar (bh))))) (G:=gl) ?_
 exact cC cx (n5 (fM cx kr_possible_days rfl hg_possible_days (aa (V0.v) (aa (V1.v) (aj) rfl) rfl) (by decide) rfl (ar (ar (bh)))))
theorem xB:FnScope ["_law_told", "_law_row_here"] ["_law_told"] (am (aK 36)):=mv
noncomputable def lw:Ev->SR:=de (nT (m1 (λ x=>D9 (m9 x .int)) (ac 0)) (zB (m1 (λ x=>D9 (m9 x .bool)) (ac 0))))
noncomputable def d9 (ds:List D):R D:=iP (lw (av 1 ds))
theorem xC:FnScope ["_law_found"] ["_law_found"] (am (aK 32)):=mv
theorem wq {κ:Nat->Addr} {X:Cx} {B:Gd} (cx:Cxo X) (hcalm:X.calm=true) (hN:X.N=[("_law_found" : Str)]) (hsc:X.env.scope=am (aK 32)) (hfn:∀ y,X.fn y=true) (hu:X.A.units + 64 < cLine) (b_bool:X.mg "bool" = none) (b_int:X.mg "int" = none) (b_isinstance:X.mg "isinstance" = none):QZs κ B X (ay (aK 32)) lw:=by
 have hnd:X.N.Nodup:=by rw [hN];decide +kernel
 have V0:VP X 0 "_law_found":=aS cx hnd hfn hN hsc
 have hg_bool:Gl X "bool":=cm hsc
 have hg_int:Gl X "int":=cm hsc
 have hg_isinstance:Gl X "isinstance":=cm hsc
 exact ao (aT cx (vB (kd .int (by decide +kernel) hg_isinstance b_isinstance hg_int b_int (by decide) (by decide) ((V0.v).read) rfl) (vF (FG (kd .bool (by decide +kernel) hg_isinstance b_isinstance hg_bool b_bool (by decide) (by decide) ((V0.v).read) rfl)))))
noncomputable def kq:Ev->SR:=fN (Cy (oU (mT (aQ d9 (af (m2 bP (ac 0) (ac 2)) (au))))) (bY zG (m2 bP (ac 0) (ac 2)) (m2 bP (ac 1) (ac 2)))) (de (mC (.bl false))) (SR.next)
noncomputable def nK:Ev->SR:=de (mC (.bl true))
noncomputable def kn:Ev->SR:=nK
noncomputable def kx:Ev->SR:=cG (λ δ=>((af (m1 cj (ac 1)) (au)) δ).bind lW) (bN 2) (kq)
noncomputable def km:Ev->SR:=aD (kx) kn
noncomputable def kw:Ev->SR:=fN (Cy (oU (mT (m1 (λ x=>D9 (m9 x .list)) (ac 0)))) (bY zG (m1 cj (ac 0)) (m1 cj (ac 1)))) (de (mC (.bl false))) (SR.next)
noncomputable def mK:Ev->SR:=aD (kw) km
noncomputable def cI (ds:List D):R D:=iP (mK (av 3 ds))
theorem za:FnScope ["_law_found", "_law_kept", "_law_k"] ["_law_found", "_law_kept"] (am (aK 33)):=mv
theorem ya {κ:Nat->Addr} {X:Cx} {B:Gd} (cx:Cxo X) (hcalm:X.calm=true) (hN:X.N=[("_law_found" : Str),("_law_kept" : Str),("_law_k" : Str)]) (hsc:X.env.scope=am (aK 33)) (hfn:∀ y,X.fn y=true) (hu:X.A.units + 64 < cLine) (k_law_whole:Cal κ X "_law_whole" 1 d9) (b_isinstance:X.mg "isinstance" = none) (b_len:X.mg "len" = none) (b_list:X.mg "list" = none) (b_range:X.mg "range" = none):QZs κ B X (ay (aK 33)) mK:=by
 have hnd:X.N.Nodup:=by rw [hN];decide +kernel
 have V0:VP X 0 "_law_found":=aS cx hnd hfn hN hsc
 have V1:VP X 1 "_law_kept":=aS cx hnd hfn hN hsc
 have V2:VP X 2 "_law_k":=aS cx hnd hfn hN hsc
 have hg_law_whole:Gl X "_law_whole":=cm hsc
 have hg_isinstance:Gl X "isinstance":=cm hsc
 have hg_len:Gl X "len":=cm hsc
 have hg_list:Gl X "list":=cm hsc
 have hg_range:Gl X "range":=cm hsc
 refine al (F1:=kw) (F2:=km) ?_ ?_
 ·exact aY cx ((jd (dP (cb ((kd .list (by decide +kernel) hg_isinstance b_isinstance hg_list b_list (by decide) (by decide) ((V0.v).read) rfl).read) rfl)) (fZ (n8 hu ((cN hg_len b_len ((V0.v).read) rfl).read) ((cN hg_len b_len ((V1.v).read) rfl).read) (ax rfl)))).t) (ao (aT cx (iT))) (aI)
 refine al (F1:=kx) (F2:=kn) ?_ ?_
 ·exact d6 cx hcalm (cO hg_range b_range (aa (cN hg_len b_len ((V1.v).read) rfl) (aj) rfl) rfl) (λ B=>V2.t) (λ B=>ao (aY cx ((jd (dP (cb ((aC cx k_law_whole rfl hg_law_whole (aa (bi ((V0.v).read) ((V2.v).read) rfl) (aj) rfl)).read) rfl)) (fZ (n8 hu ((bi ((V0.v).read) ((V2.v).read) rfl).read) ((bi ((V1.v).read) ((V2.v).read) rfl).read) (ax rfl)))).t) (ao (aT cx (iT))) (aI))) rfl
 exact ao (aT cx (iT))
noncomputable def jy:Ev->SR:=fN (oU (mT (aQ cI (af (m2 bP (ac 0) (ac 2)) (af (m2 bP (ac 1) (ac 2)) (au)))))) (de (mC (.bl false))) (SR.next)
noncomputable def mD:Ev->SR:=de (mC (.bl true))
noncomputable def jr:Ev->SR:=mD
noncomputable def jF:Ev->SR:=cG (λ δ=>((af (m1 cj (ac 1)) (au)) δ).bind lW) (bN 2) (jy)
noncomputable def jq:Ev->SR:=aD (jF) jr
noncomputable def jE:Ev->SR:=fN (Cy (oU (mT (m1 (λ x=>D9 (m9 x .list)) (ac 0)))) (bY zG (m1 cj (ac 0)) (m1 cj (ac 1)))) (de (mC (.bl false))) (SR.next)
noncomputable def lq:Ev->SR:=aD (jE) jq
noncomputable def bT (ds:List D):R D:=iP (lq (av 3 ds))
theorem xz:FnScope ["_law_found", "_law_kept", "_law_k"] ["_law_found", "_law_kept"] (am (aK 34)):=mv
theorem wo {κ:Nat->Addr} {X:Cx} {B:Gd} (cx:Cxo X) (hcalm:X.calm=true) (hN:X.N=[("_law_found" : Str),("_law_kept" : Str),("_law_k" : Str)]) (hsc:X.env.scope=am (aK 34)) (hfn:∀ y,X.fn y=true) (hu:X.A.units + 64 < cLine) (k_law_list:Cal κ X "_law_list" 2 cI) (b_isinstance:X.mg "isinstance" = none) (b_len:X.mg "len" = none) (b_list:X.mg "list" = none) (b_range:X.mg "range" = none):QZs κ B X (ay (aK 34)) lq:=by
 have hnd:X.N.Nodup:=by rw [hN];decide +kernel
 have V0:VP X 0 "_law_found":=aS cx hnd hfn hN hsc
 have V1:VP X 1 "_law_kept":=aS cx hnd hfn hN hsc
 have V2:VP X 2 "_law_k":=aS cx hnd hfn hN hsc
 have hg_law_list:Gl X "_law_list":=cm hsc
 have hg_isinstance:Gl X "isinstance":=cm hsc
 have hg_len:Gl X "len":=cm hsc
 have hg_list:Gl X "list":=cm hsc
 have hg_range:Gl X "range":=cm hsc
 refine al (F1:=jE) (F2:=jq) ?_ ?_
 ·exact aY cx ((jd (dP (cb ((kd .list (by decide +kernel) hg_isinstance b_isinstance hg_list b_list (by decide) (by decide) ((V0.v).read) rfl).read) rfl)) (fZ (n8 hu ((cN hg_len b_len ((V0.v).read) rfl).read) ((cN hg_len b_len ((V1.v).read) rfl).read) (ax rfl)))).t) (ao (aT cx (iT))) (aI)
 refine al (F1:=jF) (F2:=jr) ?_ ?_
 ·exact d6 cx hcalm (cO hg_range b_range (aa (cN hg_len b_len ((V1.v).read) rfl) (aj) rfl) rfl) (λ B=>V2.t) (λ B=>ao (aY cx (dP (cb ((aC cx k_law_list rfl hg_law_list (aa (bi ((V0.v).read) ((V2.v).read) rfl) (aa (bi ((V1.v).read) ((V2.v).read) rfl) (aj) rfl) rfl)).read) rfl)) (ao (aT cx (iT))) (aI))) rfl
 exact ao (aT cx (iT))
noncomputable def ji:Ev->R (List D):=bj 1 (λ δ=>((ac 2) δ).bind aV) (bN 3) (λ _=>.ok true) (m2 bP (ac 3) (mC (.int 0)))
noncomputable def ku:Ev->SR:=fN (bY wW (iR (au)) (ac 2)) (de (mC .non)) (SR.next)
noncomputable def jh:Ev->R (List D):=aX ku ji
noncomputable def kr:Ev->SR:=bo 2 (aQ bA (af (ac 0) (af (ac 1) (au))))
noncomputable def k7:Ev->R (List D):=aX kr jh
noncomputable def bU (ds:List D):R (List D):=l4 (k7 (av 3 ds))
noncomputable def yq:List D->R D:=mF bU
theorem y0:FnScope ["rows", "gap", "possible"] ["rows", "gap"] (am (aK 6)):=mv
theorem xZ {κ:Nat->Addr} {X:Cx} {B:Gd} (cx:Cxo X) (hcalm:X.calm=true) (hN:X.N=[("rows" : Str),("gap" : Str),("possible" : Str)]) (hsc:X.env.scope=am (aK 6)) (hfn:∀ y,X.fn y=true) (hu:X.A.units + 64 < cLine) (k_possible_days:Cal κ X "possible_days" 2 bA):QZr κ B X (ay (aK 6)) ρ1 k7:=by
 have hnd:X.N.Nodup:=by rw [hN];decide +kernel
 have V0:VP X 0 "rows":=aS cx hnd hfn hN hsc
 have V1:VP X 1 "gap":=aS cx hnd hfn hN hsc
 have V2:VP X 2 "possible":=aS cx hnd hfn hN hsc
 have hg_possible_days:Gl X "possible_days":=cm hsc
 refine aU (F1:=kr) (F2:=jh) ?_ ?_
 ·exact V2.s (aC cx k_possible_days rfl hg_possible_days (aa (V0.v) (aa (V1.v) (aj) rfl) rfl)) rfl
 refine aU (F1:=ku) (F2:=ji) ?_ ?_
 ·exact aY cx (xq hu ((cM (aj)).read) ((V2.v).read) (ax rfl)) (ao (aT cx (vE))) (aI)
 exact cC cx (md (jY (N0:=[("rows" : Str),("gap" : Str),("possible" : Str)]) (xs:=[("days" : Str)]) hcalm ⟨by decide +kernel,rfl,by decide +kernel,(congrArg List.length hN).symm,by rw [hN];exact i4 (by decide +kernel),by decide +kernel,by rw [hsc];decide +kernel⟩ (j0 (j8 (V2.v))) (by rw [hN];exact gX) (λ X' B' hC=>by (have cx:Cxo X':=hC.cxo);(have hcalm:X'.calm=true:=hC.calm.trans hcalm);(have hu:X'.A.units + 64 < cLine:=by rw [hC.A];exact hu);(have hN':=hC.N);(have tt3:∀ {B:Gd} {pos:Pos},QGz κ B X' (.Name "days" pos) (bN 3):=cB cx (by rw [hN'];decide +kernel) (by rw [hN'];rfl) (.inl (hC.look rfl (by decide))) (.inr (hC.look rfl (by decide))));exact tt3) (λ X' B' hC=>by (have cx:Cxo X':=hC.cxo);(have hcalm:X'.calm=true:=hC.calm.trans hcalm);(have hu:X'.A.units + 64 < cLine:=by rw [hC.A];exact hu);(have hN':=hC.N);exact iS) (λ X' B' hC=>by (have cx:Cxo X':=hC.cxo);(have hcalm:X'.calm=true:=hC.calm.trans hcalm);(have hu:X'.A.units + 64 < cLine:=by rw [hC.A];exact hu);(have hN':=hC.N);(have z3:∀ {B:Gd} {pos:Pos},QX κ B X' (.Name "days" pos) (ac 3):=cq 3 (by rw [hN'];rfl) (.inl (hC.look rfl (by decide))) (by decide) (by decide));exact bi ((z3).read) ((ak).read) rfl) rfl))
noncomputable def k9:Ev->R (List D):=bj 1 (λ δ=>((ac 2) δ).bind aV) (bN 3) (λ _=>.ok true) (m2 bP (ac 3) (m1 nv (mC (.int 1))))
noncomputable def mR:Ev->SR:=fN (bY wW (iR (au)) (ac 2)) (de (mC .non)) (SR.next)
noncomputable def k8:Ev->R (List D):=aX mR k9
noncomputable def mQ:Ev->SR:=bo 2 (aQ bA (af (ac 0) (af (ac 1) (au))))
noncomputable def oA:Ev->R (List D):=aX mQ k8
noncomputable def fH (ds:List D):R (List D):=l4 (oA (av 3 ds))
noncomputable def Cz:List D->R D:=mF fH
theorem DJ:FnScope ["rows", "gap", "possible"] ["rows", "gap"] (am (aK 7)):=mv
theorem BY {κ:Nat->Addr} {X:Cx} {B:Gd} (cx:Cxo X) (hcalm:X.calm=true) (hN:X.N=[("rows" : Str),("gap" : Str),("possible" : Str)]) (hsc:X.env.scope=am (aK 7)) (hfn:∀ y,X.fn y=true) (hu:X.A.units + 64 < cLine) (k_possible_days:Cal κ X "possible_days" 2 bA):QZr κ B X (ay (aK 7)) ρ1 oA:=by
 have hnd:X.N.Nodup:=by rw [hN];decide +kernel
 have V0:VP X 0 "rows":=aS cx hnd hfn hN hsc
 have V1:VP X 1 "gap":=aS cx hnd hfn hN hsc
 have V2:VP X 2 "possible":=aS cx hnd hfn hN hsc
 have hg_possible_days:Gl X "possible_days":=cm hsc
 refine aU (F1:=mQ) (F2:=k8) ?_ ?_
 ·exact V2.s (aC cx k_possible_days rfl hg_possible_days (aa (V0.v) (aa (V1.v) (aj) rfl) rfl)) rfl
 refine aU (F1:=mR) (F2:=k9) ?_ ?_
 ·exact aY cx (xq hu ((cM (aj)).read) ((V2.v).read) (ax rfl)) (ao (aT cx (vE))) (aI)
 exact cC cx (md (jY (N0:=[("rows" : Str),("gap" : Str),("possible" : Str)]) (xs:=[("days" : Str)]) hcalm ⟨by decide +kernel,rfl,by decide +kernel,(congrArg List.length hN).symm,by rw [hN];exact i4 (by decide +kernel),by decide +kernel,by rw [hsc];decide +kernel⟩ (j0 (j8 (V2.v))) (by rw [hN];exact gX) (λ X' B' hC=>by (have cx:Cxo X':=hC.cxo);(have hcalm:X'.calm=true:=hC.calm.trans hcalm);(have hu:X'.A.units + 64 < cLine:=by rw [hC.A];exact hu);(have hN':=hC.N);(have tt3:∀ {B:Gd} {pos:Pos},QGz κ B X' (.Name "days" pos) (bN 3):=cB cx (by rw [hN'];decide +kernel) (by rw [hN'];rfl) (.inl (hC.look rfl (by decide))) (.inr (hC.look rfl (by decide))));exact tt3) (λ X' B' hC=>by (have cx:Cxo X':=hC.cxo);(have hcalm:X'.calm=true:=hC.calm.trans hcalm);(have hu:X'.A.units + 64 < cLine:=by rw [hC.A];exact hu);(have hN':=hC.N);exact iS) (λ X' B' hC=>by (have cx:Cxo X':=hC.cxo);(have hcalm:X'.calm=true:=hC.calm.trans hcalm);(have hu:X'.A.units + 64 < cLine:=by rw [hC.A];exact hu);(have hN':=hC.N);(have z3:∀ {B:Gd} {pos:Pos},QX κ B X' (.Name "days" pos) (ac 3):=cq 3 (by rw [hN'];rfl) (.inl (hC.look rfl (by decide))) (by decide) (by decide));exact bi ((z3).read) ((jc ((ak).read)).read) rfl) rfl))
noncomputable def iz:Ev->SR:=cF 1 (m2 d0 (m2 bP (bO 1) (m1 nv (mC (.int 1)))) (ac 2))
noncomputable def lP:Ev->SR:=de (ac 1)
noncomputable def ir:Ev->SR:=λ δ=>(lP) (iY 1 δ)
noncomputable def iK:Ev->SR:=cG (λ δ=>((ac 0) δ).bind aV) (bN 2) (iz)
noncomputable def iq:Ev->SR:=aD (iK) ir
noncomputable def iJ:Ev->SR:=dM 1 (λ δ=>lim ((af (mC (.int 0)) (au)) δ))
noncomputable def ko:Ev->SR:=aD (iJ) iq
noncomputable def cJ (ds:List D):R D:=iP (ko (av 3 ds))
theorem vR:FnScope ["numbers", "sums", "number"] ["numbers"] (am (aK 20)):=mv
theorem uH {κ:Nat->Addr} {X:Cx} {B:Gd} (cx:Cxo X) (hcalm:X.calm=true) (hN:X.N=[("numbers" : Str),("sums" : Str),("number" : Str)]) (hsc:X.env.scope=am (aK 20)) (hfn:∀ y,X.fn y=true) (hu:X.A.units + 64 < cLine)  : QZs κ B X (ay (aK 20)) ko:=by
 have hnd:X.N.Nodup:=by rw [hN];decide +kernel
 have V0:VP X 0 "numbers":=aS cx hnd hfn hN hsc
 have V1:VP X 1 "sums":=aS cx hnd hfn hN hsc
 have V2:VP X 2 "number":=aS cx hnd hfn hN hsc
 refine al (F1:=iJ) (F2:=iq) ?_ ?_
 ·exact V1.w (ca (aa (ak) (aj) rfl)) rfl
 refine al (F1:=iK) (F2:=ir) ?_ ?_
 ·exact d6 cx hcalm (j9 (V0.v)) (λ B=>V2.t) (λ B=>ao (V1.a (bK ((bi (V1.r) ((jc ((ak).read)).read) rfl).read) ((V2.v).read)) rfl rfl)) rfl
 refine eN 1 (F:=_) ?_
 exact ao (aT cx (V1.v))
noncomputable def fu:Ev->SR:=nE 6 (λ i j=>i + j) (mC (.int 1))
noncomputable def fv:Ev->SR:=nE 7 (λ i j=>i + j) (mC (.int 1))
noncomputable def dC:Ev->SR:=aD (b5 (gT (bY qd (ac 6) (m1 cj (ac 1))) (bY qd (m2 bP (ac 1) (ac 6)) (ac 8))) (fu) 1000) (aD (b5 (gT (bY qd (ac 7) (m1 cj (ac 1))) (bY xR (m2 kX (m2 bP (ac 1) (ac 7)) (ac 8)) (ac 3))) (fv) 1000) (cF 5 (m2 kX (m2 bP (ac 4) (ac 7)) (m2 bP (ac 4) (ac 6)))))
noncomputable def jR:Ev->SR:=de (ac 5)
noncomputable def fq:Ev->SR:=λ δ=>(jR) (iY 5 δ)
noncomputable def fD:Ev->SR:=cG (λ δ=>((ac 0) δ).bind aV) (bN 8) (dC)
noncomputable def fi:Ev->SR:=aD (fD) fq
noncomputable def fC:Ev->SR:=bo 7 (mC (.int 0))
noncomputable def fg:Ev->SR:=aD (fC) fi
noncomputable def fB:Ev->SR:=bo 6 (mC (.int 0))
noncomputable def ff:Ev->SR:=aD (fB) fg
noncomputable def fA:Ev->SR:=dM 5 (λ δ=>lim ((au) δ))
noncomputable def fe:Ev->SR:=aD (fA) ff
noncomputable def fw:Ev->SR:=bo 4 (aQ cJ (af (ac 2) (au)))
noncomputable def ip:Ev->SR:=aD (fw) fe
noncomputable def cw (ds:List D):R D:=iP (ip (av 9 ds))
theorem rN:FnScope ["row", "behind", "counts", "gap", "sums", "told", "start", "end", "day"] ["row", "behind", "counts", "gap"] (am (aK 21)):=mv
theorem qM {κ:Nat->Addr} {X:Cx} {B:Gd} (cx:Cxo X) (hcalm:X.calm=true) (hN:X.N=[("row" : Str),("behind" : Str),("counts" : Str),("gap" : Str),("sums" : Str),("told" : Str),("start" : Str),("end" : Str),("day" : Str)]) (hsc:X.env.scope=am (aK 21)) (hfn:∀ y,X.fn y=true) (hu:X.A.units + 64 < cLine) (k_sums_up_to:Cal κ X "sums_up_to" 1 cJ) (b_len:X.mg "len" = none):QZs κ B X (ay (aK 21)) ip:=by
 have hnd:X.N.Nodup:=by rw [hN];decide +kernel
 have V0:VP X 0 "row":=aS cx hnd hfn hN hsc
 have V1:VP X 1 "behind":=aS cx hnd hfn hN hsc
 have V2:VP X 2 "counts":=aS cx hnd hfn hN hsc
 have V3:VP X 3 "gap":=aS cx hnd hfn hN hsc
 have V4:VP X 4 "sums":=aS cx hnd hfn hN hsc
 have V5:VP X 5 "told":=aS cx hnd hfn hN hsc
 have V6:VP X 6 "start":=aS cx hnd hfn hN hsc
 have V7:VP X 7 "end":=aS cx hnd hfn hN hsc
 have V8:VP X 8 "day":=aS cx hnd hfn hN hsc
 have hg_sums_up_to:Gl X "sums_up_to":=cm hsc
 have hg_len:Gl X "len":=cm hsc
 refine al (F1:=fw) (F2:=fe) ?_ ?_
 ·exact V4.s (aC cx k_sums_up_to rfl hg_sums_up_to (aa (V2.v) (aj) rfl)) rfl
 refine al (F1:=fA) (F2:=ff) ?_ ?_
 ·exact V5.w (ca (aj)) rfl
 refine al (F1:=fB) (F2:=fg) ?_ ?_
 ·exact V6.s (ak) rfl
 refine al (F1:=fC) (F2:=fi) ?_ ?_
 ·exact V7.s (ak) rfl
 refine al (F1:=fD) (F2:=fq) ?_ ?_
 ·exact d6 cx hcalm (j9 (V0.v)) (λ B=>V8.t) (λ B=>al (kc cx 1000 ((dQ (eM ((V6.v).read) ((cN hg_len b_len ((V1.v).read) rfl).read) (ax rfl)) (dE (eM ((bi ((V1.v).read) ((V6.v).read) rfl).read) ((V8.v).read) (ax rfl)))).t) (ao (V6.ua (ak)))) (al (kc cx 1000 ((dQ (eM ((V7.v).read) ((cN hg_len b_len ((V1.v).read) rfl).read) (ax rfl)) (dE (qu ((gW ((bi ((V1.v).read) ((V7.v).read) rfl).read) ((V8.v).read)).read) ((V3.v).read) (ax rfl)))).t) (ao (V7.ua (ak)))) (ao (V5.a (gW ((bi ((V4.v).read) ((V7.v).read) rfl).read) ((bi ((V4.v).read) ((V6.v).read) rfl).read)) rfl rfl)))) rfl
 refine eN 5 (F:=_) ?_
 exact ao (aT cx (V5.v))
noncomputable def gw:Ev->SR:=aD (fN (bY kg (bO 2) (iR (au))) (cF 2 (mL (bj 1 (λ δ=>((ac 4) δ).bind aV) (bN 5) (λ _=>.ok true) (mC (.int 1))))) (cF 2 (aQ cw (af (ac 4) (af (ac 3) (af (m2 bP (bO 2) (m1 nv (mC (.int 1)))) (af (ac 1) (au)))))))) (bo 3 (ac 4))
noncomputable def kO:Ev->SR:=de (ac 2)
noncomputable def gu:Ev->SR:=λ δ=>(kO) (iY 2 δ)
noncomputable def gC:Ev->SR:=sM 2
noncomputable def gq:Ev->SR:=aD (gC) gu
noncomputable def gB:Ev->SR:=cG (λ δ=>((ac 0) δ).bind vI) (bN 4) (gw)
noncomputable def gn:Ev->SR:=aD (gB) gq
noncomputable def gA:Ev->SR:=bo 3 (iR (au))
noncomputable def gm:Ev->SR:=aD (gA) gn
noncomputable def gz:Ev->SR:=dM 2 (λ δ=>lim ((au) δ))
noncomputable def jm:Ev->SR:=aD (gz) gm
noncomputable def cS (ds:List D):R D:=iP (jm (av 5 ds))
theorem sI:FnScope ["rows", "gap", "told", "behind", "row"] ["rows", "gap"] (am (aK 22)):=mv
theorem so {κ:Nat->Addr} {X:Cx} {B:Gd} (cx:Cxo X) (hcalm:X.calm=true) (hN:X.N=[("rows" : Str),("gap" : Str),("told" : Str),("behind" : Str),("row" : Str)]) (hsc:X.env.scope=am (aK 22)) (hfn:∀ y,X.fn y=true) (hu:X.A.units + 64 < cLine) (k_counts_ahead:Cal κ X "counts_ahead" 4 cw) (b_reversed:X.mg "reversed" = none):QZs κ B X (ay (aK 22)) jm:=by
 have hnd:X.N.Nodup:=by rw [hN];decide +kernel
 have V0:VP X 0 "rows":=aS cx hnd hfn hN hsc
 have V1:VP X 1 "gap":=aS cx hnd hfn hN hsc
 have V2:VP X 2 "told":=aS cx hnd hfn hN hsc
 have V3:VP X 3 "behind":=aS cx hnd hfn hN hsc
 have V4:VP X 4 "row":=aS cx hnd hfn hN hsc
 have hg_counts_ahead:Gl X "counts_ahead":=cm hsc
 have hg_reversed:Gl X "reversed":=cm hsc
 refine al (F1:=gz) (F2:=gm) ?_ ?_
 ·exact V2.w (ca (aj)) rfl
 refine al (F1:=gA) (F2:=gn) ?_ ?_
 ·exact V3.s (cM (aj)) rfl
 refine al (F1:=gB) (F2:=gq) ?_ ?_
 ·exact d6 cx hcalm (rH hg_reversed b_reversed (V0.v) rfl) (λ B=>V4.t) (λ B=>al (aY cx (cr hu (V2.r) ((cM (aj)).read) (ax rfl)) (ao (V2.a ((jY (N0:=[("rows" : Str),("gap" : Str),("told" : Str),("behind" : Str),("row" : Str)]) (xs:=[("day" : Str)]) hcalm ⟨by decide +kernel,rfl,by decide +kernel,(congrArg List.length hN).symm,by rw [hN];exact i4 (by decide +kernel),by decide +kernel,by rw [hsc];decide +kernel⟩ (j0 (j8 (V4.v))) (by rw [hN];exact gX) (λ X' B' hC=>by (have cx:Cxo X':=hC.cxo);(have hcalm:X'.calm=true:=hC.calm.trans hcalm);(have hu:X'.A.units + 64 < cLine:=by rw [hC.A];exact hu);(have hN':=hC.N);(have tt5:∀ {B:Gd} {pos:Pos},QGz κ B X' (.Name "day" pos) (bN 5):=cB cx (by rw [hN'];decide +kernel) (by rw [hN'];rfl) (.inl (hC.look rfl (by decide))) (.inr (hC.look rfl (by decide))));exact tt5) (λ X' B' hC=>by (have cx:Cxo X':=hC.cxo);(have hcalm:X'.calm=true:=hC.calm.trans hcalm);(have hu:X'.A.units + 64 < cLine:=by rw [hC.A];exact hu);(have hN':=hC.N);exact iS) (λ X' B' hC=>by (have cx:Cxo X':=hC.cxo);(have hcalm:X'.calm=true:=hC.calm.trans hcalm);(have hu:X'.A.units + 64 < cLine:=by rw [hC.A];exact hu);(have hN':=hC.N);exact ak) rfl).px) rfl rfl)) (ao (V2.a (aC cx k_counts_ahead rfl hg_counts_ahead (aa (V4.v) (aa (V3.v) (aa (bi (V2.r) ((jc ((ak).read)).read) rfl) (aa (V1.v) (aj) rfl) rfl) rfl) rfl)) rfl rfl))) (ao (V3.s (V4.v) rfl))) rfl
 refine al (F1:=gC) (F2:=gu) ?_ ?_
 ·exact pR cx V2.n V2.vi (by decide) (by decide) rfl
 refine eN 2 (F:=_) ?_
 exact ao (aT cx (V2.v))
noncomputable def eZ:Ev->SR:=de (m1 AM (m2 bP (ac 0) (mC (.int 0))))
noncomputable def ij:Ev->SR:=aD (fN (bY kg (ac 0) (iR (au))) (de (mC (.int 1))) (SR.next)) eZ
noncomputable def cv (ds:List D):R D:=iP (ij (av 1 ds))
theorem rM:FnScope ["counts"] ["counts"] (am (aK 23)):=mv
theorem qL {κ:Nat->Addr} {X:Cx} {B:Gd} (cx:Cxo X) (hcalm:X.calm=true) (hN:X.N=[("counts" : Str)]) (hsc:X.env.scope=am (aK 23)) (hfn:∀ y,X.fn y=true) (hu:X.A.units + 64 < cLine) (b_sum:X.mg "sum" = none):QZs κ B X (ay (aK 23)) ij:=by
 have hnd:X.N.Nodup:=by rw [hN];decide +kernel
 have V0:VP X 0 "counts":=aS cx hnd hfn hN hsc
 have hg_sum:Gl X "sum":=cm hsc
 refine al (F1:=fN (bY kg (ac 0) (iR (au))) (de (mC (.int 1))) (SR.next)) (F2:=eZ) ?_ ?_
 ·exact aY cx (cr hu ((V0.v).read) ((cM (aj)).read) (ax rfl)) (ao (aT cx (ak))) (aI)
 exact ao (aT cx (IM hcalm hg_sum b_sum ((bi ((V0.v).read) ((ak).read) rfl).read) rfl))
noncomputable def mG:Ev->SR:=de (nT (m2 (kI xR) (ac 4) (ac 2)) (m2 (kI xR) (m2 kX (ac 2) (ac 4)) (ac 3)))
noncomputable def jx:Ev->SR:=mG
noncomputable def jK:Ev->SR:=bo 4 (m2 bP (ac 0) (m2 kX (ac 1) (mC (.int 1))))
noncomputable def jw:Ev->SR:=aD (jK) jx
noncomputable def cR:Ev->SR:=fN (bY kg (ac 1) (mC (.int 0))) (de (mC (.bl true))) (SR.next)
noncomputable def lA:Ev->SR:=aD (cR) jw
noncomputable def eg (ds:List D):R D:=iP (lA (av 5 ds))
theorem xD:FnScope ["days", "place", "day", "gap", "ahead"] ["days", "place", "day", "gap"] (am (aK 24)):=mv
theorem wt {κ:Nat->Addr} {X:Cx} {B:Gd} (cx:Cxo X) (hcalm:X.calm=true) (hN:X.N=[("days" : Str),("place" : Str),("day" : Str),("gap" : Str),("ahead" : Str)]) (hsc:X.env.scope=am (aK 24)) (hfn:∀ y,X.fn y=true) (hu:X.A.units + 64 < cLine)  : QZs κ B X (ay (aK 24)) lA:=by
 have hnd:X.N.Nodup:=by rw [hN];decide +kernel
 have V0:VP X 0 "days":=aS cx hnd hfn hN hsc
 have V1:VP X 1 "place":=aS cx hnd hfn hN hsc
 have V2:VP X 2 "day":=aS cx hnd hfn hN hsc
 have V3:VP X 3 "gap":=aS cx hnd hfn hN hsc
 have V4:VP X 4 "ahead":=aS cx hnd hfn hN hsc
 refine al (F1:=cR) (F2:=jw) ?_ ?_
 ·exact aY cx (cr hu ((V1.v).read) ((ak).read) (ax rfl)) (ao (aT cx (iT))) (aI)
 refine al (F1:=jK) (F2:=jx) ?_ ?_
 ·exact V4.s (bi ((V0.v).read) ((gW ((V1.v).read) ((ak).read)).read) rfl) rfl
 exact ao (aT cx (vB (Dx ((V4.v).read) ((V2.v).read) (ax rfl)) (vF (Dx ((gW ((V2.v).read) ((V4.v).read)).read) ((V3.v).read) (ax rfl)))))
noncomputable def dU:Ev->SR:=fN (λ δ=>(mT (aQ eg (af (ac 4) (af (ac 6) (af (ac 8) (af (ac 1) (au))))))) (iY 4 δ)) (aD (fN (bY qd (ac 5) (ac 9)) (aD (cF 4 (ac 8)) (SR.brk)) (SR.next)) (nE 5 (λ i j=>i - j) (ac 9))) (SR.next)
noncomputable def dW:Ev->SR:=cG (λ δ=>((af (ac 7) (af (m2 bP (ac 3) (ac 6)) (au))) δ).bind r6) (kU 2 (bp (bN 8) (bp (bN 9) (iM)))) (dU)
noncomputable def jP:Ev->R (List D):=gP 4
noncomputable def gL:Ev->SR:=cG (λ δ=>((ac 0) δ).bind pL) (kU 2 (bp (bN 6) (bp (bN 7) (iM)))) (dW)
noncomputable def eX:Ev->R (List D):=aX gL jP
noncomputable def gK:Ev->SR:=bo 5 (ac 2)
noncomputable def eW:Ev->R (List D):=aX gK eX
noncomputable def gJ:Ev->SR:=dM 4 (λ δ=>lim ((au) δ))
noncomputable def eV:Ev->R (List D):=aX gJ eW
noncomputable def gI:Ev->SR:=fN (Cy (bY qd (ac 2) (mC (.int 0))) (bY Gu (ac 2) (aQ cv (af (ac 3) (au))))) (SR.exc 6) (SR.next)
noncomputable def eU:Ev->R (List D):=aX gI eV
noncomputable def dX:Ev->SR:=bo 3 (aQ cS (af (ac 0) (af (ac 1) (au))))
noncomputable def ic:Ev->R (List D):=aX dX eU
noncomputable def bX (ds:List D):R (List D):=l4 (ic (av 10 ds))
noncomputable def sy:List D->R D:=mF bX
theorem sK:FnScope ["rows", "gap", "k", "counts", "days", "left", "place", "row", "day", "count"] ["rows", "gap", "k"] (am (aK 25)):=mv
theorem ss {κ:Nat->Addr} {X:Cx} {B:Gd} (cx:Cxo X) (hcalm:X.calm=true) (hN:X.N=[("rows" : Str),("gap" : Str),("k" : Str),("counts" : Str),("days" : Str),("left" : Str),("place" : Str),("row" : Str),("day" : Str),("count" : Str)]) (hsc:X.env.scope=am (aK 25)) (hfn:∀ y,X.fn y=true) (hu:X.A.units + 64 < cLine) (k_back_counts:Cal κ X "back_counts" 2 cS) (k_count_of_all:Cal κ X "count_of_all" 1 cv) (k_may_stand:Cal κ X "may_stand" 4 eg) (b_enumerate:X.mg "enumerate" = none) (b_zip:X.mg "zip" = none) (x_NoSuchReading:vY κ X ("NoSuchReading" : Str) 6):QZr κ B X (ay (aK 25)) ρ1 ic:=by
 have hnd:X.N.Nodup:=by rw [hN];decide +kernel
 have V0:VP X 0 "rows":=aS cx hnd hfn hN hsc
 have V1:VP X 1 "gap":=aS cx hnd hfn hN hsc
 have V2:VP X 2 "k":=aS cx hnd hfn hN hsc
 have V3:VP X 3 "counts":=aS cx hnd hfn hN hsc
 have V4:VP X 4 "days":=aS cx hnd hfn hN hsc
 have V5:VP X 5 "left":=aS cx hnd hfn hN hsc
 have V6:VP X 6 "place":=aS cx hnd hfn hN hsc
 have V7:VP X 7 "row":=aS cx hnd hfn hN hsc
 have V8:VP X 8 "day":=aS cx hnd hfn hN hsc
 have V9:VP X 9 "count":=aS cx hnd hfn hN hsc
 have hg_back_counts:Gl X "back_counts":=cm hsc
 have hg_count_of_all:Gl X "count_of_all":=cm hsc
 have hg_may_stand:Gl X "may_stand":=cm hsc
 have hg_enumerate:Gl X "enumerate":=cm hsc
 have hg_zip:Gl X "zip":=cm hsc
 have hg_NoSuchReading:Gl X "NoSuchReading":=cm hsc
 refine aU (F1:=dX) (F2:=eU) ?_ ?_
 ·exact V3.s (aC cx k_back_counts rfl hg_back_counts (aa (V0.v) (aa (V1.v) (aj) rfl) rfl)) rfl
 refine aU (F1:=gI) (F2:=eV) ?_ ?_
 ·exact aY cx ((jd (eM ((V2.v).read) ((ak).read) (ax rfl)) (fZ (zQ ((V2.v).read) ((aC cx k_count_of_all rfl hg_count_of_all (aa (V3.v) (aj) rfl)).read) (ax rfl)))).t) (ao (Bd cx hcalm x_NoSuchReading hg_NoSuchReading (by decide))) (aI)
 refine aU (F1:=gJ) (F2:=eW) ?_ ?_
 ·exact V4.w (ca (aj)) rfl
 refine aU (F1:=gK) (F2:=eX) ?_ ?_
 ·exact V5.s (V2.v) rfl
 refine aU (F1:=gL) (F2:=jP) ?_ ?_
 ·exact vH cx hcalm (tJ hg_enumerate b_enumerate (V0.v) rfl) (λ B=>rL hcalm (fS (V6.t) (fS (V7.t) (jZ) rfl) rfl) rfl rfl) (λ B=>ao (vH cx hcalm (Dv hg_zip b_zip (aa (V7.v) (aa (bi ((V3.v).read) ((V6.v).read) rfl) (aj) rfl) rfl) rfl rfl) (λ B=>rL hcalm (fS (V8.t) (fS (V9.t) (jZ) rfl) rfl) rfl rfl) (λ B=>ao (aY cx (Bb 4 (cb ((aC cx k_may_stand rfl hg_may_stand (aa (V4.v) (aa (V6.v) (aa (V8.v) (aa (V1.v) (aj) rfl) rfl) rfl) rfl)).read) rfl)) (al (aY cx (eM ((V5.v).read) ((V9.v).read) (ax rfl)) (al (V4.a (V8.v) rfl rfl) (ao (Bc))) (aI)) (ao (V5.us (V9.v)))) (aI))) rfl)) rfl
 exact cC cx (qt 4 V4.n V4.vi (by decide) (by decide))
noncomputable def ei:Ev->R (List D):=λ δ=>((af (ac 0) (af (ac 1) (af (mC (.int 0)) (au)))) δ).bind bX
noncomputable def cZ:Ev->R (List D):=rf (bY kg (ac 2) (mC (.int 1))) (λ δ=>((af (ac 0) (af (ac 1) (au))) δ).bind fH) ei
noncomputable def cP:Ev->R (List D):=rf (bY kg (ac 2) (mC (.int 0))) (λ δ=>((af (ac 0) (af (ac 1) (au))) δ).bind bU) cZ
noncomputable def aL (ds:List D):R (List D):=l4 (cP (av 3 ds))
noncomputable def dq:List D->R D:=mF aL
theorem rP:FnScope ["_law_handed", "_law_gap", "_law_which"] ["_law_handed", "_law_gap", "_law_which"] (am (aK 37)):=mv
theorem qO {κ:Nat->Addr} {X:Cx} {B:Gd} (cx:Cxo X) (hcalm:X.calm=true) (hN:X.N=[("_law_handed" : Str),("_law_gap" : Str),("_law_which" : Str)]) (hsc:X.env.scope=am (aK 37)) (hfn:∀ y,X.fn y=true) (hu:X.A.units + 64 < cLine) (kr_earliest:CalR κ X ("earliest" : Str) 2 ρ1 bU) (kr_latest:CalR κ X ("latest" : Str) 2 ρ1 fH) (kr_nth_reading:CalR κ X ("nth_reading" : Str) 3 ρ1 bX):QZr κ B X (ay (aK 37)) ρ1 cP:=by
 have hnd:X.N.Nodup:=by rw [hN];decide +kernel
 have V0:VP X 0 "_law_handed":=aS cx hnd hfn hN hsc
 have V1:VP X 1 "_law_gap":=aS cx hnd hfn hN hsc
 have V2:VP X 2 "_law_which":=aS cx hnd hfn hN hsc
 have hg_earliest:Gl X "earliest":=cm hsc
 have hg_latest:Gl X "latest":=cm hsc
 have hg_nth_reading:Gl X "nth_reading":=cm hsc
 refine kK cx (cr hu ((V2.v).read) ((ak).read) (ax rfl)) (md (b6 cx kr_earliest rfl hg_earliest (aa (V0.v) (aa (V1.v) (aj) rfl) rfl) (by decide) rfl (ar (ar (bh))))) (G:=cZ) ?_
 refine kK cx (cr hu ((V2.v).read) ((ak).read) (ax rfl)) (md (b6 cx kr_latest rfl hg_latest (aa (V0.v) (aa (V1.v) (aj) rfl) rfl) (by decide) rfl (ar (ar (bh))))) (G:=ei) ?_
 exact cC cx (md (b6 cx kr_nth_reading rfl hg_nth_reading (aa (V0.v) (aa (V1.v) (aa (ak) (aj) rfl) rfl) rfl) (by decide) rfl (ar (ar (ar (bh))))))
noncomputable def kj:Ev->R (List D):=λ δ=>((af (m2 qc (m2 qc (AD (ac 0) (sw) (mP (ac 2))) (iR (af (iR (af (ac 3) (au))) (au)))) (AD (ac 0) (mP (m2 d0 (ac 2) (mC (.int 1)))) (sw))) (af (ac 1) (au))) δ).bind bU
noncomputable def lQ:Ev->SR:=fN (bY wZ (ac 3) (m2 bP (ac 0) (ac 2))) (de (mC .non)) (SR.next)
noncomputable def mI:Ev->R (List D):=aX lQ kj
noncomputable def ci (ds:List D):R (List D):=l4 (mI (av 4 ds))
noncomputable def AE:List D->R D:=mF ci
theorem Bk:FnScope ["rows", "gap", "place", "day"] ["rows", "gap", "place", "day"] (am (aK 8)):=mv
theorem Ag {κ:Nat->Addr} {X:Cx} {B:Gd} (cx:Cxo X) (hcalm:X.calm=true) (hN:X.N=[("rows" : Str),("gap" : Str),("place" : Str),("day" : Str)]) (hsc:X.env.scope=am (aK 8)) (hfn:∀ y,X.fn y=true) (hu:X.A.units + 64 < cLine) (kr_earliest:CalR κ X ("earliest" : Str) 2 ρ1 bU):QZr κ B X (ay (aK 8)) ρ1 mI:=by
 have hnd:X.N.Nodup:=by rw [hN];decide +kernel
 have V0:VP X 0 "rows":=aS cx hnd hfn hN hsc
 have V1:VP X 1 "gap":=aS cx hnd hfn hN hsc
 have V2:VP X 2 "place":=aS cx hnd hfn hN hsc
 have V3:VP X 3 "day":=aS cx hnd hfn hN hsc
 have hg_earliest:Gl X "earliest":=cm hsc
 refine aU (F1:=lQ) (F2:=kj) ?_ ?_
 ·exact aY cx (xr hu ((V3.v).read) ((bi ((V0.v).read) ((V2.v).read) rfl).read) (ax rfl)) (ao (aT cx (vE))) (aI)
 exact cC cx (md (b6 cx kr_earliest rfl hg_earliest (aa (vC ((vC ((zS ((V0.v).read) (o8) (ka (V2.v))).read) ((cM (aa (cM (aa (V3.v) (aj) rfl)) (aj) rfl)).read)).read) ((zS ((V0.v).read) (ka (bK ((V2.v).read) ((ak).read))) (o8)).read)) (aa (V1.v) (aj) rfl) rfl) (by decide) rfl (ar (ar (bh)))))
noncomputable def eo:Ev->R (List D):=bj 1 (λ δ=>((af (ac 1) (au)) δ).bind lW) (bN 4) (λ _=>.ok true) (JG (bY yt (ac 4) (ac 2)) (mC (.int 0)) (mC (.int 1)))
noncomputable def se:Ev->SR:=me 0 2 3
noncomputable def ki:Ev->R (List D):=aX se eo
noncomputable def cK (ds:List D):R (List D):=l4 (ki (av 4 ds))
noncomputable def fV:List D->R D:=mF cK
theorem xE:FnScope ["row", "length", "own", "day"] ["row", "length"] (am (aK 10)):=mv
theorem wu {κ:Nat->Addr} {X:Cx} {B:Gd} (cx:Cxo X) (hcalm:X.calm=true) (hN:X.N=[("row" : Str),("length" : Str),("own" : Str),("day" : Str)]) (hsc:X.env.scope=am (aK 10)) (hfn:∀ y,X.fn y=true) (hu:X.A.units + 64 < cLine) (b_range:X.mg "range" = none):QZr κ B X (ay (aK 10)) ρ1 ki:=by
 have hnd:X.N.Nodup:=by rw [hN];decide +kernel
 have V0:VP X 0 "row":=aS cx hnd hfn hN hsc
 have V1:VP X 1 "length":=aS cx hnd hfn hN hsc
 have V2:VP X 2 "own":=Ki cx hnd hfn hN hsc rfl rfl (by decide) (by decide)
 have V3:VP X 3 "day":=aS cx hnd hfn hN hsc
 have hg_range:Gl X "range":=cm hsc
 refine Be cx hcalm hu hnd hfn V0.n V0.vi (by decide) (by decide) V2.n V2.l V2.vi (by decide) (by decide) V3.n V3.l V3.vi (by decide) (by decide) (by decide) (by decide) (by decide) (F:=eo) ?_
 exact cC cx (md (jY (N0:=[("row" : Str),("length" : Str),("own" : Str),("~3" : Str)]) (xs:=[("day" : Str)]) hcalm ⟨by decide +kernel,rfl,by decide +kernel,(congrArg List.length hN).symm,by rw [hN];exact i4 (by decide +kernel),by decide +kernel,by rw [hsc];decide +kernel⟩ (j0 (vA hg_range b_range (aa (V1.v) (aj) rfl) rfl)) (by rw [hN];exact gX) (λ X' B' hC=>by (have cx:Cxo X':=hC.cxo);(have hcalm:X'.calm=true:=hC.calm.trans hcalm);(have hu:X'.A.units + 64 < cLine:=by rw [hC.A];exact hu);(have hN':=hC.N);(have tt4:∀ {B:Gd} {pos:Pos},QGz κ B X' (.Name "day" pos) (bN 4):=cB cx (by rw [hN'];decide +kernel) (by rw [hN'];rfl) (.inl (hC.look rfl (by decide))) (.inr (hC.look rfl (by decide))));exact tt4) (λ X' B' hC=>by (have cx:Cxo X':=hC.cxo);(have hcalm:X'.calm=true:=hC.calm.trans hcalm);(have hu:X'.A.units + 64 < cLine:=by rw [hC.A];exact hu);(have hN':=hC.N);exact iS) (λ X' B' hC=>by (have cx:Cxo X':=hC.cxo);(have hcalm:X'.calm=true:=hC.calm.trans hcalm);(have hu:X'.A.units + 64 < cLine:=by rw [hC.A];exact hu);(have hN':=hC.N);(have z2:∀ {B:Gd} {pos:Pos},QX κ B X' (.Name "own" pos) (ac 2):=cq 2 (by rw [hN'];rfl) (hC.vis rfl) (by decide) (by decide));(have z4:∀ {B:Gd} {pos:Pos},QX κ B X' (.Name "day" pos) (ac 4):=cq 4 (by rw [hN'];rfl) (.inl (hC.look rfl (by decide))) (by decide) (by decide));exact IJ (Dz hu ((z4).read) ((z2).read) (ax rfl)) (ak) (ak)) rfl))
noncomputable def er:Ev->SR:=D2 3
noncomputable def eu:Ev->SR:=aD (b5 (gT (bY wV (m1 cj (bO 3)) (ac 4)) (bY Gu (m2 bP (ac 0) (m2 bP (bO 3) (m1 nv (mC (.int 1))))) (ac 6))) (er) 1000) (aD (cF 3 (ac 5)) (aD (fN (bY wV (m2 kX (ac 5) (m2 bP (bO 3) (ac 4))) (ac 1)) (nE 4 (λ i j=>i + j) (mC (.int 1))) (SR.next)) (cF 2 (m2 bP (bO 3) (ac 4)))))
noncomputable def qA:Ev->SR:=de (ac 2)
noncomputable def la:Ev->SR:=λ δ=>(qA) (iY 2 δ)
noncomputable def iD:Ev->SR:=cG (λ δ=>((ac 0) δ).bind pL) (kU 2 (bp (bN 5) (bp (bN 6) (iM)))) (eu)
noncomputable def ii:Ev->SR:=aD (iD) la
noncomputable def iC:Ev->SR:=bo 4 (mC (.int 0))
noncomputable def ig:Ev->SR:=aD (iC) ii
noncomputable def iB:Ev->SR:=dM 3 (λ δ=>lim ((au) δ))
noncomputable def ie:Ev->SR:=aD (iB) ig
noncomputable def iA:Ev->SR:=dM 2 (λ δ=>lim ((au) δ))
noncomputable def kl:Ev->SR:=aD (iA) ie
noncomputable def bH (ds:List D):R D:=iP (kl (av 7 ds))
theorem vL:FnScope ["numbers", "gap", "told", "kept", "start", "day", "number"] ["numbers", "gap"] (am (aK 11)):=mv
theorem uB {κ:Nat->Addr} {X:Cx} {B:Gd} (cx:Cxo X) (hcalm:X.calm=true) (hN:X.N=[("numbers" : Str),("gap" : Str),("told" : Str),("kept" : Str),("start" : Str),("day" : Str),("number" : Str)]) (hsc:X.env.scope=am (aK 11)) (hfn:∀ y,X.fn y=true) (hu:X.A.units + 64 < cLine) (b_enumerate:X.mg "enumerate" = none) (b_len:X.mg "len" = none):QZs κ B X (ay (aK 11)) kl:=by
 have hnd:X.N.Nodup:=by rw [hN];decide +kernel
 have V0:VP X 0 "numbers":=aS cx hnd hfn hN hsc
 have V1:VP X 1 "gap":=aS cx hnd hfn hN hsc
 have V2:VP X 2 "told":=aS cx hnd hfn hN hsc
 have V3:VP X 3 "kept":=aS cx hnd hfn hN hsc
 have V4:VP X 4 "start":=aS cx hnd hfn hN hsc
 have V5:VP X 5 "day":=aS cx hnd hfn hN hsc
 have V6:VP X 6 "number":=aS cx hnd hfn hN hsc
 have hg_enumerate:Gl X "enumerate":=cm hsc
 have hg_len:Gl X "len":=cm hsc
 refine al (F1:=iA) (F2:=ie) ?_ ?_
 ·exact V2.w (ca (aj)) rfl
 refine al (F1:=iB) (F2:=ig) ?_ ?_
 ·exact V3.w (ca (aj)) rfl
 refine al (F1:=iC) (F2:=ii) ?_ ?_
 ·exact V4.s (ak) rfl
 refine al (F1:=iD) (F2:=la) ?_ ?_
 ·exact vH cx hcalm (tJ hg_enumerate b_enumerate (V0.v) rfl) (λ B=>rL hcalm (fS (V5.t) (fS (V6.t) (jZ) rfl) rfl) rfl rfl) (λ B=>al (kc cx 1000 ((dQ (n6 ((cN hg_len b_len (V3.r) rfl).read) ((V4.v).read) (ax rfl)) (dE (zQ ((bi ((V0.v).read) ((bi (V3.r) ((jc ((ak).read)).read) rfl).read) rfl).read) ((V6.v).read) (ax rfl)))).t) (ao (FH cx V3.n V3.vi (by decide) (by decide) rfl))) (al (V3.a (V5.v) rfl rfl) (al (aY cx (n6 ((gW ((V5.v).read) ((bi (V3.r) ((V4.v).read) rfl).read)).read) ((V1.v).read) (ax rfl)) (ao (V4.ua (ak))) (aI)) (ao (V2.a (bi (V3.r) ((V4.v).read) rfl) rfl rfl))))) rfl
 refine eN 2 (F:=_) ?_
 exact ao (aT cx (V2.v))
noncomputable def dL:Ev->R (List D):=bj 2 (λ δ=>((af (aQ bH (af (ac 0) (af (ac 2) (au)))) (af (ac 3) (au))) δ).bind r6) (kU 2 (bp (bN 4) (bp (bN 5) (iM)))) (λ _=>.ok true) (m2 d0 (m2 bP (ac 0) (ac 4)) (ac 5))
noncomputable def dZ:Ev->SR:=bo 3 (aQ fV (af (ac 1) (af (m1 cj (ac 0)) (au))))
noncomputable def em:Ev->R (List D):=aX dZ dL
noncomputable def bv (ds:List D):R (List D):=l4 (em (av 4 ds))
noncomputable def oW:List D->R D:=mF bv
theorem pb:FnScope ["ahead", "row", "gap", "own"] ["ahead", "row", "gap"] (am (aK 12)):=mv
theorem oG {κ:Nat->Addr} {X:Cx} {B:Gd} (cx:Cxo X) (hcalm:X.calm=true) (hN:X.N=[("ahead" : Str),("row" : Str),("gap" : Str),("own" : Str)]) (hsc:X.env.scope=am (aK 12)) (hfn:∀ y,X.fn y=true) (hu:X.A.units + 64 < cLine) (k_own_blots:Cal κ X "own_blots" 2 fV) (k_best_ahead:Cal κ X "best_ahead" 2 bH) (b_len:X.mg "len" = none) (b_zip:X.mg "zip" = none):QZr κ B X (ay (aK 12)) ρ1 em:=by
 have hnd:X.N.Nodup:=by rw [hN];decide +kernel
 have V0:VP X 0 "ahead":=Ki cx hnd hfn hN hsc rfl rfl (by decide) (by decide)
 have V1:VP X 1 "row":=aS cx hnd hfn hN hsc
 have V2:VP X 2 "gap":=aS cx hnd hfn hN hsc
 have V3:VP X 3 "own":=aS cx hnd hfn hN hsc
 have hg_own_blots:Gl X "own_blots":=cm hsc
 have hg_best_ahead:Gl X "best_ahead":=cm hsc
 have hg_len:Gl X "len":=cm hsc
 have hg_zip:Gl X "zip":=cm hsc
 refine aU (F1:=dZ) (F2:=dL) ?_ ?_
 ·exact V3.s (aC cx k_own_blots rfl hg_own_blots (aa (V1.v) (aa (cN hg_len b_len ((V0.v).read) rfl) (aj) rfl) rfl)) rfl
 exact cC cx (md (jY (N0:=[("ahead" : Str),("row" : Str),("gap" : Str),("own" : Str)]) (xs:=[("best" : Str),("blot" : Str)]) hcalm ⟨by decide +kernel,rfl,by decide +kernel,(congrArg List.length hN).symm,by rw [hN];exact i4 (by decide +kernel),by decide +kernel,by rw [hsc];decide +kernel⟩ (A7 hg_zip b_zip (aa (aC cx k_best_ahead rfl hg_best_ahead (aa (V0.v) (aa (V2.v) (aj) rfl) rfl)) (aa (V3.v) (aj) rfl) rfl) rfl rfl) (by rw [hN];exact v8) (λ X' B' hC=>by (have cx:Cxo X':=hC.cxo);(have hcalm:X'.calm=true:=hC.calm.trans hcalm);(have hu:X'.A.units + 64 < cLine:=by rw [hC.A];exact hu);(have hN':=hC.N);(have tt4:∀ {B:Gd} {pos:Pos},QGz κ B X' (.Name "best" pos) (bN 4):=cB cx (by rw [hN'];decide +kernel) (by rw [hN'];rfl) (.inl (hC.look rfl (by decide))) (.inr (hC.look rfl (by decide))));(have tt5:∀ {B:Gd} {pos:Pos},QGz κ B X' (.Name "blot" pos) (bN 5):=cB cx (by rw [hN'];decide +kernel) (by rw [hN'];rfl) (.inl (hC.look rfl (by decide))) (.inr (hC.look rfl (by decide))));exact rL hcalm (fS (tt4) (fS (tt5) (jZ) rfl) rfl) rfl rfl) (λ X' B' hC=>by (have cx:Cxo X':=hC.cxo);(have hcalm:X'.calm=true:=hC.calm.trans hcalm);(have hu:X'.A.units + 64 < cLine:=by rw [hC.A];exact hu);(have hN':=hC.N);exact iS) (λ X' B' hC=>by (have cx:Cxo X':=hC.cxo);(have hcalm:X'.calm=true:=hC.calm.trans hcalm);(have hu:X'.A.units + 64 < cLine:=by rw [hC.A];exact hu);(have hN':=hC.N);(have z0:∀ {B:Gd} {pos:Pos},QX κ B X' (.Name "ahead" pos) (ac 0):=cq 0 (by rw [hN'];rfl) (hC.vis rfl) (by decide) (by decide));(have z4:∀ {B:Gd} {pos:Pos},QX κ B X' (.Name "best" pos) (ac 4):=cq 4 (by rw [hN'];rfl) (.inl (hC.look rfl (by decide))) (by decide) (by decide));(have z5:∀ {B:Gd} {pos:Pos},QX κ B X' (.Name "blot" pos) (ac 5):=cq 5 (by rw [hN'];rfl) (.inl (hC.look rfl (by decide))) (by decide) (by decide));exact bK ((bi ((z0).read) ((z4).read) rfl).read) ((z5).read)) rfl))
noncomputable def cH:Ev->SR:=fN (bY kg (bO 3) (iR (au))) (cF 3 (mL (λ δ=>((af (ac 4) (af (ac 2) (au))) δ).bind cK))) (cF 3 (mL (λ δ=>((af (m2 bP (bO 3) (m1 nv (mC (.int 1)))) (af (ac 4) (af (ac 1) (au)))) δ).bind bv)))
noncomputable def gO:Ev->R (List D):=gP 3
noncomputable def dY:Ev->SR:=cG (λ δ=>((ac 0) δ).bind aV) (bN 4) (cH)
noncomputable def dJ:Ev->R (List D):=aX dY gO
noncomputable def iH:Ev->SR:=dM 3 (λ δ=>lim ((au) δ))
noncomputable def eh:Ev->R (List D):=aX iH dJ
noncomputable def bu (ds:List D):R (List D):=l4 (eh (av 5 ds))
noncomputable def oV:List D->R D:=mF bu
theorem o9:FnScope ["rows", "gap", "length", "told", "row"] ["rows", "gap", "length"] (am (aK 13)):=mv
theorem oF {κ:Nat->Addr} {X:Cx} {B:Gd} (cx:Cxo X) (hcalm:X.calm=true) (hN:X.N=[("rows" : Str),("gap" : Str),("length" : Str),("told" : Str),("row" : Str)]) (hsc:X.env.scope=am (aK 13)) (hfn:∀ y,X.fn y=true) (hu:X.A.units + 64 < cLine) (kr_own_blots:CalR κ X ("own_blots" : Str) 2 ρ1 cK) (kr_numbers_behind:CalR κ X ("numbers_behind" : Str) 3 ρ1 bv):QZr κ B X (ay (aK 13)) ρF eh:=by
 have hnd:X.N.Nodup:=by rw [hN];decide +kernel
 have V0:VP X 0 "rows":=aS cx hnd hfn hN hsc
 have V1:VP X 1 "gap":=aS cx hnd hfn hN hsc
 have V2:VP X 2 "length":=aS cx hnd hfn hN hsc
 have V3:VP X 3 "told":=aS cx hnd hfn hN hsc
 have V4:VP X 4 "row":=aS cx hnd hfn hN hsc
 have hg_own_blots:Gl X "own_blots":=cm hsc
 have hg_numbers_behind:Gl X "numbers_behind":=cm hsc
 refine V3.oJ (Fr2:=dJ) ?_
 refine kL (F1:=dY) (Fr3:=gO) ?_ ?_
 ·exact V4.fJ hcalm (by decide) (j9 (V0.v)) (λ B=>dF (vG cx (cr hu (V3.r) ((cM (aj)).read) (ax rfl)) (dF (V3.aJ (b6 cx kr_own_blots rfl hg_own_blots (aa (V4.v) (aa (V2.v) (aj) rfl) rfl) (by decide) rfl (ar (ar (bh)))) rfl rfl)) (dF (V3.aJ (b6 cx kr_numbers_behind rfl hg_numbers_behind (aa (bi (V3.r) ((jc ((ak).read)).read) rfl) (aa (V4.v) (aa (V1.v) (aj) rfl) rfl) rfl) (by decide) rfl (ar (ar (ar (bh))))) rfl rfl)))) rfl (yr (mn _ _) (mn _ _))
 exact V3.rJ
noncomputable def b7:Ev->SR:=aD (fN (bY kg (bO 2) (iR (au))) (bo 4 (JF nu (ac 3) (af (m1 rk (ac 3)) (au)))) (bo 4 (m2 bP (aQ bH (af (ac 3) (af (ac 1) (au)))) (m2 bP (bO 2) (m1 nv (mC (.int 1))))))) (cF 2 (ac 4))
noncomputable def cX:Ev->R (List D):=gP 2
noncomputable def dj:Ev->SR:=sM 2
noncomputable def cW:Ev->R (List D):=aX dj cX
noncomputable def di:Ev->SR:=cG (λ δ=>((ac 0) δ).bind vI) (bN 3) (b7)
noncomputable def cV:Ev->R (List D):=aX di cW
noncomputable def df:Ev->SR:=dM 2 (λ δ=>lim ((au) δ))
noncomputable def dI:Ev->R (List D):=aX df cV
noncomputable def bc (ds:List D):R (List D):=l4 (dI (av 5 ds))
noncomputable def nj:List D->R D:=mF bc
theorem nC:FnScope ["numbers", "gap", "days", "row_numbers", "day"] ["numbers", "gap"] (am (aK 14)):=mv
theorem mY {κ:Nat->Addr} {X:Cx} {B:Gd} (cx:Cxo X) (hcalm:X.calm=true) (hN:X.N=[("numbers" : Str),("gap" : Str),("days" : Str),("row_numbers" : Str),("day" : Str)]) (hsc:X.env.scope=am (aK 14)) (hfn:∀ y,X.fn y=true) (hu:X.A.units + 64 < cLine) (k_best_ahead:Cal κ X "best_ahead" 2 bH) (b_min:X.mg "min" = none) (b_reversed:X.mg "reversed" = none):QZr κ B X (ay (aK 14)) ρ1 dI:=by
 have hnd:X.N.Nodup:=by rw [hN];decide +kernel
 have V0:VP X 0 "numbers":=aS cx hnd hfn hN hsc
 have V1:VP X 1 "gap":=aS cx hnd hfn hN hsc
 have V2:VP X 2 "days":=aS cx hnd hfn hN hsc
 have V3:VP X 3 "row_numbers":=aS cx hnd hfn hN hsc
 have V4:VP X 4 "day":=aS cx hnd hfn hN hsc
 have hg_best_ahead:Gl X "best_ahead":=cm hsc
 have hg_min:Gl X "min":=cm hsc
 have hg_reversed:Gl X "reversed":=cm hsc
 refine aU (F1:=df) (F2:=cV) ?_ ?_
 ·exact V2.w (ca (aj)) rfl
 refine aU (F1:=di) (F2:=cW) ?_ ?_
 ·exact d6 cx hcalm (rH hg_reversed b_reversed (V0.v) rfl) (λ B=>V3.t) (λ B=>al (aY cx (cr hu (V2.r) ((cM (aj)).read) (ax rfl)) (ao (V4.s (DA hu ((V3.v).read) (aa (FK hcalm hg_min b_min ((V3.v).read) rfl) (aj) rfl) rfl rfl rfl) rfl)) (ao (V4.s (bi ((aC cx k_best_ahead rfl hg_best_ahead (aa (V3.v) (aa (V1.v) (aj) rfl) rfl)).read) ((bi (V2.r) ((jc ((ak).read)).read) rfl).read) rfl) rfl))) (ao (V2.a (V4.v) rfl rfl))) rfl
 refine aU (F1:=dj) (F2:=cX) ?_ ?_
 ·exact pR cx V2.n V2.vi (by decide) (by decide) rfl
 exact cC cx (qt 2 V2.n V2.vi (by decide) (by decide))
noncomputable def gf:Ev->R (List D × List D × List D):=re 3 4 (λ δ=>((af (ac 0) (af (ac 1) (af (ac 2) (au)))) δ).bind bu) (λ δ=>((af (ac 3) (af (ac 1) (au))) δ).bind bc) (bj 2 (λ δ=>((ac 0) δ).bind pL) (kU 2 (bp (bN 6) (bp (bN 7) (iM)))) (bY wZ (m2 bP (ac 4) (ac 6)) (ac 7)) (ac 6))
noncomputable def bB (ds:List D):R (List D × List D × List D):=l4 (gf (av 6 ds))
noncomputable def cz:List D->R D:=JH bB
theorem rO:FnScope ["rows", "gap", "length", "numbers", "days", "places"] ["rows", "gap", "length"] (am (aK 15)):=mv
theorem qN {κ:Nat->Addr} {X:Cx} {B:Gd} (cx:Cxo X) (hcalm:X.calm=true) (hN:X.N=[("rows" : Str),("gap" : Str),("length" : Str),("numbers" : Str),("days" : Str),("places" : Str)]) (hsc:X.env.scope=am (aK 15)) (hfn:∀ y,X.fn y=true) (hu:X.A.units + 64 < cLine) (kr_fewest_numbers:CalR κ X ("fewest_numbers" : Str) 3 ρF bu) (kr_days_with_fewest:CalR κ X ("days_with_fewest" : Str) 2 ρ1 bc) (b_enumerate:X.mg "enumerate" = none):QZr κ B X (ay (aK 15)) ρT gf:=by
 have hnd:X.N.Nodup:=by rw [hN];decide +kernel
 have V0:VP X 0 "rows":=aS cx hnd hfn hN hsc
 have V1:VP X 1 "gap":=aS cx hnd hfn hN hsc
 have V2:VP X 2 "length":=aS cx hnd hfn hN hsc
 have V3:VP X 3 "numbers":=aS cx hnd hfn hN hsc
 have V4:VP X 4 "days":=Ki cx hnd hfn hN hsc rfl rfl (by decide) (by decide)
 have lv5:X.env.scope.names.lookup ("places" : Str)=some .local:=by rw [hsc];rfl
 have V5:VP X 5 "places":=aS cx hnd hfn hN hsc
 have hg_fewest_numbers:Gl X "fewest_numbers":=cm hsc
 have hg_days_with_fewest:Gl X "days_with_fewest":=cm hsc
 have hg_enumerate:Gl X "enumerate":=cm hsc
 exact yU (N0:=[("rows" : Str),("gap" : Str),("length" : Str),("numbers" : Str),("days" : Str),("places" : Str)]) (xs:=[("place" : Str),("row" : Str)]) V3 V4 V5 hcalm lv5 (by decide) (by decide) (by decide) (fM cx kr_fewest_numbers rfl hg_fewest_numbers (aa (V0.v) (aa (V1.v) (aa (V2.v) (aj) rfl) rfl) rfl) (by decide) rfl (ar (ar (ar (bh))))) rfl (b6 cx kr_days_with_fewest rfl hg_days_with_fewest (aa (V3.v) (aa (V1.v) (aj) rfl) rfl) (by decide) rfl (ar (ar (bh)))) rfl (by rw [hsc];rfl) rfl (by decide +kernel) ⟨by decide +kernel,rfl,by decide +kernel,(congrArg List.length hN).symm,by rw [hN];exact i4 (by decide +kernel),by decide +kernel,by rw [hsc];decide +kernel⟩ (yS hg_enumerate b_enumerate (V0.v) rfl) (by rw [hN];exact v8) (λ X' B' hC=>by (have cx:Cxo X':=hC.cxo);(have hcalm:X'.calm=true:=hC.calm.trans hcalm);(have hu:X'.A.units + 64 < cLine:=by rw [hC.A];exact hu);(have hN':=hC.N);(have tt6:∀ {B:Gd} {pos:Pos},QGz κ B X' (.Name "place" pos) (bN 6):=cB cx (by rw [hN'];decide +kernel) (by rw [hN'];rfl) (.inl (hC.look rfl (by decide))) (.inr (hC.look rfl (by decide))));(have tt7:∀ {B:Gd} {pos:Pos},QGz κ B X' (.Name "row" pos) (bN 7):=cB cx (by rw [hN'];decide +kernel) (by rw [hN'];rfl) (.inl (hC.look rfl (by decide))) (.inr (hC.look rfl (by decide))));exact rL hcalm (fS (tt6) (fS (tt7) (jZ) rfl) rfl) rfl rfl) (λ X' B' hC=>by (have cx:Cxo X':=hC.cxo);(have hcalm:X'.calm=true:=hC.calm.trans hcalm);(have hu:X'.A.units + 64 < cLine:=by rw [hC.A];exact hu);(have hN':=hC.N);(have z4:∀ {B:Gd} {pos:Pos},QX κ B X' (.Name "days" pos) (ac 4):=cq 4 (by rw [hN'];rfl) (hC.vis rfl) (by decide) (by decide));(have z6:∀ {B:Gd} {pos:Pos},QX κ B X' (.Name "place" pos) (ac 6):=cq 6 (by rw [hN'];rfl) (.inl (hC.look rfl (by decide))) (by decide) (by decide));(have z7:∀ {B:Gd} {pos:Pos},QX κ B X' (.Name "row" pos) (ac 7):=cq 7 (by rw [hN'];rfl) (.inl (hC.look rfl (by decide))) (by decide) (by decide));exact Dw (xr hu ((bi ((z4).read) ((z6).read) rfl).read) ((z7).read) (ax rfl))) (λ X' B' hC=>by (have cx:Cxo X':=hC.cxo);(have hcalm:X'.calm=true:=hC.calm.trans hcalm);(have hu:X'.A.units + 64 < cLine:=by rw [hC.A];exact hu);(have hN':=hC.N);(have z6:∀ {B:Gd} {pos:Pos},QX κ B X' (.Name "place" pos) (ac 6):=cq 6 (by rw [hN'];rfl) (.inl (hC.look rfl (by decide))) (by decide) (by decide));exact z6) rfl
noncomputable def ud:Ev->SR:=aD (rY 6 7 (λ δ=>((af (ac 4) (af (ac 2) (af (ac 5) (au)))) δ).bind aW) bJ) (fN (Cy (oU (mT (aQ bT (af (ac 4) (af (ac 3) (au)))))) (oU (mT (aQ bT (af (aQ eG (af (ac 4) (af (ac 2) (af (ac 5) (au))))) (af (ac 7) (au))))))) (de (mC (.bl false))) (SR.next))
noncomputable def ue:Ev->SR:=aD (dM 6 (λ δ=>((af (ac 4) (af (ac 2) (af (ac 5) (au)))) δ).bind aL)) (aD (bo 7 (mL (λ δ=>((bO 6) δ).bind aV))) (aD (cF 6 (mC (.int 0))) (fN (Cy (oU (mT (aQ bT (af (ac 4) (af (ac 3) (au)))))) (oU (mT (aQ cI (af (aQ dq (af (ac 4) (af (ac 2) (af (ac 5) (au))))) (af (ac 7) (au))))))) (de (mC (.bl false))) (SR.next))))
noncomputable def qk:Ev->SR:=aD (dM 6 (λ δ=>((af (ac 4) (af (ac 2) (af (ac 8) (af (m2 bP (ac 7) (ac 8)) (au))))) δ).bind ci)) (aD (cF 6 (mC (.int 0))) (aD (dM 6 (λ δ=>((af (ac 4) (af (ac 2) (af (ac 8) (af (m2 bP (ac 7) (ac 8)) (au))))) δ).bind ci)) (fN (Cy (oU (mT (m1 (λ x=>D9 (m9 x .list)) (bO 6)))) (bY zG (m1 cj (bO 6)) (m1 cj (ac 3)))) (de (mC (.bl false))) (SR.next))))
noncomputable def v4:Ev->SR:=de (aQ bT (af (ac 4) (af (ac 3) (au))))
noncomputable def qw:Ev->SR:=v4
noncomputable def uo:Ev->SR:=fN (Cy (bY zG (m1 cj (m2 bP (bO 6) (mC (.int 0)))) (ac 9)) (oU (mT (aQ bT (af (m2 bP (bO 6) (mC (.int 2))) (af (ac 7) (au))))))) (de (mC (.bl false))) (SR.next)
noncomputable def ub:Ev->SR:=aD (uo) qw
noncomputable def um:Ev->SR:=bo 6 (aQ cz (af (ac 4) (af (ac 2) (af (ac 1) (au)))))
noncomputable def t0:Ev->SR:=aD (um) ub
noncomputable def zh:Ev->SR:=oz 6 7 9 (λ δ=>((af (ac 4) (af (ac 2) (af (ac 1) (au)))) δ).bind bB) (λ δ=>((af (m2 bP (bO 6) (mC (.int 2))) (au)) δ).bind bJ) (m1 cj (m2 bP (bO 6) (mC (.int 0))))
noncomputable def tZ:Ev->SR:=aD (zh) t0
noncomputable def qm:Ev->SR:=fN (bY rm (iR (au)) (ac 7)) (aD (cG (λ δ=>((af (mC (.int 3)) (au)) δ).bind lW) (bN 5) (ue)) (cG (λ δ=>((af (yp nW (af (mC (.int 1)) (af (m1 cj (ac 3)) (au)))) (au)) δ).bind lW) (bN 8) (qk))) (SR.next)
noncomputable def tY:Ev->SR:=aD (qm) tZ
noncomputable def ul:Ev->SR:=cG (λ δ=>((af (mC (.int 3)) (au)) δ).bind lW) (bN 5) (ud)
noncomputable def tX:Ev->SR:=aD (ul) tY
noncomputable def uk:Ev->SR:=bo 4 (aQ eF (af (ac 3) (au)))
noncomputable def qj:Ev->SR:=aD (uk) tX
noncomputable def ql:Ev->SR:=fN (bY kg (m2 cL (aQ aF (af (ac 0) (af (mC (.int 2)) (au)))) (mC (.int 2))) (mC (.int 1))) (aD (bo 1 (m2 d0 (mC (.int 1)) (m2 cL (aQ aF (af (ac 0) (af (mC (.int 3)) (au)))) (mC (.int 60))))) (aD (bo 2 (m2 cL (aQ aF (af (ac 0) (af (mC (.int 4)) (au)))) (mC (.int 21)))) (bo 3 (m2 bP (aQ dD (af (ac 0) (af (mC (.int 5)) (af (m2 d0 (mC (.int 1)) (m2 cL (m2 nr (aQ aF (af (ac 0) (af (mC (.int 2)) (au)))) (mC (.int 2))) (mC (.int 12)))) (af (ac 1) (af (ac 2) (au))))))) (mC (.int 1)))))) (SR.next)
noncomputable def tW:Ev->SR:=aD (ql) qj
noncomputable def uj:Ev->SR:=bo 3 (aQ du (af (ac 0) (af (mC (.int 5)) (af (m2 cL (m2 nr (aQ aF (af (ac 0) (af (mC (.int 2)) (au)))) (mC (.int 2))) (mC (.int 7))) (af (ac 1) (au))))))
noncomputable def tV:Ev->SR:=aD (uj) tW
noncomputable def ui:Ev->SR:=bo 2 (m2 cL (aQ aF (af (ac 0) (af (mC (.int 4)) (au)))) (mC (.int 11)))
noncomputable def tU:Ev->SR:=aD (ui) tV
noncomputable def uh:Ev->SR:=bo 1 (m2 d0 (mC (.int 1)) (m2 cL (aQ aF (af (ac 0) (af (mC (.int 3)) (au)))) (mC (.int 10))))
noncomputable def BA:Ev->SR:=aD (uh) tU
noncomputable def zC (ds:List D):R D:=iP (BA (av 10 ds))
theorem J7:FnScope ["_law_script", "_law_length", "_law_gap", "_law_rows", "_law_handed", "_law_which", "_law_told", "_law_kept", "_law_place", "_law_many"] ["_law_script"] (am (aK 39)):=mv
theorem wl {κ:Nat->Addr} {X:Cx} {B:Gd} (cx:Cxo X) (hcalm:X.calm=true) (hN:X.N=[("_law_script" : Str),("_law_length" : Str),("_law_gap" : Str),("_law_rows" : Str),("_law_handed" : Str),("_law_which" : Str),("_law_told" : Str),("_law_kept" : Str),("_law_place" : Str),("_law_many" : Str)]) (hsc:X.env.scope=am (aK 39)) (hfn:∀ y,X.fn y=true) (hu:X.A.units + 64 < cLine) (k_law_at:Cal κ X "_law_at" 2 aF) (k_law_small:Cal κ X "_law_small" 4 du) (k_law_hidden:Cal κ X "_law_hidden" 5 dD) (k_law_copies:Cal κ X "_law_copies" 1 eF) (kr_law_spread:CalR κ X ("_law_spread" : Str) 3 ρF aW) (kr_law_copies:CalR κ X ("_law_copies" : Str) 1 ρF bJ) (ks_law_spoil:CalS X ("_law_spoil" : Str)) (k_law_lists:Cal κ X "_law_lists" 2 bT) (k_law_spread:Cal κ X "_law_spread" 3 eG) (kr_law_row_told:CalR κ X ("_law_row_told" : Str) 3 ρ1 aL) (k_law_list:Cal κ X "_law_list" 2 cI) (k_law_row_told:Cal κ X "_law_row_told" 3 dq) (kr_witness:CalR κ X ("witness" : Str) 4 ρ1 ci) (kr_fewest_blots:CalR κ X ("fewest_blots" : Str) 3 ρT bB) (k_fewest_blots:Cal κ X "fewest_blots" 3 cz) (b_isinstance:X.mg "isinstance" = none) (b_len:X.mg "len" = none) (b_list:X.mg "list" = none) (b_min:X.mg "min" = none) (b_range:X.mg "range" = none):QZs κ B X (ay (aK 39)) BA:=by
 have hnd:X.N.Nodup:=by rw [hN];decide +kernel
 have V0:VP X 0 "_law_script":=aS cx hnd hfn hN hsc
 have V1:VP X 1 "_law_length":=aS cx hnd hfn hN hsc
 have V2:VP X 2 "_law_gap":=aS cx hnd hfn hN hsc
 have V3:VP X 3 "_law_rows":=aS cx hnd hfn hN hsc
 have V4:VP X 4 "_law_handed":=aS cx hnd hfn hN hsc
 have V5:VP X 5 "_law_which":=aS cx hnd hfn hN hsc
 have V6:VP X 6 "_law_told":=aS cx hnd hfn hN hsc
 have V7:VP X 7 "_law_kept":=aS cx hnd hfn hN hsc
 have V8:VP X 8 "_law_place":=aS cx hnd hfn hN hsc
 have V9:VP X 9 "_law_many":=aS cx hnd hfn hN hsc
 have hg_law_at:Gl X "_law_at":=cm hsc
 have hg_law_small:Gl X "_law_small":=cm hsc
 have hg_law_hidden:Gl X "_law_hidden":=cm hsc
 have hg_law_copies:Gl X "_law_copies":=cm hsc
 have hg_law_spread:Gl X "_law_spread":=cm hsc
 have hg_law_spoil:Gl X "_law_spoil":=cm hsc
 have hg_law_lists:Gl X "_law_lists":=cm hsc
 have hg_law_row_told:Gl X "_law_row_told":=cm hsc
 have hg_law_list:Gl X "_law_list":=cm hsc
 have hg_witness:Gl X "witness":=cm hsc
 have hg_fewest_blots:Gl X "fewest_blots":=cm hsc
 have hg_isinstance:Gl X "isinstance":=cm hsc
 have hg_len:Gl X "len":=cm hsc
 have hg_list:Gl X "list":=cm hsc
 have hg_min:Gl X "min":=cm hsc
 have hg_range:Gl X "range":=cm hsc
 refine al (F1:=uh) (F2:=tU) ?_ ?_
 ·exact V1.s (bK ((ak).read) ((bf ((aC cx k_law_at rfl hg_law_at (aa (V0.v) (aa (ak) (aj) rfl) rfl)).read) ((ak).read)).read)) rfl
 refine al (F1:=ui) (F2:=tV) ?_ ?_
 ·exact V2.s (bf ((aC cx k_law_at rfl hg_law_at (aa (V0.v) (aa (ak) (aj) rfl) rfl)).read) ((ak).read)) rfl
 refine al (F1:=uj) (F2:=tW) ?_ ?_
 ·exact V3.s (aC cx k_law_small rfl hg_law_small (aa (V0.v) (aa (ak) (aa (bf ((gU ((aC cx k_law_at rfl hg_law_at (aa (V0.v) (aa (ak) (aj) rfl) rfl)).read) ((ak).read)).read) ((ak).read)) (aa (V1.v) (aj) rfl) rfl) rfl) rfl)) rfl
 refine al (F1:=ql) (F2:=qj) ?_ ?_
 ·exact aY cx (cr hu ((bf ((aC cx k_law_at rfl hg_law_at (aa (V0.v) (aa (ak) (aj) rfl) rfl)).read) ((ak).read)).read) ((ak).read) (ax rfl)) (al (V1.s (bK ((ak).read) ((bf ((aC cx k_law_at rfl hg_law_at (aa (V0.v) (aa (ak) (aj) rfl) rfl)).read) ((ak).read)).read)) rfl) (al (V2.s (bf ((aC cx k_law_at rfl hg_law_at (aa (V0.v) (aa (ak) (aj) rfl) rfl)).read) ((ak).read)) rfl) (ao (V3.s (bi ((aC cx k_law_hidden rfl hg_law_hidden (aa (V0.v) (aa (ak) (aa (bK ((ak).read) ((bf ((gU ((aC cx k_law_at rfl hg_law_at (aa (V0.v) (aa (ak) (aj) rfl) rfl)).read) ((ak).read)).read) ((ak).read)).read)) (aa (V1.v) (aa (V2.v) (aj) rfl) rfl) rfl) rfl) rfl)).read) ((ak).read) rfl) rfl)))) (aI)
 refine al (F1:=uk) (F2:=tX) ?_ ?_
 ·exact V4.s (aC cx k_law_copies rfl hg_law_copies (aa (V3.v) (aj) rfl)) rfl
 refine al (F1:=ul) (F2:=tY) ?_ ?_
 ·exact d6 cx hcalm (cO hg_range b_range (aa (ak) (aj) rfl) rfl) (λ B=>V5.t) (λ B=>yV V6 V7 (by decide) (fM cx kr_law_spread rfl hg_law_spread (aa (V4.v) (aa (V2.v) (aa (V5.v) (aj) rfl) rfl) rfl) (by decide) rfl (ar (ar (ar (bh))))) rfl kr_law_copies hg_law_copies (by decide) ks_law_spoil hg_law_spoil (by decide) (ao (aY cx ((jd (dP (cb ((aC cx k_law_lists rfl hg_law_lists (aa (V4.v) (aa (V3.v) (aj) rfl) rfl)).read) rfl)) (fZ (dP (cb ((aC cx k_law_lists rfl hg_law_lists (aa (aC cx k_law_spread rfl hg_law_spread (aa (V4.v) (aa (V2.v) (aa (V5.v) (aj) rfl) rfl) rfl)) (aa (V7.v) (aj) rfl) rfl)).read) rfl)))).t) (ao (aT cx (iT))) (aI)))) rfl
 refine al (F1:=qm) (F2:=tZ) ?_ ?_
 ·exact aY cx (Ba hu ((cM (aj)).read) ((V7.v).read) (ax rfl)) (al (d6 cx hcalm (cO hg_range b_range (aa (ak) (aj) rfl) rfl) (λ B=>V5.t) (λ B=>al (V6.w (b6 cx kr_law_row_told rfl hg_law_row_told (aa (V4.v) (aa (V2.v) (aa (V5.v) (aj) rfl) rfl) rfl) (by decide) rfl (ar (ar (ar (bh))))) rfl) (al (V7.s ((mo hg_list b_list (V6.r) rfl).px) rfl) (al (V6.a (ak) rfl rfl) (ao (aY cx ((jd (dP (cb ((aC cx k_law_lists rfl hg_law_lists (aa (V4.v) (aa (V3.v) (aj) rfl) rfl)).read) rfl)) (fZ (dP (cb ((aC cx k_law_list rfl hg_law_list (aa (aC cx k_law_row_told rfl hg_law_row_told (aa (V4.v) (aa (V2.v) (aa (V5.v) (aj) rfl) rfl) rfl)) (aa (V7.v) (aj) rfl) rfl)).read) rfl)))).t) (ao (aT cx (iT))) (aI)))))) rfl) (ao (d6 cx hcalm (cO hg_range b_range (aa (DB hcalm hg_min b_min (aa (ak) (aa (cN hg_len b_len ((V3.v).read) rfl) (aj) rfl) rfl) rfl rfl) (aj) rfl) rfl) (λ B=>V8.t) (λ B=>al (V6.w (b6 cx kr_witness rfl hg_witness (aa (V4.v) (aa (V2.v) (aa (V8.v) (aa (bi ((V7.v).read) ((V8.v).read) rfl) (aj) rfl) rfl) rfl) rfl) (by decide) rfl (ar (ar (ar (ar (bh)))))) rfl) (al (V6.a (ak) rfl rfl) (al (V6.w (b6 cx kr_witness rfl hg_witness (aa (V4.v) (aa (V2.v) (aa (V8.v) (aa (bi ((V7.v).read) ((V8.v).read) rfl) (aj) rfl) rfl) rfl) rfl) (by decide) rfl (ar (ar (ar (ar (bh)))))) rfl) (ao (aY cx ((jd (dP (cb ((kd .list (by decide +kernel) hg_isinstance b_isinstance hg_list b_list (by decide) (by decide) (V6.r) rfl).read) rfl)) (fZ (n8 hu ((cN hg_len b_len (V6.r) rfl).read) ((cN hg_len b_len ((V3.v).read) rfl).read) (ax rfl)))).t) (ao (aT cx (iT))) (aI)))))) rfl))) (aI)
 refine xt V6 V7 V9 (by decide) (by decide) (by decide) (A8 cx kr_fewest_blots rfl hg_fewest_blots (aa (V4.v) (aa (V2.v) (aa (V1.v) (aj) rfl) rfl) rfl) (by decide) rfl (ar (ar (ar (bh))))) rfl (fM cx kr_law_copies rfl hg_law_copies (aa (bi (V6.r) ((ak).read) rfl) (aj) rfl) (by decide) rfl (ar (bh))) rfl (cN hg_len b_len ((bi (V6.r) ((ak).read) rfl).read) rfl) rfl ks_law_spoil hg_law_spoil (by decide) rfl rfl (F2:=t0) ?_
 refine al (F1:=um) (F2:=ub) ?_ ?_
 ·exact V6.s (aC cx k_fewest_blots rfl hg_fewest_blots (aa (V4.v) (aa (V2.v) (aa (V1.v) (aj) rfl) rfl) rfl)) rfl
 refine al (F1:=uo) (F2:=qw) ?_ ?_
 ·exact aY cx ((jd (n8 hu ((cN hg_len b_len ((bi (V6.r) ((ak).read) rfl).read) rfl).read) ((V9.v).read) (ax rfl)) (fZ (dP (cb ((aC cx k_law_lists rfl hg_law_lists (aa (bi (V6.r) ((ak).read) rfl) (aa (V7.v) (aj) rfl) rfl)).read) rfl)))).t) (ao (aT cx (iT))) (aI)
 exact ao (aT cx (aC cx k_law_lists rfl hg_law_lists (aa (V4.v) (aa (V3.v) (aj) rfl) rfl)))
structure TX (K:PySem.W.Frag) (mg:Str->Option Value) (κ:Nat->Addr):Prop where
 fn_law_at:FT K mg "_law_at" (aK 27) ["_law_script", "_law_k"]
 fn_law_row:FT K mg "_law_row" (aK 28) ["_law_cell", "_law_mixed", "_law_thin", "_law_length"]
 fn_law_small:FT K mg "_law_small" (aK 29) ["_law_script", "_law_at_here", "_law_many", "_law_length"]
 fn_law_draws:FT K mg "_law_draws" (aK 30) ["_law_cell", "_law_mixed", "_law_many", "_law_most"]
 fn_law_hidden:FT K mg "_law_hidden" (aK 31) ["_law_script", "_law_at_here", "_law_many", "_law_length", "_law_gap"]
 fn_law_copies:FT K mg "_law_copies" (aK 35) ["_law_rows"]
 fn_days_behind:FT K mg "days_behind" (aK 1) ["ahead", "row", "gap"]
 fn_forth_days:FT K mg "forth_days" (aK 3) ["rows", "gap"]
 fn_days_ahead:FT K mg "days_ahead" (aK 2) ["row", "behind", "gap"]
 fn_back_days:FT K mg "back_days" (aK 4) ["rows", "gap"]
 fn_possible_days:FT K mg "possible_days" (aK 5) ["rows", "gap"]
 fn_law_spread:FT K mg "_law_spread" (aK 38) ["_law_handed", "_law_gap", "_law_which"]
 fn_law_spoil:FT K mg "_law_spoil" (aK 36) ["_law_told"]
 fn_law_whole:FT K mg "_law_whole" (aK 32) ["_law_found"]
 fn_law_list:FT K mg "_law_list" (aK 33) ["_law_found", "_law_kept"]
 fn_law_lists:FT K mg "_law_lists" (aK 34) ["_law_found", "_law_kept"]
 fn_earliest:FT K mg "earliest" (aK 6) ["rows", "gap"]
 fn_latest:FT K mg "latest" (aK 7) ["rows", "gap"]
 fn_sums_up_to:FT K mg "sums_up_to" (aK 20) ["numbers"]
 fn_counts_ahead:FT K mg "counts_ahead" (aK 21) ["row", "behind", "counts", "gap"]
 fn_back_counts:FT K mg "back_counts" (aK 22) ["rows", "gap"]
 fn_count_of_all:FT K mg "count_of_all" (aK 23) ["counts"]
 fn_may_stand:FT K mg "may_stand" (aK 24) ["days", "place", "day", "gap"]
 fn_nth_reading:FT K mg "nth_reading" (aK 25) ["rows", "gap", "k"]
 fn_law_row_told:FT K mg "_law_row_told" (aK 37) ["_law_handed", "_law_gap", "_law_which"]
 fn_witness:FT K mg "witness" (aK 8) ["rows", "gap", "place", "day"]
 fn_own_blots:FT K mg "own_blots" (aK 10) ["row", "length"]
 fn_best_ahead:FT K mg "best_ahead" (aK 11) ["numbers", "gap"]
 fn_numbers_behind:FT K mg "numbers_behind" (aK 12) ["ahead", "row", "gap"]
 fn_fewest_numbers:FT K mg "fewest_numbers" (aK 13) ["rows", "gap", "length"]
 fn_days_with_fewest:FT K mg "days_with_fewest" (aK 14) ["numbers", "gap"]
 fn_fewest_blots:FT K mg "fewest_blots" (aK 15) ["rows", "gap", "length"]
 fn_law:FT K mg "law" (aK 39) ["_law_script"]
 b_bool:mg ("bool" : Str)=none
 b_enumerate:mg ("enumerate" : Str)=none
 b_int:mg ("int" : Str)=none
 b_isinstance:mg ("isinstance" : Str)=none
 b_len:mg ("len" : Str)=none
 b_list:mg ("list" : Str)=none
 b_min:mg ("min" : Str)=none
 b_range:mg ("range" : Str)=none
 b_reversed:mg ("reversed" : Str)=none
 b_set:mg ("set" : Str)=none
 b_sorted:mg ("sorted" : Str)=none
 b_sum:mg ("sum" : Str)=none
 b_zip:mg ("zip" : Str)=none
 x_NoSuchReading:Ed κ K mg ("NoSuchReading" : Str) 6
section
variable {P:Program} {w:World} {K:PySem.W.Frag} {mg:Str->Option Value} {base:Heap} {κ:Nat->Addr}
theorem AO (T:TX K mg κ)  : MC P w K mg base κ "_law_at" ["_law_script", "_law_k"] aF 1:=by
 obtain ⟨f,fd,F,hm,hb⟩:=T.fn_law_at
 refine ⟨f,fd,bn (k:=0) F DK (λ X B cx hc e1 e2 e3 e4 e5 hN hsc hfn hr hfr=>?_),hm,F.kp,hb,F.at⟩
 subst e1 e2 e3 e4 e5
 exact BZ cx hc hN hsc hfn hr.units T.b_len
theorem yy (T:TX K mg κ)  : MC P w K mg base κ "_law_row" ["_law_cell", "_law_mixed", "_law_thin", "_law_length"] jU 1:=by
 obtain ⟨f,fd,F,hm,hb⟩:=T.fn_law_row
 refine ⟨f,fd,bn (k:=0) F Bj (λ X B cx hc e1 e2 e3 e4 e5 hN hsc hfn hr hfr=>?_),hm,F.kp,hb,F.at⟩
 subst e1 e2 e3 e4 e5
 exact Ae cx hc hN hsc hfn hr.units T.b_range
theorem uW (T:TX K mg κ) (o_law_at:MC P w K mg base κ "_law_at" ["_law_script", "_law_k"] aF 1) (o_law_row:MC P w K mg base κ "_law_row" ["_law_cell", "_law_mixed", "_law_thin", "_law_length"] jU 1):MC P w K mg base κ "_law_small" ["_law_script", "_law_at_here", "_law_many", "_law_length"] du 2:=by
 obtain ⟨f,fd,F,hm,hb⟩:=T.fn_law_small
 refine ⟨f,fd,bn (k:=1) F xA (λ X B cx hc e1 e2 e3 e4 e5 hN hsc hfn hr hfr=>?_),hm,F.kp,hb,F.at⟩
 subst e1 e2 e3 e4 e5
 exact wp cx hc hN hsc hfn hr.units (o_law_at.cal hr (by decide)) (o_law_row.cal hr (by decide)) T.b_range
theorem uU (T:TX K mg κ)  : MC P w K mg base κ "_law_draws" ["_law_cell", "_law_mixed", "_law_many", "_law_most"] d8 1:=by
 obtain ⟨f,fd,F,hm,hb⟩:=T.fn_law_draws
 refine ⟨f,fd,bn (k:=0) F xy (λ X B cx hc e1 e2 e3 e4 e5 hN hsc hfn hr hfr=>?_),hm,F.kp,hb,F.at⟩
 subst e1 e2 e3 e4 e5
 exact wm cx hc hN hsc hfn hr.units T.b_range
theorem sB (T:TX K mg κ) (o_law_at:MC P w K mg base κ "_law_at" ["_law_script", "_law_k"] aF 1) (o_law_draws:MC P w K mg base κ "_law_draws" ["_law_cell", "_law_mixed", "_law_many", "_law_most"] d8 1):MC P w K mg base κ "_law_hidden" ["_law_script", "_law_at_here", "_law_many", "_law_length", "_law_gap"] dD 2:=by
 obtain ⟨f,fd,F,hm,hb⟩:=T.fn_law_hidden
 refine ⟨f,fd,bn (k:=1) F vP (λ X B cx hc e1 e2 e3 e4 e5 hN hsc hfn hr hfr=>?_),hm,F.kp,hb,F.at⟩
 subst e1 e2 e3 e4 e5
 exact uF cx hc hN hsc hfn hr.units (o_law_at.cal hr (by decide)) (o_law_draws.cal hr (by decide)) T.b_int T.b_min T.b_range T.b_set T.b_sorted
theorem rA (T:TX K mg κ)  : iX P w K mg base κ "_law_copies" [("_law_rows" : Str)] ρF bJ 1:=by
 obtain ⟨f,fd,F,hm,hb⟩:=T.fn_law_copies
 refine ⟨f,fd,aO (k:=0) F vO (λ X B cx hc e1 e2 e3 e4 e5 hN hsc hfn hr hfr=>?_),hm,F.kp,hb,F.at⟩
 subst e1 e2 e3 e4 e5
 exact uE cx hc hN hsc hfn hr.units T.b_list
theorem qg (T:TX K mg κ)  : iX P w K mg base κ "days_behind" [("ahead" : Str),("row" : Str),("gap" : Str)] ρ1 bW 1:=by
 obtain ⟨f,fd,F,hm,hb⟩:=T.fn_days_behind
 refine ⟨f,fd,aO (k:=0) F sJ (λ X B cx hc e1 e2 e3 e4 e5 hN hsc hfn hr hfr=>?_),hm,F.kp,hb,F.at⟩
 subst e1 e2 e3 e4 e5
 exact sr cx hc hN hsc hfn hr.units T.b_len
theorem rz (T:TX K mg κ) (or_days_behind:iX P w K mg base κ "days_behind" [("ahead" : Str),("row" : Str),("gap" : Str)] ρ1 bW 1):iX P w K mg base κ "forth_days" [("rows" : Str),("gap" : Str)] ρF cg 2:=by
 obtain ⟨f,fd,F,hm,hb⟩:=T.fn_forth_days
 refine ⟨f,fd,aO (k:=1) F vN (λ X B cx hc e1 e2 e3 e4 e5 hN hsc hfn hr hfr=>?_),hm,F.kp,hb,F.at⟩
 subst e1 e2 e3 e4 e5
 exact uD cx hc hN hsc hfn hr.units (or_days_behind.cal hr (by decide)) T.b_list
theorem rq (T:TX K mg κ)  : iX P w K mg base κ "days_ahead" [("row" : Str),("behind" : Str),("gap" : Str)] ρ1 cf 1:=by
 obtain ⟨f,fd,F,hm,hb⟩:=T.fn_days_ahead
 refine ⟨f,fd,aO (k:=0) F vM (λ X B cx hc e1 e2 e3 e4 e5 hN hsc hfn hr hfr=>?_),hm,F.kp,hb,F.at⟩
 subst e1 e2 e3 e4 e5
 exact uC cx hc hN hsc hfn hr.units T.b_len
theorem sD (T:TX K mg κ) (or_days_ahead:iX P w K mg base κ "days_ahead" [("row" : Str),("behind" : Str),("gap" : Str)] ρ1 cf 1):iX P w K mg base κ "back_days" [("rows" : Str),("gap" : Str)] ρF bI 2:=by
 obtain ⟨f,fd,F,hm,hb⟩:=T.fn_back_days
 refine ⟨f,fd,aO (k:=1) F xx (λ X B cx hc e1 e2 e3 e4 e5 hN hsc hfn hr hfr=>?_),hm,F.kp,hb,F.at⟩
 subst e1 e2 e3 e4 e5
 exact wk cx hc hN hsc hfn hr.units (or_days_ahead.cal hr (by decide)) T.b_list T.b_reversed
theorem nY (T:TX K mg κ) (or_back_days:iX P w K mg base κ "back_days" [("rows" : Str),("gap" : Str)] ρF bI 2) (o_forth_days:MC P w K mg base κ "forth_days" [("rows" : Str),("gap" : Str)] eE 2):iX P w K mg base κ "possible_days" [("rows" : Str),("gap" : Str)] ρF bD 3:=by
 obtain ⟨f,fd,F,hm,hb⟩:=T.fn_possible_days
 refine ⟨f,fd,aO (k:=2) F qi (λ X B cx hc e1 e2 e3 e4 e5 hN hsc hfn hr hfr=>?_),hm,F.kp,hb,F.at⟩
 subst e1 e2 e3 e4 e5
 exact pZ cx hc hN hsc hfn hr.units (or_back_days.cal hr (by decide)) (o_forth_days.cal hr (by decide))
theorem rB (T:TX K mg κ) (or_forth_days:iX P w K mg base κ "forth_days" [("rows" : Str),("gap" : Str)] ρF cg 2) (or_back_days:iX P w K mg base κ "back_days" [("rows" : Str),("gap" : Str)] ρF bI 2) (or_possible_days:iX P w K mg base κ "possible_days" [("rows" : Str),("gap" : Str)] ρF bD 3):iX P w K mg base κ "_law_spread" [("_law_handed" : Str),("_law_gap" : Str),("_law_which" : Str)] ρF aW 4:=by
 obtain ⟨f,fd,F,hm,hb⟩:=T.fn_law_spread
 refine ⟨f,fd,aO (k:=3) F vQ (λ X B cx hc e1 e2 e3 e4 e5 hN hsc hfn hr hfr=>?_),hm,F.kp,hb,F.at⟩
 subst e1 e2 e3 e4 e5
 exact uG cx hc hN hsc hfn hr.units (or_forth_days.cal hr (by decide)) (or_back_days.cal hr (by decide)) (or_possible_days.cal hr (by decide))
theorem sF (T:TX K mg κ):Kv P w K mg base ("_law_spoil" : Str) [("_law_told" : Str)] 1:=by
 obtain ⟨f,fd,F,hm,hb⟩:=T.fn_law_spoil
 refine ⟨f,fd,Cb (k:=0) (c:=3) (d:=1) F xB rfl rfl (λ X hsg hp hc hN hsc hfn=>?_),hm,F.kp,hb⟩
 exact AX (x:=("_law_told" : Str)) (y:=("_law_row_here" : Str)) hsg hp hc (by rw [hN];decide +kernel) (by rw [hN];rfl) (by rw [hN];rfl) (.inl (by rw [hsc];rfl)) (.inl (by rw [hsc];rfl)) (.inl (by rw [hsc];rfl)) (hfn _) (by decide) (by decide) (by decide) (by decide) rfl rfl rfl
theorem uX (T:TX K mg κ)  : MC P w K mg base κ "_law_whole" ["_law_found"] d9 1:=by
 obtain ⟨f,fd,F,hm,hb⟩:=T.fn_law_whole
 refine ⟨f,fd,bn (k:=0) F xC (λ X B cx hc e1 e2 e3 e4 e5 hN hsc hfn hr hfr=>?_),hm,F.kp,hb,F.at⟩
 subst e1 e2 e3 e4 e5
 exact wq cx hc hN hsc hfn hr.units T.b_bool T.b_int T.b_isinstance
theorem xb (T:TX K mg κ) (o_law_whole:MC P w K mg base κ "_law_whole" ["_law_found"] d9 1):MC P w K mg base κ "_law_list" ["_law_found", "_law_kept"] cI 2:=by
 obtain ⟨f,fd,F,hm,hb⟩:=T.fn_law_list
 refine ⟨f,fd,bn (k:=1) F za (λ X B cx hc e1 e2 e3 e4 e5 hN hsc hfn hr hfr=>?_),hm,F.kp,hb,F.at⟩
 subst e1 e2 e3 e4 e5
 exact ya cx hc hN hsc hfn hr.units (o_law_whole.cal hr (by decide)) T.b_isinstance T.b_len T.b_list T.b_range
theorem uV (T:TX K mg κ) (o_law_list:MC P w K mg base κ "_law_list" ["_law_found", "_law_kept"] cI 2):MC P w K mg base κ "_law_lists" ["_law_found", "_law_kept"] bT 3:=by
 obtain ⟨f,fd,F,hm,hb⟩:=T.fn_law_lists
 refine ⟨f,fd,bn (k:=2) F xz (λ X B cx hc e1 e2 e3 e4 e5 hN hsc hfn hr hfr=>?_),hm,F.kp,hb,F.at⟩
 subst e1 e2 e3 e4 e5
 exact wo cx hc hN hsc hfn hr.units (o_law_list.cal hr (by decide)) T.b_isinstance T.b_len T.b_list T.b_range
theorem uZ (T:TX K mg κ) (o_possible_days:MC P w K mg base κ "possible_days" [("rows" : Str),("gap" : Str)] bA 3):iX P w K mg base κ "earliest" [("rows" : Str),("gap" : Str)] ρ1 bU 4:=by
 obtain ⟨f,fd,F,hm,hb⟩:=T.fn_earliest
 refine ⟨f,fd,aO (k:=3) F y0 (λ X B cx hc e1 e2 e3 e4 e5 hN hsc hfn hr hfr=>?_),hm,F.kp,hb,F.at⟩
 subst e1 e2 e3 e4 e5
 exact xZ cx hc hN hsc hfn hr.units (o_possible_days.cal hr (by decide))
theorem yz (T:TX K mg κ) (o_possible_days:MC P w K mg base κ "possible_days" [("rows" : Str),("gap" : Str)] bA 3):iX P w K mg base κ "latest" [("rows" : Str),("gap" : Str)] ρ1 fH 4:=by
 obtain ⟨f,fd,F,hm,hb⟩:=T.fn_latest
 refine ⟨f,fd,aO (k:=3) F DJ (λ X B cx hc e1 e2 e3 e4 e5 hN hsc hfn hr hfr=>?_),hm,F.kp,hb,F.at⟩
 subst e1 e2 e3 e4 e5
 exact BY cx hc hN hsc hfn hr.units (o_possible_days.cal hr (by decide))
theorem sC (T:TX K mg κ)  : MC P w K mg base κ "sums_up_to" ["numbers"] cJ 1:=by
 obtain ⟨f,fd,F,hm,hb⟩:=T.fn_sums_up_to
 refine ⟨f,fd,bn (k:=0) F vR (λ X B cx hc e1 e2 e3 e4 e5 hN hsc hfn hr hfr=>?_),hm,F.kp,hb,F.at⟩
 subst e1 e2 e3 e4 e5
 exact uH cx hc hN hsc hfn hr.units
theorem qf (T:TX K mg κ) (o_sums_up_to:MC P w K mg base κ "sums_up_to" ["numbers"] cJ 1):MC P w K mg base κ "counts_ahead" ["row", "behind", "counts", "gap"] cw 2:=by
 obtain ⟨f,fd,F,hm,hb⟩:=T.fn_counts_ahead
 refine ⟨f,fd,bn (k:=1) F rN (λ X B cx hc e1 e2 e3 e4 e5 hN hsc hfn hr hfr=>?_),hm,F.kp,hb,F.at⟩
 subst e1 e2 e3 e4 e5
 exact qM cx hc hN hsc hfn hr.units (o_sums_up_to.cal hr (by decide)) T.b_len
theorem ro (T:TX K mg κ) (o_counts_ahead:MC P w K mg base κ "counts_ahead" ["row", "behind", "counts", "gap"] cw 2):MC P w K mg base κ "back_counts" ["rows", "gap"] cS 3:=by
 obtain ⟨f,fd,F,hm,hb⟩:=T.fn_back_counts
 refine ⟨f,fd,bn (k:=2) F sI (λ X B cx hc e1 e2 e3 e4 e5 hN hsc hfn hr hfr=>?_),hm,F.kp,hb,F.at⟩
 subst e1 e2 e3 e4 e5
 exact so cx hc hN hsc hfn hr.units (o_counts_ahead.cal hr (by decide)) T.b_reversed
theorem qe (T:TX K mg κ)  : MC P w K mg base κ "count_of_all" ["counts"] cv 1:=by
 obtain ⟨f,fd,F,hm,hb⟩:=T.fn_count_of_all
 refine ⟨f,fd,bn (k:=0) F rM (λ X B cx hc e1 e2 e3 e4 e5 hN hsc hfn hr hfr=>?_),hm,F.kp,hb,F.at⟩
 subst e1 e2 e3 e4 e5
 exact qL cx hc hN hsc hfn hr.units T.b_sum
theorem uY (T:TX K mg κ)  : MC P w K mg base κ "may_stand" ["days", "place", "day", "gap"] eg 1:=by
 obtain ⟨f,fd,F,hm,hb⟩:=T.fn_may_stand
 refine ⟨f,fd,bn (k:=0) F xD (λ X B cx hc e1 e2 e3 e4 e5 hN hsc hfn hr hfr=>?_),hm,F.kp,hb,F.at⟩
 subst e1 e2 e3 e4 e5
 exact wt cx hc hN hsc hfn hr.units
theorem qh (T:TX K mg κ) (o_back_counts:MC P w K mg base κ "back_counts" [("rows" : Str),("gap" : Str)] cS 3) (o_count_of_all:MC P w K mg base κ "count_of_all" [("counts" : Str)] cv 1) (o_may_stand:MC P w K mg base κ "may_stand" [("days" : Str),("place" : Str),("day" : Str),("gap" : Str)] eg 1):iX P w K mg base κ "nth_reading" [("rows" : Str),("gap" : Str),("k" : Str)] ρ1 bX 4:=by
 obtain ⟨f,fd,F,hm,hb⟩:=T.fn_nth_reading
 refine ⟨f,fd,aO (k:=3) F sK (λ X B cx hc e1 e2 e3 e4 e5 hN hsc hfn hr hfr=>?_),hm,F.kp,hb,F.at⟩
 subst e1 e2 e3 e4 e5
 exact ss cx hc hN hsc hfn hr.units (o_back_counts.cal hr (by decide)) (o_count_of_all.cal hr (by decide)) (o_may_stand.cal hr (by decide)) T.b_enumerate T.b_zip (T.x_NoSuchReading.at rfl rfl)
theorem o0 (T:TX K mg κ) (or_earliest:iX P w K mg base κ "earliest" [("rows" : Str),("gap" : Str)] ρ1 bU 4) (or_latest:iX P w K mg base κ "latest" [("rows" : Str),("gap" : Str)] ρ1 fH 4) (or_nth_reading:iX P w K mg base κ "nth_reading" [("rows" : Str),("gap" : Str),("k" : Str)] ρ1 bX 4):iX P w K mg base κ "_law_row_told" [("_law_handed" : Str),("_law_gap" : Str),("_law_which" : Str)] ρ1 aL 5:=by
 obtain ⟨f,fd,F,hm,hb⟩:=T.fn_law_row_told
 refine ⟨f,fd,aO (k:=4) F rP (λ X B cx hc e1 e2 e3 e4 e5 hN hsc hfn hr hfr=>?_),hm,F.kp,hb,F.at⟩
 subst e1 e2 e3 e4 e5
 exact qO cx hc hN hsc hfn hr.units (or_earliest.cal hr (by decide)) (or_latest.cal hr (by decide)) (or_nth_reading.cal hr (by decide))
theorem xc (T:TX K mg κ) (or_earliest:iX P w K mg base κ "earliest" [("rows" : Str),("gap" : Str)] ρ1 bU 4):iX P w K mg base κ "witness" [("rows" : Str),("gap" : Str),("place" : Str),("day" : Str)] ρ1 ci 5:=by
 obtain ⟨f,fd,F,hm,hb⟩:=T.fn_witness
 refine ⟨f,fd,aO (k:=4) F Bk (λ X B cx hc e1 e2 e3 e4 e5 hN hsc hfn hr hfr=>?_),hm,F.kp,hb,F.at⟩
 subst e1 e2 e3 e4 e5
 exact Ag cx hc hN hsc hfn hr.units (or_earliest.cal hr (by decide))
theorem sE (T:TX K mg κ)  : iX P w K mg base κ "own_blots" [("row" : Str),("length" : Str)] ρ1 cK 1:=by
 obtain ⟨f,fd,F,hm,hb⟩:=T.fn_own_blots
 refine ⟨f,fd,aO (k:=0) F xE (λ X B cx hc e1 e2 e3 e4 e5 hN hsc hfn hr hfr=>?_),hm,F.kp,hb,F.at⟩
 subst e1 e2 e3 e4 e5
 exact wu cx hc hN hsc hfn hr.units T.b_range
theorem sA (T:TX K mg κ)  : MC P w K mg base κ "best_ahead" ["numbers", "gap"] bH 1:=by
 obtain ⟨f,fd,F,hm,hb⟩:=T.fn_best_ahead
 refine ⟨f,fd,bn (k:=0) F vL (λ X B cx hc e1 e2 e3 e4 e5 hN hsc hfn hr hfr=>?_),hm,F.kp,hb,F.at⟩
 subst e1 e2 e3 e4 e5
 exact uB cx hc hN hsc hfn hr.units T.b_enumerate T.b_len
theorem nz (T:TX K mg κ) (o_own_blots:MC P w K mg base κ "own_blots" [("row" : Str),("length" : Str)] fV 1) (o_best_ahead:MC P w K mg base κ "best_ahead" [("numbers" : Str),("gap" : Str)] bH 1):iX P w K mg base κ "numbers_behind" [("ahead" : Str),("row" : Str),("gap" : Str)] ρ1 bv 2:=by
 obtain ⟨f,fd,F,hm,hb⟩:=T.fn_numbers_behind
 refine ⟨f,fd,aO (k:=1) F pb (λ X B cx hc e1 e2 e3 e4 e5 hN hsc hfn hr hfr=>?_),hm,F.kp,hb,F.at⟩
 subst e1 e2 e3 e4 e5
 exact oG cx hc hN hsc hfn hr.units (o_own_blots.cal hr (by decide)) (o_best_ahead.cal hr (by decide)) T.b_len T.b_zip
theorem ny (T:TX K mg κ) (or_own_blots:iX P w K mg base κ "own_blots" [("row" : Str),("length" : Str)] ρ1 cK 1) (or_numbers_behind:iX P w K mg base κ "numbers_behind" [("ahead" : Str),("row" : Str),("gap" : Str)] ρ1 bv 2):iX P w K mg base κ "fewest_numbers" [("rows" : Str),("gap" : Str),("length" : Str)] ρF bu 3:=by
 obtain ⟨f,fd,F,hm,hb⟩:=T.fn_fewest_numbers
 refine ⟨f,fd,aO (k:=2) F o9 (λ X B cx hc e1 e2 e3 e4 e5 hN hsc hfn hr hfr=>?_),hm,F.kp,hb,F.at⟩
 subst e1 e2 e3 e4 e5
 exact oF cx hc hN hsc hfn hr.units (or_own_blots.cal hr (by decide)) (or_numbers_behind.cal hr (by decide))
theorem l9 (T:TX K mg κ) (o_best_ahead:MC P w K mg base κ "best_ahead" [("numbers" : Str),("gap" : Str)] bH 1):iX P w K mg base κ "days_with_fewest" [("numbers" : Str),("gap" : Str)] ρ1 bc 2:=by
 obtain ⟨f,fd,F,hm,hb⟩:=T.fn_days_with_fewest
 refine ⟨f,fd,aO (k:=1) F nC (λ X B cx hc e1 e2 e3 e4 e5 hN hsc hfn hr hfr=>?_),hm,F.kp,hb,F.at⟩
 subst e1 e2 e3 e4 e5
 exact mY cx hc hN hsc hfn hr.units (o_best_ahead.cal hr (by decide)) T.b_min T.b_reversed
theorem oZ (T:TX K mg κ) (or_fewest_numbers:iX P w K mg base κ "fewest_numbers" [("rows" : Str),("gap" : Str),("length" : Str)] ρF bu 3) (or_days_with_fewest:iX P w K mg base κ "days_with_fewest" [("numbers" : Str),("gap" : Str)] ρ1 bc 2):iX P w K mg base κ "fewest_blots" [("rows" : Str),("gap" : Str),("length" : Str)] ρT bB 4:=by
 obtain ⟨f,fd,F,hm,hb⟩:=T.fn_fewest_blots
 refine ⟨f,fd,aO (k:=3) F rO (λ X B cx hc e1 e2 e3 e4 e5 hN hsc hfn hr hfr=>?_),hm,F.kp,hb,F.at⟩
 subst e1 e2 e3 e4 e5
 exact qN cx hc hN hsc hfn hr.units (or_fewest_numbers.cal hr (by decide)) (or_days_with_fewest.cal hr (by decide)) T.b_enumerate
theorem Hv (T:TX K mg κ) (o_law_at:MC P w K mg base κ "_law_at" ["_law_script", "_law_k"] aF 1) (o_law_small:MC P w K mg base κ "_law_small" ["_law_script", "_law_at_here", "_law_many", "_law_length"] du 2) (o_law_hidden:MC P w K mg base κ "_law_hidden" ["_law_script", "_law_at_here", "_law_many", "_law_length", "_law_gap"] dD 2) (o_law_copies:MC P w K mg base κ "_law_copies" ["_law_rows"] eF 1) (or_law_spread:iX P w K mg base κ "_law_spread" ["_law_handed", "_law_gap", "_law_which"] ρF aW 4) (or_law_copies:iX P w K mg base κ "_law_copies" ["_law_rows"] ρF bJ 1) (os_law_spoil:Kv P w K mg base "_law_spoil" ["_law_told"] 1) (o_law_lists:MC P w K mg base κ "_law_lists" ["_law_found", "_law_kept"] bT 3) (o_law_spread:MC P w K mg base κ "_law_spread" ["_law_handed", "_law_gap", "_law_which"] eG 4) (or_law_row_told:iX P w K mg base κ "_law_row_told" ["_law_handed", "_law_gap", "_law_which"] ρ1 aL 5) (o_law_list:MC P w K mg base κ "_law_list" ["_law_found", "_law_kept"] cI 2) (o_law_row_told:MC P w K mg base κ "_law_row_told" ["_law_handed", "_law_gap", "_law_which"] dq 5) (or_witness:iX P w K mg base κ "witness" ["rows", "gap", "place", "day"] ρ1 ci 5) (or_fewest_blots:iX P w K mg base κ "fewest_blots" ["rows", "gap", "length"] ρT bB 4) (o_fewest_blots:MC P w K mg base κ "fewest_blots" ["rows", "gap", "length"] cz 4):MC P w K mg base κ "law" ["_law_script"] zC 6:=by
 obtain ⟨f,fd,F,hm,hb⟩:=T.fn_law
 refine ⟨f,fd,bn (k:=5) F J7 (λ X B cx hc e1 e2 e3 e4 e5 hN hsc hfn hr hfr=>?_),hm,F.kp,hb,F.at⟩
 subst e1 e2 e3 e4 e5
 exact wl cx hc hN hsc hfn hr.units (o_law_at.cal hr (by decide)) (o_law_small.cal hr (by decide)) (o_law_hidden.cal hr (by decide)) (o_law_copies.cal hr (by decide)) (or_law_spread.cal hr (by decide)) (or_law_copies.cal hr (by decide)) (os_law_spoil.cal hr (by decide)) (o_law_lists.cal hr (by decide)) (o_law_spread.cal hr (by decide)) (or_law_row_told.cal hr (by decide)) (o_law_list.cal hr (by decide)) (o_law_row_told.cal hr (by decide)) (or_witness.cal hr (by decide)) (or_fewest_blots.cal hr (by decide)) (o_fewest_blots.cal hr (by decide)) T.b_isinstance T.b_len T.b_list T.b_min T.b_range
end
noncomputable def DP (K:PySem.W.Frag):Sp:=λ vs H Q _=>∃ (a:Addr) (ns:List Int),vs=[.ref a]/\bz K H a (ns.map V.int)/\ns.length <= 63/\∀ H',Q (.bl true) H'
theorem GQ {l:PySem.W.OpenLaw} {w:World} {K:PySem.W.Frag} {h:Heap} {mg:Str->Option Value} {fa:Addr} (main:∀ ns:List Int,ns.length <= 63->zC [.lst (ns.map D.int)]=.ok (.bl true)) (X:K.In h) (G:h.Ns mainGlobals mg) (hfa:mg "law" = some (.ref fa))
  {f_law:Addr} {oc_law kV_law dc_law pm_law cd_law ct_law:Value} {od_law an_law:Option Addr} {sl_law:Array (Option Value)}
  {C_InkError:Addr}
  {C_NoSuchReading:Addr}
  (f_law_at:FF K ("_law_at" : Str) (aK 27))
  (f_law_row:FF K ("_law_row" : Str) (aK 28))
  (f_law_small:FF K ("_law_small" : Str) (aK 29))
  (f_law_draws:FF K ("_law_draws" : Str) (aK 30))
  (f_law_hidden:FF K ("_law_hidden" : Str) (aK 31))
  (f_law_copies:FF K ("_law_copies" : Str) (aK 35))
  (f_days_behind:FF K ("days_behind" : Str) (aK 1))
  (f_forth_days:FF K ("forth_days" : Str) (aK 3))
  (f_days_ahead:FF K ("days_ahead" : Str) (aK 2))
  (f_back_days:FF K ("back_days" : Str) (aK 4))
  (f_possible_days:FF K ("possible_days" : Str) (aK 5))
  (f_law_spread:FF K ("_law_spread" : Str) (aK 38))
  (f_law_spoil:FF K ("_law_spoil" : Str) (aK 36))
  (f_law_whole:FF K ("_law_whole" : Str) (aK 32))
  (f_law_list:FF K ("_law_list" : Str) (aK 33))
  (f_law_lists:FF K ("_law_lists" : Str) (aK 34))
  (f_earliest:FF K ("earliest" : Str) (aK 6))
  (f_latest:FF K ("latest" : Str) (aK 7))
  (f_sums_up_to:FF K ("sums_up_to" : Str) (aK 20))
  (f_counts_ahead:FF K ("counts_ahead" : Str) (aK 21))
  (f_back_counts:FF K ("back_counts" : Str) (aK 22))
  (f_count_of_all:FF K ("count_of_all" : Str) (aK 23))
  (f_may_stand:FF K ("may_stand" : Str) (aK 24))
  (f_nth_reading:FF K ("nth_reading" : Str) (aK 25))
  (f_law_row_told:FF K ("_law_row_told" : Str) (aK 37))
  (f_witness:FF K ("witness" : Str) (aK 8))
  (f_own_blots:FF K ("own_blots" : Str) (aK 10))
  (f_best_ahead:FF K ("best_ahead" : Str) (aK 11))
  (f_numbers_behind:FF K ("numbers_behind" : Str) (aK 12))
  (f_fewest_numbers:FF K ("fewest_numbers" : Str) (aK 13))
  (f_days_with_fewest:FF K ("days_with_fewest" : Str) (aK 14))
  (f_fewest_blots:FF K ("fewest_blots" : Str) (aK 15))
  (a_law:PySem.W.nsIn K mainGlobals ("law" : Str)=some (some (.ref f_law)))
  (l_law:K.lookup f_law=some ⟨oc_law,od_law,.func (PySem.W.fnOf ("law" : Str) ("law" : Str) (c7 (aK 39)) (ay (aK 39)) (am (aK 39)) .none kV_law dc_law pm_law an_law cd_law ct_law),sl_law⟩)
  (wl:PySem.W.codeIn K cd_law ("law" : Str)=true)
  (p_law:PySem.W.keepIn K (.ref f_law)=true)
  (a_bool:PySem.W.nsIn K mainGlobals ("bool" : Str)=some none)
  (a_enumerate:PySem.W.nsIn K mainGlobals ("enumerate" : Str)=some none)
  (a_int:PySem.W.nsIn K mainGlobals ("int" : Str)=some none)
  (a_isinstance:PySem.W.nsIn K mainGlobals ("isinstance" : Str)=some none)
  (a_len:PySem.W.nsIn K mainGlobals ("len" : Str)=some none)
  (a_list:PySem.W.nsIn K mainGlobals ("list" : Str)=some none)
  (a_min:PySem.W.nsIn K mainGlobals ("min" : Str)=some none)
  (a_range:PySem.W.nsIn K mainGlobals ("range" : Str)=some none)
  (a_reversed:PySem.W.nsIn K mainGlobals ("reversed" : Str)=some none)
  (a_set:PySem.W.nsIn K mainGlobals ("set" : Str)=some none)
  (a_sorted:PySem.W.nsIn K mainGlobals ("sorted" : Str)=some none)
  (a_sum:PySem.W.nsIn K mainGlobals ("sum" : Str)=some none)
  (a_zip:PySem.W.nsIn K mainGlobals ("zip" : Str)=some none)
  (a_InkError:PySem.W.nsIn K mainGlobals ("InkError" : Str)=some (some (.ref C_InkError)))
  (a_NoSuchReading:PySem.W.nsIn K mainGlobals ("NoSuchReading" : Str)=some (some (.ref C_NoSuchReading)))
  (e_NoSuchReading:PySem.W.excIn K C_NoSuchReading [.type "ValueError",.type "Exception",.type "BaseException",.type "object"] "ValueError.__new__" = true)
  : ∃ fd:FuncData,(∀ (s:Shared) (v:Value),BindsTo s fd ⟨[v],[]⟩ [(("_law_script" : Str),v)])/\∀ base:Heap,K.In base->base.Ns mainGlobals mg->FnOk l.prog w K mg base (pU l.prog w) 6 fa fd [("_law_script" : Str)] (DP K):=by
 have T:TX K mg (λ n:Nat=>if n=0 then C_InkError else if n=6 then C_NoSuchReading else 0):=⟨f_law_at.ft2 X G λ _ _ _ _ _ _ _ _=>rfl,f_law_row.ft4 X G λ _ _ _ _ _ _ _ _ _ _=>rfl,f_law_small.ft4 X G λ _ _ _ _ _ _ _ _ _ _=>rfl,f_law_draws.ft4 X G λ _ _ _ _ _ _ _ _ _ _=>rfl,f_law_hidden.ft5 X G λ _ _ _ _ _ _ _ _ _ _ _=>rfl,f_law_copies.ft1 X G λ _ _ _ _ _ _ _=>rfl,f_days_behind.ft3 X G λ _ _ _ _ _ _ _ _ _=>rfl,f_forth_days.ft2 X G λ _ _ _ _ _ _ _ _=>rfl,f_days_ahead.ft3 X G λ _ _ _ _ _ _ _ _ _=>rfl,f_back_days.ft2 X G λ _ _ _ _ _ _ _ _=>rfl,f_possible_days.ft2 X G λ _ _ _ _ _ _ _ _=>rfl,f_law_spread.ft3 X G λ _ _ _ _ _ _ _ _ _=>rfl,f_law_spoil.ft1 X G λ _ _ _ _ _ _ _=>rfl,f_law_whole.ft1 X G λ _ _ _ _ _ _ _=>rfl,f_law_list.ft2 X G λ _ _ _ _ _ _ _ _=>rfl,f_law_lists.ft2 X G λ _ _ _ _ _ _ _ _=>rfl,f_earliest.ft2 X G λ _ _ _ _ _ _ _ _=>rfl,f_latest.ft2 X G λ _ _ _ _ _ _ _ _=>rfl,f_sums_up_to.ft1 X G λ _ _ _ _ _ _ _=>rfl,f_counts_ahead.ft4 X G λ _ _ _ _ _ _ _ _ _ _=>rfl,f_back_counts.ft2 X G λ _ _ _ _ _ _ _ _=>rfl,f_count_of_all.ft1 X G λ _ _ _ _ _ _ _=>rfl,f_may_stand.ft4 X G λ _ _ _ _ _ _ _ _ _ _=>rfl,f_nth_reading.ft3 X G λ _ _ _ _ _ _ _ _ _=>rfl,f_law_row_told.ft3 X G λ _ _ _ _ _ _ _ _ _=>rfl,f_witness.ft4 X G λ _ _ _ _ _ _ _ _ _ _=>rfl,f_own_blots.ft2 X G λ _ _ _ _ _ _ _ _=>rfl,f_best_ahead.ft2 X G λ _ _ _ _ _ _ _ _=>rfl,f_numbers_behind.ft3 X G λ _ _ _ _ _ _ _ _ _=>rfl,f_fewest_numbers.ft3 X G λ _ _ _ _ _ _ _ _ _=>rfl,f_days_with_fewest.ft2 X G λ _ _ _ _ _ _ _ _=>rfl,f_fewest_blots.ft3 X G λ _ _ _ _ _ _ _ _ _=>rfl,⟨_,_,qY (st:=(aK 39)) l_law wl p_law,PySem.W.mg_of X G a_law,(qY (st:=(aK 39)) l_law wl p_law).binds (ps:=[("_law_script" : Str)]) λ _ _ _ _ _ _ us hl=>match us,hl with | [_],_=>rfl⟩,PySem.W.mg_none_of X G a_bool,PySem.W.mg_none_of X G a_enumerate,PySem.W.mg_none_of X G a_int,PySem.W.mg_none_of X G a_isinstance,PySem.W.mg_none_of X G a_len,PySem.W.mg_none_of X G a_list,PySem.W.mg_none_of X G a_min,PySem.W.mg_none_of X G a_range,PySem.W.mg_none_of X G a_reversed,PySem.W.mg_none_of X G a_set,PySem.W.mg_none_of X G a_sorted,PySem.W.mg_none_of X G a_sum,PySem.W.mg_none_of X G a_zip,⟨PySem.W.mg_of X G a_NoSuchReading,e_NoSuchReading⟩⟩
 have e:=hfa.symm.trans (PySem.W.mg_of X G a_law)
 cases e
 refine ⟨PySem.W.fnOf "law" "law" (c7 (aK 39)) (ay (aK 39)) (am (aK 39)) .none kV_law dc_law pm_law an_law cd_law ct_law,λ s v=>.of_eq rfl,λ base _ _=>?_⟩
 have o_law_at:=AO (P:=l.prog) (w:=w) (base:=base) T
 have o_law_row:=yy (P:=l.prog) (w:=w) (base:=base) T
 have o_law_small:=uW (P:=l.prog) (w:=w) (base:=base) T o_law_at o_law_row
 have o_law_draws:=uU (P:=l.prog) (w:=w) (base:=base) T
 have o_law_hidden:=sB (P:=l.prog) (w:=w) (base:=base) T o_law_at o_law_draws
 have or_law_copies:=rA (P:=l.prog) (w:=w) (base:=base) T
 have o_law_copies:MC l.prog w K mg base _ ("_law_copies" : Str) [("_law_rows" : Str)] eF 1:=or_law_copies.toR1.mc
 have or_days_behind:=qg (P:=l.prog) (w:=w) (base:=base) T
 have o_days_behind:MC l.prog w K mg base _ ("days_behind" : Str) [("ahead" : Str),("row" : Str),("gap" : Str)] sx 1:=or_days_behind.mc
 have or_forth_days:=rz (P:=l.prog) (w:=w) (base:=base) T or_days_behind
 have o_forth_days:MC l.prog w K mg base _ ("forth_days" : Str) [("rows" : Str),("gap" : Str)] eE 2:=or_forth_days.toR1.mc
 have or_days_ahead:=rq (P:=l.prog) (w:=w) (base:=base) T
 have o_days_ahead:MC l.prog w K mg base _ ("days_ahead" : Str) [("row" : Str),("behind" : Str),("gap" : Str)] uQ 1:=or_days_ahead.mc
 have or_back_days:=sD (P:=l.prog) (w:=w) (base:=base) T or_days_ahead
 have o_back_days:MC l.prog w K mg base _ ("back_days" : Str) [("rows" : Str),("gap" : Str)] wQ 2:=or_back_days.toR1.mc
 have or_possible_days:=nY (P:=l.prog) (w:=w) (base:=base) T or_back_days o_forth_days
 have o_possible_days:MC l.prog w K mg base _ ("possible_days" : Str) [("rows" : Str),("gap" : Str)] bA 3:=or_possible_days.toR1.mc
 have or_law_spread:=rB (P:=l.prog) (w:=w) (base:=base) T or_forth_days or_back_days or_possible_days
 have o_law_spread:MC l.prog w K mg base _ ("_law_spread" : Str) [("_law_handed" : Str),("_law_gap" : Str),("_law_which" : Str)] eG 4:=or_law_spread.toR1.mc
 have os_law_spoil:=sF (P:=l.prog) (w:=w) (base:=base) T
 have o_law_whole:=uX (P:=l.prog) (w:=w) (base:=base) T
 have o_law_list:=xb (P:=l.prog) (w:=w) (base:=base) T o_law_whole
 have o_law_lists:=uV (P:=l.prog) (w:=w) (base:=base) T o_law_list
 have or_earliest:=uZ (P:=l.prog) (w:=w) (base:=base) T o_possible_days
 have o_earliest:MC l.prog w K mg base _ ("earliest" : Str) [("rows" : Str),("gap" : Str)] yq 4:=or_earliest.mc
 have or_latest:=yz (P:=l.prog) (w:=w) (base:=base) T o_possible_days
 have o_latest:MC l.prog w K mg base _ ("latest" : Str) [("rows" : Str),("gap" : Str)] Cz 4:=or_latest.mc
 have o_sums_up_to:=sC (P:=l.prog) (w:=w) (base:=base) T
 have o_counts_ahead:=qf (P:=l.prog) (w:=w) (base:=base) T o_sums_up_to
 have o_back_counts:=ro (P:=l.prog) (w:=w) (base:=base) T o_counts_ahead
 have o_count_of_all:=qe (P:=l.prog) (w:=w) (base:=base) T
 have o_may_stand:=uY (P:=l.prog) (w:=w) (base:=base) T
 have or_nth_reading:=qh (P:=l.prog) (w:=w) (base:=base) T o_back_counts o_count_of_all o_may_stand
 have o_nth_reading:MC l.prog w K mg base _ ("nth_reading" : Str) [("rows" : Str),("gap" : Str),("k" : Str)] sy 4:=or_nth_reading.mc
 have or_law_row_told:=o0 (P:=l.prog) (w:=w) (base:=base) T or_earliest or_latest or_nth_reading
 have o_law_row_told:MC l.prog w K mg base _ ("_law_row_told" : Str) [("_law_handed" : Str),("_law_gap" : Str),("_law_which" : Str)] dq 5:=or_law_row_told.mc
 have or_witness:=xc (P:=l.prog) (w:=w) (base:=base) T or_earliest
 have o_witness:MC l.prog w K mg base _ ("witness" : Str) [("rows" : Str),("gap" : Str),("place" : Str),("day" : Str)] AE 5:=or_witness.mc
 have or_own_blots:=sE (P:=l.prog) (w:=w) (base:=base) T
 have o_own_blots:MC l.prog w K mg base _ ("own_blots" : Str) [("row" : Str),("length" : Str)] fV 1:=or_own_blots.mc
 have o_best_ahead:=sA (P:=l.prog) (w:=w) (base:=base) T
 have or_numbers_behind:=nz (P:=l.prog) (w:=w) (base:=base) T o_own_blots o_best_ahead
 have o_numbers_behind:MC l.prog w K mg base _ ("numbers_behind" : Str) [("ahead" : Str),("row" : Str),("gap" : Str)] oW 2:=or_numbers_behind.mc
 have or_fewest_numbers:=ny (P:=l.prog) (w:=w) (base:=base) T or_own_blots or_numbers_behind
 have o_fewest_numbers:MC l.prog w K mg base _ ("fewest_numbers" : Str) [("rows" : Str),("gap" : Str),("length" : Str)] oV 3:=or_fewest_numbers.toR1.mc
 have or_days_with_fewest:=l9 (P:=l.prog) (w:=w) (base:=base) T o_best_ahead
 have o_days_with_fewest:MC l.prog w K mg base _ ("days_with_fewest" : Str) [("numbers" : Str),("gap" : Str)] nj 2:=or_days_with_fewest.mc
 have or_fewest_blots:=oZ (P:=l.prog) (w:=w) (base:=base) T or_fewest_numbers or_days_with_fewest
 have o_fewest_blots:MC l.prog w K mg base _ ("fewest_blots" : Str) [("rows" : Str),("gap" : Str),("length" : Str)] cz 4:=or_fewest_blots.mcT
 have o_law:=Hv (P:=l.prog) (w:=w) (base:=base) T o_law_at o_law_small o_law_hidden o_law_copies or_law_spread or_law_copies os_law_spoil o_law_lists o_law_spread or_law_row_told o_law_list o_law_row_told or_witness or_fewest_blots o_fewest_blots
 have FL:=qY (st:=aK 39) l_law wl p_law
 exact Hs (PySem.W.mg_of X G a_law) l_law o_law main
theorem walk {l:PySem.W.OpenLaw} {q:Program} {loose:List Str} {XP:(Str->Option Value)->Heap->Prop} {YP:World->Heap->Prop} {d:DefRec} {K:Params->PySem.W.Frag} (hn:l.most=some 63) (hdf:d.params.defaults=[])
  (hY:∀ (w:World) (h:Heap),YP w h->(K w.params).In h)
  (F:∀ (w:World) (mg:Str->Option Value) (fa:Addr) (h:Heap),(K w.params).In h->h.Ns mainGlobals mg->mg d.name=some (.ref fa) →
   ∃ fd:FuncData,(∀ (s:Shared) (u:Value),BindsTo s fd ⟨[u],[]⟩ [(("_law_script" : Str),u)])/\∀ base:Heap,(K w.params).In base->base.Ns mainGlobals mg->FnOk l.prog w (K w.params) mg base (pU l.prog w) 6 fa fd [("_law_script" : Str)] (DP (K w.params))) :
  PySem.W.WalkO q loose XP YP l.row.toRowW d [] (λ f vs=>PySem.call f vs):=
 L2.Ge (n:=63) (k:=6) (x:=("_law_script" : Str)) (CX:=λ w=>pU l.prog w) (sp:=λ w=>DP (K w.params)) hn (by decide) hdf ⟨rfl,by decide,by decide⟩ hY F (λ _ _ a ns hl _ hS=>⟨a,ns,rfl,hS,hl,λ _=>rfl⟩) λ _ _ _ _ _ z=>by obtain ⟨_,_,_,_,_,_,_,_,_,_,z⟩:=z;exact z
end Lw
namespace Lw
open PySem L2 L3
local macro_rules | `(tactic| simp_arith [$ls,*]) => `(tactic| simp -implicitDefEqProofs only [mZ, qS, G6, G4, oK, EA, G0, gR, gS, bL, kB, jL, jT, uK, wA, kA, kz, B3, yd, B4, Ew, Ey, Jx, Jy, GW, Eu, GZ, Ez, GX, Jz, KY, GY, List.getElem?_cons_succ, List.getElem?_cons_zero, List.set_cons_zero, List.set_cons_succ, R.bind_ok, eC, l8, nX, ES, zF, kG, zE, wY, cQ, CD, ze, BM, GT, yA, yF, yE, yD, yC, yB, yn, if_true, Bool.false_eq_true, if_false, decide_true, decide_false, List.length_map, $ls,*])
theorem lR (ns:List Int) (k:Nat):aF [.lst (ns.map D.int),.int (k:Int)]=.ok (.int (cell ns k)):=by
 unfold aF qx av cell
 by_cases h:k < ns.length
 ·have e:qD (ns.map D.int) (k:Int)=some (D.int (ns.getD k 0)):=iL (by simp [h])
  have h':(k:Int) < (ns.length:Int):=by omega
  simp [aD,jb e,h']
 ·have h':¬ (k:Int) < (ns.length:Int):=by omega
  simp [aD,mJ,h',List.getElem?_eq_none (Nat.le_of_not_lt h)]
theorem mf {m:List D->R D} {fs:Ev->R (List D)} {δ:Ev} {xs:List D} {r:R D} (h:fs δ=.ok xs) (k:m xs=r):aQ m fs δ=r:=by unfold aQ;rw [h];exact k
theorem bF {o:D->D->R D} {fa fb:Ev->R D} {δ:Ev} {a b:D} {r:R D} (h:fa δ=.ok a) (h2:fb δ=.ok b) (k:o a b=r):m2 o fa fb δ=r:=by unfold m2;rw [h,h2];exact k
theorem uP {o:D->D->R Bool} {fa fb:Ev->R D} {δ:Ev} {a b:D} {r:R Bool} (h:fa δ=.ok a) (h2:fb δ=.ok b) (k:o a b=r):bY o fa fb δ=r:=by unfold bY;rw [h,h2];exact k
theorem J8 {f:Ev->R D} {l u:Ev->R (Option Int)} {δ:Ev} {a:D} {i j:Option Int} {r:R D} (h:f δ=.ok a) (h1:l δ=.ok i) (h2:u δ=.ok j) (k:CG a i j=r):AD f l u δ=r:=by unfold AD;rw [h,h1,h2];exact k
theorem Lg {f:Ev->R D} {δ:Ev} {i:Int} (h:f δ=.ok (.int i)):mP f δ=.ok (some i):=by unfold mP;rw [h];rfl
theorem qo {α β:Type} {x:R α} {a:α} {f:α->R β} {r:R β} (h:x=.ok a) (k:f a=r):x.bind f=r:=by rw [h];exact k
theorem Ek {f g:Ev->R D} {δ:Ev} {a b:Bool} (h:f δ=.ok (.bl a)) (k:g δ=.ok (.bl b)):nT f g δ=.ok (.bl (a && b)):=by
 unfold nT
 rw [h]
 cases a with
 | true=>exact k
 | false=>rfl
theorem BH {f g:Ev->R Bool} {δ:Ev} {a b:Bool} (h:f δ=.ok a) (k:g δ=.ok b):gT f g δ=.ok (a && b):=by
 unfold gT
 rw [h]
 cases a with
 | true=>exact k
 | false=>rfl
theorem B7 {F:SR} {d:D} (h:F=.ret d):iP F=.ok d:=by rw [h];rfl
noncomputable abbrev xF (i:Int):Option Sl:=some (.sh (.int i))
noncomputable abbrev GF (l:List Int):Option Sl:=some (.sh (ag l))
theorem DY (i:Int):d9 [.int i]=.ok (.bl true):=by
 simp [d9,lw,av,m9]
noncomputable def ahd (r b:List Int) (g:Int):List Int:=r.filter λ x=>b.any λ y=>decide (x <= y) && decide (y <= x + g)
noncomputable def bhd (a r:List Int) (g:Int):List Int:=r.filter λ y=>a.any λ x=>decide (x <= y) && decide (y <= x + g)
noncomputable def Up (r:List Int):Prop:=r.Pairwise (· <= ·)
theorem EN {r b:List Int} {g x:Int}:x∈ahd r b g ↔ x∈r/\∃ y∈b,x <= y/\y <= x + g:=by simp [ahd]
theorem zD {a r:List Int} {g y:Int}:y∈bhd a r g ↔ y∈r/\∃ x∈a,x <= y/\y <= x + g:=by simp [bhd]
theorem Up.ahd {r b:List Int} {g:Int} (h:Up r):Up (ahd r b g):=h.filter _
theorem Up.bhd {a r:List Int} {g:Int} (h:Up r):Up (bhd a r g):=h.filter _
theorem Up.one (x:Int):Up [x]:=List.pairwise_singleton ..
theorem zx (r b:List Int) (g:Int):(ahd r b g).length <= r.length:=List.length_filter_le ..
theorem zy (a r:List Int) (g:Int):(bhd a r g).length <= r.length:=List.length_filter_le ..
noncomputable def Hf (d g:Int):List Int->Bool
 | []=>false
 | h :: _=>decide (h - d <= g)
noncomputable def Kz (d g:Int):Option Int->Bool
 | none=>false
 | some h=>decide (d - h <= g)
theorem zX {pre suf:List Int} {d g:Int} (h1:∀ y∈pre,y < d) (h2:Up suf) (h3:∀ y,suf.head?=some y->d <= y):((pre++suf).any λ y=>decide (d <= y) && decide (y <= d + g))=Hf d g suf:=by
 rw [List.any_append]
 have e1:(pre.any λ y=>decide (d <= y) && decide (y <= d + g))=false:=by
  rw [List.any_eq_false]
  intro y hy
  have:=h1 y hy
  simp
  omega
 rw [e1,Bool.false_or]
 cases suf with
 | nil=>rfl
 | cons h suf =>
  have hd:=h3 h rfl
  have hp:=List.pairwise_cons.mp h2
  unfold Hf
  rw [Bool.eq_iff_iff,List.any_eq_true,decide_eq_true_eq]
  constructor
  ·rintro ⟨y,hy,e⟩
   simp at e
   rcases List.mem_cons.mp hy with rfl | hy
   ·omega
   ·have:=hp.1 y hy
    omega
  ·intro e
   exact ⟨h,List.mem_cons_self,by simp;omega⟩
theorem xU {pre suf:List Int} {d g:Int} (h1:Up pre) (h2:∀ y∈pre,y <= d) (h3:∀ y∈suf,d < y):((pre++suf).any λ x=>decide (x <= d) && decide (d <= x + g))=Kz d g pre.getLast?:=by
 rw [List.any_append]
 have e1:(suf.any λ x=>decide (x <= d) && decide (d <= x + g))=false:=by
  rw [List.any_eq_false]
  intro y hy
  have:=h3 y hy
  simp
  omega
 rw [e1,Bool.or_false]
 rcases List.eq_nil_or_concat pre with rfl | ⟨p,h,rfl⟩
 ·rfl
 ·rw [List.concat_eq_append] at *
  rw [List.getLast?_append]
  simp only [List.getLast?_singleton,Option.some_or,Kz]
  have hp:=List.pairwise_append.mp h1
  have hh:=h2 h (by simp)
  rw [Bool.eq_iff_iff,List.any_eq_true,decide_eq_true_eq]
  constructor
  ·rintro ⟨y,hy,e⟩
   simp at e
   rcases List.mem_append.mp hy with hy | hy
   ·have:=hp.2.2 y hy h (by simp)
    omega
   ·have:y=h:=by simpa using hy
    omega
  ·intro e
   exact ⟨h,by simp,by simp;omega⟩
theorem iO {α:Type} {p:α->Bool}:∀ {l:List α} {y:α},(l.dropWhile p).head?=some y->p y=false
 | [],_,h=>by cases h
 | a :: l,y,h=>by
  rw [List.dropWhile_cons] at h
  split at h
  ·exact iO h
  ·rename_i c
   cases h
   simpa using c
theorem dR {α:Type} {p:α->Bool}:∀ {l:List α} {y:α},y∈l.takeWhile p->p y=true
 | [],_,h=>by cases h
 | a :: l,y,h=>by
  rw [List.takeWhile_cons] at h
  split at h
  ·rename_i c
   rcases List.mem_cons.mp h with rfl | h
   ·exact c
   ·exact dR h
  ·cases h
theorem Up.dropWhile {p:Int->Bool} {l:List Int} (h:Up l):Up (l.dropWhile p):=h.sublist (List.dropWhile_sublist p)
theorem Up.lt_drop {r:List Int} (h:Up r) {k:Nat} {d:Int} (e:r[k]?=some d):∀ z∈r.drop k,d <= z:=by
 intro z hz
 obtain ⟨hk,e⟩:=List.getElem?_eq_some_iff.mp e
 rw [List.drop_eq_getElem_cons hk] at hz
 rcases List.mem_cons.mp hz with rfl | hz
 ·rw [e];exact Int.le_refl _
 ·have:=(List.pairwise_cons.mp (by rw [<- List.drop_eq_getElem_cons hk];exact h.sublist (List.drop_sublist k r):List.Pairwise (· <= ·) (r[k] :: r.drop (k + 1)))).1 z hz
  rw [e] at this
  exact this
theorem pM {p:Int->Bool} {r:List Int} {k:Nat} {d:Int} (e:r[k]?=some d):(r.take (k + 1)).filter p=(r.take k).filter p++(if p d then [d] else []):=by
 rw [List.take_add_one,e,List.filter_append]
 cases h:p d <;> simp [h]
theorem uJ {d:Int} {l:List Int} (h:Up l):∀ y∈l.dropWhile (λ y=>decide (y <= d)),d < y:=by
 intro y hy
 have hu:=h.dropWhile (p:=λ y=>decide (y <= d))
 cases e:l.dropWhile (λ y=>decide (y <= d)) with
 | nil=>rw [e] at hy;cases hy
 | cons a t =>
  have ha:=iO (p:=λ y=>decide (y <= d)) (l:=l) (y:=a) (by rw [e];rfl)
  simp at ha
  rw [e] at hy hu
  rcases List.mem_cons.mp hy with rfl | hy
  ·exact ha
  ·have:=(List.pairwise_cons.mp hu).1 y hy
   omega
theorem tD {m:List D->R (List D)} {ds l:List D} (h:m ds=.ok l):mF m ds=.ok (.lst l):=by unfold mF;rw [h];rfl
theorem pT {A G O:Option Sl} {d:Int}:∀ (suf pre:List Int) (n:Nat),suf.length < n →
  b5 (gT (bY qd (ac 4) (m1 cj (ac 1))) (bY qd (m2 bP (ac 1) (ac 4)) (ac 5))) iu n [A,some (.sh (ag (pre++suf))),G,O,some (.sh (.int pre.length)),some (.sh (.int d))]
   = .next [A,some (.sh (ag (pre++suf))),G,O,some (.sh (.int (pre++suf.takeWhile λ y=>decide (y < d)).length)),some (.sh (.int d))]
 | [],pre,n + 1,_=>by
  rw [ce (by simp)]
  simp
 | h :: suf,pre,n + 1,hn=>by
  have hix:bP (ag (pre++h :: suf)) (.int (pre.length:Int))=.ok (.int h):=b9 (by simp)
  have hlt:((pre.length:Int) < ((pre.length:Int) + ((suf.length:Int) + 1))):=by omega
  have hlt2:0 < (suf.length:Int) + 1:=by omega
  by_cases c:h < d
  ·rw [jf (δ':=[A,some (.sh (ag (pre++h :: suf))),G,O,some (.sh (.int (pre.length + 1))),some (.sh (.int d))]) (by
    simp only [kz,jT,bL,uK,jL,List.getElem?_cons_succ,List.getElem?_cons_zero,R.bind_ok,cQ,hix]
    simp [c,hlt]) (by simp [iu,nE])]
   have ih:=pT (A:=A) (G:=G) (O:=O) (d:=d) suf (pre++[h]) n (by simp at hn;omega)
   simp only [List.append_assoc,List.singleton_append,List.length_append,List.length_cons,List.length_nil] at ih ⊢
   rw [show ((pre.length:Int) + 1)=(((pre.length + (0 + 1):Nat)):Int) by push_cast;omega,ih,List.takeWhile_cons]
   simp only [c,decide_true,if_true,List.length_cons]
  ·rw [ce (by
    simp only [kz,jT,bL,uK,jL,List.getElem?_cons_succ,List.getElem?_cons_zero,R.bind_ok,cQ,hix]
    simp [c,hlt])]
   rw [List.takeWhile_cons]
   simp [c]
theorem uI {r b:List Int} {g:Int} (hr:Up r) (hb:Up b) (hl:b.length < 1000) (hrl:r.length < 1000000):cf [ag r,ag b,.int g]=.ok ((ahd r b g).map D.int):=by
 unfold cf jg
 rw [aE (δ':=[some (.sh (ag r)),some (.sh (ag b)),some (.sh (.int g)),some (.ow []),none,none]) (by simp [iE,av,lim])]
 unfold gb
 rw [aE (δ':=[some (.sh (ag r)),some (.sh (ag b)),some (.sh (.int g)),some (.ow []),some (.sh (.int 0)),none]) (by simp [iF])]
 obtain ⟨δ',e,pre,suf,x5,h1,h2,h3⟩:=cU (fit:=λ δ=>((ac 0) δ).bind aV) (bd:=bN 5) (F:=iw) (δ:=[some (.sh (ag r)),some (.sh (ag b)),some (.sh (.int g)),some (.ow []),some (.sh (.int 0)),none]) (ds:=r.map D.int)
  (λ k δ=>∃ pre suf x5,b=pre++suf/\(∀ y∈pre,∀ z∈r.drop k,y < z)/\δ=[some (.sh (ag r)),some (.sh (ag b)),some (.sh (.int g)),some (.ow ((ahd (r.take k) b g).map D.int)),some (.sh (.int pre.length)),x5])
  (by simp) ⟨[],b,none,rfl,by simp,by simp [ahd]⟩ (by
   rintro k d δ hd ⟨pre,suf,x5,h1,h2,rfl⟩
   rw [List.getElem?_map] at hd
   cases q:r[k]? with
   | none=>rw [q] at hd;cases hd
   | some d =>
    rw [q] at hd
    cases hd
    have hk:=(List.getElem?_eq_some_iff.mp q).1
    refine ⟨[some (.sh (ag r)),some (.sh (ag b)),some (.sh (.int g)),some (.ow ((ahd (r.take k) b g).map D.int)),some (.sh (.int pre.length)),some (.sh (.int d))],[some (.sh (ag r)),some (.sh (ag b)),some (.sh (.int g)),some (.ow ((ahd (r.take (k + 1)) b g).map D.int)),some (.sh (.int (pre++suf.takeWhile λ y=>decide (y < d)).length)),some (.sh (.int d))],rfl,?_⟩
    have hdk:d∈r.drop k:=by
     rw [List.drop_eq_getElem_cons hk]
     rw [(List.getElem?_eq_some_iff.mp q).2]
     exact List.mem_cons_self
    have hsuf:Up suf:=by rw [h1] at hb;exact (List.pairwise_append.mp hb).2.1
    have hw:=pT (A:=some (.sh (ag r))) (G:=some (.sh (.int g))) (O:=some (.ow ((ahd (r.take k) b g).map D.int))) (d:=d) suf pre 1000 (by rw [h1] at hl;simp at hl;omega)
    rw [<- h1] at hw
    have hs:suf.takeWhile (λ y=>decide (y < d))++suf.dropWhile (λ y=>decide (y < d))=suf:=List.takeWhile_append_dropWhile
    have hb2:b=(pre++suf.takeWhile λ y=>decide (y < d))++suf.dropWhile λ y=>decide (y < d):=by rw [List.append_assoc,hs];exact h1
    have hpre:∀ y∈pre++suf.takeWhile (λ y=>decide (y < d)),y < d:=by
     intro y hy
     rcases List.mem_append.mp hy with hy | hy
     ·exact h2 y hy d hdk
     ·exact of_decide_eq_true (dR (p:=λ y=>decide (y < d)) hy)
    have hany:=zX (g:=g) hpre (hsuf.dropWhile (p:=λ y=>decide (y < d))) (λ y hy=>by
     have:=iO hy
     simp at this
     exact this)
    rw [<- hb2] at hany
    generalize hP:pre++suf.takeWhile (λ y=>decide (y < d))=P at *
    generalize hS:suf.dropWhile (λ y=>decide (y < d))=S at *
    have hlen:(b.length:Int)=P.length + S.length:=by rw [hb2];simp
    have hcond:gT (bY qd (ac 4) (m1 cj (ac 1))) (bY xR (m2 kX (m2 bP (ac 1) (ac 4)) (ac 5)) (ac 2)) [some (.sh (ag r)),some (.sh (ag b)),some (.sh (.int g)),some (.ow ((ahd (r.take k) b g).map D.int)),some (.sh (.int P.length)),some (.sh (.int d))]
      = .ok (b.any λ y=>decide (d <= y) && decide (y <= d + g)):=by
     rw [hany]
     cases S with
     | nil =>
      have:¬ ((P.length:Int) < (b.length:Int)):=by simp at hlen;omega
      simp [this,Hf]
     | cons h S =>
      have hix:bP (ag b) (.int (P.length:Int))=.ok (.int h):=b9 (by rw [hb2];simp)
      have:(P.length:Int) < (b.length:Int):=by simp at hlen;omega
      simp only [kz,jT,bL,uK,jL,List.getElem?_cons_succ,List.getElem?_cons_zero,R.bind_ok,cQ,hix]
      simp [this,Hf]
    have fil:ahd (r.take (k + 1)) b g=ahd (r.take k) b g++(if (b.any λ y=>decide (d <= y) && decide (y <= d + g)) then [d] else []):=pM (p:=λ x=>b.any λ y=>decide (x <= y) && decide (y <= x + g)) q
    have hlt:(ahd (r.take k) b g).length < 1000000:=by
     have:=zx (r.take k) b g
     simp at this
     omega
    refine ⟨.inl ?_,P,S,_,hb2,λ y hy z hz=>?_,rfl⟩
    ·unfold iw
     refine (ah hw).trans ?_
     simp only [qS,hcond,eC]
     rw [fil]
     cases (b.any λ y=>decide (d <= y) && decide (y <= d + g)) with
     | false=>simp
     | true=>simp [hlt]
    ·have h4:=hr.lt_drop q z (by rw [List.drop_eq_getElem_cons hk];exact List.mem_cons_of_mem _ hz)
     have:=hpre y hy
     omega)
 unfold gc iG
 rw [aE e,h3]
 rw [List.length_map,List.take_length]
 rfl
theorem ox {A G O:Option Sl} {d:Int}:∀ (suf pre:List Int) (n:Nat),suf.length < n →
  b5 (gT (bY qd (ac 4) (m1 cj (ac 0))) (bY xR (m2 bP (ac 0) (ac 4)) (ac 5))) gx n [some (.sh (ag (pre++suf))),A,G,O,some (.sh (.int pre.length)),some (.sh (.int d))]
   = .next [some (.sh (ag (pre++suf))),A,G,O,some (.sh (.int (pre++suf.takeWhile λ y=>decide (y <= d)).length)),some (.sh (.int d))]
 | [],pre,n + 1,_=>by
  rw [ce (by simp)]
  simp
 | h :: suf,pre,n + 1,hn=>by
  have hix:bP (ag (pre++h :: suf)) (.int (pre.length:Int))=.ok (.int h):=b9 (by simp)
  have hlt:((pre.length:Int) < ((pre.length:Int) + ((suf.length:Int) + 1))):=by omega
  by_cases c:h <= d
  ·rw [jf (δ':=[some (.sh (ag (pre++h :: suf))),A,G,O,some (.sh (.int (pre.length + 1))),some (.sh (.int d))]) (by
    simp only [kz,jT,bL,uK,jL,List.getElem?_cons_succ,List.getElem?_cons_zero,R.bind_ok,cQ,hix]
    simp [c,hlt]) (by simp [gx,nE])]
   have ih:=ox (A:=A) (G:=G) (O:=O) (d:=d) suf (pre++[h]) n (by simp at hn;omega)
   simp only [List.append_assoc,List.singleton_append,List.length_append,List.length_cons,List.length_nil] at ih ⊢
   rw [show ((pre.length:Int) + 1)=(((pre.length + (0 + 1):Nat)):Int) by push_cast;omega,ih,List.takeWhile_cons]
   simp only [c,decide_true,if_true,List.length_cons]
  ·rw [ce (by
    simp only [kz,jT,bL,uK,jL,List.getElem?_cons_succ,List.getElem?_cons_zero,R.bind_ok,cQ,hix]
    simp [c,hlt])]
   rw [List.takeWhile_cons]
   simp [c]
theorem su {a r:List Int} {g:Int} (ha:Up a) (hr:Up r) (hl:a.length < 1000) (hrl:r.length < 1000000):bW [ag a,ag r,.int g]=.ok ((bhd a r g).map D.int):=by
 unfold bW ib
 rw [aE (δ':=[some (.sh (ag a)),some (.sh (ag r)),some (.sh (.int g)),some (.ow []),none,none]) (by simp [gD,av,lim])]
 unfold eS
 rw [aE (δ':=[some (.sh (ag a)),some (.sh (ag r)),some (.sh (.int g)),some (.ow []),some (.sh (.int 0)),none]) (by simp [gE])]
 obtain ⟨δ',e,pre,suf,x5,h1,h2,h3⟩:=cU (fit:=λ δ=>((ac 1) δ).bind aV) (bd:=bN 5) (F:=gy) (δ:=[some (.sh (ag a)),some (.sh (ag r)),some (.sh (.int g)),some (.ow []),some (.sh (.int 0)),none]) (ds:=r.map D.int)
  (λ k δ=>∃ pre suf x5,a=pre++suf/\(∀ y∈pre,∀ z∈r.drop k,y <= z)/\δ=[some (.sh (ag a)),some (.sh (ag r)),some (.sh (.int g)),some (.ow ((bhd a (r.take k) g).map D.int)),some (.sh (.int pre.length)),x5])
  (by simp) ⟨[],a,none,rfl,by simp,by simp [bhd]⟩ (by
   rintro k d δ hd ⟨pre,suf,x5,h1,h2,rfl⟩
   rw [List.getElem?_map] at hd
   cases q:r[k]? with
   | none=>rw [q] at hd;cases hd
   | some d =>
    rw [q] at hd
    cases hd
    have hk:=(List.getElem?_eq_some_iff.mp q).1
    refine ⟨[some (.sh (ag a)),some (.sh (ag r)),some (.sh (.int g)),some (.ow ((bhd a (r.take k) g).map D.int)),some (.sh (.int pre.length)),some (.sh (.int d))],[some (.sh (ag a)),some (.sh (ag r)),some (.sh (.int g)),some (.ow ((bhd a (r.take (k + 1)) g).map D.int)),some (.sh (.int (pre++suf.takeWhile λ y=>decide (y <= d)).length)),some (.sh (.int d))],rfl,?_⟩
    have hdk:d∈r.drop k:=by
     rw [List.drop_eq_getElem_cons hk]
     rw [(List.getElem?_eq_some_iff.mp q).2]
     exact List.mem_cons_self
    have hsuf:Up suf:=by rw [h1] at ha;exact (List.pairwise_append.mp ha).2.1
    have hw:=ox (A:=some (.sh (ag r))) (G:=some (.sh (.int g))) (O:=some (.ow ((bhd a (r.take k) g).map D.int))) (d:=d) suf pre 1000 (by rw [h1] at hl;simp at hl;omega)
    rw [<- h1] at hw
    have hs:suf.takeWhile (λ y=>decide (y <= d))++suf.dropWhile (λ y=>decide (y <= d))=suf:=List.takeWhile_append_dropWhile
    have hb2:a=(pre++suf.takeWhile λ y=>decide (y <= d))++suf.dropWhile λ y=>decide (y <= d):=by rw [List.append_assoc,hs];exact h1
    have hpre:∀ y∈pre++suf.takeWhile (λ y=>decide (y <= d)),y <= d:=by
     intro y hy
     rcases List.mem_append.mp hy with hy | hy
     ·exact h2 y hy d hdk
     ·exact of_decide_eq_true (dR (p:=λ y=>decide (y <= d)) hy)
    have hup:Up (pre++suf.takeWhile λ y=>decide (y <= d)):=by
     have h:=ha
     rw [hb2] at h
     exact (List.pairwise_append.mp h).1
    have hany:=xU (g:=g) hup hpre (uJ hsuf)
    rw [<- hb2] at hany
    generalize hP:pre++suf.takeWhile (λ y=>decide (y <= d))=P at *
    generalize hS:suf.dropWhile (λ y=>decide (y <= d))=S at *
    have hcond:gT (bY wV (ac 4) (mC (.int 0))) (bY xR (m2 kX (ac 5) (m2 bP (ac 0) (m2 kX (ac 4) (mC (.int 1))))) (ac 2)) [some (.sh (ag a)),some (.sh (ag r)),some (.sh (.int g)),some (.ow ((bhd a (r.take k) g).map D.int)),some (.sh (.int P.length)),some (.sh (.int d))]
      = .ok (a.any λ x=>decide (x <= d) && decide (d <= x + g)):=by
     rw [hany]
     rcases List.eq_nil_or_concat P with rfl | ⟨p,h,rfl⟩
     ·simp [Kz]
     ·rw [List.concat_eq_append] at *
      have hix:bP (ag a) (.int ((p.length:Nat):Int))=.ok (.int h):=b9 (by rw [hb2];simp)
      have h0:(0:Int) < ((p++[h]).length:Int):=by simp
      have h1':(((p++[h]).length:Int) - 1)=((p.length:Nat):Int):=by simp
      simp only [kz,jT,bL,uK,jL,wA,List.getElem?_cons_succ,List.getElem?_cons_zero,R.bind_ok,kG,nX,h0,h1',hix,decide_true,if_true,zF]
      simp [Kz]
    have fil:bhd a (r.take (k + 1)) g=bhd a (r.take k) g++(if (a.any λ x=>decide (x <= d) && decide (d <= x + g)) then [d] else []):=pM (p:=λ y=>a.any λ x=>decide (x <= y) && decide (y <= x + g)) q
    have hlt:(bhd a (r.take k) g).length < 1000000:=by
     have:=zy a (r.take k) g
     simp at this
     omega
    refine ⟨.inl ?_,P,S,_,hb2,λ y hy z hz=>?_,rfl⟩
    ·unfold gy
     refine (ah hw).trans ?_
     simp only [qS,hcond,eC]
     rw [fil]
     cases (a.any λ x=>decide (x <= d) && decide (d <= x + g)) with
     | false=>simp
     | true=>simp [hlt]
    ·have h4:=hr.lt_drop q z (by rw [List.drop_eq_getElem_cons hk];exact List.mem_cons_of_mem _ hz)
     have:=hpre y hy
     omega)
 unfold eT gF
 rw [aE e,h3]
 rw [List.length_map,List.take_length]
 rfl
theorem nL {α:Type} {l:List α} {h:α->D} {g:α->D} {p:α->Bool} {δ1:α->Ev} {n:Nat} {bd:D->Ev->Option Ev} {t:Ev->R Bool} {f:Ev->R D} {fit:Ev->R (List D)} {δ:Ev} (hf:fit δ=.ok (l.map h)) (hl:l.length <= 1000000)
  (hb:∀ a∈l,bd (h a) (nD δ++List.replicate n none)=some (δ1 a)) (ht:∀ a∈l,t (δ1 a)=.ok (p a)) (he:∀ a∈l,p a=true->f (δ1 a)=.ok (g a)):bj n fit bd t f δ=.ok ((l.filter p).map g):=by
 have key:∀ l:List α,(∀ a∈l,bd (h a) (nD δ++List.replicate n none)=some (δ1 a))->(∀ a∈l,t (δ1 a)=.ok (p a))->(∀ a∈l,p a=true->f (δ1 a)=.ok (g a))->kQ n bd t f (nD δ) (l.map h)=.ok ((l.filter p).map g):=by
  intro l
  induction l with
  | nil=>intro _ _ _;rfl
  | cons a l ih =>
   intro hb ht he
   have i:=ih (λ b hb'=>hb b (List.mem_cons_of_mem _ hb')) (λ b hb'=>ht b (List.mem_cons_of_mem _ hb')) (λ b hb'=>he b (List.mem_cons_of_mem _ hb'))
   rw [List.map_cons,kQ,hb a List.mem_cons_self]
   simp only
   rw [ht a List.mem_cons_self,R.bind_ok,List.filter_cons]
   cases c:p a with
   | true =>
    rw [if_pos rfl,he a List.mem_cons_self c,R.bind_ok,i]
    rfl
   | false=>simpa using i
 unfold bj
 rw [hf,R.bind_ok,if_pos (by rw [List.length_map];exact hl),key l hb ht he]
 rfl
theorem oE {α:Type} {l:List α} {h:α->D} {g:α->D} {δ1:α->Ev} {n:Nat} {bd:D->Ev->Option Ev} {f:Ev->R D} {fit:Ev->R (List D)} {δ:Ev} (hf:fit δ=.ok (l.map h)) (hl:l.length <= 1000000)
  (hb:∀ a∈l,bd (h a) (nD δ++List.replicate n none)=some (δ1 a)) (he:∀ a∈l,f (δ1 a)=.ok (g a)):bj n fit bd (λ _=>.ok true) f δ=.ok (l.map g):=by
 have:=nL (p:=λ _=>true) (t:=λ _=>.ok true) hf hl hb (λ _ _=>rfl) (λ a ha _=>he a ha)
 rw [List.filter_eq_self.mpr (by simp)] at this
 exact this
theorem iN {α:Type} {l:List α} {h:α->D} {g:α->D} {n:Nat} {f:Ev->R D} {fit:Ev->R (List D)} {δ:Ev} (hf:fit δ=.ok (l.map h)) (hl:l.length <= 1000000) (he:∀ a∈l,f (nD δ++[some (.sh (h a))])=.ok (g a)) (hδ:δ.length=n:=by rfl):bj 1 fit (bN n) (λ _=>.ok true) f δ=.ok (l.map g):=
 oE (δ1:=λ a=>nD δ++[some (.sh (h a))]) hf hl (λ a _=>by
  have:(nD δ).length=n:=by rw [<- hδ];simp [nD]
  show some ((nD δ++[none]).set n (some (.sh (h a))))=_
  rw [<- this,List.set_append_right _ _ (Nat.le_refl _)]
  simp) he
noncomputable def Ld (g:Int) (s:List Int) (d:Int):Bool:=match s.getLast? with
 | none=>true
 | some l=>decide (l <= d) && decide (d <= l + g)
noncomputable def zU (g:Int) (found:List (List Int)) (row:List Int):List (List Int):=found.flatMap λ s=>(row.filter (Ld g s)).map λ d=>s++[d]
noncomputable def ED (g:Int) (rows:List (List Int)):List (List Int):=rows.foldl (zU g) [[]]
theorem Bp {g:Int} {fo:List (List Int)} {row t:List Int}:t∈zU g fo row ↔ ∃ s∈fo,∃ d∈row,Ld g s d=true/\t=s++[d]:=by
 unfold zU
 simp only [List.mem_flatMap,List.mem_map,List.mem_filter]
 constructor
 ·rintro ⟨s,hs,d,⟨hd,hk⟩,rfl⟩
  exact ⟨s,hs,d,hd,hk,rfl⟩
 ·rintro ⟨s,hs,d,hd,hk,rfl⟩
  exact ⟨s,hs,d,⟨hd,hk⟩,rfl⟩
theorem As (g:Int) (rows:List (List Int)) (r:List Int):ED g (rows++[r])=zU g (ED g rows) r:=by simp [ED]
noncomputable def Cn (g:Int):Option Int->List (List Int)->List Int->Prop
 | _,[],t=>t=[]
 | o,r :: rs,t=>∃ d u,t=d :: u/\d∈r/\(∀ a,o=some a->a <= d/\d <= a + g)/\Cn g (some d) rs u
noncomputable def lV (g:Int) (told:List (List Int)) (r:List Int):List (List Int):=match told.getLast? with
 | none=>told++[r]
 | some a=>told++[bhd a r g]
noncomputable def kP (g:Int) (told:List (List Int)) (r:List Int):List (List Int):=match told.getLast? with
 | none=>told++[r]
 | some b=>told++[ahd r b g]
noncomputable def iQ (g:Int) (rows:List (List Int)):List (List Int):=rows.foldl (lV g) []
noncomputable def pH (g:Int) (rows:List (List Int)):List (List Int):=(rows.reverse.foldl (kP g) []).reverse
structure Okr (r:List Int):Prop where
 up:Up r
 len:r.length < 1000
theorem Cd {g:Int} {told:List (List Int)} {r:List Int} (h:∀ a∈told,Okr a) (hr:Okr r):∀ a∈lV g told r,Okr a:=by
 intro a ha
 unfold lV at ha
 split at ha
 ·rcases List.mem_append.mp ha with z | z
  ·exact h a z
  ·rw [List.mem_singleton.mp z];exact hr
 ·rename_i b _
  rcases List.mem_append.mp ha with z | z
  ·exact h a z
  ·rw [List.mem_singleton.mp z]
   exact ⟨hr.up.bhd,Nat.lt_of_le_of_lt (zy b r g) hr.len⟩
theorem BO {g:Int} {told:List (List Int)} {r:List Int} (h:∀ a∈told,Okr a) (hr:Okr r):∀ a∈kP g told r,Okr a:=by
 intro a ha
 unfold kP at ha
 split at ha
 ·rcases List.mem_append.mp ha with z | z
  ·exact h a z
  ·rw [List.mem_singleton.mp z];exact hr
 ·rename_i b _
  rcases List.mem_append.mp ha with z | z
  ·exact h a z
  ·rw [List.mem_singleton.mp z]
   exact ⟨hr.up.ahd,Nat.lt_of_le_of_lt (zx r b g) hr.len⟩
theorem Ar (g:Int) (told:List (List Int)) (r:List Int):(lV g told r).length=told.length + 1:=by unfold lV;split <;> simp
theorem z8 (g:Int) (told:List (List Int)) (r:List Int):(kP g told r).length=told.length + 1:=by unfold kP;split <;> simp
theorem wE {g:Int}:∀ {rows told:List (List Int)},(∀ a∈told,Okr a)->(∀ r∈rows,Okr r)->∀ a∈rows.foldl (lV g) told,Okr a
 | [],told,h,_=>h
 | r :: rows,told,h,hr=>by
  rw [List.foldl_cons]
  exact wE (Cd h (hr r List.mem_cons_self)) λ x hx=>hr x (List.mem_cons_of_mem _ hx)
theorem qJ {g:Int}:∀ {rows told:List (List Int)},(∀ a∈told,Okr a)->(∀ r∈rows,Okr r)->∀ a∈rows.foldl (kP g) told,Okr a
 | [],told,h,_=>h
 | r :: rows,told,h,hr=>by
  rw [List.foldl_cons]
  exact qJ (BO h (hr r List.mem_cons_self)) λ x hx=>hr x (List.mem_cons_of_mem _ hx)
theorem tf {g:Int}:∀ (rows told:List (List Int)),(rows.foldl (lV g) told).length=told.length + rows.length
 | [],told=>rfl
 | r :: rows,told=>by rw [List.foldl_cons,tf rows,Ar,List.length_cons];omega
theorem oD {g:Int}:∀ (rows told:List (List Int)),(rows.foldl (kP g) told).length=told.length + rows.length
 | [],told=>rfl
 | r :: rows,told=>by rw [List.foldl_cons,oD rows,z8,List.length_cons];omega
theorem oO {g:Int} {rows:List (List Int)} (h:∀ r∈rows,Okr r):∀ a∈iQ g rows,Okr a:=wE (by simp) h
theorem BJ {g:Int} {rows:List (List Int)} (h:∀ r∈rows,Okr r):∀ a∈pH g rows,Okr a:=λ a ha=>qJ (by simp) (λ r hr=>h r (List.mem_reverse.mp hr)) a (List.mem_reverse.mp ha)
theorem m8 (g:Int) (rows:List (List Int)):(iQ g rows).length=rows.length:=by have:=tf (g:=g) rows [];simpa [iQ] using this
theorem zY (g:Int) (rows:List (List Int)):(pH g rows).length=rows.length:=by have:=oD (g:=g) rows.reverse [];simpa [pH] using this
theorem Ap {rows g:D} {gi:Int} (hg:g=.int gi) {told:List (List Int)} {r:List Int} (ht:∀ a∈told,Okr a) (hr:Okr r) (hl:told.length < 1000) :
  eB [some (.sh rows),some (.sh g),some (.ow (told.map ag)),some (.sh (ag r))]=.next [some (.sh rows),some (.sh g),some (.ow ((lV gi told r).map ag)),some (.sh (ag r))]:=by
 subst hg
 have hl':(told.map ag).length < 1000000:=by rw [List.length_map];omega
 have e0:kg (.lst (told.map ag)) (.lst [])=.ok told.isEmpty:=eJ told
 unfold eB
 rcases List.eq_nil_or_concat told with rfl | ⟨p,a,rfl⟩
 ·rw [bQ (by simp_arith [e0,List.isEmpty_nil])]
  rw [bZ (d:=ag r) (by simp_arith []) rfl hl']
  rfl
 ·rw [List.concat_eq_append] at *
  have e1:bP (.lst ((p++[a]).map ag)) (.int (-1))=.ok (ag a):=fX (by simp)
  have ha:=ht a (by simp)
  have e2:=su (g:=gi) ha.up hr.up ha.len (by have:=hr.len;omega)
  have e3:(p++[a]).isEmpty=false:=by simp
  rw [bx (by simp_arith [e0,e3])]
  rw [bZ (d:=ag (bhd a r gi)) (by simp_arith [e1,e2]) rfl hl']
  simp [lV]
theorem zq {rows:List (List Int)} {g:Int} (h:∀ r∈rows,Okr r) (hn:rows.length < 1000):cg [ae rows,.int g]=.ok ((iQ g rows).map ag):=by
 unfold cg jk
 rw [aE (δ':=[some (.sh (ae rows)),some (.sh (.int g)),some (.ow ([])),none]) (by simp [lD,av,lim])]
 obtain ⟨δ',e,x3,h3⟩:=iW (f:=ag) (l:=rows) (i:=3) (fit:=λ δ=>((ac 0) δ).bind aV) (F:=eB) (δ:=[some (.sh (ae rows)),some (.sh (.int g)),some (.ow ([])),none])
  (λ k δ=>∃ x3:Option Sl,δ=[some (.sh (ae rows)),some (.sh (.int g)),some (.ow ((iQ g (rows.take k)).map ag)),x3]) (by simp) ⟨none,by simp [iQ]⟩ (by
   rintro k r δ hk ⟨x3,rfl⟩
   have hkl:=(List.getElem?_eq_some_iff.mp hk).1
   have hm:r∈rows:=List.mem_of_getElem? hk
   refine ⟨_,.inl (Ap rfl (oO λ a ha=>h a (List.mem_of_mem_take ha)) (h r hm) (by rw [m8,List.length_take];omega)),some (.sh (ag r)),?_⟩
   rw [List.take_add_one,hk]
   simp [iQ])
 unfold gg iI
 rw [aE e,h3,List.take_length]
 simp [gh,gP,l4]
theorem Cc {rows:List (List Int)} {g:Int} (h:∀ r∈rows,Okr r) (hn:rows.length < 1000):eE [ae rows,.int g]=.ok (ae (iQ g rows)):=tD (zq h hn)
theorem BK {rows g:D} {gi:Int} (hg:g=.int gi) {told:List (List Int)} {r:List Int} (ht:∀ a∈told,Okr a) (hr:Okr r) (hl:told.length < 1000) :
  fO [some (.sh rows),some (.sh g),some (.ow (told.map ag)),some (.sh (ag r))]=.next [some (.sh rows),some (.sh g),some (.ow ((kP gi told r).map ag)),some (.sh (ag r))]:=by
 subst hg
 have hl':(told.map ag).length < 1000000:=by rw [List.length_map];omega
 have e0:kg (.lst (told.map ag)) (.lst [])=.ok told.isEmpty:=eJ told
 unfold fO
 rcases List.eq_nil_or_concat told with rfl | ⟨p,a,rfl⟩
 ·rw [bQ (by simp_arith [e0,List.isEmpty_nil])]
  rw [bZ (d:=ag r) (by simp_arith []) rfl hl']
  rfl
 ·rw [List.concat_eq_append] at *
  have e1:bP (.lst ((p++[a]).map ag)) (.int (-1))=.ok (ag a):=fX (by simp)
  have ha:=ht a (by simp)
  have e2:=uI (g:=gi) hr.up ha.up ha.len (by have:=hr.len;omega)
  have e3:(p++[a]).isEmpty=false:=by simp
  rw [bx (by simp_arith [e0,e3])]
  rw [bZ (d:=ag (ahd r a gi)) (by simp_arith [e1,e2]) rfl hl']
  simp [kP]
theorem BL {rows:List (List Int)} {g:Int} (h:∀ r∈rows,Okr r) (hn:rows.length < 1000):bI [ae rows,.int g]=.ok ((pH g rows).map ag):=by
 unfold bI kh
 rw [aE (δ':=[some (.sh (ae rows)),some (.sh (.int g)),some (.ow ([])),none]) (by simp [mz,av,lim])]
 obtain ⟨δ',e,x3,h3⟩:=iW (f:=ag) (l:=rows.reverse) (i:=3) (fit:=λ δ=>((ac 0) δ).bind vI) (F:=fO) (δ:=[some (.sh (ae rows)),some (.sh (.int g)),some (.ow ([])),none])
  (λ k δ=>∃ x3:Option Sl,δ=[some (.sh (ae rows)),some (.sh (.int g)),some (.ow (((rows.reverse.take k).foldl (kP g) []).map ag)),x3]) (by simp) ⟨none,by simp⟩ (by
   rintro k r δ hk ⟨x3,rfl⟩
   have hkl:=(List.getElem?_eq_some_iff.mp hk).1
   have hm:r∈rows:=List.mem_reverse.mp (List.mem_of_getElem? hk)
   refine ⟨_,.inl (BK rfl (qJ (by simp) λ a ha=>h a (List.mem_reverse.mp (List.mem_of_mem_take ha))) (h r hm) (by rw [oD,List.length_take];simp at hkl ⊢;omega)),some (.sh (ag r)),?_⟩
   rw [List.take_add_one,hk]
   simp)
 unfold hU jz
 rw [aE e,h3,List.take_length]
 simp [hV,jA,hZ,gP,l4,aX,pH]
noncomputable def sv (g:Int):Option (List Int)->List (List Int)->List (List Int)
 | _,[]=>[]
 | none,r :: rs=>r :: sv g (some r) rs
 | some a,r :: rs=>bhd a r g :: sv g (some (bhd a r g)) rs
noncomputable def xV (g:Int):List (List Int)->List (List Int)
 | []=>[]
 | r :: rs=>match xV g rs with
  | []=>[r]
  | b :: bs=>ahd r b g :: b :: bs
theorem wF {g:Int}:∀ (rs told:List (List Int)),rs.foldl (lV g) told=told++sv g told.getLast? rs
 | [],told=>by simp [sv]
 | r :: rs,told=>by
  rw [List.foldl_cons,wF rs]
  unfold lV
  cases h:told.getLast? with
  | none=>simp [sv]
  | some a=>simp [sv]
theorem Ao (g:Int) (rs:List (List Int)):iQ g rs=sv g none rs:=by
 unfold iQ
 rw [wF]
 rfl
theorem v7 (g:Int):∀ rs:List (List Int),pH g rs=xV g rs
 | []=>rfl
 | r :: rs=>by
  have ih:=v7 g rs
  unfold pH at ih ⊢
  rw [List.reverse_cons,List.foldl_append,List.foldl_cons,List.foldl_nil]
  rw [xV,<- ih]
  generalize rs.reverse.foldl (kP g) []=T
  rcases List.eq_nil_or_concat T with rfl | ⟨p,a,rfl⟩
  ·rfl
  ·rw [List.concat_eq_append]
   simp [kP]
noncomputable def b4 (g:Int) (rs:List (List Int)):List (List Int):=xV g (sv g none rs)
theorem qq (g:Int):∀ (o:Option (List Int)) (rs:List (List Int)),(sv g o rs).length=rs.length
 | _,[]=>by simp [sv]
 | none,r :: rs=>by simp [sv,qq g (some r) rs]
 | some a,r :: rs=>by simp [sv,qq g (some (bhd a r g)) rs]
theorem uu (g:Int):∀ rs:List (List Int),(xV g rs).length=rs.length
 | []=>rfl
 | r :: rs=>by
  have ih:=uu g rs
  unfold xV
  cases h:xV g rs with
  | nil=>rw [h] at ih;simp [← ih]
  | cons b bs=>rw [h] at ih;simpa using ih
theorem fY (g:Int) (rs:List (List Int)):(b4 g rs).length=rs.length:=by unfold b4;rw [uu,qq]
theorem uM {P:List Int->Prop} (hP:∀ r p,P r->P (r.filter p)) {g:Int}:∀ (o:Option (List Int)) (rs:List (List Int)),(∀ r∈rs,P r)->∀ a∈sv g o rs,P a
 | _,[],_,a,ha=>by simp [sv] at ha
 | none,r :: rs,h,a,ha=>by
  unfold sv at ha
  rcases List.mem_cons.mp ha with rfl | ha
  ·exact h _ List.mem_cons_self
  ·exact uM hP _ rs (λ x hx=>h x (List.mem_cons_of_mem _ hx)) a ha
 | some b,r :: rs,h,a,ha=>by
  unfold sv at ha
  rcases List.mem_cons.mp ha with rfl | ha
  ·exact hP _ _ (h _ List.mem_cons_self)
  ·exact uM hP _ rs (λ x hx=>h x (List.mem_cons_of_mem _ hx)) a ha
theorem zm {P:List Int->Prop} (hP:∀ r p,P r->P (r.filter p)) {g:Int}:∀ (rs:List (List Int)),(∀ r∈rs,P r)->∀ a∈xV g rs,P a
 | [],_,a,ha=>by simp [xV] at ha
 | r :: rs,h,a,ha=>by
  have ih:=zm hP (g:=g) rs (λ x hx=>h x (List.mem_cons_of_mem _ hx))
  unfold xV at ha
  cases e:xV g rs with
  | nil =>
   rw [e] at ha
   have:a=r:=by simpa using ha
   exact this ▸ h r List.mem_cons_self
  | cons b bs =>
   rw [e] at ha ih
   rcases List.mem_cons.mp ha with rfl | ha
   ·exact hP _ _ (h _ List.mem_cons_self)
   ·exact ih a ha
theorem xh {P:List Int->Prop} (hP:∀ r p,P r->P (r.filter p)) {g:Int} {rs:List (List Int)} (h:∀ r∈rs,P r):∀ a∈b4 g rs,P a:=zm hP _ (uM hP _ _ h)
noncomputable def Ks (g:Int):Option (List Int)->List (List Int)->List Int->Prop
 | none,rs,t=>Cn g none rs t
 | some a,rs,t=>∃ x∈a,Cn g (some x) rs t
noncomputable def FO (g:Int) (o:Option (List Int)) (r:List Int):List Int:=match o with
 | none=>r
 | some a=>bhd a r g
theorem B6 (g:Int) (o:Option (List Int)) (r:List Int) (rs:List (List Int)):sv g o (r :: rs)=FO g o r :: sv g (some (FO g o r)) rs:=by
 cases o <;> rfl
theorem jN {g:Int} {o:Option (List Int)} {r:List Int} {rs:List (List Int)} {t:List Int}:Ks g o (r :: rs) t ↔ ∃ d u,t=d :: u/\d∈FO g o r/\Cn g (some d) rs u:=by
 cases o with
 | none =>
  unfold Ks FO
  dsimp only
  constructor
  ·rintro ⟨d,u,e,h1,_,h3⟩;exact ⟨d,u,e,h1,h3⟩
  ·rintro ⟨d,u,e,h1,h3⟩;exact ⟨d,u,e,h1,by simp,h3⟩
 | some a =>
  unfold Ks FO
  dsimp only
  constructor
  ·rintro ⟨x,hx,d,u,e,h1,h2,h3⟩;exact ⟨d,u,e,zD.mpr ⟨h1,x,hx,h2 x rfl⟩,h3⟩
  ·rintro ⟨d,u,e,h1,h3⟩
   obtain ⟨h1,x,hx,h2⟩:=zD.mp h1
   exact ⟨x,hx,d,u,e,h1,λ a e=>by cases e;exact h2,h3⟩
theorem Jo {g x d:Int} {r:List Int} {rs:List (List Int)} {y:Int} {u:List Int} (h:Cn g (some x) (r :: rs) (y :: u)) (hd:d <= y/\y <= d + g):Cn g (some d) (r :: rs) (y :: u):=by
 obtain ⟨z,v,e,h1,_,h3⟩:=h
 cases e
 exact ⟨_,_,rfl,h1,λ a e=>by cases e;exact hd,h3⟩
theorem xi {g:Int}:∀ (rs:List (List Int)) (o:Option (List Int)) (k:Nat) (d:Int),k < rs.length->(d∈(xV g (sv g o rs)).getD k [] ↔ ∃ t,Ks g o rs t/\t[k]?=some d)
 | [],_,_,_,h=>by cases h
 | r :: rs,o,k,d,hk=>by
  have ih:=xi (g:=g) rs (some (FO g o r))
  rw [B6]
  have hlen:(xV g (sv g (some (FO g o r)) rs)).length=rs.length:=by rw [uu,qq]
  generalize hf:FO g o r=f at *
  generalize hR:sv g (some f) rs=R at *
  unfold xV
  cases e:xV g R with
  | nil =>
   rw [e] at hlen
   have hrs:rs=[]:=by simpa using hlen.symm
   subst hrs
   have hk0:k=0:=by simpa using hk
   subst hk0
   simp only [List.getD_cons_zero]
   constructor
   ·intro hd;exact ⟨[d],jN.mpr ⟨d,[],rfl,hf ▸ hd,rfl⟩,rfl⟩
   ·rintro ⟨t,ht,h2⟩
    obtain ⟨d',u,rfl,h3,_⟩:=jN.mp ht
    cases h2
    exact hf ▸ h3
  | cons b bs =>
   rw [e] at hlen ih
   obtain ⟨r',rs',rfl⟩:∃ r' rs',rs=r' :: rs':=by
    cases rs with
    | nil=>cases hlen
    | cons r' rs'=>exact ⟨r',rs',rfl⟩
   cases k with
   | zero =>
    simp only [List.getD_cons_zero]
    rw [EN]
    have ih0:=λ y=>ih 0 y (by simp)
    simp only [List.getD_cons_zero] at ih0
    constructor
    ·rintro ⟨h1,y,hy,h2⟩
     obtain ⟨t,⟨x,hx,hc⟩,h4⟩:=(ih0 y).mp hy
     cases t with
     | nil=>cases h4
     | cons z u =>
      cases h4
      exact ⟨d :: y :: u,jN.mpr ⟨d,_,rfl,hf ▸ h1,Jo hc h2⟩,rfl⟩
    ·rintro ⟨t,ht,h2⟩
     obtain ⟨d',u,rfl,h3,h4⟩:=jN.mp ht
     cases h2
     rw [hf] at h3
     obtain ⟨y,v,rfl,h5,h6,h7⟩:=id h4
     exact ⟨h3,y,(ih0 y).mpr ⟨y :: v,⟨d,h3,h4⟩,rfl⟩,h6 d rfl⟩
   | succ k =>
    simp only [List.getD_cons_succ]
    rw [ih k d (by simpa using hk)]
    constructor
    ·rintro ⟨t,⟨x,hx,hc⟩,h2⟩
     exact ⟨x :: t,jN.mpr ⟨x,t,rfl,hf ▸ hx,hc⟩,by simpa using h2⟩
    ·rintro ⟨t,ht,h2⟩
     obtain ⟨x,u,rfl,h3,h4⟩:=jN.mp ht
     exact ⟨u,⟨x,hf ▸ h3,h4⟩,by simpa using h2⟩
theorem jX {g:Int} {rs:List (List Int)} {k:Nat} {d:Int} (hk:k < rs.length):d∈(b4 g rs).getD k [] ↔ ∃ t,Cn g none rs t/\t[k]?=some d:=xi rs none k d hk
theorem pq {g:Int}:∀ {rs:List (List Int)} {o:Option Int} {t:List Int},Cn g o rs t->t.length=rs.length/\(∀ (k:Nat) r d,rs[k]?=some r->t[k]?=some d->d∈r)/\(∀ (k:Nat) x y,t[k]?=some x->t[k + 1]?=some y->x <= y/\y <= x + g)
 | [],_,t,h=>by
  have:t=[]:=h
  subst this
  exact ⟨rfl,by simp,by simp⟩
 | r :: rs,o,t,h=>by
  obtain ⟨d,u,rfl,h1,_,h3⟩:=h
  obtain ⟨i1,i2,i3⟩:=pq h3
  refine ⟨by simp [i1],λ k r' d' hr hd=>?_,λ k x y hx hy=>?_⟩
  ·cases k with
   | zero=>cases hr;cases hd;exact h1
   | succ k=>exact i2 k r' d' (by simpa using hr) (by simpa using hd)
  ·cases k with
   | zero =>
    cases hx
    cases rs with
    | nil =>
     have:u=[]:=h3
     subst this
     cases hy
    | cons r' rs =>
     obtain ⟨y',v,rfl,_,h5,_⟩:=h3
     cases hy
     exact h5 d rfl
   | succ k=>exact i3 k x y (by simpa using hx) (by simpa using hy)
theorem nH {g:Int}:∀ {rs:List (List Int)} {o:Option Int} {t:List Int},t.length=rs.length->(∀ (k:Nat) r d,rs[k]?=some r->t[k]?=some d->d∈r)->(∀ (k:Nat) x y,t[k]?=some x->t[k + 1]?=some y->x <= y/\y <= x + g)->(∀ a d,o=some a->t[0]?=some d->a <= d/\d <= a + g)->Cn g o rs t
 | [],_,t,h,_,_,_=>by
  have:t=[]:=by simpa using h
  exact this
 | r :: rs,o,t,h,h2,h3,h4=>by
  cases t with
  | nil=>cases h
  | cons d u =>
   refine ⟨d,u,rfl,h2 0 r d rfl rfl,λ a e=>h4 a d e rfl,nH (by simpa using h) (λ k r' d' hr hd=>h2 (k + 1) r' d' (by simpa using hr) (by simpa using hd)) (λ k x y hx hy=>h3 (k + 1) x y (by simpa using hx) (by simpa using hy)) λ a e ha he=>?_⟩
   cases ha
   exact h3 0 d e rfl (by simpa using he)
theorem vV:∀ {a b:List Int},a.Pairwise (· < ·)->b.Pairwise (· < ·)->(∀ x,x∈a ↔ x∈b)->a=b
 | [],[],_,_,_=>rfl
 | [],y :: b,_,_,h=>by have:=(h y).mpr List.mem_cons_self;cases this
 | x :: a,[],_,_,h=>by have:=(h x).mp List.mem_cons_self;cases this
 | x :: a,y :: b,ha,hb,h=>by
  have ha':=List.pairwise_cons.mp ha
  have hb':=List.pairwise_cons.mp hb
  have e:x=y:=by
   have h1:=(h x).mp List.mem_cons_self
   have h2:=(h y).mpr List.mem_cons_self
   rcases List.mem_cons.mp h1 with h1 | h1
   ·exact h1
   ·rcases List.mem_cons.mp h2 with h2 | h2
    ·exact h2.symm
    ·have:=ha'.1 y h2
     have:=hb'.1 x h1
     omega
  subst e
  rw [vV ha'.2 hb'.2 λ z=>?_]
  constructor
  ·intro hz
   have hz':=(h z).mp (List.mem_cons_of_mem _ hz)
   rcases List.mem_cons.mp hz' with rfl | hz'
   ·have:=ha'.1 z hz;omega
   ·exact hz'
  ·intro hz
   have hz':=(h z).mpr (List.mem_cons_of_mem _ hz)
   rcases List.mem_cons.mp hz' with rfl | hz'
   ·have:=hb'.1 z hz;omega
   ·exact hz'
noncomputable def fE (p:List (List Int)):List Int:=p.map λ r=>r.headD 0
theorem F9 {r:List Int} (h:Up r) (hn:r ≠ []):r.headD 0∈r/\∀ x∈r,r.headD 0 <= x:=by
 cases r with
 | nil=>exact absurd rfl hn
 | cons a r =>
  refine ⟨List.mem_cons_self,λ x hx=>?_⟩
  rcases List.mem_cons.mp hx with rfl | hx
  ·exact Int.le_refl _
  ·exact (List.pairwise_cons.mp h).1 x hx
theorem fG {α:Type} {l:List α} {k:Nat} {x d:α} (h:l[k]?=some x):l.getD k d=x:=by rw [List.getD_eq_getElem?_getD,h];rfl
theorem Am {g:Int} {rs:List (List Int)} (hu:∀ r∈rs,Up r) (hn:[] ∉ b4 g rs):Cn g none rs (fE (b4 g rs)):=by
 have hup:∀ a∈b4 g rs,Up a:=xh (λ r p h=>List.Pairwise.filter p h) hu
 have hl:=fY g rs
 have key:∀ (k:Nat) d,(fE (b4 g rs))[k]?=some d->k < rs.length/\d∈(b4 g rs).getD k []/\∀ x∈(b4 g rs).getD k [],d <= x:=by
  intro k d h
  unfold fE at h
  rw [List.getElem?_map] at h
  cases e:(b4 g rs)[k]? with
  | none=>rw [e] at h;cases h
  | some p =>
   rw [e] at h
   have hd:d=p.headD 0:=by simpa using h.symm
   have hm:p∈b4 g rs:=List.mem_of_getElem? e
   have hp:p ≠ []:=λ z=>hn (z ▸ hm)
   have:=(List.getElem?_eq_some_iff.mp e).1
   rw [fG e,hd]
   exact ⟨by omega,F9 (hup p hm) hp⟩
 refine nH (by simp [fE,hl]) (λ k r d hr hd=>?_) (λ k x y hx hy=>?_) (by simp)
 ·obtain ⟨h1,h2,_⟩:=key k d hd
  obtain ⟨t,ht,h4⟩:=(jX h1).mp h2
  exact (pq ht).2.1 k r d hr h4
 ·obtain ⟨h1,h2,h3⟩:=key k x hx
  obtain ⟨k1,k2,k3⟩:=key (k + 1) y hy
  obtain ⟨t,ht,h4⟩:=(jX h1).mp h2
  obtain ⟨s,hs,k4⟩:=(jX k1).mp k2
  obtain ⟨t1,_,t3⟩:=pq ht
  obtain ⟨s1,_,s3⟩:=pq hs
  have a1:s[k]?=some s[k]:=List.getElem?_eq_getElem (by omega)
  have a2:=s3 k _ y a1 k4
  have a3:=h3 _ ((jX h1).mpr ⟨s,hs,a1⟩)
  have b1:t[k + 1]?=some t[k + 1]:=List.getElem?_eq_getElem (by omega)
  have b2:=t3 k x _ h4 b1
  have b3:=k3 _ ((jX k1).mpr ⟨t,ht,b1⟩)
  omega
theorem Fh {g:Int} {rs:List (List Int)} {t:List Int} (h:Cn g none rs t):[] ∉ b4 g rs:=by
 intro hm
 obtain ⟨k,hk,e⟩:=List.getElem_of_mem hm
 have hk':k < rs.length:=by rw [fY] at hk;exact hk
 have hl:=(pq h).1
 have a1:t[k]?=some t[k]:=List.getElem?_eq_getElem (by omega)
 have:=(jX hk').mpr ⟨t,h,a1⟩
 rw [fG (x:=[]) (by rw [List.getElem?_eq_getElem hk,e])] at this
 cases this
theorem GJ {g d:Int} {rs:List (List Int)} {k:Nat} {t:List Int} (hk:k < rs.length) (hd:d∈rs.getD k []):Cn g none (rs.set k [d]) t ↔ Cn g none rs t/\t[k]?=some d:=by
 constructor
 ·intro h
  obtain ⟨h1,h2,h3⟩:=pq h
  rw [List.length_set] at h1
  have a1:t[k]?=some t[k]:=List.getElem?_eq_getElem (by omega)
  have a2:t[k]=d:=by
   have:=h2 k [d] t[k] (by rw [List.getElem?_set_self hk]) a1
   simpa using this
  refine ⟨nH h1 (λ j r e hr he=>?_) h3 (by simp),by rw [a1,a2]⟩
  by_cases hj:k=j
  ·subst hj
   rw [a1,a2] at he
   cases he
   rwa [fG hr] at hd
  ·exact h2 j r e (by rw [List.getElem?_set_ne hj];exact hr) he
 ·rintro ⟨h,hk2⟩
  obtain ⟨h1,h2,h3⟩:=pq h
  refine nH (by rw [List.length_set];exact h1) (λ j r e hr he=>?_) h3 (by simp)
  by_cases hj:k=j
  ·subst hj
   rw [List.getElem?_set_self hk] at hr
   cases hr
   rw [hk2] at he
   cases he
   simp
  ·exact h2 j r e (by rw [List.getElem?_set_ne hj] at hr;exact hr) he
theorem rD {rows:List (List Int)} {g:Int} (h:∀ r∈rows,Okr r) (hn:rows.length < 1000):bD [ae rows,.int g]=.ok ((b4 g rows).map ag):=by
 have e1:=Cc (g:=g) h hn
 have e2:=BL (g:=g) (oO (g:=g) h) (by rw [m8];exact hn)
 unfold bD eY
 rw [show av 2 [ae rows,.int g]=[some (.sh (ae rows)),some (.sh (.int g))] from rfl]
 simp_arith [e1,e2]
 unfold b4 l4
 rw [v7,Ao]
theorem pQ {rows:List (List Int)} {g:Int} (h:∀ r∈rows,Okr r) (hn:rows.length < 1000):bA [ae rows,.int g]=.ok (ae (b4 g rows)):=tD (rD h hn)
theorem s0 (r:List Int):wB (ag r) (.lst [])=r.isEmpty:=by rw [qp];simp
theorem rj (p:List (List Int)):wW (.lst []) (ae p)=.ok (decide ([]∈p)):=by
 show (if nG (.lst []) && nG (ae p) then R.ok ((p.map ag).any λ e=>wB e (.lst [])) else .stuck)=_
 rw [show nG (.lst [])=true from kH [],w9]
 simp only [Bool.and_self,if_true]
 congr 1
 rw [Bool.eq_iff_iff,List.any_eq_true,decide_eq_true_eq]
 constructor
 ·rintro ⟨x,hx,e⟩
  obtain ⟨r,hr,rfl⟩:=List.mem_map.mp hx
  rw [s0] at e
  have:r=[]:=by simpa using e
  exact this ▸ hr
 ·intro h
  exact ⟨ag [],List.mem_map.mpr ⟨[],h,rfl⟩,by rw [s0];rfl⟩
theorem qU {rows:List (List Int)} {g:Int} (h:∀ r∈rows,Okr r) (hn:rows.length < 1000) (c:[] ∉ b4 g rows):bU [ae rows,.int g]=.ok ((fE (b4 g rows)).map D.int):=by
 have e1:=pQ (g:=g) h hn
 have e2:=rj (b4 g rows)
 rw [decide_eq_false c] at e2
 unfold bU k7
 rw [aE (δ':=[some (.sh (ae rows)),some (.sh (.int g)),some (.sh (ae (b4 g rows)))]) (by
  rw [show av 3 [ae rows,.int g]=[some (.sh (ae rows)),some (.sh (.int g)),none] from rfl]
  unfold kr
  simp_arith [e1])]
 unfold jh ku
 rw [aE (bx (by simp_arith [e2]))]
 unfold ji
 rw [iN (l:=b4 g rows) (h:=ag) (g:=λ r=>.int (r.headD 0)) rfl (by rw [fY];omega) (λ r hr=>by
  have hne:r ≠ []:=λ z=>c (z ▸ hr)
  cases r with
  | nil=>exact absurd rfl hne
  | cons a r =>
   have hix:bP (ag (a :: r)) (.int 0)=.ok (.int a):=b9 (k:=0) rfl
   show (m2 bP (ac 3) (mC (.int 0))) [some (.sh (ae rows)),some (.sh (.int g)),some (.sh (ae (b4 g rows))),some (.sh (ag (a :: r)))]=_
   simp_arith [hix]
   rfl)]
 simp [fE,l4]
noncomputable def wO (p:List (List Int)):List Int:=p.map λ r=>r.getLastD 0
theorem Cs {rows:List (List Int)} {g:Int} (h:∀ r∈rows,Okr r) (hn:rows.length < 1000) (c:[] ∉ b4 g rows):fH [ae rows,.int g]=.ok ((wO (b4 g rows)).map D.int):=by
 have e1:=pQ (g:=g) h hn
 have e2:=rj (b4 g rows)
 rw [decide_eq_false c] at e2
 unfold fH oA
 rw [aE (δ':=[some (.sh (ae rows)),some (.sh (.int g)),some (.sh (ae (b4 g rows)))]) (by
  rw [show av 3 [ae rows,.int g]=[some (.sh (ae rows)),some (.sh (.int g)),none] from rfl]
  unfold mQ
  simp_arith [e1])]
 unfold k8 mR
 rw [aE (bx (by simp_arith [e2]))]
 unfold k9
 rw [iN (l:=b4 g rows) (h:=ag) (g:=λ r=>.int (r.getLastD 0)) rfl (by rw [fY];omega) (λ r hr=>by
  have hne:r ≠ []:=λ z=>c (z ▸ hr)
  cases r with
  | nil=>exact absurd rfl hne
  | cons a r =>
   have hix:bP (ag (a :: r)) (.int (-1))=.ok (.int ((a :: r).getLastD 0)):=fX (by rw [List.getLast?_map];simp [List.getLastD_eq_getLast?,List.getLast?_cons])
   show (m2 bP (ac 3) (m1 nv (mC (.int 1)))) [some (.sh (ae rows)),some (.sh (.int g)),some (.sh (ae (b4 g rows))),some (.sh (ag (a :: r)))]=_
   simp_arith [hix])]
 simp [wO,l4]
theorem Bt {rows:List (List Int)} {g d:Int} {k:Nat} (h:∀ r∈rows,Okr r) (hn:rows.length < 1000) (hk:k < rows.length) (c:d∈rows.getD k []) (hc:[] ∉ b4 g (rows.set k [d])):ci [ae rows,.int g,.int (k:Int),.int d]=.ok ((fE (b4 g (rows.set k [d]))).map D.int):=by
 have hix:bP (ae rows) (.int (k:Int))=.ok (ag (rows.getD k [])):=nV (by rw [List.getD_eq_getElem?_getD];simp [hk])
 have hin:=w8 d (rows.getD k [])
 unfold ci mI lQ
 rw [show av 4 [ae rows,.int g,.int (k:Int),.int d]=[some (.sh (ae rows)),some (.sh (.int g)),some (.sh (.int k)),some (.sh (.int d))] from rfl]
 rw [decide_eq_true c] at hin
 rw [aE (bx (by simp_arith [hix,hin,Bool.not_true]))]
 have e0:rows.set k [d]=rows.take k++[[d]]++rows.drop (k + 1):=by rw [List.set_eq_take_append_cons_drop,if_pos hk];simp
 have e1:=qU (g:=g) (rows:=rows.set k [d]) (λ r hr=>by
  rcases List.mem_or_eq_of_mem_set hr with z | z
  ·exact h r z
  ·subst z;exact ⟨Up.one d,by simp⟩) (by rw [List.length_set];exact hn) hc
 have s1:CG (ae rows) none (some (k:Int))=.ok (ae (rows.take k)):=by
  show R.ok (D.lst (jS (rows.map ag) none (some (k:Int))))=_
  rw [Eo _ (by simp;omega),<- List.map_take]
 have s2:CG (ae rows) (some ((k:Int) + 1)) none=.ok (ae (rows.drop (k + 1))):=by
  show R.ok (D.lst (jS (rows.map ag) (some ((k:Int) + 1)) none))=_
  rw [show ((k:Int) + 1)=((k + 1:Nat):Int) by push_cast;rfl,sY _ (by simp;omega),<- List.map_drop]
 have c1:qc (ae (rows.take k)) (.lst [.lst [.int d]])=.ok (ae (rows.take k++[[d]])):=by
  rw [uS (by simp;omega)]
  simp [ae,ag]
 have c2:qc (ae (rows.take k++[[d]])) (ae (rows.drop (k + 1)))=.ok (ae (rows.set k [d])):=by
  rw [uS (by simp;omega),e0,<- List.map_append]
 unfold kj
 simp_arith [s1,s2,c1,c2,e1,l4]
noncomputable def kY (g:Int) (o:Option Int) (d:Int):Bool:=match o with
 | none=>true
 | some l=>decide (l <= d) && decide (d <= l + g)
noncomputable def Wo (g:Int):Option Int->List (List Int)->Int
 | _,[]=>1
 | o,r :: rs=>bC ((r.filter (kY g o)).map λ e=>Wo g (some e) rs)
noncomputable def BC (g:Int):List (List Int)->List (List Int)
 | []=>[]
 | r :: rs=>(r.map λ d=>Wo g (some d) rs) :: BC g rs
theorem F0 (c:List Int) (hl:c.length < 1000):cJ [ag c]=.ok (ag ((List.range (c.length + 1)).map λ k=>bC (c.take k))):=by
 unfold cJ ko
 rw [ah (δ':=[some (.sh (ag c)),some (.ow ([.int 0])),none]) (by simp [iJ,av,lim])]
 obtain ⟨δ',e,x2,h⟩:=iW (f:=D.int) (l:=c) (i:=2) (fit:=λ δ=>((ac 0) δ).bind aV) (F:=iz) (δ:=[some (.sh (ag c)),some (.ow ([.int 0])),none])
  (λ k δ=>∃ x2,δ=[some (.sh (ag c)),some (.ow (((List.range (k + 1)).map λ j=>bC (c.take j)).map D.int)),x2]) (by simp) ⟨none,by simp [bC]⟩ (by
   rintro k d δ hk ⟨x2,rfl⟩
   have hkl:=(List.getElem?_eq_some_iff.mp hk).1
   refine ⟨_,.inl ?_,some (.sh (.int d)),rfl⟩
   have hix:bP (.lst (((List.range (k + 1)).map λ j=>bC (c.take j)).map D.int)) (.int (-1))=.ok (.int (bC (c.take k))):=fX (by simp [List.range_succ])
   have ht:bC (c.take (k + 1))=bC (c.take k) + d:=by
    rw [List.take_add_one,hk,pS]
    simp [bC]
   unfold iz
   simp_arith [hix]
   rw [List.length_range,if_pos (by omega),List.range_succ (n:=k + 1)]
   simp [ht])
 unfold iq iK
 rw [ah e,h]
 simp [ir,lP,iY]
theorem pj {p:Int->Bool} (hp:∀ x y,x <= y->p y=true->p x=true):∀ {b:List Int},Up b->b.takeWhile p=b.filter p
 | [],_=>rfl
 | y :: b,h=>by
  have h2:=List.pairwise_cons.mp h
  rw [List.takeWhile_cons,List.filter_cons,pj hp h2.2]
  cases c:p y with
  | true=>rfl
  | false =>
   simp only [Bool.false_eq_true,if_false]
   symm
   rw [List.filter_eq_nil_iff]
   intro z hz c2
   rw [hp y z (h2.1 z hz) c2] at c
   cases c
theorem tM {g d:Int} (hg:0 <= g) (w:Int->Int):∀ b:List Int,bC ((b.filter λ y=>decide (y - d <= g)).map w) - bC ((b.filter λ y=>decide (y < d)).map w)=bC ((b.filter (kY g (some d))).map w)
 | []=>rfl
 | y :: b=>by
  have ih:=tM (d:=d) hg w b
  simp only [List.filter_cons]
  by_cases h1:y < d
  ·have h2:y - d <= g:=by omega
   have h3:kY g (some d) y=false:=by simp [kY];omega
   simp only [h1,h2,h3,decide_true,if_true,List.map_cons,bC,Bool.false_eq_true,if_false]
   omega
  ·by_cases h2:y - d <= g
   ·have h3:kY g (some d) y=true:=by simp [kY];omega
    simp only [h1,h2,h3,decide_true,decide_false,if_true,List.map_cons,bC,Bool.false_eq_true,if_false]
    omega
   ·have h3:kY g (some d) y=false:=by simp [kY];omega
    simp only [h1,h2,h3,decide_true,decide_false,if_true,List.map_cons,bC,Bool.false_eq_true,if_false]
    exact ih
theorem Em {r b:List Int} {g d:Int} {w:Int->Int} {x8:Option Sl} {tl:List Int} {s e:Nat} (hg:0 <= g) (hb:Up b) (hl:b.length < 1000) (ht:tl.length < 1000000)
  (hs:s <= b.length) (he:e <= b.length) (h1:∀ y∈b.take s,y < d) (h2:∀ y∈b.take e,y - d <= g) :
  dC [some (.sh (ag r)),some (.sh (ag b)),some (.sh (ag (b.map w))),some (.sh (.int g)),some (.sh (ag ((List.range ((b.map w).length + 1)).map λ k=>bC ((b.map w).take k)))),some (.ow (tl.map D.int)),some (.sh (.int s)),some (.sh (.int e)),some (.sh (.int d))]
   = .next [some (.sh (ag r)),some (.sh (ag b)),some (.sh (ag (b.map w))),some (.sh (.int g)),some (.sh (ag ((List.range ((b.map w).length + 1)).map λ k=>bC ((b.map w).take k)))),some (.ow ((tl++[bC ((b.filter (kY g (some d))).map w)]).map D.int)),some (.sh (.int (((b.takeWhile λ y=>decide (y < d)).length:Int)))),some (.sh (.int (((b.takeWhile λ y=>decide (y - d <= g)).length:Int)))),some (.sh (.int d))]:=by
 generalize hS:ag ((List.range ((b.map w).length + 1)).map λ k=>bC ((b.map w).take k))=S
 have w1:=pk (t:=gT (bY qd (ac 6) (m1 cj (ac 1))) (bY qd (m2 bP (ac 1) (ac 6)) (ac 8))) (F:=fu) (p:=λ y=>decide (y < d)) (λ k=>[some (.sh (ag r)),some (.sh (ag b)),some (.sh (ag (b.map w))),some (.sh (.int g)),some (.sh S),some (.ow (tl.map D.int)),some (.sh (.int k)),some (.sh (.int e)),some (.sh (.int d))]) b (λ k hk=>by
  by_cases c:k < b.length
  ·have hix:bP (ag b) (.int (k:Int))=.ok (.int b[k]):=b9 (by simp [c])
   have c':(k:Int) < (b.length:Int):=by omega
   simp_arith [hix,c',List.getElem?_eq_getElem c]
  ·have c':¬ (k:Int) < (b.length:Int):=by omega
   simp_arith [c',List.getElem?_eq_none (Nat.le_of_not_lt c)]) (λ k=>by simp [fu,nE]) 1000 s hs (by omega)
 rw [rF hs (by simpa using h1)] at w1
 have w2:=pk (t:=gT (bY qd (ac 7) (m1 cj (ac 1))) (bY xR (m2 kX (m2 bP (ac 1) (ac 7)) (ac 8)) (ac 3))) (F:=fv) (p:=λ y=>decide (y - d <= g)) (λ k=>[some (.sh (ag r)),some (.sh (ag b)),some (.sh (ag (b.map w))),some (.sh (.int g)),some (.sh S),some (.ow (tl.map D.int)),some (.sh (.int (((b.takeWhile λ y=>decide (y < d)).length:Int)))),some (.sh (.int k)),some (.sh (.int d))]) b (λ k hk=>by
  by_cases c:k < b.length
  ·have hix:bP (ag b) (.int (k:Int))=.ok (.int b[k]):=b9 (by simp [c])
   have c':(k:Int) < (b.length:Int):=by omega
   simp_arith [hix,c',List.getElem?_eq_getElem c]
  ·have c':¬ (k:Int) < (b.length:Int):=by omega
   simp_arith [c',List.getElem?_eq_none (Nat.le_of_not_lt c)]) (λ k=>by simp [fv,nE]) 1000 e he (by omega)
 rw [rF he (by simpa using h2)] at w2
 have t1:(b.takeWhile λ y=>decide (y < d)).length <= b.length:=(List.takeWhile_sublist _).length_le
 have t2:(b.takeWhile λ y=>decide (y - d <= g)).length <= b.length:=(List.takeWhile_sublist _).length_le
 have i1:bP S (.int ((b.takeWhile λ y=>decide (y < d)).length:Int))=.ok (.int (bC ((b.filter λ y=>decide (y < d)).map w))):=by
  rw [<- hS]
  refine b9 ?_
  rw [List.getElem?_map,List.getElem?_range (by simp;omega),Option.map_some,<- List.map_take,dB,pj (λ x y h c=>by simp at c ⊢;omega) hb]
 have i2:bP S (.int ((b.takeWhile λ y=>decide (y - d <= g)).length:Int))=.ok (.int (bC ((b.filter λ y=>decide (y - d <= g)).map w))):=by
  rw [<- hS]
  refine b9 ?_
  rw [List.getElem?_map,List.getElem?_range (by simp;omega),Option.map_some,<- List.map_take,dB,pj (λ x y h c=>by simp at c ⊢;omega) hb]
 unfold dC
 rw [ah w1,ah w2]
 simp_arith [i1,i2]
 rw [if_pos ht,tM hg]
 simp
theorem pY {r b:List Int} {g:Int} (w:Int->Int) (hg:0 <= g) (hr:Up r) (hb:Up b) (hl:b.length < 1000) (hrl:r.length < 1000000) :
  cw [ag r,ag b,ag (b.map w),.int g]=.ok (ag (r.map λ d=>bC ((b.filter (kY g (some d))).map w))):=by
 unfold cw ip
 generalize hS:ag ((List.range ((b.map w).length + 1)).map λ k=>bC ((b.map w).take k))=S
 have hsum:cJ [ag (b.map w)]=.ok S:=by rw [<- hS];exact F0 _ (by simpa using hl)
 rw [ah (δ':=[some (.sh (ag r)),some (.sh (ag b)),some (.sh (ag (b.map w))),some (.sh (.int g)),some (.sh S),none,none,none,none]) (by
  simp only [fw,av]
  simp only [mZ,gR,gS,bL,kA]
  simp [hsum])]
 unfold fe
 rw [ah (δ':=[some (.sh (ag r)),some (.sh (ag b)),some (.sh (ag (b.map w))),some (.sh (.int g)),some (.sh S),some (.ow ([])),none,none,none]) (by simp [fA,lim])]
 unfold ff
 rw [ah (δ':=[some (.sh (ag r)),some (.sh (ag b)),some (.sh (ag (b.map w))),some (.sh (.int g)),some (.sh S),some (.ow ([])),some (.sh (.int 0)),none,none]) (by simp [fB])]
 unfold fg
 rw [ah (δ':=[some (.sh (ag r)),some (.sh (ag b)),some (.sh (ag (b.map w))),some (.sh (.int g)),some (.sh S),some (.ow ([])),some (.sh (.int 0)),some (.sh (.int 0)),none]) (by simp [fC])]
 obtain ⟨δ',e,s,e',x8,_,_,_,_,h⟩:=iW (f:=D.int) (l:=r) (i:=8) (fit:=λ δ=>((ac 0) δ).bind aV) (F:=dC) (δ:=[some (.sh (ag r)),some (.sh (ag b)),some (.sh (ag (b.map w))),some (.sh (.int g)),some (.sh S),some (.ow ([])),some (.sh (.int 0)),some (.sh (.int 0)),none])
  (λ k δ=>∃ (s e:Nat) (x8:Option Sl),s <= b.length/\e <= b.length/\(∀ y∈b.take s,∀ z∈r.drop k,y < z)/\(∀ y∈b.take e,∀ z∈r.drop k,y - z <= g)/\δ=[some (.sh (ag r)),some (.sh (ag b)),some (.sh (ag (b.map w))),some (.sh (.int g)),some (.sh S),some (.ow (((r.take k).map λ d=>bC ((b.filter (kY g (some d))).map w)).map D.int)),some (.sh (.int s)),some (.sh (.int e)),x8])
  (by simp) ⟨0,0,none,by omega,by omega,by simp,by simp,by simp⟩ (by
   rintro k d δ hk ⟨s,e,x8,h1,h2,h3,h4,rfl⟩
   have hkl:=(List.getElem?_eq_some_iff.mp hk).1
   have hdk:d∈r.drop k:=by
    rw [List.drop_eq_getElem_cons hkl,(List.getElem?_eq_some_iff.mp hk).2]
    exact List.mem_cons_self
   have ht:=Em (r:=r) (x8:=x8) (w:=w) (tl:=(r.take k).map λ d=>bC ((b.filter (kY g (some d))).map w)) hg hb hl (by rw [List.length_map,List.length_take];omega) h1 h2 (λ y hy=>h3 y hy d hdk) (λ y hy=>h4 y hy d hdk)
   rw [hS] at ht
   refine ⟨_,.inl ht,(b.takeWhile λ y=>decide (y < d)).length,(b.takeWhile λ y=>decide (y - d <= g)).length,some (.sh (.int d)),(List.takeWhile_sublist _).length_le,(List.takeWhile_sublist _).length_le,?_,?_,?_⟩
   ·intro y hy z hz
    rw [dB] at hy
    have:=dR hy
    have h5:=hr.lt_drop hk z (by rw [List.drop_eq_getElem_cons hkl];exact List.mem_cons_of_mem _ hz)
    simp at this
    omega
   ·intro y hy z hz
    rw [dB] at hy
    have:=dR hy
    have h5:=hr.lt_drop hk z (by rw [List.drop_eq_getElem_cons hkl];exact List.mem_cons_of_mem _ hz)
    simp at this
    omega
   ·rw [List.take_add_one,hk]
    simp)
 unfold fi fD
 rw [ah e,h]
 simp [fq,jR,iY]
theorem EV (δ:Ev) (r:List Int) (h:r.length < 1000000) (hd:ac 4 δ=.ok (ag r)) (hδ:δ.length=5:=by rfl):mL (bj 1 (λ δ=>((ac 4) δ).bind aV) (bN 5) (λ _=>.ok true) (mC (.int 1))) δ=.ok (ag (r.map λ _=>1)):=by
 have e1:(λ δ=>((ac 4) δ).bind aV) δ=.ok (r.map D.int):=by show ((ac 4) δ).bind aV=_;rw [hd];rfl
 rw [GX,iN (l:=r) (h:=D.int) (g:=λ _=>D.int 1) e1 (by omega) (λ _ _=>rfl) hδ,R.bind_ok]
 simp [ag]
theorem qF {rows:List (List Int)} {g:Int} (hg:0 <= g) (hn:rows.length < 1000) (hu:∀ r∈rows,Up r) (hl:∀ r∈rows,r.length < 1000) :
  cS [ae rows,.int g]=.ok (ae (BC g rows)):=by
 unfold cS jm
 rw [ah (δ':=[some (.sh (ae rows)),some (.sh (.int g)),some (.ow ([])),none,none]) (by simp [gz,av,lim])]
 unfold gm
 rw [ah (δ':=[some (.sh (ae rows)),some (.sh (.int g)),some (.ow ([])),some (.sh (ag [])),none]) (by simp [gA])]
 obtain ⟨δ',e,x4,h⟩:=iW (f:=ag) (l:=rows.reverse) (i:=4) (fit:=λ δ=>((ac 0) δ).bind vI) (F:=gw) (δ:=[some (.sh (ae rows)),some (.sh (.int g)),some (.ow ([])),some (.sh (ag [])),none])
  (λ k δ=>∃ x4:Option Sl,δ=[some (.sh (ae rows)),some (.sh (.int g)),some (.ow ((BC g (rows.reverse.take k).reverse).reverse.map ag)),some (.sh (ag ((rows.reverse.take k).reverse.headD []))),x4]) (by simp) ⟨none,by simp [BC]⟩ (by
   rintro k r δ hk ⟨x4,rfl⟩
   have hkl:=(List.getElem?_eq_some_iff.mp hk).1
   have hrm:r∈rows:=by have:=List.mem_of_getElem? hk;simpa using this
   have hS:∀ s∈(rows.reverse.take k).reverse,s∈rows:=λ s hs=>by
    have:=List.mem_of_mem_take (List.mem_reverse.mp hs)
    simpa using this
   have hlen:(rows.reverse.take k).reverse.length < 1000:=by simp;omega
   have e1:(rows.reverse.take (k + 1)).reverse=r :: (rows.reverse.take k).reverse:=by rw [List.take_add_one,hk];simp
   refine ⟨[some (.sh (ae rows)),some (.sh (.int g)),some (.ow ((BC g (r :: (rows.reverse.take k).reverse)).reverse.map ag)),some (.sh (ag r)),some (.sh (ag r))],.inl ?_,some (.sh (ag r)),by rw [e1];simp⟩
   generalize (rows.reverse.take k).reverse=S at *
   have hbl:∀ S:List (List Int),(BC g S).length=S.length:=by
    intro S
    induction S with
    | nil=>rfl
    | cons a S ih=>simp [BC,ih]
   unfold gw
   cases S with
   | nil =>
    rw [ah (δ':=[some (.sh (ae rows)),some (.sh (.int g)),some (.ow ([ag (r.map λ _=>1)])),some (.sh (ag [])),some (.sh (ag r))]) (by
     have e0:kg (.lst []) (.lst [])=.ok true:=ja []
     rw [bQ (by simp [BC,e0])]
     rw [oK,EV _ r (by have:=hl r hrm;omega) rfl]
     simp [BC])]
    simp [BC,Wo]
   | cons r' S =>
    have e0:kg (.lst ((BC g (r' :: S)).reverse.map ag)) (.lst [])=.ok false:=by
     have:=eJ (BC g (r' :: S)).reverse
     rw [this]
     simp [BC]
    have e2:bP (.lst ((BC g (r' :: S)).reverse.map ag)) (.int (-1))=.ok (ag (r'.map λ d=>Wo g (some d) S)):=fX (by simp [BC])
    have e3:=pY (r:=r) (b:=r') (g:=g) (λ d=>Wo g (some d) S) hg (hu r hrm) (hu r' (hS r' List.mem_cons_self)) (hl r' (hS r' List.mem_cons_self)) (by have:=hl r hrm;omega)
    rw [ah (δ':=[some (.sh (ae rows)),some (.sh (.int g)),some (.ow ((BC g (r :: r' :: S)).reverse.map ag)),some (.sh (ag r')),some (.sh (ag r))]) (by
     rw [bx (by simp_arith [e0])]
     simp_arith [e2,List.headD_cons,e3]
     rw [if_pos (by simp only [List.length_reverse,hbl];simp at hlen ⊢;omega)]
     simp [BC,Wo])]
    simp)
 unfold gn gB
 rw [ah e,h,List.take_length,List.reverse_reverse]
 simp [gq,gC,gu,kO,iY,aD]
theorem zJ {g d:Int} {o:Option Int}:kY g o d=true ↔ ∀ a,o=some a->a <= d/\d <= a + g:=by
 cases o with
 | none=>simp [kY]
 | some l=>simp [kY]
theorem vT:∀ {l:List Int},(∀ x∈l,0 <= x)->0 <= bC l
 | [],_=>Int.le_refl _
 | x :: l,h=>by
  have h1:=h x List.mem_cons_self
  have h2:=vT (l:=l) λ y hy=>h y (List.mem_cons_of_mem _ hy)
  simp only [bC]
  omega
theorem Gn {g:Int}:∀ (rs:List (List Int)) (o:Option Int),0 <= Wo g o rs
 | [],o=>by simp [Wo]
 | r :: rs,o=>by
  unfold Wo
  refine vT λ x hx=>?_
  obtain ⟨e,_,rfl⟩:=List.mem_map.mp hx
  exact Gn rs (some e)
noncomputable def zj (g:Int) (o:Option Int) (W:Int->Int) (r:List Int) (d:Int):Int:=bC ((r.filter λ e=>kY g o e && decide (e < d)).map W)
noncomputable def D7 (g:Int):Option Int->List (List Int)->List Int->Int
 | o,r :: rs,d :: t=>zj g o (λ e=>Wo g (some e) rs) r d + D7 g (some d) rs t
 | _,_,_=>0
theorem xH {W:Int->Int} (hW:∀ e,0 <= W e) {p q:Int->Bool} (h:∀ e,p e=true->q e=true):∀ r:List Int,bC ((r.filter p).map W) <= bC ((r.filter q).map W)
 | []=>Int.le_refl _
 | x :: r=>by
  have ih:=xH hW h r
  have h1:=hW x
  rw [List.filter_cons,List.filter_cons]
  cases c:p x with
  | true=>rw [h x c];simp only [if_true,List.map_cons,bC];omega
  | false =>
   cases c2:q x with
   | true=>simp only [if_true,Bool.false_eq_true,if_false,List.map_cons,bC];omega
   | false=>simpa using ih
theorem wa {g d:Int} {o:Option Int} {W:Int->Int} {r:List Int} (h:∀ e∈r,d <= e):zj g o W r d=0:=by
 unfold zj
 rw [List.filter_eq_nil_iff.mpr]
 ·rfl
 ·intro e he
  have:=h e he
  simp
  omega
theorem zk {g d:Int} {o:Option Int} {W:Int->Int} (ho:kY g o d=true):∀ {r:List Int},r.Pairwise (· < ·)->d∈r->zj g o W r d + W d=bC ((r.filter λ e=>kY g o e && decide (e <= d)).map W)
 | [],_,hd=>by cases hd
 | x :: r,hr,hd=>by
  have hp:=List.pairwise_cons.mp hr
  rcases List.mem_cons.mp hd with rfl | hd
  ·have e1:zj g o W (d :: r) d=0:=wa λ e he=>by
    rcases List.mem_cons.mp he with rfl | he
    ·exact Int.le_refl _
    ·exact Int.le_of_lt (hp.1 e he)
   have e2:(r.filter λ e=>kY g o e && decide (e <= d))=[]:=List.filter_eq_nil_iff.mpr λ e he=>by
    have:=hp.1 e he
    simp
    omega
   rw [e1,List.filter_cons,e2,ho]
   simp [bC]
  ·have ih:=zk (W:=W) ho hp.2 hd
   have hx:=hp.1 d hd
   unfold zj at ih ⊢
   rw [List.filter_cons,List.filter_cons]
   have c1:decide (x < d)=true:=by simpa using hx
   have c2:decide (x <= d)=true:=by simp;omega
   rw [c1,c2]
   cases c:kY g o x with
   | true=>simp only [Bool.and_self,if_true,List.map_cons,bC];omega
   | false=>simpa using ih
noncomputable def Kx (rs:List (List Int)):Prop:=∀ r∈rs,r.Pairwise (· < ·)
theorem BF {g:Int}:∀ {rs:List (List Int)} {o:Option Int} {t:List Int},Kx rs->Cn g o rs t->0 <= D7 g o rs t/\D7 g o rs t < Wo g o rs
 | [],o,t,_,h=>by simp [D7,Wo]
 | r :: rs,o,t,hu,h=>by
  obtain ⟨d,u,rfl,h1,h2,h3⟩:=h
  have ih:=BF (λ s hs=>hu s (List.mem_cons_of_mem _ hs)) h3
  have hW:∀ e,0 <= (λ e=>Wo g (some e) rs) e:=λ e=>Gn rs (some e)
  have ho:=zJ.mpr h2
  have e1:=zk (W:=λ e=>Wo g (some e) rs) ho (hu r List.mem_cons_self) h1
  have e2:=xH hW (p:=λ e=>kY g o e && decide (e <= d)) (q:=kY g o) (λ e he=>by simp only [Bool.and_eq_true] at he;exact he.1) r
  have e3:0 <= zj g o (λ e=>Wo g (some e) rs) r d:=vT λ x hx=>by
   obtain ⟨e,_,rfl⟩:=List.mem_map.mp hx
   exact hW e
  show 0 <= zj g o (λ e=>Wo g (some e) rs) r d + D7 g (some d) rs u/\zj g o (λ e=>Wo g (some e) rs) r d + D7 g (some d) rs u < bC ((r.filter (kY g o)).map λ e=>Wo g (some e) rs)
  omega
theorem Bx {g:Int}:∀ {rs:List (List Int)} {o:Option Int} {t:List Int},Cn g o rs t->t.length=rs.length
 | [],o,t,h=>by have:t=[]:=h;simp [this]
 | r :: rs,o,t,h=>by
  obtain ⟨d,u,rfl,_,_,h3⟩:=h
  simp [Bx h3]
noncomputable def tH (g:Int) (o:Option Int) (W:Int->Int):List Int->Int->Option (Int × Int)
 | [],_=>none
 | d :: r,k=>if kY g o d=true then (if k < W d then some (d,k) else tH g o W r (k - W d)) else tH g o W r k
theorem v9 {g d x:Int} {o:Option Int} {W:Int->Int} {r:List Int} (h:x < d):zj g o W (x :: r) d=(if kY g o x=true then W x else 0) + zj g o W r d:=by
 unfold zj
 rw [List.filter_cons]
 have c1:decide (x < d)=true:=by simpa using h
 rw [c1]
 cases c:kY g o x with
 | true=>simp [bC]
 | false=>simp
theorem nA {g:Int} {o:Option Int} {W:Int->Int}:∀ {r:List Int} {k:Int},r.Pairwise (· < ·)->0 <= k->k < bC ((r.filter (kY g o)).map W) →
  ∃ d k',tH g o W r k=some (d,k')/\d∈r/\kY g o d=true/\0 <= k'/\k' < W d/\zj g o W r d + k'=k
 | [],k,_,h0,h1=>by simp [bC] at h1;omega
 | x :: r,k,hr,h0,h1=>by
  have hp:=List.pairwise_cons.mp hr
  rw [List.filter_cons] at h1
  unfold tH
  cases c:kY g o x with
  | true =>
   rw [c] at h1
   simp only [if_true,List.map_cons,bC] at h1
   rw [if_pos rfl]
   by_cases c2:k < W x
   ·rw [if_pos c2]
    refine ⟨x,k,rfl,List.mem_cons_self,c,h0,c2,?_⟩
    rw [wa]
    ·omega
    ·intro e he
     rcases List.mem_cons.mp he with rfl | he
     ·exact Int.le_refl _
     ·exact Int.le_of_lt (hp.1 e he)
   ·rw [if_neg c2]
    obtain ⟨d,k',e1,e2,e3,e4,e5,e6⟩:=nA (g:=g) (o:=o) (W:=W) (k:=k - W x) hp.2 (by omega) (by omega)
    refine ⟨d,k',e1,List.mem_cons_of_mem _ e2,e3,e4,e5,?_⟩
    rw [v9 (hp.1 d e2),if_pos c]
    omega
  | false =>
   rw [c] at h1
   simp only [Bool.false_eq_true,if_false] at h1 ⊢
   obtain ⟨d,k',e1,e2,e3,e4,e5,e6⟩:=nA (g:=g) (o:=o) (W:=W) (k:=k) hp.2 h0 h1
   refine ⟨d,k',e1,List.mem_cons_of_mem _ e2,e3,e4,e5,?_⟩
   rw [v9 (hp.1 d e2),c]
   simp
   omega
theorem Bw {g:Int}:∀ {rs:List (List Int)} {k:Nat} {r:List Int},rs[k]?=some r->(BC g rs)[k]?=some (r.map λ d=>Wo g (some d) (rs.drop (k + 1)))
 | [],k,r,h=>by simp at h
 | s :: rs,0,r,h=>by simp at h;subst h;simp [BC]
 | s :: rs,k + 1,r,h=>by
  have:=Bw (g:=g) (rs:=rs) (k:=k) (by simpa using h)
  simpa [BC] using this
theorem D3 {F1 F2:Ev->SR} {δ δ':Ev} (h:F1 δ=.brk δ'):aD F1 F2 δ=.brk δ':=by unfold aD;rw [h]
theorem ni {bd:D->Ev->Option Ev} {F:Ev->SR} {d:D} {ds:List D} {δ δ1 δ2:Ev} (h1:bd d δ=some δ1) (h2:F δ1=.next δ2):cu bd F (d :: ds) δ=cu bd F ds δ2:=by
 rw [cu]
 simp only [h1,h2]
theorem AB {bd:D->Ev->Option Ev} {F:Ev->SR} {d:D} {ds:List D} {δ δ1 δ2:Ev} (h1:bd d δ=some δ1) (h2:F δ1=.brk δ2):cu bd F (d :: ds) δ=.next δ2:=by
 rw [cu]
 simp only [h1,h2]
theorem Ju {i j:Nat} (a b:D) (δ:Ev):kU 2 (bp (bN i) (bp (bN j) (iM))) (.tup [a,b]) δ=some ((δ.set i (some (.sh a))).set j (some (.sh b))):=rfl
noncomputable def Li (ds:List Int):Nat->Option Int
 | 0=>none
 | k + 1=>ds[k]?
theorem Fi (ds:List Int):Li ds ds.length=ds.getLast?:=by
 cases ds with
 | nil=>rfl
 | cons a l=>rw [List.getLast?_eq_getElem?];rfl
theorem uR {ds:List Int} {k:Nat} {d g:Int} (hk:k <= ds.length):eg [ag ds,.int (k:Int),.int d,.int g]=.ok (.bl (kY g (Li ds k) d)):=by
 unfold eg lA
 cases k with
 | zero =>
  rw [D4 (d:=.bl true) (by
   show cR [some (.sh (ag ds)),some (.sh (.int (((0:Nat):Int)))),some (.sh (.int d)),some (.sh (.int g)),none]=_
   unfold cR
   rw [bQ (by simp_arith [db];rfl)]
   rfl)]
  rfl
 | succ j =>
  have hj:ds[j]?=some ds[j]:=List.getElem?_eq_getElem (by omega)
  have i0:bP (ag ds) (.int (((j + 1:Nat):Int) - 1))=.ok (.int ds[j]):=by
   rw [show (((j + 1:Nat):Int) - 1)=(j:Int) by push_cast;omega]
   exact b9 hj
  have n0:((((j + 1:Nat):Int)) == 0)=false:=by simp;omega
  rw [ah (δ':=[some (.sh (ag ds)),some (.sh (.int (((j + 1:Nat):Int)))),some (.sh (.int d)),some (.sh (.int g)),none]) (by
   show cR [some (.sh (ag ds)),some (.sh (.int (((j + 1:Nat):Int)))),some (.sh (.int d)),some (.sh (.int g)),none]=_
   unfold cR
   rw [bx (by simp_arith [db,n0])])]
  unfold jw
  rw [ah (δ':=[some (.sh (ag ds)),some (.sh (.int (((j + 1:Nat):Int)))),some (.sh (.int d)),some (.sh (.int g)),some (.sh (.int ((ds[j]))))]) (by
   unfold jK
   simp_arith [i0])]
  unfold jx mG
  have e1:kY g (Li ds (j + 1)) d=(decide (ds[j] <= d) && decide (d <= ds[j] + g)):=by
   show kY g ds[j]? d=_
   rw [hj]
   rfl
  have e2:decide (d - ds[j] <= g)=decide (d <= ds[j] + g):=by
   rw [decide_eq_decide]
   omega
  rw [e1]
  cases c:decide (ds[j] <= d) with
  | true =>
   simp_arith [c,e2,Bool.true_and,qW]
  | false=>simp_arith [c,Bool.false_and,qW]
theorem CC {R C rw':D} {g kk left e w:Int} {ds:List Int} (hl:ds.length < 1000) :
  dU [some (.sh R),some (.sh (.int g)),some (.sh (.int kk)),some (.sh C),some (.ow (ds.map D.int)),some (.sh (.int left)),some (.sh (.int ((ds.length:Int)))),some (.sh rw'),some (.sh (.int e)),some (.sh (.int w))] =
   if kY g ds.getLast? e=true then (if left < w then .brk [some (.sh R),some (.sh (.int g)),some (.sh (.int kk)),some (.sh C),some (.ow ((ds++[e]).map D.int)),some (.sh (.int left)),some (.sh (.int ((ds.length:Int)))),some (.sh rw'),some (.sh (.int e)),some (.sh (.int w))] else .next [some (.sh R),some (.sh (.int g)),some (.sh (.int kk)),some (.sh C),some (.ow (ds.map D.int)),some (.sh (.int ((left - w)))),some (.sh (.int ((ds.length:Int)))),some (.sh rw'),some (.sh (.int e)),some (.sh (.int w))])
   else .next [some (.sh R),some (.sh (.int g)),some (.sh (.int kk)),some (.sh C),some (.ow (ds.map D.int)),some (.sh (.int left)),some (.sh (.int ((ds.length:Int)))),some (.sh rw'),some (.sh (.int e)),some (.sh (.int w))]:=by
 have hm:=uR (ds:=ds) (k:=ds.length) (d:=e) (g:=g) (Nat.le_refl _)
 rw [Fi] at hm
 unfold dU
 cases c:kY g ds.getLast? e with
 | false =>
  rw [c] at hm
  rw [bx (by
   show mT _ [some (.sh R),some (.sh (.int g)),some (.sh (.int kk)),some (.sh C),some (.sh (ag ds)),some (.sh (.int left)),some (.sh (.int ((ds.length:Int)))),some (.sh rw'),some (.sh (.int e)),some (.sh (.int w))]=_
   simp_arith [hm])]
  simp
 | true =>
  rw [c] at hm
  rw [bQ (by
   show mT _ [some (.sh R),some (.sh (.int g)),some (.sh (.int kk)),some (.sh C),some (.sh (ag ds)),some (.sh (.int left)),some (.sh (.int ((ds.length:Int)))),some (.sh rw'),some (.sh (.int e)),some (.sh (.int w))]=_
   simp_arith [hm]),if_pos rfl]
  by_cases c2:left < w
  ·have:fN (bY qd (ac 5) (ac 9)) (aD (cF 4 (ac 8)) (SR.brk)) (SR.next) [some (.sh R),some (.sh (.int g)),some (.sh (.int kk)),some (.sh C),some (.ow (ds.map D.int)),some (.sh (.int left)),some (.sh (.int ((ds.length:Int)))),some (.sh rw'),some (.sh (.int e)),some (.sh (.int w))]=.brk [some (.sh R),some (.sh (.int g)),some (.sh (.int kk)),some (.sh C),some (.ow ((ds++[e]).map D.int)),some (.sh (.int left)),some (.sh (.int ((ds.length:Int)))),some (.sh rw'),some (.sh (.int e)),some (.sh (.int w))]:=by
    rw [bQ (by simp_arith [c2]),ah (bZ (d:=.int e) (by simp_arith []) rfl (by rw [List.length_map];omega))]
    simp
   rw [if_pos c2,D3 this]
  ·rw [if_neg c2,ah (bx (by simp_arith [c2]))]
   rfl
theorem oX {R C rw':D} {g kk:Int} {W:Int->Int} {ds:List Int} (hl:ds.length < 1000):∀ (r:List Int) (left:Int) (x8 x9:Option Sl) (d k':Int),tH g ds.getLast? W r left=some (d,k') →
  ∃ y8 y9,cu (kU 2 (bp (bN 8) (bp (bN 9) (iM)))) dU (kM (r.map D.int) (r.map λ e=>.int (W e))) [some (.sh R),some (.sh (.int g)),some (.sh (.int kk)),some (.sh C),some (.ow (ds.map D.int)),some (.sh (.int left)),some (.sh (.int ((ds.length:Int)))),some (.sh rw'),x8,x9]
   = .next [some (.sh R),some (.sh (.int g)),some (.sh (.int kk)),some (.sh C),some (.ow ((ds++[d]).map D.int)),some (.sh (.int k')),some (.sh (.int ((ds.length:Int)))),some (.sh rw'),y8,y9]
 | [],left,x8,x9,d,k',h=>by cases h
 | e :: r,left,x8,x9,d,k',h=>by
  have ht:=CC (R:=R) (C:=C) (rw':=rw') (g:=g) (kk:=kk) (left:=left) (e:=e) (w:=W e) hl
  unfold tH at h
  rw [List.map_cons,List.map_cons,kM]
  cases c:kY g ds.getLast? e with
  | false =>
   rw [c] at h ht
   simp only [Bool.false_eq_true,if_false] at h ht
   rw [ni (Ju ..) ht]
   exact oX hl r left _ _ d k' h
  | true =>
   rw [c] at h ht
   simp only [if_true] at h ht
   by_cases c2:left < W e
   ·rw [if_pos c2] at h ht
    cases h
    rw [AB (Ju ..) ht]
    exact ⟨_,_,rfl⟩
   ·rw [if_neg c2] at h ht
    rw [ni (Ju ..) ht]
    exact oX hl r (left - W e) _ _ d k' h
theorem tE {rows:List (List Int)} {g kk:Int} (hu:Kx rows) (hn:rows.length < 1000):∀ (rs:List (List Int)) (ds:List Int) (left:Int) (x6 x7 x8 x9:Option Sl),ds.length <= rows.length->rows.drop ds.length=rs->0 <= left->left < Wo g ds.getLast? rs →
  ∃ t y5 y6 y7 y8 y9,cu (kU 2 (bp (bN 6) (bp (bN 7) (iM)))) dW (bM ds.length (rs.map ag)) [some (.sh (ae rows)),some (.sh (.int g)),some (.sh (.int kk)),some (.sh (ae (BC g rows))),some (.ow (ds.map D.int)),some (.sh (.int left)),x6,x7,x8,x9]
   = .next [some (.sh (ae rows)),some (.sh (.int g)),some (.sh (.int kk)),some (.sh (ae (BC g rows))),some (.ow ((ds++t).map D.int)),y5,y6,y7,y8,y9]/\Cn g ds.getLast? rs t/\D7 g ds.getLast? rs t=left
 | [],ds,left,x6,x7,x8,x9,hle,hd,h0,h1=>by
  simp only [Wo] at h1
  refine ⟨[],_,_,_,_,_,by rw [List.append_nil];rfl,rfl,?_⟩
  simp only [D7]
  omega
 | r :: rs,ds,left,x6,x7,x8,x9,hle,hd,h0,h1=>by
  have hlt:ds.length < rows.length:=by
   rcases Nat.lt_or_ge ds.length rows.length with h | h
   ·exact h
   ·rw [List.drop_eq_nil_of_le h] at hd;cases hd
  have hr:rows[ds.length]?=some r:=by
   rw [List.drop_eq_getElem_cons hlt] at hd
   rw [List.getElem?_eq_getElem hlt]
   exact congrArg some (List.cons.inj hd).1
  have hrs:rows.drop (ds.length + 1)=rs:=by
   rw [List.drop_eq_getElem_cons hlt] at hd
   exact (List.cons.inj hd).2
  obtain ⟨d,k',e1,e2,e3,e4,e5,e6⟩:=nA (g:=g) (o:=ds.getLast?) (W:=λ e=>Wo g (some e) rs) (hu r (List.mem_of_getElem? hr)) h0 h1
  obtain ⟨y8,y9,hin⟩:=oX (R:=ae rows) (C:=ae (BC g rows)) (rw':=ag r) (g:=g) (kk:=kk) (by omega:ds.length < 1000) r left x8 x9 d k' e1
  have hix:bP (ae (BC g rows)) (.int (ds.length:Int))=.ok (ag (r.map λ e=>Wo g (some e) rs)):=by
   have:=Bw (g:=g) hr
   rw [hrs] at this
   exact nV this
  have ht:dW [some (.sh (ae rows)),some (.sh (.int g)),some (.sh (.int kk)),some (.sh (ae (BC g rows))),some (.ow (ds.map D.int)),some (.sh (.int left)),some (.sh (.int ((ds.length:Int)))),some (.sh (ag r)),x8,x9]=.next [some (.sh (ae rows)),some (.sh (.int g)),some (.sh (.int kk)),some (.sh (ae (BC g rows))),some (.ow ((ds++[d]).map D.int)),some (.sh (.int k')),some (.sh (.int ((ds.length:Int)))),some (.sh (ag r)),y8,y9]:=by
   unfold dW cG
   have e:((af (ac 7) (af (m2 bP (ac 3) (ac 6)) (au))) [some (.sh (ae rows)),some (.sh (.int g)),some (.sh (.int kk)),some (.sh (ae (BC g rows))),some (.ow (ds.map D.int)),some (.sh (.int left)),some (.sh (.int ((ds.length:Int)))),some (.sh (ag r)),x8,x9]).bind r6=.ok (kM (r.map D.int) (r.map λ e=>.int (Wo g (some e) rs))):=by
    simp_arith [hix]
    simp [r6]
    rfl
   dsimp only
   rw [e]
   exact hin
  have hgl:(ds++[d]).getLast?=some d:=by simp
  obtain ⟨t,y5,y6,y7,y8,y9,g1,g2,g3⟩:=tE hu hn rs (ds++[d]) k' (some (.sh (.int (ds.length:Int)))) (some (.sh (ag r))) y8 y9 (by simp;omega) (by simpa using hrs) e4 (by rw [hgl];exact e5)
  rw [hgl] at g2 g3
  refine ⟨d :: t,y5,y6,y7,y8,y9,?_,⟨d,t,rfl,e2,zJ.mp e3,g2⟩,?_⟩
  ·rw [List.map_cons,bM,ni (Ju ..) ht]
   have:(ds++[d]).length=ds.length + 1:=by simp
   rw [this] at g1
   rw [show ds++d :: t=(ds++[d])++t by simp]
   exact g1
  ·show zj g ds.getLast? (λ e=>Wo g (some e) rs) r d + D7 g (some d) rs t=left
   rw [g3]
   exact e6
theorem pX {rows:List (List Int)} {g:Int}:cv [ae (BC g rows)]=.ok (.int (Wo g none rows)):=by
 unfold cv ij
 cases rows with
 | nil =>
  have e0:kg (.lst []) (.lst [])=.ok true:=ja []
  simp [aD,av,BC,e0,Wo]
 | cons r rs =>
  have e0:=eJ (BC g (r :: rs))
  have e1:bP (ae (BC g (r :: rs))) (.int 0)=.ok (ag (r.map λ d=>Wo g (some d) rs)):=nV (k:=0) (by simp [BC])
  have e3:(r.filter (kY g none))=r:=by simp [kY]
  rw [ah (δ':=[some (.sh (ae (BC g (r :: rs))))]) (by
   simp only [av]
   simp_arith [e0]
   simp [BC,e0])]
  unfold eZ
  simp_arith [e1,CH,qW]
  rw [Wo,e3]
theorem JK {rows:List (List Int)} {g k:Int} (hg:0 <= g) (hn:rows.length < 1000) (hu:Kx rows) (hl:∀ r∈rows,r.length < 1000) (h0:0 <= k) (h1:k < Wo g none rows) :
  ∃ t,bX [ae rows,.int g,.int k]=.ok (t.map D.int)/\Cn g none rows t/\D7 g none rows t=k:=by
 have hb:=qF (rows:=rows) (g:=g) hg hn (λ r hr=>(hu r hr).imp (λ h=>Int.le_of_lt h)) hl
 have hc:=pX (rows:=rows) (g:=g)
 obtain ⟨t,y5,y6,y7,y8,y9,g1,g2,g3⟩:=tE (g:=g) (kk:=k) hu hn rows [] k none none none none (Nat.zero_le _) rfl h0 h1
 refine ⟨t,?_,g2,g3⟩
 unfold bX ic
 generalize hC:ae (BC g rows)=C at *
 rw [aE (δ':=[some (.sh (ae rows)),some (.sh (.int g)),some (.sh (.int k)),some (.sh C),none,none,none,none,none,none]) (by
  show dX [some (.sh (ae rows)),some (.sh (.int g)),some (.sh (.int k)),none,none,none,none,none,none,none]=_
  unfold dX
  simp_arith [hb])]
 unfold eU
 have n0:¬ k < 0:=by omega
 have n1:¬ Wo g none rows <= k:=by omega
 rw [aE (δ':=[some (.sh (ae rows)),some (.sh (.int g)),some (.sh (.int k)),some (.sh C),none,none,none,none,none,none]) (by
  unfold gI
  rw [bx (by simp_arith [hc,n0,n1])])]
 unfold eV
 rw [aE (δ':=[some (.sh (ae rows)),some (.sh (.int g)),some (.sh (.int k)),some (.sh C),some (.ow ([])),none,none,none,none,none]) (by
  unfold gJ
  simp [lim])]
 unfold eW
 rw [aE (δ':=[some (.sh (ae rows)),some (.sh (.int g)),some (.sh (.int k)),some (.sh C),some (.ow ([])),some (.sh (.int k)),none,none,none,none]) (by
  unfold gK
  simp_arith [])]
 unfold eX
 rw [aE (δ':=[some (.sh (ae rows)),some (.sh (.int g)),some (.sh (.int k)),some (.sh C),some (.ow (t.map D.int)),y5,y6,y7,y8,y9]) (by
  unfold gL cG
  exact g1)]
 rfl
noncomputable def ob (r:List Int) (d:Int):Int:=if d∈r then 0 else 1
noncomputable def yx (r:List Int) (L:Nat):List Int:=(List.range L).map λ d:Nat=>ob r (d:Int)
theorem sQ (x:cY):∀ ks:List cY,(Go ks (ks.map λ _=>D.bl true) x).isSome=ks.any λ j=>decide (j=x)
 | []=>rfl
 | k :: ks=>by
  rw [List.map_cons,Go,List.any_cons,<- sQ x ks]
  by_cases c:k=x
  ·simp [c]
  ·simp [c]
theorem tx (x:cY):∀ (ns:List Int) (ks:List cY),((ck ns ks).any λ j=>decide (j=x))=((ks.any λ j=>decide (j=x)) || ns.any λ n=>decide ((Sum.inl n:cY)=x))
 | [],ks=>by simp [ck]
 | n :: ns,ks=>by
  rw [ck,tx x ns,List.any_cons,<- Bool.or_assoc]
  congr 1
  unfold uq
  split
  ·rename_i h
   cases c:decide ((Sum.inl n:cY)=x) with
   | false=>simp
   | true =>
    have e:=of_decide_eq_true c
    subst e
    rw [h]
    rfl
  ·rw [List.any_append]
   simp
theorem HE {r:List Int} {d:Int}:yt (.int d) (.dic (ck r []) ((ck r []).map λ _=>.bl true))=.ok (decide (d∈r)):=by
 unfold yt
 simp only [wN]
 rw [sQ,tx]
 congr 1
 rw [Bool.eq_iff_iff,Bool.or_eq_true,decide_eq_true_eq]
 simp
theorem zI (r:List Int) (L:Nat):(yx r L).length=L:=by simp [yx]
theorem pO {r:List Int} {L:Nat} (hr:r.length <= 1000000) (hL:L <= 1000000):cK [ag r,.int (L:Int)]=.ok ((yx r L).map D.int):=by
 unfold cK ki
 have hin:=λ d:Int=>HE (r:=r) (d:=d)
 have hz:∃ x3:Option Sl,me 0 2 3 [some (.sh (ag r)),some (.sh (.int L)),none,none]=.next [some (.sh (ag r)),some (.sh (.int L)),some (.sh (.dic (ck r []) ((ck r []).map λ _=>.bl true))),x3]:=by
  unfold me
  simp only [List.getElem?_cons_zero,mj]
  rw [if_pos hr]
  unfold n9
  cases r.getLast? with
  | none=>exact ⟨_,rfl⟩
  | some n=>exact ⟨_,rfl⟩
 obtain ⟨x3,hz⟩:=hz
 generalize hD:D.dic (ck r []) ((ck r []).map λ _=>.bl true)=dd at *
 show l4 (aX (me 0 2 3) eo [some (.sh (ag r)),some (.sh (.int L)),none,none])=_
 rw [aE hz]
 unfold eo
 rw [oE (l:=List.range L) (h:=λ k:Nat=>D.int (k:Int)) (g:=λ k:Nat=>D.int (ob r (k:Int))) (δ1:=λ k:Nat=>nD [some (.sh (ag r)),some (.sh (.int L)),some (.sh dd),x3]++[some (.sh (.int (k:Int)))]) (by
  refine (lU (δ:=[some (.sh (ag r)),some (.sh (.int L)),some (.sh dd),x3]) (i:=1) (n:=L) rfl hL).trans ?_
  unfold kZ
  simp) (by simpa using hL) (λ k _=>rfl) (λ k _=>by
  show JG _ _ _ [some (.sh (ag r)),some (.sh (.int L)),some (.sh dd),Bn x3,some (.sh (.int k))]=_
  have:=hin (k:Int)
  unfold ob
  by_cases c:(k:Int)∈r
  ·rw [decide_eq_true c] at this
   simp_arith [this,c]
  ·rw [decide_eq_false c] at this
   simp_arith [this,c])]
 simp [yx,l4]
theorem ve {r:List Int} {L:Nat} (hr:r.length <= 1000000) (hL:L <= 1000000):fV [ag r,.int (L:Int)]=.ok (ag (yx r L)):=tD (pO hr hL)
structure Best (a:List Int) (g d j:Nat):Prop where
 le:j <= d
 near:d <= j + g
 least:∀ i,i <= d->d <= i + g->a.getD j 0 <= a.getD i 0
structure Qi (a:List Int) (g m:Nat) (q:List Nat):Prop where
 asc:q.Pairwise λ x y=>x < y/\a.getD x 0 < a.getD y 0
 bd:∀ x∈q,x < m/\m <= x + g + 1
 cov:∀ i,i < m->m <= i + g + 1->∃ j∈q,i <= j/\a.getD j 0 <= a.getD i 0
theorem Qi.start (a:List Int) (g:Nat):Qi a g 0 []:=⟨.nil,by simp,by intro i h;omega⟩
noncomputable def kp (a:List Int) (x:Int) (q:List Nat):List Nat:=q.filter λ j=>decide (a.getD j 0 < x)
theorem Qi.next {a:List Int} {g m:Nat} {q:List Nat} (Q:Qi a g m q):∃ h t,kp a (a.getD m 0) q++[m]=h :: t/\(h + g < m->Qi a g (m + 1) t/\∃ h' t',t=h' :: t'/\Best a g m h')/\(¬ h + g < m->Qi a g (m + 1) (h :: t)/\Best a g m h):=by
 have hsub:∀ y∈kp a (a.getD m 0) q,y∈q/\a.getD y 0 < a.getD m 0:=λ y hy=>by
  have:=List.mem_filter.mp hy
  exact ⟨this.1,by simpa using this.2⟩
 have asc2:(kp a (a.getD m 0) q++[m]).Pairwise λ x y=>x < y/\a.getD x 0 < a.getD y 0:=by
  rw [List.pairwise_append]
  refine ⟨Q.asc.filter _,List.pairwise_singleton ..,λ x hx y hy=>?_⟩
  have:y=m:=by simpa using hy
  subst this
  exact ⟨(Q.bd x (hsub x hx).1).1,(hsub x hx).2⟩
 have cov2:∀ i,i <= m->m <= i + g->∃ j∈kp a (a.getD m 0) q++[m],i <= j/\a.getD j 0 <= a.getD i 0:=λ i h1 h2=>by
  rcases Nat.lt_or_ge i m with h | h
  ·obtain ⟨j,hj,hij,hle⟩:=Q.cov i h (by omega)
   by_cases c:a.getD j 0 < a.getD m 0
   ·exact ⟨j,List.mem_append_left _ (List.mem_filter.mpr ⟨hj,by simpa using c⟩),hij,hle⟩
   ·exact ⟨m,by simp,h1,by omega⟩
  ·have:i=m:=by omega
   subst this
   exact ⟨i,by simp,Nat.le_refl _,Int.le_refl _⟩
 have bd2:∀ x∈kp a (a.getD m 0) q++[m],x <= m/\m <= x + g + 1:=λ x hx=>by
  rcases List.mem_append.mp hx with hx | hx
  ·have:=Q.bd x (hsub x hx).1
   omega
  ·have:x=m:=by simpa using hx
   omega
 have hlast:∀ h t,kp a (a.getD m 0) q++[m]=h :: t->m∈h :: t:=λ h t e=>by rw [<- e];simp
 have least:∀ h t,(h :: t).Pairwise (λ x y=>x < y/\a.getD x 0 < a.getD y 0)->∀ j∈h :: t,a.getD h 0 <= a.getD j 0:=λ h t p j hj=>by
  rcases List.mem_cons.mp hj with rfl | hj
  ·exact Int.le_refl _
  ·exact Int.le_of_lt ((List.pairwise_cons.mp p).1 j hj).2
 cases e:kp a (a.getD m 0) q++[m] with
 | nil=>simp at e
 | cons h t =>
  rw [e] at asc2 cov2 bd2
  have hm:=hlast h t e
  have hp:=List.pairwise_cons.mp asc2
  refine ⟨h,t,rfl,λ c=>?_,λ c=>?_⟩
  ·have hmt:m∈t:=by
    rcases List.mem_cons.mp hm with rfl | hm
    ·omega
    ·exact hm
   have hh:=bd2 h List.mem_cons_self
   have bt:∀ x∈t,x <= m/\m <= x + g:=λ x hx=>by
    have h1:=bd2 x (List.mem_cons_of_mem _ hx)
    have h2:=(hp.1 x hx).1
    omega
   have ct:∀ i,i <= m->m <= i + g->∃ j∈t,i <= j/\a.getD j 0 <= a.getD i 0:=λ i h1 h2=>by
    obtain ⟨j,hj,hij,hle⟩:=cov2 i h1 h2
    rcases List.mem_cons.mp hj with rfl | hj
    ·omega
    ·exact ⟨j,hj,hij,hle⟩
   refine ⟨⟨hp.2,λ x hx=>by have:=bt x hx;omega,λ i h1 h2=>ct i (by omega) (by omega)⟩,?_⟩
   cases t with
   | nil=>cases hmt
   | cons h' t' =>
    refine ⟨h',t',rfl,(bt h' List.mem_cons_self).1,(bt h' List.mem_cons_self).2,λ i h1 h2=>?_⟩
    obtain ⟨j,hj,_,hle⟩:=ct i h1 h2
    exact Int.le_trans (least h' t' hp.2 j hj) hle
  ·have bt:∀ x∈h :: t,x <= m/\m <= x + g:=λ x hx=>by
    have h1:=bd2 x hx
    rcases List.mem_cons.mp hx with rfl | hx
    ·omega
    ·have h2:=(hp.1 x hx).1
     omega
   refine ⟨⟨asc2,λ x hx=>by have:=bt x hx;omega,λ i h1 h2=>cov2 i (by omega) (by omega)⟩,(bt h List.mem_cons_self).1,(bt h List.mem_cons_self).2,λ i h1 h2=>?_⟩
   obtain ⟨j,hj,_,hle⟩:=cov2 i h1 h2
   exact Int.le_trans (least h t asc2 j hj) hle
noncomputable abbrev cE (l:List Nat):List D:=l.map λ n:Nat=>D.int (n:Int)
theorem tS {a:List Int} {G T M:Option Sl} {x:Int} {pre:List Nat} (ha:a.length < 1000000):∀ (n:Nat) (q:List Nat),q.length < n->(∀ j∈q,j < a.length)->q.Pairwise (λ x y=>x < y/\a.getD x 0 < a.getD y 0) →
  b5 (gT (bY wV (m1 cj (bO 3)) (ac 4)) (bY Gu (m2 bP (ac 0) (m2 bP (bO 3) (m1 nv (mC (.int 1))))) (ac 6))) er n [some (.sh (ag a)),G,T,some (.ow (cE (pre++q))),some (.sh (.int ((pre.length:Int)))),M,some (.sh (.int x))]
   = .next [some (.sh (ag a)),G,T,some (.ow (cE (pre++kp a x q))),some (.sh (.int ((pre.length:Int)))),M,some (.sh (.int x))]
 | 0,q,h,_,_=>by omega
 | n + 1,q,h,hb,ha2=>by
  rcases List.eq_nil_or_concat q with rfl | ⟨p,l,rfl⟩
  ·rw [ce (by
    have:¬ (pre.length:Int) < ((cE (pre++[])).length:Int):=by simp
    simp only [kz,jT,uK,kB,bL,List.getElem?_cons_succ,List.getElem?_cons_zero,R.bind_ok,cQ,kG,this,decide_false,Bool.false_eq_true,if_false])]
   rfl
  ·rw [List.concat_eq_append] at *
   have hl:l < a.length:=hb l (by simp)
   have g1:(pre.length:Int) < ((cE (pre++(p++[l]))).length:Int):=by simp;omega
   have i1:bP (.lst (cE (pre++(p++[l])))) (.int (-1))=.ok (.int (l:Int)):=fX (by simp)
   have i2:bP (ag a) (.int (l:Int))=.ok (.int (a.getD l 0)):=b9 (by rw [List.getD_eq_getElem?_getD,List.getElem?_eq_getElem hl];rfl)
   have hc:gT (bY wV (m1 cj (bO 3)) (ac 4)) (bY Gu (m2 bP (ac 0) (m2 bP (bO 3) (m1 nv (mC (.int 1))))) (ac 6)) [some (.sh (ag a)),G,T,some (.ow (cE (pre++(p++[l])))),some (.sh (.int ((pre.length:Int)))),M,some (.sh (.int x))]=.ok (decide (x <= a.getD l 0)):=by
    simp only [kz,jT,jL,uK,wA,kB,bL,List.getElem?_cons_succ,List.getElem?_cons_zero,R.bind_ok,cQ,kG,g1,decide_true,if_true,wY,i1,i2,zE]
   by_cases c:x <= a.getD l 0
   ·rw [decide_eq_true c] at hc
    have hpop:er [some (.sh (ag a)),G,T,some (.ow (cE (pre++(p++[l])))),some (.sh (.int ((pre.length:Int)))),M,some (.sh (.int x))]=.next [some (.sh (ag a)),G,T,some (.ow (cE (pre++p))),some (.sh (.int ((pre.length:Int)))),M,some (.sh (.int x))]:=by
     unfold er D2
     simp only [List.getElem?_cons_succ,List.getElem?_cons_zero]
     rw [if_neg (by simp)]
     have:(cE (pre++(p++[l]))).dropLast=cE (pre++p):=by rw [<- List.append_assoc];simp [cE]
     rw [this]
     rfl
    rw [jf hc hpop,tS ha n p (by simp at h;omega) (λ j hj=>hb j (by simp [hj])) (List.pairwise_append.mp ha2).1]
    have:kp a x (p++[l])=kp a x p:=by
     unfold kp
     rw [List.filter_append]
     have:¬ a.getD l 0 < x:=by omega
     simp only [List.filter_cons,List.filter_nil,this,decide_false,Bool.false_eq_true,if_false,List.append_nil]
    rw [this]
   ·rw [decide_eq_false c] at hc
    rw [ce hc]
    have:kp a x (p++[l])=p++[l]:=by
     unfold kp
     rw [List.filter_eq_self]
     intro j hj
     have hpw:=List.pairwise_append.mp ha2
     rcases List.mem_append.mp hj with hj | hj
     ·have:=(hpw.2.2 j hj l (by simp)).2
      rw [decide_eq_true_eq]
      omega
     ·have:j=l:=by simpa using hj
      subst this
      rw [decide_eq_true_eq]
      omega
    rw [this]
theorem zZ {a:List Int} {g m:Nat} {pre q t:List Nat} (ha:a.length <= 900) (hm:m < a.length) (Q:Qi a g m q) (hk:pre.length + q.length <= m) (ht:t.length=m):∃ pre' q' j,Qi a g (m + 1) q'/\pre'.length + q'.length <= m + 1/\Best a g m j ∧
  eu [some (.sh (ag a)),some (.sh (.int g)),some (.ow (cE t)),some (.ow (cE (pre++q))),some (.sh (.int ((pre.length:Int)))),some (.sh (.int m)),some (.sh (.int ((a.getD m 0))))]=.next [some (.sh (ag a)),some (.sh (.int g)),some (.ow (cE (t++[j]))),some (.ow (cE (pre'++q'))),some (.sh (.int ((pre'.length:Int)))),some (.sh (.int m)),some (.sh (.int ((a.getD m 0))))]:=by
 have hw:=tS (a:=a) (G:=some (.sh (.int (g:Int)))) (T:=some (.ow (cE t))) (M:=some (.sh (.int (m:Int)))) (x:=a.getD m 0) (pre:=pre) (by omega) 1000 q (by omega) (λ j hj=>by have:=(Q.bd j hj).1;omega) Q.asc
 obtain ⟨h,tl,he,hyes,hno⟩:=Q.next
 have hkl:(kp a (a.getD m 0) q).length <= q.length:=List.length_filter_le ..
 have hlen:(kp a (a.getD m 0) q).length + 1=tl.length + 1:=by
  have:=congrArg List.length he
  simpa using this
 unfold eu
 rw [ah hw]
 have happ:cF 3 (ac 5) [some (.sh (ag a)),some (.sh (.int g)),some (.ow (cE t)),some (.ow (cE (pre++kp a (a.getD m 0) q))),some (.sh (.int ((pre.length:Int)))),some (.sh (.int m)),some (.sh (.int ((a.getD m 0))))]=.next [some (.sh (ag a)),some (.sh (.int g)),some (.ow (cE t)),some (.ow (cE (pre++(h :: tl)))),some (.sh (.int ((pre.length:Int)))),some (.sh (.int m)),some (.sh (.int ((a.getD m 0))))]:=by
  rw [bZ (d:=.int (m:Int)) (by simp_arith []) rfl (by rw [List.length_map,List.length_append];omega)]
  rw [<- he]
  simp [cE]
 rw [ah happ]
 have ih:bP (.lst (cE (pre++(h :: tl)))) (.int (pre.length:Int))=.ok (.int (h:Int)):=jb (iL (by simp [cE]))
 by_cases c:h + g < m
 ·obtain ⟨Q',h',t',rfl,B⟩:=hyes c
  have c1:(g:Int) < (m:Int) - (h:Int):=by omega
  refine ⟨pre++[h],h' :: t',h',Q',by rw [List.length_append];simp only [List.length_cons,List.length_nil] at hlen ⊢;omega,B,?_⟩
  rw [ah (δ':=[some (.sh (ag a)),some (.sh (.int g)),some (.ow (cE t)),some (.ow (cE (pre++(h :: h' :: t')))),some (.sh (.int (((pre.length:Int) + 1)))),some (.sh (.int m)),some (.sh (.int ((a.getD m 0))))]) (by
   rw [bQ (by simp only [jT,jL,kB,bL,List.getElem?_cons_succ,List.getElem?_cons_zero,R.bind_ok,ih,nX,kG,c1,decide_true])]
   rfl)]
  have ih2:bP (.lst (cE (pre++(h :: h' :: t')))) (.int ((pre.length:Int) + 1))=.ok (.int (h':Int)):=by
   rw [show (pre.length:Int) + 1=((pre.length + 1:Nat):Int) by omega]
   refine jb (iL ?_)
   rw [List.getElem?_map,List.getElem?_append_right (by omega),show pre.length + 1 - pre.length=1 by omega]
   rfl
  rw [bZ (d:=.int (h':Int)) (by simp only [jL,kB,bL,List.getElem?_cons_succ,List.getElem?_cons_zero,R.bind_ok,ih2]) rfl (by rw [List.length_map];omega)]
  simp [cE]
 ·obtain ⟨Q',B⟩:=hno c
  have c1:¬ (g:Int) < (m:Int) - (h:Int):=by omega
  refine ⟨pre,h :: tl,h,Q',by rw [List.length_cons];omega,B,?_⟩
  rw [ah (bx (by simp only [jT,jL,kB,bL,List.getElem?_cons_succ,List.getElem?_cons_zero,R.bind_ok,ih,nX,kG,c1,decide_false]))]
  rw [bZ (d:=.int (h:Int)) (by simp only [jL,kB,bL,List.getElem?_cons_succ,List.getElem?_cons_zero,R.bind_ok,ih]) rfl (by rw [List.length_map];omega)]
  simp [cE]
theorem nP:∀ (l:List Int) (n:Nat),bM n (l.map D.int)=(List.range l.length).map λ k:Nat=>D.tup [.int ((n + k:Nat):Int),.int (l.getD k 0)]
 | [],n=>rfl
 | a :: l,n=>by
  rw [List.map_cons,bM,nP l (n + 1),List.length_cons,List.range_succ_eq_map,List.map_cons,List.map_map]
  refine congr (congrArg _ (by simp)) (List.map_congr_left λ k _=>?_)
  simp
  omega
theorem zl {a:List Int} {g:Nat} (ha:a.length <= 900):∃ t:List Nat,bH [ag a,.int (g:Int)]=.ok (.lst (cE t))/\t.length=a.length/\∀ d j,t[d]?=some j->Best a g d j:=by
 unfold bH kl
 rw [ah (δ':=[some (.sh (ag a)),some (.sh (.int g)),some (.ow ([])),none,none,none,none]) (by simp [iA,av,lim])]
 unfold ie
 rw [ah (δ':=[some (.sh (ag a)),some (.sh (.int g)),some (.ow ([])),some (.ow ([])),none,none,none]) (by simp [iB,lim])]
 unfold ig
 rw [ah (δ':=[some (.sh (ag a)),some (.sh (.int g)),some (.ow ([])),some (.ow ([])),some (.sh (.int 0)),none,none]) (by simp [iC])]
 obtain ⟨δ',e,t,pre,q,x5,x6,hQ,hk,htl,hB,rfl⟩:=cU (fit:=λ δ=>((ac 0) δ).bind pL) (bd:=kU 2 (bp (bN 5) (bp (bN 6) (iM)))) (F:=eu) (δ:=[some (.sh (ag a)),some (.sh (.int g)),some (.ow ([])),some (.ow ([])),some (.sh (.int 0)),none,none]) (ds:=bM 0 (a.map D.int))
  (λ m δ=>∃ (t pre q:List Nat) (x5 x6:Option Sl),Qi a g m q/\pre.length + q.length <= m/\t.length=m/\(∀ d j,t[d]?=some j->Best a g d j)/\δ=[some (.sh (ag a)),some (.sh (.int g)),some (.ow (cE t)),some (.ow (cE (pre++q))),some (.sh (.int ((pre.length:Int)))),x5,x6])
  rfl ⟨[],[],[],none,none,Qi.start a g,by simp,rfl,by simp,rfl⟩ (by
   rintro m d δ hd ⟨t,pre,q,x5,x6,hQ,hk,htl,hB,rfl⟩
   rw [nP,List.getElem?_map] at hd
   have hm:m < a.length:=by
    rcases Nat.lt_or_ge m a.length with h | h
    ·exact h
    ·rw [List.getElem?_eq_none (by simpa using h)] at hd;cases hd
   rw [List.getElem?_range hm] at hd
   simp only [Option.map_some,Nat.zero_add,Option.some.injEq] at hd
   subst hd
   obtain ⟨pre',q',j,Q',hk',hBj,ht⟩:=zZ ha hm hQ hk htl
   refine ⟨_,_,Ju ..,.inl ht,t++[j],pre',q',_,_,Q',hk',by simp [htl],λ d j' hd=>?_,rfl⟩
   rcases Nat.lt_or_ge d t.length with h | h
   ·rw [List.getElem?_append_left h] at hd
    exact hB d j' hd
   ·rw [List.getElem?_append_right h] at hd
    cases hz:d - t.length with
    | zero =>
     rw [hz] at hd
     simp at hd
     subst hd
     rw [show d=m by omega]
     exact hBj
    | succ n=>rw [hz] at hd;simp at hd)
 refine ⟨t,?_,by rw [htl,kC];simp,hB⟩
 unfold ii iD
 rw [ah e]
 rfl
theorem m7 {rs:List (List Int)} (h:∀ r∈rs,r.length < 1000):eR (rs.map ag)=true:=by
 unfold eR
 rw [List.all_eq_true]
 intro d hd
 obtain ⟨b,hb,rfl⟩:=List.mem_map.mp hd
 have:=h b hb
 show ((b.map D.int).all dH && decide ((b.map D.int).length < 1000))=true
 rw [Bool.and_eq_true,List.length_map]
 refine ⟨?_,decide_eq_true this⟩
 rw [List.all_eq_true]
 intro x hx
 obtain ⟨i,_,rfl⟩:=List.mem_map.mp hx
 rfl
noncomputable def mw (a:List Int) (g d:Nat):Int:=kE ((a.take (d + 1)).drop (d - g))
noncomputable def JL (g:Nat) (a r:List Int):List Int:=(List.range a.length).map λ d:Nat=>mw a g d + ob r (d:Int)
noncomputable def rS (g L:Nat) (o:Option (List Int)) (r:List Int):List Int:=match o with
 | none=>yx r L
 | some a=>JL g a r
noncomputable def NB (g L:Nat):List (List Int)->Option (List Int)->List (List Int)
 | [],_=>[]
 | r :: rs,o=>rS g L o r :: NB g L rs (some (rS g L o r))
theorem qz (g L:Nat):∀ (rs:List (List Int)) (o:Option (List Int)),(NB g L rs o).length=rs.length
 | [],_=>rfl
 | r :: rs,o=>by simp [NB,qz g L rs]
theorem tK {g L:Nat} {o:Option (List Int)} {r:List Int} (h:∀ a,o=some a->a.length=L):(rS g L o r).length=L:=by
 cases o with
 | none=>exact zI r L
 | some a=>simp [rS,JL,h a rfl]
theorem uf {g L:Nat}:∀ {rs:List (List Int)} {o:Option (List Int)},(∀ a,o=some a->a.length=L)->∀ b∈NB g L rs o,b.length=L
 | [],_,_,b,hb=>by simp [NB] at hb
 | r :: rs,o,h,b,hb=>by
  rcases List.mem_cons.mp hb with rfl | hb
  ·exact tK h
  ·exact uf (rs:=rs) (λ a e=>by cases e;exact tK h) b hb
theorem zg {g L:Nat}:∀ (rs:List (List Int)) (r:List Int) (o:Option (List Int)),NB g L (rs++[r]) o=NB g L rs o++[rS g L ((NB g L rs o).getLast?.or o) r]
 | [],r,o=>by simp [NB]
 | s :: rs,r,o=>by
  rw [List.cons_append,NB,zg rs r,NB,List.cons_append]
  congr 3
  cases rs with
  | nil=>simp [NB]
  | cons s' rs =>
   rw [List.getLast?_cons]
   simp only [NB,List.getLast?_cons,Option.some_or]
   simp
theorem nn {a:List Int} {g d:Nat} {v:Int}:v∈(a.take (d + 1)).drop (d - g) ↔ ∃ i,i <= d/\d <= i + g/\a[i]?=some v:=by
 rw [List.mem_iff_getElem?]
 constructor
 ·rintro ⟨k,h⟩
  rw [List.getElem?_drop] at h
  have hlt:d - g + k < d + 1:=by
   rcases Nat.lt_or_ge (d - g + k) (d + 1) with h' | h'
   ·exact h'
   ·rw [List.getElem?_take_eq_none h'] at h;cases h
  rw [List.getElem?_take_of_lt hlt] at h
  exact ⟨d - g + k,by omega,by omega,h⟩
 ·rintro ⟨i,h1,h2,h3⟩
  refine ⟨i - (d - g),?_⟩
  rw [List.getElem?_drop,show d - g + (i - (d - g))=i by omega,List.getElem?_take_of_lt (by omega)]
  exact h3
theorem tT {a:List Int} {g d:Nat} (h:d < a.length):(a.take (d + 1)).drop (d - g) ≠ []:=by
 intro e
 have:a[d]∈(a.take (d + 1)).drop (d - g):=nn.mpr ⟨d,Nat.le_refl _,by omega,List.getElem?_eq_getElem h⟩
 rw [e] at this
 cases this
theorem JI {a:List Int} {g d i:Nat} (hd:d < a.length) (h1:i <= d) (h2:d <= i + g):mw a g d <= a.getD i 0:=by
 have hi:i < a.length:=by omega
 rw [fG (List.getElem?_eq_getElem hi)]
 exact (jV (tT hd)).2 _ (nn.mpr ⟨i,h1,h2,List.getElem?_eq_getElem hi⟩)
theorem Best.eq {a:List Int} {g d j:Nat} (hd:d < a.length) (B:Best a g d j):a.getD j 0=mw a g d:=by
 obtain ⟨i,h1,h2,h3⟩:=nn.mp (jV (tT (g:=g) hd)).1
 have e1:=B.least i h1 h2
 have e2:=JI hd B.le B.near
 have e3:a.getD i 0=mw a g d:=fG h3
 omega
theorem D5 {t:List Nat} {b:List Int}:∀ (h:t.length=b.length),kM (cE t) (b.map D.int)=(List.range t.length).map λ k:Nat=>D.tup [.int ((t.getD k 0:Nat):Int),.int (b.getD k 0)]:=by
 induction t generalizing b with
 | nil=>intro h;cases b <;> simp_all [kM]
 | cons x t ih =>
  intro h
  cases b with
  | nil=>simp at h
  | cons y b =>
   rw [List.length_cons,List.range_succ_eq_map]
   show D.tup [.int (x:Int),.int y] :: kM (cE t) (b.map D.int)=D.tup [.int (x:Int),.int y] :: ((List.range t.length).map Nat.succ).map _
   rw [ih (by simpa using h),List.map_map]
   rfl
theorem oY {a r:List Int} {g:Nat} (ha:a.length <= 900) (hr:r.length <= 1000000):bv [ag a,ag r,.int (g:Int)]=.ok ((JL g a r).map D.int):=by
 obtain ⟨t,ht,htl,hB⟩:=zl (a:=a) (g:=g) ha
 have ho:=ve (r:=r) (L:=a.length) hr (by omega)
 unfold bv em dZ
 rw [aE (δ':=[some (.sh (ag a)),some (.sh (ag r)),some (.sh (.int g)),some (.sh (ag (yx r a.length)))]) (by
  show bo _ _ [some (.sh (ag a)),some (.sh (ag r)),some (.sh (.int g)),none]=_
  simp_arith [ho])]
 unfold dL
 rw [oE (l:=List.range t.length) (h:=λ k:Nat=>D.tup [.int ((t.getD k 0:Nat):Int),.int ((yx r a.length).getD k 0)]) (g:=λ k:Nat=>D.int (mw a g k + ob r (k:Int))) (δ1:=λ k:Nat=>[some (.sh (ag a)),some (.sh (ag r)),some (.sh (.int g)),some (.sh (ag (yx r a.length))),some (.sh (.int (((t.getD k 0:Nat):Int)))),some (.sh (.int (((yx r a.length).getD k 0))))]) (by
  show ((af (aQ bH (af (ac 0) (af (ac 2) (au)))) (af (ac 3) (au))) [some (.sh (ag a)),some (.sh (ag r)),some (.sh (.int g)),some (.sh (ag (yx r a.length)))]).bind r6=_
  simp_arith [ht]
  show R.ok (kM (cE t) ((yx r a.length).map D.int))=_
  rw [D5 (by rw [zI,htl])]) (by rw [List.length_range];omega) (λ k _=>rfl) (λ k hk=>by
  have hk:=List.mem_range.mp hk
  have hka:k < a.length:=by omega
  have hj:t[k]?=some (t.getD k 0):=by rw [List.getD_eq_getElem?_getD,List.getElem?_eq_getElem hk];rfl
  have B:=hB k _ hj
  have hjl:t.getD k 0 < a.length:=by have:=B.le;omega
  have i1:bP (ag a) (.int ((t.getD k 0:Nat):Int))=.ok (.int (a.getD (t.getD k 0) 0)):=b9 (by rw [List.getD_eq_getElem?_getD (i:=t.getD k 0),List.getElem?_eq_getElem hjl];rfl)
  have e2:(yx r a.length).getD k 0=ob r (k:Int):=fG (by simp [yx,hka])
  rw [<- B.eq hka,<- e2]
  simp_arith [i1])]
 simp [JL,htl,l4]
theorem oN {rows:List (List Int)} {g L:Nat} (hL:L <= 900) (hn:rows.length < 1000) (hr:∀ r∈rows,r.length <= 1000000):bu [ae rows,.int (g:Int),.int (L:Int)]=.ok ((NB g L rows none).map ag):=by
 unfold bu eh
 rw [aE (δ':=[some (.sh (ae rows)),some (.sh (.int g)),some (.sh (.int L)),some (.ow ([])),none]) (by simp [iH,av,lim])]
 obtain ⟨δ',e,x4,h⟩:=iW (f:=ag) (l:=rows) (i:=4) (fit:=λ δ=>((ac 0) δ).bind aV) (F:=cH) (δ:=[some (.sh (ae rows)),some (.sh (.int g)),some (.sh (.int L)),some (.ow ([])),none])
  (λ k δ=>∃ x4,δ=[some (.sh (ae rows)),some (.sh (.int g)),some (.sh (.int L)),some (.ow ((NB g L (rows.take k) none).map ag)),x4]) rfl ⟨none,rfl⟩ (by
   rintro k r δ hk ⟨x4,rfl⟩
   have hkl:=(List.getElem?_eq_some_iff.mp hk).1
   have hrm:=hr r (List.mem_of_getElem? hk)
   have ho:=pO (r:=r) (L:=L) hrm (by omega)
   have et:rows.take (k + 1)=rows.take k++[r]:=by rw [List.take_add_one,hk];rfl
   refine ⟨_,.inl ?_,some (.sh (ag r)),rfl⟩
   rw [et,zg]
   have hne:=eJ (NB g L (rows.take k) none)
   have hll:(NB g L (rows.take k) none).length <= 1000:=by rw [qz,List.length_take];omega
   have hrow:∀ b∈NB g L (rows.take k) none,b.length=L:=uf (λ a e=>by cases e)
   generalize NB g L (rows.take k) none=P at *
   show cH [some (.sh (ae rows)),some (.sh (.int g)),some (.sh (.int L)),some (.ow (P.map ag)),some (.sh (ag r))]=_
   unfold cH
   rcases List.eq_nil_or_concat P with rfl | ⟨p,b,rfl⟩
   ·rw [bQ (by simp_arith [hne];rfl),bZ (d:=ag (yx r L)) (by simp_arith [ho]) rfl (by simp)]
    simp [rS]
   ·rw [List.concat_eq_append] at *
    have hb:=hrow b (by simp)
    have hnb:=oY (a:=b) (r:=r) (g:=g) (by omega) hrm
    have il:bP (.lst ((p++[b]).map ag)) (.int (-1))=.ok (ag b):=fX (by simp)
    have hem:(p++[b]).isEmpty=false:=by simp
    rw [hem] at hne
    rw [bx (by simp_arith [hne]),bZ (d:=ag (JL g b r)) (by simp_arith [il,hnb]) rfl (by rw [List.length_map];omega)]
    simp [rS])
 unfold dJ dY
 rw [aE e,h,List.take_length]
 rfl
theorem wX {r:List Int} {m:Int} (h:m∈r) (hl:r.length <= 1000000):nu (ag r) [.int m]=.ok (.int ((r.findIdx (· == m):Nat):Int)):=by
 have hix:Hj (r.map D.int) (.int m)=r.findIdx (· == m):=by
  unfold Hj
  rw [List.findIdx_map]
  congr 1
 have hlt:r.findIdx (· == m) < r.length:=List.findIdx_lt_length.mpr ⟨m,h,by simp⟩
 unfold nu
 simp only
 rw [show nG (.int m)=true from rfl,show nG (.lst (r.map D.int))=true from kH r,hix,List.length_map]
 simp [hlt,hl]
theorem AK {r:List Int} (h:r ≠ []):rk (ag r)=.ok (.int (kE r)):=by
 unfold rk
 simp only [mj]
 cases r with
 | nil=>exact absurd rfl h
 | cons a r=>rfl
theorem Hu (l:List Nat):cE l=(l.map λ n:Nat=>(n:Int)).map D.int:=by simp [cE]
structure Days (g L:Nat) (N:List (List Int)) (ds:List Nat):Prop where
 len:ds.length=N.length
 bd:∀ d∈ds,d < L
 best:∀ (k:Nat) a x y,N[k]?=some a->ds[k]?=some x->ds[k + 1]?=some y->Best a g y x
 last:∀ a x,N.getLast?=some a->ds.getLast?=some x->a.getD x 0=kE a
theorem Days.cons {g L:Nat} {N:List (List Int)} {ds:List Nat} {a:List Int} {x:Nat} (h:Days g L N ds) (hx:x < L) (h1:∀ y,ds.head?=some y->Best a g y x) (h2:ds=[]->a.getD x 0=kE a):Days g L (a :: N) (x :: ds) where
 len:=by simp [h.len]
 bd:=λ d hd=>by
  rcases List.mem_cons.mp hd with rfl | hd
  ·exact hx
  ·exact h.bd d hd
 best:=λ k b u v hb hu hv=>by
  cases k with
  | zero =>
   cases hb;cases hu
   exact h1 v (by rw [List.head?_eq_getElem?];simpa using hv)
  | succ k=>exact h.best k b u v (by simpa using hb) (by simpa using hu) (by simpa using hv)
 last:=λ b u hb hu=>by
  rcases List.eq_nil_or_concat ds with rfl | ⟨ds',z,rfl⟩
  ·have hN:N=[]:=by have:=h.len;simpa using this.symm
   subst hN
   cases hb;cases hu
   exact h2 rfl
  ·rw [List.concat_eq_append] at *
   have hNe:N ≠ []:=by
    intro e
    have:=h.len
    rw [e] at this
    simp at this
   refine h.last b u ?_ ?_
   ·rw [List.getLast?_cons_of_ne_nil hNe] at hb;exact hb
   ·rw [List.getLast?_cons_of_ne_nil (by simp)] at hu;exact hu
theorem GU {N:List (List Int)} {g L:Nat} (hL:L <= 900) (hL1:1 <= L) (hn:N.length < 1000) (hN:∀ a∈N,a.length=L):∃ ds:List Nat,bc [ae N,.int (g:Int)]=.ok (cE ds)/\Days g L N ds:=by
 unfold bc dI
 rw [aE (δ':=[some (.sh (ae N)),some (.sh (.int g)),some (.ow ([])),none,none]) (by simp [df,av,lim])]
 obtain ⟨δ',e,ds,x3,x4,hD,rfl⟩:=iW (f:=ag) (l:=N.reverse) (i:=3) (fit:=λ δ=>((ac 0) δ).bind vI) (F:=b7) (δ:=[some (.sh (ae N)),some (.sh (.int g)),some (.ow ([])),none,none])
  (λ k δ=>∃ (ds:List Nat) (x3 x4:Option Sl),Days g L (N.drop (N.length - k)) ds/\δ=[some (.sh (ae N)),some (.sh (.int g)),some (.ow (cE ds.reverse)),x3,x4]) (by simp) ⟨[],none,none,⟨by simp,by simp,by simp,by simp⟩,rfl⟩ (by
   rintro k a δ hk ⟨ds,x3,x4,hD,rfl⟩
   have hkl:k < N.length:=by have:=(List.getElem?_eq_some_iff.mp hk).1;simpa using this
   have hr:N[N.length - 1 - k]?=some a:=by rw [<- List.getElem?_reverse hkl];exact hk
   have ha:=hN a (List.mem_of_getElem? hr)
   have hsplit:N.drop (N.length - (k + 1))=a :: N.drop (N.length - k):=by
    rw [List.drop_eq_getElem_cons (by omega)]
    congr 1
    ·have h2:=(List.getElem?_eq_some_iff.mp hr).2
     rw [<- h2]
     congr 1
     omega
    ·congr 1
     omega
   have hdl:ds.length <= 1000:=by rw [hD.len,List.length_drop];omega
   have hne:=ja (ds.reverse.map λ n:Nat=>(n:Int))
   have hane:a ≠ []:=by intro z;rw [z] at ha;simp at ha;omega
   obtain ⟨t,ht,htl,hB⟩:=zl (a:=a) (g:=g) (by omega)
   rw [hsplit]
   rw [Hu]
   show ∃ δ2,(b7 [some (.sh (ae N)),some (.sh (.int g)),some (.ow ((ds.reverse.map λ n:Nat=>(n:Int)).map D.int)),some (.sh (ag a)),x4]=_ \/ _)/\_
   unfold b7
   cases ds with
   | nil =>
    have hmin:=AK hane
    have hm:=(jV hane).1
    have hix:=wX hm (by omega)
    have hlt:a.findIdx (· == kE a) < a.length:=List.findIdx_lt_length.mpr ⟨_,hm,by simp⟩
    have hval:a.getD (a.findIdx (· == kE a)) 0=kE a:=by
     have:=List.findIdx_getElem (p:=(· == kE a)) (w:=hlt)
     rw [fG (List.getElem?_eq_getElem hlt)]
     simpa using this
    generalize a.findIdx (· == kE a)=x at *
    refine ⟨[some (.sh (ae N)),some (.sh (.int g)),some (.ow (cE [x])),some (.sh (ag a)),some (.sh (.int x))],.inl ?_,[x],_,_,hD.cons (by omega) (by simp) (λ _=>hval),rfl⟩
    rw [ah (δ':=[some (.sh (ae N)),some (.sh (.int g)),some (.ow ([])),some (.sh (ag a)),some (.sh (.int x))]) (by
     rw [bQ (by simp_arith [hne];rfl)]
     have e1:JF nu (ac 3) (af (m1 rk (ac 3)) (au)) [some (.sh (ae N)),some (.sh (.int g)),some (.ow (([].reverse.map λ n:Nat=>(n:Int)).map D.int)),some (.sh (ag a)),x4]=.ok (.int (x:Int)):=by
      unfold JF
      simp_arith [hmin,hix]
     exact (bR e1).trans rfl)]
    rw [bZ (d:=.int (x:Int)) (by simp_arith []) rfl (by simp)]
    rfl
   | cons y ds' =>
    have hy:y < L:=hD.bd y List.mem_cons_self
    have hyt:y < t.length:=by omega
    have B:=hB y _ (List.getElem?_eq_getElem hyt)
    have hem:((y :: ds').reverse.map λ n:Nat=>(n:Int)).isEmpty=false:=by simp
    rw [hem] at hne
    have il:bP (.lst (((y :: ds').reverse.map λ n:Nat=>(n:Int)).map D.int)) (.int (-1))=.ok (.int (y:Int)):=fX (by simp)
    have it:bP (.lst (cE t)) (.int (y:Int))=.ok (.int (t[y]:Int)):=jb (iL (by simp [hyt]))
    generalize t[y]=x at *
    refine ⟨[some (.sh (ae N)),some (.sh (.int g)),some (.ow (cE (x :: y :: ds').reverse)),some (.sh (ag a)),some (.sh (.int x))],.inl ?_,x :: y :: ds',_,_,hD.cons (by have:=B.le;omega) (λ z hz=>by cases hz;exact B) (by simp),rfl⟩
    rw [ah (δ':=[some (.sh (ae N)),some (.sh (.int g)),some (.ow (((y :: ds').reverse.map λ n:Nat=>(n:Int)).map D.int)),some (.sh (ag a)),some (.sh (.int x))]) (by
     rw [bx (by simp_arith [hne])]
     simp_arith [ht,il,it])]
    rw [bZ (d:=.int (x:Int)) (by simp_arith []) rfl (by simp at hdl ⊢;omega)]
    simp [cE])
 refine ⟨ds,?_,by simpa using hD⟩
 unfold cV di
 rw [aE e]
 simp [cW,dj,cX,gP,l4,aX]
noncomputable def AV (rows:List (List Int)) (ds:List Nat):List Nat:=(List.range rows.length).filter λ k=>!decide (((ds.getD k 0:Nat):Int)∈rows.getD k [])
theorem mH:∀ (l:List (List Int)) (n:Nat),bM n (l.map ag)=(List.range l.length).map λ k:Nat=>D.tup [.int ((n + k:Nat):Int),ag (l.getD k [])]
 | [],n=>rfl
 | a :: l,n=>by
  rw [List.map_cons,bM,mH l (n + 1),List.length_cons,List.range_succ_eq_map,List.map_cons,List.map_map]
  refine congr (congrArg _ (by simp)) (List.map_congr_left λ k _=>?_)
  simp
  omega
theorem qV {rows:List (List Int)} {g L:Nat} (hL:L <= 900) (hL1:1 <= L) (hn:rows.length < 1000) (hr:∀ r∈rows,r.length <= 1000000):∃ ds:List Nat,Days g L (NB g L rows none) ds ∧
  bB [ae rows,.int (g:Int),.int (L:Int)]=.ok (cE (AV rows ds),cE ds,(NB g L rows none).map ag):=by
 have hf:=oN (rows:=rows) (g:=g) hL hn hr
 have hrow:∀ b∈NB g L rows none,b.length=L:=uf (λ a e=>by cases e)
 obtain ⟨ds,hds,hD⟩:=GU (N:=NB g L rows none) (g:=g) hL hL1 (by rw [qz];exact hn) hrow
 refine ⟨ds,hD,?_⟩
 have hlen:=hD.len
 rw [qz] at hlen
 have hfl:eR ((NB g L rows none).map ag)=true:=m7 λ b hb=>by have:=hrow b hb;omega
 generalize NB g L rows none=N at *
 unfold bB gf re
 rw [show av 6 [ae rows,.int (g:Int),.int (L:Int)]=[some (.sh (ae rows)),some (.sh (.int g)),some (.sh (.int L)),none,none,none] from rfl]
 have s1:(af (ac 0) (af (ac 1) (af (ac 2) (au)))) [some (.sh (ae rows)),some (.sh (.int g)),some (.sh (.int L)),none,none,none]=.ok [ae rows,.int (g:Int),.int (L:Int)]:=by simp_arith []
 dsimp only
 rw [s1,R.bind_ok,hf]
 dsimp only
 have s2:(af (ac 3) (af (ac 1) (au))) (List.set [some (.sh (ae rows)),some (.sh (.int g)),some (.sh (.int L)),none,none,none] 3 (some (.sh (.lst (N.map ag)))))=.ok [ae N,.int (g:Int)]:=by
  show (af (ac 3) (af (ac 1) (au))) [some (.sh (ae rows)),some (.sh (.int g)),some (.sh (.int L)),some (.sh (ae N)),none,none]=_
  simp_arith []
 rw [s2,R.bind_ok,hds]
 dsimp only
 rw [show (List.set (List.set ([some (.sh (ae rows)),some (.sh (.int g)),some (.sh (.int L)),none,none,none]:Ev) 3 (some (Sl.sh (D.lst (N.map ag))))) 4 (some (Sl.sh (D.lst (cE ds)))):Ev)=[some (.sh (ae rows)),some (.sh (.int g)),some (.sh (.int L)),some (.sh (ae N)),some (.sh (.lst (cE ds))),none] from rfl]
 rw [nL (l:=List.range rows.length) (h:=λ k:Nat=>D.tup [.int ((0 + k:Nat):Int),ag (rows.getD k [])]) (g:=λ k:Nat=>D.int (k:Int)) (p:=λ k=>!decide (((ds.getD k 0:Nat):Int)∈rows.getD k [])) (δ1:=λ k:Nat=>[some (.sh (ae rows)),some (.sh (.int g)),some (.sh (.int L)),some (.sh (ae N)),some (.sh (.lst (cE ds))),none,some (.sh (.int (((0 + k:Nat):Int)))),some (.sh (ag (rows.getD k [])))]) (by
  show R.ok (bM 0 (rows.map ag))=_
  rw [mH]) (by simp;omega) (λ k _=>rfl) (λ k hk=>by
  have hk:=List.mem_range.mp hk
  have hkd:k < ds.length:=by omega
  have i1:bP (.lst (cE ds)) (.int ((0 + k:Nat):Int))=.ok (.int ((ds.getD k 0:Nat):Int)):=by
   rw [Nat.zero_add]
   refine jb (iL ?_)
   rw [List.getElem?_map,List.getElem?_eq_getElem hkd,List.getD_eq_getElem?_getD,List.getElem?_eq_getElem hkd]
   rfl
  have hin:=w8 ((ds.getD k 0:Nat):Int) (rows.getD k [])
  simp_arith [i1,hin]) (λ k _ _=>by simp_arith [Nat.zero_add])]
 dsimp only
 rw [hfl]
 rfl
theorem qa {rows:List (List Int)} {g L:Nat} {ds:List Nat} (h:bB [ae rows,.int (g:Int),.int (L:Int)]=.ok (cE (AV rows ds),cE ds,(NB g L rows none).map ag)) :
  cz [ae rows,.int (g:Int),.int (L:Int)]=.ok (.tup [.lst (cE (AV rows ds)),.lst (cE ds),ae (NB g L rows none)]):=by
 unfold cz JH
 rw [h]
 rfl
theorem qK (rs:List (List Int)) (h:rs.length <= 1000000):bJ [ae rs]=.ok (rs.map ag):=by
 unfold bJ jl
 rw [show av 1 [ae rs]=[some (.sh (ae rs))] from rfl,iN (l:=rs) (h:=ag) (g:=ag) rfl h (λ r _=>rfl)]
 rfl
theorem Ad (rs:List (List Int)) (h:rs.length <= 1000000):eF [ae rs]=.ok (ae rs):=tD (qK rs h)
theorem zA (r:List Int) (h:r.length < 1000000):cI [ag r,ag r]=.ok (.bl true):=by
 unfold cI mK
 rw [ah (δ':=[some (.sh (ag r)),some (.sh (ag r)),none]) (by simp [kw,av,m9])]
 obtain ⟨δ',e,x2,h3⟩:=cU (fit:=λ δ=>((af (m1 cj (ac 1)) (au)) δ).bind lW) (bd:=bN 2) (F:=kq) (δ:=[some (.sh (ag r)),some (.sh (ag r)),none]) (ds:=kZ 0 r.length)
  (λ k δ=>∃ x2,δ=[some (.sh (ag r)),some (.sh (ag r)),x2]) (wG rfl (List.length_map _) (by omega)) ⟨none,rfl⟩ (by
   rintro k d δ hd ⟨x2,rfl⟩
   obtain ⟨rfl,hk⟩:=ke hd
   have hk':k < r.length:=by omega
   have hix:bP (ag r) (.int (k:Int))=.ok (.int r[k]):=b9 (by simp [hk'])
   refine ⟨[some (.sh (ag r)),some (.sh (ag r)),some (.sh (.int (0 + k)))],[some (.sh (ag r)),some (.sh (ag r)),some (.sh (.int (0 + k)))],rfl,.inl ?_,_,rfl⟩
   unfold kq
   simp only [qS,B3,yd,B4,gR,gS,jL,jT,bL,kA,List.getElem?_cons_succ,List.getElem?_cons_zero,R.bind_ok,Int.zero_add,hix,DY]
   simp)
 unfold km kx
 rw [ah e,h3]
 simp [kn,nK]
theorem lX (rs:List (List Int)) (h:rs.length < 1000000) (h2:∀ r∈rs,r.length < 1000000):bT [ae rs,ae rs]=.ok (.bl true):=by
 unfold bT lq
 rw [ah (δ':=[some (.sh (ae rs)),some (.sh (ae rs)),none]) (by simp [jE,av,m9])]
 obtain ⟨δ',e,x2,h3⟩:=cU (fit:=λ δ=>((af (m1 cj (ac 1)) (au)) δ).bind lW) (bd:=bN 2) (F:=jy) (δ:=[some (.sh (ae rs)),some (.sh (ae rs)),none]) (ds:=kZ 0 rs.length)
  (λ k δ=>∃ x2,δ=[some (.sh (ae rs)),some (.sh (ae rs)),x2]) (wG rfl (List.length_map _) (by omega)) ⟨none,rfl⟩ (by
   rintro k d δ hd ⟨x2,rfl⟩
   obtain ⟨rfl,hk⟩:=ke hd
   have hk':k < rs.length:=by omega
   have hix:bP (ae rs) (.int (k:Int))=.ok (ag rs[k]):=nV (by simp [hk'])
   refine ⟨[some (.sh (ae rs)),some (.sh (ae rs)),some (.sh (.int (0 + k)))],[some (.sh (ae rs)),some (.sh (ae rs)),some (.sh (.int (0 + k)))],rfl,.inl ?_,_,rfl⟩
   unfold jy
   simp only [qS,B3,yd,B4,gR,gS,jL,jT,bL,kA,List.getElem?_cons_succ,List.getElem?_cons_zero,R.bind_ok,Int.zero_add,hix,zA _ (h2 _ (List.getElem_mem hk'))]
   simp)
 unfold jq jF
 rw [ah e,h3]
 simp [jr,mD]
theorem B2 (c:Int) (mx:Bool) {n m:Nat} (hn:n <= 1000) (hm:0 < m) (hm2:m <= 1000):∃ ps:List Int,d8 [.int c,.bl mx,.int n,.int m]=.ok (ag ps)/\ps.length=n/\∀ x∈ps,0 <= x/\x < m:=by
 unfold d8 lb
 rw [ah (δ':=[some (.sh (.int c)),some (.sh (.bl mx)),some (.sh (.int n)),some (.sh (.int m)),some (.ow []),none,none]) (by simp [jB,av,lim])]
 unfold jn
 rw [ah (δ':=[some (.sh (.int c)),some (.sh (.bl mx)),some (.sh (.int n)),some (.sh (.int m)),some (.ow []),some (.sh (.int c)),none]) (by simp [jC])]
 have hm':(0:Int) < m:=by omega
 have hmod:∀ x:Int,cL (.int x) (.int (m:Int))=.ok (.int (x % m)):=λ x=>aR _ hm'
 have hdiv:∀ x:Int,nr (.int x) (.int (m:Int))=.ok (.int (x / m)):=λ x=>eI _ hm' (by omega)
 obtain ⟨δ',e,ps,r,x6,hl,hb,h3⟩:=cU (fit:=λ δ=>((af (ac 2) (au)) δ).bind lW) (bd:=bN 6) (F:=fP) (δ:=[some (.sh (.int c)),some (.sh (.bl mx)),some (.sh (.int n)),some (.sh (.int m)),some (.ow []),some (.sh (.int c)),none]) (ds:=kZ 0 n)
  (λ k δ=>∃ (ps:List Int) (r:Int) (x6:Option Sl),ps.length=k/\(∀ x∈ps,0 <= x/\x < (m:Int))/\δ=[some (.sh (.int c)),some (.sh (.bl mx)),some (.sh (.int n)),some (.sh (.int m)),some (.ow (ps.map D.int)),some (.sh (.int r)),x6])
  (lU rfl (by omega)) ⟨[],c,none,rfl,by simp,rfl⟩ (by
   rintro k d δ hd ⟨ps,r,x6,hl,hb,rfl⟩
   obtain ⟨rfl,hk⟩:=ke hd
   have hlen:(ps.map D.int).length < 1000000:=by rw [List.length_map];omega
   have good:∀ y:Int,∀ x∈ps++[y % m],0 <= x/\x < (m:Int):=λ y x hx=>by
    rcases List.mem_append.mp hx with hx | hx
    ·exact hb x hx
    ·have:x=y % m:=by simpa using hx
     rw [this]
     exact ⟨Int.emod_nonneg _ (by omega),Int.emod_lt_of_pos _ hm'⟩
   cases mx with
   | true =>
    have h1:kW (.int r) (.int 48271)=.ok (.int (r * 48271)):=uT _ (by decide) (by decide)
    have h2:kW (.int 7919) (.int (0 + (k:Int)))=.ok (.int (7919 * (0 + k))):=yw _ (by decide) (by decide)
    have h3:∀ x:Int,cL (.int x) (.int 2147483647)=.ok (.int (x % 2147483647)):=λ x=>aR _ (by decide)
    have h4:∀ x:Int,cL (.int x) (.int 2147483629)=.ok (.int (x % 2147483629)):=λ x=>aR _ (by decide)
    have h5:∀ x:Int,kW (.int x) (.int 16807)=.ok (.int (x * 16807)):=λ x=>uT _ (by decide) (by decide)
    refine ⟨_,[some (.sh (.int c)),some (.sh (.bl true)),some (.sh (.int n)),some (.sh (.int m)),some (.ow ((ps++[((r * 48271 + 7919 * (0 + k) + 11) % 2147483647) * 16807 % 2147483629 % m]).map D.int)),some (.sh (.int ((r * 48271 + 7919 * (0 + k) + 11) % 2147483647))),some (.sh (.int (0 + k)))],rfl,.inl ?_,_,_,_,by simp [hl],good _,rfl⟩
    unfold fP
    rw [bQ (by simp)]
    rw [ah (δ':=[some (.sh (.int c)),some (.sh (.bl true)),some (.sh (.int n)),some (.sh (.int m)),some (.ow (ps.map D.int)),some (.sh (.int ((r * 48271 + 7919 * (0 + k) + 11) % 2147483647))),some (.sh (.int (0 + k)))]) (by
     simp only [GW,List.set_cons_succ,List.set_cons_zero,mZ,jL,wA,bL,List.getElem?_cons_succ,List.getElem?_cons_zero,R.bind_ok,h1,h2,h3,l8,eC])]
    simp only [oK,jL,wA,bL,List.getElem?_cons_succ,List.getElem?_cons_zero,R.bind_ok,h4,h5,hmod,eC,hlen,if_true,List.set_cons_succ,List.set_cons_zero]
    simp
   | false =>
    refine ⟨_,[some (.sh (.int c)),some (.sh (.bl false)),some (.sh (.int n)),some (.sh (.int m)),some (.ow ((ps++[r % m]).map D.int)),some (.sh (.int (r / m))),some (.sh (.int (0 + k)))],rfl,.inl ?_,_,_,_,by simp [hl],good _,rfl⟩
    unfold fP
    rw [bx (by simp)]
    rw [ah (δ':=[some (.sh (.int c)),some (.sh (.bl false)),some (.sh (.int n)),some (.sh (.int m)),some (.ow ((ps++[r % m]).map D.int)),some (.sh (.int r)),some (.sh (.int (0 + k)))]) (by
     simp only [GW,List.set_cons_succ,List.set_cons_zero,oK,jL,wA,bL,List.getElem?_cons_succ,List.getElem?_cons_zero,R.bind_ok,hmod,eC,hlen,if_true]
     simp)]
    simp only [mZ,jL,wA,bL,List.getElem?_cons_succ,List.getElem?_cons_zero,R.bind_ok,hdiv,eC,List.set_cons_succ,List.set_cons_zero])
 unfold jo jD
 rw [ah e,h3]
 refine ⟨ps,by simp [jp,mB,iY],?_,hb⟩
 rw [hl,je]
 omega
structure Good (L:Nat) (r:List Int):Prop where
 up:r.Pairwise (· < ·)
 bd:∀ d∈r,0 <= d/\d < L
 len:r.length <= L
noncomputable abbrev rZ (c th L:Int) (mx:Bool) (b:Int):Ev:=[xF c,some (.sh (.bl mx)),xF th,xF L,xF b,none,none]
theorem IP {c th L b:Int} {mx:Bool}:∃ b',lL (rZ c th L mx b)=.next (rZ c th L mx b'):=by
 cases mx with
 | false=>exact ⟨b,bx rfl⟩
 | true=>exact ⟨_,(bQ rfl).trans (bR (bF (bF (bF (bF (bF rfl rfl (uT _ (by decide) (by decide))) rfl rfl) rfl (aR _ (by decide))) rfl (uT _ (by decide) (by decide))) rfl (aR _ (by decide))))⟩
theorem IQ {c th L b:Int} {mx:Bool}:∃ b',lM (rZ c th L mx b)=.next (rZ c th L mx b'):=by
 cases q:(th == 1) with
 | true=>exact ⟨_,(bQ (congrArg R.ok q)).trans (bR (bF rfl (bF rfl rfl (eI _ (by decide) (by decide))) rfl))⟩
 | false=>exact ⟨b,bx (congrArg R.ok q)⟩
theorem IR {c th L b:Int} {mx:Bool}:∃ b',lN (rZ c th L mx b)=.next (rZ c th L mx b'):=by
 cases q:(th == 2) with
 | true=>exact ⟨_,(bQ (congrArg R.ok q)).trans (bR (bF (bF rfl (bF rfl rfl (eI _ (by decide) (by decide))) rfl) (bF rfl rfl (eI _ (by decide) (by decide))) rfl))⟩
 | false=>exact ⟨b,bx (congrArg R.ok q)⟩
theorem Good.snoc {k:Nat} {r:List Int} (hg:Good k r):Good (k + 1) (r++[(k:Int)]):=by
 refine ⟨?_,?_,?_⟩
 ·rw [List.pairwise_append]
  exact ⟨hg.up,by simp,λ x hx y hy=>(List.mem_singleton.mp hy) ▸ (hg.bd x hx).2⟩
 ·intro x hx
  rcases List.mem_append.mp hx with hx | hx
  ·have:=hg.bd x hx;omega
  ·obtain rfl:=List.mem_singleton.mp hx
   omega
 ·have:=hg.len
  simpa using this
theorem Good.succ {k:Nat} {r:List Int} (hg:Good k r):Good (k + 1) r:=⟨hg.up,λ x hx=>by have:=hg.bd x hx;omega,Nat.le_succ_of_le hg.len⟩
noncomputable def rE (c:Int) (mx:Bool) (th:Int) (L:Nat) (b:Int) (o:List Int) (x:Option Sl):Ev:=[some (.sh (.int c)),some (.sh (.bl mx)),some (.sh (.int th)),some (.sh (.int L)),some (.sh (.int b)),some (.ow (o.map D.int)),x]
inductive RowI (c th:Int) (mx:Bool) (L k:Nat) (δ:Ev):Prop
 | mk (b:Int) (r:List Int) (x:Option Sl) (g:Good k r) (e:δ=rE c mx th L b r x)
theorem DI {c th:Int} {mx:Bool} {L k:Nat} (hk:k < 1000) {b:Int} {r:List Int} (hg:Good k r):∃ r',Good (k + 1) r'/\lB (rE c mx th L b r (xF (0 + k)))=.next (rE c mx th L (b / 2) r' (xF (0 + k))):=by
 cases q:(b % 2 == 1) with
 | true =>
  refine ⟨_,hg.snoc,(ah ((bQ (uP (bF rfl rfl (aR _ (j:=2) (by decide))) rfl (congrArg R.ok q))).trans (bZ rfl rfl ?_))).trans ((bR (bF rfl rfl (eI _ (j:=2) (by decide) (by decide)))).trans ?_)⟩
  ·rw [List.length_map];exact Nat.lt_of_le_of_lt hg.len (Nat.lt_trans hk (by decide))
  ·unfold rE;rw [List.map_append,Int.zero_add];rfl
 | false=>exact ⟨_,hg.succ,(ah (bx (uP (bF rfl rfl (aR _ (j:=2) (by decide))) rfl (congrArg R.ok q)))).trans (bR (bF rfl rfl (eI _ (j:=2) (by decide) (by decide))))⟩
theorem FP {c th b:Int} {mx:Bool} {L:Nat} (h1:1 <= L) {r:List Int} (hg:Good L r) {x:Option Sl}:∃ r',lO (rE c mx th L b r x)=.next (rE c mx th L b r' x)/\Good L r':=by
 have hL:(0:Int) < L:=Int.natCast_pos.mpr h1
 have cond:=BH (f:=mT (ac 1)) (δ:=rE c mx th L b r x) rfl (BH (uP (fa:=bO 5) (fb:=iR au) rfl rfl (ja r)) (uP (bF (fa:=ac 0) (fb:=mC (.int 5)) rfl rfl (aR c (by decide))) (fb:=mC (.int 0)) rfl (kG _ _)))
 cases q:(mx && (r.isEmpty && decide (0 < c % 5))) with
 | true =>
  obtain rfl:r=[]:=List.isEmpty_iff.mp (Bool.and_eq_true_iff.mp (Bool.and_eq_true_iff.mp q).2).1
  refine ⟨[c / 5 % L],(bQ (cond.trans (congrArg R.ok q))).trans (bZ (bF (bF rfl rfl (eI _ (j:=5) (by decide) (by decide))) rfl (aR _ hL)) (ds:=[]) rfl (by decide)),List.pairwise_singleton _ _,λ d hd=>?_,h1⟩
  obtain rfl:=List.mem_singleton.mp hd
  exact ⟨Int.emod_nonneg _ (Int.ne_of_gt hL),Int.emod_lt_of_pos _ hL⟩
 | false=>exact ⟨r,bx (cond.trans (congrArg R.ok q)),hg⟩
theorem DH (c th:Int) (mx:Bool) {L:Nat} (h1:1 <= L) (h2:L <= 1000):∃ r,jU [.int c,.bl mx,.int th,.int L]=.ok (ag r)/\Good L r:=by
 obtain ⟨b1,e1⟩:=IP (c:=c) (th:=th) (L:=L) (b:=c % 1073741824) (mx:=mx)
 obtain ⟨b2,e2⟩:=IQ (c:=c) (th:=th) (L:=L) (b:=b1) (mx:=mx)
 obtain ⟨b3,e3⟩:=IR (c:=c) (th:=th) (L:=L) (b:=b2) (mx:=mx)
 obtain ⟨δ',e,I⟩:=cU (fit:=λ δ=>((af (ac 3) (au)) δ).bind lW) (bd:=bN 6) (F:=lB) (δ:=(rE c mx th L b3 [] none)) (ds:=kZ 0 L)
  (RowI c th mx L) (lU rfl (Nat.le_trans h2 (by decide))) ⟨b3,[],none,⟨List.Pairwise.nil,(λ _ z=>nomatch z),Nat.le_refl 0⟩,rfl⟩ (by
   rintro k d δ hd ⟨b,r,x6,hg,rfl⟩
   obtain ⟨rfl,hk⟩:=ke hd
   obtain ⟨r',hg',ht⟩:=DI (c:=c) (th:=th) (mx:=mx) (L:=L) (b:=b) (Nat.lt_of_lt_of_le (Int.ofNat_lt.mp (by rwa [Int.zero_add] at hk)) h2) hg
   exact ⟨_,_,rfl,.inl ht,_,r',_,hg',rfl⟩)
 rw [je,show ((L:Int) - 0).toNat=L by omega] at I
 obtain ⟨b,r,x6,hg,rfl⟩:=I
 obtain ⟨r',e6,hg'⟩:=FP (c:=c) (th:=th) (b:=b) (mx:=mx) h1 hg (x:=x6)
 exact ⟨r',B7 ((ah (bR (bF rfl rfl (aR _ (by decide))))).trans ((ah e1).trans ((ah e2).trans ((ah e3).trans ((ah (oy rfl)).trans ((ah e).trans ((ah e6).trans rfl))))))),hg'⟩
theorem LD (ns:List Int):aF [.lst (ns.map D.int),.int 0]=.ok (.int (cell ns 0)):=by simpa using lR ns 0
theorem LJ (ns:List Int):aF [.lst (ns.map D.int),.int 1]=.ok (.int (cell ns 1)):=by simpa using lR ns 1
theorem zc (ns:List Int) (a k L:Nat) (n th:Int) (mx:Bool) (rs:List (List Int)) (x8:Option Sl) (h1:1 <= L) (h2:L <= 1000) (hl:rs.length < 1000000):∃ r,Good L r/\∃ y8,
  fQ [some (.sh (.lst (ns.map D.int))),some (.sh (.int a)),some (.sh (.int n)),some (.sh (.int L)),some (.sh (.bl mx)),some (.sh (.int th)),some (.ow (rs.map ag)),some (.sh (.int (0 + k))),x8]
   = .next [some (.sh (.lst (ns.map D.int))),some (.sh (.int a)),some (.sh (.int n)),some (.sh (.int L)),some (.sh (.bl mx)),some (.sh (.int th)),some (.ow ((rs++[r]).map ag)),some (.sh (.int (0 + k))),y8]:=by
 have hat:aF [.lst (ns.map D.int),.int ((a:Int) + (0 + k))]=.ok (.int (cell ns (a + k))):=by
  rw [show (a:Int) + (0 + k)=((a + k:Nat):Int) by push_cast;omega]
  exact lR ns (a + k)
 have hm:kW (.int 1000003) (.int (0 + (k:Int)))=.ok (.int (1000003 * (0 + k))):=yw _ (by decide) (by decide)
 have hl':(rs.map ag).length < 1000000:=by simpa using hl
 unfold fQ
 cases mx with
 | true =>
  obtain ⟨r,hr,hg⟩:=DH (cell ns (a + k) + 1000003 * (0 + k) + cell ns 1) th true h1 h2
  refine ⟨r,hg,some (.sh (.int (cell ns (a + k) + 1000003 * (0 + k) + cell ns 1))),?_⟩
  refine Eq.trans (ah (δ':=[some (.sh (.lst (ns.map D.int))),some (.sh (.int a)),some (.sh (.int n)),some (.sh (.int L)),some (.sh (.bl true)),some (.sh (.int th)),some (.ow (rs.map ag)),some (.sh (.int (0 + k))),some (.sh (.int (cell ns (a + k))))]) (by
   simp only [mZ,gR,gS,bL,jL,kA,List.getElem?_cons_succ,List.getElem?_cons_zero,R.bind_ok,l8,hat,eC]
   rfl)) ?_
  refine Eq.trans (ah (δ':=[some (.sh (.lst (ns.map D.int))),some (.sh (.int a)),some (.sh (.int n)),some (.sh (.int L)),some (.sh (.bl true)),some (.sh (.int th)),some (.ow (rs.map ag)),some (.sh (.int (0 + k))),some (.sh (.int (cell ns (a + k) + 1000003 * (0 + k) + cell ns 1)))]) (by
   simp only [qS,B4,mZ,gR,gS,bL,jL,wA,kA,List.getElem?_cons_succ,List.getElem?_cons_zero,R.bind_ok,ze,eC,if_true,hm,l8,LJ]
   rfl)) ?_
  simp only [oK,gR,gS,bL,kA,List.getElem?_cons_succ,List.getElem?_cons_zero,R.bind_ok,hr,eC,hl',if_true]
  simp
 | false =>
  obtain ⟨r,hr,hg⟩:=DH (cell ns (a + k)) th false h1 h2
  refine ⟨r,hg,some (.sh (.int (cell ns (a + k)))),?_⟩
  refine Eq.trans (ah (δ':=[some (.sh (.lst (ns.map D.int))),some (.sh (.int a)),some (.sh (.int n)),some (.sh (.int L)),some (.sh (.bl false)),some (.sh (.int th)),some (.ow (rs.map ag)),some (.sh (.int (0 + k))),some (.sh (.int (cell ns (a + k))))]) (by
   simp only [mZ,gR,gS,bL,jL,kA,List.getElem?_cons_succ,List.getElem?_cons_zero,R.bind_ok,l8,hat,eC]
   rfl)) ?_
  refine Eq.trans (ah (δ':=[some (.sh (.lst (ns.map D.int))),some (.sh (.int a)),some (.sh (.int n)),some (.sh (.int L)),some (.sh (.bl false)),some (.sh (.int th)),some (.ow (rs.map ag)),some (.sh (.int (0 + k))),some (.sh (.int (cell ns (a + k))))]) (by
   simp only [qS,B4,bL,List.getElem?_cons_succ,List.getElem?_cons_zero,R.bind_ok,ze,eC]
   rfl)) ?_
  simp only [oK,gR,gS,bL,kA,List.getElem?_cons_succ,List.getElem?_cons_zero,R.bind_ok,hr,eC,hl',if_true]
  simp
theorem DN (ns:List Int) (a n L:Nat) (h1:1 <= L) (h2:L <= 1000) (hn:n <= 1000):∃ rs,du [.lst (ns.map D.int),.int a,.int n,.int L]=.ok (ae rs)/\rs.length=n/\∀ r∈rs,Good L r:=by
 unfold du lu
 rw [ah (δ':=[some (.sh (.lst (ns.map D.int))),some (.sh (.int a)),some (.sh (.int n)),some (.sh (.int L)),some (.sh (.bl (cell ns 0 % 2 == 0))),none,none,none,none]) (by
  simp [jG,av,LD,cL,oI])]
 unfold js
 rw [ah (δ':=[some (.sh (.lst (ns.map D.int))),some (.sh (.int a)),some (.sh (.int n)),some (.sh (.int L)),some (.sh (.bl (cell ns 0 % 2 == 0))),some (.sh (.int (cell ns 0 / 2 % 3))),none,none,none]) (by
  simp [jH,LD,cL,nr,oI])]
 unfold jt
 rw [ah (δ':=[some (.sh (.lst (ns.map D.int))),some (.sh (.int a)),some (.sh (.int n)),some (.sh (.int L)),some (.sh (.bl (cell ns 0 % 2 == 0))),some (.sh (.int (cell ns 0 / 2 % 3))),some (.ow []),none,none]) (by simp [jI,lim])]
 obtain ⟨δ',e,rs,x7,x8,hl,hg,h3⟩:=cU (fit:=λ δ=>((af (ac 2) (au)) δ).bind lW) (bd:=bN 7) (F:=fQ) (δ:=[some (.sh (.lst (ns.map D.int))),some (.sh (.int a)),some (.sh (.int n)),some (.sh (.int L)),some (.sh (.bl (cell ns 0 % 2 == 0))),some (.sh (.int (cell ns 0 / 2 % 3))),some (.ow []),none,none]) (ds:=kZ 0 n)
  (λ k δ=>∃ rs x7 x8,rs.length=k/\(∀ r∈rs,Good L r)/\δ=[some (.sh (.lst (ns.map D.int))),some (.sh (.int a)),some (.sh (.int n)),some (.sh (.int L)),some (.sh (.bl (cell ns 0 % 2 == 0))),some (.sh (.int (cell ns 0 / 2 % 3))),some (.ow (rs.map ag)),x7,x8])
  (lU rfl (by omega)) ⟨[],none,none,rfl,by simp,rfl⟩ (by
   rintro k d δ hd ⟨rs,x7,x8,hl,hg,rfl⟩
   obtain ⟨rfl,hk⟩:=ke hd
   obtain ⟨r,gr,y8,ht⟩:=zc ns a k L n (cell ns 0 / 2 % 3) (cell ns 0 % 2 == 0) rs x8 h1 h2 (by omega)
   exact ⟨_,_,rfl,.inl ht,rs++[r],_,_,by simp [hl],λ r' hr'=>(List.mem_append.mp hr').elim (hg r') λ z=>by
    have:r'=r:=by simpa using z
    exact this ▸ gr,rfl⟩)
 unfold ju jJ
 rw [ah e,h3]
 refine ⟨rs,by simp [jv,mE,iY],?_,hg⟩
 rw [hl,je]
 omega
structure RowOk (r:List Int):Prop where
 up:r.Pairwise (· < ·)
 bd:∀ d∈r,0 <= d/\d < 800
 len:r.length <= 60
theorem DM (ps:List Int) {a b:Nat} (h:a <= b) (h2:b <= ps.length):CG (ag ps) (some (a:Int)) (some (b:Int))=.ok (ag ((ps.drop a).take (b - a))):=by
 simp only [CG,ag]
 rw [BX _ h (by rw [List.length_map];exact h2),<- List.map_drop,<- List.map_take]
theorem zb (ps:List Int) {a:Nat} (h:a <= ps.length):CG (ag ps) (some (a:Int)) none=.ok (ag (ps.drop a)):=by
 simp only [CG,ag]
 rw [sY _ (by rw [List.length_map];exact h),<- List.map_drop]
structure HidOk (L:Nat) (g:Int) (day:Int) (k:Nat) (path:List Int) (rs:List (List Int)):Prop where
 pl:path.length=k
 rl:rs.length=k
 ok:∀ r∈rs,RowOk r/\(∀ d∈r,d < L)/\r.length <= 7/\r ≠ []
 wh:path∈ED g rs
 last:0 < k->path.getLast?=some day
 bd:0 <= day/\day < L
theorem EQ {x0 x1 x2 x4 x5 x6 x7 x8 x10 x11 x13 x14:Option Sl} {L:Nat} {day:Int} {ps:List Int} (hp:2 <= ps.length) (hl:ps.length < 1000) :
  mL (bj 1 (λ δ=>((AD (ac 12) (mP (mC (.int 2))) (sw)) δ).bind aV) (bN 15) (λ _=>.ok true) (yp nW (af (m2 kX (ac 3) (mC (.int 1))) (af (m2 d0 (ac 9) (m2 cL (ac 15) (mC (.int 9)))) (au))))) [x0,x1,x2,some (.sh (.int L)),x4,x5,x6,x7,x8,some (.sh (.int day)),x10,x11,some (.sh (ag ps)),x13,x14]
   = .ok (ag ((ps.drop 2).map λ p=>if day + p % 9 < (L:Int) - 1 then day + p % 9 else (L:Int) - 1)):=by
 have hs:=zb ps (a:=2) hp
 rw [show (((2:Nat)):Int)=2 from rfl] at hs
 generalize hδ:([x0,x1,x2,some (.sh (.int L)),x4,x5,x6,x7,x8,some (.sh (.int day)),x10,x11,some (.sh (ag ps)),x13,x14]:Ev)=δ
 have sh:nD δ=[Bn x0,Bn x1,Bn x2,some (.sh (.int L)),Bn x4,Bn x5,Bn x6,Bn x7,Bn x8,some (.sh (.int day)),Bn x10,Bn x11,some (.sh (ag ps)),Bn x13,Bn x14]:=by rw [<- hδ];rfl
 have hf:(λ δ=>((AD (ac 12) (mP (mC (.int 2))) (sw)) δ).bind aV) δ=.ok ((ps.drop 2).map D.int):=by
  rw [<- hδ]
  show ((AD (ac 12) (mP (mC (.int 2))) (sw)) _).bind aV=_
  simp_arith [hs]
 rw [GX,iN (l:=ps.drop 2) (h:=D.int) (g:=λ p=>D.int (if day + p % 9 < (L:Int) - 1 then day + p % 9 else (L:Int) - 1)) hf (by rw [List.length_drop];omega) (λ p _=>by
  have hm:cL (.int p) (.int 9)=.ok (.int (p % 9)):=aR _ (by decide)
  rw [sh]
  simp_arith [List.cons_append,List.nil_append,hm,CF]) (by rw [<- hδ];rfl)]
 rw [R.bind_ok]
 congr 2
 rw [List.map_map]
 rfl
noncomputable def hX (N:D) (ai n L:Nat) (g:Int) (mx near:Bool) (path:List Int) (rs:List (List Int)) (day:Int) (x a b c d:Option Sl):Ev:=[some (.sh N),some (.sh (.int ai)),some (.sh (.int n)),some (.sh (.int L)),some (.sh (.int g)),some (.sh (.bl mx)),some (.sh (.bl near)),some (.ow (path.map D.int)),some (.ow (rs.map ag)),some (.sh (.int day)),x,a,b,c,d]
noncomputable abbrev hE (N:D) (ai n L:Nat) (g:Int) (mx near:Bool) (path:List Int) (rs:List (List Int)) (day:Int) (k:Nat) (a b c d:Option Sl):Ev:=hX N ai n L g mx near path rs day (some (.sh (.int (0 + (k:Int))))) a b c d
theorem EO {day L p:Int} (h:0 <= day/\day < L):0 <= (if day + p % 9 < L - 1 then day + p % 9 else L - 1)/\(if day + p % 9 < L - 1 then day + p % 9 else L - 1) < L:=by split <;> omega
theorem JE {l:List Int} {x:Int} (h:l.length <= 6):(l++[x]).length <= 7:=by simpa using h
theorem Hg (ns:List Int) {N:D} (hN:D.lst (ns.map D.int)=N) {ai L n k:Nat} {g day c:Int} {mx near:Bool} {path:List Int} {rs:List (List Int)} {x12 x13 x14:Option Sl}:∃ cl:Int,fN (mT (ac 5)) (bo 11 (m2 d0 (m2 d0 (ac 11) (m2 kW (mC (.int 1000003)) (ac 10))) (aQ aF (af (ac 0) (af (mC (.int 1)) (au)))))) (SR.next) (hE N ai n L g mx near path rs day k (xF c) x12 x13 x14)
   = .next (hE N ai n L g mx near path rs day k (xF cl) x12 x13 x14):=by
 cases mx with
 | true=>exact ⟨c + 1000003 * (0 + k) + cell ns 1,(bQ rfl).trans (bR (bF (bF rfl (bF rfl rfl (yw _ (by decide) (by decide))) rfl) (mf rfl (hN ▸ lR ns 1)) rfl))⟩
 | false=>exact ⟨c,bx rfl⟩
theorem Cg {N:D} {ai L n k:Nat} {g day cl p0 p1:Int} {mx near:Bool} {path aG:List Int} {rs:List (List Int)} {q:Nat} (hg:0 <= g) (hday:0 <= day/\day < L) (hrl:aG.length=6) (hpb:∀ d∈p0 :: p1 :: aG,0 <= d/\d < (L:Int)) (hq2:q <= 5) :
  ∃ (step:Int) (oth:List Int),fN (mT (ac 6)) (aD (bo 13 (yp AJ (af (nT (m2 (kI kg) (m2 cL (m2 bP (ac 12) (mC (.int 0))) (mC (.int 5))) (mC (.int 1))) (m2 (kI wV) (ac 4) (mC (.int 0)))) (au)))) (bo 14 (mL (bj 1 (λ δ=>((AD (ac 12) (mP (mC (.int 2))) (sw)) δ).bind aV) (bN 15) (λ _=>.ok true) (yp nW (af (m2 kX (ac 3) (mC (.int 1))) (af (m2 d0 (ac 9) (m2 cL (ac 15) (mC (.int 9)))) (au)))))))) (SR.next)
   (hE N ai n L g mx near path rs day k (xF cl) (GF (p0 :: p1 :: aG)) (xF (p0 % (g + 1))) (GF (aG.take q)))
   = .next (hE N ai n L g mx near path rs day k (xF cl) (GF (p0 :: p1 :: aG)) (xF step) (GF oth))/\0 <= step/\step <= g/\(∀ d∈oth,0 <= d/\d < (L:Int))/\oth.length <= 6:=by
 cases near with
 | false =>
  refine ⟨p0 % (g + 1),aG.take q,bx rfl,Int.emod_nonneg _ (Int.ne_of_gt (Int.lt_add_one_of_le hg)),Int.le_of_lt_add_one (Int.emod_lt_of_pos p0 (Int.lt_add_one_of_le hg)),λ d hd=>?_,?_⟩
  ·exact hpb d (.tail _ (.tail _ (List.mem_of_mem_take hd)))
  ·rw [List.length_take];exact Nat.le_trans (Nat.min_le_left _ _) (Nat.le_succ_of_le hq2)
 | true =>
  refine ⟨if (p0 % 5 == 1 && decide (0 < g))=true then 1 else 0,aG.map λ p=>if day + p % 9 < (L:Int) - 1 then day + p % 9 else (L:Int) - 1,(bQ rfl).trans ((ah (bR (qo (a:=[.bl (p0 % 5 == 1 && decide (0 < g))]) ?_ (ER _)))).trans (bR (EQ (ps:=p0 :: p1 :: aG) (by simp) (by simp [hrl])))),?_,?_,λ d hd=>?_,?_⟩
  ·exact qo (Ek (bF (bF (bF rfl rfl (b9 (k:=0) rfl)) rfl (aR _ (by decide))) rfl rfl) rfl) rfl
  ·split <;> decide
  ·split
   ·rename_i c
    exact of_decide_eq_true (Bool.and_eq_true_iff.mp c).2
   ·exact hg
  ·obtain ⟨p,hp,rfl⟩:=List.mem_map.mp hd
   exact EO hday
  ·rw [List.length_map,hrl];decide
theorem EE {N:D} {ai L n k:Nat} {g day step:Int} {mx near:Bool} {path:List Int} {rs:List (List Int)} {x11 x12 x14:Option Sl} (hg:0 <= g) (hday:0 <= day/\day < L) (hs1:0 <= step) (hs2:step <= g):∃ day':Int,fN (gT (bY wV (ac 10) (mC (.int 0))) (bY qd (m2 d0 (ac 9) (ac 13)) (ac 3))) (bo 9 (m2 d0 (ac 9) (ac 13))) (SR.next)
   (hE N ai n L g mx near path rs day k x11 x12 (xF step) x14)
   = .next (hE N ai n L g mx near path rs day' k x11 x12 (xF step) x14)/\(0 <= day'/\day' < L)/\(0 < k->day <= day'/\day' <= day + g):=by
 by_cases c:0 < k/\day + step < L
 ·have c1:(0:Int) < 0 + (k:Int):=by rw [Int.zero_add];exact Int.natCast_pos.mpr c.1
  exact ⟨day + step,(bQ (by simp_arith [hX,c1,c.2])).trans (bR rfl),⟨Int.add_nonneg hday.1 hs1,c.2⟩,λ _=>⟨Int.le_add_of_nonneg_right hs1,Int.add_le_add_left hs2 day⟩⟩
 ·refine ⟨day,?_,hday,λ _=>⟨Int.le_refl _,Int.le_add_of_nonneg_right hg⟩⟩
  by_cases c1:(0:Int) < 0 + (k:Int)
  ·have c2:¬ day + step < (L:Int):=λ z=>c ⟨Int.natCast_pos.mp (by rwa [Int.zero_add] at c1),z⟩
   exact bx (by simp_arith [hX,c1,c2])
  ·exact bx (by simp_arith [hX,c1])
inductive HidT (L:Nat) (N:D) (ai n:Nat) (g:Int) (mx near:Bool) (k:Nat) (F:SR):Prop
 | mk (day:Int) (path:List Int) (rs:List (List Int)) (h:HidOk L g day (k + 1) path rs) (a b c d:Option Sl) (e:F=.next (hE N ai n L g mx near path rs day k a b c d))
theorem Ch {ns:List Int} {N:D} (hN:D.lst (ns.map D.int)=N) {ai L n k:Nat} {g day:Int} {mx near:Bool} {path:List Int} {rs:List (List Int)} {x11 x12 x13 x14:Option Sl} (hL:1 <= L) (hL2:L <= 800) (hg:0 <= g) (hk:k < 1000) (h:HidOk L g day k path rs) :
  HidT L N ai n g mx near k (iy (hE N ai n L g mx near path rs day k x11 x12 x13 x14)):=by
 have hak:aF [N,.int ((ai:Int) + 1 + (0 + (k:Int)))]=.ok (.int (cell ns (ai + 1 + k))):=by
  have:=lR ns (ai + 1 + k)
  rw [hN] at this
  rw [Int.zero_add]
  exact this
 obtain ⟨cl,hcl⟩:=Hg ns hN (ai:=ai) (L:=L) (n:=n) (k:=k) (g:=g) (day:=day) (c:=cell ns (ai + 1 + k)) (mx:=mx) (near:=near) (path:=path) (rs:=rs) (x12:=x12) (x13:=x13) (x14:=x14)
 obtain ⟨ps,hps,hpl,hpb⟩:=B2 cl mx (n:=8) (m:=L) (by decide) hL (Nat.le_trans hL2 (by decide))
 obtain ⟨p0,p1,aG,rfl⟩:∃ p0 p1 aG,ps=p0 :: p1 :: aG:=by
  match ps,hpl with
  | p0 :: p1 :: aG,_=>exact ⟨p0,p1,aG,rfl⟩
 obtain ⟨q,hq,hq2⟩:=kF p1 (j:=6) 6
 have hq2:q <= 5:=Nat.le_of_lt_succ hq2
 have sl:=DM (p0 :: p1 :: aG) (a:=2) (b:=2 + q) (Nat.le_add_right 2 q) (by rw [hpl];exact Nat.add_le_add_left (Nat.le_succ_of_le hq2) 2)
 rw [Nat.add_sub_cancel_left] at sl
 obtain ⟨step,oth,hst,hs1,hs2,ho1,ho2⟩:=Cg (N:=N) (ai:=ai) (n:=n) (k:=k) (cl:=cl) (mx:=mx) (near:=near) (path:=path) (rs:=rs) hg h.bd (Nat.succ.inj (Nat.succ.inj hpl)) hpb hq2
 obtain ⟨day',hdz,Hf,hd2⟩:=EE (N:=N) (ai:=ai) (n:=n) (k:=k) (mx:=mx) (near:=near) (path:=path) (rs:=rs) (x11:=xF cl) (x12:=GF (p0 :: p1 :: aG)) (x14:=GF oth) hg h.bd hs1 hs2
 have hcat:qc (ag oth) (.lst [.int day'])=.ok (ag (oth++[day'])):=by
  rw [uS (by rw [List.length_map];exact Nat.le_trans (Nat.succ_le_succ ho2) (by decide))]
  rw [ag,List.map_append];rfl
 have hmem:∀ d∈kf (oth++[day']),0 <= d/\d < (L:Int):=λ d hd=>by
  rcases List.mem_append.mp (fW.mp hd) with z | z
  ·exact ho1 d z
  ·exact (List.mem_singleton.mp z) ▸ Hf
 have hlen:=Nat.le_trans (DQ (oth++[day'])) (JE ho2)
 have hin:day'∈kf (oth++[day']):=fW.mpr (List.mem_append_right _ (.head _))
 refine ⟨day',path++[day'],rs++[kf (oth++[day'])],⟨by rw [List.length_append,h.pl];rfl,by rw [List.length_append,h.rl];rfl,λ r hr=>?_,?_,λ _=>List.getLast?_concat,Hf⟩,xF cl,GF (p0 :: p1 :: aG),xF step,GF oth,?_⟩
 ·rcases List.mem_append.mp hr with z | z
  ·exact h.ok r z
  ·obtain rfl:=List.mem_singleton.mp z
   exact ⟨⟨oa _,λ d hd=>⟨(hmem d hd).1,Int.lt_of_lt_of_le (hmem d hd).2 (Int.ofNat_le.mpr hL2)⟩,Nat.le_trans hlen (by decide)⟩,λ d hd=>(hmem d hd).2,hlen,List.ne_nil_of_mem hin⟩
 ·rw [As]
  refine Bp.mpr ⟨path,h.wh,day',hin,?_,rfl⟩
  unfold Ld
  by_cases c:0 < k
  ·rw [h.last c]
   have:=hd2 c
   simp [this]
  ·have:path=[]:=List.eq_nil_of_length_eq_zero (by rw [h.pl];exact Nat.eq_zero_of_not_pos c)
   subst this
   rfl
 ·refine (ah (bR (mf rfl hak))).trans ((ah hcl).trans ((ah (bR (mf rfl hps))).trans ((ah (bR (bF (bF rfl rfl (b9 (k:=0) rfl)) rfl (aR _ (Int.lt_add_one_of_le hg))))).trans
   ((ah (bR (J8 rfl rfl (Lg (bF rfl ((bF (bF rfl rfl (b9 (k:=1) rfl)) rfl (aR _ (by decide))).trans (by rw [hq])) rfl)) sl))).trans ((ah hst).trans ((ah hdz).trans ((ah (bZ rfl rfl ?_)).trans ((bZ (qo (qo (bF rfl rfl hcat) (Bo (Nat.lt_of_le_of_lt (JE ho2) (by decide)))) rfl) rfl ?_).trans ?_))))))))
  ·rw [List.length_map,h.pl];exact Nat.lt_trans hk (by decide)
  ·rw [List.length_map,h.rl];exact Nat.lt_trans hk (by decide)
  ·simp only [hX,List.map_append];rfl
inductive HidI (L:Nat) (N:D) (ai n:Nat) (g:Int) (mx near:Bool) (k:Nat) (δ:Ev):Prop
 | mk (day:Int) (path:List Int) (rs:List (List Int)) (h:HidOk L g day k path rs) (x a b c d:Option Sl) (e:δ=hX N ai n L g mx near path rs day x a b c d)
theorem Av (ns:List Int) (ai n L:Nat) (g:Int) (hL:1 <= L) (hL2:L <= 800) (hg:0 <= g) (hn:n <= 60):∃ (path:List Int) (rs:List (List Int)) (day:Int),dD [.lst (ns.map D.int),.int ai,.int n,.int L,.int g]=.ok (.lst [ag path,ae rs])/\HidOk L g day n path rs:=by
 generalize hN:D.lst (ns.map D.int)=N
 have hL':(0:Int) < L:=Int.natCast_pos.mpr hL
 obtain ⟨δ',e,I⟩:=cU (fit:=λ δ=>((af (ac 2) (au)) δ).bind lW) (bd:=bN 10) (F:=iy) (δ:=hX N ai n L g (cell ns 0 % 2 == 0) (cell ns 1 % 2 == 1) [] [] (cell ns ai % L) none none none none none) (ds:=kZ 0 n)
  (HidI L N ai n g (cell ns 0 % 2 == 0) (cell ns 1 % 2 == 1)) (lU rfl (by omega)) ⟨cell ns ai % L,[],[],⟨rfl,rfl,(λ _ z=>nomatch z),.head _,λ z=>absurd z (Nat.lt_irrefl 0),Int.emod_nonneg _ (Int.ne_of_gt hL'),Int.emod_lt_of_pos _ hL'⟩,none,none,none,none,none,rfl⟩ (by
   rintro k d δ hd ⟨day,path,rs,hk,x10,x11,x12,x13,x14,rfl⟩
   obtain ⟨rfl,hkn⟩:=ke hd
   obtain ⟨day',path',rs',hk',y11,y12,y13,y14,ht⟩:=Ch (x11:=x11) (x12:=x12) (x13:=x13) (x14:=x14) hN (ai:=ai) (n:=n) (mx:=cell ns 0 % 2 == 0) (near:=cell ns 1 % 2 == 1) hL hL2 hg (by omega) hk
   exact ⟨_,_,rfl,.inl ht,day',path',rs',hk',_,_,_,_,_,rfl⟩)
 rw [je,show ((n:Int) - 0).toNat=n by omega] at I
 obtain ⟨day,path,rs,hk,x10,x11,x12,x13,x14,rfl⟩:=I
 exact ⟨path,rs,day,B7 ((ah (bR (bF (bF (mf rfl (hN ▸ lR ns 0)) rfl (aR _ (by decide))) rfl rfl))).trans ((ah (bR (bF (bF (mf rfl (hN ▸ lR ns 1)) rfl (aR _ (by decide))) rfl rfl))).trans ((ah (oy rfl)).trans ((ah (oy rfl)).trans
  ((ah (bR (bF (mf rfl (hN ▸ lR ns ai)) rfl (aR _ hL')))).trans ((ah e).trans rfl)))))),hk⟩
set_option Elab.async false
set_option linter.all false
set_option maxRecDepth 100000
set_option maxHeartbeats 400000
open PySem L2 L3
theorem nU {α:Type} {t:Ev->R Bool} {f F:Ev->R α} {δ:Ev} (h:t δ=.ok true):rf t f F δ=f δ:=by unfold rf;rw [h];rfl
theorem ml {α:Type} {t:Ev->R Bool} {f F:Ev->R α} {δ:Ev} (h:t δ=.ok false):rf t f F δ=F δ:=by unfold rf;rw [h];rfl
structure RK (rs:List (List Int)) (L:Nat):Prop where
 n:rs.length <= 12
 up:Kx rs
 len:∀ r∈rs,r.length <= 60
 L1:1 <= L
 L2:L <= 60
section
variable {rs:List (List Int)} {L g:Nat} (K:RK rs L)
include K
theorem RK.okr:∀ r∈rs,Okr r:=λ r hr=>⟨(K.up r hr).imp (λ h=>Int.le_of_lt h),by have:=K.len r hr;omega⟩
theorem RK.up':∀ r∈rs,Up r:=λ r hr=>(K.up r hr).imp (λ h=>Int.le_of_lt h)
theorem RK.n':rs.length < 1000:=by have:=K.n;omega
theorem FW:aW [ae rs,.int (g:Int),.int 0]=.ok ((iQ g rs).map ag):=by
 have e:=zq (g:=(g:Int)) K.okr K.n'
 unfold aW dO
 rw [show av 3 [ae rs,.int (g:Int),.int 0]=[some (.sh (ae rs)),some (.sh (.int g)),some (.sh (.int 0))] from rfl,nU (by simp_arith [db];rfl)]
 simp_arith [e,l4]
theorem FX:aW [ae rs,.int (g:Int),.int 1]=.ok ((pH g rs).map ag):=by
 have e:=BL (g:=(g:Int)) K.okr K.n'
 unfold aW dO
 rw [show av 3 [ae rs,.int (g:Int),.int 1]=[some (.sh (ae rs)),some (.sh (.int g)),some (.sh (.int 1))] from rfl,ml (by simp_arith [db];rfl)]
 unfold dS
 rw [nU (by simp_arith [db];rfl)]
 simp_arith [e,l4]
theorem FY:aW [ae rs,.int (g:Int),.int 2]=.ok ((b4 g rs).map ag):=by
 have e:=rD (g:=(g:Int)) K.okr K.n'
 unfold aW dO
 rw [show av 3 [ae rs,.int (g:Int),.int 2]=[some (.sh (ae rs)),some (.sh (.int g)),some (.sh (.int 2))] from rfl,ml (by simp_arith [db];rfl)]
 unfold dS
 rw [ml (by simp_arith [db];rfl)]
 unfold gl
 simp_arith [e,l4]
theorem Ln (c:[] ∉ b4 g rs):aL [ae rs,.int (g:Int),.int 0]=.ok ((fE (b4 g rs)).map D.int):=by
 have e:=qU (g:=(g:Int)) K.okr K.n' c
 unfold aL cP
 rw [show av 3 [ae rs,.int (g:Int),.int 0]=[some (.sh (ae rs)),some (.sh (.int g)),some (.sh (.int 0))] from rfl,nU (by simp_arith [db];rfl)]
 simp_arith [e,l4]
theorem Lo (c:[] ∉ b4 g rs):aL [ae rs,.int (g:Int),.int 1]=.ok ((wO (b4 g rs)).map D.int):=by
 have e:=Cs (g:=(g:Int)) K.okr K.n' c
 unfold aL cP
 rw [show av 3 [ae rs,.int (g:Int),.int 1]=[some (.sh (ae rs)),some (.sh (.int g)),some (.sh (.int 1))] from rfl,ml (by simp_arith [db];rfl)]
 unfold cZ
 rw [nU (by simp_arith [db];rfl)]
 simp_arith [e,l4]
theorem Lp (c:[] ∉ b4 g rs):∃ t,aL [ae rs,.int (g:Int),.int 2]=.ok (t.map D.int)/\Cn g none rs t:=by
 have hw:0 < Wo (g:Int) none rs:=by
  have h:=BF K.up (Am K.up' c)
  omega
 obtain ⟨t,e,ht,_⟩:=JK (rows:=rs) (g:=(g:Int)) (k:=0) (by omega) K.n' K.up (λ r hr=>by have:=K.len r hr;omega) (by omega) hw
 refine ⟨t,?_,ht⟩
 unfold aL cP
 rw [show av 3 [ae rs,.int (g:Int),.int 2]=[some (.sh (ae rs)),some (.sh (.int g)),some (.sh (.int 2))] from rfl,ml (by simp_arith [db];rfl)]
 unfold cZ
 rw [ml (by simp_arith [db];rfl)]
 unfold ei
 simp_arith [e,l4]
end
theorem DS {S:D} {rs p:List (List Int)} {L g:Nat} {w:Int} {x6 x7 x8 x9:Option Sl} (K:RK rs L) (hs:aW [ae rs,.int (g:Int),.int w]=.ok (p.map ag)) (hp:∀ r∈p,Okr r) (hl:p.length=rs.length) :
  ud [some (.sh S),some (.sh (.int L)),some (.sh (.int g)),some (.sh (ae rs)),some (.sh (ae rs)),some (.sh (.int w)),x6,x7,x8,x9]=.next [some (.sh S),some (.sh (.int L)),some (.sh (.int g)),some (.sh (ae rs)),some (.sh (ae rs)),some (.sh (.int w)),none,some (.sh (ae p)),x8,x9]:=by
 have hn:=K.n
 have hc:bJ [.lst (p.map ag)]=.ok (p.map ag):=qK p (by omega)
 have hf:eR (p.map ag)=true:=m7 λ r hr=>(hp r hr).len
 have hm:eG [ae rs,.int (g:Int),.int w]=.ok (ae p):=tD hs
 have l1:=lX rs (by omega) (λ r hr=>by have:=K.len r hr;omega)
 have l2:=lX p (by omega) (λ r hr=>by have:=(hp r hr).len;omega)
 unfold ud
 refine Eq.trans (ah (δ':=[some (.sh S),some (.sh (.int L)),some (.sh (.int g)),some (.sh (ae rs)),some (.sh (ae rs)),some (.sh (.int w)),none,some (.sh (ae p)),x8,x9]) (by
  unfold rY
  have e1:(af (ac 4) (af (ac 2) (af (ac 5) (au)))) [some (.sh S),some (.sh (.int L)),some (.sh (.int g)),some (.sh (ae rs)),some (.sh (ae rs)),some (.sh (.int w)),x6,x7,x8,x9]=.ok [ae rs,.int (g:Int),.int w]:=by simp_arith []
  dsimp only
  rw [e1,R.bind_ok,hs]
  dsimp only
  rw [hc]
  dsimp only
  rw [hf,if_pos (by rw [List.length_map,decide_eq_true (by omega)];rfl)]
  rfl)) ?_
 rw [bx (by simp_arith [l1,hm,l2];rfl)]
theorem JB {F:Ev->SR} {i:Nat} {δ δ1 δ2 δ3:Ev} (h1:F (δ.set i (some (.sh (.int 0))))=.next δ1) (h2:F (δ1.set i (some (.sh (.int 1))))=.next δ2) (h3:F (δ2.set i (some (.sh (.int 2))))=.next δ3) :
  cG (λ δ=>((af (mC (.int 3)) (au)) δ).bind lW) (bN i) F δ=.next δ3:=by
 unfold cG
 have e:((af (mC (.int 3)) (au)) δ).bind lW=.ok [.int 0,.int 1,.int 2]:=(Hd (n:=3) (fs:=af (mC (.int 3)) (au)) (δ:=δ) rfl (by decide))
 dsimp only
 rw [e,eC]
 simp only [cu,bN,h1,h2,h3]
theorem DT {S:D} {rs:List (List Int)} {L g:Nat} {w:Int} {t:List Int} {x6 x7 x8 x9:Option Sl} (K:RK rs L) (hs:aL [ae rs,.int (g:Int),.int w]=.ok (t.map D.int)) (hl:t.length=rs.length) :
  ue [some (.sh S),some (.sh (.int L)),some (.sh (.int g)),some (.sh (ae rs)),some (.sh (ae rs)),some (.sh (.int w)),x6,x7,x8,x9]=.next [some (.sh S),some (.sh (.int L)),some (.sh (.int g)),some (.sh (ae rs)),some (.sh (ae rs)),some (.sh (.int w)),some (.ow (t.map D.int++[.int 0])),some (.sh (ag t)),x8,x9]:=by
 have hn:=K.n
 have hm:dq [ae rs,.int (g:Int),.int w]=.ok (ag t):=tD hs
 have l1:=lX rs (by omega) (λ r hr=>by have:=K.len r hr;omega)
 have l2:=zA t (by omega)
 unfold ue
 refine Eq.trans (ah (δ':=[some (.sh S),some (.sh (.int L)),some (.sh (.int g)),some (.sh (ae rs)),some (.sh (ae rs)),some (.sh (.int w)),some (.ow (t.map D.int)),x7,x8,x9]) (by
  refine (oy (ds:=t.map D.int) ?_).trans rfl
  have e1:(af (ac 4) (af (ac 2) (af (ac 5) (au)))) [some (.sh S),some (.sh (.int L)),some (.sh (.int g)),some (.sh (ae rs)),some (.sh (ae rs)),some (.sh (.int w)),x6,x7,x8,x9]=.ok [ae rs,.int (g:Int),.int w]:=by simp_arith []
  rw [e1,R.bind_ok,hs])) ?_
 refine Eq.trans (ah (δ':=[some (.sh S),some (.sh (.int L)),some (.sh (.int g)),some (.sh (ae rs)),some (.sh (ae rs)),some (.sh (.int w)),some (.ow (t.map D.int)),some (.sh (ag t)),x8,x9]) (by
  refine (bR (d:=ag t) ?_).trans rfl
  rfl)) ?_
 refine Eq.trans (ah (δ':=[some (.sh S),some (.sh (.int L)),some (.sh (.int g)),some (.sh (ae rs)),some (.sh (ae rs)),some (.sh (.int w)),some (.ow (t.map D.int++[.int 0])),some (.sh (ag t)),x8,x9]) (by
  rw [bZ (ds:=t.map D.int) (d:=.int 0) rfl rfl (by rw [List.length_map];omega)]
  rfl)) ?_
 rw [bx (by simp_arith [l1,hm,l2];rfl)]
theorem Kg {S:D} {rs:List (List Int)} {L g:Nat} {w d:Int} {t:List Int} {x6 x9:Option Sl} {u:List Int} (K:RK rs L) (ht:t[0]?=some d) (hs:ci [ae rs,.int (g:Int),.int 0,.int d]=.ok (u.map D.int)) (hl:u.length=rs.length) :
  qk [some (.sh S),some (.sh (.int L)),some (.sh (.int g)),some (.sh (ae rs)),some (.sh (ae rs)),some (.sh (.int w)),x6,some (.sh (ag t)),some (.sh (.int 0)),x9]=.next [some (.sh S),some (.sh (.int L)),some (.sh (.int g)),some (.sh (ae rs)),some (.sh (ae rs)),some (.sh (.int w)),some (.ow (u.map D.int)),some (.sh (ag t)),some (.sh (.int 0)),x9]:=by
 have hn:=K.n
 have hix:bP (ag t) (.int 0)=.ok (.int d):=b9 (k:=0) ht
 unfold qk
 have own:∀ y:Option Sl,dM 6 (λ δ=>((af (ac 4) (af (ac 2) (af (ac 8) (af (m2 bP (ac 7) (ac 8)) (au))))) δ).bind ci) [some (.sh S),some (.sh (.int L)),some (.sh (.int g)),some (.sh (ae rs)),some (.sh (ae rs)),some (.sh (.int w)),y,some (.sh (ag t)),some (.sh (.int 0)),x9]=.next [some (.sh S),some (.sh (.int L)),some (.sh (.int g)),some (.sh (ae rs)),some (.sh (ae rs)),some (.sh (.int w)),some (.ow (u.map D.int)),some (.sh (ag t)),some (.sh (.int 0)),x9]:=λ y=>by
  refine (oy (ds:=u.map D.int) ?_).trans rfl
  have e1:(af (ac 4) (af (ac 2) (af (ac 8) (af (m2 bP (ac 7) (ac 8)) (au))))) [some (.sh S),some (.sh (.int L)),some (.sh (.int g)),some (.sh (ae rs)),some (.sh (ae rs)),some (.sh (.int w)),y,some (.sh (ag t)),some (.sh (.int 0)),x9]=.ok [ae rs,.int (g:Int),.int 0,.int d]:=by simp_arith [hix]
  rw [e1,R.bind_ok,hs]
 refine Eq.trans (ah (own x6)) ?_
 refine Eq.trans (ah (δ':=[some (.sh S),some (.sh (.int L)),some (.sh (.int g)),some (.sh (ae rs)),some (.sh (ae rs)),some (.sh (.int w)),some (.ow (u.map D.int++[.int 0])),some (.sh (ag t)),some (.sh (.int 0)),x9]) (by
  rw [bZ (ds:=u.map D.int) (d:=.int 0) rfl rfl (by rw [List.length_map];omega)]
  rfl)) ?_
 refine Eq.trans (ah (own _)) ?_
 have hl':((u.map D.int).length:Int)=((rs.map ag).length:Int):=by simp [hl]
 rw [bx (by simp_arith [cQ,hl',zH];simp [m9,hl])]
theorem AL (p:List (List Int)):rm (.lst []) (ae p)=.ok (!decide ([]∈p)):=by
 have:=rj p
 simp only [wW,rm] at this ⊢
 split at this
 ·rename_i h
  rw [if_pos h]
  injection this with this
  rw [this]
 ·cases this
theorem after {S:D} {rs:List (List Int)} {L g:Nat} (K:RK rs L):iP (qj [some (.sh S),some (.sh (.int L)),some (.sh (.int g)),some (.sh (ae rs)),none,none,none,none,none,none])=.ok (.bl true):=by
 have hn:=K.n
 have hok:=K.okr
 have hc:=Ad rs (by omega)
 unfold qj
 rw [ah (δ':=[some (.sh S),some (.sh (.int L)),some (.sh (.int g)),some (.sh (ae rs)),some (.sh (ae rs)),none,none,none,none,none]) (by unfold uk;simp_arith [hc])]
 unfold tX
 have hp:∀ a∈b4 g rs,Okr a:=xh (λ r p h=>⟨h.up.filter _,Nat.lt_of_le_of_lt (List.length_filter_le ..) h.len⟩) hok
 rw [ah (δ':=[some (.sh S),some (.sh (.int L)),some (.sh (.int g)),some (.sh (ae rs)),some (.sh (ae rs)),some (.sh (.int 2)),none,some (.sh (ae (b4 g rs))),none,none]) (by
  unfold ul
  exact JB (DS K (FW K) (oO hok) (m8 _ _)) (DS K (FX K) (BJ hok) (zY _ _)) (DS K (FY K) hp (fY _ _)))]
 unfold tY
 obtain ⟨x5,x6,x7,x8,e6⟩:∃ x5 x6 x7 x8,qm [some (.sh S),some (.sh (.int L)),some (.sh (.int g)),some (.sh (ae rs)),some (.sh (ae rs)),some (.sh (.int 2)),none,some (.sh (ae (b4 g rs))),none,none]=.next [some (.sh S),some (.sh (.int L)),some (.sh (.int g)),some (.sh (ae rs)),some (.sh (ae rs)),x5,x6,x7,x8,none]:=by
  unfold qm
  have hin:=AL (b4 g rs)
  by_cases c:[]∈b4 g rs
  ·rw [decide_eq_true c] at hin
   rw [bx (by simp_arith [hin];rfl)]
   exact ⟨_,_,_,_,rfl⟩
  ·rw [decide_eq_false c] at hin
   rw [bQ (by simp_arith [hin];rfl)]
   obtain ⟨t,et,ht⟩:=Lp (g:=g) K c
   have hl:=Bx ht
   have hf:(fE (b4 g rs)).length=rs.length:=by unfold fE;rw [List.length_map,fY]
   have hla:(wO (b4 g rs)).length=rs.length:=by unfold wO;rw [List.length_map,fY]
   rw [ah (δ':=[some (.sh S),some (.sh (.int L)),some (.sh (.int g)),some (.sh (ae rs)),some (.sh (ae rs)),some (.sh (.int 2)),some (.ow (t.map D.int++[.int 0])),some (.sh (ag t)),none,none]) (JB (DT K (Ln K c) hf) (DT K (Lo K c) hla) (DT K et hl))]
   cases rs with
   | nil =>
    unfold cG
    have e:((af (yp nW (af (mC (.int 1)) (af (m1 cj (ac 3)) (au)))) (au)) [some (.sh S),some (.sh (.int L)),some (.sh (.int g)),some (.sh (ae [])),some (.sh (ae [])),some (.sh (.int 2)),some (.ow (t.map D.int++[.int 0])),some (.sh (ag t)),none,none]).bind lW=.ok (kZ 0 0):=Hd (n:=0) (fs:=af (yp nW (af (mC (.int 1)) (af (m1 cj (ac 3)) (au)))) (au)) rfl (by decide)
    dsimp only
    rw [e,eC]
    exact ⟨_,_,_,_,rfl⟩
   | cons r0 rs =>
    cases t with
    | nil=>simp at hl
    | cons d t =>
     have hd:d∈(r0 :: rs).getD 0 []:=(pq ht).2.1 0 r0 d rfl rfl
     have hset:=(GJ (g:=(g:Int)) (k:=0) (t:=d :: t) (by simp) hd).mpr ⟨ht,rfl⟩
     have hw:=Bt (g:=(g:Int)) (k:=0) (d:=d) hok K.n' (by simp) hd (Fh hset)
     have hwl:(fE (b4 g ((r0 :: rs).set 0 [d]))).length=(r0 :: rs).length:=by unfold fE;rw [List.length_map,fY];simp
     have ht3:=Kg (S:=S) (g:=g) (w:=2) (x6:=some (.ow ((d :: t).map D.int++[.int 0]))) (x9:=none) K (t:=d :: t) (d:=d) rfl hw hwl
     unfold cG
     have e:((af (yp nW (af (mC (.int 1)) (af (m1 cj (ac 3)) (au)))) (au)) [some (.sh S),some (.sh (.int L)),some (.sh (.int g)),some (.sh (ae (r0 :: rs))),some (.sh (ae (r0 :: rs))),some (.sh (.int 2)),some (.ow ((d :: t).map D.int++[.int 0])),some (.sh (ag (d :: t))),none,none]).bind lW=.ok (kZ 0 1):=Hd (n:=1) (fs:=af (yp nW (af (mC (.int 1)) (af (m1 cj (ac 3)) (au)))) (au)) (by
      have:nW [.int 1,.int (((r0 :: rs).map ag).length:Int)]=.ok (.int 1):=by simp [nW];omega
      simp_arith [cQ,this]
      rfl) (by decide)
     dsimp only
     rw [e,eC]
     refine ⟨some (.sh (.int 2)),some (.ow ((fE (b4 g ((r0 :: rs).set 0 [d]))).map D.int)),some (.sh (ag (d :: t))),some (.sh (.int 0)),?_⟩
     show cu (bN 8) qk [.int 0] _=_
     simp only [cu,bN]
     rw [show (List.set [some (.sh S),some (.sh (.int L)),some (.sh (.int g)),some (.sh (ae (r0 :: rs))),some (.sh (ae (r0 :: rs))),some (.sh (.int 2)),some (.ow ((d :: t).map D.int++[.int 0])),some (.sh (ag (d :: t))),none,none] 8 (some (Sl.sh (D.int 0))):Ev)=[some (.sh S),some (.sh (.int L)),some (.sh (.int g)),some (.sh (ae (r0 :: rs))),some (.sh (ae (r0 :: rs))),some (.sh (.int 2)),some (.ow ((d :: t).map D.int++[.int 0])),some (.sh (ag (d :: t))),some (.sh (.int 0)),none] from rfl,ht3]
 rw [ah e6]
 unfold tZ
 obtain ⟨ds,hD,hb⟩:=qV (rows:=rs) (g:=g) (L:=L) (by have:=K.L2;omega) K.L1 K.n' (λ r hr=>by have:=K.len r hr;omega)
 have hb2:=qa hb
 have hNl:=qz g L rs none
 have hNr:∀ b∈NB g L rs none,b.length=L:=uf (λ a e=>by cases e)
 have hL2:=K.L2
 have hdl:=hD.len
 have hpl:(AV rs ds).length <= rs.length:=by unfold AV;refine Nat.le_trans (List.length_filter_le ..) ?_;simp
 generalize NB g L rs none=N at *
 generalize AV rs ds=P at *
 have hcN:=qK N (by omega)
 have hfN:eR (N.map ag)=true:=m7 λ b hb=>by have:=hNr b hb;omega
 rw [ah (δ':=[some (.sh S),some (.sh (.int L)),some (.sh (.int g)),some (.sh (ae rs)),some (.sh (ae rs)),x5,none,some (.sh (ae N)),x8,some (.sh (.int ((P.length:Int))))]) (by
  unfold zh oz
  have s1:(af (ac 4) (af (ac 2) (af (ac 1) (au)))) [some (.sh S),some (.sh (.int L)),some (.sh (.int g)),some (.sh (ae rs)),some (.sh (ae rs)),x5,x6,x7,x8,none]=.ok [ae rs,.int (g:Int),.int (L:Int)]:=by simp_arith []
  dsimp only
  rw [s1,R.bind_ok,hb]
  dsimp only
  have s2:(af (m2 bP (bO 6) (mC (.int 2))) (au)) [some (.sh S),some (.sh (.int L)),some (.sh (.int g)),some (.sh (ae rs)),some (.sh (ae rs)),x5,some (.sh (.tup [.lst (cE P),.lst (cE ds),.lst (N.map ag)])),x7,x8,none]=.ok [ae N]:=rfl
  rw [show (List.set ([some (.sh S),some (.sh (.int L)),some (.sh (.int g)),some (.sh (ae rs)),some (.sh (ae rs)),x5,x6,x7,x8,none]:Ev) 6 (some (Sl.sh (D.tup [D.lst (cE P),D.lst (cE ds),D.lst (N.map ag)]))):Ev)=[some (.sh S),some (.sh (.int L)),some (.sh (.int g)),some (.sh (ae rs)),some (.sh (ae rs)),x5,some (.sh (.tup [.lst (cE P),.lst (cE ds),.lst (N.map ag)])),x7,x8,none] from rfl]
  rw [s2,R.bind_ok,hcN]
  dsimp only
  have s3:(m1 cj (m2 bP (bO 6) (mC (.int 0)))) [some (.sh S),some (.sh (.int L)),some (.sh (.int g)),some (.sh (ae rs)),some (.sh (ae rs)),x5,some (.sh (.tup [.lst (cE P),.lst (cE ds),.lst (N.map ag)])),some (.sh (.lst (N.map ag))),x8,none]=.ok (.int (P.length:Int)):=by
   show R.ok (D.int ((cE P).length:Int))=_
   simp [cE]
  rw [show (List.set ([some (.sh S),some (.sh (.int L)),some (.sh (.int g)),some (.sh (ae rs)),some (.sh (ae rs)),x5,some (.sh (.tup [.lst (cE P),.lst (cE ds),.lst (N.map ag)])),x7,x8,none]:Ev) 7 (some (Sl.sh (D.lst (N.map ag)))):Ev)=[some (.sh S),some (.sh (.int L)),some (.sh (.int g)),some (.sh (ae rs)),some (.sh (ae rs)),x5,some (.sh (.tup [.lst (cE P),.lst (cE ds),.lst (N.map ag)])),some (.sh (.lst (N.map ag))),x8,none] from rfl]
  rw [s3]
  dsimp only
  rw [if_pos (by
   have a1:(cE P).length < 1000:=by simp [cE];omega
   have a2:(cE ds).length < 1000:=by simp [cE];omega
   have a3:(N.map ag).length < 1000:=by rw [List.length_map];omega
   rw [hfN,decide_eq_true a1,decide_eq_true a2,decide_eq_true a3]
   rfl)]
  rfl)]
 unfold t0
 rw [ah (δ':=[some (.sh S),some (.sh (.int L)),some (.sh (.int g)),some (.sh (ae rs)),some (.sh (ae rs)),x5,some (.sh (.tup [.lst (cE P),.lst (cE ds),ae N])),some (.sh (ae N)),x8,some (.sh (.int ((P.length:Int))))]) (by unfold um;simp_arith [hb2])]
 unfold ub
 have l1:=lX rs (by omega) (λ r hr=>by have:=K.len r hr;omega)
 have l2:=lX N (by omega) (λ r hr=>by have:=hNr r hr;omega)
 have i0:bP (.tup [.lst (cE P),.lst (cE ds),ae N]) (.int 0)=.ok (.lst (cE P)):=rfl
 have i2:bP (.tup [.lst (cE P),.lst (cE ds),ae N]) (.int 2)=.ok (ae N):=rfl
 have hll:((cE P).length:Int)=(P.length:Int):=by simp [cE]
 rw [ah (δ':=[some (.sh S),some (.sh (.int L)),some (.sh (.int g)),some (.sh (ae rs)),some (.sh (ae rs)),x5,some (.sh (.tup [.lst (cE P),.lst (cE ds),ae N])),some (.sh (ae N)),x8,some (.sh (.int ((P.length:Int))))]) (by
  unfold uo
  rw [bx (by simp_arith [i0,i2,cQ,hll,l2,zH];simp)])]
 unfold qw v4
 rw [Gi (d:=.bl true) (by simp_arith [l1])]
 rfl
theorem main (ns:List Int) (_:ns.length <= 63):zC [.lst (ns.map D.int)]=.ok (.bl true):=by
 have a2:aF [.lst (ns.map D.int),.int 2]=.ok (.int (cell ns 2)):=by simpa using lR ns 2
 have a3:aF [.lst (ns.map D.int),.int 3]=.ok (.int (cell ns 3)):=by simpa using lR ns 3
 have a4:aF [.lst (ns.map D.int),.int 4]=.ok (.int (cell ns 4)):=by simpa using lR ns 4
 obtain ⟨l,hl,hl10⟩:=kF (cell ns 3) (j:=10) 10
 obtain ⟨g,hg,hg11⟩:=kF (cell ns 4) (j:=11) 11
 obtain ⟨n,hnn,hn7⟩:=kF (cell ns 2 / 2) (j:=7) 7
 obtain ⟨l',hl',hl60⟩:=kF (cell ns 3) (j:=60) 60
 obtain ⟨g',hg',hg21⟩:=kF (cell ns 4) (j:=21) 21
 obtain ⟨n',hnn',hn12⟩:=kF (cell ns 2 / 2) (j:=12) 12
 obtain ⟨rs,hs,hsl,hsg⟩:=DN ns 5 n (1 + l) (by omega) (by omega) (by omega)
 obtain ⟨path,rs',day,hh,hk⟩:=Av ns 5 (1 + n') (1 + l') (g':Int) (by omega) (by omega) (by omega) (by omega)
 have K0:RK rs (1 + l):=⟨by omega,λ r hr=>(hsg r hr).up,λ r hr=>by have:=(hsg r hr).len;omega,by omega,by omega⟩
 have K1:RK rs' (1 + l'):=⟨by have:=hk.rl;omega,λ r hr=>(hk.ok r hr).1.up,λ r hr=>(hk.ok r hr).1.len,by omega,by omega⟩
 have e1:(1:Int) + (l:Int)=((1 + l:Nat):Int):=by push_cast;rfl
 have e1':(1:Int) + (l':Int)=((1 + l':Nat):Int):=by push_cast;rfl
 have e2':(1:Int) + (n':Int)=((1 + n':Nat):Int):=by push_cast;rfl
 generalize hS:D.lst (ns.map D.int)=S at *
 unfold zC BA
 rw [show av 10 [S]=[some (.sh S),none,none,none,none,none,none,none,none,none] from rfl]
 rw [ah (δ':=[some (.sh S),some (.sh (.int (((1 + l:Nat):Int)))),none,none,none,none,none,none,none,none]) (by unfold uh;simp_arith [a3,aR (cell ns 3) (j:=10) (by decide),hl,e1])]
 unfold tU
 rw [ah (δ':=[some (.sh S),some (.sh (.int (((1 + l:Nat):Int)))),some (.sh (.int g)),none,none,none,none,none,none,none]) (by unfold ui;simp_arith [a4,aR (cell ns 4) (j:=11) (by decide),hg])]
 unfold tV
 have hs':du [S,.int 5,.int (n:Int),.int ((1 + l:Nat):Int)]=.ok (ae rs):=hs
 rw [ah (δ':=[some (.sh S),some (.sh (.int (((1 + l:Nat):Int)))),some (.sh (.int g)),some (.sh (ae rs)),none,none,none,none,none,none]) (by unfold uj;simp_arith [a2,eI (cell ns 2) (j:=2) (by decide) (by decide),aR (cell ns 2 / 2) (j:=7) (by decide),hnn,hs'])]
 unfold tW
 by_cases c:cell ns 2 % 2=1
 ·have hh':dD [S,.int 5,.int ((1 + n':Nat):Int),.int ((1 + l':Nat):Int),.int (g':Int)]=.ok (.lst [ag path,ae rs']):=hh
  have ix:bP (.lst [ag path,ae rs']) (.int 1)=.ok (ae rs'):=rfl
  rw [ah (δ':=[some (.sh S),some (.sh (.int (((1 + l':Nat):Int)))),some (.sh (.int ((g':Int)))),some (.sh (ae rs')),none,none,none,none,none,none]) (by
   unfold ql
   rw [bQ (by simp_arith [a2,aR (cell ns 2) (j:=2) (by decide),db,c];rfl)]
   rw [ah (δ':=[some (.sh S),some (.sh (.int (((1 + l':Nat):Int)))),some (.sh (.int g)),some (.sh (ae rs)),none,none,none,none,none,none]) (by simp_arith [a3,aR (cell ns 3) (j:=60) (by decide),hl',e1'])]
   rw [ah (δ':=[some (.sh S),some (.sh (.int (((1 + l':Nat):Int)))),some (.sh (.int ((g':Int)))),some (.sh (ae rs)),none,none,none,none,none,none]) (by simp_arith [a4,aR (cell ns 4) (j:=21) (by decide),hg'])]
   simp_arith [a2,eI (cell ns 2) (j:=2) (by decide) (by decide),aR (cell ns 2 / 2) (j:=12) (by decide),hnn',e2',hh',ix])]
  exact after K1
 ·have c':(cell ns 2 % 2 == 1)=false:=beq_eq_false_iff_ne.mpr c
  rw [ah (δ':=[some (.sh S),some (.sh (.int (((1 + l:Nat):Int)))),some (.sh (.int g)),some (.sh (ae rs)),none,none,none,none,none,none]) (by
   unfold ql
   rw [bx (by simp_arith [a2,aR (cell ns 2) (j:=2) (by decide),db,c'])])]
  exact after K0
end Lw
open PySem PySem.W PyProof.Rows
set_option maxRecDepth 100000 in
set_option maxHeartbeats 0 in
theorem PySem.Challenge.cw_inkdays_k29_lists_apart_holds : PySem.Challenge.rw_inkdays_k29_lists_apart.Holds := by
 w_on;o_law;z_head;(case hw=>w_witness2)
 k_fill
 refine L3.Gc (Lw.walk (l:=PySem.Challenge.rw_inkdays_k29_lists_apart) rfl rfl (λ w h Y=>Y) ?F) (λ _=>by kernel_rfl)
 case F =>
  intro w mg fa h KX G hmg
  refine' Lw.GQ Lw.main KX G hmg ?u0 ?u1 ?u2 ?u3 ?u4 ?u5 ?u6 ?u7 ?u8 ?u9 ?u10 ?u11 ?u12 ?u13 ?u14 ?u15 ?u16 ?u17 ?u18 ?u19 ?u20 ?u21 ?u22 ?u23 ?u24 ?u25 ?u26 ?u27 ?u28 ?u29 ?u30 ?u31 ?u32 ?u33 ?u34 ?u35 ?u36 ?u37 ?u38 ?u39 ?u40 ?u41 ?u42 ?u43 ?u44 ?u45 ?u46 ?u47 ?u48 ?u49 ?u50 ?e_NoSuchReading
  case u0|u1|u2|u3|u4|u5|u6|u7|u8|u9|u10|u11|u12|u13|u14|u15|u16|u17|u18|u19|u20|u21|u22|u23|u24|u25|u26|u27|u28|u29|u30|u31=>(refine' L3.FF.mk ?xa ?xl ?xd ?xp;case xa|xl|xd|xp=>k_is)
  case u32|u33|u34|u35|u36|u37|u38|u39|u40|u41|u42|u43|u44|u45|u46|u47|u48|u49|u50=>k_is
  (case e_NoSuchReading=>k_exc)
