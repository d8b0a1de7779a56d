import PyProof.Rows.All
import Wide.All
import OpenK.AllK
import Wide.FinOn
import Lean
import PyProof.EqAt
import PyProof.EqKinds
import PyProof.TupleCall
import KE.KTryMore
import PyProof.EnumFor
import PyProof.EnumMake
import PyProof.EnumStmt
import PyProof.Rows.EnumRows
import PyProof.StrWalks
import PyProof.StrCalls
import PyProof.FString
import PyProof.ConsumeWalk
import PyProof.ListRange
import PyProof.SumWalkG
import PyProof.Rows.SeqCalls
import KE.KRevIter
import KE.KRevSl
import PyProof.Rows.FactsT2
import PyProof.SetKind
import PyProof.Rows.SetFrom
import PyProof.Rows.SortShell
import PyProof.SetRoads
import PyProof.CollectWalk
import KE.KDictSum
import PyProof.Rows.SortWalk
import PyProof.P3In
import PyProof.ZipIter
import PyProof.Rows.ZipMeets
import PyProof.Rows.MinMaxN
import PySem.Challenge.RW_inkdays_k11_written_in_a_form
set_option compiler.extract_closed false
set_option Elab.async false
set_option linter.all false
set_option maxRecDepth 100000
noncomputable section
namespace L2
open PySem PySem.Spec PyProof.Rows
noncomputable abbrev dI:=Sum Int Str
noncomputable def sj:dI->Value->Bool
 | .inl k,v=>Value.isInt k v
 | .inr x,v=>Value.isStrOf x v
noncomputable def LS (w:World):dI->Int
 | .inl k=>hashInt k
 | .inr x=>hashStr w x
theorem cc:∀ {k:dI} {v:Value},sj k v=true->(∃ i t,k=Sum.inl i/\v=Value.int i t) \/ (∃ x t,k=Sum.inr x/\v=Value.str x t)
 | .inl i,v,h=>by
  obtain ⟨t,e⟩:=Value.isInt_shape (k:=i) (v:=v) h
  exact .inl ⟨i,t,rfl,e⟩
 | .inr x,v,h=>by
  obtain ⟨t,e⟩:=Value.isStrOf_shape (x:=x) (v:=v) h
  exact .inr ⟨x,t,rfl,e⟩
theorem AK (i:Int) (t:Tok):sj (.inl i) (.int i t)=true:=by simp [sj,Value.isInt]
theorem AL (x:Str) (t:Tok):sj (.inr x) (.str x t)=true:=by simp [sj,Value.isStrOf]
theorem Hi (a b:Int):decide ((Sum.inl a:dI)=Sum.inl b)=(a == b):=by
 by_cases e:a=b
 ·subst e;simp
 ·have h:¬ (Sum.inl a:dI)=Sum.inl b:=λ q=>e (Sum.inl.inj q)
  rw [decide_eq_false h]
  exact (beq_eq_false_iff_ne.mpr e).symm
theorem Hl (a b:Str):decide ((Sum.inr a:dI)=Sum.inr b)=decide (a=b):=by
 by_cases e:a=b
 ·subst e;simp
 ·have h:¬ (Sum.inr a:dI)=Sum.inr b:=λ q=>e (Sum.inr.inj q)
  rw [decide_eq_false h,decide_eq_false e]
theorem Hj (a:Int) (b:Str):decide ((Sum.inl a:dI)=Sum.inr b)=false:=decide_eq_false (λ q=>nomatch q)
theorem Hk (a:Str) (b:Int):decide ((Sum.inr a:dI)=Sum.inl b)=false:=decide_eq_false (λ q=>nomatch q)
noncomputable def cq (prog:Program) (w:World):PySem.KeyKind prog w dI where
 is:=sj
 hash:=LS w
 inj:=λ v a b ha hb=>by
  rcases cc ha with ⟨i,t,rfl,rfl⟩ | ⟨x,t,rfl,rfl⟩
  ·rcases cc hb with ⟨j,u,rfl,e⟩ | ⟨y,u,rfl,e⟩
   ·injection e with e1 _;rw [e1]
   ·exact nomatch e
  ·rcases cc hb with ⟨j,u,rfl,e⟩ | ⟨y,u,rfl,e⟩
   ·exact nomatch e
   ·injection e with e1 _;rw [e1]
 byValue:=λ k v h=>by
  rcases cc h with ⟨i,t,rfl,rfl⟩ | ⟨x,t,rfl,rfl⟩ <;> rfl
 pyHash:=λ hv h=>by
  rcases cc hv with ⟨i,t,rfl,rfl⟩ | ⟨x,t,rfl,rfl⟩
  ·exact wpAny_pyHash_int h
  ·exact wpAny_pyHash_str h
 eqBool:=λ hu hv h=>by
  rcases cc hu with ⟨i,t,rfl,rfl⟩ | ⟨x,t,rfl,rfl⟩
  ·rcases cc hv with ⟨j,u,rfl,rfl⟩ | ⟨y,u,rfl,rfl⟩
   ·rw [Hi] at h;exact wpAny_eqBool_int h
   ·rw [Hj] at h;exact SeqAt.EqAt.int_str i t y u _ _ _ _ h
  ·rcases cc hv with ⟨j,u,rfl,rfl⟩ | ⟨y,u,rfl,rfl⟩
   ·rw [Hk] at h;exact SeqAt.EqAt.str_int x t j u _ _ _ _ h
   ·rw [Hl] at h;exact wpAny_eqBool_str h
 «strs»:=λ k x t v h=>by
  rcases cc h with ⟨i,u,rfl,e⟩ | ⟨y,u,rfl,e⟩
  ·exact nomatch e
  ·injection e with e1 _
   subst e1
   cases v <;> rfl
theorem ww (prog:Program) (w:World) (i:Int) (t:Tok):(cq prog w).is (.inl i) (.int i t)=true:=AK i t
theorem wx (prog:Program) (w:World) (x:Str) (t:Tok):(cq prog w).is (.inr x) (.str x t)=true:=AL x t
end L2
namespace L2
open PySem PySem.Spec PyProof.Rows
inductive V where
 | non | bl (b:Bool) | int (i:Int) | str (x:Str) | byt (b:Array UInt8) | flt (b:UInt64) | ref (a:Addr) | ty (n:String)
noncomputable def bg:V->Value->Prop
 | .non,u=>u=Value.none
 | .bl b,u=>u=Value.bool b
 | .int i,u=>∃ t,u=Value.int i t
 | .str x,u=>∃ t,u=Value.str x t
 | .byt b,u=>∃ t,u=Value.bytes b t
 | .flt b,u=>∃ t,u=Value.float b t
 | .ref a,u=>u=Value.ref a
 | .ty n,u=>u=Value.type n
noncomputable abbrev bE:List V->List Value->Prop:=Paired bg
theorem bE.length {xs:List V} {us:List Value} (r:bE xs us):xs.length=us.length:=Paired.length r
theorem bE.get:∀ {xs:List V} {us:List Value} {i:Nat} {x:V},bE xs us->xs[i]?=some x->∃ u,us[i]?=some u/\bg x u
 | _,_,_,_,.nil,e=>by simp at e
 | _,_,0,_,.cons r _,e=>by simp at e;subst e;exact ⟨_,rfl,r⟩
 | _,_,i + 1,x,.cons _ t,e=>by
  obtain ⟨u,h1,h2⟩:=bE.get (i:=i) (x:=x) t (by simpa using e)
  exact ⟨u,by simpa using h1,h2⟩
theorem bE.append:∀ {xs ys:List V} {us ws:List Value},bE xs us->bE ys ws->bE (xs++ys) (us++ws)
 | _,_,_,_,.nil,s=>s
 | _,_,_,_,.cons r t,s=>.cons r (bE.append t s)
theorem bE.take:∀ {xs:List V} {us:List Value} (n:Nat),bE xs us->bE (xs.take n) (us.take n)
 | _,_,0,_=>.nil
 | _,_,_ + 1,.nil=>.nil
 | _,_,n + 1,.cons r t=>.cons r (bE.take n t)
theorem bE.drop:∀ {xs:List V} {us:List Value} (n:Nat),bE xs us->bE (xs.drop n) (us.drop n)
 | _,_,0,r=>r
 | _,_,_ + 1,.nil=>.nil
 | _,_,n + 1,.cons _ t=>bE.drop n t
noncomputable def vn:Option V->Option Value->Prop
 | some v,some u=>bg v u
 | none,none=>True
 | _,_=>False
noncomputable def KV {κ:Type}:List (κ × V)->List (κ × Value)->Prop:=Paired λ (p:κ × V) (q:κ × Value)=>p.1=q.1/\bg p.2 q.2
noncomputable def kV:dI->V
 | .inl i=>.int i
 | .inr x=>.str x
inductive HO where
  | lst (xs:List V)
  | tup (xs:List V)
  | dK (kvs:List (dI × V)) | dT (kvs:List (List dI × V))
  | set (S:Int->Bool) (n:Nat)
  | ins (C dx:Addr) (fs:List (Str × V))
  | own (x:Addr)
  | xd (fs:List (Str × V))
  | met (f x:Addr)
  | rng (lo hi:Int)
  | frz (o:Obj) (u:HO)
  | tbl (ps:Array Value)
  | ext (φ:Heap->Prop)
noncomputable abbrev Hp:=Addr->Option HO
noncomputable def upd (H:Hp) (a:Addr) (o:HO):Hp:=λ b=>if b=a then some o else H b
theorem aM {H:Hp} {a:Addr} {o:HO}:upd H a o a=some o:=by unfold upd;rw [if_pos rfl]
theorem aC {H:Hp} {a b:Addr} {o:HO} (h:b ≠ a):upd H a o b=H b:=by unfold upd;rw [if_neg h]
theorem Gi {H:Hp} {a b:Addr} {o u:HO} (h:H a=some o) (h':H b=some u) (d:o ≠ u):a ≠ b:=by
 intro e;subst e;rw [h] at h';exact d (Option.some.inj h')
theorem aQ {H:Hp} {a b:Addr} {o:HO} (h:H a=some o) (h':H b=none):a ≠ b:=by
 intro e;subst e;rw [h] at h';cases h'
section
variable (P:Program) (w:World)
noncomputable def dh (H:Hp) (h:Heap) (a:Addr):HO->Prop
 | .lst xs=>xs.length <= sizeLine/\∃ (its:List Value) (n:Nat),bE xs its/\h.get? a=some { cls:=.type "list",data:=.seq its.toArray n }
 | .tup xs=>xs.length <= sizeLine/\∃ its:List Value,bE xs its/\IsTup h a its.toArray
 | .dK kvs=>kvs.length <= sizeLine/\(a == sysModules)=false/\∃ vs,KV kvs vs/\h.DictOf (cq P w) a vs
 | .dT kvs=>kvs.length <= sizeLine/\(a == sysModules)=false/\∃ xs:List (List dI × Addr × Value),
   Paired (λ (p:List dI × V) (q:List dI × Addr × Value)=>p.1=q.1/\H q.2.1=some (.tup (p.1.map kV))/\bg p.2 q.2.2) kvs xs ∧
   ∃ o es ep,h.get? a=some o/\o.ExactDict/\o.data=.dict es ep/\es.toList=xs.map (entryOfKey (tupleKind (cq P w)))/\(xs.map (·.1)).Nodup
 | .set S n=>h.SetOf (intKind P w) a S n
 | .ins C dx fs=>H dx=some (.own a)/\fs.length <= 1000/\dx ≠ a/\h.get? a=some (PySem.W.instObj C dx) ∧
   ∃ mA,h.Ns1 dx mA/\(∀ f,vn (fs.lookup f) (mA f))/\PySem.Within mA (fs.map (·.1))
 | .own _=>∃ o,h.get? a=some o
 | .xd fs=>∃ mA,h.Ns1 a mA/\∀ f,vn (fs.lookup f) (mA f)
 | .rng lo hi=>∃ t u v,h.get? a=some { cls:=.type "range",data:=.fields #[.int lo t,.int hi u,.int 1 v] }
 | .frz o u=>h.get? a=some o/\dh H h a u
 | .tbl ps=>h.get? a=some { cls:=.none,data:=.fields ps }
 | .met f x=>h.get? a=some (PySem.W.methodObj (.ref f) (.ref x))
 | .ext φ=>φ h/\(∃ o,h.get? a=some o)/\∀ h1 h2:Heap,φ h1->(∀ o,h1.get? a=some o->h2.get? a=some o)->φ h2
noncomputable def mo (H:Hp) (h:Heap):Prop:=∀ a o,H a=some o->dh P w H h a o
end
section
variable {P:Program} {w:World} {H H':Hp} {h h':Heap} {a:Addr} {o:HO}
theorem dh.lt (x:dh P w H h a o):a < h.objs.size:=by
 cases o with
 | lst xs=>obtain ⟨_,_,_,_,e⟩:=x;exact Heap.lt_size e
 | tup xs=>obtain ⟨_,_,_,p⟩:=x;exact p.lt
 | dK kvs=>obtain ⟨_,_,_,_,o,_,_,e,_⟩:=x;exact Heap.lt_size e
 | dT kvs=>obtain ⟨_,_,_,_,o,_,_,e,_⟩:=x;exact Heap.lt_size e
 | set S n=>obtain ⟨o,_,_,_,e,_⟩:=x;exact Heap.lt_size e
 | ins C dx fs=>obtain ⟨_,_,_,e,_⟩:=x;exact Heap.lt_size e
 | own y=>obtain ⟨_,e⟩:=x;exact Heap.lt_size e
 | xd fs=>obtain ⟨_,⟨_,_,_,e,_⟩,_⟩:=x;exact Heap.lt_size e
 | rng lo hi=>obtain ⟨_,_,_,e⟩:=x;exact Heap.lt_size e
 | frz ob u=>obtain ⟨e,_⟩:=x;exact Heap.lt_size e
 | tbl ps=>exact Heap.lt_size (show h.get? a=some _ from x)
 | met f y=>exact Heap.lt_size (show h.get? a=some _ from x)
 | ext φ=>obtain ⟨_,⟨_,e⟩,_⟩:=x;exact Heap.lt_size e
theorem Paired.mapP {α β:Type} {F G:α->β->Prop}:∀ {l₁:List α} {l₂:List β},Paired F l₁ l₂->(∀ a b,F a b->G a b)->Paired G l₁ l₂
 | _,_,.nil,_=>.nil
 | _,_,.cons r t,f=>.cons (f _ _ r) (Paired.mapP t f)
theorem dh.stay (x:dh P w H h a o) (k:∀ b u,(b=a \/ H b=some (.own a))->h.get? b=some u->h'.get? b=some u)
  (ho:∀ b,H b=some (.own a)->H' b=some (.own a)) (ht:∀ b xs,H b=some (.tup xs)->H' b=some (.tup xs)):dh P w H' h' a o:=by
 induction o with
 | lst xs=>obtain ⟨z,its,n,r,e⟩:=x;exact ⟨z,its,n,r,k _ _ (.inl rfl) e⟩
 | tup xs=>obtain ⟨z,its,r,ob,e,c⟩:=x;exact ⟨z,its,r,ob,k _ _ (.inl rfl) e,c⟩
 | dK kvs=>obtain ⟨z,y,vs,r,ob,es,ep,e,c⟩:=x;exact ⟨z,y,vs,r,ob,es,ep,k _ _ (.inl rfl) e,c⟩
 | dT kvs =>
  obtain ⟨z,y,xs,r,ob,es,ep,e,c⟩:=x
  exact ⟨z,y,xs,Paired.mapP r λ p q z=>⟨z.1,ht _ _ z.2.1,z.2.2⟩,ob,es,ep,k _ _ (.inl rfl) e,c⟩
 | set S n=>obtain ⟨ob,es,ep,t,e,c⟩:=x;exact ⟨ob,es,ep,t,k _ _ (.inl rfl) e,c⟩
 | ins C dx fs =>
  obtain ⟨d,z,ne,e,mA,⟨od,es,ep,e2,c⟩,r⟩:=x
  exact ⟨ho _ d,z,ne,k _ _ (.inl rfl) e,mA,⟨od,es,ep,k _ _ (.inr d) e2,c⟩,r⟩
 | own y=>obtain ⟨ob,e⟩:=x;exact ⟨ob,k _ _ (.inl rfl) e⟩
 | xd fs=>obtain ⟨mA,⟨od,es,ep,e,c⟩,r⟩:=x;exact ⟨mA,⟨od,es,ep,k _ _ (.inl rfl) e,c⟩,r⟩
 | rng lo hi=>obtain ⟨t,u,v,e⟩:=x;exact ⟨t,u,v,k _ _ (.inl rfl) e⟩
 | frz ob u ih=>obtain ⟨e,q⟩:=x;exact ⟨k _ _ (.inl rfl) e,ih q⟩
 | tbl ps =>
  have e:h.get? a=some { cls:=.none,data:=.fields ps }:=x
  show h'.get? a=some { cls:=.none,data:=.fields ps }
  exact k a _ (.inl rfl) e
 | met f y =>
  have e:h.get? a=some (PySem.W.methodObj (.ref f) (.ref y)):=x
  show h'.get? a=some (PySem.W.methodObj (.ref f) (.ref y))
  exact k a _ (.inl rfl) e
 | ext φ=>obtain ⟨p,⟨o,e⟩,st⟩:=x;exact ⟨st _ _ p λ o q=>k _ _ (.inl rfl) q,⟨o,k _ _ (.inl rfl) e⟩,st⟩
theorem mo.lt (x:mo P w H h) (e:H a=some o):a < h.objs.size:=(x a o e).lt
theorem mo.fresh (x:mo P w H h) (e:h.objs.size <= a):H a=none:=by
 cases q:H a with
 | none=>rfl
 | some u=>exact absurd (Nat.lt_of_lt_of_le (x.lt q) e) (Nat.lt_irrefl _)
theorem mo.kept (x:mo P w H h) (k:∀ b u,h.get? b=some u->h'.get? b=some u):mo P w H h':=λ a o e =>
 (x a o e).stay (λ b u _ q=>k b u q) (λ _ q=>q) λ _ _ q=>q
theorem mo.laid (x:mo P w H h) (k:∀ b u,h.get? b=some u->h'.get? b=some u) (hp:h.objs.size <= a) (new:dh P w (upd H a o) h' a o):mo P w (upd H a o) h':=λ b u e=>by
 have hn:=x.fresh hp
 by_cases hb:b=a
 ·subst hb;rw [aM] at e;cases e;exact new
 ·rw [aC hb] at e
  exact (x b u e).stay (λ c v _ q=>k c v q) (λ c q=>by rw [aC (aQ q hn)];exact q) λ c xs q=>by rw [aC (aQ q hn)];exact q
end
noncomputable def Rd (H:Hp) (a:Addr) (u:HO):Prop:=H a=some u \/ ∃ o,H a=some (.frz o u)
theorem Rd.ok {P:Program} {w:World} {H:Hp} {h:Heap} {a:Addr} {u:HO} (r:Rd H a u) (x:mo P w H h):dh P w H h a u:=by
 rcases r with r | ⟨o,r⟩
 ·exact x a u r
 ·obtain ⟨_,q⟩:=x a _ r
  exact q
noncomputable def Jl:Option HO->Prop
 | some (.lst _)=>True
 | some (.dK _)=>True
 | some (.dT _)=>True
 | some (.set _ _)=>True
 | some (.ins _ _ _)=>True
 | some (.ext _)=>True
 | _=>False
section
variable {P:Program} {w:World} {H:Hp} {h h':Heap} {x e:Addr} {o':HO}
theorem mo.write (ok:mo P w H h) (mu:Jl (H x)) (he:e=x \/ H e=some (.own x)) (k:∀ b u,b ≠ e->h.get? b=some u->h'.get? b=some u) (heo:∃ u,h'.get? e=some u)
  (new:dh P w (upd H x o') h' x o'):mo P w (upd H x o') h':=λ b u q=>by
 have nown:∀ c y,H c=some (.own y)->c ≠ x:=λ c y r z=>by subst z;rw [r] at mu;exact mu
 have ntup:∀ c xs,H c=some (.tup xs)->c ≠ x:=λ c xs r z=>by subst z;rw [r] at mu;exact mu
 by_cases hb:b=x
 ·subst hb;rw [aM] at q;cases q;exact new
 ·rw [aC hb] at q
  by_cases hbe:b=e
  ·have q':H b=some (.own x):=by
    rcases he with z | z
    ·exact absurd (hbe.trans z) hb
    ·rw [hbe];exact z
   rw [q] at q';cases q'
   obtain ⟨v,hv⟩:=heo
   exact ⟨v,by rw [hbe];exact hv⟩
  ·refine (ok b u q).stay (λ c v hc r=>k c v ?_ r) (λ c r=>by rw [aC (nown c b r)];exact r) λ c xs r=>by rw [aC (ntup c xs r)];exact r
   rcases hc with rfl | hc
   ·exact hbe
   ·rintro rfl
    rcases he with z | z
    ·exact nown c b hc z
    ·rw [hc] at z;cases z;exact hb rfl
end
structure Un (fs ex:List Addr) (H H':Hp) (h h':Heap):Prop where
 keep:∀ b o,h.get? b=some o->H b=none->b ∉ fs->b ∉ ex->h'.get? b=some o
 slot:∀ b o,h.get? b=some o->H b=none->b∈fs->b ∉ ex->∃ sl,h'.get? b=some { o with slots:=sl }
 free:∀ b o,h.get? b=some o->H b=none->b ∉ ex->H' b=none
 there:∀ b o,h.get? b=some o->b ∉ ex->∃ o',h'.get? b=some o'
 tups:∀ b xs,H b=some (.tup xs)->H' b=some (.tup xs)
 frzs:∀ b o u,H b=some (.frz o u)->H' b=some (.frz o u)
 tbls:∀ b ps,H b=some (.tbl ps)->∃ more,H' b=some (.tbl (ps++more))
section
variable {fs fs' ex ex':List Addr} {H H1 H2:Hp} {h h1 h2 h':Heap} {a x e:Addr} {o:HO}
theorem Un.any (u:Un fs ex H H1 h h1) {b:Addr} {ob:Obj} (q:h.get? b=some ob) (n:H b=none) (hx:b ∉ ex):∃ sl,h1.get? b=some { ob with slots:=sl }:=by
 by_cases hb:b∈fs
 ·exact u.slot b ob q n hb hx
 ·exact ⟨ob.slots,u.keep b ob q n hb hx⟩
theorem Un.kept (k:∀ b u,h.get? b=some u->h'.get? b=some u):Un fs ex H H h h':=
 ⟨λ b ob q _ _ _=>k b ob q,λ b ob q _ _ _=>⟨ob.slots,k b ob q⟩,λ _ _ _ n _=>n,λ b ob q _=>⟨ob,k b ob q⟩,λ _ _ q=>q,λ _ _ _ q=>q,λ _ ps q=>⟨#[],by rw [q];simp⟩⟩
theorem Un.refl:Un fs ex H H h h:=Un.kept λ _ _ q=>q
theorem Un.laid (k:∀ b u,h.get? b=some u->h'.get? b=some u) (hp:h.objs.size <= a) (hn:H a=none):Un fs ex H (upd H a o) h h' where
 keep:=λ b u q _ _ _=>k b u q
 slot:=λ b u q _ _ _=>⟨u.slots,k b u q⟩
 free:=λ b u q n _=>by rw [aC (Nat.ne_of_lt (Nat.lt_of_lt_of_le (Heap.lt_size q) hp))];exact n
 there:=λ b u q _=>⟨u,k b u q⟩
 tups:=λ b xs q=>by rw [aC (aQ q hn)];exact q
 frzs:=λ b u xs q=>by rw [aC (aQ q hn)];exact q
 tbls:=λ b ps q=>⟨#[],by rw [aC (aQ q hn),q];simp⟩
theorem Un.write (mu:Jl (H x)) (he:e=x \/ H e=some (.own x)) (k:∀ b u,b ≠ e->h.get? b=some u->h'.get? b=some u) (heo:∃ u,h'.get? e=some u):Un fs ex H (upd H x o) h h':=by
 have hx:∀ b,H b=none->b ≠ x:=λ b n z=>by subst z;rw [n] at mu;exact mu
 have hb:∀ b,H b=none->b ≠ e:=λ b n z=>by
  subst z
  rcases he with r | r
  ·exact hx b n r
  ·rw [n] at r;cases r
 have hm:∀ b u,H b=some u->¬ Jl (some u)->b ≠ x:=λ b u q nm z=>by subst z;rw [q] at mu;exact nm mu
 refine ⟨λ b u q n _ _=>k b u (hb b n) q,λ b u q n _ _=>⟨u.slots,k b u (hb b n) q⟩,λ b u q n _=>by rw [aC (hx b n)];exact n,λ b u q _=>?_,
  λ b xs q=>by rw [aC (hm b _ q λ z=>z)];exact q,λ b u xs q=>by rw [aC (hm b _ q λ z=>z)];exact q,λ b ps q=>⟨#[],by rw [aC (hm b _ q λ z=>z),q];simp⟩⟩
 by_cases hbe:b=e
 ·subst hbe;exact heo
 ·exact ⟨u,k b u hbe q⟩
end
noncomputable def FH (h:Heap) (H:Hp):List Addr:=(List.range h.objs.size).filter λ a=>(H a).isSome
noncomputable def tW (h:Heap) (H:Hp):Heap:=PySem.W.hideAll h (FH h H)
theorem AH (h:Heap) (H:Hp):(tW h H).objs.size=h.objs.size:=PySem.W.hideAll_size _ _
theorem B7 {h:Heap} {H:Hp} {b:Addr} {o:Obj} (e:h.get? b=some o) (n:H b=none):(tW h H).get? b=some o:=
 PySem.W.hideAll_get _ e λ hm=>by
  have q:(H b).isSome=true:=(List.mem_filter.mp hm).2
  rw [n] at q;simp at q
theorem ED {h:Heap} {H:Hp} {b:Addr} {o:Obj} (e:(tW h H).get? b=some o):h.get? b=some o/\H b=none:=by
 have e':h.get? b=some o:=PySem.W.of_hideAll (FH h H) e
 refine ⟨e',?_⟩
 cases q:H b with
 | none=>rfl
 | some x =>
  have hm:b∈FH h H:=List.mem_filter.mpr ⟨List.mem_range.mpr (Heap.lt_size e'),by simp [q]⟩
  have z:(tW h H).get? b=none:=PySem.W.hideAll_none (FH h H) hm
  rw [z] at e;cases e
noncomputable def D2 (g h:Heap) (L:Addr):List (Addr × Obj):=(List.range h.objs.size).filterMap λ a=>if a=L \/ (g.get? a).isSome=true then none else (h.get? a).map λ o=>(a,o)
noncomputable def bf (g h:Heap) (L d:Addr):List (Addr × Obj):=(D2 g h L).filter λ p=>decide (p.1 ≠ d)
end L2
namespace L2
open PySem PySem.Spec PyProof.Rows
structure Mod (K:PySem.W.Frag) (mg:Str->Option Value) (base:Heap):Prop where
 kin:K.In base
 glob:base.Ns mainGlobals mg
 blt:∃ mb,base.Ns builtinsNs mb/\∀ x:Str,x ≠ "__name__"->mb x=bootBuiltins x
 nolimit:base.NoLimit
structure Cx where
 prog:Program
 w:World
 K:PySem.W.Frag
 mg:Str->Option Value
 base:Heap
 A:Around
 N:List Str
 s₀:Shared
 H₀:Hp
 env:Env
 outer:List Env
 stack:List Env
 ex:List Addr
 fn:Str->Bool
 calm:Bool
 pn:List (Addr × Obj)
 xe:Value->Shared->Prop
 sg:List (Addr × Obj)->List (Option V)->Prop:=λ _ _=>True
noncomputable def nD (l:List Env):List Addr:=l.filterMap (·.frame)
noncomputable abbrev Cx.fs (X:Cx):List Addr:=nD X.outer
noncomputable def rL (sc:Scope) (x:Str):Prop:=sc.names.lookup x=some .local \/ sc.names.lookup x=some .cell \/ sc.names.lookup x=some .free
noncomputable def qX (sc:Scope) (x:Str):Prop:=sc.names.lookup x=some .local \/ sc.names.lookup x=some .cell
noncomputable def Lk (env:Env) (h:Heap) (m:Str->Option Value) (x:Str) (u:Value):Prop:=
 (env.kindOf x=some .local/\m x=some u) \/ ((env.kindOf x=some .cell \/ env.kindOf x=some .free)/\∃ c,env.cells.lookup x=some c/\h.IsCell c (some u))
structure Cx.Ok (X:Cx):Prop where
 mod:Mod X.K X.mg X.base
 kind:X.env.scope.kind=.function
 glob:X.env.globals=mainGlobals
 blt:X.env.builtins=builtinsNs
 above:X.s₀.heap.objs.size <= X.env.locals
 inj:∀ x y c,X.env.cells.lookup x=some c->X.env.cells.lookup y=some c->x=y
 has:∀ x,(X.env.kindOf x=some .cell \/ X.env.kindOf x=some .free)->∃ c,X.env.cells.lookup x=some c
 cab:∀ x c,X.fn x=true->X.env.cells.lookup x=some c->X.s₀.heap.objs.size <= c
 hd:X.calm=true->X.A.handled=none
 frames:X.A.frames=some X.stack
 stk:X.stack=X.outer \/ (X.stack=X.env :: X.outer/\X.env.frame=some X.env.locals)
 exf:∀ b∈X.ex,b ≠ X.env.locals/\∀ x c,X.env.cells.lookup x=some c->c ≠ b
 bs:∀ b o,X.base.get? b=some o->X.s₀.heap.get? b=some o/\X.H₀ b=none
 bsz:X.base.objs.size <= X.s₀.heap.objs.size
 noex:∀ b o,X.base.get? b=some o->b ∉ X.ex
 exfs:∀ b∈X.ex,b ∉ X.fs
 funs:X.s₀.heap.FunFrames X.base X.outer
 frf:∀ b∈X.fs,X.H₀ b=none
structure Inv (X:Cx) (pins:List (Addr × Obj)) (σ:List (Option V)) (H:Hp) (s:Shared):Prop where
 ok:X.Ok
 os:s.os=X.s₀.os
 bare:AllBare s.gens
 base:Un X.fs X.ex X.H₀ H X.s₀.heap s.heap
 loc:∃ m,s.heap.Ns X.env.locals m/\∀ (i:Nat) (x:Str) (v:V),X.N[i]?=some x->σ[i]?=some (some v)->rL X.env.scope x->∃ u,bg v u/\Lk X.env s.heap m x u
 cell:∀ x c,X.env.cells.lookup x=some c->∃ v,s.heap.IsCell c v
 free:H X.env.locals=none
 freeC:∀ x c,X.env.cells.lookup x=some c->H c=none
 pin:∀ p∈X.pn++pins,s.heap.get? p.1=some p.2/\H p.1=none/\p.1 ≠ X.env.locals/\p.1 ∉ X.fs/\∀ v,p.2.data ≠ .cell v
 hok:mo X.prog X.w H s.heap
 len:σ.length=X.N.length
 sgm:X.sg pins σ
section
variable {X:Cx} {pins:List (Addr × Obj)} {σ:List (Option V)} {H H':Hp} {s:Shared} {h':Heap}
theorem Cx.Ok.nofr (ok:X.Ok) {b:Addr} {o:Obj} (e:X.base.get? b=some o):b ∉ X.fs:=λ hb=>by
 have:=(ok.funs.mem hb).1
 rw [e] at this;cases this
theorem Inv.bs (I:Inv X pins σ H s):∀ b o,X.base.get? b=some o->s.heap.get? b=some o/\H b=none:=λ b o e =>
 ⟨I.base.keep b o (I.ok.bs b o e).1 (I.ok.bs b o e).2 (I.ok.nofr e) (I.ok.noex b o e),I.base.free b o (I.ok.bs b o e).1 (I.ok.bs b o e).2 (I.ok.noex b o e)⟩
theorem Inv.bk (I:Inv X pins σ H s):∀ b o,X.base.get? b=some o->s.heap.get? b=some o:=λ b o e=>(I.bs b o e).1
theorem Inv.mod (I:Inv X pins σ H s):Mod X.K X.mg X.base:=I.ok.mod
theorem Inv.kIn (I:Inv X pins σ H s):X.K.In s.heap:=I.ok.mod.kin.keeps I.bk
theorem Inv.lt (I:Inv X pins σ H s):X.env.locals < s.heap.objs.size:=let ⟨_,hn,_⟩:=I.loc;hn.lt
theorem Inv.sz (I:Inv X pins σ H s):X.s₀.heap.objs.size <= s.heap.objs.size:=Nat.le_trans I.ok.above (Nat.le_of_lt I.lt)
theorem Inv.nofs (I:Inv X pins σ H s) {a:Addr} (h:s.heap.objs.size <= a):a ∉ X.fs:=λ hb=>by
 obtain ⟨_,o,ho,_⟩:=I.ok.funs.mem hb
 exact absurd (Nat.lt_of_lt_of_le (Heap.lt_size ho) (Nat.le_trans I.sz h)) (Nat.lt_irrefl _)
theorem Inv.cne (I:Inv X pins σ H s):∀ x c,X.env.cells.lookup x=some c->c ≠ X.env.locals:=λ x c e z=>by
 obtain ⟨v,o,ho,hd⟩:=I.cell x c e
 obtain ⟨m,⟨o',es,ep,ho',hd',_⟩,_⟩:=I.loc
 rw [z,ho'] at ho;cases ho;rw [hd'] at hd;cases hd
theorem Inv.funs (I:Inv X pins σ H s):s.heap.FunFrames X.base X.outer:=by
 have all:∀ (l:List Env),(∀ b∈nD l,b∈X.fs)->X.s₀.heap.FunFrames X.base l->s.heap.FunFrames X.base l:=by
  intro l
  induction l with
  | nil=>intro _ _;trivial
  | cons env r ih =>
   intro hs hl
   obtain ⟨hk,⟨L,o,hf,hn,ho,hd⟩,hr⟩:=hl
   have hL:L∈X.fs:=hs L (by unfold nD;rw [List.filterMap_cons,hf];exact List.mem_cons_self)
   obtain ⟨sl,e⟩:=I.base.slot L o ho (I.ok.frf L hL) hL λ z=>I.ok.exfs L z hL
   exact ⟨hk,⟨L,_,hf,hn,e,hd⟩,ih (λ b hb=>hs b (by unfold nD;rw [List.filterMap_cons,hf];exact List.mem_cons_of_mem _ hb)) hr⟩
 exact all X.outer (λ _ hb=>hb) I.ok.funs
theorem Inv.stack (I:Inv X pins σ H s):s.heap.FunFrames X.base X.stack:=by
 rcases I.ok.stk with e | ⟨e,hf⟩
 ·rw [e];exact I.funs
 ·rw [e]
  obtain ⟨m,hn,_⟩:=I.loc
  refine .cons (by rw [I.ok.kind];decide) hf hn ?_ I.funs
  exact Heap.get?_none_of_le (Nat.le_trans I.ok.bsz I.ok.above)
theorem Inv.stkSub (I:Inv X pins σ H s):∀ b∈nD X.stack,b∈X.env.locals :: X.fs:=λ b hb=>by
 rcases I.ok.stk with e | ⟨e,hf⟩
 ·rw [e] at hb;exact List.mem_cons_of_mem _ hb
 ·rw [e] at hb
  unfold nD at hb
  rw [List.filterMap_cons,hf] at hb
  exact hb
theorem Inv.stkFree (I:Inv X pins σ H s):∀ b∈nD X.stack,H b=none:=λ b hb=>by
 rcases List.mem_cons.mp (I.stkSub b hb) with e | hb
 ·rw [e];exact I.free
 ·obtain ⟨_,o,ho,_⟩:=I.ok.funs.mem hb
  exact I.base.free b o ho (I.ok.frf b hb) λ z=>I.ok.exfs b z hb
theorem Inv.step {g':Array GenState} {t':Nat} {d':Drawn} {ch:List Addr} (I:Inv X pins σ H s)
  (hch:∀ b∈ch,(b∈X.ex \/ X.s₀.heap.get? b=none)/\b ≠ X.env.locals/\(∀ x c,X.env.cells.lookup x=some c->c ≠ b)/\∀ p∈X.pn++pins,p.1 ≠ b)
  (keep:∀ b o,b ≠ X.env.locals->b ∉ X.fs->b ∉ ch->s.heap.get? b=some o->H b=none->h'.get? b=some o)
  (slot:∀ b o,b ≠ X.env.locals->b∈X.fs->b ∉ ch->s.heap.get? b=some o->H b=none->∃ sl,h'.get? b=some { o with slots:=sl }) (free:∀ b o,b ∉ ch->s.heap.get? b=some o->H b=none->H' b=none)
  (there:∀ b o,b ∉ ch->s.heap.get? b=some o->∃ o',h'.get? b=some o')
  (tups:∀ b xs,H b=some (.tup xs)->H' b=some (.tup xs)) (frzs:∀ b o u,H b=some (.frz o u)->H' b=some (.frz o u)) (tbls:∀ b ps,H b=some (.tbl ps)->∃ more,H' b=some (.tbl (ps++more)))
  (ns:∀ m,s.heap.Ns X.env.locals m->h'.Ns X.env.locals m) (hok:mo X.prog X.w H' h') (hg:AllBare g') :
  Inv X pins σ H' { s with heap:=h',gens:=g',drawn:=d',toks:=t' }:=by
 have neL:∀ b o,X.s₀.heap.get? b=some o->b ≠ X.env.locals:=λ b o e=>Nat.ne_of_lt (Nat.lt_of_lt_of_le (Heap.lt_size e) I.ok.above)
 have neC:∀ b o,X.s₀.heap.get? b=some o->b ∉ X.ex->b ∉ ch:=λ b o e hx hb=>by
  rcases (hch b hb).1 with z | z
  ·exact hx z
  ·rw [z] at e;cases e
 have cellK:∀ x c,X.env.cells.lookup x=some c->∀ v,s.heap.IsCell c v->h'.IsCell c v:=λ x c e v ⟨o,ho,hd⟩=>by
  have nch:c ∉ ch:=λ z=>(hch c z).2.2.1 x c e rfl
  by_cases hc:c∈X.fs
  ·obtain ⟨sl,q⟩:=slot c o (I.cne x c e) hc nch ho (I.freeC x c e)
   exact ⟨_,q,hd⟩
  ·exact ⟨o,keep c o (I.cne x c e) hc nch ho (I.freeC x c e),hd⟩
 refine ⟨I.ok,I.os,hg,⟨λ b o e n hb hx=>?_,λ b o e n hb hx=>?_,λ b o e n hx=>?_,λ b o e hx=>?_,λ b xs e=>tups b xs (I.base.tups b xs e),λ b o xs e=>frzs b o xs (I.base.frzs b o xs e),λ b ps e=>?_⟩,?_,λ x c e=>?_,?_,λ x c e=>?_,λ p hp=>?_,hok,I.len,I.sgm⟩
 ·exact keep b o (neL b o e) hb (neC b o e hx) (I.base.keep b o e n hb hx) (I.base.free b o e n hx)
 ·obtain ⟨sl,e1⟩:=I.base.slot b o e n hb hx
  obtain ⟨sl',e2⟩:=slot b _ (neL b o e) hb (neC b o e hx) e1 (I.base.free b o e n hx)
  exact ⟨sl',e2⟩
 ·obtain ⟨o',e1⟩:=I.base.there b o e hx
  exact free b o' (neC b o e hx) e1 (I.base.free b o e n hx)
 ·obtain ⟨o',e1⟩:=I.base.there b o e hx
  exact there b o' (neC b o e hx) e1
 ·obtain ⟨m1,e1⟩:=I.base.tbls b ps e
  obtain ⟨m2,e2⟩:=tbls b _ e1
  exact ⟨m1++m2,by rw [e2,Array.append_assoc]⟩
 ·obtain ⟨m,hn,hl⟩:=I.loc
  refine ⟨m,ns m hn,λ i x v e1 e2 e3=>?_⟩
  obtain ⟨u,r,l⟩:=hl i x v e1 e2 e3
  refine ⟨u,r,?_⟩
  rcases l with l | ⟨k,c,e,z⟩
  ·exact .inl l
  ·exact .inr ⟨k,c,e,cellK x c e _ z⟩
 ·obtain ⟨v,z⟩:=I.cell x c e
  exact ⟨v,cellK x c e v z⟩
 ·obtain ⟨m,⟨o,_,_,ho,_⟩,_⟩:=I.loc
  exact free _ o (λ z=>(hch _ z).2.1 rfl) ho I.free
 ·obtain ⟨v,o,ho,hd⟩:=I.cell x c e
  exact free c o (λ z=>(hch c z).2.2.1 x c e rfl) ho (I.freeC x c e)
 ·obtain ⟨e,n,ne,nf,d⟩:=I.pin p hp
  have nch:p.1 ∉ ch:=λ z=>(hch p.1 z).2.2.2 p hp rfl
  exact ⟨keep p.1 p.2 ne nf nch e n,free p.1 p.2 nch e n,ne,nf,d⟩
theorem Inv.un {t':Nat} (I:Inv X pins σ H s) (u:Un X.fs [] H H' s.heap h') (hok:mo X.prog X.w H' h'):Inv X pins σ H' { s with heap:=h',toks:=t' }:=by
 obtain ⟨m,⟨o,es,ep,ho,r⟩,_⟩:=id I.loc
 obtain ⟨sl,hL⟩:=u.any ho I.free (by simp)
 exact I.step (g':=s.gens) (d':=s.drawn) (ch:=[]) (λ _ z=>nomatch z) (λ b o _ hb _ e n=>u.keep b o e n hb (by simp)) (λ b o _ hb _ e n=>u.slot b o e n hb (by simp)) (λ b o _ e n=>u.free b o e n (by simp)) (λ b o _ e=>u.there b o e (by simp)) u.tups u.frzs u.tbls (λ m' hm=>by
  obtain ⟨o',es',ep',ho',r'⟩:=hm
  rw [ho] at ho';cases ho'
  exact ⟨_,es',ep',hL,r'⟩) hok I.bare
theorem Inv.call {g':Array GenState} {t':Nat} {d':Drawn} {ch:List Addr} (I:Inv X pins σ H s) (u:Un (nD X.stack) ch H H' s.heap h') (hok:mo X.prog X.w H' h') (hg:AllBare g')
  (hch:∀ b∈ch,(b∈X.ex \/ X.s₀.heap.get? b=none)/\b ≠ X.env.locals/\(∀ x c,X.env.cells.lookup x=some c->c ≠ b)/\∀ p∈X.pn++pins,p.1 ≠ b) :
  Inv X pins σ H' { s with heap:=h',gens:=g',drawn:=d',toks:=t' }:=by
 obtain ⟨m,⟨o,es,ep,ho,r⟩,_⟩:=id I.loc
 obtain ⟨sl,hL⟩:=u.any ho I.free λ z=>(hch _ z).2.1 rfl
 exact I.step (ch:=ch) hch (λ b o hL hb hc e n=>u.keep b o e n (λ z=>(List.mem_cons.mp (I.stkSub b z)).elim hL hb) hc) (λ b o _ _ hc e n=>u.any e n hc) (λ b o hc e n=>u.free b o e n hc) (λ b o hc e=>u.there b o e hc) u.tups u.frzs u.tbls (λ m' hm=>by
  obtain ⟨o',es',ep',ho',r'⟩:=hm
  rw [ho] at ho';cases ho'
  exact ⟨_,es',ep',hL,r'⟩) hok hg
theorem Inv.turned {t':Nat} {it:Addr} (I:Inv X pins σ H s) (k:∀ b o,b ≠ it->s.heap.get? b=some o->h'.get? b=some o) (hn:H it=none) (hL:it ≠ X.env.locals)
  (h1:it∈X.ex \/ X.s₀.heap.objs.size <= it) (h2:∀ x c,X.env.cells.lookup x=some c->c ≠ it) (h3:∀ p∈X.pn++pins,p.1 ≠ it):Inv X pins σ H { s with heap:=h',toks:=t' }:=by
 have nit:∀ b u,H b=some u->b ≠ it:=λ b u e z=>by rw [z,hn] at e;cases e
 refine I.step (g':=s.gens) (d':=s.drawn) (ch:=[it]) (λ b hb=>?_) (λ b o _ _ hc e _=>k b o (λ z=>hc (by simp [z])) e) (λ b o _ _ hc e _=>⟨o.slots,k b o (λ z=>hc (by simp [z])) e⟩) (λ _ _ _ _ n=>n)
  (λ b o hc e=>⟨o,k b o (λ z=>hc (by simp [z])) e⟩) (λ _ _ e=>e) (λ _ _ _ e=>e) (λ b ps e=>⟨#[],by rw [e];simp⟩) (λ m hm=>?_) (λ b u e=>?_) I.bare
 ·have e:b=it:=by simpa using hb
  subst e
  exact ⟨h1.imp id Heap.get?_none_of_le,hL,h2,h3⟩
 ·obtain ⟨o,es,ep,ho,r⟩:=hm
  exact ⟨o,es,ep,k _ o (Ne.symm hL) ho,r⟩
 ·refine (I.hok b u e).stay (λ c v hc q=>k c v ?_ q) (λ _ q=>q) λ _ _ q=>q
  rcases hc with z | z
  ·rw [z];exact nit b u e
  ·exact nit c _ z
theorem Inv.tok (I:Inv X pins σ H s) (t:Nat):Inv X pins σ H { s with toks:=t }:=I.un (h':=s.heap) (t':=t) Un.refl I.hok
theorem Inv.kept {t':Nat} (I:Inv X pins σ H s) (k:∀ b u,s.heap.get? b=some u->h'.get? b=some u):Inv X pins σ H { s with heap:=h',toks:=t' }:=I.un (Un.kept k) (I.hok.kept k)
theorem Inv.laid {a:Addr} {o:HO} {t':Nat} (I:Inv X pins σ H s) (k:∀ b u,s.heap.get? b=some u->h'.get? b=some u) (hp:s.heap.objs.size <= a) (new:dh X.prog X.w (upd H a o) h' a o) :
  Inv X pins σ (upd H a o) { s with heap:=h',toks:=t' }:=I.un (Un.laid k hp (I.hok.fresh hp)) (I.hok.laid k hp new)
theorem Inv.write {x e:Addr} {o:HO} {t':Nat} (I:Inv X pins σ H s) (mu:Jl (H x)) (he:e=x \/ H e=some (.own x)) (k:∀ b u,b ≠ e->s.heap.get? b=some u->h'.get? b=some u) (heo:∃ u,h'.get? e=some u)
  (new:dh X.prog X.w (upd H x o) h' x o):Inv X pins σ (upd H x o) { s with heap:=h',toks:=t' }:=I.un (Un.write mu he k heo) (I.hok.write mu he k heo new)
theorem Inv.pins_of {pins':List (Addr × Obj)} (I:Inv X pins σ H s) (h:∀ p∈pins',s.heap.get? p.1=some p.2/\H p.1=none/\p.1 ≠ X.env.locals/\p.1 ∉ X.fs/\∀ v,p.2.data ≠ .cell v) (hsg:X.sg pins' σ):Inv X pins' σ H s:=
 ⟨I.ok,I.os,I.bare,I.base,I.loc,I.cell,I.free,I.freeC,λ p hp=>(List.mem_append.mp hp).elim (λ z=>I.pin p (List.mem_append_left _ z)) (h p),I.hok,I.len,hsg⟩
theorem wB {N:List Str} (hN:N.Nodup) {i j:Nat} {x:Str} (a:N[i]?=some x) (b:N[j]?=some x):i=j:=by
 obtain ⟨h1,e1⟩:=List.getElem?_eq_some_iff.mp a
 obtain ⟨h2,e2⟩:=List.getElem?_eq_some_iff.mp b
 exact (List.getElem_inj hN).mp (e1.trans e2.symm)
theorem Bg {M:Model} {A:Around} {E:Value->Shared->Prop} {i:Nat} {x:Str} {v:V} {u:Value} {Q:Unit->Shared->Prop} (I:Inv X pins σ H s) (hN:X.N.Nodup) (hi:X.N[i]?=some x) (hx:qX X.env.scope x) (r:bg v u)
  (h:∀ s',Inv X pins (σ.set i (some v)) H s'->(∃ a,Heap.SameBut a s.heap s'.heap/\(a=X.env.locals \/ X.env.cells.lookup x=some a))->Q () s') (hf:X.fn x=true \/ X.env.scope.names.lookup x=some .local) (hsg:∀ p σ v,X.sg p σ->X.sg p (σ.set i (some v))):wpAny M A (storeName X.env x u) Q E s:=by
 obtain ⟨m,hn,hl⟩:=id I.loc
 have hcls:(X.env.scope.kind == .class || (X.env.scope.kind == .module && X.env.locals != X.env.globals))=false:=by rw [I.ok.kind];rfl
 have hiσ:i < σ.length:=by rw [I.len];exact (List.getElem?_eq_some_iff.mp hi).1
 have cne:=I.cne
 have tracked:∀ {a:Addr} {h':Heap},(∃ o,s.heap.get? a=some o/\H a=none)->Heap.SameBut a s.heap h'->mo X.prog X.w H h':=λ {a h'} ha hs b ob e=>by
  obtain ⟨_,_,hfree⟩:=ha
  refine (I.hok b ob e).stay (λ c w' hc q=>(hs.2 c ?_).trans q) (λ _ q=>q) λ _ _ q=>q
  rintro rfl
  rcases hc with rfl | hc
  ·rw [hfree] at e;cases e
  ·rw [hfree] at hc;cases hc
 rcases hx with hk | hk
 ·refine wpAny_storeName_local hk hn (λ h' hn' hs=>?_) hcls
  obtain ⟨oL,_,_,hoL,_⟩:=id hn
  refine h _ ⟨I.ok,I.os,I.bare,⟨λ b o e n hb hx=>?_,λ b o e n hb hx=>?_,I.base.free,λ b o e hx=>?_,I.base.tups,I.base.frzs,I.base.tbls⟩,⟨_,hn',λ j y v' e1 e2 e3=>?_⟩,λ y c e=>?_,I.free,I.freeC,λ p hp=>?_,tracked ⟨oL,hoL,I.free⟩ hs,by simpa using I.len,hsg _ _ _ I.sgm⟩ ⟨_,hs,.inl rfl⟩
  ·exact (hs.2 b (Nat.ne_of_lt (Nat.lt_of_lt_of_le (Heap.lt_size e) I.ok.above))).trans (I.base.keep b o e n hb hx)
  ·obtain ⟨sl,e1⟩:=I.base.slot b o e n hb hx
   exact ⟨sl,(hs.2 b (Nat.ne_of_lt (Nat.lt_of_lt_of_le (Heap.lt_size e) I.ok.above))).trans e1⟩
  ·obtain ⟨o',e1⟩:=I.base.there b o e hx
   exact ⟨o',(hs.2 b (Nat.ne_of_lt (Nat.lt_of_lt_of_le (Heap.lt_size e) I.ok.above))).trans e1⟩
  ·by_cases hj:j=i
   ·subst hj
    rw [hi] at e1;cases e1
    rw [List.getElem?_set_self hiσ] at e2
    cases e2
    exact ⟨u,r,.inl ⟨hk,by simp⟩⟩
   ·rw [List.getElem?_set_ne (Ne.symm hj)] at e2
    obtain ⟨u',r',q⟩:=hl j y v' e1 e2 e3
    refine ⟨u',r',?_⟩
    rcases q with ⟨k,e⟩ | ⟨k,c,e,z⟩
    ·refine .inl ⟨k,?_⟩
     have:y ≠ x:=λ e=>hj (wB hN e1 (e ▸ hi))
     simp [this,e]
    ·exact .inr ⟨k,c,e,z.sameBut hs (cne y c e)⟩
  ·obtain ⟨w',z⟩:=I.cell y c e
   exact ⟨w',z.sameBut hs (cne y c e)⟩
  ·obtain ⟨e,n,ne,nf,d⟩:=I.pin p hp
   exact ⟨(hs.2 p.1 ne).trans e,n,ne,nf,d⟩
 ·have hfn:X.fn x=true:=by
   rcases hf with z | z
   ·exact z
   ·rw [z] at hk;cases hk
  obtain ⟨c,hc⟩:=I.ok.has x (.inl hk)
  obtain ⟨w',z⟩:=I.cell x c hc
  refine wpAny_storeName_cell I.ok.kind hk hc z (λ h' hc' hs=>?_)
  obtain ⟨oc,hoc,hocd⟩:=id z
  refine h { s with heap:=h' } ⟨I.ok,I.os,I.bare,⟨λ b o e n hb hx=>?_,λ b o e n hb hx=>?_,I.base.free,λ b o e hx=>?_,I.base.tups,I.base.frzs,I.base.tbls⟩,⟨m,hn.sameBut hs (Ne.symm (cne x c hc)),λ j y v' e1 e2 e3=>?_⟩,λ y c' e=>?_,I.free,I.freeC,λ p hp=>?_,tracked ⟨oc,hoc,I.freeC x c hc⟩ hs,by simpa using I.len,hsg _ _ _ I.sgm⟩ ⟨c,hs,.inr hc⟩
  ·exact (hs.2 b (Nat.ne_of_lt (Nat.lt_of_lt_of_le (Heap.lt_size e) (I.ok.cab x c hfn hc)))).trans (I.base.keep b o e n hb hx)
  ·obtain ⟨sl,e1⟩:=I.base.slot b o e n hb hx
   exact ⟨sl,(hs.2 b (Nat.ne_of_lt (Nat.lt_of_lt_of_le (Heap.lt_size e) (I.ok.cab x c hfn hc)))).trans e1⟩
  ·obtain ⟨o',e1⟩:=I.base.there b o e hx
   exact ⟨o',(hs.2 b (Nat.ne_of_lt (Nat.lt_of_lt_of_le (Heap.lt_size e) (I.ok.cab x c hfn hc)))).trans e1⟩
  ·by_cases hj:j=i
   ·subst hj
    rw [hi] at e1;cases e1
    rw [List.getElem?_set_self hiσ] at e2
    cases e2
    exact ⟨u,r,.inr ⟨.inl hk,c,hc,hc'⟩⟩
   ·rw [List.getElem?_set_ne (Ne.symm hj)] at e2
    obtain ⟨u',r',q⟩:=hl j y v' e1 e2 e3
    refine ⟨u',r',?_⟩
    rcases q with q | ⟨k,c',e,z'⟩
    ·exact .inl q
    ·refine .inr ⟨k,c',e,z'.sameBut hs ?_⟩
     rintro rfl
     exact hj (wB hN e1 (I.ok.inj _ _ _ e hc ▸ hi))
  ·by_cases hcc:c'=c
   ·subst hcc;exact ⟨_,hc'⟩
   ·obtain ⟨w2,z2⟩:=I.cell y c' e
    exact ⟨w2,z2.sameBut hs hcc⟩
  ·obtain ⟨e,n,ne,nf,d⟩:=I.pin p hp
   refine ⟨(hs.2 p.1 ?_).trans e,n,ne,nf,d⟩
   intro q
   rw [q,hoc] at e
   have q':oc=p.2:=Option.some.inj e
   exact d w' (by rw [<- q'];exact hocd)
theorem jS {M:Model} {A:Around} {E:Value->Shared->Prop} {i:Nat} {x:Str} {v:V} {u:Value} {Q:Unit->Shared->Prop} (I:Inv X pins σ H s) (hN:X.N.Nodup) (hi:X.N[i]?=some x) (hx:qX X.env.scope x) (r:bg v u)
  (h:∀ s',Inv X pins (σ.set i (some v)) H s'->Q () s') (hf:X.fn x=true \/ X.env.scope.names.lookup x=some .local:=by first | exact .inl rfl | exact .inr rfl | assumption) (hsg:∀ p σ v,X.sg p σ->X.sg p (σ.set i (some v)):=by first | exact λ _ _ _ _=>trivial | assumption):wpAny M A (storeName X.env x u) Q E s:=
 Bg I hN hi hx r (λ s' I' _=>h s' I') hf hsg
theorem Inv.call' {s':Shared} {ch:List Addr} (I:Inv X pins σ H s) (ho:s'.os=s.os) (u:Un (nD X.stack) ch H H' s.heap s'.heap) (hok:mo X.prog X.w H' s'.heap) (hg:AllBare s'.gens)
  (hch:∀ b∈ch,(b∈X.ex \/ X.s₀.heap.get? b=none)/\b ≠ X.env.locals/\(∀ x c,X.env.cells.lookup x=some c->c ≠ b)/\∀ p∈X.pn++pins,p.1 ≠ b):Inv X pins σ H' s':=by
 obtain ⟨h',g',d',t',o'⟩:=s'
 have e:o'=s.os:=ho
 subst e
 exact I.call (g':=g') (t':=t') (d':=d') u hok hg hch
end
noncomputable abbrev XK:=Value->Option Addr->Hp->Prop
noncomputable abbrev St:=List (Option V)
noncomputable abbrev VK:=V->Hp->Prop
noncomputable abbrev TE:=St->Hp->VK->Prop
noncomputable abbrev TT:=St->Hp->(Bool->Hp->Prop)->Prop
noncomputable abbrev TA:=St->Hp->(List V->Hp->Prop)->Prop
structure Ends where
 nx:St->Hp->Prop
 rt:VK
 bk:St->Hp->Prop:=λ _ _=>False
 ct:St->Hp->Prop:=λ _ _=>False
noncomputable abbrev TS:=Ends->St->Hp->Prop
inductive EP (X:Cx) (pins:List (Addr × Obj)) (σ:St) (Q:VK) (u:Value) (s':Shared):Prop
 | mk (v:V) (H':Hp) (I:Inv X pins σ H' s') (r:bg v u) (q:Q v H')
inductive TP (X:Cx) (pins:List (Addr × Obj)) (σ:St) (Q:Bool->Hp->Prop) (b:Bool) (s':Shared):Prop
 | mk (H':Hp) (I:Inv X pins σ H' s') (q:Q b H')
inductive AP (X:Cx) (pins:List (Addr × Obj)) (σ:St) (Q:List V->Hp->Prop) (us:List Value) (s':Shared):Prop
 | mk (vs:List V) (H':Hp) (I:Inv X pins σ H' s') (r:bE vs us) (q:Q vs H')
inductive SN (X:Cx) (pins:List (Addr × Obj)) (Q:St->Hp->Prop) (s':Shared):Prop
 | mk (σ':St) (H':Hp) (I:Inv X pins σ' H' s') (q:Q σ' H')
inductive SR (X:Cx) (pins:List (Addr × Obj)) (Q:VK) (u:Value) (s':Shared):Prop
 | mk (v:V) (σ':St) (H':Hp) (I:Inv X pins σ' H' s') (r:bg v u) (q:Q v H')
noncomputable def SP (X:Cx) (pins:List (Addr × Obj)) (D:Ends) (f:Flow) (s':Shared):Prop:=
 match f with
 | .next=>SN X pins D.nx s'
 | .brk=>SN X pins D.bk s'
 | .cont=>SN X pins D.ct s'
 | .ret u=>SR X pins D.rt u s'
noncomputable def PE (X:Cx) (e:Expr) (t:TE):Prop:=
 ∀ (pins:List (Addr × Obj)) (s:Shared) (σ:St) (H:Hp) (Q:VK),Inv X pins σ H s->t σ H Q->wpAny (model X.prog X.w) X.A (eval e X.env) (EP X pins σ Q) X.xe s
noncomputable def PT (X:Cx) (e:Expr) (t:TT):Prop:=
 ∀ (pins:List (Addr × Obj)) (s:Shared) (σ:St) (H:Hp) (Q:Bool->Hp->Prop),Inv X pins σ H s->t σ H Q->wpAny (model X.prog X.w) X.A (isTrue e X.env (eval e X.env)) (TP X pins σ Q) X.xe s
noncomputable def PW (X:Cx) (e:Expr) (t:TT):Prop:=
 ∀ (whole:Sem Value) (pins:List (Addr × Obj)) (s:Shared) (σ:St) (H:Hp) (Q:Bool->Hp->Prop),Inv X pins σ H s->t σ H Q->wpAny (model X.prog X.w) X.A (isTrue e X.env whole) (TP X pins σ Q) X.xe s
theorem PW.pt {X:Cx} {e:Expr} {t:TT} (h:PW X e t):PT X e t:=h _
noncomputable def PA (X:Cx) (es:List Expr) (t:TA):Prop:=
 ∀ (pos:Pos) (pins:List (Addr × Obj)) (s:Shared) (σ:St) (H:Hp) (Q:List V->Hp->Prop),Inv X pins σ H s->t σ H Q->wpAny (model X.prog X.w) X.A (spliced (backTo pos (starEach es X.env))) (AP X pins σ Q) X.xe s
noncomputable def PS (X:Cx) (st:Stmt) (t:TS):Prop:=
 ∀ (pins:List (Addr × Obj)) (s:Shared) (σ:St) (H:Hp) (D:Ends),Inv X pins σ H s->t D σ H->wpAny (model X.prog X.w) X.A (exec st X.env) (SP X pins D) X.xe s
noncomputable def FW (X:Cx) (st:List Stmt) (t:TS):Prop:=
 ∀ (pins:List (Addr × Obj)) (s:Shared) (σ:St) (H:Hp) (D:Ends),Inv X pins σ H s->t D σ H->wpAny (model X.prog X.w) X.A (execs st X.env) (SP X pins D) X.xe s
theorem b7 {α:Type} {t:Sem α} {Q Q':α->Shared->Prop} {M:Model} {A:Around} {E:Value->Shared->Prop} {s:Shared} (h:wpAny M A t Q E s) (hQ:∀ a s,Q a s->Q' a s):wpAny M A t Q' E s:=wpAny_mono h hQ λ _ _ x=>x
end L2
namespace L2
open PySem PySem.Spec PyProof.Rows
section
variable {X:Cx}
noncomputable def IP (i:Nat):TE:=λ σ H Q=>∃ v,σ[i]?=some (some v)/\Q v H
noncomputable def tC (v:V):TE:=λ _ H Q=>Q v H
theorem lM {i:Nat} {x:Str} {pos:Pos} (hN:X.N[i]?=some x) (hv:rL X.env.scope x) (hd:(x == ("__debug__" : Str))=false:=by decide) (hcd:(x == ("__classdict__" : Str))=false:=by decide):PE X (.Name x pos) (IP i):=by
 intro pins s σ H Q I h
 obtain ⟨v,e,h⟩:=h
 obtain ⟨m,hn,hl⟩:=I.loc
 obtain ⟨u,r,l⟩:=hl i x v hN e hv
 have fin:EP X pins σ Q u s:=⟨v,H,I,r,h⟩
 rcases l with ⟨hk,hm⟩ | ⟨hk,c,hc,hcell⟩
 ·exact wpAny_Name (wpAny_loadName_local I.ok.kind hk hn hm fin) hd
 ·rcases hk with hk | hk
  ·exact wpAny_Name (wpAny_loadName_cell I.ok.kind hk hc hcell fin) hd
  ·exact wpAny_Name (wpAny_loadName_free I.ok.kind hk hc hcell fin hcd) hd
theorem CO {i j pos}:PE X (.Constant (.int i) j pos) (tC (.int i)):=λ _ _ _ H _ I h=>wpAny_Constant_int ⟨.int i,H,I.tok _,⟨_,rfl⟩,h⟩
theorem J3 {b j pos}:PE X (.Constant (.bool b) j pos) (tC (.bl b)):=λ _ _ _ H _ I h=>Constant_bool ⟨.bl b,H,I,rfl,h⟩
theorem CQ {x j pos}:PE X (.Constant (.str x) j pos) (tC (.str x)):=λ _ _ _ H _ I h=>Calls.Constant_str ⟨.str x,H,I.tok _,⟨_,rfl⟩,h⟩
noncomputable def Gl (X:Cx) (x:Str):Prop:=X.env.kindOf x=some .globalImplicit
theorem uc {E:Value->Shared->Prop} {pins:List (Addr × Obj)} {s:Shared} {σ:St} {H:Hp} {x:Str} {u:Value} {pos:Pos} {Q:Value->Shared->Prop} (I:Inv X pins σ H s) (hg:Gl X x) (hm:X.mg x=some u) (h:Q u s)
  (hd:(x == ("__debug__" : Str))=false:=by decide):wpAny (model X.prog X.w) X.A (eval (.Name x pos) X.env) Q E s:=
 Calls.Name_function_global I.ok.kind hg (Calls.loadGlobal_global (by rw [I.ok.glob];exact I.mod.glob.keeps I.bk) hm h) hd
theorem jK {E:Value->Shared->Prop} {pins:List (Addr × Obj)} {s:Shared} {σ:St} {H:Hp} {x:Str} {u:Value} {pos:Pos} {Q:Value->Shared->Prop} (I:Inv X pins σ H s) (hg:Gl X x) (hm:X.mg x=none) (hv:bootBuiltins x=some u) (h:Q u s)
  (hn:x ≠ "__name__":=by decide) (hd:(x == ("__debug__" : Str))=false:=by decide):wpAny (model X.prog X.w) X.A (eval (.Name x pos) X.env) Q E s:=by
 obtain ⟨mb,h1,h2⟩:=I.mod.blt
 exact Calls.Name_function_global I.ok.kind hg (Calls.loadGlobal_builtin (by rw [I.ok.glob];exact I.mod.glob.keeps I.bk) hm (by rw [I.ok.blt];exact h1.keeps I.bk) ((h2 x hn).trans hv) h) hd
theorem ES {x:Str} {v:V} {u:Value} {pos:Pos} (hg:Gl X x) (hm:X.mg x=some u) (r:bg v u) (hd:(x == ("__debug__" : Str))=false:=by decide):PE X (.Name x pos) (tC v):=
 λ _ _ _ H _ I h=>uc I hg hm ⟨v,H,I,r,h⟩ hd
theorem EM {x:Str} {v:V} {u:Value} {pos:Pos} (hg:Gl X x) (hm:X.mg x=none) (hv:bootBuiltins x=some u) (r:bg v u) (hn:x ≠ "__name__":=by decide) (hd:(x == ("__debug__" : Str))=false:=by decide):PE X (.Name x pos) (tC v):=
 λ _ _ _ H _ I h=>jK I hg hm hv ⟨v,H,I,r,h⟩ hn hd
variable {a b:Expr} {ta tb:TE} {pos:Pos}
variable {tA tB':TT} {bf:List Expr}
noncomputable def Mb (t u:TT):TT:=λ σ H Q=>t σ H λ c H1=>if c=true then u σ H1 Q else Q false H1
noncomputable def MQ (t u:TT):TT:=λ σ H Q=>t σ H λ c H1=>if c=true then Q true H1 else u σ H1 Q
noncomputable def Mg (t:TT):TT:=λ σ H Q=>t σ H λ c H1=>Q (!c) H1
theorem E7 (ha:PT X a tA):PW X (.BoolOp .And [a] pos) tA:=by
 intro wh pins s σ H Q I h
 refine isTrue_and (b7 (ha pins s σ H Q I h) λ c s1 e=>?_)
 cases c with
 | true=>exact isTrue_and_nil e
 | false=>exact e
theorem HX (ha:PT X a tA):PW X (.BoolOp .Or [a] pos) tA:=by
 intro wh pins s σ H Q I h
 refine isTrue_or (b7 (ha pins s σ H Q I h) λ c s1 e=>?_)
 cases c with
 | false=>exact isTrue_or_nil e
 | true=>exact e
theorem HW (ha:PT X a tA) (hb:PW X (.BoolOp .And (b :: bf) pos) tB'):PW X (.BoolOp .And (a :: b :: bf) pos) (Mb tA tB'):=by
 intro wh pins s σ H Q I h
 refine isTrue_and (b7 (ha pins s σ H _ I h) λ c s1 ⟨H1,I1,q1⟩=>?_)
 cases c with
 | true=>exact hb wh pins s1 σ H1 Q I1 q1
 | false=>exact ⟨H1,I1,q1⟩
theorem J9 (ha:PT X a tA) (hb:PW X (.BoolOp .Or (b :: bf) pos) tB'):PW X (.BoolOp .Or (a :: b :: bf) pos) (MQ tA tB'):=by
 intro wh pins s σ H Q I h
 refine isTrue_or (b7 (ha pins s σ H _ I h) λ c s1 ⟨H1,I1,q1⟩=>?_)
 cases c with
 | true=>exact ⟨H1,I1,q1⟩
 | false=>exact hb wh pins s1 σ H1 Q I1 q1
theorem HV (ha:PT X a tA):PT X (.UnaryOp .Not a pos) (Mg tA):=by
 intro pins s σ H Q I h
 exact isTrue_not (b7 (ha pins s σ H (λ c H1=>Q (!c) H1) I h) λ _ _ ⟨H1,I1,q1⟩=>⟨H1,I1,q1⟩)
noncomputable def Ks (ta tb:TE):TE:=λ σ H Q=>ta σ H λ x H1=>∃ c,x=.bl c/\if c=true then tb σ H1 Q else Q (.bl false) H1
noncomputable def Mh (ta tb:TE):TE:=λ σ H Q=>ta σ H λ x H1=>∃ c,x=.bl c/\if c=true then Q (.bl true) H1 else tb σ H1 Q
theorem HK {op} {t:TE} (h:PE X a t):PE X (.BoolOp op [a] pos) t:=λ pins s σ H Q I hw=>BoolOp_one (h pins s σ H Q I hw)
theorem HJ (ha:PE X a ta) (hb:PE X (.BoolOp .And (b :: bf) pos) tb):PE X (.BoolOp .And (a :: b :: bf) pos) (Ks ta tb):=by
 intro pins s σ H Q I h
 refine BoolOp_and (b7 (ha pins s σ H _ I h) λ v s1 ⟨x,H1,I1,r1,q1⟩=>?_)
 obtain ⟨c,rfl,q1⟩:=q1
 cases r1
 refine wpAny_truthy_bool ?_
 cases c with
 | true=>exact hb pins s1 σ H1 Q I1 q1
 | false=>exact ⟨.bl false,H1,I1,rfl,q1⟩
theorem J5 (ha:PE X a ta) (hb:PE X (.BoolOp .Or (b :: bf) pos) tb):PE X (.BoolOp .Or (a :: b :: bf) pos) (Mh ta tb):=by
 intro pins s σ H Q I h
 refine BoolOp_or (b7 (ha pins s σ H _ I h) λ v s1 ⟨x,H1,I1,r1,q1⟩=>?_)
 obtain ⟨c,rfl,q1⟩:=q1
 cases r1
 refine wpAny_truthy_bool ?_
 cases c with
 | false=>exact hb pins s1 σ H1 Q I1 q1
 | true=>exact ⟨.bl true,H1,I1,rfl,q1⟩
noncomputable def MP (t:TT) (ta tb:TE):TE:=λ σ H Q=>t σ H λ c H1=>if c=true then ta σ H1 Q else tb σ H1 Q
theorem CN {c:Expr} (hc:PT X c tA) (ha:PE X a ta) (hb:PE X b tb):PE X (.IfExp c a b pos) (MP tA ta tb):=by
 intro pins s σ H Q I h
 refine wpAny_IfExp (b7 (hc pins s σ H _ I h) λ d s1 ⟨H1,I1,q1⟩=>?_)
 cases d with
 | true=>exact ha pins s1 σ H1 Q I1 q1
 | false=>exact hb pins s1 σ H1 Q I1 q1
end
end L2
namespace L2
open PySem PySem.Spec PyProof.Rows
noncomputable def cR (K:PySem.W.Frag) (H:Hp) (a:Addr) (xs:List V):Prop:=
 Rd H a (.lst xs) ∨
  ∃ (o:Obj) (its:Array Value) (n:Nat),K.lookup a=some o/\o.cls=.type "list"/\(o.dict=none/\o.slots = #[])/\o.data=.seq its n/\its.size <= sizeLine/\bE xs its.toList
noncomputable def nJ (K:PySem.W.Frag) (H:Hp) (a:Addr) (xs:List V):Prop:=
 Rd H a (.tup xs) ∨
  ∃ (o:Obj) (its:Array Value) (n:Nat),K.lookup a=some o/\o.cls=.type "tuple"/\o.data=.seq its n/\its.size <= sizeLine/\bE xs its.toList
noncomputable def Ln:Value->Option V
 | .none=>some .non
 | .bool b=>some (.bl b)
 | .int i _=>some (.int i)
 | .str x _=>some (.str x)
 | .bytes b _=>some (.byt b)
 | .float b _=>some (.flt b)
 | .ref a=>some (.ref a)
 | .type n=>some (.ty n)
 | _=>none
theorem bg.abs {x:V} {u:Value} (r:bg x u):Ln u=some x:=by
 cases x with
 | non=>cases r;rfl
 | bl _=>cases r;rfl
 | int _=>obtain ⟨t,rfl⟩:=r;rfl
 | str _=>obtain ⟨t,rfl⟩:=r;rfl
 | byt _=>obtain ⟨t,rfl⟩:=r;rfl
 | flt _=>obtain ⟨t,rfl⟩:=r;rfl
 | ref _=>cases r;rfl
 | ty _=>cases r;rfl
theorem bg.inj {x y:V} {u:Value} (r:bg x u) (q:bg y u):x=y:=Option.some.inj (r.abs.symm.trans q.abs)
theorem bE.inj:∀ {xs ys:List V} {us:List Value},bE xs us->bE ys us->xs=ys
 | _,_,_,.nil,.nil=>rfl
 | _,_,_,.cons r t,.cons r' t'=>by rw [r.inj r',bE.inj t t']
section
variable {X:Cx} {pins:List (Addr × Obj)} {σ:St} {H:Hp} {s:Shared} {a:Addr} {xs ys:List V}
theorem cR.of {K:PySem.W.Frag} (h:H a=some (.lst xs)):cR K H a xs:=.inl (.inl h)
theorem nJ.of {K:PySem.W.Frag} (h:H a=some (.tup xs)):nJ K H a xs:=.inl (.inl h)
theorem Inv.list (I:Inv X pins σ H s) (h:cR X.K H a xs):∃ its:List Value,bE xs its/\PlainL s.heap a its.toArray/\xs.length <= sizeLine:=by
 rcases h with h | ⟨o,its,n,hk,hc,hd,hs,hz,r⟩
 ·obtain ⟨z,its,n,r,e⟩:=h.ok I.hok
  exact ⟨its,r,⟨_,n,e,rfl,rfl,rfl⟩,z⟩
 ·refine ⟨its.toList,r,⟨o,n,I.kIn a o hk,hc,hd.1,by simpa using hs⟩,?_⟩
  have e:=r.length
  simp only [Array.length_toList] at e
  (first | lia | omega)
theorem Inv.tuple (I:Inv X pins σ H s) (h:nJ X.K H a xs):∃ its:List Value,bE xs its/\IsTup s.heap a its.toArray/\xs.length <= sizeLine:=by
 rcases h with h | ⟨o,its,n,hk,hc,hs,hz,r⟩
 ·obtain ⟨z,its,r,p⟩:=h.ok I.hok
  exact ⟨its,r,p,z⟩
 ·refine ⟨its.toList,r,⟨o,I.kIn a o hk,hc,n,by simpa using hs⟩,?_⟩
  have e:=r.length
  simp only [Array.length_toList] at e
  (first | lia | omega)
theorem Inv.list_inj (I:Inv X pins σ H s) (h:cR X.K H a xs) (h':cR X.K H a ys):xs=ys:=by
 obtain ⟨its,r,⟨o,n,e,_,_,d⟩,_⟩:=I.list h
 obtain ⟨its',r',⟨o',n',e',_,_,d'⟩,_⟩:=I.list h'
 rw [e] at e';cases e'
 rw [d] at d'
 injection d' with d1 _
 have:its=its':=by simpa using congrArg Array.toList d1
 subst this
 exact r.inj r'
theorem Inv.tuple_inj (I:Inv X pins σ H s) (h:nJ X.K H a xs) (h':nJ X.K H a ys):xs=ys:=by
 obtain ⟨its,r,⟨o,e,_,n,d⟩,_⟩:=I.tuple h
 obtain ⟨its',r',⟨o',e',_,n',d'⟩,_⟩:=I.tuple h'
 rw [e] at e';cases e'
 rw [d] at d'
 injection d' with d1 _
 have:its=its':=by simpa using congrArg Array.toList d1
 subst this
 exact r.inj r'
end
noncomputable abbrev Cx.wish (X:Cx) (E:Value->Shared->Prop):Cx:={ X with xe:=E }
theorem Cx.Ok.unwish {X:Cx} {E:Value->Shared->Prop} (ok:(X.wish E).Ok):X.Ok:=
 ⟨ok.mod,ok.kind,ok.glob,ok.blt,ok.above,ok.inj,ok.has,ok.cab,ok.hd,ok.frames,ok.stk,ok.exf,ok.bs,ok.bsz,ok.noex,ok.exfs,ok.funs,ok.frf⟩
section
variable {X:Cx} {pins:List (Addr × Obj)} {σ:St} {H:Hp} {s:Shared} {E:Value->Shared->Prop}
theorem Inv.unwish (I:Inv (X.wish E) pins σ H s):Inv X pins σ H s:=⟨I.ok.unwish,I.os,I.bare,I.base,I.loc,I.cell,I.free,I.freeC,I.pin,I.hok,I.len,I.sgm⟩
end
section
variable {X:Cx} {st:Stmt} {bf:List Stmt} {t u:TS} {e:Expr} {te:TE} {pos:Pos}
noncomputable def Kw:TS:=λ D σ H=>D.nx σ H
noncomputable def Mi (t u:TS):TS:=λ D σ H=>t { D with nx:=u D } σ H
theorem E2:FW X [] Kw:=λ _ _ σ H _ I h=>wpAny_execs_nil ⟨σ,H,I,h⟩
theorem C7 (h1:PS X st t) (h2:FW X bf u):FW X (st :: bf) (Mi t u):=by
 intro pins s σ H D I h
 refine wpAny_execs_cons (b7 (h1 pins s σ H { D with nx:=u D } I h) λ f s1 q=>?_)
 cases f with
 | next =>
  obtain ⟨σ',H',I',q⟩:=q
  exact h2 pins s1 σ' H' D I' q
 | ret v=>exact q
 | brk=>exact q
 | cont=>exact q
theorem zV (h1:PS X st t):FW X [st] t:=by
 intro pins s σ H D I h
 refine wpAny_execs_cons (b7 (h1 pins s σ H D I h) λ f s1 q=>?_)
 cases f with
 | next=>exact wpAny_execs_nil q
 | ret v=>exact q
 | brk=>exact q
 | cont=>exact q
theorem Inv.quiet {pins:List (Addr × Obj)} {σ:St} {H:Hp} {s:Shared} (I:Inv X pins σ H s):interactive X.env=false:=by simp [interactive,I.ok.kind]
noncomputable def Gx (te:TE):TS:=λ D σ H=>te σ H λ _ H1=>D.nx σ H1
theorem zU (he:PE X e te) (hs:swapsWith e none pos.line X.env=pure false:=by rfl):PS X (.Expr e pos) (Gx te):=by
 intro pins s σ H D I h
 exact wpAny_Expr_any (b7 (he pins s σ H _ I h) λ v s1 ⟨x,H1,I1,r1,q1⟩=>⟨σ,H1,I1,q1⟩) I.quiet hs
noncomputable def Me (c:TT) (t u:TS):TS:=λ D σ H=>c σ H λ b H1=>if b=true then t D σ H1 else u D σ H1
theorem J8 {c:Expr} {a b:List Stmt} {tc:TT} (hc:PT X c tc) (ha:FW X a t) (hb:FW X b u):PS X (.If c a b pos) (Me tc t u):=by
 intro pins s σ H D I h
 refine wpAny_If (b7 (hc pins s σ H _ I h) λ d s1 ⟨H1,I1,q1⟩=>?_)
 cases d with
 | true=>exact ha pins s1 σ H1 D I1 q1
 | false=>exact hb pins s1 σ H1 D I1 q1
end
noncomputable abbrev TG:=V->St->Hp->(St->Hp->Prop)->Prop
noncomputable abbrev DO:=List V->St->Hp->(St->Hp->Prop)->Prop
noncomputable def PG (X:Cx) (target:Expr) (t:TG):Prop:=
 ∀ (pins:List (Addr × Obj)) (s:Shared) (σ:St) (H:Hp) (v:V) (u:Value) (Q:St->Hp->Prop),Inv X pins σ H s->bg v u->t v σ H Q →
  wpAny (model X.prog X.w) X.A (assign target X.env u) (λ _ s'=>SN X pins Q s') X.xe s
noncomputable def FV (X:Cx) (ts:List Expr) (t:DO):Prop:=
 ∀ (pins:List (Addr × Obj)) (s:Shared) (σ:St) (H:Hp) (vs:List V) (us:List Value) (Q:St->Hp->Prop),Inv X pins σ H s->bE vs us->t vs σ H Q →
  wpAny (model X.prog X.w) X.A (assignInOrder ((assignEach ts X.env).map (·.2)) us) (λ _ s'=>SN X pins Q s') X.xe s
noncomputable abbrev Mp:=V->V->Hp->VK->Prop
noncomputable def KY (X:Cx) (op:Operator) (t:Mp):Prop:=
 ∀ (pins:List (Addr × Obj)) (s:Shared) (σ:St) (H:Hp) (x y:V) (v u:Value) (Q:VK),Inv X pins σ H s->bg x v->bg y u->t x y H Q →
  wpAny (model X.prog X.w) X.A (inplaceOp op v u) (EP X pins σ Q) X.xe s
section
variable {X:Cx} {pos:Pos}
noncomputable def F4 (i:Nat):TG:=λ v σ H Q=>Q (σ.set i (some v)) H
theorem pj {i:Nat} {x:Str} (hN:X.N.Nodup) (hi:X.N[i]?=some x) (hx:qX X.env.scope x) (hf:X.fn x=true \/ X.env.scope.names.lookup x=some .local:=by first | exact .inl rfl | exact .inr rfl | assumption) (hsg:∀ p σ v,X.sg p σ->X.sg p (σ.set i (some v)):=by first | exact λ _ _ _ _=>trivial | assumption):PG X (.Name x pos) (F4 i):=by
 intro pins s σ H v u Q I r h
 exact wpAny_assign_Name (jS I hN hi hx r (λ s' I'=>⟨_,H,I',h⟩) hf)
noncomputable def LP:DO:=λ vs σ H Q=>vs=[]/\Q σ H
noncomputable def JF (t:TG) (u:DO):DO:=λ vs σ H Q=>∃ v r,vs=v :: r/\t v σ H λ σ' H'=>u r σ' H' Q
theorem zR:FV X [] LP:=by
 intro pins s σ H vs us Q I r h
 obtain ⟨e,h⟩:=h
 subst e
 cases r
 exact assignInOrder_nil ⟨σ,H,I,h⟩
theorem qy {e:Expr} {es:List Expr} {t:TG} {u:DO} (h1:PG X e t) (h2:FV X es u)
  (hs:(assignEach (e :: es) X.env).map (·.2)=assign e X.env :: (assignEach es X.env).map (·.2):=by rfl):FV X (e :: es) (JF t u):=by
 intro pins s σ H vs us Q I r h
 obtain ⟨v,vr,e1,h⟩:=h
 subst e1
 cases r with
 | cons r rr =>
  rw [hs]
  refine assignInOrder_cons (b7 (h1 pins s σ H _ _ _ I r h) λ _ s1 ⟨σ1,H1,I1,q1⟩=>?_)
  exact h2 pins s1 σ1 H1 _ _ Q I1 rr q1
noncomputable def LQ (K:PySem.W.Frag) (n:Nat) (t:DO):TG:=λ v σ H Q=>∃ a xs,v=.ref a/\nJ K H a xs/\xs.length=n/\t xs σ H Q
theorem CT {es:List Expr} {k:Nat} {t:DO} {n:Nat} (hc:X.calm=true) (h:FV X es t)
  (hn:(assignEach es X.env).length=n:=by rfl) (hst:(assignEach es X.env).findIdx? (·.1)=none:=by rfl):PG X (.Tuple es k pos) (LQ X.K n t):=by
 intro pins s σ H v u Q I r hw
 obtain ⟨a,xs,e1,hq,hl,hw⟩:=hw
 subst e1
 cases r
 obtain ⟨its,rv,ht,hz⟩:=I.tuple hq
 refine assign_Tuple_tuple (I.ok.hd hc) ht (by simp [hn,<- hl,rv.length]) hst λ h' hx=>?_
 have I1:Inv X pins σ H { s with heap:=h' }:=I.kept (t':=s.toks) λ b o e=>hx b o (Nat.ne_of_lt (Heap.lt_size e)) e
 exact h pins _ σ H xs _ Q I1 (by simpa using rv) hw
noncomputable def Mc (te:TE) (g:TG):TS:=λ D σ H=>te σ H λ x H1=>g x σ H1 D.nx
theorem HU {i:Nat} {x:Str} {e:Expr} {te:TE} {pos':Pos} (hN:X.N.Nodup) (hi:X.N[i]?=some x) (hx:qX X.env.scope x) (he:PE X e te) (hs:swapsWith e (some (.Name x pos')) pos.line X.env=pure false:=by rfl) (hf:X.fn x=true \/ X.env.scope.names.lookup x=some .local:=by first | exact .inl rfl | exact .inr rfl | assumption) (hsg:∀ p σ v,X.sg p σ->X.sg p (σ.set i (some v)):=by first | exact λ _ _ _ _=>trivial | assumption) :
  PS X (.Assign [.Name x pos'] e pos) (Mc te (F4 i)):=by
 intro pins s σ H D I h
 refine wpAny_Assign_Name (b7 (he pins s σ H _ I h) λ v s1 ⟨y,H1,I1,r1,q1⟩=>?_) hs
 exact jS I1 hN hi hx r1 (λ s2 I2=>⟨_,H1,I2,q1⟩) hf
noncomputable def K9 (f:Int->Int->Int):Mp:=λ x y H Q=>∃ i j,x=.int i/\y=.int j/\Q (.int (f i j)) H
theorem G9:KY X .Add (K9 λ i j=>i + j):=by
 intro pins s σ H x y v u Q I r1 r2 h
 obtain ⟨i,j,e1,e2,q⟩:=h
 subst e1;subst e2
 obtain ⟨t,rfl⟩:=r1
 obtain ⟨t',rfl⟩:=r2
 exact iadd_int ⟨.int _,H,I.tok _,⟨_,rfl⟩,q⟩
theorem Hc:KY X .Sub (K9 λ i j=>i - j):=by
 intro pins s σ H x y v u Q I r1 r2 h
 obtain ⟨i,j,e1,e2,q⟩:=h
 subst e1;subst e2
 obtain ⟨t,rfl⟩:=r1
 obtain ⟨t',rfl⟩:=r2
 exact isub_int ⟨.int _,H,I.tok _,⟨_,rfl⟩,q⟩
end
section
variable {X:Cx} {pos:Pos}
end
structure It where
 go:Nat->Hp->Prop
 yld:Nat->Hp->V->Hp->Prop
 stop:Nat->Hp->Prop
noncomputable def vj (X:Cx) (pins:List (Addr × Obj)) (H:Hp) (b:Addr):Prop:=
 H b=none/\b ≠ X.env.locals/\b ∉ X.fs/\(b∈X.ex \/ X.s₀.heap.objs.size <= b)/\(∀ x c,X.env.cells.lookup x=some c->c ≠ b)/\∀ p∈X.pn++pins,p.1 ≠ b
theorem Inv.fpOk {X:Cx} {pins:List (Addr × Obj)} {σ:St} {H H':Hp} {s:Shared} {b:Addr} (I:Inv X pins σ H s) (hb:s.heap.objs.size <= b) (hn:H' b=none):vj X pins H' b:=by
 refine ⟨hn,Nat.ne_of_gt (Nat.lt_of_lt_of_le I.lt hb),I.nofs hb,.inr (Nat.le_trans I.sz hb),λ x c e z=>?_,λ p hp z=>?_⟩
 ·obtain ⟨v,q⟩:=I.cell x c e
  exact absurd (Nat.lt_of_lt_of_le q.lt (by rw [z];exact hb)) (Nat.lt_irrefl _)
 ·exact absurd (Nat.lt_of_lt_of_le (Heap.lt_size (I.pin p hp).1) (by rw [z];exact hb)) (Nat.lt_irrefl _)
inductive YI (X:Cx) (pins:List (Addr × Obj)) (σ:St) (y:V->Hp->Prop) (tn:Heap->Prop) (fp:List Addr) (u:Value) (s2:Shared):Prop
 | mk (x:V) (H':Hp) (I:Inv X pins σ H' s2) (r:bg x u) (y:y x H') (t:tn s2.heap) (f:∀ b∈fp,H' b=none)
structure Turn (P:Program) (w:World) (K:PySem.W.Frag) (tg:Expr) (J:It) (fp:List Addr) (it:Addr) (tn:Nat->Heap->Prop):Prop where
 mem:it∈fp
 obj:∀ i h,tn i h->∀ b∈fp,∃ o,h.get? b=some o/\∀ v,o.data ≠ .cell v
 keep:∀ i h h',tn i h->(∀ b∈fp,∀ o,h.get? b=some o->h'.get? b=some o)->tn i h'
 item:∀ (X:Cx),X.prog=P->X.w=w->X.K=K->X.calm=true->∀ (i:Nat) (pins:List (Addr × Obj)) (s:Shared) (σ:St) (H:Hp) (E:Value->Shared->Prop),Inv X pins σ H s->(∀ b∈fp,vj X pins H b)->tn i s.heap->J.go i H →
  wpAny (model P w) X.A (pyNext (.ref it)) (λ r s1=>∃ u,r=some u ∧
   wpAny (model P w) X.A (letOwnedTupleGo tg (.ref it) u) (λ _ s2=>YI X pins σ (J.yld i H) (tn (i + 1)) fp u s2) E s1) E s
 done:∀ (X:Cx),X.prog=P->X.w=w->X.K=K->X.calm=true->∀ (i:Nat) (pins:List (Addr × Obj)) (s:Shared) (σ:St) (H:Hp) (E:Value->Shared->Prop),Inv X pins σ H s->(∀ b∈fp,vj X pins H b)->tn i s.heap->J.stop i H →
  wpAny (model P w) X.A (pyNext (.ref it)) (λ r s1=>r=none/\Inv X pins σ H s1) E s
 self:∀ (A:Around) (i:Nat) (s:Shared) (Q:Value->Shared->Prop) (E:Value->Shared->Prop),tn i s.heap->Q (.ref it) s->wpAny (model P w) A (pyIter (.ref it)) Q E s
noncomputable abbrev TI:=St->Hp->(It->Hp->Prop)->Prop
inductive PIE (X:Cx) (pins:List (Addr × Obj)) (σ:St) (tg:Expr) (R:It->Hp->Prop) (itv:Value) (s2:Shared):Prop
 | mk (it:Addr) (fp:List Addr) (tn:Nat->Heap->Prop) (J:It) (H':Hp) (e:itv=.ref it) (I:Inv X pins σ H' s2) (T:Turn X.prog X.w X.K tg J fp it tn) (t:tn 0 s2.heap) (f:∀ b∈fp,vj X pins H' b) (r:R J H')
noncomputable def PI (X:Cx) (tg iter:Expr) (wi:TI):Prop:=
 ∀ (pins:List (Addr × Obj)) (s:Shared) (σ:St) (H:Hp) (R:It->Hp->Prop),Inv X pins σ H s->wi σ H R →
  wpAny (model X.prog X.w) X.A (eval iter X.env) (λ v s1=>wpAny (model X.prog X.w) X.A (pyIter v) (PIE X pins σ tg R) X.xe s1) X.xe s
theorem zt {M:Model} {A:Around} {E:Value->Shared->Prop} {s:Shared} {tg:Expr} {it:Addr} {u:Value} {o:Obj} {n:String} {vs:Array Value} {Q:Unit->Shared->Prop} (ho:s.heap.get? it=some o) (hc:o.cls=.type n) (hd:o.data=.fields vs)
    (hn:["enumerate", "zip", "dict_itemiterator", "dict_reverseitemiterator", "odict_iterator", "itertools.zip_longest", "itertools.pairwise"].contains n=false) (hQ:Q () s):wpAny M A (letOwnedTupleGo tg (.ref it) u) Q E s:=by
  unfold letOwnedTupleGo
  cases tg <;> first
    | exact wpAny_pure hQ
    | (cases u <;> first
        | exact wpAny_pure hQ
        | (refine wpAny_bind (wpAny_load ho ?_)
           rw [hc,hd]
           show wpAny M A (if (["enumerate", "zip", "dict_itemiterator", "dict_reverseitemiterator", "odict_iterator", "itertools.zip_longest", "itertools.pairwise"].contains n && vs[0]? == some (rawInt _))=true then _ else _) Q E s
           rw [if_neg (by intro h;rw [hn,Bool.false_and] at h;cases h)]
           exact wpAny_pure hQ))
noncomputable def Li (K:PySem.W.Frag) (a:Addr):It:=
 ⟨λ i H=>∃ xs x,cR K H a xs/\xs[i]?=some x,λ i H x H'=>H'=H/\∀ xs,cR K H a xs->xs[i]?=some x,λ i H=>∃ xs,cR K H a xs/\xs.length <= i⟩
noncomputable def Lj (K:PySem.W.Frag) (a:Addr):It:=
 ⟨λ i H=>∃ xs x,nJ K H a xs/\xs[i]?=some x,λ i H x H'=>H'=H/\∀ xs,nJ K H a xs->xs[i]?=some x,λ i H=>∃ xs,nJ K H a xs/\xs.length <= i⟩
noncomputable def FU (lo:Int) (n:Nat):It:=⟨λ i _=>i < n,λ i H x H'=>H'=H/\x=.int (lo + i),λ i _=>n <= i⟩
theorem sT {P:Program} {w:World} {K:PySem.W.Frag} {tg:Expr} (a it:Addr):Turn P w K tg (Li K a) [it] it (λ i h=>h.IsListIter it a i) where
 mem:=by simp
 obj:=λ i h st b hb=>by
  have e:b=it:=by simpa using hb
  subst e
  obtain ⟨o,e,c,d⟩:=st
  exact ⟨o,e,λ v z=>by rw [d] at z;cases z⟩
 keep:=λ i h h' st k=>st.at λ o e=>k it (by simp) o e
 item:=by
  intro X hP hw hK hc i pins s σ H E I hf st hg
  subst hP hw hK
  obtain ⟨xs,x,hq,hx⟩:=hg
  obtain ⟨its,rv,p,hz⟩:=I.list hq
  obtain ⟨u,hu,ru⟩:=rv.get hx
  obtain ⟨f0,f1,f2,f3,f4,f5⟩:=hf it (by simp)
  refine wpAny_pyNext_list_item st p.isList (x:=u) (by simpa using hu) λ h' st' sb=>?_
  have I1:Inv X pins σ H { s with heap:=h' }:=I.turned (t':=s.toks) (λ b o hb e=>(sb.2 b hb).trans e) f0 f1 f3 f4 f5
  obtain ⟨o,e,c,d⟩:=id st'
  exact ⟨u,rfl,zt (s:={ s with heap:=h' }) e c d (by decide) ⟨x,H,I1,ru,⟨rfl,λ ys hy=>by rw [I.list_inj hy hq];exact hx⟩,st',λ b hb=>(hf b hb).1⟩⟩
 done:=by
  intro X hP hw hK hc i pins s σ H E I hf st hg
  subst hP hw hK
  obtain ⟨xs,hq,hx⟩:=hg
  obtain ⟨its,rv,p,hz⟩:=I.list hq
  obtain ⟨f0,f1,f2,f3,f4,f5⟩:=hf it (by simp)
  have hl:=rv.length
  exact wpAny_pyNext_list_end (I.ok.hd hc) st p.isList (by simp;(first | lia | omega)) λ h' eb=>⟨rfl,I.turned (t':=s.toks) (λ b o hb e=>eb b o hb e) f0 f1 f3 f4 f5⟩
 self:=λ _ _ _ _ _ st h=>wpAny_pyIter_listiter st h
theorem qQ {P:Program} {w:World} {K:PySem.W.Frag} {tg:Expr} (a it:Addr):Turn P w K tg (Lj K a) [it] it (λ i h=>h.IsTupleIter it a i) where
 mem:=by simp
 obj:=λ i h st b hb=>by
  have e:b=it:=by simpa using hb
  subst e
  obtain ⟨o,e,c,d⟩:=st
  exact ⟨o,e,λ v z=>by rw [d] at z;cases z⟩
 keep:=λ i h h' st k=>st.at λ o e=>k it (by simp) o e
 item:=by
  intro X hP hw hK hc i pins s σ H E I hf st hg
  subst hP hw hK
  obtain ⟨xs,x,hq,hx⟩:=hg
  obtain ⟨its,rv,p,hz⟩:=I.tuple hq
  obtain ⟨u,hu,ru⟩:=rv.get hx
  obtain ⟨f0,f1,f2,f3,f4,f5⟩:=hf it (by simp)
  refine wpAny_pyNext_tuple_item st (show s.heap.IsTuple a its.toArray from p) (x:=u) (by simpa using hu) λ h' st' sb=>?_
  have I1:Inv X pins σ H { s with heap:=h' }:=I.turned (t':=s.toks) (λ b o hb e=>(sb.2 b hb).trans e) f0 f1 f3 f4 f5
  obtain ⟨o,e,c,d⟩:=id st'
  exact ⟨u,rfl,zt (s:={ s with heap:=h' }) e c d (by decide) ⟨x,H,I1,ru,⟨rfl,λ ys hy=>by rw [I.tuple_inj hy hq];exact hx⟩,st',λ b hb=>(hf b hb).1⟩⟩
 done:=by
  intro X hP hw hK hc i pins s σ H E I hf st hg
  subst hP hw hK
  obtain ⟨xs,hq,hx⟩:=hg
  obtain ⟨its,rv,p,hz⟩:=I.tuple hq
  obtain ⟨f0,f1,f2,f3,f4,f5⟩:=hf it (by simp)
  have hl:=rv.length
  exact wpAny_pyNext_tuple_end (I.ok.hd hc) st (show s.heap.IsTuple a its.toArray from p) (by simp;(first | lia | omega)) λ h' eb=>⟨rfl,I.turned (t':=s.toks) (λ b o hb e=>eb b o hb e) f0 f1 f3 f4 f5⟩
 self:=λ _ _ _ _ _ st h=>wpAny_pyIter_tupleiter st h
theorem qP {P:Program} {w:World} {K:PySem.W.Frag} {tg:Expr} (it:Addr) (lo:Int) (n:Nat):Turn P w K tg (FU lo n) [it] it (λ i h=>IsRangeIter h it (lo + (i:Nat) * 1) ((n:Int) - (i:Nat)) 1) where
 mem:=by simp
 obj:=λ i h st b hb=>by
  have e:b=it:=by simpa using hb
  subst e
  exact ⟨_,st,λ v z=>by
   have z':Data.fields _=Data.cell v:=z
   cases z'⟩
 keep:=λ i h h' st k=>k it (by simp) _ st
 item:=by
  intro X hP hw hK hc i pins s σ H E I hf st hg
  subst hP hw hK
  obtain ⟨f0,f1,f2,f3,f4,f5⟩:=hf it (by simp)
  have W:=Walks.range (prog:=X.prog) (w:=X.w) (I.ok.hd hc) it lo 1 n
  refine W.item i s _ _ hg st λ v h' tk hv st' kk=>?_
  obtain ⟨t,rfl⟩:=hv
  have I1:Inv X pins σ H { s with heap:=h',toks:=tk }:=I.turned (λ b o hb e=>kk b o (by simpa using hb) e) f0 f1 f3 f4 f5
  refine ⟨_,rfl,zt (s:={ s with heap:=h',toks:=tk }) (n := "range_iterator") st' rfl rfl (by decide) ⟨.int (lo + i),H,I1,⟨t,?_⟩,⟨rfl,rfl⟩,st',λ b hb=>(hf b hb).1⟩⟩
  rw [Int.mul_one]
 done:=by
  intro X hP hw hK hc i pins s σ H E I hf st hg
  subst hP hw hK
  obtain ⟨f0,f1,f2,f3,f4,f5⟩:=hf it (by simp)
  exact wpAny_pyNext_range_end (I.ok.hd hc) st (by have:n <= i:=hg;(first | lia | omega)) λ h' eb=>⟨rfl,I.turned (t':=s.toks) (λ b o hb e=>eb b o hb e) f0 f1 f3 f4 f5⟩
 self:=λ _ _ _ _ _ st h=>wpAny_pyIter_rangeiter st h
end L2
namespace L2
open PySem PySem.Spec PyProof.Rows
section
variable {X:Cx} {tg:Expr}
noncomputable def F6 (K:PySem.W.Frag) (tl:TE):TI:=λ σ H R=>tl σ H λ x H1=>∃ a,x=.ref a/\(∃ xs,cR K H1 a xs)/\R (Li K a) H1
noncomputable def JH (K:PySem.W.Frag) (tl:TE):TI:=λ σ H R=>tl σ H λ x H1=>∃ a,x=.ref a/\(∃ xs,nJ K H1 a xs)/\R (Lj K a) H1
theorem EU {l:Expr} {tl:TE} (hl:PE X l tl):PI X tg l (F6 X.K tl):=by
 intro pins s σ H R I h
 refine b7 (hl pins s σ H _ I h) λ v s1 ⟨x,H1,I1,r1,q1⟩=>?_
 obtain ⟨a,e,⟨xs,hq⟩,q⟩:=q1
 subst e
 cases r1
 obtain ⟨its,rv,p,hz⟩:=I1.list hq
 refine wpAny_pyIter_list p.isList ?_
 refine ⟨s1.heap.objs.size,[s1.heap.objs.size],_,_,H1,rfl,I1.kept (t':=s1.toks) λ b o e=>Heap.get?_push_of_some _ e,sT a _,⟨_,Heap.get?_push_size _ rfl,rfl,rfl⟩,λ b hb=>?_,q⟩
 have e:b=s1.heap.objs.size:=by simpa using hb
 subst e
 exact I1.fpOk (Nat.le_refl _) (I1.hok.fresh (Nat.le_refl _))
theorem HP {l:Expr} {tl:TE} (hl:PE X l tl):PI X tg l (JH X.K tl):=by
 intro pins s σ H R I h
 refine b7 (hl pins s σ H _ I h) λ v s1 ⟨x,H1,I1,r1,q1⟩=>?_
 obtain ⟨a,e,⟨xs,hq⟩,q⟩:=q1
 subst e
 cases r1
 obtain ⟨its,rv,p,hz⟩:=I1.tuple hq
 refine wpAny_pyIter_tuple (show s1.heap.IsTuple a its.toArray from p) ?_
 refine ⟨s1.heap.objs.size,[s1.heap.objs.size],_,_,H1,rfl,I1.kept (t':=s1.toks) λ b o e=>Heap.get?_push_of_some _ e,qQ a _,⟨_,Heap.get?_push_size _ rfl,rfl,rfl⟩,λ b hb=>?_,q⟩
 have e:b=s1.heap.objs.size:=by simpa using hb
 subst e
 exact I1.fpOk (Nat.le_refl _) (I1.hok.fresh (Nat.le_refl _))
theorem wW {pins:List (Addr × Obj)} {σ:St} {H:Hp} {s:Shared} {R:It->Hp->Prop} {E:Value->Shared->Prop} {lo hi:Int} {t u v:Tok} {tk:Nat} (I:Inv X pins σ H s) (h1:-(2 ^ 62) <= lo) (h2:lo < 2 ^ 62) (h3:-(2 ^ 62) <= hi) (h4:hi < 2 ^ 62)
  (q:R (FU lo (hi - lo).toNat) H):wpAny (model X.prog X.w) X.A (pyIter (.ref s.heap.objs.size)) (PIE X pins σ tg R) E { s with heap:=s.heap.push { cls:=.type "range",data:=.fields #[.int lo t,.int hi u,.int 1 v] },toks:=tk }:=by
 refine wpAny_pyIter_range (IsRange.new ..) (small_one h1 h2 h3 h4) ?_
 have I1:Inv X pins σ H { s with heap:=s.heap.push { cls:=.type "range",data:=.fields #[.int lo t,.int hi u,.int 1 v] },toks:=tk }:=I.kept λ b o e=>Heap.get?_push_of_some _ e
 refine ⟨(s.heap.push { cls:=.type "range",data:=.fields #[.int lo t,.int hi u,.int 1 v] }).objs.size,[(s.heap.push { cls:=.type "range",data:=.fields #[.int lo t,.int hi u,.int 1 v] }).objs.size],_,_,H,rfl,
  I1.kept (t':=tk) λ b o e=>Heap.get?_push_of_some _ e,qP _ lo (hi - lo).toNat,?_,λ b hb=>?_,q⟩
 ·have e1:lo + ((0:Nat):Int) * 1=lo:=by simp
  have e2:(((hi - lo).toNat:Nat):Int) - ((0:Nat):Int)=Builtin.Range.rangeSize lo hi 1:=by rw [rangeSize_one];split <;> (first | lia | omega)
  show IsRangeIter _ _ (lo + ((0:Nat):Int) * 1) ((((hi - lo).toNat:Nat):Int) - ((0:Nat):Int)) 1
  rw [e1,e2]
  exact Heap.get?_push_size _ rfl
 ·have e:b=(s.heap.push { cls:=.type "range",data:=.fields #[.int lo t,.int hi u,.int 1 v] }).objs.size:=by simpa using hb
  subst e
  exact I1.fpOk (Nat.le_refl _) (I1.hok.fresh (Nat.le_refl _))
noncomputable def JG (ta:TA):TI:=λ σ H R=>ta σ H λ vs H1=>∃ j:Int,vs=[.int j]/\-(2 ^ 62) <= j/\j < 2 ^ 62/\R (FU 0 j.toNat) H1
noncomputable def F7 (ta:TA):TI:=λ σ H R=>ta σ H λ vs H1=>∃ i j:Int,vs=[.int i,.int j]/\(-(2 ^ 62) <= i/\i < 2 ^ 62/\-(2 ^ 62) <= j/\j < 2 ^ 62)/\R (FU i (j - i).toNat) H1
theorem A2 {a:Expr} {ta:TA} {p pos:Pos} (hg:Gl X "range") (hm:X.mg "range" = none) (ha:PA X [a] ta) (hs:starEach [a] X.env=[(false,eval a X.env)]:=by rfl):PI X tg (.Call (.Name "range" p) [a] [] pos) (JG ta):=by
 intro pins s σ H R I h
 refine Call_ (jK I hg hm boot_range (PyProof.Rows.callWith_type1 (b7 (ha pos pins s σ H _ I h) λ us s1 ⟨vs,H1,I1,r1,q1⟩=>?_) hs rfl))
 obtain ⟨j,e,q1,q2,q⟩:=q1
 subst e
 cases r1 with
 | cons r rr =>
  cases rr
  obtain ⟨t,rfl⟩:=r
  exact call_range_1 (wW I1 (by (first | lia | omega)) (by (first | lia | omega)) q1 q2 (by simpa using q))
theorem A3 {a b:Expr} {ta:TA} {p pos:Pos} (hg:Gl X "range") (hm:X.mg "range" = none) (ha:PA X [a,b] ta) (hs:starEach [a,b] X.env=[(false,eval a X.env),(false,eval b X.env)]:=by rfl) (hs2:starEach [b] X.env=[(false,eval b X.env)]:=by rfl) :
  PI X tg (.Call (.Name "range" p) [a,b] [] pos) (F7 ta):=by
 intro pins s σ H R I h
 refine Call_ (jK I hg hm boot_range (PyProof.Rows.callWith_type1 (b7 (ha pos pins s σ H _ I h) λ us s1 ⟨vs,H1,I1,r1,q1⟩=>?_) (by rw [hs,hs2]) (by rw [hs2];rfl)))
 obtain ⟨i,j,e,⟨q1,q2,q3,q4⟩,q⟩:=q1
 subst e
 cases r1 with
 | cons r rr =>
  cases rr with
  | cons r' rr =>
   cases rr
   obtain ⟨t,rfl⟩:=r
   obtain ⟨t',rfl⟩:=r'
   exact call_range_2 (wW I1 q1 q2 q3 q4 q)
noncomputable def Md (wi:TI) (g:TG) (tb:TS):TS:=λ D σ H=>wi σ H λ J H1=>∃ W:Nat->Nat->St->Hp->Prop,(∃ m,W 0 m σ H1)/\∀ i m σ H,W i m σ H →
 (J.stop i H/\D.nx σ H) \/ (J.go i H/\∃ N:St->Hp->Prop,(∀ σ' H',N σ' H'->∃ m',m' < m/\W (i + 1) m' σ' H')/\∀ x H',J.yld i H x H'->g x σ H' λ σ2 H2=>tb { D with nx:=N,ct:=N,bk:=D.nx } σ2 H2)
noncomputable def nZ (fp:List Addr) (h:Heap):List (Addr × Obj):=fp.filterMap λ b=>(h.get? b).map λ o=>(b,o)
theorem dR {fp:List Addr} {h:Heap} {b:Addr} {o:Obj} (hb:b∈fp) (e:h.get? b=some o):(b,o)∈nZ fp h:=List.mem_filterMap.mpr ⟨b,hb,by rw [e];rfl⟩
theorem AS {fp:List Addr} {h:Heap} {p:Addr × Obj} (hp:p∈nZ fp h):p.1∈fp/\h.get? p.1=some p.2:=by
 obtain ⟨b,hb,e⟩:=List.mem_filterMap.mp hp
 cases q:h.get? b with
 | none=>rw [q] at e;cases e
 | some o =>
  rw [q] at e
  have e':(b,o)=p:=Option.some.inj e
  subst e'
  exact ⟨hb,q⟩
theorem Inv.pinned (hsgA:∀ p σ,X.sg p σ) {pins:List (Addr × Obj)} {σ:St} {H:Hp} {s:Shared} {fp:List Addr} (I:Inv X pins σ H s) (hf:∀ b∈fp,vj X pins H b) (ho:∀ b∈fp,∃ o,s.heap.get? b=some o/\∀ v,o.data ≠ .cell v):Inv X (pins++nZ fp s.heap) σ H s:=
 I.pins_of (hsg:=hsgA _ _) λ p hp=>(List.mem_append.mp hp).elim (λ z=>I.pin p (List.mem_append_right _ z)) λ z=>by
  obtain ⟨hb,e⟩:=AS z
  obtain ⟨f0,f1,f2,_⟩:=hf p.1 hb
  obtain ⟨o,e',d⟩:=ho p.1 hb
  rw [e] at e';cases e'
  exact ⟨e,f0,f1,f2,d⟩
theorem Inv.unpinned (hsgA:∀ p σ,X.sg p σ) {pins pl:List (Addr × Obj)} {σ:St} {H:Hp} {s:Shared} (I:Inv X (pins++pl) σ H s):Inv X pins σ H s:=I.pins_of (hsg:=hsgA _ _) λ p hp=>I.pin p (List.mem_append_right _ (List.mem_append_left _ hp))
theorem HS (hsgA:∀ p σ,X.sg p σ) {iter:Expr} {body:List Stmt} {wi:TI} {g:TG} {tb:TS} {pos:Pos} (hp:PassesOwn (model X.prog X.w) X.A X.env X.xe) (hc:X.calm=true) (hi:PI X tg iter wi) (hg:PG X tg g) (hb:FW X body tb)
  (hs:∀ x,foldedSetIterable iter X.env x=pure x:=by intro _;rfl):PS X (.For tg iter body [] pos) (Md wi g tb):=by
 intro pins s σ H D I h
 refine wpAny_For (b7 (hi pins s σ H _ I h) λ v s1 h1=>b7 h1 λ itv s2 h2=>?_) hs
 obtain ⟨it,fp,tn,J,H2,e,I2,T,st2,f2,W,⟨m0,w0⟩,turn⟩:=h2
 subst e
 have stat:∀ {H':Hp},(∀ b∈fp,H' b=none)->∀ b∈fp,vj X pins H' b:=λ hn b hb=>⟨hn b hb,(f2 b hb).2⟩
 refine codeAny_forLoop_any (λ n s'=>∃ i σ' H',Inv X pins σ' H' s'/\tn i s'.heap/\(∀ b∈fp,H' b=none)/\W i n σ' H') ?_ m0 ⟨0,σ,H2,I2,st2,λ b hb=>(f2 b hb).1,w0⟩
 rintro n s3 ⟨i,σ3,H3,I3,st3,fr3,w3⟩
 rcases turn i n σ3 H3 w3 with ⟨stop,qn⟩ | ⟨go,N,hN,step⟩
 ·refine wpAny_passesOwn hp (b7 (T.done X rfl rfl rfl hc i pins s3 σ3 H3 X.xe I3 (stat fr3) st3 stop) λ r s4 ⟨hr,I4⟩=>?_)
  subst hr
  exact wpAny_execs_nil ⟨σ3,H3,I4,qn⟩
 ·refine wpAny_passesOwn hp (b7 (T.item X rfl rfl rfl hc i pins s3 σ3 H3 X.xe I3 (stat fr3) st3 go) λ r s4 ⟨u,hr,h4⟩=>?_)
  subst hr
  refine wpAny_passesOwn hp (b7 h4 λ _ s5 ⟨x,H5,I5,r5,y5,st5,fr5⟩=>?_)
  have I5':=Inv.pinned hsgA I5 (stat fr5) (T.obj _ _ st5)
  refine wpAny_passesOwn hp (b7 (hg _ s5 σ3 H5 x u _ I5' r5 (step x H5 y5)) λ _ s6 ⟨σ6,H6,I6,q6⟩=>?_)
  refine wpAny_passesOwn hp (b7 (hb _ s6 σ6 H6 _ I6 q6) λ f s7 q7=>?_)
  have again:∀ {σ7:St} {H7:Hp},Inv X (pins++nZ fp s5.heap) σ7 H7 s7->N σ7 H7->∃ m,m < n/\∃ i σ' H',Inv X pins σ' H' s7/\tn i s7.heap/\(∀ b∈fp,H' b=none)/\W i m σ' H':=λ {σ7 H7} I7 n7=>by
   obtain ⟨m',hm,w7⟩:=hN σ7 H7 n7
   refine ⟨m',hm,i + 1,σ7,H7,(Inv.unpinned hsgA I7),T.keep _ _ _ st5 λ b hb o e=>(I7.pin (b,o) (List.mem_append_right _ (List.mem_append_right _ (dR hb e)))).1,λ b hb=>?_,w7⟩
   obtain ⟨o,e,d⟩:=T.obj _ _ st5 b hb
   exact (I7.pin (b,o) (List.mem_append_right _ (List.mem_append_right _ (dR hb e)))).2.1
  cases f with
  | next=>obtain ⟨σ7,H7,I7,n7⟩:=q7;exact again I7 n7
  | cont=>obtain ⟨σ7,H7,I7,n7⟩:=q7;exact again I7 n7
  | brk=>obtain ⟨σ7,H7,I7,q7⟩:=q7;exact ⟨σ7,H7,(Inv.unpinned hsgA I7),q7⟩
  | ret v=>obtain ⟨x7,σ7,H7,I7,r7,q7⟩:=q7;exact ⟨x7,σ7,H7,(Inv.unpinned hsgA I7),r7,q7⟩
end
end L2
namespace L2
open PySem PySem.Spec PyProof.Rows
noncomputable abbrev R2:=V->V->Hp->VK->Prop
noncomputable def lC (X:Cx) (f:Value->Value->Sem Value) (r:R2):Prop:=
 ∀ (pins:List (Addr × Obj)) (s:Shared) (σ:St) (H:Hp) (x y:V) (v u:Value) (Q:VK),Inv X pins σ H s->bg x v->bg y u->r x y H Q →
  wpAny (model X.prog X.w) X.A (f v u) (EP X pins σ Q) X.xe s
noncomputable def Lm (X:Cx) (f:Value->Sem Value) (r:V->Hp->VK->Prop):Prop:=
 ∀ (pins:List (Addr × Obj)) (s:Shared) (σ:St) (H:Hp) (x:V) (v:Value) (Q:VK),Inv X pins σ H s->bg x v->r x H Q →
  wpAny (model X.prog X.w) X.A (f v) (EP X pins σ Q) X.xe s
noncomputable def ke (X:Cx) (f:Value) (r:List V->Hp->VK->Prop):Prop:=
 ∀ (pins:List (Addr × Obj)) (s:Shared) (σ:St) (H:Hp) (xs:List V) (us:List Value) (Q:VK),Inv X pins σ H s->bE xs us->r xs H Q →
  wpAny (model X.prog X.w) X.A (call f us) (EP X pins σ Q) X.xe s
noncomputable def Ll (X:Cx) (r:V->Hp->(Bool->Hp->Prop)->Prop):Prop:=
 ∀ (pins:List (Addr × Obj)) (s:Shared) (σ:St) (H:Hp) (x:V) (v:Value) (Q:Bool->Hp->Prop),Inv X pins σ H s->bg x v->r x H Q →
  wpAny (model X.prog X.w) X.A (truthy v) (TP X pins σ Q) X.xe s
noncomputable def Ky (r:R2) (ta tb:TE):TE:=λ σ H Q=>ta σ H λ x H1=>tb σ H1 λ y H2=>r x y H2 Q
noncomputable def MB (r:V->Hp->VK->Prop) (ta:TE):TE:=λ σ H Q=>ta σ H λ x H1=>r x H1 Q
noncomputable def rI (C:Int->Int->Prop) (g:Int->Int->V):R2:=λ x y H Q=>∃ i j,x=.int i/\y=.int j/\C i j/\Q (g i j) H
noncomputable def DS (g:Int->Int->V):R2:=λ x y H Q=>∃ i j,x=.int i/\y=.int j/\Q (g i j) H
noncomputable def rU (g:Int->V):V->Hp->VK->Prop:=λ x H Q=>∃ i,x=.int i/\Q (g i) H
section
variable {X:Cx} {a b c:Expr} {ta tb tc:TE} {pos:Pos}
theorem GK (ha:PE X a ta) (hb:PE X b tb) {pins:List (Addr × Obj)} {s:Shared} {σ:St} {H:Hp} {R:V->V->Hp->Prop} (I:Inv X pins σ H s)
  (h:ta σ H λ x H1=>tb σ H1 λ y H2=>R x y H2) {Q:Value->Shared->Prop} {f:Value->Value->Sem Value}
  (hf:∀ v u s2 x y H2,Inv X pins σ H2 s2->bg x v->bg y u->R x y H2->wpAny (model X.prog X.w) X.A (f v u) Q X.xe s2) :
  wpAny (model X.prog X.w) X.A (eval a X.env) (λ v s₁=>wpAny (model X.prog X.w) X.A (eval b X.env) (λ u s₂=>wpAny (model X.prog X.w) X.A (f v u) Q X.xe s₂) X.xe s₁) X.xe s:=by
 refine b7 (ha pins s σ H _ I h) λ v s1 ⟨x,H1,I1,r1,q1⟩=>?_
 refine b7 (hb pins s1 σ H1 _ I1 q1) λ u s2 ⟨y,H2,I2,r2,q2⟩=>?_
 exact hf v u s2 x y H2 I2 r1 r2 q2
theorem J4 {op:Operator} {r:R2} (ho:lC X (binaryOp op) r) (ha:PE X a ta) (hb:PE X b tb):PE X (.BinOp a op b pos) (Ky r ta tb):=by
 intro pins s σ H Q I h
 exact wpAny_BinOp (GK ha hb I h λ v u s2 x y H2 I2 rx ry q=>ho pins s2 σ H2 x y v u Q I2 rx ry q)
theorem J6 {op:UnaryOp} {r:V->Hp->VK->Prop} (ho:Lm X (unaryOp op) r) (ha:PE X a ta):PE X (.UnaryOp op a pos) (MB r ta):=by
 intro pins s σ H Q I h
 exact UnaryOp_ (b7 (ha pins s σ H _ I h) λ v s1 ⟨x,H1,I1,r1,q1⟩=>ho pins s1 σ H1 x v Q I1 r1 q1)
theorem L1 {f:Value->Value->Sem Value} {C:Int->Int->Prop} {g:Int->Int->Int}
  (rule:∀ (i j:Int) (t u:Tok) (s:Shared) (Q:Value->Shared->Prop) (E:Value->Shared->Prop),C i j->Q (.int (g i j) s.toks) { s with toks:=s.toks + 1 }->wpAny (model X.prog X.w) X.A (f (.int i t) (.int j u)) Q E s) :
  lC X f (rI C λ i j=>.int (g i j)):=by
 intro pins s σ H x y v u Q I rx ry h
 obtain ⟨i,j,rfl,rfl,hc,q⟩:=h
 obtain ⟨t,rfl⟩:=rx
 obtain ⟨t',rfl⟩:=ry
 exact rule i j t t' s _ _ hc ⟨.int (g i j),H,I.tok _,⟨_,rfl⟩,q⟩
theorem JZ {f:Value->Value->Sem Value} {g:Int->Int->Int}
  (rule:∀ (i j:Int) (t u:Tok) (s:Shared) (Q:Value->Shared->Prop) (E:Value->Shared->Prop),Q (.int (g i j) s.toks) { s with toks:=s.toks + 1 }->wpAny (model X.prog X.w) X.A (f (.int i t) (.int j u)) Q E s) :
  lC X f (DS λ i j=>.int (g i j)):=by
 intro pins s σ H x y v u Q I rx ry h
 obtain ⟨i,j,rfl,rfl,q⟩:=h
 obtain ⟨t,rfl⟩:=rx
 obtain ⟨t',rfl⟩:=ry
 exact rule i j t t' s _ _ ⟨.int (g i j),H,I.tok _,⟨_,rfl⟩,q⟩
theorem EG {f:Value->Value->Sem Value} {g:Int->Int->Bool}
  (rule:∀ (i j:Int) (t u:Tok) (s:Shared) (Q:Value->Shared->Prop) (E:Value->Shared->Prop),Q (.bool (g i j)) s->wpAny (model X.prog X.w) X.A (f (.int i t) (.int j u)) Q E s) :
  lC X f (DS λ i j=>.bl (g i j)):=by
 intro pins s σ H x y v u Q I rx ry h
 obtain ⟨i,j,rfl,rfl,q⟩:=h
 obtain ⟨t,rfl⟩:=rx
 obtain ⟨t',rfl⟩:=ry
 exact rule i j t t' s _ _ ⟨.bl (g i j),H,I,rfl,q⟩
noncomputable def Jj (i j:Int):Prop:=0 < j/\j < 1073741824
noncomputable def DV (i j:Int):Prop:=(-(2 ^ 64) < i/\i < 2 ^ 64) \/ (-(2 ^ 64) < j/\j < 2 ^ 64)
theorem DV.ok {i j:Int} (h:DV i j):IntMulOk i j:=by
 rcases h with ⟨h1,h2⟩ | ⟨h1,h2⟩
 ·exact .of_left (intBits_le_64 h1 h2)
 ·exact .of_right (intBits_le_64 h1 h2)
theorem HE:lC X (binaryOp .Add) (DS λ i j=>.int (i + j)):=JZ λ _ _ _ _ _ _ _ q=>add_int q
theorem HH:lC X (binaryOp .Sub) (DS λ i j=>.int (i - j)):=JZ λ _ _ _ _ _ _ _ q=>sub_int q
theorem HG:lC X (binaryOp .Mult) (rI DV λ i j=>.int (i * j)):=L1 λ _ _ _ _ _ _ _ hc q=>mul_int q hc.ok
theorem EK:lC X (binaryOp .FloorDiv) (rI Jj λ i j=>.int (i / j)):=L1 λ i j _ _ _ _ _ hc q=>by
 have h1:(0:Int) < j:=hc.1
 have h2:j < 1073741824:=hc.2
 exact floordiv_int (by (first | lia | omega)) (by rw [Int.fdiv_eq_ediv_of_nonneg i (by (first | lia | omega))];exact q) (.inl (PyProof.noPylong_small (by (first | lia | omega))))
theorem HF:lC X (binaryOp .Mod) (rI (λ _ j=>0 < j) λ i j=>.int (i % j)):=L1 λ i j _ _ _ _ _ hc q=>by
 have h1:(0:Int) < j:=hc
 exact mod_int' (by (first | lia | omega)) (by rw [Int.fmod_eq_emod_of_nonneg i (by (first | lia | omega))];exact q)
theorem MS {f:Value->Sem Value} {g:Int->Int}
  (rule:∀ (i:Int) (t:Tok) (s:Shared) (Q:Value->Shared->Prop) (E:Value->Shared->Prop),Q (.int (g i) s.toks) { s with toks:=s.toks + 1 }->wpAny (model X.prog X.w) X.A (f (.int i t)) Q E s) :
  Lm X f (rU λ i=>.int (g i)):=by
 intro pins s σ H x v Q I rx h
 obtain ⟨i,rfl,q⟩:=h
 obtain ⟨t,rfl⟩:=rx
 exact rule i t s _ _ ⟨.int (g i),H,I.tok _,⟨_,rfl⟩,q⟩
theorem IS:Lm X (unaryOp .USub) (rU λ i=>.int (-i)):=MS λ _ _ _ _ _ q=>neg_int q
end
section
variable {X:Cx} {a b c:Expr} {ta tb tc:TE} {pos:Pos}
theorem GU {pins:List (Addr × Obj)} {σ:St} {H:Hp} {s:Shared} {Q:VK} {k k':Bool} (I:Inv X pins σ H s) (q:Q (.bl k) H) (e:k=k'):EP X pins σ Q (.bool k') s:=by
 subst e
 exact ⟨.bl k,H,I,rfl,q⟩
theorem Gp:lC X (compareOp .Lt) (DS λ i j=>.bl (decide (i < j))):=EG λ _ _ _ _ _ _ _ q=>lt_int q
theorem Go:lC X (compareOp .LtE) (DS λ i j=>.bl (decide (i <= j))):=EG λ _ _ _ _ _ _ _ q=>le_int q
theorem Gn:lC X (compareOp .Gt) (DS λ i j=>.bl (decide (j < i))):=EG λ _ _ _ _ _ _ _ q=>gt_int q
theorem J0:lC X (compareOp .GtE) (DS λ i j=>.bl (decide (j <= i))):=EG λ _ _ _ _ _ _ _ q=>ge_int q
theorem AW:lC X (compareOp .In) (λ x y H Q=>∃ i j,x=.str i/\y=.str j/\Q (.bl (!(Builtin.Str.occurrences j i 0 j.length 1).isEmpty)) H):=by
 intro pins s σ H x y v u Q I rx ry h
 obtain ⟨i,j,rfl,rfl,q⟩:=h
 obtain ⟨t,rfl⟩:=rx
 obtain ⟨t',rfl⟩:=ry
 exact in_str (GU I q rfl)
theorem EO {op:CmpOp} {r:R2} (ho:lC X (compareOp op) r) (ha:PE X a ta) (hb:PE X b tb) (hm:behindInMarks op b=false):PE X (.Compare a [op] [b] pos) (Ky r ta tb):=by
 intro pins s σ H Q I h
 exact wpAny_Compare1 (GK ha hb I h λ v u s2 x y H2 I2 rx ry q=>ho pins s2 σ H2 x y v u Q I2 rx ry q) hm
noncomputable def KA (t:TE):TT:=λ σ H Q=>t σ H λ x H'=>∃ k,x=.bl k/\Q k H'
theorem E3 {op:CmpOp} {r:R2} (ho:lC X (compareOp op) r) (ha:PE X a ta) (hb:PE X b tb) (hm:behindInMarks op b=false):PT X (.Compare a [op] [b] pos) (KA (Ky r ta tb)):=by
 intro pins s σ H Q I h
 refine wpAny_isTrue_Compare1 (b7 (ha pins s σ H _ I h) λ v s1 ⟨x,H1,I1,r1,q1⟩=>b7 (hb pins s1 σ H1 _ I1 q1) λ u s2 ⟨y,H2,I2,r2,q2⟩ =>
  b7 (ho pins s2 σ H2 x y v u _ I2 r1 r2 q2) λ c s3 ⟨z,H3,I3,r3,k,e,q3⟩=>?_) hm
 subst e
 cases r3
 exact wpAny_truthy_bool ⟨H3,I3,q3⟩
noncomputable def D0 (K:PySem.W.Frag) (x:V) (H:Hp) (k:Bool):Prop:=
 match x with
 | .non=>k=false
 | .bl b=>k=b
 | .int i=>k=(i != 0)
 | .str y=>y.length <= sizeLine/\k=((y.length:Int) != 0)
 | .byt y=>y.size <= sizeLine/\k=((y.size:Int) != 0)
 | .ref p=>(∃ xs,cR K H p xs/\k = !xs.isEmpty) \/ (∃ xs,nJ K H p xs/\k = !xs.isEmpty) \/ ∃ kvs,H p=some (.dK kvs)/\k = !kvs.isEmpty
 | _=>False
theorem xW {κ:Type} {kvs:List (κ × V)} {vs:List (κ × Value)} (r:KV kvs vs):(!vs.isEmpty) = !kvs.isEmpty:=by
 cases r <;> rfl
theorem qh {xs:List V} {its:List Value} (r:bE xs its):(!its.toArray.isEmpty) = !xs.isEmpty:=by
 cases r <;> simp
theorem nP:(sizeLine:Nat) < 2 ^ 63:=by rw [sizeLine_eq];decide
theorem IQ:Ll X (λ x H Q=>∃ k,D0 X.K x H k/\Q k H):=by
 intro pins s σ H x v Q I rx h
 obtain ⟨k,e,q⟩:=h
 have hl:=nP
 have hs:sizeLine=16777216:=sizeLine_eq
 cases x with
 | non =>
  cases rx
  have e':k=false:=e
  subst e'
  exact truthy_none ⟨H,I,q⟩
 | bl b =>
  cases rx
  have e':k=b:=e
  subst e'
  exact wpAny_truthy_bool ⟨H,I,q⟩
 | int i =>
  obtain ⟨t,rfl⟩:=rx
  have e':k=(i != 0):=e
  subst e'
  exact PySem.P.truthy_int ⟨H,I,q⟩
 | str y =>
  obtain ⟨t,rfl⟩:=rx
  obtain ⟨hy,e'⟩:y.length <= sizeLine/\k=((y.length:Int) != 0):=e
  subst e'
  exact PySem.P.truthy_str (by (first | lia | omega)) ⟨H,I.tok _,q⟩
 | byt y =>
  obtain ⟨t,rfl⟩:=rx
  obtain ⟨hy,e'⟩:y.size <= sizeLine/\k=((y.size:Int) != 0):=e
  subst e'
  exact PySem.W.truthy_bytes (by (first | lia | omega)) ⟨H,I.tok _,q⟩
 | ref p =>
  cases rx
  have e':(∃ xs,cR X.K H p xs/\k = !xs.isEmpty) \/ (∃ xs,nJ X.K H p xs/\k = !xs.isEmpty) \/ ∃ kvs,H p=some (.dK kvs)/\k = !kvs.isEmpty:=e
  rcases e' with ⟨xs,hx,e'⟩ | ⟨xs,hx,e'⟩ | ⟨kvs,hx,e'⟩
  ·subst e'
   obtain ⟨its,r,pl,hz⟩:=I.list hx
   have hlen:=r.length
   exact wpAny_truthy_list pl.isList (by simp only [List.size_toArray];(first | lia | omega)) ⟨H,I.tok _,by rw [qh r];exact q⟩
  ·subst e'
   obtain ⟨its,r,pl,hz⟩:=I.tuple hx
   have hlen:=r.length
   exact truthy_tuple pl (by simp only [List.size_toArray];(first | lia | omega)) ⟨H,I.tok _,by rw [qh r];exact q⟩
  ·subst e'
   obtain ⟨hz,hS,vs,r,m⟩:kvs.length <= sizeLine/\(p == sysModules)=false/\∃ vs,KV kvs vs/\s.heap.DictOf (cq X.prog X.w) p vs:=I.hok p _ hx
   have hlen:kvs.length=vs.length:=Paired.length r
   exact wpAny_truthy_dict hS m (by (first | lia | omega)) ⟨H,I.tok _,by rw [xW r];exact q⟩
 | _=>exact (show False from e).elim
theorem C8 (ha:PE X a ta) (he:∀ whole,isTrue a X.env whole=(do let v ← whole;standAt a.pos;holding [v] (truthy v))) :
  PT X a (λ σ H Q=>ta σ H λ x H'=>∃ k,D0 X.K x H' k/\Q k H'):=by
 intro pins s σ H Q I h
 exact isTrue_plain (b7 (ha pins s σ H _ I h) λ v s1 ⟨x,H1,I1,r1,q1⟩=>IQ pins s1 σ H1 x v Q I1 r1 q1) (he _)
theorem yj:lC X (binaryOp .Add) (λ x y H Q=>∃ i j,x=.str i/\y=.str j/\i.length + j.length <= sizeLine/\Q (.str (i++j)) H):=by
 intro pins s σ H x y v u Q I rx ry h
 obtain ⟨i,j,rfl,rfl,hz,q⟩:=h
 obtain ⟨t,rfl⟩:=rx
 obtain ⟨t',rfl⟩:=ry
 exact add_str (λ t' tk=>⟨.str (i++j),H,I.tok _,⟨_,rfl⟩,q⟩) hz
theorem xr {x:V} {us:List Value} (r:bE [x] us):∃ u,us=[u]/\bg x u:=by
 cases r with
 | cons r1 r2=>cases r2;exact ⟨_,rfl,r1⟩
theorem Ao:ke X (.type "int") (λ xs H Q=>(∃ i,xs=[.int i]/\Q (.int i) H) \/ ∃ k,xs=[.bl k]/\Q (.int (if k then 1 else 0)) H):=by
 intro pins s σ H xs us Q I r h
 rcases h with ⟨i,rfl,q⟩ | ⟨k,rfl,q⟩
 ·obtain ⟨u,rfl,t,rfl⟩:=xr r
  exact call_int_int ⟨.int i,H,I,⟨_,rfl⟩,q⟩
 ·obtain ⟨u,rfl,r1⟩:=xr r
  cases r1
  exact call_int_bool ⟨.int (if k then 1 else 0),H,I.tok _,⟨_,rfl⟩,q⟩
theorem tI:ke X (.type "str") (λ xs H Q=>∃ i,xs=[.int i]/\i.natAbs.log2 < 1920/\Q (.str (toString i)) H):=by
 intro pins s σ H xs us Q I r h
 obtain ⟨i,rfl,hz,q⟩:=h
 obtain ⟨u,rfl,t,rfl⟩:=xr r
 exact PySem.P.str_of_int hz ⟨.str _,H,I.tok _,⟨_,rfl⟩,q⟩
end
end L2
namespace L2
open PySem PySem.Spec PyProof.Rows
section
variable {prog:Program} {w:World} {A:Around} {E:Value->Shared->Prop} {s:Shared} {K:PySem.W.Frag} {x dx C f:Addr} {mA:Str->Option Value} {name:Str} {v:Value}
end
theorem vn.some_of {v:V} {o:Option Value} (r:vn (some v) o):∃ u,o=some u/\bg v u:=by
 cases o with
 | none=>exact (show False from r).elim
 | some u=>exact ⟨u,rfl,r⟩
section
variable {P:Program} {w:World} {H H':Hp} {h h':Heap} {a C dx:Addr} {fs fs':List (Str × V)}
end
section
variable {X:Cx} {pins:List (Addr × Obj)} {σ:St} {H:Hp} {s:Shared} {a C dx:Addr} {fs:List (Str × V)} {f:Str} {v:V} {A:Around} {E:Value->Shared->Prop}
end
section
variable {X:Cx} {o e value:Expr} {f:Str} {pos pos' tpos:Pos} {ta tv:TE}
end
section
variable {X:Cx} {pins:List (Addr × Obj)} {σ:St} {H:Hp} {s:Shared} {A:Around} {E:Value->Shared->Prop} {Q:Value->Shared->Prop} {c:Value} {b:Bool}
end
end L2
namespace L2
open PySem PySem.Spec PyProof.Rows
structure Room (k:Nat) (A:Around):Prop where
 hd:A.handled=none
 dp:A.depth + 3 * k + 5 < recursionLimit
 un:A.units + 16 * k + 200 < cLine
theorem Room.mono {j k:Nat} {A:Around} (r:Room k A) (h:j <= k):Room j A:=⟨r.hd,by have:=r.dp;(first | lia | omega),by have:=r.un;(first | lia | omega)⟩
theorem Room.deeper {k:Nat} {A:Around} (r:Room (k + 1) A) (env:Env):Room k (A.deeper env):=
 ⟨r.hd,by have:=r.dp;show A.depth + 1 + 3 * k + 5 < _;(first | lia | omega),by have:=r.un;show A.units + 3 + 16 * k + 200 < _;(first | lia | omega)⟩
theorem Room.depth {k:Nat} {A:Around} (r:Room k A):A.depth < recursionLimit:=by have:=r.dp;(first | lia | omega)
theorem Room.units {k:Nat} {A:Around} (r:Room k A):A.units + 64 < cLine:=by have:=r.un;(first | lia | omega)
noncomputable def Kx:TA:=λ _ H Q=>Q [] H
noncomputable def Gw (ta:TE) (tr:TA):TA:=λ σ H Q=>ta σ H λ x H1=>tr σ H1 λ xs H2=>Q (x :: xs) H2
section
variable {X:Cx} {e:Expr} {es:List Expr} {te:TE} {t:TA} {pos:Pos}
theorem gB:PA X [] Kx:=λ _ _ _ _ H Q I h=>Calls.spliced_nil ⟨[],H,I,.nil,h⟩
theorem eW (ha:PE X e te) (hr:PA X es t) (hs:starEach (e :: es) X.env=(false,eval e X.env) :: starEach es X.env:=by rfl):PA X (e :: es) (Gw te t):=by
 intro pos pins s σ H Q I h
 rw [hs]
 show wpAny _ _ (spliced ((false,eval e X.env) :: backTo pos (starEach es X.env))) _ _ s
 refine Calls.spliced_cons (b7 (ha pins s σ H _ I h) λ u s1 ⟨x,H1,I1,r1,q1⟩=>?_)
 exact b7 (hr pos pins s1 σ H1 _ I1 q1) λ us s2 ⟨xs,H2,I2,r2,q2⟩=>⟨x :: xs,H2,I2,.cons r1 r2,q2⟩
noncomputable def Mj (t:TA):TE:=λ σ H Q=>t σ H λ xs H1=>xs.length <= sizeLine/\∀ p,H1 p=none->Q (.ref p) (upd H1 p (.tup xs))
noncomputable def Mf (t:TA):TE:=λ σ H Q=>t σ H λ xs H1=>xs.length <= sizeLine/\∀ p,H1 p=none->Q (.ref p) (upd H1 p (.lst xs))
theorem HL {x1} (h:PA X es t):PE X (.Tuple es x1 pos) (Mj t):=by
 intro pins s σ H Q I hq
 refine wpAny_Tuple_spliced (b7 (h pos pins s σ H _ I hq) λ us s1 ⟨xs,H1,I1,r,z,q⟩=>⟨by rw [<- r.length];exact z,?_⟩)
 have hf:H1 s1.heap.objs.size=none:=I1.hok.fresh (Nat.le_refl _)
 refine ⟨.ref s1.heap.objs.size,upd H1 s1.heap.objs.size (.tup xs),I1.laid (t':=s1.toks) (λ b u e=>Heap.get?_push_of_some _ e) (Nat.le_refl _) ?_,rfl,q _ hf⟩
 exact ⟨z,us,r,⟨_,Heap.get?_push_size _ rfl,rfl,_,rfl⟩⟩
theorem uC (h:PA X es t):PE X (.List es pos) (Mf t):=by
 intro pins s σ H Q I hq
 refine wpAny_List_spliced (b7 (h pos pins s σ H _ I hq) λ us s1 ⟨xs,H1,I1,r,z,q⟩=>⟨by rw [<- r.length];exact z,?_⟩)
 have hf:H1 s1.heap.objs.size=none:=I1.hok.fresh (Nat.le_refl _)
 refine ⟨.ref s1.heap.objs.size,upd H1 s1.heap.objs.size (.lst xs),I1.laid (t':=s1.toks) (λ b u e=>Heap.get?_push_of_some _ e) (Nat.le_refl _) ?_,rfl,q _ hf⟩
 exact ⟨z,us,0,r,Heap.get?_push_size _ rfl⟩
end
noncomputable abbrev Sp:=List V->Hp->VK->XK->Prop
noncomputable abbrev Bq:=List Env->Hp->Shared->XK->Value->Shared->Prop
structure Env0 (P:Program) (w:World) (K:PySem.W.Frag) (mg:Str->Option Value) (base:Heap) (A:Around) (outer:List Env) (s:Shared) (H:Hp):Prop where
 frames:A.frames=some outer
 mod:Mod K mg base
 bs:∀ b o,base.get? b=some o->s.heap.get? b=some o/\H b=none
 bsz:base.objs.size <= s.heap.objs.size
 funs:s.heap.FunFrames base outer
 frf:∀ b∈nD outer,H b=none
 hok:mo P w H s.heap
 bare:AllBare s.gens
noncomputable def CE (outer:List Env) (P:Program) (w:World) (H:Hp) (s:Shared) (Q:VK) (u:Value) (s':Shared):Prop:=
 ∃ v H',s'.os=s.os/\AllBare s'.gens/\Un (nD outer) [] H H' s.heap s'.heap/\mo P w H' s'.heap/\bg v u/\Q v H'
noncomputable def CR (CX:Bq) (outer:List Env) (P:Program) (w:World) (H:Hp) (s:Shared) (Q:VK) (E:XK) (r:Result) (s':Shared):Prop:=
 match r with
 | .ok (.ret u)=>CE outer P w H s Q u s'
 | .ok _=>False
 | .error e=>CX outer H s E e s'
structure FnOk (P:Program) (w:World) (K:PySem.W.Frag) (mg:Str->Option Value) (base:Heap) (CX:Bq) (k:Nat) (f:Addr) (fd:FuncData) (ps:List Str) (sp:Sp):Prop where
 len:∀ vs H Q E,sp vs H Q E->vs.length=ps.length
 run:∀ (A:Around) (outer:List Env) (s:Shared) (H:Hp) (args:Args) (us:List Value) (vs:List V) (Q:VK) (E:XK),Room k A->Env0 P w K mg base A outer s H->BindsTo s fd args (ps.zip us)->bE vs us->sp vs H Q E →
  codeAny (model P w) A (.call (.ref f) args) (CR CX outer P w H s Q E) s
theorem FnOk.imp {P:Program} {w:World} {K:PySem.W.Frag} {mg:Str->Option Value} {base:Heap} {CX:Bq} {k:Nat} {f:Addr} {fd:FuncData} {ps:List Str} {sp sp':Sp} (F:FnOk P w K mg base CX k f fd ps sp)
  (h:∀ vs H Q E,sp' vs H Q E->sp vs H Q E):FnOk P w K mg base CX k f fd ps sp':=
 ⟨λ vs H Q E q=>F.len vs H Q E (h _ _ _ _ q),λ A outer s H args us vs Q E hr he hb hv hs=>F.run A outer s H args us vs Q E hr he hb hv (h _ _ _ _ hs)⟩
section
variable {X:Cx} {pins:List (Addr × Obj)} {σ:St} {H:Hp} {s s':Shared}
theorem Inv.env0 (I:Inv X pins σ H s):Env0 X.prog X.w X.K X.mg X.base X.A X.stack s H:=
 ⟨I.ok.frames,I.ok.mod,I.bs,Nat.le_trans I.ok.bsz I.sz,I.stack,I.stkFree,I.hok,I.bare⟩
theorem Inv.after {Q:VK} {u:Value} (I:Inv X pins σ H s) (h:CE X.stack X.prog X.w H s Q u s'):EP X pins σ Q u s':=by
 obtain ⟨v,H',os,bare,un,hok,r,q⟩:=h
 obtain ⟨hh,g,d,t,os'⟩:=s'
 obtain rfl:os'=s.os:=os
 exact ⟨v,H',I.call (h':=hh) (g':=g) (d':=d) (t':=t) (ch:=[]) un hok bare (λ b z=>absurd z (by simp)),r,q⟩
end
noncomputable def Kt (sp:Sp) (dvs:List V) (E:XK) (t:TA):TE:=λ σ H Q=>t σ H λ vs H1=>sp (vs++dvs) H1 Q E
noncomputable def lS (K:PySem.W.Frag) (fd:FuncData) (ps:List Str) (ds:List Value):Prop:=
 ∀ (s:Shared) (us:List Value),K.In s.heap->(us++ds).length=ps.length->BindsTo s fd ⟨us,[]⟩ (ps.zip (us++ds))
theorem lS.all {K:PySem.W.Frag} {fd:FuncData} {ps:List Str} (h:∀ us:List Value,us.length=ps.length->bindArgs fd ⟨us,[]⟩=pure (ps.zip us)):lS K fd ps []:=λ s us _ hl=>by
 rw [List.append_nil] at hl ⊢
 exact .of_eq (h us hl)
noncomputable def xB (CX:Bq) (X:Cx) (E:XK):Prop:=∀ (pins:List (Addr × Obj)) (σ:St) (H:Hp) (s:Shared) (e:Value) (s':Shared),Inv X pins σ H s->CX X.stack H s E e s'->X.xe e s'
section
variable {X:Cx} {CX:Bq} {k:Nat} {f C:Addr} {fd:FuncData} {ps:List Str} {sp:Sp} {dvs:List V} {ds:List Value} {E:XK} {x m:Str} {p pos apos:Pos} {e o:Expr} {es:List Expr} {ta:TE} {t:TA}
theorem IK {pins:List (Addr × Obj)} {σ:St} {H:Hp} {s:Shared} {Q:VK} {us:List Value} {vs:List V} (F:FnOk X.prog X.w X.K X.mg X.base CX k f fd ps sp) (hr:Room k X.A) (hb:lS X.K fd ps ds) (hd:bE dvs ds) (hx:xB CX X E)
  (I:Inv X pins σ H s) (r:bE vs us) (h:sp (vs++dvs) H Q E):wpAny (model X.prog X.w) X.A (call (.ref f) us) (EP X pins σ Q) X.xe s:=by
 have r2:bE (vs++dvs) (us++ds):=r.append hd
 have hl:(us++ds).length=ps.length:=by rw [<- r2.length];exact F.len _ _ _ _ h
 refine wpAny_call (codeAny_mono (F.run X.A X.stack s H ⟨us,[]⟩ (us++ds) (vs++dvs) Q E hr I.env0 (hb s us I.kIn hl) r2 h) λ r s' hq=>?_)
 cases r with
 | error e=>exact hx pins σ H s e s' I hq
 | ok fl =>
  cases fl with
  | ret u=>exact I.after hq
  | next=>exact False.elim hq
  | brk=>exact False.elim hq
  | cont=>exact False.elim hq
theorem EN (F:FnOk X.prog X.w X.K X.mg X.base CX k f fd ps sp) (hr:Room k X.A) (hg:Gl X x) (hm:X.mg x=some (.ref f)) (hk:PySem.W.keepIn X.K (.ref f)=true) (hb:lS X.K fd ps ds) (hd:bE dvs ds) (hx:xB CX X E)
  (ha:PA X (e :: es) t) (hdb:(x == ("__debug__" : Str))=false:=by decide) (he:starEach (e :: es) X.env=(false,eval e X.env) :: starEach es X.env:=by rfl) (hpl:(backTo pos (starEach es X.env)).any (·.1)=false:=by rfl) :
  PE X (.Call (.Name x p) (e :: es) [] pos) (Kt sp dvs E t):=by
 intro pins s σ H Q I h
 refine wpAny_Call_Name_kw (uc I hg hm ?_ hdb)
 refine PySem.W.callWith_K (h₀:=X.base) I.ok.mod.kin hk (b7 (ha pos pins s σ H _ I h) λ us s1 ⟨vs,H1,I1,r,q⟩=>⟨I1.kIn,?_⟩) he hpl
 exact IK F hr hb hd hx I1 r q
end
section
variable {X:Cx} {CX:Bq} {k:Nat} {f C:Addr} {fd:FuncData} {ps ks:List Str} {sp:Sp} {E:XK} {x m:Str} {p pos apos kpos:Pos} {e o:Expr} {es:List Expr} {kws:List Keyword} {te ta:TE} {t tk:TA} {nm:Option Str}
variable {g:List Value->List Value->List Value} {gV:List V->List V->List V}
end
structure FnScope (N P:List Str) (sc:Scope):Prop where
 kind:sc.kind=.function
 co:sc.isCoroutine=false
 gen:sc.isGenerator=false
 nd:N.Nodup
 pre:N.take P.length=P
 par:∀ x∈P,sc.names.lookup x=some .local \/ sc.names.lookup x=some .cell
 nofree:∀ y∈sc.names,y.2 ≠ .free
theorem rQ {kindOf:Str->Option NameKind} {x:Str}:∀ {binds:List (Str × Value)} {m:Str->Option Value},(∀ v,(x,v) ∉ binds)->bindL kindOf binds m x=m x
 | [],_,_=>rfl
 | (n,v) :: r,m,h=>by
  unfold bindL
  rw [rQ λ w hw=>h w (List.mem_cons_of_mem _ hw)]
  split
  ·have:x ≠ n:=by rintro rfl;exact h v List.mem_cons_self
   simp [this]
  ·rfl
theorem rO {kindOf:Str->Option NameKind} {x:Str}:∀ {binds:List (Str × Value)} {m:Str->Option Value},(∀ v,(x,v) ∉ binds)->bindC kindOf binds m x=m x
 | [],_,_=>rfl
 | (n,v) :: r,m,h=>by
  unfold bindC
  rw [rO λ w hw=>h w (List.mem_cons_of_mem _ hw)]
  split
  ·rfl
  ·have:x ≠ n:=by rintro rfl;exact h v List.mem_cons_self
   simp [this]
theorem rP {kindOf:Str->Option NameKind} {x:Str} {v:Value}:∀ {P:List Str} {vs:List Value} {i:Nat} {m:Str->Option Value},P.Nodup->P[i]?=some x->vs[i]?=some v->kindOf x=some .local →
  bindL kindOf (P.zip vs) m x=some v
 | [],_,_,_,_,h,_,_=>by simp at h
 | _ :: _,[],_,_,_,_,h,_=>by simp at h
 | p :: P,w :: vs,0,m,nd,h1,h2,hk=>by
  simp at h1 h2;subst h1;subst h2
  show bindL kindOf ((p,w) :: P.zip vs) m p=_
  unfold bindL
  rw [rQ λ v hv=>(List.nodup_cons.mp nd).1 (List.of_mem_zip hv).1,if_pos hk]
  simp
 | p :: P,w :: vs,i + 1,m,nd,h1,h2,hk=>by
  show bindL kindOf ((p,w) :: P.zip vs) m x=_
  unfold bindL
  exact rP (i:=i) (List.nodup_cons.mp nd).2 (by simpa using h1) (by simpa using h2) hk
theorem rN {kindOf:Str->Option NameKind} {x:Str} {v:Value}:∀ {P:List Str} {vs:List Value} {i:Nat} {m:Str->Option Value},P.Nodup->P[i]?=some x->vs[i]?=some v->kindOf x ≠ some .local →
  bindC kindOf (P.zip vs) m x=some v
 | [],_,_,_,_,h,_,_=>by simp at h
 | _ :: _,[],_,_,_,_,h,_=>by simp at h
 | p :: P,w :: vs,0,m,nd,h1,h2,hk=>by
  simp at h1 h2;subst h1;subst h2
  show bindC kindOf ((p,w) :: P.zip vs) m p=_
  unfold bindC
  rw [rO λ v hv=>(List.nodup_cons.mp nd).1 (List.of_mem_zip hv).1,if_neg hk]
  simp
 | p :: P,w :: vs,i + 1,m,nd,h1,h2,hk=>by
  show bindC kindOf ((p,w) :: P.zip vs) m x=_
  unfold bindC
  exact rN (i:=i) (List.nodup_cons.mp nd).2 (by simpa using h1) (by simpa using h2) hk
noncomputable def nB (N:List Str) (vs:List V):St:=vs.map some++List.replicate (N.length - vs.length) none
noncomputable def As (CX:Bq) (P:Program) (w:World) (K:PySem.W.Frag) (mg:Str->Option Value) (base:Heap) (N:List Str) (qual:Str) (scope:Scope) (f:Addr) (cd:Value) (A:Around) (outer:List Env) (s:Shared) (H:Hp) (E:XK):Cx where
 prog:=P
 w:=w
 K:=K
 mg:=mg
 base:=base
 A:=A.deeper (envOfC qual scope s.heap.objs.size f cd)
 N:=N
 s₀:=s
 H₀:=H
 env:=envOfC qual scope s.heap.objs.size f cd
 outer:=outer
 stack:=envOfC qual scope s.heap.objs.size f cd :: outer
 ex:=[]
 calm:=true
 fn:=λ _=>true
 pn:=[]
 xe:=λ e s'=>wpAny (model P w) (A.deeper (envOfC qual scope s.heap.objs.size f cd)) (leaving (envOfC qual scope s.heap.objs.size f cd) e) (λ _ s''=>CX outer H s E e s'') (λ e' s''=>CX outer H s E e' s'') s'
theorem vI {sc:Scope} {n:Nat} {x:Str} (h:sc.names.lookup x=some .cell):∃ c,(cellsFrom n sc.names []).lookup x=some c:=by
 have q:=PySem.W.cellsFrom_some sc.names n [] (.inl h)
 exact Option.isSome_iff_exists.mp q
theorem AJ {CX:Bq} {P:Program} {w:World} {K:PySem.W.Frag} {mg:Str->Option Value} {base:Heap} {N ps:List Str} {qual:Str} {scope:Scope} {f:Addr} {cd:Value} {A:Around} {outer:List Env} {s s1:Shared} {H:Hp} {E:XK} {us:List Value} {vs:List V}
  (S:FnScope N ps scope) (hd:A.handled=none) (e0:Env0 P w K mg base A outer s H) (hl:vs.length=ps.length) (r:bE vs us)
  (x:InCallC s s.heap.objs.size (bindL (envOfC qual scope s.heap.objs.size f cd).kindOf (ps.zip us) λ _=>none) (cellsFrom (s.heap.objs.size + 1) scope.names []) (bindC (envOfC qual scope s.heap.objs.size f cd).kindOf (ps.zip us) λ _=>none) s1) :
  Inv (As CX P w K mg base N qual scope f cd A outer s H E) [] (nB N vs) H s1:=by
 have hpl:ps.length <= N.length:=by have:=congrArg List.length S.pre;rw [List.length_take] at this;(first | lia | omega)
 obtain ⟨h1,tk,rfl,hk⟩:=x.done
 have noA:∀ b:Addr,b ∉ (As CX P w K mg base N qual scope f cd A outer s H E).ex:=λ b z=>absurd (show b∈([]:List Addr) from z) (by simp)
 refine ⟨⟨e0.mod,S.kind,rfl,rfl,Nat.le_refl _,λ y z c h1 h2=>?_,λ y hy=>?_,λ y c _ h=>?_,λ _=>hd,Around.frames_deeper e0.frames,.inr ⟨rfl,rfl⟩,λ b z=>absurd z (noA b),e0.bs,e0.bsz,λ b _ _=>noA b,λ b z=>absurd z (noA b),e0.funs,e0.frf⟩,
  rfl,e0.bare,Un.kept hk,⟨_,x.toInCall.ns,λ i y v h1 h2 h3=>?_⟩,λ y c h=>⟨_,x.cell y c h⟩,e0.hok.fresh (Nat.le_refl _),λ y c h=>?_,λ p hp=>absurd (show p∈([]:List (Addr × Obj)) from hp) (by simp),e0.hok.kept hk,?_,trivial⟩
 ·exact name_of_addr x.apart (PySem.mem_of_lookup h1) (PySem.mem_of_lookup h2)
 ·have hy:scope.names.lookup y=some .cell \/ scope.names.lookup y=some .free:=hy
  rcases hy with hy | hy
  ·exact vI hy
  ·exact absurd rfl (S.nofree _ (PySem.mem_of_lookup hy))
 ·exact Nat.le_of_lt (x.above y c (PySem.mem_of_lookup h))
 ·have hi:i < vs.length:=by
   unfold nB at h2
   by_cases hi:i < vs.length
   ·exact hi
   ·rw [List.getElem?_append_right (by simpa using hi)] at h2
    rw [List.getElem?_replicate] at h2
    split at h2 <;> cases h2
  have ha:vs[i]?=some v:=by
   unfold nB at h2
   rw [List.getElem?_append_left (by simpa using hi),List.getElem?_map] at h2
   cases e:vs[i]? with
   | none=>rw [e] at h2;cases h2
   | some a=>rw [e] at h2;cases h2;rfl
  obtain ⟨u,hu,rv⟩:=r.get ha
  have hp:ps[i]?=some y:=by
   rw [<- S.pre,List.getElem?_take_of_lt (by (first | lia | omega))];exact h1
  have ndP:ps.Nodup:=by rw [<- S.pre];exact S.nd.sublist (List.take_sublist _ _)
  refine ⟨u,rv,?_⟩
  rcases S.par y (List.mem_of_getElem? hp) with k | k
  ·exact .inl ⟨k,rP ndP hp hu k⟩
  ·obtain ⟨c,e⟩:=vI (n:=s.heap.objs.size + 1) k
   refine .inr ⟨.inl k,c,e,?_⟩
   have q:=x.cell y c e
   rw [rN ndP hp hu (by show scope.names.lookup y ≠ _;rw [k];decide)] at q
   exact q
 ·exact e0.hok.fresh (Nat.le_of_lt (x.above y c (PySem.mem_of_lookup h)))
 ·unfold nB
  show _=N.length
  rw [List.length_append,List.length_map,List.length_replicate]
  (first | lia | omega)
theorem JE {CX:Bq} {P:Program} {w:World} {K:PySem.W.Frag} {mg:Str->Option Value} {base:Heap} {k:Nat} {f:Addr} {name qual:Str} {params:Arguments} {body:List Stmt} {scope:Scope} {dV kV doc pm cdv ct oc:Value} {an od:Option Addr}
  {osl:Array (Option Value)} {N ps:List Str} {sp:Sp} (lk:K.lookup f=some ⟨oc,od,.func (PySem.W.fnOf name qual params body scope dV kV doc pm an cdv ct),osl⟩) (hcd:PySem.W.codeIn K cdv qual=true) (S:FnScope N ps scope)
  (len:∀ vs H Q E,sp vs H Q E->vs.length=ps.length)
  (hbody:∀ (A:Around) (outer:List Env) (s:Shared) (H:Hp) (vs:List V) (Q:VK) (E:XK),Room k (A.deeper (envOfC qual scope s.heap.objs.size f cdv))->sp vs H Q E →
   ∃ t,FW (As CX P w K mg base N qual scope f cdv A outer s H E) body t/\t { nx:=λ _ H'=>Q .non H',rt:=Q } (nB N vs) H) :
  FnOk P w K mg base CX (k + 1) f (PySem.W.fnOf name qual params body scope dV kV doc pm an cdv ct) ps sp:=by
 refine ⟨len,λ A outer s H args us vs Q E hr e0 hb r hsp=>?_⟩
 have hl:=len _ _ _ _ hsp
 have KX:K.In s.heap:=e0.mod.kin.keeps λ b o e=>(e0.bs b o e).1
 have lim:s.heap.NoLimit:=e0.mod.nolimit.keeps λ b o e=>(e0.bs b o e).1
 have hkind:∀ y∈ps.zip us,scope.names.lookup y.1=some .local \/ (scope.names.lookup y.1=some .cell/\((cellsFrom (s.heap.objs.size + 1) scope.names []).lookup y.1).isSome=true):=λ ⟨n,v⟩ hy=>by
  rcases S.par n (List.of_mem_zip hy).1 with q | q
  ·exact .inl q
  ·exact .inr ⟨q,PySem.W.cellsFrom_some _ _ _ (.inl q)⟩
 refine codeAny_call_function hr.depth (KX _ _ lk) rfl S.co S.gen rfl (PySem.W.codeRec_of KX hcd) (hb _ _ _ _ ?_)
 refine wpAny_newFunctionEnv_cells S.kind hkind λ env he s1 x=>?_
 subst he
 refine ⟨lim.keeps x.toInCall.keep,codeAny_func ?_⟩
 obtain ⟨t,ht,hq⟩:=hbody A outer s H vs Q E (hr.deeper _) hsp
 have I:Inv (As CX P w K mg base N qual scope f cdv A outer s H E) [] (nB N vs) H s1:=AJ S hr.hd e0 hl r x
 refine wpAny_mono (ht [] s1 (nB N vs) H _ I hq) (λ fl s' hs=>?_) λ e s' hs=>hs
 have fin:∀ {σ':St} {H':Hp} {v:V} {u:Value},Inv (As CX P w K mg base N qual scope f cdv A outer s H E) [] σ' H' s'->bg v u->Q v H'->CE outer P w H s Q u s':=
  λ {σ' H' v u} J rv q=>⟨v,H',J.os,J.bare,J.base,J.hok,rv,q⟩
 cases fl with
 | ret u =>
  obtain ⟨v,σ',H',J,rv,q⟩:=hs
  exact fin J rv q
 | next =>
  obtain ⟨σ',H',J,q⟩:=hs
  exact fin (v:=V.non) (u:=Value.none) J rfl q
 | brk =>
  obtain ⟨_,_,_,q⟩:=hs
  exact False.elim q
 | cont =>
  obtain ⟨_,_,_,q⟩:=hs
  exact False.elim q
end L2
namespace L2
open PySem PySem.Spec PyProof.Rows
section
variable {X:Cx} {x:Str} {p pos:Pos} {e:Expr} {es:List Expr} {t:TA} {id T:String} {r:List V->Hp->VK->Prop}
noncomputable def MA (r:List V->Hp->VK->Prop) (t:TA):TE:=λ σ H Q=>t σ H λ vs H1=>r vs H1 Q
theorem wM (hc:ke X (.builtin id) r) (hg:Gl X x) (hm:X.mg x=none) (hv:bootBuiltins x=some (.builtin id)) (ha:PA X (e :: es) t) (hn:x ≠ "__name__":=by decide) (hdb:(x == ("__debug__" : Str))=false:=by decide)
  (he:starEach (e :: es) X.env=(false,eval e X.env) :: starEach es X.env:=by rfl) (hpl:(backTo pos (starEach es X.env)).any (·.1)=false:=by rfl):PE X (.Call (.Name x p) (e :: es) [] pos) (MA r t):=by
 intro pins s σ H Q I h
 refine wpAny_Call_Name_kw (jK I hg hm hv ?_ hn hdb)
 exact PyProof.Rows.callWith_builtin1 (b7 (ha pos pins s σ H _ I h) λ us s1 ⟨vs,H1,I1,r1,q1⟩=>hc pins s1 σ H1 vs us Q I1 r1 q1) he hpl
theorem sL (hc:ke X (.type T) r) (hg:Gl X x) (hm:X.mg x=none) (hv:bootBuiltins x=some (.type T)) (ha:PA X (e :: es) t) (hn:x ≠ "__name__":=by decide) (hdb:(x == ("__debug__" : Str))=false:=by decide)
  (he:starEach (e :: es) X.env=(false,eval e X.env) :: starEach es X.env:=by rfl) (hpl:(backTo pos (starEach es X.env)).any (·.1)=false:=by rfl):PE X (.Call (.Name x p) (e :: es) [] pos) (MA r t):=by
 intro pins s σ H Q I h
 refine wpAny_Call_Name_kw (jK I hg hm hv ?_ hn hdb)
 exact PyProof.Rows.callWith_type1 (b7 (ha pos pins s σ H _ I h) λ us s1 ⟨vs,H1,I1,r1,q1⟩=>hc pins s1 σ H1 vs us Q I1 r1 q1) he hpl
end
end L2
namespace HT
open PySem PyProof.Rows
section
open PySem.SeqAt
open PySem.AutoSeq1 (wpAny_loadPart')
open PySem.MeetsSeq PySem.MeetsSeq2 PySem.MeetsSeq3
end
section
variable {prog:Program} {w:World} {A:Around} {E:Value->Shared->Prop} {s:Shared}
noncomputable def sIx (n d:Nat):Option Int->Nat
 | none=>d
 | some v=>if v < 0 then (v + (n:Int)).toNat else min v.toNat n
theorem sIx_none (n d:Nat):sIx n d none=d:=rfl
theorem sIx_nat (n d k:Nat):sIx n d (some (k:Int))=min k n:=by
 show (if (k:Int) < 0 then ((k:Int) + (n:Int)).toNat else min (k:Int).toNat n)=min k n
 rw [if_neg (by (first | lia | omega)),Int.toNat_natCast]
theorem yA (n d:Nat) (hd:d <= n) (o:Option Int):sIx n d o <= n:=by
 cases o with
 | none=>exact hd
 | some v =>
  show (if v < 0 then (v + (n:Int)).toNat else min v.toNat n) <= n
  by_cases hv:v < 0
  ·rw [if_pos hv];(first | lia | omega)
  ·rw [if_neg hv];exact Nat.min_le_right _ _
theorem zk (v:Int) (n d:Nat):(if v < 0 then max (v + (n:Int)) 0 else min v (n:Int))=((sIx n d (some v):Nat):Int):=by
 show (if v < 0 then max (v + (n:Int)) 0 else min v (n:Int))=(((if v < 0 then (v + (n:Int)).toNat else min v.toNat n):Nat):Int)
 by_cases hv:v < 0
 ·simp only [if_pos hv];(first | lia | omega)
 ·simp only [if_neg hv];(first | lia | omega)
theorem xC (lo hi:Option Int) (n:Nat):Builtin.Slice.sliceAdjust lo hi 1 (n:Int)=(((sIx n 0 lo:Nat):Int),((sIx n n hi:Nat):Int)):=by
 have h1:¬ ((1:Int) < 0):=by (first | lia | omega)
 unfold Builtin.Slice.sliceAdjust
 simp only [h1,if_false]
 refine Prod.ext ?_ ?_
 ·cases lo with
  | none=>rfl
  | some v=>exact zk v n 0
 ·cases hi with
  | none=>rfl
  | some v=>exact zk v n n
theorem yq (i j:Nat):Builtin.Slice.slicePlaces (i:Int) (j:Int) 1=j - i:=by
 unfold Builtin.Slice.slicePlaces
 have h1:(1:Int) > 0:=by (first | lia | omega)
 simp only [h1,if_true,Int.ediv_one]
 split <;> (first | lia | omega)
theorem qL {v:Value} {o:Option Int} {Q:Option Int->Shared->Prop} (p:IsPart v o) (h:Q o s):wpAny (model prog w) A (Builtin.Slice.slicePartIndex v) Q E s:=by
 cases p with
 | none=>exact slicePart_none h
 | int i t=>exact slicePart_int h
theorem n6 {sl:Addr} {vl vu:Value} {lo hi:Option Int} {n:Nat} {Q:Int × Int × Nat->Shared->Prop} (hs:s.heap.IsSliceOf sl vl vu .none) (pl:IsPart vl lo) (pu:IsPart vu hi)
  (h:Q (((sIx n 0 lo:Nat):Int),1,sIx n n hi - sIx n 0 lo) s):wpAny (model prog w) A (Builtin.Slice.sliceApplied (.ref sl) (pure (n:Int))) Q E s:=by
 obtain ⟨os,hos,hcs,hds⟩:=id hs
 unfold Builtin.Slice.sliceApplied Builtin.Slice.sliceFields
 refine wpAny_bind (wpAny_bind (wpAny_field hos hds (x:=vl) rfl (wpAny_bind (wpAny_field hos hds (x:=vu) rfl (wpAny_bind (wpAny_field hos hds (x:=.none) rfl (wpAny_pure ?_)))))))
 refine wpAny_bind (slicePart_none ?_)
 show wpAny _ _ (if ((1:Int) == 0)=true then _ else _) _ _ s
 rw [if_neg (by decide)]
 refine wpAny_bind (qL pl (wpAny_bind (qL pu (wpAny_bind (wpAny_pure ?_)))))
 show wpAny _ _ (match Builtin.Slice.sliceAdjust lo hi 1 (n:Int) with | (lo,hi)=>pure (lo,(1:Int),Builtin.Slice.slicePlaces lo hi 1)) _ _ s
 rw [xC lo hi n]
 show wpAny _ _ (pure (((sIx n 0 lo:Nat):Int),(1:Int),Builtin.Slice.slicePlaces ((sIx n 0 lo:Nat):Int) ((sIx n n hi:Nat):Int) 1)) _ _ s
 rw [yq]
 exact wpAny_pure h
theorem C0 (xs:Array Value) (i k:Nat):((List.range k).filterMap λ (m:Nat)=>xs[((i:Int) + (m:Int) * 1).toNat]?).toArray=((xs.toList.drop i).take k).toArray:=by
 have e:(λ (m:Nat)=>xs[((i:Int) + (m:Int) * 1).toNat]?)=λ m=>xs[i + m]?:=by
  funext m
  have:((i:Int) + (m:Int) * 1).toNat=i + m:=by (first | lia | omega)
  rw [this]
 rw [e]
 have:=pick_run xs i k
 rw [List.filterMap_map] at this
 have e2:((λ x=>xs[x]?) ∘ λ x=>i + x)=λ m=>xs[i + m]?:=rfl
 rw [e2] at this
 rw [this]
theorem getItem_tuple_cut {t sl:Addr} {items:Array Value} {vl vu:Value} {lo hi:Option Int} {Q:Value->Shared->Prop} (ht:IsTup s.heap t items) (hs:s.heap.IsSliceOf sl vl vu .none) (pl:IsPart vl lo) (pu:IsPart vu hi)
  (hw:¬ (sIx items.size 0 lo=0/\sIx items.size items.size hi=items.size))
  (h:Q (.ref s.heap.objs.size) { s with heap:=s.heap.push { cls:=.type "tuple",data:=.seq ((items.toList.drop (sIx items.size 0 lo)).take (sIx items.size items.size hi - sIx items.size 0 lo)).toArray } })
  (hsz:items.size <= sizeLine):wpAny (model prog w) A (getItem (.ref t) (.ref sl)) Q E s:=by
 have htake:sizeOk (.seq ((items.toList.drop (sIx items.size 0 lo)).take (sIx items.size items.size hi - sIx items.size 0 lo)).toArray):=by
  show ((items.toList.drop (sIx items.size 0 lo)).take (sIx items.size items.size hi - sIx items.size 0 lo)).toArray.size <= sizeLine
  rw [List.size_toArray,List.length_take,List.length_drop,Array.length_toList]
  omega
 have hj:sIx items.size items.size hi <= items.size:=yA _ _ (Nat.le_refl _) hi
 obtain ⟨os,hos,hcs,hds⟩:=id hs
 have hTs:s.TypeIs (.ref sl) "slice":=⟨os,hos,hcs⟩
 unfold getItem
 try with_reducible refine wpAny_holding ?_
 first | refine wpAny_bind (wpAny_pure ?_) | skip
 refine wpAny_bind (wpAny_sequenceKey ht.typeIs (by decide) ?_)
 refine wpAny_bind (wpAny_callSpecial?_slot (name:=Str.ofString "__getitem__") ht.typeIs PyProof.Rows.slot_tuple_getitem
  (wpAny_call_entry PyProof.Rows.slot_tuple_getitem ht.typeIs entry_tuple_getitem ?_ (args_tuple_getitem _ _)))
 show wpAny _ _ (Builtin.Tuple.tupleItemsOf (.ref t) >>= _) _ _ s
 refine wpAny_bind (tupleItemsOf_ ht ?_)
 refine wpAny_bind (wpAny_typeOf hTs ?_)
 rw [if_pos (by decide)]
 refine wpAny_bind (n6 hs pl pu ?_)
 have hno:¬ ((((sIx items.size 0 lo:Nat):Int) == 0 && (1:Int) == 1 && (sIx items.size items.size hi - sIx items.size 0 lo) == items.size)=true):=by
  intro q
  rw [Bool.and_eq_true,Bool.and_eq_true] at q
  have q1:((sIx items.size 0 lo:Nat):Int)=0:=eq_of_beq q.1.1
  have q2:sIx items.size items.size hi - sIx items.size 0 lo=items.size:=eq_of_beq q.2
  exact hw ⟨by omega,by omega⟩
 show wpAny _ _ (if (((sIx items.size 0 lo:Nat):Int) == 0 && (1:Int) == 1 && (sIx items.size items.size hi - sIx items.size 0 lo) == items.size)=true then _ else _) _ _ s
 rw [if_neg hno,C0]
 first
  | exact wpAny_bind (m:=Builtin.Tuple.tupleExact _) (wpAny_newObj_type (wpAny_pure ⟨_,rfl,wpAny_pure h⟩) htake)
  | exact wpAny_bind (m:=Builtin.Tuple.tupleExact _) (wpAny_newObj_type (wpAny_bind (wpAny_pure (wpAny_pure ⟨_,rfl,wpAny_pure h⟩))) htake)
  | exact wpAny_bind (wpAny_bind (m:=Builtin.Tuple.tupleExact _) (wpAny_newObj_type (wpAny_pure (wpAny_pure ⟨_,rfl,wpAny_pure h⟩)) htake))
  | exact wpAny_bind (wpAny_bind (m:=Builtin.Tuple.tupleExact _) (wpAny_newObj_type (wpAny_pure ⟨_,rfl,wpAny_pure h⟩) htake))
end
end HT
namespace L2
open PySem PySem.Spec PyProof.Rows
noncomputable abbrev TO:=St->Hp->(Option Int->Hp->Prop)->Prop
noncomputable def PO (X:Cx) (e:Option Expr) (t:TO):Prop:=
 ∀ (pins:List (Addr × Obj)) (s:Shared) (σ:St) (H:Hp) (Q:Option Int->Hp->Prop),Inv X pins σ H s->t σ H Q →
  wpAny (model X.prog X.w) X.A (evalPart e X.env) (λ u s'=>∃ o H',Inv X pins σ H' s'/\IsPart u o/\Q o H') X.xe s
noncomputable def FG:TO:=λ _ H Q=>Q none H
noncomputable def Kz (t:TE):TO:=λ σ H Q=>t σ H λ x H1=>∃ i,x=.int i/\Q (some i) H1
section
variable {X:Cx} {e:Expr} {te:TE} {lo hi:Option Expr} {tl th:TO} {pos p2:Pos}
theorem EZ:PO X none FG:=by
 intro pins s σ H Q I h
 rw [evalPart_none]
 exact wpAny_pure ⟨none,H,I,.none,h⟩
theorem E0 (h:PE X e te):PO X (some e) (Kz te):=by
 intro pins s σ H Q I hw
 rw [evalPart_some]
 refine b7 (h pins s σ H _ I hw) λ u s1 ⟨x,H1,I1,r1,q1⟩=>?_
 obtain ⟨i,rfl,q⟩:=q1
 obtain ⟨t,rfl⟩:=r1
 exact ⟨some i,H1,I1,.int i t,q⟩
noncomputable def DN (X:Cx) (r:V->Option Int->Option Int->Hp->VK->Prop):Prop:=
 ∀ (pins:List (Addr × Obj)) (s:Shared) (σ:St) (H:Hp) (x:V) (v vl vu:Value) (lo hi:Option Int) (sl:Addr) (Q:VK),Inv X pins σ H s->bg x v->s.heap.IsSliceOf sl vl vu .none->IsPart vl lo->IsPart vu hi->r x lo hi H Q →
  ∃ T id,typeLookup (.type T) "__getitem__" = pure (some (.builtin id))/\s.TypeIs v T/\wpAny (model X.prog X.w) X.A (getItem v (.ref sl)) (EP X pins σ Q) X.xe s
theorem DN.or {r r':V->Option Int->Option Int->Hp->VK->Prop} (h:DN X r) (h':DN X r'):DN X (λ x lo hi H Q=>r x lo hi H Q \/ r' x lo hi H Q):=by
 intro pins s σ H x v vl vu lo hi sl Q I rx hs pl pu q
 rcases q with q | q
 ·exact h pins s σ H x v vl vu lo hi sl Q I rx hs pl pu q
 ·exact h' pins s σ H x v vl vu lo hi sl Q I rx hs pl pu q
noncomputable def MR (r:V->Option Int->Option Int->Hp->VK->Prop) (te:TE) (tl th:TO):TE:=λ σ H Q=>te σ H λ x H1=>tl σ H1 λ l H2=>th σ H2 λ u H3=>r x l u H3 Q
theorem CP {r:V->Option Int->Option Int->Hp->VK->Prop} (hr:DN X r) (he:PE X e te) (hl:PO X lo tl) (hu:PO X hi th):PE X (.Subscript e (.Slice lo hi none p2) pos) (MR r te tl th):=by
 intro pins s σ H Q I h
 refine Subscript_ (b7 (he pins s σ H _ I h) λ v s1 ⟨x,H1,I1,r1,q1⟩=>?_)
 refine wpAny_Slice (b7 (hl pins s1 σ H1 _ I1 q1) λ vl s2 ⟨l,H2,I2,pl,q2⟩=>b7 (hu pins s2 σ H2 _ I2 q2) λ vu s3 ⟨u,H3,I3,pu,q3⟩=>?_)
 rw [evalPart_none]
 refine wpAny_pure ?_
 have I4:Inv X pins σ H3 { s3 with heap:=s3.heap.push { cls:=.type "slice",data:=.fields #[vl,vu,.none] } }:=I3.kept (t':=s3.toks) λ b ob q=>Heap.get?_push_of_some _ q
 obtain ⟨T,id,hT,ht,hg⟩:=hr pins { s3 with heap:=s3.heap.push { cls:=.type "slice",data:=.fields #[vl,vu,.none] } } σ H3 x v vl vu l u s3.heap.objs.size Q I4 r1 (Heap.IsSliceOf.new ..) pl pu q3
 show wpAny (model X.prog X.w) X.A (subscriptTail e (.Slice lo hi none p2) v (.ref s3.heap.objs.size)) (EP X pins σ Q) X.xe { s3 with heap:=s3.heap.push { cls:=.type "slice",data:=.fields #[vl,vu,.none] } }
 exact tail_any (ops:=[.ref s3.heap.objs.size,v]) ht hT hg (by with_unfolding_all rfl)
noncomputable def re (xs:List V) (lo hi:Option Int):List V:=(xs.drop (HT.sIx xs.length 0 lo)).take (HT.sIx xs.length xs.length hi - HT.sIx xs.length 0 lo)
theorem oG (xs:List V) (lo hi:Option Int):(re xs lo hi).length <= xs.length:=by
 unfold re
 rw [List.length_take,List.length_drop]
 (first | lia | omega)
noncomputable def L8 (K:PySem.W.Frag):V->Option Int->Option Int->Hp->VK->Prop:=λ x lo hi H Q=>∃ a xs,x=.ref a/\nJ K H a xs ∧
 ¬ (HT.sIx xs.length 0 lo=0/\HT.sIx xs.length xs.length hi=xs.length)/\∀ p,H p=none->Q (.ref p) (upd H p (.tup (re xs lo hi)))
theorem IN:DN X (L8 X.K):=by
 intro pins s σ H x v vl vu lo hi sl Q I rx hs pl pu h
 obtain ⟨a,xs,rfl,hx,hw,q⟩:=h
 cases rx
 obtain ⟨its,r,ht,hz⟩:=I.tuple hx
 have hlen:its.toArray.size=xs.length:=by rw [List.size_toArray];exact r.length.symm
 refine ⟨"tuple",_,PyProof.Rows.slot_tuple_getitem.lookup,ht.typeIs,?_⟩
 refine HT.getItem_tuple_cut ht hs pl pu (by rw [hlen];exact hw) ?_ (by rw [hlen];exact hz)
 rw [hlen]
 refine ⟨.ref s.heap.objs.size,_,I.laid (t':=s.toks) (o:=.tup (re xs lo hi)) (λ b ob q=>Heap.get?_push_of_some _ q) (Nat.le_refl _) ?_,rfl,q _ (I.hok.fresh (Nat.le_refl _))⟩
 exact ⟨Nat.le_trans (oG xs lo hi) hz,_,(r.drop (HT.sIx xs.length 0 lo)).take (HT.sIx xs.length xs.length hi - HT.sIx xs.length 0 lo),IsTup.new _ _⟩
end
end L2
namespace L2
open PySem PySem.Spec PyProof.Rows
noncomputable def DQ (n:Nat) (i:Int):Option Nat:=if 0 <= i then (if i < n then some i.toNat else none) else if -(n:Int) <= i then some (i + n).toNat else none
noncomputable def oD {α:Type} (xs:List α) (i:Int):Option α:=(DQ xs.length i).bind λ j=>xs[j]?
theorem El {n:Nat} {i:Int} {j:Nat} (h:DQ n i=some j):seqIndex? i n=some j/\j < n/\-(n:Int) <= i/\i < n:=by
 unfold DQ at h
 by_cases h0:0 <= i
 ·rw [if_pos h0] at h
  by_cases h1:i < n
  ·rw [if_pos h1] at h
   have e:i.toNat=j:=Option.some.inj h
   exact ⟨by rw [seqIndex_of h0 h1,e],by (first | lia | omega),by (first | lia | omega),h1⟩
  ·rw [if_neg h1] at h;cases h
 ·rw [if_neg h0] at h
  by_cases h1:-(n:Int) <= i
  ·rw [if_pos h1] at h
   have e:(i + n).toNat=j:=Option.some.inj h
   exact ⟨by rw [seqIndex_neg (by (first | lia | omega)) h1,e],by (first | lia | omega),h1,by (first | lia | omega)⟩
  ·rw [if_neg h1] at h;cases h
theorem tD {α:Type} {xs:List α} {i:Int} {v:α} (h:oD xs i=some v):∃ j,seqIndex? i xs.length=some j/\xs[j]?=some v/\j < xs.length/\-(xs.length:Int) <= i/\i < xs.length:=by
 unfold oD at h
 cases e:DQ xs.length i with
 | none=>rw [e] at h;cases h
 | some j =>
  rw [e] at h
  obtain ⟨h1,h2,h3,h4⟩:=El e
  exact ⟨j,h1,h,h2,h3,h4⟩
theorem D4 {α:Type} {xs:List α} {j:Nat} {v:α} (h:xs[j]?=some v):oD xs (j:Int)=some v:=by
 have hj:j < xs.length:=(List.getElem?_eq_some_iff.mp h).1
 have e:DQ xs.length (j:Int)=some j:=by
  unfold DQ
  rw [if_pos (by (first | lia | omega)),if_pos (by (first | lia | omega))];simp
 unfold oD;rw [e];exact h
theorem vD {α:Type} (xs:List α) (v:α):oD (xs++[v]) (-1)=some v:=by
 have hl:(xs++[v]).length=xs.length + 1:=by simp
 have e:DQ (xs++[v]).length (-1)=some xs.length:=by
  unfold DQ
  rw [hl,if_neg (by decide),if_pos (by (first | lia | omega))]
  congr 1
  (first | lia | omega)
 unfold oD
 rw [e]
 show (xs++[v])[xs.length]?=some v
 simp
noncomputable def sZ (b:Expr):Prop:=∀ o i,subscripted b false o i=operate [o,i] (getItem o i)
noncomputable def DW (X:Cx) (r:R2):Prop:=
 ∀ (value slice:Expr) (pins:List (Addr × Obj)) (s:Shared) (σ:St) (H:Hp) (x y:V) (v u:Value) (Q:VK),Inv X pins σ H s->bg x v->bg y u->r x y H Q →
  subscripted slice false v u=operate [v,u] (getItem v u)->wpAny (model X.prog X.w) X.A (subscriptTail value slice v u) (EP X pins σ Q) X.xe s
noncomputable def KU (X:Cx) (id:String) (r:V->List V->Hp->VK->Prop):Prop:=
 ∀ (pins:List (Addr × Obj)) (s:Shared) (σ:St) (H:Hp) (x:V) (xs:List V) (v:Value) (us:List Value) (Q:VK),Inv X pins σ H s->bg x v->bE xs us->r x xs H Q →
  wpAny (model X.prog X.w) X.A (call (.builtin id) (v :: us)) (EP X pins σ Q) X.xe s
section
variable {X:Cx} {a b:Expr} {ta tb:TE} {pos:Pos}
theorem DW.or {r r':R2} (h:DW X r) (h':DW X r'):DW X (λ x y H Q=>r x y H Q \/ r' x y H Q):=by
 intro value slice pins s σ H x y v u Q I rx ry q hs
 rcases q with q | q
 ·exact h value slice pins s σ H x y v u Q I rx ry q hs
 ·exact h' value slice pins s σ H x y v u Q I rx ry q hs
theorem Gq {r:R2} (hr:DW X r) (ha:PE X a ta) (hb:PE X b tb) (hs:sZ b):PE X (.Subscript a b pos) (Ky r ta tb):=by
 intro pins s σ H Q I h
 exact Subscript_ (GK ha hb I h λ v u s2 x y H2 I2 rx ry q=>hr a b pins s2 σ H2 x y v u Q I2 rx ry q (hs _ _))
noncomputable def IH (K:PySem.W.Frag):R2:=λ x y H Q=>∃ p xs i v,x=.ref p/\y=.int i/\cR K H p xs/\oD xs i=some v/\Q v H
noncomputable def Kl (K:PySem.W.Frag):R2:=λ x y H Q=>∃ p xs i v,x=.ref p/\y=.int i/\nJ K H p xs/\oD xs i=some v/\Q v H
noncomputable def Kk:R2:=λ x y H Q=>∃ z i c,x=.str z/\y=.int i/\z.length <= sizeLine/\oD z.cps.toList i=some c/\Q (.str ⟨#[c]⟩) H
theorem zA:DW X (IH X.K):=by
 intro value slice pins s σ H x y v u Q I rx ry h hs
 obtain ⟨p,xs,i,z,rfl,rfl,hq,he,q⟩:=h
 cases rx
 obtain ⟨t,rfl⟩:=ry
 obtain ⟨its,r,pl,hz⟩:=I.list hq
 obtain ⟨j,h1,h2,h3,h4,h5⟩:=tD he
 obtain ⟨w,ew,rw'⟩:=r.get h2
 have hl:=r.length
 have hn:=nP
 have fin:EP X pins σ Q w s:=⟨z,H,I,rw',q⟩
 by_cases h0:0 <= i
 ·have hj:i.toNat=j:=by
   rw [seqIndex_of h0 h5] at h1
   exact Option.some.inj h1
  exact item_listR pl.isList h0 (by (first | lia | omega)) (by rw [hj];simpa using ew) fin hs
 ·have hj:(i + (its.toArray.size:Int)).toNat=j:=by
   rw [seqIndex_neg (by (first | lia | omega)) h4] at h1
   rw [List.size_toArray,<- hl]
   exact Option.some.inj h1
  exact subscriptTail_builtinR (x:=w) pl.isList.typeIs slot_list_getitem.lookup
   (wpAny_getItem_list_neg (Q:=λ r s'=>r=w/\EP X pins σ Q r s') pl.isList (by (first | lia | omega)) (by rw [List.size_toArray] <;> (first | lia | omega)) (by (first | lia | omega)) (by rw [hj];simpa using ew) ⟨rfl,fin⟩) hs
theorem Hg:DW X (Kl X.K):=by
 intro value slice pins s σ H x y v u Q I rx ry h hs
 obtain ⟨p,xs,i,z,rfl,rfl,hq,he,q⟩:=h
 cases rx
 obtain ⟨t,rfl⟩:=ry
 obtain ⟨its,r,pl,hz⟩:=I.tuple hq
 obtain ⟨j,h1,h2,h3,h4,h5⟩:=tD he
 obtain ⟨w,ew,rw'⟩:=r.get h2
 have hl:=r.length
 have hn:=nP
 have fin:EP X pins σ Q w s:=⟨z,H,I,rw',q⟩
 exact subscriptTail_builtinR (x:=w) pl.typeIs slot_tuple_getitem.lookup
  (getItem_tuple (j:=j) (Q:=λ r s'=>r=w/\EP X pins σ Q r s') pl (by (first | lia | omega)) (by (first | lia | omega)) (by rw [List.size_toArray,<- hl];exact h1) (by simpa using ew) ⟨rfl,fin⟩) hs
theorem Hf:DW X Kk:=by
 intro value slice pins s σ H x y v u Q I rx ry h hs
 obtain ⟨z,i,c,rfl,rfl,hz,he,q⟩:=h
 obtain ⟨t,rfl⟩:=rx
 obtain ⟨t',rfl⟩:=ry
 obtain ⟨j,h1,h2,h3,h4,h5⟩:=tD he
 have hl:z.cps.toList.length=z.length:=by simp [Str.length]
 rw [hl] at h1 h4 h5
 have hn:=nP
 exact tail_any (typeIs_str s z t) slot_str_getitem.lookup (getItem_str (c:=c) (by
  have e1:decide (i < -(2 ^ 63:Int))=false:=decide_eq_false (by (first | lia | omega))
  have e2:decide (i ≥ 2 ^ 63)=false:=decide_eq_false (by (first | lia | omega))
  rw [e1,e2,Bool.or_false]) (by rw [h1];simpa using h2) ⟨.str ⟨#[c]⟩,H,I.tok _,⟨_,rfl⟩,q⟩) hs
noncomputable def My (K:PySem.W.Frag):R2:=λ x y H Q=>IH K x y H Q \/ Kl K x y H Q \/ Kk x y H Q
theorem He:DW X (My X.K):=zA.or (Hg.or Hf)
theorem uS (lo hi:Option Int) (n:Nat):(sliceBounds lo hi none n).1=((HT.sIx n 0 lo:Nat):Int)/\(sliceBounds lo hi none n).2.1=((HT.sIx n n hi:Nat):Int)/\(sliceBounds lo hi none n).2.2=1:=by
 refine ⟨?_,?_,rfl⟩
 ·cases lo with
  | none=>simp [sliceBounds,HT.sIx]
  | some i =>
   simp only [sliceBounds,HT.sIx,Option.getD_none,show (1:Int) > 0 by decide,if_true]
   by_cases h:i < 0
   ·simp only [h,if_true] <;> (first | lia | omega)
   ·simp only [h,if_false] <;> (first | lia | omega)
 ·cases hi with
  | none=>simp [sliceBounds,HT.sIx]
  | some i =>
   simp only [sliceBounds,HT.sIx,Option.getD_none,show (1:Int) > 0 by decide,if_true]
   by_cases h:i < 0
   ·simp only [h,if_true] <;> (first | lia | omega)
   ·simp only [h,if_false] <;> (first | lia | omega)
theorem rF (its:List Value) (lo hi:Option Int):slicePick its.toArray lo hi none=((its.drop (HT.sIx its.length 0 lo)).take (HT.sIx its.length its.length hi - HT.sIx its.length 0 lo)).toArray:=by
 obtain ⟨h1,h2,h3⟩:=uS lo hi its.toArray.size
 unfold slicePick
 rw [h1,h2,h3]
 simp only [sliceRange_one,pick_run,List.size_toArray] <;> rfl
noncomputable def Kn (K:PySem.W.Frag):V->Option Int->Option Int->Hp->VK->Prop:=λ x lo hi H Q=>∃ a xs,x=.ref a/\cR K H a xs/\∀ p,H p=none->Q (.ref p) (upd H p (.lst (re xs lo hi)))
theorem FB:DN X (Kn X.K):=by
 intro pins s σ H x v vl vu lo hi sl Q I rx hs pl pu h
 obtain ⟨a,xs,rfl,hx,q⟩:=h
 cases rx
 obtain ⟨its,r,ht,hz⟩:=I.list hx
 have hlen:=r.length
 refine ⟨"list",_,slot_list_getitem.lookup,ht.isList.typeIs,?_⟩
 refine wpAny_getItem_list_slice ht.isList hs pl pu .none (by simp) ?_ (by rw [List.size_toArray] <;> (first | lia | omega))
 rw [rF,<- hlen]
 refine ⟨.ref s.heap.objs.size,_,I.laid (t':=s.toks) (o:=.lst (re xs lo hi)) (λ b ob q=>Heap.get?_push_of_some _ q) (Nat.le_refl _) ?_,rfl,q _ (I.hok.fresh (Nat.le_refl _))⟩
 exact ⟨Nat.le_trans (oG xs lo hi) hz,_,0,(r.drop (HT.sIx xs.length 0 lo)).take (HT.sIx xs.length xs.length hi - HT.sIx xs.length 0 lo),Heap.get?_push_size _ rfl⟩
noncomputable def dJ:V->Bool
 | .non=>true
 | .bl _=>true
 | .int _=>true
 | .str _=>true
 | _=>false
noncomputable def AC:V->V->Bool
 | .non,.non=>true
 | .bl a,.bl b=>a == b
 | .bl a,.int b=>(if a then 1 else 0) == b
 | .int a,.bl b=>a == (if b then 1 else 0)
 | .int a,.int b=>a == b
 | .str a,.str b=>a == b
 | _,_=>false
theorem GT {A:Around} {s:Shared} {y x:V} {u v:Value} (ry:bg y u) (rx:bg x v) (fy:dJ y=true) (fx:dJ x=true):SeqAt.EqAt A s u v (AC y x):=by
 cases y with
 | non =>
  cases ry
  cases x with
  | non=>cases rx;exact SeqAt.EqAt.same _
  | bl b=>cases rx;exact SeqAt.EqAt.none_bool b
  | int b=>obtain ⟨t,rfl⟩:=rx;exact SeqAt.EqAt.none_int b t
  | str b=>obtain ⟨t,rfl⟩:=rx;exact SeqAt.EqAt.none_str b t
  | _=>exact absurd (show false=true from fx) Bool.false_ne_true
 | bl a =>
  cases ry
  cases x with
  | non=>cases rx;exact SeqAt.EqAt.bool_none a
  | bl b=>cases rx;exact SeqAt.EqAt.bool_bool a b
  | int b=>obtain ⟨t,rfl⟩:=rx;exact SeqAt.EqAt.bool_int a b t
  | str b=>obtain ⟨t,rfl⟩:=rx;exact SeqAt.EqAt.bool_str a b t
  | _=>exact absurd (show false=true from fx) Bool.false_ne_true
 | int a =>
  obtain ⟨t',rfl⟩:=ry
  cases x with
  | non=>cases rx;exact SeqAt.EqAt.int_none a t'
  | bl b=>cases rx;exact SeqAt.EqAt.int_bool a t' b
  | int b=>obtain ⟨t,rfl⟩:=rx;exact SeqAt.EqAt.int_int a t' b t
  | str b=>obtain ⟨t,rfl⟩:=rx;exact SeqAt.EqAt.int_str a t' b t
  | _=>exact absurd (show false=true from fx) Bool.false_ne_true
 | str a =>
  obtain ⟨t',rfl⟩:=ry
  cases x with
  | non=>cases rx;exact SeqAt.EqAt.str_none a t'
  | bl b=>cases rx;exact SeqAt.EqAt.str_bool a t' b
  | int b=>obtain ⟨t,rfl⟩:=rx;exact SeqAt.EqAt.str_int a t' b t
  | str b=>obtain ⟨t,rfl⟩:=rx;exact SeqAt.EqAt.str_str a t' b t
  | _=>exact absurd (show false=true from fx) Bool.false_ne_true
 | _=>exact absurd (show false=true from fy) Bool.false_ne_true
noncomputable def v6 (x:V) (u:Value):Bool:=match u with
 | .none=>AC .non x
 | .bool b=>AC (.bl b) x
 | .int i _=>AC (.int i) x
 | .str z _=>AC (.str z) x
 | _=>false
theorem xR {x y:V} {u:Value} (r:bg y u) (f:dJ y=true):v6 x u=AC y x:=by
 cases y with
 | non=>cases r;rfl
 | bl b=>cases r;rfl
 | int i=>obtain ⟨t,rfl⟩:=r;rfl
 | str z=>obtain ⟨t,rfl⟩:=r;rfl
 | _=>exact absurd (show false=true from f) Bool.false_ne_true
theorem mU {x:V}:∀ {xs:List V} {us:List Value},bE xs us->xs.all dJ=true->us.any (v6 x)=xs.any λ y=>AC y x
 | _,_,.nil,_=>rfl
 | y :: xs,u :: us,.cons r t,f=>by
  rw [List.all_cons,Bool.and_eq_true] at f
  rw [List.any_cons,List.any_cons,xR r f.1,mU t f.2]
theorem gY {A:Around} {s:Shared} {x:V} {v:Value} (rx:bg x v) (fx:dJ x=true):∀ {xs:List V} {us:List Value},bE xs us->xs.all dJ=true->∀ u∈us,SeqAt.EqAt A s u v (v6 x u)
 | _,_,.nil,_=>λ u hu=>by cases hu
 | y :: xs,u :: us,.cons r t,f=>λ u' hu=>by
  rw [List.all_cons,Bool.and_eq_true] at f
  rcases List.mem_cons.mp hu with rfl | hu
  ·rw [xR r f.1];exact GT r rx f.1 fx
  ·exact gY rx fx t f.2 u' hu
noncomputable def Jf (x:V) (xs:List V):Bool:=xs.any λ y=>AC y x
noncomputable def L6 (K:PySem.W.Frag) (neg:Bool):R2:=λ x y H Q=>∃ p xs,y=.ref p/\(cR K H p xs \/ nJ K H p xs)/\dJ x=true/\xs.all dJ=true/\Q (.bl (if neg then !Jf x xs else Jf x xs)) H
theorem AV:lC X (compareOp .In) (L6 X.K false):=by
 intro pins s σ H x y v u Q I rx ry h
 obtain ⟨p,xs,rfl,hq,fx,fs,q⟩:=h
 cases ry
 rcases hq with hq | hq
 ·obtain ⟨its,r,pl,hz⟩:=I.list hq
  refine SeqAt.in_listAt (v6 x) pl.isList (λ w hw=>gY rx fx r fs w (by simpa using hw)) ⟨.bl _,H,I,rfl,?_⟩
  rw [show its.toArray.any (v6 x)=its.any (v6 x) by simp,mU r fs]
  exact q
 ·obtain ⟨its,r,pl,hz⟩:=I.tuple hq
  refine SeqAt.in_tupleAt (v6 x) pl (λ w hw=>gY rx fx r fs w (by simpa using hw)) ⟨.bl _,H,I,rfl,?_⟩
  rw [show its.toArray.any (v6 x)=its.any (v6 x) by simp,mU r fs]
  exact q
theorem uz:lC X (compareOp .NotIn) (L6 X.K true):=by
 intro pins s σ H x y v u Q I rx ry h
 obtain ⟨p,xs,rfl,hq,fx,fs,q⟩:=h
 cases ry
 rcases hq with hq | hq
 ·obtain ⟨its,r,pl,hz⟩:=I.list hq
  refine SeqAt.notIn_listAt (v6 x) pl.isList (λ w hw=>gY rx fx r fs w (by simpa using hw)) ⟨.bl _,H,I,rfl,?_⟩
  rw [show its.toArray.any (v6 x)=its.any (v6 x) by simp,mU r fs]
  exact q
 ·obtain ⟨its,r,pl,hz⟩:=I.tuple hq
  refine SeqAt.notIn_tupleAt (v6 x) pl (λ w hw=>gY rx fx r fs w (by simpa using hw)) ⟨.bl _,H,I,rfl,?_⟩
  rw [show its.toArray.any (v6 x)=its.any (v6 x) by simp,mU r fs]
  exact q
theorem uA:lC X (compareOp .NotIn) (λ x y H Q=>∃ i j,x=.str i/\y=.str j/\Q (.bl (!(!(Builtin.Str.occurrences j i 0 j.length 1).isEmpty))) H):=by
 intro pins s σ H x y v u Q I rx ry h
 obtain ⟨i,j,rfl,rfl,q⟩:=h
 obtain ⟨t,rfl⟩:=rx
 obtain ⟨t',rfl⟩:=ry
 exact notIn_str ⟨.bl _,H,I,rfl,q⟩
theorem tG:ke X (.builtin "len") (λ xs H Q=>∃ p ys,xs=[.ref p]/\(cR X.K H p ys \/ nJ X.K H p ys)/\Q (.int ys.length) H):=by
 intro pins s σ H xs us Q I r h
 obtain ⟨p,ys,rfl,hq,q⟩:=h
 obtain ⟨u,rfl,rx⟩:=xr r
 cases rx
 have hn:=nP
 rcases hq with hq | hq
 ·obtain ⟨its,r',pl,hz⟩:=I.list hq
  have hlen:=r'.length
  exact Calls.call_len_list pl.isList (by simp only [List.size_toArray] <;> (first | lia | omega)) ⟨.int ys.length,H,I.tok _,⟨s.toks + 1,by rw [List.size_toArray,hlen]⟩,q⟩
 ·obtain ⟨its,r',pl,hz⟩:=I.tuple hq
  have hlen:=r'.length
  exact len_tuple pl (by simp only [List.size_toArray] <;> (first | lia | omega)) ⟨.int ys.length,H,I.tok _,⟨s.toks + 1,by rw [List.size_toArray,hlen]⟩,q⟩
theorem tH:ke X (.builtin "len") (λ xs H Q=>∃ z,xs=[.str z]/\z.length <= sizeLine/\Q (.int z.length) H):=by
 intro pins s σ H xs us Q I r h
 obtain ⟨z,rfl,hz,q⟩:=h
 obtain ⟨u,rfl,t,rfl⟩:=xr r
 have hn:=nP
 exact len_str (by (first | lia | omega)) ⟨.int z.length,H,I.tok _,⟨_,rfl⟩,q⟩
noncomputable def MD (K:PySem.W.Frag) (T:String) (x:V) (H:Hp):Prop:=match x with
 | .str _=>T = "str"
 | .int _=>T = "int"
 | .ref p=>(T = "list"/\∃ xs,cR K H p xs) \/ (T = "tuple"/\∃ o,K.lookup p=some o/\o.cls=.type "tuple"/\o.dict=none) ∨
   (T = "dict"/\((∃ kvs,H p=some (.dK kvs)) \/ ∃ kvs,H p=some (.dT kvs))) \/ (T = "set"/\∃ S n,H p=some (.set S n))
 | _=>False
theorem IR {pins:List (Addr × Obj)} {σ:St} {H:Hp} {s:Shared} {T:String} {x:V} {v:Value} (I:Inv X pins σ H s) (r:bg x v) (ty:MD X.K T x H) :
  s.TypeIs v T/\∀ a,v=.ref a->∃ ob,s.heap.get? a=some ob/\ob.dict=none:=by
 cases x with
 | str z =>
  obtain ⟨t,rfl⟩:=r
  cases (show T = "str" from ty)
  exact ⟨typeIs_str s z t,λ _ e=>nomatch e⟩
 | int i =>
  obtain ⟨t,rfl⟩:=r
  cases (show T = "int" from ty)
  exact ⟨typeIs_int s i t,λ _ e=>nomatch e⟩
 | ref p =>
  cases r
  rcases ty with ⟨rfl,xs,hq⟩ | ⟨rfl,o,hk,hc,hd⟩ | ⟨rfl,hk⟩ | ⟨rfl,S,n,hk⟩
  ·obtain ⟨its,_,pl,_⟩:=I.list hq
   refine ⟨pl.isList.typeIs,λ a e=>?_⟩
   cases e
   obtain ⟨o,n,e,c,hd,_⟩:=pl
   exact ⟨o,e,hd⟩
  ·refine ⟨⟨o,I.kIn p o hk,hc⟩,λ a e=>?_⟩
   cases e
   exact ⟨o,I.kIn _ o hk,hd⟩
  ·have z:∃ o,s.heap.get? p=some o/\o.ExactDict:=by
    rcases hk with ⟨kvs,hk⟩ | ⟨kvs,hk⟩
    ·obtain ⟨_,_,_,_,o,_,_,e,ex,_⟩:=I.hok p _ hk
     exact ⟨o,e,ex⟩
    ·obtain ⟨_,_,_,_,o,_,_,e,ex,_⟩:=I.hok p _ hk
     exact ⟨o,e,ex⟩
   obtain ⟨o,e,ex⟩:=z
   refine ⟨⟨o,e,ex.1⟩,λ a e2=>?_⟩
   cases e2
   exact ⟨o,e,ex.2.1⟩
  ·obtain ⟨o,_,_,_,e,ex,_⟩:=I.hok p _ hk
   refine ⟨⟨o,e,ex.1⟩,λ a e2=>?_⟩
   cases e2
   exact ⟨o,e,ex.2.1⟩
 | _=>exact False.elim ty
noncomputable def Mz (K:PySem.W.Frag) (T:String) (r:V->List V->Hp->VK->Prop) (to:TE) (t:TA):TE:=λ σ H Q=>to σ H λ x H1=>MD K T x H1/\t σ H1 λ xs H2=>r x xs H2 Q
variable {o e:Expr} {es:List Expr} {to:TE} {t:TA} {name:Str} {apos cpos:Pos} {T id:String} {r:V->List V->Hp->VK->Prop}
theorem sK (pa:PlainAttrs T) (slot:Slot T name id) (hty:typeOf (.builtin id)=pure (.type "method_descriptor")) (hm:KU X id r) (ho:PE X o to) (ha:PA X (e :: es) t)
  (hbase:attributeBase o name X.env (eval o X.env)=eval o X.env:=by rfl)
  (hfew:((backTo cpos (starEach (e :: es) X.env)).all (λ x=>!x.1) && (backToKw cpos (keywordEach [] X.env)).all (λ x=>x.1.isSome)
   && decide ((e :: es).length + ([]:List Keyword).length + (if ([]:List Keyword).isEmpty then 0 else 1) < 30))=true:=by rfl)
  (hline:(apos.endLine == cpos.line)=true:=by rfl) (hs:starEach (e :: es) X.env=(false,eval e X.env) :: starEach es X.env:=by rfl) (hplain:(backTo cpos (starEach es X.env)).any (·.1)=false:=by rfl) :
  PE X (.Call (.Attribute o name apos) (e :: es) [] cpos) (Mz X.K T r to t):=by
 intro pins s σ H Q I h
 refine wpAny_Call_method_late hbase hfew hline rfl (b7 (ho pins s σ H _ I h) λ v s1 ⟨x,H1,I1,r1,ty,q1⟩=>?_)
 obtain ⟨h1,h2⟩:=IR I1 r1 ty
 refine ⟨T,id,pa,slot,hty,h1,h2,?_⟩
 have hA:=ha cpos pins s1 σ H1 _ I1 q1
 rw [hs] at hA ⊢
 refine Calls.callWith_builtin (by show (false || (backTo cpos (starEach es X.env)).any (·.1))=false;rw [hplain] <;> rfl) (Calls.evalArgs_plain ?_)
 exact b7 hA λ us s2 ⟨vs,H2,I2,r2,q2⟩=>hm pins s2 σ H2 x vs v us Q I2 r1 r2 q2
end
end L2
namespace L2
open PySem PySem.Spec PyProof.Rows
noncomputable def ME (X:Cx) (id:String) (r:V->List V->Hp->VK->Prop):Prop:=
 ∀ (pins:List (Addr × Obj)) (s:Shared) (σ:St) (H:Hp) (x:V) (xs:List V) (v:Value) (us:List Value) (Q:VK),Inv X pins σ H s->bg x v->bE xs us->r x xs H Q →
  wpAny (model X.prog X.w) X.A (call (.builtin id) (v :: us)) (EP X pins σ Q) X.xe s
theorem bE.one:∀ {x:V} {us:List Value},bE [x] us->∃ u,us=[u]/\bg x u
 | _,_,.cons r .nil=>⟨_,rfl,r⟩
section
variable {X:Cx} {pins:List (Addr × Obj)} {σ:St} {H:Hp} {s:Shared} {l b:Addr} {xs ys zs:List V}
theorem Inv.lset {its its':List Value} {n:Nat} {f:Array Value->Array Value} {t':Nat} (I:Inv X pins σ H s) (hH:H l=some (.lst xs))
  (e:s.heap.get? l=some { cls:=.type "list",data:=.seq its.toArray n }) (hf:f its.toArray=its'.toArray) (hv:bE ys its') (hz:ys.length <= sizeLine) :
  Inv X pins σ (upd H l (.lst ys)) { s with heap:=s.heap.update l (Obj.mapSeq f),toks:=t' }:=by
 have q:=PySem.IsL.update e f
 rw [hf] at q
 refine I.write (x:=l) (e:=l) (by rw [hH];exact trivial) (.inl rfl) (λ b' u hb hu=>(Heap.get?_update_other s.heap (Obj.mapSeq f) (Ne.symm hb)).trans hu) ⟨_,q⟩ ?_
 exact ⟨hz,its',_,hv,q⟩
theorem Inv.lnew {its:List Value} {t':Nat} (I:Inv X pins σ H s) (hv:bE ys its) (hz:ys.length <= sizeLine) :
  Inv X pins σ (upd H s.heap.objs.size (.lst ys)) { s with heap:=s.heap.push { cls:=.type "list",data:=.seq its.toArray },toks:=t' }:=
 I.laid (λ _ _ q=>Heap.get?_push_of_some _ q) (Nat.le_refl _) ⟨hz,its,0,hv,Heap.get?_push_size _ rfl⟩
theorem Inv.fresh (I:Inv X pins σ H s):H s.heap.objs.size=none:=I.hok.fresh (Nat.le_refl _)
theorem Inv.lstM (I:Inv X pins σ H s) (hH:H l=some (.lst xs)):xs.length <= sizeLine/\∃ (its:List Value) (n:Nat),bE xs its/\xs.length=its.length/\s.heap.get? l=some { cls:=.type "list",data:=.seq its.toArray n }:=by
 obtain ⟨z,its,n,r,e⟩:=I.hok l _ hH
 exact ⟨z,its,n,r,r.length,e⟩
end
section
variable {X:Cx}
noncomputable def zY:V->List V->Hp->VK->Prop:=λ x vs H Q=>∃ l xs y,x=.ref l/\vs=[y]/\H l=some (.lst xs)/\xs.length < sizeLine/\Q .non (upd H l (.lst (xs++[y])))
theorem jX:ME X "list.append" zY:=by
 intro pins s σ H x vs v us Q I rx rv h
 obtain ⟨l,xs,y,rfl,rfl,hH,hz,q⟩:=h
 cases rx
 obtain ⟨u,rfl,ru⟩:=rv.one
 obtain ⟨z,its,n,r,hl,e⟩:=I.lstM hH
 refine call_meets F.slot_list_append ⟨_,e,rfl⟩ F.entry_list_append (F.args_list_append_2 _ _) (PySem.list_append l its.toArray n u (by rw [List.size_toArray];(first | lia | omega))) ⟨e,?_⟩
 refine ⟨.non,_,I.lset (its':=its++[u]) hH e (by simp) (r.append (.cons ru .nil)) ?_,rfl,q⟩
 rw [List.length_append,List.length_singleton]
 (first | lia | omega)
end
section
variable {prog:Program} {w:World} {A:Around} {E:Value->Shared->Prop} {s:Shared}
end
section
variable {X:Cx}
end
end L2
namespace Att
open PySem PySem.W PySem.Calls PyProof.Rows
theorem oV {P:Params} {h:Heap}:∀ (ns:List Int) (vs:List Value),WellAll P h vs (ns.map WData.int)->IntsAre vs ns:=by
 intro ns
 induction ns with
 | nil =>
  intro vs w
  rw [List.map_nil] at w
  cases w
  exact .nil
 | cons n ns ih =>
  intro vs w
  rw [List.map_cons] at w
  cases w with
  | cons a b =>
   cases a
   exact .cons _ _ (ih _ b)
theorem Bf {l:OpenLaw} {n:Nat} (hn:l.most=some n) {P:Params} {h:Heap} {args:List WData} {vals:List Value}
  (hpre:l.row.toRowW.claim.pre args=true) (hwl:WellAll P h vals args) :
  ∃ a vs ns,vals=[Value.ref a]/\args=[WData.list (ns.map WData.int)]/\h.get? a=some { cls:=.type "list",data:=.seq vs.toArray }/\IntsAre vs ns/\ns.length <= n:=by
 have hsh:WShape.hasAll [] args [.list .int]=true:=(pre_splitW hpre).1
 have hc:l.pre.holds [] { args:=args }=true:=(pre_splitW hpre).2
 obtain ⟨d,r,rfl,h1,h2⟩:=hasAllW_cons hsh
 obtain rfl:=hasAllW_nil h2
 obtain ⟨xs,rfl,h3⟩:=hasW_list h1
 obtain ⟨ns,rfl⟩:=items_int h3
 have hlen:ns.length <= n:=by
  unfold OpenLaw.pre at hc
  have h4:(WTm.not (.lt (.lit (.int (n:Int))) (.len (.arg 0)))).holds [] { args:=[.list (ns.map .int)] }=true:=by
   have h4:=(holds_andW hc).1
   rw [hn] at h4
   exact h4
  have h5:=condW_of h4 (w_not (w_lt w_lit (w_len_list (w_arg rfl))))
  rw [List.length_map] at h5
  refine Nat.le_of_not_lt λ q=>?_
  have q':(n:Int) < ((ns.length:Nat):Int):=by (first | lia | omega)
  first
   | (rw [decide_eq_true q'] at h5;exact absurd h5 (by decide))
   | (simp at h5;(first | lia | omega))
 cases hwl with
 | cons w1 w2 =>
  cases w2
  cases w1 with
  | list ho hall=>exact ⟨_,_,ns,rfl,rfl,ho,oV ns _ hall,hlen⟩
theorem A4 (l:OpenLaw) (args:List WData):l.row.toRowW.claim.post args (.bool true) args=true:=
 postW_of (r:=l.row.toRowW) (X:=(true == true))
  (show WShape.has [] (.bool true) .bool=true by first | rfl | decide | simp [WShape.has,WShape.arms,WShape.armsAll])
  (show (WTm.eq .res (.lit (.bool true))).value [] { args:=args,res:=some (.bool true),after:=args }=some (.bool (true == true)) from w_eq_bool (w_res rfl) w_lit) rfl
theorem attach_call {l:OpenLaw} {n:Nat} {q:Program} {loose:List Str} {XP:(Str->Option Value)->Heap->Prop} {YP:World->Heap->Prop} {d:DefRec}
  (hn:l.most=some n) (hdf:d.params.defaults=[])
  (call:∀ (w:World) (s₀ s₁:Shared) (mg mb:Str->Option Value) (fa:Addr) (o:Obj) (pm cd doc:Value) (a:Addr) (vs:List Value) (ns:List Int),
   Ground q loose [] XP w s₀ mg mb s₁.heap->YP w s₁.heap →
   s₁.heap.get? fa=some o->o.data=.func (docDef d.name d.params d.body d.scope pm cd doc)->s₁.heap.CodeRec cd d.name->mg d.name=some (.ref fa) →
   s₁.heap.get? a=some { cls:=.type "list",data:=.seq vs.toArray }->IntsAre vs ns->ns.length <= n->s₁.gens = #[] →
   codeAny (model l.prog w) callerA (.call (.ref fa) ⟨[.ref a],[]⟩) (λ r s'=>r=.ok (.ret (.bool true))/\OldK s₁.heap s'.heap/\s'.os=s₁.os/\AllBare s'.gens) s₁) :
  WalkO q loose XP YP l.row.toRowW d [] (λ f vs=>PySem.call f vs):=by
 intro w s₀ s₁ mg mb G Y fa o pm cd doc dV kV ho hd hcd hD hmg hg args vals as hpre hlay hrd hwl hlo
 obtain rfl:dV=.none:=Dflts.none hD hdf
 obtain rfl:kV=.none:=Dflts.noKw hD
 obtain ⟨a,vs,ns,rfl,rfl,hobj,hints,hlen⟩:=Bf hn hpre hwl
 refine enter_call (codeAny_mono (call w s₀ s₁ mg mb fa o pm cd doc a vs ns G Y ho (fd_plain hd) hcd hmg hobj hints hlen hg) λ r s' hq=>?_)
 obtain ⟨rfl,h2,h3,h4⟩:=hq
 exact ⟨.inl ⟨.bool true,.bool true,[],rfl,λ _=>rfl,.bool true,A4 l _,λ _=>⟨List.Pairwise.nil,λ _ hm=>(nomatch hm)⟩⟩,h2,h3,h4⟩
section
variable {prog:Program} {w:World} {A:Around} {E:Value->Shared->Prop} {s:Shared} {K:Frag}
end
end Att
namespace L2
open PySem PySem.Spec PyProof.Rows
theorem sV:∀ {vs:List Value} {ns:List Int},IntsAre vs ns->bE (ns.map V.int) vs
 | _,_,.nil=>.nil
 | _,_,.cons n t h=>.cons ⟨t,rfl⟩ (sV h)
noncomputable def GC (H:Hp):Prop:=∀ b,H b=none \/ ∃ o xs,H b=some (.frz o (.lst xs))
theorem Cg {P:Program} {w:World} {K:PySem.W.Frag} {mg mb:Str->Option Value} {CX:Bq} {k:Nat} {fa a:Addr} {fd:FuncData} {x:Str} {sp:Sp} {s₁:Shared} {vs:List Value} {ns:List Int}
  (KX:K.In s₁.heap) (hns:s₁.heap.Ns mainGlobals mg) (hb:s₁.heap.Ns builtinsNs mb) (hbb:∀ x:Str,x ≠ "__name__"->mb x=bootBuiltins x) (hlim:s₁.heap.NoLimit) (hg:s₁.gens = #[])
  (ha:s₁.heap.get? a=some { cls:=.type "list",data:=.seq vs.toArray }) (hi:IntsAre vs ns) (hl:ns.length <= sizeLine) (hr:Room k callerA)
  (F:∀ base:Heap,K.In base->base.Ns mainGlobals mg->FnOk P w K mg base CX k fa fd [x] sp) (hbind:∀ (s:Shared) (u:Value),BindsTo s fd ⟨[u],[]⟩ [(x,u)])
  (hsp:∀ H:Hp,GC H->cR K H a (ns.map V.int)->sp [.ref a] H (λ v _=>v=.bl true) λ _ _ _=>False)
  (hCX:∀ H e s',CX [] H s₁ (λ _ _ _=>False) e s'->False) :
  codeAny (model P w) callerA (.call (.ref fa) ⟨[.ref a],[]⟩) (λ r s'=>r=.ok (.ret (.bool true))/\OldK s₁.heap s'.heap/\s'.os=s₁.os/\AllBare s'.gens) s₁:=by
 have rv:=sV hi
 have lenV:=hi.length
 have core:∀ H:Hp,GC H->cR K H a (ns.map V.int)->mo P w H s₁.heap->(∀ b,H b ≠ none->b=a)->(H a ≠ none->K.lookup a=none) →
   codeAny (model P w) callerA (.call (.ref fa) ⟨[.ref a],[]⟩) (λ r s'=>r=.ok (.ret (.bool true))/\OldK s₁.heap s'.heap/\s'.os=s₁.os/\AllBare s'.gens) s₁:=by
  intro H hO hS hok hA hK
  have base_of:∀ {b:Addr} {o:Obj},s₁.heap.get? b=some o->H b=none->(tW s₁.heap H).get? b=some o:=λ e n=>B7 e n
  have noA:∀ {b:Addr} {o:Obj} {es:Array DictEntry} {ep:Nat},s₁.heap.get? b=some o->o.data=.dict es ep->H b=none:=λ {b o es ep} e d=>by
   cases q:H b with
   | none=>rfl
   | some u =>
    have e':b=a:=hA b (by rw [q];simp)
    subst e'
    rw [ha] at e;cases e
    have d':Data.seq vs.toArray _=Data.dict es ep:=d
    cases d'
  have nsK:∀ {b:Addr} {m:Str->Option Value},s₁.heap.Ns b m->(tW s₁.heap H).Ns b m:=λ {b m} ⟨o,es,ep,e,d,r⟩=>⟨o,es,ep,base_of e (noA e d),d,r⟩
  have hKb:K.In (tW s₁.heap H):=λ b o e=>base_of (KX b o e) (by
   cases q:H b with
   | none=>rfl
   | some u =>
    have e':b=a:=hA b (by rw [q];simp)
    subst e'
    rw [hK (by rw [q];simp)] at e;cases e)
  have hM:Mod K mg (tW s₁.heap H):=⟨hKb,nsK hns,⟨mb,nsK hb,hbb⟩,let ⟨mc,h1,h2⟩:=hlim;⟨mc,nsK h1,h2⟩⟩
  have e0:Env0 P w K mg (tW s₁.heap H) callerA [] s₁ H:=⟨rfl,hM,λ b o e=>ED e,Nat.le_of_eq (AH _ _),trivial,λ b hb=>absurd (show b∈([]:List Addr) from hb) (by simp),hok,.of_eq hg⟩
  refine codeAny_mono ((F _ hKb (nsK hns)).run callerA [] s₁ H ⟨[.ref a],[]⟩ [.ref a] [.ref a] _ _ hr e0 (hbind s₁ (.ref a)) (.cons rfl .nil) (hsp H hO hS)) λ r s' h=>?_
  cases r with
  | error e=>exact (hCX H e s' h).elim
  | ok fl =>
   cases fl with
   | next=>exact False.elim h
   | brk=>exact False.elim h
   | cont=>exact False.elim h
   | ret u =>
    obtain ⟨v,H',os,bare,un,hok',r',q⟩:=h
    have q':v=.bl true:=q
    subst q'
    obtain rfl:u=Value.bool true:=r'
    refine ⟨rfl,OldK.of_keep λ b o e=>?_,os,bare⟩
    cases q:H b with
    | none=>exact un.keep b o e q (by intro z;exact absurd (show b∈([]:List Addr) from z) (by simp)) (by simp)
    | some u =>
     rcases hO b with z | ⟨ob,xs,z⟩
     ·rw [q] at z;cases z
     ·have z2:=un.frzs b ob _ z
      obtain ⟨e1,_⟩:=hok b _ z
      obtain ⟨e2,_⟩:=hok' b _ z2
      rw [e] at e1;cases e1
      exact e2
 cases hk:K.lookup a with
 | some o =>
  have e:=KX a o hk
  rw [ha] at e
  cases e
  refine core (λ _=>none) (λ _=>.inl rfl) (.inr ⟨_,vs.toArray,_,hk,rfl,⟨rfl,rfl⟩,rfl,by rw [List.size_toArray,lenV];exact hl,by simpa using rv⟩) (λ b u z=>by have z':(none:Option HO)=some u:=z;cases z') (λ b z=>absurd rfl z) λ z=>absurd rfl z
 | none =>
  refine core (λ b=>if b=a then some (.frz { cls:=.type "list",data:=.seq vs.toArray } (.lst (ns.map V.int))) else none) (λ b=>?_) (.inl (.inr ⟨{ cls:=.type "list",data:=.seq vs.toArray },if_pos rfl⟩)) (λ b u z=>?_) (λ b z=>?_) λ _=>hk
  ·by_cases hb:b=a
   ·exact .inr ⟨_,_,if_pos hb⟩
   ·exact .inl (if_neg hb)
  ·by_cases hb:b=a
   ·have z':=(if_pos hb).symm.trans z
    cases z'
    subst hb
    exact ⟨ha,by rw [List.length_map];exact hl,vs,_,rv,ha⟩
   ·have z':=(if_neg hb).symm.trans z
    cases z'
  ·by_cases hb:b=a
   ·exact hb
   ·exact absurd (if_neg hb) z
end L2
namespace L2
open PySem PySem.Spec PyProof.Rows
theorem FN {l:PySem.W.OpenLaw} {n k:Nat} {q:Program} {loose:List Str} {XP:(Str->Option Value)->Heap->Prop} {YP:World->Heap->Prop} {d:DefRec} {K:Params->PySem.W.Frag} {CX:World->Bq} {sp:World->Sp} {x:Str}
  (hn:l.most=some n) (hn2:n <= sizeLine) (hdf:d.params.defaults=[]) (hr:Room k callerA)
  (hY:∀ (w:World) (h:Heap),YP w h->(K w.params).In h)
  (F:∀ (w:World) (mg:Str->Option Value) (fa:Addr) (h:Heap),(K w.params).In h->h.Ns mainGlobals mg->mg d.name=some (.ref fa) →
   ∃ fd:FuncData,(∀ (s:Shared) (u:Value),BindsTo s fd ⟨[u],[]⟩ [(x,u)]) ∧
    ∀ base:Heap,(K w.params).In base->base.Ns mainGlobals mg->FnOk l.prog w (K w.params) mg base (CX w) k fa fd [x] (sp w))
  (hsp:∀ (w:World) (H:Hp) (a:Addr) (ns:List Int),ns.length <= n->GC H->cR (K w.params) H a (ns.map V.int)->sp w [.ref a] H (λ v _=>v=.bl true) λ _ _ _=>False)
  (hCX:∀ (w:World) (H:Hp) (s:Shared) (e:Value) (s':Shared),CX w [] H s (λ _ _ _=>False) e s'->False) :
  PySem.W.WalkO q loose XP YP l.row.toRowW d [] (λ f vs=>PySem.call f vs):=by
 refine Att.attach_call hn hdf λ w s₀ s₁ mg mb fa o pm cd doc a vs ns G Y ho hd hcd hmg hobj hints hlen hg=>?_
 have KX:=hY w _ Y
 obtain ⟨fd,hb,hF⟩:=F w mg fa _ KX G.T.g hmg
 exact Cg KX G.T.g G.T.b G.T.builtins G.T.nolimit hg hobj hints (Nat.le_trans hlen hn2) hr hF hb (λ H hO hS=>hsp w H a ns hlen hO hS) λ H e s'=>hCX w H s₁ e s'
end L2
namespace L2
open PySem PySem.Spec PyProof.Rows
noncomputable def cM (s:Stmt):Arguments:=match s with
 | .FunctionDef _ a _ _ _ _ _ _ _ _=>a
 | _=>{ posonlyargs:=[],args:=[],vararg:=none,kwonlyargs:=[],kw_defaults:=[],kwarg:=none,defaults:=[] }
noncomputable def aB (s:Stmt):List Stmt:=match s with
 | .FunctionDef _ _ b _ _ _ _ _ _ _=>b
 | _=>[]
noncomputable def am (s:Stmt):Scope:=match s with
 | .FunctionDef _ _ _ _ _ _ sc _ _ _=>sc
 | _=>{ kind:=.function,names:=[],isGenerator:=false,isCoroutine:=false }
structure Fun (K:PySem.W.Frag) (x qual:Str) (st:Stmt) (f:Addr) (fd:FuncData):Prop where
 ex:∃ (oc:Value) (od:Option Addr) (kV doc pm:Value) (an:Option Addr) (cdv ct:Value) (osl:Array (Option Value)),
  fd=PySem.W.fnOf x qual (cM st) (aB st) (am st) .none kV doc pm an cdv ct/\K.lookup f=some ⟨oc,od,.func fd,osl⟩/\PySem.W.codeIn K cdv qual=true
 kp:PySem.W.keepIn K (.ref f)=true
section
variable {P:Program} {w:World} {K:PySem.W.Frag} {mg:Str->Option Value} {base:Heap}
theorem Fun.binds {x qual:Str} {st:Stmt} {f:Addr} {fd:FuncData} {ps:List Str} (F:Fun K x qual st f fd)
  (h:∀ (kV doc pm:Value) (an:Option Addr) (cdv ct:Value) (us:List Value),us.length=ps.length->bindArgs (PySem.W.fnOf x qual (cM st) (aB st) (am st) .none kV doc pm an cdv ct) ⟨us,[]⟩=pure (ps.zip us)):lS K fd ps []:=by
 obtain ⟨oc,od,kV,doc,pm,an,cdv,ct,osl,rfl,lk,hcd⟩:=F.ex
 exact .all (h kV doc pm an cdv ct)
theorem qd {x qual:Str} {st:Stmt} {f:Addr} {oc:Value} {od an:Option Addr} {osl:Array (Option Value)} {kV doc pm cdv ct:Value} (l:K.lookup f=some ⟨oc,od,.func (PySem.W.fnOf x qual (cM st) (aB st) (am st) .none kV doc pm an cdv ct),osl⟩)
  (c:PySem.W.codeIn K cdv qual=true) (k:PySem.W.keepIn K (.ref f)=true):Fun K x qual st f (PySem.W.fnOf x qual (cM st) (aB st) (am st) .none kV doc pm an cdv ct):=⟨⟨oc,od,kV,doc,pm,an,cdv,ct,osl,rfl,l,c⟩,k⟩
end
section
variable {X:Cx}
end
noncomputable def bV (H H':Hp):Prop:=∀ b o,H b=some o->H' b=some o
theorem bV.refl (H:Hp):bV H H:=λ _ _ h=>h
theorem bV.trans {H H1 H2:Hp} (a:bV H H1) (b:bV H1 H2):bV H H2:=λ c o h=>b c o (a c o h)
theorem bV.free {H H':Hp} (e:bV H H') {l:Addr} (h:H' l=Option.none):H l=Option.none:=by
 cases q:H l with
 | none=>rfl
 | some o =>
  rw [e l o q] at h
  cases h
theorem bV.seq {K:PySem.W.Frag} {H H':Hp} {a:Addr} {xs:List V} (e:bV H H') (h:cR K H a xs):cR K H' a xs:=by
 rcases h with (h | ⟨o,h⟩) | h
 ·exact .inl (.inl (e _ _ h))
 ·exact .inl (.inr ⟨o,e _ _ h⟩)
 ·exact .inr h
end L2
namespace L2
open PySem PySem.Spec PyProof.Rows
section
variable {κ:Type} [DecidableEq κ]
noncomputable def ja (kvs:List (κ × V)) (k:κ):Option V:=(kvs.find? λ kv=>decide (kv.1=k)).map (·.2)
noncomputable def qA (kvs:List (κ × V)) (k:κ) (v:V):List (κ × V):=
 if (kvs.any λ kv=>decide (kv.1=k))=true then kvs.map (λ kv=>if kv.1=k then (kv.1,v) else kv) else kvs++[(k,v)]
theorem eF {p:κ × V} {r:List (κ × V)} {k:κ} (e:p.1=k):ja (p :: r) k=some p.2:=by simp [ja,List.find?_cons,e]
theorem eE {p:κ × V} {r:List (κ × V)} {k:κ} (e:¬ p.1=k):ja (p :: r) k=ja r k:=by simp [ja,List.find?_cons,e]
theorem xq (k:κ):∀ kvs:List (κ × V),(kvs.any λ kv=>decide (kv.1=k))=(ja kvs k).isSome
 | []=>rfl
 | p :: r=>by
  rw [List.any_cons]
  by_cases e:p.1=k
  ·simp only [eF e,decide_eq_true e,Bool.true_or,Option.isSome_some]
  ·rw [eE e,decide_eq_false e,Bool.false_or];exact xq k r
theorem sU (k j:κ) (y:V):∀ kvs:List (κ × V),ja kvs k=none->ja (kvs++[(k,y)]) j=if j=k then some y else ja kvs j
 | [],_=>by
  by_cases e:k=j
  ·rw [if_pos e.symm];exact eF (p:=(k,y)) e
  ·rw [if_neg (λ z=>e z.symm)];exact eE (p:=(k,y)) e
 | p :: r,hn=>by
  rw [List.cons_append]
  have hk:¬ p.1=k:=λ z=>by rw [eF z] at hn;cases hn
  rw [eE hk] at hn
  have ih:=sU k j y r hn
  by_cases e:p.1=j
  ·rw [eF e,eF e,if_neg (λ z=>hk (e.trans z))]
  ·rw [eE e,eE e,ih]
theorem wp (kvs:List (κ × V)) (k:κ) (v:V):(qA kvs k v).length <= kvs.length + 1:=by
 unfold qA
 split
 ·rw [List.length_map];(first | lia | omega)
 ·rw [List.length_append,List.length_cons,List.length_nil];(first | lia | omega)
theorem C9 {kvs:List (κ × V)} {k:κ} (v:V) (h:ja kvs k=none):qA kvs k v=kvs++[(k,v)]:=by
 unfold qA
 rw [xq,h]
 exact if_neg (by decide)
theorem KV.val {kvs:List (κ × V)} {vs:List (κ × Value)} (r:KV kvs vs) (k:κ):vn (ja kvs k) (valueAt vs k):=by
 unfold KV at r
 induction r with
 | nil=>exact True.intro
 | @cons p q ps qs h t ih =>
  obtain ⟨h1,h2⟩:=h
  by_cases e:p.1=k
  ·have e':q.1=k:=h1.symm.trans e
   have b:valueAt (q :: qs) k=some q.2:=by simp [valueAt,List.find?_cons,e']
   rw [eF e,b];exact h2
  ·have e':¬ q.1=k:=λ z=>e (h1.trans z)
   have b:valueAt (q :: qs) k=valueAt qs k:=by simp [valueAt,List.find?_cons,e']
   rw [eE e,b];exact ih
theorem KV.any {kvs:List (κ × V)} {vs:List (κ × Value)} (r:KV kvs vs) (k:κ):(kvs.any λ kv=>decide (kv.1=k))=vs.any λ kv=>decide (kv.1=k):=by
 unfold KV at r
 induction r with
 | nil=>rfl
 | cons h t ih=>rw [List.any_cons,List.any_cons,ih,h.1]
theorem KV.repl {kvs:List (κ × V)} {vs:List (κ × Value)} (r:KV kvs vs) (k:κ) {y:V} {u:Value} (ry:bg y u) :
  KV (kvs.map λ kv=>if kv.1=k then (kv.1,y) else kv) (vs.map λ kv=>if kv.1=k then (kv.1,u) else kv):=by
 unfold KV at r ⊢
 induction r with
 | nil=>exact .nil
 | @cons p q ps qs h t ih =>
  rw [List.map_cons,List.map_cons]
  refine .cons ?_ ih
  obtain ⟨h1,h2⟩:=h
  by_cases e:p.1=k
  ·rw [if_pos e,if_pos (h1.symm.trans e)];exact ⟨h1,ry⟩
  ·rw [if_neg e,if_neg (λ z=>e (h1.trans z))];exact ⟨h1,h2⟩
theorem KV.put {kvs:List (κ × V)} {vs:List (κ × Value)} (r:KV kvs vs) (k:κ) {y:V} {u:Value} (ry:bg y u):KV (qA kvs k y) (stored vs k u):=by
 unfold qA stored
 rw [r.any k]
 by_cases e:(vs.any λ kv=>decide (kv.1=k))=true
 ·rw [if_pos e,if_pos e];exact r.repl k ry
 ·rw [if_neg e,if_neg e];exact Paired.snoc r ⟨rfl,ry⟩
end
theorem Cc {P:Program} {w:World} {k:dI} {u:Value} (r:bg (kV k) u):(cq P w).is k u=true:=by
 cases k with
 | inl i=>obtain ⟨t,e⟩:=(show ∃ t,u=Value.int i t from r);subst e;exact ww P w i t
 | inr x=>obtain ⟨t,e⟩:=(show ∃ t,u=Value.str x t from r);subst e;exact wx P w x t
theorem sf {P:Program} {w:World}:∀ {ks:List dI} {us:List Value},bE (ks.map kV) us->ItemsAre (cq P w) ks us
 | [],_,r=>by rw [List.map_nil] at r;cases r;exact .nil
 | k :: ks,_,r=>by
  rw [List.map_cons] at r
  cases r with
  | cons h t=>exact .cons (Cc h) (sf t)
noncomputable abbrev KT (H:Hp):List (List dI × V)->List (List dI × Addr × Value)->Prop:=Paired λ p q=>p.1=q.1/\H q.2.1=some (.tup (p.1.map kV))/\bg p.2 q.2.2
theorem KT.val {H:Hp} {kvs:List (List dI × V)} {xs:List (List dI × Addr × Value)} (r:KT H kvs xs) (k:List dI):vn (ja kvs k) ((atKey xs k).map (·.2)):=by
 induction r with
 | nil=>exact True.intro
 | @cons p q ps qs h t ih =>
  obtain ⟨h1,_,h2⟩:=h
  by_cases e:p.1=k
  ·have e':q.1=k:=h1.symm.trans e
   have b:atKey (q :: qs) k=some q.2:=by simp [atKey,List.find?_cons,e']
   rw [eF e,b];exact h2
  ·have e':¬ q.1=k:=λ z=>e (h1.trans z)
   have b:atKey (q :: qs) k=atKey qs k:=by simp [atKey,List.find?_cons,e']
   rw [eE e,b];exact ih
section
variable {P:Program} {w:World} {H:Hp} {h:Heap} {a:Addr}
theorem Gv {u:HO} (ok:mo P w H h) (e:Rd H a u):dh P w H h a u:=e.ok ok
theorem BS {kvs:List (dI × V)} (ok:mo P w H h) (e:Rd H a (.dK kvs)):kvs.length <= sizeLine/\(a == sysModules)=false/\∃ vs,KV kvs vs/\h.DictOf (cq P w) a vs:=
 show dh P w H h a (.dK kvs) from Gv ok e
theorem Jz {kvs:List (dI × V)} (ok:mo P w H h) (e:H a=some (.dK kvs)):kvs.length <= sizeLine/\(a == sysModules)=false/\∃ vs,KV kvs vs/\h.DictOf (cq P w) a vs:=BS ok (.inl e)
theorem Cf {ks:List dI} (ok:mo P w H h) (e:H a=some (.tup (ks.map kV))):(tupleKind (cq P w)).is h ks a:=by
 obtain ⟨_,its,r,o,h1,h2,n,h3⟩:=(show dh P w H h a (.tup (ks.map kV)) from ok a _ e)
 exact ⟨o,its.toArray,n,h1,h2,h3,by simpa using sf r⟩
theorem F3 {kvs:List (List dI × V)} (ok:mo P w H h) (e:Rd H a (.dT kvs)):kvs.length <= sizeLine/\(a == sysModules)=false ∧
  ∃ xs,KT H kvs xs/\h.DictOfH (tupleKind (cq P w)) a xs:=by
 obtain ⟨z,y,xs,r,o,es,ep,h1,h2,h3,h4,h5⟩:=(show dh P w H h a (.dT kvs) from Gv ok e)
 refine ⟨z,y,xs,r,o,es,ep,h1,h2,h3,h4,λ x hx=>?_,h5⟩
 have all:∀ {l:List (List dI × V)} {m:List (List dI × Addr × Value)},KT H l m->∀ x∈m,(tupleKind (cq P w)).is h x.1 x.2.1:=by
  intro l m q
  induction q with
  | nil=>intro x hx;exact nomatch hx
  | @cons p q ps qs hq t ih =>
   intro x hx
   rcases List.mem_cons.mp hx with e | hx
   ·subst e
    exact Cf ok (by rw [<- hq.1];exact hq.2.1)
   ·exact ih x hx
 exact all r x hx
end
noncomputable def Ag (H:Hp) (a:Addr) (y:V) (r:Option V):Prop:=
 (∃ kvs k,Rd H a (.dK kvs)/\y=kV k/\r=ja kvs k) \/ ∃ kvs k b,Rd H a (.dT kvs)/\y=.ref b/\H b=some (.tup (k.map kV))/\r=ja kvs k
theorem Ag.k {H:Hp} {a:Addr} {kvs:List (dI × V)} {k:dI} (e:H a=some (.dK kvs)):Ag H a (kV k) (ja kvs k):=.inl ⟨kvs,k,.inl e,rfl,rfl⟩
section
variable {X:Cx} {pins:List (Addr × Obj)} {σ:St} {H:Hp} {s:Shared} {a:Addr} {y v:V} {u r:Value} {o:Option V} {A:Around} {E:Value->Shared->Prop}
theorem Inv.big (I:Inv X pins σ H s):sysModules < s.heap.objs.size:=by
 have h:mainGlobals < s.heap.objs.size:=(I.mod.glob.keeps I.bk).lt
 exact Nat.lt_trans (by decide) h
theorem Aw {Q:Value->Shared->Prop} (hu:A.units + 1 < cLine) (I:Inv X pins σ H s) (g:Ag H a y (some v)) (ry:bg y u) (h:∀ w' s',Inv X pins σ H s'->bg v w'->Q w' s') :
  wpAny (model X.prog X.w) A (getItem (.ref a) u) Q E s:=by
 rcases g with ⟨kvs,k,e,ey,l⟩ | ⟨kvs,k,b,e,ey,eb,l⟩
 ·subst ey
  obtain ⟨z,hd,vs,rel,dd⟩:=BS I.hok e
  obtain ⟨w',hw,rw'⟩:=vn.some_of (v:=v) (o:=valueAt vs k) (by rw [l];exact rel.val k)
  exact wpAny_getItem_of (Cc ry) dd.mapOf hw (h w' _ (I.tok _) rw')
 ·subst ey
  cases (show u=Value.ref b from ry)
  obtain ⟨z,hd,xs,rel,dd⟩:=F3 I.hok e
  obtain ⟨w',hw,rw'⟩:=vn.some_of (v:=v) (o:=(atKey xs k).map (·.2)) (by rw [l];exact rel.val k)
  obtain ⟨p,hp,hp2⟩:=Option.map_eq_some_iff.mp hw
  refine wpAny_getItem_heap (tupleKind_room_in1 hu) (Cf I.hok eb) dd hp ?_
  rw [hp2]
  exact h w' _ (I.tok _) rw'
theorem Ea {h':Heap} {t':Nat} {ob:HO} (I:Inv X pins σ H s) (mu:Jl (H a)) (hs:Heap.SameBut a s.heap h') (he:∃ q,h'.get? a=some q) (new:dh X.prog X.w (upd H a ob) h' a ob) :
  Inv X pins σ (upd H a ob) { s with heap:=h',toks:=t' }:=
 I.write (x:=a) (e:=a) mu (.inl rfl) (λ b q hb z=>(hs.2 b hb).trans z) he new
theorem GQ {P:Program} {w:World} {H':Hp} {h':Heap} {kvs:List (dI × V)} {vs:List (dI × Value)} (z:kvs.length <= sizeLine) (hd:(a == sysModules)=false) (rel:KV kvs vs) (dd:h'.DictOf (cq P w) a vs) :
  dh P w H' h' a (.dK kvs):=⟨z,hd,vs,rel,dd⟩
end
section
variable {X:Cx} {pins:List (Addr × Obj)} {σ:St} {H:Hp} {s:Shared} {a:Addr} {kvs:List (dI × V)} {k:dI} {u:Value} {A:Around} {E:Value->Shared->Prop}
end
noncomputable def Jm (i:Expr):Prop:=∀ ov iv,subscripted i false ov iv=operate [ov,iv] (getItem ov iv)
theorem FE {prog:Program} {w:World} {A:Around} {E:Value->Shared->Prop} {s:Shared} {env:Env} {value slice:Expr} {pos:Pos} {T id:String} {Q:Value->Shared->Prop}
  (hl:typeLookup (.type T) "__getitem__" = pure (some (.builtin id))) (hs:Jm slice)
  (h:wpAny (model prog w) A (eval value env) (λ o s₁=>wpAny (model prog w) A (eval slice env) (λ i s₂=>s₂.TypeIs o T/\wpAny (model prog w) A (getItem o i) Q E s₂) E s₁) E s) :
  wpAny (model prog w) A (eval (.Subscript value slice pos) env) Q E s:=by
 refine Subscript_ (wpAny_mono h (λ o s₁ h₁=>wpAny_mono h₁ (λ i s₂ h₂=>?_) λ _ _ x=>x) λ _ _ x=>x)
 obtain ⟨hT,h₂⟩:=h₂
 unfold subscriptTail
 refine wpAny_bind ?_
 rw [getitemInPython_of_ne hT.not_modules]
 refine wpAny_bind (wpAny_specialOf hT hl ?_)
 have fin:wpAny (model prog w) A (subscripted slice false o i) (λ r s₃=>wpAny (model prog w) A (letTemporaryGo value o r >>= λ _=>pure r) Q E s₃) E s₂:=by
  rw [hs o i]
  exact wpAny_operating (wpAny_mono h₂ (λ r s₃ h₃=>wpAny_bind (wpAny_letTemporaryGo (wpAny_pure h₃))) λ _ _ x=>x)
 first
  | exact wpAny_pure (wpAny_bind fin)
  | exact wpAny_bind (wpAny_pure (wpAny_bind fin))
  | exact wpAny_bind fin
theorem v3 {X:Cx} {pins:List (Addr × Obj)} {σ:St} {H:Hp} {s:Shared} {a:Addr} {y:V} {o:Option V} (I:Inv X pins σ H s) (g:Ag H a y o):s.TypeIs (.ref a) "dict":=by
 rcases g with ⟨kvs,k,e,_,_⟩ | ⟨kvs,k,b,e,_,_,_⟩
 ·obtain ⟨_,_,vs,_,dd⟩:=BS I.hok e
  exact dd.typeIs
 ·obtain ⟨_,_,xs,_,dd⟩:=F3 I.hok e
  exact dd.typeIs
noncomputable def Ku (td ty:TE):TE:=λ σ H Q=>td σ H λ x H1=>ty σ H1 λ y H2=>∃ a v,x=.ref a/\Ag H2 a y (some v)/\Q v H2
section
variable {X:Cx} {o i e value:Expr} {pos pos' tpos:Pos} {td ty tv:TE}
theorem EQ (hu:X.A.units + 1 < cLine) (ho:PE X o td) (hi:PE X i ty) (hs:Jm i):PE X (.Subscript o i pos) (Ku td ty):=by
 intro pins s σ H Q I h
 refine FE PySem.F.slot_dict_getitem.lookup hs (b7 (ho pins s σ H _ I h) λ u s1 ⟨x,H1,I1,rx,q1⟩=>b7 (hi pins s1 σ H1 _ I1 q1) λ iv s2 ⟨y,H2,I2,ry,a,v,ex,g,q2⟩=>?_)
 subst ex
 obtain rfl:u=Value.ref a:=rx
 exact ⟨v3 I2 g,Aw hu I2 g ry λ w' s3 I3 rw'=>⟨v,H2,I3,rw',q2⟩⟩
end
theorem BR {P:Program} {w:World} {H:Hp} (h:Heap) (hb:sysModules < h.objs.size):dh P w H (h.push { cls:=.type "dict",data:=.dict #[] }) h.objs.size (.dK []):=
 ⟨Nat.zero_le _,beq_eq_false_iff_ne.mpr (Ne.symm (Nat.ne_of_lt hb)),[],.nil,Heap.DictOf.new h⟩
section
variable {X:Cx} {pos:Pos}
end
noncomputable def uU:List (TE × TE)->St->Hp->(List (V × V)->Hp->Prop)->Prop
 | [],_,H,Q=>Q [] H
 | (tk,tv) :: r,σ,H,Q=>tk σ H λ x H1=>tv σ H1 λ y H2=>uU r σ H2 λ ps H3=>Q ((x,y) :: ps) H3
noncomputable abbrev VV:List (V × V)->List (Value × Value)->Prop:=Paired λ p q=>bg p.1 q.1/\bg p.2 q.2
noncomputable def Jn (X:Cx) (pos:Pos) (keys:List (Option Expr)) (values:List Expr) (trs:List (TE × TE)):Prop:=
 ∀ (pins:List (Addr × Obj)) (s:Shared) (σ:St) (H:Hp) (Q:List (V × V)->Hp->Prop),Inv X pins σ H s->uU trs σ H Q →
  wpAny (model X.prog X.w) X.A (evalPairs (pairTrees keys values X.env pos)) (λ vs s'=>∃ ps H',Inv X pins σ H' s'/\VV ps vs/\Q ps H') X.xe s
theorem E1 {X:Cx} {pos:Pos}:Jn X pos [] [] []:=λ pins s σ H Q I h=>pairTrees_nil_walk ⟨[],H,I,.nil,h⟩
theorem C4 {X:Cx} {pos:Pos} {k v:Expr} {ks:List (Option Expr)} {vs:List Expr} {tk tv:TE} {trs:List (TE × TE)} (hk:PE X k tk) (hv:PE X v tv) (hr:Jn X pos ks vs trs) :
  Jn X pos (some k :: ks) (v :: vs) ((tk,tv) :: trs):=λ pins s σ H Q I h =>
 pairTrees_cons_walk (b7 (hk pins s σ H _ I h) λ u s1 ⟨x,H1,I1,rx,q1⟩=>b7 (hv pins s1 σ H1 _ I1 q1) λ w2 s2 ⟨y,H2,I2,ry,q2⟩ =>
  b7 (hr pins s2 σ H2 _ I2 q2) λ ws s3 ⟨ps,H3,I3,rel,q3⟩=>⟨(x,y) :: ps,H3,I3,.cons ⟨rx,ry⟩ rel,q3⟩)
noncomputable def iq (kvs more:List (dI × V)):List (dI × V):=more.foldl (λ acc kv=>qA acc kv.1 kv.2) kvs
theorem KV.merge:∀ {more:List (dI × V)} {rs:List (dI × Value)} {kvs:List (dI × V)} {vs:List (dI × Value)},KV more rs->KV kvs vs->KV (iq kvs more) (merged vs rs):=by
 intro more rs kvs vs r
 unfold KV at r
 induction r generalizing kvs vs with
 | nil=>intro q;exact q
 | @cons p q ps qs h t ih =>
  intro r0
  have e:KV (qA kvs p.1 p.2) (stored vs q.1 q.2):=by
   have:=r0.put p.1 h.2
   rw [<- h.1];exact this
  exact ih e
theorem lz:∀ (more kvs:List (dI × V)),(iq kvs more).length <= kvs.length + more.length
 | [],kvs=>by show kvs.length <= kvs.length + 0;(first | lia | omega)
 | p :: r,kvs=>by
  have h1:=lz r (qA kvs p.1 p.2)
  have h2:=wp kvs p.1 p.2
  show (iq (qA kvs p.1 p.2) r).length <= _
  rw [List.length_cons];(first | lia | omega)
theorem pP {P:Program} {w:World}:∀ {kvs:List (dI × V)} {ws:List (Value × Value)},VV (kvs.map λ kv=>(kV kv.1,kv.2)) ws->∃ rs,Carries (cq P w) ws rs/\KV kvs rs
 | [],_,r=>by rw [List.map_nil] at r;cases r;exact ⟨[],True.intro,.nil⟩
 | p :: kvs,_,r=>by
  rw [List.map_cons] at r
  cases r with
  | @cons a b as bs h t =>
   obtain ⟨rs,c,q⟩:=pP (P:=P) (w:=w) t
   obtain ⟨b1,b2⟩:=b
   exact ⟨(p.1,b2) :: rs,⟨Cc h.1,rfl,c⟩,.cons ⟨rfl,h.2⟩ q⟩
noncomputable def Kv (trs:List (TE × TE)):TE:=λ σ H Q=>∀ p,H p=none->uU trs σ (upd H p (.dK [])) λ ps H2=>H2 p=some (.dK [])/\∃ kvs:List (dI × V),ps=kvs.map (λ kv=>(kV kv.1,kv.2))/\kvs.length <= 15/\Q (.ref p) (upd H2 p (.dK (iq [] kvs)))
theorem ER {X:Cx} {pos:Pos} {keys:List (Option Expr)} {values:List Expr} {trs:List (TE × TE)} (h:Jn X pos keys values trs) (hall:keys.all (·.isSome)=true) (hl:keys.length=values.length) (h0:keys ≠ [])
  (h15:keys.length <= 15):PE X (.Dict keys values pos) (Kv trs):=by
 intro pins s σ H Q I q
 have hn:=I.hok.fresh (Nat.le_refl s.heap.objs.size)
 have I1:=I.laid (a:=s.heap.objs.size) (o:=.dK []) (h':=s.heap.push { cls:=.type "dict",data:=.dict #[] }) (t':=s.toks) (λ _ _ q=>Heap.get?_push_of_some _ q) (Nat.le_refl _) (BR s.heap I.big)
 refine wpAny_Dict_walk (knd:=cq X.prog X.w) hall hl h0 h15 (b7 (h pins _ σ _ _ I1 (q _ hn)) λ ws s2 ⟨ps,H2,I2,rel,e,kvs,ep,lk,q2⟩=>?_)
 subst ep
 obtain ⟨rs,c,rk⟩:=pP (P:=X.prog) (w:=X.w) rel
 obtain ⟨z,hd,vs0,r0,dd⟩:=Jz I2.hok e
 cases r0
 refine ⟨rs,c,dd,λ h' dd' hs=>⟨.ref s.heap.objs.size,_,?_,rfl,q2⟩⟩
 have hz:(iq [] kvs).length <= sizeLine:=by
  have h1:=lz kvs []
  rw [List.length_nil] at h1
  rw [sizeLine_eq];(first | lia | omega)
 have he:∃ q,h'.get? s.heap.objs.size=some q:=let ⟨q,_,_,hq,_⟩:=dd';⟨q,hq⟩
 exact Ea I2 (by rw [e];exact True.intro) hs he (GQ hz hd (rk.merge .nil) dd')
end L2
namespace L3
open PySem PySem.Spec PyProof.Rows L2
noncomputable abbrev St:=L2.St
structure FreshX (X:Cx) (pins:List (Addr × Obj)) (H:Hp) (b:Addr):Prop where
 nl:b ≠ X.env.locals
 nc:∀ x c,X.env.cells.lookup x=some c->c ≠ b
 np:∀ p∈X.pn++pins,p.1 ≠ b
 n0:X.s₀.heap.get? b=none
 nh:H b=none
structure Flies (X:Cx) (pins:List (Addr × Obj)) (H:Hp) (s:Shared) (ea:Addr) (C:Value):Prop where
 ex:∃ oe vs a0,s.heap.get? ea=some oe/\oe.cls=C/\oe.data=.fields vs/\vs[0]?=some a0 ∧
  (vs[1]?=some .none \/ ∃ T oT ts,vs[1]?=some (.ref T)/\T ≠ ea/\s.heap.get? T=some oT/\oT.data=.fields ts/\ts[3]?=some .none/\FreshX X pins H T)
 fr:FreshX X pins H ea
noncomputable def xA (P:Program) (w:World):Bq:=λ outer H s E e s'=>∃ (ea:Addr) (C:Value) (H':Hp),e=.ref ea/\s'.os=s.os/\AllBare s'.gens/\Un (nD outer) [] H H' s.heap s'.heap/\mo P w H' s'.heap ∧
 (s.heap.get? ea=none/\H' ea=none) ∧
 (∃ oe vs a0 T oT ts,s'.heap.get? ea=some oe/\oe.cls=C/\oe.data=.fields vs/\vs[0]?=some a0/\vs[1]?=some (.ref T)/\T ≠ ea/\s'.heap.get? T=some oT/\oT.data=.fields ts/\ts[3]?=some .none/\s.heap.get? T=none/\H' T=none) ∧
 E C none H'
theorem qt {P:Program} {w:World} {H:Hp} {h:Heap} {a:Addr} {o:HO} (x:dh P w H h a o):∃ u,h.get? a=some u:=by
 cases o with
 | lst xs=>obtain ⟨_,_,_,_,e⟩:=x;exact ⟨_,e⟩
 | tup xs=>obtain ⟨_,_,_,ob,e,_⟩:=x;exact ⟨_,e⟩
 | dK kvs=>obtain ⟨_,_,_,_,o,_,_,e,_⟩:=x;exact ⟨_,e⟩
 | dT kvs=>obtain ⟨_,_,_,_,o,_,_,e,_⟩:=x;exact ⟨_,e⟩
 | set S n=>obtain ⟨o,_,_,_,e,_⟩:=x;exact ⟨_,e⟩
 | ins C dx fs=>obtain ⟨_,_,_,e,_⟩:=x;exact ⟨_,e⟩
 | own y=>exact x
 | xd fs=>obtain ⟨_,⟨_,_,_,e,_⟩,_⟩:=x;exact ⟨_,e⟩
 | rng lo hi=>obtain ⟨_,_,_,e⟩:=x;exact ⟨_,e⟩
 | frz ob u=>obtain ⟨e,_⟩:=x;exact ⟨_,e⟩
 | tbl ps=>exact ⟨_,x⟩
 | met f y=>exact ⟨_,x⟩
 | ext φ=>obtain ⟨_,e,_⟩:=x;exact e
section
variable {X:Cx} {pins:List (Addr × Obj)} {σ:St} {H H':Hp} {s s':Shared} {ea:Addr} {C:Value}
theorem nM (I:Inv X pins σ H s) (hex:X.ex=[]) {b:Addr} (e:s.heap.get? b=none) (n:H' b=none):FreshX X pins H' b where
 nl:=λ z=>by
  obtain ⟨m,⟨o,_,_,ho,_⟩,_⟩:=I.loc
  rw [<- z,e] at ho;cases ho
 nc:=λ x c h z=>by
  obtain ⟨v,o,ho,_⟩:=I.cell x c h
  rw [z,e] at ho;cases ho
 np:=λ p hp z=>by
  have:=(I.pin p hp).1
  rw [z,e] at this;cases this
 n0:=by
  cases q:X.s₀.heap.get? b with
  | none=>rfl
  | some o =>
   obtain ⟨o',h'⟩:=I.base.there b o q (by rw [hex];simp)
   rw [e] at h';cases h'
 nh:=n
theorem AI (I:Inv X pins σ H s) (hex:X.ex=[]) {E:XK} {e:Value} (h:xA X.prog X.w X.stack H s E e s') :
  ∃ ea C H',e=.ref ea/\Inv X pins σ H' s'/\Flies X pins H' s' ea C/\E C none H':=by
 obtain ⟨ea,C,H',rfl,os,bare,un,hok,⟨n1,n2⟩,⟨oe,vs,a0,T,oT,ts,t1,t2,t3,t4,t5,t6,t7,t8,t9,t10,t11⟩,hE⟩:=h
 refine ⟨ea,C,H',rfl,I.call' os un hok bare (ch:=[]) (λ b z=>absurd z (by simp)),⟨⟨oe,vs,a0,t1,t2,t3,t4,.inr ⟨T,oT,ts,t5,t6,t7,t8,t9,nM I hex t10 t11⟩⟩,nM I hex n1 n2⟩,hE⟩
noncomputable def GX (X:Cx) (s:Shared) (l:List Addr):Heap:=PySem.W.hideAll s.heap (nD X.stack++l)
theorem rY {l:List Addr}:(GX X s l).StaysIn s.heap:=λ b o q=>PySem.W.of_hideAll _ q
theorem qg {l:List Addr} {b:Addr} (h:b∈l):(GX X s l).get? b=none:=PySem.W.hideAll_none _ (List.mem_append_right _ h)
theorem zr {l:List Addr} {b:Addr} {o:Obj} (e:s.heap.get? b=some o) (h1:b ∉ nD X.stack) (h2:b ∉ l):(GX X s l).get? b=some o:=
 PySem.W.hideAll_get _ e λ z=>(List.mem_append.mp z).elim h1 h2
theorem qf (I:Inv X pins σ H s) {l:List Addr}:s.heap.FunFrames (GX X s l) X.stack:=
 PySem.W.funFrames_hide I.stack λ env he a ha=>List.mem_append_left _ (List.mem_filterMap.mpr ⟨env,he,ha⟩)
theorem Ci {M:Model} {E:XK} {E':Value->Shared->Prop} (I:Inv X pins σ H s) (hex:X.ex=[]) (hst:X.stack=X.env :: X.outer) (hf:X.env.frame=some X.env.locals) (F:Flies X pins H s ea C) (h:E C none H) :
  wpAny M X.A (leaving X.env (.ref ea)) (λ _ s''=>xA X.prog X.w X.outer X.H₀ X.s₀ E (.ref ea) s'') E' s:=by
 obtain ⟨oe,vs,a0,t1,t2,t3,t4,t5⟩:=F.ex
 have hfr:X.A.frames=some (X.env :: X.outer):=by rw [<- hst];exact I.ok.frames
 have fin:∀ (l:List Addr) (h':Heap),(∀ b∈l,FreshX X pins H b)->ea∈l->Heap.LeftW (GX X s l) (X.env :: X.outer) ea C a0 s.heap h'->xA X.prog X.w X.outer X.H₀ X.s₀ E (.ref ea) { s with heap:=h' }:=by
  intro l h' hl he hL
  obtain ⟨k1,k2,⟨oe',vs',T,oT,ts,g1,⟨g2,g3⟩,g4,g5,g6,g7,g8,g9,g10⟩,k4⟩:=hL
  have stk0:∀ b o,b∈nD X.stack->s.heap.get? b=some o->∀ vs,o.data ≠ .fields vs:=λ b o hb e=>by
   obtain ⟨_,o',e',d⟩:=I.stack.mem hb
   rw [e] at e';cases e';exact d
  have keep:∀ b o,b ∉ nD X.stack->b ∉ l->s.heap.get? b=some o->h'.get? b=some o:=λ b o n1 n2 e=>k1 b o (zr e n1 n2)
  have up:∀ b o,b∈nD X.stack->s.heap.get? b=some o->∃ sl,h'.get? b=some { o with slots:=sl }:=λ b o hb e=>k4 b o e (stk0 b o hb e)
  have FH:∀ b o,H b=some o->b ∉ nD X.stack/\b ∉ l:=λ b o e =>
   ⟨λ z=>(by rw [I.stkFree b z] at e;cases e),λ z=>(by rw [(hl b z).nh] at e;cases e)⟩
  have old:∀ b o,X.s₀.heap.get? b=some o->b ∉ l/\b ≠ X.env.locals:=λ b o e =>
   ⟨λ z=>(by rw [(hl b z).n0] at e;cases e),Nat.ne_of_lt (Nat.lt_of_lt_of_le (Heap.lt_size e) I.ok.above)⟩
  have stk:∀ b,b ≠ X.env.locals->b ∉ nD X.outer->b ∉ nD X.stack:=λ b n1 n2 hb=>(List.mem_cons.mp (I.stkSub b hb)).elim n1 n2
  have inst:∀ b,b∈nD X.outer->b∈nD X.stack:=λ b hb=>by
   rw [hst]
   unfold nD
   rw [List.filterMap_cons,hf]
   exact List.mem_cons_of_mem _ hb
  have Tn:∀ o,s.heap.get? T=some o->T∈l:=λ o e=>by
   refine Classical.byContradiction λ n=>?_
   have ns:T ∉ nD X.stack:=λ z=>by
    obtain ⟨_,o',e',d⟩:=k2.mem (by rw [hst] at z;exact z)
    rw [g8] at e';cases e';exact d ts g9
   have:=zr (X:=X) e ns n
   rw [g6] at this;cases this
  refine ⟨ea,C,H,rfl,I.os,I.bare,⟨λ b o e n hb _=>?_,λ b o e n hb _=>?_,λ b o e n _=>?_,λ b o e _=>?_,I.base.tups,I.base.frzs,I.base.tbls⟩,λ a o e=>?_,⟨(hl ea he).n0,(hl ea he).nh⟩,⟨oe',vs',a0,T,oT,ts,g1,g2,g4,g3,g5,g7,g8,g9,g10,?_,?_⟩,h⟩
  ·exact keep b o (stk b (old b o e).2 hb) (old b o e).1 (I.base.keep b o e n hb (by rw [hex];simp))
  ·obtain ⟨sl,e1⟩:=I.base.slot b o e n hb (by rw [hex];simp)
   obtain ⟨sl',e2⟩:=up b _ (inst b hb) e1
   exact ⟨sl',e2⟩
  ·exact I.base.free b o e n (by rw [hex];simp)
  ·obtain ⟨o',e1⟩:=I.base.there b o e (by rw [hex];simp)
   by_cases hb:b∈nD X.stack
   ·obtain ⟨sl,q⟩:=up b o' hb e1
    exact ⟨_,q⟩
   ·exact ⟨_,keep b o' hb (old b o e).1 e1⟩
  ·refine (I.hok a o e).stay (λ b u hb q=>?_) (λ _ q=>q) λ _ _ q=>q
   rcases hb with rfl | hb
   ·exact keep b u (FH b o e).1 (FH b o e).2 q
   ·exact keep b u (FH b _ hb).1 (FH b _ hb).2 q
  ·cases q:X.s₀.heap.get? T with
   | none=>rfl
   | some o =>
    obtain ⟨o',e1⟩:=I.base.there T o q (by rw [hex];simp)
    have:=(hl T (Tn o' e1)).n0
    rw [q] at this;cases this
  ·cases q:H T with
   | none=>rfl
   | some o =>
    obtain ⟨u,e1⟩:=qt (I.hok T o q)
    have:=(hl T (Tn u e1)).nh
    rw [q] at this;cases this
 rcases t5 with t5 | ⟨T,oT,ts,t5,t6,t7,t8,t9,fT⟩
 ·have fl:=qf I (l:=[ea])
  rw [hst] at fl
  refine wpAny_leaving_firstW (base:=GX X s [ea]) (a0:=a0) hfr fl hf t1 rY (qg (by simp)) t3 t5 t4 λ h' hL=>?_
  rw [t2] at hL
  exact fin [ea] h' (λ b hb=>by simp at hb;subst hb;exact F.fr) (by simp) hL
 ·have fl:=qf I (l:=[ea,T])
  rw [hst] at fl
  refine wpAny_leaving_nextW (base:=GX X s [ea,T]) (cls:=C) (a0:=a0) hfr fl hf ⟨oe,vs,T,oT,ts,t1,⟨t2,t4⟩,t3,t5,qg (by simp),t6,t7,t8,t9⟩ rY (qg (by simp)) λ h' hL=>?_
  exact fin [ea,T] h' (λ b hb=>by
   simp at hb
   rcases hb with rfl | rfl
   ·exact F.fr
   ·exact fT) (by simp) hL
end
end L3
namespace L3
open PySem PySem.Spec PyProof.Rows L2
theorem gd {α β:Type} {A C:α->β->Prop} {P:Prop} (h:∃ a b,A a b/\C a b) (k:∀ a b,A a b->C a b->P):P:=by
 obtain ⟨a,b,h1,h2⟩:=h
 exact k a b h1 h2
inductive D where
 | non | bl (b:Bool) | int (i:Int) | str (x:List Nat) | tup (ds:List D) | lst (ds:List D) | ob (c:Nat) (ns:List Str) (ds:List D) | dic (ks:List dI) (ds:List D)
inductive R (α:Type) where
 | ok (a:α) | exc (c:Nat) | stuck
noncomputable def R.bind {α β:Type}:R α->(α->R β)->R β
 | .ok a,f=>f a
 | .exc c,_=>.exc c
 | .stuck,_=>.stuck
@[simp] theorem R.bind_ok {α β:Type} (a:α) (f:α->R β):(R.ok a).bind f=f a:=rfl
@[simp] theorem R.bind_exc {α β:Type} (c:Nat) (f:α->R β):(R.exc c:R α).bind f=R.exc c:=rfl
@[simp] theorem R.bind_stuck {α β:Type} (f:α->R β):(R.stuck:R α).bind f=R.stuck:=rfl
structure Zx where
 K:PySem.W.Frag
 κ:Nat->Addr
noncomputable abbrev gE (x:List Nat):V:=.str ⟨x.toArray⟩
mutual
noncomputable def aW (Z:Zx) (G:Hp):V->D->Prop
 | v,.non=>v=.non
 | v,.bl b=>v=.bl b
 | v,.int i=>v=.int i
 | v,.str x=>v=gE x
 | v,.tup ds=>∃ a vs,v=.ref a/\nJ Z.K G a vs/\Dens Z G vs ds
 | v,.lst ds=>∃ a vs,v=.ref a/\cR Z.K G a vs/\Dens Z G vs ds
 | v,.ob c ns ds=>∃ a dx vs,v=.ref a/\G a=some (.ins (Z.κ c) dx (ns.zip vs))/\ns.length=vs.length/\Dens Z G vs ds
 | v,.dic ks ds=>∃ a vs,v=.ref a/\G a=some (.dK (ks.zip vs))/\ks.length=vs.length/\Dens Z G vs ds
noncomputable def Dens (Z:Zx) (G:Hp):List V->List D->Prop
 | [],[]=>True
 | v :: vs,d :: ds=>aW Z G v d/\Dens Z G vs ds
 | [],_ :: _=>False
 | _ :: _,[]=>False
end
theorem bY {K:PySem.W.Frag} {H H':Hp} {a:Addr} {xs:List V} (e:bV H H') (h:nJ K H a xs):nJ K H' a xs:=by
 rcases h with (h | ⟨o,h⟩) | h
 ·exact .inl (.inl (e _ _ h))
 ·exact .inl (.inr ⟨o,e _ _ h⟩)
 ·exact .inr h
section
variable {Z:Zx} {G G':Hp}
mutual
theorem aW.mono (s:bV G G'):∀ {v:V} {d:D},aW Z G v d->aW Z G' v d
 | v,.non,h=>by unfold aW at h ⊢;exact h
 | v,.bl b,h=>by unfold aW at h ⊢;exact h
 | v,.int i,h=>by unfold aW at h ⊢;exact h
 | v,.str x,h=>by unfold aW at h ⊢;exact h
 | v,.tup ds,h=>by
  unfold aW at h ⊢
  obtain ⟨a,vs,e,q,r⟩:=h
  exact ⟨a,vs,e,bY s q,Dens.mono s r⟩
 | v,.lst ds,h=>by
  unfold aW at h ⊢
  obtain ⟨a,vs,e,q,r⟩:=h
  exact ⟨a,vs,e,s.seq q,Dens.mono s r⟩
 | v,.ob c ns ds,h=>by
  unfold aW at h ⊢
  obtain ⟨a,dx,vs,e,q,l,r⟩:=h
  exact ⟨a,dx,vs,e,s _ _ q,l,Dens.mono s r⟩
 | v,.dic ks ds,h=>by
  unfold aW at h ⊢
  obtain ⟨a,vs,e,q,l,r⟩:=h
  exact ⟨a,vs,e,s _ _ q,l,Dens.mono s r⟩
theorem Dens.mono (s:bV G G'):∀ {vs:List V} {ds:List D},Dens Z G vs ds->Dens Z G' vs ds
 | [],[],h=>by unfold Dens;trivial
 | v :: vs,d :: ds,h=>by
  unfold Dens at h ⊢
  exact ⟨aW.mono s h.1,Dens.mono s h.2⟩
 | [],_ :: _,h=>by unfold Dens at h;exact h.elim
 | _ :: _,[],h=>by unfold Dens at h;exact h.elim
end
theorem bn:Dens Z G [] []:=by unfold Dens;trivial
theorem bt {v:V} {vs:List V} {d:D} {ds:List D} (h:aW Z G v d) (r:Dens Z G vs ds):Dens Z G (v :: vs) (d :: ds):=by unfold Dens;exact ⟨h,r⟩
theorem Dens.length:∀ {vs:List V} {ds:List D},Dens Z G vs ds->vs.length=ds.length
 | [],[],_=>rfl
 | _ :: _,_ :: _,h=>by unfold Dens at h;simp [Dens.length h.2]
 | [],_ :: _,h=>by unfold Dens at h;exact h.elim
 | _ :: _,[],h=>by unfold Dens at h;exact h.elim
theorem Dens.get:∀ {vs:List V} {ds:List D} {i:Nat} {d:D},Dens Z G vs ds->ds[i]?=some d->∃ v,vs[i]?=some v/\aW Z G v d
 | [],[],_,_,_,e=>by simp at e
 | v :: _,_ :: _,0,_,h,e=>by unfold Dens at h;simp at e;subst e;exact ⟨v,rfl,h.1⟩
 | _ :: _,_ :: _,i + 1,_,h,e=>by unfold Dens at h;simpa using Dens.get h.2 (by simpa using e)
 | [],_ :: _,_,_,h,_=>by unfold Dens at h;exact h.elim
 | _ :: _,[],_,_,h,_=>by unfold Dens at h;exact h.elim
theorem Dens.append:∀ {vs:List V} {ds:List D} {us:List V} {es:List D},Dens Z G vs ds->Dens Z G us es->Dens Z G (vs++us) (ds++es)
 | [],[],_,_,_,h=>h
 | _ :: _,_ :: _,_,_,h,k=>by unfold Dens at h;exact bt h.1 (Dens.append h.2 k)
 | [],_ :: _,_,_,h,_=>by unfold Dens at h;exact h.elim
 | _ :: _,[],_,_,h,_=>by unfold Dens at h;exact h.elim
theorem Dens.drop:∀ {vs:List V} {ds:List D} (n:Nat),Dens Z G vs ds->Dens Z G (vs.drop n) (ds.drop n)
 | _,_,0,h=>h
 | [],[],_ + 1,_=>by simp;exact bn
 | _ :: _,_ :: _,n + 1,h=>by unfold Dens at h;simpa using Dens.drop n h.2
 | [],_ :: _,_ + 1,h=>by unfold Dens at h;exact h.elim
 | _ :: _,[],_ + 1,h=>by unfold Dens at h;exact h.elim
theorem Dens.take:∀ {vs:List V} {ds:List D} (n:Nat),Dens Z G vs ds->Dens Z G (vs.take n) (ds.take n)
 | _,_,0,_=>by simp;exact bn
 | [],[],_ + 1,_=>by simp;exact bn
 | _ :: _,_ :: _,n + 1,h=>by unfold Dens at h;simpa using bt h.1 (Dens.take n h.2)
 | [],_ :: _,_ + 1,h=>by unfold Dens at h;exact h.elim
 | _ :: _,[],_ + 1,h=>by unfold Dens at h;exact h.elim
theorem Ay (ns:List Int):Dens Z G (ns.map V.int) (ns.map D.int):=by
 induction ns with
 | nil=>exact bn
 | cons n r ih=>exact bt (by unfold aW;rfl) ih
end
inductive Sl where
 | sh (d:D) | ow (ds:List D) | oo (c:Nat) (ns:List Str) (ds:List D)
noncomputable abbrev Ev:=List (Option Sl)
structure Gd where
 g:Hp
 m:Addr->Prop
structure Hold (B:Gd) (H₀ G H:Hp):Prop where
 gG:bV B.g G
 GH:bV G H
 old:∀ b o,H₀ b=some o->¬ B.m b->H b=some o
 there:∀ b,H₀ b ≠ none->H b ≠ none
 lent:∀ b,H₀ b ≠ none->B.g b=none->G b=none
inductive ShE (Z:Zx) (G:Hp) (σ:St) (i:Nat) (d:D):Prop
 | mk (v:V) (s:σ[i]?=some (some v)) (d:aW Z G v d)
inductive OwE (Z:Zx) (H₀ G H:Hp) (σ:St) (i:Nat) (ds:List D):Prop
 | mk (a:Addr) (vs:List V) (s:σ[i]?=some (some (.ref a))) (h:H a=some (.lst vs)) (d:Dens Z G vs ds) (g:G a=none) (n:H₀ a=none)
structure Rep (Z:Zx) (B:Gd) (H₀ G H:Hp) (σ:St) (δ:Ev):Prop extends Hold B H₀ G H where
 len:σ.length=δ.length
 sh:∀ (i:Nat) d,δ[i]?=some (some (.sh d))->ShE Z G σ i d
 ow:∀ (i:Nat) ds,δ[i]?=some (some (.ow ds))->OwE Z H₀ G H σ i ds
 sep:∀ (i j:Nat) ds es a,i ≠ j->δ[i]?=some (some (.ow ds))->δ[j]?=some (some (.ow es))->σ[i]?=some (some (.ref a))->σ[j]?=some (some (.ref a))->False
 oo:∀ (i:Nat) c ns ds,δ[i]?=some (some (.oo c ns ds))->∃ x dx vs,σ[i]?=some (some (.ref x))/\H x=some (.ins (Z.κ c) dx (ns.zip vs))/\ns.length=vs.length/\Dens Z G vs ds/\G x=none/\B.m x
 oo1:∀ (i j:Nat) c ns ds c' ns' ds' x,i ≠ j->δ[i]?=some (some (.oo c ns ds))->δ[j]?=some (some (.oo c' ns' ds'))->σ[i]?=some (some (.ref x))->σ[j]?=some (some (.ref x))->False
structure Ext (G H G' H':Hp):Prop where
 sG:bV G G'
 sH:bV H H'
 GH:bV G' H'
 new:∀ a,G' a ≠ none->G a ≠ none \/ H a=none
theorem Ext.refl {G H:Hp} (h:bV G H):Ext G H G H:=⟨bV.refl _,bV.refl _,h,λ _ z=>.inl z⟩
theorem Ext.trans {G H G1 H1 G2 H2:Hp} (a:Ext G H G1 H1) (b:Ext G1 H1 G2 H2):Ext G H G2 H2:=
 ⟨a.sG.trans b.sG,a.sH.trans b.sH,b.GH,λ x z=>(b.new x z).elim (a.new x) λ q=>.inr (a.sH.free q)⟩
section
variable {Z:Zx} {B:Gd} {H₀ G H G' H':Hp} {σ:St} {δ:Ev}
theorem Hold.ext (h:Hold B H₀ G H) (e:Ext G H G' H'):Hold B H₀ G' H' where
 gG:=h.gG.trans e.sG
 GH:=e.GH
 old:=λ b o q n=>e.sH _ _ (h.old b o q n)
 there:=λ b q=>by
  have:=h.there b q
  cases z:H b with
  | none=>exact absurd z this
  | some o=>rw [e.sH _ _ z];simp
 lent:=λ b q n=>by
  cases z:G' b with
  | none=>rfl
  | some o =>
   rcases e.new b (by rw [z];simp) with y | y
   ·exact absurd (h.lent b q n) y
   ·exact absurd y (h.there b q)
theorem Rep.ext (r:Rep Z B H₀ G H σ δ) (e:Ext G H G' H'):Rep Z B H₀ G' H' σ δ where
 toHold:=r.toHold.ext e
 len:=r.len
 sh:=λ i d q=>let ⟨v,a,b⟩:=r.sh i d q;⟨v,a,b.mono e.sG⟩
 ow:=λ i ds q=>by
  obtain ⟨a,vs,x1,x2,x3,x4,x5⟩:=r.ow i ds q
  refine ⟨a,vs,x1,e.sH _ _ x2,x3.mono e.sG,?_,x5⟩
  cases z:G' a with
  | none=>rfl
  | some o =>
   rcases e.new a (by rw [z];simp) with y | y
   ·exact absurd x4 y
   ·rw [x2] at y;cases y
 sep:=r.sep
 oo:=λ i c ns ds q=>by
  obtain ⟨x,dx,vs,x1,x2,x3,x4,x5,x6⟩:=r.oo i c ns ds q
  refine ⟨x,dx,vs,x1,e.sH _ _ x2,x3,x4.mono e.sG,?_,x6⟩
  cases z:G' x with
  | none=>rfl
  | some o =>
   rcases e.new x (by rw [z];simp) with y | y
   ·exact absurd x5 y
   ·rw [x2] at y;cases y
 oo1:=r.oo1
theorem bq {α:Type} {l:List α} {i j:Nat} {x y:α} (h:(l.set i x)[j]?=some y):(j=i/\y=x/\i < l.length) \/ (j ≠ i/\l[j]?=some y):=by
 by_cases e:j=i
 ·subst e
  by_cases hl:j < l.length
  ·rw [List.getElem?_set_self hl] at h;exact .inl ⟨rfl,(Option.some.inj h).symm,hl⟩
  ·rw [List.getElem?_eq_none (by simpa using hl)] at h;cases h
 ·rw [List.getElem?_set_ne (Ne.symm e)] at h;exact .inr ⟨e,h⟩
theorem Rep.setSh (r:Rep Z B H₀ G H σ δ) {i:Nat} {v:V} {d:D} (h:aW Z G v d):Rep Z B H₀ G H (σ.set i (some v)) (δ.set i (some (.sh d))) where
 toHold:=r.toHold
 len:=by simpa using r.len
 sh:=λ j e q=>by
  rcases bq q with ⟨rfl,e1,hl⟩ | ⟨n,q⟩
  ·cases e1
   exact ⟨v,List.getElem?_set_self (by rw [r.len];exact hl),h⟩
  ·obtain ⟨u,a,b⟩:=r.sh j e q
   exact ⟨u,by rw [List.getElem?_set_ne (Ne.symm n)];exact a,b⟩
 ow:=λ j ds q=>by
  rcases bq q with ⟨rfl,e1,hl⟩ | ⟨n,q⟩
  ·cases e1
  ·obtain ⟨a,vs,x1,x2,x3,x4,x5⟩:=r.ow j ds q
   exact ⟨a,vs,by rw [List.getElem?_set_ne (Ne.symm n)];exact x1,x2,x3,x4,x5⟩
 sep:=λ j k ds es a n q1 q2 s1 s2=>by
  rcases bq q1 with ⟨_,e1,_⟩ | ⟨n1,q1⟩
  ·cases e1
  ·rcases bq q2 with ⟨_,e1,_⟩ | ⟨n2,q2⟩
   ·cases e1
   ·rw [List.getElem?_set_ne (Ne.symm n1)] at s1
    rw [List.getElem?_set_ne (Ne.symm n2)] at s2
    exact r.sep j k ds es a n q1 q2 s1 s2
 oo:=λ j c ns ds q=>by
  rcases bq q with ⟨rfl,e1,hl⟩ | ⟨n,q⟩
  ·cases e1
  ·obtain ⟨x,dx,vs,x1,x2⟩:=r.oo j c ns ds q
   exact ⟨x,dx,vs,by rw [List.getElem?_set_ne (Ne.symm n)];exact x1,x2⟩
 oo1:=λ j k c ns ds c' ns' ds' x n q1 q2 s1 s2=>by
  rcases bq q1 with ⟨_,e1,_⟩ | ⟨n1,p1⟩
  ·cases e1
  ·rcases bq q2 with ⟨_,e2,_⟩ | ⟨n2,p2⟩
   ·cases e2
   ·rw [List.getElem?_set_ne (Ne.symm n1)] at s1
    rw [List.getElem?_set_ne (Ne.symm n2)] at s2
    exact r.oo1 j k c ns ds c' ns' ds' x n p1 p2 s1 s2
theorem Rep.setOw (r:Rep Z B H₀ G H σ δ) {i:Nat} {a:Addr} {vs:List V} {ds:List D} (h1:H a=some (.lst vs)) (h2:Dens Z G vs ds) (h3:G a=none) (h4:H₀ a=none)
  (h5:∀ (j:Nat) es,δ[j]?=some (some (.ow es))->j ≠ i->σ[j]? ≠ some (some (.ref a))):Rep Z B H₀ G H (σ.set i (some (.ref a))) (δ.set i (some (.ow ds))) where
 toHold:=r.toHold
 len:=by simpa using r.len
 sh:=λ j e q=>by
  rcases bq q with ⟨rfl,e1,hl⟩ | ⟨n,q⟩
  ·cases e1
  ·obtain ⟨u,a,b⟩:=r.sh j e q
   exact ⟨u,by rw [List.getElem?_set_ne (Ne.symm n)];exact a,b⟩
 ow:=λ j es q=>by
  rcases bq q with ⟨rfl,e1,hl⟩ | ⟨n,q⟩
  ·cases e1
   exact ⟨a,vs,List.getElem?_set_self (by rw [r.len];exact hl),h1,h2,h3,h4⟩
  ·obtain ⟨b,us,x1,x2,x3,x4,x5⟩:=r.ow j es q
   exact ⟨b,us,by rw [List.getElem?_set_ne (Ne.symm n)];exact x1,x2,x3,x4,x5⟩
 sep:=λ j k es fs b n q1 q2 s1 s2=>by
  rcases bq q1 with ⟨ej,e1,l1⟩ | ⟨n1,p1⟩
  ·rcases bq q2 with ⟨ek,_⟩ | ⟨n2,p2⟩
   ·exact n (ej.trans ek.symm)
   ·rw [ej,List.getElem?_set_self (by rw [r.len];exact l1)] at s1
    rw [List.getElem?_set_ne (Ne.symm n2)] at s2
    cases s1
    exact h5 k fs p2 n2 s2
  ·rcases bq q2 with ⟨ek,e1,l2⟩ | ⟨n2,p2⟩
   ·rw [ek,List.getElem?_set_self (by rw [r.len];exact l2)] at s2
    rw [List.getElem?_set_ne (Ne.symm n1)] at s1
    cases s2
    exact h5 j es p1 n1 s1
   ·rw [List.getElem?_set_ne (Ne.symm n1)] at s1
    rw [List.getElem?_set_ne (Ne.symm n2)] at s2
    exact r.sep j k es fs b n p1 p2 s1 s2
 oo:=λ j c ns es q=>by
  rcases bq q with ⟨rfl,e1,hl⟩ | ⟨n,q⟩
  ·cases e1
  ·obtain ⟨x,dx,us,x1,x2⟩:=r.oo j c ns es q
   exact ⟨x,dx,us,by rw [List.getElem?_set_ne (Ne.symm n)];exact x1,x2⟩
 oo1:=λ j k c ns es c' ns' es' x n q1 q2 s1 s2=>by
  rcases bq q1 with ⟨_,e1,_⟩ | ⟨n1,p1⟩
  ·cases e1
  ·rcases bq q2 with ⟨_,e2,_⟩ | ⟨n2,p2⟩
   ·cases e2
   ·rw [List.getElem?_set_ne (Ne.symm n1)] at s1
    rw [List.getElem?_set_ne (Ne.symm n2)] at s2
    exact r.oo1 j k c ns es c' ns' es' x n p1 p2 s1 s2
theorem Rep.updOw (r:Rep Z B H₀ G H σ δ) {i:Nat} {a:Addr} {ds es:List D} {us:List V} (q:δ[i]?=some (some (.ow ds))) (s:σ[i]?=some (some (.ref a))) (h2:Dens Z G us es) :
  Rep Z B H₀ G (upd H a (.lst us)) σ (δ.set i (some (.ow es))):=by
 obtain ⟨a',vs,x1,x2,x3,x4,x5⟩:=r.ow i ds q
 rw [s] at x1;cases x1
 have ha:∀ b o,G b=some o->b ≠ a:=λ b o z e=>by rw [e,x4] at z;cases z
 refine ⟨⟨r.gG,λ b o z=>by rw [aC (ha b o z)];exact r.GH b o z,λ b o z n=>?_,λ b z=>?_,r.lent⟩,by simpa using r.len,λ j e q'=>?_,λ j fs q'=>?_,λ j k fs gs b n q1 q2 s1 s2=>?_,λ j c ns fs q'=>?_,λ j k c ns fs c' ns' fs' x n q1 q2 s1 s2=>?_⟩
 ·rw [aC (by rintro rfl;rw [x5] at z;cases z)];exact r.old b o z n
 ·by_cases hb:b=a
  ·subst hb;rw [aM];simp
  ·rw [aC hb];exact r.there b z
 ·rcases bq q' with ⟨_,e1,_⟩ | ⟨n,q'⟩
  ·cases e1
  ·exact r.sh j e q'
 ·rcases bq q' with ⟨rfl,e1,_⟩ | ⟨n,q'⟩
  ·cases e1
   exact ⟨a,us,s,aM,h2,x4,x5⟩
  ·obtain ⟨b,ws,y1,y2,y3,y4,y5⟩:=r.ow j fs q'
   have:b ≠ a:=by rintro rfl;exact r.sep j i fs ds b n q' q y1 s
   exact ⟨b,ws,y1,by rw [aC this];exact y2,y3,y4,y5⟩
 ·have f:∀ (l:Nat) es',(δ.set i (some (.ow es)))[l]?=some (some (.ow es'))->∃ es'',δ[l]?=some (some (.ow es'')):=λ l es' z=>by
   rcases bq z with ⟨rfl,_⟩ | ⟨_,z⟩
   ·exact ⟨ds,q⟩
   ·exact ⟨_,z⟩
  obtain ⟨_,z1⟩:=f j fs q1
  obtain ⟨_,z2⟩:=f k gs q2
  exact r.sep j k _ _ b n z1 z2 s1 s2
 ·rcases bq q' with ⟨_,e1,_⟩ | ⟨n,q'⟩
  ·cases e1
  ·obtain ⟨x,dx,ws,y1,y2,y3⟩:=r.oo j c ns fs q'
   have:x ≠ a:=Gi y2 x2 (by intro z;cases z)
   exact ⟨x,dx,ws,y1,by rw [aC this];exact y2,y3⟩
 ·rcases bq q1 with ⟨_,e1,_⟩ | ⟨_,p1⟩
  ·cases e1
  ·rcases bq q2 with ⟨_,e2,_⟩ | ⟨_,p2⟩
   ·cases e2
   ·exact r.oo1 j k c ns fs c' ns' fs' x n p1 p2 s1 s2
noncomputable def qc (i:Nat) (δ:Ev):Ev:=match δ[i]? with
 | some (some (.ow ds))=>δ.set i (some (.sh (.lst ds)))
 | _=>δ
theorem Rep.freeze (r:Rep Z B H₀ G H σ δ) (i:Nat):∃ G',Rep Z B H₀ G' H σ (qc i δ):=by
 unfold qc
 split
 ·rename_i ds q
  obtain ⟨a,vs,x1,x2,x3,x4,x5⟩:=r.ow i ds q
  have sg:bV G (upd G a (.lst vs)):=λ b o z=>by
   rw [aC (by rintro rfl;rw [x4] at z;cases z)];exact z
  have sh':bV (upd G a (.lst vs)) H:=λ b o z=>by
   by_cases hb:b=a
   ·subst hb;rw [aM] at z;cases z;exact x2
   ·rw [aC hb] at z;exact r.GH b o z
  refine ⟨upd G a (.lst vs),⟨⟨r.gG.trans sg,sh',r.old,r.there,λ b z n=>?_⟩,by simpa using r.len,λ j e q'=>?_,λ j fs q'=>?_,λ j k fs gs b n q1 q2 s1 s2=>?_,λ j c ns fs q'=>?_,λ j k c ns fs c' ns' fs' x n q1 q2 s1 s2=>?_⟩⟩
  ·rw [aC (by rintro rfl;exact z x5)];exact r.lent b z n
  ·rcases bq q' with ⟨rfl,e1,_⟩ | ⟨n,q'⟩
   ·cases e1
    exact ⟨.ref a,x1,by unfold aW;exact ⟨a,vs,rfl,cR.of aM,x3.mono sg⟩⟩
   ·obtain ⟨u,y1,y2⟩:=r.sh j e q'
    exact ⟨u,y1,y2.mono sg⟩
  ·rcases bq q' with ⟨_,e1,_⟩ | ⟨n,q'⟩
   ·cases e1
   ·obtain ⟨b,ws,y1,y2,y3,y4,y5⟩:=r.ow j fs q'
    have:b ≠ a:=by rintro rfl;exact r.sep j i fs ds b n q' q y1 x1
    exact ⟨b,ws,y1,y2,y3.mono sg,by rw [aC this];exact y4,y5⟩
  ·rcases bq q1 with ⟨_,e1,_⟩ | ⟨n1,q1⟩
   ·cases e1
   ·rcases bq q2 with ⟨_,e1,_⟩ | ⟨n2,q2⟩
    ·cases e1
    ·exact r.sep j k fs gs b n q1 q2 s1 s2
  ·rcases bq q' with ⟨_,e1,_⟩ | ⟨n,q'⟩
   ·cases e1
   ·obtain ⟨x,dx,ws,y1,y2,y3,y4,y5,y6⟩:=r.oo j c ns fs q'
    have:x ≠ a:=Gi y2 x2 (by intro z;cases z)
    exact ⟨x,dx,ws,y1,y2,y3,y4.mono sg,by rw [aC this];exact y5,y6⟩
  ·rcases bq q1 with ⟨_,e1,_⟩ | ⟨_,p1⟩
   ·cases e1
   ·rcases bq q2 with ⟨_,e2,_⟩ | ⟨_,p2⟩
    ·cases e2
    ·exact r.oo1 j k c ns fs c' ns' fs' x n p1 p2 s1 s2
 ·exact ⟨G,r⟩
end
end L3
namespace L3
open PySem PySem.Spec PyProof.Rows L2
noncomputable abbrev At (X:Cx) (pins:List (Addr × Obj)) (σ:St) (Ex:Value->Shared->Prop):Cx:={ X with xe:=Ex,sg:=λ p τ=>p=pins/\τ=σ }
theorem JY {X:Cx} {pins:List (Addr × Obj)} {σ:St} {Ex:Value->Shared->Prop} (ok:X.Ok):(At X pins σ Ex).Ok:=
 ⟨ok.mod,ok.kind,ok.glob,ok.blt,ok.above,ok.inj,ok.has,ok.cab,ok.hd,ok.frames,ok.stk,ok.exf,ok.bs,ok.bsz,ok.noex,ok.exfs,ok.funs,ok.frf⟩
theorem EF {X:Cx} {pins:List (Addr × Obj)} {σ:St} {Ex Ex':Value->Shared->Prop} (ok:(At X pins σ Ex).Ok):(X.wish Ex').Ok:=
 ⟨ok.mod,ok.kind,ok.glob,ok.blt,ok.above,ok.inj,ok.has,ok.cab,ok.hd,ok.frames,ok.stk,ok.exf,ok.bs,ok.bsz,ok.noex,ok.exfs,ok.funs,ok.frf⟩
theorem jJ {X:Cx} {pins:List (Addr × Obj)} {σ:St} {Ex Ex':Value->Shared->Prop} {H:Hp} {s:Shared} (I:Inv (X.wish Ex') pins σ H s):Inv (At X pins σ Ex) pins σ H s:=
 ⟨JY I.ok.unwish,I.os,I.bare,I.base,I.loc,I.cell,I.free,I.freeC,I.pin,I.hok,I.len,⟨rfl,rfl⟩⟩
theorem dC {X:Cx} {pins pins':List (Addr × Obj)} {σ σ':St} {Ex:Value->Shared->Prop} {H:Hp} {s:Shared} (hsg:∀ p τ,X.sg p τ) (I:Inv (At X pins σ Ex) pins' σ' H s):Inv (X.wish Ex) pins σ H s:=by
 obtain ⟨rfl,rfl⟩:=I.sgm
 exact ⟨EF I.ok,I.os,I.bare,I.base,I.loc,I.cell,I.free,I.freeC,I.pin,I.hok,I.len,hsg _ _⟩
noncomputable def EX (X:Cx) (pins:List (Addr × Obj)) (σ:St) (Ex:Value->Shared->Prop):XK:=λ C _ H'=>∀ ea s',Inv (X.wish Ex) pins σ H' s'->Flies X pins H' s' ea C->Ex (.ref ea) s'
theorem BZ {X:Cx} {pins pins':List (Addr × Obj)} {σ:St} {Ex:Value->Shared->Prop} {H:Hp} {s:Shared} {ea:Addr} {C:Value} (F:Flies (At X pins σ Ex) pins' H s ea C):Flies X pins' H s ea C:=by
 have c:∀ {b},FreshX (At X pins σ Ex) pins' H b->FreshX X pins' H b:=λ f=>⟨f.nl,f.nc,f.np,f.n0,f.nh⟩
 obtain ⟨⟨oe,vs,a0,t1,t2,t3,t4,t5⟩,fr⟩:=F
 refine ⟨⟨oe,vs,a0,t1,t2,t3,t4,t5.imp id ?_⟩,c fr⟩
 rintro ⟨T,oT,ts,x1,x2,x3,x4,x5,x6⟩
 exact ⟨T,oT,ts,x1,x2,x3,x4,x5,c x6⟩
structure Cxo (X:Cx):Prop where
 sg:∀ p τ,X.sg p τ
 ex:X.ex=[]
theorem AZ {X:Cx} (c:Cxo X) {pins:List (Addr × Obj)} {σ:St} {Ex:Value->Shared->Prop}:xB (xA X.prog X.w) (At X pins σ Ex) (EX X pins σ Ex):=by
 intro pins' σ' H s e s' I h
 obtain ⟨rfl,rfl⟩:=I.sgm
 obtain ⟨ea,C,H',rfl,I',F,hE⟩:=AI I c.ex h
 exact hE ea s' (dC c.sg I') (BZ F)
theorem bT {X:Cx} {e:Expr} {t t':TE} (h:PE X e t) (k:∀ σ H Q,t' σ H Q->t σ H Q):PE X e t':=λ pins s σ H Q I q=>h pins s σ H Q I (k σ H Q q)
theorem yr {X:Cx} {e:Expr} {t t':TT} (h:PT X e t) (k:∀ σ H Q,t' σ H Q->t σ H Q):PT X e t':=λ pins s σ H Q I q=>h pins s σ H Q I (k σ H Q q)
theorem Db {X:Cx} {e:Expr} {t t':TT} (h:PW X e t) (k:∀ σ H Q,t' σ H Q->t σ H Q):PW X e t':=λ wh pins s σ H Q I q=>h wh pins s σ H Q I (k σ H Q q)
theorem CJ {X:Cx} {e:List Expr} {t t':TA} (h:PA X e t) (k:∀ σ H Q,t' σ H Q->t σ H Q):PA X e t':=λ pos pins s σ H Q I q=>h pos pins s σ H Q I (k σ H Q q)
noncomputable def rK {α β:Type} (rel:Hp->Hp->β->α->Prop) (κ:Nat->Addr) (E:XK) (G H:Hp) (r:R α) (Q:β->Hp->Prop):Prop:=match r with
 | .ok d=>∀ v H' G',Ext G H G' H'->rel G' H' v d->Q v H'
 | .exc c=>∀ H' G',Ext G H G' H'->E (.ref (κ c)) none H'
 | .stuck=>False
section
variable {α α' β β':Type} {rel:Hp->Hp->β->α->Prop} {rel':Hp->Hp->β'->α'->Prop} {κ:Nat->Addr} {E:XK} {G H G' H':Hp}
theorem rK.pre {r:R α} {Q:β->Hp->Prop} (e:Ext G H G' H') (h:rK rel κ E G H r Q):rK rel κ E G' H' r Q:=by
 cases r with
 | ok d=>exact λ v H2 G2 e2 q=>h v H2 G2 (e.trans e2) q
 | exc c=>exact λ H2 G2 e2=>h H2 G2 (e.trans e2)
 | stuck=>exact h
theorem rK.seq {ra:R α} {k:α->R α'} {P:β->Hp->Prop} {Q:β'->Hp->Prop} (h:rK rel' κ E G H (ra.bind k) Q)
  (hk:∀ a v H1 G1,Ext G H G1 H1->rel G1 H1 v a->rK rel' κ E G1 H1 (k a) Q->P v H1):rK rel κ E G H ra P:=by
 cases ra with
 | ok d=>exact λ v H2 G2 e2 q=>hk d v H2 G2 e2 q (rK.pre e2 h)
 | exc c=>exact h
 | stuck=>exact h
end
noncomputable abbrev ig (X:Cx) (κ:Nat->Addr):Hp->Hp->V->D->Prop:=λ G _ v d=>aW ⟨X.K,κ⟩ G v d
noncomputable abbrev gc (X:Cx) (κ:Nat->Addr):Hp->Hp->List V->List D->Prop:=λ G _ v d=>Dens ⟨X.K,κ⟩ G v d
noncomputable abbrev GJ:Hp->Hp->Bool->Bool->Prop:=λ _ _ b d=>b=d
noncomputable def iz (X:Cx) (κ:Nat->Addr):Hp->Hp->V->D->Prop:=λ G H v d=>aW ⟨X.K,κ⟩ G v d \/ ∃ a vs ds,v=.ref a/\d=.lst ds/\H a=some (.lst vs)/\Dens ⟨X.K,κ⟩ G vs ds
theorem fm {X:Cx} {κ:Nat->Addr} {G H G' H':Hp} {v:V} {d:D} (e:Ext G H G' H') (h:iz X κ G H v d):iz X κ G' H' v d:=by
 rcases h with h | ⟨a,vs,ds,h1,h2,h3,h4⟩
 ·exact .inl (h.mono e.sG)
 ·exact .inr ⟨a,vs,ds,h1,h2,e.sH _ _ h3,h4.mono e.sG⟩
noncomputable def tO {α β:Type} (rel:Hp->Hp->β->α->Prop) (X:Cx) (κ:Nat->Addr) (B:Gd) (E:XK) (f:Ev->R α):St->Hp->(β->Hp->Prop)->Prop:=
 λ σ H Q=>∃ G δ,Rep ⟨X.K,κ⟩ B X.H₀ G H σ δ/\rK rel κ E G H (f δ) Q
noncomputable def PX (κ:Nat->Addr) (B:Gd) (X:Cx) (e:Expr) (f:Ev->R D):Prop:=∀ pins σ Ex,PE (At X pins σ Ex) e (tO (ig X κ) X κ B (EX X pins σ Ex) f)
noncomputable def cT (κ:Nat->Addr) (B:Gd) (X:Cx) (e:Expr) (f:Ev->R D):Prop:=∀ pins σ Ex,PE (At X pins σ Ex) e (tO (iz X κ) X κ B (EX X pins σ Ex) f)
noncomputable def qU (κ:Nat->Addr) (B:Gd) (X:Cx) (es:List Expr) (f:Ev->R (List D)):Prop:=∀ pins σ Ex,PA (At X pins σ Ex) es (tO (gc X κ) X κ B (EX X pins σ Ex) f)
noncomputable def nG (κ:Nat->Addr) (B:Gd) (X:Cx) (e:Expr) (f:Ev->R Bool):Prop:=∀ pins σ Ex,PT (At X pins σ Ex) e (tO GJ X κ B (EX X pins σ Ex) f)
noncomputable def DZ (κ:Nat->Addr) (B:Gd) (X:Cx) (e:Expr) (f:Ev->R Bool):Prop:=∀ pins σ Ex,PW (At X pins σ Ex) e (tO GJ X κ B (EX X pins σ Ex) f)
section
variable {κ:Nat->Addr} {B:Gd} {X:Cx} {a b c:Expr} {fa fb fc:Ev->R D} {pos:Pos}
theorem PX.read (h:PX κ B X a fa):cT κ B X a fa:=λ pins σ Ex=>bT (h pins σ Ex) λ τ H Q hz=>gd hz λ G δ r q=>⟨G,δ,r,by
 cases e:fa δ with
 | ok d=>rw [e] at q;exact λ v H' G' x y=>q v H' G' x (.inl y)
 | exc c=>rw [e] at q;exact q
 | stuck=>rw [e] at q;exact q⟩
noncomputable def mC (d:D):Ev->R D:=λ _=>.ok d
theorem E8 {e:Expr} {v:V} {d:D} (h:∀ pins σ Ex,PE (At X pins σ Ex) e (tC v)) (hd:∀ G,aW ⟨X.K,κ⟩ G v d):PX κ B X e (mC d):=λ pins σ Ex=>bT (h pins σ Ex) λ τ H Q hz=>gd hz λ G δ r q=>q v H G (Ext.refl r.GH) (hd G)
theorem Dc {i:Int} {j pos}:PX κ B X (.Constant (.int i) j pos) (mC (.int i)):=E8 (λ _ _ _=>CO) λ _=>by unfold aW;rfl
theorem Gs {i:Bool} {j pos}:PX κ B X (.Constant (.bool i) j pos) (mC (.bl i)):=E8 (λ _ _ _=>J3) λ _=>by unfold aW;rfl
theorem Dd {x:Str} {l:List Nat} {j pos} (h:x=⟨l.toArray⟩):PX κ B X (.Constant (.str x) j pos) (mC (.str l)):=E8 (λ _ _ _=>CQ) λ _=>by unfold aW;rw [h]
noncomputable def ae (i:Nat):Ev->R D:=λ δ=>match δ[i]? with
 | some (some (.sh d))=>.ok d
 | _=>.stuck
noncomputable def lA (i:Nat):Ev->R D:=λ δ=>match δ[i]? with
 | some (some (.sh d))=>.ok d
 | some (some (.ow ds))=>.ok (.lst ds)
 | _=>.stuck
theorem Ik (i:Nat) {x:Str} (hN:X.N[i]?=some x) (hv:rL X.env.scope x) (hd:(x == ("__debug__" : Str))=false) (hcd:(x == ("__classdict__" : Str))=false):PX κ B X (.Name x pos) (ae i):=λ pins σ Ex =>
 bT (lM (X:=At X pins σ Ex) hN hv hd hcd) λ τ H Q hz=>gd hz λ G δ r q=>by
  unfold ae at q
  split at q
  ·rename_i d e
   obtain ⟨v,e1,e2⟩:=r.sh i d e
   exact ⟨v,e1,q v H G (Ext.refl r.GH) e2⟩
  ·exact q.elim
theorem Fd (i:Nat) {x:Str} (hN:X.N[i]?=some x) (hv:rL X.env.scope x) (hd:(x == ("__debug__" : Str))=false) (hcd:(x == ("__classdict__" : Str))=false):cT κ B X (.Name x pos) (lA i):=λ pins σ Ex =>
 bT (lM (X:=At X pins σ Ex) hN hv hd hcd) λ τ H Q hz=>gd hz λ G δ r q=>by
  unfold lA at q
  split at q
  ·rename_i d e
   obtain ⟨v,e1,e2⟩:=r.sh i d e
   exact ⟨v,e1,q v H G (Ext.refl r.GH) (.inl e2)⟩
  ·rename_i ds e
   obtain ⟨l,vs,e1,e2,e3,_⟩:=r.ow i ds e
   exact ⟨.ref l,e1,q _ H G (Ext.refl r.GH) (.inr ⟨l,vs,ds,rfl,rfl,e2,e3⟩)⟩
  ·exact q.elim
theorem Fb {x:Str} {v:V} {u:Value} {d:D} (hg:Gl X x) (hm:X.mg x=some u) (r:bg v u) (hd:∀ G,aW ⟨X.K,κ⟩ G v d) (hdb:(x == ("__debug__" : Str))=false):PX κ B X (.Name x pos) (mC d):=
 E8 (λ pins σ Ex=>ES (X:=At X pins σ Ex) hg hm r hdb) hd
noncomputable def m2 (op:D->D->R D) (fa fb:Ev->R D):Ev->R D:=λ δ=>(fa δ).bind λ x=>(fb δ).bind λ y=>op x y
noncomputable def m1 (op:D->R D) (fa:Ev->R D):Ev->R D:=λ δ=>(fa δ).bind op
noncomputable def pB (κ:Nat->Addr) (X:Cx) (r:R2) (op:D->D->R D):Prop:=∀ x y v u G H Q E,bV G H->iz X κ G H v x->iz X κ G H u y->rK (ig X κ) κ E G H (op x y) Q->r v u H Q
theorem sP {o:Operator} {r:R2} {op:D->D->R D} (ho:∀ Y:Cx,Y.K=X.K->lC Y (binaryOp o) r) (hop:pB κ X r op) (ha:cT κ B X a fa) (hb:cT κ B X b fb):PX κ B X (.BinOp a o b pos) (m2 op fa fb):=λ pins σ Ex =>
 bT (J4 (ho (At X pins σ Ex) rfl) (ha pins σ Ex) (hb pins σ Ex)) λ τ H Q hz=>gd hz λ G δ rp q=>⟨G,δ,rp,q.seq λ x v H1 G1 e1 d1 q1=>⟨G1,δ,rp.ext e1,q1.seq λ y u H2 G2 e2 d2 q2 =>
  hop x y v u G2 H2 Q _ e2.GH (fm e2 d1) d2 q2⟩⟩
theorem n4 {o:CmpOp} {r:R2} {op:D->D->R D} (ho:∀ Y:Cx,Y.K=X.K->Y.A=X.A->lC Y (compareOp o) r) (hop:pB κ X r op) (ha:cT κ B X a fa) (hb:cT κ B X b fb) (hm:behindInMarks o b=false):PX κ B X (.Compare a [o] [b] pos) (m2 op fa fb):=λ pins σ Ex =>
 bT (EO (ho (At X pins σ Ex) rfl rfl) (ha pins σ Ex) (hb pins σ Ex) hm) λ τ H Q hz=>gd hz λ G δ rp q=>⟨G,δ,rp,q.seq λ x v H1 G1 e1 d1 q1=>⟨G1,δ,rp.ext e1,q1.seq λ y u H2 G2 e2 d2 q2 =>
  hop x y v u G2 H2 Q _ e2.GH (fm e2 d1) d2 q2⟩⟩
noncomputable def bC (op:D->D->R Bool) (fa fb:Ev->R D):Ev->R Bool:=λ δ=>(fa δ).bind λ x=>(fb δ).bind λ y=>op x y
noncomputable def BC:R Bool->R D
 | .ok b=>.ok (.bl b)
 | .exc c=>.exc c
 | .stuck=>.stuck
noncomputable def dL (op:D->D->R Bool):D->D->R D:=λ x y=>BC (op x y)
theorem gg {o:CmpOp} {r:R2} {op:D->D->R Bool} (ho:∀ Y:Cx,Y.K=X.K->Y.A=X.A->lC Y (compareOp o) r) (hop:pB κ X r (dL op)) (ha:cT κ B X a fa) (hb:cT κ B X b fb) (hm:behindInMarks o b=false):nG κ B X (.Compare a [o] [b] pos) (bC op fa fb):=λ pins σ Ex =>
 yr (E3 (ho (At X pins σ Ex) rfl rfl) (ha pins σ Ex) (hb pins σ Ex) hm) λ τ H Q hz=>gd hz λ G δ rp q=>⟨G,δ,rp,q.seq λ x v H1 G1 e1 d1 q1=>⟨G1,δ,rp.ext e1,q1.seq λ y u H2 G2 e2 d2 q2 =>
  hop x y v u G2 H2 _ _ e2.GH (fm e2 d1) d2 (by
   unfold dL
   cases e:op x y with
   | ok k =>
    rw [e] at q2
    intro z H3 G3 e3 d3
    have d3':z=.bl k:=by simpa [aW] using d3
    exact ⟨k,d3',q2 k H3 G3 e3 rfl⟩
   | exc c=>rw [e] at q2;exact q2
   | stuck=>rw [e] at q2;exact q2)⟩⟩
theorem ny {G H:Hp} {v:V} {i:Int} (h:iz X κ G H v (.int i)):v=.int i:=by
 rcases h with h | ⟨_,_,_,_,e,_⟩
 ·simpa [aW] using h
 ·cases e
theorem tJ {Z:Zx} {G:Hp} {i:Int}:aW Z G (.int i) (.int i):=by unfold aW;rfl
theorem Jd {Z:Zx} {G:Hp} {i:Bool}:aW Z G (.bl i) (.bl i):=by unfold aW;rfl
theorem Lv {Z:Zx} {G:Hp} {i:List Nat}:aW Z G (gE i) (.str i):=by unfold aW;rfl
theorem Lu {Z:Zx} {G:Hp}:aW Z G .non .non:=by unfold aW;rfl
noncomputable def oI (C:Int->Int->Bool) (g:Int->Int->Int):D->D->R D
 | .int i,.int j=>if C i j then .ok (.int (g i j)) else .stuck
 | _,_=>.stuck
theorem yi {C:Int->Int->Prop} {C':Int->Int->Bool} {g:Int->Int->Int} (hc:∀ i j,C' i j=true->C i j):pB κ X (rI C λ i j=>.int (g i j)) (oI C' g):=by
 intro x y v u G H Q E s d1 d2 q
 unfold oI at q
 split at q
 ·rename_i i j
  split at q
  ·rename_i h
   exact ⟨i,j,ny d1,ny d2,hc _ _ h,q _ H G (Ext.refl s) tJ⟩
  ·exact q.elim
 ·exact q.elim
noncomputable def LX (g:Int->Int->Int):D->D->R D
 | .int i,.int j=>.ok (.int (g i j))
 | _,_=>.stuck
theorem EH {g:Int->Int->Int}:pB κ X (DS λ i j=>.int (g i j)) (LX g):=by
 intro x y v u G H Q E s d1 d2 q
 unfold LX at q
 split at q
 ·exact ⟨_,_,ny d1,ny d2,q _ H G (Ext.refl s) tJ⟩
 ·exact q.elim
noncomputable def gA:D->D->R D:=LX λ i j=>i - j
noncomputable def jP:D->D->R D:=oI (λ i j=>(decide (-(2 ^ 64) < i) && decide (i < 2 ^ 64)) || (decide (-(2 ^ 64) < j) && decide (j < 2 ^ 64))) λ i j=>i * j
noncomputable def cY:D->D->R D:=oI (λ _ j=>decide (0 < j) && decide (j < 1073741824)) λ i j=>i / j
noncomputable def bp:D->D->R D:=oI (λ _ j=>decide (0 < j)) λ i j=>i % j
theorem Ii (ha:cT κ B X a fa) (hb:cT κ B X b fb):PX κ B X (.BinOp a .Sub b pos) (m2 gA fa fb):=sP (λ _ _=>HH) EH ha hb
theorem Fc (ha:cT κ B X a fa) (hb:cT κ B X b fb):PX κ B X (.BinOp a .Mult b pos) (m2 jP fa fb):=sP (λ _ _=>HG) (yi λ i j h=>by unfold DV;simpa using h) ha hb
theorem Ia (ha:cT κ B X a fa) (hb:cT κ B X b fb):PX κ B X (.BinOp a .FloorDiv b pos) (m2 cY fa fb):=sP (λ _ _=>EK) (yi λ i j h=>by unfold Jj;simpa using h) ha hb
theorem Ig (ha:cT κ B X a fa) (hb:cT κ B X b fb):PX κ B X (.BinOp a .Mod b pos) (m2 bp fa fb):=sP (λ _ _=>HF) (yi λ i j h=>by simpa using h) ha hb
noncomputable def aT:D->D->R D
 | .int i,.int j=>.ok (.int (i + j))
 | .str x,.str y=>if x.length + y.length <= 1000000 then .ok (.str (x++y)) else .stuck
 | _,_=>.stuck
theorem wV {G H:Hp} {v:V} {x:List Nat} (h:iz X κ G H v (.str x)):v=gE x:=by
 rcases h with h | ⟨_,_,_,_,e,_⟩
 ·simpa [aW] using h
 ·cases e
theorem HD {Y:Cx} {f:Value->Value->Sem Value} {r r':R2} (h:lC Y f r) (h':lC Y f r'):lC Y f (λ x y H Q=>r x y H Q \/ r' x y H Q):=by
 intro pins s σ H x y v u Q I rx ry q
 rcases q with q | q
 ·exact h pins s σ H x y v u Q I rx ry q
 ·exact h' pins s σ H x y v u Q I rx ry q
theorem xF {n:Nat} (h:n <= 1000000):n <= sizeLine:=Nat.le_trans h (by rw [sizeLine_eq];decide)
theorem HY (ha:cT κ B X a fa) (hb:cT κ B X b fb):PX κ B X (.BinOp a .Add b pos) (m2 aT fa fb):=sP (λ _ _=>HD HE yj) (by
 intro x y v u G H Q E s d1 d2 q
 unfold aT at q
 split at q
 ·exact .inl ⟨_,_,ny d1,ny d2,q _ H G (Ext.refl s) tJ⟩
 ·rename_i x y
  split at q
  ·rename_i h
   refine .inr ⟨_,_,wV d1,wV d2,xF (by simpa [Str.length] using h),?_⟩
   exact q _ H G (Ext.refl s) (by unfold aW;show V.str ⟨x.toArray++y.toArray⟩=V.str ⟨(x++y).toArray⟩;simp)
  ·exact q.elim
 ·exact q.elim) ha hb
noncomputable def AQ (p:Int->Int->Bool):D->D->R Bool
 | .int i,.int j=>.ok (p i j)
 | _,_=>.stuck
theorem fF {p:Int->Int->Bool}:pB κ X (DS λ i j=>.bl (p i j)) (dL (AQ p)):=by
 intro x y v u G H Q E s d1 d2 q
 unfold dL AQ at q
 split at q
 ·exact ⟨_,_,ny d1,ny d2,q _ H G (Ext.refl s) Jd⟩
 ·exact False.elim q
noncomputable def oW:D->D->R Bool:=AQ λ i j=>decide (i < j)
noncomputable def Bt:D->D->R Bool:=AQ λ i j=>decide (i <= j)
noncomputable def nF:D->D->R Bool:=AQ λ i j=>decide (j < i)
noncomputable def Gk:D->D->R Bool:=AQ λ i j=>decide (j <= i)
theorem Kg (ha:cT κ B X a fa) (hb:cT κ B X b fb) (hm:behindInMarks .Lt b=false):PX κ B X (.Compare a [.Lt] [b] pos) (m2 (dL oW) fa fb):=n4 (λ _ _ _=>Gp) fF ha hb hm
theorem Kf (ha:cT κ B X a fa) (hb:cT κ B X b fb) (hm:behindInMarks .LtE b=false):PX κ B X (.Compare a [.LtE] [b] pos) (m2 (dL Bt) fa fb):=n4 (λ _ _ _=>Go) fF ha hb hm
theorem Kb (ha:cT κ B X a fa) (hb:cT κ B X b fb) (hm:behindInMarks .Gt b=false):PX κ B X (.Compare a [.Gt] [b] pos) (m2 (dL nF) fa fb):=n4 (λ _ _ _=>Gn) fF ha hb hm
theorem Ir (ha:cT κ B X a fa) (hb:cT κ B X b fb) (hm:behindInMarks .Lt b=false):nG κ B X (.Compare a [.Lt] [b] pos) (bC oW fa fb):=gg (λ _ _ _=>Gp) fF ha hb hm
theorem Iq (ha:cT κ B X a fa) (hb:cT κ B X b fb) (hm:behindInMarks .LtE b=false):nG κ B X (.Compare a [.LtE] [b] pos) (bC Bt fa fb):=gg (λ _ _ _=>Go) fF ha hb hm
theorem Io (ha:cT κ B X a fa) (hb:cT κ B X b fb) (hm:behindInMarks .Gt b=false):nG κ B X (.Compare a [.Gt] [b] pos) (bC nF fa fb):=gg (λ _ _ _=>Gn) fF ha hb hm
theorem Im (ha:cT κ B X a fa) (hb:cT κ B X b fb) (hm:behindInMarks .GtE b=false):nG κ B X (.Compare a [.GtE] [b] pos) (bC Gk fa fb):=gg (λ _ _ _=>J0) fF ha hb hm
noncomputable def DU:D->R Bool
 | .non=>.ok false
 | .bl b=>.ok b
 | .int i=>.ok (i != 0)
 | .str x=>if x.length <= 1000000 then .ok (!x.isEmpty) else .stuck
 | .tup ds=>.ok (!ds.isEmpty)
 | .lst ds=>.ok (!ds.isEmpty)
 | .ob _ _ _=>.stuck
 | .dic _ _=>.stuck
theorem m9 {Z:Zx} {G:Hp} {vs:List V} {ds:List D} (h:Dens Z G vs ds):vs.isEmpty=ds.isEmpty:=by
 have:=h.length
 cases vs <;> cases ds <;> simp_all
noncomputable def mT (f:Ev->R D):Ev->R Bool:=λ δ=>(f δ).bind DU
theorem Mk {G H:Hp} {v:V} {d:D} {k:Bool} (s:bV G H) (h:iz X κ G H v d) (e:DU d=.ok k):D0 X.K v H k:=by
 have seq:∀ {a:Addr} {vs:List V} {ds:List D},cR X.K H a vs->Dens ⟨X.K,κ⟩ G vs ds->R.ok (!ds.isEmpty)=R.ok k->D0 X.K (.ref a) H k:=λ h1 h2 e=>by
  injection e with e
  exact .inl ⟨_,h1,by rw [m9 h2,e]⟩
 rcases h with h | ⟨a,vs,ds,rfl,rfl,h3,h4⟩
 ·cases d with
  | non=>unfold aW at h;subst h;injection e with e;exact e.symm
  | bl b=>unfold aW at h;subst h;injection e with e;exact e.symm
  | int i=>unfold aW at h;subst h;injection e with e;exact e.symm
  | str x =>
   unfold aW at h;subst h
   simp only [DU] at e
   split at e
   ·rename_i hx
    injection e with e
    refine ⟨xF (by simpa [Str.length] using hx),?_⟩
    rw [<- e]
    cases x with
    | nil=>rfl
    | cons c l =>
     have:((l.length + 1:Nat):Int) ≠ 0:=by (first | lia | omega)
     simp [Str.length]
     exact this
   ·cases e
  | tup ds =>
   unfold aW at h
   obtain ⟨a,vs,rfl,h1,h2⟩:=h
   injection e with e
   exact .inr (.inl ⟨_,bY s h1,by rw [m9 h2,e]⟩)
  | lst ds =>
   unfold aW at h
   obtain ⟨a,vs,rfl,h1,h2⟩:=h
   exact seq (s.seq h1) h2 e
  | ob _ _ _=>cases e
  | dic _ _=>cases e
 ·exact seq (cR.of h3) h4 e
theorem Fi (ha:cT κ B X a fa) (he:∀ whole,isTrue a X.env whole=(do let v ← whole;standAt a.pos;holding [v] (truthy v))):nG κ B X a (mT fa):=λ pins σ Ex =>
 yr (C8 (X:=At X pins σ Ex) (ha pins σ Ex) he) λ τ H Q hz=>gd hz λ G δ rp q=>⟨G,δ,rp,q.seq λ x v H1 G1 e1 d1 q1=>by
  cases e:DU x with
  | ok k=>rw [e] at q1;exact ⟨k,Mk e1.GH d1 e,q1 k H1 G1 (Ext.refl e1.GH) rfl⟩
  | exc c =>
   exfalso
   cases x <;> simp [DU] at e
   split at e <;> cases e
  | stuck=>rw [e] at q1;exact q1.elim⟩
noncomputable def ud (f:Ev->R Bool):Ev->R Bool:=λ δ=>(f δ).bind λ k=>.ok (!k)
noncomputable def gX (f g:Ev->R Bool):Ev->R Bool:=λ δ=>(f δ).bind λ k=>if k then g δ else .ok false
noncomputable def ue (f g:Ev->R Bool):Ev->R Bool:=λ δ=>(f δ).bind λ k=>if k then .ok true else g δ
variable {ta tb:Ev->R Bool} {bf:List Expr}
theorem Fh (ha:nG κ B X a ta):nG κ B X (.UnaryOp .Not a pos) (ud ta):=λ pins σ Ex =>
 yr (HV (ha pins σ Ex)) λ τ H Q hz=>gd hz λ G δ rp q=>⟨G,δ,rp,q.seq λ x v H1 G1 e1 d1 q1=>by
  cases d1
  exact q1 (!x) H1 G1 (Ext.refl e1.GH) rfl⟩
theorem Di (ha:nG κ B X a ta):DZ κ B X (.BoolOp .And [a] pos) ta:=λ pins σ Ex=>E7 (ha pins σ Ex)
theorem Fk (ha:nG κ B X a ta):DZ κ B X (.BoolOp .Or [a] pos) ta:=λ pins σ Ex=>HX (ha pins σ Ex)
theorem Fj (ha:nG κ B X a ta) (hb:DZ κ B X (.BoolOp .And (b :: bf) pos) tb):DZ κ B X (.BoolOp .And (a :: b :: bf) pos) (gX ta tb):=λ pins σ Ex =>
 Db (HW (ha pins σ Ex) (hb pins σ Ex)) λ τ H Q hz=>gd hz λ G δ rp q=>⟨G,δ,rp,q.seq λ x v H1 G1 e1 d1 q1=>by
  cases d1
  cases x with
  | true=>exact ⟨G1,δ,rp.ext e1,q1⟩
  | false=>exact q1 false H1 G1 (Ext.refl e1.GH) rfl⟩
theorem Iu (ha:nG κ B X a ta) (hb:DZ κ B X (.BoolOp .Or (b :: bf) pos) tb):DZ κ B X (.BoolOp .Or (a :: b :: bf) pos) (ue ta tb):=λ pins σ Ex =>
 Db (J9 (ha pins σ Ex) (hb pins σ Ex)) λ τ H Q hz=>gd hz λ G δ rp q=>⟨G,δ,rp,q.seq λ x v H1 G1 e1 d1 q1=>by
  cases d1
  cases x with
  | true=>exact q1 true H1 G1 (Ext.refl e1.GH) rfl
  | false=>exact ⟨G1,δ,rp.ext e1,q1⟩⟩
theorem DZ.t (h:DZ κ B X a ta):nG κ B X a ta:=λ pins σ Ex=>(h pins σ Ex).pt
noncomputable def oF:D->R Bool
 | .bl b=>.ok b
 | _=>.stuck
noncomputable def jL (f g:Ev->R D):Ev->R D:=λ δ=>(f δ).bind λ x=>(oF x).bind λ k=>if k then g δ else .ok (.bl false)
noncomputable def uf (f g:Ev->R D):Ev->R D:=λ δ=>(f δ).bind λ x=>(oF x).bind λ k=>if k then .ok (.bl true) else g δ
noncomputable def JL (f:Ev->R D):Ev->R D:=λ δ=>(f δ).bind λ x=>(oF x).bind λ k=>.ok (.bl (!k))
theorem vG {x:D} {α:Type} {k:Bool->R α} {rel:Hp->Hp->V->α->Prop} {E:XK} {G H:Hp} {Q:V->Hp->Prop} {v:V} {Z:Zx} {G':Hp} (d:aW Z G' v x) (h:rK rel κ E G H ((oF x).bind k) Q):∃ c,v=.bl c/\x=.bl c/\rK rel κ E G H (k c) Q:=by
 cases x with
 | bl c=>exact ⟨c,by simpa [aW] using d,rfl,h⟩
 | _=>exact h.elim
theorem Ih {op} (h:PX κ B X a fa):PX κ B X (.BoolOp op [a] pos) fa:=λ pins σ Ex=>HK (h pins σ Ex)
theorem HZ (ha:PX κ B X a fa) (hb:PX κ B X (.BoolOp .And (b :: bf) pos) fb):PX κ B X (.BoolOp .And (a :: b :: bf) pos) (jL fa fb):=λ pins σ Ex =>
 bT (HJ (ha pins σ Ex) (hb pins σ Ex)) λ τ H Q hz=>gd hz λ G δ rp q=>⟨G,δ,rp,q.seq λ x v H1 G1 e1 d1 q1=>by
  obtain ⟨k,rfl,rfl,q1⟩:=vG d1 q1
  refine ⟨k,rfl,?_⟩
  cases k with
  | true=>exact ⟨G1,δ,rp.ext e1,q1⟩
  | false=>exact q1 _ H1 G1 (Ext.refl e1.GH) Jd⟩
theorem Ki (ha:PX κ B X a fa) (hb:PX κ B X (.BoolOp .Or (b :: bf) pos) fb):PX κ B X (.BoolOp .Or (a :: b :: bf) pos) (uf fa fb):=λ pins σ Ex =>
 bT (J5 (ha pins σ Ex) (hb pins σ Ex)) λ τ H Q hz=>gd hz λ G δ rp q=>⟨G,δ,rp,q.seq λ x v H1 G1 e1 d1 q1=>by
  obtain ⟨k,rfl,rfl,q1⟩:=vG d1 q1
  refine ⟨k,rfl,?_⟩
  cases k with
  | false=>exact ⟨G1,δ,rp.ext e1,q1⟩
  | true=>exact q1 _ H1 G1 (Ext.refl e1.GH) Jd⟩
noncomputable def zC (t:Ev->R Bool) (f g:Ev->R D):Ev->R D:=λ δ=>(t δ).bind λ k=>if k then f δ else g δ
theorem Kc (hc:nG κ B X c ta) (ha:PX κ B X a fa) (hb:PX κ B X b fb):PX κ B X (.IfExp c a b pos) (zC ta fa fb):=λ pins σ Ex =>
 bT (CN (hc pins σ Ex) (ha pins σ Ex) (hb pins σ Ex)) λ τ H Q hz=>gd hz λ G δ rp q=>⟨G,δ,rp,q.seq λ x v H1 G1 e1 d1 q1=>by
  cases d1
  cases x with
  | true=>exact ⟨G1,δ,rp.ext e1,q1⟩
  | false=>exact ⟨G1,δ,rp.ext e1,q1⟩⟩
noncomputable def bO:D->D->R D
 | .lst ds,.int i=>match oD ds i with | some d=>.ok d | none=>.stuck
 | .tup ds,.int i=>match oD ds i with | some d=>.ok d | none=>.stuck
 | .str x,.int i=>if x.length <= 1000000 then (match oD x i with | some c=>.ok (.str [c]) | none=>.stuck) else .stuck
 | _,_=>.stuck
theorem vY {Z:Zx} {G:Hp} {vs:List V} {ds:List D} {i:Int} {d:D} (h:Dens Z G vs ds) (e:oD ds i=some d):∃ v,oD vs i=some v/\aW Z G v d:=by
 unfold oD at e ⊢
 rw [h.length]
 cases q:DQ ds.length i with
 | none=>rw [q] at e;cases e
 | some j =>
  rw [q] at e
  exact h.get e
theorem Ke (ha:cT κ B X a fa) (hb:cT κ B X b fb) (hs:sZ b):PX κ B X (.Subscript a b pos) (m2 bO fa fb):=λ pins σ Ex =>
 bT (Gq (He (X:=At X pins σ Ex)) (ha pins σ Ex) (hb pins σ Ex) hs) λ τ H Q hz=>gd hz λ G δ rp q=>⟨G,δ,rp,q.seq λ x v H1 G1 e1 d1 q1=>⟨G1,δ,rp.ext e1,q1.seq λ y u H2 G2 e2 d2 q2=>by
  have d1:=fm e2 d1
  have lst:∀ {p:Addr} {vs:List V} {ds:List D} {i:Int},cR X.K H2 p vs->Dens ⟨X.K,κ⟩ G2 vs ds->u=.int i->rK (ig X κ) κ (EX X pins σ Ex) G2 H2 (match oD ds i with | some d=>.ok d | none=>.stuck) Q->My X.K (.ref p) u H2 Q:=λ {p vs ds i} h1 h2 h3 q=>by
   cases e:oD ds i with
   | none=>rw [e] at q;exact q.elim
   | some d =>
    rw [e] at q
    obtain ⟨w,x1,x2⟩:=vY h2 e
    exact .inl ⟨p,vs,i,w,rfl,h3,h1,x1,q w H2 G2 (Ext.refl e2.GH) x2⟩
  cases y with
  | int i =>
   cases x with
   | lst ds =>
    rcases d1 with d1 | ⟨p,vs,es,rfl,e,h3,h4⟩
    ·unfold aW at d1
     obtain ⟨p,vs,rfl,h1,h2⟩:=d1
     exact lst (e2.GH.seq h1) h2 (ny d2) q2
    ·cases e
     exact lst (cR.of h3) h4 (ny d2) q2
   | tup ds =>
    rcases d1 with d1 | ⟨p,vs,es,rfl,e,h3,h4⟩
    ·unfold aW at d1
     obtain ⟨p,vs,rfl,h1,h2⟩:=d1
     simp only [bO] at q2
     cases e:oD ds i with
     | none=>rw [e] at q2;exact False.elim q2
     | some d =>
      rw [e] at q2
      obtain ⟨w,x1,x2⟩:=vY h2 e
      exact .inr (.inl ⟨p,vs,i,w,rfl,ny d2,bY e2.GH h1,x1,q2 w H2 G2 (Ext.refl e2.GH) x2⟩)
    ·cases e
   | str x =>
    simp only [bO] at q2
    split at q2
    ·rename_i hx
     cases e:oD x i with
     | none=>rw [e] at q2;exact False.elim q2
     | some d =>
      rw [e] at q2
      have ev:=wV d1
      subst ev
      exact .inr (.inr ⟨_,i,d,rfl,ny d2,xF (by simpa [Str.length] using hx),by simpa using e,q2 _ H2 G2 (Ext.refl e2.GH) (by unfold aW;rfl)⟩)
    ·exact False.elim q2
   | _=>exact False.elim q2
  | _=>cases x <;> exact False.elim q2⟩⟩
noncomputable def ar:Ev->R (List D):=λ _=>.ok []
noncomputable def ah (f:Ev->R D) (g:Ev->R (List D)):Ev->R (List D):=λ δ=>(f δ).bind λ x=>(g δ).bind λ xs=>.ok (x :: xs)
variable {es:List Expr} {fs:Ev->R (List D)}
theorem uF:qU κ B X [] ar:=λ pins σ Ex=>CJ gB λ τ H Q hz=>gd hz λ G δ rp q=>q [] H G (Ext.refl rp.GH) bn
theorem wS (ha:PX κ B X a fa) (hr:qU κ B X es fs) (hs:starEach (a :: es) X.env=(false,eval a X.env) :: starEach es X.env):qU κ B X (a :: es) (ah fa fs):=λ pins σ Ex =>
 CJ (eW (X:=At X pins σ Ex) (ha pins σ Ex) (hr pins σ Ex) hs) λ τ H Q hz=>gd hz λ G δ rp q=>⟨G,δ,rp,q.seq λ x v H1 G1 e1 d1 q1=>⟨G1,δ,rp.ext e1,q1.seq λ y u H2 G2 e2 d2 q2 =>
  q2 (v :: u) H2 G2 (Ext.refl e2.GH) (bt (d1.mono e2.sG) d2)⟩⟩
theorem eV {G H:Hp} {p:Addr} {o:HO} (s:bV G H) (n:H p=none):Ext G H (upd G p o) (upd H p o):=by
 have ng:=s.free n
 refine ⟨λ b u e=>?_,λ b u e=>?_,λ b u e=>?_,λ b e=>?_⟩
 ·rw [aC (aQ e ng)];exact e
 ·rw [aC (aQ e n)];exact e
 ·by_cases hb:b=p
  ·subst hb;rw [aM] at e ⊢;exact e
  ·rw [aC hb] at e ⊢;exact s b u e
 ·by_cases hb:b=p
  ·subst hb;exact .inr n
  ·rw [aC hb] at e;exact .inl e
noncomputable def i8 (f:Ev->R (List D)):Ev->R D:=λ δ=>(f δ).bind λ xs=>if xs.length <= 1000000 then .ok (.tup xs) else .stuck
noncomputable def b8 (f:Ev->R (List D)):Ev->R D:=λ δ=>(f δ).bind λ xs=>if xs.length <= 1000000 then .ok (.lst xs) else .stuck
theorem Ij {k:Nat} (h:qU κ B X es fs):PX κ B X (.Tuple es k pos) (i8 fs):=λ pins σ Ex =>
 bT (HL (h pins σ Ex)) λ τ H Q hz=>gd hz λ G δ rp q=>⟨G,δ,rp,q.seq λ x v H1 G1 e1 d1 q1=>by
  split at q1
  ·rename_i hl
   refine ⟨xF (by rw [d1.length];exact hl),λ p hp=>?_⟩
   have e:=eV (o:=.tup v) e1.GH hp
   exact q1 _ _ _ e (by unfold aW;exact ⟨p,v,rfl,nJ.of aM,d1.mono e.sG⟩)
  ·exact q1.elim⟩
theorem Ie (h:qU κ B X es fs):PX κ B X (.List es pos) (b8 fs):=λ pins σ Ex =>
 bT (uC (h pins σ Ex)) λ τ H Q hz=>gd hz λ G δ rp q=>⟨G,δ,rp,q.seq λ x v H1 G1 e1 d1 q1=>by
  split at q1
  ·rename_i hl
   refine ⟨xF (by rw [d1.length];exact hl),λ p hp=>?_⟩
   have e:=eV (o:=.lst v) e1.GH hp
   exact q1 _ _ _ e (by unfold aW;exact ⟨p,v,rfl,cR.of aM,d1.mono e.sG⟩)
  ·exact q1.elim⟩
end
noncomputable def Kr (K:PySem.W.Frag) (κ:Nat->Addr) (n:Nat) (m:List D->R D):Sp:=λ vs H Q E=>vs.length=n/\∃ G ds,bV G H/\Dens ⟨K,κ⟩ G vs ds/\rK (λ G _ v d=>aW ⟨K,κ⟩ G v d) κ E G H (m ds) Q
structure Cal (κ:Nat->Addr) (X:Cx) (x:Str) (n:Nat) (m:List D->R D):Prop where
 ex:∃ f fd ps k,FnOk X.prog X.w X.K X.mg X.base (xA X.prog X.w) k f fd ps (Kr X.K κ n m)/\Room k X.A/\X.mg x=some (.ref f)/\PySem.W.keepIn X.K (.ref f)=true/\lS X.K fd ps []
section
variable {κ:Nat->Addr} {B:Gd} {X:Cx} {a:Expr} {es:List Expr} {fs:Ev->R (List D)} {p pos:Pos} {x:Str} {m:List D->R D} {n:Nat}
noncomputable def aH (m:List D->R D) (fs:Ev->R (List D)):Ev->R D:=λ δ=>(fs δ).bind m
theorem E9 (c:Cxo X) (C:Cal κ X x n m) (hn:(a :: es).length=n) (hg:Gl X x) (ha:qU κ B X (a :: es) fs) (hdb:(x == ("__debug__" : Str))=false) (he:starEach (a :: es) X.env=(false,eval a X.env) :: starEach es X.env) (hpl:(backTo pos (starEach es X.env)).any (·.1)=false)
  (hlen:∀ δ ds,fs δ=.ok ds->ds.length=n):PX κ B X (.Call (.Name x p) (a :: es) [] pos) (aH m fs):=λ pins σ Ex=>by
 obtain ⟨f,fd,ps,k,F,hr,hm,hk,hb⟩:=C.ex
 refine bT (EN (X:=At X pins σ Ex) (E:=EX X pins σ Ex) F hr hg hm hk hb .nil (AZ c) (ha pins σ Ex) hdb he hpl) λ τ H Q hz=>gd hz λ G δ rp q=>⟨G,δ,rp,?_⟩
 unfold aH at q
 cases e:fs δ with
 | ok ds =>
  rw [e] at q
  intro v H1 G1 e1 d1
  rw [List.append_nil]
  exact ⟨by rw [Dens.length d1,hlen δ ds e],G1,ds,e1.GH,d1,rK.pre e1 q⟩
 | exc c=>rw [e] at q;exact q
 | stuck=>rw [e] at q;exact q
end
end L3
namespace L3
open PySem PySem.Spec PyProof.Rows L2
inductive SR where
 | next (δ:Ev) | brk (δ:Ev) | cont (δ:Ev) | ret (d:D) | exc (c:Nat) (δ:Ev) | stuck
noncomputable def bS {α:Type} (r:R α) (δ:Ev) (k:α->SR):SR:=match r with
 | .ok d=>k d
 | .exc c=>.exc c δ
 | .stuck=>.stuck
@[simp] theorem FZ {α:Type} (d:α) (δ:Ev) (k:α->SR):bS (.ok d) δ k=k d:=rfl
@[simp] theorem Lo {α:Type} (c:Nat) (δ:Ev) (k:α->SR):bS (.exc c) δ k=.exc c δ:=rfl
@[simp] theorem Jt {α:Type} (δ:Ev) (k:α->SR):bS .stuck δ k=.stuck:=rfl
noncomputable def cG (κ:Nat->Addr) (B:Gd) (X:Cx) (Ex:Value->Shared->Prop) (pins:List (Addr × Obj)) (Dn:Ends) (r:SR):Prop:=match r with
 | .next δ'=>∀ σ' H' G',Rep ⟨X.K,κ⟩ B X.H₀ G' H' σ' δ'->Dn.nx σ' H'
 | .brk δ'=>∀ σ' H' G',Rep ⟨X.K,κ⟩ B X.H₀ G' H' σ' δ'->Dn.bk σ' H'
 | .cont δ'=>∀ σ' H' G',Rep ⟨X.K,κ⟩ B X.H₀ G' H' σ' δ'->Dn.ct σ' H'
 | .ret d=>∀ v H' G',Hold B X.H₀ G' H'->aW ⟨X.K,κ⟩ G' v d->Dn.rt v H'
 | .exc c δ'=>∀ ea s' σ' H' G',Inv (X.wish Ex) pins σ' H' s'->Flies X pins H' s' ea (.ref (κ c))->Rep ⟨X.K,κ⟩ B X.H₀ G' H' σ' δ'->Ex (.ref ea) s'
 | .stuck=>False
noncomputable def PZ (κ:Nat->Addr) (B:Gd) (X:Cx) (st:Stmt) (F:Ev->SR):Prop:=∀ Ex pins s σ H G δ Dn,PassesOwn (model X.prog X.w) X.A X.env Ex->Inv (X.wish Ex) pins σ H s->Rep ⟨X.K,κ⟩ B X.H₀ G H σ δ->cG κ B X Ex pins Dn (F δ) →
 wpAny (model X.prog X.w) X.A (exec st X.env) (SP (X.wish Ex) pins Dn) Ex s
noncomputable def uY (κ:Nat->Addr) (B:Gd) (X:Cx) (st:List Stmt) (F:Ev->SR):Prop:=∀ Ex pins s σ H G δ Dn,PassesOwn (model X.prog X.w) X.A X.env Ex->Inv (X.wish Ex) pins σ H s->Rep ⟨X.K,κ⟩ B X.H₀ G H σ δ->cG κ B X Ex pins Dn (F δ) →
 wpAny (model X.prog X.w) X.A (execs st X.env) (SP (X.wish Ex) pins Dn) Ex s
inductive STM (κ:Nat->Addr) (B:Gd) (X:Cx) (Ex:Value->Shared->Prop) (pins:List (Addr × Obj)) (σ:St) (δ:Ev) (P:D->Prop) (u:Value) (s':Shared):Prop
 | mk (d:D) (v:V) (H' G':Hp) (I:Inv (X.wish Ex) pins σ H' s') (r:bg v u) (rp:Rep ⟨X.K,κ⟩ B X.H₀ G' H' σ δ) (dn:aW ⟨X.K,κ⟩ G' v d) (q:P d)
inductive STD (κ:Nat->Addr) (B:Gd) (X:Cx) (σ:St) (δ:Ev) (P:D->Prop) (v:V) (H':Hp):Prop
 | mk (d:D) (G':Hp) (rp:Rep ⟨X.K,κ⟩ B X.H₀ G' H' σ δ) (dn:aW ⟨X.K,κ⟩ G' v d) (q:P d)
inductive STT (κ:Nat->Addr) (B:Gd) (X:Cx) (Ex:Value->Shared->Prop) (pins:List (Addr × Obj)) (σ:St) (δ:Ev) (P:Prop) (s':Shared):Prop
 | mk (H' G':Hp) (I:Inv (X.wish Ex) pins σ H' s') (rp:Rep ⟨X.K,κ⟩ B X.H₀ G' H' σ δ) (q:P)
section
variable {κ:Nat->Addr} {B:Gd} {X:Cx} {e a b c:Expr} {f fa fb:Ev->R D} {pos pos':Pos} {Ex:Value->Shared->Prop} {pins:List (Addr × Obj)} {s:Shared} {σ:St} {H G:Hp} {δ:Ev} {Dn:Ends}
theorem PX.stm (cx:Cxo X) (h:PX κ B X e f) (I:Inv (X.wish Ex) pins σ H s) (rp:Rep ⟨X.K,κ⟩ B X.H₀ G H σ δ) {k:D->SR} (hp:cG κ B X Ex pins Dn (bS (f δ) δ k)) :
  wpAny (model X.prog X.w) X.A (eval e X.env) (λ u s'=>STM κ B X Ex pins σ δ (λ d=>cG κ B X Ex pins Dn (k d)) u s') Ex s:=by
 refine b7 (h pins σ Ex pins s σ H (STD κ B X σ δ λ d=>cG κ B X Ex pins Dn (k d)) (jJ I) ⟨G,δ,rp,?_⟩) λ u s' ⟨v,H',I',r,⟨d,G',x1,x2,x3⟩⟩=>⟨d,v,H',G',dC cx.sg I',r,x1,x2,x3⟩
 cases q:f δ with
 | ok d=>rw [q] at hp;exact λ v H' G' e1 d1=>⟨d,G',rp.ext e1,d1,hp⟩
 | exc c=>rw [q] at hp;exact λ H' G' e1 ea s' I' F=>hp ea s' σ H' G' I' F (rp.ext e1)
 | stuck=>rw [q] at hp;exact hp
theorem nG.stm (cx:Cxo X) {f:Ev->R Bool} (h:nG κ B X e f) (I:Inv (X.wish Ex) pins σ H s) (rp:Rep ⟨X.K,κ⟩ B X.H₀ G H σ δ) {k:Bool->SR} (hp:cG κ B X Ex pins Dn (bS (f δ) δ k)) :
  wpAny (model X.prog X.w) X.A (isTrue e X.env (eval e X.env)) (λ u s'=>STT κ B X Ex pins σ δ (cG κ B X Ex pins Dn (k u)) s') Ex s:=by
 refine b7 (h pins σ Ex pins s σ H (λ v H'=>∃ G',Rep ⟨X.K,κ⟩ B X.H₀ G' H' σ δ/\cG κ B X Ex pins Dn (k v)) (jJ I) ⟨G,δ,rp,?_⟩) λ u s' ⟨H',I',G',x1,x2⟩=>⟨H',G',dC cx.sg I',x1,x2⟩
 cases q:f δ with
 | ok d =>
  rw [q] at hp
  intro v H' G' e1 d1
  cases d1
  exact ⟨G',rp.ext e1,hp⟩
 | exc c=>rw [q] at hp;exact λ H' G' e1 ea s' I' F=>hp ea s' σ H' G' I' F (rp.ext e1)
 | stuck=>rw [q] at hp;exact hp
noncomputable def au (F1 F2:Ev->SR):Ev->SR:=λ δ=>match F1 δ with
 | .next δ'=>F2 δ'
 | r=>r
theorem Fo:uY κ B X [] SR.next:=λ Ex pins s σ H G δ Dn hp I rp h=>wpAny_execs_nil ⟨σ,H,I,h σ H G rp⟩
theorem Dl {st:Stmt} {bf:List Stmt} {F1 F2:Ev->SR} (h1:PZ κ B X st F1) (h2:uY κ B X bf F2):uY κ B X (st :: bf) (au F1 F2):=λ Ex pins s σ H G δ Dn hp I rp h=>by
 refine wpAny_execs_cons (b7 (h1 Ex pins s σ H G δ { Dn with nx:=λ σ' H'=>∃ G' δ',Rep ⟨X.K,κ⟩ B X.H₀ G' H' σ' δ'/\cG κ B X Ex pins Dn (F2 δ') } hp I rp ?_) λ f s1 q=>?_)
 ·unfold au at h
  cases q:F1 δ with
  | next δ'=>rw [q] at h;exact λ σ' H' G' r=>⟨G',δ',r,h⟩
  | brk δ'=>rw [q] at h;exact h
  | cont δ'=>rw [q] at h;exact h
  | ret d=>rw [q] at h;exact h
  | exc c δ'=>rw [q] at h;exact h
  | stuck=>rw [q] at h;exact h
 ·cases f with
  | next =>
   obtain ⟨σ',H',I',G',δ',r,q⟩:=q
   exact h2 Ex pins s1 σ' H' G' δ' Dn hp I' r q
  | ret v=>exact q
  | brk=>exact q
  | cont=>exact q
theorem Fp {st:Stmt} {F:Ev->SR} (h1:PZ κ B X st F):uY κ B X [st] F:=λ Ex pins s σ H G δ Dn hp I rp h=>by
 refine wpAny_execs_cons (b7 (h1 Ex pins s σ H G δ Dn hp I rp h) λ f s1 q=>?_)
 cases f with
 | next=>exact wpAny_execs_nil q
 | ret v=>exact q
 | brk=>exact q
 | cont=>exact q
theorem Fm (i:Nat) {sts:List Stmt} {F:Ev->SR} (h:uY κ B X sts F):uY κ B X sts (λ δ=>F (qc i δ)):=λ Ex pins s σ H G δ Dn hp I rp q=>by
 obtain ⟨G',r'⟩:=rp.freeze i
 exact h Ex pins s σ H G' _ Dn hp I r' q
noncomputable def bx (f:Ev->R D):Ev->SR:=λ δ=>bS (f δ) δ .ret
theorem IA (cx:Cxo X) (h:PX κ B X e f):PZ κ B X (.Return (some e) pos) (bx f):=λ Ex pins s σ H G δ Dn hp I rp q =>
 wpAny_Return_some (b7 (h.stm cx I rp q) (by rintro v s1 ⟨d,x,H',G',I',r,rp',dn,q⟩;exact ⟨x,σ,H',I',r,q x H' G' rp'.toHold dn⟩))
noncomputable def qS (f:Ev->R D):Ev->SR:=λ δ=>bS (f δ) δ λ _=>.next δ
theorem Fl (cx:Cxo X) (h:PX κ B X e f) (hs:swapsWith e none pos.line X.env=pure false):PZ κ B X (.Expr e pos) (qS f):=λ Ex pins s σ H G δ Dn hp I rp q =>
 wpAny_Expr_any (b7 (h.stm cx I rp q) (by rintro v s1 ⟨d,x,H',G',I',r,rp',dn,q⟩;exact ⟨σ,H',I',q σ H' G' rp'⟩)) I.quiet hs
noncomputable def aJ (i:Nat) (f:Ev->R D):Ev->SR:=λ δ=>bS (f δ) δ λ d=>.next (δ.set i (some (.sh d)))
theorem IB (cx:Cxo X) {i:Nat} {x:Str} (hN:X.N.Nodup) (hi:X.N[i]?=some x) (hx:qX X.env.scope x) (hf:X.fn x=true \/ X.env.scope.names.lookup x=some .local) (h:PX κ B X e f) (hs:swapsWith e (some (.Name x pos')) pos.line X.env=pure false) :
  PZ κ B X (.Assign [.Name x pos'] e pos) (aJ i f):=λ Ex pins s σ H G δ Dn hp I rp q=>by
 refine wpAny_Assign_Name (b7 (h.stm cx I rp q) λ v s1 ⟨d,y,H',G',I',r,rp',dn,q⟩=>?_) hs
 exact jS (X:=X.wish Ex) I' hN hi hx r (λ s2 I2=>⟨_,H',I2,q _ H' G' (rp'.setSh dn)⟩) hf (λ p σ v _=>cx.sg p _)
noncomputable def c7 (t:Ev->R Bool) (F1 F2:Ev->SR):Ev->SR:=λ δ=>bS (t δ) δ λ k=>if k then F1 δ else F2 δ
theorem Kj (cx:Cxo X) {t:Ev->R Bool} {s1 s2:List Stmt} {F1 F2:Ev->SR} (hc:nG κ B X c t) (h1:uY κ B X s1 F1) (h2:uY κ B X s2 F2):PZ κ B X (.If c s1 s2 pos) (c7 t F1 F2):=λ Ex pins s σ H G δ Dn hp I rp q=>by
 refine wpAny_If (b7 (hc.stm cx I rp q) λ d s1 ⟨H',G',I',rp',q⟩=>?_)
 cases d with
 | true=>exact h1 Ex pins s1 σ H' G' δ Dn hp I' rp' q
 | false=>exact h2 Ex pins s1 σ H' G' δ Dn hp I' rp' q
noncomputable def o6 (i:Nat) (g:Int->Int->Int) (f:Ev->R D):Ev->SR:=λ δ=>match δ[i]? with
 | some (some (.sh (.int x)))=>bS (f δ) δ λ d=>match d with
  | .int y=>.next (δ.set i (some (.sh (.int (g x y)))))
  | _=>.stuck
 | _=>.stuck
theorem Ix (cx:Cxo X) {i:Nat} {x:Str} {op:Operator} {g:Int->Int->Int} (ho:∀ Y:Cx,KY Y op (K9 g)) (hN:X.N.Nodup) (hi:X.N[i]?=some x) (hx:qX X.env.scope x) (hf:X.fn x=true \/ X.env.scope.names.lookup x=some .local) (h:PX κ B X e f) :
  PZ κ B X (.AugAssign (.Name x pos') op e pos) (o6 i g f):=λ Ex pins s σ H G δ Dn hp I rp q=>by
 unfold o6 at q
 split at q
 ·rename_i z ez
  obtain ⟨v,e1,e2⟩:=rp.sh i _ ez
  have e2':v=.int z:=by simpa [aW] using e2
  subst e2'
  obtain ⟨m,hn,hl⟩:=I.loc
  have vis:rL X.env.scope x:=by rcases hx with k | k;exact .inl k;exact .inr (.inl k)
  obtain ⟨u,r,l⟩:=hl i x _ hi e1 vis
  refine wpAny_AugAssign_Name ?_
  have go:wpAny (model X.prog X.w) X.A (eval e X.env) (λ w s₂=>wpAny (model X.prog X.w) X.A (inplaceOp op u w) (λ r s₃=>wpAny (model X.prog X.w) X.A (storeName X.env x r) (λ _=>SP (X.wish Ex) pins Dn .next) Ex s₃) Ex s₂) Ex s:=by
   refine b7 (h.stm cx I rp q) λ w s1 ⟨d,y,H1,G1,I1,r1,rp1,dn,q1⟩=>?_
   cases d with
   | int j =>
    have dn':y=.int j:=by simpa [aW] using dn
    subst dn'
    refine b7 (ho (X.wish Ex) pins s1 σ H1 (.int z) (.int j) u w (λ v H'=>H'=H1/\v=.int (g z j)) I1 r r1 ⟨z,j,rfl,rfl,rfl,rfl⟩) λ w2 s2 ⟨zv,H2,I2,r2,e3,e4⟩=>?_
    subst e3
    subst e4
    exact jS (X:=X.wish Ex) I2 hN hi hx r2 (λ s3 I3=>⟨_,_,I3,q1 _ _ G1 (rp1.setSh tJ)⟩) hf (λ p σ v _=>cx.sg p _)
   | _=>exact False.elim q1
  rcases l with ⟨hk,hm⟩ | ⟨hk,c,hc,hcell⟩
  ·exact wpAny_loadName_local I.ok.kind hk hn hm go
  ·rcases hk with hk | hk
   ·exact wpAny_loadName_cell I.ok.kind hk hc hcell go
   ·rcases hx with k | k
    ·have:X.env.scope.names.lookup x=some .free:=hk
     rw [k] at this;cases this
    ·have:X.env.scope.names.lookup x=some .free:=hk
     rw [k] at this;cases this
 ·exact False.elim q
inductive gZ (κ:Nat->Addr) (B:Gd) (X:Cx) (bnd:D->Ev->Option Ev) (v:V) (σ:St) (H:Hp) (Q:St->Hp->Prop):Prop
 | mk (G:Hp) (δ:Ev) (d:D) (δ':Ev) (rp:Rep ⟨X.K,κ⟩ B X.H₀ G H σ δ) (dn:aW ⟨X.K,κ⟩ G v d) (e:bnd d δ=some δ') (k:∀ σ',Rep ⟨X.K,κ⟩ B X.H₀ G H σ' δ'->Q σ' H)
noncomputable def Br (κ:Nat->Addr) (B:Gd) (X:Cx) (tg:Expr) (bnd:D->Ev->Option Ev):Prop:=∀ Ex,PG (X.wish Ex) tg (gZ κ B X bnd)
inductive gsZ (κ:Nat->Addr) (B:Gd) (X:Cx) (bnd:List D->Ev->Option Ev) (vs:List V) (σ:St) (H:Hp) (Q:St->Hp->Prop):Prop
 | mk (G:Hp) (δ:Ev) (ds:List D) (δ':Ev) (rp:Rep ⟨X.K,κ⟩ B X.H₀ G H σ δ) (dn:Dens ⟨X.K,κ⟩ G vs ds) (e:bnd ds δ=some δ') (k:∀ σ',Rep ⟨X.K,κ⟩ B X.H₀ G H σ' δ'->Q σ' H)
noncomputable def vm (κ:Nat->Addr) (B:Gd) (X:Cx) (tg:List Expr) (bnd:List D->Ev->Option Ev):Prop:=∀ Ex,FV (X.wish Ex) tg (gsZ κ B X bnd)
theorem CS {Y:Cx} {t:Expr} {g g':TG} (h:PG Y t g) (k:∀ v σ H Q,g' v σ H Q->g v σ H Q):PG Y t g':=λ pins s σ H v u Q I r q=>h pins s σ H v u Q I r (k v σ H Q q)
theorem zQ {Y:Cx} {t:List Expr} {g g':DO} (h:FV Y t g) (k:∀ v σ H Q,g' v σ H Q->g v σ H Q):FV Y t g':=λ pins s σ H v u Q I r q=>h pins s σ H v u Q I r (k v σ H Q q)
noncomputable def bN (i:Nat):D->Ev->Option Ev:=λ d δ=>some (δ.set i (some (.sh d)))
theorem CU (cx:Cxo X) {i:Nat} {x:Str} (hN:X.N.Nodup) (hi:X.N[i]?=some x) (hx:qX X.env.scope x) (hf:X.fn x=true \/ X.env.scope.names.lookup x=some .local):Br κ B X (.Name x pos) (bN i):=λ Ex =>
 CS (pj (X:=X.wish Ex) hN hi hx hf (λ p σ v _=>cx.sg p _)) λ v σ H Q ⟨G,δ,d,δ',rp,dn,e,k⟩=>by
  cases e
  exact k _ (rp.setSh dn)
noncomputable def ga:List D->Ev->Option Ev:=λ ds δ=>match ds with | []=>some δ | _=>none
noncomputable def bw (b:D->Ev->Option Ev) (bs:List D->Ev->Option Ev):List D->Ev->Option Ev:=λ ds δ=>match ds with | d :: r=>(b d δ).bind (bs r) | _=>none
theorem CV:vm κ B X [] ga:=λ Ex=>zQ zR λ vs σ H Q ⟨G,δ,ds,δ',rp,dn,e,k⟩=>by
 cases ds with
 | nil =>
  cases vs with
  | nil=>cases e;exact ⟨rfl,k σ rp⟩
  | cons _ _=>unfold Dens at dn;exact dn.elim
 | cons _ _=>cases e
theorem A1 {tg:Expr} {tgs:List Expr} {bd:D->Ev->Option Ev} {bs:List D->Ev->Option Ev} (h1:Br κ B X tg bd) (h2:vm κ B X tgs bs)
  (hs:(assignEach (tg :: tgs) X.env).map (·.2)=assign tg X.env :: (assignEach tgs X.env).map (·.2)):vm κ B X (tg :: tgs) (bw bd bs):=λ Ex =>
 zQ (qy (X:=X.wish Ex) (h1 Ex) (h2 Ex) hs) λ vs σ H Q ⟨G,δ,ds,δ',rp,dn,e,k⟩=>by
  cases ds with
  | nil=>cases e
  | cons d r =>
   cases vs with
   | nil=>unfold Dens at dn;exact dn.elim
   | cons v vr =>
    unfold Dens at dn
    simp only [bw] at e
    cases q:bd d δ with
    | none=>rw [q] at e;cases e
    | some δ1 =>
     rw [q] at e
     exact ⟨v,vr,rfl,G,δ,d,δ1,rp,dn.1,q,λ σ' r'=>⟨G,δ1,r,δ',r',dn.2,e,k⟩⟩
theorem v4 {P:Program} {w:World} {A:Around} {E:Value->Shared->Prop} {it l:Addr} {its:Array Value} (hne:l ≠ it):∀ (n i:Nat) (s:Shared) (Q:List Value->Shared->Prop),s.heap.IsListIter it l i->s.heap.IsList l its->i + n <= its.size →
  (∀ h',h'.IsListIter it l (i + n)->Heap.SameBut it s.heap h'->Q ((its.toList.drop i).take n) { s with heap:=h' })->wpAny (model P w) A (draw (.ref it) n) Q E s
 | 0,i,s,Q,hi,_,_,q=>by
  have z:=q s.heap hi (Heap.SameBut.refl ..)
  rw [List.take_zero] at z
  exact wpAny_pure z
 | n + 1,i,s,Q,hi,hl,hle,q=>by
  have lt:i < its.size:=by (first | lia | omega)
  show wpAny _ _ (pyNext (.ref it) >>= _) Q E s
  refine wpAny_bind (wpAny_pyNext_list_item hi hl (x:=its[i]) (by simp [lt]) λ g hg sg=>wpAny_bind (wpAny_holding (v4 hne n (i + 1) _ _ hg (hl.extBut sg.extBut hne) (by (first | lia | omega)) λ g2 hg2 sg2=>wpAny_pure ?_)))
  have z:=q g2 (by rw [show i + (n + 1)=i + 1 + n by (first | lia | omega)];exact hg2) (sg.trans sg2)
  rw [show its.toList.drop i=its[i] :: its.toList.drop (i + 1) by simp [List.drop_eq_getElem_cons,lt],List.take_succ_cons] at z
  exact z
theorem yJ {P:Program} {w:World} {A:Around} {E:Value->Shared->Prop} {s:Shared} {l:Addr} {its:Array Value} {tgs:List (Bool × (Value->Sem Unit))} {Q:Unit->Shared->Prop} (hh:A.handled=none) (hl:s.heap.IsList l its)
  (hn:tgs.length=its.size) (hs:tgs.findIdx? (·.1)=none) (h:∀ h',Heap.ExtBut s.heap.objs.size s.heap h'->wpAny (model P w) A (assignInOrder (tgs.map (·.2)) its.toList) Q E { s with heap:=h' }):wpAny (model P w) A (unpack (.ref l) tgs) Q E s:=by
 have ne:l ≠ s.heap.objs.size:=by
  obtain ⟨o,ho,_⟩:=hl
  exact Nat.ne_of_lt (Heap.lt_size ho)
 unfold unpack
 rw [hn,hs]
 refine wpAny_bind (wpAny_holding ?_)
 unfold unpackItems
 refine wpAny_bind ?_
 unfold notIterableAtAll
 refine wpAny_bind (wpAny_specialOf hl.typeIs slot_list_iter.lookup (wpAny_pure ?_))
 simp only [Bool.false_eq_true,if_false]
 refine wpAny_bind (wpAny_holding (wpAny_pyIter_list hl (wpAny_bind (wpAny_holding (v4 ne its.size 0 _ _ ⟨_,Heap.get?_push_size _ rfl,rfl,rfl⟩ (hl.push _) (by (first | lia | omega)) λ g hg sg=>?_)))))
 rw [List.drop_zero,List.take_of_length_le (by simp),if_neg (by simp)]
 refine wpAny_bind (wpAny_holding (wpAny_pyNext_list_end hh hg ((hl.push _).extBut sg.extBut ne) (by simp) λ g2 e2=>?_))
 simp only [Option.isSome_none,Bool.false_eq_true,if_false]
 exact wpAny_pure (h g2 λ b o hb e=>e2 b o hb (sg.extBut b o hb (Heap.get?_push_of_some _ e)))
noncomputable def LO (K:PySem.W.Frag) (n:Nat) (t:DO):TG:=λ v σ H Q=>∃ a xs,v=.ref a/\cR K H a xs/\xs.length=n/\t xs σ H Q
theorem HM {X:Cx} {pos:Pos} {es:List Expr} {k:Nat} {t:DO} {n:Nat} (hc:X.calm=true) (h:FV X es t) (hn:(assignEach es X.env).length=n) (hst:(assignEach es X.env).findIdx? (·.1)=none):PG X (.Tuple es k pos) (LO X.K n t):=by
 intro pins s σ H v u Q I r ⟨a,xs,e1,hq,hl,hw⟩
 subst e1
 cases r
 obtain ⟨its,rv,ht,hz⟩:=I.list hq
 rw [assign_Tuple]
 refine wpAny_bind (wpAny_standAt (yJ (I.ok.hd hc) ht.isList (by simp [hn,<- hl,rv.length]) hst λ h' hx=>?_))
 exact h pins _ σ H xs _ Q (I.kept (t':=s.toks) λ b o e=>hx b o (Nat.ne_of_lt (Heap.lt_size e)) e) (by simpa using rv) hw
noncomputable def j9 (n:Nat) (bs:List D->Ev->Option Ev):D->Ev->Option Ev:=λ d δ=>match d with | .tup ds=>(if ds.length=n then bs ds δ else none) | .lst ds=>(if ds.length=n then bs ds δ else none) | _=>none
theorem A0 {X:Cx} {e:Expr} {t t':TG} (h:PG X e t) (h':PG X e t'):PG X e (λ v σ H Q=>t v σ H Q \/ t' v σ H Q):=λ pins s σ H v u Q I r q=>q.elim (h pins s σ H v u Q I r) (h' pins s σ H v u Q I r)
theorem ET {tgs:List Expr} {k n:Nat} {bs:List D->Ev->Option Ev} (hc:X.calm=true) (h:vm κ B X tgs bs) (hn:(assignEach tgs X.env).length=n) (hst:(assignEach tgs X.env).findIdx? (·.1)=none):Br κ B X (.Tuple tgs k pos) (j9 n bs):=λ Ex =>
 CS (A0 (CT (X:=X.wish Ex) hc (h Ex) hn hst) (HM (X:=X.wish Ex) hc (h Ex) hn hst)) λ v σ H Q ⟨G,δ,d,δ',rp,dn,e,kk⟩=>by
  unfold j9 at e
  split at e
  ·rename_i ds
   split at e
   ·rename_i hl
    unfold aW at dn
    obtain ⟨l,vs,rfl,h1,h2⟩:=dn
    exact .inl ⟨l,vs,rfl,bY rp.GH h1,by rw [h2.length];exact hl,G,δ,ds,δ',rp,h2,e,kk⟩
   ·cases e
  ·rename_i ds
   split at e
   ·rename_i hl
    unfold aW at dn
    obtain ⟨l,vs,rfl,h1,h2⟩:=dn
    exact .inr ⟨l,vs,rfl,rp.GH.seq h1,by rw [h2.length];exact hl,G,δ,ds,δ',rp,h2,e,kk⟩
   ·cases e
  ·cases e
noncomputable def xx (bd:D->Ev->Option Ev) (f:Ev->R D):Ev->SR:=λ δ=>bS (f δ) δ λ d=>match bd d δ with | some δ'=>.next δ' | none=>.stuck
theorem Iw (cx:Cxo X) {tg:Expr} {bd:D->Ev->Option Ev} (h:PX κ B X e f) (hg:Br κ B X tg bd) (hs:swapsWithSole [tg] e pos.line X.env=pure false) (hw:swappedStores [tg] e X.env=pure none)
  (h1:(assignEach [tg] X.env).map (·.2)=[assign tg X.env]):PZ κ B X (.Assign [tg] e pos) (xx bd f):=λ Ex pins s σ H G δ Dn hp I rp q=>by
 refine wpAny_Assign_stores (b7 (h.stm cx I rp q) λ v s1 ⟨d,y,H',G',I',r,rp',dn,q⟩=>?_) hs hw
 rw [h1]
 cases e2:bd d δ with
 | none=>rw [e2] at q;exact False.elim q
 | some δ' =>
  rw [e2] at q
  exact b7 (hg Ex pins s1 σ H' y v (λ σ' H''=>Dn.nx σ' H'') I' r ⟨G',δ,d,δ',rp',dn,e2,λ σ' r'=>q σ' H' G' r'⟩) λ _ s2 q=>q
end
end L3
namespace L3
open PySem PySem.Spec PyProof.Rows L2
noncomputable def cu (bd:D->Ev->Option Ev) (F:Ev->SR):List D->Ev->SR
 | [],δ=>.next δ
 | d :: ds,δ=>match bd d δ with
  | none=>.stuck
  | some δ1=>match F δ1 with
   | .next δ2=>cu bd F ds δ2
   | .cont δ2=>cu bd F ds δ2
   | .brk δ2=>.next δ2
   | r=>r
noncomputable def vk (X:Cx) (κ:Nat->Addr) (J:It) (G:Hp) (ds:List D):Prop:=∃ vs,Dens ⟨X.K,κ⟩ G vs ds/\∀ H',bV G H'->∀ i,(i < vs.length->J.go i H'/\∀ x H'',J.yld i H' x H''->H''=H'/\vs[i]?=some x)/\(vs.length <= i->J.stop i H')
noncomputable def DY (κ:Nat->Addr) (B:Gd) (X:Cx) (tg e:Expr) (f:Ev->R (List D)):Prop:=∀ pins σ Ex,PI (At X pins σ Ex) tg e (tO (λ G _ J ds=>vk X κ J G ds) X κ B (EX X pins σ Ex) f)
theorem qz {Y:Cx} {tg e:Expr} {w w':TI} (h:PI Y tg e w) (k:∀ σ H R,w' σ H R->w σ H R):PI Y tg e w':=λ pins s σ H R I q=>h pins s σ H R I (k σ H R q)
theorem J7 {Y:Cx} {tg e:Expr} {w w':TI} (h:PI Y tg e w) (h':PI Y tg e w'):PI Y tg e (λ σ H R=>w σ H R \/ w' σ H R):=λ pins s σ H R I q=>q.elim (h pins s σ H R I) (h' pins s σ H R I)
section
variable {κ:Nat->Addr} {B:Gd} {X:Cx} {e tg:Expr} {f:Ev->R D} {pos:Pos}
theorem sa {G H:Hp} {a:Addr} {vs:List V} {ds:List D} (h:cR X.K G a vs) (d:Dens ⟨X.K,κ⟩ G vs ds):vk X κ (Li X.K a) G ds:=
 ⟨vs,d,λ H' s i=>⟨λ hi=>⟨⟨vs,vs[i],s.seq h,by simp [hi]⟩,λ x H'' y=>⟨y.1,y.2 vs (s.seq h)⟩⟩,λ hi=>⟨vs,s.seq h,hi⟩⟩⟩
theorem wg {G H:Hp} {a:Addr} {vs:List V} {ds:List D} (h:nJ X.K G a vs) (d:Dens ⟨X.K,κ⟩ G vs ds):vk X κ (Lj X.K a) G ds:=
 ⟨vs,d,λ H' s i=>⟨λ hi=>⟨⟨vs,vs[i],bY s h,by simp [hi]⟩,λ x H'' y=>⟨y.1,y.2 vs (bY s h)⟩⟩,λ hi=>⟨vs,bY s h,hi⟩⟩⟩
noncomputable def br:D->R (List D)
 | .lst ds=>.ok ds
 | .tup ds=>.ok ds
 | _=>.stuck
theorem EW (h:PX κ B X e f):DY κ B X tg e (λ δ=>(f δ).bind br):=λ pins σ Ex =>
 qz (J7 (EU (X:=At X pins σ Ex) (h pins σ Ex)) (HP (X:=At X pins σ Ex) (h pins σ Ex))) λ τ H R hz=>gd hz λ G δ rp q=>by
  dsimp only at q
  cases e:f δ with
  | ok d =>
   rw [e] at q
   cases d with
   | lst ds =>
    refine .inl ⟨G,δ,rp,?_⟩
    rw [e]
    intro v H' G' e1 d1
    unfold aW at d1
    obtain ⟨a,vs,rfl,h1,h2⟩:=d1
    exact ⟨a,rfl,⟨vs,e1.GH.seq h1⟩,q _ H' G' e1 (sa (H:=H') h1 h2)⟩
   | tup ds =>
    refine .inr ⟨G,δ,rp,?_⟩
    rw [e]
    intro v H' G' e1 d1
    unfold aW at d1
    obtain ⟨a,vs,rfl,h1,h2⟩:=d1
    exact ⟨a,rfl,⟨vs,bY e1.GH h1⟩,q _ H' G' e1 (wg (H:=H') h1 h2)⟩
   | _=>exact False.elim q
  | exc c =>
   rw [e] at q
   refine .inl ⟨G,δ,rp,?_⟩
   rw [e]
   exact q
  | stuck=>rw [e] at q;exact False.elim q
theorem qi {G:Hp} {lo:Int} {n:Nat}:vk X κ (FU lo n) G ((List.range n).map λ i=>D.int (lo + (i:Nat))):=by
 refine ⟨(List.range n).map λ i=>V.int (lo + (i:Nat)),?_,λ H' s i=>⟨λ hi=>⟨?_,λ x H'' y=>?_⟩,λ hi=>?_⟩⟩
 ·generalize List.range n=l
  induction l with
  | nil=>exact bn
  | cons a l ih=>exact bt tJ ih
 ·simpa [FU] using hi
 ·obtain ⟨y1,y2⟩:=y
  refine ⟨y1,?_⟩
  rw [y2]
  have:i < n:=by simpa using hi
  simp [this]
 ·simpa [FU] using hi
noncomputable def iA (lo hi:Int):List D:=(List.range (hi - lo).toNat).map λ i=>D.int (lo + (i:Nat))
noncomputable def uZ:List D->R (List D)
 | [.int j]=>if -(2 ^ 62) <= j/\j < 2 ^ 62 then .ok (iA 0 j) else .stuck
 | _=>.stuck
noncomputable def we:List D->R (List D)
 | [.int i,.int j]=>if (-(2 ^ 62) <= i/\i < 2 ^ 62)/\(-(2 ^ 62) <= j/\j < 2 ^ 62) then .ok (iA i j) else .stuck
 | _=>.stuck
theorem jU {Z:Zx} {G:Hp} {vs:List V} {i:Int} (h:Dens Z G vs [.int i]):vs=[.int i]:=by
 match vs,h with
 | [v],h=>unfold Dens at h;have:=h.1;unfold aW at this;rw [this]
 | [],h=>unfold Dens at h;exact h.elim
 | _ :: _ :: _,h=>unfold Dens at h;have:=h.2;unfold Dens at this;exact this.elim
theorem rT {Z:Zx} {G:Hp} {vs:List V} {i j:Int} (h:Dens Z G vs [.int i,.int j]):vs=[.int i,.int j]:=by
 match vs,h with
 | [],h=>unfold Dens at h;exact h.elim
 | v :: vr,h=>unfold Dens at h;have h1:=h.1;unfold aW at h1;rw [h1,jU h.2]
theorem yo {a:Expr} {fs:Ev->R (List D)} {p pos:Pos} (hg:Gl X "range") (hm:X.mg "range" = none) (ha:qU κ B X [a] fs) (hs:starEach [a] X.env=[(false,eval a X.env)]):DY κ B X tg (.Call (.Name "range" p) [a] [] pos) (λ δ=>(fs δ).bind uZ):=λ pins σ Ex =>
 qz (A2 (X:=At X pins σ Ex) hg hm (ha pins σ Ex) hs) λ τ H R hz=>gd hz λ G δ rp q=>⟨G,δ,rp,q.seq λ x v H1 G1 e1 d1 q1=>by
  unfold uZ at q1
  split at q1
  ·rename_i j
   split at q1
   ·rename_i hj
    refine ⟨j,jU d1,hj.1,hj.2,?_⟩
    have:=q1 _ H1 G1 (Ext.refl e1.GH) (qi (lo:=0) (n:=(j - 0).toNat))
    simpa using this
   ·exact False.elim q1
  ·exact False.elim q1⟩
theorem yp {a b:Expr} {fs:Ev->R (List D)} {p pos:Pos} (hg:Gl X "range") (hm:X.mg "range" = none) (ha:qU κ B X [a,b] fs) (hs:starEach [a,b] X.env=[(false,eval a X.env),(false,eval b X.env)]) (hs2:starEach [b] X.env=[(false,eval b X.env)]):DY κ B X tg (.Call (.Name "range" p) [a,b] [] pos) (λ δ=>(fs δ).bind we):=λ pins σ Ex =>
 qz (A3 (X:=At X pins σ Ex) hg hm (ha pins σ Ex) hs hs2) λ τ H R hz=>gd hz λ G δ rp q=>⟨G,δ,rp,q.seq λ x v H1 G1 e1 d1 q1=>by
  unfold we at q1
  split at q1
  ·rename_i i j
   split at q1
   ·rename_i hj
    exact ⟨i,j,rT d1,⟨hj.1.1,hj.1.2,hj.2.1,hj.2.2⟩,q1 _ H1 G1 (Ext.refl e1.GH) (qi (lo:=i) (n:=(j - i).toNat))⟩
   ·exact False.elim q1
  ·exact False.elim q1⟩
theorem Rep.raise {Z:Zx} {H₀ G H:Hp} {σ:St} {δ:Ev} (r:Rep Z B H₀ G H σ δ):Rep Z ⟨G,B.m⟩ H₀ G H σ δ:=⟨⟨bV.refl _,r.GH,r.old,r.there,λ _ _ n=>n⟩,r.len,r.sh,r.ow,r.sep,r.oo,r.oo1⟩
theorem Hold.lower {H₀ G G' H':Hp} (g:bV B.g G) (l:∀ b,H₀ b ≠ none->B.g b=none->G b=none) (r:Hold ⟨G,B.m⟩ H₀ G' H'):Hold B H₀ G' H':=⟨g.trans r.gG,r.GH,r.old,r.there,λ b z n=>r.lent b z (l b z n)⟩
theorem Rep.lower {Z:Zx} {H₀ G G' H':Hp} {σ:St} {δ:Ev} (g:bV B.g G) (l:∀ b,H₀ b ≠ none->B.g b=none->G b=none) (r:Rep Z ⟨G,B.m⟩ H₀ G' H' σ δ):Rep Z B H₀ G' H' σ δ:=⟨r.toHold.lower g l,r.len,r.sh,r.ow,r.sep,r.oo,r.oo1⟩
theorem xS {pins pl:List (Addr × Obj)} {H:Hp} {s:Shared} {ea:Addr} {C:Value} (F:Flies X (pins++pl) H s ea C):Flies X pins H s ea C:=by
 have c:∀ {b},FreshX X (pins++pl) H b->FreshX X pins H b:=λ f=>⟨f.nl,f.nc,λ p hp=>f.np p ((List.mem_append.mp hp).elim (λ z=>List.mem_append_left _ z) λ z=>List.mem_append_right _ (List.mem_append_left _ z)),f.n0,f.nh⟩
 obtain ⟨⟨oe,vs,a0,t1,t2,t3,t4,t5⟩,fr⟩:=F
 refine ⟨⟨oe,vs,a0,t1,t2,t3,t4,t5.imp id ?_⟩,c fr⟩
 rintro ⟨T,oT,ts,x1,x2,x3,x4,x5,x6⟩
 exact ⟨T,oT,ts,x1,x2,x3,x4,x5,c x6⟩
noncomputable def df (fit:Ev->R (List D)) (bd:D->Ev->Option Ev) (F:Ev->SR):Ev->SR:=λ δ=>bS (fit δ) δ λ ds=>cu bd F ds δ
noncomputable def yX (X:Cx) (κ:Nat->Addr) (J:It) (G:Hp) (ds:List D):Prop:=∀ H' G',bV G G'->bV G' H'->∀ i,(∀ d,ds[i]?=some d->J.go i H'/\∀ x H'',J.yld i H' x H''->∃ G'',Ext G' H' G'' H''/\aW ⟨X.K,κ⟩ G'' x d)/\(ds.length <= i->J.stop i H')
noncomputable def KW (κ:Nat->Addr) (B:Gd) (X:Cx) (tg e:Expr) (f:Ev->R (List D)):Prop:=∀ pins σ Ex,PI (At X pins σ Ex) tg e (tO (λ G _ J ds=>yX X κ J G ds) X κ B (EX X pins σ Ex) f)
theorem Ca {X:Cx} {κ:Nat->Addr} {J:It} {G:Hp} {ds:List D} (h:vk X κ J G ds):yX X κ J G ds:=by
 obtain ⟨vs,hd,h⟩:=h
 intro H' G' s1 s2 i
 obtain ⟨h1,h2⟩:=h H' (s1.trans s2) i
 have hl:=hd.length
 refine ⟨λ d e=>?_,λ hi=>h2 (by (first | lia | omega))⟩
 have hi:=(List.getElem?_eq_some_iff.mp e).1
 obtain ⟨g1,g2⟩:=h1 (by (first | lia | omega))
 refine ⟨g1,λ x H'' y=>?_⟩
 obtain ⟨rfl,e2⟩:=g2 x H'' y
 obtain ⟨v,e3,dv⟩:=hd.get e
 rw [e2] at e3
 cases e3
 exact ⟨G',Ext.refl s2,dv.mono s1⟩
inductive FI (κ:Nat->Addr) (B:Gd) (X:Cx) (Ex:Value->Shared->Prop) (pins:List (Addr × Obj)) (tn:Nat->Heap->Prop) (fp:List Addr) (ds:List D) (G2:Hp) (Q:St->Hp->Prop) (P:List D->Ev->Prop) (n:Nat) (s':Shared):Prop
 | mk (i:Nat) (σ':St) (H' G':Hp) (δ':Ev) (I:Inv (X.wish Ex) pins σ' H' s') (t:tn i s'.heap) (f:∀ b∈fp,H' b=none) (e:n=ds.length - i) (l:i <= ds.length) (r:Rep ⟨X.K,κ⟩ ⟨G2,B.m⟩ X.H₀ G' H' σ' δ') (j:Q σ' H') (q:P (ds.drop i) δ')
theorem zW (cx:Cxo X) (hc:X.calm=true) {iter:Expr} {body:List Stmt} {fit:Ev->R (List D)} {bd:D->Ev->Option Ev} {F:Ev->SR} (hi:KW κ B X tg iter fit) (hg:∀ B,Br κ B X tg bd) (hb:∀ B,uY κ B X body F)
  (hs:∀ x,foldedSetIterable iter X.env x=pure x):PZ κ B X (.For tg iter body [] pos) (df fit bd F):=λ Ex pins s σ H G δ Dn hp I rp h=>by
 have hsgA:∀ p τ,(X.wish Ex).sg p τ:=cx.sg
 refine wpAny_For (b7 (hi pins σ Ex pins s σ H (λ J H'=>∃ G' ds,Rep ⟨X.K,κ⟩ B X.H₀ G' H' σ δ/\yX X κ J G' ds/\cG κ B X Ex pins Dn (cu bd F ds δ)) (jJ I) ⟨G,δ,rp,?_⟩) λ v s1 h1=>b7 h1 λ itv s2 h2=>?_) hs
 ·unfold df at h
  cases q:fit δ with
  | ok ds=>rw [q] at h;exact λ J H' G' e1 d1=>⟨G',ds,rp.ext e1,d1,h⟩
  | exc c=>rw [q] at h;exact λ H' G' e1 ea s' I' F'=>h ea s' σ H' G' I' F' (rp.ext e1)
  | stuck=>rw [q] at h;exact h
 obtain ⟨it,fp,tn,J,H2,e,I2,T,st2,f2,G2,ds,rp2,hJ,q2⟩:=h2
 subst e
 have I2':=dC cx.sg I2
 have stat:∀ {H':Hp},(∀ b∈fp,H' b=none)->∀ b∈fp,vj (X.wish Ex) pins H' b:=λ hn b hb=>⟨hn b hb,(f2 b hb).2⟩
 refine codeAny_forLoop_any (FI κ B X Ex pins tn fp ds G2 (λ _ _=>True) (λ l δ'=>cG κ B X Ex pins Dn (cu bd F l δ'))) ?_ ds.length
  ⟨0,σ,H2,G2,δ,I2',st2,λ b hb=>(f2 b hb).1,rfl,Nat.zero_le _,rp2.raise,trivial,q2⟩
 rintro n s3 ⟨i,σ3,H3,G3,δ3,I3,st3,fr3,rfl,hi3,rp3,-,q3⟩
 have q3:cG κ B X Ex pins Dn (cu bd F (ds.drop i) δ3):=q3
 have low:∀ {G' H':Hp} {σ':St} {δ':Ev},Rep ⟨X.K,κ⟩ ⟨G2,B.m⟩ X.H₀ G' H' σ' δ'->Rep ⟨X.K,κ⟩ B X.H₀ G' H' σ' δ':=λ r=>r.lower rp2.gG rp2.lent
 have same3:bV G2 H3:=rp3.gG.trans rp3.GH
 by_cases hlt:i < ds.length
 ·obtain ⟨dx,hdx⟩:∃ d,ds[i]?=some d:=⟨ds[i],by simp [hlt]⟩
  obtain ⟨go,yl⟩:=(hJ H3 G3 rp3.gG rp3.GH i).1 dx hdx
  refine wpAny_passesOwn hp (b7 (T.item (X.wish Ex) rfl rfl rfl hc i pins s3 σ3 H3 Ex I3 (stat fr3) st3 go) λ r s4 ⟨u,hr,h4⟩=>?_)
  subst hr
  refine wpAny_passesOwn hp (b7 h4 λ _ s5 ⟨x,H5,I5,r5,y5,st5,fr5⟩=>?_)
  obtain ⟨G5,e5,dd⟩:=yl x H5 y5
  have I5':=Inv.pinned hsgA I5 (stat fr5) (T.obj _ _ st5)
  have hdrop:ds.drop i=dx :: ds.drop (i + 1):=by
   rw [List.drop_eq_getElem_cons hlt]
   simp [hlt] at hdx
   rw [hdx]
  rw [hdrop] at q3
  unfold cu at q3
  cases eb:bd dx δ3 with
  | none=>rw [eb] at q3;exact False.elim q3
  | some δ4 =>
   rw [eb] at q3
   refine wpAny_passesOwn hp (b7 (hg ⟨G2,B.m⟩ Ex _ s5 σ3 _ x u (λ σ' H'=>H'=H5/\Rep ⟨X.K,κ⟩ ⟨G2,B.m⟩ X.H₀ G5 H5 σ' δ4) I5' r5 ⟨G5,δ3,dx,δ4,rp3.ext e5,dd,eb,λ σ' r'=>⟨rfl,r'⟩⟩) λ _ s6 ⟨σ6,H6,I6,e6,rp6⟩=>?_)
   subst e6
   refine wpAny_passesOwn hp (b7 (hb ⟨G2,B.m⟩ Ex _ s6 σ6 _ G5 δ4 { Dn with nx:=λ σ' H'=>∃ G' δ',Rep ⟨X.K,κ⟩ ⟨G2,B.m⟩ X.H₀ G' H' σ' δ'/\cG κ B X Ex pins Dn (cu bd F (ds.drop (i + 1)) δ'),ct:=λ σ' H'=>∃ G' δ',Rep ⟨X.K,κ⟩ ⟨G2,B.m⟩ X.H₀ G' H' σ' δ'/\cG κ B X Ex pins Dn (cu bd F (ds.drop (i + 1)) δ'),bk:=Dn.nx } hp I6 rp6 ?_) λ fl s7 q7=>?_)
   ·cases ef:F δ4 with
    | next δ5=>simp only [ef] at q3;exact λ σ' H' G' r=>⟨G',δ5,r,q3⟩
    | cont δ5=>simp only [ef] at q3;exact λ σ' H' G' r=>⟨G',δ5,r,q3⟩
    | brk δ5=>simp only [ef] at q3;exact λ σ' H' G' r=>q3 σ' H' G' (low r)
    | ret d=>simp only [ef] at q3;exact λ v H' G' r=>q3 v H' G' (r.lower rp2.gG rp2.lent)
    | exc c δ5=>simp only [ef] at q3;exact λ ea s' σ' H' G' I' F' r=>q3 ea s' σ' H' G' (Inv.unpinned hsgA I') (xS F') (low r)
    | stuck=>simp only [ef] at q3;exact q3
   ·have again:∀ {σ7:St} {H7:Hp},Inv (X.wish Ex) (pins++nZ fp s5.heap) σ7 H7 s7->(∃ G' δ',Rep ⟨X.K,κ⟩ ⟨G2,B.m⟩ X.H₀ G' H7 σ7 δ'/\cG κ B X Ex pins Dn (cu bd F (ds.drop (i + 1)) δ')) →
      ∃ m,m < ds.length - i/\FI κ B X Ex pins tn fp ds G2 (λ _ _=>True) (λ l δ'=>cG κ B X Ex pins Dn (cu bd F l δ')) m s7:=λ {σ7 H7} I7 ⟨G7,δ7,r7,n7⟩=>by
     refine ⟨ds.length - (i + 1),by omega,i + 1,σ7,H7,G7,δ7,Inv.unpinned hsgA I7,T.keep _ _ _ st5 λ b hb o e=>(I7.pin (b,o) (List.mem_append_right _ (List.mem_append_right _ (dR hb e)))).1,λ b hb=>?_,rfl,hlt,r7,trivial,n7⟩
     obtain ⟨o,e,d⟩:=T.obj _ _ st5 b hb
     exact (I7.pin (b,o) (List.mem_append_right _ (List.mem_append_right _ (dR hb e)))).2.1
    cases fl with
    | next=>obtain ⟨σ7,H7,I7,n7⟩:=q7;exact again I7 n7
    | cont=>obtain ⟨σ7,H7,I7,n7⟩:=q7;exact again I7 n7
    | brk=>obtain ⟨σ7,H7,I7,q7⟩:=q7;exact ⟨σ7,H7,Inv.unpinned hsgA I7,q7⟩
    | ret v=>obtain ⟨x7,σ7,H7,I7,r7,q7⟩:=q7;exact ⟨x7,σ7,H7,Inv.unpinned hsgA I7,r7,q7⟩
 ·have hie:i=ds.length:=by omega
  refine wpAny_passesOwn hp (b7 (T.done (X.wish Ex) rfl rfl rfl hc i pins s3 σ3 H3 Ex I3 (stat fr3) st3 ((hJ H3 G3 rp3.gG rp3.GH i).2 (by omega))) λ r s4 ⟨hr,I4⟩=>?_)
  subst hr
  rw [hie,List.drop_length] at q3
  exact wpAny_execs_nil ⟨σ3,H3,I4,q3 σ3 H3 G3 (low rp3)⟩
theorem Iy (cx:Cxo X) (hc:X.calm=true) {iter:Expr} {body:List Stmt} {fit:Ev->R (List D)} {bd:D->Ev->Option Ev} {F:Ev->SR} (hi:DY κ B X tg iter fit) (hg:∀ B,Br κ B X tg bd) (hb:∀ B,uY κ B X body F)
  (hs:∀ x,foldedSetIterable iter X.env x=pure x):PZ κ B X (.For tg iter body [] pos) (df fit bd F):=zW cx hc (λ pins σ Ex=>qz (hi pins σ Ex) λ τ H R hz=>gd hz λ G δ rp q=>⟨G,δ,rp,by
  cases e:fit δ <;> rw [e] at q
  ·exact λ J H' G' e1 d1=>q J H' G' e1 (Ca d1)
  ·exact q
  ·exact q⟩) hg hb hs
noncomputable def cC (t:Ev->R Bool) (F:Ev->SR):Nat->Ev->SR
 | 0,_=>.stuck
 | n + 1,δ=>bS (t δ) δ λ k=>if k then (match F δ with
  | .next δ'=>cC t F n δ'
  | .cont δ'=>cC t F n δ'
  | .brk δ'=>.next δ'
  | r=>r) else .next δ
theorem Dk (cx:Cxo X) (N:Nat) {c:Expr} {body:List Stmt} {t:Ev->R Bool} {F:Ev->SR} (hc:nG κ B X c t) (hb:uY κ B X body F):PZ κ B X (.While c body [] pos) (cC t F N):=λ Ex pins s σ H G δ Dn hp I rp h=>by
 refine wpAny_While (codeAny_whileLoop (λ n s'=>∃ σ' H' G' δ',Inv (X.wish Ex) pins σ' H' s'/\Rep ⟨X.K,κ⟩ B X.H₀ G' H' σ' δ'/\cG κ B X Ex pins Dn (cC t F n δ')) ?_ N ⟨σ,H,G,δ,I,rp,h⟩)
 rintro n s1 ⟨σ1,H1,G1,δ1,I1,rp1,q1⟩
 cases n with
 | zero=>exact False.elim q1
 | succ n =>
  unfold cC at q1
  refine wpAny_passesOwn hp (b7 (hc.stm cx I1 rp1 q1) λ b s2 ⟨H2,G2,I2,rp2,q2⟩=>?_)
  cases b with
  | true =>
   rw [if_pos rfl]
   rw [if_pos rfl] at q2
   refine wpAny_passesOwn hp (b7 (hb Ex pins s2 σ1 H2 G2 δ1 { Dn with nx:=λ σ' H'=>∃ G' δ',Rep ⟨X.K,κ⟩ B X.H₀ G' H' σ' δ'/\cG κ B X Ex pins Dn (cC t F n δ'),ct:=λ σ' H'=>∃ G' δ',Rep ⟨X.K,κ⟩ B X.H₀ G' H' σ' δ'/\cG κ B X Ex pins Dn (cC t F n δ'),bk:=Dn.nx } hp I2 rp2 ?_) λ f s3 q3=>?_)
   ·cases ef:F δ1 with
    | next δ5=>simp only [ef] at q2;exact λ σ' H' G' r=>⟨G',δ5,r,q2⟩
    | cont δ5=>simp only [ef] at q2;exact λ σ' H' G' r=>⟨G',δ5,r,q2⟩
    | brk δ5=>simp only [ef] at q2;exact q2
    | ret d=>simp only [ef] at q2;exact q2
    | exc c δ5=>simp only [ef] at q2;exact q2
    | stuck=>simp only [ef] at q2;exact q2
   ·cases f with
    | next=>obtain ⟨σ3,H3,I3,G3,δ3,r3,n3⟩:=q3;exact ⟨n,Nat.lt_succ_self n,σ3,H3,G3,δ3,I3,r3,n3⟩
    | cont=>obtain ⟨σ3,H3,I3,G3,δ3,r3,n3⟩:=q3;exact ⟨n,Nat.lt_succ_self n,σ3,H3,G3,δ3,I3,r3,n3⟩
    | brk=>exact q3
    | ret v=>exact q3
  | false =>
   rw [if_neg Bool.false_ne_true]
   exact wpAny_execs_nil ⟨σ1,H2,I2,q2 σ1 H2 G2 rp2⟩
end
noncomputable def b0:SR->R D
 | .next _=>.ok .non
 | .ret d=>.ok d
 | .exc c _=>.exc c
 | _=>.stuck
noncomputable def aG (n:Nat) (ds:List D):Ev:=ds.map (λ d=>some (.sh d))++List.replicate (n - ds.length) none
structure FrmOk (X:Cx):Prop where
 st:X.stack=X.env :: X.outer
 fr:X.env.frame=some X.env.locals
theorem xT {P:Program} {w:World} {K:PySem.W.Frag} {mg:Str->Option Value} {base:Heap} {κ:Nat->Addr} {x qual:Str} {st:Stmt} {f:Addr} {fd:FuncData} {N ps:List Str} {k:Nat} {F:Ev->SR}
  (Fn:Fun K x qual st f fd) (S:FnScope N ps (am st))
  (hb:∀ (X:Cx) (B:Gd),Cxo X->X.calm=true->X.prog=P->X.w=w->X.K=K->X.mg=mg->X.base=base->X.N=N->X.env.scope=am st->(∀ y,X.fn y=true)->Room k X.A->FrmOk X->(∀ b,X.H₀ b=none->B.m b)->uY κ B X (aB st) F) :
  FnOk P w K mg base (xA P w) (k + 1) f fd ps (Kr K κ ps.length λ ds=>b0 (F (aG N.length ds))):=by
 obtain ⟨oc,od,kV,doc,pm,an,cdv,ct,osl,rfl,lk,hcd⟩:=Fn.ex
 refine JE lk hcd S (λ vs H Q E h=>h.1) λ A outer s H vs Q E hr hsp=>?_
 obtain ⟨hl,G,ds,sm,dn,hq⟩:=hsp
 dsimp only at hq
 generalize hX:As (xA P w) P w K mg base N qual (am st) f cdv A outer s H E=X
 have eP:X.prog=P:=by rw [<- hX];rfl
 have ew:X.w=w:=by rw [<- hX];rfl
 have eK:X.K=K:=by rw [<- hX];rfl
 have cx:Cxo X:=by rw [<- hX];exact ⟨λ _ _=>trivial,rfl⟩
 have body:=λ B hB=>hb X B cx (by rw [<- hX];rfl) eP ew eK (by rw [<- hX];rfl) (by rw [<- hX];rfl) (by rw [<- hX];rfl) (by rw [<- hX];rfl) (λ y=>by rw [<- hX];rfl) (by rw [<- hX];exact hr) (by rw [<- hX];exact ⟨rfl,rfl⟩) hB
 have e0:X.H₀=H:=by rw [<- hX];rfl
 refine ⟨λ Dn σ H=>∃ B G δ,(∀ b,X.H₀ b=none->B.m b)/\Rep ⟨X.K,κ⟩ B X.H₀ G H σ δ/\∀ pins,cG κ B X X.xe pins Dn (F δ),λ pins s' σ H' Dn I ⟨B,G,δ,hB,rp,h⟩=>?_,⟨G,λ b=>H b=none⟩,G,aG N.length ds,(λ b z=>by rw [e0] at z;exact z),?_,λ pins=>?_⟩
 ·refine body B hB X.xe pins s' σ H' G δ Dn ?_ I rp (h pins)
  rw [<- hX]
  exact PassesOwn.leaving
 ·rw [e0,eK]
  have hld:ds.length=vs.length:=dn.length.symm
  refine ⟨⟨bV.refl _,sm,λ _ _ e _=>e,λ _ e=>e,λ _ _ e=>e⟩,?_,λ i d e=>?_,λ i es e=>?_,λ i j es fs a n e=>?_,λ i c ns es e=>?_,λ i j c ns es c' ns' es' x0 n0 e=>?_⟩
  ·unfold L2.nB aG
   simp [hld]
  ·unfold aG at e
   by_cases hi:i < ds.length
   ·rw [List.getElem?_append_left (by simpa using hi),List.getElem?_map] at e
    cases q:ds[i]? with
    | none=>rw [q] at e;cases e
    | some d' =>
     rw [q] at e
     cases e
     obtain ⟨v,e1,e2⟩:=dn.get q
     refine ⟨v,?_,e2⟩
     unfold L2.nB
     rw [List.getElem?_append_left (by simp;(first | lia | omega)),List.getElem?_map,e1]
     rfl
   ·rw [List.getElem?_append_right (by simpa using hi),List.getElem?_replicate] at e
    split at e <;> cases e
  ·unfold aG at e
   by_cases hi:i < ds.length
   ·rw [List.getElem?_append_left (by simpa using hi),List.getElem?_map] at e
    cases q:ds[i]? with
    | none=>rw [q] at e;cases e
    | some d'=>rw [q] at e;cases e
   ·rw [List.getElem?_append_right (by simpa using hi),List.getElem?_replicate] at e
    split at e <;> cases e
  ·unfold aG at e
   by_cases hi:i < ds.length
   ·rw [List.getElem?_append_left (by simpa using hi),List.getElem?_map] at e
    cases q:ds[i]? with
    | none=>rw [q] at e;cases e
    | some d'=>rw [q] at e;cases e
   ·rw [List.getElem?_append_right (by simpa using hi),List.getElem?_replicate] at e
    split at e <;> cases e
  ·unfold aG at e
   by_cases hi:i < ds.length
   ·rw [List.getElem?_append_left (by simpa using hi),List.getElem?_map] at e
    cases q:ds[i]? with
    | none=>rw [q] at e;cases e
    | some d'=>rw [q] at e;cases e
   ·rw [List.getElem?_append_right (by simpa using hi),List.getElem?_replicate] at e
    split at e <;> cases e
  ·unfold aG at e
   by_cases hi:i < ds.length
   ·rw [List.getElem?_append_left (by simpa using hi),List.getElem?_map] at e
    cases q:ds[i]? with
    | none=>rw [q] at e;cases e
    | some d'=>rw [q] at e;cases e
   ·rw [List.getElem?_append_right (by simpa using hi),List.getElem?_replicate] at e
    split at e <;> cases e
 ·have ext:∀ {G' H':Hp},Hold ⟨G,λ b=>H b=none⟩ X.H₀ G' H'->Ext G H G' H':=λ {G' H'} h=>by
   rw [e0] at h
   refine ⟨h.gG,λ b o e=>h.old b o e (by dsimp only;rw [e];simp),h.GH,λ a n=>?_⟩
   cases q:H a with
   | none=>exact .inr rfl
   | some o =>
    refine .inl λ z=>n ?_
    exact h.lent a (by rw [q];simp) z
  cases q:F (aG N.length ds) with
  | next δ'=>rw [q] at hq;exact λ σ' H' G' r=>hq .non H' G' (ext r.toHold) Lu
  | ret d=>rw [q] at hq;exact λ v H' G' r dd=>hq v H' G' (ext r) (by rw [eK] at dd;exact dd)
  | exc c δ' =>
   rw [q] at hq
   intro ea s' σ' H' G' I' F' r
   have hE:E (.ref (κ c)) none H':=hq H' G' (ext r.toHold)
   have I2:Inv X pins σ' H' s':=by
    have:=I'.unwish
    exact this
   have:=Ci (M:=model P w) (E:=E) (E':=λ e' s''=>xA P w outer H s E e' s'') I2 cx.ex (by rw [<- hX];rfl) (by rw [<- hX];rfl) F' hE
   rw [<- hX] at this ⊢
   exact this
  | brk δ'=>rw [q] at hq;exact False.elim hq
  | cont δ'=>rw [q] at hq;exact False.elim hq
  | stuck=>rw [q] at hq;exact False.elim hq
theorem AD {P:Program} {w:World} {K:PySem.W.Frag} {mg:Str->Option Value} {base:Heap} {κ:Nat->Addr} {x qual:Str} {st:Stmt} {f:Addr} {fd:FuncData} {N ps:List Str} {k:Nat} {F:Ev->SR}
  (Fn:Fun K x qual st f fd) (S:FnScope N ps (am st))
  (hb:∀ (X:Cx) (B:Gd),Cxo X->X.calm=true->X.prog=P->X.w=w->X.K=K->X.mg=mg->X.base=base->X.N=N->X.env.scope=am st->(∀ y,X.fn y=true)->Room k X.A->FrmOk X->uY κ B X (aB st) F) :
  FnOk P w K mg base (xA P w) (k + 1) f fd ps (Kr K κ ps.length λ ds=>b0 (F (aG N.length ds))):=xT Fn S λ X B a1 a2 a3 a4 a5 a6 a7 a8 a9 a10 a11 a12 _=>hb X B a1 a2 a3 a4 a5 a6 a7 a8 a9 a10 a11 a12
end L3
namespace L3
open PySem PySem.Spec PyProof.Rows L2
noncomputable def LN (X:Cx) (κ:Nat->Addr) (E:XK) (G H:Hp) (r:R (List D)) (Q:VK):Prop:=match r with
 | .ok ds=>∀ a vs H' G',Ext G H G' H'->H' a=some (.lst vs)->G' a=none->H a=none->Dens ⟨X.K,κ⟩ G' vs ds->Q (.ref a) H'
 | .exc c=>∀ H' G',Ext G H G' H'->E (.ref (κ c)) none H'
 | .stuck=>False
noncomputable def FY (κ:Nat->Addr) (B:Gd) (X:Cx) (e:Expr) (f:Ev->R (List D)):Prop:=∀ pins σ Ex,PE (At X pins σ Ex) e (λ τ H Q=>∃ G δ,Rep ⟨X.K,κ⟩ B X.H₀ G H τ δ/\LN X κ (EX X pins σ Ex) G H (f δ) Q)
inductive QOw (Z:Zx) (G H:Hp) (P:List D->Prop) (v:V) (H':Hp):Prop
 | mk (a:Addr) (ds:List D) (vs:List V) (G':Hp) (e:v=.ref a) (x:Ext G H G' H') (h:H' a=some (.lst vs)) (g:G' a=none) (n:H a=none) (d:Dens Z G' vs ds) (q:P ds)
section
variable {κ:Nat->Addr} {B:Gd} {X:Cx} {e:Expr} {es:List Expr} {f:Ev->R D} {fl fs:Ev->R (List D)} {pos pos' pos'' apos:Pos}
theorem tT {G H:Hp} {p:Addr} {o:HO} (s:bV G H) (n:H p=none):Ext G H G (upd H p o):=by
 refine ⟨bV.refl _,λ b u e=>?_,λ b u e=>?_,λ b e=>.inl e⟩
 ·rw [aC (aQ e n)];exact e
 ·rw [aC (aQ (s b u e) n)];exact s b u e
noncomputable def lim (r:R (List D)):R (List D):=r.bind λ xs=>if xs.length <= 1000000 then .ok xs else .stuck
theorem Ff (h:qU κ B X es fs):FY κ B X (.List es pos) (λ δ=>lim (fs δ)):=λ pins σ Ex =>
 bT (uC (h pins σ Ex)) λ τ H Q hz=>gd hz λ G δ rp q=>⟨G,δ,rp,by
  unfold lim at q
  dsimp only at q
  cases e:fs δ with
  | ok xs =>
   rw [e] at q
   intro v H1 G1 e1 d1
   simp only [R.bind_ok] at q
   split at q
   ·rename_i hl
    refine ⟨xF (by rw [Dens.length d1];exact hl),λ p hp=>?_⟩
    exact q p v _ G1 (e1.trans (tT e1.GH hp)) aM (e1.GH.free hp) (e1.sH.free hp) d1
   ·exact False.elim q
  | exc c=>rw [e] at q;exact q
  | stuck=>rw [e] at q;exact q⟩
theorem m4 {G H G' H':Hp} {a:Addr} {vs:List V} (e:Ext G H G' H') (h1:H' a=some (.lst vs)) (h2:G' a=none) (h3:H a=none):Ext G H (upd G' a (.lst vs)) H':=by
 have sg:bV G' (upd G' a (.lst vs)):=λ b o z=>by rw [aC (aQ z h2)];exact z
 refine ⟨e.sG.trans sg,e.sH,λ b o z=>?_,λ b z=>?_⟩
 ·by_cases hb:b=a
  ·subst hb;rw [aM] at z;cases z;exact h1
  ·rw [aC hb] at z;exact e.GH b o z
 ·by_cases hb:b=a
  ·subst hb;exact .inr h3
  ·rw [aC hb] at z;exact e.new b z
noncomputable def mL (fl:Ev->R (List D)):Ev->R D:=λ δ=>(fl δ).bind λ ds=>.ok (.lst ds)
theorem FY.px (h:FY κ B X e fl):PX κ B X e (mL fl):=λ pins σ Ex=>bT (h pins σ Ex) λ τ H Q hz=>gd hz λ G δ rp q=>⟨G,δ,rp,by
 unfold mL at q
 cases e:fl δ with
 | ok ds =>
  rw [e] at q
  intro a vs H' G' e1 h1 h2 h3 h4
  have sg:bV G' (upd G' a (.lst vs)):=λ b o z=>by rw [aC (aQ z h2)];exact z
  exact q _ H' _ (m4 e1 h1 h2 h3) (by unfold aW;exact ⟨a,vs,rfl,cR.of aM,h4.mono sg⟩)
 | exc c=>rw [e] at q;exact q
 | stuck=>rw [e] at q;exact q⟩
noncomputable def kd (i:Nat) (fl:Ev->R (List D)):Ev->SR:=λ δ=>bS (fl δ) δ λ ds=>.next (δ.set i (some (.ow ds)))
theorem Iz (cx:Cxo X) {i:Nat} {x:Str} (hN:X.N.Nodup) (hi:X.N[i]?=some x) (hx:qX X.env.scope x) (hf:X.fn x=true \/ X.env.scope.names.lookup x=some .local) (h:FY κ B X e fl) (hs:swapsWith e (some (.Name x pos')) pos.line X.env=pure false) :
  PZ κ B X (.Assign [.Name x pos'] e pos) (kd i fl):=λ Ex pins s σ H G δ Dn hp I rp q=>by
 unfold kd at q
 refine wpAny_Assign_Name (b7 (h pins σ Ex pins s σ H (QOw ⟨X.K,κ⟩ G H λ ds=>cG κ B X Ex pins Dn (.next (δ.set i (some (.ow ds))))) (jJ I) ⟨G,δ,rp,?_⟩)
  λ v s1 ⟨y,H',I',r,⟨a,ds,vs,G',e0,e1,h1,h2,h3,h4,q⟩⟩=>?_) hs
 ·cases e:fl δ with
  | ok ds=>rw [e] at q;exact λ a vs H' G' e1 h1 h2 h3 h4=>⟨a,ds,vs,G',rfl,e1,h1,h2,h3,h4,q⟩
  | exc c=>rw [e] at q;exact λ H' G' e1 ea s' I' F=>q ea s' σ H' G' I' F (rp.ext e1)
  | stuck=>rw [e] at q;exact q
 ·subst e0
  have rp':=rp.ext e1
  refine jS (X:=X.wish Ex) (dC cx.sg I') hN hi hx r (λ s2 I2=>⟨_,H',I2,q _ H' G' (rp'.setOw h1 h4 h2 ?_ λ j es z n z2=>?_)⟩) hf (λ p σ v _=>cx.sg p _)
  ·cases q0:X.H₀ a with
   | none=>rfl
   | some o=>exact absurd h3 (rp.there a (by rw [q0];simp))
  ·obtain ⟨b,us,y1,y2,_⟩:=rp.ow j es z
   rw [y1] at z2
   cases z2
   rw [h3] at y2;cases y2
noncomputable def iC (i:Nat) (f:Ev->R D):Ev->SR:=λ δ=>match δ[i]? with
 | some (some (.ow ds))=>bS (f δ) δ λ d=>if ds.length < 1000000 then .next (δ.set i (some (.ow (ds++[d])))) else .stuck
 | _=>.stuck
theorem A6 (cx:Cxo X) {i:Nat} {x:Str} (hN:X.N[i]?=some x) (hv:rL X.env.scope x) (hd:(x == ("__debug__" : Str))=false) (hcd:(x == ("__classdict__" : Str))=false) (h:PX κ B X e f)
  (hsw:swapsWith (.Call (.Attribute (.Name x pos) "append" apos) [e] [] pos') none pos''.line X.env=pure false)
  (hbase:attributeBase (.Name x pos) "append" X.env (eval (.Name x pos) X.env)=eval (.Name x pos) X.env)
  (hfew:((backTo pos' (starEach [e] X.env)).all (λ x=>!x.1) && (backToKw pos' (keywordEach [] X.env)).all (λ x=>x.1.isSome)
   && decide (([e]:List Expr).length + ([]:List Keyword).length + (if ([]:List Keyword).isEmpty then 0 else 1) < 30))=true)
  (hline:(apos.endLine == pos'.line)=true) (hs:starEach [e] X.env=(false,eval e X.env) :: starEach [] X.env) (hpl:(backTo pos' (starEach [] X.env)).any (·.1)=false) :
  PZ κ B X (.Expr (.Call (.Attribute (.Name x pos) "append" apos) [e] [] pos') pos'') (iC i f):=λ Ex pins s σ H G δ Dn hp I rp q=>by
 unfold iC at q
 split at q
 ·rename_i ds ed
  obtain ⟨a,vs,x1,x2,x3,x4,x5⟩:=rp.ow i ds ed
  have pe:=sK (X:=At X pins σ Ex) PySem.F.plainAttrs_list PySem.F.slot_list_append PySem.F.type_list_append jX (lM (X:=At X pins σ Ex) (pos:=pos) hN hv hd hcd) (wS h uF hs pins σ Ex) hbase hfew hline hs hpl
  refine wpAny_Expr_any (b7 (pe pins s σ H (λ _ H'=>∃ G' δ',Rep ⟨X.K,κ⟩ B X.H₀ G' H' σ δ'/\cG κ B X Ex pins Dn (.next δ')) (jJ I) ⟨.ref a,x1,.inl ⟨rfl,vs,cR.of x2⟩,G,δ,rp,?_⟩) (by rintro v s1 ⟨y,H',I',r,G',δ',rp',q⟩;exact ⟨σ,H',dC cx.sg I',q σ H' G' rp'⟩)) I.quiet hsw
  unfold ah ar
  cases e:f δ with
  | ok d =>
   rw [e] at q
   simp only [R.bind_ok]
   intro us H1 G1 e1 d1
   simp only [FZ] at q
   split at q
   ·rename_i hl
    obtain ⟨y,rfl,dy⟩:∃ y,us=[y]/\aW ⟨X.K,κ⟩ G1 y d:=by
     match us,d1 with
     | [y],d1=>unfold gc Dens at d1;exact ⟨y,rfl,d1.1⟩
     | [],d1=>unfold gc Dens at d1;exact d1.elim
     | _ :: _ :: _,d1=>unfold gc Dens at d1;have:=d1.2;unfold Dens at this;exact this.elim
    have rp1:=rp.ext e1
    refine ⟨a,vs,y,rfl,rfl,e1.sH _ _ x2,?_,G1,_,rp1.updOw ed x1 ((x3.mono e1.sG).append (bt dy bn)),q⟩
    have:=x3.length
    rw [sizeLine_eq]
    (first | lia | omega)
   ·exact False.elim q
  | exc c =>
   rw [e] at q
   exact λ H' G' e1 ea s' I' F=>q ea s' σ H' G' I' F (rp.ext e1)
  | stuck=>rw [e] at q;exact q
 ·exact False.elim q
end
end L3
namespace L3
open PySem PySem.Spec PyProof.Rows L2
mutual
noncomputable def Ad:D->PyData
 | .non=>.none
 | .bl b=>.bool b
 | .int i=>.int i
 | .str x=>.str ⟨x.toArray⟩
 | .tup ds=>.tuple (toPs ds)
 | .lst ds=>.list (toPs ds)
 | .ob _ _ _=>.none
 | .dic _ _=>.none
noncomputable def toPs:List D->List PyData
 | []=>[]
 | d :: ds=>Ad d :: toPs ds
end
mutual
noncomputable def eL:D->Bool
 | .non | .bl _ | .int _ | .str _=>true
 | .tup ds=>plainDs ds
 | .lst ds=>plainDs ds
 | .ob _ _ _=>false
 | .dic _ _=>false
noncomputable def plainDs:List D->Bool
 | []=>true
 | d :: ds=>eL d && plainDs ds
end
section
variable {κ:Nat->Addr} {Y:Cx} {pins:List (Addr × Obj)} {σ:St} {H G:Hp} {s:Shared}
mutual
theorem wX (I:Inv Y pins σ H s) (sm:bV G H):∀ {d:D} {v:V} {u:Value},aW ⟨Y.K,κ⟩ G v d->eL d=true->bg v u->∃ as,Reads s.heap u (Ad d) as
 | .non,v,u,h,_,r=>by unfold aW at h;subst h;cases r;exact ⟨_,.none⟩
 | .bl b,v,u,h,_,r=>by unfold aW at h;subst h;cases r;exact ⟨_,.bool b⟩
 | .int i,v,u,h,_,r=>by unfold aW at h;subst h;obtain ⟨t,rfl⟩:=r;exact ⟨_,.int i t⟩
 | .str x,v,u,h,_,r=>by unfold aW at h;subst h;obtain ⟨t,rfl⟩:=r;exact ⟨_,.str _ t⟩
 | .tup ds,v,u,h,p,r=>by
  unfold aW at h
  obtain ⟨a,vs,rfl,h1,h2⟩:=h
  cases r
  obtain ⟨its,rv,⟨o,e,hc,n,hd⟩,_⟩:=I.tuple (bY sm h1)
  obtain ⟨as,q⟩:=reads_ofs I sm h2 (by unfold eL at p;exact p) rv
  exact ⟨as,reads_tuple_at e hc hd (by simpa using q)⟩
 | .lst ds,v,u,h,p,r=>by
  unfold aW at h
  obtain ⟨a,vs,rfl,h1,h2⟩:=h
  cases r
  obtain ⟨its,rv,⟨o,n,e,hc,_,hd⟩,_⟩:=I.list (sm.seq h1)
  obtain ⟨as,q⟩:=reads_ofs I sm h2 (by unfold eL at p;exact p) rv
  exact ⟨a :: as,reads_list_at e hc hd (by simpa using q)⟩
 | .ob _ _ _,_,_,_,p,_=>by unfold eL at p;cases p
 | .dic _ _,_,_,_,p,_=>by unfold eL at p;cases p
theorem reads_ofs (I:Inv Y pins σ H s) (sm:bV G H):∀ {ds:List D} {vs:List V} {us:List Value},Dens ⟨Y.K,κ⟩ G vs ds->plainDs ds=true->bE vs us->∃ as,ReadsAll s.heap us (toPs ds) as
 | [],[],us,_,_,r=>by cases r;exact ⟨_,.nil⟩
 | d :: ds,v :: vs,us,h,p,r=>by
  unfold Dens at h
  unfold plainDs at p
  have p:=Bool.and_eq_true_iff.mp p
  cases r with
  | cons r1 r2 =>
   obtain ⟨as,q1⟩:=wX I sm h.1 p.1 r1
   obtain ⟨bs,q2⟩:=reads_ofs I sm h.2 p.2 r2
   exact ⟨_,.cons q1 q2⟩
 | [],_ :: _,_,h,_,_=>by unfold Dens at h;exact h.elim
 | _ :: _,[],_,h,_,_=>by unfold Dens at h;exact h.elim
end
theorem j0 (I:Inv Y pins σ H s) (sm:bV G H) {d:D} {v:V} {u:Value} (h:iz Y κ G H v d) (p:eL d=true) (r:bg v u):∃ as,Reads s.heap u (Ad d) as:=by
 rcases h with h | ⟨a,vs,ds,rfl,rfl,h3,h4⟩
 ·exact wX I sm h p r
 ·cases r
  obtain ⟨its,rv,⟨o,n,e,hc,_,hd⟩,_⟩:=I.list (cR.of h3)
  obtain ⟨as,q⟩:=reads_ofs I sm h4 (by unfold eL at p;exact p) rv
  exact ⟨a :: as,reads_list_at e hc hd (by simpa using q)⟩
end
noncomputable def wG (d:D):Bool:=eL d && SeqAt.shaped (Ad d)
noncomputable def AB (x y:D):Bool:=(Ad x).eqv (Ad y)
noncomputable def cz (x y:D):R Bool:=if wG x && wG y then .ok (AB x y) else .stuck
noncomputable def ul (x y:D):R Bool:=if wG x && wG y then .ok (!AB x y) else .stuck
noncomputable def Fy (X:Cx) (κ:Nat->Addr) (neg:Bool):R2:=λ v u H Q=>∃ G x y,bV G H/\iz X κ G H v x/\iz X κ G H u y/\wG x=true/\wG y=true/\Q (.bl (neg ^^ AB x y)) H
section
variable {κ:Nat->Addr} {B:Gd} {X:Cx} {a b c:Expr} {fa fb:Ev->R D} {pos p p':Pos}
theorem qE {X Y:Cx} {κ:Nat->Addr} (e:Y.K=X.K) {G H:Hp} {v:V} {d:D} (h:iz X κ G H v d):iz Y κ G H v d:=by
 unfold iz at h ⊢
 rw [e];exact h
theorem CF (hu:X.A.units + 64 < cLine):∀ Y:Cx,Y.K=X.K->Y.A=X.A->lC Y (compareOp .Eq) (Fy X κ false):=by
 intro Y eK eA pins s σ H v u v' u' Q I r1 r2 ⟨G,x,y,sm,d1,d2,o1,o2,q⟩
 have o1:=Bool.and_eq_true_iff.mp o1
 have o2:=Bool.and_eq_true_iff.mp o2
 obtain ⟨as,q1⟩:=j0 I sm (qE eK d1) o1.1 r1
 obtain ⟨bs,q2⟩:=j0 I sm (qE eK d2) o2.1 r2
 exact eq_dataH q1 q2 o1.2 o2.2 (by rw [eA];exact hu) ⟨.bl _,H,I,rfl,by simpa [AB] using q⟩
theorem CH (hu:X.A.units + 64 < cLine):∀ Y:Cx,Y.K=X.K->Y.A=X.A->lC Y (compareOp .NotEq) (Fy X κ true):=by
 intro Y eK eA pins s σ H v u v' u' Q I r1 r2 ⟨G,x,y,sm,d1,d2,o1,o2,q⟩
 have o1:=Bool.and_eq_true_iff.mp o1
 have o2:=Bool.and_eq_true_iff.mp o2
 obtain ⟨as,q1⟩:=j0 I sm (qE eK d1) o1.1 r1
 obtain ⟨bs,q2⟩:=j0 I sm (qE eK d2) o2.1 r2
 exact ne_dataH q1 q2 o1.2 o2.2 (by rw [eA];exact hu) ⟨.bl _,H,I,rfl,by simpa [AB] using q⟩
theorem zL:pB κ X (Fy X κ false) (dL cz):=by
 intro x y v u G H Q E s d1 d2 q
 unfold dL cz at q
 split at q
 ·rename_i h
  have h:=Bool.and_eq_true_iff.mp h
  exact ⟨G,x,y,s,d1,d2,h.1,h.2,by simpa using q _ H G (Ext.refl s) Jd⟩
 ·exact False.elim q
theorem zN:pB κ X (Fy X κ true) (dL ul):=by
 intro x y v u G H Q E s d1 d2 q
 unfold dL ul at q
 split at q
 ·rename_i h
  have h:=Bool.and_eq_true_iff.mp h
  exact ⟨G,x,y,s,d1,d2,h.1,h.2,by simpa using q _ H G (Ext.refl s) Jd⟩
 ·exact False.elim q
theorem Ka (hu:X.A.units + 64 < cLine) (ha:cT κ B X a fa) (hb:cT κ B X b fb) (hm:behindInMarks .Eq b=false):PX κ B X (.Compare a [.Eq] [b] pos) (m2 (dL cz) fa fb):=n4 (CF hu) zL ha hb hm
theorem Kh (hu:X.A.units + 64 < cLine) (ha:cT κ B X a fa) (hb:cT κ B X b fb) (hm:behindInMarks .NotEq b=false):PX κ B X (.Compare a [.NotEq] [b] pos) (m2 (dL ul) fa fb):=n4 (CH hu) zN ha hb hm
theorem Il (hu:X.A.units + 64 < cLine) (ha:cT κ B X a fa) (hb:cT κ B X b fb) (hm:behindInMarks .Eq b=false):nG κ B X (.Compare a [.Eq] [b] pos) (bC cz fa fb):=gg (CF hu) zL ha hb hm
theorem Is (hu:X.A.units + 64 < cLine) (ha:cT κ B X a fa) (hb:cT κ B X b fb) (hm:behindInMarks .NotEq b=false):nG κ B X (.Compare a [.NotEq] [b] pos) (bC ul fa fb):=gg (CH hu) zN ha hb hm
@[simp] theorem zF (i j:Int):cz (.int i) (.int j)=.ok (i == j):=rfl
@[simp] theorem zJ (i j:Int):ul (.int i) (.int j)=.ok (!(i == j)):=rfl
@[simp] theorem Ht (i j:Bool):cz (.bl i) (.bl j)=.ok (i == j):=rfl
@[simp] theorem LY (i j:Bool):ul (.bl i) (.bl j)=.ok (!(i == j)):=rfl
noncomputable def b3:D->R D
 | .lst ds=>.ok (.int ds.length)
 | .tup ds=>.ok (.int ds.length)
 | .str x=>if x.length <= 1000000 then .ok (.int x.length) else .stuck
 | _=>.stuck
theorem BH {Y:Cx} {f:Value} {r r':List V->Hp->VK->Prop} (h:ke Y f r) (h':ke Y f r'):ke Y f (λ xs H Q=>r xs H Q \/ r' xs H Q):=by
 intro pins s σ H xs us Q I rx q
 rcases q with q | q
 ·exact h pins s σ H xs us Q I rx q
 ·exact h' pins s σ H xs us Q I rx q
theorem Ic (hg:Gl X "len") (hm:X.mg "len" = none) (ha:cT κ B X a fa) (hs:starEach [a] X.env=(false,eval a X.env) :: starEach [] X.env) (hpl:(backTo pos (starEach [] X.env)).any (·.1)=false):PX κ B X (.Call (.Name "len" p) [a] [] pos) (m1 b3 fa):=λ pins σ Ex =>
 bT (wM (X:=At X pins σ Ex) (BH tG tH) hg hm PySem.boot_len (eW (X:=At X pins σ Ex) (ha pins σ Ex) gB hs) (by decide) (by decide) hs hpl) λ τ H Q hz=>gd hz λ G δ rp q=>⟨G,δ,rp,q.seq λ x v H1 G1 e1 d1 q1=>by
  have lst:∀ {q:Addr} {vs:List V} {ds:List D},(cR X.K H1 q vs \/ nJ X.K H1 q vs)->Dens ⟨X.K,κ⟩ G1 vs ds->rK (ig X κ) κ (EX X pins σ Ex) G1 H1 (.ok (.int ds.length)) Q →
   (∃ p ys,[V.ref q]=[.ref p]/\(cR X.K H1 p ys \/ nJ X.K H1 p ys)/\Q (.int ys.length) H1):=λ {q vs ds} h1 h2 h3=>⟨q,vs,rfl,h1,by
    rw [h2.length];exact h3 _ H1 G1 (Ext.refl e1.GH) tJ⟩
  cases x with
  | lst ds =>
   rcases d1 with d1 | ⟨l,vs,es,rfl,e,h3,h4⟩
   ·unfold aW at d1
    obtain ⟨l,vs,rfl,h1,h2⟩:=d1
    exact .inl (lst (.inl (e1.GH.seq h1)) h2 q1)
   ·cases e
    exact .inl (lst (.inl (cR.of h3)) h4 q1)
  | tup ds =>
   rcases d1 with d1 | ⟨l,vs,es,rfl,e,h3,h4⟩
   ·unfold aW at d1
    obtain ⟨l,vs,rfl,h1,h2⟩:=d1
    exact .inl (lst (.inr (bY e1.GH h1)) h2 q1)
   ·cases e
  | str x =>
   simp only [b3] at q1
   split at q1
   ·rename_i hx
    have ev:=wV d1
    subst ev
    refine .inr ⟨_,rfl,xF (by simpa [Str.length] using hx),?_⟩
    have:=q1 _ H1 G1 (Ext.refl e1.GH) tJ
    simpa [Str.length] using this
   ·exact False.elim q1
  | _=>exact False.elim q1⟩
inductive Ty where
 | int | bool | str | tuple | list
noncomputable def Ty.nm:Ty->String
 | .int => "int" | .bool => "bool" | .str => "str" | .tuple => "tuple" | .list => "list"
noncomputable def xY:D->Ty->R Bool
 | .non,_=>.ok false
 | .bl _,.int=>.ok true
 | .bl _,.bool=>.ok true
 | .bl _,_=>.ok false
 | .int _,.int=>.ok true
 | .int _,_=>.ok false
 | .str _,.str=>.ok true
 | .str _,_=>.ok false
 | .tup _,.tuple=>.ok true
 | .tup _,_=>.ok false
 | .lst _,.list=>.ok true
 | .lst _,_=>.ok false
 | .ob _ _ _,_=>.stuck
 | .dic _ _,_=>.stuck
theorem Em {K:PySem.W.Frag} (T:Ty):PySem.W.kitOne K (.type "NoneType") (.type T.nm)=some false/\PySem.W.kitOne K (.type "bool") (.type T.nm)=some (match T with | .int=>true | .bool=>true | _=>false) ∧
  PySem.W.kitOne K (.type "int") (.type T.nm)=some (match T with | .int=>true | _=>false)/\PySem.W.kitOne K (.type "str") (.type T.nm)=some (match T with | .str=>true | _=>false) ∧
  PySem.W.kitOne K (.type "tuple") (.type T.nm)=some (match T with | .tuple=>true | _=>false)/\PySem.W.kitOne K (.type "list") (.type T.nm)=some (match T with | .list=>true | _=>false):=by
 cases T <;> exact ⟨rfl,rfl,rfl,rfl,rfl,rfl⟩
theorem tF (T:Ty):bootBuiltins (Str.ofString T.nm)=some (.type T.nm):=by
 cases T <;> decide +kernel
noncomputable def MO (X:Cx) (κ:Nat->Addr) (T:Ty):List V->Hp->VK->Prop:=λ xs H Q=>∃ G v x k,xs=[v,.ty T.nm]/\bV G H/\iz X κ G H v x/\xY x T=.ok k/\Q (.bl k) H
theorem BG (T:Ty):∀ Y:Cx,Y.K=X.K->ke Y (.builtin "isinstance") (MO X κ T):=by
 rintro Y eK pins s σ H xs us Q I rx ⟨G,v,x,k,e,sm,d,hk,q⟩
 subst e
 obtain ⟨k1,k2,k3,k4,k5,k6⟩:=Em (K:=Y.K) T
 have d:=qE eK d
 cases rx with | cons r1 rx=>cases rx with | cons r2 rx=>cases rx with | nil =>
  rename_i u t
  cases r2
  have fin:∀ (b:Bool),R.ok b=R.ok k->∀ tk,EP Y pins σ Q (.bool b) { s with toks:=tk }:=λ b e tk=>by
   injection e with e
   subst e
   exact ⟨.bl b,H,I.tok tk,rfl,q⟩
  have lst:∀ {l:Addr} {vs:List V},v=.ref l->cR Y.K H l vs->xY (.lst []) T=.ok k->wpAny (model Y.prog Y.w) Y.A (call (.builtin "isinstance") [u,.type T.nm]) (EP Y pins σ Q) Y.xe s:=λ {l vs} e0 h1 e=>by
   subst e0
   cases r1
   obtain ⟨its,_,⟨o,n,e1,hc,_⟩,_⟩:=I.list h1
   exact PySem.W.kia_one (PySem.W.kitx_list (K:=Y.K)) I.kIn ⟨o,e1,hc⟩ k6 (by intro z;cases z) (fin _ (by rw [<- e];cases T <;> rfl))
  rcases d with d | ⟨l,vs,ds,e0,e,h3,h4⟩
  ·cases x with
   | non=>unfold aW at d;subst d;cases r1;exact PySem.W.kia_one (PySem.W.kitx_none (K:=Y.K)) I.kIn trivial k1 (by intro z;cases z) (fin _ (by rw [<- hk];cases T <;> rfl))
   | bl b=>unfold aW at d;subst d;cases r1;exact PySem.W.kia_one (PySem.W.kitx_bool (K:=Y.K)) I.kIn trivial k2 (by intro z;cases z) (fin _ (by rw [<- hk];cases T <;> rfl))
   | int i=>unfold aW at d;subst d;obtain ⟨tk,rfl⟩:=r1;exact PySem.W.kia_one (PySem.W.kitx_int (K:=Y.K)) I.kIn trivial k3 (by intro z;cases z) (fin _ (by rw [<- hk];cases T <;> rfl))
   | str i=>unfold aW at d;subst d;obtain ⟨tk,rfl⟩:=r1;exact PySem.W.kia_one (PySem.W.kitx_str (K:=Y.K)) I.kIn trivial k4 (by intro z;cases z) (fin _ (by rw [<- hk];cases T <;> rfl))
   | tup ds =>
    unfold aW at d
    obtain ⟨l,vs,rfl,h1,_⟩:=d
    cases r1
    obtain ⟨its,_,⟨o,e1,hc,_⟩,_⟩:=I.tuple (bY sm h1)
    exact PySem.W.kia_one (PySem.W.kitx_tuple (K:=Y.K)) I.kIn ⟨o,e1,hc⟩ k5 (by intro z;cases z) (fin _ (by rw [<- hk];cases T <;> rfl))
   | lst ds =>
    unfold aW at d
    obtain ⟨l,vs,e0,h1,_⟩:=d
    exact lst e0 (sm.seq h1) (by rw [<- hk];cases T <;> rfl)
   | ob _ _ _=>cases hk
   | dic _ _=>cases hk
  ·subst e
   exact lst e0 (cR.of h3) (by rw [<- hk];cases T <;> rfl)
theorem A5 (T:Ty) {y:Str} (hy:y=Str.ofString T.nm) (hg:Gl X "isinstance") (hm:X.mg "isinstance" = none) (hgT:Gl X y) (hmT:X.mg y=none) (hn:y ≠ "__name__") (hdb:(y == ("__debug__" : Str))=false) (ha:cT κ B X a fa)
  (hs:starEach [a,.Name y p'] X.env=(false,eval a X.env) :: starEach [.Name y p'] X.env) (hs2:starEach [.Name y p'] X.env=(false,eval (.Name y p') X.env) :: starEach [] X.env) (hpl:(backTo pos (starEach [.Name y p'] X.env)).any (·.1)=false) :
  PX κ B X (.Call (.Name "isinstance" p) [a,.Name y p'] [] pos) (m1 (λ x=>BC (xY x T)) fa):=λ pins σ Ex =>
 bT (wM (X:=At X pins σ Ex) (BG (κ:=κ) (X:=X) T (At X pins σ Ex) rfl) hg hm PyProof.Rows.boot_isinstance (eW (X:=At X pins σ Ex) (ha pins σ Ex) (eW (X:=At X pins σ Ex) (EM (X:=At X pins σ Ex) (v:=.ty T.nm) hgT hmT (by rw [hy];exact tF T) rfl hn hdb) gB hs2) hs) (by decide) (by decide) hs hpl) λ τ H Q hz=>gd hz λ G δ rp q=>⟨G,δ,rp,q.seq λ x v H1 G1 e1 d1 q1=>by
  cases e:xY x T with
  | ok k=>rw [e] at q1;exact ⟨G1,v,x,k,rfl,e1.GH,d1,e,q1 _ H1 G1 (Ext.refl e1.GH) Jd⟩
  | exc c=>cases x <;> cases T <;> cases e
  | stuck=>rw [e] at q1;exact False.elim q1⟩
end
end L3
namespace L2
theorem Fun.at {K:PySem.W.Frag} {x qual:PySem.Str} {st:PySem.Stmt} {f:PySem.Addr} {fd:PySem.FuncData} (F:Fun K x qual st f fd):∃ oc od osl,K.lookup f=some ⟨oc,od,.func fd,osl⟩:=by
 obtain ⟨oc,od,_,_,_,_,_,_,osl,_,l,_⟩:=F.ex
 exact ⟨oc,od,osl,l⟩
end L2
namespace L3
open PySem PySem.Spec PyProof.Rows L2
noncomputable def MC (P:Program) (w:World) (K:PySem.W.Frag) (mg:Str->Option Value) (base:Heap) (κ:Nat->Addr) (x:Str) (ps:List Str) (m:List D->R D) (k:Nat):Prop:=
 ∃ f fd,FnOk P w K mg base (xA P w) k f fd ps (Kr K κ ps.length m)/\mg x=some (.ref f)/\PySem.W.keepIn K (.ref f)=true/\lS K fd ps []/\∃ oc od osl,K.lookup f=some ⟨oc,od,.func fd,osl⟩
theorem MC.cal {κ:Nat->Addr} {X:Cx} {x:Str} {ps:List Str} {n:Nat} {m:List D->R D} {k j:Nat} (h:MC X.prog X.w X.K X.mg X.base κ x ps m k) (hr:Room j X.A) (hj:k <= j) (hn:ps.length=n:=by rfl):Cal κ X x n m:=by
 obtain ⟨f,fd,F,h1,h2,h3,_⟩:=h
 subst hn
 exact ⟨f,fd,ps,k,F,hr.mono hj,h1,h2,h3⟩
theorem Cp:∀ (δ:Ev) (ds:List D),ar δ=.ok ds->ds.length=0:=λ δ ds h=>by
 unfold ar at h;injection h with h;subst h;rfl
theorem AN {f:Ev->R D} {fs:Ev->R (List D)} {n:Nat} (h:∀ δ ds,fs δ=.ok ds->ds.length=n):∀ (δ:Ev) (ds:List D),ah f fs δ=.ok ds->ds.length=n + 1:=λ δ ds e=>by
 unfold ah at e
 cases q:f δ with
 | ok x =>
  rw [q] at e
  cases q2:fs δ with
  | ok xs =>
   rw [q2] at e
   injection e with e
   subst e
   simp [h δ xs q2]
  | exc c=>rw [q2] at e;cases e
  | stuck=>rw [q2] at e;cases e
 | exc c=>rw [q] at e;cases e
 | stuck=>rw [q] at e;cases e
theorem j7 {K:PySem.W.Frag} {κ:Nat->Addr} {mg:Str->Option Value} {x:Str} {a:Addr} {dd:Option Addr} {its:Array Value} {n:Nat} {sl:Array (Option Value)} {vs:List V} {ds:List D} (h1:mg x=some (.ref a)) (h2:K.lookup a=some ⟨.type "tuple",dd,.seq its n,sl⟩) (h3:bE vs its.toList) (h4:vs.length <= 1000) (h5:∀ G,Dens ⟨K,κ⟩ G vs ds) :
  ∃ u v,mg x=some u/\bg v u/\∀ G,aW ⟨K,κ⟩ G v (.tup ds):=by
 refine ⟨_,.ref a,h1,rfl,λ G=>?_⟩
 unfold aW
 refine ⟨a,vs,rfl,.inr ⟨_,its,n,h2,rfl,rfl,?_,h3⟩,h5 G⟩
 have:=h3.length
 simp only [Array.length_toList] at this
 rw [sizeLine_eq]
 (first | lia | omega)
theorem Hm {P:Program} {w:World} {K:PySem.W.Frag} {mg:Str->Option Value} {base:Heap} {κ:Nat->Addr} {y:Str} {m:List D->R D} {k:Nat} {f:Addr} {fd:FuncData} {oc:Value} {od:Option Addr} {osl:Array (Option Value)}
  (hm:mg "law" = some (.ref f)) (l:K.lookup f=some ⟨oc,od,.func fd,osl⟩) (o:MC P w K mg base κ "law" [y] m k) (main:∀ ns:List Int,ns.length <= 63->m [.lst (ns.map D.int)]=.ok (.bl true)) :
  FnOk P w K mg base (xA P w) k f fd [y] (λ vs H Q _=>∃ (a:Addr) (ns:List Int),vs=[.ref a]/\cR K H a (ns.map V.int)/\ns.length <= 63/\∀ H',Q (.bl true) H'):=by
 obtain ⟨f',fd',F,h1,_,_,oc',od',osl',l'⟩:=o
 rw [hm] at h1;cases h1
 rw [l] at l';cases l'
 refine F.imp λ vs H Q E ⟨a,ns,e,hS,hl,hq⟩=>?_
 subst e
 refine ⟨rfl,H,[.lst (ns.map D.int)],bV.refl _,bt (by unfold aW;exact ⟨a,_,rfl,hS,Ay ns⟩) bn,?_⟩
 rw [main ns hl]
 intro v H' G' _ d
 have:v=.bl true:=by simpa [aW] using d
 subst this
 exact hq H'
end L3
namespace L3
open PySem PySem.Spec PyProof.Rows L2
noncomputable def aU:Expr->Bool
 | .Starred _ _=>false
 | _=>true
theorem be {e:Expr} {es:List Expr} {env:Env} (h:aU e=true):starEach (e :: es) env=(false,eval e env) :: starEach es env:=by
 cases e <;> first | rfl | exact Bool.noConfusion h
theorem pN {pos:Pos} {env:Env}:∀ {es:List Expr},es.all aU=true->(backTo pos (starEach es env)).any (·.1)=false
 | [],_=>rfl
 | e :: es,h=>by
  simp only [List.all_cons,Bool.and_eq_true] at h
  rw [be h.1]
  show (false || (backTo pos (starEach es env)).any (·.1))=false
  rw [pN h.2];rfl
theorem mV {pos:Pos} {env:Env} {e:Expr} (h:aU e=true):((backTo pos (starEach [e] env)).all (λ x=>!x.1) && (backToKw pos (keywordEach [] env)).all (λ x=>x.1.isSome)
   && decide (([e]:List Expr).length + ([]:List Keyword).length + (if ([]:List Keyword).isEmpty then 0 else 1) < 30))=true:=by
 rw [be h];rfl
noncomputable def eJ:Expr->Bool
 | .ListComp _ _ _ _=>false
 | .SetComp _ _ _ _=>false
 | .DictComp _ _ _ _ _=>false
 | _=>true
theorem jT {e:Expr} {t:Option Expr} {n:Nat} {env:Env} (h:eJ e=true):swapsWith e t n env=pure false:=by
 cases e <;> first | rfl | exact Bool.noConfusion h
theorem yH {e t:Expr} {n:Nat} {env:Env} (h:eJ e=true):swapsWithSole [t] e n env=pure false:=by
 show swapsWith e (some t) n env=pure false
 exact jT h
noncomputable def Cw:Expr->Bool
 | .Tuple _ _ _=>false
 | _=>true
theorem Bh {t e:Expr} {env:Env} (h:Cw e=true):swappedStores [t] e env=pure none:=by
 cases t <;> first | rfl | (cases e <;> first | rfl | exact Bool.noConfusion h)
theorem BU {t:Expr} {env:Env} (h:aU t=true):(assignEach [t] env).map (·.2)=[assign t env]:=by
 cases t <;> first | rfl | exact Bool.noConfusion h
theorem AA {t:Expr} {ts:List Expr} {env:Env} (h:aU t=true):(assignEach (t :: ts) env).map (·.2)=assign t env :: (assignEach ts env).map (·.2):=by
 cases t <;> first | rfl | exact Bool.noConfusion h
theorem pZ {env:Env}:∀ {ts:List Expr},ts.all aU=true->(assignEach ts env).length=ts.length/\(assignEach ts env).findIdx? (·.1)=none
 | [],_=>⟨rfl,rfl⟩
 | t :: ts,h=>by
  simp only [List.all_cons,Bool.and_eq_true] at h
  obtain ⟨h1,h2⟩:=pZ (env:=env) h.2
  have e:assignEach (t :: ts) env=(false,assign t env) :: assignEach ts env:=by
   have:=h.1
   cases t <;> first | rfl | exact Bool.noConfusion this
  rw [e]
  refine ⟨by simp [h1],?_⟩
  rw [List.findIdx?_cons]
  simp [h2]
noncomputable def L5:Expr->Bool
 | .Name _ _ | .Call _ _ _ _ | .Subscript _ _ _ | .Attribute _ _ _ | .BinOp _ _ _ _ | .Tuple _ _ _ | .List _ _=>true
 | _=>false
theorem FJ {a:Expr} {env:Env} (h:L5 a=true):∀ whole,isTrue a env whole=(do let v ← whole;standAt a.pos;holding [v] (truthy v)):=by
 intro w
 cases a <;> first | rfl | exact Bool.noConfusion h
noncomputable def DR:Expr->Bool
 | .Name _ _ | .Call _ _ _ _ | .Subscript _ _ _ | .Attribute _ _ _ | .BinOp _ _ _ _ | .List _ _ | .Constant _ _ _ | .IfExp _ _ _ _ | .UnaryOp _ _ _ | .Compare _ _ _ _ | .BoolOp _ _ _=>true
 | _=>false
theorem tU {a:Expr} {env:Env} (h:DR a=true):∀ x,foldedSetIterable a env x=pure x:=by
 intro x
 cases a <;> first | rfl | exact Bool.noConfusion h
theorem JI {b:Expr} (h:DR b=true):sZ b:=by
 intro o i
 cases b <;> first | rfl | exact Bool.noConfusion h
noncomputable def MN:Expr->Bool
 | .Set _ _ _=>false
 | _=>true
theorem aq {o:CmpOp} {b:Expr} (h:MN b=true):behindInMarks o b=false:=by
 cases b <;> first | rfl | exact Bool.noConfusion h
section
variable {κ:Nat->Addr} {B:Gd} {X:Cx} {a b e k tg:Expr} {es tgs:List Expr} {f fa fb fk:Ev->R D} {fs fl:Ev->R (List D)} {pos pos' pos'' apos p p':Pos} {x:Str} {m:List D->R D} {n i:Nat}
theorem Af (ha:PX κ B X a fa) (hr:qU κ B X es fs) (h:aU a=true):qU κ B X (a :: es) (ah fa fs):=wS ha hr (be h)
theorem IU (c:Cxo X) (C:Cal κ X x n m) (hn:(a :: es).length=n) (hg:Gl X x) (ha:qU κ B X (a :: es) fs) (hdb:(x == ("__debug__" : Str))=false) (h:(a :: es).all aU=true) (hlen:∀ δ ds,fs δ=.ok ds->ds.length=n) :
  PX κ B X (.Call (.Name x p) (a :: es) [] pos) (aH m fs):=by
 have h':=h
 simp only [List.all_cons,Bool.and_eq_true] at h'
 exact E9 c C hn hg ha hdb (be h'.1) (pN h'.2) hlen
theorem KL (cx:Cxo X) (hN:X.N.Nodup) (hi:X.N[i]?=some x) (hx:qX X.env.scope x) (hf:X.fn x=true \/ X.env.scope.names.lookup x=some .local) (h:PX κ B X e f) (hs:eJ e=true):PZ κ B X (.Assign [.Name x pos'] e pos) (aJ i f):=IB cx hN hi hx hf h (jT hs)
theorem KJ (cx:Cxo X) (hN:X.N.Nodup) (hi:X.N[i]?=some x) (hx:qX X.env.scope x) (hf:X.fn x=true \/ X.env.scope.names.lookup x=some .local) (h:FY κ B X e fl) (hs:eJ e=true):PZ κ B X (.Assign [.Name x pos'] e pos) (kd i fl):=Iz cx hN hi hx hf h (jT hs)
theorem IW (cx:Cxo X) (h:PX κ B X e f) (hs:eJ e=true):PZ κ B X (.Expr e pos) (qS f):=Fl cx h (jT hs)
theorem DH (cx:Cxo X) (hN:X.N[i]?=some x) (hv:rL X.env.scope x) (hd:(x == ("__debug__" : Str))=false) (hcd:(x == ("__classdict__" : Str))=false) (h:PX κ B X e f) (hs:aU e=true) (hline:(apos.endLine == pos'.line)=true) :
  PZ κ B X (.Expr (.Call (.Attribute (.Name x pos) "append" apos) [e] [] pos') pos'') (iC i f):=A6 cx hN hv hd hcd h (jT rfl) rfl (mV hs) hline (be hs) rfl
theorem KF (cx:Cxo X) {bd:D->Ev->Option Ev} (h:PX κ B X e f) (hg:Br κ B X tg bd) (hs:eJ e=true) (ht:Cw e=true) (h1:aU tg=true):PZ κ B X (.Assign [tg] e pos) (xx bd f):=Iw cx h hg (yH hs) (Bh ht) (BU h1)
theorem KN {kk:Nat} {bs:List D->Ev->Option Ev} (hc:X.calm=true) (h:vm κ B X tgs bs) (hn:tgs.length=n) (hst:tgs.all aU=true):Br κ B X (.Tuple tgs kk pos) (j9 n bs):=ET hc h ((pZ hst).1.trans hn) (pZ hst).2
theorem IV {bd:D->Ev->Option Ev} {bs:List D->Ev->Option Ev} (h1:Br κ B X tg bd) (h2:vm κ B X tgs bs) (h:aU tg=true):vm κ B X (tg :: tgs) (bw bd bs):=A1 h1 h2 (AA h)
theorem I0 (ha:cT κ B X a fa) (h:L5 a=true):nG κ B X a (mT fa):=Fi ha (FJ h)
theorem Mm (ha:cT κ B X a fa) (hb:cT κ B X b fb) (h:DR b=true):PX κ B X (.Subscript a b pos) (m2 bO fa fb):=Ke ha hb (JI h)
theorem KI (hg:Gl X "len") (hm:X.mg "len" = none) (ha:cT κ B X a fa) (h:aU a=true):PX κ B X (.Call (.Name "len" p) [a] [] pos) (m1 b3 fa):=Ic hg hm ha (be h) rfl
theorem DI (T:Ty) {y:Str} (hy:y=Str.ofString T.nm) (hg:Gl X "isinstance") (hm:X.mg "isinstance" = none) (hgT:Gl X y) (hmT:X.mg y=none) (hn:y ≠ "__name__") (hdb:(y == ("__debug__" : Str))=false) (ha:cT κ B X a fa) (h:aU a=true) :
  PX κ B X (.Call (.Name "isinstance" p) [a,.Name y p'] [] pos) (m1 (λ x=>BC (xY x T)) fa):=A5 T hy hg hm hgT hmT hn hdb ha (be h) rfl rfl
theorem Bn (hg:Gl X "range") (hm:X.mg "range" = none) (ha:qU κ B X [a] fs) (h:aU a=true):DY κ B X tg (.Call (.Name "range" p) [a] [] pos) (λ δ=>(fs δ).bind uZ):=yo hg hm ha (be h)
theorem Bo (hg:Gl X "range") (hm:X.mg "range" = none) (ha:qU κ B X [a,b] fs) (h:aU a=true) (h':aU b=true):DY κ B X tg (.Call (.Name "range" p) [a,b] [] pos) (λ δ=>(fs δ).bind we):=yp hg hm ha (by rw [be h,be h'];rfl) (be h')
theorem KH (cx:Cxo X) (hc:X.calm=true) {iter:Expr} {body:List Stmt} {fit:Ev->R (List D)} {bd:D->Ev->Option Ev} {F:Ev->SR} (hi:DY κ B X tg iter fit) (hg:∀ B,Br κ B X tg bd) (hb:∀ B,uY κ B X body F) (h:DR iter=true):PZ κ B X (.For tg iter body [] pos) (df fit bd F):=Iy cx hc hi hg hb (tU h)
noncomputable def dB:List Expr->Option (List D)
 | []=>some []
 | .Constant (.int i) _ _ :: es=>(dB es).map (D.int i :: ·)
 | .Constant (.bool i) _ _ :: es=>(dB es).map (D.bl i :: ·)
 | .Constant (.str x) _ _ :: es=>(dB es).map (D.str x.cps.toList :: ·)
 | _=>none
theorem sY:∀ {es:List Expr} {ds:List D},dB es=some ds->qU κ B X es (λ _=>.ok ds)
 | [],ds,h=>by unfold dB at h;cases h;exact uF
 | e :: es,ds,h=>by
  have step:∀ {d:D} {e:Expr},PX κ B X e (mC d)->aU e=true->(dB es).map (d :: ·)=some ds->qU κ B X (e :: es) (λ _=>.ok ds):=λ {d e} h1 h2 h3=>by
   cases q:dB es with
   | none=>rw [q] at h3;cases h3
   | some r =>
    rw [q] at h3
    cases h3
    exact Af h1 (sY q) h2
  unfold dB at h
  split at h
  ·rename_i e1;cases e1
  ·rename_i e1;cases e1;exact step Dc rfl h
  ·rename_i e1;cases e1;exact step Gs rfl h
  ·rename_i e1;cases e1;exact step (Dd rfl) rfl h
  ·cases h
end
end L3
namespace L3
open PySem PySem.Spec PyProof.Rows L2
noncomputable abbrev MF:List Value:=[.type "ValueError",.type "Exception",.type "BaseException",.type "object"]
noncomputable def Ah (κ:Nat->Addr) (K:PySem.W.Frag) (mg:Str->Option Value) (x:Str) (c:Nat):Prop:=mg x=some (.ref (κ c))/\PySem.W.excIn K (κ c) MF "ValueError.__new__" = true
noncomputable def kf (κ:Nat->Addr) (X:Cx) (x:Str) (c:Nat):Prop:=Ah κ X.K X.mg x c
theorem Ah.at {κ:Nat->Addr} {K:PySem.W.Frag} {mg:Str->Option Value} {X:Cx} {x:Str} {c:Nat} (h:Ah κ K mg x c) (e1:X.K=K) (e2:X.mg=mg):kf κ X x c:=by
 unfold kf;rw [e1,e2];exact h
theorem Ee {K:PySem.W.Frag} {h:Heap} {C:Addr} {bmB:List Value} {newId:String} (X:K.In h) (q:PySem.W.excIn K C bmB newId=true) :
  ∃ bm N nm qn bs hdct sn sub ab col dd k0 k1 k2 k3 k5 mN,h.get? C=some (excClassObj nm qn C N bs bm hdct sn sub ab col dd k0 k1 k2 k3 k5 newId)/\h.Ns N mN/\mN "__init__" = none/\OwnTail h bmB bm:=by
 unfold PySem.W.excIn at q
 split at q
 case h_2=>cases q
 rename_i dct cld slt look
 split at q
 case h_2=>cases q
 rename_i self bm z0 z1 z2 z3 nw z5 hmro hslots
 simp only [Bool.and_eq_true,beq_iff_eq,Bool.not_eq_true'] at q
 obtain ⟨⟨⟨⟨⟨es,en⟩,hdl⟩,htl⟩,hns⟩,hin⟩:=q
 subst es
 subst en
 obtain ⟨f1,f2,f3,f4,f5,f6,f7,f8,f9,f10,f11⟩:=cld
 dsimp only at hmro hdl hns hin
 subst hmro
 subst hdl
 have hsl:slt = #[z0,z1,z2,z3,some (.builtin nw),z5]:=by
  cases slt with
  | mk l=>simp only at hslots;rw [hslots]
 subst hsl
 exact ⟨bm,f4,f1,f5,f2,f6,f7,f8,f9,f10,dct,z0,z1,z2,z3,z5,_,X _ _ look,.of_isNs (PySem.W.isNs_of_in X hns),PySem.W.nsMap_none_of_in X hns hin,PySem.W.tail_of_in X htl⟩
section
variable {κ:Nat->Addr} {B:Gd} {X:Cx} {pos:Pos} {x:Str}
theorem Dj {cpos np p:Pos} {c:Nat} (cx:Cxo X) (hc:X.calm=true) (C:kf κ X x c) (hg:Gl X x) {y:Str} {j:Nat} (hd:(x == ("__debug__" : Str))=false):PZ κ B X (.Raise (some (.Call (.Name x np) [.Constant (.str y) j p] [] cpos)) none pos) (λ δ=>.exc c δ):=λ Ex pins s σ H G δ Dn hp I rp h=>by
 obtain ⟨hm,hin⟩:=C
 obtain ⟨bm,N,nm,qn,bs,hdct,sn,sub,ab,col,dd,k0,k1,k2,k3,k5,mN,hC,hN,hni,T⟩:=Ee I.kIn hin
 refine wpAny_Raise_call_subT (C:=κ c) (nm:=nm) (q:=qn) (N:=N) (bs:=bs) (bm:=bm) (hdct:=hdct) (sn:=sn) (sub:=sub) (ab:=ab) (col:=col) (dd:=dd) (k0:=k0) (k1:=k1) (k2:=k2) (k3:=k3) (k5:=k5)
  PySem.F.excBase_ValueError (mN:=mN) (T.hasType PySem.F.excBase_ValueError.hasBase) (I.ok.hd hc) rfl hni (uc (X:=X.wish Ex) I hg hm ⟨rfl,?_⟩ hd)
 rw [be (e:=.Constant (.str y) j p) (es:=[]) rfl]
 refine Calls.evalArgs_plain ?_
 show wpAny _ _ (spliced ((false,eval (.Constant (.str y) j p) X.env) :: backTo cpos (starEach [] X.env))) _ _ s
 refine Calls.spliced_cons (Calls.Constant_str (pos:=p) (k:=j) ?_)
 refine Calls.spliced_nil ?_
 have I1:Inv (X.wish Ex) pins σ H { s with toks:=s.toks + 1 }:=I.tok _
 refine ⟨rfl,by rw [sizeLine_eq];show 1 <= 16777216;decide,hC,hN,T,λ h' e hmade=>?_⟩
 obtain ⟨t,he,htn,ht⟩:=hmade.there
 have ne:H e=none:=by
  cases q:H e with
  | none=>rfl
  | some o =>
   obtain ⟨u,hu⟩:=qt (I.hok e o q)
   have:=hmade.new
   rw [hu] at this;cases this
 have fr:FreshX (X.wish Ex) pins H e:=nM I1 cx.ex hmade.new ne
 refine h e { s with heap:=h',toks:=s.toks + 1 } σ H G (I.kept (t':=s.toks + 1) λ b u z=>hmade.keeps b u z) ⟨⟨_,_,_,he,rfl,rfl,rfl,.inl rfl⟩,⟨fr.nl,fr.nc,fr.np,fr.n0,fr.nh⟩⟩ rp
end
section
variable {κ:Nat->Addr} {B:Gd} {X:Cx} {pos:Pos} {Ex:Value->Shared->Prop} {pins:List (Addr × Obj)} {s:Shared} {σ:St} {H G:Hp} {δ:Ev} {Dn:Ends} {ea:Addr} {C:Value}
end
end L3
namespace L3
open PySem PySem.Spec PyProof.Rows L2
section
variable {κ:Nat->Addr} {B:Gd} {X:Cx} {a b c:Expr} {fa fb:Ev->R D} {fs:Ev->R (List D)} {es:List Expr} {pos p:Pos}
noncomputable def Ge (o:List D->R D) (fs:Ev->R (List D)):Ev->R D:=λ δ=>(fs δ).bind o
noncomputable def uj:List D->R D
 | [.int i]=>.ok (.int i)
 | [.bl k]=>.ok (.int (if k then 1 else 0))
 | _=>.stuck
theorem FP (hg:Gl X "int") (hm:X.mg "int" = none) (ha:qU κ B X [a] fs) (h:aU a=true):PX κ B X (.Call (.Name "int" p) [a] [] pos) (Ge uj fs):=λ pins σ Ex =>
 bT (sL (X:=At X pins σ Ex) Ao hg hm (tF .int) (ha pins σ Ex) (by decide) (by decide) (be h) (pN rfl)) λ τ H Q hz=>gd hz λ G δ rp q=>⟨G,δ,rp,q.seq λ x v H1 G1 e1 d1 q1=>by
  unfold uj at q1
  split at q1
  ·rename_i i
   exact .inl ⟨i,jU d1,q1 _ H1 G1 (Ext.refl e1.GH) tJ⟩
  ·rename_i k
   refine .inr ⟨k,?_,q1 _ H1 G1 (Ext.refl e1.GH) tJ⟩
   match v,d1 with
   | [w],d1=>unfold gc Dens at d1;have:=d1.1;unfold aW at this;rw [this]
   | [],d1=>unfold gc Dens at d1;exact d1.elim
   | _ :: _ :: _,d1=>unfold gc Dens at d1;have:=d1.2;unfold Dens at this;exact this.elim
  ·exact False.elim q1⟩
noncomputable def Jp (κ:Nat->Addr) (B:Gd) (X:Cx) (e:Option Expr) (f:Ev->R (Option Int)):Prop:=∀ pins σ Ex,PO (At X pins σ Ex) e (tO (λ _ _ (a:Option Int) b=>a=b) X κ B (EX X pins σ Ex) f)
theorem C3 {Y:Cx} {e:Option Expr} {t t':TO} (h:PO Y e t) (k:∀ σ H Q,t' σ H Q->t σ H Q):PO Y e t':=λ pins s σ H Q I q=>h pins s σ H Q I (k σ H Q q)
noncomputable def dD:Ev->R (Option Int):=λ _=>.ok none
noncomputable def mP (f:Ev->R D):Ev->R (Option Int):=λ δ=>(f δ).bind λ d=>match d with
 | .int i=>.ok (some i)
 | _=>.stuck
theorem Dg:Jp κ B X none dD:=λ pins σ Ex=>C3 EZ λ τ H Q hz=>gd hz λ G δ rp q=>q none H G (Ext.refl rp.GH) rfl
theorem Dh (h:PX κ B X a fa):Jp κ B X (some a) (mP fa):=λ pins σ Ex=>C3 (E0 (h pins σ Ex)) λ τ H Q hz=>gd hz λ G δ rp q=>⟨G,δ,rp,q.seq λ x v H1 G1 e1 d1 q1=>by
 cases x with
 | int i =>
  unfold ig aW at d1
  exact ⟨i,d1,q1 _ H1 G1 (Ext.refl e1.GH) rfl⟩
 | _=>exact False.elim q1⟩
noncomputable def gz {α:Type} (xs:List α) (lo hi:Option Int):List α:=(xs.drop (HT.sIx xs.length 0 lo)).take (HT.sIx xs.length xs.length hi - HT.sIx xs.length 0 lo)
theorem vZ {Z:Zx} {G:Hp} {vs:List V} {ds:List D} (h:Dens Z G vs ds) (lo hi:Option Int):Dens Z G (re vs lo hi) (gz ds lo hi):=by
 unfold re gz
 rw [h.length]
 exact (h.drop _).take _
end
end L3
namespace L3
open PySem PySem.Spec PyProof.Rows L2
theorem vK (n d:Nat) (v:Option Int) (hd:d <= n):(match v with | none=>((d:Nat):Int) | some i=>(if (1:Int) > 0 then max 0 (min (if i < 0 then i + (n:Int) else i) (n:Int)) else max (-1) (min (if i < 0 then i + (n:Int) else i) ((n:Int) - 1))))=((HT.sIx n d v:Nat):Int):=by
 cases v with
 | none=>rfl
 | some i =>
  simp only [show (1:Int) > 0 by decide,if_true,HT.sIx]
  by_cases h:i < 0
  ·simp only [h,if_true];(first | lia | omega)
  ·simp only [h,if_false];(first | lia | omega)
theorem Ei (lo hi:Option Int) (n:Nat):Builtin.Str.strSliceIndices lo hi 1 n=sliceRange ((HT.sIx n 0 lo:Nat):Int) ((HT.sIx n n hi:Nat):Int) 1:=by
 rw [<- vK n 0 lo (Nat.zero_le _),<- vK n n hi (Nat.le_refl _)]
 cases lo <;> cases hi <;> rfl
theorem yA (n d:Nat) (v:Option Int) (hd:d <= n) (hv:∀ i,v=some i->i < 0->i + n <= n):HT.sIx n d v <= n:=by
 cases v with
 | none=>exact hd
 | some i =>
  show (if i < 0 then (i + (n:Int)).toNat else min i.toNat n) <= n
  split <;> (first | lia | omega)
theorem FK (l:List Nat) (lo hi:Option Int):Txt.slice ⟨l.toArray⟩ lo hi=⟨(gz l lo hi).toArray⟩:=by
 have hlen:(⟨l.toArray⟩:Str).length=l.length:=by simp [Str.length]
 unfold Txt.slice gz
 rw [hlen,Ei,sliceRange_one]
 have hb:HT.sIx l.length l.length hi <= l.length:=yA _ _ _ (Nat.le_refl _) λ i _ h=>by (first | lia | omega)
 generalize HT.sIx l.length 0 lo=a
 generalize HT.sIx l.length l.length hi=b at hb
 by_cases c:b - a=l.length
 ·rw [if_pos (by simp [c])]
  have e:l.length=0 \/ (a=0/\b=l.length):=by (first | lia | omega)
  rcases e with e | ⟨rfl,rfl⟩
  ·have:l=[]:=List.length_eq_zero_iff.mp e
   subst this
   simp
  ·simp
 ·rw [if_neg (by simp [c])]
  rw [pick_run]
noncomputable def L7:V->Option Int->Option Int->Hp->VK->Prop:=λ x lo hi H Q=>∃ l:List Nat,x=gE l/\l.length <= 1000000/\Q (gE (gz l lo hi)) H
noncomputable def sF:Value->Option (Int × Tok)
 | .int i t=>some (i,t)
 | _=>none
theorem BN {α:Type} (l:List α) (lo hi:Option Int):(gz l lo hi).length <= l.length:=by
 unfold gz
 rw [List.length_take,List.length_drop]
 (first | lia | omega)
theorem IM {X:Cx}:DN X L7:=by
 intro pins s σ H x v vl vu lo hi sl Q I rx hs pl pu ⟨l,e,hz,q⟩
 subst e
 obtain ⟨t,rfl⟩:=rx
 refine ⟨"str",_,slot_str_getitem.lookup,typeIs_str _ _ _,?_⟩
 obtain ⟨o,ho,hc,hd⟩:=hs
 have h1:vl=partValue (sF vl)/\(sF vl).map (·.1)=lo:=by cases pl <;> exact ⟨rfl,rfl⟩
 have h2:vu=partValue (sF vu)/\(sF vu).map (·.1)=hi:=by cases pu <;> exact ⟨rfl,rfl⟩
 refine wpAny_getItem_str_slice (l:=sF vl) (u:=sF vu) (st:=none) ⟨o,ho,hc,by rw [hd,<- h1.1,<- h2.1];rfl⟩ rfl ?_
 have e2:Txt.slice ⟨l.toArray⟩ lo hi=⟨(gz l lo hi).toArray⟩:=FK l lo hi
 unfold sliceMade slicePicked
 rw [h1.2,h2.2]
 refine post_val_or_str ?_
 have e3:∀ P:Str->Prop,P (Txt.slice ⟨l.toArray⟩ lo hi)->P (if ((Option.map (λ x:Int × Tok=>x.fst) none).getD 1 == 1 && (Builtin.Str.strSliceIndices lo hi ((Option.map (λ x:Int × Tok=>x.fst) none).getD 1) (⟨l.toArray⟩:Str).length).length == (⟨l.toArray⟩:Str).length)=true then ⟨l.toArray⟩ else ⟨((Builtin.Str.strSliceIndices lo hi ((Option.map (λ x:Int × Tok=>x.fst) none).getD 1) (⟨l.toArray⟩:Str).length).filterMap ((⟨l.toArray⟩:Str).cps[·]?)).toArray⟩):=λ P h=>h
 refine e3 (λ z=>z.length <= sizeLine/\∀ t' k,(EP X pins σ Q) (.str z t') { s with toks:=k }) ?_
 rw [e2]
 refine ⟨?_,λ t' k=>⟨gE (gz l lo hi),H,I.tok _,⟨_,rfl⟩,q⟩⟩
 have:=BN l lo hi
 simp only [Str.length,List.size_toArray]
 have:(1000000:Nat) <= sizeLine:=by decide
 (first | lia | omega)
section
variable {κ:Nat->Addr} {B:Gd} {X:Cx} {a b:Expr} {fa fb:Ev->R D} {pos:Pos}
noncomputable def um (x:D) (lo hi:Option Int):R D:=match x with
 | .tup ds=>if HT.sIx ds.length 0 lo=0/\HT.sIx ds.length ds.length hi=ds.length then .stuck else .ok (.tup (gz ds lo hi))
 | .lst ds=>.ok (.lst (gz ds lo hi))
 | .str l=>if l.length <= 1000000 then .ok (.str (gz l lo hi)) else .stuck
 | _=>.stuck
noncomputable def jW (fa:Ev->R D) (fl fh:Ev->R (Option Int)):Ev->R D:=λ δ=>(fa δ).bind λ x=>(fl δ).bind λ l=>(fh δ).bind λ u=>um x l u
theorem Mn {lo hi:Option Expr} {fl fh:Ev->R (Option Int)} {p2:Pos} (ha:cT κ B X a fa) (hl:Jp κ B X lo fl) (hh:Jp κ B X hi fh):PX κ B X (.Subscript a (.Slice lo hi none p2) pos) (jW fa fl fh):=λ pins σ Ex =>
 bT (CP (X:=At X pins σ Ex) (DN.or IN (DN.or FB IM)) (ha pins σ Ex) (hl pins σ Ex) (hh pins σ Ex)) λ τ H Q hz=>gd hz λ G δ rp q=>⟨G,δ,rp,q.seq λ x v H1 G1 e1 d1 q1=>⟨G1,δ,rp.ext e1,q1.seq λ l lv H2 G2 e2 d2 q2=>⟨G2,δ,(rp.ext e1).ext e2,q2.seq λ u uv H3 G3 e3 d3 q3=>by
  subst d2
  subst d3
  have d1':=fm (e2.trans e3) d1
  cases x with
  | tup ds =>
   rcases d1' with d | ⟨_,_,_,_,z,_⟩
   ·unfold aW at d
    obtain ⟨y,vs,rfl,h1,h2⟩:=d
    simp only [um] at q3
    split at q3
    ·exact False.elim q3
    ·rename_i hw
     refine .inl ⟨y,vs,rfl,bY e3.GH h1,by rw [h2.length];exact hw,λ p hp=>?_⟩
     have e:=eV (o:=.tup (re vs lv uv)) e3.GH hp
     exact q3 _ _ _ e (by unfold ig aW;exact ⟨p,_,rfl,nJ.of aM,(vZ h2 lv uv).mono e.sG⟩)
   ·cases z
  | lst ds =>
   have main:∀ (y:Addr) (vs:List V),cR X.K H3 y vs->Dens ⟨X.K,κ⟩ G3 vs ds->Kn X.K (.ref y) lv uv H3 Q:=λ y vs h1 h2=>by
    refine ⟨y,vs,rfl,h1,λ p hp=>?_⟩
    have e:=eV (o:=.lst (re vs lv uv)) e3.GH hp
    exact q3 _ _ _ e (by unfold ig aW;exact ⟨p,_,rfl,cR.of aM,(vZ h2 lv uv).mono e.sG⟩)
   rcases d1' with d | ⟨y,vs,_,rfl,z,h1,h2⟩
   ·unfold aW at d
    obtain ⟨y,vs,rfl,h1,h2⟩:=d
    exact .inr (.inl (main y vs (e3.GH.seq h1) h2))
   ·cases z
    exact .inr (.inl (main y vs (cR.of h1) h2))
  | str l =>
   simp only [um] at q3
   split at q3
   ·rename_i hz
    have dd:v=gE l:=by
     rcases d1' with d | ⟨_,_,_,_,z,_⟩
     ·unfold aW at d;exact d
     ·cases z
    exact .inr (.inr ⟨l,dd,hz,q3 _ _ _ (Ext.refl e3.GH) (by unfold ig aW;rfl)⟩)
   ·exact False.elim q3
  | _=>exact False.elim q3⟩⟩⟩
noncomputable def cD:D->Bool
 | .non | .bl _ | .int _ | .str _=>true
 | _=>false
noncomputable def DP:D->D->Bool
 | .non,.non=>true
 | .bl a,.bl b=>a == b
 | .bl a,.int b=>(if a then 1 else 0) == b
 | .int a,.bl b=>a == (if b then 1 else 0)
 | .int a,.int b=>a == b
 | .str a,.str b=>a == b
 | _,_=>false
theorem mY {Z:Zx} {G:Hp} {v:V} {d:D} (h:aW Z G v d) (f:cD d=true):dJ v=true:=by
 cases d with
 | non=>unfold aW at h;subst h;rfl
 | bl _=>unfold aW at h;subst h;rfl
 | int _=>unfold aW at h;subst h;rfl
 | str _=>unfold aW at h;subst h;rfl
 | _=>cases f
theorem FD (a b:List Nat):((⟨a.toArray⟩:Str) == ⟨b.toArray⟩)=(a == b):=by
 rw [Bool.eq_iff_iff,beq_iff_eq,beq_iff_eq]
 constructor
 ·intro h
  have:=congrArg (λ z:Str=>z.cps.toList) h
  simpa using this
 ·intro h;rw [h]
theorem zm {Z:Zx} {G:Hp} {v u:V} {d e:D} (h:aW Z G v d) (h':aW Z G u e) (f:cD d=true) (f':cD e=true):AC v u=DP d e:=by
 cases d <;> first | (cases f;done) | (cases e <;> first | (cases f';done) | (unfold aW at h h';subst h;subst h';first | rfl | exact FD _ _))
theorem zn {Z:Zx} {G:Hp} {v:V} {d:D} (h:aW Z G v d) (f:cD d=true):∀ {vs:List V} {ds:List D},Dens Z G vs ds->ds.all cD=true->vs.all dJ=true/\Jf v vs=ds.any λ e=>DP e d
 | [],[],_,_=>⟨rfl,rfl⟩
 | w :: vs,e :: ds,hd,hf=>by
  unfold Dens at hd
  simp only [List.all_cons,Bool.and_eq_true] at hf
  obtain ⟨i1,i2⟩:=zn h f hd.2 hf.2
  refine ⟨by simp only [List.all_cons,Bool.and_eq_true];exact ⟨mY hd.1 hf.1,i1⟩,?_⟩
  show (AC w v || Jf v vs)=_
  rw [i2,zm hd.1 h hf.1 f]
  rfl
 | [],_ :: _,hd,_=>by unfold Dens at hd;exact hd.elim
 | _ :: _,[],hd,_=>by unfold Dens at hd;exact hd.elim
noncomputable def xz (x y:D):R Bool:=match y with
 | .lst ds=>if cD x && ds.all cD then .ok (ds.any λ e=>DP e x) else .stuck
 | .tup ds=>if cD x && ds.all cD then .ok (ds.any λ e=>DP e x) else .stuck
 | .str j=>match x with
  | .str i=>.ok (!(Builtin.Str.occurrences ⟨j.toArray⟩ ⟨i.toArray⟩ 0 (⟨j.toArray⟩:Str).length 1).isEmpty)
  | _=>.stuck
 | _=>.stuck
noncomputable def sx (x y:D):R Bool:=xz x y
noncomputable def iu (x y:D):R Bool:=(xz x y).bind λ k=>.ok (!k)
theorem zy {x y:D} {v u:V} {G H:Hp} {k:Bool} (sm:bV G H) (d1:iz X κ G H v x) (d2:iz X κ G H u y) (h:xz x y=.ok k) :
  (∃ p xs,u=.ref p/\(cR X.K H p xs \/ nJ X.K H p xs)/\dJ v=true/\xs.all dJ=true/\Jf v xs=k) \/ (∃ i j,v=.str i/\u=.str j/\(!(Builtin.Str.occurrences j i 0 j.length 1).isEmpty)=k):=by
 have seq:∀ {ds:List D} {vs:List V},Dens ⟨X.K,κ⟩ G vs ds->(if cD x && ds.all cD then R.ok (ds.any λ e=>DP e x) else .stuck)=.ok k->dJ v=true/\vs.all dJ=true/\Jf v vs=k:=λ {ds vs} hd e=>by
  split at e
  ·rename_i hf
   rw [Bool.and_eq_true] at hf
   have dx:aW ⟨X.K,κ⟩ G v x:=by
    rcases d1 with d | ⟨_,_,_,_,z,_⟩
    ·exact d
    ·rw [z] at hf;cases hf.1
   obtain ⟨i1,i2⟩:=zn dx hf.1 hd hf.2
   cases e
   exact ⟨mY dx hf.1,i1,i2⟩
  ·cases e
 cases y with
 | lst ds =>
  simp only [xz] at h
  rcases d2 with d | ⟨p,vs,ds',rfl,z,h1,h2⟩
  ·unfold aW at d
   obtain ⟨p,vs,rfl,h1,h2⟩:=d
   obtain ⟨a1,a2,a3⟩:=seq h2 h
   exact .inl ⟨p,vs,rfl,.inl (sm.seq h1),a1,a2,a3⟩
  ·cases z
   obtain ⟨a1,a2,a3⟩:=seq h2 h
   exact .inl ⟨p,vs,rfl,.inl (cR.of h1),a1,a2,a3⟩
 | tup ds =>
  simp only [xz] at h
  rcases d2 with d | ⟨p,vs,ds',rfl,z,h1,h2⟩
  ·unfold aW at d
   obtain ⟨p,vs,rfl,h1,h2⟩:=d
   obtain ⟨a1,a2,a3⟩:=seq h2 h
   exact .inl ⟨p,vs,rfl,.inr (bY sm h1),a1,a2,a3⟩
  ·cases z
 | str j =>
  cases x with
  | str i =>
   simp only [xz] at h
   cases h
   exact .inr ⟨_,_,wV d1,wV d2,rfl⟩
  | _=>cases h
 | _=>cases h
noncomputable def Fz (X:Cx) (neg:Bool):R2:=λ x y H Q=>L6 X.K neg x y H Q \/ ∃ i j,x=.str i/\y=.str j/\Q (.bl (neg ^^ (!(Builtin.Str.occurrences j i 0 j.length 1).isEmpty))) H
theorem CG {Y:Cx} (eK:Y.K=X.K):lC Y (compareOp .In) (Fz X false):=by
 intro pins s σ H x y v u Q I rx ry h
 rcases h with h | ⟨i,j,e1,e2,q⟩
 ·exact AV pins s σ H x y v u Q I rx ry (by rw [eK];exact h)
 ·exact AW pins s σ H x y v u Q I rx ry ⟨i,j,e1,e2,by simpa using q⟩
theorem EI {Y:Cx} (eK:Y.K=X.K):lC Y (compareOp .NotIn) (Fz X true):=by
 intro pins s σ H x y v u Q I rx ry h
 rcases h with h | ⟨i,j,e1,e2,q⟩
 ·exact uz pins s σ H x y v u Q I rx ry (by rw [eK];exact h)
 ·exact uA pins s σ H x y v u Q I rx ry ⟨i,j,e1,e2,by simpa using q⟩
theorem zM:pB κ X (Fz X false) (dL sx):=by
 intro x y v u G H Q E sm d1 d2 q
 unfold dL sx at q
 cases e:xz x y with
 | ok k =>
  rw [e] at q
  have q':Q (.bl k) H:=q _ H G (Ext.refl sm) (by unfold ig aW;rfl)
  rcases zy sm d1 d2 e with ⟨p,xs,z1,z2,z3,z4,z5⟩ | ⟨i,j,z1,z2,z3⟩
  ·exact .inl ⟨p,xs,z1,z2,z3,z4,by simpa [z5] using q'⟩
  ·exact .inr ⟨i,j,z1,z2,by rw [z3];simpa using q'⟩
 | exc c=>unfold xz at e;split at e <;> (try split at e) <;> cases e
 | stuck=>rw [e] at q;exact q.elim
theorem CD:pB κ X (Fz X true) (dL iu):=by
 intro x y v u G H Q E sm d1 d2 q
 unfold dL iu at q
 cases e:xz x y with
 | ok k =>
  rw [e] at q
  have q':Q (.bl (!k)) H:=q _ H G (Ext.refl sm) (by unfold ig aW;rfl)
  rcases zy sm d1 d2 e with ⟨p,xs,z1,z2,z3,z4,z5⟩ | ⟨i,j,z1,z2,z3⟩
  ·exact .inl ⟨p,xs,z1,z2,z3,z4,by simpa [z5] using q'⟩
  ·exact .inr ⟨i,j,z1,z2,by rw [z3];simpa using q'⟩
 | exc c=>unfold xz at e;split at e <;> (try split at e) <;> cases e
 | stuck=>rw [e] at q;exact q.elim
theorem Kd (hu:X.A.units + 64 < cLine) (ha:cT κ B X a fa) (hb:cT κ B X b fb) (hm:behindInMarks .In b=false):PX κ B X (.Compare a [.In] [b] pos) (m2 (dL sx) fa fb):=n4 (λ _ eK _=>CG eK) zM ha hb hm
theorem Ip (hu:X.A.units + 64 < cLine) (ha:cT κ B X a fa) (hb:cT κ B X b fb) (hm:behindInMarks .In b=false):nG κ B X (.Compare a [.In] [b] pos) (bC sx fa fb):=gg (λ _ eK _=>CG eK) zM ha hb hm
theorem Fg (hu:X.A.units + 64 < cLine) (ha:cT κ B X a fa) (hb:cT κ B X b fb) (hm:behindInMarks .NotIn b=false):nG κ B X (.Compare a [.NotIn] [b] pos) (bC iu fa fb):=gg (λ _ eK _=>EI eK) CD ha hb hm
theorem _root_.L2.Inv.lstS {X:Cx} {pins:List (Addr × Obj)} {σ:St} {H:Hp} {s:Shared} {l:Addr} {xs:List V} (I:Inv X pins σ H s) (h:cR X.K H l xs) :
  xs.length <= sizeLine/\∃ (its:List Value) (n:Nat),bE xs its/\xs.length=its.length/\s.heap.get? l=some { cls:=.type "list",data:=.seq its.toArray n }:=by
 rcases h with h | ⟨o,its,n,hk,hc,hd,hs,hz,r⟩
 ·obtain ⟨z,its,n,r,e⟩:=h.ok I.hok
  exact ⟨z,its,n,r,r.length,e⟩
 ·have e:=I.kIn l o hk
  have lr:=r.length
  refine ⟨by simp only [Array.length_toList] at lr;(first | lia | omega),its.toList,n,r,lr,?_⟩
  obtain ⟨oc,od,dt,sl⟩:=o
  dsimp only at hc hd hs
  obtain ⟨rfl,rfl⟩:=hd
  subst hc
  subst hs
  exact e
noncomputable def Gu (K:PySem.W.Frag):R2:=λ x y H Q=>∃ l b xs zs,x=.ref l/\y=.ref b/\cR K H l xs/\cR K H b zs/\xs.length + zs.length <= sizeLine/\∀ p,H p=none->Q (.ref p) (upd H p (.lst (xs++zs)))
theorem EJ {X:Cx}:lC X (binaryOp .Add) (Gu X.K):=by
 intro pins s σ H x y v u Q I rx ry ⟨l,b,xs,zs,e1,e2,hH,hB,hz,q⟩
 subst e1
 subst e2
 cases rx
 cases ry
 obtain ⟨z,its,n,r,hl,e⟩:=I.lstS hH
 obtain ⟨z2,its2,n2,r2,hl2,e2⟩:=I.lstS hB
 refine PySem.P.add_list e e2 ?_ (by rw [List.size_toArray,List.size_toArray];(first | lia | omega))
 rw [show its.toArray++its2.toArray=(its++its2).toArray by simp]
 exact ⟨.ref _,_,I.lnew (t':=s.toks) (r.append r2) (by rw [List.length_append];(first | lia | omega)),rfl,q _ I.fresh⟩
noncomputable def qp (x y:D):R D:=match x,y with
 | .lst xs,.lst ys=>if xs.length + ys.length <= 1000000 then .ok (.lst (xs++ys)) else .stuck
 | _,_=>.stuck
theorem II {G H:Hp} {v:V} {ds:List D} (sm:bV G H) (h:iz X κ G H v (.lst ds)):∃ l vs,v=.ref l/\cR X.K H l vs/\Dens ⟨X.K,κ⟩ G vs ds:=by
 rcases h with h | ⟨l,vs,ds',e,z,h1,h2⟩
 ·unfold aW at h
  obtain ⟨l,vs,e,h1,h2⟩:=h
  exact ⟨l,vs,e,sm.seq h1,h2⟩
 ·cases z
  exact ⟨l,vs,e,cR.of h1,h2⟩
theorem CC:pB κ X (Gu X.K) qp:=by
 intro x y v u G H Q E sm d1 d2 q
 unfold qp at q
 split at q
 ·rename_i xs ys
  split at q
  ·rename_i hl
   obtain ⟨l,vs,e1,h1,h2⟩:=II sm d1
   obtain ⟨b,us,e2,h3,h4⟩:=II sm d2
   have:(1000000:Nat) <= sizeLine:=by decide
   refine ⟨l,b,vs,us,e1,e2,h1,h3,by rw [h2.length,h4.length];(first | lia | omega),λ p hp=>?_⟩
   have e:=eV (o:=.lst (vs++us)) sm hp
   exact q _ _ _ e (by unfold ig aW;exact ⟨p,_,rfl,cR.of aM,(h2.append h4).mono e.sG⟩)
  ·exact q.elim
 ·exact q.elim
theorem H0 (ha:cT κ B X a fa) (hb:cT κ B X b fb):PX κ B X (.BinOp a .Add b pos) (m2 qp fa fb):=sP (λ Y eK=>by rw [<- eK];exact EJ) CC ha hb
theorem pR {x:V}:∀ {xs:List V} {us:List Value},bE xs us->xs.all dJ=true->us.countP (v6 x)=xs.countP λ y=>AC y x
 | _,_,.nil,_=>rfl
 | y :: xs,u :: us,.cons r t,f=>by
  simp only [List.all_cons,Bool.and_eq_true] at f
  rw [List.countP_cons,List.countP_cons,xR r f.1,pR t f.2]
noncomputable def IG (K:PySem.W.Frag):V->List V->Hp->VK->Prop:=λ x vs H Q=>∃ l xs y,x=.ref l/\vs=[y]/\cR K H l xs/\dJ y=true/\xs.all dJ=true/\Q (.int ((xs.countP λ z=>AC z y:Nat):Int)) H
theorem Cr {X:Cx}:KU X "list.count" (IG X.K):=by
 intro pins s σ H x vs v us Q I rx rv ⟨l,xs,y,e1,e2,hq,fy,fx,q⟩
 subst e1
 subst e2
 cases rx
 obtain ⟨u,rfl,ru⟩:=rv.one
 obtain ⟨z,its,n,r,hl,e⟩:=I.lstS hq
 refine call_meets F.slot_list_count ⟨_,e,rfl⟩ F.entry_list_count (F.args_list_count_2 _ _) (SeqAt.list_countAt l its.toArray n none #[] u (v6 y)) ⟨e,λ w hw=>gY ru fy r fx w (by simpa using hw),?_⟩
 refine ⟨.int _,H,I.tok _,⟨_,rfl⟩,?_⟩
 rw [List.toList_toArray,pR r fx]
 exact q
theorem pV {Z:Zx} {G:Hp} {v:V} {d:D} (h:aW Z G v d) (f:cD d=true):∀ {vs:List V} {ds:List D},Dens Z G vs ds->ds.all cD=true->vs.all dJ=true/\(vs.countP λ y=>AC y v)=ds.countP λ e=>DP e d
 | [],[],_,_=>⟨rfl,rfl⟩
 | w :: vs,e :: ds,hd,hf=>by
  unfold Dens at hd
  simp only [List.all_cons,Bool.and_eq_true] at hf
  obtain ⟨i1,i2⟩:=pV h f hd.2 hf.2
  refine ⟨by simp only [List.all_cons,Bool.and_eq_true];exact ⟨mY hd.1 hf.1,i1⟩,?_⟩
  rw [List.countP_cons,List.countP_cons,i2,zm hd.1 h hf.1 f]
 | [],_ :: _,hd,_=>by unfold Dens at hd;exact hd.elim
 | _ :: _,[],hd,_=>by unfold Dens at hd;exact hd.elim
noncomputable def nS (x:D) (ys:List D):R D:=match x,ys with
 | .lst ds,[d]=>if cD d && ds.all cD then .ok (.int ((ds.countP λ e=>DP e d:Nat):Int)) else .stuck
 | _,_=>.stuck
noncomputable def JK (op:D->List D->R D) (fo:Ev->R D) (fs:Ev->R (List D)):Ev->R D:=λ δ=>(fo δ).bind λ x=>match x with
 | .lst ds=>(fs δ).bind λ ys=>op (.lst ds) ys
 | _=>.stuck
theorem FO {o e:Expr} {fo:Ev->R D} {fs:Ev->R (List D)} {apos:Pos} (ho:cT κ B X o fo) (ha:qU κ B X [e] fs) (hs:aU e=true) (hline:(apos.endLine == pos.line)=true) (hbase:attributeBase o "count" X.env (eval o X.env)=eval o X.env) :
  PX κ B X (.Call (.Attribute o "count" apos) [e] [] pos) (JK nS fo fs):=λ pins σ Ex =>
 bT (sK (X:=At X pins σ Ex) F.plainAttrs_list F.slot_list_count F.type_list_count Cr (ho pins σ Ex) (ha pins σ Ex) hbase (mV hs) hline (be hs) rfl) λ τ H Q hz=>gd hz λ G δ rp q=>⟨G,δ,rp,q.seq λ x v H1 G1 e1 d1 q1=>by
  cases x with
  | lst ds =>
   obtain ⟨l,vs,rfl,h1,h2⟩:=II e1.GH d1
   refine ⟨.inl ⟨rfl,vs,h1⟩,G1,δ,rp.ext e1,q1.seq λ ys us H2 G2 e2 d2 q2=>?_⟩
   unfold nS at q2
   split at q2
   ·rename_i ds' d hx
    cases hx
    split at q2
    ·rename_i hf
     rw [Bool.and_eq_true] at hf
     match us,d2 with
     | [u],d2 =>
      unfold gc Dens at d2
      obtain ⟨c1,c2⟩:=pV d2.1 hf.1 (h2.mono e2.sG) hf.2
      refine ⟨l,vs,u,rfl,rfl,?_,mY d2.1 hf.1,c1,?_⟩
      ·rcases fm e2 d1 with z | ⟨_,_,_,z1,z2,z3,z4⟩
       ·exact e2.sH.seq h1
       ·exact e2.sH.seq h1
      ·rw [c2]
       exact q2 _ H2 G2 (Ext.refl e2.GH) (by unfold ig aW;rfl)
     | [],d2=>unfold gc Dens at d2;exact d2.elim
     | _ :: _ :: _,d2=>unfold gc Dens at d2;have:=d2.2;unfold Dens at this;exact this.elim
    ·exact q2.elim
   ·exact q2.elim
  | _=>exact False.elim q1⟩
theorem sW:∀ {ls:List (List Nat)} {us:List Value},bE (ls.map gE) us->∃ l:List (Str × Tok),us=strValues l/\l.map (·.1)=ls.map λ x=>(⟨x.toArray⟩:Str)
 | [],_,.nil=>⟨[],rfl,rfl⟩
 | x :: ls,_,.cons r t=>by
  obtain ⟨k,rfl⟩:=r
  obtain ⟨l,e1,e2⟩:=sW t
  exact ⟨(⟨x.toArray⟩,k) :: l,by rw [e1];rfl,by rw [List.map_cons,List.map_cons,e2]⟩
theorem AG (ls:List (List Nat)):Builtin.Str.glued ⟨#[]⟩ (ls.map λ x=>(⟨x.toArray⟩:Str))=⟨ls.flatten.toArray⟩:=by
 have f:∀ (ls:List (List Nat)) (acc:List Nat),(ls.map λ x=>(⟨x.toArray⟩:Str)).foldl (λ a p=>a++(⟨#[]⟩:Str).cps++p.cps) acc.toArray=(acc++ls.flatten).toArray:=by
  intro ls
  induction ls with
  | nil=>intro acc;simp
  | cons x ls ih =>
   intro acc
   rw [List.map_cons,List.foldl_cons]
   have:acc.toArray++(⟨#[]⟩:Str).cps++(⟨x.toArray⟩:Str).cps=(acc++x).toArray:=by simp
   rw [this,ih,List.flatten_cons,List.append_assoc]
 unfold Builtin.Str.glued
 cases ls with
 | nil=>rfl
 | cons x ls =>
  show (⟨List.foldl _ x.toArray (ls.map _)⟩:Str)=_
  rw [f ls x,List.flatten_cons]
theorem B2 (ls:List (List Nat)):((ls.map λ x=>(⟨x.toArray⟩:Str)).toArray.foldl (· + ·.length + (⟨#[]⟩:Str).length) 0)=ls.flatten.length:=by
 have f:∀ (ls:List (List Nat)) (n:Nat),(ls.map λ x=>(⟨x.toArray⟩:Str)).foldl (λ a p=>a + p.length + (⟨#[]⟩:Str).length) n=n + ls.flatten.length:=by
  intro ls
  induction ls with
  | nil=>intro n;simp
  | cons x ls ih =>
   intro n
   rw [List.map_cons,List.foldl_cons,ih,List.flatten_cons,List.length_append]
   have e1:(⟨x.toArray⟩:Str).length=x.length:=by simp [Str.length]
   have e2:(⟨#[]⟩:Str).length=0:=rfl
   rw [e1,e2]
   (first | lia | omega)
 rw [List.foldl_toArray]
 rw [f ls 0]
 (first | lia | omega)
noncomputable def Km (K:PySem.W.Frag):V->List V->Hp->VK->Prop:=λ x vs H Q=>∃ (l:Addr) (ls:List (List Nat)),x=gE []/\vs=[.ref l]/\cR K H l (ls.map gE)/\ls.flatten.length <= 1000000/\Q (gE ls.flatten) H
theorem Es {X:Cx}:KU X "str.join" (Km X.K):=by
 intro pins s σ H x vs v us Q I rx rv ⟨l,ls,e1,e2,hq,hz,q⟩
 subst e1
 subst e2
 obtain ⟨t,rfl⟩:=rx
 obtain ⟨u,rfl,ru⟩:=rv.one
 cases ru
 obtain ⟨z,its,n,r,hl,e⟩:=I.lstS hq
 obtain ⟨pl,rfl,ep⟩:=sW r
 have big:(1000000:Nat) <= sizeLine:=by decide
 have hlong:Builtin.Str.tooLong ((pl.map (·.1)).toArray.foldl (· + ·.length + (⟨#[]⟩:Str).length) 0)=false:=by
  rw [ep,B2]
  exact decide_eq_false (by (first | lia | omega))
 refine call_meets F.slot_str_join (typeIs_str s _ t) F.entry_str_join (F.args_str_join_2 _ _) (meets_str_join_list ⟨#[]⟩ t l pl hlong) ⟨⟨_,e,rfl,n,rfl⟩,?_⟩
 have fin:∀ (z:Str) (tk:Tok) (k:Nat),z=⟨ls.flatten.toArray⟩->EP X pins σ Q (.str z tk) { s with toks:=k }:=λ z tk k ez=>⟨gE ls.flatten,H,I.tok _,⟨tk,by rw [ez]⟩,q⟩
 have gl:Builtin.Str.glued ⟨#[]⟩ (pl.map (·.1))=⟨ls.flatten.toArray⟩:=by rw [ep,AG]
 have sz:(⟨ls.flatten.toArray⟩:Str).length <= sizeLine:=by simp only [Str.length,List.size_toArray];(first | lia | omega)
 match pl,ep,gl with
 | [p],ep,gl =>
  refine fin p.1 p.2 s.toks ?_
  rw [<- gl]
  rfl
 | [],ep,gl=>exact ⟨by show (Builtin.Str.glued ⟨#[]⟩ []).length <= sizeLine;decide,fin _ _ _ gl⟩
 | p :: p2 :: r,ep,gl=>exact ⟨by show (Builtin.Str.glued ⟨#[]⟩ ((p :: p2 :: r).map (·.1))).length <= sizeLine;rw [gl];exact sz,fin _ _ _ gl⟩
noncomputable def qN:List D->Option (List (List Nat))
 | []=>some []
 | .str x :: r=>(qN r).map (x :: ·)
 | _=>none
theorem rV {Z:Zx} {G:Hp}:∀ {vs:List V} {ds:List D} {ls:List (List Nat)},Dens Z G vs ds->qN ds=some ls->vs=ls.map gE
 | [],[],ls,_,h=>by cases h;rfl
 | v :: vs,d :: ds,ls,hd,h=>by
  unfold Dens at hd
  cases d with
  | str x =>
   simp only [qN] at h
   cases e:qN ds with
   | none=>rw [e] at h;cases h
   | some l2 =>
    rw [e] at h
    cases h
    have:=hd.1
    unfold aW at this
    rw [this,rV hd.2 e]
    rfl
  | _=>cases h
 | [],_ :: _,_,hd,_=>by unfold Dens at hd;exact hd.elim
 | _ :: _,[],_,hd,_=>by unfold Dens at hd;exact hd.elim
noncomputable def sy (x:D) (ys:List D):R D:=match x,ys with
 | .str [],[.lst ds]=>match qN ds with
  | some ls=>if ls.flatten.length <= 1000000 then .ok (.str ls.flatten) else .stuck
  | none=>.stuck
 | _,_=>.stuck
noncomputable def Ck (op:D->List D->R D) (fo:Ev->R D) (fs:Ev->R (List D)):Ev->R D:=λ δ=>(fo δ).bind λ x=>match x with
 | .str l=>(fs δ).bind λ ys=>op (.str l) ys
 | _=>.stuck
theorem IZ {o e:Expr} {fo:Ev->R D} {fs:Ev->R (List D)} {apos:Pos} (ho:cT κ B X o fo) (ha:qU κ B X [e] fs) (hs:aU e=true) (hline:(apos.endLine == pos.line)=true) (hbase:attributeBase o "join" X.env (eval o X.env)=eval o X.env) :
  PX κ B X (.Call (.Attribute o "join" apos) [e] [] pos) (Ck sy fo fs):=λ pins σ Ex =>
 bT (sK (X:=At X pins σ Ex) F.plainAttrs_str F.slot_str_join F.type_str_join Es (ho pins σ Ex) (ha pins σ Ex) hbase (mV hs) hline (be hs) rfl) λ τ H Q hz=>gd hz λ G δ rp q=>⟨G,δ,rp,q.seq λ x v H1 G1 e1 d1 q1=>by
  cases x with
  | str l =>
   obtain rfl:=wV d1
   refine ⟨rfl,G1,δ,rp.ext e1,q1.seq λ ys us H2 G2 e2 d2 q2=>?_⟩
   unfold sy at q2
   split at q2
   ·rename_i ds hx
    cases hx
    split at q2
    ·rename_i ls es
     split at q2
     ·rename_i hz
      match us,d2 with
      | [u],d2 =>
       unfold gc Dens at d2
       have du:=d2.1
       unfold aW at du
       obtain ⟨a,vs,rfl,h1,h2⟩:=du
       have:=rV h2 es
       subst this
       exact ⟨a,ls,rfl,rfl,e2.GH.seq h1,hz,q2 _ H2 G2 (Ext.refl e2.GH) (by unfold ig aW;rfl)⟩
      | [],d2=>unfold gc Dens at d2;exact d2.elim
      | _ :: _ :: _,d2=>unfold gc Dens at d2;have:=d2.2;unfold Dens at this;exact this.elim
     ·exact q2.elim
    ·exact q2.elim
   ·exact q2.elim
  | _=>exact False.elim q1⟩
end
end L3
namespace L3
open PySem PySem.Spec PyProof.Rows L2
section
variable {κ:Nat->Addr} {B:Gd} {X:Cx} {a e:Expr} {es:List Expr} {f fa:Ev->R D} {fs:Ev->R (List D)} {pos pos' apos p:Pos} {x:Str}
end
end L3
namespace L3
open PySem PySem.Spec PyProof.Rows L2
theorem lD {env:Env}:∀ (ns:List (Str × NameKind)) (acc:List (Str × Addr)),(∀ y∈ns,y.2=.free->∃ c,env.cells.lookup y.1=some c)->(∀ y c,acc.lookup y=some c->env.cells.lookup y=some c) →
  ∃ cl,(forIn ns acc (λ (p:Str × NameKind) (cs:List (Str × Addr))=>(match p with | (name,kind)=>if (kind == NameKind.free)=true then do let c ← cellOf env name;pure (ForInStep.yield ((name,c) :: cs)) else pure (ForInStep.yield cs):Sem (ForInStep (List (Str × Addr))))):Sem _)=pure cl ∧
   (∀ y c,cl.lookup y=some c->env.cells.lookup y=some c)/\(∀ y,(∃ c,acc.lookup y=some c) \/ (y,NameKind.free)∈ns->∃ c,cl.lookup y=some c)
 | [],acc,_,h2=>⟨acc,rfl,h2,λ y h=>h.elim id λ z=>by simp at z⟩
 | (n,k) :: r,acc,h1,h2=>by
  rw [List.forIn_cons]
  by_cases hk:k=.free
  ·subst hk
   obtain ⟨c,hc⟩:=h1 (n,.free) List.mem_cons_self rfl
   obtain ⟨cl,e,p,q⟩:=lD r ((n,c) :: acc) (λ y hy=>h1 y (List.mem_cons_of_mem _ hy)) (λ y d hd=>by
    rw [List.lookup_cons] at hd
    cases hy:y == n with
    | true=>rw [hy] at hd;cases hd;rw [eq_of_beq hy];exact hc
    | false=>rw [hy] at hd;exact h2 y d hd)
   refine ⟨cl,?_,p,λ y h=>q y ?_⟩
   ·rw [<- e]
    have:cellOf env n=pure c:=by unfold cellOf;rw [hc]
    simp only [beq_self_eq_true,if_true,this,pure_bind]
   ·rcases h with ⟨d,hd⟩ | h
    ·rw [List.lookup_cons]
     cases hy:y == n with
     | true=>exact .inl ⟨c,rfl⟩
     | false=>exact .inl ⟨d,hd⟩
    ·rcases List.mem_cons.mp h with h | h
     ·cases h;rw [List.lookup_cons];exact .inl ⟨c,by simp⟩
     ·exact .inr h
  ·obtain ⟨cl,e,p,q⟩:=lD r acc (λ y hy=>h1 y (List.mem_cons_of_mem _ hy)) h2
   have hb:(k == NameKind.free)=false:=by simpa using hk
   refine ⟨cl,?_,p,λ y h=>q y ?_⟩
   ·rw [<- e]
    simp only [hb,Bool.false_eq_true,if_false,pure_bind]
   ·rcases h with h | h
    ·exact .inl h
    ·rcases List.mem_cons.mp h with h | h
     ·cases h;exact absurd rfl hk
     ·exact .inr h
theorem cL {env:Env}:∀ {names:List (Str × NameKind)} {y:Str},
  (names.map λ (n,k)=>if (k == NameKind.free && env.scope.kind == .function && env.kindOf n == some .cell) then (n,NameKind.cell) else (n,k)).lookup y=(names.lookup y).map λ k=>if (k == NameKind.free && env.scope.kind == .function && env.kindOf y == some .cell) then NameKind.cell else k
 | [],_=>rfl
 | (n,k) :: r,y=>by
  have ih:=@cL env r y
  show List.lookup y ((if (k == NameKind.free && env.scope.kind == .function && env.kindOf n == some .cell)=true then (n,NameKind.cell) else (n,k)) :: _)=_
  cases hy:y == n with
  | true =>
   have e:=eq_of_beq hy
   subst e
   by_cases hc:(k == NameKind.free && env.scope.kind == .function && env.kindOf y == some .cell)=true
   ·rw [if_pos hc];simp only [List.lookup_cons,beq_self_eq_true,Option.map_some];rw [if_pos hc]
   ·rw [if_neg hc];simp only [List.lookup_cons,beq_self_eq_true,Option.map_some];rw [if_neg hc]
  | false =>
   by_cases hc:(k == NameKind.free && env.scope.kind == .function && env.kindOf n == some .cell)=true
   ·rw [if_pos hc];simp only [List.lookup_cons,hy];exact ih
   ·rw [if_neg hc];simp only [List.lookup_cons,hy];exact ih
theorem jM {α:Type} {y:Str} {a:α}:∀ {l:List (Str × α)},l.lookup y=some a->(y,a)∈l
 | [],h=>by cases h
 | (n,k) :: r,h=>by
  rw [List.lookup_cons] at h
  cases hy:y == n with
  | true=>rw [hy] at h;cases h;rw [eq_of_beq hy];exact List.mem_cons_self
  | false=>rw [hy] at h;exact List.mem_cons_of_mem _ (jM h)
noncomputable abbrev jc (X:Cx) (sc:Scope) (cl:List (Str × Addr)) (C:Addr) (s₁:Shared) (H₁:Hp) (pn:List (Addr × Obj)) (x:Str):Cx:=
 { X with env:=compEnvC sc cl C X.env,N:=X.N++[x],s₀:=s₁,H₀:=H₁,outer:=X.stack,stack:=X.stack,ex:=[],fn:=λ _=>false,pn:=pn,xe:=λ _ _=>False,sg:=λ _ _=>True }
structure CompOk (X:Cx) (sc:Scope) (x:Str):Prop where
 cell:∀ y∈sc.names,y.2 ≠ .cell
 kind:sc.kind=.function
 names:∀ y∈sc.names,y.2=.local->sc.names.lookup y.1=some .local
 hx:sc.names.lookup x=some .local
 loc:∀ y∈X.N,sc.names.lookup y ≠ some .local
 fr:∀ y∈sc.names,y.2=.free->X.env.scope.names.lookup y.1=some .cell
 nd:X.N.Nodup
section
variable {κ:Nat->Addr} {B:Gd} {X:Cx} {sc:Scope} {x y:Str} {cl:List (Str × Addr)} {C:Addr} {s₁:Shared} {H₁:Hp} {pn:List (Addr × Obj)}
theorem D7:Cxo (jc X sc cl C s₁ H₁ pn x):=⟨λ _ _=>trivial,rfl⟩
theorem vL {k:NameKind} (h:sc.names.lookup y=some k) (hk:k ≠ .free):(jc X sc cl C s₁ H₁ pn x).env.scope.names.lookup y=some k:=by
 show List.lookup y (sc.names.map _)=_
 have:=@cL X.env sc.names y
 refine this.trans ?_
 rw [h]
 have hb:(k == NameKind.free)=false:=by simpa using hk
 simp only [Option.map_some,hb,Bool.false_and,Bool.false_eq_true,if_false]
theorem D8 (h:sc.names.lookup y=some .free):rL (jc X sc cl C s₁ H₁ pn x).env.scope y:=by
 have:=@cL X.env sc.names y
 rw [h] at this
 simp only [Option.map_some] at this
 by_cases hc:(NameKind.free == NameKind.free && X.env.scope.kind == .function && X.env.kindOf y == some .cell)=true
 ·rw [if_pos hc] at this;exact .inr (.inl this)
 ·rw [if_neg hc] at this;exact .inr (.inr this)
theorem Jv {i:Nat} (h:X.N[i]?=some y):(jc X sc cl C s₁ H₁ pn x).N[i]?=some y:=by
 show (X.N++[x])[i]?=_
 rw [List.getElem?_append_left (List.getElem?_eq_some_iff.mp h).1];exact h
theorem F0 {i:Nat} (h:X.N.length=i):(jc X sc cl C s₁ H₁ pn x).N[i]?=some x:=by
 show (X.N++[x])[i]?=_
 rw [List.getElem?_append_right (by (first | lia | omega))]
 simp [h]
theorem D6 {n:Nat} {m:List D->R D} (c:Cal κ X y n m):Cal κ (jc X sc cl C s₁ H₁ pn x) y n m:=⟨c.ex⟩
end
section
variable {X:Cx} {sc:Scope} {x:Str} {cl:List (Str × Addr)} {C:Addr} {sb s4:Shared} {Hb H4:Hp} {pins:List (Addr × Obj)} {σ:St} {m:Str->Option Value} {E:Value->Shared->Prop}
theorem Ap (I:Inv X pins σ Hb sb) (I4:Inv X pins σ H4 s4) (u:Un (nD X.stack) [] Hb H4 sb.heap s4.heap) (ho:s4.os=sb.os) (co:CompOk X sc x)
  (cl1:∀ y c,cl.lookup y=some c->X.env.cells.lookup y=some c) (cl2:∀ y,(y,NameKind.free)∈sc.names->∃ c,cl.lookup y=some c)
  (hC:sb.heap.objs.size <= C) (hns:s4.heap.Ns C m) (hCn:H4 C=none):Inv ((jc X sc cl C sb Hb (X.pn++pins) x).wish E) [] (σ++[none]) H4 s4:=by
 have lt:∀ {b o},sb.heap.get? b=some o->b ≠ C:=λ {b o} e z=>absurd (Nat.lt_of_lt_of_le (Heap.lt_size e) (z ▸ hC)) (Nat.lt_irrefl _)
 have frs_ne:∀ b∈nD X.stack,b ≠ C:=λ b hb=>by
  obtain ⟨_,o,ho,_⟩:=I.stack.mem hb
  exact lt ho
 have free_of:∀ {y},((jc X sc cl C sb Hb (X.pn++pins) x).env.scope.names.lookup y=some .cell \/ (jc X sc cl C sb Hb (X.pn++pins) x).env.scope.names.lookup y=some .free)->sc.names.lookup y=some .free:=λ {y} h=>by
  have r:=@cL X.env sc.names y
  cases q:sc.names.lookup y with
  | none=>rw [q] at r;rcases h with h | h <;> (have:=h.symm.trans r;cases this)
  | some k =>
   rw [q] at r
   simp only [Option.map_some] at r
   by_cases hk:k=.free
   ·rw [hk]
   ·exfalso
    have hb:(k == NameKind.free)=false:=by simpa using hk
    simp only [hb,Bool.false_and,Bool.false_eq_true,if_false] at r
    have hc:=co.cell
    rcases h with h | h
    ·have e:=h.symm.trans r
     cases e
     have:=jM q
     exact hc _ this rfl
    ·have e:=h.symm.trans r
     cases e
     exact hk rfl
 refine ⟨⟨I.ok.mod,co.kind,I.ok.glob,I.ok.blt,hC,λ y z c h1 h2=>I.ok.inj y z c (cl1 y c h1) (cl1 z c h2),λ y h=>?_,(λ y c h=>Bool.noConfusion h),I.ok.hd,I.ok.frames,.inl rfl,(λ b hb=>by cases hb),λ b o e=>I.bs b o e,Nat.le_trans I.ok.bsz I.sz,(λ b o e hb=>by cases hb),(λ b hb=>by cases hb),I.stack,I.stkFree⟩,
  ho,I4.bare,u,⟨m,hns,λ i y v e1 e2 e3=>?_⟩,λ y c h=>I4.cell y c (cl1 y c h),hCn,λ y c h=>I4.freeC y c (cl1 y c h),λ p hp=>?_,I4.hok,?_,trivial⟩
 ·have:=free_of h
  exact cl2 y (jM this)
 ·by_cases hi:i < σ.length
  ·rw [List.getElem?_append_left hi] at e2
   have hlen:i < X.N.length:=by have:=I4.len;(first | lia | omega)
   have e1':X.N[i]?=some y:=by
    have:(X.N++[x])[i]?=some y:=e1
    rwa [List.getElem?_append_left hlen] at this
   obtain ⟨hm,e0⟩:=List.getElem?_eq_some_iff.mp e1'
   have hy:y∈X.N:=e0 ▸ List.getElem_mem hm
   rcases e3 with e3 | e3
   ·exfalso
    have r:=@cL X.env sc.names y
    cases q:sc.names.lookup y with
    | none=>rw [q] at r;have:=(show List.lookup y _=_ from e3).symm.trans r;cases this
    | some k =>
     rw [q] at r
     simp only [Option.map_some] at r
     have e:=(show List.lookup y _=_ from e3).symm.trans r
     injection e with e
     split at e
     ·cases e
     ·rw [<- e] at q
      exact co.loc y hy q
   ·have hf:=free_of e3
    have hcell:=co.fr (y,.free) (jM hf) rfl
    obtain ⟨c,hc⟩:=cl2 y (jM hf)
    obtain ⟨m',_,hl⟩:=I4.loc
    obtain ⟨w,r,l⟩:=hl i y v e1' e2 (.inr (.inl hcell))
    refine ⟨w,r,.inr ⟨e3,c,hc,?_⟩⟩
    rcases l with ⟨hk,_⟩ | ⟨_,c',hc',z⟩
    ·have:X.env.scope.names.lookup y=some .local:=hk
     rw [hcell] at this;cases this
    ·have:=(cl1 y c hc).symm.trans hc'
     cases this
     exact z
  ·rw [List.getElem?_append_right (by (first | lia | omega))] at e2
   cases q:i - σ.length with
   | zero=>rw [q] at e2;simp at e2
   | succ k=>rw [q] at e2;simp at e2
 ·have hp:p∈X.pn++pins:=by simpa using hp
  obtain ⟨a1,a2,a3,a4,a5⟩:=I4.pin p hp
  obtain ⟨b1,_⟩:=I.pin p hp
  exact ⟨a1,a2,lt b1,λ z=>by
   rcases List.mem_cons.mp (I.stkSub _ z) with e | e
   ·exact a3 e
   ·exact a4 e,a5⟩
 ·show (σ++[none]).length=(X.N++[x]).length
  simp [I4.len]
theorem Aq {pins':List (Addr × Obj)} {σ':St} {s':Shared} {H':Hp} {h':Heap} (I:Inv X pins σ Hb sb) (J:Inv ((jc X sc cl C sb Hb (X.pn++pins) x).wish E) pins' σ' H' s') (hC:sb.heap.objs.size <= C) (sbt:Heap.SameBut C s'.heap h'):Inv X pins σ H' { s' with heap:=h' }:=by
 have I1:Inv X pins σ H' s':=I.call' (ch:=[]) J.os J.base J.hok J.bare (λ b z=>by cases z)
 have lt:∀ {b o},sb.heap.get? b=some o->b ≠ C:=λ {b o} e z=>absurd (Nat.lt_of_lt_of_le (Heap.lt_size e) (z ▸ hC)) (Nat.lt_irrefl _)
 refine I1.turned (t':=s'.toks) (it:=C) (λ b o hb e=>sbt.extBut b o hb e) J.free (λ z=>?_) (.inr (Nat.le_trans I.sz hC)) (λ y c h z=>?_) (λ p hp z=>?_)
 ·obtain ⟨mm,⟨o,_,_,ho,_⟩,_⟩:=I.loc
  exact lt ho z.symm
 ·obtain ⟨v,o,ho,_⟩:=I.cell y c h
  exact lt ho z
 ·exact lt (I.pin p hp).1 z
end
inductive PIcE (X:Cx) (pins:List (Addr × Obj)) (σ:St) (tg:Expr) (R:It->Hp->Prop) (itv:Value) (s2:Shared):Prop
 | mk (sb:Shared) (Hb:Hp) (it:Addr) (fp:List Addr) (tn:Nat->Heap->Prop) (J:It) (e:itv=.ref it) (I:Inv X pins σ Hb sb) (I':Inv X pins σ Hb s2) (k:∀ b o,sb.heap.get? b=some o->s2.heap.get? b=some o) (o:s2.os=sb.os) (z:sb.heap.objs.size <= s2.heap.objs.size) (T:Turn X.prog X.w X.K tg J fp it tn) (t:tn 0 s2.heap) (f:∀ b∈fp,sb.heap.objs.size <= b/\b < s2.heap.objs.size) (r:R J Hb)
noncomputable def DX (X:Cx) (tg iter:Expr) (wi:TI):Prop:=
 ∀ (pins:List (Addr × Obj)) (s:Shared) (σ:St) (H:Hp) (R:It->Hp->Prop),Inv X pins σ H s->wi σ H R →
  wpAny (model X.prog X.w) X.A (eval iter X.env) (λ v s1=>wpAny (model X.prog X.w) X.A (pyIter v) (PIcE X pins σ tg R) X.xe s1) X.xe s
section
variable {X:Cx} {tg:Expr}
theorem CY {l:Expr} {tl:TE} (hl:PE X l tl):DX X tg l (F6 X.K tl):=by
 intro pins s σ H R I h
 refine b7 (hl pins s σ H _ I h) λ v s1 ⟨x,H1,I1,r1,q1⟩=>?_
 obtain ⟨a,e,⟨xs,hq⟩,q⟩:=q1
 subst e
 cases r1
 obtain ⟨its,rv,p,hz⟩:=I1.list hq
 refine wpAny_pyIter_list p.isList ?_
 refine ⟨s1,H1,s1.heap.objs.size,[s1.heap.objs.size],_,_,rfl,I1,I1.kept (t':=s1.toks) λ b o e=>Heap.get?_push_of_some _ e,λ b o e=>Heap.get?_push_of_some _ e,rfl,by simp [Heap.size_push],sT a _,⟨_,Heap.get?_push_size _ rfl,rfl,rfl⟩,λ b hb=>?_,q⟩
 have e:b=s1.heap.objs.size:=by simpa using hb
 subst e
 simp [Heap.size_push]
theorem EV {l:Expr} {tl:TE} (hl:PE X l tl):DX X tg l (JH X.K tl):=by
 intro pins s σ H R I h
 refine b7 (hl pins s σ H _ I h) λ v s1 ⟨x,H1,I1,r1,q1⟩=>?_
 obtain ⟨a,e,⟨xs,hq⟩,q⟩:=q1
 subst e
 cases r1
 obtain ⟨its,rv,p,hz⟩:=I1.tuple hq
 refine wpAny_pyIter_tuple (show s1.heap.IsTuple a its.toArray from p) ?_
 refine ⟨s1,H1,s1.heap.objs.size,[s1.heap.objs.size],_,_,rfl,I1,I1.kept (t':=s1.toks) λ b o e=>Heap.get?_push_of_some _ e,λ b o e=>Heap.get?_push_of_some _ e,rfl,by simp [Heap.size_push],qQ a _,⟨_,Heap.get?_push_size _ rfl,rfl,rfl⟩,λ b hb=>?_,q⟩
 have e:b=s1.heap.objs.size:=by simpa using hb
 subst e
 simp [Heap.size_push]
theorem Bb {pins:List (Addr × Obj)} {σ:St} {H:Hp} {s:Shared} {R:It->Hp->Prop} {E:Value->Shared->Prop} {lo hi:Int} {t u v:Tok} {tk:Nat} (I:Inv X pins σ H s) (h1:-(2 ^ 62) <= lo) (h2:lo < 2 ^ 62) (h3:-(2 ^ 62) <= hi) (h4:hi < 2 ^ 62)
  (q:R (FU lo (hi - lo).toNat) H):wpAny (model X.prog X.w) X.A (pyIter (.ref s.heap.objs.size)) (PIcE X pins σ tg R) E { s with heap:=s.heap.push { cls:=.type "range",data:=.fields #[.int lo t,.int hi u,.int 1 v] },toks:=tk }:=by
 refine wpAny_pyIter_range (IsRange.new ..) (small_one h1 h2 h3 h4) ?_
 have I1:Inv X pins σ H { s with heap:=s.heap.push { cls:=.type "range",data:=.fields #[.int lo t,.int hi u,.int 1 v] },toks:=tk }:=I.kept λ b o e=>Heap.get?_push_of_some _ e
 refine ⟨s,H,(s.heap.push { cls:=.type "range",data:=.fields #[.int lo t,.int hi u,.int 1 v] }).objs.size,[(s.heap.push { cls:=.type "range",data:=.fields #[.int lo t,.int hi u,.int 1 v] }).objs.size],_,_,rfl,I,
  I1.kept (t':=tk) λ b o e=>Heap.get?_push_of_some _ e,λ b o e=>Heap.get?_push_of_some _ (Heap.get?_push_of_some _ e),rfl,by simp [Heap.size_push];(first | lia | omega),qP _ lo (hi - lo).toNat,?_,λ b hb=>?_,q⟩
 ·have e1:lo + ((0:Nat):Int) * 1=lo:=by simp
  have e2:(((hi - lo).toNat:Nat):Int) - ((0:Nat):Int)=Builtin.Range.rangeSize lo hi 1:=by rw [rangeSize_one];split <;> (first | lia | omega)
  show IsRangeIter _ _ (lo + ((0:Nat):Int) * 1) ((((hi - lo).toNat:Nat):Int) - ((0:Nat):Int)) 1
  rw [e1,e2]
  exact Heap.get?_push_size _ rfl
 ·have e:b=(s.heap.push { cls:=.type "range",data:=.fields #[.int lo t,.int hi u,.int 1 v] }).objs.size:=by simpa using hb
  subst e
  simp [Heap.size_push]
theorem ym {a b:Expr} {ta:TA} {p pos:Pos} (hg:Gl X "range") (hm:X.mg "range" = none) (ha:PA X [a,b] ta) (hs:starEach [a,b] X.env=[(false,eval a X.env),(false,eval b X.env)]) (hs2:starEach [b] X.env=[(false,eval b X.env)]) :
  DX X tg (.Call (.Name "range" p) [a,b] [] pos) (F7 ta):=by
 intro pins s σ H R I h
 refine Call_ (jK I hg hm boot_range (PyProof.Rows.callWith_type1 (b7 (ha pos pins s σ H _ I h) λ us s1 ⟨vs,H1,I1,r1,q1⟩=>?_) (by rw [hs,hs2]) (by rw [hs2];rfl)))
 obtain ⟨i,j,e,⟨q1,q2,q3,q4⟩,q⟩:=q1
 subst e
 cases r1 with
 | cons r rr =>
  cases rr with
  | cons r' rr =>
   cases rr
   obtain ⟨t,rfl⟩:=r
   obtain ⟨t',rfl⟩:=r'
   exact call_range_2 (Bb I1 q1 q2 q3 q4 q)
end
noncomputable def Ai (κ:Nat->Addr) (B:Gd) (X:Cx) (tg e:Expr) (f:Ev->R (List D)):Prop:=∀ pins σ Ex,DX (At X pins σ Ex) tg e (tO (λ G _ J ds=>vk X κ J G ds) X κ B (EX X pins σ Ex) f)
theorem zS {Y:Cx} {tg e:Expr} {w w':TI} (h:DX Y tg e w) (k:∀ σ H R,w' σ H R->w σ H R):DX Y tg e w':=λ pins s σ H R I q=>h pins s σ H R I (k σ H R q)
theorem HQ {Y:Cx} {tg e:Expr} {w w':TI} (h:DX Y tg e w) (h':DX Y tg e w'):DX Y tg e (λ σ H R=>w σ H R \/ w' σ H R):=λ pins s σ H R I q=>q.elim (h pins s σ H R I) (h' pins s σ H R I)
section
variable {κ:Nat->Addr} {B:Gd} {X:Cx} {e tg:Expr} {f:Ev->R D} {pos:Pos}
theorem C1 (h:PX κ B X e f):Ai κ B X tg e (λ δ=>(f δ).bind br):=λ pins σ Ex =>
 zS (HQ (CY (X:=At X pins σ Ex) (h pins σ Ex)) (EV (X:=At X pins σ Ex) (h pins σ Ex))) λ τ H R hz=>gd hz λ G δ rp q=>by
  dsimp only at q
  cases e:f δ with
  | ok d =>
   rw [e] at q
   cases d with
   | lst ds =>
    refine .inl ⟨G,δ,rp,?_⟩
    rw [e]
    intro v H' G' e1 d1
    unfold aW at d1
    obtain ⟨a,vs,rfl,h1,h2⟩:=d1
    exact ⟨a,rfl,⟨vs,e1.GH.seq h1⟩,q _ H' G' e1 (sa (H:=H') h1 h2)⟩
   | tup ds =>
    refine .inr ⟨G,δ,rp,?_⟩
    rw [e]
    intro v H' G' e1 d1
    unfold aW at d1
    obtain ⟨a,vs,rfl,h1,h2⟩:=d1
    exact ⟨a,rfl,⟨vs,bY e1.GH h1⟩,q _ H' G' e1 (wg (H:=H') h1 h2)⟩
   | _=>exact False.elim q
  | exc c =>
   rw [e] at q
   refine .inl ⟨G,δ,rp,?_⟩
   rw [e]
   exact q
  | stuck=>rw [e] at q;exact False.elim q
theorem wO {a b:Expr} {fs:Ev->R (List D)} {p pos:Pos} (hg:Gl X "range") (hm:X.mg "range" = none) (ha:qU κ B X [a,b] fs) (h:aU a=true) (h':aU b=true):Ai κ B X tg (.Call (.Name "range" p) [a,b] [] pos) (λ δ=>(fs δ).bind we):=λ pins σ Ex =>
 zS (ym (X:=At X pins σ Ex) hg hm (ha pins σ Ex) (by rw [be h,be h'];rfl) (be h')) λ τ H R hz=>gd hz λ G δ rp q=>⟨G,δ,rp,q.seq λ x v H1 G1 e1 d1 q1=>by
  unfold we at q1
  split at q1
  ·rename_i i j
   split at q1
   ·rename_i hj
    exact ⟨i,j,rT d1,⟨hj.1.1,hj.1.2,hj.2.1,hj.2.2⟩,q1 _ H1 G1 (Ext.refl e1.GH) (qi (lo:=i) (n:=(j - i).toNat))⟩
   ·exact False.elim q1
  ·exact False.elim q1⟩
end
noncomputable def qW (δ:Ev):Ev:=δ.map λ o=>match o with
 | some (.sh d)=>some (.sh d)
 | _=>none
noncomputable def fv (t:Ev->R Bool) (f:Ev->R D) (δ:Ev):List D->R (List D)
 | []=>.ok []
 | d :: ds=>(t (δ++[some (.sh d)])).bind λ k=>if k then (f (δ++[some (.sh d)])).bind λ y=>(fv t f δ ds).bind λ ys=>.ok (y :: ys) else fv t f δ ds
noncomputable def LV:R (List D)->R (List D)
 | .ok l=>.ok l
 | _=>.stuck
noncomputable def ec (fit:Ev->R (List D)) (t:Ev->R Bool) (f:Ev->R D):Ev->R (List D):=λ δ=>(fit δ).bind λ ds=>if ds.length <= 1000000 then LV (fv t f (qW δ) ds) else .stuck
noncomputable def Jc (κ:Nat->Addr) (B:Gd) (X:Cx) (ifs:List Expr) (t:Ev->R Bool):Prop:=∀ pins σ Ex s H Q,Inv (At X pins σ Ex) pins σ H s->tO GJ X κ B (EX X pins σ Ex) t σ H Q →
 wpAny (model X.prog X.w) X.A (forIn ifs true λ c r=>if r=true then do let ok ← isTrue c X.env (eval c X.env);pure (ForInStep.yield ok) else pure (ForInStep.yield r)) (TP (At X pins σ Ex) pins σ Q) Ex s
theorem E5 {κ:Nat->Addr} {B:Gd} {X:Cx}:Jc κ B X [] (λ _=>.ok true):=λ pins σ Ex s H Q I hz=>gd hz λ G δ rp q=>wpAny_tests_nil ⟨H,I,q true H G (Ext.refl rp.GH) rfl⟩
theorem E6 {κ:Nat->Addr} {B:Gd} {X:Cx} {c:Expr} {t:Ev->R Bool} (h:nG κ B X c t):Jc κ B X [c] t:=λ pins σ Ex s H Q I q=>wpAny_tests_one (h pins σ Ex pins s σ H Q I q)
theorem Dx {Z:Zx} {B:Gd} {H₀ G₁ H₁ G H:Hp} {σ:St} {δ:Ev} {v:V} {d:D} (rp:Rep Z B H₀ G₁ H₁ σ δ) (e:Ext G₁ H₁ G H) (dv:aW Z G v d):Rep Z ⟨G₁,λ _=>False⟩ H₁ G H (σ++[some v]) (qW δ++[some (.sh d)]):=by
 have hl:(qW δ).length=δ.length:=by simp [qW]
 have cases':∀ {i:Nat} {o:Sl},(qW δ++[some (.sh d)])[i]?=some (some o)->∃ d',o=.sh d'/\∃ w,(σ++[some v])[i]?=some (some w)/\aW Z G w d':=λ {i o} q=>by
  by_cases hi:i < δ.length
  ·rw [List.getElem?_append_left (by (first | lia | omega))] at q
   simp only [qW,List.getElem?_map] at q
   cases z:δ[i]? with
   | none=>rw [z] at q;cases q
   | some o' =>
    rw [z] at q
    simp only [Option.map_some,Option.some.injEq] at q
    split at q
    ·rename_i d'
     cases q
     obtain ⟨w,e1,e2⟩:=rp.sh i d' z
     exact ⟨d',rfl,w,by rw [List.getElem?_append_left (by rw [rp.len];exact hi)];exact e1,e2.mono e.sG⟩
    ·cases q
  ·rw [List.getElem?_append_right (by (first | lia | omega)),hl] at q
   cases z:i - δ.length with
   | succ k=>rw [z] at q;simp at q
   | zero =>
    rw [z] at q
    simp at q
    refine ⟨d,q.symm,v,?_,dv⟩
    rw [List.getElem?_append_right (by rw [rp.len];(first | lia | omega)),rp.len,z]
    rfl
 refine ⟨⟨e.sG,e.GH,λ b o q _=>e.sH _ _ q,λ b q=>?_,λ b q n=>?_⟩,by simp [hl,rp.len],λ i d' q=>?_,λ i ds q=>?_,λ i j ds es a n q1=>?_,λ i c ns ds q=>?_,λ i j c ns ds c' ns' ds' x0 n0 q=>?_⟩
 ·cases z:H₁ b with
  | none=>exact absurd z q
  | some o=>rw [e.sH _ _ z];simp
 ·cases z:G b with
  | none=>rfl
  | some o=>exact ((e.new b (by rw [z];simp)).elim (λ y=>y n) λ y=>q y).elim
 ·obtain ⟨d'',e1,w,e2,e3⟩:=cases' q
  cases e1
  exact ⟨w,e2,e3⟩
 ·obtain ⟨d'',e1,_⟩:=cases' q;cases e1
 ·obtain ⟨d'',e1,_⟩:=cases' q1;cases e1
 ·obtain ⟨d'',e1,_⟩:=cases' q;cases e1
 ·obtain ⟨d'',e1,_⟩:=cases' q;cases e1
noncomputable def Fr (H₀ H:Hp) (vs:List V):Prop:=∀ v∈vs,∃ q us,v=V.ref q/\H q=some (.lst us)/\H₀ q=none
section
variable {H₀ H₁ H H':Hp} {vs ws:List V} {a:Addr}
theorem Fr.nil:Fr H₀ H []:=λ v hv=>absurd hv List.not_mem_nil
theorem Fr.same (s:bV H H') (h:Fr H₀ H vs):Fr H₀ H' vs:=λ v hv=>by
 obtain ⟨q,us,e1,e2,e3⟩:=h v hv
 exact ⟨q,us,e1,s _ _ e2,e3⟩
theorem Fr.upd (h:Fr H₀ H vs):Fr H₀ (upd H a (.lst ws)) vs:=λ v hv=>by
 obtain ⟨q,us,e1,e2,e3⟩:=h v hv
 by_cases c:q=a
 ·exact ⟨q,ws,e1,by rw [c,aM],e3⟩
 ·exact ⟨q,us,e1,by rw [aC c];exact e2,e3⟩
theorem Fr.base (hh:∀ b,H₀ b ≠ none->H₁ b ≠ none) (h:Fr H₁ H vs):Fr H₀ H vs:=λ v hv=>by
 obtain ⟨q,us,e1,e2,e3⟩:=h v hv
 refine ⟨q,us,e1,e2,?_⟩
 cases z:H₀ q with
 | none=>rfl
 | some o=>exact absurd e3 (hh q (by rw [z];simp))
theorem Fr.snoc {v:V} (h:Fr H₀ H vs) (hv:∃ q us,v=V.ref q/\H q=some (.lst us)/\H₀ q=none):Fr H₀ H (vs++[v]):=λ u hu=>by
 rcases List.mem_append.mp hu with hu | hu
 ·exact h u hu
 ·rw [List.mem_singleton.mp hu];exact hv
end
noncomputable def Mo (ψ:Bool) (κ:Nat->Addr) (B:Gd) (X:Cx) (e:Expr) (f:Ev->R D):Prop:=∀ pins σ Ex,PE (At X pins σ Ex) e (λ τ H Q=>∃ G δ,Rep ⟨X.K,κ⟩ B X.H₀ G H τ δ/\rK (λ G' H' v d=>aW ⟨X.K,κ⟩ G' v d/\(ψ=true->∃ q us,v=V.ref q/\H' q=some (.lst us)/\H q=none)) κ (EX X pins σ Ex) G H (f δ) Q)
theorem PX.n {κ:Nat->Addr} {B:Gd} {X:Cx} {e:Expr} {f:Ev->R D} (h:PX κ B X e f):Mo false κ B X e f:=λ pins σ Ex=>bT (h pins σ Ex) λ τ H Q hz=>gd hz λ G δ rp q=>⟨G,δ,rp,by
 cases z:f δ with
 | ok d=>rw [z] at q;exact λ v H' G' e1 d1=>q v H' G' e1 ⟨d1,λ z=>by cases z⟩
 | exc c=>rw [z] at q;exact q
 | stuck=>rw [z] at q;exact q⟩
section
variable {κ:Nat->Addr} {B:Gd} {X:Cx} {sc:Scope} {x:Str} {px pos:Pos} {iter elt:Expr} {ifs:List Expr} {fit:Ev->R (List D)} {t:Ev->R Bool} {f:Ev->R D}
inductive CompEnd (ψ:Bool) (κ:Nat->Addr) (X:Cx) (sc:Scope) (x:Str) (pins:List (Addr × Obj)) (σ:St) (Ex:Value->Shared->Prop) (G H:Hp) (l:List D) (Da C:Addr) (s1:Shared):Prop
 | mk (sb:Shared) (Hb:Hp) (cl:List (Str × Addr)) (E':Value->Shared->Prop) (ov:Option V) (H3 G3:Hp) (vs:List V) (i1:Inv (At X pins σ Ex) pins σ Hb sb) (z1:sb.heap.objs.size <= C) (i2:Inv ((jc X sc cl C sb Hb (X.pn++pins) x).wish E') [] (σ++[ov]) H3 s1) (x1:Ext G H G3 H3) (h1:H3 Da=some (.lst vs)) (g1:G3 Da=none) (n1:H Da=none) (d1:Dens ⟨X.K,κ⟩ G3 vs l) (f1:ψ=true->Fr H H3 vs)
inductive CZ (ψ:Bool) (Z:Zx) (Y:Cx) (τ:St) (tn:Nat->Heap->Prop) (fp:List Addr) (ds:List D) (Gb Hb:Hp) (t:Ev->R Bool) (f:Ev->R D) (sd:Ev) (Da:Addr) (l:List D) (n:Nat) (s':Shared):Prop
 | mk (i:Nat) (ov:Option V) (H' G':Hp) (acc:List D) (vs:List V) (bf:List D) (I:Inv Y [] (τ++[ov]) H' s') (t1:tn i s'.heap) (f1:∀ b∈fp,H' b=none) (e1:n=ds.length - i) (l1:i <= ds.length) (x1:Ext Gb Hb G' H') (h1:H' Da=some (.lst vs)) (g1:G' Da=none) (d1:Dens Z G' vs acc) (l2:acc.length <= i) (c1:fv t f sd (ds.drop i)=.ok bf) (e3:acc++bf=l) (z1:ψ=true->Fr Hb H' vs)
theorem Ar {ψ:Bool} {pins:List (Addr × Obj)} {τ:St} {Ex:Value->Shared->Prop} {s:Shared} {H G:Hp} {δ:Ev} {use:Option (Value->Sem Unit)} {Qv:Value->Shared->Prop} {cpos:Pos} (hc:X.calm=true) (co:CompOk X sc x) (hi:Ai κ B X (.Name x px) iter fit)
  (ht:∀ B' cl C s₁ H₁ pn,Jc κ B' (jc X sc cl C s₁ H₁ pn x) ifs t) (he:∀ B' cl C s₁ H₁ pn,Mo ψ κ B' (jc X sc cl C s₁ H₁ pn x) elt f)
  (hs:∀ x,foldedSetIterable iter X.env x=pure x) (I:Inv (At X pins τ Ex) pins τ H s) (rp:Rep ⟨X.K,κ⟩ B X.H₀ G H τ δ)
  (q:match ec fit t f δ with
   | .ok l=>∀ Da C s1,CompEnd ψ κ X sc x pins τ Ex G H l Da C s1->compPost (model X.prog X.w) X.A Ex use Qv (.ref Da) C (.ok .next) s1
   | .exc c=>∀ H' G',Ext G H G' H'->EX X pins τ Ex (.ref (κ c)) none H'
   | .stuck=>False) :
  wpAny (model X.prog X.w) X.A (comprehension (.ListComp elt [⟨.Name x px,iter,ifs,0⟩] sc pos) sc X.env cpos (newList []) false (eval iter X.env) use) Qv Ex s:=by
 obtain ⟨cl,hcl,cl1,cl2⟩:=lD (env:=X.env) sc.names [] (λ y hy hk=>by
  have:=co.fr y hy hk
  exact I.ok.has y.1 (.inl this)) (λ y c h=>by cases h)
 have hclos:closureFor sc X.env=pure cl:=by
  unfold closureFor
  simp only [bind_pure]
  exact hcl
 refine wpAny_comprehension_free (use:=use) rfl hs hclos co.kind co.names ?_
 refine b7 (hi pins τ Ex pins s τ H (λ J H'=>∃ G' ds,Ext G H G' H'/\vk X κ J G' ds/\(match (if ds.length <= 1000000 then LV (fv t f (qW δ) ds) else .stuck) with | .ok l=>∀ Da C s1,CompEnd ψ κ X sc x pins τ Ex G H l Da C s1->compPost (model X.prog X.w) X.A Ex use Qv (.ref Da) C (.ok .next) s1 | _=>False)) I ⟨G,δ,rp,?_⟩) λ v s1 h1=>b7 h1 λ itv s2 h2=>?_
 ·unfold ec at q
  cases e:fit δ with
  | ok ds =>
   rw [e] at q
   simp only [R.bind_ok] at q
   refine λ J H' G' e1 d1=>⟨G',ds,e1,d1,?_⟩
   by_cases hb:ds.length <= 1000000
   ·rw [if_pos hb] at q ⊢
    cases ez:fv t f (qW δ) ds with
    | ok l=>rw [ez] at q;exact q
    | exc c=>rw [ez] at q;exact False.elim q
    | stuck=>rw [ez] at q;exact False.elim q
   ·rw [if_neg hb] at q;exact False.elim q
  | exc c=>rw [e] at q;exact q
  | stuck=>rw [e] at q;exact q
 obtain ⟨sb,Hb,it,fp,tn,J,rfl,Ib,I2,kb,hos,hsz,T,st2,hfp,Gb,ds,e1,⟨us,dus,hJ⟩,q2⟩:=h2
 have rpb:Rep ⟨X.K,κ⟩ B X.H₀ Gb Hb τ δ:=rp.ext e1
 have hlen:=dus.length
 by_cases hbig:ds.length <= 1000000
 case neg=>rw [if_neg hbig] at q2;exact False.elim q2
 rw [if_pos hbig] at q2
 cases ez:fv t f (qW δ) ds with
 | exc c=>rw [ez] at q2;exact False.elim q2
 | stuck=>rw [ez] at q2;exact False.elim q2
 | ok l =>
 rw [ez] at q2
 have hf2:Hb s2.heap.objs.size=none:=I2.hok.fresh (Nat.le_refl _)
 have I3:=I2.laid (a:=s2.heap.objs.size) (o:=.lst []) (t':=s2.toks) (h':=s2.heap.push { cls:=.type "list",dict:=none,data:=.seq ([]:List Value).toArray }) (λ b u e=>Heap.get?_push_of_some _ e) (Nat.le_refl _) ⟨by decide,[],0,.nil,Heap.get?_push_size _ rfl⟩
 refine wpAny_newObj_type (wpAny_newFunctionEnv co.cell (by intro y hy;simp at hy) (λ h4 hns4 hsb4=>?_) co.kind)
 dsimp only at hns4 hsb4 ⊢
 generalize hH3:s2.heap.push { cls:=.type "list",dict:=none,data:=.seq ([]:List Value).toArray }=H3 at hns4 hsb4 I3 ⊢
 have hC:H3.objs.size=s2.heap.objs.size + 1:=by rw [<- hH3,Heap.size_push]
 have k34:∀ b o,H3.get? b=some o->h4.get? b=some o:=λ b o e=>hsb4.extBut b o (Nat.ne_of_lt (Heap.lt_size e)) (Heap.get?_push_of_some _ e)
 generalize hs4:({ s2 with heap:=h4,toks:=s2.toks + ([]:List (Str × Value)).length }:Shared)=s4
 have I4:Inv (At X pins τ Ex) pins τ (upd Hb s2.heap.objs.size (.lst [])) s4:=by
  have:=I3.kept (t':=s2.toks + ([]:List (Str × Value)).length) k34
  rw [<- hs4];exact this
 have hh4:s4.heap=h4:=by rw [<- hs4]
 have kb4:∀ b o,sb.heap.get? b=some o->s4.heap.get? b=some o:=λ b o e=>by
  rw [hh4];exact k34 b o (by rw [<- hH3];exact Heap.get?_push_of_some _ (kb b o e))
 have ub4:Un (nD X.stack) [] Hb (upd Hb s2.heap.objs.size (.lst [])) sb.heap s4.heap:=Un.laid kb4 hsz hf2
 have hCb:sb.heap.objs.size <= H3.objs.size:=by (first | lia | omega)
 have hfpD:∀ b∈fp,b ≠ s2.heap.objs.size:=λ b hb=>Nat.ne_of_lt (hfp b hb).2
 have hfpC:∀ b∈fp,b ≠ H3.objs.size:=λ b hb=>Nat.ne_of_lt (Nat.lt_trans (hfp b hb).2 (by rw [hC];exact Nat.lt_succ_self _))
 have hDC0:s2.heap.objs.size ≠ H3.objs.size:=by (first | lia | omega)
 generalize hD:s2.heap.objs.size=Da at *
 generalize hCC:H3.objs.size=C at *
 have hDC:Da ≠ C:=hDC0
 let R:=compPost (model X.prog X.w) X.A Ex use Qv (.ref Da) C
 let E':=notedBy (model X.prog X.w) X.A (compEnvC sc cl C X.env) λ e s'=>R (.error e) s'
 have ent:=λ (E:Value->Shared->Prop)=>Ap (E:=E) Ib I4 ub4 (by rw [<- hs4];exact hos) (x:=x) (sc:=sc) (cl:=cl) (C:=C) ⟨co.cell,co.kind,co.names,co.hx,co.loc,co.fr,co.nd⟩ cl1 (λ y hy=>cl2 y (.inr hy)) hCb (by rw [hh4];exact hns4) (by
  rw [aC (Ne.symm hDC)]
  exact Ib.hok.fresh hCb)
 let X':Cx:=jc X sc cl C sb Hb (X.pn++pins) x
 have lt:∀ {b o},sb.heap.get? b=some o->∀ c∈fp,b ≠ c:=λ {b o} e c hc z=>absurd (Nat.lt_of_lt_of_le (Heap.lt_size e) (z ▸ (hfp c hc).1)) (Nat.lt_irrefl _)
 have fok:∀ (E:Value->Shared->Prop) (pl:List (Addr × Obj)) (H':Hp),pl=[]->(∀ b∈fp,H' b=none)->∀ b∈fp,vj (X'.wish E) pl H' b:=λ E pl H' epl hn b hb=>by
  subst epl
  refine ⟨hn b hb,λ z=>?_,λ z=>?_,.inr (hfp b hb).1,λ y c e=>?_,λ p hp=>?_⟩
  ·exact hfpC b hb z
  ·obtain ⟨_,o,ho,_⟩:=Ib.stack.mem z
   exact lt ho b hb rfl
  ·obtain ⟨v,o,ho,_⟩:=Ib.cell y c (cl1 y c e)
   exact lt ho b hb
  ·have hp:p∈(X.pn++pins)++[]:=hp
   rw [List.append_nil] at hp
   exact lt (Ib.pin p hp).1 b hb
 have sgA:∀ (E:Value->Shared->Prop) p τ',(X'.wish E).sg p τ':=λ _ _ _=>trivial
 have hN':X'.N.Nodup:=by
  show (X.N++[x]).Nodup
  rw [List.nodup_append]
  refine ⟨co.nd,by simp,λ a ha b hb z=>?_⟩
  have:b=x:=by simpa using hb
  subst this
  subst z
  exact co.loc _ ha co.hx
 have hlt:τ.length=X.N.length:=I4.len
 have loop:codeAny (model X.prog X.w) X.A (.compLoop (.ListComp elt [⟨.Name x px,iter,ifs,0⟩] sc pos) 0 (.ref it) (.ref Da) (compEnvC sc cl C X.env)) R s4:=by
  refine codeAny_compLoop_tests (CZ ψ ⟨X.K,κ⟩ (X'.wish E') τ tn fp ds Gb Hb t f (qW δ) Da l) ?_ ds.length ?_ (by intro _;rfl)
  case refine_2 =>
   refine ⟨0,none,_,Gb,[],[],l,ent E',T.keep 0 _ _ st2 (λ b _ o e=>?_),λ b hb=>?_,rfl,Nat.zero_le _,tT e1.GH hf2,aM,e1.GH.free hf2,bn,Nat.le_refl _,by simpa using ez,rfl,λ _=>Fr.nil⟩
   ·rw [hh4];exact k34 b o (by rw [<- hH3];exact Heap.get?_push_of_some _ e)
   ·rw [aC (hfpD b hb)]
    exact Ib.hok.fresh (hfp b hb).1
  rintro n s3 ⟨i,ov,H3',G3,acc,vs,bf,Iv,st3,fr3,rfl,hi3,ext3,hD3,gD3,dacc,hacc,hz,hl,hfr⟩
  have same3:bV Gb H3':=ext3.sG.trans ext3.GH
  by_cases hlt3:i < ds.length
  ·obtain ⟨go,yl⟩:=(hJ H3' same3 i).1 (by (first | lia | omega))
   refine b7 (T.item (X'.wish E') rfl rfl rfl hc i [] s3 _ H3' E' Iv (fok E' [] H3' rfl fr3) st3 go) λ r s4' ⟨u,hr,h4'⟩=>?_
   subst hr
   intro Γ pp hΓ
   obtain ⟨xv,H5,I5,r5,y5,st5,fr5⟩:=h4' Γ pp hΓ
   refine (?_:wpAny (model X.prog X.w) X.A (assign (.Name x px) (compEnvC sc cl C X.env) u) _ E' s4') Γ pp hΓ
   obtain ⟨e5,vx⟩:=yl xv H5 y5
   subst e5
   have I5':=Inv.pinned (sgA E') I5 (fok E' [] _ rfl fr5) (T.obj _ _ st5)
   obtain ⟨dx,hdx⟩:∃ d,ds[i]?=some d:=⟨ds[i],by simp [hlt3]⟩
   have dd:aW ⟨X.K,κ⟩ G3 xv dx:=by
    obtain ⟨v',z1,z2⟩:=dus.get hdx
    rw [vx] at z1;cases z1
    exact z2.mono ext3.sG
   have hdrop:ds.drop i=dx :: ds.drop (i + 1):=by
    rw [List.drop_eq_getElem_cons hlt3]
    simp [hlt3] at hdx
    rw [hdx]
   rw [hdrop] at hz
   unfold fv at hz
   have hxl:(X'.wish E').env.scope.names.lookup x=some .local:=vL (cl:=cl) (C:=C) (s₁:=sb) (H₁:=Hb) (pn:=X.pn++pins) (x:=x) co.hx (by decide)
   refine b7 (pj (X:=X'.wish E') (i:=X.N.length) (pos:=px) hN' (F0 (sc:=sc) (cl:=cl) (C:=C) (s₁:=sb) (H₁:=Hb) (pn:=X.pn++pins) rfl) (.inl hxl) (.inr hxl) (λ _ _ _ _=>trivial) _ s4' _ _ xv u (λ σ' H'=>σ'=τ++[some xv]/\H'=H5) I5' r5 ⟨?_,rfl⟩) λ _ s6 ⟨σ6,H6,I6,e6,e6'⟩=>?_
   ·rw [<- hlt,List.set_append_right _ _ (Nat.le_refl _)];simp
   subst e6 e6'
   have rp6:=Dx rpb ext3 dd
   have back:∀ {s7:Shared} {H7:Hp} {ov':Option V},Inv (X'.wish E') ([]++nZ fp s4'.heap) (τ++[ov']) H7 s7->Inv (X'.wish E') [] (τ++[ov']) H7 s7/\tn (i + 1) s7.heap/\∀ b∈fp,H7 b=none:=λ {s7 H7 ov'} I7 =>
    ⟨Inv.unpinned (sgA E') I7,T.keep _ _ _ st5 λ b hb o e=>(I7.pin (b,o) (List.mem_append_right _ (List.mem_append_right _ (dR hb e)))).1,λ b hb=>by
     obtain ⟨o,e,_⟩:=T.obj _ _ st5 b hb
     exact (I7.pin (b,o) (List.mem_append_right _ (List.mem_append_right _ (dR hb e)))).2.1⟩
   have keepD:∀ {Ga Ha G' H':Hp} {ws:List V},Ext Ga Ha G' H'->Ha Da=some (.lst ws)->Ga Da=none->H' Da=some (.lst ws)/\G' Da=none:=λ {Ga Ha G' H' ws} ee h1 h2=>by
    refine ⟨ee.sH _ _ h1,?_⟩
    cases z:G' Da with
    | none=>rfl
    | some o =>
     rcases ee.new Da (by rw [z];simp) with y | y
     ·exact absurd h2 y
     ·rw [h1] at y;cases y
   cases et:t (qW δ++[some (.sh dx)]) with
   | exc c=>rw [et] at hz;cases hz
   | stuck=>rw [et] at hz;cases hz
   | ok k =>
   rw [et] at hz
   simp only [L3.R.bind_ok] at hz
   refine b7 (ht ⟨Gb,λ _=>False⟩ cl C sb Hb (X.pn++pins) _ _ E' s6 _ (λ b H'=>b=k/\∃ G',Ext G3 H6 G' H') (jJ I6) ⟨G3,_,rp6,?_⟩) λ ok s7 ⟨H7,I7,eok,G7,e7⟩=>?_
   ·rw [et];exact λ b H' G' ee eb=>⟨eb,G',ee⟩
   subst eok
   have I7:=dC (sgA (λ _ _=>False)) I7
   obtain ⟨hD7,gD7⟩:=keepD e7 hD3 gD3
   cases ok with
   | false =>
    simp only [Bool.false_eq_true,if_false] at hz ⊢
    obtain ⟨j1,j2,j3⟩:=back I7
    exact ⟨ds.length - (i + 1),by (first | lia | omega),i + 1,some xv,H7,G7,acc,vs,bf,j1,j2,j3,rfl,hlt3,ext3.trans e7,hD7,gD7,dacc.mono e7.sG,by (first | lia | omega),hz,hl,λ z=>(hfr z).same e7.sH⟩
   | true =>
    simp only [if_true] at hz ⊢
    cases ef:f (qW δ++[some (.sh dx)]) with
    | exc c=>rw [ef] at hz;cases hz
    | stuck=>rw [ef] at hz;cases hz
    | ok dy =>
    rw [ef] at hz
    simp only [L3.R.bind_ok] at hz
    refine b7 (he ⟨Gb,λ _=>False⟩ cl C sb Hb (X.pn++pins) _ _ E' _ s7 _ H7 (λ y H'=>∃ G',Ext G7 H7 G' H'/\aW ⟨X.K,κ⟩ G' y dy/\(ψ=true->∃ q us,y=V.ref q/\H' q=some (.lst us)/\H7 q=none)) (jJ I7) ⟨G7,_,rp6.ext e7,?_⟩) λ yu s8 ⟨yv,H8,I8,ry,G8,e8,dy8,fr8⟩=>?_
    ·rw [ef];exact λ y H' G' ee d=>⟨G',ee,d.1,d.2⟩
    have I8:=dC (sgA (λ _ _=>False)) I8
    obtain ⟨hD8,gD8⟩:=keepD e8 hD7 gD7
    have lacc:=dacc.length
    refine b7 (jX (X:=X'.wish E') _ s8 _ H8 (.ref Da) [yv] (.ref Da) [yu] (λ _ H'=>H'=upd H8 Da (.lst (vs++[yv]))) I8 rfl (.cons ry .nil) ⟨Da,vs,yv,rfl,rfl,hD8,by rw [sizeLine_eq];(first | lia | omega),rfl⟩) λ _ s9 ⟨_,H9,I9,_,e9⟩=>?_
    subst e9
    obtain ⟨j1,j2,j3⟩:=back I9
    cases ez2:fv t f (qW δ) (ds.drop (i + 1)) with
    | exc c=>rw [ez2] at hz;cases hz
    | stuck=>rw [ez2] at hz;cases hz
    | ok rest' =>
    rw [ez2] at hz
    simp only [L3.R.bind_ok] at hz
    injection hz with hz
    have ex8:=(ext3.trans e7).trans e8
    refine ⟨ds.length - (i + 1),by (first | lia | omega),i + 1,some xv,_,G8,acc++[dy],vs++[yv],rest',j1,j2,j3,rfl,hlt3,⟨ex8.sG,λ b o z=>?_,λ b o z=>?_,ex8.new⟩,aM,gD8,((dacc.mono e7.sG).mono e8.sG).append (bt dy8 bn),by simp;(first | lia | omega),ez2,by rw [<- hl,<- hz];simp,λ z=>Fr.upd (((hfr z).same (e7.sH.trans e8.sH)).snoc ?_)⟩
    ·rw [aC (by rintro rfl;rw [hf2] at z;cases z)];exact ex8.sH b o z
    ·rw [aC (by rintro rfl;rw [gD8] at z;cases z)];exact ex8.GH b o z
    ·obtain ⟨q,us,w1,w2,w3⟩:=fr8 z
     exact ⟨q,us,w1,w2,(ext3.sH.trans e7.sH).free w3⟩
  ·have hie:i=ds.length:=by (first | lia | omega)
   refine b7 (T.done (X'.wish E') rfl rfl rfl hc i [] s3 _ H3' E' Iv (fok E' [] H3' rfl fr3) st3 ((hJ H3' same3 i).2 (by (first | lia | omega)))) λ r s4' ⟨hr,I4'⟩=>?_
   subst hr
   rw [hie,List.drop_length] at hz
   unfold fv at hz
   injection hz with hz
   subst hz
   rw [List.append_nil] at hl
   subst hl
   exact q2 Da C s4' ⟨sb,Hb,cl,E',ov,H3',G3,vs,Ib,hCb,I4',e1.trans ext3,hD3,gD3,e1.sH.free hf2,dacc,λ z=>(hfr z).base λ b hb w=>hb (e1.sH.free w)⟩
 have stn:tn 0 s4.heap:=T.keep 0 _ _ st2 (λ b _ o e=>by rw [hh4];exact k34 b o (by rw [<- hH3];exact Heap.get?_push_of_some _ e))
 exact codeAny_compStart_list loop (T.self X.A 0 s4 _ _ stn loop)
theorem Df (hc:X.calm=true) (co:CompOk X sc x) (hi:Ai κ B X (.Name x px) iter fit)
  (ht:∀ B' cl C s₁ H₁ pn,Jc κ B' (jc X sc cl C s₁ H₁ pn x) ifs t) (he:∀ B' cl C s₁ H₁ pn,PX κ B' (jc X sc cl C s₁ H₁ pn x) elt f)
  (hs:∀ x,foldedSetIterable iter X.env x=pure x):FY κ B X (.ListComp elt [⟨.Name x px,iter,ifs,0⟩] sc pos) (ec fit t f):=λ pins σ Ex pins' s τ H Q I hz=>gd hz λ G δ rp q=>by
 obtain ⟨rfl,rfl⟩:=I.sgm
 show wpAny (model X.prog X.w) X.A (eval (.ListComp elt [⟨.Name x px,iter,ifs,0⟩] sc pos) X.env) _ Ex s
 rw [eval_ListComp]
 refine Ar (ψ:=false) (use:=none) hc co hi ht (λ B' cl C s₁ H₁ pn=>(he B' cl C s₁ H₁ pn).n) hs I rp ?_
 cases e:ec fit t f δ with
 | ok l =>
  rw [e] at q
  rintro Da C s1 ⟨sb,Hb,cl,E',ov,H3,G3,vs,Ib,hCb,J,ex,h1,h2,h3,h4,_⟩
  obtain ⟨mm,hnn,_⟩:=J.loc
  exact ⟨mm,hnn,λ h' sbt=>⟨.ref Da,H3,Aq (X:=At X pins' τ Ex) (sc:=sc) (cl:=cl) (x:=x) (E:=E') Ib J hCb sbt,rfl,q Da vs H3 G3 ex h1 h2 h3 h4⟩⟩
 | exc c=>rw [e] at q;exact q
 | stuck=>rw [e] at q;exact q
end
end L3
namespace L3
open PySem PySem.Spec PyProof.Rows L2
noncomputable abbrev GD (α:Type):=PySem.W.Frag->(Nat->Addr)->Hp->Hp->Hp->V->α->Prop
noncomputable def PR {α:Type} (κ:Nat->Addr) (B:Gd) (X:Cx) (e:Expr) (ρ:GD α) (f:Ev->R α):Prop:=∀ pins σ Ex,PE (At X pins σ Ex) e (λ τ H Q=>∃ G δ,Rep ⟨X.K,κ⟩ B X.H₀ G H τ δ/\match f δ with
 | .ok r=>∀ v H' G',Hold B X.H₀ G' H'->ρ X.K κ X.H₀ G' H' v r->Q v H'
 | _=>False)
section
variable {α:Type} {ρ:GD α} {κ:Nat->Addr} {B:Gd} {X:Cx} {e:Expr} {f:Ev->R α} {pos:Pos}
end
section
variable {κ:Nat->Addr} {B:Gd} {X:Cx} {a:Expr} {es:List Expr} {fs:Ev->R (List D)} {p pos:Pos} {x:Str} {m:List D->R (List D)} {n:Nat}
end
end L3
namespace L3
open PySem PySem.Spec PyProof.Rows L2
section
variable {κ:Nat->Addr} {B:Gd} {X:Cx} {a b:Expr} {fa fb:Ev->R D} {pos:Pos}
end
section
variable {X:Cx} {tg:Expr}
end
section
variable {κ:Nat->Addr} {B:Gd} {X:Cx} {tg:Expr}
end
structure CmpIs (X:Cx) (sc:Scope) (x:Str) (X':Cx):Prop where
 cxo:Cxo X'
 calm:X'.calm=X.calm
 A:X'.A=X.A
 mg:X'.mg=X.mg
 K:X'.K=X.K
 n:∀ {i:Nat} {y:Str},X.N[i]?=some y->X'.N[i]?=some y
 x:∀ {i:Nat},X.N.length=i->X'.N[i]?=some x
 look:∀ {y:Str} {k:NameKind},sc.names.lookup y=some k->k ≠ .free->X'.env.scope.names.lookup y=some k
 vis:∀ {y:Str},sc.names.lookup y=some .free->rL X'.env.scope y
 cal:∀ {κ:Nat->Addr} {y:Str} {n:Nat} {m:List D->R D},Cal κ X y n m->Cal κ X' y n m
theorem BK {X:Cx} {sc:Scope} {x:Str} {cl:List (Str × Addr)} {C:Addr} {s₁:Shared} {H₁:Hp} {pn:List (Addr × Obj)}:CmpIs X sc x (jc X sc cl C s₁ H₁ pn x) where
 cxo:=D7
 calm:=rfl
 A:=rfl
 mg:=rfl
 K:=rfl
 n:=Jv
 x:=F0
 look:=vL
 vis:=D8
 cal:=D6
section
variable {κ:Nat->Addr} {B:Gd} {X:Cx} {sc:Scope} {x:Str} {px pos:Pos} {iter elt:Expr} {ifs:List Expr} {fit:Ev->R (List D)} {t:Ev->R Bool} {f:Ev->R D}
theorem D9 (hc:X.calm=true) (co:CompOk X sc x) (hi:Ai κ B X (.Name x px) iter fit) (ht:∀ X' B',CmpIs X sc x X'->Jc κ B' X' ifs t) (he:∀ X' B',CmpIs X sc x X'->PX κ B' X' elt f)
  (hs:DR iter=true):FY κ B X (.ListComp elt [⟨.Name x px,iter,ifs,0⟩] sc pos) (ec fit t f):=
 Df hc co hi (λ _ _ _ _ _ _=>ht _ _ BK) (λ _ _ _ _ _ _=>he _ _ BK) (tU hs)
end
section
variable {κ:Nat->Addr} {B:Gd} {X:Cx} {sc:Scope} {x y:Str} {px py pos spos:Pos} {iter elt:Expr} {ifs:List Expr} {fit:Ev->R (List D)} {t:Ev->R Bool} {f:Ev->R D} {i:Nat}
end
section
variable {κ:Nat->Addr} {B:Gd} {X:Cx} {e k:Expr} {f fk:Ev->R D} {pos pos' apos:Pos} {x:Str} {i:Nat}
end
noncomputable def LZ:D->R D
 | .int i=>.ok (.int (-i))
 | _=>.stuck
section
variable {κ:Nat->Addr} {B:Gd} {X:Cx} {a b:Expr} {fa fb:Ev->R D} {p pos:Pos}
end
end L3
namespace L3
open PySem PySem.Spec PyProof.Rows L2
noncomputable def KS (K:PySem.W.Frag) (a:Addr):It:=
 ⟨λ i H=>∃ xs x,cR K H a xs/\xs[i]?=some x,λ i H x H'=>∃ v p,(∀ xs,cR K H a xs->xs[i]?=some v)/\H p=none/\x=.ref p/\H'=upd H p (.tup [.int (i:Nat),v]),λ i H=>∃ xs,cR K H a xs/\xs.length <= i⟩
theorem sS {P:Program} {w:World} {K:PySem.W.Frag} {tgs:List Expr} {kk:Nat} {tpos:Pos} (l e it:Addr) (hne:e ≠ it):Turn P w K (.Tuple tgs kk tpos) (KS K l) [e,it] e (λ i h=>(∃ old,IsEnum h e it (i:Nat) old)/\h.IsListIter it l i) where
 mem:=by simp
 obj:=λ i h st b hb=>by
  obtain ⟨⟨old,h1⟩,o,h2,_,h3⟩:=st
  rcases List.mem_cons.mp hb with rfl | hb
  ·exact ⟨_,h1,λ v z=>by
    have z':Data.fields _=Data.cell v:=z
    cases z'⟩
  ·have e':b=it:=by simpa using hb
   subst e'
   exact ⟨o,h2,λ v z=>by rw [h3] at z;cases z⟩
 keep:=λ i h h' st k=>by
  obtain ⟨⟨old,h1⟩,h2⟩:=st
  exact ⟨⟨old,k e (by simp) _ h1⟩,h2.at λ o x=>k it (by simp) o x⟩
 item:=by
  intro X hP hw hK hc i pins s σ H E I hf st hg
  subst hP hw hK
  obtain ⟨⟨old,h1⟩,h2⟩:=st
  obtain ⟨xs,x,hq,hx⟩:=hg
  obtain ⟨its,rv,p,hz⟩:=I.list hq
  obtain ⟨u,hu,ru⟩:=rv.get hx
  obtain ⟨f0,f1,f2,f3,f4,f5⟩:=hf e (by simp)
  obtain ⟨g0,g1,g2,g3,g4,g5⟩:=hf it (by simp)
  have hes:e < s.heap.objs.size:=Heap.lt_size h1
  refine wpAny_pyNext_enum_item h1 h2 p.isList (x:=u) (by simpa using hu) hne λ h' ho hi ht hs hk=>⟨_,rfl,?_⟩
  refine wpAny_letOwnedTupleGo_enum ho λ h'' he hsb=>?_
  have hn:H s.heap.objs.size=none:=I.hok.fresh (Nat.le_refl _)
  have tup:h''.get? s.heap.objs.size=some { cls:=.type "tuple",data:=.seq #[.int i s.toks,u] }:=hsb.extBut _ _ (Nat.ne_of_gt hes) ht
  have kp:∀ b o,b ≠ e->b ≠ it->s.heap.get? b=some o->h''.get? b=some o:=λ b o hb1 hb2 q=>hsb.extBut b o hb1 (hk b o hb1 hb2 q)
  have nin:∀ {b:Addr},b ∉ [e,it]->b ≠ e/\b ≠ it:=λ {b} h=>by simpa using h
  have ne_tr:∀ b o,H b=some o->b ≠ e/\b ≠ it:=λ b o q=>⟨(by rintro rfl;rw [f0] at q;cases q),(by rintro rfl;rw [g0] at q;cases q)⟩
  have nep:∀ b o,s.heap.get? b=some o->b ≠ s.heap.objs.size:=λ b o q=>Nat.ne_of_lt (Heap.lt_size q)
  have J:=I.step (H':=upd H s.heap.objs.size (.tup [.int (i:Nat),x])) (h':=h'') (g':=s.gens) (d':=s.drawn) (t':=s.toks + 1) (ch:=[e,it]) (λ b hb=>by
    rcases List.mem_cons.mp hb with rfl | hb
    ·exact ⟨f3.imp id Heap.get?_none_of_le,f1,f4,f5⟩
    ·have e':b=it:=by simpa using hb
     subst e'
     exact ⟨g3.imp id Heap.get?_none_of_le,g1,g4,g5⟩)
   (λ b o _ _ hch q _=>kp b o (nin hch).1 (nin hch).2 q) (λ b o _ _ hch q _=>⟨o.slots,kp b o (nin hch).1 (nin hch).2 q⟩) (λ b o _ q n=>by rw [aC (nep b o q)];exact n)
   (λ b o hch q=>⟨o,kp b o (nin hch).1 (nin hch).2 q⟩) (λ b xs q=>by rw [aC (aQ q hn)];exact q) (λ b o u q=>by rw [aC (aQ q hn)];exact q) (λ b ps q=>⟨#[],by rw [aC (aQ q hn),q];simp⟩)
   (λ m hm=>by
    obtain ⟨o,es,ep,ho',r⟩:=hm
    exact ⟨o,es,ep,kp _ o (Ne.symm f1) (Ne.symm g1) ho',r⟩)
   (λ b o q=>by
    by_cases hb:b=s.heap.objs.size
    ·subst hb
     rw [aM] at q
     cases q
     exact ⟨by simp [sizeLine_eq],[.int i s.toks,u],.cons ⟨_,rfl⟩ (.cons ru .nil),_,tup,rfl,_,rfl⟩
    ·rw [aC hb] at q
     refine (I.hok b o q).stay (λ c v hc q'=>?_) (λ c q'=>by rw [aC (aQ q' hn)];exact q') λ c xs q'=>by rw [aC (aQ q' hn)];exact q'
     have hcc:c ≠ e/\c ≠ it:=by
      rcases hc with z | z
      ·rw [z];exact ne_tr b o q
      ·exact ne_tr c _ z
     exact kp c v hcc.1 hcc.2 q') I.bare
  refine ⟨.ref s.heap.objs.size,_,J,rfl,⟨x,_,λ ys hy=>by rw [I.list_inj hy hq];exact hx,hn,rfl,rfl⟩,⟨⟨u,?_⟩,(hi.extBut hsb.extBut (Ne.symm hne))⟩,λ b hb=>?_⟩
  ·have he':IsEnum h'' e it ((i:Int) + 1) u:=he
   rw [show (((i + 1:Nat)):Int)=(i:Int) + 1 by push_cast;rfl]
   exact he'
  ·have hlt:b < s.heap.objs.size:=by
    rcases List.mem_cons.mp hb with rfl | hb
    ·exact hes
    ·have e':b=it:=by simpa using hb
     subst e'
     obtain ⟨o,ho',_⟩:=h2
     exact Heap.lt_size ho'
   rw [aC (Nat.ne_of_lt hlt)]
   exact (hf b hb).1
 done:=by
  intro X hP hw hK hc i pins s σ H E I hf st hg
  subst hP hw hK
  obtain ⟨⟨old,h1⟩,h2⟩:=st
  obtain ⟨xs,hq,hx⟩:=hg
  obtain ⟨its,rv,p,hz⟩:=I.list hq
  obtain ⟨g0,g1,g2,g3,g4,g5⟩:=hf it (by simp)
  have hl:=rv.length
  exact wpAny_pyNext_enum_end (I.ok.hd hc) h1 h2 p.isList (by simp;(first | lia | omega)) λ h' eb=>⟨rfl,I.turned (t':=s.toks) (λ b o hb e=>eb b o hb e) g0 g1 g3 g4 g5⟩
 self:=λ _ _ _ _ _ st h=>by
  obtain ⟨⟨old,h1⟩,_⟩:=st
  exact wpAny_pyIter_enum h1 h
noncomputable def bG:Nat->List D->List D
 | _,[]=>[]
 | n,d :: ds=>.tup [.int (n:Int),d] :: bG (n + 1) ds
noncomputable def BV:D->R (List D)
 | .lst ds=>.ok (bG 0 ds)
 | _=>.stuck
theorem m3:∀ (ds:List D) (n:Nat),(bG n ds).length=ds.length
 | [],_=>rfl
 | d :: ds,n=>by simp [bG,m3 ds (n + 1)]
theorem mZ:∀ (ds:List D) (n i:Nat) (d:D),(bG n ds)[i]?=some d->∃ x,ds[i]?=some x/\d=.tup [.int ((n + i:Nat):Int),x]
 | [],_,_,_,h=>by simp [bG] at h
 | x :: ds,n,0,d,h=>by simp [bG] at h;exact ⟨x,rfl,h.symm⟩
 | x :: ds,n,i + 1,d,h=>by
  simp only [bG,List.getElem?_cons_succ] at h
  obtain ⟨y,h1,h2⟩:=mZ ds (n + 1) i d h
  exact ⟨y,by simpa using h1,by rw [h2];congr 3;(first | lia | omega)⟩
theorem xX {X:Cx} {κ:Nat->Addr} {G:Hp} {a:Addr} {vs:List V} {ds:List D} (h:cR X.K G a vs) (d:Dens ⟨X.K,κ⟩ G vs ds):yX X κ (KS X.K a) G (bG 0 ds):=by
 intro H' G' s1 s2 i
 have sq:cR X.K H' a vs:=(s1.trans s2).seq h
 refine ⟨λ e he=>?_,λ hi=>⟨vs,sq,by rw [d.length,<- m3 ds 0];exact hi⟩⟩
 obtain ⟨y,hy,rfl⟩:=mZ ds 0 i e he
 obtain ⟨v,hv,dv⟩:=d.get hy
 refine ⟨⟨vs,v,sq,hv⟩,?_⟩
 rintro x H'' ⟨v',p,q1,q3,rfl,rfl⟩
 have q2:=q1 vs sq
 rw [hv] at q2
 cases q2
 have ee:=eV (o:=.tup [.int (i:Nat),v]) s2 q3
 refine ⟨_,ee,?_⟩
 unfold aW
 refine ⟨p,_,rfl,nJ.of aM,bt (by unfold aW;simp) (bt ((dv.mono s1).mono ee.sG) bn)⟩
section
variable {κ:Nat->Addr} {B:Gd} {X:Cx} {e:Expr} {f:Ev->R D} {tgs:List Expr} {kk:Nat} {p pos tpos:Pos}
theorem C2 (hg:Gl X "enumerate") (hm:X.mg "enumerate" = none) (h:PX κ B X e f) (hs:aU e=true):KW κ B X (.Tuple tgs kk tpos) (.Call (.Name "enumerate" p) [e] [] pos) (λ δ=>(f δ).bind BV):=λ pins σ Ex pins' s τ H R I hz=>gd hz λ G δ rp q=>by
 dsimp only at q
 refine Call_ (jK I hg hm boot_enumerate (PyProof.Rows.callWith_type1 (b7 (eW (X:=At X pins σ Ex) (h pins σ Ex) gB (be hs) pos pins' s τ H (λ vs H1=>∃ a xs ds G1,vs=[.ref a]/\cR X.K G1 a xs/\Dens ⟨X.K,κ⟩ G1 xs ds/\Ext G H G1 H1/\R (KS X.K a) H1) I ⟨G,δ,rp,?_⟩) λ us s1 ⟨vs,H1,I1,r1,q1⟩=>?_) (be hs) rfl))
 ·cases e':f δ with
  | ok d =>
   rw [e'] at q
   cases d with
   | lst ds =>
    intro v H1 G1 e1 d1
    unfold ig aW at d1
    obtain ⟨a,xs,rfl,h1,h2⟩:=d1
    exact ⟨a,xs,ds,G1,rfl,h1,h2,e1,q _ H1 G1 e1 (xX h1 h2)⟩
   | _=>exact False.elim q
  | exc c=>rw [e'] at q;exact q
  | stuck=>rw [e'] at q;exact False.elim q
 ·obtain ⟨a,xs,ds,G1,rfl,h1,h2,e1,q1⟩:=q1
  cases r1 with
  | cons r rr =>
   cases rr
   cases r
   obtain ⟨its,rv,pl,hz⟩:=I1.list (e1.GH.seq h1)
   refine call_enumerate_list pl.isList λ h' he hi hsz hk=>?_
   refine wpAny_pyIter_enum he ?_
   have I2:Inv (At X pins σ Ex) pins' τ H1 { s1 with heap:=h' }:=I1.kept (t':=s1.toks) hk
   refine ⟨s1.heap.objs.size + 1,[s1.heap.objs.size + 1,s1.heap.objs.size],_,_,H1,rfl,I2,sS a _ _ (Nat.succ_ne_self _),⟨⟨_,he⟩,hi⟩,λ b hb=>?_,q1⟩
   rcases List.mem_cons.mp hb with rfl | hb
   ·exact I1.fpOk (Nat.le_succ _) (I1.hok.fresh (Nat.le_succ _))
   ·have e':b=s1.heap.objs.size:=by simpa using hb
    subst e'
    exact I1.fpOk (Nat.le_refl _) (I1.hok.fresh (Nat.le_refl _))
theorem IX (cx:Cxo X) (hc:X.calm=true) {tg iter:Expr} {body:List Stmt} {fit:Ev->R (List D)} {bd:D->Ev->Option Ev} {F:Ev->SR} (hi:KW κ B X tg iter fit) (hg:∀ B,Br κ B X tg bd) (hb:∀ B,uY κ B X body F) (h:DR iter=true):PZ κ B X (.For tg iter body [] pos) (df fit bd F):=zW cx hc hi hg hb (tU h)
end
end L3
namespace L3
open PySem PySem.Spec PyProof.Rows L2
noncomputable def Jk (x:Str):It:=⟨λ i _=>i < x.cps.size,λ i H v H'=>H'=H/\∃ c,x.cps[i]?=some c/\v=.str ⟨#[c]⟩,λ i _=>x.cps.size <= i⟩
theorem DE {P:Program} {w:World} {K:PySem.W.Frag} {tg:Expr} (ty:String) (hty:ty = "str_ascii_iterator" \/ ty = "str_iterator") (it:Addr) (x:Str) (t:Tok):Turn P w K tg (Jk x) [it] it (λ i h=>h.IsStrIter it ty x t i) where
 mem:=by simp
 obj:=λ i h st b hb=>by
  have e:b=it:=by simpa using hb
  subst e
  obtain ⟨o,e,c,d⟩:=st
  exact ⟨o,e,λ v z=>by rw [d] at z;cases z⟩
 keep:=λ i h h' st k=>let ⟨o,ho,r⟩:=st;⟨o,k it (by simp) o ho,r⟩
 item:=by
  intro X hP hw hK hc i pins s σ H E I hf st hg
  subst hP hw hK
  obtain ⟨f0,f1,f2,f3,f4,f5⟩:=hf it (by simp)
  have W:∀ {Q:Option Value->Shared->Prop},(∀ v h' tk,SignAt x i v->h'.IsStrIter it ty x t (i + 1)->(∀ b o,b ∉ [it]->s.heap.get? b=some o->h'.get? b=some o)->Q (some v) { s with heap:=h',toks:=tk })->wpAny (model X.prog X.w) X.A (pyNext (.ref it)) Q E s:=λ {Q} hQ=>by
   rcases hty with rfl | rfl
   ·exact (Walks.strAscii (prog:=X.prog) (w:=X.w) (I.ok.hd hc) it x t).item i s Q E hg st hQ
   ·exact (Walks.strWide (prog:=X.prog) (w:=X.w) (I.ok.hd hc) it x t).item i s Q E hg st hQ
  refine W λ v h' tk hv st' kk=>?_
  obtain ⟨c,u,hcx,rfl⟩:=hv
  have I1:Inv X pins σ H { s with heap:=h',toks:=tk }:=I.turned (λ b o hb e=>kk b o (by simpa using hb) e) f0 f1 f3 f4 f5
  obtain ⟨o,e,hcl,d⟩:=id st'
  refine ⟨_,rfl,zt (s:={ s with heap:=h',toks:=tk }) (n:=ty) e hcl d (by rcases hty with rfl | rfl <;> decide) ⟨.str ⟨#[c]⟩,H,I1,⟨u,rfl⟩,⟨rfl,c,hcx,rfl⟩,st',λ b hb=>(hf b hb).1⟩⟩
 done:=by
  intro X hP hw hK hc i pins s σ H E I hf st hg
  subst hP hw hK
  obtain ⟨f0,f1,f2,f3,f4,f5⟩:=hf it (by simp)
  have hi:x.cps.size <= i:=hg
  rcases hty with rfl | rfl
  ·exact wpAny_pyNext_ascii_end (I.ok.hd hc) st (by simp;(first | lia | omega)) λ h' eb=>⟨rfl,I.turned (t':=s.toks) (λ b o hb e=>eb b o hb e) f0 f1 f3 f4 f5⟩
  ·exact wpAny_pyNext_wide_end (I.ok.hd hc) st (by simp;(first | lia | omega)) λ h' eb=>⟨rfl,I.turned (t':=s.toks) (λ b o hb e=>eb b o hb e) f0 f1 f3 f4 f5⟩
 self:=λ _ _ _ _ _ st h=>by
  rcases hty with rfl | rfl
  ·exact wpAny_pyIter_striter_ascii st h
  ·exact wpAny_pyIter_striter_wide st h
noncomputable def LR (tl:TE):TI:=λ σ H R=>tl σ H λ v H1=>∃ x,v=.str x/\R (Jk x) H1
theorem HN {X:Cx} {tg l:Expr} {tl:TE} (hl:PE X l tl):PI X tg l (LR tl):=by
 intro pins s σ H R I h
 refine b7 (hl pins s σ H _ I h) λ v s1 ⟨y,H1,I1,r1,q1⟩=>?_
 obtain ⟨x,e,q⟩:=q1
 subst e
 obtain ⟨t,rfl⟩:=r1
 have fin:∀ (ty:String) (o:Obj),(ty = "str_ascii_iterator" \/ ty = "str_iterator")->(s1.heap.push o).IsStrIter s1.heap.objs.size ty x t 0->PIE X pins σ tg R (.ref s1.heap.objs.size) { s1 with heap:=s1.heap.push o }:=λ ty o hty st=>by
  refine ⟨s1.heap.objs.size,[s1.heap.objs.size],_,_,H1,rfl,I1.kept (t':=s1.toks) λ b o e=>Heap.get?_push_of_some _ e,DE ty hty _ x t,st,λ b hb=>?_,q⟩
  have e:b=s1.heap.objs.size:=by simpa using hb
  subst e
  exact I1.fpOk (Nat.le_refl _) (I1.hok.fresh (Nat.le_refl _))
 cases ha:x.cps.all (· < 128)
 ·exact wpAny_pyIter_wide ha (fin "str_iterator" _ (.inr rfl) ⟨_,Heap.get?_push_size _ rfl,rfl,rfl⟩)
 ·exact wpAny_pyIter_ascii ha (fin "str_ascii_iterator" _ (.inl rfl) ⟨_,Heap.get?_push_size _ rfl,rfl,rfl⟩)
noncomputable def t0:D->R (List D)
 | .str l=>.ok (l.map λ c=>.str [c])
 | _=>.stuck
section
variable {κ:Nat->Addr} {B:Gd} {X:Cx} {a e tg:Expr} {f fa:Ev->R D} {p pos:Pos}
theorem Cb {G:Hp} {l:List Nat}:vk X κ (Jk ⟨l.toArray⟩) G (l.map λ c=>.str [c]):=by
 refine ⟨l.map λ c=>gE [c],?_,λ H' s i=>⟨λ hi=>⟨?_,λ x H'' y=>?_⟩,λ hi=>?_⟩⟩
 ·induction l with
  | nil=>exact bn
  | cons c l ih=>exact bt Lv ih
 ·simpa [Jk] using hi
 ·obtain ⟨y1,c,y2,y3⟩:=y
  refine ⟨y1,?_⟩
  have y2':l[i]?=some c:=by simpa using y2
  rw [y3,List.getElem?_map,y2']
  rfl
 ·simpa [Jk] using hi
theorem EY (h:PX κ B X e f):DY κ B X tg e (λ δ=>(f δ).bind t0):=λ pins σ Ex =>
 qz (HN (X:=At X pins σ Ex) (h pins σ Ex)) λ τ H R hz=>gd hz λ G δ rp q=>⟨G,δ,rp,q.seq λ x v H1 G1 e1 d1 q1=>by
  cases x with
  | str l =>
   unfold ig aW at d1
   exact ⟨_,d1,q1 _ H1 G1 (Ext.refl e1.GH) Cb⟩
  | _=>exact False.elim q1⟩
noncomputable def o5 (i:Int):List Nat:=(Str.ofString (toString i)).cps.toList
theorem Aa (i:Int):(⟨(o5 i).toArray⟩:Str)=Str.ofString (toString i):=by unfold o5;simp
noncomputable def fD:D->R D
 | .int i=>if i.natAbs < 10000000000 then .ok (.str (o5 i)) else .stuck
 | _=>.stuck
theorem sk {n:Nat} (h:n < 10000000000):n.log2 < 1920:=by
 by_cases h0:n=0
 ·subst h0;decide
 ·refine Nat.lt_of_lt_of_le ((Nat.log2_lt h0).mpr (Nat.lt_of_lt_of_le h (by decide:10000000000 <= 2 ^ 40))) (by decide)
theorem KM (hg:Gl X "str") (hm:X.mg "str" = none) (ha:cT κ B X a fa) (h:aU a=true):PX κ B X (.Call (.Name "str" p) [a] [] pos) (m1 fD fa):=λ pins σ Ex =>
 bT (sL (X:=At X pins σ Ex) tI hg hm (tF .str) (eW (X:=At X pins σ Ex) (ha pins σ Ex) gB (be h)) (by decide) (by decide) (be h) rfl) λ τ H Q hz=>gd hz λ G δ rp q=>⟨G,δ,rp,q.seq λ x v H1 G1 e1 d1 q1=>by
  cases x with
  | int i =>
   simp only [fD] at q1
   split at q1
   ·rename_i hi
    refine ⟨i,by rw [ny d1],sk hi,?_⟩
    exact q1 _ H1 G1 (Ext.refl e1.GH) (by unfold ig aW gE;rw [Aa])
   ·exact False.elim q1
  | _=>exact False.elim q1⟩
noncomputable def lK (x:D) (ys:List D):R D:=match x,ys with
 | .str l,[.int i]=>if 0 <= i/\i <= 1000 then .ok (.str (Txt.zfill ⟨l.toArray⟩ i).cps.toList) else .stuck
 | _,_=>.stuck
theorem AX {i:Int} (h:0 <= i/\i <= 1000):PadOk i=true:=by
 have h1:fitsSsize i=true:=by
  unfold fitsSsize
  rw [decide_eq_false (by (first | lia | omega)),decide_eq_false (by (first | lia | omega))]
  rfl
 have h2:Builtin.Str.tooLong i.toNat=false:=by
  unfold Builtin.Str.tooLong
  have:(1000000:Nat) <= sizeLine:=by decide
  exact decide_eq_false (by (first | lia | omega))
 unfold PadOk
 rw [h1,h2]
 rfl
noncomputable def IJ:V->List V->Hp->VK->Prop:=λ x vs H Q=>∃ (l:List Nat) (i:Int),x=gE l/\vs=[.int i]/\0 <= i/\i <= 1000/\Q (.str (Txt.zfill ⟨l.toArray⟩ i)) H
theorem Cs:KU X "str.zfill" IJ:=by
 intro pins s σ H x vs v us Q I rx rv ⟨l,i,e1,e2,h1,h2,q⟩
 subst e1
 subst e2
 obtain ⟨t,rfl⟩:=rx
 obtain ⟨u,rfl,ru⟩:=rv.one
 obtain ⟨t',rfl⟩:=ru
 exact SC.zfill (AX ⟨h1,h2⟩) λ t' k=>⟨.str _,H,I.tok _,⟨_,rfl⟩,q⟩
theorem FQ {o e:Expr} {fo:Ev->R D} {fs:Ev->R (List D)} {apos:Pos} (ho:cT κ B X o fo) (ha:qU κ B X [e] fs) (hs:aU e=true) (hline:(apos.endLine == pos.line)=true) (hbase:attributeBase o "zfill" X.env (eval o X.env)=eval o X.env) :
  PX κ B X (.Call (.Attribute o "zfill" apos) [e] [] pos) (Ck lK fo fs):=λ pins σ Ex =>
 bT (sK (X:=At X pins σ Ex) F.plainAttrs_str F.slot_str_zfill F.type_str_zfill Cs (ho pins σ Ex) (ha pins σ Ex) hbase (mV hs) hline (be hs) rfl) λ τ H Q hz=>gd hz λ G δ rp q=>⟨G,δ,rp,q.seq λ x v H1 G1 e1 d1 q1=>by
  cases x with
  | str l =>
   obtain rfl:=wV d1
   refine ⟨rfl,G1,δ,rp.ext e1,q1.seq λ ys us H2 G2 e2 d2 q2=>?_⟩
   match ys,us,d2,q2 with
   | [.int i],us,d2,q2 =>
    have hu:=jU d2
    simp only [lK] at q2
    split at q2
    ·rename_i hi
     exact ⟨l,i,rfl,hu,hi.1,hi.2,q2 _ H2 G2 (Ext.refl e2.GH) (by unfold ig aW gE;simp)⟩
    ·exact False.elim q2
   | [],_,_,q2=>exact False.elim q2
   | [.non],_,_,q2=>exact False.elim q2
   | [.bl _],_,_,q2=>exact False.elim q2
   | [.str _],_,_,q2=>exact False.elim q2
   | [.tup _],_,_,q2=>exact False.elim q2
   | [.lst _],_,_,q2=>exact False.elim q2
   | [.ob _ _ _],_,_,q2=>exact False.elim q2
   | z :: _ :: _,_,_,q2=>cases z <;> exact False.elim q2
  | _=>exact False.elim q1⟩
noncomputable def Hu (l:List Nat):D->R D:=λ x=>(fD x).bind λ y=>match y with
 | .str r=>.ok (.str (l++r))
 | _=>.stuck
theorem DC {i:Int} (h:i.natAbs < 10000000000):(Str.ofString (toString i)).length <= 1000:=by
 have e:=int_text_length_le10 (k:=10) (by decide) h
 rw [PySem.ofString_length]
 (first | lia | omega)
theorem IY {x:Str} {l:List Nat} {kk:Nat} {cp fp:Pos} (hx:x=⟨l.toArray⟩) (hl:l.length <= 1000) (ha:cT κ B X a fa):PX κ B X (.JoinedStr [.Constant (.str x) kk cp,.FormattedValue a (-1) none fp] pos) (m1 (Hu l) fa):=λ pins σ Ex=>by
 intro pins' s τ H Q I ⟨G,δ,rp,q⟩
 subst hx
 refine wpAny_JoinedStr ?_
 have q0:=rK.seq (rel:=iz X κ) (P:=λ v H'=>∃ i G',v=.int i/\i.natAbs < 10000000000/\Ext G H G' H'/\rK (ig X κ) κ (EX X pins σ Ex) G' H' (.ok (.str (l++o5 i))) Q) q (λ d v H1 G1 e1 d1 q1=>by
  cases d with
  | int i =>
   simp only [Hu,fD] at q1
   split at q1
   ·rename_i hi
    exact ⟨i,G1,ny d1,hi,e1,q1⟩
   ·exact False.elim q1
  | _=>exact False.elim q1)
 have e0:Str.empty++(⟨l.toArray⟩:Str)=⟨l.toArray⟩:=by
  show (⟨#[]++l.toArray⟩:Str)=_
  simp
 have big:(1000000:Nat) <= sizeLine:=by decide
 refine Calls.Constant_str ⟨_,_,rfl,by rw [e0];simp only [Str.length,List.size_toArray];(first | lia | omega),?_⟩
 rw [e0]
 refine wpAny_FormattedValue_plain (b7 (ha pins σ Ex pins' _ τ H _ (I.tok _) ⟨G,δ,rp,q0⟩) λ v s1 ⟨y,H1,I1,r1,i,G1,ey,hi,ex,qq⟩=>?_)
 subst ey
 obtain ⟨t,rfl⟩:=r1
 have ecat:(⟨l.toArray⟩:Str)++Str.ofString (toString i)=⟨(l++o5 i).toArray⟩:=by
  rw [<- Aa i]
  show (⟨l.toArray++(o5 i).toArray⟩:Str)=_
  simp
 have hlen:((⟨l.toArray⟩:Str)++Str.ofString (toString i)).length <= sizeLine:=by
  rw [strLen_append]
  have:=DC hi
  have h2:(⟨l.toArray⟩:Str).length=l.length:=by simp [Str.length]
  (first | lia | omega)
 refine wpAny_formatField_int (sk hi) ⟨_,_,rfl,hlen,hlen,?_⟩
 refine ⟨.str _,H1,(I1.tok _).tok _,⟨_,rfl⟩,?_⟩
 rw [ecat]
 exact qq _ H1 G1 (Ext.refl ex.GH) (by unfold ig aW;rfl)
end
end L3
namespace L3
open PySem PySem.Spec PyProof.Rows L2
section
variable {κ:Nat->Addr} {B:Gd} {X:Cx} {a b:Expr} {fa fb:Ev->R D} {p pos:Pos}
end
end L3
namespace L3
open PySem PySem.Spec PyProof.Rows L2
end L3
namespace L3
open PySem PySem.Spec PyProof.Rows L2
section
variable {κ:Nat->Addr} {B:Gd} {X:Cx} {a b:Expr} {fs:Ev->R (List D)} {p pos p' pos':Pos}
end
end L3
namespace L3
open PySem PySem.Spec PyProof.Rows L2
section
variable {κ:Nat->Addr} {B:Gd} {X:Cx} {pos pos' pos'' apos:Pos}
end
end L3
namespace L3
open PySem PySem.Spec PyProof.Rows L2
section
variable {κ:Nat->Addr} {B:Gd} {X:Cx} {a b:Expr} {fa fb:Ev->R D} {p pos:Pos}
end
end L3
namespace L3
open PySem PySem.Spec PyProof.Rows L2
end L3
namespace L3
open PySem PySem.Spec PyProof.Rows L2
section
variable {κ:Nat->Addr} {B:Gd} {X:Cx} {e tg:Expr} {f:Ev->R D} {p pos:Pos}
end
end L3
namespace L3
open PySem PySem.Spec PyProof.Rows L2
end L3
namespace L3
open PySem PySem.Spec PyProof.Rows L2
section
variable {κ:Nat->Addr} {B:Gd} {X:Cx} {a:Expr} {fa:Ev->R D} {pos:Pos}
end
end L3
namespace L3
open PySem
end L3
namespace L3
open PySem PySem.Spec PyProof.Rows
noncomputable def ik:Value->Int
 | .int i _=>i
 | _=>0
section
variable {prog:Program} {w:World} {A:Around} {E:Value->Shared->Prop} {s:Shared}
end
end L3
namespace L3
open PySem PySem.Spec PyProof.Rows
section
variable {prog:Program} {w:World} {A:Around} {E:Value->Shared->Prop} {s:Shared}
end
end L3
namespace L3
open PySem PySem.Spec PyProof.Rows
section
variable {prog:Program} {w:World} {A:Around} {E:Value->Shared->Prop} {s:Shared}
end
end L3
namespace L3
open PySem PySem.Spec PyProof.Rows
section
variable {prog:Program} {w:World} {A:Around} {E:Value->Shared->Prop} {s:Shared}
end
end L3
namespace L3
open PySem PySem.Spec PyProof.Rows L2
theorem wC:∀ (ks:List Int) (m:List Int),ks.Nodup->(∀ x∈ks,x∈m)->ks.length <= m.length
 | [],m,_,_=>Nat.zero_le _
 | k :: ks,m,h,hs=>by
  obtain ⟨h1,h2⟩:=List.nodup_cons.mp h
  have:=wC ks (m.erase k) h2 λ x hx=>(List.mem_erase_of_ne (by rintro rfl;exact h1 hx)).mpr (hs x (List.mem_cons_of_mem _ hx))
  rw [List.length_erase_of_mem (hs k List.mem_cons_self)] at this
  have:=List.length_pos_of_mem (hs k List.mem_cons_self)
  simp
  (first | lia | omega)
section
variable {κ:Nat->Addr} {B:Gd} {X:Cx} {a:Expr} {fa:Ev->R D} {p pos p' pos':Pos}
end
end L3
namespace L3
open PySem PySem.Spec PyProof.Rows L2
section
variable {κ:Nat->Addr} {B:Gd} {X:Cx} {e:Expr} {pos pos' p1 p2:Pos}
end
end L3
namespace L3
open PySem PySem.Spec PyProof.Rows L2
section
variable {κ:Nat->Addr} {B:Gd} {X:Cx} {a b c:Expr} {fa fb:Ev->R D} {pos p p':Pos}
end
end L3
namespace L3
open PySem PySem.Spec PyProof.Rows L2
section
variable {κ:Nat->Addr} {B:Gd} {X:Cx} {sc:Scope} {x y:Str} {px py pos spos:Pos} {iter elt:Expr} {ifs:List Expr} {fit:Ev->R (List D)} {t:Ev->R Bool} {f:Ev->R D} {i j:Nat}
end
end L3
namespace L3
open PySem PySem.Spec PyProof.Rows L2
section
variable {κ:Nat->Addr} {B:Gd} {X:Cx} {a b:Expr} {fs:Ev->R (List D)} {tgs:List Expr} {kk:Nat} {p pos tpos:Pos}
end
end L3
namespace L3
open PySem PySem.Spec PyProof.Rows L2
section
variable {κ:Nat->Addr} {B:Gd} {X:Cx} {e:Expr} {f:Ev->R D} {t:Ev->R Bool}
end
end L3
namespace L3
open PySem PySem.Spec PyProof.Rows L2
section
variable {κ:Nat->Addr} {B:Gd} {X:Cx} {a b c:Expr} {fa fb:Ev->R D} {pos p p':Pos}
end
end L3
namespace L3
open PySem PySem.Spec PyProof.Rows L2
section
variable {X:Cx} {sc:Scope} {N0 xs:List Str} {cl:List (Str × Addr)} {C:Addr} {sb s4:Shared} {Hb H4:Hp} {pins:List (Addr × Obj)} {σ:St} {m:Str->Option Value} {E:Value->Shared->Prop}
end
section
variable {κ:Nat->Addr} {B:Gd} {X:Cx} {e a b tg:Expr} {f:Ev->R D} {fs fit:Ev->R (List D)} {tgs:List Expr} {kk:Nat} {p pos tpos:Pos}
end
section
variable {κ:Nat->Addr} {B:Gd} {X:Cx} {sc:Scope} {N0 xs:List Str} {pos:Pos} {tg iter elt:Expr} {ifs:List Expr} {fit:Ev->R (List D)} {bd:D->Ev->Option Ev} {t:Ev->R Bool} {f:Ev->R D}
end
end L3
namespace L3
open PySem PySem.Spec PyProof.Rows L2
section
variable {κ:Nat->Addr} {B:Gd} {X:Cx} {sc:Scope} {N0 xs:List Str} {pos:Pos} {tg iter elt:Expr} {ifs:List Expr} {fit:Ev->R (List D)} {bd:D->Ev->Option Ev} {t:Ev->R Bool} {f:Ev->R D}
end
end L3
namespace L3
open PySem PySem.Spec PyProof.Rows L2
section
variable {κ:Nat->Addr} {B:Gd} {X:Cx} {pos pos' pos'' apos:Pos}
end
section
variable {κ:Nat->Addr} {B:Gd} {X:Cx} {a b:Expr} {fa fb:Ev->R D} {p pos:Pos}
end
end L3
namespace L3
open PySem PySem.Spec PyProof.Rows L2
noncomputable def Ce:D->Option dI
 | .int i=>some (.inl i)
 | .str x=>some (.inr ⟨x.toArray⟩)
 | _=>none
theorem Eb {Z:Zx} {G:Hp} {v:V} {d:D} {k:dI} (h:aW Z G v d) (e:Ce d=some k):v=kV k:=by
 cases d <;> simp [Ce] at e <;> subst e <;> unfold aW at h <;> exact h
noncomputable def Jr:List dI->List D->dI->Option D
 | k :: ks,d :: ds,x=>if k=x then some d else Jr ks ds x
 | _,_,_=>none
theorem zi {Z:Zx} {G:Hp} {x:dI}:∀ {ks:List dI} {vs:List V} {ds:List D},ks.length=vs.length->Dens Z G vs ds->match Jr ks ds x with
  | some d=>∃ v,ja (ks.zip vs) x=some v/\aW Z G v d
  | none=>ja (ks.zip vs) x=none
 | [],[],[],_,_=>rfl
 | k :: ks,v :: vs,d :: ds,hl,hd=>by
  unfold Dens at hd
  rw [List.zip_cons_cons]
  unfold Jr
  by_cases c:k=x
  ·rw [if_pos c]
   exact ⟨v,eF c,hd.1⟩
  ·rw [if_neg c]
   have ih:=zi (x:=x) (ks:=ks) (by simpa using hl) hd.2
   rw [eE (p:=(k,v)) (r:=ks.zip vs) c]
   exact ih
 | [],_ :: _,_,hl,_=>by simp at hl
 | _ :: _,[],_,hl,_=>by simp at hl
 | _,[],_ :: _,_,hd=>by unfold Dens at hd;exact hd.elim
 | _,_ :: _,[],_,hd=>by unfold Dens at hd;exact hd.elim
noncomputable def AR (x k:D):R D:=match x,Ce k with
 | .dic ks ds,some key=>match Jr ks ds key with
  | some d=>.ok d
  | none=>.stuck
 | _,_=>.stuck
section
variable {κ:Nat->Addr} {B:Gd} {X:Cx} {a b e o:Expr} {fa fb fo fk:Ev->R D} {pos p:Pos}
theorem KG (hu:X.A.units + 64 < cLine) (ho:PX κ B X o fo) (hk:PX κ B X a fk) (hs:∀ ov iv,subscripted a false ov iv=operate [ov,iv] (getItem ov iv)):PX κ B X (.Subscript o a pos) (m2 AR fo fk):=λ pins σ Ex =>
 bT (EQ (X:=At X pins σ Ex) (show X.A.units + 1 < cLine by (first | lia | omega)) (ho pins σ Ex) (hk pins σ Ex) hs) λ τ H Q hz=>gd hz λ G δ rp q=>⟨G,δ,rp,q.seq λ x v H1 G1 e1 d1 q1=>⟨G1,δ,rp.ext e1,q1.seq λ y u H2 G2 e2 d2 q2=>by
  unfold AR at q2
  split at q2
  ·rename_i ks ds key ek
   have d1':=d1.mono e2.sG
   unfold aW at d1'
   obtain ⟨l,vs,rfl,h1,h2,h3⟩:=d1'
   have h4:=zi (x:=key) h2 h3
   cases c:Jr ks ds key with
   | none=>rw [c] at q2;exact False.elim q2
   | some d =>
    rw [c] at q2 h4
    obtain ⟨w,e4,d4⟩:=h4
    have g:=Ag.k (k:=key) (e2.GH _ _ h1)
    rw [e4,<- Eb d2 ek] at g
    exact ⟨l,w,rfl,g,q2 w H2 G2 (Ext.refl e2.GH) d4⟩
  ·exact False.elim q2⟩⟩
end
noncomputable def Jo (κ:Nat->Addr) (B:Gd) (X:Cx) (pos:Pos) (keys:List (Option Expr)) (values:List Expr) (ks:List dI) (fs:Ev->R (List D)):Prop:=∀ pins σ Ex,∃ trs,Jn (At X pins σ Ex) pos keys values trs/\keys.length=ks.length/\keys.length=values.length/\keys.all (·.isSome)=true ∧
 ∀ τ H Q G δ,Rep ⟨X.K,κ⟩ B X.H₀ G H τ δ->rK (gc X κ) κ (EX X pins σ Ex) G H (fs δ) (λ vs H'=>vs.length=ks.length->Q ((ks.map kV).zip vs) H')->uU trs τ H Q
section
variable {κ:Nat->Addr} {B:Gd} {X:Cx} {e:Expr} {f:Ev->R D} {fs:Ev->R (List D)} {pos p:Pos} {keys:List (Option Expr)} {values:List Expr} {ks:List dI}
theorem Fe:Jo κ B X pos [] [] [] ar:=λ pins σ Ex=>⟨[],E1,rfl,rfl,rfl,λ τ H Q G δ rp q=>q [] H G (Ext.refl rp.GH) bn rfl⟩
theorem De {x:Str} {j} (h:PX κ B X e f) (hr:Jo κ B X pos keys values ks fs):Jo κ B X pos (some (.Constant (.str x) j p) :: keys) (e :: values) (.inr x :: ks) (ah f fs):=λ pins σ Ex=>by
 obtain ⟨trs,h1,h2,h3,h4,h5⟩:=hr pins σ Ex
 refine ⟨_,C4 (X:=At X pins σ Ex) CQ (h pins σ Ex) h1,by simp [h2],by simp [h3],by simp [h4],λ τ H Q G δ rp q=>?_⟩
 refine ⟨G,δ,rp,?_⟩
 unfold ah at q
 refine q.seq λ d v H1 G1 e1 d1 q1=>?_
 refine h5 τ H1 _ G1 δ (rp.ext e1) (q1.seq λ ds vs H2 G2 e2 d2 q2 hl=>?_)
 exact q2 (v :: vs) H2 G2 (Ext.refl e2.GH) (bt (d1.mono e2.sG) d2) (by simp [hl])
noncomputable def zB (ks:List dI) (fs:Ev->R (List D)):Ev->R D:=λ δ=>(fs δ).bind λ ds=>if ds.length=ks.length then .ok (.dic ks ds) else .stuck
theorem sv:∀ (more kvs:List (dI × V)),(more.map (·.1)).Nodup->(∀ k∈more.map (·.1),ja kvs k=none)->iq kvs more=kvs++more
 | [],kvs,_,_=>by simp [iq]
 | (k,v) :: r,kvs,hn,hv=>by
  have hn':=List.nodup_cons.mp hn
  have h0:=hv k (by simp)
  show iq (qA kvs k v) r=_
  rw [C9 v h0,sv r _ hn'.2 λ j hj=>?_]
  ·simp
  ·rw [sU k j v kvs h0]
   have hne:j ≠ k:=by rintro rfl;exact hn'.1 hj
   rw [if_neg hne]
   exact hv j (by simp only [List.map_cons,List.mem_cons];exact .inr hj)
theorem DL:∀ (ks:List dI) (vs:List V),(ks.map kV).zip vs=(ks.zip vs).map λ kv=>(kV kv.1,kv.2)
 | [],_=>rfl
 | _ :: _,[]=>rfl
 | k :: ks,v :: vs=>by simp [DL ks vs]
theorem Fa (h:Jo κ B X pos keys values ks fs) (h0:keys ≠ []) (h15:keys.length <= 15) (hn:ks.Nodup):PX κ B X (.Dict keys values pos) (zB ks fs):=λ pins σ Ex=>by
 obtain ⟨trs,h1,h2,h3,h4,h5⟩:=h pins σ Ex
 refine bT (ER (X:=At X pins σ Ex) h1 h4 h3 h0 h15) λ τ H Q ⟨G,δ,rp,q⟩ p hp=>?_
 have ex0:=tT (o:=.dK []) rp.GH hp
 have gp:G p=none:=rp.GH.free hp
 refine h5 τ _ _ G δ (rp.ext ex0) ?_
 unfold zB at q
 cases e:fs δ with
 | stuck=>rw [e] at q;exact False.elim q
 | exc c=>rw [e] at q;exact λ H' G' e1=>q H' G' (ex0.trans e1)
 | ok ds =>
  rw [e] at q
  simp only [R.bind_ok] at q
  intro vs H2 G2 e2 d2 hl
  have hp2:H2 p=some (.dK []):=e2.sH _ _ aM
  have gp2:G2 p=none:=by
   cases z:G2 p with
   | none=>rfl
   | some o =>
    rcases e2.new p (by rw [z];simp) with y | y
    ·exact absurd gp y
    ·rw [aM] at y;cases y
  have hlk:ds.length=ks.length:=by rw [<- d2.length];exact hl
  rw [if_pos hlk] at q
  refine ⟨hp2,ks.zip vs,?_,?_,?_⟩
  ·exact DL ks vs
  ·rw [List.length_zip];(first | lia | omega)
  ·have hm:iq [] (ks.zip vs)=ks.zip vs:=by
    rw [sv]
    ·simp
    ·rw [List.map_fst_zip (by (first | lia | omega))];exact hn
    ·intro k _;rfl
   rw [hm]
   have ee:Ext G H (upd G2 p (.dK (ks.zip vs))) (upd H2 p (.dK (ks.zip vs))):=by
    have t:=ex0.trans e2
    refine ⟨λ b o z=>?_,λ b o z=>?_,λ b o z=>?_,λ b z=>?_⟩
    ·rw [aC (aQ z gp)];exact t.sG b o z
    ·rw [aC (aQ z hp)];exact t.sH b o z
    ·by_cases hb:b=p
     ·subst hb;rw [aM] at z ⊢;exact z
     ·rw [aC hb] at z ⊢;exact t.GH b o z
    ·by_cases hb:b=p
     ·subst hb;exact .inr hp
     ·rw [aC hb] at z;exact t.new b z
   refine q _ _ _ ee ?_
   unfold aW
   exact ⟨p,vs,rfl,aM,hl.symm,d2.mono λ b o z=>by rw [aC (aQ z gp2)];exact z⟩
end
section
variable {κ:Nat->Addr} {B:Gd} {X:Cx}
end
end L3
namespace L3
open PySem PySem.Spec PyProof.Rows L2
section
variable {X:Cx} {tg:Expr}
end
section
variable {κ:Nat->Addr} {B:Gd} {X:Cx} {tg:Expr}
end
end L3
namespace L3
open PySem PySem.Spec PyProof.Rows L2
theorem CW {Y:Cx} {x:Str} {i:Nat} {tgs:List Expr} {kk:Nat} {tpos p px pos:Pos} (hg:Gl Y "enumerate") (hm:Y.mg "enumerate" = none) (hi:Y.N[i]?=some x) (vx:rL Y.env.scope x) (dx:(x == ("__debug__" : Str))=false) (cdx:(x == ("__classdict__" : Str))=false) :
  PI Y (.Tuple tgs kk tpos) (.Call (.Name "enumerate" p) [.Name x px] [] pos) (λ σ H R=>∃ a xs,σ[i]?=some (some (.ref a))/\cR Y.K H a xs/\R (KS Y.K a) H):=by
 intro pins s σ H R I ⟨a,xs,e1,hq,q⟩
 refine Call_ (jK I hg hm boot_enumerate (PyProof.Rows.callWith_type1 (b7 (eW (X:=Y) (lM (X:=Y) (pos:=px) hi vx dx cdx) gB rfl pos pins s σ H (λ vs H1=>vs=[.ref a]/\H1=H) I ⟨.ref a,e1,rfl,rfl⟩) λ us s1 ⟨vs,H1,I1,r1,q1,q2⟩=>?_) rfl rfl))
 subst q1 q2
 cases r1 with
 | cons r rr =>
  cases rr
  cases r
  obtain ⟨its,rv,pl,hz⟩:=I1.list hq
  refine call_enumerate_list pl.isList λ h' he hi hsz hk=>?_
  refine wpAny_pyIter_enum he ?_
  have I2:Inv Y pins σ H1 { s1 with heap:=h' }:=I1.kept (t':=s1.toks) hk
  refine ⟨s1.heap.objs.size + 1,[s1.heap.objs.size + 1,s1.heap.objs.size],_,_,H1,rfl,I2,sS a _ _ (Nat.succ_ne_self _),⟨⟨_,he⟩,hi⟩,λ b hb=>?_,q⟩
  rcases List.mem_cons.mp hb with rfl | hb
  ·exact I1.fpOk (Nat.le_succ _) (I1.hok.fresh (Nat.le_succ _))
  ·have e':b=s1.heap.objs.size:=by simpa using hb
   subst e'
   exact I1.fpOk (Nat.le_refl _) (I1.hok.fresh (Nat.le_refl _))
theorem E4 {κ:Nat->Addr} {B:Gd} {X:Cx} {e:Expr} {f:Ev->R Bool} (cx:Cxo X) (h:nG κ B X e f) (Ex:Value->Shared->Prop):PT (X.wish Ex) e (λ σ H Q=>∃ G δ b,Rep ⟨X.K,κ⟩ B X.H₀ G H σ δ/\f δ=.ok b/\∀ H' G',Ext G H G' H'->Q b H'):=by
 intro pins s σ H Q I ⟨G,δ,b,rp,ef,q⟩
 refine b7 (h pins σ Ex pins s σ H Q (jJ I) ⟨G,δ,rp,?_⟩) λ b' s1 ⟨H1,I1,q1⟩=>⟨H1,dC cx.sg I1,q1⟩
 rw [ef]
 intro v H' G' e1 ev
 have:v=b:=ev
 subst this
 exact q H' G' e1
theorem Rep.setNone {Z:Zx} {B:Gd} {H₀ G H:Hp} {σ:St} {δ:Ev} (r:Rep Z B H₀ G H σ δ) {i:Nat} {w:Option V}:Rep Z B H₀ G H (σ.set i w) (δ.set i none) where
 toHold:=r.toHold
 len:=by simpa using r.len
 sh:=λ j e q=>by
  rcases bq q with ⟨_,e1,_⟩ | ⟨n,q⟩
  ·cases e1
  ·obtain ⟨u,a,b⟩:=r.sh j e q
   exact ⟨u,by rw [List.getElem?_set_ne (Ne.symm n)];exact a,b⟩
 ow:=λ j ds q=>by
  rcases bq q with ⟨_,e1,_⟩ | ⟨n,q⟩
  ·cases e1
  ·obtain ⟨a,vs,x1,x2,x3,x4,x5⟩:=r.ow j ds q
   exact ⟨a,vs,by rw [List.getElem?_set_ne (Ne.symm n)];exact x1,x2,x3,x4,x5⟩
 sep:=λ j k ds es a n q1 q2 s1 s2=>by
  rcases bq q1 with ⟨_,e1,_⟩ | ⟨n1,q1⟩
  ·cases e1
  ·rcases bq q2 with ⟨_,e1,_⟩ | ⟨n2,q2⟩
   ·cases e1
   ·rw [List.getElem?_set_ne (Ne.symm n1)] at s1
    rw [List.getElem?_set_ne (Ne.symm n2)] at s2
    exact r.sep j k ds es a n q1 q2 s1 s2
 oo:=λ j c ns ds q=>by
  rcases bq q with ⟨_,e1,_⟩ | ⟨n,q⟩
  ·cases e1
  ·obtain ⟨x,dx,vs,x1,x2⟩:=r.oo j c ns ds q
   exact ⟨x,dx,vs,by rw [List.getElem?_set_ne (Ne.symm n)];exact x1,x2⟩
 oo1:=λ j k c ns ds c' ns' ds' x n q1 q2 s1 s2=>by
  rcases bq q1 with ⟨_,e1,_⟩ | ⟨n1,p1⟩
  ·cases e1
  ·rcases bq q2 with ⟨_,e2,_⟩ | ⟨n2,p2⟩
   ·cases e2
   ·rw [List.getElem?_set_ne (Ne.symm n1)] at s1
    rw [List.getElem?_set_ne (Ne.symm n2)] at s2
    exact r.oo1 j k c ns ds c' ns' ds' x n p1 p2 s1 s2
noncomputable def m5 (j ia ib:Nat) (δ:Ev) (n:Nat) (d:D):Ev:=((δ.set j none).set ia (some (.sh (.int (n:Int))))).set ib (some (.sh d))
noncomputable def zu (en:Nat->D->Ev) (t:Ev->R Bool):Nat->List D->List (List D)->R (List (List D))
 | _,[],gs=>.ok gs
 | n,d :: ds,gs=>match t (en n d) with
  | .ok true=>zu en t (n + 1) ds (gs++[[d]])
  | .ok false=>match gs.getLast? with
   | none=>.stuck
   | some l=>zu en t (n + 1) ds (gs.dropLast++[l++[d]])
  | _=>.stuck
noncomputable def Bp (i j ia ib:Nat) (t:Ev->R Bool):Ev->SR:=λ δ=>match δ[i]? with
 | some (some (.sh (.lst ds)))=>if ds.length <= 100000 then (match zu (m5 j ia ib δ) t 0 ds [] with
  | .ok gs=>.next ((match ds.getLast? with | none=>δ | some d=>(δ.set ia (some (.sh (.int ((ds.length - 1:Nat):Int))))).set ib (some (.sh d))).set j (some (.sh (.lst (gs.map D.lst)))))
  | _=>.stuck) else .stuck
 | _=>.stuck
inductive GrL (Z:Zx) (H G' H':Hp) (p:Addr) (gs:List (List D)) (us:List V):Prop
 | nil (e:gs=[])
 | mk (gs0:List (List D)) (l:List D) (us0:List V) (q:Addr) (ws:List V) (e1:gs=gs0++[l]) (e2:us=us0++[.ref q]) (d1:Dens Z G' us0 (gs0.map D.lst)) (h1:H' q=some (.lst ws)) (d2:Dens Z G' ws l) (n1:H q=none) (g1:G' q=none) (ne:q ≠ p)
structure GrpOk (Z:Zx) (H G' H':Hp) (p:Addr) (gs:List (List D)):Prop where
 fr:H p=none
 gp:G' p=none
 ex:∃ us,H' p=some (.lst us)/\us.length=gs.length/\GrL Z H G' H' p gs us
theorem wk {G H G' H':Hp} {p:Addr} {o:HO} (e:Ext G H G' H') (h1:H p=some o) (h2:G p=none):G' p=none:=by
 cases z:G' p with
 | none=>rfl
 | some o' =>
  rcases e.new p (by rw [z];simp) with y | y
  ·exact absurd h2 y
  ·rw [h1] at y;cases y
theorem GrpOk.ext {Z:Zx} {H G1 H1 G2 H2:Hp} {p:Addr} {gs:List (List D)} (g:GrpOk Z H G1 H1 p gs) (e:Ext G1 H1 G2 H2):GrpOk Z H G2 H2 p gs:=by
 obtain ⟨us,h1,h2,h3⟩:=g.ex
 refine ⟨g.fr,wk e h1 g.gp,us,e.sH _ _ h1,h2,?_⟩
 rcases h3 with e0 | ⟨gs0,l,us0,q,ws,e1,e2,d1,hq,d2,f1,f2,f3⟩
 ·exact .nil e0
 exact .mk gs0 l us0 q ws e1 e2 (d1.mono e.sG) (e.sH _ _ hq) (d2.mono e.sG) f1 (wk e hq f2) f3
theorem jV {G H G' H':Hp} {p:Addr} {o:HO} (e:Ext G H G' H') (h1:H p=none) (h2:G' p=none):Ext G H G' (upd H' p o):=by
 refine ⟨e.sG,λ b u z=>?_,λ b u z=>?_,e.new⟩
 ·rw [aC (aQ z h1)];exact e.sH b u z
 ·rw [aC (aQ z h2)];exact e.GH b u z
theorem GrpOk.push {Z:Zx} {G H G' H':Hp} {p q':Addr} {gs:List (List D)} {us:List V} (g:GrpOk Z H G' H' p gs) (e:Ext G H G' H') (hu:H' p=some (.lst us)) (hq':H' q'=none) :
  ∃ G2,Ext G H G2 (upd (upd H' q' (.lst [])) p (.lst (us++[.ref q'])))/\GrpOk Z H G2 (upd (upd H' q' (.lst [])) p (.lst (us++[.ref q']))) p (gs++[[]]):=by
 have np:q' ≠ p:=by rintro rfl;rw [hu] at hq';cases hq'
 have hq0:H q'=none:=e.sH.free hq'
 have gq:G' q'=none:=e.GH.free hq'
 obtain ⟨us1,h1,h2,h3⟩:=g.ex
 rw [hu] at h1
 cases h1
 rcases h3 with ⟨rfl⟩ | ⟨gs0,l,us0,q,ws,rfl,rfl,d1,hq,d2,f1,f2,f3⟩
 ·have hus:us=[]:=by simpa using h2
  subst hus
  refine ⟨G',jV (jV e hq0 gq) g.fr g.gp,g.fr,g.gp,_,aM,by simp,.mk [] [] [] q' [] rfl rfl bn ?_ bn hq0 gq np⟩
  rw [aC np,aM]
 ·have nq:q ≠ q':=by rintro rfl;rw [hq] at hq';cases hq'
  have sg:bV G' (upd G' q (.lst ws)):=λ b o z=>by rw [aC (aQ z f2)];exact z
  have e2:Ext G H (upd G' q (.lst ws)) H':=m4 e hq f2 f1
  have gp2:upd G' q (.lst ws) p=none:=by rw [aC (Ne.symm f3)];exact g.gp
  have gq2:upd G' q (.lst ws) q'=none:=by rw [aC (Ne.symm nq)];exact gq
  refine ⟨upd G' q (.lst ws),jV (jV e2 hq0 gq2) g.fr gp2,g.fr,gp2,_,aM,(by simp at h2 ⊢;(first | lia | omega)),.mk (gs0++[l]) [] (us0++[.ref q]) q' [] (by simp) rfl ?_ ?_ bn hq0 gq2 np⟩
  ·rw [List.map_append]
   refine (d1.mono sg).append (bt ?_ bn)
   unfold aW
   exact ⟨q,ws,rfl,cR.of aM,d2.mono sg⟩
  ·rw [aC np,aM]
theorem GrpOk.add {Z:Zx} {G H G' H':Hp} {p:Addr} {gs0:List (List D)} {l:List D} {v:V} {d:D} (g:GrpOk Z H G' H' p (gs0++[l])) (e:Ext G H G' H') (dv:aW Z G' v d) :
  ∃ us q ws,H' p=some (.lst us)/\us.length=gs0.length + 1/\us.getLast?=some (.ref q)/\H' q=some (.lst ws)/\ws.length=l.length/\Ext G H G' (upd H' q (.lst (ws++[v])))/\GrpOk Z H G' (upd H' q (.lst (ws++[v]))) p (gs0++[l++[d]]):=by
 obtain ⟨us,h1,h2,h3⟩:=g.ex
 rcases h3 with h3 | ⟨gs1,l1,us0,q,ws,e1,rfl,d1,hq,d2,f1,f2,f3⟩
 ·simp at h3
 ·obtain ⟨e0,e2⟩:=List.append_inj' e1 rfl
  subst e0
  have e3:l=l1:=by simpa using e2
  subst e3
  refine ⟨_,q,ws,h1,by simpa using h2,by simp,hq,d2.length,jV e f1 f2,g.fr,g.gp,_,by rw [aC (Ne.symm f3)];exact h1,by simpa using h2,.mk gs0 _ us0 q _ rfl rfl d1 aM (d2.append (bt dv bn)) f1 f2 f3⟩
theorem GrpOk.den {Z:Zx} {G H G' H':Hp} {p:Addr} {gs:List (List D)} (g:GrpOk Z H G' H' p gs) (e:Ext G H G' H'):∃ G2,Ext G H G2 H'/\aW Z G2 (.ref p) (.lst (gs.map D.lst)):=by
 obtain ⟨us,h1,h2,h3⟩:=g.ex
 rcases h3 with ⟨rfl⟩ | ⟨gs0,l,us0,q,ws,rfl,rfl,d1,hq,d2,f1,f2,f3⟩
 ·have hus:us=[]:=by simpa using h2
  subst hus
  refine ⟨upd G' p (.lst []),m4 e h1 g.gp g.fr,?_⟩
  unfold aW
  exact ⟨p,[],rfl,cR.of aM,bn⟩
 ·have sg:bV G' (upd G' q (.lst ws)):=λ b o z=>by rw [aC (aQ z f2)];exact z
  have e2:Ext G H (upd G' q (.lst ws)) H':=m4 e hq f2 f1
  have gp2:upd G' q (.lst ws) p=none:=by rw [aC (Ne.symm f3)];exact g.gp
  have sg2:bV (upd G' q (.lst ws)) (upd (upd G' q (.lst ws)) p (.lst (us0++[.ref q]))):=λ b o z=>by rw [aC (aQ z gp2)];exact z
  refine ⟨_,m4 e2 h1 gp2 g.fr,?_⟩
  unfold aW
  refine ⟨p,_,rfl,cR.of aM,?_⟩
  rw [List.map_append]
  refine ((d1.mono sg).mono sg2).append (bt ?_ bn)
  unfold aW
  exact ⟨q,ws,rfl,cR.of (by rw [aC f3,aM]),(d2.mono sg).mono sg2⟩
noncomputable def oU (j ia ib:Nat) (σ:St) (p:Addr) (vs:List V):Nat->St
 | 0=>σ.set j (some (.ref p))
 | n + 1=>((σ.set j (some (.ref p))).set ia (some (.int (n:Int)))).set ib (vs[n]?)
theorem B4 {j ia ib n:Nat} {σ:St} {p:Addr} {vs:List V} {v:V} (hab:ia ≠ ib) (hv:vs[n]?=some v):((oU j ia ib σ p vs n).set ia (some (.int (n:Int)))).set ib (some v)=oU j ia ib σ p vs (n + 1):=by
 cases n with
 | zero =>
  show ((σ.set j (some (.ref p))).set ia _).set ib _=((σ.set j (some (.ref p))).set ia _).set ib (vs[0]?)
  rw [hv]
 | succ m =>
  show ((((σ.set j (some (.ref p))).set ia (some (.int (m:Int)))).set ib (vs[m]?)).set ia _).set ib _=((σ.set j (some (.ref p))).set ia _).set ib (vs[m + 1]?)
  rw [hv,List.set_comm _ _ (Ne.symm hab),List.set_set,List.set_set]
theorem vD {us:List V} {w:V} (h:us.getLast?=some w):oD us (-1)=some w:=by
 have hn:us ≠ []:=by rintro rfl;cases h
 have hl:0 < us.length:=List.length_pos_iff.mpr hn
 unfold oD DQ
 rw [if_neg (by (first | lia | omega)),if_pos (by (first | lia | omega))]
 show us[((-1:Int) + us.length).toNat]?=some w
 have:((-1:Int) + us.length).toNat=us.length - 1:=by (first | lia | omega)
 rw [this,<- List.getLast?_eq_getElem?]
 exact h
section
variable {κ:Nat->Addr} {B:Gd} {X:Cx}
inductive GPv (Z:Zx) (G H:Hp) (p:Addr) (σ:St) (δ:Ev) (j ia ib:Nat) (t:Ev->R Bool) (ds:List D) (vs:List V) (gsE:List (List D)) (n:Nat) (σ':St) (H':Hp):Prop
 | mk (G':Hp) (gs:List (List D)) (x:Ext G H G' H') (k:GrpOk Z H G' H' p gs) (e:zu (m5 j ia ib δ) t n (ds.drop n) gs=.ok gsE) (s:σ'=oU j ia ib σ p vs n) (l:gs.length <= n) (m:∀ l∈gs,l.length <= n)
theorem yt {x y a b:Str} {i j ia ib kk kc:Nat} {p1 p2 p3 pa pb pt p4 p5 p6 q1 q2 q3 q4 q5 q6 r1 r2 r3 r4 r5 r6 r7 r8 r9:Pos} {c:Expr} {t:Ev->R Bool} {bf:List Stmt} {F:Ev->SR} (cx:Cxo X) (hc:X.calm=true) (hND:X.N.Nodup) (hfn:∀ y,X.fn y=true)
  (hg:Gl X "enumerate") (hm:X.mg "enumerate" = none)
  (hi:X.N[i]?=some x) (vx:rL X.env.scope x) (dx:(x == ("__debug__" : Str))=false) (cdx:(x == ("__classdict__" : Str))=false)
  (hj:X.N[j]?=some y) (ly:qX X.env.scope y) (vy:rL X.env.scope y) (dy:(y == ("__debug__" : Str))=false) (cdy:(y == ("__classdict__" : Str))=false)
  (ha:X.N[ia]?=some a) (la:qX X.env.scope a)
  (hb:X.N[ib]?=some b) (lb:qX X.env.scope b) (vb:rL X.env.scope b) (db:(b == ("__debug__" : Str))=false) (cdb:(b == ("__classdict__" : Str))=false)
  (hij:i ≠ j) (hia:i ≠ ia) (hib:i ≠ ib) (hja:j ≠ ia) (hjb:j ≠ ib) (hab:ia ≠ ib) (ht:nG κ B X c t)
  (sw1:swapsWith (.Call (.Attribute (.Name y q1) "append" q2) [.List [] q3] [] q4) none q5.line X.env=pure false)
  (ba1:attributeBase (.Name y q1) "append" X.env (eval (.Name y q1) X.env)=eval (.Name y q1) X.env) (li1:(q2.endLine == q4.line)=true)
  (fw1:((backTo q4 (starEach [(.List [] q3:Expr)] X.env)).all (λ x=>!x.1) && (backToKw q4 (keywordEach [] X.env)).all (λ x=>x.1.isSome) && decide (([(.List [] q3:Expr)]:List Expr).length + ([]:List Keyword).length + (if ([]:List Keyword).isEmpty then 0 else 1) < 30))=true)
  (st1:starEach [(.List [] q3:Expr)] X.env=(false,eval (.List [] q3) X.env) :: starEach [] X.env) (pl1:(backTo q4 (starEach [] X.env)).any (·.1)=false)
  (sw2:swapsWith (.Call (.Attribute (.Subscript (.Name y r1) (.UnaryOp .USub (.Constant (.int 1) kc r2) r3) r4) "append" r5) [.Name b r6] [] r7) none r8.line X.env=pure false)
  (ba2:attributeBase (.Subscript (.Name y r1) (.UnaryOp .USub (.Constant (.int 1) kc r2) r3) r4) "append" X.env (eval (.Subscript (.Name y r1) (.UnaryOp .USub (.Constant (.int 1) kc r2) r3) r4) X.env)=eval (.Subscript (.Name y r1) (.UnaryOp .USub (.Constant (.int 1) kc r2) r3) r4) X.env) (li2:(r5.endLine == r7.line)=true)
  (fw2:((backTo r7 (starEach [(.Name b r6:Expr)] X.env)).all (λ x=>!x.1) && (backToKw r7 (keywordEach [] X.env)).all (λ x=>x.1.isSome) && decide (([(.Name b r6:Expr)]:List Expr).length + ([]:List Keyword).length + (if ([]:List Keyword).isEmpty then 0 else 1) < 30))=true)
  (st2:starEach [(.Name b r6:Expr)] X.env=(false,eval (.Name b r6) X.env) :: starEach [] X.env) (pl2:(backTo r7 (starEach [] X.env)).any (·.1)=false)
  (hr:uY κ B X bf F) :
  uY κ B X (.Assign [.Name y p1] (.List [] p2) p3 :: .For (.Tuple [.Name a pa,.Name b pb] kk pt) (.Call (.Name "enumerate" p4) [.Name x p5] [] p6) [.If c [.Expr (.Call (.Attribute (.Name y q1) "append" q2) [.List [] q3] [] q4) q5] [] q6,.Expr (.Call (.Attribute (.Subscript (.Name y r1) (.UnaryOp .USub (.Constant (.int 1) kc r2) r3) r4) "append" r5) [.Name b r6] [] r7) r8] [] r9 :: bf) (au (Bp i j ia ib t) F):=λ Ex pins s σ H G δ Dn hp I rp q=>by
 have hz:∃ ds gs,δ[i]?=some (some (.sh (.lst ds)))/\ds.length <= 100000/\zu (m5 j ia ib δ) t 0 ds []=.ok gs/\cG κ B X Ex pins Dn (F ((match ds.getLast? with | none=>δ | some d=>(δ.set ia (some (.sh (.int ((ds.length - 1:Nat):Int))))).set ib (some (.sh d))).set j (some (.sh (.lst (gs.map D.lst)))))):=by
  unfold au Bp at q
  rcases h:(δ[i]?:Option (Option Sl)) with _ | _ | (d | es | ⟨c',ns',es'⟩)
  ·simp only [h] at q;exact False.elim q
  ·simp only [h] at q;exact False.elim q
  ·cases d with
   | lst ds =>
    simp only [h] at q
    by_cases h3:ds.length <= 100000
    ·rw [if_pos h3] at q
     cases h2:zu (m5 j ia ib δ) t 0 ds [] with
     | ok gs=>rw [h2] at q;exact ⟨ds,gs,rfl,h3,h2,q⟩
     | exc c'=>rw [h2] at q;exact False.elim q
     | stuck=>rw [h2] at q;exact False.elim q
    ·rw [if_neg h3] at q;exact False.elim q
   | _=>simp only [h] at q;exact False.elim q
  ·simp only [h] at q;exact False.elim q
  ·simp only [h] at q;exact False.elim q
 obtain ⟨ds,gsE,h1,h3,h2,q⟩:=hz
 obtain ⟨vr,e1,d1⟩:=rp.sh i _ h1
 unfold aW at d1
 obtain ⟨al,vs,rfl,sq,dn⟩:=d1
 have hlen:vs.length=ds.length:=dn.length
 have s1:=HU (X:=X.wish Ex) (pos:=p3) (pos':=p1) hND hj ly (uC (X:=X.wish Ex) (pos:=p2) gB) rfl (.inl (hfn _)) (λ p σ v _=>cx.sg p _)
 have sA:=zU (X:=X.wish Ex) (pos:=q5) (sK (X:=X.wish Ex) PySem.F.plainAttrs_list PySem.F.slot_list_append PySem.F.type_list_append jX (lM (X:=X.wish Ex) (pos:=q1) hj vy dy cdy) (eW (X:=X.wish Ex) (uC (X:=X.wish Ex) (pos:=q3) gB) gB st1) ba1 fw1 li1 st1 pl1) sw1
 have sB:=zU (X:=X.wish Ex) (pos:=r8) (sK (X:=X.wish Ex) PySem.F.plainAttrs_list PySem.F.slot_list_append PySem.F.type_list_append jX (Gq (X:=X.wish Ex) (pos:=r4) zA (lM (X:=X.wish Ex) (pos:=r1) hj vy dy cdy) (J6 (X:=X.wish Ex) (pos:=r3) IS (CO (X:=X.wish Ex) (i:=1) (j:=kc) (pos:=r2))) (λ _ _=>by rfl)) (eW (X:=X.wish Ex) (lM (X:=X.wish Ex) (pos:=r6) hb vb db cdb) gB st2) ba2 fw2 li2 st2 pl2) sw2
 have s2:=HS (X:=X.wish Ex) (pos:=r9) cx.sg hp hc (CW (Y:=X.wish Ex) (tgs:=[.Name a pa,.Name b pb]) (kk:=kk) (tpos:=pt) (p:=p4) (px:=p5) (pos:=p6) hg hm hi vx dx cdx)
  (CT (X:=X.wish Ex) (n:=2) (k:=kk) (pos:=pt) hc (qy (X:=X.wish Ex) (pj (X:=X.wish Ex) (pos:=pa) hND ha la (.inl (hfn _)) (λ p σ v _=>cx.sg p _)) (qy (X:=X.wish Ex) (pj (X:=X.wish Ex) (pos:=pb) hND hb lb (.inl (hfn _)) (λ p σ v _=>cx.sg p _)) zR rfl) rfl) rfl rfl)
  (C7 (J8 (X:=X.wish Ex) (pos:=q6) (E4 cx ht Ex) (zV sA) E2) (zV sB)) (λ _=>rfl)
 have hlenσ:σ.length=X.N.length:=I.len
 have hjl:j < σ.length:=by rw [hlenσ];exact (List.getElem?_eq_some_iff.mp hj).1
 have hal:ia < σ.length:=by rw [hlenσ];exact (List.getElem?_eq_some_iff.mp ha).1
 have hbl:ib < σ.length:=by rw [hlenσ];exact (List.getElem?_eq_some_iff.mp hb).1
 refine wpAny_execs_cons (b7 (s1 pins s σ H { nx:=λ σ1 H1=>∃ p,H p=none/\σ1=σ.set j (some (.ref p))/\H1=upd H p (.lst []),rt:=λ _ _=>False } I ⟨by simp,λ p hpn=>⟨p,hpn,rfl,rfl⟩⟩) λ f s3 q3=>?_)
 cases f with
 | next =>
  obtain ⟨σ1,H1,I1,p,hpn,rfl,rfl⟩:=q3
  have gp:G p=none:=rp.GH.free hpn
  let Pv:Nat->St->Hp->Prop:=GPv ⟨X.K,κ⟩ G H p σ δ j ia ib t ds vs gsE
  have gi:∀ n,(oU j ia ib σ p vs n)[i]?=some (some (.ref al)):=λ n=>by
   cases n with
   | zero=>unfold oU;rw [List.getElem?_set_ne (Ne.symm hij)];exact e1
   | succ n=>unfold oU;rw [List.getElem?_set_ne (Ne.symm hib),List.getElem?_set_ne (Ne.symm hia),List.getElem?_set_ne (Ne.symm hij)];exact e1
  refine wpAny_execs_cons (b7 (s2 pins s3 _ _ { nx:=Pv vs.length,rt:=λ _ _=>False } I1 ⟨al,vs,gi 0,(rp.ext (eV rp.GH hpn)).GH.seq ((eV rp.GH hpn).sG.seq sq),?_⟩) λ f s4 q4=>?_)
  ·refine ⟨λ n m σ' H'=>m=vs.length - n/\n <= vs.length/\Pv n σ' H',⟨_,rfl,Nat.zero_le _,G,[],?_,?_,h2,rfl,Nat.zero_le _,λ l z=>by cases z⟩,?_⟩
   ·exact jV (Ext.refl rp.GH) hpn gp
   ·exact ⟨hpn,gp,[],aM,rfl,.nil rfl⟩
   ·rintro n m σ' H' ⟨rfl,hn,G',gs,ex,gk,eg,rfl,gl,gm⟩
    have sqH:cR X.K H' al vs:=ex.GH.seq (ex.sG.seq sq)
    by_cases hlt:n < vs.length
    ·have hd:n < ds.length:=hlen ▸ hlt
     have hvn:vs[n]?=some vs[n]:=by simp [hlt]
     refine .inr ⟨⟨vs,vs[n],sqH,hvn⟩,Pv (n + 1),λ σ' H' p'=>⟨vs.length - (n + 1),by (first | lia | omega),rfl,hlt,p'⟩,?_⟩
     rintro xv H5 ⟨v,pt',hv,hpt,rfl,rfl⟩
     have hv1:=hv vs sqH
     rw [hvn] at hv1
     cases hv1
     obtain ⟨dv',hdv,dvn⟩:∃ d,ds[n]?=some d/\aW ⟨X.K,κ⟩ G vs[n] d:=by
      have hdn:ds[n]?=some ds[n]:=by simp [hd]
      obtain ⟨v,z1,z2⟩:=dn.get hdn
      rw [hvn] at z1
      cases z1
      exact ⟨_,hdn,z2⟩
     have e5:=eV (o:=.tup [.int (n:Nat),vs[n]]) (rp.ext ex).GH hpt
     refine ⟨pt',[.int (n:Nat),vs[n]],rfl,nJ.of aM,rfl,.int (n:Nat),[vs[n]],rfl,vs[n],[],rfl,rfl,?_⟩
     rw [B4 hab hvn]
     have ex5:=ex.trans e5
     have gk5:=gk.ext e5
     have rp5:Rep ⟨X.K,κ⟩ B X.H₀ (upd G' pt' (.tup [.int (n:Nat),vs[n]])) (upd H' pt' (.tup [.int (n:Nat),vs[n]])) (oU j ia ib σ p vs (n + 1)) (m5 j ia ib δ n dv'):=by
      have:=((((rp.ext ex5).setNone (i:=j) (w:=some (.ref p))).setSh (i:=ia) (v:=.int (n:Nat)) (d:=.int (n:Nat)) (by unfold aW;rfl)).setSh (i:=ib) (dvn.mono ex5.sG))
      unfold m5
      show Rep _ _ _ _ _ (((σ.set j (some (.ref p))).set ia _).set ib (vs[n]?)) _
      rw [hvn]
      exact this
     rw [List.drop_eq_getElem_cons hd] at eg
     have hdv2:ds[n]=dv':=by
      have:ds[n]?=some ds[n]:=by simp [hd]
      rw [this] at hdv;exact Option.some.inj hdv
     rw [hdv2] at eg
     unfold zu at eg
     have gj:(oU j ia ib σ p vs (n + 1))[j]?=some (some (.ref p)):=by
      unfold oU
      rw [List.getElem?_set_ne (Ne.symm hjb),List.getElem?_set_ne (Ne.symm hja)]
      exact List.getElem?_set_self hjl
     have gb:(oU j ia ib σ p vs (n + 1))[ib]?=some (some vs[n]):=by
      show (((σ.set j (some (.ref p))).set ia _).set ib (vs[n]?))[ib]?=_
      rw [hvn]
      exact List.getElem?_set_self (by simp [hbl])
     have last:∀ {G7 H7:Hp} {gs0:List (List D)} {l:List D},Ext G H G7 H7->GrpOk ⟨X.K,κ⟩ H G7 H7 p (gs0++[l])->l.length <= n->gs0.length <= n->(∀ l∈gs0,l.length <= n)->zu (m5 j ia ib δ) t (n + 1) (ds.drop (n + 1)) (gs0++[l++[dv']])=.ok gsE →
       Gx (Mz (X.wish Ex).K "list" zY (Ky (IH (X.wish Ex).K) (IP j) (MB (rU λ i=>.int (-i)) (tC (.int 1)))) (Gw (IP ib) Kx)) { nx:=Pv (n + 1),ct:=Pv (n + 1),bk:=Pv vs.length,rt:=λ _ _=>False } (oU j ia ib σ p vs (n + 1)) H7:=λ {G7 H7 gs0 l} e7 g7 hl hg7 hm7 eq7=>by
      obtain ⟨us,q',ws,hp7,hu7,la7,hq7,hw7,ext7,grp7⟩:=g7.add e7 (dvn.mono e7.sG)
      refine ⟨.ref p,gj,(1:Int),rfl,p,us,-1,.ref q',rfl,rfl,cR.of hp7,vD la7,.inl ⟨rfl,ws,cR.of hq7⟩,vs[n],gb,q',ws,vs[n],rfl,rfl,hq7,by rw [sizeLine_eq];(first | lia | omega),G7,_,ext7,grp7,eq7,rfl,by simp;(first | lia | omega),λ l' z=>?_⟩
      rcases List.mem_append.mp z with z | z
      ·have:=hm7 l' z;(first | lia | omega)
      ·have:l'=l++[dv']:=by simpa using z
       subst this
       simp
       (first | lia | omega)
     cases et:t (m5 j ia ib δ n dv') with
     | ok bb =>
      refine ⟨_,_,bb,rp5,et,λ H6 G6 e6=>?_⟩
      have ex6:=ex5.trans e6
      have gk6:=gk5.ext e6
      rw [et] at eg
      cases bb with
      | true =>
       have eg':zu (m5 j ia ib δ) t (n + 1) (ds.drop (n + 1)) (gs++[[dv']])=.ok gsE:=eg
       obtain ⟨us,u1,u2,u3⟩:=gk6.ex
       refine ⟨.ref p,gj,.inl ⟨rfl,us,cR.of u1⟩,by simp,λ q' hq'=>?_⟩
       have np:q' ≠ p:=by rintro rfl;rw [u1] at hq';cases hq'
       obtain ⟨G7,e7,g7⟩:=gk6.push ex6 u1 hq'
       exact ⟨p,us,.ref q',rfl,rfl,by rw [aC (Ne.symm np)];exact u1,by rw [sizeLine_eq];(first | lia | omega),last e7 g7 (Nat.zero_le _) gl gm eg'⟩
      | false =>
       cases el:gs.getLast? with
       | none =>
        have:(R.stuck:R (List (List D)))=.ok gsE:=by simpa [el] using eg
        cases this
       | some l =>
        have eg':zu (m5 j ia ib δ) t (n + 1) (ds.drop (n + 1)) (gs.dropLast++[l++[dv']])=.ok gsE:=by simpa [el] using eg
        have hne:gs ≠ []:=by rintro rfl;cases el
        have hgs:gs.dropLast++[l]=gs:=by
         have:=List.dropLast_concat_getLast hne
         rw [List.getLast?_eq_some_getLast hne] at el
         cases el
         exact this
        rw [<- hgs] at gk6 gl gm
        refine last ex6 gk6 (gm l (by simp)) (by simp at gl ⊢;(first | lia | omega)) (λ l' z=>gm l' (List.mem_append_left _ z)) eg'
     | exc c'=>rw [et] at eg;cases eg
     | stuck=>rw [et] at eg;cases eg
    ·have e:n=vs.length:=by (first | lia | omega)
     subst e
     exact .inl ⟨⟨vs,sqH,Nat.le_refl _⟩,G',gs,ex,gk,eg,rfl,gl,gm⟩
  ·cases f with
   | next =>
    obtain ⟨σ4,H4,I4,G',gs,ex,gk,eg,rfl,_⟩:=q4
    rw [hlen,List.drop_length] at eg
    unfold zu at eg
    cases eg
    obtain ⟨G2,ex2,d2⟩:=gk.den ex
    have r1:=rp.ext ex2
    refine hr Ex pins s4 _ _ G2 _ Dn hp I4 ?_ q
    rw [hlen]
    cases hds:ds.getLast? with
    | none =>
     have:ds=[]:=List.getLast?_eq_none_iff.mp hds
     subst this
     exact r1.setSh d2
    | some d =>
     obtain ⟨m,hm⟩:∃ m,ds.length=m + 1:=by
      have hne:ds ≠ []:=by rintro rfl;cases hds
      have:=List.length_pos_iff.mpr hne
      exact ⟨ds.length - 1,by (first | lia | omega)⟩
     rw [hm]
     have hgl:ds[m]?=some d:=by rw [List.getLast?_eq_getElem?,hm] at hds;exact hds
     obtain ⟨v,hv,dv⟩:=dn.get hgl
     have r3:=(((r1.setSh (i:=ia) (v:=.int (m:Nat)) (d:=.int (m:Nat)) (by unfold aW;rfl)).setSh (i:=ib) (dv.mono ex2.sG)).setSh (i:=j) d2)
     have:oU j ia ib σ p vs (m + 1)=((σ.set ia (some (.int (m:Nat)))).set ib (some v)).set j (some (.ref p)):=by
      show ((σ.set j (some (.ref p))).set ia _).set ib (vs[m]?)=_
      rw [hv,List.set_comm _ _ hja,List.set_comm _ _ hjb]
     rw [this]
     exact r3
   | brk=>obtain ⟨_,_,_,z⟩:=q4;exact z.elim
   | cont=>obtain ⟨_,_,_,z⟩:=q4;exact z.elim
   | ret u=>obtain ⟨_,_,_,_,_,z⟩:=q4;exact z.elim
 | brk=>obtain ⟨_,_,_,z⟩:=q3;exact z.elim
 | cont=>obtain ⟨_,_,_,z⟩:=q3;exact z.elim
 | ret u=>obtain ⟨_,_,_,_,_,z⟩:=q3;exact z.elim
end
end L3
namespace L3
open PySem PySem.Spec PyProof.Rows L2
section
variable {κ:Nat->Addr} {B:Gd} {X:Cx} {e c a:Expr} {es:List Expr} {f:Ev->R D} {fl fs:Ev->R (List D)} {pos pos' pos'' apos p:Pos} {x:Str} {m:List D->R (List D)} {n:Nat}
end
section
variable {i:Nat} {κ:Nat->Addr} {B:Gd} {X:Cx} {e c a:Expr} {es:List Expr} {f:Ev->R D} {fl fs:Ev->R (List D)} {pos pos' pos'' apos p:Pos} {x:Str}
end
end L3
namespace L3
open PySem PySem.Spec PyProof.Rows L2
section
variable {X:Cx} {x y:Str} {c d:Int}
end
section
variable {κ:Nat->Addr} {B:Gd} {X:Cx} {e:Expr} {f:Ev->R (List D)} {m2:List D->R (List D)} {x y g h:Str} {it ik:Nat} {bf:List Stmt} {F2:Ev->SR} {p p' q q' r1 r2 r3 t1 t2 t3 t4:Pos}
end
end L3
namespace L3
open PySem PySem.Spec PyProof.Rows L2
section
variable {κ:Nat->Addr} {B:Gd} {X:Cx} {sc:Scope} {N0 xs:List Str} {tg iter elt e1 e2:Expr} {ifs:List Expr} {fit:Ev->R (List D)} {bd:D->Ev->Option Ev} {t:Ev->R Bool} {f:Ev->R D} {f1 f2:Ev->R (List D)} {i j k:Nat} {xn xd xp:Str} {p1 p1' p2 p2' p3 p3' cpos r1 r2 r3 r4 r5:Pos} {kt:_}
end
section
variable {κ:Nat->Addr} {B:Gd} {X:Cx} {e a:Expr} {es:List Expr} {fs:Ev->R (List D)} {p pos:Pos} {x:Str} {m:List D->R (List D × List D × List D)} {n:Nat}
end
section
variable {κ:Nat->Addr} {B:Gd} {X:Cx} {e1 e2 e3:Expr} {f1:Ev->R (List D × List D × List D)} {f2:Ev->R (List D)} {f3:Ev->R D} {x y z h:Str} {it ik im:Nat} {bf:List Stmt} {F2:Ev->SR} {c5 c6:Int}
 {p1 p1' p2 p2' p3 p3' t1 t2 t3 t4 t5 t6 u1 u2 u3 u4 u5 u6 u7 w1 w2 w3 w4 w5 w6 w7:Pos} {j4 j5 j6 l5 l6:_}
end
end L3
namespace L3
open PySem PySem.Spec PyProof.Rows L2
structure QX (κ:Nat->Addr) (B:Gd) (X:Cx) (e:Expr) (f:Ev->R D):Prop where
 h:PX κ B X e f
structure QXr (κ:Nat->Addr) (B:Gd) (X:Cx) (e:Expr) (f:Ev->R D):Prop where
 h:cT κ B X e f
structure QXs (κ:Nat->Addr) (B:Gd) (X:Cx) (e:List Expr) (f:Ev->R (List D)):Prop where
 h:qU κ B X e f
structure QXf (κ:Nat->Addr) (B:Gd) (X:Cx) (e:Expr) (f:Ev->R (List D)):Prop where
 h:FY κ B X e f
structure QXt (κ:Nat->Addr) (B:Gd) (X:Cx) (e:Expr) (f:Ev->R Bool):Prop where
 h:nG κ B X e f
structure QXw (κ:Nat->Addr) (B:Gd) (X:Cx) (e:Expr) (f:Ev->R Bool):Prop where
 h:DZ κ B X e f
structure QIz (κ:Nat->Addr) (B:Gd) (X:Cx) (tg e:Expr) (f:Ev->R (List D)):Prop where
 h:DY κ B X tg e f
structure QIg (κ:Nat->Addr) (B:Gd) (X:Cx) (tg e:Expr) (f:Ev->R (List D)):Prop where
 h:KW κ B X tg e f
structure QGz (κ:Nat->Addr) (B:Gd) (X:Cx) (tg:Expr) (b:D->Ev->Option Ev):Prop where
 h:Br κ B X tg b
structure QGzs (κ:Nat->Addr) (B:Gd) (X:Cx) (tg:List Expr) (b:List D->Ev->Option Ev):Prop where
 h:vm κ B X tg b
structure QZ (κ:Nat->Addr) (B:Gd) (X:Cx) (st:Stmt) (F:Ev->SR):Prop where
 h:PZ κ B X st F
structure QZs (κ:Nat->Addr) (B:Gd) (X:Cx) (st:List Stmt) (F:Ev->SR):Prop where
 h:uY κ B X st F
structure QXo (κ:Nat->Addr) (B:Gd) (X:Cx) (e:Option Expr) (f:Ev->R (Option Int)):Prop where
 h:Jp κ B X e f
section
variable {κ:Nat->Addr} {B:Gd} {X:Cx} {a b c e k tg:Expr} {es tgs bf:List Expr} {f fa fb fc fk:Ev->R D} {ta tb:Ev->R Bool} {fs fl:Ev->R (List D)} {pos pos' pos'' apos p p':Pos} {x:Str} {m:List D->R D} {n i:Nat}
theorem QX.read (h:QX κ B X e f):QXr κ B X e f:=⟨h.h.read⟩
theorem QXw.t (h:QXw κ B X e ta):QXt κ B X e ta:=⟨h.h.t⟩
theorem QXf.px (h:QXf κ B X e fl):QX κ B X e (mL fl):=⟨h.h.px⟩
theorem af {i:Int} {j pos}:QX κ B X (.Constant (.int i) j pos) (mC (.int i)):=⟨Dc ⟩
theorem yx {i:Bool} {j pos}:QX κ B X (.Constant (.bool i) j pos) (mC (.bl i)):=⟨Gs ⟩
theorem aO {x:Str} {l:List Nat} {j pos} (h:x=⟨l.toArray⟩):QX κ B X (.Constant (.str x) j pos) (mC (.str l)):=⟨Dd h⟩
theorem dY (i:Nat) {x:Str} (hN:X.N[i]?=some x) (hv:rL X.env.scope x) (hd:(x == ("__debug__" : Str))=false) (hcd:(x == ("__classdict__" : Str))=false):QX κ B X (.Name x pos) (ae i):=⟨Ik i hN hv hd hcd⟩
theorem Dt (i:Nat) {x:Str} (hN:X.N[i]?=some x) (hv:rL X.env.scope x) (hd:(x == ("__debug__" : Str))=false) (hcd:(x == ("__classdict__" : Str))=false):QXr κ B X (.Name x pos) (lA i):=⟨Fd i hN hv hd hcd⟩
theorem cj {x:Str} {v:V} {u:Value} {d:D} (hg:Gl X x) (hm:X.mg x=some u) (r:bg v u) (hd:∀ G,aW ⟨X.K,κ⟩ G v d) (hdb:(x == ("__debug__" : Str))=false):QX κ B X (.Name x pos) (mC d):=⟨Fb hg hm r hd hdb⟩
theorem cQ (ha:QXr κ B X a fa) (hb:QXr κ B X b fb):QX κ B X (.BinOp a .Sub b pos) (m2 gA fa fb):=⟨Ii ha.h hb.h⟩
theorem cK (ha:QXr κ B X a fa) (hb:QXr κ B X b fb):QX κ B X (.BinOp a .Mult b pos) (m2 jP fa fb):=⟨Fc ha.h hb.h⟩
theorem bX (ha:QXr κ B X a fa) (hb:QXr κ B X b fb):QX κ B X (.BinOp a .FloorDiv b pos) (m2 cY fa fb):=⟨Ia ha.h hb.h⟩
theorem aD (ha:QXr κ B X a fa) (hb:QXr κ B X b fb):QX κ B X (.BinOp a .Mod b pos) (m2 bp fa fb):=⟨Ig ha.h hb.h⟩
theorem az (ha:QXr κ B X a fa) (hb:QXr κ B X b fb):QX κ B X (.BinOp a .Add b pos) (m2 aT fa fb):=⟨HY ha.h hb.h⟩
theorem yy (ha:QXr κ B X a fa) (hb:QXr κ B X b fb) (hm:behindInMarks .Lt b=false):QX κ B X (.Compare a [.Lt] [b] pos) (m2 (dL oW) fa fb):=⟨Kg ha.h hb.h hm⟩
theorem Dr (ha:QXr κ B X a fa) (hb:QXr κ B X b fb) (hm:behindInMarks .LtE b=false):QX κ B X (.Compare a [.LtE] [b] pos) (m2 (dL Bt) fa fb):=⟨Kf ha.h hb.h hm⟩
theorem IC (ha:QXr κ B X a fa) (hb:QXr κ B X b fb) (hm:behindInMarks .Gt b=false):QX κ B X (.Compare a [.Gt] [b] pos) (m2 (dL nF) fa fb):=⟨Kb ha.h hb.h hm⟩
theorem nu (ha:QXr κ B X a fa) (hb:QXr κ B X b fb) (hm:behindInMarks .Lt b=false):QXt κ B X (.Compare a [.Lt] [b] pos) (bC oW fa fb):=⟨Ir ha.h hb.h hm⟩
theorem Fs (ha:QXr κ B X a fa) (hb:QXr κ B X b fb) (hm:behindInMarks .LtE b=false):QXt κ B X (.Compare a [.LtE] [b] pos) (bC Bt fa fb):=⟨Iq ha.h hb.h hm⟩
theorem dZ (ha:QXr κ B X a fa) (hb:QXr κ B X b fb) (hm:behindInMarks .Gt b=false):QXt κ B X (.Compare a [.Gt] [b] pos) (bC nF fa fb):=⟨Io ha.h hb.h hm⟩
theorem Fq (ha:QXr κ B X a fa) (hb:QXr κ B X b fb) (hm:behindInMarks .GtE b=false):QXt κ B X (.Compare a [.GtE] [b] pos) (bC Gk fa fb):=⟨Im ha.h hb.h hm⟩
theorem qC (ha:QXt κ B X a ta):QXt κ B X (.UnaryOp .Not a pos) (ud ta):=⟨Fh ha.h⟩
theorem fj (ha:QXt κ B X a ta):QXw κ B X (.BoolOp .And [a] pos) ta:=⟨Di ha.h⟩
theorem hR (ha:QXt κ B X a ta):QXw κ B X (.BoolOp .Or [a] pos) ta:=⟨Fk ha.h⟩
theorem hG (ha:QXt κ B X a ta) (hb:QXw κ B X (.BoolOp .And (b :: bf) pos) tb):QXw κ B X (.BoolOp .And (a :: b :: bf) pos) (gX ta tb):=⟨Fj ha.h hb.h⟩
theorem jZ (ha:QXt κ B X a ta) (hb:QXw κ B X (.BoolOp .Or (b :: bf) pos) tb):QXw κ B X (.BoolOp .Or (a :: b :: bf) pos) (ue ta tb):=⟨Iu ha.h hb.h⟩
theorem eX {op} (h:QX κ B X a fa):QX κ B X (.BoolOp op [a] pos) fa:=⟨Ih h.h⟩
theorem nt (ha:QX κ B X a fa) (hb:QX κ B X (.BoolOp .And (b :: bf) pos) fb):QX κ B X (.BoolOp .And (a :: b :: bf) pos) (jL fa fb):=⟨HZ ha.h hb.h⟩
theorem uI (ha:QX κ B X a fa) (hb:QX κ B X (.BoolOp .Or (b :: bf) pos) fb):QX κ B X (.BoolOp .Or (a :: b :: bf) pos) (uf fa fb):=⟨Ki ha.h hb.h⟩
theorem uH (hc:QXt κ B X c ta) (ha:QX κ B X a fa) (hb:QX κ B X b fb):QX κ B X (.IfExp c a b pos) (zC ta fa fb):=⟨Kc hc.h ha.h hb.h⟩
theorem ai:QXs κ B X [] ar:=⟨uF ⟩
theorem cE {k:Nat} (h:QXs κ B X es fs):QX κ B X (.Tuple es k pos) (i8 fs):=⟨Ij h.h⟩
theorem aV (h:QXs κ B X es fs):QX κ B X (.List es pos) (b8 fs):=⟨Ie h.h⟩
theorem aI:QZs κ B X [] SR.next:=⟨Fo ⟩
theorem ag {st:Stmt} {bf:List Stmt} {F1 F2:Ev->SR} (h1:QZ κ B X st F1) (h2:QZs κ B X bf F2):QZs κ B X (st :: bf) (au F1 F2):=⟨Dl h1.h h2.h⟩
theorem aj {st:Stmt} {F:Ev->SR} (h1:QZ κ B X st F):QZs κ B X [st] F:=⟨Fp h1.h⟩
theorem fH (i:Nat) {sts:List Stmt} {F:Ev->SR} (h:QZs κ B X sts F):QZs κ B X sts (λ δ=>F (qc i δ)):=⟨Fm i h.h⟩
theorem aF (cx:Cxo X) (h:QX κ B X e f):QZ κ B X (.Return (some e) pos) (bx f):=⟨IA cx h.h⟩
theorem aY (cx:Cxo X) {t:Ev->R Bool} {s1 s2:List Stmt} {F1 F2:Ev->SR} (hc:QXt κ B X c t) (h1:QZs κ B X s1 F1) (h2:QZs κ B X s2 F2):QZ κ B X (.If c s1 s2 pos) (c7 t F1 F2):=⟨Kj cx hc.h h1.h h2.h⟩
theorem zX (cx:Cxo X) {i:Nat} {x:Str} {op:Operator} {g:Int->Int->Int} (ho:∀ Y:Cx,KY Y op (K9 g)) (hN:X.N.Nodup) (hi:X.N[i]?=some x) (hx:qX X.env.scope x) (hf:X.fn x=true \/ X.env.scope.names.lookup x=some .local) (h:QX κ B X e f):QZ κ B X (.AugAssign (.Name x pos') op e pos) (o6 i g f):=⟨Ix cx ho hN hi hx hf h.h⟩
theorem A7 (cx:Cxo X) {i:Nat} {x:Str} (hN:X.N.Nodup) (hi:X.N[i]?=some x) (hx:qX X.env.scope x) (hf:X.fn x=true \/ X.env.scope.names.lookup x=some .local):QGz κ B X (.Name x pos) (bN i):=⟨CU cx hN hi hx hf⟩
theorem dS:QGzs κ B X [] ga:=⟨CV ⟩
theorem ci (h:QX κ B X e f):QIz κ B X tg e (λ δ=>(f δ).bind br):=⟨EW h.h⟩
theorem n5 (cx:Cxo X) (N:Nat) {c:Expr} {body:List Stmt} {t:Ev->R Bool} {F:Ev->SR} (hc:QXt κ B X c t) (hb:QZs κ B X body F):QZ κ B X (.While c body [] pos) (cC t F N):=⟨Dk cx N hc.h hb.h⟩
theorem eB (h:QXs κ B X es fs):QXf κ B X (.List es pos) (λ δ=>lim (fs δ)):=⟨Ff h.h⟩
theorem fG (hu:X.A.units + 64 < cLine) (ha:QXr κ B X a fa) (hb:QXr κ B X b fb) (hm:behindInMarks .Eq b=false):QX κ B X (.Compare a [.Eq] [b] pos) (m2 (dL cz) fa fb):=⟨Ka hu ha.h hb.h hm⟩
theorem Ds (hu:X.A.units + 64 < cLine) (ha:QXr κ B X a fa) (hb:QXr κ B X b fb) (hm:behindInMarks .NotEq b=false):QX κ B X (.Compare a [.NotEq] [b] pos) (m2 (dL ul) fa fb):=⟨Kh hu ha.h hb.h hm⟩
theorem bB (hu:X.A.units + 64 < cLine) (ha:QXr κ B X a fa) (hb:QXr κ B X b fb) (hm:behindInMarks .Eq b=false):QXt κ B X (.Compare a [.Eq] [b] pos) (bC cz fa fb):=⟨Il hu ha.h hb.h hm⟩
theorem Ft (hu:X.A.units + 64 < cLine) (ha:QXr κ B X a fa) (hb:QXr κ B X b fb) (hm:behindInMarks .NotEq b=false):QXt κ B X (.Compare a [.NotEq] [b] pos) (bC ul fa fb):=⟨Is hu ha.h hb.h hm⟩
theorem aa (ha:QX κ B X a fa) (hr:QXs κ B X es fs) (h:aU a=true):QXs κ B X (a :: es) (ah fa fs):=⟨Af ha.h hr.h h⟩
theorem aw (c:Cxo X) (C:Cal κ X x n m) (hn:(a :: es).length=n) (hg:Gl X x) (ha:QXs κ B X (a :: es) fs) (hdb:(x == ("__debug__" : Str))=false:=by decide) (h:(a :: es).all aU=true:=by rfl) (hlen:∀ δ ds,fs δ=.ok ds->ds.length=n:=by repeat (first | exact Cp | refine AN ?_)):QX κ B X (.Call (.Name x p) (a :: es) [] pos) (aH m fs):=⟨IU c C hn hg ha.h hdb h hlen⟩
theorem IF (cx:Cxo X) (hN:X.N.Nodup) (hi:X.N[i]?=some x) (hx:qX X.env.scope x) (hf:X.fn x=true \/ X.env.scope.names.lookup x=some .local) (h:QX κ B X e f) (hs:eJ e=true):QZ κ B X (.Assign [.Name x pos'] e pos) (aJ i f):=⟨KL cx hN hi hx hf h.h hs⟩
theorem IE (cx:Cxo X) (hN:X.N.Nodup) (hi:X.N[i]?=some x) (hx:qX X.env.scope x) (hf:X.fn x=true \/ X.env.scope.names.lookup x=some .local) (h:QXf κ B X e fl) (hs:eJ e=true):QZ κ B X (.Assign [.Name x pos'] e pos) (kd i fl):=⟨KJ cx hN hi hx hf h.h hs⟩
theorem Fu (cx:Cxo X) (h:QX κ B X e f) (hs:eJ e=true):QZ κ B X (.Expr e pos) (qS f):=⟨IW cx h.h hs⟩
theorem A9 (cx:Cxo X) (hN:X.N[i]?=some x) (hv:rL X.env.scope x) (hd:(x == ("__debug__" : Str))=false) (hcd:(x == ("__classdict__" : Str))=false) (h:QX κ B X e f) (hs:aU e=true) (hline:(apos.endLine == pos'.line)=true):QZ κ B X (.Expr (.Call (.Attribute (.Name x pos) "append" apos) [e] [] pos') pos'') (iC i f):=⟨DH cx hN hv hd hcd h.h hs hline⟩
theorem Dv (cx:Cxo X) {bd:D->Ev->Option Ev} (h:QX κ B X e f) (hg:QGz κ B X tg bd) (hs:eJ e=true) (ht:Cw e=true) (h1:aU tg=true):QZ κ B X (.Assign [tg] e pos) (xx bd f):=⟨KF cx h.h hg.h hs ht h1⟩
theorem lN {kk:Nat} {bs:List D->Ev->Option Ev} (hc:X.calm=true) (h:QGzs κ B X tgs bs) (hn:tgs.length=n) (hst:tgs.all aU=true):QGz κ B X (.Tuple tgs kk pos) (j9 n bs):=⟨KN hc h.h hn hst⟩
theorem cg {bd:D->Ev->Option Ev} {bs:List D->Ev->Option Ev} (h1:QGz κ B X tg bd) (h2:QGzs κ B X tgs bs) (h:aU tg=true):QGzs κ B X (tg :: tgs) (bw bd bs):=⟨IV h1.h h2.h h⟩
theorem cF (ha:QXr κ B X a fa) (h:L5 a=true):QXt κ B X a (mT fa):=⟨I0 ha.h h⟩
theorem bo (ha:QXr κ B X a fa) (hb:QXr κ B X b fb) (h:DR b=true):QX κ B X (.Subscript a b pos) (m2 bO fa fb):=⟨Mm ha.h hb.h h⟩
theorem cB (hg:Gl X "len") (hm:X.mg "len" = none) (ha:QXr κ B X a fa) (h:aU a=true):QX κ B X (.Call (.Name "len" p) [a] [] pos) (m1 b3 fa):=⟨KI hg hm ha.h h⟩
theorem Ba (T:Ty) {y:Str} (hy:y=Str.ofString T.nm) (hg:Gl X "isinstance") (hm:X.mg "isinstance" = none) (hgT:Gl X y) (hmT:X.mg y=none) (hn:y ≠ "__name__") (hdb:(y == ("__debug__" : Str))=false) (ha:QXr κ B X a fa) (h:aU a=true):QX κ B X (.Call (.Name "isinstance" p) [a,.Name y p'] [] pos) (m1 (λ x=>BC (xY x T)) fa):=⟨DI T hy hg hm hgT hmT hn hdb ha.h h⟩
theorem iy (hg:Gl X "range") (hm:X.mg "range" = none) (ha:QXs κ B X [a] fs) (h:aU a=true):QIz κ B X tg (.Call (.Name "range" p) [a] [] pos) (λ δ=>(fs δ).bind uZ):=⟨Bn hg hm ha.h h⟩
theorem yz (hg:Gl X "range") (hm:X.mg "range" = none) (ha:QXs κ B X [a,b] fs) (h:aU a=true) (h':aU b=true):QIz κ B X tg (.Call (.Name "range" p) [a,b] [] pos) (λ δ=>(fs δ).bind we):=⟨Bo hg hm ha.h h h'⟩
theorem cr (cx:Cxo X) (hc:X.calm=true) {iter:Expr} {body:List Stmt} {fit:Ev->R (List D)} {bd:D->Ev->Option Ev} {F:Ev->SR} (hi:QIz κ B X tg iter fit) (hg:∀ B,QGz κ B X tg bd) (hb:∀ B,QZs κ B X body F) (h:DR iter=true):QZ κ B X (.For tg iter body [] pos) (df fit bd F):=⟨KH cx hc hi.h (λ z=>(hg z).h) (λ z=>(hb z).h) h⟩
theorem de {ds:List D} (hh:dB es=some ds):QXs κ B X es (λ _=>.ok ds):=⟨sY hh⟩
theorem wT {x y a b:Str} {i j ia ib kk kc:Nat} {p1 p2 p3 pa pb pt p4 p5 p6 q1 q2 q3 q4 q5 q6 r1 r2 r3 r4 r5 r6 r7 r8 r9:Pos} {c:Expr} {t:Ev->R Bool} {bf:List Stmt} {F:Ev->SR} (cx:Cxo X) (hc:X.calm=true) (hND:X.N.Nodup) (hfn:∀ y,X.fn y=true)
  (hg:Gl X "enumerate") (hm:X.mg "enumerate" = none)
  (hi:X.N[i]?=some x) (vx:rL X.env.scope x) (dx:(x == ("__debug__" : Str))=false) (cdx:(x == ("__classdict__" : Str))=false)
  (hj:X.N[j]?=some y) (ly:qX X.env.scope y) (vy:rL X.env.scope y) (dy:(y == ("__debug__" : Str))=false) (cdy:(y == ("__classdict__" : Str))=false)
  (ha:X.N[ia]?=some a) (la:qX X.env.scope a)
  (hb:X.N[ib]?=some b) (lb:qX X.env.scope b) (vb:rL X.env.scope b) (db:(b == ("__debug__" : Str))=false) (cdb:(b == ("__classdict__" : Str))=false)
  (hij:i ≠ j) (hia:i ≠ ia) (hib:i ≠ ib) (hja:j ≠ ia) (hjb:j ≠ ib) (hab:ia ≠ ib) (ht:QXt κ B X c t)
  (sw1:swapsWith (.Call (.Attribute (.Name y q1) "append" q2) [.List [] q3] [] q4) none q5.line X.env=pure false)
  (ba1:attributeBase (.Name y q1) "append" X.env (eval (.Name y q1) X.env)=eval (.Name y q1) X.env) (li1:(q2.endLine == q4.line)=true)
  (fw1:((backTo q4 (starEach [(.List [] q3:Expr)] X.env)).all (λ x=>!x.1) && (backToKw q4 (keywordEach [] X.env)).all (λ x=>x.1.isSome) && decide (([(.List [] q3:Expr)]:List Expr).length + ([]:List Keyword).length + (if ([]:List Keyword).isEmpty then 0 else 1) < 30))=true)
  (st1:starEach [(.List [] q3:Expr)] X.env=(false,eval (.List [] q3) X.env) :: starEach [] X.env) (pl1:(backTo q4 (starEach [] X.env)).any (·.1)=false)
  (sw2:swapsWith (.Call (.Attribute (.Subscript (.Name y r1) (.UnaryOp .USub (.Constant (.int 1) kc r2) r3) r4) "append" r5) [.Name b r6] [] r7) none r8.line X.env=pure false)
  (ba2:attributeBase (.Subscript (.Name y r1) (.UnaryOp .USub (.Constant (.int 1) kc r2) r3) r4) "append" X.env (eval (.Subscript (.Name y r1) (.UnaryOp .USub (.Constant (.int 1) kc r2) r3) r4) X.env)=eval (.Subscript (.Name y r1) (.UnaryOp .USub (.Constant (.int 1) kc r2) r3) r4) X.env) (li2:(r5.endLine == r7.line)=true)
  (fw2:((backTo r7 (starEach [(.Name b r6:Expr)] X.env)).all (λ x=>!x.1) && (backToKw r7 (keywordEach [] X.env)).all (λ x=>x.1.isSome) && decide (([(.Name b r6:Expr)]:List Expr).length + ([]:List Keyword).length + (if ([]:List Keyword).isEmpty then 0 else 1) < 30))=true)
  (st2:starEach [(.Name b r6:Expr)] X.env=(false,eval (.Name b r6) X.env) :: starEach [] X.env) (pl2:(backTo r7 (starEach [] X.env)).any (·.1)=false)
  (hr:QZs κ B X bf F):QZs κ B X (.Assign [.Name y p1] (.List [] p2) p3 :: .For (.Tuple [.Name a pa,.Name b pb] kk pt) (.Call (.Name "enumerate" p4) [.Name x p5] [] p6) [.If c [.Expr (.Call (.Attribute (.Name y q1) "append" q2) [.List [] q3] [] q4) q5] [] q6,.Expr (.Call (.Attribute (.Subscript (.Name y r1) (.UnaryOp .USub (.Constant (.int 1) kc r2) r3) r4) "append" r5) [.Name b r6] [] r7) r8] [] r9 :: bf) (au (Bp i j ia ib t) F):=⟨yt cx hc hND hfn hg hm hi vx dx cdx hj ly vy dy cdy ha la hb lb vb db cdb hij hia hib hja hjb hab ht.h sw1 ba1 li1 fw1 st1 pl1 sw2 ba2 li2 fw2 st2 pl2 hr.h⟩
theorem ID (hu:X.A.units + 64 < cLine) (ho:QX κ B X o fo) (hk:QX κ B X a fk) (hs:∀ ov iv,subscripted a false ov iv=operate [ov,iv] (getItem ov iv)):QX κ B X (.Subscript o a pos) (m2 AR fo fk):=⟨KG hu ho.h hk.h hs⟩
theorem Dm (h:QX κ B X e f):QIz κ B X tg e (λ δ=>(f δ).bind t0):=⟨EY h.h⟩
theorem gC (hg:Gl X "str") (hm:X.mg "str" = none) (ha:QXr κ B X a fa) (h:aU a=true):QX κ B X (.Call (.Name "str" p) [a] [] pos) (m1 fD fa):=⟨KM hg hm ha.h h⟩
theorem wU {o e:Expr} {fo:Ev->R D} {fs:Ev->R (List D)} {apos:Pos} (ho:QXr κ B X o fo) (ha:QXs κ B X [e] fs) (hs:aU e=true) (hline:(apos.endLine == pos.line)=true) (hbase:attributeBase o "zfill" X.env (eval o X.env)=eval o X.env):QX κ B X (.Call (.Attribute o "zfill" apos) [e] [] pos) (Ck lK fo fs):=⟨FQ ho.h ha.h hs hline hbase⟩
theorem Fw {x:Str} {l:List Nat} {kk:Nat} {cp fp:Pos} (hx:x=⟨l.toArray⟩) (hl:l.length <= 1000) (ha:QXr κ B X a fa):QX κ B X (.JoinedStr [.Constant (.str x) kk cp,.FormattedValue a (-1) none fp] pos) (m1 (Hu l) fa):=⟨IY hx hl ha.h⟩
theorem A8 (hg:Gl X "enumerate") (hm:X.mg "enumerate" = none) (h:QX κ B X e f) (hs:aU e=true):QIg κ B X (.Tuple tgs kk tpos) (.Call (.Name "enumerate" p) [e] [] pos) (λ δ=>(f δ).bind BV):=⟨C2 hg hm h.h hs⟩
theorem Fv (cx:Cxo X) (hc:X.calm=true) {tg iter:Expr} {body:List Stmt} {fit:Ev->R (List D)} {bd:D->Ev->Option Ev} {F:Ev->SR} (hi:QIg κ B X tg iter fit) (hg:∀ B,QGz κ B X tg bd) (hb:∀ B,QZs κ B X body F) (h:DR iter=true):QZ κ B X (.For tg iter body [] pos) (df fit bd F):=⟨IX cx hc hi.h (λ z=>(hg z).h) (λ z=>(hb z).h) h⟩
theorem qD (hg:Gl X "int") (hm:X.mg "int" = none) (ha:QXs κ B X [a] fs) (h:aU a=true):QX κ B X (.Call (.Name "int" p) [a] [] pos) (Ge uj fs):=⟨FP hg hm ha.h h⟩
theorem bP:QXo κ B X none dD:=⟨Dg ⟩
theorem bu (h:QX κ B X a fa):QXo κ B X (some a) (mP fa):=⟨Dh h.h⟩
theorem eC {lo hi:Option Expr} {fl fh:Ev->R (Option Int)} {p2:Pos} (ha:QXr κ B X a fa) (hl:QXo κ B X lo fl) (hh:QXo κ B X hi fh):QX κ B X (.Subscript a (.Slice lo hi none p2) pos) (jW fa fl fh):=⟨Mn ha.h hl.h hh.h⟩
theorem Dq (hu:X.A.units + 64 < cLine) (ha:QXr κ B X a fa) (hb:QXr κ B X b fb) (hm:behindInMarks .In b=false):QX κ B X (.Compare a [.In] [b] pos) (m2 (dL sx) fa fb):=⟨Kd hu ha.h hb.h hm⟩
theorem po (hu:X.A.units + 64 < cLine) (ha:QXr κ B X a fa) (hb:QXr κ B X b fb) (hm:behindInMarks .In b=false):QXt κ B X (.Compare a [.In] [b] pos) (bC sx fa fb):=⟨Ip hu ha.h hb.h hm⟩
theorem nv (hu:X.A.units + 64 < cLine) (ha:QXr κ B X a fa) (hb:QXr κ B X b fb) (hm:behindInMarks .NotIn b=false):QXt κ B X (.Compare a [.NotIn] [b] pos) (bC iu fa fb):=⟨Fg hu ha.h hb.h hm⟩
theorem uG (ha:QXr κ B X a fa) (hb:QXr κ B X b fb):QX κ B X (.BinOp a .Add b pos) (m2 qp fa fb):=⟨H0 ha.h hb.h⟩
theorem Dw {o e:Expr} {fo:Ev->R D} {fs:Ev->R (List D)} {apos:Pos} (ho:QXr κ B X o fo) (ha:QXs κ B X [e] fs) (hs:aU e=true) (hline:(apos.endLine == pos.line)=true) (hbase:attributeBase o "count" X.env (eval o X.env)=eval o X.env):QX κ B X (.Call (.Attribute o "count" apos) [e] [] pos) (JK nS fo fs):=⟨FO ho.h ha.h hs hline hbase⟩
theorem Fx {o e:Expr} {fo:Ev->R D} {fs:Ev->R (List D)} {apos:Pos} (ho:QXr κ B X o fo) (ha:QXs κ B X [e] fs) (hs:aU e=true) (hline:(apos.endLine == pos.line)=true) (hbase:attributeBase o "join" X.env (eval o X.env)=eval o X.env):QX κ B X (.Call (.Attribute o "join" apos) [e] [] pos) (Ck sy fo fs):=⟨IZ ho.h ha.h hs hline hbase⟩
theorem ca {cpos np p:Pos} {c:Nat} (cx:Cxo X) (hc:X.calm=true) (C:kf κ X x c) (hg:Gl X x) {y:Str} {j:Nat} (hd:(x == ("__debug__" : Str))=false):QZ κ B X (.Raise (some (.Call (.Name x np) [.Constant (.str y) j p] [] cpos)) none pos) (λ δ=>.exc c δ):=⟨Dj cx hc C hg hd⟩
end
theorem yw {P:Program} {w:World} {K:PySem.W.Frag} {mg:Str->Option Value} {base:Heap} {κ:Nat->Addr} {x qual:Str} {st:Stmt} {f:Addr} {fd:FuncData} {N ps:List Str} {k:Nat} {F:Ev->SR}
  (Fn:Fun K x qual st f fd) (S:FnScope N ps (am st))
  (hb:∀ (X:Cx) (B:Gd),Cxo X->X.calm=true->X.prog=P->X.w=w->X.K=K->X.mg=mg->X.base=base->X.N=N->X.env.scope=am st->(∀ y,X.fn y=true)->Room k X.A->FrmOk X->QZs κ B X (aB st) F) :
  FnOk P w K mg base (xA P w) (k + 1) f fd ps (Kr K κ ps.length λ ds=>b0 (F (aG N.length ds))):=AD Fn S λ X B a1 a2 a3 a4 a5 a6 a7 a8 a9 a10 a11 a12=>(hb X B a1 a2 a3 a4 a5 a6 a7 a8 a9 a10 a11 a12).h
end L3
namespace L3
open PySem PySem.Spec PyProof.Rows L2
structure QIcz (κ:Nat->Addr) (B:Gd) (X:Cx) (tg e:Expr) (f:Ev->R (List D)):Prop where
 h:Ai κ B X tg e f
structure QTs (κ:Nat->Addr) (B:Gd) (X:Cx) (e:List Expr) (f:Ev->R Bool):Prop where
 h:Jc κ B X e f
section
variable {κ:Nat->Addr} {B:Gd} {X:Cx} {a b c e tg iter elt:Expr} {es ifs:List Expr} {f:Ev->R D} {t:Ev->R Bool} {fs fl fit:Ev->R (List D)} {pos p px:Pos} {x:Str} {m:List D->R (List D)} {n i:Nat} {sc:Scope}
theorem sQ (h:QX κ B X e f):QIcz κ B X tg e (λ δ=>(f δ).bind br):=⟨C1 h.h⟩
theorem nr (hg:Gl X "range") (hm:X.mg "range" = none) (ha:QXs κ B X [a,b] fs) (h:aU a=true) (h':aU b=true):QIcz κ B X tg (.Call (.Name "range" p) [a,b] [] pos) (λ δ=>(fs δ).bind we):=⟨wO hg hm ha.h h h'⟩
theorem qB:QTs κ B X [] (λ _=>.ok true):=⟨E5⟩
theorem Do (h:QXt κ B X c t):QTs κ B X [c] t:=⟨E6 h.h⟩
theorem nn (hc:X.calm=true) (co:CompOk X sc x) (hi:QIcz κ B X (.Name x px) iter fit) (ht:∀ X' B',CmpIs X sc x X'->QTs κ B' X' ifs t) (he:∀ X' B',CmpIs X sc x X'->QX κ B' X' elt f)
  (hs:DR iter=true):QXf κ B X (.ListComp elt [⟨.Name x px,iter,ifs,0⟩] sc pos) (ec fit t f):=⟨D9 hc co hi.h (λ X' B' h=>(ht X' B' h).h) (λ X' B' h=>(he X' B' h).h) hs⟩
end
structure QXd (κ:Nat->Addr) (B:Gd) (X:Cx) (pos:Pos) (keys:List (Option Expr)) (values:List Expr) (ks:List dI) (fs:Ev->R (List D)):Prop where
 h:Jo κ B X pos keys values ks fs
section
variable {κ:Nat->Addr} {B:Gd} {X:Cx} {a b e tg iter elt:Expr} {tgs ifs:List Expr} {f:Ev->R D} {t:Ev->R Bool} {fs fit:Ev->R (List D)} {bd:D->Ev->Option Ev} {pos p tpos:Pos} {kk i:Nat} {sc:Scope} {N0 xs:List Str} {keys:List (Option Expr)} {values:List Expr} {ks:List dI}
theorem Du:QXd κ B X pos [] [] [] ar:=⟨Fe⟩
theorem fi {x:Str} {j} (h:QX κ B X e f) (hr:QXd κ B X pos keys values ks fs):QXd κ B X pos (some (.Constant (.str x) j p) :: keys) (e :: values) (.inr x :: ks) (ah f fs):=⟨De h.h hr.h⟩
theorem Dp (h:QXd κ B X pos keys values ks fs) (h0:keys ≠ []) (h15:keys.length <= 15) (hn:ks.Nodup):QX κ B X (.Dict keys values pos) (zB ks fs):=⟨Fa h.h h0 h15 hn⟩
end
section
variable {κ:Nat->Addr} {B:Gd} {X:Cx} {a e:Expr} {es:List Expr} {fs:Ev->R (List D)} {pos pos' p p1 p2:Pos} {x y:Str} {n i j k:Nat}
end
section
variable {α:Type} {ρ:GD α} {κ:Nat->Addr} {B:Gd} {X:Cx} {e:Expr} {f:Ev->R α} {pos:Pos}
end
structure VP (X:Cx) (i:Nat) (x:Str):Prop where
 cx:Cxo X
 nd:X.N.Nodup
 n:X.N[i]?=some x
 l:qX X.env.scope x
 vi:rL X.env.scope x
 fn:X.fn x=true
 d1:(x == ("__debug__" : Str))=false
 d2:(x == ("__classdict__" : Str))=false
section
variable {κ:Nat->Addr} {B:Gd} {X:Cx} {e k:Expr} {f fk:Ev->R D} {fl:Ev->R (List D)} {pos p p' p2 ap:Pos} {x:Str} {i:Nat} {N:List Str} {sc:Scope}
theorem i5 {N P:List Str} {sc:Scope} (h1:sc.kind=.function:=by rfl) (h2:sc.isCoroutine=false:=by rfl) (h3:sc.isGenerator=false:=by rfl) (h4:N.Nodup:=by decide +kernel) (h5:N.take P.length=P:=by rfl) (h6:∀ x∈P,sc.names.lookup x=some .local \/ sc.names.lookup x=some .cell:=by decide +kernel) (h7:∀ y∈sc.names,y.2 ≠ .free:=by decide +kernel):FnScope N P sc:=⟨h1,h2,h3,h4,h5,h6,h7⟩
theorem b9 {X:Cx} {x:Str} {sc:Scope} (hsc:X.env.scope=sc) (h:sc.names.lookup x=some .globalImplicit:=by rfl):Gl X x:=by
 show X.env.scope.names.lookup x=_
 rw [hsc];exact h
theorem ba (cx:Cxo X) (nd:X.N.Nodup) (fn:∀ y,X.fn y=true) (hN:X.N=N) (hsc:X.env.scope=sc) (n:N[i]?=some x:=by rfl) (lv:sc.names.lookup x=some .local:=by rfl) (d1:(x == ("__debug__" : Str))=false:=by decide) (d2:(x == ("__classdict__" : Str))=false:=by decide):VP X i x:=
 ⟨cx,nd,by rw [hN];exact n,.inl (by rw [hsc];exact lv),.inl (by rw [hsc];exact lv),fn x,d1,d2⟩
theorem Lh (cx:Cxo X) (nd:X.N.Nodup) (fn:∀ y,X.fn y=true) (hN:X.N=N) (hsc:X.env.scope=sc) (n:N[i]?=some x) (lv:sc.names.lookup x=some .cell) (d1:(x == ("__debug__" : Str))=false) (d2:(x == ("__classdict__" : Str))=false):VP X i x:=
 ⟨cx,nd,by rw [hN];exact n,.inr (by rw [hsc];exact lv),.inr (.inl (by rw [hsc];exact lv)),fn x,d1,d2⟩
theorem VP.v (V:VP X i x):QX κ B X (.Name x pos) (ae i):=dY i V.n V.vi V.d1 V.d2
theorem VP.r (V:VP X i x):QXr κ B X (.Name x pos) (lA i):=Dt i V.n V.vi V.d1 V.d2
theorem VP.s (V:VP X i x) (h:QX κ B X e f) (h2:eJ e=true):QZ κ B X (.Assign [.Name x p'] e p) (aJ i f):=IF V.cx V.nd V.n V.l (.inl V.fn) h h2
theorem VP.w (V:VP X i x) (h:QXf κ B X e fl) (h2:eJ e=true):QZ κ B X (.Assign [.Name x p'] e p) (kd i fl):=IE V.cx V.nd V.n V.l (.inl V.fn) h h2
theorem VP.a (V:VP X i x) (h:QX κ B X e f) (h2:aU e=true) (h3:(ap.endLine == p'.line)=true):QZ κ B X (.Expr (.Call (.Attribute (.Name x p) "append" ap) [e] [] p') p2) (iC i f):=A9 V.cx V.n V.vi V.d1 V.d2 h h2 h3
theorem VP.t (V:VP X i x):QGz κ B X (.Name x p) (bN i):=A7 V.cx V.nd V.n V.l (.inl V.fn)
theorem VP.ua (V:VP X i x) (h:QX κ B X e f):QZ κ B X (.AugAssign (.Name x p') .Add e p) (o6 i (λ i j=>i + j) f):=zX V.cx (λ _=>G9) V.nd V.n V.l (.inl V.fn) h
theorem VP.us (V:VP X i x) (h:QX κ B X e f):QZ κ B X (.AugAssign (.Name x p') .Sub e p) (o6 i (λ i j=>i - j) f):=zX V.cx (λ _=>Hc) V.nd V.n V.l (.inl V.fn) h
end
noncomputable def FF (K:PySem.W.Frag) (x:Str) (st:Stmt):Prop:=∃ (f:Addr) (oc kV dc pm cd ct:Value) (od an:Option Addr) (sl:Array (Option Value)),PySem.W.nsIn K mainGlobals x=some (some (.ref f)) ∧
 K.lookup f=some ⟨oc,od,.func (PySem.W.fnOf x x (cM st) (aB st) (am st) .none kV dc pm an cd ct),sl⟩/\PySem.W.codeIn K cd x=true/\PySem.W.keepIn K (.ref f)=true
theorem FF.mk {K:PySem.W.Frag} {x:Str} {st:Stmt} {f:Addr} {oc kV dc pm cd ct:Value} {od an:Option Addr} {sl:Array (Option Value)} (a:PySem.W.nsIn K mainGlobals x=some (some (.ref f))) (l:K.lookup f=some ⟨oc,od,.func (PySem.W.fnOf x x (cM st) (aB st) (am st) .none kV dc pm an cd ct),sl⟩)
  (d:PySem.W.codeIn K cd x=true) (p:PySem.W.keepIn K (.ref f)=true):FF K x st:=⟨f,oc,kV,dc,pm,cd,ct,od,an,sl,a,l,d,p⟩
theorem FF.ft {K:PySem.W.Frag} {x:Str} {st:Stmt} {h:Heap} {mg:Str->Option Value} {ps:List Str} (F:FF K x st) (X:K.In h) (G:h.Ns mainGlobals mg)
  (hb:∀ (kV doc pm:Value) (an:Option Addr) (cdv ct:Value) (us:List Value),us.length=ps.length->bindArgs (PySem.W.fnOf x x (cM st) (aB st) (am st) .none kV doc pm an cdv ct) ⟨us,[]⟩=pure (ps.zip us)):∃ f fd,Fun K x x st f fd/\mg x=some (.ref f)/\lS K fd ps []:=by
 obtain ⟨f,oc,kV,dc,pm,cd,ct,od,an,sl,a,l,d,p⟩:=F
 exact ⟨f,_,qd l d p,PySem.W.mg_of X G a,(qd l d p).binds hb⟩
noncomputable def FT (K:PySem.W.Frag) (mg:Str->Option Value) (x:Str) (st:Stmt) (ps:List Str):Prop:=∃ f fd,Fun K x x st f fd/\mg x=some (.ref f)/\lS K fd ps []
theorem bK {P:Program} {w:World} {K:PySem.W.Frag} {mg:Str->Option Value} {base:Heap} {κ:Nat->Addr} {x:Str} {st:Stmt} {N ps:List Str} {k:Nat} {F:Ev->SR} {Pd:PySem.W.Frag->(Str->Option Value)->Prop} (T:Pd K mg) (h:FT K mg x st ps) (S:FnScope N ps (am st))
  (hb:∀ (X:Cx) (B:Gd),Cxo X->X.calm=true->Pd X.K X.mg->(∀ {y:Str} {qs:List Str} {m:List D->R D} {j:Nat},MC P w K mg base κ y qs m j->j <= k->Cal κ X y qs.length m)->X.N=N->X.env.scope=am st->(∀ y,X.fn y=true)->X.A.units + 64 < cLine->FrmOk X->QZs κ B X (aB st) F) :
  MC P w K mg base κ x ps (λ ds=>b0 (F (aG N.length ds))) (k + 1):=by
 obtain ⟨f,fd,Fn,hm,hbd⟩:=h
 refine ⟨f,fd,yw (k:=k) Fn S (λ X B cx hc e1 e2 e3 e4 e5 hN hsc hfn hr hfr=>?_),hm,Fn.kp,hbd,Fn.at⟩
 subst e1 e2 e3 e4 e5
 exact hb X B cx hc T (λ o hj=>o.cal hr hj) hN hsc hfn hr.units hfr
theorem cU {α:Type} {n:Nat} {us:List α} (h:us.length=n + 1):∃ a t,us=a :: t/\t.length=n:=by
 cases us with
 | nil=>cases h
 | cons a t=>exact ⟨a,t,rfl,Nat.succ.inj h⟩
theorem FF.ft1 {K:PySem.W.Frag} {x:Str} {st:Stmt} {h:Heap} {mg:Str->Option Value} {p0:Str} (F:FF K x st) (X:K.In h) (G:h.Ns mainGlobals mg)
  (hb:∀ (kV doc pm:Value) (an:Option Addr) (cdv ct a:Value),bindArgs (PySem.W.fnOf x x (cM st) (aB st) (am st) .none kV doc pm an cdv ct) ⟨[a],[]⟩=pure [(p0,a)]):FT K mg x st [p0]:=
 F.ft (ps:=[p0]) X G λ kV doc pm an cdv ct us hl=>by
  obtain ⟨a,us1,e1,hl1⟩:=cU (n:=0) hl
  subst e1
  cases List.eq_nil_of_length_eq_zero hl1
  exact hb kV doc pm an cdv ct a
theorem FF.ft2 {K:PySem.W.Frag} {x:Str} {st:Stmt} {h:Heap} {mg:Str->Option Value} {p0 p1:Str} (F:FF K x st) (X:K.In h) (G:h.Ns mainGlobals mg)
  (hb:∀ (kV doc pm:Value) (an:Option Addr) (cdv ct a b:Value),bindArgs (PySem.W.fnOf x x (cM st) (aB st) (am st) .none kV doc pm an cdv ct) ⟨[a,b],[]⟩=pure [(p0,a),(p1,b)]):FT K mg x st [p0,p1]:=
 F.ft (ps:=[p0,p1]) X G λ kV doc pm an cdv ct us hl=>by
  obtain ⟨a,us1,e1,hl1⟩:=cU (n:=1) hl
  subst e1
  obtain ⟨b,us2,e2,hl2⟩:=cU (n:=0) hl1
  subst e2
  cases List.eq_nil_of_length_eq_zero hl2
  exact hb kV doc pm an cdv ct a b
theorem FF.ft3 {K:PySem.W.Frag} {x:Str} {st:Stmt} {h:Heap} {mg:Str->Option Value} {p0 p1 p2:Str} (F:FF K x st) (X:K.In h) (G:h.Ns mainGlobals mg)
  (hb:∀ (kV doc pm:Value) (an:Option Addr) (cdv ct a b c:Value),bindArgs (PySem.W.fnOf x x (cM st) (aB st) (am st) .none kV doc pm an cdv ct) ⟨[a,b,c],[]⟩=pure [(p0,a),(p1,b),(p2,c)]):FT K mg x st [p0,p1,p2]:=
 F.ft (ps:=[p0,p1,p2]) X G λ kV doc pm an cdv ct us hl=>by
  obtain ⟨a,us1,e1,hl1⟩:=cU (n:=2) hl
  subst e1
  obtain ⟨b,us2,e2,hl2⟩:=cU (n:=1) hl1
  subst e2
  obtain ⟨c,us3,e3,hl3⟩:=cU (n:=0) hl2
  subst e3
  cases List.eq_nil_of_length_eq_zero hl3
  exact hb kV doc pm an cdv ct a b c
theorem FF.ft4 {K:PySem.W.Frag} {x:Str} {st:Stmt} {h:Heap} {mg:Str->Option Value} {p0 p1 p2 p3:Str} (F:FF K x st) (X:K.In h) (G:h.Ns mainGlobals mg)
  (hb:∀ (kV doc pm:Value) (an:Option Addr) (cdv ct a b c d:Value),bindArgs (PySem.W.fnOf x x (cM st) (aB st) (am st) .none kV doc pm an cdv ct) ⟨[a,b,c,d],[]⟩=pure [(p0,a),(p1,b),(p2,c),(p3,d)]):FT K mg x st [p0,p1,p2,p3]:=
 F.ft (ps:=[p0,p1,p2,p3]) X G λ kV doc pm an cdv ct us hl=>by
  obtain ⟨a,us1,e1,hl1⟩:=cU (n:=3) hl
  subst e1
  obtain ⟨b,us2,e2,hl2⟩:=cU (n:=2) hl1
  subst e2
  obtain ⟨c,us3,e3,hl3⟩:=cU (n:=1) hl2
  subst e3
  obtain ⟨d,us4,e4,hl4⟩:=cU (n:=0) hl3
  subst e4
  cases List.eq_nil_of_length_eq_zero hl4
  exact hb kV doc pm an cdv ct a b c d
end L3
namespace L3
open PySem PySem.Spec PyProof.Rows L2
section
variable {κ:Nat->Addr} {B:Gd} {X:Cx} {a b c e tg iter elt e1 e2 e3:Expr} {es ifs:List Expr} {f:Ev->R D} {t:Ev->R Bool} {fs fl fit:Ev->R (List D)} {pos pos' pos'' apos p p' px:Pos} {x y:Str} {m:List D->R (List D)} {n i j:Nat} {sc:Scope} {st:Stmt} {bf s1 s2:List Stmt} {F F1 F2:Ev->SR} {Fr2:Ev->R (List D)}
end
section
variable {κ:Nat->Addr} {B:Gd} {X:Cx} {e e1 e2 e3:Expr} {f:Ev->R (List D)} {m2:List D->R (List D)} {x y z g h:Str} {it ik im:Nat} {bf:List Stmt} {F2:Ev->SR} {p p' q q' r1 r2 r3:Pos} {f1:Ev->R (List D × List D × List D)} {f2:Ev->R (List D)} {f3:Ev->R D} {c5 c6:Int}
 {p1 p1' p2 p2' p3 p3' t1 t2 t3 t4 t5 t6 u1 u2 u3 u4 u5 u6 u7 w1 w2 w3 w4 w5 w6 w7:Pos} {j4 j5 j6 l5 l6:_}
end
theorem FM {q:Program} {loose:List Str} {XP:(Str->Option Value)->Heap->Prop} {K:Params->PySem.W.Frag} {as:List Addr} {n t:Nat} {r:PySem.W.RowW} {d:DefRec} {kwd:List (Str × Expr)} {run:Value->List Value->Sem Value}
  (h:PySem.W.WalkO q loose XP (PySem.W.InK K) r d kwd run) (e:∀ P,as=(K P).map (·.1)):PySem.W.WalkX q loose XP (PySem.W.X.obsZ as) (PySem.W.X.valZ K n t) r d kwd run:=
 λ w s₀ s₁ mg mb G y a o pm cd doc dV kV h1 h2 h3 h4 h5 h6 args vals as' L h7 h8 h9 h10 h11=>h w s₀ s₁ mg mb G (PySem.W.InK.keeps w _ _ (PySem.W.X.z_facts e y).2.1 L.keeps) a o pm cd doc dV kV h1 h2 h3 h4 h5 h6 args vals as' h7 h8 h9 h10 h11
end L3
namespace L3
open L2
theorem ac {F1 F2:Ev->SR} {δ δ':Ev} (h:F1 δ=.next δ'):au F1 F2 δ=F2 δ':=by unfold au;rw [h]
theorem b6 {F1 F2:Ev->SR} {δ:Ev} {d:D} (h:F1 δ=.ret d):au F1 F2 δ=.ret d:=by unfold au;rw [h]
theorem aK {t:Ev->R Bool} {F1 F2:Ev->SR} {δ:Ev} (h:t δ=.ok false):c7 t F1 F2 δ=F2 δ:=by unfold c7;rw [h];rfl
theorem aZ {t:Ev->R Bool} {F1 F2:Ev->SR} {δ:Ev} (h:t δ=.ok true):c7 t F1 F2 δ=F1 δ:=by unfold c7;rw [h];rfl
@[simp] theorem Je (δ:Ev):b0 (.next δ)=.ok .non:=rfl
@[simp] theorem JD (d:D):b0 (.ret d)=.ok d:=rfl
@[simp] theorem JC (c:Nat) (δ:Ev):b0 (.exc c δ)=.exc c:=rfl
@[simp] theorem JS (i j:Int):aT (.int i) (.int j)=.ok (.int (i + j)):=rfl
@[simp] theorem JX (i j:Int):gA (.int i) (.int j)=.ok (.int (i - j)):=rfl
theorem ay (i:Int) {j:Int} (h:0 < j):bp (.int i) (.int j)=.ok (.int (i % j)):=by simp [bp,oI,h]
theorem bI (i:Int) {j:Int} (h:0 < j) (h2:j < 1073741824):cY (.int i) (.int j)=.ok (.int (i / j)):=by simp [cY,oI,h,h2]
theorem qr {i:Int} (j:Int) (h:-18446744073709551616 < i) (h2:i < 18446744073709551616):jP (.int i) (.int j)=.ok (.int (i * j)):=by simp [jP,oI,h,h2]
theorem nU (i:Int) {j:Int} (h:-18446744073709551616 < j) (h2:j < 18446744073709551616):jP (.int i) (.int j)=.ok (.int (i * j)):=by simp [jP,oI,h,h2]
@[simp] theorem Ld (i j:Int):oW (.int i) (.int j)=.ok (decide (i < j)):=rfl
@[simp] theorem Lc (i j:Int):Bt (.int i) (.int j)=.ok (decide (i <= j)):=rfl
@[simp] theorem EC (i j:Int):nF (.int i) (.int j)=.ok (decide (j < i)):=rfl
@[simp] theorem La (i j:Int):Gk (.int i) (.int j)=.ok (decide (j <= i)):=rfl
@[simp] theorem L0 {op:D->D->R Bool} {x y:D} {b:Bool} (h:op x y=.ok b):dL op x y=.ok (.bl b):=by unfold dL;rw [h];rfl
@[simp] theorem Lq (b:Bool):BC (.ok b)=.ok (.bl b):=rfl
@[simp] theorem Ju (b:Bool):oF (.bl b)=.ok b:=rfl
@[simp] theorem Ml (b:Bool):DU (.bl b)=.ok b:=rfl
@[simp] theorem Le (i:Int):DU (.int i)=.ok (i != 0):=rfl
@[simp] theorem Lf (ds:List D):DU (.lst ds)=.ok (!ds.isEmpty):=rfl
@[simp] theorem Lg (ds:List D):DU (.tup ds)=.ok (!ds.isEmpty):=rfl
@[simp] theorem JT (ds:List D):b3 (.lst ds)=.ok (.int ds.length):=rfl
@[simp] theorem JU (ds:List D):b3 (.tup ds)=.ok (.int ds.length):=rfl
theorem c0 {ds:List D} {i:Int} {d:D} (h:oD ds i=some d):bO (.lst ds) (.int i)=.ok d:=by simp [bO,h]
theorem zI {ds:List D} {i:Int} {d:D} (h:oD ds i=some d):bO (.tup ds) (.int i)=.ok d:=by simp [bO,h]
theorem cb {α:Type} {l:List α} {k:Nat} {d:α} (h:l[k]?=some d):oD l (k:Int)=some d:=D4 h
section
variable (op:D->D->R D) (opb:D->D->R Bool) (o1:D->R D) (f g h:Ev->R D) (fs gs:Ev->R (List D)) (t u:Ev->R Bool) (m:List D->R D) (δ:Ev) (F1 F2:Ev->SR)
@[simp] theorem Lz (d:D):mC d δ=.ok d:=rfl
@[simp] theorem LH (i:Nat):ae i δ=(match δ[i]? with | some (some (.sh d))=>.ok d | _=>.stuck):=rfl
@[simp] theorem K6 (i:Nat):lA i δ=(match δ[i]? with | some (some (.sh d))=>.ok d | some (some (.ow ds))=>.ok (.lst ds) | _=>.stuck):=rfl
@[simp] theorem MI:m2 op f g δ=(f δ).bind λ x=>(g δ).bind λ y=>op x y:=rfl
@[simp] theorem Ms:bC opb f g δ=(f δ).bind λ x=>(g δ).bind λ y=>opb x y:=rfl
@[simp] theorem MH:m1 o1 f δ=(f δ).bind o1:=rfl
@[simp] theorem LB:ar δ=.ok []:=rfl
@[simp] theorem K3:ah f fs δ=(f δ).bind λ x=>(fs δ).bind λ xs=>.ok (x :: xs):=rfl
@[simp] theorem K1:aH m fs δ=(fs δ).bind m:=rfl
@[simp] theorem ML:mT f δ=(f δ).bind DU:=rfl
@[simp] theorem LD:ud t δ=(t δ).bind λ k=>.ok (!k):=rfl
@[simp] theorem Ly:gX t u δ=(t δ).bind λ k=>if k then u δ else .ok false:=rfl
@[simp] theorem Mv:ue t u δ=(t δ).bind λ k=>if k then .ok true else u δ:=rfl
@[simp] theorem K0:jL f g δ=(f δ).bind λ x=>(oF x).bind λ k=>if k then g δ else .ok (.bl false):=rfl
@[simp] theorem LF:uf f g δ=(f δ).bind λ x=>(oF x).bind λ k=>if k then .ok (.bl true) else g δ:=rfl
@[simp] theorem K5:JL f δ=(f δ).bind λ x=>(oF x).bind λ k=>.ok (.bl (!k)):=rfl
@[simp] theorem Mu:zC t f g δ=(t δ).bind λ k=>if k then f δ else g δ:=rfl
@[simp] theorem LG:i8 fs δ=(fs δ).bind λ xs=>if xs.length <= 1000000 then .ok (.tup xs) else .stuck:=rfl
@[simp] theorem LA:b8 fs δ=(fs δ).bind λ xs=>if xs.length <= 1000000 then .ok (.lst xs) else .stuck:=rfl
@[simp] theorem LM (i:Nat):aJ i f δ=bS (f δ) δ λ d=>.next (δ.set i (some (.sh d))):=rfl
@[simp] theorem Mx:c7 t F1 F2 δ=bS (t δ) δ λ k=>if k then F1 δ else F2 δ:=rfl
@[simp] theorem LL:bx f δ=bS (f δ) δ .ret:=rfl
@[simp] theorem K7:qS f δ=bS (f δ) δ λ _=>.next δ:=rfl
@[simp] theorem LK (i:Nat):kd i fs δ=bS (fs δ) δ λ ds=>.next (δ.set i (some (.ow ds))):=rfl
@[simp] theorem MG (i:Nat) (d:D):bN i d δ=some (δ.set i (some (.sh d))):=rfl
@[simp] theorem LJ (bd:D->Ev->Option Ev):xx bd f δ=bS (f δ) δ λ d=>match bd d δ with | some δ'=>.next δ' | none=>.stuck:=rfl
@[simp] theorem Hx (i j:Int):dL cz (.int i) (.int j)=.ok (.bl (i == j)):=rfl
@[simp] theorem HC (i j:Int):dL ul (.int i) (.int j)=.ok (.bl (!(i == j))):=rfl
@[simp] theorem HB (i j:Int):dL oW (.int i) (.int j)=.ok (.bl (decide (i < j))):=rfl
@[simp] theorem HA (i j:Int):dL Bt (.int i) (.int j)=.ok (.bl (decide (i <= j))):=rfl
@[simp] theorem Hz (i j:Int):dL nF (.int i) (.int j)=.ok (.bl (decide (j < i))):=rfl
@[simp] theorem Hy (i j:Int):dL Gk (.int i) (.int j)=.ok (.bl (decide (j <= i))):=rfl
end
theorem so {bd:D->Ev->Option Ev} {F:Ev->SR} (P:Nat->Ev->Prop):∀ (ds:List D) (n:Nat) (δ:Ev),P n δ->(∀ k d δ,ds[k]?=some d->P (n + k) δ->∃ δ1 δ2,bd d δ=some δ1/\(F δ1=.next δ2 \/ F δ1=.cont δ2)/\P (n + k + 1) δ2) →
  ∃ δ',cu bd F ds δ=.next δ'/\P (n + ds.length) δ'
 | [],n,δ,h0,_=>⟨δ,rfl,h0⟩
 | d :: ds,n,δ,h0,hs=>by
  obtain ⟨δ1,δ2,e1,e2,p2⟩:=hs 0 d δ rfl h0
  obtain ⟨δ',e3,p3⟩:=so P ds (n + 1) δ2 p2 λ k d' δ'' e p=>by
   have:=hs (k + 1) d' δ'' (by simpa using e) (by rw [show n + (k + 1)=n + 1 + k by (first | lia | omega)];exact p)
   rw [show n + (k + 1) + 1=n + 1 + k + 1 by (first | lia | omega)] at this
   exact this
  refine ⟨δ',?_,by rw [List.length_cons,show n + (ds.length + 1)=n + 1 + ds.length by (first | lia | omega)];exact p3⟩
  unfold cu
  simp only [e1]
  rcases e2 with e2 | e2 <;> simp only [e2,e3]
theorem ck {fit:Ev->R (List D)} {bd:D->Ev->Option Ev} {F:Ev->SR} {δ:Ev} {ds:List D} (P:Nat->Ev->Prop) (h:fit δ=.ok ds) (h0:P 0 δ) (hs:∀ k d δ,ds[k]?=some d->P k δ->∃ δ1 δ2,bd d δ=some δ1/\(F δ1=.next δ2 \/ F δ1=.cont δ2)/\P (k + 1) δ2) :
  ∃ δ',df fit bd F δ=.next δ'/\P ds.length δ':=by
 obtain ⟨δ',e,p⟩:=so P ds 0 δ h0 λ k d δ e q=>by simpa using hs k d δ e (by simpa using q)
 exact ⟨δ',by unfold df;rw [h];exact e,by simpa using p⟩
theorem jQ {lo hi:Int} {k:Nat} {d:D} (h:(iA lo hi)[k]?=some d):d=.int (lo + k)/\lo + k < hi:=by
 unfold iA at h
 rw [List.getElem?_map] at h
 cases q:(List.range (hi - lo).toNat)[k]? with
 | none=>rw [q] at h;cases h
 | some j =>
  rw [q] at h
  have hk:=(List.getElem?_eq_some_iff.mp q).1
  rw [List.length_range] at hk
  rw [List.getElem?_range hk] at q
  cases q
  cases h
  exact ⟨rfl,by (first | lia | omega)⟩
theorem eD (lo hi:Int):(iA lo hi).length=(hi - lo).toNat:=by simp [iA]
theorem nC {t:Ev->R Bool} {F:Ev->SR} {n:Nat} {δ:Ev} (h:t δ=.ok false):cC t F (n + 1) δ=.next δ:=by simp [cC,h]
theorem oK {t:Ev->R Bool} {F:Ev->SR} {n:Nat} {δ δ':Ev} (h:t δ=.ok true) (h2:F δ=.next δ'):cC t F (n + 1) δ=cC t F n δ':=by simp [cC,h,h2]
theorem lR {t:Ev->R Bool} {F:Ev->SR} (P:Nat->Ev->Prop) (step:∀ k δ,P k δ->t δ=.ok false \/ (t δ=.ok true/\∃ δ' k',k' < k/\F δ=.next δ'/\P k' δ')):∀ (n k:Nat) (δ:Ev),k < n->P k δ->∃ δ' k',cC t F n δ=.next δ'/\P k' δ'/\t δ'=.ok false
 | 0,_,_,h,_=>absurd h (Nat.not_lt_zero _)
 | n + 1,k,δ,h,p=>by
  rcases step k δ p with c | ⟨c,δ',k',h1,h2,h3⟩
  ·exact ⟨δ,k,nC c,p,c⟩
  ·obtain ⟨δ2,k2,e,q⟩:=lR P step n k' δ' (by (first | lia | omega)) h3
   exact ⟨δ2,k2,by rw [oK c h2];exact e,q⟩
noncomputable def cell (ns:List Int) (k:Nat):Int:=ns.getD k 0
end L3
namespace L3
open PySem L2
noncomputable abbrev eM (r:List Int):D:=.lst (r.map D.int)
theorem uD (r:List Int):plainDs (r.map D.int)=true:=by
 induction r with
 | nil=>rfl
 | cons a r ih=>simp [plainDs,eL,ih]
theorem Ch (r:List Int):PyData.canLayAll0 (toPs (r.map D.int))=true:=by
 induction r with
 | nil=>rfl
 | cons a r ih=>simp [toPs,Ad,PyData.canLayAll0,PyData.canLay0,ih]
theorem xO (r:List Int):PyData.depthAll (toPs (r.map D.int))=0:=by
 induction r with
 | nil=>rfl
 | cons a r ih=>simp [toPs,Ad,PyData.depthAll,PyData.depth,ih]
theorem pg (r:List Int):wG (eM r)=true:=by
 unfold wG SeqAt.shaped
 simp [eM,eL,uD,Ad,PyData.canLay0,Ch,PyData.depth,xO]
theorem zp (ds:List D):AB (.lst ds) (.lst [])=ds.isEmpty:=by
 unfold AB
 cases ds <;> simp [Ad,toPs,PyData.eqv,PyData.eqvAll]
@[simp] theorem wF (r:List Int):cz (eM r) (.lst [])=.ok r.isEmpty:=by
 unfold cz
 rw [pg,show wG (.lst [])=true from pg [],zp]
 simp
@[simp] theorem Gm (r:List Int):ul (eM r) (.lst [])=.ok (!r.isEmpty):=by
 unfold ul
 rw [pg,show wG (.lst [])=true from pg [],zp]
 simp
theorem tX (d:Int) (r:List Int):xz (.int d) (eM r)=.ok (decide (d∈r)):=by
 have hf:(r.map D.int).all cD=true:=by rw [List.all_map];exact List.all_eq_true.mpr λ _ _=>rfl
 have e0:xz (.int d) (eM r)=.ok ((r.map D.int).any λ e=>DP e (.int d)):=if_pos (show (cD (.int d) && (r.map D.int).all cD)=true by rw [hf];rfl)
 rw [e0]
 congr 1
 rw [Bool.eq_iff_iff,List.any_map,List.any_eq_true,decide_eq_true_eq]
 constructor
 ·rintro ⟨x,hx,e⟩
  have e':x=d:=eq_of_beq (show (x == d)=true from e)
  exact e' ▸ hx
 ·intro h
  exact ⟨d,h,beq_self_eq_true d⟩
@[simp] theorem Lb (d:Int) (r:List Int):sx (.int d) (eM r)=.ok (decide (d∈r)):=tX d r
@[simp] theorem JW (d:Int) (r:List Int):iu (.int d) (eM r)=.ok (!decide (d∈r)):=by unfold iu;rw [tX];rfl
theorem zH {r:List Int} {k:Nat} {d:Int} (h:r[k]?=some d):bO (eM r) (.int (k:Int))=.ok (.int d):=c0 (cb (by simp [h]))
section
variable (f:Ev->R D) (fl fh:Ev->R (Option Int)) (δ:Ev) (fs fit:Ev->R (List D)) (t:Ev->R Bool)
@[simp] theorem Mw:jW f fl fh δ=(f δ).bind λ x=>(fl δ).bind λ l=>(fh δ).bind λ u=>um x l u:=rfl
@[simp] theorem MK:mP f δ=(f δ).bind λ d=>match d with | .int i=>.ok (some i) | _=>.stuck:=rfl
@[simp] theorem LC:dD δ=.ok none:=rfl
@[simp] theorem MJ:mL fs δ=(fs δ).bind λ ds=>.ok (.lst ds):=rfl
@[simp] theorem K2:ec fit t f δ=(fit δ).bind λ ds=>if ds.length <= 1000000 then LV (fv t f (qW δ) ds) else .stuck:=rfl
@[simp] theorem LI (i:Nat):iC i f δ=(match δ[i]? with | some (some (.ow ds))=>bS (f δ) δ λ d=>if ds.length < 1000000 then .next (δ.set i (some (.ow (ds++[d])))) else .stuck | _=>.stuck):=rfl
@[simp] theorem JV (i:Int):LZ (.int i)=.ok (.int (-i)):=rfl
@[simp] theorem Hd (ds:List D):br (.lst ds)=.ok ds:=rfl
end
theorem ui {xs ys:List D} (h:xs.length + ys.length <= 1000000):qp (.lst xs) (.lst ys)=.ok (.lst (xs++ys)):=by simp [qp,h]
theorem sIx_nat {n:Nat} {d k:Nat} (h:k <= n):HT.sIx n d (some (k:Int))=k:=by
 rw [HT.sIx_nat]
 exact Nat.min_eq_left h
theorem zx {n:Nat} (h:n <= 1000000):uZ [.int (n:Int)]=.ok (iA 0 n):=by
 simp only [uZ]
 exact if_pos ⟨by (first | lia | omega),by (first | lia | omega)⟩
theorem GY {i j:Int} (h1:-1000000 <= i) (h2:i <= 1000000) (h3:-1000000 <= j) (h4:j <= 1000000):we [.int i,.int j]=.ok (iA i j):=by
 simp only [we]
 exact if_pos ⟨⟨by (first | lia | omega),by (first | lia | omega)⟩,by (first | lia | omega),by (first | lia | omega)⟩
theorem BY {δ:Ev} {i n:Nat} (h:ae i δ=.ok (.int (n:Int))) (hl:n <= 1000000):(λ δ=>((ah (ae i) ar) δ).bind uZ) δ=.ok (iA 0 n):=by
 have e:(ah (ae i) ar) δ=.ok [.int (n:Int)]:=by
  unfold ah
  rw [h,R.bind_ok]
  rfl
 show ((ah (ae i) ar) δ).bind uZ=_
 rw [e,R.bind_ok,zx hl]
theorem GV {δ:Ev} {fs:Ev->R (List D)} {n:Nat} (h:fs δ=.ok [.int (n:Int)]) (hl:n <= 1000000):(λ δ=>(fs δ).bind uZ) δ=.ok (iA 0 n):=by
 show (fs δ).bind uZ=_
 rw [h,R.bind_ok,zx hl]
theorem GW {δ:Ev} {fs:Ev->R (List D)} {i j:Int} (h:fs δ=.ok [.int i,.int j]) (h1:-1000000 <= i) (h2:i <= 1000000) (h3:-1000000 <= j) (h4:j <= 1000000):(λ δ=>(fs δ).bind we) δ=.ok (iA i j):=by
 show (fs δ).bind we=_
 rw [h,R.bind_ok,GY h1 h2 h3 h4]
end L3
namespace L3
open PySem L2
theorem eG {α:Type} {f:α->D} {l:List α} {i:Nat} {fit:Ev->R (List D)} {F:Ev->SR} {δ:Ev} (P:Nat->Ev->Prop) (h:fit δ=.ok (l.map f)) (h0:P 0 δ)
  (hs:∀ k a δ,l[k]?=some a->P k δ->∃ δ2,(F (δ.set i (some (.sh (f a))))=.next δ2 \/ F (δ.set i (some (.sh (f a))))=.cont δ2)/\P (k + 1) δ2):∃ δ',df fit (bN i) F δ=.next δ'/\P l.length δ':=by
 have:=ck (fit:=fit) (bd:=bN i) (F:=F) (δ:=δ) (ds:=l.map f) P h h0 (by
  intro k d δ1 hd p
  rw [List.getElem?_map] at hd
  cases q:l[k]? with
  | none=>rw [q] at hd;cases hd
  | some a =>
   rw [q] at hd
   cases hd
   obtain ⟨δ2,h1,h2⟩:=hs k a δ1 q p
   exact ⟨_,δ2,rfl,h1,h2⟩)
 simpa using this
theorem mW {α:Type} (xs:List α) {b:Nat} (h:b <= xs.length):gz xs none (some (b:Int))=xs.take b:=by
 unfold gz
 rw [HT.sIx_none,sIx_nat h]
 simp
theorem rR {α:Type} (xs:List α) {a:Nat} (h:a <= xs.length):gz xs (some (a:Int)) none=xs.drop a:=by
 unfold gz
 rw [HT.sIx_none,sIx_nat h]
 rw [List.take_of_length_le (by rw [List.length_drop];(first | lia | omega))]
theorem K4 (δ:Ev):b8 ar δ=.ok (.lst []):=rfl
noncomputable def qF (lo hi:Int):List Int:=(List.range (hi - lo).toNat).map λ k:Nat=>lo + (k:Int)
theorem wY (lo hi:Int):iA lo hi=(qF lo hi).map D.int:=by
 unfold iA qF
 rw [List.map_map]
 rfl
theorem qm {lo hi d:Int}:d∈qF lo hi ↔ lo <= d/\d < hi:=by
 unfold qF
 rw [List.mem_map]
 constructor
 ·rintro ⟨k,hk,rfl⟩
  have:=List.mem_range.mp hk
  (first | lia | omega)
 ·rintro ⟨h1,h2⟩
  exact ⟨(d - lo).toNat,List.mem_range.mpr (by (first | lia | omega)),by (first | lia | omega)⟩
theorem qG (lo hi:Int):(qF lo hi).length=(hi - lo).toNat:=by simp [qF]
@[simp] theorem pf (k:Bool):uj [.bl k]=.ok (.int (if k then 1 else 0)):=rfl
@[simp] theorem Mt (o:List D->R D) (fs:Ev->R (List D)) (δ:Ev):Ge o fs δ=(fs δ).bind o:=rfl
theorem pQ {α:Type} {l:List α} {h:α->D} {g:α->D} {f:Ev->R D} {fit:Ev->R (List D)} {δ:Ev} (hf:fit δ=.ok (l.map h)) (hl:l.length <= 1000000) (he:∀ a∈l,f (qW δ++[some (.sh (h a))])=.ok (g a)):ec fit (λ _=>.ok true) f δ=.ok (l.map g):=by
 have key:∀ l:List α,(∀ a∈l,f (qW δ++[some (.sh (h a))])=.ok (g a))->fv (λ _=>.ok true) f (qW δ) (l.map h)=.ok (l.map g):=by
  intro l
  induction l with
  | nil=>intro _;rfl
  | cons a l ih =>
   intro he
   rw [List.map_cons,List.map_cons,fv,R.bind_ok,if_pos rfl,he a List.mem_cons_self,R.bind_ok,ih λ b hb=>he b (List.mem_cons_of_mem _ hb)]
   rfl
 unfold ec
 rw [hf,R.bind_ok,if_pos (by rw [List.length_map];exact hl),key l he]
 rfl
theorem vM {α:Type} {l:List α} {h:α->D} {g:α->D} {p:α->Bool} {t:Ev->R Bool} {f:Ev->R D} {fit:Ev->R (List D)} {δ:Ev} (hf:fit δ=.ok (l.map h)) (hl:l.length <= 1000000) (ht:∀ a∈l,t (qW δ++[some (.sh (h a))])=.ok (p a))
  (he:∀ a∈l,p a=true->f (qW δ++[some (.sh (h a))])=.ok (g a)):ec fit t f δ=.ok ((l.filter p).map g):=by
 have key:∀ l:List α,(∀ a∈l,t (qW δ++[some (.sh (h a))])=.ok (p a))->(∀ a∈l,p a=true->f (qW δ++[some (.sh (h a))])=.ok (g a))->fv t f (qW δ) (l.map h)=.ok ((l.filter p).map g):=by
  intro l
  induction l with
  | nil=>intro _ _;rfl
  | cons a l ih =>
   intro ht he
   have i:=ih (λ b hb=>ht b (List.mem_cons_of_mem _ hb)) (λ b hb=>he b (List.mem_cons_of_mem _ hb))
   rw [List.map_cons,fv,ht a List.mem_cons_self,R.bind_ok,List.filter_cons]
   cases c:p a with
   | true =>
    rw [if_pos rfl,he a List.mem_cons_self c,R.bind_ok,i]
    rfl
   | false=>simpa using i
 unfold ec
 rw [hf,R.bind_ok,if_pos (by rw [List.length_map];exact hl),key l ht he]
 rfl
theorem d5 {i:Nat} {f:Ev->R D} {δ:Ev} {d:D} {ds:List D} (h:f δ=.ok d) (hi:δ[i]?=some (some (.ow ds))) (hl:ds.length < 1000000):iC i f δ=.next (δ.set i (some (.ow (ds++[d])))):=by
 unfold iC
 rw [hi,h]
 simp [hl]
theorem ao {i:Nat} {f:Ev->R D} {δ:Ev} {d:D} (h:f δ=.ok d):aJ i f δ=.next (δ.set i (some (.sh d))):=by unfold aJ;rw [h];rfl
theorem gn {i:Nat} {f:Ev->R (List D)} {δ:Ev} {ds:List D} (h:f δ=.ok ds):kd i f δ=.next (δ.set i (some (.ow ds))):=by unfold kd;rw [h];rfl
theorem bh {f:Ev->R D} {δ:Ev} {d:D} (h:f δ=.ok d):bx f δ=.ret d:=by unfold bx;rw [h];rfl
end L3
set_option maxHeartbeats 400000
namespace Lw
open PySem PySem.Spec PyProof.Rows L2 L3
noncomputable def aR (i:Nat):Stmt:=PySem.Challenge.pw_inkdays_k11_written_in_a_form.main.body.getD i (.Pass ⟨0,0,0,0⟩)
noncomputable def c_PLACES:D:=.tup [D.str [60,100,62],D.str [60,109,62],D.str [60,121,62],D.str [60,89,62],D.str [60,110,62],D.str [60,119,62]]
noncomputable def c_PLAIN_SIGNS:D:=.str [97,98,99,100,101,102,103,104,105,106,107,108,109,110,111,112,113,114,115,116,117,118,119,120,121,122,48,49,50,51,52,53,54,55,56,57,32,46,47,45,44]
noncomputable def c_MOST_LACKING_PARTS:D:=.int 3
noncomputable def c_LONGEST_FORM:D:=.int 30
noncomputable def c_LONGEST_TEXT:D:=.int 20
noncomputable def c_LAST_NUMBER:D:=.int 3652058
noncomputable def c_DAYS_OF_400_YEARS:D:=.int 146097
noncomputable def c_COMMON_LENGTHS:D:=.tup [D.int 31,D.int 28,D.int 31,D.int 30,D.int 31,D.int 30,D.int 31,D.int 31,D.int 30,D.int 31,D.int 30,D.int 31]
noncomputable def c_WEEKDAYS:D:=.tup [D.str [109,111,110,100,97,121],D.str [116,117,101,115,100,97,121],D.str [119,101,100,110,101,115,100,97,121],D.str [116,104,117,114,115,100,97,121],D.str [102,114,105,100,97,121],D.str [115,97,116,117,114,100,97,121],D.str [115,117,110,100,97,121]]
noncomputable def c_MONTHS:D:=.tup [D.str [106,97,110,117,97,114,121],D.str [102,101,98,114,117,97,114,121],D.str [109,97,114,99,104],D.str [97,112,114,105,108],D.str [109,97,121],D.str [106,117,110,101],D.str [106,117,108,121],D.str [97,117,103,117,115,116],D.str [115,101,112,116,101,109,98,101,114],D.str [111,99,116,111,98,101,114],D.str [110,111,118,101,109,98,101,114],D.str [100,101,99,101,109,98,101,114]]
noncomputable def pr:Ev->SR:=bx (mC (.int 0))
noncomputable def vh:Ev->SR:=au (c7 (bC oW (ae 1) (m1 b3 (ae 0))) (bx (m2 bO (ae 0) (ae 1))) (SR.next)) pr
noncomputable def bz (ds:List D):R D:=b0 (vh (aG 2 ds))
theorem Dy:FnScope ["_law_script", "_law_k"] ["_law_script", "_law_k"] (am (aR 41)):=i5
theorem BO {κ:Nat->Addr} {X:Cx} {B:Gd} (cx:Cxo X) (hcalm:X.calm=true) (hN:X.N=[("_law_script" : Str),("_law_k" : Str)]) (hsc:X.env.scope=am (aR 41)) (hfn:∀ y,X.fn y=true) (hu:X.A.units + 64 < cLine) (b_len:X.mg "len" = none):QZs κ B X (aB (aR 41)) vh:=by
 have hnd:X.N.Nodup:=by rw [hN];decide +kernel
 have V0:VP X 0 "_law_script":=ba cx hnd hfn hN hsc
 have V1:VP X 1 "_law_k":=ba cx hnd hfn hN hsc
 have hg_len:Gl X "len":=b9 hsc
 refine ag (F1:=c7 (bC oW (ae 1) (m1 b3 (ae 0))) (bx (m2 bO (ae 0) (ae 1))) (SR.next)) (F2:=pr) ?_ ?_
 ·exact aY cx (nu ((V1.v).read) ((cB hg_len b_len ((V0.v).read) rfl).read) (aq rfl)) (aj (aF cx (bo ((V0.v).read) ((V1.v).read) rfl))) (aI)
 exact aj (aF cx (af))
noncomputable def gw:Ev->SR:=c7 (mT (ae 1)) (au (aJ 5 (m2 bp (m2 aT (m2 aT (m2 jP (ae 5) (mC (.int 48271))) (m2 jP (mC (.int 7919)) (ae 6))) (mC (.int 11))) (mC (.int 2147483647)))) (iC 4 (m2 bp (m2 bp (m2 jP (ae 5) (mC (.int 16807))) (mC (.int 2147483629))) (ae 3)))) (au (iC 4 (m2 bp (ae 5) (ae 3))) (aJ 5 (m2 cY (ae 5) (ae 3))))
noncomputable def qZ:Ev->SR:=bx (ae 4)
noncomputable def kr:Ev->SR:=λ δ=>(qZ) (qc 4 δ)
noncomputable def kZ:Ev->SR:=df (λ δ=>((ah (ae 2) (ar)) δ).bind uZ) (bN 6) (gw)
noncomputable def kq:Ev->SR:=au (kZ) kr
noncomputable def kY:Ev->SR:=aJ 5 (ae 0)
noncomputable def ko:Ev->SR:=au (kY) kq
noncomputable def kX:Ev->SR:=kd 4 (λ δ=>lim ((ar) δ))
noncomputable def ol:Ev->SR:=au (kX) ko
noncomputable def cm (ds:List D):R D:=b0 (ol (aG 7 ds))
theorem w9:FnScope ["_law_cell", "_law_mixed", "_law_many", "_law_most", "_law_made", "_law_rest", "_law_k"] ["_law_cell", "_law_mixed", "_law_many", "_law_most"] (am (aR 42)):=i5
theorem vR {κ:Nat->Addr} {X:Cx} {B:Gd} (cx:Cxo X) (hcalm:X.calm=true) (hN:X.N=[("_law_cell" : Str),("_law_mixed" : Str),("_law_many" : Str),("_law_most" : Str),("_law_made" : Str),("_law_rest" : Str),("_law_k" : Str)]) (hsc:X.env.scope=am (aR 42)) (hfn:∀ y,X.fn y=true) (hu:X.A.units + 64 < cLine) (b_range:X.mg "range" = none):QZs κ B X (aB (aR 42)) ol:=by
 have hnd:X.N.Nodup:=by rw [hN];decide +kernel
 have V0:VP X 0 "_law_cell":=ba cx hnd hfn hN hsc
 have V1:VP X 1 "_law_mixed":=ba cx hnd hfn hN hsc
 have V2:VP X 2 "_law_many":=ba cx hnd hfn hN hsc
 have V3:VP X 3 "_law_most":=ba cx hnd hfn hN hsc
 have V4:VP X 4 "_law_made":=ba cx hnd hfn hN hsc
 have V5:VP X 5 "_law_rest":=ba cx hnd hfn hN hsc
 have V6:VP X 6 "_law_k":=ba cx hnd hfn hN hsc
 have hg_range:Gl X "range":=b9 hsc
 refine ag (F1:=kX) (F2:=ko) ?_ ?_
 ·exact V4.w (eB (ai)) rfl
 refine ag (F1:=kY) (F2:=kq) ?_ ?_
 ·exact V5.s (V0.v) rfl
 refine ag (F1:=kZ) (F2:=kr) ?_ ?_
 ·exact cr cx hcalm (iy hg_range b_range (aa (V2.v) (ai) rfl) rfl) (λ B=>V6.t) (λ B=>aj (aY cx (cF ((V1.v).read) rfl) (ag (V5.s (aD ((az ((az ((cK ((V5.v).read) ((af).read)).read) ((cK ((af).read) ((V6.v).read)).read)).read) ((af).read)).read) ((af).read)) rfl) (aj (V4.a (aD ((aD ((cK ((V5.v).read) ((af).read)).read) ((af).read)).read) ((V3.v).read)) rfl rfl))) (ag (V4.a (aD ((V5.v).read) ((V3.v).read)) rfl rfl) (aj (V5.s (bX ((V5.v).read) ((V3.v).read)) rfl))))) rfl
 refine fH 4 (F:=_) ?_
 exact aj (aF cx (V4.v))
noncomputable def dU:Ev->SR:=au (aJ 11 (m2 bO (ae 4) (m2 aT (m2 aT (mC (.int 10)) (m2 jP (mC (.int 3)) (ae 8))) (ae 10)))) (au (aJ 12 (m2 bO (ae 3) (m2 bO (ae 4) (m2 aT (m2 aT (mC (.int 25)) (m2 jP (mC (.int 3)) (ae 8))) (ae 10))))) (au (c7 (gX (bC nF (m2 bp (ae 11) (mC (.int 4))) (mC (.int 0))) (bC iu (m2 bO (ae 2) (m2 bp (m2 cY (ae 11) (mC (.int 4))) (mC (.int 6)))) (lA 6))) (au (aJ 12 (m2 bO (ae 2) (m2 bp (m2 cY (ae 11) (mC (.int 4))) (mC (.int 6))))) (iC 6 (ae 12))) (SR.next)) (iC 9 (ae 12))))
noncomputable def gv:Ev->SR:=au (kd 9 (λ δ=>lim ((ar) δ))) (au (df (λ δ=>((ah (m2 aT (mC (.int 1)) (m2 bp (m2 bO (ae 4) (m2 aT (mC (.int 1)) (ae 8))) (mC (.int 3)))) (ar)) δ).bind uZ) (bN 10) (dU)) (au (aJ 13 (Ge uj (ah (jL (m2 (dL oW) (m2 bp (m2 bO (ae 4) (m2 aT (mC (.int 5)) (ae 8))) (mC (.int 5))) (mC (.int 2))) (m2 (dL oW) (ae 7) (mC (.int 3)))) (ar)))) (au (aJ 7 (m2 aT (ae 7) (ae 13))) (λ δ=>(iC 5 (i8 (ah (ae 13) (ah (ae 9) (ar))))) (qc 9 δ)))))
noncomputable def qY:Ev->SR:=bx (ae 5)
noncomputable def kn:Ev->SR:=λ δ=>(qY) (qc 5 δ)
noncomputable def kW:Ev->SR:=df (λ δ=>((ah (m2 aT (mC (.int 1)) (m2 bp (m2 bO (ae 4) (mC (.int 0))) (mC (.int 4)))) (ar)) δ).bind uZ) (bN 8) (gv)
noncomputable def km:Ev->SR:=au (kW) kn
noncomputable def kU:Ev->SR:=aJ 7 (mC (.int 0))
noncomputable def kl:Ev->SR:=au (kU) km
noncomputable def kT:Ev->SR:=kd 6 (λ δ=>lim ((ar) δ))
noncomputable def kj:Ev->SR:=au (kT) kl
noncomputable def kS:Ev->SR:=kd 5 (λ δ=>lim ((ar) δ))
noncomputable def ki:Ev->SR:=au (kS) kj
noncomputable def kR:Ev->SR:=aJ 4 (aH cm (ah (ae 0) (ah (ae 1) (ah (mC (.int 40)) (ah (mC (.int 41)) (ar))))))
noncomputable def kh:Ev->SR:=au (kR) ki
noncomputable def kQ:Ev->SR:=aJ 3 (mC (.str [97,98,99,100,101,102,103,104,105,106,107,108,109,110,111,112,113,114,115,116,117,118,119,120,121,122,48,49,50,51,52,53,54,55,56,57,32,46,47,45,44]))
noncomputable def kg:Ev->SR:=au (kQ) kh
noncomputable def kP:Ev->SR:=aJ 2 (b8 (λ _=>.ok [D.str [60,100,62],D.str [60,109,62],D.str [60,121,62],D.str [60,89,62],D.str [60,110,62],D.str [60,119,62]]))
noncomputable def oj:Ev->SR:=au (kP) kg
noncomputable def eh (ds:List D):R D:=b0 (oj (aG 14 ds))
theorem w8:FnScope ["_law_cell", "_law_mixed", "_law_places", "_law_signs", "_law_picks", "_law_parts", "_law_used", "_law_lackings", "_law_k", "_law_tokens", "_law_j", "_law_pick", "_law_token", "_law_lacking"] ["_law_cell", "_law_mixed"] (am (aR 43)):=i5
theorem vQ {κ:Nat->Addr} {X:Cx} {B:Gd} (cx:Cxo X) (hcalm:X.calm=true) (hN:X.N=[("_law_cell" : Str),("_law_mixed" : Str),("_law_places" : Str),("_law_signs" : Str),("_law_picks" : Str),("_law_parts" : Str),("_law_used" : Str),("_law_lackings" : Str),("_law_k" : Str),("_law_tokens" : Str),("_law_j" : Str),("_law_pick" : Str),("_law_token" : Str),("_law_lacking" : Str)]) (hsc:X.env.scope=am (aR 43)) (hfn:∀ y,X.fn y=true) (hu:X.A.units + 64 < cLine) (k_law_draws:Cal κ X "_law_draws" 4 cm) (b_int:X.mg "int" = none) (b_range:X.mg "range" = none):QZs κ B X (aB (aR 43)) oj:=by
 have hnd:X.N.Nodup:=by rw [hN];decide +kernel
 have V0:VP X 0 "_law_cell":=ba cx hnd hfn hN hsc
 have V1:VP X 1 "_law_mixed":=ba cx hnd hfn hN hsc
 have V2:VP X 2 "_law_places":=ba cx hnd hfn hN hsc
 have V3:VP X 3 "_law_signs":=ba cx hnd hfn hN hsc
 have V4:VP X 4 "_law_picks":=ba cx hnd hfn hN hsc
 have V5:VP X 5 "_law_parts":=ba cx hnd hfn hN hsc
 have V6:VP X 6 "_law_used":=ba cx hnd hfn hN hsc
 have V7:VP X 7 "_law_lackings":=ba cx hnd hfn hN hsc
 have V8:VP X 8 "_law_k":=ba cx hnd hfn hN hsc
 have V9:VP X 9 "_law_tokens":=ba cx hnd hfn hN hsc
 have V10:VP X 10 "_law_j":=ba cx hnd hfn hN hsc
 have V11:VP X 11 "_law_pick":=ba cx hnd hfn hN hsc
 have V12:VP X 12 "_law_token":=ba cx hnd hfn hN hsc
 have V13:VP X 13 "_law_lacking":=ba cx hnd hfn hN hsc
 have hg_law_draws:Gl X "_law_draws":=b9 hsc
 have hg_int:Gl X "int":=b9 hsc
 have hg_range:Gl X "range":=b9 hsc
 refine ag (F1:=kP) (F2:=kg) ?_ ?_
 ·exact V2.s (aV (de (ds:=[D.str [60,100,62],D.str [60,109,62],D.str [60,121,62],D.str [60,89,62],D.str [60,110,62],D.str [60,119,62]]) (by rfl))) rfl
 refine ag (F1:=kQ) (F2:=kh) ?_ ?_
 ·exact V3.s (aO (l:=[97,98,99,100,101,102,103,104,105,106,107,108,109,110,111,112,113,114,115,116,117,118,119,120,121,122,48,49,50,51,52,53,54,55,56,57,32,46,47,45,44]) (by decide +kernel)) rfl
 refine ag (F1:=kR) (F2:=ki) ?_ ?_
 ·exact V4.s (aw cx k_law_draws rfl hg_law_draws (aa (V0.v) (aa (V1.v) (aa (af) (aa (af) (ai) rfl) rfl) rfl) rfl)) rfl
 refine ag (F1:=kS) (F2:=kj) ?_ ?_
 ·exact V5.w (eB (ai)) rfl
 refine ag (F1:=kT) (F2:=kl) ?_ ?_
 ·exact V6.w (eB (ai)) rfl
 refine ag (F1:=kU) (F2:=km) ?_ ?_
 ·exact V7.s (af) rfl
 refine ag (F1:=kW) (F2:=kn) ?_ ?_
 ·exact cr cx hcalm (iy hg_range b_range (aa (az ((af).read) ((aD ((bo ((V4.v).read) ((af).read) rfl).read) ((af).read)).read)) (ai) rfl) rfl) (λ B=>V8.t) (λ B=>ag (V9.w (eB (ai)) rfl) (ag (cr cx hcalm (iy hg_range b_range (aa (az ((af).read) ((aD ((bo ((V4.v).read) ((az ((af).read) ((V8.v).read)).read) rfl).read) ((af).read)).read)) (ai) rfl) rfl) (λ B=>V10.t) (λ B=>ag (V11.s (bo ((V4.v).read) ((az ((az ((af).read) ((cK ((af).read) ((V8.v).read)).read)).read) ((V10.v).read)).read) rfl) rfl) (ag (V12.s (bo ((V3.v).read) ((bo ((V4.v).read) ((az ((az ((af).read) ((cK ((af).read) ((V8.v).read)).read)).read) ((V10.v).read)).read) rfl).read) rfl) rfl) (ag (aY cx ((hG (dZ ((aD ((V11.v).read) ((af).read)).read) ((af).read) (aq rfl)) (fj (nv hu ((bo ((V2.v).read) ((aD ((bX ((V11.v).read) ((af).read)).read) ((af).read)).read) rfl).read) (V6.r) (aq rfl)))).t) (ag (V12.s (bo ((V2.v).read) ((aD ((bX ((V11.v).read) ((af).read)).read) ((af).read)).read) rfl) rfl) (aj (V6.a (V12.v) rfl rfl))) (aI)) (aj (V9.a (V12.v) rfl rfl))))) rfl) (ag (V13.s (qD hg_int b_int (aa (nt (yy ((aD ((bo ((V4.v).read) ((az ((af).read) ((V8.v).read)).read) rfl).read) ((af).read)).read) ((af).read) (aq rfl)) (eX (yy ((V7.v).read) ((af).read) (aq rfl)))) (ai) rfl) rfl) rfl) (ag (V7.s (az ((V7.v).read) ((V13.v).read)) rfl) (fH 9 (aj (V5.a (cE (aa (V13.v) (aa (V9.v) (ai) rfl) rfl)) rfl rfl))))))) rfl
 refine fH 5 (F:=_) ?_
 exact aj (aF cx (V5.v))
noncomputable def pw:Ev->SR:=bx (jL (m2 (dL cz) (m2 bp (ae 0) (mC (.int 4))) (mC (.int 0))) (uf (m2 (dL ul) (m2 bp (ae 0) (mC (.int 100))) (mC (.int 0))) (m2 (dL cz) (m2 bp (ae 0) (mC (.int 400))) (mC (.int 0)))))
noncomputable def c9 (ds:List D):R D:=b0 (pw (aG 1 ds))
theorem yC:FnScope ["_law_year"] ["_law_year"] (am (aR 45)):=i5
theorem xJ {κ:Nat->Addr} {X:Cx} {B:Gd} (cx:Cxo X) (hcalm:X.calm=true) (hN:X.N=[("_law_year" : Str)]) (hsc:X.env.scope=am (aR 45)) (hfn:∀ y,X.fn y=true) (hu:X.A.units + 64 < cLine)  : QZs κ B X (aB (aR 45)) pw:=by
 have hnd:X.N.Nodup:=by rw [hN];decide +kernel
 have V0:VP X 0 "_law_year":=ba cx hnd hfn hN hsc
 exact aj (aF cx (nt (fG hu ((aD ((V0.v).read) ((af).read)).read) ((af).read) (aq rfl)) (eX (uI (Ds hu ((aD ((V0.v).read) ((af).read)).read) ((af).read) (aq rfl)) (eX (fG hu ((aD ((V0.v).read) ((af).read)).read) ((af).read) (aq rfl)))))))
noncomputable def kA:Ev->SR:=bx (m2 bO (b8 (λ _=>.ok [D.int 31,D.int 28,D.int 31,D.int 30,D.int 31,D.int 30,D.int 31,D.int 31,D.int 30,D.int 31,D.int 30,D.int 31])) (m2 gA (ae 1) (mC (.int 1))))
noncomputable def om:Ev->SR:=au (c7 (gX (bC cz (ae 1) (mC (.int 2))) (mT (aH c9 (ah (ae 0) (ar))))) (bx (mC (.int 29))) (SR.next)) kA
noncomputable def bA (ds:List D):R D:=b0 (om (aG 2 ds))
theorem xc:FnScope ["_law_year", "_law_month_here"] ["_law_year", "_law_month_here"] (am (aR 46)):=i5
theorem vT {κ:Nat->Addr} {X:Cx} {B:Gd} (cx:Cxo X) (hcalm:X.calm=true) (hN:X.N=[("_law_year" : Str),("_law_month_here" : Str)]) (hsc:X.env.scope=am (aR 46)) (hfn:∀ y,X.fn y=true) (hu:X.A.units + 64 < cLine) (k_law_leap:Cal κ X "_law_leap" 1 c9):QZs κ B X (aB (aR 46)) om:=by
 have hnd:X.N.Nodup:=by rw [hN];decide +kernel
 have V0:VP X 0 "_law_year":=ba cx hnd hfn hN hsc
 have V1:VP X 1 "_law_month_here":=ba cx hnd hfn hN hsc
 have hg_law_leap:Gl X "_law_leap":=b9 hsc
 refine ag (F1:=c7 (gX (bC cz (ae 1) (mC (.int 2))) (mT (aH c9 (ah (ae 0) (ar))))) (bx (mC (.int 29))) (SR.next)) (F2:=kA) ?_ ?_
 ·exact aY cx ((hG (bB hu ((V1.v).read) ((af).read) (aq rfl)) (fj (cF ((aw cx k_law_leap rfl hg_law_leap (aa (V0.v) (ai) rfl)).read) rfl))).t) (aj (aF cx (af))) (aI)
 exact aj (aF cx (bo ((aV (de (ds:=[D.int 31,D.int 28,D.int 31,D.int 30,D.int 31,D.int 30,D.int 31,D.int 31,D.int 30,D.int 31,D.int 30,D.int 31]) (by rfl))).read) ((cQ ((V1.v).read) ((af).read)).read) rfl))
noncomputable def q8:Ev->SR:=bx (i8 (ah (ae 3) (ah (ae 4) (ah (ae 5) (ar)))))
noncomputable def kz:Ev->SR:=q8
noncomputable def lf:Ev->SR:=c7 (bC cz (m2 bp (m2 cY (ae 2) (mC (.int 3718512))) (mC (.int 3))) (mC (.int 1))) (au (aJ 3 (m2 jP (mC (.int 4)) (m2 aT (mC (.int 1)) (m2 bp (ae 3) (mC (.int 2499)))))) (au (aJ 4 (mC (.int 2))) (aJ 5 (m2 aT (mC (.int 20)) (m2 bp (ae 5) (mC (.int 9))))))) (SR.next)
noncomputable def ky:Ev->SR:=au (lf) kz
noncomputable def lc:Ev->SR:=aJ 5 (m2 aT (mC (.int 1)) (m2 bp (m2 cY (ae 2) (mC (.int 119952))) (aH bA (ah (ae 3) (ah (ae 4) (ar))))))
noncomputable def gu:Ev->SR:=au (lc) ky
noncomputable def k9:Ev->SR:=aJ 4 (m2 aT (mC (.int 1)) (m2 bp (m2 cY (ae 2) (mC (.int 9996))) (mC (.int 12))))
noncomputable def kx:Ev->SR:=au (k9) gu
noncomputable def k8:Ev->SR:=aJ 3 (m2 aT (mC (.int 1)) (m2 bp (ae 2) (mC (.int 9996))))
noncomputable def kw:Ev->SR:=au (k8) kx
noncomputable def gx:Ev->SR:=c7 (mT (ae 1)) (aJ 2 (m2 bp (m2 jP (m2 bp (m2 aT (m2 jP (ae 0) (mC (.int 48271))) (mC (.int 4099))) (mC (.int 2147483647))) (mC (.int 16807))) (mC (.int 2147483629)))) (SR.next)
noncomputable def ku:Ev->SR:=au (gx) kw
noncomputable def k7:Ev->SR:=aJ 2 (ae 0)
noncomputable def jk:Ev->SR:=au (k7) ku
noncomputable def ei (ds:List D):R D:=b0 (jk (aG 6 ds))
theorem xb:FnScope ["_law_cell", "_law_mixed", "_law_rest", "_law_year", "_law_month_here", "_law_day"] ["_law_cell", "_law_mixed"] (am (aR 47)):=i5
theorem vS {κ:Nat->Addr} {X:Cx} {B:Gd} (cx:Cxo X) (hcalm:X.calm=true) (hN:X.N=[("_law_cell" : Str),("_law_mixed" : Str),("_law_rest" : Str),("_law_year" : Str),("_law_month_here" : Str),("_law_day" : Str)]) (hsc:X.env.scope=am (aR 47)) (hfn:∀ y,X.fn y=true) (hu:X.A.units + 64 < cLine) (k_law_month:Cal κ X "_law_month" 2 bA):QZs κ B X (aB (aR 47)) jk:=by
 have hnd:X.N.Nodup:=by rw [hN];decide +kernel
 have V0:VP X 0 "_law_cell":=ba cx hnd hfn hN hsc
 have V1:VP X 1 "_law_mixed":=ba cx hnd hfn hN hsc
 have V2:VP X 2 "_law_rest":=ba cx hnd hfn hN hsc
 have V3:VP X 3 "_law_year":=ba cx hnd hfn hN hsc
 have V4:VP X 4 "_law_month_here":=ba cx hnd hfn hN hsc
 have V5:VP X 5 "_law_day":=ba cx hnd hfn hN hsc
 have hg_law_month:Gl X "_law_month":=b9 hsc
 refine ag (F1:=k7) (F2:=ku) ?_ ?_
 ·exact V2.s (V0.v) rfl
 refine ag (F1:=gx) (F2:=kw) ?_ ?_
 ·exact aY cx (cF ((V1.v).read) rfl) (aj (V2.s (aD ((cK ((aD ((az ((cK ((V0.v).read) ((af).read)).read) ((af).read)).read) ((af).read)).read) ((af).read)).read) ((af).read)) rfl)) (aI)
 refine ag (F1:=k8) (F2:=kx) ?_ ?_
 ·exact V3.s (az ((af).read) ((aD ((V2.v).read) ((af).read)).read)) rfl
 refine ag (F1:=k9) (F2:=gu) ?_ ?_
 ·exact V4.s (az ((af).read) ((aD ((bX ((V2.v).read) ((af).read)).read) ((af).read)).read)) rfl
 refine ag (F1:=lc) (F2:=ky) ?_ ?_
 ·exact V5.s (az ((af).read) ((aD ((bX ((V2.v).read) ((af).read)).read) ((aw cx k_law_month rfl hg_law_month (aa (V3.v) (aa (V4.v) (ai) rfl) rfl)).read)).read)) rfl
 refine ag (F1:=lf) (F2:=kz) ?_ ?_
 ·exact aY cx (bB hu ((aD ((bX ((V2.v).read) ((af).read)).read) ((af).read)).read) ((af).read) (aq rfl)) (ag (V3.s (cK ((af).read) ((az ((af).read) ((aD ((V3.v).read) ((af).read)).read)).read)) rfl) (ag (V4.s (af) rfl) (aj (V5.s (az ((af).read) ((aD ((V5.v).read) ((af).read)).read)) rfl)))) (aI)
 exact aj (aF cx (cE (aa (V3.v) (aa (V4.v) (aa (V5.v) (ai) rfl) rfl) rfl)))
noncomputable def dw:Ev->SR:=aJ 4 (m2 aT (ae 4) (aH bA (ah (ae 0) (ah (ae 5) (ar)))))
noncomputable def pH:Ev->SR:=bx (ae 4)
noncomputable def jp:Ev->SR:=pH
noncomputable def jF:Ev->SR:=df (λ δ=>((ah (mC (.int 1)) (ah (ae 1) (ar))) δ).bind we) (bN 5) (dw)
noncomputable def jo:Ev->SR:=au (jF) jp
noncomputable def jD:Ev->SR:=aJ 4 (m2 gA (m2 aT (m2 aT (m2 gA (m2 aT (m2 jP (mC (.int 365)) (ae 3)) (m2 cY (ae 3) (mC (.int 4)))) (m2 cY (ae 3) (mC (.int 100)))) (m2 cY (ae 3) (mC (.int 400)))) (ae 2)) (mC (.int 1)))
noncomputable def jn:Ev->SR:=au (jD) jo
noncomputable def jC:Ev->SR:=aJ 3 (m2 gA (ae 0) (mC (.int 1)))
noncomputable def l7:Ev->SR:=au (jC) jn
noncomputable def cf (ds:List D):R D:=b0 (l7 (aG 6 ds))
theorem uQ:FnScope ["_law_year", "_law_month_here", "_law_day", "_law_past", "_law_number_here", "_law_k"] ["_law_year", "_law_month_here", "_law_day"] (am (aR 48)):=i5
theorem tR {κ:Nat->Addr} {X:Cx} {B:Gd} (cx:Cxo X) (hcalm:X.calm=true) (hN:X.N=[("_law_year" : Str),("_law_month_here" : Str),("_law_day" : Str),("_law_past" : Str),("_law_number_here" : Str),("_law_k" : Str)]) (hsc:X.env.scope=am (aR 48)) (hfn:∀ y,X.fn y=true) (hu:X.A.units + 64 < cLine) (k_law_month:Cal κ X "_law_month" 2 bA) (b_range:X.mg "range" = none):QZs κ B X (aB (aR 48)) l7:=by
 have hnd:X.N.Nodup:=by rw [hN];decide +kernel
 have V0:VP X 0 "_law_year":=ba cx hnd hfn hN hsc
 have V1:VP X 1 "_law_month_here":=ba cx hnd hfn hN hsc
 have V2:VP X 2 "_law_day":=ba cx hnd hfn hN hsc
 have V3:VP X 3 "_law_past":=ba cx hnd hfn hN hsc
 have V4:VP X 4 "_law_number_here":=ba cx hnd hfn hN hsc
 have V5:VP X 5 "_law_k":=ba cx hnd hfn hN hsc
 have hg_law_month:Gl X "_law_month":=b9 hsc
 have hg_range:Gl X "range":=b9 hsc
 refine ag (F1:=jC) (F2:=jn) ?_ ?_
 ·exact V3.s (cQ ((V0.v).read) ((af).read)) rfl
 refine ag (F1:=jD) (F2:=jo) ?_ ?_
 ·exact V4.s (cQ ((az ((az ((cQ ((az ((cK ((af).read) ((V3.v).read)).read) ((bX ((V3.v).read) ((af).read)).read)).read) ((bX ((V3.v).read) ((af).read)).read)).read) ((bX ((V3.v).read) ((af).read)).read)).read) ((V2.v).read)).read) ((af).read)) rfl
 refine ag (F1:=jF) (F2:=jp) ?_ ?_
 ·exact cr cx hcalm (yz hg_range b_range (aa (af) (aa (V1.v) (ai) rfl) rfl) rfl rfl) (λ B=>V5.t) (λ B=>aj (V4.s (az ((V4.v).read) ((aw cx k_law_month rfl hg_law_month (aa (V0.v) (aa (V5.v) (ai) rfl) rfl)).read)) rfl)) rfl
 exact aj (aF cx (V4.v))
noncomputable def dW:Ev->SR:=au (iC 6 (i8 (ah (ae 2) (ah (ae 3) (ah (ae 4) (ah (ae 5) (ar))))))) (au (aJ 5 (m2 bp (m2 aT (ae 5) (mC (.int 1))) (mC (.int 7)))) (au (aJ 4 (m2 aT (ae 4) (mC (.int 1)))) (au (c7 (bC nF (ae 4) (aH bA (ah (ae 2) (ah (ae 3) (ar))))) (au (aJ 4 (mC (.int 1))) (aJ 3 (m2 aT (ae 3) (mC (.int 1))))) (SR.next)) (c7 (bC nF (ae 3) (mC (.int 12))) (au (aJ 3 (mC (.int 1))) (aJ 2 (m2 aT (ae 2) (mC (.int 1))))) (SR.next)))))
noncomputable def q9:Ev->SR:=bx (ae 6)
noncomputable def kE:Ev->SR:=λ δ=>(q9) (qc 6 δ)
noncomputable def li:Ev->SR:=df (λ δ=>((ah (ae 1) (ar)) δ).bind uZ) (bN 7) (dW)
noncomputable def kD:Ev->SR:=au (li) kE
noncomputable def lh:Ev->SR:=kd 6 (λ δ=>lim ((ar) δ))
noncomputable def kC:Ev->SR:=au (lh) kD
noncomputable def lg:Ev->SR:=aJ 5 (m2 bp (aH cf (ah (ae 2) (ah (ae 3) (ah (ae 4) (ar))))) (mC (.int 7)))
noncomputable def kB:Ev->SR:=au (lg) kC
noncomputable def gy:Ev->SR:=xx (j9 3 (bw (bN 2) (bw (bN 3) (bw (bN 4) (ga))))) (ae 0)
noncomputable def oq:Ev->SR:=au (gy) kB
noncomputable def eo (ds:List D):R D:=b0 (oq (aG 8 ds))
theorem xf:FnScope ["_law_date", "_law_many", "_law_year", "_law_month_here", "_law_day", "_law_week", "_law_made", "_law_k"] ["_law_date", "_law_many"] (am (aR 49)):=i5
theorem vU {κ:Nat->Addr} {X:Cx} {B:Gd} (cx:Cxo X) (hcalm:X.calm=true) (hN:X.N=[("_law_date" : Str),("_law_many" : Str),("_law_year" : Str),("_law_month_here" : Str),("_law_day" : Str),("_law_week" : Str),("_law_made" : Str),("_law_k" : Str)]) (hsc:X.env.scope=am (aR 49)) (hfn:∀ y,X.fn y=true) (hu:X.A.units + 64 < cLine) (k_law_number:Cal κ X "_law_number" 3 cf) (k_law_month:Cal κ X "_law_month" 2 bA) (b_range:X.mg "range" = none):QZs κ B X (aB (aR 49)) oq:=by
 have hnd:X.N.Nodup:=by rw [hN];decide +kernel
 have V0:VP X 0 "_law_date":=ba cx hnd hfn hN hsc
 have V1:VP X 1 "_law_many":=ba cx hnd hfn hN hsc
 have V2:VP X 2 "_law_year":=ba cx hnd hfn hN hsc
 have V3:VP X 3 "_law_month_here":=ba cx hnd hfn hN hsc
 have V4:VP X 4 "_law_day":=ba cx hnd hfn hN hsc
 have V5:VP X 5 "_law_week":=ba cx hnd hfn hN hsc
 have V6:VP X 6 "_law_made":=ba cx hnd hfn hN hsc
 have V7:VP X 7 "_law_k":=ba cx hnd hfn hN hsc
 have hg_law_number:Gl X "_law_number":=b9 hsc
 have hg_law_month:Gl X "_law_month":=b9 hsc
 have hg_range:Gl X "range":=b9 hsc
 refine ag (F1:=gy) (F2:=kB) ?_ ?_
 ·exact Dv cx (V0.v) (lN hcalm (cg (V2.t) (cg (V3.t) (cg (V4.t) (dS) rfl) rfl) rfl) rfl rfl) rfl rfl rfl
 refine ag (F1:=lg) (F2:=kC) ?_ ?_
 ·exact V5.s (aD ((aw cx k_law_number rfl hg_law_number (aa (V2.v) (aa (V3.v) (aa (V4.v) (ai) rfl) rfl) rfl)).read) ((af).read)) rfl
 refine ag (F1:=lh) (F2:=kD) ?_ ?_
 ·exact V6.w (eB (ai)) rfl
 refine ag (F1:=li) (F2:=kE) ?_ ?_
 ·exact cr cx hcalm (iy hg_range b_range (aa (V1.v) (ai) rfl) rfl) (λ B=>V7.t) (λ B=>ag (V6.a (cE (aa (V2.v) (aa (V3.v) (aa (V4.v) (aa (V5.v) (ai) rfl) rfl) rfl) rfl)) rfl rfl) (ag (V5.s (aD ((az ((V5.v).read) ((af).read)).read) ((af).read)) rfl) (ag (V4.s (az ((V4.v).read) ((af).read)) rfl) (ag (aY cx (dZ ((V4.v).read) ((aw cx k_law_month rfl hg_law_month (aa (V2.v) (aa (V3.v) (ai) rfl) rfl)).read) (aq rfl)) (ag (V4.s (af) rfl) (aj (V3.s (az ((V3.v).read) ((af).read)) rfl))) (aI)) (aj (aY cx (dZ ((V3.v).read) ((af).read) (aq rfl)) (ag (V3.s (af) rfl) (aj (V2.s (az ((V2.v).read) ((af).read)) rfl))) (aI))))))) rfl
 refine fH 6 (F:=_) ?_
 exact aj (aF cx (V6.v))
noncomputable def tp:Ev->SR:=bx (mL (ec (λ δ=>((ah (mC (.int 1)) (ah (m2 aT (m1 b3 (ae 7)) (mC (.int 1))) (ar))) δ).bind we) (λ _=>.ok true) (jW (ae 7) (dD) (mP (ae 8)))))
noncomputable def hZ:Ev->SR:=tp
noncomputable def mH:Ev->SR:=c7 (bC cz (ae 0) (mC (.str [60,119,62]))) (aJ 7 (m2 bO (b8 (λ _=>.ok [D.str [109,111,110,100,97,121],D.str [116,117,101,115,100,97,121],D.str [119,101,100,110,101,115,100,97,121],D.str [116,104,117,114,115,100,97,121],D.str [102,114,105,100,97,121],D.str [115,97,116,117,114,100,97,121],D.str [115,117,110,100,97,121]])) (ae 5))) (SR.next)
noncomputable def me:Ev->SR:=au (mH) hZ
noncomputable def mG:Ev->SR:=c7 (bC cz (ae 0) (mC (.str [60,110,62]))) (aJ 7 (m2 bO (b8 (λ _=>.ok [D.str [106,97,110,117,97,114,121],D.str [102,101,98,114,117,97,114,121],D.str [109,97,114,99,104],D.str [97,112,114,105,108],D.str [109,97,121],D.str [106,117,110,101],D.str [106,117,108,121],D.str [97,117,103,117,115,116],D.str [115,101,112,116,101,109,98,101,114],D.str [111,99,116,111,98,101,114],D.str [110,111,118,101,109,98,101,114],D.str [100,101,99,101,109,98,101,114]])) (m2 gA (ae 3) (mC (.int 1))))) (SR.next)
noncomputable def md:Ev->SR:=au (mG) me
noncomputable def mF:Ev->SR:=aJ 7 (ae 0)
noncomputable def ma:Ev->SR:=au (mF) md
noncomputable def mD:Ev->SR:=c7 (bC cz (ae 0) (mC (.str [60,89,62]))) (bx (b8 (ah (jW (m2 aT (mC (.str [48,48,48])) (m1 fD (ae 2))) (mP (m2 gA (m1 b3 (m1 fD (ae 2))) (mC (.int 1)))) (dD)) (ar)))) (SR.next)
noncomputable def l9:Ev->SR:=au (mD) ma
noncomputable def mB:Ev->SR:=c7 (bC cz (ae 0) (mC (.str [60,121,62]))) (bx (b8 (ah (m2 aT (m1 fD (m2 bp (m2 cY (ae 2) (mC (.int 10))) (mC (.int 10)))) (m1 fD (m2 bp (ae 2) (mC (.int 10))))) (ar)))) (SR.next)
noncomputable def l8:Ev->SR:=au (mB) l9
noncomputable def mz:Ev->SR:=c7 (ue (bC cz (ae 0) (mC (.str [60,100,62]))) (bC cz (ae 0) (mC (.str [60,109,62])))) (au (aJ 6 (m2 bO (b8 (ah (ae 4) (ah (ae 3) (ar)))) (Ge uj (ah (m2 (dL cz) (ae 0) (mC (.str [60,109,62]))) (ar))))) (bx (jW (b8 (ah (m1 fD (ae 6)) (ah (m2 aT (mC (.str [48])) (m1 fD (ae 6))) (ar)))) (dD) (mP (m2 aT (mC (.int 1)) (Ge uj (ah (m2 (dL oW) (ae 6) (mC (.int 10))) (ar)))))))) (SR.next)
noncomputable def hU:Ev->SR:=au (mz) l8
noncomputable def my:Ev->SR:=xx (j9 4 (bw (bN 2) (bw (bN 3) (bw (bN 4) (bw (bN 5) (ga)))))) (ae 1)
noncomputable def lB:Ev->SR:=au (my) hU
noncomputable def aS (ds:List D):R D:=b0 (lB (aG 8 ds))
theorem yD:FnScope ["_law_token", "_law_when", "_law_year", "_law_month_here", "_law_day", "_law_week", "_law_number_here", "_law_name"] ["_law_token", "_law_when"] (am (aR 50)):=i5
theorem xK {κ:Nat->Addr} {X:Cx} {B:Gd} (cx:Cxo X) (hcalm:X.calm=true) (hN:X.N=[("_law_token" : Str),("_law_when" : Str),("_law_year" : Str),("_law_month_here" : Str),("_law_day" : Str),("_law_week" : Str),("_law_number_here" : Str),("_law_name" : Str)]) (hsc:X.env.scope=am (aR 50)) (hfn:∀ y,X.fn y=true) (hu:X.A.units + 64 < cLine) (b_int:X.mg "int" = none) (b_len:X.mg "len" = none) (b_range:X.mg "range" = none) (b_str:X.mg "str" = none):QZs κ B X (aB (aR 50)) lB:=by
 have hnd:X.N.Nodup:=by rw [hN];decide +kernel
 have V0:VP X 0 "_law_token":=ba cx hnd hfn hN hsc
 have V1:VP X 1 "_law_when":=ba cx hnd hfn hN hsc
 have V2:VP X 2 "_law_year":=ba cx hnd hfn hN hsc
 have V3:VP X 3 "_law_month_here":=ba cx hnd hfn hN hsc
 have V4:VP X 4 "_law_day":=ba cx hnd hfn hN hsc
 have V5:VP X 5 "_law_week":=ba cx hnd hfn hN hsc
 have V6:VP X 6 "_law_number_here":=ba cx hnd hfn hN hsc
 have V7:VP X 7 "_law_name":=Lh cx hnd hfn hN hsc rfl rfl (by decide) (by decide)
 have hg_int:Gl X "int":=b9 hsc
 have hg_len:Gl X "len":=b9 hsc
 have hg_range:Gl X "range":=b9 hsc
 have hg_str:Gl X "str":=b9 hsc
 refine ag (F1:=my) (F2:=hU) ?_ ?_
 ·exact Dv cx (V1.v) (lN hcalm (cg (V2.t) (cg (V3.t) (cg (V4.t) (cg (V5.t) (dS) rfl) rfl) rfl) rfl) rfl rfl) rfl rfl rfl
 refine ag (F1:=mz) (F2:=l8) ?_ ?_
 ·exact aY cx ((jZ (bB hu ((V0.v).read) ((aO (l:=[60,100,62]) (by decide +kernel)).read) (aq rfl)) (hR (bB hu ((V0.v).read) ((aO (l:=[60,109,62]) (by decide +kernel)).read) (aq rfl)))).t) (ag (V6.s (bo ((aV (aa (V4.v) (aa (V3.v) (ai) rfl) rfl)).read) ((qD hg_int b_int (aa (fG hu ((V0.v).read) ((aO (l:=[60,109,62]) (by decide +kernel)).read) (aq rfl)) (ai) rfl) rfl).read) rfl) rfl) (aj (aF cx (eC ((aV (aa (gC hg_str b_str ((V6.v).read) rfl) (aa (az ((aO (l:=[48]) (by decide +kernel)).read) ((gC hg_str b_str ((V6.v).read) rfl).read)) (ai) rfl) rfl)).read) (bP) (bu (az ((af).read) ((qD hg_int b_int (aa (yy ((V6.v).read) ((af).read) (aq rfl)) (ai) rfl) rfl).read))))))) (aI)
 refine ag (F1:=mB) (F2:=l9) ?_ ?_
 ·exact aY cx (bB hu ((V0.v).read) ((aO (l:=[60,121,62]) (by decide +kernel)).read) (aq rfl)) (aj (aF cx (aV (aa (az ((gC hg_str b_str ((aD ((bX ((V2.v).read) ((af).read)).read) ((af).read)).read) rfl).read) ((gC hg_str b_str ((aD ((V2.v).read) ((af).read)).read) rfl).read)) (ai) rfl)))) (aI)
 refine ag (F1:=mD) (F2:=ma) ?_ ?_
 ·exact aY cx (bB hu ((V0.v).read) ((aO (l:=[60,89,62]) (by decide +kernel)).read) (aq rfl)) (aj (aF cx (aV (aa (eC ((az ((aO (l:=[48,48,48]) (by decide +kernel)).read) ((gC hg_str b_str ((V2.v).read) rfl).read)).read) (bu (cQ ((cB hg_len b_len ((gC hg_str b_str ((V2.v).read) rfl).read) rfl).read) ((af).read))) (bP)) (ai) rfl)))) (aI)
 refine ag (F1:=mF) (F2:=md) ?_ ?_
 ·exact V7.s (V0.v) rfl
 refine ag (F1:=mG) (F2:=me) ?_ ?_
 ·exact aY cx (bB hu ((V0.v).read) ((aO (l:=[60,110,62]) (by decide +kernel)).read) (aq rfl)) (aj (V7.s (bo ((aV (de (ds:=[D.str [106,97,110,117,97,114,121],D.str [102,101,98,114,117,97,114,121],D.str [109,97,114,99,104],D.str [97,112,114,105,108],D.str [109,97,121],D.str [106,117,110,101],D.str [106,117,108,121],D.str [97,117,103,117,115,116],D.str [115,101,112,116,101,109,98,101,114],D.str [111,99,116,111,98,101,114],D.str [110,111,118,101,109,98,101,114],D.str [100,101,99,101,109,98,101,114]]) (by rfl))).read) ((cQ ((V3.v).read) ((af).read)).read) rfl) rfl)) (aI)
 refine ag (F1:=mH) (F2:=hZ) ?_ ?_
 ·exact aY cx (bB hu ((V0.v).read) ((aO (l:=[60,119,62]) (by decide +kernel)).read) (aq rfl)) (aj (V7.s (bo ((aV (de (ds:=[D.str [109,111,110,100,97,121],D.str [116,117,101,115,100,97,121],D.str [119,101,100,110,101,115,100,97,121],D.str [116,104,117,114,115,100,97,121],D.str [102,114,105,100,97,121],D.str [115,97,116,117,114,100,97,121],D.str [115,117,110,100,97,121]]) (by rfl))).read) ((V5.v).read) rfl) rfl)) (aI)
 exact aj (aF cx ((nn hcalm ⟨by decide +kernel,rfl,by decide +kernel,rfl,by rw [hN];decide +kernel,by rw [hsc];decide +kernel,hnd⟩ (nr hg_range b_range (aa (af) (aa (az ((cB hg_len b_len ((V7.v).read) rfl).read) ((af).read)) (ai) rfl) rfl) rfl rfl) (λ X' B' hC=>by (have cx:Cxo X':=hC.cxo);(have hcalm:X'.calm=true:=hC.calm.trans hcalm);(have hu:X'.A.units + 64 < cLine:=by rw [hC.A];exact hu);exact qB) (λ X' B' hC=>by (have cx:Cxo X':=hC.cxo);(have hcalm:X'.calm=true:=hC.calm.trans hcalm);(have hu:X'.A.units + 64 < cLine:=by rw [hC.A];exact hu);(have z7:∀ {B:Gd} {pos:Pos},QX κ B X' (.Name "_law_name" pos) (ae 7):=dY 7 (hC.n V7.n) (hC.vis rfl) (by decide) (by decide));(have z8:∀ {B:Gd} {pos:Pos},QX κ B X' (.Name "_law_k" pos) (ae 8):=dY 8 (hC.x (by rw [hN];rfl)) (.inl (hC.look rfl (by decide))) (by decide) (by decide));exact eC ((z7).read) (bP) (bu (z8))) rfl).px))
noncomputable def cZ:Ev->SR:=au (aJ 9 (aH aS (ah (ae 8) (ah (ae 1) (ar))))) (au (aJ 10 (m2 bO (ae 2) (m2 bp (ae 4) (m1 b3 (ae 2))))) (au (c7 (mT (ae 7)) (aJ 3 (m2 aT (ae 3) (m2 bO (ae 9) (m2 bp (ae 10) (m1 b3 (ae 9)))))) (SR.next)) (aJ 4 (m2 aT (ae 4) (mC (.int 1))))))
noncomputable def iQ:Ev->SR:=au (aJ 7 (uf (m2 (dL cz) (ae 5) (mC (.int 0))) (m2 (dL cz) (m2 bp (m2 bO (ae 2) (m2 bp (ae 4) (m1 b3 (ae 2)))) (mC (.int 2))) (mC (.int 0))))) (au (aJ 4 (m2 aT (ae 4) (mC (.int 1)))) (df (λ δ=>((ae 6) δ).bind br) (bN 8) (cZ)))
noncomputable def oN:Ev->SR:=bx (zC (bC cz (ae 3) (mC (.str []))) (jW (m2 aT (ae 3) (mC (.str [120]))) (dD) (mP (mC (.int 20)))) (jW (ae 3) (dD) (mP (mC (.int 20)))))
noncomputable def iK:Ev->SR:=oN
noncomputable def iY:Ev->SR:=df (λ δ=>((ae 0) δ).bind br) (j9 2 (bw (bN 5) (bw (bN 6) (ga)))) (iQ)
noncomputable def iJ:Ev->SR:=au (iY) iK
noncomputable def iX:Ev->SR:=aJ 4 (mC (.int 0))
noncomputable def iI:Ev->SR:=au (iX) iJ
noncomputable def iW:Ev->SR:=aJ 3 (mC (.str []))
noncomputable def kF:Ev->SR:=au (iW) iI
noncomputable def cW (ds:List D):R D:=b0 (kF (aG 11 ds))
theorem rD:FnScope ["_law_parts", "_law_when", "_law_picks", "_law_made", "_law_k", "_law_lacking", "_law_tokens", "_law_there", "_law_token", "_law_ways_here", "_law_pick"] ["_law_parts", "_law_when", "_law_picks"] (am (aR 51)):=i5
theorem rg {κ:Nat->Addr} {X:Cx} {B:Gd} (cx:Cxo X) (hcalm:X.calm=true) (hN:X.N=[("_law_parts" : Str),("_law_when" : Str),("_law_picks" : Str),("_law_made" : Str),("_law_k" : Str),("_law_lacking" : Str),("_law_tokens" : Str),("_law_there" : Str),("_law_token" : Str),("_law_ways_here" : Str),("_law_pick" : Str)]) (hsc:X.env.scope=am (aR 51)) (hfn:∀ y,X.fn y=true) (hu:X.A.units + 64 < cLine) (k_law_ways:Cal κ X "_law_ways" 2 aS) (b_len:X.mg "len" = none):QZs κ B X (aB (aR 51)) kF:=by
 have hnd:X.N.Nodup:=by rw [hN];decide +kernel
 have V0:VP X 0 "_law_parts":=ba cx hnd hfn hN hsc
 have V1:VP X 1 "_law_when":=ba cx hnd hfn hN hsc
 have V2:VP X 2 "_law_picks":=ba cx hnd hfn hN hsc
 have V3:VP X 3 "_law_made":=ba cx hnd hfn hN hsc
 have V4:VP X 4 "_law_k":=ba cx hnd hfn hN hsc
 have V5:VP X 5 "_law_lacking":=ba cx hnd hfn hN hsc
 have V6:VP X 6 "_law_tokens":=ba cx hnd hfn hN hsc
 have V7:VP X 7 "_law_there":=ba cx hnd hfn hN hsc
 have V8:VP X 8 "_law_token":=ba cx hnd hfn hN hsc
 have V9:VP X 9 "_law_ways_here":=ba cx hnd hfn hN hsc
 have V10:VP X 10 "_law_pick":=ba cx hnd hfn hN hsc
 have hg_law_ways:Gl X "_law_ways":=b9 hsc
 have hg_len:Gl X "len":=b9 hsc
 refine ag (F1:=iW) (F2:=iI) ?_ ?_
 ·exact V3.s (aO (l:=[]) (by decide +kernel)) rfl
 refine ag (F1:=iX) (F2:=iJ) ?_ ?_
 ·exact V4.s (af) rfl
 refine ag (F1:=iY) (F2:=iK) ?_ ?_
 ·exact cr cx hcalm (ci (V0.v)) (λ B=>lN hcalm (cg (V5.t) (cg (V6.t) (dS) rfl) rfl) rfl rfl) (λ B=>ag (V7.s (uI (fG hu ((V5.v).read) ((af).read) (aq rfl)) (eX (fG hu ((aD ((bo ((V2.v).read) ((aD ((V4.v).read) ((cB hg_len b_len ((V2.v).read) rfl).read)).read) rfl).read) ((af).read)).read) ((af).read) (aq rfl)))) rfl) (ag (V4.s (az ((V4.v).read) ((af).read)) rfl) (aj (cr cx hcalm (ci (V6.v)) (λ B=>V8.t) (λ B=>ag (V9.s (aw cx k_law_ways rfl hg_law_ways (aa (V8.v) (aa (V1.v) (ai) rfl) rfl)) rfl) (ag (V10.s (bo ((V2.v).read) ((aD ((V4.v).read) ((cB hg_len b_len ((V2.v).read) rfl).read)).read) rfl) rfl) (ag (aY cx (cF ((V7.v).read) rfl) (aj (V3.s (az ((V3.v).read) ((bo ((V9.v).read) ((aD ((V10.v).read) ((cB hg_len b_len ((V9.v).read) rfl).read)).read) rfl).read)) rfl)) (aI)) (aj (V4.s (az ((V4.v).read) ((af).read)) rfl))))) rfl)))) rfl
 exact aj (aF cx (uH (bB hu ((V3.v).read) ((aO (l:=[]) (by decide +kernel)).read) (aq rfl)) (eC ((az ((V3.v).read) ((aO (l:=[120]) (by decide +kernel)).read)).read) (bP) (bu (af))) (eC ((V3.v).read) (bP) (bu (af)))))
noncomputable def dr:Ev->SR:=au (aJ 10 (aH aS (ah (ae 9) (ah (m2 bO (b8 (ah (ae 1) (ah (ae 2) (ar)))) (m2 bp (m2 cY (m2 bO (ae 3) (m2 bp (ae 5) (mC (.int 12)))) (mC (.int 5))) (mC (.int 2)))) (ar))))) (au (c7 (mT (ae 8)) (aJ 4 (m2 aT (ae 4) (m2 bO (ae 10) (m2 bp (m2 cY (m2 bO (ae 3) (m2 bp (ae 5) (mC (.int 12)))) (mC (.int 10))) (m1 b3 (ae 10)))))) (SR.next)) (aJ 5 (m2 aT (ae 5) (mC (.int 1)))))
noncomputable def jt:Ev->SR:=au (aJ 8 (uf (m2 (dL cz) (ae 6) (mC (.int 0))) (m2 (dL nF) (m2 bp (m2 bO (ae 3) (m2 bp (ae 5) (mC (.int 12)))) (mC (.int 5))) (mC (.int 0))))) (df (λ δ=>((ae 7) δ).bind br) (bN 9) (dr))
noncomputable def pD:Ev->SR:=bx (zC (bC cz (ae 4) (mC (.str []))) (jW (m2 aT (ae 4) (mC (.str [120]))) (dD) (mP (mC (.int 20)))) (jW (ae 4) (dD) (mP (mC (.int 20)))))
noncomputable def jj:Ev->SR:=pD
noncomputable def jz:Ev->SR:=df (λ δ=>((ae 0) δ).bind br) (j9 2 (bw (bN 6) (bw (bN 7) (ga)))) (jt)
noncomputable def ji:Ev->SR:=au (jz) jj
noncomputable def jy:Ev->SR:=aJ 5 (mC (.int 0))
noncomputable def jh:Ev->SR:=au (jy) ji
noncomputable def jx:Ev->SR:=aJ 4 (mC (.str []))
noncomputable def lX:Ev->SR:=au (jx) jh
noncomputable def dG (ds:List D):R D:=b0 (lX (aG 11 ds))
theorem uO:FnScope ["_law_parts", "_law_when", "_law_other", "_law_picks", "_law_made", "_law_k", "_law_lacking", "_law_tokens", "_law_there", "_law_token", "_law_ways_here"] ["_law_parts", "_law_when", "_law_other", "_law_picks"] (am (aR 55)):=i5
theorem tP {κ:Nat->Addr} {X:Cx} {B:Gd} (cx:Cxo X) (hcalm:X.calm=true) (hN:X.N=[("_law_parts" : Str),("_law_when" : Str),("_law_other" : Str),("_law_picks" : Str),("_law_made" : Str),("_law_k" : Str),("_law_lacking" : Str),("_law_tokens" : Str),("_law_there" : Str),("_law_token" : Str),("_law_ways_here" : Str)]) (hsc:X.env.scope=am (aR 55)) (hfn:∀ y,X.fn y=true) (hu:X.A.units + 64 < cLine) (k_law_ways:Cal κ X "_law_ways" 2 aS) (b_len:X.mg "len" = none):QZs κ B X (aB (aR 55)) lX:=by
 have hnd:X.N.Nodup:=by rw [hN];decide +kernel
 have V0:VP X 0 "_law_parts":=ba cx hnd hfn hN hsc
 have V1:VP X 1 "_law_when":=ba cx hnd hfn hN hsc
 have V2:VP X 2 "_law_other":=ba cx hnd hfn hN hsc
 have V3:VP X 3 "_law_picks":=ba cx hnd hfn hN hsc
 have V4:VP X 4 "_law_made":=ba cx hnd hfn hN hsc
 have V5:VP X 5 "_law_k":=ba cx hnd hfn hN hsc
 have V6:VP X 6 "_law_lacking":=ba cx hnd hfn hN hsc
 have V7:VP X 7 "_law_tokens":=ba cx hnd hfn hN hsc
 have V8:VP X 8 "_law_there":=ba cx hnd hfn hN hsc
 have V9:VP X 9 "_law_token":=ba cx hnd hfn hN hsc
 have V10:VP X 10 "_law_ways_here":=ba cx hnd hfn hN hsc
 have hg_law_ways:Gl X "_law_ways":=b9 hsc
 have hg_len:Gl X "len":=b9 hsc
 refine ag (F1:=jx) (F2:=jh) ?_ ?_
 ·exact V4.s (aO (l:=[]) (by decide +kernel)) rfl
 refine ag (F1:=jy) (F2:=ji) ?_ ?_
 ·exact V5.s (af) rfl
 refine ag (F1:=jz) (F2:=jj) ?_ ?_
 ·exact cr cx hcalm (ci (V0.v)) (λ B=>lN hcalm (cg (V6.t) (cg (V7.t) (dS) rfl) rfl) rfl rfl) (λ B=>ag (V8.s (uI (fG hu ((V6.v).read) ((af).read) (aq rfl)) (eX (IC ((aD ((bo ((V3.v).read) ((aD ((V5.v).read) ((af).read)).read) rfl).read) ((af).read)).read) ((af).read) (aq rfl)))) rfl) (aj (cr cx hcalm (ci (V7.v)) (λ B=>V9.t) (λ B=>ag (V10.s (aw cx k_law_ways rfl hg_law_ways (aa (V9.v) (aa (bo ((aV (aa (V1.v) (aa (V2.v) (ai) rfl) rfl)).read) ((aD ((bX ((bo ((V3.v).read) ((aD ((V5.v).read) ((af).read)).read) rfl).read) ((af).read)).read) ((af).read)).read) rfl) (ai) rfl) rfl)) rfl) (ag (aY cx (cF ((V8.v).read) rfl) (aj (V4.s (az ((V4.v).read) ((bo ((V10.v).read) ((aD ((bX ((bo ((V3.v).read) ((aD ((V5.v).read) ((af).read)).read) rfl).read) ((af).read)).read) ((cB hg_len b_len ((V10.v).read) rfl).read)).read) rfl).read)) rfl)) (aI)) (aj (V5.s (az ((V5.v).read) ((af).read)) rfl)))) rfl))) rfl
 exact aj (aF cx (uH (bB hu ((V4.v).read) ((aO (l:=[]) (by decide +kernel)).read) (aq rfl)) (eC ((az ((V4.v).read) ((aO (l:=[120]) (by decide +kernel)).read)).read) (bP) (bu (af))) (eC ((V4.v).read) (bP) (bu (af)))))
noncomputable def oM:Ev->SR:=bx (ae 0)
noncomputable def iH:Ev->SR:=oM
noncomputable def iV:Ev->SR:=c7 (bC cz (ae 1) (mC (.int 4))) (bx (m2 aT (m2 aT (jW (ae 0) (dD) (mP (ae 3))) (ae 4)) (jW (ae 0) (mP (m2 aT (ae 3) (mC (.int 1)))) (dD)))) (SR.next)
noncomputable def iG:Ev->SR:=au (iV) iH
noncomputable def iU:Ev->SR:=c7 (gX (bC cz (ae 1) (mC (.int 4))) (bC cz (m2 bp (m2 cY (ae 2) (mC (.int 220))) (mC (.int 2))) (mC (.int 0)))) (bx (jW (m2 aT (m2 aT (jW (ae 0) (dD) (mP (ae 3))) (ae 4)) (jW (ae 0) (mP (ae 3)) (dD))) (dD) (mP (mC (.int 20))))) (SR.next)
noncomputable def iF:Ev->SR:=au (iU) iG
noncomputable def iT:Ev->SR:=c7 (gX (bC cz (ae 1) (mC (.int 3))) (bC nF (m1 b3 (ae 0)) (mC (.int 1)))) (bx (m2 aT (jW (ae 0) (dD) (mP (ae 3))) (jW (ae 0) (mP (m2 aT (ae 3) (mC (.int 1)))) (dD)))) (SR.next)
noncomputable def eH:Ev->SR:=au (iT) iF
noncomputable def iS:Ev->SR:=aJ 4 (m2 bO (mC (.str [48,49,50,51,32,109,97,106,101,46,47])) (m2 bp (m2 cY (ae 2) (mC (.int 20))) (mC (.int 11))))
noncomputable def iE:Ev->SR:=au (iS) eH
noncomputable def iR:Ev->SR:=aJ 3 (m2 bp (ae 2) (m1 b3 (ae 0)))
noncomputable def gr:Ev->SR:=au (iR) iE
noncomputable def cV (ds:List D):R D:=b0 (gr (aG 5 ds))
theorem rC:FnScope ["_law_text", "_law_pick", "_law_more", "_law_spot", "_law_sign"] ["_law_text", "_law_pick", "_law_more"] (am (aR 54)):=i5
theorem rf {κ:Nat->Addr} {X:Cx} {B:Gd} (cx:Cxo X) (hcalm:X.calm=true) (hN:X.N=[("_law_text" : Str),("_law_pick" : Str),("_law_more" : Str),("_law_spot" : Str),("_law_sign" : Str)]) (hsc:X.env.scope=am (aR 54)) (hfn:∀ y,X.fn y=true) (hu:X.A.units + 64 < cLine) (b_len:X.mg "len" = none):QZs κ B X (aB (aR 54)) gr:=by
 have hnd:X.N.Nodup:=by rw [hN];decide +kernel
 have V0:VP X 0 "_law_text":=ba cx hnd hfn hN hsc
 have V1:VP X 1 "_law_pick":=ba cx hnd hfn hN hsc
 have V2:VP X 2 "_law_more":=ba cx hnd hfn hN hsc
 have V3:VP X 3 "_law_spot":=ba cx hnd hfn hN hsc
 have V4:VP X 4 "_law_sign":=ba cx hnd hfn hN hsc
 have hg_len:Gl X "len":=b9 hsc
 refine ag (F1:=iR) (F2:=iE) ?_ ?_
 ·exact V3.s (aD ((V2.v).read) ((cB hg_len b_len ((V0.v).read) rfl).read)) rfl
 refine ag (F1:=iS) (F2:=eH) ?_ ?_
 ·exact V4.s (bo ((aO (l:=[48,49,50,51,32,109,97,106,101,46,47]) (by decide +kernel)).read) ((aD ((bX ((V2.v).read) ((af).read)).read) ((af).read)).read) rfl) rfl
 refine ag (F1:=iT) (F2:=iF) ?_ ?_
 ·exact aY cx ((hG (bB hu ((V1.v).read) ((af).read) (aq rfl)) (fj (dZ ((cB hg_len b_len ((V0.v).read) rfl).read) ((af).read) (aq rfl)))).t) (aj (aF cx (az ((eC ((V0.v).read) (bP) (bu (V3.v))).read) ((eC ((V0.v).read) (bu (az ((V3.v).read) ((af).read))) (bP)).read)))) (aI)
 refine ag (F1:=iU) (F2:=iG) ?_ ?_
 ·exact aY cx ((hG (bB hu ((V1.v).read) ((af).read) (aq rfl)) (fj (bB hu ((aD ((bX ((V2.v).read) ((af).read)).read) ((af).read)).read) ((af).read) (aq rfl)))).t) (aj (aF cx (eC ((az ((az ((eC ((V0.v).read) (bP) (bu (V3.v))).read) ((V4.v).read)).read) ((eC ((V0.v).read) (bu (V3.v)) (bP)).read)).read) (bP) (bu (af))))) (aI)
 refine ag (F1:=iV) (F2:=iH) ?_ ?_
 ·exact aY cx (bB hu ((V1.v).read) ((af).read) (aq rfl)) (aj (aF cx (az ((az ((eC ((V0.v).read) (bP) (bu (V3.v))).read) ((V4.v).read)).read) ((eC ((V0.v).read) (bu (az ((V3.v).read) ((af).read))) (bP)).read)))) (aI)
 exact aj (aF cx (V0.v))
noncomputable def d9:Ev->SR:=bx (ae 1)
noncomputable def c8:Ev->SR:=au (Bp 0 1 2 3 (ue (bC cz (ae 2) (mC (.int 0))) (bC ul (m2 bO (ae 3) (mC (.int 2))) (m2 bO (m2 bO (ae 0) (m2 gA (ae 2) (mC (.int 1)))) (mC (.int 2)))))) d9
noncomputable def bM (ds:List D):R D:=b0 (c8 (aG 4 ds))
theorem lP:FnScope ["pieces", "parts", "k", "piece"] ["pieces"] (am (aR 31)):=i5
theorem lE {κ:Nat->Addr} {X:Cx} {B:Gd} (cx:Cxo X) (hcalm:X.calm=true) (hN:X.N=[("pieces" : Str),("parts" : Str),("k" : Str),("piece" : Str)]) (hsc:X.env.scope=am (aR 31)) (hfn:∀ y,X.fn y=true) (hu:X.A.units + 64 < cLine) (b_enumerate:X.mg "enumerate" = none):QZs κ B X (aB (aR 31)) c8:=by
 have hnd:X.N.Nodup:=by rw [hN];decide +kernel
 have V0:VP X 0 "pieces":=ba cx hnd hfn hN hsc
 have V1:VP X 1 "parts":=ba cx hnd hfn hN hsc
 have V2:VP X 2 "k":=ba cx hnd hfn hN hsc
 have V3:VP X 3 "piece":=ba cx hnd hfn hN hsc
 have hg_enumerate:Gl X "enumerate":=b9 hsc
 refine wT cx hcalm hnd hfn hg_enumerate b_enumerate V0.n V0.vi (by decide) (by decide) V1.n V1.l V1.vi (by decide) (by decide) V2.n V2.l V3.n V3.l V3.vi (by decide) (by decide) (by decide) (by decide) (by decide) (by decide) (by decide) (by decide) ((jZ (bB hu ((V2.v).read) ((af).read) (aq rfl)) (hR (Ft hu ((bo ((V3.v).read) ((af).read) rfl).read) ((bo ((bo ((V0.v).read) ((cQ ((V2.v).read) ((af).read)).read) rfl).read) ((af).read) rfl).read) (aq rfl)))).t) rfl rfl rfl rfl rfl rfl rfl rfl rfl rfl rfl rfl  (F:=d9) ?_
 exact aj (aF cx (V1.v))
noncomputable def tq:Ev->SR:=SR.exc 3
noncomputable def ml:Ev->SR:=tq
noncomputable def mO:Ev->SR:=c7 (ue (bC sx (ae 3) (mC c_PLAIN_SIGNS)) (bC sx (ae 3) (mC (.str [91,93])))) (bx (ae 3)) (SR.next)
noncomputable def mj:Ev->SR:=au (mO) ml
noncomputable def mM:Ev->SR:=aJ 3 (m2 bO (ae 0) (ae 1))
noncomputable def mi:Ev->SR:=au (mM) mj
noncomputable def mK:Ev->SR:=c7 (bC sx (ae 2) (mC c_PLACES)) (bx (ae 2)) (SR.next)
noncomputable def mh:Ev->SR:=au (mK) mi
noncomputable def mJ:Ev->SR:=aJ 2 (jW (ae 0) (mP (ae 1)) (mP (m2 aT (ae 1) (mC (.int 3)))))
noncomputable def pA:Ev->SR:=au (mJ) mh
noncomputable def dQ (ds:List D):R D:=b0 (pA (aG 4 ds))
theorem yG:FnScope ["form", "start", "place", "sign"] ["form", "start"] (am (aR 23)):=i5
theorem xM {κ:Nat->Addr} {X:Cx} {B:Gd} (cx:Cxo X) (hcalm:X.calm=true) (hN:X.N=[("form" : Str),("start" : Str),("place" : Str),("sign" : Str)]) (hsc:X.env.scope=am (aR 23)) (hfn:∀ y,X.fn y=true) (hu:X.A.units + 64 < cLine) (c_PLACES':∃ u v,X.mg "PLACES" = some u/\bg v u/\∀ G,aW ⟨X.K,κ⟩ G v c_PLACES) (c_PLAIN_SIGNS':∃ u v,X.mg "PLAIN_SIGNS" = some u/\bg v u/\∀ G,aW ⟨X.K,κ⟩ G v c_PLAIN_SIGNS) (x_BadForm:kf κ X ("BadForm" : Str) 3):QZs κ B X (aB (aR 23)) pA:=by
 have hnd:X.N.Nodup:=by rw [hN];decide +kernel
 have V0:VP X 0 "form":=ba cx hnd hfn hN hsc
 have V1:VP X 1 "start":=ba cx hnd hfn hN hsc
 have V2:VP X 2 "place":=ba cx hnd hfn hN hsc
 have V3:VP X 3 "sign":=ba cx hnd hfn hN hsc
 have hg_PLACES:Gl X "PLACES":=b9 hsc
 have hg_PLAIN_SIGNS:Gl X "PLAIN_SIGNS":=b9 hsc
 have hg_BadForm:Gl X "BadForm":=b9 hsc
 have g_PLACES:∀ {B:Gd} {pos:Pos},QX κ B X (.Name "PLACES" pos) (mC c_PLACES):=let ⟨_,_,h1,h2,h3⟩:=c_PLACES';cj hg_PLACES h1 h2 h3 (by decide)
 have g_PLAIN_SIGNS:∀ {B:Gd} {pos:Pos},QX κ B X (.Name "PLAIN_SIGNS" pos) (mC c_PLAIN_SIGNS):=let ⟨_,_,h1,h2,h3⟩:=c_PLAIN_SIGNS';cj hg_PLAIN_SIGNS h1 h2 h3 (by decide)
 refine ag (F1:=mJ) (F2:=mh) ?_ ?_
 ·exact V2.s (eC ((V0.v).read) (bu (V1.v)) (bu (az ((V1.v).read) ((af).read)))) rfl
 refine ag (F1:=mK) (F2:=mi) ?_ ?_
 ·exact aY cx (po hu ((V2.v).read) ((g_PLACES).read) (aq rfl)) (aj (aF cx (V2.v))) (aI)
 refine ag (F1:=mM) (F2:=mj) ?_ ?_
 ·exact V3.s (bo ((V0.v).read) ((V1.v).read) rfl) rfl
 refine ag (F1:=mO) (F2:=ml) ?_ ?_
 ·exact aY cx ((jZ (po hu ((V3.v).read) ((g_PLAIN_SIGNS).read) (aq rfl)) (hR (po hu ((V3.v).read) ((aO (l:=[91,93]) (by decide +kernel)).read) (aq rfl)))).t) (aj (aF cx (V3.v))) (aI)
 exact aj (ca cx hcalm x_BadForm hg_BadForm (by decide))
noncomputable def cS:Ev->SR:=au (aJ 3 (aH dQ (ah (ae 0) (ah (ae 2) (ar))))) (au (iC 1 (ae 3)) (o6 2 (λ i j=>i + j) (m1 b3 (ae 3))))
noncomputable def j8:Ev->SR:=bx (ae 1)
noncomputable def eQ:Ev->SR:=λ δ=>(j8) (qc 1 δ)
noncomputable def eT:Ev->SR:=cC (bC oW (ae 2) (m1 b3 (ae 0))) (cS) 40
noncomputable def eO:Ev->SR:=au (eT) eQ
noncomputable def eS:Ev->SR:=aJ 2 (mC (.int 0))
noncomputable def eN:Ev->SR:=au (eS) eO
noncomputable def eR:Ev->SR:=kd 1 (λ δ=>lim ((ar) δ))
noncomputable def fI:Ev->SR:=au (eR) eN
noncomputable def bW (ds:List D):R D:=b0 (fI (aG 4 ds))
theorem nA:FnScope ["form", "tokens", "start", "token"] ["form"] (am (aR 24)):=i5
theorem mX {κ:Nat->Addr} {X:Cx} {B:Gd} (cx:Cxo X) (hcalm:X.calm=true) (hN:X.N=[("form" : Str),("tokens" : Str),("start" : Str),("token" : Str)]) (hsc:X.env.scope=am (aR 24)) (hfn:∀ y,X.fn y=true) (hu:X.A.units + 64 < cLine) (k_token_at:Cal κ X "token_at" 2 dQ) (b_len:X.mg "len" = none):QZs κ B X (aB (aR 24)) fI:=by
 have hnd:X.N.Nodup:=by rw [hN];decide +kernel
 have V0:VP X 0 "form":=ba cx hnd hfn hN hsc
 have V1:VP X 1 "tokens":=ba cx hnd hfn hN hsc
 have V2:VP X 2 "start":=ba cx hnd hfn hN hsc
 have V3:VP X 3 "token":=ba cx hnd hfn hN hsc
 have hg_token_at:Gl X "token_at":=b9 hsc
 have hg_len:Gl X "len":=b9 hsc
 refine ag (F1:=eR) (F2:=eN) ?_ ?_
 ·exact V1.w (eB (ai)) rfl
 refine ag (F1:=eS) (F2:=eO) ?_ ?_
 ·exact V2.s (af) rfl
 refine ag (F1:=eT) (F2:=eQ) ?_ ?_
 ·exact n5 cx 40 (nu ((V2.v).read) ((cB hg_len b_len ((V0.v).read) rfl).read) (aq rfl)) (ag (V3.s (aw cx k_token_at rfl hg_token_at (aa (V0.v) (aa (V2.v) (ai) rfl) rfl)) rfl) (ag (V1.a (V3.v) rfl rfl) (aj (V2.ua (cB hg_len b_len ((V3.v).read) rfl)))))
 refine fH 1 (F:=_) ?_
 exact aj (aF cx (V1.v))
noncomputable def mf:Ev->SR:=bx (i8 (ah (mC (.str [115,105,103,110])) (ah (ae 0) (ah (ae 1) (ar)))))
noncomputable def pz:Ev->SR:=au (c7 (bC sx (ae 0) (mC c_PLACES)) (bx (i8 (ah (mC (.str [112,108,97,99,101])) (ah (m2 bO (ae 0) (mC (.int 1))) (ah (ae 1) (ar)))))) (SR.next)) mf
noncomputable def fA (ds:List D):R D:=b0 (pz (aG 2 ds))
theorem yF:FnScope ["token", "part"] ["token", "part"] (am (aR 25)):=i5
theorem xL {κ:Nat->Addr} {X:Cx} {B:Gd} (cx:Cxo X) (hcalm:X.calm=true) (hN:X.N=[("token" : Str),("part" : Str)]) (hsc:X.env.scope=am (aR 25)) (hfn:∀ y,X.fn y=true) (hu:X.A.units + 64 < cLine) (c_PLACES':∃ u v,X.mg "PLACES" = some u/\bg v u/\∀ G,aW ⟨X.K,κ⟩ G v c_PLACES):QZs κ B X (aB (aR 25)) pz:=by
 have hnd:X.N.Nodup:=by rw [hN];decide +kernel
 have V0:VP X 0 "token":=ba cx hnd hfn hN hsc
 have V1:VP X 1 "part":=ba cx hnd hfn hN hsc
 have hg_PLACES:Gl X "PLACES":=b9 hsc
 have g_PLACES:∀ {B:Gd} {pos:Pos},QX κ B X (.Name "PLACES" pos) (mC c_PLACES):=let ⟨_,_,h1,h2,h3⟩:=c_PLACES';cj hg_PLACES h1 h2 h3 (by decide)
 refine ag (F1:=c7 (bC sx (ae 0) (mC c_PLACES)) (bx (i8 (ah (mC (.str [112,108,97,99,101])) (ah (m2 bO (ae 0) (mC (.int 1))) (ah (ae 1) (ar)))))) (SR.next)) (F2:=mf) ?_ ?_
 ·exact aY cx (po hu ((V0.v).read) ((g_PLACES).read) (aq rfl)) (aj (aF cx (cE (aa (aO (l:=[112,108,97,99,101]) (by decide +kernel)) (aa (bo ((V0.v).read) ((af).read) rfl) (aa (V1.v) (ai) rfl) rfl) rfl)))) (aI)
 exact aj (aF cx (cE (aa (aO (l:=[115,105,103,110]) (by decide +kernel)) (aa (V0.v) (aa (V1.v) (ai) rfl) rfl) rfl)))
noncomputable def bD:Ev->SR:=c7 (bC cz (ae 5) (mC (.str [91]))) (au (c7 (mT (ae 3)) (SR.exc 3) (SR.next)) (au (aJ 3 (mC (.bl true))) (o6 2 (λ i j=>i + j) (mC (.int 1))))) (c7 (bC cz (ae 5) (mC (.str [93]))) (au (c7 (ud (mT (ae 3))) (SR.exc 3) (SR.next)) (au (c7 (bC cz (m2 bO (ae 0) (m2 gA (ae 4) (mC (.int 1)))) (mC (.str [91]))) (SR.exc 3) (SR.next)) (aJ 3 (mC (.bl false))))) (iC 1 (aH fA (ah (ae 5) (ah (zC (mT (ae 3)) (ae 2) (mC (.int 0))) (ar))))))
noncomputable def mI:Ev->SR:=bx (ae 1)
noncomputable def fQ:Ev->SR:=λ δ=>(mI) (qc 1 δ)
noncomputable def fZ:Ev->SR:=c7 (bC nF (ae 2) (mC c_MOST_LACKING_PARTS)) (SR.exc 3) (SR.next)
noncomputable def fP:Ev->SR:=au (fZ) fQ
noncomputable def fY:Ev->SR:=c7 (mT (ae 3)) (SR.exc 3) (SR.next)
noncomputable def fO:Ev->SR:=au (fY) fP
noncomputable def dA:Ev->SR:=df (λ δ=>((ae 0) δ).bind BV) (j9 2 (bw (bN 4) (bw (bN 5) (ga)))) (bD)
noncomputable def fN:Ev->SR:=au (dA) fO
noncomputable def fX:Ev->SR:=aJ 3 (mC (.bl false))
noncomputable def fM:Ev->SR:=au (fX) fN
noncomputable def fW:Ev->SR:=aJ 2 (mC (.int 0))
noncomputable def fL:Ev->SR:=au (fW) fM
noncomputable def fV:Ev->SR:=kd 1 (λ δ=>lim ((ar) δ))
noncomputable def iL:Ev->SR:=au (fV) fL
noncomputable def cw (ds:List D):R D:=b0 (iL (aG 6 ds))
theorem o3:FnScope ["tokens", "pieces", "parts", "inside", "k", "token"] ["tokens"] (am (aR 26)):=i5
theorem oQ {κ:Nat->Addr} {X:Cx} {B:Gd} (cx:Cxo X) (hcalm:X.calm=true) (hN:X.N=[("tokens" : Str),("pieces" : Str),("parts" : Str),("inside" : Str),("k" : Str),("token" : Str)]) (hsc:X.env.scope=am (aR 26)) (hfn:∀ y,X.fn y=true) (hu:X.A.units + 64 < cLine) (k_piece_of:Cal κ X "piece_of" 2 fA) (c_MOST_LACKING_PARTS':∃ u v,X.mg "MOST_LACKING_PARTS" = some u/\bg v u/\∀ G,aW ⟨X.K,κ⟩ G v c_MOST_LACKING_PARTS) (b_enumerate:X.mg "enumerate" = none) (x_BadForm:kf κ X ("BadForm" : Str) 3):QZs κ B X (aB (aR 26)) iL:=by
 have hnd:X.N.Nodup:=by rw [hN];decide +kernel
 have V0:VP X 0 "tokens":=ba cx hnd hfn hN hsc
 have V1:VP X 1 "pieces":=ba cx hnd hfn hN hsc
 have V2:VP X 2 "parts":=ba cx hnd hfn hN hsc
 have V3:VP X 3 "inside":=ba cx hnd hfn hN hsc
 have V4:VP X 4 "k":=ba cx hnd hfn hN hsc
 have V5:VP X 5 "token":=ba cx hnd hfn hN hsc
 have hg_piece_of:Gl X "piece_of":=b9 hsc
 have hg_MOST_LACKING_PARTS:Gl X "MOST_LACKING_PARTS":=b9 hsc
 have hg_enumerate:Gl X "enumerate":=b9 hsc
 have hg_BadForm:Gl X "BadForm":=b9 hsc
 have g_MOST_LACKING_PARTS:∀ {B:Gd} {pos:Pos},QX κ B X (.Name "MOST_LACKING_PARTS" pos) (mC c_MOST_LACKING_PARTS):=let ⟨_,_,h1,h2,h3⟩:=c_MOST_LACKING_PARTS';cj hg_MOST_LACKING_PARTS h1 h2 h3 (by decide)
 refine ag (F1:=fV) (F2:=fL) ?_ ?_
 ·exact V1.w (eB (ai)) rfl
 refine ag (F1:=fW) (F2:=fM) ?_ ?_
 ·exact V2.s (af) rfl
 refine ag (F1:=fX) (F2:=fN) ?_ ?_
 ·exact V3.s (yx) rfl
 refine ag (F1:=dA) (F2:=fO) ?_ ?_
 ·exact Fv cx hcalm (A8 hg_enumerate b_enumerate (V0.v) rfl) (λ B=>lN hcalm (cg (V4.t) (cg (V5.t) (dS) rfl) rfl) rfl rfl) (λ B=>aj (aY cx (bB hu ((V5.v).read) ((aO (l:=[91]) (by decide +kernel)).read) (aq rfl)) (ag (aY cx (cF ((V3.v).read) rfl) (aj (ca cx hcalm x_BadForm hg_BadForm (by decide))) (aI)) (ag (V3.s (yx) rfl) (aj (V2.ua (af))))) (aj (aY cx (bB hu ((V5.v).read) ((aO (l:=[93]) (by decide +kernel)).read) (aq rfl)) (ag (aY cx (qC (cF ((V3.v).read) rfl)) (aj (ca cx hcalm x_BadForm hg_BadForm (by decide))) (aI)) (ag (aY cx (bB hu ((bo ((V0.v).read) ((cQ ((V4.v).read) ((af).read)).read) rfl).read) ((aO (l:=[91]) (by decide +kernel)).read) (aq rfl)) (aj (ca cx hcalm x_BadForm hg_BadForm (by decide))) (aI)) (aj (V3.s (yx) rfl)))) (aj (V1.a (aw cx k_piece_of rfl hg_piece_of (aa (V5.v) (aa (uH (cF ((V3.v).read) rfl) (V2.v) (af)) (ai) rfl) rfl)) rfl rfl)))))) rfl
 refine ag (F1:=fY) (F2:=fP) ?_ ?_
 ·exact aY cx (cF ((V3.v).read) rfl) (aj (ca cx hcalm x_BadForm hg_BadForm (by decide))) (aI)
 refine ag (F1:=fZ) (F2:=fQ) ?_ ?_
 ·exact aY cx (dZ ((V2.v).read) ((g_MOST_LACKING_PARTS).read) (aq rfl)) (aj (ca cx hcalm x_BadForm hg_BadForm (by decide))) (aI)
 refine fH 1 (F:=_) ?_
 exact aj (aF cx (V1.v))
noncomputable def kN:Ev->SR:=c7 (bC nF (JK nS (ae 1) (ah (ae 2) (ar))) (mC (.int 1))) (SR.exc 3) (SR.next)
noncomputable def rb:Ev->SR:=bx (aH cw (ah (ae 1) (ar)))
noncomputable def kI:Ev->SR:=rb
noncomputable def lm:Ev->SR:=df (λ δ=>((mC c_PLACES) δ).bind br) (bN 2) (kN)
noncomputable def kH:Ev->SR:=au (lm) kI
noncomputable def ll:Ev->SR:=aJ 1 (aH bW (ah (ae 0) (ar)))
noncomputable def kG:Ev->SR:=au (ll) kH
noncomputable def lj:Ev->SR:=c7 (ue (bC oW (m1 b3 (ae 0)) (mC (.int 1))) (bC nF (m1 b3 (ae 0)) (mC c_LONGEST_FORM))) (SR.exc 3) (SR.next)
noncomputable def ot:Ev->SR:=au (lj) kG
noncomputable def er (ds:List D):R D:=b0 (ot (aG 3 ds))
theorem xg:FnScope ["form", "tokens", "place"] ["form"] (am (aR 27)):=i5
theorem vV {κ:Nat->Addr} {X:Cx} {B:Gd} (cx:Cxo X) (hcalm:X.calm=true) (hN:X.N=[("form" : Str),("tokens" : Str),("place" : Str)]) (hsc:X.env.scope=am (aR 27)) (hfn:∀ y,X.fn y=true) (hu:X.A.units + 64 < cLine) (k_cut_into_tokens:Cal κ X "cut_into_tokens" 1 bW) (k_number_pieces:Cal κ X "number_pieces" 1 cw) (c_LONGEST_FORM':∃ u v,X.mg "LONGEST_FORM" = some u/\bg v u/\∀ G,aW ⟨X.K,κ⟩ G v c_LONGEST_FORM) (c_PLACES':∃ u v,X.mg "PLACES" = some u/\bg v u/\∀ G,aW ⟨X.K,κ⟩ G v c_PLACES) (b_len:X.mg "len" = none) (x_BadForm:kf κ X ("BadForm" : Str) 3):QZs κ B X (aB (aR 27)) ot:=by
 have hnd:X.N.Nodup:=by rw [hN];decide +kernel
 have V0:VP X 0 "form":=ba cx hnd hfn hN hsc
 have V1:VP X 1 "tokens":=ba cx hnd hfn hN hsc
 have V2:VP X 2 "place":=ba cx hnd hfn hN hsc
 have hg_cut_into_tokens:Gl X "cut_into_tokens":=b9 hsc
 have hg_number_pieces:Gl X "number_pieces":=b9 hsc
 have hg_LONGEST_FORM:Gl X "LONGEST_FORM":=b9 hsc
 have hg_PLACES:Gl X "PLACES":=b9 hsc
 have hg_len:Gl X "len":=b9 hsc
 have hg_BadForm:Gl X "BadForm":=b9 hsc
 have g_LONGEST_FORM:∀ {B:Gd} {pos:Pos},QX κ B X (.Name "LONGEST_FORM" pos) (mC c_LONGEST_FORM):=let ⟨_,_,h1,h2,h3⟩:=c_LONGEST_FORM';cj hg_LONGEST_FORM h1 h2 h3 (by decide)
 have g_PLACES:∀ {B:Gd} {pos:Pos},QX κ B X (.Name "PLACES" pos) (mC c_PLACES):=let ⟨_,_,h1,h2,h3⟩:=c_PLACES';cj hg_PLACES h1 h2 h3 (by decide)
 refine ag (F1:=lj) (F2:=kG) ?_ ?_
 ·exact aY cx ((jZ (nu ((cB hg_len b_len ((V0.v).read) rfl).read) ((af).read) (aq rfl)) (hR (dZ ((cB hg_len b_len ((V0.v).read) rfl).read) ((g_LONGEST_FORM).read) (aq rfl)))).t) (aj (ca cx hcalm x_BadForm hg_BadForm (by decide))) (aI)
 refine ag (F1:=ll) (F2:=kH) ?_ ?_
 ·exact V1.s (aw cx k_cut_into_tokens rfl hg_cut_into_tokens (aa (V0.v) (ai) rfl)) rfl
 refine ag (F1:=lm) (F2:=kI) ?_ ?_
 ·exact cr cx hcalm (ci (g_PLACES)) (λ B=>V2.t) (λ B=>aj (aY cx (dZ ((Dw ((V1.v).read) (aa (V2.v) (ai) rfl) rfl rfl rfl).read) ((af).read) (aq rfl)) (aj (ca cx hcalm x_BadForm hg_BadForm (by decide))) (aI))) rfl
 exact aj (aF cx (aw cx k_number_pieces rfl hg_number_pieces (aa (V1.v) (ai) rfl)))
noncomputable def iM:Ev->SR:=bx (aH bM (ah (aH er (ah (ae 0) (ar))) (ar)))
noncomputable def cy (ds:List D):R D:=b0 (iM (aG 1 ds))
theorem o4:FnScope ["form"] ["form"] (am (aR 32)):=i5
theorem oR {κ:Nat->Addr} {X:Cx} {B:Gd} (cx:Cxo X) (hcalm:X.calm=true) (hN:X.N=[("form" : Str)]) (hsc:X.env.scope=am (aR 32)) (hfn:∀ y,X.fn y=true) (hu:X.A.units + 64 < cLine) (k_split_into_parts:Cal κ X "split_into_parts" 1 bM) (k_read_form:Cal κ X "read_form" 1 er):QZs κ B X (aB (aR 32)) iM:=by
 have hnd:X.N.Nodup:=by rw [hN];decide +kernel
 have V0:VP X 0 "form":=ba cx hnd hfn hN hsc
 have hg_split_into_parts:Gl X "split_into_parts":=b9 hsc
 have hg_read_form:Gl X "read_form":=b9 hsc
 exact aj (aF cx (aw cx k_split_into_parts rfl hg_split_into_parts (aa (aw cx k_read_form rfl hg_read_form (aa (V0.v) (ai) rfl)) (ai) rfl)))
noncomputable def js:Ev->SR:=c7 (bC iu (ae 1) (mC c_PLAIN_SIGNS)) (SR.exc 5) (SR.next)
noncomputable def fq:Ev->SR:=df (λ δ=>((ae 0) δ).bind t0) (bN 1) (js)
noncomputable def eU:Ev->SR:=au (c7 (ue (bC oW (m1 b3 (ae 0)) (mC (.int 1))) (bC nF (m1 b3 (ae 0)) (mC c_LONGEST_TEXT))) (SR.exc 5) (SR.next)) fq
noncomputable def cO (ds:List D):R D:=b0 (eU (aG 2 ds))
theorem uL:FnScope ["text", "sign"] ["text"] (am (aR 30)):=i5
theorem tL {κ:Nat->Addr} {X:Cx} {B:Gd} (cx:Cxo X) (hcalm:X.calm=true) (hN:X.N=[("text" : Str),("sign" : Str)]) (hsc:X.env.scope=am (aR 30)) (hfn:∀ y,X.fn y=true) (hu:X.A.units + 64 < cLine) (c_LONGEST_TEXT':∃ u v,X.mg "LONGEST_TEXT" = some u/\bg v u/\∀ G,aW ⟨X.K,κ⟩ G v c_LONGEST_TEXT) (c_PLAIN_SIGNS':∃ u v,X.mg "PLAIN_SIGNS" = some u/\bg v u/\∀ G,aW ⟨X.K,κ⟩ G v c_PLAIN_SIGNS) (b_len:X.mg "len" = none) (x_BadText:kf κ X ("BadText" : Str) 5):QZs κ B X (aB (aR 30)) eU:=by
 have hnd:X.N.Nodup:=by rw [hN];decide +kernel
 have V0:VP X 0 "text":=ba cx hnd hfn hN hsc
 have V1:VP X 1 "sign":=ba cx hnd hfn hN hsc
 have hg_LONGEST_TEXT:Gl X "LONGEST_TEXT":=b9 hsc
 have hg_PLAIN_SIGNS:Gl X "PLAIN_SIGNS":=b9 hsc
 have hg_len:Gl X "len":=b9 hsc
 have hg_BadText:Gl X "BadText":=b9 hsc
 have g_LONGEST_TEXT:∀ {B:Gd} {pos:Pos},QX κ B X (.Name "LONGEST_TEXT" pos) (mC c_LONGEST_TEXT):=let ⟨_,_,h1,h2,h3⟩:=c_LONGEST_TEXT';cj hg_LONGEST_TEXT h1 h2 h3 (by decide)
 have g_PLAIN_SIGNS:∀ {B:Gd} {pos:Pos},QX κ B X (.Name "PLAIN_SIGNS" pos) (mC c_PLAIN_SIGNS):=let ⟨_,_,h1,h2,h3⟩:=c_PLAIN_SIGNS';cj hg_PLAIN_SIGNS h1 h2 h3 (by decide)
 refine ag (F1:=c7 (ue (bC oW (m1 b3 (ae 0)) (mC (.int 1))) (bC nF (m1 b3 (ae 0)) (mC c_LONGEST_TEXT))) (SR.exc 5) (SR.next)) (F2:=fq) ?_ ?_
 ·exact aY cx ((jZ (nu ((cB hg_len b_len ((V0.v).read) rfl).read) ((af).read) (aq rfl)) (hR (dZ ((cB hg_len b_len ((V0.v).read) rfl).read) ((g_LONGEST_TEXT).read) (aq rfl)))).t) (aj (ca cx hcalm x_BadText hg_BadText (by decide))) (aI)
 exact aj (cr cx hcalm (Dm (V0.v)) (λ B=>V1.t) (λ B=>aj (aY cx (nv hu ((V1.v).read) ((g_PLAIN_SIGNS).read) (aq rfl)) (aj (ca cx hcalm x_BadText hg_BadText (by decide))) (aI))) rfl)
noncomputable def dq:Ev->SR:=au (aJ 6 (m2 aT (ae 4) (m1 b3 (ae 5)))) (c7 (gX (bC cz (jW (ae 1) (mP (ae 4)) (mP (ae 6))) (ae 5)) (bC iu (ae 6) (lA 3))) (iC 3 (ae 6)) (SR.next))
noncomputable def fR:Ev->SR:=df (λ δ=>((ae 0) δ).bind br) (bN 5) (dq)
noncomputable def mr:Ev->SR:=bx (ae 3)
noncomputable def fK:Ev->SR:=λ δ=>(mr) (qc 3 δ)
noncomputable def fU:Ev->SR:=df (λ δ=>((ae 2) δ).bind br) (bN 4) (fR)
noncomputable def fJ:Ev->SR:=au (fU) fK
noncomputable def fS:Ev->SR:=kd 3 (λ δ=>lim ((ar) δ))
noncomputable def iD:Ev->SR:=au (fS) fJ
noncomputable def cv (ds:List D):R D:=b0 (iD (aG 7 ds))
theorem o0:FnScope ["written", "text", "starts", "ends", "start", "way", "end"] ["written", "text", "starts"] (am (aR 36)):=i5
theorem oP {κ:Nat->Addr} {X:Cx} {B:Gd} (cx:Cxo X) (hcalm:X.calm=true) (hN:X.N=[("written" : Str),("text" : Str),("starts" : Str),("ends" : Str),("start" : Str),("way" : Str),("end" : Str)]) (hsc:X.env.scope=am (aR 36)) (hfn:∀ y,X.fn y=true) (hu:X.A.units + 64 < cLine) (b_len:X.mg "len" = none):QZs κ B X (aB (aR 36)) iD:=by
 have hnd:X.N.Nodup:=by rw [hN];decide +kernel
 have V0:VP X 0 "written":=ba cx hnd hfn hN hsc
 have V1:VP X 1 "text":=ba cx hnd hfn hN hsc
 have V2:VP X 2 "starts":=ba cx hnd hfn hN hsc
 have V3:VP X 3 "ends":=ba cx hnd hfn hN hsc
 have V4:VP X 4 "start":=ba cx hnd hfn hN hsc
 have V5:VP X 5 "way":=ba cx hnd hfn hN hsc
 have V6:VP X 6 "end":=ba cx hnd hfn hN hsc
 have hg_len:Gl X "len":=b9 hsc
 refine ag (F1:=fS) (F2:=fJ) ?_ ?_
 ·exact V3.w (eB (ai)) rfl
 refine ag (F1:=fU) (F2:=fK) ?_ ?_
 ·exact cr cx hcalm (ci (V2.v)) (λ B=>V4.t) (λ B=>aj (cr cx hcalm (ci (V0.v)) (λ B=>V5.t) (λ B=>ag (V6.s (az ((V4.v).read) ((cB hg_len b_len ((V5.v).read) rfl).read)) rfl) (aj (aY cx ((hG (bB hu ((eC ((V1.v).read) (bu (V4.v)) (bu (V6.v))).read) ((V5.v).read) (aq rfl)) (fj (nv hu ((V6.v).read) (V3.r) (aq rfl)))).t) (aj (V3.a (V6.v) rfl rfl)) (aI)))) rfl)) rfl
 refine fH 3 (F:=_) ?_
 exact aj (aF cx (V3.v))
noncomputable def bL:Ev->SR:=au (aJ 6 (zC (bC cz (m2 bO (ae 5) (mC (.int 0))) (mC (.str [112,108,97,99,101]))) (m2 AR (ae 1) (m2 bO (ae 5) (mC (.int 1)))) (b8 (ah (m2 bO (ae 5) (mC (.int 1))) (ar))))) (au (aJ 4 (aH cv (ah (ae 6) (ah (ae 2) (ah (ae 4) (ar)))))) (c7 (bC cz (ae 4) (b8 (ar))) (bx (b8 (ar))) (SR.next)))
noncomputable def nH:Ev->SR:=bx (ae 4)
noncomputable def gH:Ev->SR:=nH
noncomputable def dO:Ev->SR:=df (λ δ=>((ae 0) δ).bind br) (bN 5) (bL)
noncomputable def gF:Ev->SR:=au (dO) gH
noncomputable def gN:Ev->SR:=aJ 4 (ae 3)
noncomputable def jd:Ev->SR:=au (gN) gF
noncomputable def cH (ds:List D):R D:=b0 (jd (aG 7 ds))
theorem qH:FnScope ["part", "ways", "text", "starts", "ends", "piece", "written"] ["part", "ways", "text", "starts"] (am (aR 37)):=i5
theorem pS {κ:Nat->Addr} {X:Cx} {B:Gd} (cx:Cxo X) (hcalm:X.calm=true) (hN:X.N=[("part" : Str),("ways" : Str),("text" : Str),("starts" : Str),("ends" : Str),("piece" : Str),("written" : Str)]) (hsc:X.env.scope=am (aR 37)) (hfn:∀ y,X.fn y=true) (hu:X.A.units + 64 < cLine) (k_ends_of_piece:Cal κ X "ends_of_piece" 3 cv):QZs κ B X (aB (aR 37)) jd:=by
 have hnd:X.N.Nodup:=by rw [hN];decide +kernel
 have V0:VP X 0 "part":=ba cx hnd hfn hN hsc
 have V1:VP X 1 "ways":=ba cx hnd hfn hN hsc
 have V2:VP X 2 "text":=ba cx hnd hfn hN hsc
 have V3:VP X 3 "starts":=ba cx hnd hfn hN hsc
 have V4:VP X 4 "ends":=ba cx hnd hfn hN hsc
 have V5:VP X 5 "piece":=ba cx hnd hfn hN hsc
 have V6:VP X 6 "written":=ba cx hnd hfn hN hsc
 have hg_ends_of_piece:Gl X "ends_of_piece":=b9 hsc
 refine ag (F1:=gN) (F2:=gF) ?_ ?_
 ·exact V4.s (V3.v) rfl
 refine ag (F1:=dO) (F2:=gH) ?_ ?_
 ·exact cr cx hcalm (ci (V0.v)) (λ B=>V5.t) (λ B=>ag (V6.s (uH (bB hu ((bo ((V5.v).read) ((af).read) rfl).read) ((aO (l:=[112,108,97,99,101]) (by decide +kernel)).read) (aq rfl)) (ID hu (V1.v) (bo ((V5.v).read) ((af).read) rfl) (λ _ _=>rfl)) (aV (aa (bo ((V5.v).read) ((af).read) rfl) (ai) rfl))) rfl) (ag (V4.s (aw cx k_ends_of_piece rfl hg_ends_of_piece (aa (V6.v) (aa (V2.v) (aa (V4.v) (ai) rfl) rfl) rfl)) rfl) (aj (aY cx (bB hu ((V4.v).read) ((aV (ai)).read) (aq rfl)) (aj (aF cx (aV (ai)))) (aI))))) rfl
 exact aj (aF cx (V4.v))
noncomputable def fu:Ev->SR:=au (aJ 5 (ae 3)) (au (aJ 3 (aH cH (ah (ae 4) (ah (ae 1) (ah (ae 2) (ah (ae 5) (ar))))))) (c7 (bC nF (m2 bO (m2 bO (ae 4) (mC (.int 0))) (mC (.int 2))) (mC (.int 0))) (aJ 3 (m2 qp (ae 5) (mL (ec (λ δ=>((ae 3) δ).bind br) (bC iu (ae 6) (ae 5)) (ae 6))))) (SR.next)))
noncomputable def pC:Ev->SR:=bx (m2 (dL sx) (m1 b3 (ae 2)) (ae 3))
noncomputable def jf:Ev->SR:=pC
noncomputable def jw:Ev->SR:=df (λ δ=>((ae 0) δ).bind br) (bN 4) (fu)
noncomputable def je:Ev->SR:=au (jw) jf
noncomputable def jv:Ev->SR:=aJ 3 (b8 (ah (mC (.int 0)) (ar)))
noncomputable def lW:Ev->SR:=au (jv) je
noncomputable def dF (ds:List D):R D:=b0 (lW (aG 6 ds))
theorem uN:FnScope ["parts", "ways", "text", "ends", "part", "starts"] ["parts", "ways", "text"] (am (aR 38)):=i5
theorem tN {κ:Nat->Addr} {X:Cx} {B:Gd} (cx:Cxo X) (hcalm:X.calm=true) (hN:X.N=[("parts" : Str),("ways" : Str),("text" : Str),("ends" : Str),("part" : Str),("starts" : Str)]) (hsc:X.env.scope=am (aR 38)) (hfn:∀ y,X.fn y=true) (hu:X.A.units + 64 < cLine) (k_ends_of_part:Cal κ X "ends_of_part" 4 cH) (b_len:X.mg "len" = none):QZs κ B X (aB (aR 38)) lW:=by
 have hnd:X.N.Nodup:=by rw [hN];decide +kernel
 have V0:VP X 0 "parts":=ba cx hnd hfn hN hsc
 have V1:VP X 1 "ways":=ba cx hnd hfn hN hsc
 have V2:VP X 2 "text":=ba cx hnd hfn hN hsc
 have V3:VP X 3 "ends":=ba cx hnd hfn hN hsc
 have V4:VP X 4 "part":=ba cx hnd hfn hN hsc
 have V5:VP X 5 "starts":=Lh cx hnd hfn hN hsc rfl rfl (by decide) (by decide)
 have hg_ends_of_part:Gl X "ends_of_part":=b9 hsc
 have hg_len:Gl X "len":=b9 hsc
 refine ag (F1:=jv) (F2:=je) ?_ ?_
 ·exact V3.s (aV (aa (af) (ai) rfl)) rfl
 refine ag (F1:=jw) (F2:=jf) ?_ ?_
 ·exact cr cx hcalm (ci (V0.v)) (λ B=>V4.t) (λ B=>ag (V5.s (V3.v) rfl) (ag (V3.s (aw cx k_ends_of_part rfl hg_ends_of_part (aa (V4.v) (aa (V1.v) (aa (V2.v) (aa (V5.v) (ai) rfl) rfl) rfl) rfl)) rfl) (aj (aY cx (dZ ((bo ((bo ((V4.v).read) ((af).read) rfl).read) ((af).read) rfl).read) ((af).read) (aq rfl)) (aj (V3.s (uG ((V5.v).read) (((nn hcalm ⟨by decide +kernel,rfl,by decide +kernel,rfl,by rw [hN];decide +kernel,by rw [hsc];decide +kernel,hnd⟩ (sQ (V3.v)) (λ X' B' hC=>by (have cx:Cxo X':=hC.cxo);(have hcalm:X'.calm=true:=hC.calm.trans hcalm);(have hu:X'.A.units + 64 < cLine:=by rw [hC.A];exact hu);(have z5:∀ {B:Gd} {pos:Pos},QX κ B X' (.Name "starts" pos) (ae 5):=dY 5 (hC.n V5.n) (hC.vis rfl) (by decide) (by decide));(have z6:∀ {B:Gd} {pos:Pos},QX κ B X' (.Name "end" pos) (ae 6):=dY 6 (hC.x (by rw [hN];rfl)) (.inl (hC.look rfl (by decide))) (by decide) (by decide));exact Do (nv hu ((z6).read) ((z5).read) (aq rfl))) (λ X' B' hC=>by (have cx:Cxo X':=hC.cxo);(have hcalm:X'.calm=true:=hC.calm.trans hcalm);(have hu:X'.A.units + 64 < cLine:=by rw [hC.A];exact hu);(have z6:∀ {B:Gd} {pos:Pos},QX κ B X' (.Name "end" pos) (ae 6):=dY 6 (hC.x (by rw [hN];rfl)) (.inl (hC.look rfl (by decide))) (by decide) (by decide));exact z6) rfl).px).read)) rfl)) (aI))))) rfl
 exact aj (aF cx (Dq hu ((cB hg_len b_len ((V2.v).read) rfl).read) ((V3.v).read) (aq rfl)))
noncomputable def lV:Ev->SR:=bx (jL (m2 (dL Bt) (mC (.int 0)) (ae 0)) (m2 (dL Bt) (ae 0) (mC c_LAST_NUMBER)))
noncomputable def bQ (ds:List D):R D:=b0 (lV (aG 1 ds))
theorem uM:FnScope ["number"] ["number"] (am (aR 14)):=i5
theorem tM {κ:Nat->Addr} {X:Cx} {B:Gd} (cx:Cxo X) (hcalm:X.calm=true) (hN:X.N=[("number" : Str)]) (hsc:X.env.scope=am (aR 14)) (hfn:∀ y,X.fn y=true) (hu:X.A.units + 64 < cLine) (c_LAST_NUMBER':∃ u v,X.mg "LAST_NUMBER" = some u/\bg v u/\∀ G,aW ⟨X.K,κ⟩ G v c_LAST_NUMBER):QZs κ B X (aB (aR 14)) lV:=by
 have hnd:X.N.Nodup:=by rw [hN];decide +kernel
 have V0:VP X 0 "number":=ba cx hnd hfn hN hsc
 have hg_LAST_NUMBER:Gl X "LAST_NUMBER":=b9 hsc
 have g_LAST_NUMBER:∀ {B:Gd} {pos:Pos},QX κ B X (.Name "LAST_NUMBER" pos) (mC c_LAST_NUMBER):=let ⟨_,_,h1,h2,h3⟩:=c_LAST_NUMBER';cj hg_LAST_NUMBER h1 h2 h3 (by decide)
 exact aj (aF cx (nt (Dr ((af).read) ((V0.v).read) (aq rfl)) (eX (Dr ((V0.v).read) ((g_LAST_NUMBER).read) (aq rfl)))))
noncomputable def dk:Ev->SR:=bx (m2 aT (m2 gA (m2 aT (m2 jP (ae 1) (mC (.int 365))) (m2 cY (ae 1) (mC (.int 4)))) (m2 cY (ae 1) (mC (.int 100)))) (m2 cY (ae 1) (mC (.int 400))))
noncomputable def d8:Ev->SR:=au (aJ 1 (m2 gA (ae 0) (mC (.int 1)))) dk
noncomputable def aL (ds:List D):R D:=b0 (d8 (aG 2 ds))
theorem jR:FnScope ["year", "whole"] ["year"] (am (aR 13)):=i5
theorem jH {κ:Nat->Addr} {X:Cx} {B:Gd} (cx:Cxo X) (hcalm:X.calm=true) (hN:X.N=[("year" : Str),("whole" : Str)]) (hsc:X.env.scope=am (aR 13)) (hfn:∀ y,X.fn y=true) (hu:X.A.units + 64 < cLine)  : QZs κ B X (aB (aR 13)) d8:=by
 have hnd:X.N.Nodup:=by rw [hN];decide +kernel
 have V0:VP X 0 "year":=ba cx hnd hfn hN hsc
 have V1:VP X 1 "whole":=ba cx hnd hfn hN hsc
 refine ag (F1:=aJ 1 (m2 gA (ae 0) (mC (.int 1)))) (F2:=dk) ?_ ?_
 ·exact V1.s (cQ ((V0.v).read) ((af).read)) rfl
 exact aj (aF cx (az ((cQ ((az ((cK ((V1.v).read) ((af).read)).read) ((bX ((V1.v).read) ((af).read)).read)).read) ((bX ((V1.v).read) ((af).read)).read)).read) ((bX ((V1.v).read) ((af).read)).read)))
noncomputable def kO:Ev->SR:=o6 2 (λ i j=>i + j) (mC (.int 1))
noncomputable def rc:Ev->SR:=bx (ae 2)
noncomputable def kM:Ev->SR:=rc
noncomputable def lq:Ev->SR:=cC (bC Bt (aH aL (ah (m2 aT (ae 2) (mC (.int 1))) (ar))) (ae 0)) (kO) 10
noncomputable def kL:Ev->SR:=au (lq) kM
noncomputable def lp:Ev->SR:=aJ 2 (m2 aT (m2 aT (m2 jP (ae 1) (mC (.int 400))) (m2 cY (m2 bp (ae 0) (mC c_DAYS_OF_400_YEARS)) (mC (.int 366)))) (mC (.int 1)))
noncomputable def kK:Ev->SR:=au (lp) kL
noncomputable def ln:Ev->SR:=aJ 1 (m2 cY (ae 0) (mC c_DAYS_OF_400_YEARS))
noncomputable def ou:Ev->SR:=au (ln) kK
noncomputable def eu (ds:List D):R D:=b0 (ou (aG 3 ds))
theorem xh:FnScope ["number", "cycles", "year"] ["number"] (am (aR 15)):=i5
theorem vW {κ:Nat->Addr} {X:Cx} {B:Gd} (cx:Cxo X) (hcalm:X.calm=true) (hN:X.N=[("number" : Str),("cycles" : Str),("year" : Str)]) (hsc:X.env.scope=am (aR 15)) (hfn:∀ y,X.fn y=true) (hu:X.A.units + 64 < cLine) (k_days_ahead_of_year:Cal κ X "days_ahead_of_year" 1 aL) (c_DAYS_OF_400_YEARS':∃ u v,X.mg "DAYS_OF_400_YEARS" = some u/\bg v u/\∀ G,aW ⟨X.K,κ⟩ G v c_DAYS_OF_400_YEARS):QZs κ B X (aB (aR 15)) ou:=by
 have hnd:X.N.Nodup:=by rw [hN];decide +kernel
 have V0:VP X 0 "number":=ba cx hnd hfn hN hsc
 have V1:VP X 1 "cycles":=ba cx hnd hfn hN hsc
 have V2:VP X 2 "year":=ba cx hnd hfn hN hsc
 have hg_days_ahead_of_year:Gl X "days_ahead_of_year":=b9 hsc
 have hg_DAYS_OF_400_YEARS:Gl X "DAYS_OF_400_YEARS":=b9 hsc
 have g_DAYS_OF_400_YEARS:∀ {B:Gd} {pos:Pos},QX κ B X (.Name "DAYS_OF_400_YEARS" pos) (mC c_DAYS_OF_400_YEARS):=let ⟨_,_,h1,h2,h3⟩:=c_DAYS_OF_400_YEARS';cj hg_DAYS_OF_400_YEARS h1 h2 h3 (by decide)
 refine ag (F1:=ln) (F2:=kK) ?_ ?_
 ·exact V1.s (bX ((V0.v).read) ((g_DAYS_OF_400_YEARS).read)) rfl
 refine ag (F1:=lp) (F2:=kL) ?_ ?_
 ·exact V2.s (az ((az ((cK ((V1.v).read) ((af).read)).read) ((bX ((aD ((V0.v).read) ((g_DAYS_OF_400_YEARS).read)).read) ((af).read)).read)).read) ((af).read)) rfl
 refine ag (F1:=lq) (F2:=kM) ?_ ?_
 ·exact n5 cx 10 (Fs ((aw cx k_days_ahead_of_year rfl hg_days_ahead_of_year (aa (az ((V2.v).read) ((af).read)) (ai) rfl)).read) ((V0.v).read) (aq rfl)) (aj (V2.ua (af)))
 exact aj (aF cx (V2.v))
noncomputable def rJ:Ev->SR:=bx (jL (m2 (dL cz) (m2 bp (ae 0) (mC (.int 4))) (mC (.int 0))) (uf (m2 (dL ul) (m2 bp (ae 0) (mC (.int 100))) (mC (.int 0))) (m2 (dL cz) (m2 bp (ae 0) (mC (.int 400))) (mC (.int 0)))))
noncomputable def dP (ds:List D):R D:=b0 (rJ (aG 1 ds))
theorem Be:FnScope ["year"] ["year"] (am (aR 11)):=i5
theorem Ax {κ:Nat->Addr} {X:Cx} {B:Gd} (cx:Cxo X) (hcalm:X.calm=true) (hN:X.N=[("year" : Str)]) (hsc:X.env.scope=am (aR 11)) (hfn:∀ y,X.fn y=true) (hu:X.A.units + 64 < cLine)  : QZs κ B X (aB (aR 11)) rJ:=by
 have hnd:X.N.Nodup:=by rw [hN];decide +kernel
 have V0:VP X 0 "year":=ba cx hnd hfn hN hsc
 exact aj (aF cx (nt (fG hu ((aD ((V0.v).read) ((af).read)).read) ((af).read) (aq rfl)) (eX (uI (Ds hu ((aD ((V0.v).read) ((af).read)).read) ((af).read) (aq rfl)) (eX (fG hu ((aD ((V0.v).read) ((af).read)).read) ((af).read) (aq rfl)))))))
noncomputable def gK:Ev->SR:=bx (m2 bO (mC c_COMMON_LENGTHS) (m2 gA (ae 1) (mC (.int 1))))
noncomputable def jq:Ev->SR:=au (c7 (gX (bC cz (ae 1) (mC (.int 2))) (mT (aH dP (ah (ae 0) (ar))))) (bx (mC (.int 29))) (SR.next)) gK
noncomputable def bH (ds:List D):R D:=b0 (jq (aG 2 ds))
theorem qJ:FnScope ["year", "month"] ["year", "month"] (am (aR 12)):=i5
theorem pU {κ:Nat->Addr} {X:Cx} {B:Gd} (cx:Cxo X) (hcalm:X.calm=true) (hN:X.N=[("year" : Str),("month" : Str)]) (hsc:X.env.scope=am (aR 12)) (hfn:∀ y,X.fn y=true) (hu:X.A.units + 64 < cLine) (k_is_leap:Cal κ X "is_leap" 1 dP) (c_COMMON_LENGTHS':∃ u v,X.mg "COMMON_LENGTHS" = some u/\bg v u/\∀ G,aW ⟨X.K,κ⟩ G v c_COMMON_LENGTHS):QZs κ B X (aB (aR 12)) jq:=by
 have hnd:X.N.Nodup:=by rw [hN];decide +kernel
 have V0:VP X 0 "year":=ba cx hnd hfn hN hsc
 have V1:VP X 1 "month":=ba cx hnd hfn hN hsc
 have hg_is_leap:Gl X "is_leap":=b9 hsc
 have hg_COMMON_LENGTHS:Gl X "COMMON_LENGTHS":=b9 hsc
 have g_COMMON_LENGTHS:∀ {B:Gd} {pos:Pos},QX κ B X (.Name "COMMON_LENGTHS" pos) (mC c_COMMON_LENGTHS):=let ⟨_,_,h1,h2,h3⟩:=c_COMMON_LENGTHS';cj hg_COMMON_LENGTHS h1 h2 h3 (by decide)
 refine ag (F1:=c7 (gX (bC cz (ae 1) (mC (.int 2))) (mT (aH dP (ah (ae 0) (ar))))) (bx (mC (.int 29))) (SR.next)) (F2:=gK) ?_ ?_
 ·exact aY cx ((hG (bB hu ((V1.v).read) ((af).read) (aq rfl)) (fj (cF ((aw cx k_is_leap rfl hg_is_leap (aa (V0.v) (ai) rfl)).read) rfl))).t) (aj (aF cx (af))) (aI)
 exact aj (aF cx (bo ((g_COMMON_LENGTHS).read) ((cQ ((V1.v).read) ((af).read)).read) rfl))
noncomputable def ox:Ev->SR:=au (o6 2 (λ i j=>i - j) (aH bH (ah (ae 1) (ah (ae 3) (ar))))) (o6 3 (λ i j=>i + j) (mC (.int 1)))
noncomputable def vo:Ev->SR:=bx (i8 (ah (ae 1) (ah (ae 3) (ah (m2 aT (ae 2) (mC (.int 1))) (ar)))))
noncomputable def oh:Ev->SR:=vo
noncomputable def oC:Ev->SR:=cC (bC Gk (ae 2) (aH bH (ah (ae 1) (ah (ae 3) (ar))))) (ox) 20
noncomputable def og:Ev->SR:=au (oC) oh
noncomputable def oB:Ev->SR:=aJ 3 (mC (.int 1))
noncomputable def oa:Ev->SR:=au (oB) og
noncomputable def oA:Ev->SR:=aJ 2 (m2 gA (ae 0) (aH aL (ah (ae 1) (ar))))
noncomputable def n9:Ev->SR:=au (oA) oa
noncomputable def oz:Ev->SR:=aJ 1 (aH eu (ah (ae 0) (ar)))
noncomputable def n8:Ev->SR:=au (oz) n9
noncomputable def oy:Ev->SR:=c7 (ud (mT (aH bQ (ah (ae 0) (ar))))) (SR.exc 1) (SR.next)
noncomputable def rG:Ev->SR:=au (oy) n8
noncomputable def fe (ds:List D):R D:=b0 (rG (aG 4 ds))
theorem Bc:FnScope ["number", "year", "rest", "month"] ["number"] (am (aR 16)):=i5
theorem Au {κ:Nat->Addr} {X:Cx} {B:Gd} (cx:Cxo X) (hcalm:X.calm=true) (hN:X.N=[("number" : Str),("year" : Str),("rest" : Str),("month" : Str)]) (hsc:X.env.scope=am (aR 16)) (hfn:∀ y,X.fn y=true) (hu:X.A.units + 64 < cLine) (k_has_number:Cal κ X "has_number" 1 bQ) (k_year_with:Cal κ X "year_with" 1 eu) (k_days_ahead_of_year:Cal κ X "days_ahead_of_year" 1 aL) (k_month_length:Cal κ X "month_length" 2 bH) (x_NoSuchDay:kf κ X ("NoSuchDay" : Str) 1):QZs κ B X (aB (aR 16)) rG:=by
 have hnd:X.N.Nodup:=by rw [hN];decide +kernel
 have V0:VP X 0 "number":=ba cx hnd hfn hN hsc
 have V1:VP X 1 "year":=ba cx hnd hfn hN hsc
 have V2:VP X 2 "rest":=ba cx hnd hfn hN hsc
 have V3:VP X 3 "month":=ba cx hnd hfn hN hsc
 have hg_has_number:Gl X "has_number":=b9 hsc
 have hg_year_with:Gl X "year_with":=b9 hsc
 have hg_days_ahead_of_year:Gl X "days_ahead_of_year":=b9 hsc
 have hg_month_length:Gl X "month_length":=b9 hsc
 have hg_NoSuchDay:Gl X "NoSuchDay":=b9 hsc
 refine ag (F1:=oy) (F2:=n8) ?_ ?_
 ·exact aY cx (qC (cF ((aw cx k_has_number rfl hg_has_number (aa (V0.v) (ai) rfl)).read) rfl)) (aj (ca cx hcalm x_NoSuchDay hg_NoSuchDay (by decide))) (aI)
 refine ag (F1:=oz) (F2:=n9) ?_ ?_
 ·exact V1.s (aw cx k_year_with rfl hg_year_with (aa (V0.v) (ai) rfl)) rfl
 refine ag (F1:=oA) (F2:=oa) ?_ ?_
 ·exact V2.s (cQ ((V0.v).read) ((aw cx k_days_ahead_of_year rfl hg_days_ahead_of_year (aa (V1.v) (ai) rfl)).read)) rfl
 refine ag (F1:=oB) (F2:=og) ?_ ?_
 ·exact V3.s (af) rfl
 refine ag (F1:=oC) (F2:=oh) ?_ ?_
 ·exact n5 cx 20 (Fq ((V2.v).read) ((aw cx k_month_length rfl hg_month_length (aa (V1.v) (aa (V3.v) (ai) rfl) rfl)).read) (aq rfl)) (ag (V2.us (aw cx k_month_length rfl hg_month_length (aa (V1.v) (aa (V3.v) (ai) rfl) rfl))) (aj (V3.ua (af))))
 exact aj (aF cx (cE (aa (V1.v) (aa (V3.v) (aa (az ((V2.v).read) ((af).read)) (ai) rfl) rfl) rfl)))
noncomputable def lU:Ev->SR:=bx (mL (ec (λ δ=>((ah (mC (.int 1)) (ah (m2 aT (m1 b3 (ae 0)) (mC (.int 1))) (ar))) δ).bind we) (λ _=>.ok true) (jW (ae 0) (dD) (mP (ae 1)))))
noncomputable def cN (ds:List D):R D:=b0 (lU (aG 1 ds))
theorem uK:FnScope ["name"] ["name"] (am (aR 34)):=i5
theorem tK {κ:Nat->Addr} {X:Cx} {B:Gd} (cx:Cxo X) (hcalm:X.calm=true) (hN:X.N=[("name" : Str)]) (hsc:X.env.scope=am (aR 34)) (hfn:∀ y,X.fn y=true) (hu:X.A.units + 64 < cLine) (b_len:X.mg "len" = none) (b_range:X.mg "range" = none):QZs κ B X (aB (aR 34)) lU:=by
 have hnd:X.N.Nodup:=by rw [hN];decide +kernel
 have V0:VP X 0 "name":=Lh cx hnd hfn hN hsc rfl rfl (by decide) (by decide)
 have hg_len:Gl X "len":=b9 hsc
 have hg_range:Gl X "range":=b9 hsc
 exact aj (aF cx ((nn hcalm ⟨by decide +kernel,rfl,by decide +kernel,rfl,by rw [hN];decide +kernel,by rw [hsc];decide +kernel,hnd⟩ (nr hg_range b_range (aa (af) (aa (az ((cB hg_len b_len ((V0.v).read) rfl).read) ((af).read)) (ai) rfl) rfl) rfl rfl) (λ X' B' hC=>by (have cx:Cxo X':=hC.cxo);(have hcalm:X'.calm=true:=hC.calm.trans hcalm);(have hu:X'.A.units + 64 < cLine:=by rw [hC.A];exact hu);exact qB) (λ X' B' hC=>by (have cx:Cxo X':=hC.cxo);(have hcalm:X'.calm=true:=hC.calm.trans hcalm);(have hu:X'.A.units + 64 < cLine:=by rw [hC.A];exact hu);(have z0:∀ {B:Gd} {pos:Pos},QX κ B X' (.Name "name" pos) (ae 0):=dY 0 (hC.n V0.n) (hC.vis rfl) (by decide) (by decide));(have z1:∀ {B:Gd} {pos:Pos},QX κ B X' (.Name "length" pos) (ae 1):=dY 1 (hC.x (by rw [hN];rfl)) (.inl (hC.look rfl (by decide))) (by decide) (by decide));exact eC ((z0).read) (bP) (bu (z1))) rfl).px))
noncomputable def jr:Ev->SR:=bx (m2 bp (ae 0) (mC (.int 7)))
noncomputable def mn:Ev->SR:=au (c7 (ud (mT (aH bQ (ah (ae 0) (ar))))) (SR.exc 1) (SR.next)) jr
noncomputable def dH (ds:List D):R D:=b0 (mn (aG 1 ds))
theorem uR:FnScope ["number"] ["number"] (am (aR 17)):=i5
theorem tS {κ:Nat->Addr} {X:Cx} {B:Gd} (cx:Cxo X) (hcalm:X.calm=true) (hN:X.N=[("number" : Str)]) (hsc:X.env.scope=am (aR 17)) (hfn:∀ y,X.fn y=true) (hu:X.A.units + 64 < cLine) (k_has_number:Cal κ X "has_number" 1 bQ) (x_NoSuchDay:kf κ X ("NoSuchDay" : Str) 1):QZs κ B X (aB (aR 17)) mn:=by
 have hnd:X.N.Nodup:=by rw [hN];decide +kernel
 have V0:VP X 0 "number":=ba cx hnd hfn hN hsc
 have hg_has_number:Gl X "has_number":=b9 hsc
 have hg_NoSuchDay:Gl X "NoSuchDay":=b9 hsc
 refine ag (F1:=c7 (ud (mT (aH bQ (ah (ae 0) (ar))))) (SR.exc 1) (SR.next)) (F2:=jr) ?_ ?_
 ·exact aY cx (qC (cF ((aw cx k_has_number rfl hg_has_number (aa (V0.v) (ai) rfl)).read) rfl)) (aj (ca cx hcalm x_NoSuchDay hg_NoSuchDay (by decide))) (aI)
 exact aj (aF cx (aD ((V0.v).read) ((af).read)))
noncomputable def oi:Ev->SR:=bx (b8 (ah (m1 fD (ae 0)) (ar)))
noncomputable def rH:Ev->SR:=au (c7 (bC oW (ae 0) (mC (.int 10))) (bx (b8 (ah (m1 fD (ae 0)) (ah (m1 (Hu [48]) (ae 0)) (ar))))) (SR.next)) oi
noncomputable def ff (ds:List D):R D:=b0 (rH (aG 1 ds))
theorem Bd:FnScope ["number"] ["number"] (am (aR 33)):=i5
theorem Av {κ:Nat->Addr} {X:Cx} {B:Gd} (cx:Cxo X) (hcalm:X.calm=true) (hN:X.N=[("number" : Str)]) (hsc:X.env.scope=am (aR 33)) (hfn:∀ y,X.fn y=true) (hu:X.A.units + 64 < cLine) (b_str:X.mg "str" = none):QZs κ B X (aB (aR 33)) rH:=by
 have hnd:X.N.Nodup:=by rw [hN];decide +kernel
 have V0:VP X 0 "number":=ba cx hnd hfn hN hsc
 have hg_str:Gl X "str":=b9 hsc
 refine ag (F1:=c7 (bC oW (ae 0) (mC (.int 10))) (bx (b8 (ah (m1 fD (ae 0)) (ah (m1 (Hu [48]) (ae 0)) (ar))))) (SR.next)) (F2:=oi) ?_ ?_
 ·exact aY cx (nu ((V0.v).read) ((af).read) (aq rfl)) (aj (aF cx (aV (aa (gC hg_str b_str ((V0.v).read) rfl) (aa (Fw (l:=[48]) (by decide +kernel) (by decide) ((V0.v).read)) (ai) rfl) rfl)))) (aI)
 exact aj (aF cx (aV (aa (gC hg_str b_str ((V0.v).read) rfl) (ai) rfl)))
noncomputable def oO:Ev->SR:=bx (zB ([Sum.inr ("d" : Str),Sum.inr ("m" : Str),Sum.inr ("y" : Str),Sum.inr ("Y" : Str),Sum.inr ("n" : Str),Sum.inr ("w" : Str)]) (ah (aH ff (ah (m2 bO (ae 1) (mC (.int 2))) (ar))) (ah (aH ff (ah (ae 3) (ar))) (ah (b8 (ah (Ck lK (m1 fD (m2 bp (ae 2) (mC (.int 100)))) (ah (mC (.int 2)) (ar))) (ar))) (ah (b8 (ah (Ck lK (m1 fD (ae 2)) (ah (mC (.int 4)) (ar))) (ar))) (ah (aH cN (ah (m2 bO (mC c_MONTHS) (m2 gA (ae 3) (mC (.int 1)))) (ar))) (ah (aH cN (ah (m2 bO (mC c_WEEKDAYS) (aH dH (ah (ae 0) (ar)))) (ar))) (ar))))))))
noncomputable def iP:Ev->SR:=oO
noncomputable def i4:Ev->SR:=aJ 3 (m2 bO (ae 1) (mC (.int 1)))
noncomputable def iO:Ev->SR:=au (i4) iP
noncomputable def i3:Ev->SR:=aJ 2 (m2 bO (ae 1) (mC (.int 0)))
noncomputable def iN:Ev->SR:=au (i3) iO
noncomputable def iZ:Ev->SR:=aJ 1 (aH fe (ah (ae 0) (ar)))
noncomputable def kJ:Ev->SR:=au (iZ) iN
noncomputable def cX (ds:List D):R D:=b0 (kJ (aG 4 ds))
theorem rE:FnScope ["number", "date", "year", "month"] ["number"] (am (aR 35)):=i5
theorem rh {κ:Nat->Addr} {X:Cx} {B:Gd} (cx:Cxo X) (hcalm:X.calm=true) (hN:X.N=[("number" : Str),("date" : Str),("year" : Str),("month" : Str)]) (hsc:X.env.scope=am (aR 35)) (hfn:∀ y,X.fn y=true) (hu:X.A.units + 64 < cLine) (k_date_of:Cal κ X "date_of" 1 fe) (k_beginnings:Cal κ X "beginnings" 1 cN) (k_weekday_of:Cal κ X "weekday_of" 1 dH) (k_figures:Cal κ X "figures" 1 ff) (c_WEEKDAYS':∃ u v,X.mg "WEEKDAYS" = some u/\bg v u/\∀ G,aW ⟨X.K,κ⟩ G v c_WEEKDAYS) (c_MONTHS':∃ u v,X.mg "MONTHS" = some u/\bg v u/\∀ G,aW ⟨X.K,κ⟩ G v c_MONTHS) (b_str:X.mg "str" = none):QZs κ B X (aB (aR 35)) kJ:=by
 have hnd:X.N.Nodup:=by rw [hN];decide +kernel
 have V0:VP X 0 "number":=ba cx hnd hfn hN hsc
 have V1:VP X 1 "date":=ba cx hnd hfn hN hsc
 have V2:VP X 2 "year":=ba cx hnd hfn hN hsc
 have V3:VP X 3 "month":=ba cx hnd hfn hN hsc
 have hg_date_of:Gl X "date_of":=b9 hsc
 have hg_beginnings:Gl X "beginnings":=b9 hsc
 have hg_weekday_of:Gl X "weekday_of":=b9 hsc
 have hg_figures:Gl X "figures":=b9 hsc
 have hg_WEEKDAYS:Gl X "WEEKDAYS":=b9 hsc
 have hg_MONTHS:Gl X "MONTHS":=b9 hsc
 have hg_str:Gl X "str":=b9 hsc
 have g_WEEKDAYS:∀ {B:Gd} {pos:Pos},QX κ B X (.Name "WEEKDAYS" pos) (mC c_WEEKDAYS):=let ⟨_,_,h1,h2,h3⟩:=c_WEEKDAYS';cj hg_WEEKDAYS h1 h2 h3 (by decide)
 have g_MONTHS:∀ {B:Gd} {pos:Pos},QX κ B X (.Name "MONTHS" pos) (mC c_MONTHS):=let ⟨_,_,h1,h2,h3⟩:=c_MONTHS';cj hg_MONTHS h1 h2 h3 (by decide)
 refine ag (F1:=iZ) (F2:=iN) ?_ ?_
 ·exact V1.s (aw cx k_date_of rfl hg_date_of (aa (V0.v) (ai) rfl)) rfl
 refine ag (F1:=i3) (F2:=iO) ?_ ?_
 ·exact V2.s (bo ((V1.v).read) ((af).read) rfl) rfl
 refine ag (F1:=i4) (F2:=iP) ?_ ?_
 ·exact V3.s (bo ((V1.v).read) ((af).read) rfl) rfl
 exact aj (aF cx (Dp (fi (aw cx k_figures rfl hg_figures (aa (bo ((V1.v).read) ((af).read) rfl) (ai) rfl)) (fi (aw cx k_figures rfl hg_figures (aa (V3.v) (ai) rfl)) (fi (aV (aa (wU ((gC hg_str b_str ((aD ((V2.v).read) ((af).read)).read) rfl).read) (aa (af) (ai) rfl) rfl rfl rfl) (ai) rfl)) (fi (aV (aa (wU ((gC hg_str b_str ((V2.v).read) rfl).read) (aa (af) (ai) rfl) rfl rfl rfl) (ai) rfl)) (fi (aw cx k_beginnings rfl hg_beginnings (aa (bo ((g_MONTHS).read) ((cQ ((V3.v).read) ((af).read)).read) rfl) (ai) rfl)) (fi (aw cx k_beginnings rfl hg_beginnings (aa (bo ((g_WEEKDAYS).read) ((aw cx k_weekday_of rfl hg_weekday_of (aa (V0.v) (ai) rfl)).read) rfl) (ai) rfl)) (Du))))))) (by simp) (by decide) (by decide +kernel)))
noncomputable def Bw:Ev->SR:=bx (aH dF (ah (ae 3) (ah (aH cX (ah (ae 2) (ar))) (ah (ae 1) (ar)))))
noncomputable def vd:Ev->SR:=Bw
noncomputable def vq:Ev->SR:=qS (aH cO (ah (ae 1) (ar)))
noncomputable def vc:Ev->SR:=au (vq) vd
noncomputable def vp:Ev->SR:=aJ 3 (aH cy (ah (ae 0) (ar)))
noncomputable def Bu:Ev->SR:=au (vp) vc
noncomputable def qk (ds:List D):R D:=b0 (Bu (aG 4 ds))
theorem IL:FnScope ["form", "text", "number", "parts"] ["form", "text", "number"] (am (aR 39)):=i5
theorem GP {κ:Nat->Addr} {X:Cx} {B:Gd} (cx:Cxo X) (hcalm:X.calm=true) (hN:X.N=[("form" : Str),("text" : Str),("number" : Str),("parts" : Str)]) (hsc:X.env.scope=am (aR 39)) (hfn:∀ y,X.fn y=true) (hu:X.A.units + 64 < cLine) (k_parts_of_form:Cal κ X "parts_of_form" 1 cy) (k_check_text:Cal κ X "check_text" 1 cO) (k_is_written:Cal κ X "is_written" 3 dF) (k_ways_of_day:Cal κ X "ways_of_day" 1 cX):QZs κ B X (aB (aR 39)) Bu:=by
 have hnd:X.N.Nodup:=by rw [hN];decide +kernel
 have V0:VP X 0 "form":=ba cx hnd hfn hN hsc
 have V1:VP X 1 "text":=ba cx hnd hfn hN hsc
 have V2:VP X 2 "number":=ba cx hnd hfn hN hsc
 have V3:VP X 3 "parts":=ba cx hnd hfn hN hsc
 have hg_parts_of_form:Gl X "parts_of_form":=b9 hsc
 have hg_check_text:Gl X "check_text":=b9 hsc
 have hg_is_written:Gl X "is_written":=b9 hsc
 have hg_ways_of_day:Gl X "ways_of_day":=b9 hsc
 refine ag (F1:=vp) (F2:=vc) ?_ ?_
 ·exact V3.s (aw cx k_parts_of_form rfl hg_parts_of_form (aa (V0.v) (ai) rfl)) rfl
 refine ag (F1:=vq) (F2:=vd) ?_ ?_
 ·exact Fu cx (aw cx k_check_text rfl hg_check_text (aa (V1.v) (ai) rfl)) rfl
 exact aj (aF cx (aw cx k_is_written rfl hg_is_written (aa (V3.v) (aa (aw cx k_ways_of_day rfl hg_ways_of_day (aa (V2.v) (ai) rfl)) (aa (V1.v) (ai) rfl) rfl) rfl)))
noncomputable def mq:Ev->SR:=au (aJ 4 (Ck sy (mC (.str [])) (ah (ae 3) (ar)))) (au (c7 (bC cz (ae 2) (mC (.int 1))) (aJ 4 (m2 aT (m2 aT (mC (.str [91])) (ae 4)) (mC (.str [93])))) (SR.next)) (aJ 1 (m2 aT (ae 1) (ae 4))))
noncomputable def tm:Ev->SR:=bx (ae 1)
noncomputable def lZ:Ev->SR:=tm
noncomputable def mw:Ev->SR:=df (λ δ=>((ae 0) δ).bind br) (j9 2 (bw (bN 2) (bw (bN 3) (ga)))) (mq)
noncomputable def lY:Ev->SR:=au (mw) lZ
noncomputable def mv:Ev->SR:=aJ 1 (mC (.str []))
noncomputable def pv:Ev->SR:=au (mv) lY
noncomputable def fz (ds:List D):R D:=b0 (pv (aG 5 ds))
theorem yB:FnScope ["_law_parts", "_law_made", "_law_lacking", "_law_tokens", "_law_inner"] ["_law_parts"] (am (aR 44)):=i5
theorem xI {κ:Nat->Addr} {X:Cx} {B:Gd} (cx:Cxo X) (hcalm:X.calm=true) (hN:X.N=[("_law_parts" : Str),("_law_made" : Str),("_law_lacking" : Str),("_law_tokens" : Str),("_law_inner" : Str)]) (hsc:X.env.scope=am (aR 44)) (hfn:∀ y,X.fn y=true) (hu:X.A.units + 64 < cLine)  : QZs κ B X (aB (aR 44)) pv:=by
 have hnd:X.N.Nodup:=by rw [hN];decide +kernel
 have V0:VP X 0 "_law_parts":=ba cx hnd hfn hN hsc
 have V1:VP X 1 "_law_made":=ba cx hnd hfn hN hsc
 have V2:VP X 2 "_law_lacking":=ba cx hnd hfn hN hsc
 have V3:VP X 3 "_law_tokens":=ba cx hnd hfn hN hsc
 have V4:VP X 4 "_law_inner":=ba cx hnd hfn hN hsc
 refine ag (F1:=mv) (F2:=lY) ?_ ?_
 ·exact V1.s (aO (l:=[]) (by decide +kernel)) rfl
 refine ag (F1:=mw) (F2:=lZ) ?_ ?_
 ·exact cr cx hcalm (ci (V0.v)) (λ B=>lN hcalm (cg (V2.t) (cg (V3.t) (dS) rfl) rfl) rfl rfl) (λ B=>ag (V4.s (Fx ((aO (l:=[]) (by decide +kernel)).read) (aa (V3.v) (ai) rfl) rfl rfl rfl) rfl) (ag (aY cx (bB hu ((V2.v).read) ((af).read) (aq rfl)) (aj (V4.s (az ((az ((aO (l:=[91]) (by decide +kernel)).read) ((V4.v).read)).read) ((aO (l:=[93]) (by decide +kernel)).read)) rfl)) (aI)) (aj (V1.s (az ((V1.v).read) ((V4.v).read)) rfl)))) rfl
 exact aj (aF cx (V1.v))
noncomputable def ju:Ev->SR:=aJ 2 (m2 qp (ae 2) (mL (ec (λ δ=>((ae 1) δ).bind br) (λ _=>.ok true) (m2 aT (ae 3) (ae 4)))))
noncomputable def pG:Ev->SR:=bx (ae 2)
noncomputable def jm:Ev->SR:=pG
noncomputable def jB:Ev->SR:=df (λ δ=>((ae 0) δ).bind br) (bN 3) (ju)
noncomputable def jl:Ev->SR:=au (jB) jm
noncomputable def jA:Ev->SR:=aJ 2 (b8 (ar))
noncomputable def l4:Ev->SR:=au (jA) jl
noncomputable def cP (ds:List D):R D:=b0 (l4 (aG 4 ds))
theorem uP:FnScope ["_law_some", "_law_more", "_law_made", "_law_one"] ["_law_some", "_law_more"] (am (aR 52)):=i5
theorem tQ {κ:Nat->Addr} {X:Cx} {B:Gd} (cx:Cxo X) (hcalm:X.calm=true) (hN:X.N=[("_law_some" : Str),("_law_more" : Str),("_law_made" : Str),("_law_one" : Str)]) (hsc:X.env.scope=am (aR 52)) (hfn:∀ y,X.fn y=true) (hu:X.A.units + 64 < cLine)  : QZs κ B X (aB (aR 52)) l4:=by
 have hnd:X.N.Nodup:=by rw [hN];decide +kernel
 have V0:VP X 0 "_law_some":=ba cx hnd hfn hN hsc
 have V1:VP X 1 "_law_more":=ba cx hnd hfn hN hsc
 have V2:VP X 2 "_law_made":=ba cx hnd hfn hN hsc
 have V3:VP X 3 "_law_one":=Lh cx hnd hfn hN hsc rfl rfl (by decide) (by decide)
 refine ag (F1:=jA) (F2:=jl) ?_ ?_
 ·exact V2.s (aV (ai)) rfl
 refine ag (F1:=jB) (F2:=jm) ?_ ?_
 ·exact cr cx hcalm (ci (V0.v)) (λ B=>V3.t) (λ B=>aj (V2.s (uG ((V2.v).read) (((nn hcalm ⟨by decide +kernel,rfl,by decide +kernel,rfl,by rw [hN];decide +kernel,by rw [hsc];decide +kernel,hnd⟩ (sQ (V1.v)) (λ X' B' hC=>by (have cx:Cxo X':=hC.cxo);(have hcalm:X'.calm=true:=hC.calm.trans hcalm);(have hu:X'.A.units + 64 < cLine:=by rw [hC.A];exact hu);exact qB) (λ X' B' hC=>by (have cx:Cxo X':=hC.cxo);(have hcalm:X'.calm=true:=hC.calm.trans hcalm);(have hu:X'.A.units + 64 < cLine:=by rw [hC.A];exact hu);(have z3:∀ {B:Gd} {pos:Pos},QX κ B X' (.Name "_law_one" pos) (ae 3):=dY 3 (hC.n V3.n) (hC.vis rfl) (by decide) (by decide));(have z4:∀ {B:Gd} {pos:Pos},QX κ B X' (.Name "_law_two" pos) (ae 4):=dY 4 (hC.x (by rw [hN];rfl)) (.inl (hC.look rfl (by decide))) (by decide) (by decide));exact az ((z3).read) ((z4).read)) rfl).px).read)) rfl)) rfl
 exact aj (aF cx (V2.v))
noncomputable def dN:Ev->SR:=aJ 5 (aH cP (ah (ae 5) (ah (aH aS (ah (ae 6) (ah (ae 1) (ar)))) (ar))))
noncomputable def gM:Ev->SR:=au (aJ 5 (b8 (ah (mC (.str [])) (ar)))) (au (df (λ δ=>((ae 4) δ).bind br) (bN 6) (dN)) (au (c7 (bC cz (ae 3) (mC (.int 1))) (aJ 5 (m2 qp (ae 5) (b8 (ah (mC (.str [])) (ar))))) (SR.next)) (aJ 2 (aH cP (ah (ae 2) (ah (ae 5) (ar)))))))
noncomputable def nI:Ev->SR:=bx (ae 2)
noncomputable def gJ:Ev->SR:=nI
noncomputable def gP:Ev->SR:=df (λ δ=>((ae 0) δ).bind br) (j9 2 (bw (bN 3) (bw (bN 4) (ga)))) (gM)
noncomputable def gI:Ev->SR:=au (gP) gJ
noncomputable def gO:Ev->SR:=aJ 2 (b8 (ah (mC (.str [])) (ar)))
noncomputable def jg:Ev->SR:=au (gO) gI
noncomputable def cI (ds:List D):R D:=b0 (jg (aG 7 ds))
theorem qI:FnScope ["_law_parts", "_law_when", "_law_made", "_law_lacking", "_law_tokens", "_law_inner", "_law_token"] ["_law_parts", "_law_when"] (am (aR 53)):=i5
theorem pT {κ:Nat->Addr} {X:Cx} {B:Gd} (cx:Cxo X) (hcalm:X.calm=true) (hN:X.N=[("_law_parts" : Str),("_law_when" : Str),("_law_made" : Str),("_law_lacking" : Str),("_law_tokens" : Str),("_law_inner" : Str),("_law_token" : Str)]) (hsc:X.env.scope=am (aR 53)) (hfn:∀ y,X.fn y=true) (hu:X.A.units + 64 < cLine) (k_law_joined:Cal κ X "_law_joined" 2 cP) (k_law_ways:Cal κ X "_law_ways" 2 aS):QZs κ B X (aB (aR 53)) jg:=by
 have hnd:X.N.Nodup:=by rw [hN];decide +kernel
 have V0:VP X 0 "_law_parts":=ba cx hnd hfn hN hsc
 have V1:VP X 1 "_law_when":=ba cx hnd hfn hN hsc
 have V2:VP X 2 "_law_made":=ba cx hnd hfn hN hsc
 have V3:VP X 3 "_law_lacking":=ba cx hnd hfn hN hsc
 have V4:VP X 4 "_law_tokens":=ba cx hnd hfn hN hsc
 have V5:VP X 5 "_law_inner":=ba cx hnd hfn hN hsc
 have V6:VP X 6 "_law_token":=ba cx hnd hfn hN hsc
 have hg_law_joined:Gl X "_law_joined":=b9 hsc
 have hg_law_ways:Gl X "_law_ways":=b9 hsc
 refine ag (F1:=gO) (F2:=gI) ?_ ?_
 ·exact V2.s (aV (aa (aO (l:=[]) (by decide +kernel)) (ai) rfl)) rfl
 refine ag (F1:=gP) (F2:=gJ) ?_ ?_
 ·exact cr cx hcalm (ci (V0.v)) (λ B=>lN hcalm (cg (V3.t) (cg (V4.t) (dS) rfl) rfl) rfl rfl) (λ B=>ag (V5.s (aV (aa (aO (l:=[]) (by decide +kernel)) (ai) rfl)) rfl) (ag (cr cx hcalm (ci (V4.v)) (λ B=>V6.t) (λ B=>aj (V5.s (aw cx k_law_joined rfl hg_law_joined (aa (V5.v) (aa (aw cx k_law_ways rfl hg_law_ways (aa (V6.v) (aa (V1.v) (ai) rfl) rfl)) (ai) rfl) rfl)) rfl)) rfl) (ag (aY cx (bB hu ((V3.v).read) ((af).read) (aq rfl)) (aj (V5.s (uG ((V5.v).read) ((aV (aa (aO (l:=[]) (by decide +kernel)) (ai) rfl)).read)) rfl)) (aI)) (aj (V2.s (aw cx k_law_joined rfl hg_law_joined (aa (V2.v) (aa (V5.v) (ai) rfl) rfl)) rfl))))) rfl
 exact aj (aF cx (V2.v))
noncomputable def vw:Ev->SR:=bx (jL (m1 (λ x=>BC (xY x .bool)) (ae 9)) (m2 (dL cz) (ae 9) (m2 (dL sx) (ae 8) (aH cI (ah (ae 2) (ah (m2 bO (ae 5) (mC (.int 0))) (ar)))))))
noncomputable def vg:Ev->SR:=vw
noncomputable def vv:Ev->SR:=aJ 9 (aH qk (ah (aH fz (ah (ae 2) (ar))) (ah (ae 8) (ah (aH cf (ah (m2 bO (ae 4) (mC (.int 0))) (ah (m2 bO (ae 4) (mC (.int 1))) (ah (m2 bO (ae 4) (mC (.int 2))) (ar))))) (ar)))))
noncomputable def vf:Ev->SR:=au (vv) vg
noncomputable def vt:Ev->SR:=aJ 8 (aH cV (ah (ae 8) (ah (m2 bp (aH bz (ah (ae 0) (ah (mC (.int 5)) (ar)))) (mC (.int 7))) (ah (m2 cY (aH bz (ah (ae 0) (ah (mC (.int 5)) (ar)))) (mC (.int 7))) (ar)))))
noncomputable def ve:Ev->SR:=au (vt) vf
noncomputable def tj:Ev->SR:=c7 (ue (mT (ae 3)) (bC nF (m2 bp (aH bz (ah (ae 0) (ah (mC (.int 5)) (ar)))) (mC (.int 7))) (mC (.int 4)))) (aJ 8 (aH dG (ah (ae 2) (ah (m2 bO (ae 5) (mC (.int 0))) (ah (m2 bO (ae 5) (m2 bO (b8 (λ _=>.ok [D.int 31,D.int 1,D.int 39,D.int 7])) (m2 bp (aH bz (ah (ae 0) (ah (mC (.int 3)) (ar)))) (mC (.int 4))))) (ah (ae 7) (ar))))))) (SR.next)
noncomputable def yW:Ev->SR:=au (tj) ve
noncomputable def ze:Ev->SR:=aJ 8 (aH cW (ah (ae 2) (ah (m2 bO (ae 5) (ae 6)) (ah (ae 7) (ar)))))
noncomputable def yV:Ev->SR:=au (ze) yW
noncomputable def zd:Ev->SR:=aJ 7 (aH cm (ah (aH bz (ah (ae 0) (ah (mC (.int 4)) (ar)))) (ah (ae 1) (ah (mC (.int 12)) (ah (mC (.int 1000)) (ar))))))
noncomputable def yU:Ev->SR:=au (zd) yV
noncomputable def zc:Ev->SR:=aJ 6 (m2 bO (b8 (λ _=>.ok [D.int 0,D.int 0,D.int 1,D.int 7,D.int 31,D.int 39])) (m2 bp (aH bz (ah (ae 0) (ah (mC (.int 3)) (ar)))) (mC (.int 6))))
noncomputable def yT:Ev->SR:=au (zc) yU
noncomputable def zb:Ev->SR:=aJ 5 (aH eo (ah (ae 4) (ah (mC (.int 40)) (ar))))
noncomputable def yS:Ev->SR:=au (zb) yT
noncomputable def za:Ev->SR:=aJ 4 (aH ei (ah (aH bz (ah (ae 0) (ah (mC (.int 2)) (ar)))) (ah (ae 1) (ar))))
noncomputable def yR:Ev->SR:=au (za) yS
noncomputable def ti:Ev->SR:=c7 (mT (ae 3)) (aJ 2 (m2 bO (b8 (ah (b8 (ah (i8 (ah (mC (.int 0)) (ah (b8 (λ _=>.ok [D.str [60,109,62],D.str [32],D.str [60,110,62]])) (ar)))) (ar))) (ah (b8 (ah (i8 (ah (mC (.int 1)) (ah (b8 (ah (mC (.str [60,110,62])) (ah (mC (.str [46])) (ar)))) (ar)))) (ah (i8 (ah (mC (.int 0)) (ah (b8 (ah (mC (.str [60,109,62])) (ar))) (ar)))) (ar)))) (ah (b8 (ah (i8 (ah (mC (.int 0)) (ah (b8 (ah (mC (.str [60,121,62])) (ah (mC (.str [60,89,62])) (ar)))) (ar)))) (ah (i8 (ah (mC (.int 1)) (ah (b8 (ah (mC (.str [60,119,62])) (ar))) (ar)))) (ar)))) (ah (b8 (ah (i8 (ah (mC (.int 0)) (ah (b8 (ah (mC (.str [60,109,62])) (ar))) (ar)))) (ah (i8 (ah (mC (.int 1)) (ah (b8 (ah (mC (.str [60,110,62])) (ar))) (ar)))) (ah (i8 (ah (mC (.int 1)) (ah (b8 (ah (mC (.str [60,100,62])) (ar))) (ar)))) (ar))))) (ar)))))) (m2 bp (aH bz (ah (ae 0) (ah (mC (.int 1)) (ar)))) (mC (.int 4))))) (SR.next)
noncomputable def yQ:Ev->SR:=au (ti) yR
noncomputable def tf:Ev->SR:=aJ 3 (m2 (dL cz) (m2 bp (aH bz (ah (ae 0) (ah (mC (.int 6)) (ar)))) (mC (.int 4))) (mC (.int 1)))
noncomputable def yP:Ev->SR:=au (tf) yQ
noncomputable def yZ:Ev->SR:=aJ 2 (aH eh (ah (aH bz (ah (ae 0) (ah (mC (.int 1)) (ar)))) (ah (ae 1) (ar))))
noncomputable def yO:Ev->SR:=au (yZ) yP
noncomputable def s0:Ev->SR:=aJ 1 (m2 (dL cz) (m2 bp (aH bz (ah (ae 0) (ah (mC (.int 0)) (ar)))) (mC (.int 2))) (mC (.int 0)))
noncomputable def FS:Ev->SR:=au (s0) yO
noncomputable def Cm (ds:List D):R D:=b0 (FS (aG 10 ds))
theorem Ko:FnScope ["_law_script", "_law_mixed", "_law_parts", "_law_twice", "_law_date", "_law_near", "_law_k", "_law_picks", "_law_text", "_law_found"] ["_law_script"] (am (aR 56)):=i5
theorem vP {κ:Nat->Addr} {X:Cx} {B:Gd} (cx:Cxo X) (hcalm:X.calm=true) (hN:X.N=[("_law_script" : Str),("_law_mixed" : Str),("_law_parts" : Str),("_law_twice" : Str),("_law_date" : Str),("_law_near" : Str),("_law_k" : Str),("_law_picks" : Str),("_law_text" : Str),("_law_found" : Str)]) (hsc:X.env.scope=am (aR 56)) (hfn:∀ y,X.fn y=true) (hu:X.A.units + 64 < cLine) (k_law_at:Cal κ X "_law_at" 2 bz) (k_law_built:Cal κ X "_law_built" 2 eh) (k_law_first:Cal κ X "_law_first" 2 ei) (k_law_whens:Cal κ X "_law_whens" 2 eo) (k_law_draws:Cal κ X "_law_draws" 4 cm) (k_law_written:Cal κ X "_law_written" 3 cW) (k_law_by_two:Cal κ X "_law_by_two" 4 dG) (k_law_changed:Cal κ X "_law_changed" 3 cV) (k_fits:Cal κ X "fits" 3 qk) (k_law_form:Cal κ X "_law_form" 1 fz) (k_law_number:Cal κ X "_law_number" 3 cf) (k_law_all_ways:Cal κ X "_law_all_ways" 2 cI) (b_bool:X.mg "bool" = none) (b_isinstance:X.mg "isinstance" = none):QZs κ B X (aB (aR 56)) FS:=by
 have hnd:X.N.Nodup:=by rw [hN];decide +kernel
 have V0:VP X 0 "_law_script":=ba cx hnd hfn hN hsc
 have V1:VP X 1 "_law_mixed":=ba cx hnd hfn hN hsc
 have V2:VP X 2 "_law_parts":=ba cx hnd hfn hN hsc
 have V3:VP X 3 "_law_twice":=ba cx hnd hfn hN hsc
 have V4:VP X 4 "_law_date":=ba cx hnd hfn hN hsc
 have V5:VP X 5 "_law_near":=ba cx hnd hfn hN hsc
 have V6:VP X 6 "_law_k":=ba cx hnd hfn hN hsc
 have V7:VP X 7 "_law_picks":=ba cx hnd hfn hN hsc
 have V8:VP X 8 "_law_text":=ba cx hnd hfn hN hsc
 have V9:VP X 9 "_law_found":=ba cx hnd hfn hN hsc
 have hg_law_at:Gl X "_law_at":=b9 hsc
 have hg_law_built:Gl X "_law_built":=b9 hsc
 have hg_law_first:Gl X "_law_first":=b9 hsc
 have hg_law_whens:Gl X "_law_whens":=b9 hsc
 have hg_law_draws:Gl X "_law_draws":=b9 hsc
 have hg_law_written:Gl X "_law_written":=b9 hsc
 have hg_law_by_two:Gl X "_law_by_two":=b9 hsc
 have hg_law_changed:Gl X "_law_changed":=b9 hsc
 have hg_fits:Gl X "fits":=b9 hsc
 have hg_law_form:Gl X "_law_form":=b9 hsc
 have hg_law_number:Gl X "_law_number":=b9 hsc
 have hg_law_all_ways:Gl X "_law_all_ways":=b9 hsc
 have hg_bool:Gl X "bool":=b9 hsc
 have hg_isinstance:Gl X "isinstance":=b9 hsc
 refine ag (F1:=s0) (F2:=yO) ?_ ?_
 ·exact V1.s (fG hu ((aD ((aw cx k_law_at rfl hg_law_at (aa (V0.v) (aa (af) (ai) rfl) rfl)).read) ((af).read)).read) ((af).read) (aq rfl)) rfl
 refine ag (F1:=yZ) (F2:=yP) ?_ ?_
 ·exact V2.s (aw cx k_law_built rfl hg_law_built (aa (aw cx k_law_at rfl hg_law_at (aa (V0.v) (aa (af) (ai) rfl) rfl)) (aa (V1.v) (ai) rfl) rfl)) rfl
 refine ag (F1:=tf) (F2:=yQ) ?_ ?_
 ·exact V3.s (fG hu ((aD ((aw cx k_law_at rfl hg_law_at (aa (V0.v) (aa (af) (ai) rfl) rfl)).read) ((af).read)).read) ((af).read) (aq rfl)) rfl
 refine ag (F1:=ti) (F2:=yR) ?_ ?_
 ·exact aY cx (cF ((V3.v).read) rfl) (aj (V2.s (bo ((aV (aa (aV (aa (cE (aa (af) (aa (aV (de (ds:=[D.str [60,109,62],D.str [32],D.str [60,110,62]]) (by rfl))) (ai) rfl) rfl)) (ai) rfl)) (aa (aV (aa (cE (aa (af) (aa (aV (aa (aO (l:=[60,110,62]) (by decide +kernel)) (aa (aO (l:=[46]) (by decide +kernel)) (ai) rfl) rfl)) (ai) rfl) rfl)) (aa (cE (aa (af) (aa (aV (aa (aO (l:=[60,109,62]) (by decide +kernel)) (ai) rfl)) (ai) rfl) rfl)) (ai) rfl) rfl)) (aa (aV (aa (cE (aa (af) (aa (aV (aa (aO (l:=[60,121,62]) (by decide +kernel)) (aa (aO (l:=[60,89,62]) (by decide +kernel)) (ai) rfl) rfl)) (ai) rfl) rfl)) (aa (cE (aa (af) (aa (aV (aa (aO (l:=[60,119,62]) (by decide +kernel)) (ai) rfl)) (ai) rfl) rfl)) (ai) rfl) rfl)) (aa (aV (aa (cE (aa (af) (aa (aV (aa (aO (l:=[60,109,62]) (by decide +kernel)) (ai) rfl)) (ai) rfl) rfl)) (aa (cE (aa (af) (aa (aV (aa (aO (l:=[60,110,62]) (by decide +kernel)) (ai) rfl)) (ai) rfl) rfl)) (aa (cE (aa (af) (aa (aV (aa (aO (l:=[60,100,62]) (by decide +kernel)) (ai) rfl)) (ai) rfl) rfl)) (ai) rfl) rfl) rfl)) (ai) rfl) rfl) rfl) rfl)).read) ((aD ((aw cx k_law_at rfl hg_law_at (aa (V0.v) (aa (af) (ai) rfl) rfl)).read) ((af).read)).read) rfl) rfl)) (aI)
 refine ag (F1:=za) (F2:=yS) ?_ ?_
 ·exact V4.s (aw cx k_law_first rfl hg_law_first (aa (aw cx k_law_at rfl hg_law_at (aa (V0.v) (aa (af) (ai) rfl) rfl)) (aa (V1.v) (ai) rfl) rfl)) rfl
 refine ag (F1:=zb) (F2:=yT) ?_ ?_
 ·exact V5.s (aw cx k_law_whens rfl hg_law_whens (aa (V4.v) (aa (af) (ai) rfl) rfl)) rfl
 refine ag (F1:=zc) (F2:=yU) ?_ ?_
 ·exact V6.s (bo ((aV (de (ds:=[D.int 0,D.int 0,D.int 1,D.int 7,D.int 31,D.int 39]) (by rfl))).read) ((aD ((aw cx k_law_at rfl hg_law_at (aa (V0.v) (aa (af) (ai) rfl) rfl)).read) ((af).read)).read) rfl) rfl
 refine ag (F1:=zd) (F2:=yV) ?_ ?_
 ·exact V7.s (aw cx k_law_draws rfl hg_law_draws (aa (aw cx k_law_at rfl hg_law_at (aa (V0.v) (aa (af) (ai) rfl) rfl)) (aa (V1.v) (aa (af) (aa (af) (ai) rfl) rfl) rfl) rfl)) rfl
 refine ag (F1:=ze) (F2:=yW) ?_ ?_
 ·exact V8.s (aw cx k_law_written rfl hg_law_written (aa (V2.v) (aa (bo ((V5.v).read) ((V6.v).read) rfl) (aa (V7.v) (ai) rfl) rfl) rfl)) rfl
 refine ag (F1:=tj) (F2:=ve) ?_ ?_
 ·exact aY cx ((jZ (cF ((V3.v).read) rfl) (hR (dZ ((aD ((aw cx k_law_at rfl hg_law_at (aa (V0.v) (aa (af) (ai) rfl) rfl)).read) ((af).read)).read) ((af).read) (aq rfl)))).t) (aj (V8.s (aw cx k_law_by_two rfl hg_law_by_two (aa (V2.v) (aa (bo ((V5.v).read) ((af).read) rfl) (aa (bo ((V5.v).read) ((bo ((aV (de (ds:=[D.int 31,D.int 1,D.int 39,D.int 7]) (by rfl))).read) ((aD ((aw cx k_law_at rfl hg_law_at (aa (V0.v) (aa (af) (ai) rfl) rfl)).read) ((af).read)).read) rfl).read) rfl) (aa (V7.v) (ai) rfl) rfl) rfl) rfl)) rfl)) (aI)
 refine ag (F1:=vt) (F2:=vf) ?_ ?_
 ·exact V8.s (aw cx k_law_changed rfl hg_law_changed (aa (V8.v) (aa (aD ((aw cx k_law_at rfl hg_law_at (aa (V0.v) (aa (af) (ai) rfl) rfl)).read) ((af).read)) (aa (bX ((aw cx k_law_at rfl hg_law_at (aa (V0.v) (aa (af) (ai) rfl) rfl)).read) ((af).read)) (ai) rfl) rfl) rfl)) rfl
 refine ag (F1:=vv) (F2:=vg) ?_ ?_
 ·exact V9.s (aw cx k_fits rfl hg_fits (aa (aw cx k_law_form rfl hg_law_form (aa (V2.v) (ai) rfl)) (aa (V8.v) (aa (aw cx k_law_number rfl hg_law_number (aa (bo ((V4.v).read) ((af).read) rfl) (aa (bo ((V4.v).read) ((af).read) rfl) (aa (bo ((V4.v).read) ((af).read) rfl) (ai) rfl) rfl) rfl)) (ai) rfl) rfl) rfl)) rfl
 exact aj (aF cx (nt (Ba .bool (by decide +kernel) hg_isinstance b_isinstance hg_bool b_bool (by decide) (by decide) ((V9.v).read) rfl) (eX (fG hu ((V9.v).read) ((Dq hu ((V8.v).read) ((aw cx k_law_all_ways rfl hg_law_all_ways (aa (V2.v) (aa (bo ((V5.v).read) ((af).read) rfl) (ai) rfl) rfl)).read) (aq rfl)).read) (aq rfl)))))
structure TX (K:PySem.W.Frag) (mg:Str->Option Value) (κ:Nat->Addr):Prop where
 fn_law_at:FT K mg "_law_at" (aR 41) ["_law_script", "_law_k"]
 fn_law_draws:FT K mg "_law_draws" (aR 42) ["_law_cell", "_law_mixed", "_law_many", "_law_most"]
 fn_law_built:FT K mg "_law_built" (aR 43) ["_law_cell", "_law_mixed"]
 fn_law_leap:FT K mg "_law_leap" (aR 45) ["_law_year"]
 fn_law_month:FT K mg "_law_month" (aR 46) ["_law_year", "_law_month_here"]
 fn_law_first:FT K mg "_law_first" (aR 47) ["_law_cell", "_law_mixed"]
 fn_law_number:FT K mg "_law_number" (aR 48) ["_law_year", "_law_month_here", "_law_day"]
 fn_law_whens:FT K mg "_law_whens" (aR 49) ["_law_date", "_law_many"]
 fn_law_ways:FT K mg "_law_ways" (aR 50) ["_law_token", "_law_when"]
 fn_law_written:FT K mg "_law_written" (aR 51) ["_law_parts", "_law_when", "_law_picks"]
 fn_law_by_two:FT K mg "_law_by_two" (aR 55) ["_law_parts", "_law_when", "_law_other", "_law_picks"]
 fn_law_changed:FT K mg "_law_changed" (aR 54) ["_law_text", "_law_pick", "_law_more"]
 fn_split_into_parts:FT K mg "split_into_parts" (aR 31) ["pieces"]
 fn_token_at:FT K mg "token_at" (aR 23) ["form", "start"]
 fn_cut_into_tokens:FT K mg "cut_into_tokens" (aR 24) ["form"]
 fn_piece_of:FT K mg "piece_of" (aR 25) ["token", "part"]
 fn_number_pieces:FT K mg "number_pieces" (aR 26) ["tokens"]
 fn_read_form:FT K mg "read_form" (aR 27) ["form"]
 fn_parts_of_form:FT K mg "parts_of_form" (aR 32) ["form"]
 fn_check_text:FT K mg "check_text" (aR 30) ["text"]
 fn_ends_of_piece:FT K mg "ends_of_piece" (aR 36) ["written", "text", "starts"]
 fn_ends_of_part:FT K mg "ends_of_part" (aR 37) ["part", "ways", "text", "starts"]
 fn_is_written:FT K mg "is_written" (aR 38) ["parts", "ways", "text"]
 fn_has_number:FT K mg "has_number" (aR 14) ["number"]
 fn_days_ahead_of_year:FT K mg "days_ahead_of_year" (aR 13) ["year"]
 fn_year_with:FT K mg "year_with" (aR 15) ["number"]
 fn_is_leap:FT K mg "is_leap" (aR 11) ["year"]
 fn_month_length:FT K mg "month_length" (aR 12) ["year", "month"]
 fn_date_of:FT K mg "date_of" (aR 16) ["number"]
 fn_beginnings:FT K mg "beginnings" (aR 34) ["name"]
 fn_weekday_of:FT K mg "weekday_of" (aR 17) ["number"]
 fn_figures:FT K mg "figures" (aR 33) ["number"]
 fn_ways_of_day:FT K mg "ways_of_day" (aR 35) ["number"]
 fn_fits:FT K mg "fits" (aR 39) ["form", "text", "number"]
 fn_law_form:FT K mg "_law_form" (aR 44) ["_law_parts"]
 fn_law_joined:FT K mg "_law_joined" (aR 52) ["_law_some", "_law_more"]
 fn_law_all_ways:FT K mg "_law_all_ways" (aR 53) ["_law_parts", "_law_when"]
 fn_law:FT K mg "law" (aR 56) ["_law_script"]
 c_PLACES:∃ u v,mg ("PLACES" : Str)=some u/\bg v u/\∀ G,aW ⟨K,κ⟩ G v Lw.c_PLACES
 c_PLAIN_SIGNS:∃ u v,mg ("PLAIN_SIGNS" : Str)=some u/\bg v u/\∀ G,aW ⟨K,κ⟩ G v Lw.c_PLAIN_SIGNS
 c_MOST_LACKING_PARTS:∃ u v,mg ("MOST_LACKING_PARTS" : Str)=some u/\bg v u/\∀ G,aW ⟨K,κ⟩ G v Lw.c_MOST_LACKING_PARTS
 c_LONGEST_FORM:∃ u v,mg ("LONGEST_FORM" : Str)=some u/\bg v u/\∀ G,aW ⟨K,κ⟩ G v Lw.c_LONGEST_FORM
 c_LONGEST_TEXT:∃ u v,mg ("LONGEST_TEXT" : Str)=some u/\bg v u/\∀ G,aW ⟨K,κ⟩ G v Lw.c_LONGEST_TEXT
 c_LAST_NUMBER:∃ u v,mg ("LAST_NUMBER" : Str)=some u/\bg v u/\∀ G,aW ⟨K,κ⟩ G v Lw.c_LAST_NUMBER
 c_DAYS_OF_400_YEARS:∃ u v,mg ("DAYS_OF_400_YEARS" : Str)=some u/\bg v u/\∀ G,aW ⟨K,κ⟩ G v Lw.c_DAYS_OF_400_YEARS
 c_COMMON_LENGTHS:∃ u v,mg ("COMMON_LENGTHS" : Str)=some u/\bg v u/\∀ G,aW ⟨K,κ⟩ G v Lw.c_COMMON_LENGTHS
 c_WEEKDAYS:∃ u v,mg ("WEEKDAYS" : Str)=some u/\bg v u/\∀ G,aW ⟨K,κ⟩ G v Lw.c_WEEKDAYS
 c_MONTHS:∃ u v,mg ("MONTHS" : Str)=some u/\bg v u/\∀ G,aW ⟨K,κ⟩ G v Lw.c_MONTHS
 b_bool:mg ("bool" : Str)=none
 b_enumerate:mg ("enumerate" : Str)=none
 b_int:mg ("int" : Str)=none
 b_isinstance:mg ("isinstance" : Str)=none
 b_len:mg ("len" : Str)=none
 b_range:mg ("range" : Str)=none
 b_str:mg ("str" : Str)=none
 x_BadForm:Ah κ K mg ("BadForm" : Str) 3
 x_BadText:Ah κ K mg ("BadText" : Str) 5
 x_NoSuchDay:Ah κ K mg ("NoSuchDay" : Str) 1
section
variable {P:Program} {w:World} {K:PySem.W.Frag} {mg:Str->Option Value} {base:Heap} {κ:Nat->Addr}
theorem AU (T:TX K mg κ)  : MC P w K mg base κ "_law_at" ["_law_script", "_law_k"] bz 1:=bK (Pd:=λ K mg=>TX K mg κ) (k:=0) T T.fn_law_at Dy (λ X B cx hc T cal hN hsc hfn hu hfr=>BO cx hc hN hsc hfn hu T.b_len)
theorem uq (T:TX K mg κ)  : MC P w K mg base κ "_law_draws" ["_law_cell", "_law_mixed", "_law_many", "_law_most"] cm 1:=bK (Pd:=λ K mg=>TX K mg κ) (k:=0) T T.fn_law_draws w9 (λ X B cx hc T cal hN hsc hfn hu hfr=>vR cx hc hN hsc hfn hu T.b_range)
theorem uo (T:TX K mg κ) (o_law_draws:MC P w K mg base κ "_law_draws" ["_law_cell", "_law_mixed", "_law_many", "_law_most"] cm 1):MC P w K mg base κ "_law_built" ["_law_cell", "_law_mixed"] eh 2:=bK (Pd:=λ K mg=>TX K mg κ) (k:=1) T T.fn_law_built w8 (λ X B cx hc T cal hN hsc hfn hu hfr=>vQ cx hc hN hsc hfn hu (cal o_law_draws (by decide)) T.b_int T.b_range)
theorem wI (T:TX K mg κ)  : MC P w K mg base κ "_law_leap" ["_law_year"] c9 1:=bK (Pd:=λ K mg=>TX K mg κ) (k:=0) T T.fn_law_leap yC (λ X B cx hc T cal hN hsc hfn hu hfr=>xJ cx hc hN hsc hfn hu )
theorem ut (T:TX K mg κ) (o_law_leap:MC P w K mg base κ "_law_leap" ["_law_year"] c9 1):MC P w K mg base κ "_law_month" ["_law_year", "_law_month_here"] bA 2:=bK (Pd:=λ K mg=>TX K mg κ) (k:=1) T T.fn_law_month xc (λ X B cx hc T cal hN hsc hfn hu hfr=>vT cx hc hN hsc hfn hu (cal o_law_leap (by decide)))
theorem ur (T:TX K mg κ) (o_law_month:MC P w K mg base κ "_law_month" ["_law_year", "_law_month_here"] bA 2):MC P w K mg base κ "_law_first" ["_law_cell", "_law_mixed"] ei 3:=bK (Pd:=λ K mg=>TX K mg κ) (k:=2) T T.fn_law_first xb (λ X B cx hc T cal hN hsc hfn hu hfr=>vS cx hc hN hsc hfn hu (cal o_law_month (by decide)))
theorem rA (T:TX K mg κ) (o_law_month:MC P w K mg base κ "_law_month" ["_law_year", "_law_month_here"] bA 2):MC P w K mg base κ "_law_number" ["_law_year", "_law_month_here", "_law_day"] cf 3:=bK (Pd:=λ K mg=>TX K mg κ) (k:=2) T T.fn_law_number uQ (λ X B cx hc T cal hN hsc hfn hu hfr=>tR cx hc hN hsc hfn hu (cal o_law_month (by decide)) T.b_range)
theorem uu (T:TX K mg κ) (o_law_number:MC P w K mg base κ "_law_number" ["_law_year", "_law_month_here", "_law_day"] cf 3) (o_law_month:MC P w K mg base κ "_law_month" ["_law_year", "_law_month_here"] bA 2):MC P w K mg base κ "_law_whens" ["_law_date", "_law_many"] eo 4:=bK (Pd:=λ K mg=>TX K mg κ) (k:=3) T T.fn_law_whens xf (λ X B cx hc T cal hN hsc hfn hu hfr=>vU cx hc hN hsc hfn hu (cal o_law_number (by decide)) (cal o_law_month (by decide)) T.b_range)
theorem wJ (T:TX K mg κ)  : MC P w K mg base κ "_law_ways" ["_law_token", "_law_when"] aS 1:=bK (Pd:=λ K mg=>TX K mg κ) (k:=0) T T.fn_law_ways yD (λ X B cx hc T cal hN hsc hfn hu hfr=>xK cx hc hN hsc hfn hu T.b_int T.b_len T.b_range T.b_str)
theorem qv (T:TX K mg κ) (o_law_ways:MC P w K mg base κ "_law_ways" ["_law_token", "_law_when"] aS 1):MC P w K mg base κ "_law_written" ["_law_parts", "_law_when", "_law_picks"] cW 2:=bK (Pd:=λ K mg=>TX K mg κ) (k:=1) T T.fn_law_written rD (λ X B cx hc T cal hN hsc hfn hu hfr=>rg cx hc hN hsc hfn hu (cal o_law_ways (by decide)) T.b_len)
theorem rq (T:TX K mg κ) (o_law_ways:MC P w K mg base κ "_law_ways" ["_law_token", "_law_when"] aS 1):MC P w K mg base κ "_law_by_two" ["_law_parts", "_law_when", "_law_other", "_law_picks"] dG 2:=bK (Pd:=λ K mg=>TX K mg κ) (k:=1) T T.fn_law_by_two uO (λ X B cx hc T cal hN hsc hfn hu hfr=>tP cx hc hN hsc hfn hu (cal o_law_ways (by decide)) T.b_len)
theorem qu (T:TX K mg κ)  : MC P w K mg base κ "_law_changed" ["_law_text", "_law_pick", "_law_more"] cV 1:=bK (Pd:=λ K mg=>TX K mg κ) (k:=0) T T.fn_law_changed rC (λ X B cx hc T cal hN hsc hfn hu hfr=>rf cx hc hN hsc hfn hu T.b_len)
theorem ka (T:TX K mg κ)  : MC P w K mg base κ "split_into_parts" ["pieces"] bM 1:=bK (Pd:=λ K mg=>TX K mg κ) (k:=0) T T.fn_split_into_parts lP (λ X B cx hc T cal hN hsc hfn hu hfr=>lE cx hc hN hsc hfn hu T.b_enumerate)
theorem wL (T:TX K mg κ)  : MC P w K mg base κ "token_at" ["form", "start"] dQ 1:=bK (Pd:=λ K mg=>TX K mg κ) (k:=0) T T.fn_token_at yG (λ X B cx hc T cal hN hsc hfn hu hfr=>xM cx hc hN hsc hfn hu T.c_PLACES T.c_PLAIN_SIGNS (T.x_BadForm.at rfl rfl))
theorem lL (T:TX K mg κ) (o_token_at:MC P w K mg base κ "token_at" ["form", "start"] dQ 1):MC P w K mg base κ "cut_into_tokens" ["form"] bW 2:=bK (Pd:=λ K mg=>TX K mg κ) (k:=1) T T.fn_cut_into_tokens nA (λ X B cx hc T cal hN hsc hfn hu hfr=>mX cx hc hN hsc hfn hu (cal o_token_at (by decide)) T.b_len)
theorem wK (T:TX K mg κ)  : MC P w K mg base κ "piece_of" ["token", "part"] fA 1:=bK (Pd:=λ K mg=>TX K mg κ) (k:=0) T T.fn_piece_of yF (λ X B cx hc T cal hN hsc hfn hu hfr=>xL cx hc hN hsc hfn hu T.c_PLACES)
theorem nW (T:TX K mg κ) (o_piece_of:MC P w K mg base κ "piece_of" ["token", "part"] fA 1):MC P w K mg base κ "number_pieces" ["tokens"] cw 2:=bK (Pd:=λ K mg=>TX K mg κ) (k:=1) T T.fn_number_pieces o3 (λ X B cx hc T cal hN hsc hfn hu hfr=>oQ cx hc hN hsc hfn hu (cal o_piece_of (by decide)) T.c_MOST_LACKING_PARTS T.b_enumerate (T.x_BadForm.at rfl rfl))
theorem uw (T:TX K mg κ) (o_cut_into_tokens:MC P w K mg base κ "cut_into_tokens" ["form"] bW 2) (o_number_pieces:MC P w K mg base κ "number_pieces" ["tokens"] cw 2):MC P w K mg base κ "read_form" ["form"] er 3:=bK (Pd:=λ K mg=>TX K mg κ) (k:=2) T T.fn_read_form xg (λ X B cx hc T cal hN hsc hfn hu hfr=>vV cx hc hN hsc hfn hu (cal o_cut_into_tokens (by decide)) (cal o_number_pieces (by decide)) T.c_LONGEST_FORM T.c_PLACES T.b_len (T.x_BadForm.at rfl rfl))
theorem nX (T:TX K mg κ) (o_split_into_parts:MC P w K mg base κ "split_into_parts" ["pieces"] bM 1) (o_read_form:MC P w K mg base κ "read_form" ["form"] er 3):MC P w K mg base κ "parts_of_form" ["form"] cy 4:=bK (Pd:=λ K mg=>TX K mg κ) (k:=3) T T.fn_parts_of_form o4 (λ X B cx hc T cal hN hsc hfn hu hfr=>oR cx hc hN hsc hfn hu (cal o_split_into_parts (by decide)) (cal o_read_form (by decide)))
theorem rm (T:TX K mg κ)  : MC P w K mg base κ "check_text" ["text"] cO 1:=bK (Pd:=λ K mg=>TX K mg κ) (k:=0) T T.fn_check_text uL (λ X B cx hc T cal hN hsc hfn hu hfr=>tL cx hc hN hsc hfn hu T.c_LONGEST_TEXT T.c_PLAIN_SIGNS T.b_len (T.x_BadText.at rfl rfl))
theorem nV (T:TX K mg κ)  : MC P w K mg base κ "ends_of_piece" ["written", "text", "starts"] cv 1:=bK (Pd:=λ K mg=>TX K mg κ) (k:=0) T T.fn_ends_of_piece o0 (λ X B cx hc T cal hN hsc hfn hu hfr=>oP cx hc hN hsc hfn hu T.b_len)
theorem oX (T:TX K mg κ) (o_ends_of_piece:MC P w K mg base κ "ends_of_piece" ["written", "text", "starts"] cv 1):MC P w K mg base κ "ends_of_part" ["part", "ways", "text", "starts"] cH 2:=bK (Pd:=λ K mg=>TX K mg κ) (k:=1) T T.fn_ends_of_part qH (λ X B cx hc T cal hN hsc hfn hu hfr=>pS cx hc hN hsc hfn hu (cal o_ends_of_piece (by decide)))
theorem ro (T:TX K mg κ) (o_ends_of_part:MC P w K mg base κ "ends_of_part" ["part", "ways", "text", "starts"] cH 2):MC P w K mg base κ "is_written" ["parts", "ways", "text"] dF 3:=bK (Pd:=λ K mg=>TX K mg κ) (k:=2) T T.fn_is_written uN (λ X B cx hc T cal hN hsc hfn hu hfr=>tN cx hc hN hsc hfn hu (cal o_ends_of_part (by decide)) T.b_len)
theorem rn (T:TX K mg κ)  : MC P w K mg base κ "has_number" ["number"] bQ 1:=bK (Pd:=λ K mg=>TX K mg κ) (k:=0) T T.fn_has_number uM (λ X B cx hc T cal hN hsc hfn hu hfr=>tM cx hc hN hsc hfn hu T.c_LAST_NUMBER)
theorem i9 (T:TX K mg κ)  : MC P w K mg base κ "days_ahead_of_year" ["year"] aL 1:=bK (Pd:=λ K mg=>TX K mg κ) (k:=0) T T.fn_days_ahead_of_year jR (λ X B cx hc T cal hN hsc hfn hu hfr=>jH cx hc hN hsc hfn hu )
theorem ux (T:TX K mg κ) (o_days_ahead_of_year:MC P w K mg base κ "days_ahead_of_year" ["year"] aL 1):MC P w K mg base κ "year_with" ["number"] eu 2:=bK (Pd:=λ K mg=>TX K mg κ) (k:=1) T T.fn_year_with xh (λ X B cx hc T cal hN hsc hfn hu hfr=>vW cx hc hN hsc hfn hu (cal o_days_ahead_of_year (by decide)) T.c_DAYS_OF_400_YEARS)
theorem yh (T:TX K mg κ)  : MC P w K mg base κ "is_leap" ["year"] dP 1:=bK (Pd:=λ K mg=>TX K mg κ) (k:=0) T T.fn_is_leap Be (λ X B cx hc T cal hN hsc hfn hu hfr=>Ax cx hc hN hsc hfn hu )
theorem oZ (T:TX K mg κ) (o_is_leap:MC P w K mg base κ "is_leap" ["year"] dP 1):MC P w K mg base κ "month_length" ["year", "month"] bH 2:=bK (Pd:=λ K mg=>TX K mg κ) (k:=1) T T.fn_month_length qJ (λ X B cx hc T cal hN hsc hfn hu hfr=>pU cx hc hN hsc hfn hu (cal o_is_leap (by decide)) T.c_COMMON_LENGTHS)
theorem yf (T:TX K mg κ) (o_has_number:MC P w K mg base κ "has_number" ["number"] bQ 1) (o_year_with:MC P w K mg base κ "year_with" ["number"] eu 2) (o_days_ahead_of_year:MC P w K mg base κ "days_ahead_of_year" ["year"] aL 1) (o_month_length:MC P w K mg base κ "month_length" ["year", "month"] bH 2):MC P w K mg base κ "date_of" ["number"] fe 3:=bK (Pd:=λ K mg=>TX K mg κ) (k:=2) T T.fn_date_of Bc (λ X B cx hc T cal hN hsc hfn hu hfr=>Au cx hc hN hsc hfn hu (cal o_has_number (by decide)) (cal o_year_with (by decide)) (cal o_days_ahead_of_year (by decide)) (cal o_month_length (by decide)) (T.x_NoSuchDay.at rfl rfl))
theorem rl (T:TX K mg κ)  : MC P w K mg base κ "beginnings" ["name"] cN 1:=bK (Pd:=λ K mg=>TX K mg κ) (k:=0) T T.fn_beginnings uK (λ X B cx hc T cal hN hsc hfn hu hfr=>tK cx hc hN hsc hfn hu T.b_len T.b_range)
theorem rB (T:TX K mg κ) (o_has_number:MC P w K mg base κ "has_number" ["number"] bQ 1):MC P w K mg base κ "weekday_of" ["number"] dH 2:=bK (Pd:=λ K mg=>TX K mg κ) (k:=1) T T.fn_weekday_of uR (λ X B cx hc T cal hN hsc hfn hu hfr=>tS cx hc hN hsc hfn hu (cal o_has_number (by decide)) (T.x_NoSuchDay.at rfl rfl))
theorem yg (T:TX K mg κ)  : MC P w K mg base κ "figures" ["number"] ff 1:=bK (Pd:=λ K mg=>TX K mg κ) (k:=0) T T.fn_figures Bd (λ X B cx hc T cal hN hsc hfn hu hfr=>Av cx hc hN hsc hfn hu T.b_str)
theorem qw (T:TX K mg κ) (o_date_of:MC P w K mg base κ "date_of" ["number"] fe 3) (o_beginnings:MC P w K mg base κ "beginnings" ["name"] cN 1) (o_weekday_of:MC P w K mg base κ "weekday_of" ["number"] dH 2) (o_figures:MC P w K mg base κ "figures" ["number"] ff 1):MC P w K mg base κ "ways_of_day" ["number"] cX 4:=bK (Pd:=λ K mg=>TX K mg κ) (k:=3) T T.fn_ways_of_day rE (λ X B cx hc T cal hN hsc hfn hu hfr=>rh cx hc hN hsc hfn hu (cal o_date_of (by decide)) (cal o_beginnings (by decide)) (cal o_weekday_of (by decide)) (cal o_figures (by decide)) T.c_WEEKDAYS T.c_MONTHS T.b_str)
theorem EE (T:TX K mg κ) (o_parts_of_form:MC P w K mg base κ "parts_of_form" ["form"] cy 4) (o_check_text:MC P w K mg base κ "check_text" ["text"] cO 1) (o_is_written:MC P w K mg base κ "is_written" ["parts", "ways", "text"] dF 3) (o_ways_of_day:MC P w K mg base κ "ways_of_day" ["number"] cX 4):MC P w K mg base κ "fits" ["form", "text", "number"] qk 5:=bK (Pd:=λ K mg=>TX K mg κ) (k:=4) T T.fn_fits IL (λ X B cx hc T cal hN hsc hfn hu hfr=>GP cx hc hN hsc hfn hu (cal o_parts_of_form (by decide)) (cal o_check_text (by decide)) (cal o_is_written (by decide)) (cal o_ways_of_day (by decide)))
theorem wH (T:TX K mg κ)  : MC P w K mg base κ "_law_form" ["_law_parts"] fz 1:=bK (Pd:=λ K mg=>TX K mg κ) (k:=0) T T.fn_law_form yB (λ X B cx hc T cal hN hsc hfn hu hfr=>xI cx hc hN hsc hfn hu )
theorem rz (T:TX K mg κ)  : MC P w K mg base κ "_law_joined" ["_law_some", "_law_more"] cP 1:=bK (Pd:=λ K mg=>TX K mg κ) (k:=0) T T.fn_law_joined uP (λ X B cx hc T cal hN hsc hfn hu hfr=>tQ cx hc hN hsc hfn hu )
theorem oY (T:TX K mg κ) (o_law_joined:MC P w K mg base κ "_law_joined" ["_law_some", "_law_more"] cP 1) (o_law_ways:MC P w K mg base κ "_law_ways" ["_law_token", "_law_when"] aS 1):MC P w K mg base κ "_law_all_ways" ["_law_parts", "_law_when"] cI 2:=bK (Pd:=λ K mg=>TX K mg κ) (k:=1) T T.fn_law_all_ways qI (λ X B cx hc T cal hN hsc hfn hu hfr=>pT cx hc hN hsc hfn hu (cal o_law_joined (by decide)) (cal o_law_ways (by decide)))
theorem Hw (T:TX K mg κ) (o_law_at:MC P w K mg base κ "_law_at" ["_law_script", "_law_k"] bz 1) (o_law_built:MC P w K mg base κ "_law_built" ["_law_cell", "_law_mixed"] eh 2) (o_law_first:MC P w K mg base κ "_law_first" ["_law_cell", "_law_mixed"] ei 3) (o_law_whens:MC P w K mg base κ "_law_whens" ["_law_date", "_law_many"] eo 4) (o_law_draws:MC P w K mg base κ "_law_draws" ["_law_cell", "_law_mixed", "_law_many", "_law_most"] cm 1) (o_law_written:MC P w K mg base κ "_law_written" ["_law_parts", "_law_when", "_law_picks"] cW 2) (o_law_by_two:MC P w K mg base κ "_law_by_two" ["_law_parts", "_law_when", "_law_other", "_law_picks"] dG 2) (o_law_changed:MC P w K mg base κ "_law_changed" ["_law_text", "_law_pick", "_law_more"] cV 1) (o_fits:MC P w K mg base κ "fits" ["form", "text", "number"] qk 5) (o_law_form:MC P w K mg base κ "_law_form" ["_law_parts"] fz 1) (o_law_number:MC P w K mg base κ "_law_number" ["_law_year", "_law_month_here", "_law_day"] cf 3) (o_law_all_ways:MC P w K mg base κ "_law_all_ways" ["_law_parts", "_law_when"] cI 2):MC P w K mg base κ "law" ["_law_script"] Cm 6:=bK (Pd:=λ K mg=>TX K mg κ) (k:=5) T T.fn_law Ko (λ X B cx hc T cal hN hsc hfn hu hfr=>vP cx hc hN hsc hfn hu (cal o_law_at (by decide)) (cal o_law_built (by decide)) (cal o_law_first (by decide)) (cal o_law_whens (by decide)) (cal o_law_draws (by decide)) (cal o_law_written (by decide)) (cal o_law_by_two (by decide)) (cal o_law_changed (by decide)) (cal o_fits (by decide)) (cal o_law_form (by decide)) (cal o_law_number (by decide)) (cal o_law_all_ways (by decide)) T.b_bool T.b_isinstance)
end
noncomputable def DA (K:PySem.W.Frag):Sp:=λ vs H Q _=>∃ (a:Addr) (ns:List Int),vs=[.ref a]/\cR K H a (ns.map V.int)/\ns.length <= 63/\∀ H',Q (.bl true) H'
theorem GI {l:PySem.W.OpenLaw} {w:World} {K:PySem.W.Frag} {h:Heap} {mg:Str->Option Value} {fa:Addr} (main:∀ ns:List Int,ns.length <= 63->Cm [.lst (ns.map D.int)]=.ok (.bl true)) (X:K.In h) (G:h.Ns mainGlobals mg) (hfa:mg "law" = some (.ref fa))
  {f_law:Addr} {oc_law kV_law dc_law pm_law cd_law ct_law:Value} {od_law an_law:Option Addr} {sl_law:Array (Option Value)}
  {a_PLACES':Addr} {dd_PLACES:Option Addr} {its_PLACES:Array Value} {n_PLACES:Nat} {sl_PLACES:Array (Option Value)}
  {t_PLAIN_SIGNS:Tok} {qy_PLAIN_SIGNS:Str}
  {t_MOST_LACKING_PARTS:Tok}
  {t_LONGEST_FORM:Tok}
  {t_LONGEST_TEXT:Tok}
  {t_LAST_NUMBER:Tok}
  {t_DAYS_OF_400_YEARS:Tok}
  {a_COMMON_LENGTHS':Addr} {dd_COMMON_LENGTHS:Option Addr} {its_COMMON_LENGTHS:Array Value} {n_COMMON_LENGTHS:Nat} {sl_COMMON_LENGTHS:Array (Option Value)}
  {a_WEEKDAYS':Addr} {dd_WEEKDAYS:Option Addr} {its_WEEKDAYS:Array Value} {n_WEEKDAYS:Nat} {sl_WEEKDAYS:Array (Option Value)}
  {a_MONTHS':Addr} {dd_MONTHS:Option Addr} {its_MONTHS:Array Value} {n_MONTHS:Nat} {sl_MONTHS:Array (Option Value)}
  {C_InkError:Addr}
  {C_NoSuchDay:Addr}
  {C_BadForm:Addr}
  {C_BadText:Addr}
  (f_law_at:FF K ("_law_at" : Str) (aR 41))
  (f_law_draws:FF K ("_law_draws" : Str) (aR 42))
  (f_law_built:FF K ("_law_built" : Str) (aR 43))
  (f_law_leap:FF K ("_law_leap" : Str) (aR 45))
  (f_law_month:FF K ("_law_month" : Str) (aR 46))
  (f_law_first:FF K ("_law_first" : Str) (aR 47))
  (f_law_number:FF K ("_law_number" : Str) (aR 48))
  (f_law_whens:FF K ("_law_whens" : Str) (aR 49))
  (f_law_ways:FF K ("_law_ways" : Str) (aR 50))
  (f_law_written:FF K ("_law_written" : Str) (aR 51))
  (f_law_by_two:FF K ("_law_by_two" : Str) (aR 55))
  (f_law_changed:FF K ("_law_changed" : Str) (aR 54))
  (f_split_into_parts:FF K ("split_into_parts" : Str) (aR 31))
  (f_token_at:FF K ("token_at" : Str) (aR 23))
  (f_cut_into_tokens:FF K ("cut_into_tokens" : Str) (aR 24))
  (f_piece_of:FF K ("piece_of" : Str) (aR 25))
  (f_number_pieces:FF K ("number_pieces" : Str) (aR 26))
  (f_read_form:FF K ("read_form" : Str) (aR 27))
  (f_parts_of_form:FF K ("parts_of_form" : Str) (aR 32))
  (f_check_text:FF K ("check_text" : Str) (aR 30))
  (f_ends_of_piece:FF K ("ends_of_piece" : Str) (aR 36))
  (f_ends_of_part:FF K ("ends_of_part" : Str) (aR 37))
  (f_is_written:FF K ("is_written" : Str) (aR 38))
  (f_has_number:FF K ("has_number" : Str) (aR 14))
  (f_days_ahead_of_year:FF K ("days_ahead_of_year" : Str) (aR 13))
  (f_year_with:FF K ("year_with" : Str) (aR 15))
  (f_is_leap:FF K ("is_leap" : Str) (aR 11))
  (f_month_length:FF K ("month_length" : Str) (aR 12))
  (f_date_of:FF K ("date_of" : Str) (aR 16))
  (f_beginnings:FF K ("beginnings" : Str) (aR 34))
  (f_weekday_of:FF K ("weekday_of" : Str) (aR 17))
  (f_figures:FF K ("figures" : Str) (aR 33))
  (f_ways_of_day:FF K ("ways_of_day" : Str) (aR 35))
  (f_fits:FF K ("fits" : Str) (aR 39))
  (f_law_form:FF K ("_law_form" : Str) (aR 44))
  (f_law_joined:FF K ("_law_joined" : Str) (aR 52))
  (f_law_all_ways:FF K ("_law_all_ways" : Str) (aR 53))
  (a_law:PySem.W.nsIn K mainGlobals ("law" : Str)=some (some (.ref f_law)))
  (l_law:K.lookup f_law=some ⟨oc_law,od_law,.func (PySem.W.fnOf ("law" : Str) ("law" : Str) (cM (aR 56)) (aB (aR 56)) (am (aR 56)) .none kV_law dc_law pm_law an_law cd_law ct_law),sl_law⟩)
  (vP:PySem.W.codeIn K cd_law ("law" : Str)=true)
  (p_law:PySem.W.keepIn K (.ref f_law)=true)
  (a_PLACES:PySem.W.nsIn K mainGlobals ("PLACES" : Str)=some (some (.ref a_PLACES')))
  (l_PLACES:K.lookup a_PLACES'=some ⟨.type "tuple",dd_PLACES,.seq its_PLACES n_PLACES,sl_PLACES⟩)
  (v_PLACES:bE ([gE [60,100,62],gE [60,109,62],gE [60,121,62],gE [60,89,62],gE [60,110,62],gE [60,119,62]]:List V) its_PLACES.toList)
  (a_PLAIN_SIGNS:PySem.W.nsIn K mainGlobals ("PLAIN_SIGNS" : Str)=some (some (.str qy_PLAIN_SIGNS t_PLAIN_SIGNS)))
  (qy_PLAIN_SIGNS':qy_PLAIN_SIGNS=⟨([97,98,99,100,101,102,103,104,105,106,107,108,109,110,111,112,113,114,115,116,117,118,119,120,121,122,48,49,50,51,52,53,54,55,56,57,32,46,47,45,44]:List Nat).toArray⟩)
  (a_MOST_LACKING_PARTS:PySem.W.nsIn K mainGlobals ("MOST_LACKING_PARTS" : Str)=some (some (.int 3 t_MOST_LACKING_PARTS)))
  (a_LONGEST_FORM:PySem.W.nsIn K mainGlobals ("LONGEST_FORM" : Str)=some (some (.int 30 t_LONGEST_FORM)))
  (a_LONGEST_TEXT:PySem.W.nsIn K mainGlobals ("LONGEST_TEXT" : Str)=some (some (.int 20 t_LONGEST_TEXT)))
  (a_LAST_NUMBER:PySem.W.nsIn K mainGlobals ("LAST_NUMBER" : Str)=some (some (.int 3652058 t_LAST_NUMBER)))
  (a_DAYS_OF_400_YEARS:PySem.W.nsIn K mainGlobals ("DAYS_OF_400_YEARS" : Str)=some (some (.int 146097 t_DAYS_OF_400_YEARS)))
  (a_COMMON_LENGTHS:PySem.W.nsIn K mainGlobals ("COMMON_LENGTHS" : Str)=some (some (.ref a_COMMON_LENGTHS')))
  (l_COMMON_LENGTHS:K.lookup a_COMMON_LENGTHS'=some ⟨.type "tuple",dd_COMMON_LENGTHS,.seq its_COMMON_LENGTHS n_COMMON_LENGTHS,sl_COMMON_LENGTHS⟩)
  (v_COMMON_LENGTHS:bE ([V.int 31,V.int 28,V.int 31,V.int 30,V.int 31,V.int 30,V.int 31,V.int 31,V.int 30,V.int 31,V.int 30,V.int 31]:List V) its_COMMON_LENGTHS.toList)
  (a_WEEKDAYS:PySem.W.nsIn K mainGlobals ("WEEKDAYS" : Str)=some (some (.ref a_WEEKDAYS')))
  (l_WEEKDAYS:K.lookup a_WEEKDAYS'=some ⟨.type "tuple",dd_WEEKDAYS,.seq its_WEEKDAYS n_WEEKDAYS,sl_WEEKDAYS⟩)
  (v_WEEKDAYS:bE ([gE [109,111,110,100,97,121],gE [116,117,101,115,100,97,121],gE [119,101,100,110,101,115,100,97,121],gE [116,104,117,114,115,100,97,121],gE [102,114,105,100,97,121],gE [115,97,116,117,114,100,97,121],gE [115,117,110,100,97,121]]:List V) its_WEEKDAYS.toList)
  (a_MONTHS:PySem.W.nsIn K mainGlobals ("MONTHS" : Str)=some (some (.ref a_MONTHS')))
  (l_MONTHS:K.lookup a_MONTHS'=some ⟨.type "tuple",dd_MONTHS,.seq its_MONTHS n_MONTHS,sl_MONTHS⟩)
  (v_MONTHS:bE ([gE [106,97,110,117,97,114,121],gE [102,101,98,114,117,97,114,121],gE [109,97,114,99,104],gE [97,112,114,105,108],gE [109,97,121],gE [106,117,110,101],gE [106,117,108,121],gE [97,117,103,117,115,116],gE [115,101,112,116,101,109,98,101,114],gE [111,99,116,111,98,101,114],gE [110,111,118,101,109,98,101,114],gE [100,101,99,101,109,98,101,114]]:List V) its_MONTHS.toList)
  (a_bool:PySem.W.nsIn K mainGlobals ("bool" : Str)=some none)
  (a_enumerate:PySem.W.nsIn K mainGlobals ("enumerate" : Str)=some none)
  (a_int:PySem.W.nsIn K mainGlobals ("int" : Str)=some none)
  (a_isinstance:PySem.W.nsIn K mainGlobals ("isinstance" : Str)=some none)
  (a_len:PySem.W.nsIn K mainGlobals ("len" : Str)=some none)
  (a_range:PySem.W.nsIn K mainGlobals ("range" : Str)=some none)
  (a_str:PySem.W.nsIn K mainGlobals ("str" : Str)=some none)
  (a_InkError:PySem.W.nsIn K mainGlobals ("InkError" : Str)=some (some (.ref C_InkError)))
  (a_NoSuchDay:PySem.W.nsIn K mainGlobals ("NoSuchDay" : Str)=some (some (.ref C_NoSuchDay)))
  (a_BadForm:PySem.W.nsIn K mainGlobals ("BadForm" : Str)=some (some (.ref C_BadForm)))
  (a_BadText:PySem.W.nsIn K mainGlobals ("BadText" : Str)=some (some (.ref C_BadText)))
  (e_BadForm:PySem.W.excIn K C_BadForm [.type "ValueError",.type "Exception",.type "BaseException",.type "object"] "ValueError.__new__" = true)
  (e_BadText:PySem.W.excIn K C_BadText [.type "ValueError",.type "Exception",.type "BaseException",.type "object"] "ValueError.__new__" = true)
  (e_NoSuchDay:PySem.W.excIn K C_NoSuchDay [.type "ValueError",.type "Exception",.type "BaseException",.type "object"] "ValueError.__new__" = true)
  : ∃ fd:FuncData,(∀ (s:Shared) (v:Value),BindsTo s fd ⟨[v],[]⟩ [(("_law_script" : Str),v)])/\∀ base:Heap,K.In base->base.Ns mainGlobals mg->FnOk l.prog w K mg base (xA l.prog w) 6 fa fd [("_law_script" : Str)] (DA K):=by
 have T:TX K mg (λ n:Nat=>if n=0 then C_InkError else if n=1 then C_NoSuchDay else if n=3 then C_BadForm else if n=5 then C_BadText else 0):=⟨f_law_at.ft2 X G λ _ _ _ _ _ _ _ _=>rfl,f_law_draws.ft4 X G λ _ _ _ _ _ _ _ _ _ _=>rfl,f_law_built.ft2 X G λ _ _ _ _ _ _ _ _=>rfl,f_law_leap.ft1 X G λ _ _ _ _ _ _ _=>rfl,f_law_month.ft2 X G λ _ _ _ _ _ _ _ _=>rfl,f_law_first.ft2 X G λ _ _ _ _ _ _ _ _=>rfl,f_law_number.ft3 X G λ _ _ _ _ _ _ _ _ _=>rfl,f_law_whens.ft2 X G λ _ _ _ _ _ _ _ _=>rfl,f_law_ways.ft2 X G λ _ _ _ _ _ _ _ _=>rfl,f_law_written.ft3 X G λ _ _ _ _ _ _ _ _ _=>rfl,f_law_by_two.ft4 X G λ _ _ _ _ _ _ _ _ _ _=>rfl,f_law_changed.ft3 X G λ _ _ _ _ _ _ _ _ _=>rfl,f_split_into_parts.ft1 X G λ _ _ _ _ _ _ _=>rfl,f_token_at.ft2 X G λ _ _ _ _ _ _ _ _=>rfl,f_cut_into_tokens.ft1 X G λ _ _ _ _ _ _ _=>rfl,f_piece_of.ft2 X G λ _ _ _ _ _ _ _ _=>rfl,f_number_pieces.ft1 X G λ _ _ _ _ _ _ _=>rfl,f_read_form.ft1 X G λ _ _ _ _ _ _ _=>rfl,f_parts_of_form.ft1 X G λ _ _ _ _ _ _ _=>rfl,f_check_text.ft1 X G λ _ _ _ _ _ _ _=>rfl,f_ends_of_piece.ft3 X G λ _ _ _ _ _ _ _ _ _=>rfl,f_ends_of_part.ft4 X G λ _ _ _ _ _ _ _ _ _ _=>rfl,f_is_written.ft3 X G λ _ _ _ _ _ _ _ _ _=>rfl,f_has_number.ft1 X G λ _ _ _ _ _ _ _=>rfl,f_days_ahead_of_year.ft1 X G λ _ _ _ _ _ _ _=>rfl,f_year_with.ft1 X G λ _ _ _ _ _ _ _=>rfl,f_is_leap.ft1 X G λ _ _ _ _ _ _ _=>rfl,f_month_length.ft2 X G λ _ _ _ _ _ _ _ _=>rfl,f_date_of.ft1 X G λ _ _ _ _ _ _ _=>rfl,f_beginnings.ft1 X G λ _ _ _ _ _ _ _=>rfl,f_weekday_of.ft1 X G λ _ _ _ _ _ _ _=>rfl,f_figures.ft1 X G λ _ _ _ _ _ _ _=>rfl,f_ways_of_day.ft1 X G λ _ _ _ _ _ _ _=>rfl,f_fits.ft3 X G λ _ _ _ _ _ _ _ _ _=>rfl,f_law_form.ft1 X G λ _ _ _ _ _ _ _=>rfl,f_law_joined.ft2 X G λ _ _ _ _ _ _ _ _=>rfl,f_law_all_ways.ft2 X G λ _ _ _ _ _ _ _ _=>rfl,⟨_,_,qd (st:=(aR 56)) l_law vP p_law,PySem.W.mg_of X G a_law,(qd (st:=(aR 56)) l_law vP p_law).binds (ps:=[("_law_script" : Str)]) λ _ _ _ _ _ _ us hl=>match us,hl with | [_],_=>rfl⟩,j7 (PySem.W.mg_of X G a_PLACES) l_PLACES v_PLACES (by decide) (by intro G;repeat (first | exact bn | refine bt (by unfold aW;rfl) ?_)),⟨_,.str qy_PLAIN_SIGNS,PySem.W.mg_of X G a_PLAIN_SIGNS,⟨_,rfl⟩,λ _=>by unfold Lw.c_PLAIN_SIGNS aW;rw [qy_PLAIN_SIGNS']⟩,⟨_,.int 3,PySem.W.mg_of X G a_MOST_LACKING_PARTS,⟨_,rfl⟩,λ _=>by unfold Lw.c_MOST_LACKING_PARTS aW;rfl⟩,⟨_,.int 30,PySem.W.mg_of X G a_LONGEST_FORM,⟨_,rfl⟩,λ _=>by unfold Lw.c_LONGEST_FORM aW;rfl⟩,⟨_,.int 20,PySem.W.mg_of X G a_LONGEST_TEXT,⟨_,rfl⟩,λ _=>by unfold Lw.c_LONGEST_TEXT aW;rfl⟩,⟨_,.int 3652058,PySem.W.mg_of X G a_LAST_NUMBER,⟨_,rfl⟩,λ _=>by unfold Lw.c_LAST_NUMBER aW;rfl⟩,⟨_,.int 146097,PySem.W.mg_of X G a_DAYS_OF_400_YEARS,⟨_,rfl⟩,λ _=>by unfold Lw.c_DAYS_OF_400_YEARS aW;rfl⟩,j7 (PySem.W.mg_of X G a_COMMON_LENGTHS) l_COMMON_LENGTHS v_COMMON_LENGTHS (by decide) (by intro G;repeat (first | exact bn | refine bt (by unfold aW;rfl) ?_)),j7 (PySem.W.mg_of X G a_WEEKDAYS) l_WEEKDAYS v_WEEKDAYS (by decide) (by intro G;repeat (first | exact bn | refine bt (by unfold aW;rfl) ?_)),j7 (PySem.W.mg_of X G a_MONTHS) l_MONTHS v_MONTHS (by decide) (by intro G;repeat (first | exact bn | refine bt (by unfold aW;rfl) ?_)),PySem.W.mg_none_of X G a_bool,PySem.W.mg_none_of X G a_enumerate,PySem.W.mg_none_of X G a_int,PySem.W.mg_none_of X G a_isinstance,PySem.W.mg_none_of X G a_len,PySem.W.mg_none_of X G a_range,PySem.W.mg_none_of X G a_str,⟨PySem.W.mg_of X G a_BadForm,e_BadForm⟩,⟨PySem.W.mg_of X G a_BadText,e_BadText⟩,⟨PySem.W.mg_of X G a_NoSuchDay,e_NoSuchDay⟩⟩
 have e:=hfa.symm.trans (PySem.W.mg_of X G a_law)
 cases e
 refine ⟨PySem.W.fnOf "law" "law" (cM (aR 56)) (aB (aR 56)) (am (aR 56)) .none kV_law dc_law pm_law an_law cd_law ct_law,λ s v=>.of_eq rfl,λ base _ _=>?_⟩
 have o_law_at:=AU (P:=l.prog) (w:=w) (base:=base) T
 have o_law_draws:=uq (P:=l.prog) (w:=w) (base:=base) T
 have o_law_built:=uo (P:=l.prog) (w:=w) (base:=base) T o_law_draws
 have o_law_leap:=wI (P:=l.prog) (w:=w) (base:=base) T
 have o_law_month:=ut (P:=l.prog) (w:=w) (base:=base) T o_law_leap
 have o_law_first:=ur (P:=l.prog) (w:=w) (base:=base) T o_law_month
 have o_law_number:=rA (P:=l.prog) (w:=w) (base:=base) T o_law_month
 have o_law_whens:=uu (P:=l.prog) (w:=w) (base:=base) T o_law_number o_law_month
 have o_law_ways:=wJ (P:=l.prog) (w:=w) (base:=base) T
 have o_law_written:=qv (P:=l.prog) (w:=w) (base:=base) T o_law_ways
 have o_law_by_two:=rq (P:=l.prog) (w:=w) (base:=base) T o_law_ways
 have o_law_changed:=qu (P:=l.prog) (w:=w) (base:=base) T
 have o_split_into_parts:=ka (P:=l.prog) (w:=w) (base:=base) T
 have o_token_at:=wL (P:=l.prog) (w:=w) (base:=base) T
 have o_cut_into_tokens:=lL (P:=l.prog) (w:=w) (base:=base) T o_token_at
 have o_piece_of:=wK (P:=l.prog) (w:=w) (base:=base) T
 have o_number_pieces:=nW (P:=l.prog) (w:=w) (base:=base) T o_piece_of
 have o_read_form:=uw (P:=l.prog) (w:=w) (base:=base) T o_cut_into_tokens o_number_pieces
 have o_parts_of_form:=nX (P:=l.prog) (w:=w) (base:=base) T o_split_into_parts o_read_form
 have o_check_text:=rm (P:=l.prog) (w:=w) (base:=base) T
 have o_ends_of_piece:=nV (P:=l.prog) (w:=w) (base:=base) T
 have o_ends_of_part:=oX (P:=l.prog) (w:=w) (base:=base) T o_ends_of_piece
 have o_is_written:=ro (P:=l.prog) (w:=w) (base:=base) T o_ends_of_part
 have o_has_number:=rn (P:=l.prog) (w:=w) (base:=base) T
 have o_days_ahead_of_year:=i9 (P:=l.prog) (w:=w) (base:=base) T
 have o_year_with:=ux (P:=l.prog) (w:=w) (base:=base) T o_days_ahead_of_year
 have o_is_leap:=yh (P:=l.prog) (w:=w) (base:=base) T
 have o_month_length:=oZ (P:=l.prog) (w:=w) (base:=base) T o_is_leap
 have o_date_of:=yf (P:=l.prog) (w:=w) (base:=base) T o_has_number o_year_with o_days_ahead_of_year o_month_length
 have o_beginnings:=rl (P:=l.prog) (w:=w) (base:=base) T
 have o_weekday_of:=rB (P:=l.prog) (w:=w) (base:=base) T o_has_number
 have o_figures:=yg (P:=l.prog) (w:=w) (base:=base) T
 have o_ways_of_day:=qw (P:=l.prog) (w:=w) (base:=base) T o_date_of o_beginnings o_weekday_of o_figures
 have o_fits:=EE (P:=l.prog) (w:=w) (base:=base) T o_parts_of_form o_check_text o_is_written o_ways_of_day
 have o_law_form:=wH (P:=l.prog) (w:=w) (base:=base) T
 have o_law_joined:=rz (P:=l.prog) (w:=w) (base:=base) T
 have o_law_all_ways:=oY (P:=l.prog) (w:=w) (base:=base) T o_law_joined o_law_ways
 have o_law:=Hw (P:=l.prog) (w:=w) (base:=base) T o_law_at o_law_built o_law_first o_law_whens o_law_draws o_law_written o_law_by_two o_law_changed o_fits o_law_form o_law_number o_law_all_ways
 have FL:=qd (st:=aR 56) l_law vP p_law
 exact Hm (PySem.W.mg_of X G a_law) l_law o_law main
theorem walk {l:PySem.W.OpenLaw} {q:Program} {loose:List Str} {XP:(Str->Option Value)->Heap->Prop} {YP:World->Heap->Prop} {d:DefRec} {K:Params->PySem.W.Frag} (hn:l.most=some 63) (hdf:d.params.defaults=[])
  (hY:∀ (w:World) (h:Heap),YP w h->(K w.params).In h)
  (F:∀ (w:World) (mg:Str->Option Value) (fa:Addr) (h:Heap),(K w.params).In h->h.Ns mainGlobals mg->mg d.name=some (.ref fa) →
   ∃ fd:FuncData,(∀ (s:Shared) (u:Value),BindsTo s fd ⟨[u],[]⟩ [(("_law_script" : Str),u)])/\∀ base:Heap,(K w.params).In base->base.Ns mainGlobals mg->FnOk l.prog w (K w.params) mg base (xA l.prog w) 6 fa fd [("_law_script" : Str)] (DA (K w.params))) :
  PySem.W.WalkO q loose XP YP l.row.toRowW d [] (λ f vs=>PySem.call f vs):=
 L2.FN (n:=63) (k:=6) (x:=("_law_script" : Str)) (CX:=λ w=>xA l.prog w) (sp:=λ w=>DA (K w.params)) hn (by decide) hdf ⟨rfl,by decide,by decide⟩ hY F (λ _ _ a ns hl _ hS=>⟨a,ns,rfl,hS,hl,λ _=>rfl⟩) λ _ _ _ _ _ z=>by obtain ⟨_,_,_,_,_,_,_,_,_,_,z⟩:=z;exact z
end Lw
namespace Lw
open PySem L2 L3
theorem ax {m:List D->R D} {fs:Ev->R (List D)} {δ:Ev} {xs:List D} {r:R D} (h:fs δ=.ok xs) (k:m xs=r):aH m fs δ=r:=by unfold aH;rw [h];exact k
theorem ak {o:D->D->R D} {fa fb:Ev->R D} {δ:Ev} {a b:D} {r:R D} (h:fa δ=.ok a) (h2:fb δ=.ok b) (k:o a b=r):m2 o fa fb δ=r:=by unfold m2;rw [h,h2];exact k
theorem aA {o:D->D->R Bool} {fa fb:Ev->R D} {δ:Ev} {a b:D} {r:R Bool} (h:fa δ=.ok a) (h2:fb δ=.ok b) (k:o a b=r):bC o fa fb δ=r:=by unfold bC;rw [h,h2];exact k
theorem gh {f:Ev->R D} {l u:Ev->R (Option Int)} {δ:Ev} {a:D} {i j:Option Int} {r:R D} (h:f δ=.ok a) (h1:l δ=.ok i) (h2:u δ=.ok j) (k:um a i j=r):jW f l u δ=r:=by unfold jW;rw [h,h1,h2];exact k
theorem J2 {f:Ev->R D} {δ:Ev} {i:Int} (h:f δ=.ok (.int i)):mP f δ=.ok (some i):=by unfold mP;rw [h];rfl
theorem bF {α β:Type} {x:R α} {a:α} {f:α->R β} {r:R β} (h:x=.ok a) (k:f a=r):x.bind f=r:=by rw [h];exact k
theorem mS {f g:Ev->R D} {δ:Ev} {a b:Bool} (h:f δ=.ok (.bl a)) (k:g δ=.ok (.bl b)):jL f g δ=.ok (.bl (a && b)):=by
 unfold jL
 rw [h]
 cases a with
 | true=>exact k
 | false=>rfl
theorem nK {f g:Ev->R Bool} {δ:Ev} {a b:Bool} (h:f δ=.ok a) (k:g δ=.ok b):gX f g δ=.ok (a && b):=by
 unfold gX
 rw [h]
 cases a with
 | true=>exact k
 | false=>rfl
theorem aP {F:SR} {d:D} (h:F=.ret d):b0 F=.ok d:=by rw [h];rfl
noncomputable abbrev b4 (i:Int):Option Sl:=some (.sh (.int i))
noncomputable abbrev Kq (l:List Int):Option Sl:=some (.sh (eM l))
theorem uB {f g:Ev->R D} {δ:Ev} {a b:Bool} (h:f δ=.ok (.bl a)) (k:g δ=.ok (.bl b)):uf f g δ=.ok (.bl (a || b)):=by
 unfold uf
 rw [h]
 cases a with
 | true=>rfl
 | false=>exact k
theorem i6 {f g:Ev->R Bool} {δ:Ev} {a b:Bool} (h:f δ=.ok a) (k:g δ=.ok b):ue f g δ=.ok (a || b):=by
 unfold ue
 rw [h]
 cases a with
 | true=>rfl
 | false=>exact k
theorem ce {o:D->R D} {f:Ev->R D} {δ:Ev} {a:D} {r:R D} (h:f δ=.ok a) (k:o a=r):m1 o f δ=r:=by unfold m1;rw [h];exact k
theorem pM {i:Nat} {g:Int->Int->Int} {f:Ev->R D} {δ:Ev} {x y:Int} (h:δ[i]?=some (some (.sh (.int x)))) (k:f δ=.ok (.int y)):o6 i g f δ=.next (δ.set i (some (.sh (.int (g x y))))):=by unfold o6;rw [h,k];rfl
theorem nz {f:Ev->R D} {δ:Ev} {d:D} (h:f δ=.ok d):b0 (bx f δ)=.ok d:=aP (bh h)
theorem BA {bd:D->Ev->Option Ev} {f:Ev->R D} {δ δ1:Ev} {d:D} (h:f δ=.ok d) (k:bd d δ=some δ1):xx bd f δ=.next δ1:=by unfold xx;rw [h,FZ,k]
theorem pL {α β:Type} {f:α->β} {l:List α} {k:Nat} {d:β} (h:(l.map f)[k]?=some d):∃ a,l[k]?=some a/\f a=d:=by
 rw [List.getElem?_map] at h
 exact Option.map_eq_some_iff.mp h
theorem G0 {t:Ev->R Bool} {f g:Ev->R D} {δ:Ev} (h:t δ=.ok true):zC t f g δ=f δ:=by unfold zC;rw [h];rfl
theorem GZ {t:Ev->R Bool} {f g:Ev->R D} {δ:Ev} (h:t δ=.ok false):zC t f g δ=g δ:=by unfold zC;rw [h];rfl
theorem uk {s:List Nat} {k c:Nat} (hl:s.length <= 1000000) (h:s[k]?=some c):bO (.str s) (.int (k:Int))=.ok (.str [c]):=by
 unfold bO
 dsimp only
 rw [if_pos hl,cb h]
noncomputable abbrev eY (s:List Nat):Option Sl:=some (.sh (.str s))
theorem av {f:Ev->R D} {fs:Ev->R (List D)} {δ:Ev} {d:D} {ds:List D} (h:f δ=.ok d) (k:fs δ=.ok ds):ah f fs δ=.ok (d :: ds):=by unfold ah;rw [h,k];rfl
theorem Js (ns:List Int) (k:Nat):bz [.lst (ns.map D.int),.int (k:Int)]=.ok (.int (cell ns k)):=by
 have t:bC oW (ae 1) (m1 b3 (ae 0)) (aG 2 [.lst (ns.map D.int),.int (k:Int)])=.ok (decide ((k:Int) < ((ns.map D.int).length:Int))):=aA rfl (ce rfl rfl) rfl
 rw [List.length_map] at t
 by_cases h:k < ns.length
 ·have e:oD (ns.map D.int) (k:Int)=some (D.int (cell ns k)):=cb (by unfold cell;rw [List.getElem?_map,List.getD_eq_getElem?_getD,List.getElem?_eq_getElem h];rfl)
  exact aP (b6 ((aZ (t.trans (congrArg R.ok (decide_eq_true (Int.ofNat_lt.mpr h))))).trans (bh (ak rfl rfl (c0 e)))))
 ·have e:cell ns k=0:=by unfold cell;rw [List.getD_eq_getElem?_getD,List.getElem?_eq_none (Nat.le_of_not_lt h)];rfl
  rw [e]
  exact aP ((ac (aK (t.trans (congrArg R.ok (decide_eq_false λ z=>h (Int.ofNat_lt.mp z)))))).trans rfl)
theorem qM (n:Nat):o5 (n:Int)=(Nat.toDigits 10 n).map Char.toNat:=by
 unfold o5
 show (Str.ofString (Nat.repr n)).cps.toList=_
 rw [Nat.repr_eq_ofList_toDigits,PySem.W.Fast.ofString_ofList]
theorem rW:∀ n < 10,(Nat.digitChar n).toNat=48 + n:=by decide
theorem pq {n:Nat} (h:n < 10):o5 (n:Int)=[48 + n]:=by
 rw [qM,Nat.toDigits_of_lt_base h]
 simp [rW n h]
theorem uT {n:Nat} (h:10 <= n):o5 (n:Int)=o5 ((n / 10:Nat):Int)++[48 + n % 10]:=by
 rw [qM,qM,Nat.toDigits_of_base_le (by decide) h]
 simp [rW (n % 10) (Nat.mod_lt _ (by decide))]
noncomputable def dg (n:Nat):List Nat:=if n < 10 then [48 + n] else if n < 100 then [48 + n / 10,48 + n % 10] else if n < 1000 then [48 + n / 100,48 + n / 10 % 10,48 + n % 10] else [48 + n / 1000,48 + n / 100 % 10,48 + n / 10 % 10,48 + n % 10]
theorem FC {n:Nat} (h:n < 10000):o5 (n:Int)=dg n:=by
 unfold dg
 by_cases h1:n < 10
 ·rw [if_pos h1,pq h1]
 ·rw [if_neg h1,uT (by (first | lia | omega))]
  by_cases h2:n < 100
  ·rw [if_pos h2,pq (by (first | lia | omega))];rfl
  ·rw [if_neg h2,uT (by (first | lia | omega))]
   by_cases h3:n < 1000
   ·rw [if_pos h3,pq (by (first | lia | omega)),Nat.div_div_eq_div_mul];rfl
   ·rw [if_neg h3,uT (by (first | lia | omega)),pq (by (first | lia | omega)),Nat.div_div_eq_div_mul n 10 10,Nat.div_div_eq_div_mul];rfl
theorem dX {n:Nat} (h:n < 10000):fD (.int (n:Int))=.ok (.str (dg n)):=by
 simp only [fD]
 rw [if_pos (by (first | lia | omega)),FC h]
theorem Hv {n:Nat} (h:n < 10000):Hu [48] (.int (n:Int))=.ok (.str (48 :: dg n)):=by
 unfold Hu
 rw [dX h]
 rfl
theorem JA {a:Nat} (h:a < 10):48 <= 48 + a/\48 + a <= 57:=⟨Nat.le_add_right _ _,Nat.add_le_add_left (Nat.le_of_lt_succ h) 48⟩
theorem Az (a:Nat):48 <= 48 + a % 10/\48 + a % 10 <= 57:=JA (Nat.mod_lt _ (by decide))
theorem dm {y k:Nat} (h:y < k * 10):y / k % 10=y / k:=Nat.mod_eq_of_lt (Nat.div_lt_of_lt_mul h)
theorem dz {y k:Nat} (h:y < k):y / k % 10=0:=by rw [Nat.div_eq_of_lt h]
theorem v0 {n:Nat} (h:n < 10000):∀ c∈dg n,48 <= c/\c <= 57:=by
 unfold dg
 intro c hc
 split at hc
 ·rename_i h1
  simp at hc;subst hc;exact JA h1
 ·split at hc
  ·rename_i h1
   simp at hc;rcases hc with rfl | rfl
   ·exact JA (Nat.div_lt_of_lt_mul h1)
   ·exact Az _
  ·split at hc
   ·rename_i h1
    simp at hc;rcases hc with rfl | rfl | rfl
    ·exact JA (Nat.div_lt_of_lt_mul h1)
    ·exact Az _
    ·exact Az _
   ·simp at hc;rcases hc with rfl | rfl | rfl | rfl
    ·exact JA (Nat.div_lt_of_lt_mul h)
    ·exact Az _
    ·exact Az _
    ·exact Az _
theorem pX {n:Nat}:1 <= (dg n).length/\(dg n).length <= 4:=by
 unfold dg
 split
 ·simp
 ·split
  ·simp
  ·split <;> simp
noncomputable def Gz (y:Nat):List Nat:=[48 + y / 10 % 10,48 + y % 10]
noncomputable def DJ (y:Nat):List Nat:=[48 + y / 1000 % 10,48 + y / 100 % 10,48 + y / 10 % 10,48 + y % 10]
theorem qT {l:List Nat} {c:Nat} {r:List Nat} (e:l=c :: r) (hc:48 <= c) (k:Nat) (h:l.length <= k):(Txt.zfill ⟨l.toArray⟩ (k:Int)).cps.toList=List.replicate (k - l.length) 48++l:=by
 unfold Txt.zfill
 have hl:(⟨l.toArray⟩:Str).length=l.length:=by simp [Str.length]
 rw [hl]
 by_cases h1:(k:Int) <= l.length
 ·rw [if_pos h1]
  have:k - l.length=0:=by (first | lia | omega)
  rw [this]
  rfl
 ·rw [if_neg h1]
  subst e
  unfold zfilled
  simp
  have h43:¬ c=43:=by (first | lia | omega)
  have h45:¬ c=45:=by (first | lia | omega)
  simp [h43,h45,Builtin.Str.padded]
theorem Ja (y:Nat):(Txt.zfill ⟨(dg (y % 100)).toArray⟩ 2).cps.toList=Gz y:=by
 have hm:y % 100 < 100:=Nat.mod_lt _ (by decide)
 have ea:y / 10 % 10=y % 100 / 10:=(Nat.mod_mul_right_div_self y 10 10).symm
 have eb:y % 10=y % 100 % 10:=(Nat.mod_mod_of_dvd y (by decide)).symm
 unfold Gz
 rw [ea,eb]
 generalize y % 100=z at hm
 by_cases h:z < 10
 ·have e:dg z=[48 + z]:=by unfold dg;rw [if_pos h]
  have:=qT e (Nat.le_add_right _ _) 2 (by rw [e];exact Nat.le_of_ble_eq_true rfl)
  rw [show ((2:Nat):Int)=2 from rfl] at this
  rw [this,e,Nat.div_eq_of_lt h,Nat.mod_eq_of_lt h]
  rfl
 ·have e:dg z=[48 + z / 10,48 + z % 10]:=by unfold dg;rw [if_neg h,if_pos hm]
  have:=qT e (Nat.le_add_right _ _) 2 (by rw [e];exact Nat.le_of_ble_eq_true rfl)
  rw [show ((2:Nat):Int)=2 from rfl] at this
  rw [this,e]
  rfl
theorem Jb {y:Nat} (hy:y < 10000):(Txt.zfill ⟨(dg y).toArray⟩ 4).cps.toList=DJ y:=by
 have key:∀ c r,dg y=c :: r->48 <= c->(Txt.zfill ⟨(dg y).toArray⟩ 4).cps.toList=List.replicate (4 - (dg y).length) 48++dg y:=λ c r e hc=>qT e hc 4 pX.2
 unfold DJ
 by_cases h1:y < 10
 ·have e:dg y=[48 + y]:=by unfold dg;rw [if_pos h1]
  rw [key _ _ e (Nat.le_add_right _ _),e,dz (k:=1000) (Nat.lt_of_lt_of_le h1 (by decide)),dz (k:=100) (Nat.lt_of_lt_of_le h1 (by decide)),dz (k:=10) h1,Nat.mod_eq_of_lt h1]
  rfl
 ·by_cases h2:y < 100
  ·have e:dg y=[48 + y / 10,48 + y % 10]:=by unfold dg;rw [if_neg h1,if_pos h2]
   rw [key _ _ e (Nat.le_add_right _ _),e,dz (k:=1000) (Nat.lt_of_lt_of_le h2 (by decide)),dz (k:=100) h2,dm (k:=10) h2]
   rfl
  ·by_cases h3:y < 1000
   ·have e:dg y=[48 + y / 100,48 + y / 10 % 10,48 + y % 10]:=by unfold dg;rw [if_neg h1,if_neg h2,if_pos h3]
    rw [key _ _ e (Nat.le_add_right _ _),e,dz (k:=1000) h3,dm (k:=100) h3]
    rfl
   ·have e:dg y=[48 + y / 1000,48 + y / 100 % 10,48 + y / 10 % 10,48 + y % 10]:=by unfold dg;rw [if_neg h1,if_neg h2,if_neg h3]
    rw [key _ _ e (Nat.le_add_right _ _),e,dm (k:=1000) hy]
    rfl
theorem zK {s:List Nat} (h:∀ c∈s,c < 1114112):wG (.str s)=true:=by
 unfold wG SeqAt.shaped
 simp only [eL,Ad,PyData.canLay0,PyData.depth,Bool.true_and]
 rw [Bool.and_eq_true]
 refine ⟨?_,by decide⟩
 unfold PySem.PyData.strOk
 simp only [List.all_toArray,List.all_eq_true,decide_eq_true_eq]
 exact h
theorem Ed (a b:List Nat):AB (.str a) (.str b)=(a == b):=by
 simp only [AB,Ad,PyData.eqv]
 by_cases h:a=b
 ·subst h;rw [beq_self_eq_true,beq_self_eq_true]
 ·have:¬ (⟨a.toArray⟩:Str)=⟨b.toArray⟩:=λ e=>h (by injection e with e;simpa using e)
  rw [beq_eq_false_iff_ne.mpr h]
  exact beq_eq_false_iff_ne.mpr this
theorem na {a b:List Nat} (ha:∀ c∈a,c < 1114112) (hb:∀ c∈b,c < 1114112):cz (.str a) (.str b)=.ok (a == b):=by
 unfold cz
 rw [zK ha,zK hb,Ed]
 rfl
theorem fC {s:List Nat} (h:s.length <= 1000):b3 (.str s)=.ok (.int s.length):=by
 simp only [b3]
 rw [if_pos (by (first | lia | omega))]
theorem wf (t:List Nat) (l:List (List Nat)):xz (.str t) (.lst (l.map D.str))=.ok (decide (t∈l)):=by
 have hf:(l.map D.str).all cD=true:=by rw [List.all_map];exact List.all_eq_true.mpr λ _ _=>rfl
 have e0:xz (.str t) (.lst (l.map D.str))=.ok ((l.map D.str).any λ e=>DP e (.str t)):=if_pos (show (cD (.str t) && (l.map D.str).all cD)=true by rw [hf];rfl)
 rw [e0]
 congr 1
 rw [Bool.eq_iff_iff,List.any_map,List.any_eq_true,decide_eq_true_eq]
 constructor
 ·rintro ⟨x,hx,e⟩
  have e':x=t:=eq_of_beq (show (x == t)=true from e)
  exact e' ▸ hx
 ·intro h
  exact ⟨t,h,beq_self_eq_true t⟩
noncomputable def bU:List (List Nat):=[[60,100,62],[60,109,62],[60,121,62],[60,89,62],[60,110,62],[60,119,62]]
noncomputable def bJ:List Nat:=[97,98,99,100,101,102,103,104,105,106,107,108,109,110,111,112,113,114,115,116,117,118,119,120,121,122,48,49,50,51,52,53,54,55,56,57,32,46,47,45,44]
noncomputable def bi:List (List Nat):=bU++bJ.map λ c=>[c]
noncomputable def bZ (t:List Nat):Bool:=bU.any λ a=>a == t
noncomputable abbrev bc:=Bool × List (List Nat)
noncomputable def oJ (p:bc):D:=.tup [.int (if p.1 then 1 else 0),.lst (p.2.map D.str)]
noncomputable abbrev bj (ps:List bc):D:=.lst (ps.map oJ)
noncomputable def gW (p:bc):List Nat:=if p.1 then [91]++p.2.flatten++[93] else p.2.flatten
noncomputable def cn (ps:List bc):List Nat:=ps.flatMap gW
noncomputable def Bk (p:bc):List (List Nat):=if p.1 then [91] :: (p.2++[[93]]) else p.2
noncomputable def toks (ps:List bc):List (List Nat):=ps.flatMap Bk
theorem AE (ps:List bc):cn ps=(toks ps).flatten:=by
 induction ps with
 | nil=>rfl
 | cons p ps ih =>
  unfold cn toks at ih ⊢
  rw [List.flatMap_cons,List.flatMap_cons,List.flatten_append,ih]
  congr 1
  unfold gW Bk
  cases p.1 <;> simp
noncomputable def bv (k:Int) (t:List Nat):D:=if t.length=3 then .tup [.str [112,108,97,99,101],.str [t.getD 1 0],.int k] else .tup [.str [115,105,103,110],.str t,.int k]
noncomputable def sJ:Nat->List bc->List D
 | _,[]=>[]
 | n,p :: ps=>p.2.map (bv (if p.1 then ((n + 1:Nat):Int) else 0))++sJ (if p.1 then n + 1 else n) ps
theorem Bi (ts:List (List Nat)):qN (ts.map D.str)=some ts:=by
 induction ts with
 | nil=>rfl
 | cons t ts ih=>simp [qN,ih]
theorem tV (ps:List bc) (k:Nat):(cn (ps.take k)).length <= (cn ps).length:=by
 have:cn ps=cn (ps.take k)++cn (ps.drop k):=by
  unfold cn
  rw [<- List.flatMap_append,List.take_append_drop]
 rw [this,List.length_append]
 (first | lia | omega)
theorem rX {ps:List bc} {k:Nat} {p:bc} (q:ps[k]?=some p):cn (ps.take (k + 1))=cn (ps.take k)++gW p:=by
 unfold cn
 rw [List.take_add_one,q]
 simp
theorem By {a b:List Nat} (h:a.length + b.length <= 1000000):aT (.str a) (.str b)=.ok (.str (a++b)):=by
 simp only [aT]
 rw [if_pos h]
theorem Hh {l:List (List Nat)} (h:l.flatten.length <= 1000000) {δ:Ev} {f:Ev->R D} (hf:f δ=.ok (.lst (l.map D.str))):Ck sy (mC (.str [])) (ah f (ar)) δ=.ok (.str l.flatten):=by
 unfold Ck
 rw [Lz,R.bind_ok]
 dsimp only
 rw [av hf rfl,R.bind_ok]
 unfold sy
 simp only [Bi]
 rw [if_pos h]
theorem tZ {p:bc} (h:p.1=true):gW p=[91]++p.2.flatten++[93]:=by unfold gW;rw [h];rfl
theorem zz {p:bc} (h:p.1=false):gW p=p.2.flatten:=by unfold gW;rw [h];rfl
theorem Eg (p:bc):p.2.flatten.length <= (gW p).length:=by
 cases h:p.1 with
 | true=>rw [tZ h,List.length_append,List.length_append];exact Nat.le_trans (Nat.le_add_left _ _) (Nat.le_add_right _ _)
 | false=>rw [zz h];exact Nat.le_refl _
noncomputable abbrev K8 (P:D) (s:List Nat) (a b c:Option Sl):Ev:=[some (.sh P),eY s,a,b,c]
theorem Eh {ps:List bc} (h:(cn ps).length <= 1000):fz [bj ps]=.ok (.str (cn ps)):=by
 obtain ⟨δ',e,x2,x3,x4,rfl⟩:=ck (fit:=λ δ=>((ae 0) δ).bind br) (bd:=j9 2 (bw (bN 2) (bw (bN 3) (ga)))) (F:=mq) (δ:=K8 (bj ps) [] none none none) (ds:=ps.map oJ)
  (λ k δ=>∃ x2 x3 x4,δ=K8 (bj ps) (cn (ps.take k)) x2 x3 x4) rfl ⟨none,none,none,rfl⟩ (λ k d δ hd hI=>by
   obtain ⟨x2,x3,x4,rfl⟩:=hI
   obtain ⟨p,q,rfl⟩:=pL hd
   have hf:=Nat.le_trans (tV ps (k + 1)) h
   rw [rX q,List.length_append] at hf
   have hi:=Nat.le_trans (Nat.le_trans (Nat.le_add_left _ _) hf) (show 1000 <= 1000000 by decide)
   have e2:c7 (bC cz (ae 2) (mC (.int 1))) (aJ 4 (m2 aT (m2 aT (mC (.str [91])) (ae 4)) (mC (.str [93])))) (SR.next) (K8 (bj ps) (cn (ps.take k)) (b4 (if p.1 then 1 else 0)) (some (.sh (.lst (p.2.map D.str)))) (eY p.2.flatten))=.next (K8 (bj ps) (cn (ps.take k)) (b4 (if p.1 then 1 else 0)) (some (.sh (.lst (p.2.map D.str)))) (eY (gW p))):=by
    cases hp:p.1 with
    | true =>
     rw [tZ hp,List.length_append,List.length_append] at hi
     rw [tZ hp]
     exact (aZ rfl).trans (ao (ak (ak rfl rfl (By (Nat.le_trans (Nat.le_add_right _ _) hi))) rfl (By (by rw [List.length_append];exact hi))))
    | false=>rw [zz hp];exact aK rfl
   exact ⟨_,_,rfl,.inl ((ac (ao (Hh (Nat.le_trans (Eg p) hi) rfl))).trans ((ac e2).trans (ao (ak rfl rfl (By (Nat.le_trans hf (by decide))))))),_,_,_,by rw [rX q];rfl⟩)
 rw [List.length_map,List.take_length] at e
 exact aP ((ac (ao rfl)).trans ((ac e).trans rfl))
noncomputable def jb (ps:List bc):Nat:=ps.countP (·.1)
noncomputable def aN (ps:List bc):List (List Nat):=ps.flatMap (·.2)
theorem zP:∀ (ps:List bc) (n:Nat),(sJ n ps).length=(aN ps).length
 | [],_=>rfl
 | p :: ps,n=>by
  have ih:=zP ps (if p.1 then n + 1 else n)
  simp only [sJ]
  rw [List.length_append,List.length_map,ih]
  unfold aN
  rw [List.flatMap_cons,List.length_append]
theorem lu (ps:List bc) (k:Nat):(aN (ps.take k)).length <= (aN ps).length:=by
 have:aN ps=aN (ps.take k)++aN (ps.drop k):=by
  unfold aN
  rw [<- List.flatMap_append,List.take_append_drop]
 rw [this,List.length_append]
 (first | lia | omega)
theorem Eo {t:List Nat} (h:t∈bi):t.length=3 \/ t.length=1:=by
 have:∀ t∈bi,t.length=3 \/ t.length=1:=by decide +kernel
 exact this t h
theorem yb {bd:D->Ev->Option Ev} {F:Ev->SR} {d:D} {ds:List D} {δ δ1 δ2:Ev} (h1:bd d δ=some δ1) (h2:F δ1=.next δ2):cu bd F (d :: ds) δ=cu bd F ds δ2:=by
 rw [cu]
 simp only [h1,h2]
theorem AM {bd:D->Ev->Option Ev} {F:Ev->SR} {d v:D} {ds:List D} {δ δ1:Ev} (h1:bd d δ=some δ1) (h2:F δ1=.ret v):cu bd F (d :: ds) δ=.ret v:=by
 rw [cu]
 simp only [h1,h2]
noncomputable def mQ:List (List Nat):=bi++[[91],[93]]
theorem rS {α:Type} (xs:List α) {a b:Nat} (h:a <= xs.length) (h2:a <= b):gz xs (some (a:Int)) (some (b:Int))=(xs.drop a).take (b - a):=by
 unfold gz
 rw [HT.sIx_nat,HT.sIx_nat,Nat.min_eq_left h]
 by_cases hb:b <= xs.length
 ·rw [Nat.min_eq_left hb]
 ·rw [Nat.min_eq_right (by (first | lia | omega)),List.take_of_length_le (by rw [List.length_drop];(first | lia | omega)),List.take_of_length_le (by rw [List.length_drop];(first | lia | omega))]
theorem lH (s:List Nat):xz (.str s) c_PLACES=.ok (bZ s):=rfl
theorem se {s:List Nat} (h:bZ s=true):s.head?=some 60/\s.length=3:=by
 have:∀ s∈bU,s.head?=some 60/\s.length=3:=by decide
 exact this s (by simpa [bZ] using h)
theorem wR:∀ c∈bJ,(!(Builtin.Str.occurrences ⟨bJ.toArray⟩ ⟨[c].toArray⟩ 0 (⟨bJ.toArray⟩:Str).length 1).isEmpty)=true:=by decide +kernel
theorem BD:∀ c∈[91,93],(!(Builtin.Str.occurrences ⟨[91,93].toArray⟩ ⟨[c].toArray⟩ 0 (⟨[91,93].toArray⟩:Str).length 1).isEmpty)=true:=by decide +kernel
theorem pJ {t:List Nat} (h:t∈mQ):(bZ t=true/\t.length=3) \/ (∃ c∈bJ,t=[c]) \/ (∃ c∈[91,93],t=[c]):=by
 unfold mQ bi at h
 rcases List.mem_append.mp h with h | h
 ·rcases List.mem_append.mp h with h | h
  ·have hp:bZ t=true:=by simpa [bZ] using h
   exact .inl ⟨hp,(se hp).2⟩
  ·obtain ⟨c,hc,rfl⟩:=List.mem_map.mp h
   exact .inr (.inl ⟨c,hc,rfl⟩)
 ·refine .inr (.inr ?_)
  rcases List.mem_cons.mp h with rfl | h
  ·exact ⟨91,by simp,rfl⟩
  ·have:t=[93]:=by simpa using h
   exact ⟨93,by simp,this⟩
theorem LU:∀ c,(c∈bJ \/ c∈[91,93])->c ≠ 60:=by
 have h1:∀ c∈bJ,c ≠ 60:=by decide
 have h2:∀ c∈[91,93],c ≠ 60:=by decide
 exact λ c h=>h.elim (h1 c) (h2 c)
theorem Ek {c:Nat} (hc:c∈bJ \/ c∈[91,93]) (post:List Nat):bZ (([c]++post).take 3)=false:=by
 cases z:bZ (([c]++post).take 3) with
 | false=>rfl
 | true=>exact absurd (Option.some.inj (se z).1) (LU c hc)
theorem BE {c:Nat} (hc:c∈bJ \/ c∈[91,93]) {δ:Ev} (h:ae 3 δ=.ok (.str [c])):ue (bC sx (ae 3) (mC c_PLAIN_SIGNS)) (bC sx (ae 3) (mC (.str [91,93]))) δ=.ok true:=by
 have p1:sx (.str [c]) c_PLAIN_SIGNS=.ok (!(Builtin.Str.occurrences ⟨bJ.toArray⟩ ⟨[c].toArray⟩ 0 (⟨bJ.toArray⟩:Str).length 1).isEmpty):=rfl
 have p2:sx (.str [c]) (.str [91,93])=.ok (!(Builtin.Str.occurrences ⟨[91,93].toArray⟩ ⟨[c].toArray⟩ 0 (⟨[91,93].toArray⟩:Str).length 1).isEmpty):=rfl
 have:=i6 (aA (fb:=mC c_PLAIN_SIGNS) h rfl p1) (aA (fb:=mC (.str [91,93])) h rfl p2)
 rcases hc with hc | hc
 ·rw [wR c hc] at this;exact this
 ·rw [BD c hc,Bool.or_true] at this;exact this
theorem xm {pre post t:List Nat} (ht:t∈mQ) (hl:(pre++t++post).length <= 1000):dQ [.str (pre++t++post),.int pre.length]=.ok (.str t):=by
 have hd:(pre++t++post).drop pre.length=t++post:=by rw [List.append_assoc,List.drop_left]
 have hp:pre.length <= (pre++t++post).length:=by rw [List.length_append,List.length_append,Nat.add_assoc];exact Nat.le_add_right _ _
 have h0:um (.str (pre++t++post)) (some (pre.length:Int)) (some ((pre.length + 3:Nat):Int))=.ok (.str ((t++post).take 3)):=by
  simp only [um]
  rw [if_pos (Nat.le_trans hl (by decide)),rS _ hp (Nat.le_add_right _ _),Nat.add_sub_cancel_left,hd]
 rcases pJ ht with ⟨h1,h2⟩ | hs
 ·have h3:(t++post).take 3=t:=by rw [<- h2];exact List.take_left
  rw [h3] at h0
  exact aP ((ac (ao (gh rfl rfl rfl h0))).trans (b6 ((aZ (aA rfl rfl ((lH t).trans (congrArg R.ok h1)))).trans (bh rfl))))
 ·obtain ⟨c,hc,rfl⟩:∃ c,(c∈bJ \/ c∈[91,93])/\t=[c]:=by
   rcases hs with ⟨c,h,e⟩ | ⟨c,h,e⟩
   ·exact ⟨c,.inl h,e⟩
   ·exact ⟨c,.inr h,e⟩
  have hix:bO (.str (pre++[c]++post)) (.int (pre.length:Int))=.ok (.str [c]):=uk (Nat.le_trans hl (by decide)) (by rw [List.append_assoc,List.getElem?_append_right (Nat.le_refl _),Nat.sub_self];rfl)
  exact aP ((ac (ao (gh rfl rfl rfl h0))).trans ((ac (aK (aA rfl rfl ((lH _).trans (congrArg R.ok (Ek hc post)))))).trans ((ac (ao (ak rfl rfl hix))).trans (b6 ((aZ (BE hc rfl)).trans (bh rfl))))))
theorem pK {t:List Nat} (h:t∈mQ):0 < t.length:=by
 rcases pJ h with ⟨_,h⟩ | ⟨c,_,rfl⟩ | ⟨c,_,rfl⟩
 ·(first | lia | omega)
 ·simp
 ·simp
noncomputable def Jw (s:List Nat) (done:List (List Nat)) (k:Nat) (x:Option Sl):Ev:=[eY s,some (.ow (done.map D.str)),b4 k,x]
theorem xH {s:List Nat} (h:s.length <= 1000):b3 (.str s)=.ok (.int s.length):=by
 simp only [b3]
 rw [if_pos (Nat.le_trans h (by decide))]
theorem Jx {s:List Nat} {done:List (List Nat)} {k:Nat} {x:Option Sl} (h:s.length <= 1000):bC oW (ae 2) (m1 b3 (ae 0)) (Jw s done k x)=.ok (decide ((k:Int) < (s.length:Int))):=aA rfl (ce rfl (xH h)) rfl
theorem EL (l:List (List Nat)) (t:List Nat):some (Sl.ow (l.map D.str++[D.str t]))=some (Sl.ow ((l++[t]).map D.str)):=by rw [List.map_append];rfl
theorem vO:∀ (bf done:List (List Nat)) (n:Nat) (x3:Option Sl),(∀ t∈bf,t∈mQ)->bf.length < n->(done++bf).flatten.length <= 1000->done.length + bf.length <= 1000->∃ y3,
  cC (bC oW (ae 2) (m1 b3 (ae 0))) cS n (Jw (done++bf).flatten done done.flatten.length x3)=.next (Jw (done++bf).flatten (done++bf) (done++bf).flatten.length y3)
 | [],done,n + 1,x3,_,_,hl,_=>by
  rw [List.append_nil] at hl ⊢
  exact ⟨x3,nC ((Jx hl).trans (congrArg R.ok (decide_eq_false (Int.lt_irrefl _))))⟩
 | t :: bf,done,n + 1,x3,hv,hn,hl,hk=>by
  have ht:=hv t List.mem_cons_self
  have e1:(done++t :: bf).flatten=done.flatten++t++bf.flatten:=by rw [List.flatten_append,List.flatten_cons,List.append_assoc]
  have e2:done++t :: bf=done++[t]++bf:=by rw [List.append_assoc];rfl
  have e3:(done++[t]).flatten.length=done.flatten.length + t.length:=by rw [List.flatten_append,List.length_append,List.flatten_cons,List.flatten_nil,List.append_nil]
  have hl3:(done++t :: bf).flatten.length=done.flatten.length + t.length + bf.flatten.length:=by rw [e1,List.length_append,List.length_append]
  have htl:t.length <= 1000:=Nat.le_trans (Nat.le_trans (Nat.le_add_left _ _) (Nat.le_add_right _ _)) (hl3 ▸ hl)
  have hlt:done.flatten.length < (done++t :: bf).flatten.length:=by rw [hl3];exact Nat.lt_of_lt_of_le (Nat.lt_add_of_pos_right (pK ht)) (Nat.le_add_right _ _)
  have htk:dQ [.str (done++t :: bf).flatten,.int done.flatten.length]=.ok (.str t):=by
   rw [e1]
   exact xm ht (by rw [<- e1];exact hl)
  have hdl:(done.map D.str).length < 1000000:=by rw [List.length_map];exact Nat.lt_of_le_of_lt (Nat.le_trans (Nat.le_add_right _ _) hk) (by decide)
  obtain ⟨y3,ih⟩:=vO bf (done++[t]) n (eY t) (λ z hz=>hv z (List.mem_cons_of_mem _ hz)) (Nat.lt_of_succ_lt_succ hn) (by rw [<- e2];exact hl) (by rw [List.length_append,Nat.add_assoc,Nat.add_comm [t].length];exact hk)
  rw [<- e2,e3] at ih
  have st:cS (Jw (done++t :: bf).flatten done done.flatten.length x3)=.next (Jw (done++t :: bf).flatten (done++[t]) (done.flatten.length + t.length) (eY t)):=(ac (ao (ax rfl htk))).trans ((ac ((d5 rfl rfl hdl).trans (by rw [EL]))).trans ((pM (g:=λ i j=>i + j) (x:=(done.flatten.length:Int)) rfl (ce rfl (xH htl))).trans rfl))
  exact ⟨y3,(oK ((Jx hl).trans (congrArg R.ok (decide_eq_true (Int.ofNat_lt.mpr hlt)))) st).trans ih⟩
theorem Ae:∀ l:List (List Nat),(∀ t∈l,t∈mQ)->l.length <= l.flatten.length
 | [],_=>Nat.le_refl 0
 | t :: l,h=>by
  rw [List.flatten_cons,List.length_append,List.length_cons,Nat.add_comm]
  exact Nat.add_le_add (pK (h t List.mem_cons_self)) (Ae l λ z hz=>h z (List.mem_cons_of_mem _ hz))
theorem GN {ts:List (List Nat)} (hv:∀ t∈ts,t∈mQ) (hl:ts.flatten.length <= 30):bW [.str ts.flatten]=.ok (.lst (ts.map D.str)):=by
 have hts:=Nat.le_trans (Ae ts hv) hl
 obtain ⟨y3,e⟩:=vO ts [] 40 none hv (Nat.lt_of_le_of_lt hts (by decide)) (Nat.le_trans hl (by decide)) (by rw [List.length_nil,Nat.zero_add];exact Nat.le_trans hts (by decide))
 exact aP ((ac (gn rfl)).trans ((ac (ao rfl)).trans ((ac e).trans rfl)))
noncomputable def DM (bd:D->Ev->Option Ev) (F:Ev->SR):List D->Ev->Ev->Prop
 | [],δ,δ'=>δ'=δ
 | d :: ds,δ,δ'=>∃ δ1 δ2,bd d δ=some δ1/\F δ1=.next δ2/\DM bd F ds δ2 δ'
theorem wZ {bd:D->Ev->Option Ev} {F:Ev->SR}:∀ {xs:List D} {δ δ':Ev},DM bd F xs δ δ'->cu bd F xs δ=.next δ'
 | [],_,_,h=>by rw [h];rfl
 | d :: xs,δ,δ',⟨δ1,δ2,h1,h2,h3⟩=>by
  rw [cu]
  simp only [h1,h2]
  exact wZ h3
theorem lO {bd:D->Ev->Option Ev} {F:Ev->SR}:∀ {xs ys:List D} {δ δ1 δ2:Ev},DM bd F xs δ δ1->DM bd F ys δ1 δ2->DM bd F (xs++ys) δ δ2
 | [],_,_,_,_,h,k=>by rw [h] at k;exact k
 | d :: xs,_,_,_,_,⟨a,b,h1,h2,h3⟩,k=>⟨a,b,h1,h2,lO h3 k⟩
theorem eI:∀ (xs ys:List D) (n:Nat),bG n (xs++ys)=bG n xs++bG (n + xs.length) ys
 | [],ys,n=>by simp [bG]
 | x :: xs,ys,n=>by simp [bG,eI xs ys (n + 1),Nat.add_assoc,Nat.add_comm 1]
theorem ph:∀ t∈mQ,wG (.str t)=true:=by decide +kernel
theorem o9:∀ t∈mQ,cz (.str t) (.str [91])=.ok (t == [91]):=by
 have h:∀ t∈mQ,AB (.str t) (.str [91])=(t == [91]):=by decide +kernel
 intro t ht
 unfold cz
 rw [ph t ht,ph [91] (by decide),h t ht]
 rfl
theorem v7:∀ t∈mQ,cz (.str t) (.str [93])=.ok (t == [93]):=by
 have h:∀ t∈mQ,AB (.str t) (.str [93])=(t == [93]):=by decide +kernel
 intro t ht
 unfold cz
 rw [ph t ht,ph [93] (by decide),h t ht]
 rfl
theorem tB:∀ t∈bi,(t == [91])=false/\(t == [93])=false:=by decide +kernel
theorem gS {t:List Nat} (h:t∈bi):t∈mQ:=List.mem_append_left _ h
theorem zh:∀ t∈bi,bZ t=decide (t.length=3):=by decide +kernel
theorem wP {t:List Nat} (ht:t∈bi) (k:Int):fA [.str t,.int k]=.ok (bv k t):=by
 have tst:bC sx (ae 0) (mC c_PLACES) (aG 2 [.str t,.int k])=.ok (decide (t.length=3)):=(aA rfl rfl (lH t)).trans (by rw [zh t ht])
 unfold bv
 by_cases h3:t.length=3
 ·have h1:1 < t.length:=by rw [h3];decide
  rw [if_pos h3]
  exact aP (b6 ((aZ (tst.trans (congrArg R.ok (decide_eq_true h3)))).trans (bh (bF (av rfl (av (ak rfl rfl (uk (k:=1) (by rw [h3];decide) (by rw [List.getD_eq_getElem?_getD,List.getElem?_eq_getElem h1];rfl))) (av rfl rfl))) rfl))))
 ·rw [if_neg h3]
  exact aP ((ac (aK (tst.trans (congrArg R.ok (decide_eq_false h3))))).trans (bh rfl))
noncomputable def xj (TL:List (List Nat)) (made:List D) (n:Int) (b:Bool) (x4 x5:Option Sl):Ev:=[some (.sh (.lst (TL.map D.str))),some (.ow made),some (.sh (.int n)),some (.sh (.bl b)),x4,x5]
theorem Cz {TL:List (List Nat)} {made:List D} {n:Int} {b:Bool} {i:Nat} {t:List Nat} (ht:t∈bi) (hm:made.length < 1000000) :
  bD (xj TL made n b (some (.sh (.int i))) (some (.sh (.str t))))=.next (xj TL (made++[bv (if b then n else 0) t]) n b (some (.sh (.int i))) (some (.sh (.str t)))):=by
 have h1:=o9 t (gS ht)
 have h2:=v7 t (gS ht)
 rw [(tB t ht).1] at h1
 rw [(tB t ht).2] at h2
 have hq:zC (mT (ae 3)) (ae 2) (mC (.int 0)) (xj TL made n b (some (.sh (.int i))) (some (.sh (.str t))))=.ok (.int (if b then n else 0)):=by
  cases b with
  | true=>exact G0 rfl
  | false=>exact GZ rfl
 exact (aK (aA rfl rfl h1)).trans ((aK (aA rfl rfl h2)).trans (d5 (ax (av rfl (av hq rfl)) (wP ht _)) rfl hm))
theorem Eu {TL:List (List Nat)} {made:List D} {n:Int} {i:Nat} :
  bD (xj TL made n false (some (.sh (.int i))) (some (.sh (.str [91]))))=.next (xj TL made (n + 1) true (some (.sh (.int i))) (some (.sh (.str [91])))):=
 (aZ (aA rfl rfl (o9 [91] (by decide)))).trans ((ac (aK rfl)).trans ((ac (ao rfl)).trans (pM rfl rfl)))
theorem Cy {TL:List (List Nat)} {made:List D} {n:Int} {i:Nat} {t:List Nat} (hi:TL[i]?=some t) (ht:t∈bi) :
  bD (xj TL made n true (some (.sh (.int ((i + 1:Nat):Int)))) (some (.sh (.str [93]))))=.next (xj TL made n false (some (.sh (.int ((i + 1:Nat):Int)))) (some (.sh (.str [93])))):=by
 have h3:=o9 t (gS ht)
 rw [(tB t ht).1] at h3
 have hix:bO (.lst (TL.map D.str)) (.int (((i + 1:Nat):Int) - 1))=.ok (.str t):=by
  rw [show ((i + 1:Nat):Int) - 1=(i:Int) by lia]
  exact c0 (cb (by rw [List.getElem?_map,hi];rfl))
 exact (aK (aA rfl rfl (o9 [93] (by decide)))).trans ((aZ (aA rfl rfl (v7 [93] (by decide)))).trans ((ac (aK rfl)).trans ((ac (aK (aA (ak rfl rfl hix) rfl h3))).trans (ao rfl))))
noncomputable abbrev Lp:D->Ev->Option Ev:=j9 2 (bw (bN 4) (bw (bN 5) (ga)))
theorem ye {TL:List (List Nat)} {n:Int} {b:Bool}:∀ (ts:List (List Nat)) (made:List D) (i:Nat) (x4 x5:Option Sl),(∀ t∈ts,t∈bi)->made.length + ts.length < 1000000->∃ y4 y5,
  DM Lp bD (bG i (ts.map D.str)) (xj TL made n b x4 x5) (xj TL (made++ts.map (bv (if b then n else 0))) n b y4 y5)
 | [],made,i,x4,x5,_,_=>⟨x4,x5,by simp [bG,DM]⟩
 | t :: ts,made,i,x4,x5,hv,hm=>by
  rw [List.length_cons] at hm
  obtain ⟨y4,y5,ih⟩:=ye (TL:=TL) (n:=n) (b:=b) ts (made++[bv (if b then n else 0) t]) (i + 1) (some (.sh (.int i))) (some (.sh (.str t))) (λ z hz=>hv z (List.mem_cons_of_mem _ hz)) (by simp;(first | lia | omega))
  refine ⟨y4,y5,xj TL made n b (some (.sh (.int i))) (some (.sh (.str t))),_,rfl,Cz (hv t List.mem_cons_self) (by (first | lia | omega)),?_⟩
  simpa using ih
theorem Ew {TL:List (List Nat)} {i:Nat} {p:bc} {bf:List (List Nat)} {made:List D} {n:Nat} (x4 x5:Option Sl) (hT:TL.drop i=Bk p++bf) (hv:∀ t∈p.2,t∈bi) (hne:p.1=true->p.2 ≠ []) (hm:made.length + p.2.length < 1000000):∃ y4 y5,
  DM Lp bD (bG i ((Bk p).map D.str)) (xj TL made n false x4 x5) (xj TL (made++p.2.map (bv (if p.1 then ((n + 1:Nat):Int) else 0))) ((if p.1 then n + 1 else n:Nat):Int) false y4 y5):=by
 obtain ⟨l,ts⟩:=p
 cases l with
 | false =>
  obtain ⟨y4,y5,h⟩:=ye (TL:=TL) (n:=n) (b:=false) ts made i x4 x5 hv hm
  exact ⟨y4,y5,by simpa [Bk] using h⟩
 | true =>
  have hne':ts ≠ []:=hne rfl
  obtain ⟨y4,y5,h⟩:=ye (TL:=TL) (n:=((n:Nat):Int) + 1) (b:=true) ts made (i + 1) (some (.sh (.int i))) (some (.sh (.str [91]))) hv hm
  have hix:TL[i + ts.length]?=some (ts.getLast hne'):=by
   have:(TL.drop i)[ts.length]?=some (ts.getLast hne'):=by
    rw [hT]
    simp only [Bk,if_true]
    rw [List.getLast_eq_getElem]
    have hpos:0 < ts.length:=List.length_pos_iff.mpr hne'
    obtain ⟨m,hm⟩:∃ m,ts.length=m + 1:=⟨ts.length - 1,by (first | lia | omega)⟩
    simp only [hm,List.cons_append,List.append_assoc,List.getElem?_cons_succ]
    rw [List.getElem?_append_left (by (first | lia | omega))]
    simp [hm]
   rw [List.getElem?_drop] at this
   exact this
  have hc:=Cy (TL:=TL) (made:=made++ts.map (bv (((n:Nat):Int) + 1))) (n:=((n:Nat):Int) + 1) hix (hv _ (List.getLast_mem hne'))
  refine ⟨some (.sh (.int ((i + ts.length + 1:Nat):Int))),some (.sh (.str [93])),?_⟩
  have e:(Bk (true,ts)).map D.str=D.str [91] :: (ts.map D.str++[D.str [93]]):=by simp [Bk]
  rw [e]
  refine ⟨xj TL made n false (some (.sh (.int i))) (some (.sh (.str [91]))),_,rfl,Eu,?_⟩
  rw [eI]
  refine lO h ?_
  rw [List.length_map,show i + 1 + ts.length=i + ts.length + 1 by (first | lia | omega)]
  refine ⟨_,_,rfl,hc,?_⟩
  show _=_
  simp
theorem wD {TL:List (List Nat)}:∀ (ps:List bc) (i:Nat) (made:List D) (n:Nat) (x4 x5:Option Sl),TL.drop i=toks ps->(∀ p∈ps,∀ t∈p.2,t∈bi)->(∀ p∈ps,p.1=true->p.2 ≠ [])->made.length + (aN ps).length < 1000000->∃ y4 y5,
  DM Lp bD (bG i ((toks ps).map D.str)) (xj TL made n false x4 x5) (xj TL (made++sJ n ps) ((n + jb ps:Nat):Int) false y4 y5)
 | [],i,made,n,x4,x5,_,_,_,_=>⟨x4,x5,by simp [toks,bG,DM,sJ,jb]⟩
 | p :: ps,i,made,n,x4,x5,hT,hv,hne,hm=>by
  have e:toks (p :: ps)=Bk p++toks ps:=by unfold toks;rw [List.flatMap_cons]
  have e2:aN (p :: ps)=p.2++aN ps:=by unfold aN;rw [List.flatMap_cons]
  rw [e2,List.length_append] at hm
  rw [e] at hT
  obtain ⟨y4,y5,h1⟩:=Ew (n:=n) (made:=made) x4 x5 hT (hv p List.mem_cons_self) (hne p List.mem_cons_self) (by (first | lia | omega))
  have hT2:TL.drop (i + (Bk p).length)=toks ps:=by
   rw [<- List.drop_drop,hT]
   simp
  obtain ⟨z4,z5,h2⟩:=wD ps (i + (Bk p).length) (made++p.2.map (bv (if p.1 then ((n + 1:Nat):Int) else 0))) (if p.1 then n + 1 else n) y4 y5 hT2 (λ q hq=>hv q (List.mem_cons_of_mem _ hq)) (λ q hq=>hne q (List.mem_cons_of_mem _ hq)) (by rw [List.length_append,List.length_map];(first | lia | omega))
  refine ⟨z4,z5,?_⟩
  rw [e,List.map_append,eI,List.length_map]
  have hN:(if p.1 then n + 1 else n) + jb ps=n + jb (p :: ps):=by
   unfold jb
   rw [List.countP_cons]
   cases p.1 <;> simp
   (first | lia | omega)
  rw [hN,List.append_assoc] at h2
  exact lO h1 h2
theorem nR {ps:List bc} (hv:∀ p∈ps,∀ t∈p.2,t∈bi) (hne:∀ p∈ps,p.1=true->p.2 ≠ []) (hc:jb ps <= 3) (hm:(aN ps).length <= 1000):cw [.lst ((toks ps).map D.str)]=.ok (.lst (sJ 0 ps)):=by
 obtain ⟨y4,y5,h⟩:=wD (TL:=toks ps) ps 0 [] 0 none none rfl hv hne (by rw [List.length_nil,Nat.zero_add];exact Nat.lt_of_le_of_lt hm (by decide))
 rw [Nat.zero_add,List.nil_append] at h
 have e:dA (xj (toks ps) [] ((0:Nat):Int) false none none)=.next (xj (toks ps) (sJ 0 ps) (jb ps:Int) false y4 y5):=wZ h
 exact aP ((ac (gn rfl)).trans ((ac (ao rfl)).trans ((ac (ao rfl)).trans ((ac e).trans ((ac (aK rfl)).trans ((ac (aK (aA rfl rfl (congrArg R.ok (decide_eq_false (show ¬ (3:Int) < (jb ps:Int) from Int.not_lt.mpr (Int.ofNat_le.mpr hc))))))).trans rfl))))))
structure OkP (ps:List bc):Prop where
 v:∀ p∈ps,∀ t∈p.2,t∈bi
 ne:∀ p∈ps,p.1=true->p.2 ≠ []
 c:jb ps <= 3
 nd:((aN ps).filter bZ).Nodup
 lo:1 <= (cn ps).length
 hi:(cn ps).length <= 30
theorem oH {p:List Nat}:∀ {l:List (List Nat)},l.Nodup->l.countP (λ x=>x == p) <= 1
 | [],_=>by simp
 | a :: l,h=>by
  have hh:=List.nodup_cons.mp h
  rw [List.countP_cons]
  by_cases e:a=p
  ·subst e
   have:l.countP (λ x=>x == a)=0:=by
    rw [List.countP_eq_zero]
    intro x hx z
    have:x=a:=by simpa using z
    subst this
    exact hh.1 hx
   rw [this]
   simp
  ·have:=oH (p:=p) hh.2
   simp [e]
   exact this
theorem qO {p:List Nat} (hp:p∈bU):∀ ps:List bc,(toks ps).countP (λ x=>x == p)=(aN ps).countP (λ x=>x == p)
 | []=>rfl
 | q :: ps=>by
  have h1:∀ p∈bU,([91] == p)=false/\([93] == p)=false:=by decide
  have ih:=qO hp ps
  unfold toks aN at ih ⊢
  rw [List.flatMap_cons,List.flatMap_cons,List.countP_append,List.countP_append,ih]
  congr 1
  unfold Bk
  cases q.1 with
  | false=>rfl
  | true =>
   simp only [if_true]
   rw [List.countP_cons,List.countP_append,(h1 p hp).1,List.countP_singleton,(h1 p hp).2]
   simp
theorem BL {ps:List bc} (h:((aN ps).filter bZ).Nodup) {p:List Nat} (hp:p∈bU):(toks ps).countP (λ x=>x == p) <= 1:=by
 rw [qO hp]
 have e:(aN ps).countP (λ x=>x == p)=((aN ps).filter bZ).countP (λ x=>x == p):=by
  rw [List.countP_filter]
  refine List.countP_congr λ x _=>?_
  constructor
  ·intro hx
   have:x=p:=by simpa using hx
   subst this
   have hpl:bZ x=true:=by simpa [bZ] using hp
   simp [hpl]
  ·intro hx
   simp at hx
   simp [hx.1]
 rw [e]
 exact oH h
theorem Bl {ps:List bc} (hv:∀ p∈ps,∀ t∈p.2,t∈bi):∀ t∈toks ps,t∈mQ:=by
 intro t ht
 unfold toks at ht
 obtain ⟨p,hp,ht⟩:=List.mem_flatMap.mp ht
 unfold Bk at ht
 cases hl:p.1 with
 | false=>rw [hl] at ht;exact gS (hv p hp t ht)
 | true =>
  rw [hl] at ht
  simp only [if_true] at ht
  rcases List.mem_cons.mp ht with rfl | ht
  ·decide
  ·rcases List.mem_append.mp ht with ht | ht
   ·exact gS (hv p hp t ht)
   ·have:t=[93]:=by simpa using ht
    subst this
    decide
theorem mR {ps:List bc} (hv:∀ p∈ps,∀ t∈p.2,t∈bi):(aN ps).length <= (cn ps).length:=by
 induction ps with
 | nil=>simp [aN]
 | cons p ps ih =>
  have h1:=ih λ q hq=>hv q (List.mem_cons_of_mem _ hq)
  have h2:∀ l:List (List Nat),(∀ t∈l,t∈bi)->l.length <= l.flatten.length:=by
   intro l
   induction l with
   | nil=>intro _;simp
   | cons t l ih =>
    intro h
    have h1:=ih λ z hz=>h z (List.mem_cons_of_mem _ hz)
    have h2:=pK (gS (h t List.mem_cons_self))
    rw [List.flatten_cons,List.length_append,List.length_cons]
    (first | lia | omega)
  have h3:=h2 p.2 (hv p List.mem_cons_self)
  have h4:p.2.flatten.length <= (gW p).length:=by
   unfold gW
   cases p.1 with
   | true=>rw [if_pos rfl,List.length_append,List.length_append];(first | lia | omega)
   | false=>rw [if_neg (by decide)];(first | lia | omega)
  unfold aN cn at *
  rw [List.flatMap_cons,List.flatMap_cons,List.length_append,List.length_append]
  (first | lia | omega)
noncomputable abbrev Jh (s:List Nat) (a b:Option Sl):Ev:=[eY s,a,b]
theorem uJ {ps:List bc} (h:OkP ps):er [.str (cn ps)]=.ok (.lst (sJ 0 ps)):=by
 have hlen:=xH (s:=cn ps) (Nat.le_trans h.hi (by decide))
 have hcut:bW [.str (cn ps)]=.ok (.lst ((toks ps).map D.str)):=by
  have hh:=h.hi
  rw [AE] at hh ⊢
  exact GN (Bl h.v) hh
 have hnp:=nR h.v h.ne h.c (Nat.le_trans (mR h.v) (Nat.le_trans h.hi (by decide)))
 have t:ue (bC oW (m1 b3 (ae 0)) (mC (.int 1))) (bC nF (m1 b3 (ae 0)) (mC c_LONGEST_FORM)) (Jh (cn ps) none none)=.ok (decide (((cn ps).length:Int) < 1) || decide ((30:Int) < (cn ps).length)):=i6 (aA (ce rfl hlen) rfl rfl) (aA (ce rfl hlen) rfl rfl)
 rw [decide_eq_false (show ¬ ((cn ps).length:Int) < 1 from Int.not_lt.mpr (Int.ofNat_le.mpr h.lo)),decide_eq_false (show ¬ (30:Int) < (cn ps).length from Int.not_lt.mpr (Int.ofNat_le.mpr h.hi))] at t
 obtain ⟨δ',e,x2,rfl⟩:=ck (fit:=λ δ=>((mC c_PLACES) δ).bind br) (bd:=bN 2) (F:=kN) (δ:=Jh (cn ps) (some (.sh (.lst ((toks ps).map D.str)))) none) (ds:=bU.map D.str)
  (λ k δ=>∃ x2,δ=Jh (cn ps) (some (.sh (.lst ((toks ps).map D.str)))) x2) rfl ⟨none,rfl⟩ (λ k d δ hd hI=>by
   obtain ⟨x2,rfl⟩:=hI
   obtain ⟨p,q,rfl⟩:=pL hd
   have hcount:JK nS (ae 1) (ah (ae 2) (ar)) (Jh (cn ps) (some (.sh (.lst ((toks ps).map D.str)))) (eY p))=.ok (.int ((toks ps).countP (λ x=>x == p):Nat)):=by
    have hf:((toks ps).map D.str).all cD=true:=by rw [List.all_map];exact List.all_eq_true.mpr λ _ _=>rfl
    unfold JK
    rw [show ae 1 (Jh (cn ps) (some (.sh (.lst ((toks ps).map D.str)))) (eY p))=.ok (.lst ((toks ps).map D.str)) from rfl,R.bind_ok]
    dsimp only
    rw [show (ah (ae 2) (ar)) (Jh (cn ps) (some (.sh (.lst ((toks ps).map D.str)))) (eY p))=.ok [.str p] from rfl,R.bind_ok]
    have e0:nS (.lst ((toks ps).map D.str)) [.str p]=.ok (.int (((toks ps).map D.str).countP λ e=>DP e (.str p):Nat)):=if_pos (show (cD (.str p) && ((toks ps).map D.str).all cD)=true by rw [hf];rfl)
    rw [e0,List.countP_map]
    rfl
   exact ⟨_,_,rfl,.inl (aK (aA hcount rfl (congrArg R.ok (decide_eq_false (Int.not_lt.mpr (Int.ofNat_le.mpr (BL h.nd (List.mem_of_getElem? q)))))))),_,rfl⟩)
 exact aP ((ac (aK t)).trans ((ac (ao (ax rfl hcut))).trans ((ac e).trans (bh (ax rfl hnp)))))
structure Tx (s:List Nat):Prop where
 l:s.length <= 1000
 c:∀ c∈s,c < 1114112
noncomputable def ni (l:List Nat):List D:=l.map λ n:Nat=>D.int (n:Int)
theorem Ct (l:List Nat):(.lst (ni l):D)=eM (l.map λ n:Nat=>(n:Int)):=by simp [ni,eM]
theorem B8 (e:Nat) (l:List Nat):xz (.int (e:Int)) (.lst (ni l))=.ok (decide (e∈l)):=by
 rw [Ct,tX]
 congr 1
 simp only [List.mem_map,decide_eq_decide]
 constructor
 ·rintro ⟨a,ha,hb⟩
  have:a=e:=by (first | lia | omega)
  subst this;exact ha
 ·exact λ h=>⟨e,h,rfl⟩
noncomputable def pI (tx:List Nat) (s:Nat) (E:List Nat) (w:List Nat):List Nat:=if (tx.drop s).take w.length=w/\s + w.length ∉ E then E++[s + w.length] else E
noncomputable def lQ (tx:List Nat) (ws:List (List Nat)) (E:List Nat) (s:Nat):List Nat:=ws.foldl (pI tx s) E
noncomputable def da (tx:List Nat) (ws:List (List Nat)) (S:List Nat):List Nat:=S.foldl (lQ tx ws) []
structure EOk (tx E:List Nat):Prop where
 nd:E.Nodup
 le:∀ e∈E,e <= tx.length
theorem EOk.len {tx E:List Nat} (h:EOk tx E):E.length <= tx.length + 1:=by
 have:=wC (E.map λ n:Nat=>(n:Int)) (qF 0 (tx.length + 1)) (by
  have:∀ l:List Nat,l.Nodup->(l.map λ n:Nat=>(n:Int)).Nodup:=by
   intro l
   induction l with
   | nil=>intro _;simp
   | cons a l ih =>
    intro h
    have hh:=List.nodup_cons.mp h
    rw [List.map_cons,List.nodup_cons]
    refine ⟨λ z=>?_,ih hh.2⟩
    obtain ⟨b,hb,e⟩:=List.mem_map.mp z
    have:b=a:=by (first | lia | omega)
    subst this
    exact hh.1 hb
  exact this E h.nd) (λ x hx=>by
  obtain ⟨a,ha,rfl⟩:=List.mem_map.mp hx
  have:=h.le a ha
  exact qm.mpr (by (first | lia | omega)))
 rw [List.length_map,qG] at this
 (first | lia | omega)
theorem yI {tx w:List Nat} {s:Nat} (hs:s <= tx.length) (h:(tx.drop s).take w.length=w):s + w.length <= tx.length:=by
 have e:=congrArg List.length h
 rw [List.length_take,List.length_drop] at e
 rw [Nat.add_comm]
 exact Nat.add_le_of_le_sub hs (e ▸ Nat.min_le_right _ _)
theorem D1 {tx:List Nat} {s:Nat} {E w:List Nat} (hs:s <= tx.length) (h:EOk tx E):EOk tx (pI tx s E w):=by
 unfold pI
 split
 ·rename_i c
  refine ⟨List.nodup_append.mpr ⟨h.nd,by simp,λ a ha b hb=>?_⟩,λ e he=>?_⟩
  ·have:b=s + w.length:=by simpa using hb
   subst this
   rintro rfl
   exact c.2 ha
  ·rcases List.mem_append.mp he with he | he
   ·exact h.le e he
   ·have:e=s + w.length:=by simpa using he
    subst this
    exact yI hs c.1
 ·exact h
theorem Cn {tx:List Nat} {s:Nat} {E w:List Nat} {e:Nat}:e∈pI tx s E w ↔ e∈E \/ ((tx.drop s).take w.length=w/\e=s + w.length):=by
 unfold pI
 split
 ·rename_i c
  rw [List.mem_append]
  simp only [List.mem_singleton,c.1,true_and]
 ·rename_i c
  constructor
  ·exact .inl
  ·rintro (h | ⟨h1,rfl⟩)
   ·exact h
   ·by_cases z:s + w.length∈E
    ·exact z
    ·exact absurd ⟨h1,z⟩ c
theorem uV {tx:List Nat} {s:Nat} (hs:s <= tx.length):∀ (ws:List (List Nat)) {E:List Nat},EOk tx E->EOk tx (lQ tx ws E s)
 | [],E,h=>h
 | w :: ws,E,h=>uV hs ws (D1 hs h)
theorem wv {tx:List Nat} {s:Nat} {e:Nat}:∀ (ws:List (List Nat)) {E:List Nat},e∈lQ tx ws E s ↔ e∈E \/ ∃ w∈ws,(tx.drop s).take w.length=w/\e=s + w.length
 | [],E=>by simp [lQ]
 | w :: ws,E=>by
  have:=wv (tx:=tx) (s:=s) (e:=e) ws (E:=pI tx s E w)
  show e∈lQ tx ws (pI tx s E w) s ↔ _
  rw [this,Cn,or_assoc]
  simp
noncomputable def KR (tx:List Nat) (ws:List (List Nat)) (s e:Nat):Prop:=∃ w∈ws,(tx.drop s).take w.length=w/\e=s + w.length
theorem p9 {tx:List Nat} {ws:List (List Nat)}:∀ (S:List Nat) {E:List Nat},(∀ s∈S,s <= tx.length)->EOk tx E->EOk tx (S.foldl (lQ tx ws) E)
 | [],E,_,h=>h
 | s :: S,E,hS,h=>p9 S (λ z hz=>hS z (List.mem_cons_of_mem _ hz)) (uV (hS s List.mem_cons_self) ws h)
theorem sM {tx:List Nat} {ws:List (List Nat)} {S:List Nat} (h:EOk tx S):EOk tx (da tx ws S):=p9 S h.le ⟨by simp,by simp⟩
theorem sr {tx:List Nat} {ws:List (List Nat)} {e:Nat}:∀ (S:List Nat) {E:List Nat},e∈S.foldl (lQ tx ws) E ↔ e∈E \/ ∃ s∈S,KR tx ws s e
 | [],E=>by simp
 | s :: S,E=>by
  rw [List.foldl_cons,sr S,wv,or_assoc]
  simp [KR]
theorem ql {tx:List Nat} {ws:List (List Nat)} {S:List Nat} {e:Nat}:e∈da tx ws S ↔ ∃ s∈S,KR tx ws s e:=by
 unfold da
 rw [sr]
 simp
theorem yn {tx:List Nat} {ws:List (List Nat)}:da tx ws []=[]:=rfl
theorem Cu (e:Nat) (l:List Nat):iu (.int (e:Int)) (.lst (ni l))=.ok (!decide (e∈l)):=by
 unfold iu
 rw [B8]
 rfl
theorem Ho (l:List Nat) (e:Nat):ni l++[D.int (e:Int)]=ni (l++[e]):=by unfold ni;rw [List.map_append];rfl
theorem Hq {tx E:List Nat} (ht:Tx tx) (hE:EOk tx E):(ni E).length <= 1001:=by
 unfold ni
 rw [List.length_map]
 exact Nat.le_trans hE.len (Nat.succ_le_succ ht.l)
noncomputable def pE (W:D) (tx:List Nat) (S:D) (E:List Nat) (s:Nat) (a b:Option Sl):Ev:=[some (.sh W),some (.sh (.str tx)),some (.sh S),some (.ow ((ni E))),some (.sh (.int s)),a,b]
theorem GS {W S4:D} {tx:List Nat} (ht:Tx tx) {E:List Nat} {s:Nat} (hs:s <= tx.length) (hE:EOk tx E) {w:List Nat} (hw:Tx w) (x6:Option Sl) :
  dq (pE W tx S4 E s (eY w) x6)=.next (pE W tx S4 (pI tx s E w) s (eY w) (b4 ((s + w.length:Nat):Int))):=by
 have hcut:um (.str tx) (some (s:Int)) (some ((s + w.length:Nat):Int))=.ok (.str ((tx.drop s).take w.length)):=by
  simp only [um]
  rw [if_pos (Nat.le_trans ht.l (by decide)),rS _ hs (Nat.le_add_right _ _),Nat.add_sub_cancel_left]
 have hdr:∀ c∈(tx.drop s).take w.length,c < 1114112:=λ c hc=>ht.c c (List.mem_of_mem_drop (List.mem_of_mem_take hc))
 have t:gX (bC cz (jW (ae 1) (mP (ae 4)) (mP (ae 6))) (ae 5)) (bC iu (ae 6) (lA 3)) (pE W tx S4 E s (eY w) (b4 ((s + w.length:Nat):Int)))=.ok ((tx.drop s).take w.length == w && !decide (s + w.length∈E)):=nK (aA (gh rfl rfl rfl hcut) rfl (na hdr hw.c)) (aA rfl rfl (Cu _ _))
 refine (ac (ao (ak rfl (ce rfl (fC hw.l)) rfl))).trans ?_
 cases q:((tx.drop s).take w.length == w && !decide (s + w.length∈E)) with
 | true =>
  have c:=Bool.and_eq_true_iff.mp q
  rw [show pI tx s E w=E++[s + w.length] from if_pos ⟨eq_of_beq c.1,λ z=>by rw [decide_eq_true z] at c;exact Bool.noConfusion c.2⟩]
  exact (aZ (t.trans (congrArg R.ok q))).trans ((d5 rfl rfl (Nat.lt_of_le_of_lt (Hq ht hE) (by decide))).trans (by rw [Ho];rfl))
 | false =>
  rw [show pI tx s E w=E from if_neg λ z=>by rw [z.1,beq_self_eq_true,decide_eq_false z.2] at q;exact Bool.noConfusion q]
  exact aK (t.trans (congrArg R.ok q))
theorem Bm {tx:List Nat} {ws:List (List Nat)} {E:List Nat} {s j:Nat} {w:List Nat} (hj:ws[j]?=some w):lQ tx (ws.take (j + 1)) E s=pI tx s (lQ tx (ws.take j) E s) w:=by
 unfold lQ
 rw [List.take_add_one,hj,Option.toList_some,List.foldl_append];rfl
theorem qb {α β:Type} {f:β->α->β} {b:β} {l:List α} {k:Nat} {a:α} (h:l[k]?=some a):(l.take (k + 1)).foldl f b=f ((l.take k).foldl f b) a:=by
 rw [List.take_add_one,h,Option.toList_some,List.foldl_append];rfl
noncomputable def pF (W:D) (tx:List Nat) (S:D) (E:List Nat) (a b c:Option Sl):Ev:=[some (.sh W),some (.sh (.str tx)),some (.sh S),some (.ow ((ni E))),a,b,c]
theorem EOk.nil (tx:List Nat):EOk tx []:=⟨List.nodup_nil,λ _ z=>nomatch z⟩
theorem nL {tx:List Nat} (ht:Tx tx) {ws:List (List Nat)} (hw:∀ w∈ws,Tx w) {S:List Nat} (hS:∀ s∈S,s <= tx.length):cv [.lst (ws.map D.str),.str tx,.lst (ni S)]=.ok (.lst (ni (da tx ws S))):=by
 obtain ⟨δ',e,x4,x5,x6,rfl⟩:=eG (f:=λ n:Nat=>D.int (n:Int)) (l:=S) (i:=4) (fit:=λ δ=>((ae 2) δ).bind br) (F:=fR) (δ:=pF (.lst (ws.map D.str)) tx (.lst (ni S)) [] none none none)
  (λ k δ=>∃ x4 x5 x6,δ=pF (.lst (ws.map D.str)) tx (.lst (ni S)) ((S.take k).foldl (lQ tx ws) []) x4 x5 x6) rfl ⟨none,none,none,rfl⟩ (λ k s δ hk hI=>by
   obtain ⟨x4,x5,x6,rfl⟩:=hI
   have hs:=hS s (List.mem_of_getElem? hk)
   have hE:EOk tx ((S.take k).foldl (lQ tx ws) []):=p9 _ (λ z hz=>hS z (List.mem_of_mem_take hz)) (.nil tx)
   obtain ⟨δ2,e2,y5,y6,rfl⟩:=eG (f:=D.str) (l:=ws) (i:=5) (fit:=λ δ=>((ae 0) δ).bind br) (F:=dq) (δ:=pE (.lst (ws.map D.str)) tx (.lst (ni S)) ((S.take k).foldl (lQ tx ws) []) s x5 x6)
    (λ j δ=>∃ x5 x6,δ=pE (.lst (ws.map D.str)) tx (.lst (ni S)) (lQ tx (ws.take j) ((S.take k).foldl (lQ tx ws) []) s) s x5 x6) rfl ⟨x5,x6,rfl⟩ (λ j w δ hj hJ=>by
     obtain ⟨x5,x6,rfl⟩:=hJ
     exact ⟨_,.inl (GS ht hs (uV hs _ hE) (hw w (List.mem_of_getElem? hj)) x6),eY w,_,by rw [Bm hj]⟩)
   rw [List.take_length] at e2
   exact ⟨_,.inl e2,b4 s,y5,y6,by rw [qb hk];rfl⟩)
 rw [List.take_length] at e
 exact aP ((ac (gn rfl)).trans ((ac e).trans rfl))
noncomputable def dM (tx:List Nat) (W:List Nat->List (List Nat)) (ts:List (List Nat)) (S:List Nat):List Nat:=ts.foldl (λ S t=>da tx (W t) S) S
theorem sE {tx:List Nat} {W:List Nat->List (List Nat)}:∀ ts:List (List Nat),dM tx W ts []=[]
 | []=>rfl
 | t :: ts=>by
  show dM tx W ts (da tx (W t) [])=[]
  rw [yn]
  exact sE ts
theorem qx {tx:List Nat} {W:List Nat->List (List Nat)}:∀ (ts:List (List Nat)) {S:List Nat},EOk tx S->EOk tx (dM tx W ts S)
 | [],S,h=>h
 | t :: ts,S,h=>qx ts (sM h)
noncomputable def PR (tx:List Nat) (W:List Nat->List (List Nat)):List (List Nat)->Nat->Nat->Prop
 | [],s,e=>s=e
 | t :: ts,s,e=>∃ m,KR tx (W t) s m/\PR tx W ts m e
theorem nQ {tx:List Nat} {W:List Nat->List (List Nat)} {e:Nat}:∀ (ts:List (List Nat)) {S:List Nat},e∈dM tx W ts S ↔ ∃ s∈S,PR tx W ts s e
 | [],S=>by simp [dM,PR]
 | t :: ts,S=>by
  show e∈dM tx W ts (da tx (W t) S) ↔ _
  rw [nQ ts]
  constructor
  ·rintro ⟨m,hm,h⟩
   obtain ⟨s,hs,h1⟩:=ql.mp hm
   exact ⟨s,hs,m,h1,h⟩
  ·rintro ⟨s,hs,m,h1,h⟩
   exact ⟨m,ql.mpr ⟨s,hs,h1⟩,h⟩
structure WD (wd:D) (W:List Nat->List (List Nat)):Prop where
 pl:∀ t∈bU,AR wd (.str [t.getD 1 0])=.ok (.lst ((W t).map D.str))
 sg:∀ c∈bJ,W [c]=[[c]]
 ok:∀ t∈bi,∀ w∈W t,Tx w
theorem ie {t:List Nat} (h:t∈bi):(t∈bU/\t.length=3) \/ ∃ c∈bJ,t=[c]:=by
 unfold bi at h
 rcases List.mem_append.mp h with h | h
 ·have:∀ t∈bU,t.length=3:=by decide
  exact .inl ⟨h,this t h⟩
 ·obtain ⟨c,hc,rfl⟩:=List.mem_map.mp h
  exact .inr ⟨c,hc,rfl⟩
theorem qK:∀ c∈bJ,c < 123:=by decide
theorem zG {a b:List Nat} {k:Bool} (h:(a++b).all (λ c=>decide (c < 1114112))=true) (e:(a == b)=k):cz (.str a) (.str b)=.ok k:=by
 have h:=List.all_eq_true.mp h
 rw [na (λ c hc=>of_decide_eq_true (h c (List.mem_append_left _ hc))) (λ c hc=>of_decide_eq_true (h c (List.mem_append_right _ hc))),e]
theorem Hr (l:List Nat):cz (.lst (ni l)) (.lst [])=.ok l.isEmpty:=by
 rw [Ct,wF]
 cases l <;> rfl
noncomputable def oE (P wd:D) (tx:List Nat) (S0:D) (S:List Nat) (a b:Option Sl):Ev:=[some (.sh P),some (.sh wd),some (.sh (.str tx)),some (.sh S0),some (.sh (.lst (ni S))),a,b]
theorem AY {wd:D} {W:List Nat->List (List Nat)} (hw:WD wd W) {k:Int} {t:List Nat} (hT:t∈bi) {δ:Ev} (h1:ae 1 δ=.ok wd) (h5:ae 5 δ=.ok (bv k t)):zC (bC cz (m2 bO (ae 5) (mC (.int 0))) (mC (.str [112,108,97,99,101]))) (m2 AR (ae 1) (m2 bO (ae 5) (mC (.int 1)))) (b8 (ah (m2 bO (ae 5) (mC (.int 1))) (ar))) δ=.ok (.lst ((W t).map D.str)):=by
 rcases ie hT with ⟨hp,h3⟩ | ⟨c,hc,rfl⟩
 ·rw [show bv k t=.tup [.str [112,108,97,99,101],.str [t.getD 1 0],.int k] from if_pos h3] at h5
  exact (G0 (aA (ak h5 rfl rfl) rfl (zG rfl rfl))).trans (ak h1 (ak h5 rfl rfl) (hw.pl t hp))
 ·have h5:ae 5 δ=.ok (.tup [.str [115,105,103,110],.str [c],.int k]):=h5
  rw [hw.sg c hc]
  exact (GZ (aA (ak h5 rfl rfl) rfl (zG rfl rfl))).trans (bF (av (ak h5 rfl rfl) rfl) rfl)
theorem CK {P S0 wd:D} {W:List Nat->List (List Nat)} (hw:WD wd W) {tx:List Nat} (ht:Tx tx) {S:List Nat} (hS:EOk tx S) {k:Int} {t:List Nat} (hT:t∈bi) (x6:Option Sl) :
  bL (oE P wd tx S0 S (some (.sh (bv k t))) x6)=(if da tx (W t) S=[] then .ret (.lst []) else .next (oE P wd tx S0 (da tx (W t) S) (some (.sh (bv k t))) (some (.sh (.lst ((W t).map D.str)))))):=by
 refine (ac (ao (AY hw hT rfl rfl))).trans ((ac (ao (ax rfl (nL ht (hw.ok t hT) hS.le)))).trans ?_)
 have hnil:=Hr (da tx (W t) S)
 generalize da tx (W t) S=l at hnil
 cases l with
 | nil=>exact (aZ (aA rfl rfl hnil)).trans (bh rfl)
 | cons a l=>exact aK (aA rfl rfl hnil)
theorem sI {P S0 wd:D} {W:List Nat->List (List Nat)} (hw:WD wd W) {tx:List Nat} (ht:Tx tx) {k:Int}:∀ (ts:List (List Nat)) {S:List Nat} (x5 x6:Option Sl),(∀ t∈ts,t∈bi)->EOk tx S →
  (cu (bN 5) bL (ts.map (bv k)) (oE P wd tx S0 S x5 x6)=.ret (.lst [])/\dM tx W ts S=[]) \/ ∃ y5 y6,cu (bN 5) bL (ts.map (bv k)) (oE P wd tx S0 S x5 x6)=.next (oE P wd tx S0 (dM tx W ts S) y5 y6)
 | [],S,x5,x6,_,_=>.inr ⟨x5,x6,rfl⟩
 | t :: ts,S,x5,x6,hT,hS=>by
  have h1:=CK (P:=P) (S0:=S0) hw ht hS (k:=k) (hT t List.mem_cons_self) x6
  by_cases hz:da tx (W t) S=[]
  ·refine .inl ⟨?_,?_⟩
   ·rw [if_pos hz] at h1
    exact AM (δ1:=(oE P wd tx S0 S (some (.sh (bv k t))) x6)) rfl h1
   ·show dM tx W ts (da tx (W t) S)=[]
    rw [hz,sE]
  ·rw [if_neg hz] at h1
   have e:cu (bN 5) bL ((t :: ts).map (bv k)) (oE P wd tx S0 S x5 x6)=cu (bN 5) bL (ts.map (bv k)) (oE P wd tx S0 (da tx (W t) S) (some (.sh (bv k t))) (some (.sh (.lst ((W t).map D.str))))):=yb (δ1:=(oE P wd tx S0 S (some (.sh (bv k t))) x6)) rfl h1
   rw [e]
   exact sI hw ht ts _ _ (λ z hz=>hT z (List.mem_cons_of_mem _ hz)) (sM hS)
theorem oS {wd:D} {W:List Nat->List (List Nat)} (hw:WD wd W) {tx:List Nat} (ht:Tx tx) {k:Int} {ts:List (List Nat)} (hT:∀ t∈ts,t∈bi) {S:List Nat} (hS:EOk tx S):cH [.lst (ts.map (bv k)),wd,.str tx,.lst (ni S)]=.ok (.lst (ni (dM tx W ts S))):=by
 have hz:dO (oE (.lst (ts.map (bv k))) wd tx (.lst (ni S)) S none none)=cu (bN 5) bL (ts.map (bv k)) (oE (.lst (ts.map (bv k))) wd tx (.lst (ni S)) S none none):=rfl
 rcases sI (P:=.lst (ts.map (bv k))) (S0:=.lst (ni S)) hw ht (k:=k) ts none none hT hS with ⟨h1,h2⟩ | ⟨y5,y6,h1⟩
 ·rw [h2]
  exact aP ((ac (ao rfl)).trans (b6 (hz.trans h1)))
 ·exact aP ((ac (ao rfl)).trans ((ac (hz.trans h1)).trans rfl))
noncomputable abbrev i7:=Int × List (List Nat)
noncomputable def gD (g:i7):D:=.lst (g.2.map (bv g.1))
noncomputable def jI (tx:List Nat) (W:List Nat->List (List Nat)) (S:List Nat) (g:i7):List Nat:=if 0 < g.1 then S++(dM tx W g.2 S).filter (λ e=>!decide (e∈S)) else dM tx W g.2 S
noncomputable def GR (tx:List Nat) (W:List Nat->List (List Nat)):List i7->Nat->Nat->Prop
 | [],s,e=>s=e
 | g :: gs,s,e=>∃ m,(PR tx W g.2 s m \/ (0 < g.1/\m=s))/\GR tx W gs m e
theorem B3 {tx:List Nat} {W:List Nat->List (List Nat)} {S:List Nat} (h:EOk tx S) (g:i7):EOk tx (jI tx W S g):=by
 unfold jI
 have hp:=qx (W:=W) g.2 h
 split
 ·refine ⟨List.nodup_append.mpr ⟨h.nd,hp.nd.filter _,λ a ha b hb=>?_⟩,λ e he=>?_⟩
  ·have:=(List.mem_filter.mp hb).2
   rintro rfl
   simp [ha] at this
  ·rcases List.mem_append.mp he with he | he
   ·exact h.le e he
   ·exact hp.le e (List.mem_filter.mp he).1
 ·exact hp
theorem ss {tx:List Nat} {W:List Nat->List (List Nat)} {S:List Nat} {g:i7} {e:Nat}:e∈jI tx W S g ↔ ∃ s∈S,PR tx W g.2 s e \/ (0 < g.1/\e=s):=by
 unfold jI
 split
 ·rename_i hk
  rw [List.mem_append,List.mem_filter,nQ]
  constructor
  ·rintro (h | ⟨⟨s,hs,h⟩,_⟩)
   ·exact ⟨e,h,.inr ⟨hk,rfl⟩⟩
   ·exact ⟨s,hs,.inl h⟩
  ·rintro ⟨s,hs,h | ⟨_,rfl⟩⟩
   ·by_cases z:e∈S
    ·exact .inl z
    ·exact .inr ⟨⟨s,hs,h⟩,by simp [z]⟩
   ·exact .inl hs
 ·rename_i hk
  rw [nQ]
  constructor
  ·rintro ⟨s,hs,h⟩
   exact ⟨s,hs,.inl h⟩
  ·rintro ⟨s,hs,h | ⟨h,_⟩⟩
   ·exact ⟨s,hs,h⟩
   ·exact absurd h hk
theorem wu {tx:List Nat} {W:List Nat->List (List Nat)} {e:Nat}:∀ (gs:List i7) {S:List Nat},e∈gs.foldl (jI tx W) S ↔ ∃ s∈S,GR tx W gs s e
 | [],S=>by simp [GR]
 | g :: gs,S=>by
  rw [List.foldl_cons,wu gs]
  constructor
  ·rintro ⟨m,hm,h⟩
   obtain ⟨s,hs,h1⟩:=ss.mp hm
   exact ⟨s,hs,m,h1,h⟩
  ·rintro ⟨s,hs,m,h1,h⟩
   exact ⟨m,ss.mpr ⟨s,hs,h1⟩,h⟩
theorem zw {tx:List Nat} {W:List Nat->List (List Nat)}:∀ (gs:List i7) {S:List Nat},EOk tx S->EOk tx (gs.foldl (jI tx W) S)
 | [],S,h=>h
 | g :: gs,S,h=>zw gs (B3 h g)
theorem L4 (k:Int) (t:List Nat):bO (bv k t) (.int 2)=.ok (.int k):=by
 unfold bv
 split <;> rfl
noncomputable def Ji (P wd:D) (tx:List Nat) (S:List Nat) (a b:Option Sl):Ev:=[some (.sh P),some (.sh wd),some (.sh (.str tx)),some (.sh (.lst (ni S))),a,b]
theorem GM {l m:List Nat} (h:l.length + m.length <= 1000000):qp (.lst (ni l)) (.lst (ni m))=.ok (.lst (ni (l++m))):=by
 unfold ni
 rw [ui (by rw [List.length_map,List.length_map];exact h),List.map_append]
theorem xw {P wd:D} {W:List Nat->List (List Nat)} (hw:WD wd W) {tx:List Nat} (ht:Tx tx) {S:List Nat} (hS:EOk tx S) {g:i7} (hg:∀ t∈g.2,t∈bi) (hne:g.2 ≠ []) (x5:Option Sl) :
  fu (Ji P wd tx S (some (.sh (gD g))) x5)=.next (Ji P wd tx (jI tx W S g) (some (.sh (gD g))) (some (.sh (.lst (ni S))))):=by
 obtain ⟨t,ts,e2⟩:=List.exists_cons_of_ne_nil hne
 have i0:bO (gD g) (.int 0)=.ok (bv g.1 t):=by unfold gD;rw [e2];exact c0 (cb (k:=0) rfl)
 have hl:=Nat.le_trans (qx (W:=W) g.2 hS).len (Nat.succ_le_succ ht.l)
 have hl2:=Nat.le_trans hS.len (Nat.succ_le_succ ht.l)
 have t3:bC nF (m2 bO (m2 bO (ae 4) (mC (.int 0))) (mC (.int 2))) (mC (.int 0)) (Ji P wd tx (dM tx W g.2 S) (some (.sh (gD g))) (some (.sh (.lst (ni S)))))=.ok (decide (0 < g.1)):=aA (ak (ak rfl rfl i0) rfl (L4 _ _)) rfl rfl
 refine (ac (ao rfl)).trans ((ac (ao (ax rfl (oS hw ht (k:=g.1) hg hS)))).trans ?_)
 by_cases hk:0 < g.1
 ·have hc:ec (λ δ=>((ae 3) δ).bind br) (bC iu (ae 6) (ae 5)) (ae 6) (Ji P wd tx (dM tx W g.2 S) (some (.sh (gD g))) (some (.sh (.lst (ni S)))))=.ok (ni ((dM tx W g.2 S).filter (λ e=>!decide (e∈S)))):=
   vM (l:=dM tx W g.2 S) (h:=λ n:Nat=>D.int (n:Int)) (g:=λ n:Nat=>D.int (n:Int)) (p:=λ e=>!decide (e∈S)) rfl (Nat.le_trans hl (by decide)) (λ a ha=>aA rfl rfl (Cu a S)) (λ a ha _=>rfl)
  rw [show jI tx W S g=S++(dM tx W g.2 S).filter (λ e=>!decide (e∈S)) from if_pos hk]
  exact (aZ (t3.trans (congrArg R.ok (decide_eq_true hk)))).trans (ao (ak rfl (bF hc rfl) (GM (Nat.le_trans (Nat.add_le_add hl2 (Nat.le_trans (List.length_filter_le _ _) hl)) (by decide)))))
 ·rw [show jI tx W S g=dM tx W g.2 S from if_neg hk]
  exact aK (t3.trans (congrArg R.ok (decide_eq_false hk)))
theorem EOk.one (tx:List Nat):EOk tx [0]:=⟨List.nodup_cons.mpr ⟨List.not_mem_nil,List.nodup_nil⟩,λ e h=>by rw [List.mem_singleton.mp h];exact Nat.zero_le _⟩
theorem rj {wd:D} {W:List Nat->List (List Nat)} (hw:WD wd W) {tx:List Nat} (ht:Tx tx) {gs:List i7} (hg:∀ g∈gs,(∀ t∈g.2,t∈bi)/\g.2 ≠ []):∃ b,dF [.lst (gs.map gD),wd,.str tx]=.ok (.bl b)/\(b=true ↔ GR tx W gs 0 tx.length):=by
 refine ⟨decide (tx.length∈gs.foldl (jI tx W) [0]),?_,?_⟩
 ·obtain ⟨δ',e,x4,x5,rfl⟩:=eG (f:=gD) (l:=gs) (i:=4) (fit:=λ δ=>((ae 0) δ).bind br) (F:=fu) (δ:=Ji (.lst (gs.map gD)) wd tx [0] none none)
   (λ k δ=>∃ x4 x5,δ=Ji (.lst (gs.map gD)) wd tx ((gs.take k).foldl (jI tx W) [0]) x4 x5) rfl ⟨none,none,rfl⟩ (λ k g δ hk hI=>by
    obtain ⟨x4,x5,rfl⟩:=hI
    obtain ⟨h1,h2⟩:=hg g (List.mem_of_getElem? hk)
    exact ⟨_,.inl (xw hw ht (zw _ (.one tx)) h1 h2 x5),_,_,by rw [qb hk]⟩)
  rw [List.take_length] at e
  exact aP ((ac (ao rfl)).trans ((ac e).trans (bh (ak (ce rfl (fC ht.l)) rfl (congrArg BC (B8 _ _))))))
 ·rw [decide_eq_true_eq,wu]
  exact ⟨λ ⟨s,hs,h⟩=>List.mem_singleton.mp hs ▸ h,λ h=>⟨0,.head _,h⟩⟩
noncomputable def cJ:List (List Nat):=[[106,97,110,117,97,114,121],[102,101,98,114,117,97,114,121],[109,97,114,99,104],[97,112,114,105,108],[109,97,121],[106,117,110,101],[106,117,108,121],[97,117,103,117,115,116],[115,101,112,116,101,109,98,101,114],[111,99,116,111,98,101,114],[110,111,118,101,109,98,101,114],[100,101,99,101,109,98,101,114]]
noncomputable def b5:List (List Nat):=[[109,111,110,100,97,121],[116,117,101,115,100,97,121],[119,101,100,110,101,115,100,97,121],[116,104,117,114,115,100,97,121],[102,114,105,100,97,121],[115,97,116,117,114,100,97,121],[115,117,110,100,97,121]]
noncomputable def lF (n:Nat):List (List Nat):=if n < 10 then [dg n,48 :: dg n] else [dg n]
noncomputable def jG (s:List Nat):List (List Nat):=(List.range s.length).map λ k=>s.take (k + 1)
noncomputable def WY (y m d w:Nat) (t:List Nat):List (List Nat):=
 if t=[60,100,62] then lF d else if t=[60,109,62] then lF m else if t=[60,121,62] then [Gz y] else if t=[60,89,62] then [DJ y] else
 if t=[60,110,62] then jG (cJ.getD (m - 1) []) else if t=[60,119,62] then jG (b5.getD w []) else [t]
noncomputable abbrev aX (l:List (List Nat)):D:=.lst (l.map D.str)
noncomputable def KB (y m d w:Nat):D:=.dic [Sum.inr ("d" : Str),Sum.inr ("m" : Str),Sum.inr ("y" : Str),Sum.inr ("Y" : Str),Sum.inr ("n" : Str),Sum.inr ("w" : Str)]
 [aX (lF d),aX (lF m),aX [Gz y],aX [DJ y],aX (jG (cJ.getD (m - 1) [])),aX (jG (b5.getD w []))]
theorem yc:∀ s∈cJ++b5,s.length <= 9/\∀ c∈s,c < 123:=by decide
theorem lJ (m:Nat):cJ.getD (m - 1) []=[] \/ cJ.getD (m - 1) []∈cJ++b5:=by
 rw [List.getD_eq_getElem?_getD]
 cases h:cJ[m - 1]? with
 | none=>exact .inl rfl
 | some s=>exact .inr (List.mem_append_left _ (List.mem_of_getElem? h))
theorem il (w:Nat):b5.getD w []=[] \/ b5.getD w []∈cJ++b5:=by
 rw [List.getD_eq_getElem?_getD]
 cases h:b5[w]? with
 | none=>exact .inl rfl
 | some s=>exact .inr (List.mem_append_right _ (List.mem_of_getElem? h))
theorem jY {s:List Nat} (h:s=[] \/ s∈cJ++b5):s.length <= 9/\∀ c∈s,c < 123:=by
 rcases h with rfl | h
 ·simp
 ·exact yc s h
theorem zq {n:Nat} (h:n < 10000):∀ w∈lF n,Tx w:=by
 have hd:=v0 h
 have hl:=@pX n
 have h1:Tx (dg n):=⟨by lia,λ c hc=>by have:=hd c hc;lia⟩
 have h2:Tx (48 :: dg n):=⟨by simp;lia,λ c hc=>by
  rcases List.mem_cons.mp hc with rfl | hc
  ·lia
  ·exact h1.c c hc⟩
 intro w hw
 unfold lF at hw
 split at hw
 ·rcases List.mem_cons.mp hw with rfl | hw
  ·exact h1
  ·have:w=48 :: dg n:=by simpa using hw
   subst this;exact h2
 ·have:w=dg n:=by simpa using hw
  subst this;exact h1
theorem zj {s:List Nat} (h:s.length <= 9/\∀ c∈s,c < 123):∀ w∈jG s,Tx w:=by
 intro w hw
 obtain ⟨k,hk,rfl⟩:=List.mem_map.mp hw
 refine ⟨?_,λ c hc=>?_⟩
 ·rw [List.length_take];lia
 ·have:=h.2 c (List.mem_of_mem_take hc)
  lia
theorem BQ (n:Nat):48 + n % 10 < 1114112:=Nat.lt_trans (Nat.add_lt_add_left (Nat.mod_lt n (by decide)) 48) (by decide)
theorem D3:∀ t∈bi,t.length <= 3/\∀ c∈t,c < 123:=by decide
theorem Jq {y m d w:Nat} (hm:m < 10000) (hd:d < 10000) {t:List Nat} (ht:t∈bi):∀ x∈WY y m d w t,Tx x:=by
 intro x hx
 rcases ie ht with ⟨hp,_⟩ | ⟨c,hc,rfl⟩
 ·simp only [bU,List.mem_cons,List.not_mem_nil,or_false] at hp
  rcases hp with rfl | rfl | rfl | rfl | rfl | rfl
  ·exact zq hd x hx
  ·exact zq hm x hx
  ·rw [List.mem_singleton.mp (show x∈[Gz y] from hx)]
   refine ⟨(show 2 <= 1000 by decide),λ c hc=>?_⟩
   simp only [Gz,List.mem_cons,List.not_mem_nil,or_false] at hc
   rcases hc with rfl | rfl <;> exact BQ _
  ·rw [List.mem_singleton.mp (show x∈[DJ y] from hx)]
   refine ⟨(show 4 <= 1000 by decide),λ c hc=>?_⟩
   simp only [DJ,List.mem_cons,List.not_mem_nil,or_false] at hc
   rcases hc with rfl | rfl | rfl | rfl <;> exact BQ _
  ·exact zj (jY (lJ m)) x hx
  ·exact zj (jY (il w)) x hx
 ·rw [List.mem_singleton.mp (show x∈[[c]] from (show WY y m d w [c]=[[c]] by simp [WY]) ▸ hx)]
  have:=D3 _ ht
  exact ⟨Nat.le_trans this.1 (by decide),λ c hc=>Nat.lt_trans (this.2 c hc) (by decide)⟩
theorem tt (y m d w:Nat):∀ c∈bJ,WY y m d w [c]=[[c]]:=λ c _=>by simp [WY]
theorem GE {y m d w:Nat} (hm:m < 10000) (hd:d < 10000):WD (KB y m d w) (WY y m d w) where
 pl:=by
  intro t ht
  simp only [bU,List.mem_cons,List.not_mem_nil,or_false] at ht
  rcases ht with rfl | rfl | rfl | rfl | rfl | rfl <;> rfl
 sg:=tt y m d w
 ok:=λ t ht=>Jq hm hd ht
theorem p8 {n:Nat} (h:n < 10000):ff [.int (n:Int)]=.ok (aX (lF n)):=by
 unfold lF
 by_cases c:n < 10
 ·rw [if_pos c]
  exact aP (b6 ((aZ (congrArg R.ok (decide_eq_true (show (n:Int) < 10 from Int.ofNat_lt.mpr c)))).trans (bh (bF (av (ce rfl (dX h)) (av (ce rfl (Hv h)) rfl)) rfl))))
 ·rw [if_neg c]
  exact aP ((ac (aK (congrArg R.ok (decide_eq_false (show ¬ (n:Int) < 10 from λ z=>c (Int.ofNat_lt.mp z)))))).trans (bh (bF (av (ce rfl (dX h)) rfl) rfl)))
theorem vF (s:List Nat):jG s=(qF 1 (s.length + 1)).map λ k=>s.take k.toNat:=by
 unfold jG qF
 rw [List.map_map]
 have:((s.length:Int) + 1 - 1).toNat=s.length:=by lia
 rw [this]
 refine List.map_congr_left λ k hk=>?_
 simp only [Function.comp]
 congr 1
 lia
theorem lw {s:List Nat} (h:s.length <= 1000):cN [.str s]=.ok (aX (jG s)):=by
 have e1:(ah (mC (.int 1)) (ah (m2 aT (m1 b3 (ae 0)) (mC (.int 1))) (ar))) (aG 1 [.str s])=.ok [.int 1,.int ((s.length:Int) + 1)]:=av rfl (av (ak (ce rfl (fC h)) rfl rfl) rfl)
 have hc:=pQ (l:=qF 1 (s.length + 1)) (h:=D.int) (g:=λ k=>D.str (s.take k.toNat)) (f:=jW (ae 0) (dD) (mP (ae 1))) (fit:=λ δ=>((ah (mC (.int 1)) (ah (m2 aT (m1 b3 (ae 0)) (mC (.int 1))) (ar))) δ).bind we) (δ:=aG 1 [.str s]) (by
   rw [<- wY]
   exact GW e1 (by decide) (by decide) (by lia) (by lia)) (by rw [qG];lia) (λ k hk=>by
   have hb:=qm.mp hk
   obtain ⟨k,rfl⟩:∃ j:Nat,k=(j:Int):=⟨k.toNat,by lia⟩
   show um (.str s) none (some (k:Int))=_
   simp only [um]
   rw [if_pos (by lia),mW _ (by lia)]
   rfl)
 refine (nz (bF hc rfl)).trans ?_
 rw [vF,aX,List.map_map]
 rfl
noncomputable def kt:Nat->List bc->List (Int × List Nat)
 | _,[]=>[]
 | n,p :: ps=>p.2.map (λ t=>((if p.1 then ((n + 1:Nat):Int) else 0),t))++kt (if p.1 then n + 1 else n) ps
noncomputable def CL (p:Int × List Nat):D:=bv p.1 p.2
theorem yk:∀ (ps:List bc) (n:Nat),sJ n ps=(kt n ps).map CL
 | [],_=>rfl
 | p :: ps,n=>by
  simp only [sJ,kt,List.map_append,List.map_map,yk ps]
  rfl
noncomputable def ii (gs:List i7) (p:Int × List Nat):List i7:=match gs.getLast? with
 | none=>[(p.1,[p.2])]
 | some g=>if g.1=p.1 then gs.dropLast++[(p.1,g.2++[p.2])] else gs++[(p.1,[p.2])]
noncomputable def gL (g:i7):List D:=g.2.map (bv g.1)
theorem CM (p:Int × List Nat):bO (CL p) (.int 2)=.ok (.int p.1):=by
 unfold CL bv
 split <;> rfl
theorem zJ (i j:Int):ul (.int i) (.int j)=.ok (!decide (i=j)):=by
 unfold ul
 rw [show wG (.int i)=true from rfl,show wG (.int j)=true from rfl]
 simp [AB,Ad,PyData.eqv]
 rfl
theorem zF (i j:Int):cz (.int i) (.int j)=.ok (decide (i=j)):=by
 unfold cz
 rw [show wG (.int i)=true from rfl,show wG (.int j)=true from rfl]
 simp [AB,Ad,PyData.eqv]
 rfl
theorem AF {gs:List i7} {g:i7} {p:Int × List Nat} (hg:gs.getLast?=some g) (h:g.1=p.1):ii gs p=gs.dropLast++[(p.1,g.2++[p.2])]:=by unfold ii;rw [hg];exact if_pos h
theorem B1 {gs:List i7} {g:i7} {p:Int × List Nat} (hg:gs.getLast?=some g) (h:g.1 ≠ p.1):ii gs p=gs++[(p.1,[p.2])]:=by unfold ii;rw [hg];exact if_neg h
noncomputable abbrev gT:Ev->R Bool:=ue (bC cz (ae 2) (mC (.int 0))) (bC ul (m2 bO (ae 3) (mC (.int 2))) (m2 bO (m2 bO (ae 0) (m2 gA (ae 2) (mC (.int 1)))) (mC (.int 2))))
theorem wl {gs:List i7} {p:Int} {l:List (List Nat)} {done:List (Int × List Nat)} {t:List Nat}:((gs++[(p,l)]).getLast?.map (·.1))=((done++[(p,t)]).getLast?.map (·.1)):=by rw [List.getLast?_concat,List.getLast?_concat];rfl
theorem wb {L:List (Int × List Nat)} {d0:D} (hd0:d0=.lst (L.map CL)):∀ (bf done:List (Int × List Nat)) (gs:List i7),L=done++bf->(gs.getLast?.map (·.1))=(done.getLast?.map (·.1)) →
  zu (m5 1 2 3 [some (.sh d0),none,none,none]) gT done.length (bf.map CL) (gs.map gL)=.ok ((bf.foldl ii gs).map gL)
 | [],done,gs,_,_=>rfl
 | p :: bf,done,gs,hL,hk=>by
  have ih:=λ gs' h=>wb hd0 bf (done++[p]) gs' (by rw [hL,List.append_assoc];rfl) h
  rw [List.length_append] at ih
  rw [List.map_cons,zu,List.foldl_cons]
  cases hz:done.getLast? with
  | none =>
   obtain rfl:done=[]:=List.getLast?_eq_none_iff.mp hz
   obtain rfl:gs=[]:=List.getLast?_eq_none_iff.mp (Option.map_eq_none_iff.mp (hk.trans (by rw [hz];rfl)))
   have et:gT (m5 1 2 3 [some (.sh d0),none,none,none] ([]:List (Int × List Nat)).length (CL p))=.ok true:=by unfold gT ue;rw [aA (fb:=mC (.int 0)) rfl rfl (show cz (.int 0) (.int 0)=.ok true from rfl)];rfl
   rw [et]
   exact ih [(p.1,[p.2])] rfl
  | some q =>
   rw [hz] at hk
   have hpos:0 < done.length:=List.length_pos_iff.mpr (by rintro rfl;cases hz)
   have hlast:(L.map CL)[done.length - 1]?=some (CL q):=by
    rw [hL,List.getElem?_map,List.getElem?_append_left (Nat.sub_lt hpos Nat.one_pos),<- List.getLast?_eq_getElem?,hz]
    rfl
   have hix:bO d0 (.int ((done.length:Int) - 1))=.ok (CL q):=by
    rw [hd0,show ((done.length:Int) - 1)=((done.length - 1:Nat):Int) by lia]
    exact c0 (cb hlast)
   have et:gT (m5 1 2 3 [some (.sh d0),none,none,none] done.length (CL p))=.ok (decide ((done.length:Int)=0) || !decide (p.1=q.1)):=i6 (aA rfl rfl (zF _ _)) (aA (ak rfl rfl (CM p)) (ak (ak rfl rfl hix) rfl (CM q)) (zJ _ _))
   rw [decide_eq_false (show ¬ (done.length:Int)=0 by lia),Bool.false_or] at et
   rw [et]
   obtain ⟨g,hg,hgq⟩:=Option.map_eq_some_iff.mp (hk.trans rfl)
   by_cases c:p.1=q.1
   ·have e1:=AF (p:=p) hg (hgq.trans c.symm)
    have e2:(gs.map gL).getLast?=some (gL g):=by rw [List.getLast?_map,hg];rfl
    rw [decide_eq_true c]
    simp only [Bool.not_true,e2]
    have:=ih (ii gs p) (by rw [e1];exact wl)
    rw [<- this,e1,List.map_append,List.map_dropLast]
    have e3:gL g++[CL p]=gL (p.1,g.2++[p.2]):=by
     unfold gL
     rw [List.map_append,hgq.trans c.symm];rfl
    rw [e3];rfl
   ·have e1:=B1 (p:=p) hg (λ z=>c (z.symm.trans hgq))
    rw [decide_eq_false c]
    have:=ih (ii gs p) (by rw [e1];exact wl)
    rw [<- this,e1,List.map_append]
    rfl
noncomputable def nN (ps:List bc):List i7:=(kt 0 ps).foldl ii []
theorem DB {ps:List bc} (h:(aN ps).length <= 1000):bM [.lst (sJ 0 ps)]=.ok (.lst ((nN ps).map gD)):=by
 have hl:(sJ 0 ps).length <= 100000:=by rw [zP];(first | lia | omega)
 unfold bM c8
 have e0:aG 4 [.lst (sJ 0 ps)]=[some (.sh (.lst (sJ 0 ps))),none,none,none]:=rfl
 rw [e0]
 have hg:=wb (L:=kt 0 ps) (d0:=.lst (sJ 0 ps)) (by rw [yk]) (kt 0 ps) [] [] rfl rfl
 rw [<- yk] at hg
 obtain ⟨x2,x3,hz⟩:∃ x2 x3,Bp 0 1 2 3 (ue (bC cz (ae 2) (mC (.int 0))) (bC ul (m2 bO (ae 3) (mC (.int 2))) (m2 bO (m2 bO (ae 0) (m2 gA (ae 2) (mC (.int 1)))) (mC (.int 2))))) [some (.sh (.lst (sJ 0 ps))),none,none,none]=.next [some (.sh (.lst (sJ 0 ps))),some (.sh (.lst ((nN ps).map gD))),x2,x3]:=by
  unfold Bp
  simp only [List.getElem?_cons_zero]
  rw [if_pos hl]
  have hg':zu (m5 1 2 3 [some (.sh (.lst (sJ 0 ps))),none,none,none]) (ue (bC cz (ae 2) (mC (.int 0))) (bC ul (m2 bO (ae 3) (mC (.int 2))) (m2 bO (m2 bO (ae 0) (m2 gA (ae 2) (mC (.int 1)))) (mC (.int 2))))) 0 (sJ 0 ps) []=.ok ((nN ps).map gL):=hg
  rw [hg']
  have em:((nN ps).map gL).map D.lst=(nN ps).map gD:=by rw [List.map_map];rfl
  simp only [em]
  cases (sJ 0 ps).getLast? with
  | none=>exact ⟨none,none,rfl⟩
  | some d=>exact ⟨_,_,rfl⟩
 rw [ac hz]
 rfl
theorem nY {ps:List bc} (h:OkP ps):cy [.str (cn ps)]=.ok (.lst ((nN ps).map gD)):=
 nz (ax (av (ax rfl (uJ h)) rfl) (DB (ps:=ps) (Nat.le_trans (mR h.v) (Nat.le_trans h.hi (by decide)))))
theorem rd {tx:List Nat} (h1:1 <= tx.length) (h2:tx.length <= 20) (hs:∀ c∈tx,c∈bJ):cO [.str tx]=.ok .non:=by
 have hl:=fC (s:=tx) (Nat.le_trans h2 (by decide))
 have t:ue (bC oW (m1 b3 (ae 0)) (mC (.int 1))) (bC nF (m1 b3 (ae 0)) (mC c_LONGEST_TEXT)) [some (.sh (.str tx)),none]=.ok (decide ((tx.length:Int) < 1) || decide ((20:Int) < tx.length)):=i6 (aA (ce rfl hl) rfl rfl) (aA (ce rfl hl) rfl rfl)
 rw [decide_eq_false (show ¬ (tx.length:Int) < 1 from Int.not_lt.mpr (Int.ofNat_le.mpr h1)),decide_eq_false (show ¬ (20:Int) < tx.length from Int.not_lt.mpr (Int.ofNat_le.mpr h2))] at t
 obtain ⟨δ',e,x1,rfl⟩:=eG (f:=λ c:Nat=>D.str [c]) (l:=tx) (i:=1) (fit:=λ δ=>((ae 0) δ).bind t0) (F:=js) (δ:=[some (.sh (.str tx)),none])
  (λ k δ=>∃ x1,δ=[some (.sh (.str tx)),x1]) rfl ⟨none,rfl⟩ (λ k c δ hk hI=>by
   obtain ⟨x1,rfl⟩:=hI
   have hin:iu (.str [c]) c_PLAIN_SIGNS=.ok false:=by
    show ((R.ok (!(Builtin.Str.occurrences ⟨bJ.toArray⟩ ⟨[c].toArray⟩ 0 (⟨bJ.toArray⟩:Str).length 1).isEmpty)).bind λ k=>R.ok (!k))=_
    rw [wR c (hs c (List.mem_of_getElem? hk))]
    rfl
   exact ⟨_,.inl (aK (aA rfl rfl hin)),_,rfl⟩)
 show b0 (eU [some (.sh (.str tx)),none])=_
 rw [eU,ac (aK t),fq,e]
 rfl
noncomputable def lI (y:Int):Bool:=y % 4 == 0 && (!(y % 100 == 0) || y % 400 == 0)
noncomputable def dj (y m:Int):Int:=if m=2/\lI y=true then 29 else [31,28,31,30,31,30,31,31,30,31,30,31].getD (m - 1).toNat 0
noncomputable def bR (y:Int):Int:=(y - 1) * 365 + (y - 1) / 4 - (y - 1) / 100 + (y - 1) / 400
noncomputable def jN (y:Int):Nat->Int
 | 0=>0
 | k + 1=>jN y k + dj y (k + 1)
noncomputable def fg (y m d:Int):Int:=bR y + jN y (m - 1).toNat + d - 1
noncomputable def lG (y m d:Int):Bool:=decide (1 <= y) && decide (y <= 9999) && decide (1 <= m) && decide (m <= 12) && decide (1 <= d) && decide (d <= dj y m)
theorem Hn:∀ k,k < 12->28 <= ([31,28,31,30,31,30,31,31,30,31,30,31]:List Int).getD k 0/\([31,28,31,30,31,30,31,31,30,31,30,31]:List Int).getD k 0 <= 31:=by decide
theorem ir (y:Int) {m:Int} (h1:1 <= m) (h2:m <= 12):28 <= dj y m/\dj y m <= 31:=by
 unfold dj
 split
 ·exact ⟨by decide,by decide⟩
 ·exact Hn _ (by lia)
theorem BB {y m:Int} (h1:1 <= m) (h2:m <= 12) (c:¬(m=2/\lI y=true)):oD [D.int 31,D.int 28,D.int 31,D.int 30,D.int 31,D.int 30,D.int 31,D.int 31,D.int 30,D.int 31,D.int 30,D.int 31] (m - 1)=some (.int (dj y m)):=by
 unfold dj
 rw [if_neg c]
 obtain ⟨k,e⟩:∃ k:Nat,m - 1=k:=⟨(m - 1).toNat,(Int.toNat_of_nonneg (Int.sub_nonneg_of_le h1)).symm⟩
 have hk:k < ([31,28,31,30,31,30,31,31,30,31,30,31]:List Int).length:=by show k < 12;lia
 rw [e,Int.toNat_natCast]
 refine cb ?_
 show (([31,28,31,30,31,30,31,31,30,31,30,31]:List Int).map D.int)[k]?=_
 rw [List.getElem?_map,List.getD_eq_getElem?_getD,List.getElem?_eq_getElem hk]
 rfl
theorem xZ (y:Int):dP [.int y]=.ok (.bl (lI y)):=
 nz (mS (ak (ak rfl rfl (ay y (j:=4) (by decide))) rfl rfl) (uB (ak (ak rfl rfl (ay y (j:=100) (by decide))) rfl rfl) (ak (ak rfl rfl (ay y (j:=400) (by decide))) rfl rfl)))
theorem zD {y m:Int} (c:(m == 2 && lI y)=false):¬(m=2/\lI y=true):=λ h=>by rw [h.1,h.2] at c;cases c
theorem wy {y m:Int} (c:(m == 2 && lI y)=true):dj y m=29:=if_pos ⟨eq_of_beq (Bool.and_eq_true_iff.mp c).1,(Bool.and_eq_true_iff.mp c).2⟩
theorem wz (y m:Int) (h1:1 <= m) (h2:m <= 12):bH [.int y,.int m]=.ok (.int (dj y m)):=by
 have e:gX (bC cz (ae 1) (mC (.int 2))) (mT (aH dP (ah (ae 0) (ar)))) (aG 2 [.int y,.int m])=.ok (m == 2 && lI y):=nK rfl (bF (ax rfl (xZ y)) rfl)
 cases c:(m == 2 && lI y) with
 | true=>exact (aP (b6 ((aZ (e.trans (congrArg R.ok c))).trans (bh (d:=.int 29) rfl)))).trans (by rw [wy c])
 | false=>exact aP ((ac (aK (e.trans (congrArg R.ok c)))).trans (bh (ak rfl rfl (zI (BB h1 h2 (zD c))))))
theorem vz (y:Int):aL [.int y]=.ok (.int (bR y)):=
 aP ((ac (ao rfl)).trans (bh (ak (ak (ak (ak rfl rfl (nU _ (by decide) (by decide))) (ak rfl rfl (bI _ (j:=4) (by decide) (by decide))) rfl) (ak rfl rfl (bI _ (j:=100) (by decide) (by decide))) rfl) (ak rfl rfl (bI _ (j:=400) (by decide) (by decide))) rfl)))
theorem ri (n:Int):bQ [.int n]=.ok (.bl (decide (0 <= n) && decide (n <= 3652058))):=nz (mS rfl rfl)
noncomputable def JM (b:Bool) (m:Int):Int:=if m=2/\b=true then 29 else [31,28,31,30,31,30,31,31,30,31,30,31].getD (m - 1).toNat 0
noncomputable def Gh (b:Bool):Nat->Int
 | 0=>0
 | k + 1=>Gh b k + JM b (k + 1)
theorem JN:∀ b,Gh b 12=365 + (if b=true then 1 else 0):=by decide
theorem Cq (y:Int):jN y 12=365 + (if lI y=true then 1 else 0):=JN (lI y)
theorem zo {y k q r:Int} (h:0 < k) (e:r + k * q=y) (h0:0 <= r) (h1:r < k):y / k=q:=((Int.ediv_emod_unique h).mpr ⟨e,h0,h1⟩).1
theorem Lx (y:Int) {k:Int} (h:0 < k):y / k=(y - 1) / k + (if y % k=0 then 1 else 0):=by
 have e:=Int.emod_add_mul_ediv y k
 have n:=Int.emod_nonneg y (Int.ne_of_gt h)
 have l:=Int.emod_lt_of_pos y h
 have e2:k * (y / k - 1)=k * (y / k) - k:=by rw [Int.mul_sub,Int.mul_one]
 by_cases c:y % k=0
 ·rw [if_pos c,zo (y:=y - 1) h (q:=y / k - 1) (r:=k - 1) (by rw [e2];lia) (Int.le_sub_one_of_lt h) (Int.sub_lt_self k Int.one_pos),Int.sub_add_cancel]
 ·rw [if_neg c,zo (y:=y - 1) h (q:=y / k) (r:=y % k - 1) (by lia) (Int.le_sub_one_of_lt (Int.lt_iff_le_and_ne.mpr ⟨n,Ne.symm c⟩)) (Int.lt_trans (Int.sub_lt_self _ Int.one_pos) l),Int.add_zero]
theorem F9 {y:Int} (h:y % 100=0):y % 4=0:=by
 rw [<- Int.emod_emod_of_dvd y (show (4:Int) ∣ 100 by decide),h];rfl
theorem Gc {y:Int} (h:y % 400=0):y % 100=0:=by
 rw [<- Int.emod_emod_of_dvd y (show (100:Int) ∣ 400 by decide),h];rfl
theorem MM (y:Int):(if lI y=true then (1:Int) else 0)=(if y % 4=0 then 1 else 0) - (if y % 100=0 then 1 else 0) + (if y % 400=0 then 1 else 0):=by
 unfold lI
 by_cases h3:y % 400=0
 ·simp [h3,Gc h3,F9 (Gc h3)]
 ·by_cases h2:y % 100=0
  ·simp [h3,h2,F9 h2]
  ·simp [h3,h2]
theorem L9 (a b c d e f g h i j:Int) (hb:b=e + h) (hc:c=f + i) (hd:d=g + j):a * 365 + b - c + d=(a - 1) * 365 + e - f + g + (365 + (h - i + j)):=by lia
theorem ic (y:Int):bR (y + 1)=bR y + jN y 12:=by
 rw [Cq]
 rw [MM]
 unfold bR
 rw [Int.add_sub_cancel]
 exact L9 _ _ _ _ _ _ _ _ _ _ (Lx y (by decide)) (Lx y (by decide)) (Lx y (by decide))
theorem zf (y:Int):bR y + 365 <= bR (y + 1)/\bR (y + 1) <= bR y + 365 + 1:=by
 rw [ic,Cq]
 split <;> lia
theorem zg (y:Int):∀ n:Nat,bR y <= bR (y + n)
 | 0=>by rw [Int.natCast_zero,Int.add_zero];exact Int.le_refl _
 | n + 1=>by
  have:=zg y n
  have:=(zf (y + n)).1
  rw [show y + ((n + 1:Nat):Int)=y + n + 1 from (Int.add_assoc y n 1).symm]
  lia
theorem gR {y z:Int} (h:y <= z):bR y <= bR z:=by
 have:=zg y (z - y).toNat
 rwa [Int.toNat_of_nonneg (Int.sub_nonneg_of_le h),Int.add_comm,Int.sub_add_cancel] at this
theorem vA {y:Int} (h:10000 <= y):3652059 <= bR y:=gR h
theorem KP (n:Int):bR (n / 146097 * 400 + n % 146097 / 366 + 1) <= n:=by unfold bR;(first | lia | omega)
theorem KO {n y:Int} (h:bR y <= n):y <= n / 146097 * 400 + n % 146097 / 366 + 1 + 2:=by unfold bR at h;(first | lia | omega)
noncomputable abbrev yE (n y:Int):Ev:=[b4 n,b4 (n / 146097),b4 y]
inductive YwI (n y0:Int) (k:Nat) (δ:Ev):Prop
 | mk (y:Int) (e:δ=yE n y) (h:y0 <= y) (a:bR y <= n) (l:(k:Int)=y0 + 3 - y)
theorem KQ (n y:Int):bC Bt (aH aL (ah (m2 aT (ae 2) (mC (.int 1))) (ar))) (ae 0) (yE n y)=.ok (decide (bR (y + 1) <= n)):=aA (ax rfl (vz (y + 1))) rfl rfl
theorem Cd {k:Nat} {a b:Int} (h:(k:Int)=a - b) (c:b + 1 <= a):k - 1 < k/\((k - 1:Nat):Int)=a - (b + 1):=by lia
theorem FR {n y0:Int} (h0:∀ y,bR y <= n->y <= y0 + 2) (k:Nat) (δ:Ev) (h:YwI n y0 k δ):bC Bt (aH aL (ah (m2 aT (ae 2) (mC (.int 1))) (ar))) (ae 0) δ=.ok false \/ (bC Bt (aH aL (ah (m2 aT (ae 2) (mC (.int 1))) (ar))) (ae 0) δ=.ok true/\∃ δ' k',k' < k/\kO δ=.next δ'/\YwI n y0 k' δ'):=by
 obtain ⟨y,rfl,hy,ha,hk⟩:=h
 have t:=KQ n y
 by_cases c:bR (y + 1) <= n
 ·rw [decide_eq_true c] at t
  have d:=Cd hk (Int.le_trans (h0 _ c) (Int.add_le_add_left (by decide) y0))
  exact .inr ⟨t,yE n (y + 1),k - 1,d.1,pM rfl rfl,⟨y + 1,rfl,Int.le_add_one hy,c,d.2⟩⟩
 ·rw [decide_eq_false c] at t
  exact .inl t
theorem uX (n:Int) (h0:0 <= n):∃ y,1 <= y/\bR y <= n/\n < bR (y + 1)/\eu [.int n]=.ok (.int y):=by
 have lo:=KP n
 have hi:=@KO n
 have p:1 <= n / 146097 * 400 + n % 146097 / 366 + 1:=Int.le_add_of_nonneg_left (Int.add_nonneg (Int.mul_nonneg (Int.ediv_nonneg h0 (by decide)) (by decide)) (Int.ediv_nonneg (Int.emod_nonneg n (by decide)) (by decide)))
 obtain ⟨δ',k',e,⟨y,rfl,hy,ha,hk⟩,hf⟩:=lR (YwI n (n / 146097 * 400 + n % 146097 / 366 + 1)) (FR λ y h=>hi h) 10 3 (yE n (n / 146097 * 400 + n % 146097 / 366 + 1)) (by decide) ⟨_,rfl,Int.le_refl _,lo,by rw [Int.add_comm,Int.add_sub_cancel];rfl⟩
 rw [KQ] at hf
 refine ⟨y,Int.le_trans p hy,ha,Int.not_le.mp (of_decide_eq_false (R.ok.inj hf)),aP ((ac (ao (ak (b:=.int 146097) rfl rfl (bI _ (by decide) (by decide))))).trans ((ac (ao (ak (ak (ak rfl rfl (nU _ (by decide) (by decide))) (ak (ak (b:=.int 146097) rfl rfl (ay _ (by decide))) rfl (bI _ (j:=366) (by decide) (by decide))) rfl) rfl rfl))).trans ((ac e).trans rfl)))⟩
theorem zE (y:Int) (a:Nat):∀ k:Nat,a + k <= 12->jN y a <= jN y (a + k)
 | 0,_=>Int.le_refl _
 | k + 1,h=>Int.le_trans (zE y a k (Nat.le_of_succ_le h)) (Int.le_add_of_nonneg_right (Int.le_trans (by decide) (ir y (m:=((a + k:Nat):Int) + 1) (by lia) (by lia)).1))
theorem uh (y:Int) (a b:Nat) (h:a <= b) (hb:b <= 12):jN y a <= jN y b:=by
 have:=zE y a (b - a) (by rwa [Nat.add_sub_cancel' h])
 rwa [Nat.add_sub_cancel' h] at this
noncomputable def ms (y m:Int):Int:=jN y (m - 1).toNat
theorem pd (y:Int) {m:Int} (h:1 <= m):ms y (m + 1)=ms y m + dj y m:=by
 obtain ⟨k,rfl⟩:∃ k:Nat,m=(k:Int) + 1:=⟨(m - 1).toNat,by rw [Int.toNat_of_nonneg (Int.sub_nonneg_of_le h),Int.sub_add_cancel]⟩
 unfold ms
 rw [Int.add_sub_cancel,Int.add_sub_cancel,Int.toNat_natCast]
 rfl
noncomputable abbrev dE (n y r m:Int):Ev:=[b4 n,b4 y,b4 r,b4 m]
inductive DoI (n y r:Int) (k:Nat) (δ:Ev):Prop
 | mk (m:Int) (e:δ=dE n y (r - ms y m) m) (h1:1 <= m) (h2:m <= 12) (p:0 <= r - ms y m) (l:(k:Int)=12 - m)
theorem JB (n y r m:Int) (h1:1 <= m) (h2:m <= 12):bC Gk (ae 2) (aH bH (ah (ae 1) (ah (ae 3) (ar)))) (dE n y r m)=.ok (decide (dj y m <= r)):=aA rfl (ax rfl (wz y m h1 h2)) rfl
theorem Ec {n y r:Int} (hr:r < jN y 12) (k:Nat) (δ:Ev) (h:DoI n y r k δ):bC Gk (ae 2) (aH bH (ah (ae 1) (ah (ae 3) (ar)))) δ=.ok false \/ (bC Gk (ae 2) (aH bH (ah (ae 1) (ah (ae 3) (ar)))) δ=.ok true/\∃ δ' k',k' < k/\ox δ=.next δ'/\DoI n y r k' δ'):=by
 obtain ⟨m,rfl,h1,h2,hp,hk⟩:=h
 have t:=JB n y (r - ms y m) m h1 h2
 have s:=pd y h1
 by_cases c:dj y m <= r - ms y m
 ·rw [decide_eq_true c] at t
  have hm:m + 1 <= 12:=by
   refine Int.lt_iff_le_and_ne.mpr ⟨h2,λ z=>?_⟩
   subst z
   have:ms y (12 + 1)=jN y 12:=rfl
   lia
  have d:=Cd hk hm
  have e:r - ms y m - dj y m=r - ms y (m + 1):=by rw [s];lia
  refine .inr ⟨t,dE n y (r - ms y (m + 1)) (m + 1),k - 1,d.1,(ac (pM rfl (ax rfl (wz y m h1 h2)))).trans ((pM rfl rfl).trans ?_),⟨m + 1,rfl,Int.le_add_one h1,hm,by rw [<- e];exact Int.sub_nonneg_of_le c,d.2⟩⟩
  rw [<- e];rfl
 ·rw [decide_eq_false c] at t
  exact .inl t
theorem Gj {f:Ev->R Bool} {δ:Ev} (h:f δ=.ok true):ud f δ=.ok false:=by unfold ud;rw [h];rfl
theorem F5 {n:Int} (h0:0 <= n) (h1:n <= 3652058):bQ [.int n]=.ok (.bl true):=by rw [ri,decide_eq_true h0,decide_eq_true h1];rfl
theorem xN (n:Int) (h0:0 <= n) (h1:n <= 3652058):∃ y m d,fe [.int n]=.ok (.tup [.int y,.int m,.int d])/\lG y m d=true/\fg y m d=n:=by
 obtain ⟨y,hy,ha,hb,ey⟩:=uX n h0
 have hy2:y <= 9999:=Int.not_lt.mp λ c=>by have:=vA c;lia
 rw [ic] at hb
 obtain ⟨δ',k',e,⟨m,rfl,hm1,hm2,hr,hk⟩,hf⟩:=lR (DoI n y (n - bR y)) (Ec (Int.sub_left_lt_of_lt_add hb)) 20 11 (dE n y (n - bR y - 0) 1) (by decide) ⟨1,rfl,by decide,by decide,(Int.sub_zero (n - bR y)).symm ▸ Int.sub_nonneg_of_le ha,rfl⟩
 rw [JB n y _ m hm1 hm2] at hf
 have hf:=Int.not_le.mp (of_decide_eq_false (R.ok.inj hf))
 rw [Int.sub_zero] at e
 refine ⟨y,m,n - bR y - ms y m + 1,aP ((ac (aK (Gj (bF (ax rfl (F5 h0 h1)) rfl)))).trans ((ac (ao (ax rfl ey))).trans ((ac (ao (ak rfl (ax rfl (vz y)) rfl))).trans ((ac (ao rfl)).trans ((ac e).trans rfl))))),?_,?_⟩
 ·unfold lG
  rw [decide_eq_true hy,decide_eq_true hy2,decide_eq_true hm1,decide_eq_true hm2,decide_eq_true (Int.le_add_of_nonneg_left hr),decide_eq_true (Int.add_one_le_of_lt hf)]
  rfl
 ·show bR y + ms y m + (n - bR y - ms y m + 1) - 1=n
  lia
theorem yL (n:Int) (h0:0 <= n) (h1:n <= 3652058):dH [.int n]=.ok (.int (n % 7)):=aP ((ac (aK (Gj (bF (ax rfl (F5 h0 h1)) rfl)))).trans (bh (ak rfl rfl (ay _ (by decide)))))
noncomputable def sC (y m d:Int):Prop:=1 <= y/\1 <= m/\m <= 12/\1 <= d/\d <= dj y m
theorem JO (y:Int) {m d:Int} (h1:1 <= m) (h2:m <= 12):0 <= ms y m/\ms y m + dj y m <= jN y 12:=by
 rw [<- pd y h1]
 exact ⟨uh y 0 _ (Nat.zero_le _) (by lia),uh y _ 12 (by lia) (Nat.le_refl 12)⟩
theorem jO (y m d:Int):fg y m d=bR y + ms y m + d - 1:=rfl
theorem qo {y m d:Int} (h:sC y m d):bR y <= fg y m d/\fg y m d < bR (y + 1):=by
 have b:=JO y (d:=d) h.2.1 h.2.2.1
 have h3:=h.2.2.2.1
 have h4:=h.2.2.2.2
 rw [jO,ic]
 lia
theorem CB {y m d:Int} (h:sC y m d) (hn:fg y m d <= 3652058):lG y m d=true:=by
 have h1:=(qo h).1
 have h2:y <= 9999:=Int.not_lt.mp λ c=>by have:=vA c;lia
 unfold lG
 rw [decide_eq_true h.1,decide_eq_true h2,decide_eq_true h.2.1,decide_eq_true h.2.2.1,decide_eq_true h.2.2.2.1,decide_eq_true h.2.2.2.2]
 rfl
theorem m8 {y m d:Int} (h:lG y m d=true):sC y m d:=by
 simp only [lG,Bool.and_eq_true,decide_eq_true_eq] at h
 exact ⟨h.1.1.1.1.1,h.1.1.1.2,h.1.1.2,h.1.2,h.2⟩
theorem CA {y z m d n e:Int} (h:sC y m d) (h':sC z n e) (c:y < z):fg y m d < fg z n e:=Int.lt_of_lt_of_le (Int.lt_of_lt_of_le (qo h).2 (gR c)) (qo h').1
theorem Gg {y m m':Int} (h1:1 <= m) (h2:m' <= 12) (c:m < m'):ms y m + dj y m <= ms y m':=by
 rw [<- pd y h1]
 exact uh y _ _ (by lia) (by lia)
theorem EA {y m d y' m' d':Int} (h:sC y m d) (h':sC y' m' d') (e:fg y m d=fg y' m' d'):y=y'/\m=m'/\d=d':=by
 have ey:y=y':=by
  rcases Int.lt_trichotomy y y' with c | c | c
  ·exact absurd e (Int.ne_of_lt (CA h h' c))
  ·exact c
  ·exact absurd e (Int.ne_of_gt (CA h' h c))
 subst ey
 obtain ⟨h0,h1,h2,h3,h4⟩:=h
 obtain ⟨h0',h1',h2',h3',h4'⟩:=h'
 rw [jO,jO] at e
 have em:m=m':=by
  rcases Int.lt_trichotomy m m' with c | c | c
  ·have:=Gg (y:=y) h1 h2' c;lia
  ·exact c
  ·have:=Gg (y:=y) h1' h2 c;lia
 subst em
 exact ⟨rfl,rfl,by lia⟩
theorem B6 {y m d:Int} (h:lG y m d=true):y <= 9999:=by
 simp only [lG,Bool.and_eq_true,decide_eq_true_eq] at h
 exact h.1.1.1.1.2
theorem wc {y m d:Int} (h:lG y m d=true):0 <= fg y m d/\fg y m d <= 3652058:=by
 have h3:=m8 h
 have h1:=qo h3
 exact ⟨Int.le_trans (gR (y:=1) h3.1) h1.1,Int.le_of_lt_add_one (Int.lt_of_lt_of_le h1.2 (gR (z:=10000) (Int.add_le_add_right (B6 h) 1)))⟩
theorem vX {y m d:Int} (h:lG y m d=true):fe [.int (fg y m d)]=.ok (.tup [.int y,.int m,.int d]):=by
 obtain ⟨h0,h1⟩:=wc h
 obtain ⟨y',m',d',e,h',hn⟩:=xN (fg y m d) h0 h1
 obtain ⟨rfl,rfl,rfl⟩:=EA (m8 h') (m8 h) hn
 exact e
theorem GA {f:Ev->R D} {δ:Ev} {s l:List Nat} {k:Int} (h:f δ=.ok (.str s)) (hk:0 <= k/\k <= 1000) (e:(Txt.zfill ⟨s.toArray⟩ k).cps.toList=l):Ck lK f (ah (mC (.int k)) (ar)) δ=.ok (.str l):=by
 unfold Ck
 rw [h,R.bind_ok]
 dsimp only
 rw [av rfl rfl,R.bind_ok]
 simp only [lK]
 rw [if_pos hk,e]
theorem sR {l:List (List Nat)} {k:Nat} (h:k < l.length):bO (.tup (l.map D.str)) (.int (k:Int))=.ok (.str (l.getD k [])):=zI (cb (by rw [List.getElem?_map,List.getD_eq_getElem?_getD,List.getElem?_eq_getElem h];rfl))
theorem BP {y m d:Nat} (h:lG y m d=true):y < 10000/\(1 <= m/\m <= 12)/\d < 10000:=by
 have h3:=m8 h
 exact ⟨Int.ofNat_lt.mp (Int.lt_of_le_of_lt (B6 h) (by decide)),⟨Int.ofNat_le.mp h3.2.1,Int.ofNat_le.mp h3.2.2.1⟩,Int.ofNat_lt.mp (Int.lt_of_le_of_lt (Int.le_trans h3.2.2.2.2 (ir y h3.2.1 h3.2.2.1).2) (by decide))⟩
theorem qR {y m d w:Nat} (h:lG y m d=true) (hw:fg y m d % 7=(w:Int)):cX [.int (fg y m d)]=.ok (KB y m d w):=by
 obtain ⟨h0,h1⟩:=wc h
 obtain ⟨hy,hm,hd⟩:=BP h
 have hw7:w < b5.length:=Int.ofNat_lt.mp (hw ▸ Int.emod_lt_of_pos (fg y m d) (show (0:Int) < 7 by decide))
 have hmo:bO (.tup (cJ.map D.str)) (.int ((m:Int) - 1))=.ok (.str (cJ.getD (m - 1) [])):=by
  rw [show ((m:Int) - 1)=((m - 1:Nat):Int) by lia]
  exact sR (show m - 1 < 12 by lia)
 have hwd:=yL (fg y m d) h0 h1
 rw [hw] at hwd
 exact aP ((ac (ao (ax rfl (vX h)))).trans ((ac (ao (d:=.int y) rfl)).trans ((ac (ao (d:=.int m) rfl)).trans (bh (bF (av (ax (av (ak rfl rfl rfl) rfl) (p8 hd)) (av (ax rfl (p8 (Nat.lt_of_le_of_lt hm.2 (by decide))))
  (av (bF (av (GA (ce (ak rfl rfl (ay (y:Int) (j:=100) (by decide))) (dX (n:=y % 100) (Nat.lt_trans (Nat.mod_lt y (by decide)) (by decide)))) (by decide) (Ja y)) rfl) rfl) (av (bF (av (GA (ce rfl (dX hy)) (by decide) (Jb hy)) rfl) rfl)
  (av (ax (av (ak (a:=.tup (cJ.map D.str)) rfl rfl hmo) rfl) (lw (Nat.le_trans (jY (lJ m)).1 (by decide)))) (av (ax (av (ak (a:=.tup (b5.map D.str)) rfl (ax rfl hwd) (sR hw7)) rfl) (lw (Nat.le_trans (jY (il w)).1 (by decide)))) rfl)))))) rfl)))))
theorem Ef {y m d w:Nat} (h:lG y m d=true) (hw:fg y m d % 7=(w:Int)) {ps:List bc} (hp:OkP ps) {tx:List Nat} (h1:1 <= tx.length) (h2:tx.length <= 20) (hs:∀ c∈tx,c∈bJ)
  (hg:∀ g∈nN ps,(∀ t∈g.2,t∈bi)/\g.2 ≠ []):∃ b,qk [.str (cn ps),.str tx,.int (fg y m d)]=.ok (.bl b)/\(b=true ↔ GR tx (WY y m d w) (nN ps) 0 tx.length):=by
 obtain ⟨hy,hm,hd⟩:=BP h
 have htx:Tx tx:=⟨Nat.le_trans h2 (by decide),λ c hc=>Nat.lt_trans (qK c (hs c hc)) (by decide)⟩
 obtain ⟨b,e,hb2⟩:=rj (GE (y:=y) (w:=w) (Nat.lt_of_le_of_lt hm.2 (by decide)) hd) htx hg
 have e1:qS (aH cO (ah (ae 1) (ar))) [some (.sh (.str (cn ps))),some (.sh (.str tx)),some (.sh (.int ((fg y m d)))),some (.sh (.lst ((nN ps).map gD)))]=.next [some (.sh (.str (cn ps))),some (.sh (.str tx)),some (.sh (.int ((fg y m d)))),some (.sh (.lst ((nN ps).map gD)))]:=by
  unfold qS
  rw [ax rfl (rd h1 h2 hs)]
  rfl
 exact ⟨b,aP ((ac (ao (ax rfl (nY hp)))).trans ((ac e1).trans (bh (ax (av rfl (av (ax rfl (qR h hw)) rfl)) e)))),hb2⟩
theorem pY:∀ c,48 <= c->c <= 57->c∈bJ:=by
 intro c h1 h2
 have:∀ k < 10,48 + k∈bJ:=by decide
 rw [<- Nat.add_sub_of_le h1]
 exact this _ (Nat.lt_succ_of_le (Nat.sub_le_sub_right h2 48))
theorem fB {a b:List Nat} (h:a.length + b.length <= 1000):aT (.str a) (.str b)=.ok (.str (a++b)):=by
 simp only [aT]
 rw [if_pos (by (first | lia | omega))]
theorem nb {s:List Nat} (h:s.length <= 1000) (lo hi:Option Int):um (.str s) lo hi=.ok (.str (gz s lo hi)):=by
 simp only [um]
 rw [if_pos (by (first | lia | omega))]
noncomputable def KZ (c:Int) (mx:Bool) (n m:Nat) (ps:List Int) (r:Int) (x:Option Sl):Ev:=[b4 c,some (.sh (.bl mx)),b4 n,b4 m,some (.ow (ps.map D.int)),b4 r,x]
inductive DrI (c:Int) (mx:Bool) (n m k:Nat) (δ:Ev):Prop
 | mk (ps:List Int) (r:Int) (x:Option Sl) (l:ps.length=k) (b:∀ x∈ps,0 <= x/\x < (m:Int)) (e:δ=KZ c mx n m ps r x)
theorem xP {ps:List Int} {m:Nat} (hm:0 < m) (hb:∀ x∈ps,0 <= x/\x < (m:Int)) (y:Int):∀ x∈ps++[y % m],0 <= x/\x < (m:Int):=λ x hx=>by
 have hm':(0:Int) < m:=Int.natCast_pos.mpr hm
 rcases List.mem_append.mp hx with hx | hx
 ·exact hb x hx
 ·rw [List.mem_singleton.mp hx]
  exact ⟨Int.emod_nonneg _ (Int.ne_of_gt hm'),Int.emod_lt_of_pos _ hm'⟩
theorem zO (ps:List Int) (y:Int):some (Sl.ow (ps.map D.int++[D.int y]))=some (Sl.ow ((ps++[y]).map D.int)):=by rw [List.map_append];rfl
theorem xQ {c:Int} {mx:Bool} {n m:Nat} (hm:0 < m) (hm2:m <= 1000) {ps:List Int} {r:Int} {k:Nat} (hl:ps.length < 1000):∃ y r':Int,gw (KZ c mx n m ps r (b4 (0 + k)))=.next (KZ c mx n m (ps++[y % (m:Int)]) r' (b4 (0 + k))):=by
 have hm':(0:Int) < m:=Int.natCast_pos.mpr hm
 have hlen:(ps.map D.int).length < 1000000:=by rw [List.length_map];exact Nat.lt_trans hl (by decide)
 cases mx with
 | true=>exact ⟨_,_,(aZ rfl).trans ((ac (ao (ak (ak (ak (ak rfl rfl (nU _ (by decide) (by decide))) (ak rfl rfl (qr _ (by decide) (by decide))) rfl) rfl rfl) rfl (ay _ (by decide))))).trans ((d5 (ak (ak (ak rfl rfl (nU _ (by decide) (by decide))) rfl (ay _ (by decide))) rfl (ay _ hm')) rfl hlen).trans (by rw [zO];rfl)))⟩
 | false=>exact ⟨r,r / m,(aK rfl).trans ((ac ((d5 (ak rfl rfl (ay _ hm')) rfl hlen).trans (by rw [zO]))).trans (ao (ak rfl rfl (bI _ hm' (Int.lt_of_le_of_lt (Int.ofNat_le.mpr hm2) (by decide))))))⟩
theorem v5 (c:Int) (mx:Bool) {n m:Nat} (hn:n <= 1000) (hm:0 < m) (hm2:m <= 1000):∃ ps:List Int,cm [.int c,.bl mx,.int n,.int m]=.ok (eM ps)/\ps.length=n/\∀ x∈ps,0 <= x/\x < m:=by
 obtain ⟨δ',e,I⟩:=ck (fit:=λ δ=>((ah (ae 2) (ar)) δ).bind uZ) (bd:=bN 6) (F:=gw) (δ:=KZ c mx n m [] c none) (ds:=iA 0 n)
  (DrI c mx n m) (BY rfl (Nat.le_trans hn (by decide))) ⟨[],c,none,rfl,(λ x z=>nomatch z),rfl⟩ (λ k d δ hd hI=>by
   obtain ⟨ps,r,x6,hl,hb,rfl⟩:=hI
   obtain ⟨rfl,hk⟩:=jQ hd
   obtain ⟨y,r',e⟩:=xQ (c:=c) (mx:=mx) (n:=n) hm hm2 (ps:=ps) (r:=r) (k:=k) (by rw [hl];lia)
   exact ⟨_,_,rfl,.inl e,⟨_,_,_,by rw [List.length_append,hl];rfl,xP hm hb y,rfl⟩⟩)
 rw [eD,Int.sub_zero,Int.toNat_natCast] at I
 obtain ⟨ps,r,x6,hl,hb,rfl⟩:=I
 exact ⟨ps,aP ((ac (gn rfl)).trans ((ac (ao rfl)).trans ((ac e).trans rfl))),hl,hb⟩
theorem wm (y:Int):c9 [.int y]=.ok (.bl (lI y)):=
 nz (mS (ak (ak rfl rfl (ay y (j:=4) (by decide))) rfl rfl) (uB (ak (ak rfl rfl (ay y (j:=100) (by decide))) rfl rfl) (ak (ak rfl rfl (ay y (j:=400) (by decide))) rfl rfl)))
theorem ij (y m:Int) (h1:1 <= m) (h2:m <= 12):bA [.int y,.int m]=.ok (.int (dj y m)):=by
 have e:gX (bC cz (ae 1) (mC (.int 2))) (mT (aH c9 (ah (ae 0) (ar)))) (aG 2 [.int y,.int m])=.ok (m == 2 && lI y):=nK rfl (bF (ax rfl (wm y)) rfl)
 cases c:(m == 2 && lI y) with
 | true=>exact (aP (b6 ((aZ (e.trans (congrArg R.ok c))).trans (bh (d:=.int 29) rfl)))).trans (by rw [wy c])
 | false=>exact aP ((ac (aK (e.trans (congrArg R.ok c)))).trans (bh (ak rfl rfl (c0 (BB h1 h2 (zD c))))))
noncomputable def Jg (y d:Int):Int:=365 * (y - 1) + (y - 1) / 4 - (y - 1) / 100 + (y - 1) / 400 + d - 1
noncomputable def nE (y m d v:Int) (u:Option Sl):Ev:=[b4 y,b4 m,b4 d,b4 (y - 1),b4 v,u]
inductive NuI (y m d:Int) (k:Nat) (δ:Ev):Prop
 | mk (u:Option Sl) (e:δ=nE y m d (Jg y d + jN y k) u)
theorem Ey {y m d:Int} (hm2:m <= 12) (k:Nat) (dd:D) (δ:Ev) (hd:(iA 1 m)[k]?=some dd) (h:NuI y m d k δ):∃ δ1 δ2,bN 5 dd δ=some δ1/\(dw δ1=.next δ2 \/ dw δ1=.cont δ2)/\NuI y m d (k + 1) δ2:=by
 obtain ⟨u,rfl⟩:=h
 obtain ⟨rfl,hk⟩:=jQ hd
 refine ⟨_,_,rfl,.inl (ao (ak rfl (ax rfl (ij y (1 + k) (Int.le_add_of_nonneg_right (Int.natCast_nonneg k)) (by lia))) rfl)),⟨b4 (1 + k),?_⟩⟩
 show nE y m d (Jg y d + jN y k + dj y (1 + k)) (b4 (1 + k))=nE y m d (Jg y d + (jN y k + dj y (k + 1))) (b4 (1 + k))
 rw [Int.add_assoc,Int.add_comm 1 (k:Int)]
theorem LW {a b c e d s:Int}:365 * a + b - c + e + d - 1 + s=a * 365 + b - c + e + s + d - 1:=by lia
theorem lx (y m d:Int) (hm:1 <= m) (hm2:m <= 12):cf [.int y,.int m,.int d]=.ok (.int (fg y m d)):=by
 obtain ⟨δ',e,⟨u,rfl⟩⟩:=ck (fit:=λ δ=>((ah (mC (.int 1)) (ah (ae 1) (ar))) δ).bind we) (bd:=bN 5) (F:=dw) (δ:=nE y m d (Jg y d) none) (ds:=iA 1 m) (NuI y m d)
  (GW (fs:=ah (mC (.int 1)) (ah (ae 1) ar)) rfl (by decide) (by decide) (Int.le_trans (by decide) hm) (Int.le_trans hm2 (by decide))) ⟨none,by show _=nE y m d (Jg y d + 0) none;rw [Int.add_zero]⟩ (Ey hm2)
 rw [eD] at e
 have v:Jg y d + jN y (m - 1).toNat=fg y m d:=LW
 rw [v] at e
 exact aP ((ac (ao rfl)).trans ((ac (ao (ak (ak (ak (ak (ak (ak rfl rfl (qr _ (by decide) (by decide))) (ak rfl rfl (bI _ (j:=4) (by decide) (by decide))) rfl) (ak rfl rfl (bI _ (j:=100) (by decide) (by decide))) rfl) (ak rfl rfl (bI _ (j:=400) (by decide) (by decide))) rfl) rfl rfl) rfl rfl))).trans ((ac e).trans rfl)))
noncomputable abbrev fE (x:Int) (b:Bool) (r:Int) (y m d:Option Sl):Ev:=[b4 x,some (.sh (.bl b)),b4 r,y,m,d]
theorem uy (r:Int) {k:Int} (h:0 < k):1 <= 1 + r % k/\1 + r % k <= k:=by
 rw [Int.add_comm]
 exact ⟨Int.le_add_of_nonneg_left (Int.emod_nonneg r (Int.ne_of_gt h)),Int.emod_lt_of_pos r h⟩
theorem B0 (y:Int):1 <= 4 * (1 + y % 2499)/\4 * (1 + y % 2499) <= 9996:=by lia
theorem Jy {d:Int} {y:Int}:1 <= 20 + d % 9/\20 + d % 9 <= dj y 2:=by
 have:=ir y (m:=2) (by decide) (by decide)
 lia
theorem ub (x:Int) (b:Bool):∃ y m d,ei [.int x,.bl b]=.ok (.tup [.int y,.int m,.int d])/\1 <= y/\y <= 9996/\1 <= m/\m <= 12/\1 <= d/\d <= dj y m:=by
 obtain ⟨r,e1⟩:∃ r,gx (fE x b x none none none)=.next (fE x b r none none none):=by
  cases b with
  | false=>exact ⟨x,aK rfl⟩
  | true=>exact ⟨_,(aZ rfl).trans (ao (ak (ak (ak (ak (ak rfl rfl (nU _ (by decide) (by decide))) rfl rfl) rfl (ay _ (by decide))) rfl (nU _ (by decide) (by decide))) rfl (ay _ (by decide))))⟩
 have hy:=uy r (k:=9996) (by decide)
 have hm:=uy (r / 9996) (k:=12) (by decide)
 have go:∀ {d:SR},gu (fE x b r (b4 (1 + r % 9996)) (b4 (1 + r / 9996 % 12)) none)=d->jk (aG 6 [.int x,.bl b])=d:=λ h=>(ac (ao rfl)).trans ((ac e1).trans ((ac (ao (ak rfl (ak rfl rfl (ay _ (by decide))) rfl))).trans ((ac (ao (ak rfl (ak (ak rfl rfl (bI _ (by decide) (by decide))) rfl (ay _ (by decide))) rfl))).trans h)))
 generalize 1 + r % 9996=y at hy go
 generalize 1 + r / 9996 % 12=m at hm go
 have hbd:0 < dj y m:=Int.lt_of_lt_of_le (by decide) (ir y hm.1 hm.2).1
 have hd:=uy (r / 119952) hbd
 have e4:=ao (i:=5) (δ:=fE x b r (b4 y) (b4 m) none) (ak (o:=aT) (fa:=mC (.int 1)) rfl (ak (o:=bp) (ak (o:=cY) (fa:=ae 2) (fb:=mC (.int 119952)) rfl rfl (bI _ (by decide) (by decide))) (ax (fs:=ah (ae 3) (ah (ae 4) ar)) rfl (ij y m hm.1 hm.2)) (ay _ hbd)) rfl)
 generalize 1 + r / 119952 % dj y m=d at hd e4
 have t:bC cz (m2 bp (m2 cY (ae 2) (mC (.int 3718512))) (mC (.int 3))) (mC (.int 1)) (fE x b r (b4 y) (b4 m) (b4 d))=.ok (r / 3718512 % 3 == 1):=aA (ak (ak rfl rfl (bI _ (by decide) (by decide))) rfl (ay _ (by decide))) rfl rfl
 cases c:(r / 3718512 % 3 == 1) with
 | true=>exact ⟨4 * (1 + y % 2499),2,20 + d % 9,aP (go ((ac e4).trans ((ac ((aZ (t.trans (congrArg R.ok c))).trans ((ac (ao (ak rfl (ak rfl (ak rfl rfl (ay _ (by decide))) rfl) (qr _ (by decide) (by decide))))).trans ((ac (ao rfl)).trans (ao (ak rfl (ak rfl rfl (ay _ (by decide))) rfl)))))).trans rfl))),(B0 y).1,(B0 y).2,by decide,by decide,(Jy (y:=4 * (1 + y % 2499))).1,Jy.2⟩
 | false=>exact ⟨y,m,d,aP (go ((ac e4).trans ((ac (aK (t.trans (congrArg R.ok c)))).trans rfl))),hy.1,hy.2,hm.1,hm.2,hd.1,hd.2⟩
theorem Hs {y m d:Int} (h:sC y m d):0 <= fg y m d/\fg y m d <= bR y + 365:=by
 have a:=qo h
 exact ⟨Int.le_trans (gR (y:=1) h.1) a.1,Int.le_of_lt_add_one (Int.lt_of_lt_of_le a.2 (zf y).2)⟩
theorem Ez {y m d:Int} (hy1:1 <= y) (hy2:y <= 9996) (hm1:1 <= m) (hm2:m <= 12) (hd1:1 <= d) (hd2:d <= dj y m):0 <= fg y m d/\fg y m d <= 3650963:=by
 have h:=Hs ⟨hy1,hm1,hm2,hd1,hd2⟩
 exact ⟨h.1,Int.le_trans h.2 (Int.add_le_add_right (gR hy2) 365)⟩
noncomputable abbrev Bs (y m d:Int):D:=.tup [.int y,.int m,.int d]
theorem JP {y m d:Int} (h:sC y m d) (c:d < dj y m):sC y m (d + 1)/\fg y m (d + 1)=fg y m d + 1:=by
 refine ⟨⟨h.1,h.2.1,h.2.2.1,Int.le_add_one h.2.2.2.1,c⟩,?_⟩
 rw [jO,jO];lia
theorem JQ {y m d:Int} (h:sC y m d) (c:¬ d < dj y m) (c2:m < 12):sC y (m + 1) 1/\fg y (m + 1) 1=fg y m d + 1:=by
 have h1:=Int.le_add_one h.2.1
 refine ⟨⟨h.1,h1,c2,by decide,Int.le_trans (by decide) (ir y h1 c2).1⟩,?_⟩
 have:=h.2.2.2.2
 rw [jO,jO,pd y h.2.1]
 lia
theorem JR {y m d:Int} (h:sC y m d) (c:¬ d < dj y m) (c2:¬ m < 12):sC (y + 1) 1 1/\fg (y + 1) 1 1=fg y m d + 1:=by
 refine ⟨⟨Int.le_add_one h.1,by decide,by decide,by decide,Int.le_trans (by decide) (ir (y + 1) (m:=1) (by decide) (by decide)).1⟩,?_⟩
 have h4:=h.2.2.2.2
 obtain rfl:m=12:=Int.le_antisymm h.2.2.1 (Int.not_lt.mp c2)
 have e5:jN y 12=ms y 12 + dj y 12:=rfl
 have e6:fg (y + 1) 1 1=bR (y + 1) + 0 + 1 - 1:=rfl
 rw [e6,jO,ic,e5]
 lia
noncomputable def Aj (n:Int) (L:List D):Prop:=∀ (i:Nat) (d:D),L[i]?=some d->∃ y m dd,d=.tup [.int y,.int m,.int dd,.int ((n + (i:Int)) % 7)]/\sC y m dd/\fg y m dd=n + (i:Int)
theorem Aj.snoc {n:Int} {L:List D} {y m d:Int} (h:Aj n L) (o:sC y m d) (q:fg y m d=n + (L.length:Int)):Aj n (L++[.tup [.int y,.int m,.int d,.int ((n + (L.length:Int)) % 7)]]):=λ i x hx=>by
 rcases Nat.lt_or_ge i L.length with c | c
 ·rw [List.getElem?_append_left c] at hx
  exact h i x hx
 ·rw [List.getElem?_append_right c] at hx
  have z:=List.getElem?_singleton ▸ hx
  by_cases c2:i - L.length=0
  ·rw [if_pos c2] at z
   obtain rfl:i=L.length:=Nat.le_antisymm (Nat.le_of_sub_eq_zero c2) c
   exact ⟨y,m,d,(Option.some.inj z).symm,o,q⟩
  ·rw [if_neg c2] at z;cases z
noncomputable def wE (dd:D) (k y m d w:Int) (L:List D) (u:Option Sl):Ev:=[some (.sh dd),b4 k,b4 y,b4 m,b4 d,b4 w,some (.ow L),u]
theorem yM (dd:D) (k:Int) (L:List D) (y m d w:Int) (u:Option Sl) (h:sC y m d) (hl:L.length < 1000000):∃ y' m' d',dW (wE dd k y m d w L u)=.next (wE dd k y' m' d' ((w + 1) % 7) (L++[.tup [.int y,.int m,.int d,.int w]]) u)/\sC y' m' d'/\fg y' m' d'=fg y m d + 1:=by
 have pre:∀ {r:SR},au (c7 (bC nF (ae 4) (aH bA (ah (ae 2) (ah (ae 3) (ar))))) (au (aJ 4 (mC (.int 1))) (aJ 3 (m2 aT (ae 3) (mC (.int 1))))) (SR.next)) (c7 (bC nF (ae 3) (mC (.int 12))) (au (aJ 3 (mC (.int 1))) (aJ 2 (m2 aT (ae 2) (mC (.int 1))))) (SR.next)) (wE dd k y m (d + 1) ((w + 1) % 7) (L++[.tup [.int y,.int m,.int d,.int w]]) u)=r->dW (wE dd k y m d w L u)=r:=λ h =>
  (ac (d5 rfl rfl hl)).trans ((ac (ao (ak rfl rfl (ay _ (by decide))))).trans ((ac (ao rfl)).trans h))
 have t:bC nF (ae 4) (aH bA (ah (ae 2) (ah (ae 3) (ar)))) (wE dd k y m (d + 1) ((w + 1) % 7) (L++[.tup [.int y,.int m,.int d,.int w]]) u)=.ok (decide (dj y m < d + 1)):=aA rfl (ax rfl (ij y m h.2.1 h.2.2.1)) rfl
 by_cases c:d < dj y m
 ·exact ⟨y,m,d + 1,pre ((ac (aK (t.trans (congrArg R.ok (decide_eq_false (Int.not_lt.mpr c)))))).trans (aK (congrArg R.ok (decide_eq_false (Int.not_lt.mpr h.2.2.1))))),JP h c⟩
 ·have t1:=t.trans (congrArg R.ok (decide_eq_true (Int.lt_add_one_of_le (Int.not_lt.mp c))))
  by_cases c2:m < 12
  ·exact ⟨y,m + 1,1,pre ((ac ((aZ t1).trans ((ac (ao rfl)).trans (ao rfl)))).trans (aK (congrArg R.ok (decide_eq_false (Int.not_lt.mpr c2))))),JQ h c c2⟩
  ·exact ⟨y + 1,1,1,pre ((ac ((aZ t1).trans ((ac (ao rfl)).trans (ao rfl)))).trans ((aZ (congrArg R.ok (decide_eq_true (Int.lt_add_one_of_le (Int.not_lt.mp c2))))).trans ((ac (ao rfl)).trans (ao rfl)))),JR h c c2⟩
inductive WhI (dd:D) (k n:Int) (j:Nat) (δ:Ev):Prop
 | mk (u:Option Sl) (y m d:Int) (L:List D) (e:δ=wE dd k y m d ((n + (j:Int)) % 7) L u) (l:L.length=j) (r:Aj n L) (o:sC y m d) (q:fg y m d=n + (j:Int))
theorem DF (y m d k:Int) (h:sC y m d) (hk0:0 <= k) (hk:k <= 2000):∃ L,eo [Bs y m d,.int k]=.ok (.lst L)/\L.length=k.toNat/\Aj (fg y m d) L:=by
 obtain ⟨n,rfl⟩:∃ n:Nat,k=(n:Int):=⟨k.toNat,(Int.toNat_of_nonneg hk0).symm⟩
 have hn:n <= 2000:=Int.ofNat_le.mp hk
 obtain ⟨δ',e,I⟩:=ck (fit:=λ δ=>((ah (ae 1) (ar)) δ).bind uZ) (bd:=bN 7) (F:=dW) (δ:=wE (Bs y m d) n y m d (fg y m d % 7) [] none) (ds:=iA 0 n)
  (WhI (Bs y m d) n (fg y m d)) (GV (fs:=ah (ae 1) (ar)) rfl (Nat.le_trans hn (by decide))) ⟨none,y,m,d,[],by rw [Int.natCast_zero,Int.add_zero],rfl,(λ i x z=>by cases z),h,(Int.add_zero _).symm⟩ (λ j dd δ hd hI=>by
   obtain ⟨u,y1,m1,d1,L,rfl,q1,q2,q3,q4⟩:=hI
   obtain ⟨rfl,hj⟩:=jQ hd
   obtain ⟨y2,m2,d2,e1,e2,e3⟩:=yM (Bs y m d) n L y1 m1 d1 ((fg y m d + j) % 7) (b4 (0 + j)) q3 (by lia)
   refine ⟨_,_,rfl,.inl e1,⟨b4 (0 + j),y2,m2,d2,L++[.tup [.int y1,.int m1,.int d1,.int ((fg y m d + j) % 7)]],?_,by rw [List.length_append,q1];rfl,by have:=q2.snoc q3 (by rw [q1];exact q4);rwa [q1] at this,e2,by rw [e3,q4];exact Int.add_assoc _ _ _⟩⟩
   rw [Int.emod_add_emod,Int.add_assoc];rfl)
 rw [eD,Int.sub_zero,Int.toNat_natCast] at I
 obtain ⟨u,y',m',d',L,rfl,q1,q2,q3,q4⟩:=I
 have e0:gy (aG 8 [Bs y m d,.int n])=.next [some (.sh (Bs y m d)),b4 n,b4 y,b4 m,b4 d,none,none,none]:=BA rfl rfl
 exact ⟨L,aP ((ac e0).trans ((ac (ao (ak (ax rfl (lx y m d h.2.1 h.2.2.1)) rfl (ay _ (by decide))))).trans ((ac (gn rfl)).trans ((ac e).trans rfl)))),q1,q2⟩
noncomputable def xi (c:Int) (mx:Bool) (pk:List Int) (parts:List bc) (used:List (List Nat)) (lk:Int) (x8 x9 x10 x11 x12 x13:Option Sl):Ev:=
 [some (.sh (.int c)),some (.sh (.bl mx)),some (.sh (.lst (bU.map D.str))),some (.sh (.str bJ)),some (.sh (eM pk)),some (.ow (parts.map oJ)),some (.ow (used.map D.str)),some (.sh (.int lk)),x8,x9,x10,x11,x12,x13]
theorem wQ {pk:List Int} (hl:pk.length=40) (hb:∀ x∈pk,0 <= x/\x < 41) {i:Nat} (hi:i < 40):∃ v:Nat,v < 41/\bO (eM pk) (.int (i:Int))=.ok (.int (v:Int)):=by
 have h:=hb pk[i] (List.getElem_mem (by lia))
 exact ⟨pk[i].toNat,by lia,by
  rw [zH (d:=pk[i]) (by simp [hl,hi]),Int.toNat_of_nonneg h.1]⟩
theorem FA:∀ c∈bJ,bZ [c]=false:=by decide
theorem Dz {v:Nat} (h:v < 41):∃ c,bJ[v]?=some c/\[c]∈bi/\bZ [c]=false:=
 have hl:v < bJ.length:=h
 ⟨bJ[v],List.getElem?_eq_getElem hl,List.mem_append_right _ (List.mem_map.mpr ⟨_,List.getElem_mem hl,rfl⟩),FA _ (List.getElem_mem hl)⟩
theorem Cv (t:List Nat) (u:List (List Nat)):iu (.str t) (.lst (u.map D.str))=.ok (!decide (t∈u)):=by
 unfold iu
 rw [wf]
 rfl
inductive BuS (c:Int) (mx:Bool) (pk:List Int) (parts:List bc) (used ts:List (List Nat)) (lk:Int) (k j z:Option Sl) (F:SR):Prop
 | mk (t:List Nat) (h:t∈bi) (n:bZ t=true->t ∉ used) (a b:Option Sl) (e:F=.next (xi c mx pk parts (used++if bZ t then [t] else []) lk k (some (.ow ((ts++[t]).map D.str))) j a b z))
theorem Cj {l:List (List Nat)} (h:l.length < 1000):(l.map D.str).length < 1000000:=by rw [List.length_map];exact Nat.lt_trans h (by decide)
theorem Am {c:Int} {mx:Bool} {pk:List Int} (hl:pk.length=40) (hb:∀ x∈pk,0 <= x/\x < 41) {parts:List bc} {used ts:List (List Nat)} {lk:Int} {k j:Nat} (hk:k < 4) (hj:j < 3) (x11 x12 x13:Option Sl) (hu:used.length < 1000) (hts:ts.length < 1000) :
  BuS c mx pk parts used ts lk (b4 k) (b4 j) x13 (dU (xi c mx pk parts used lk (b4 k) (some (.ow (ts.map D.str))) (b4 j) x11 x12 x13)):=by
 obtain ⟨v,hv,h1⟩:=wQ hl hb (i:=10 + 3 * k + j) (by lia)
 obtain ⟨w,hw,h2⟩:=wQ hl hb (i:=25 + 3 * k + j) (by lia)
 obtain ⟨s,hs,hsT,hsP⟩:=Dz hw
 have h1:bO (eM pk) (.int (10 + 3 * (k:Int) + (j:Int)))=.ok (.int (v:Int)):=h1
 have h2:bO (eM pk) (.int (25 + 3 * (k:Int) + (j:Int)))=.ok (.int (w:Int)):=h2
 have hq6:v / 4 % 6 < bU.length:=Nat.mod_lt _ (by decide)
 have hq:bO (.lst (bU.map D.str)) (.int ((v / 4 % 6:Nat):Int))=.ok (.str bU[v / 4 % 6]):=c0 (cb (by rw [List.getElem?_map,List.getElem?_eq_getElem hq6];rfl))
 have hpl:bO (.lst (bU.map D.str)) (.int ((v:Int) / 4 % 6))=.ok (.str bU[v / 4 % 6]):=hq
 have hpT:bU[v / 4 % 6]∈bi:=List.mem_append_left _ (List.getElem_mem hq6)
 have hpP:bZ bU[v / 4 % 6]=true:=List.any_eq_true.mpr ⟨_,List.getElem_mem hq6,beq_self_eq_true _⟩
 generalize bU[v / 4 % 6]=pl at hpl hpT hpP
 have sel {δ:Ev} (a:ae 2 δ=.ok (.lst (bU.map D.str))) (b:ae 11 δ=.ok (.int (v:Int))):m2 bO (ae 2) (m2 bp (m2 cY (ae 11) (mC (.int 4))) (mC (.int 6))) δ=.ok (.str pl):=ak a (ak (ak b rfl (bI _ (by decide) (by decide))) rfl (ay _ (by decide))) hpl
 have st:∀ {r:SR},au (c7 (gX (bC nF (m2 bp (ae 11) (mC (.int 4))) (mC (.int 0))) (bC iu (m2 bO (ae 2) (m2 bp (m2 cY (ae 11) (mC (.int 4))) (mC (.int 6)))) (lA 6))) (au (aJ 12 (m2 bO (ae 2) (m2 bp (m2 cY (ae 11) (mC (.int 4))) (mC (.int 6))))) (iC 6 (ae 12))) (SR.next)) (iC 9 (ae 12)) (xi c mx pk parts used lk (b4 k) (some (.ow (ts.map D.str))) (b4 j) (b4 v) (eY [s]) x13)=r->dU (xi c mx pk parts used lk (b4 k) (some (.ow (ts.map D.str))) (b4 j) x11 x12 x13)=r:=λ h =>
  (ac (ao (ak rfl (ak (ak rfl (ak rfl rfl (qr _ (by decide) (by decide))) rfl) rfl rfl) h1))).trans ((ac (ao (ak rfl (ak rfl (ak (ak rfl (ak rfl rfl (qr _ (by decide) (by decide))) rfl) rfl rfl) h2) (uk (by decide) hs)))).trans h)
 have tst:gX (bC nF (m2 bp (ae 11) (mC (.int 4))) (mC (.int 0))) (bC iu (m2 bO (ae 2) (m2 bp (m2 cY (ae 11) (mC (.int 4))) (mC (.int 6)))) (lA 6)) (xi c mx pk parts used lk (b4 k) (some (.ow (ts.map D.str))) (b4 j) (b4 v) (eY [s]) x13)=.ok (decide (0 < (v:Int) % 4) && !decide (pl∈used)):=nK (aA (ak rfl rfl (ay _ (by decide))) rfl rfl) (aA (sel rfl rfl) rfl (Cv pl used))
 cases q:(decide (0 < (v:Int) % 4) && !decide (pl∈used)) with
 | true =>
  refine ⟨pl,hpT,λ _ z=>?_,b4 v,eY pl,st ((ac ((aZ (tst.trans (congrArg R.ok q))).trans ((ac (ao (sel rfl rfl))).trans (d5 rfl rfl (Cj hu))))).trans ((d5 rfl rfl (Cj hts)).trans ?_))⟩
  ·rw [decide_eq_true z] at q
   exact Bool.noConfusion (q.symm.trans (Bool.and_false _))
  ·unfold xi
   rw [hpP,if_pos rfl,List.map_append,List.map_append];rfl
 | false =>
  refine ⟨[s],hsT,λ z=>Bool.noConfusion (hsP.symm.trans z),b4 v,eY [s],st ((ac (aK (tst.trans (congrArg R.ok q)))).trans ((d5 rfl rfl (Cj hts)).trans ?_))⟩
  unfold xi
  rw [hsP,if_neg Bool.false_ne_true,List.append_nil,List.map_append];rfl
theorem xD (ps:List bc) (p:bc):aN (ps++[p])=aN ps++p.2:=by unfold aN;simp
structure BI (k:Nat) (parts:List bc):Prop where
 n:parts.length=k
 v:∀ p∈parts,∀ t∈p.2,t∈bi
 ne:∀ p∈parts,p.2 ≠ []
 l3:∀ p∈parts,p.2.length <= 3
 c:jb parts <= 3
 nd:((aN parts).filter bZ).Nodup
theorem sw {α:Type} [DecidableEq α]:∀ (l s:List α),l.Nodup->(∀ x∈l,x∈s)->l.length <= s.length
 | [],s,_,_=>Nat.zero_le _
 | a :: l,s,hn,hs=>by
  have hh:=List.nodup_cons.mp hn
  have ha:=hs a List.mem_cons_self
  have ih:=sw l (s.erase a) hh.2 (λ x hx=>(List.mem_erase_of_ne (λ (e:x=a)=>hh.1 (e ▸ hx))).mpr (hs x (List.mem_cons_of_mem _ hx)))
  rw [List.length_erase_of_mem ha] at ih
  have:0 < s.length:=List.length_pos_of_mem ha
  rw [List.length_cons]
  lia
theorem Gr {l:List (List Nat)} (h:(l.filter bZ).Nodup):(l.filter bZ).length <= 6:=by
 refine sw (l.filter bZ) bU h (λ x hx=>?_)
 have:=(List.mem_filter.mp hx).2
 simpa [bZ] using this
theorem Ak {ps:List bc} (h:∀ p∈ps,p.2.length <= 3):(aN ps).length <= 3 * ps.length:=by
 induction ps with
 | nil=>simp [aN]
 | cons p ps ih =>
  have h1:=ih λ q hq=>h q (List.mem_cons_of_mem _ hq)
  have h2:=h p List.mem_cons_self
  unfold aN at *
  rw [List.flatMap_cons,List.length_append,List.length_cons]
  lia
theorem v8:∀ (l:List (List Nat)),(∀ t∈l,t∈bi)->l.flatten.length=l.length + 2 * (l.filter bZ).length
 | [],_=>rfl
 | t :: l,h=>by
  have ih:=v8 l λ z hz=>h z (List.mem_cons_of_mem _ hz)
  have ht:=h t List.mem_cons_self
  have hp:=zh t ht
  rw [List.flatten_cons,List.length_append,ih,List.filter_cons,hp,List.length_cons]
  rcases Eo ht with e | e
  ·rw [decide_eq_true e,if_pos rfl,List.length_cons];lia
  ·rw [decide_eq_false (by lia),if_neg (by decide)];lia
theorem wa:∀ (ps:List bc),(cn ps).length=(aN ps).flatten.length + 2 * jb ps
 | []=>rfl
 | p :: ps=>by
  have ih:=wa ps
  have e:(gW p).length=p.2.flatten.length + 2 * (if p.1 then 1 else 0):=by
   unfold gW
   cases p.1 with
   | true=>rw [if_pos rfl,if_pos rfl,List.length_append,List.length_append];simp only [List.length_cons,List.length_nil];lia
   | false=>rw [if_neg (by decide),if_neg (by decide)];rfl
  unfold cn aN jb at *
  rw [List.flatMap_cons,List.flatMap_cons,List.length_append,List.flatten_append,List.length_append,List.countP_cons,ih,e]
  lia
theorem BI.ok {k:Nat} {ps:List bc} (h:BI k ps) (h1:1 <= k) (h4:k <= 4):OkP ps:=by
 have hf:=wa ps
 have ha:∀ t∈aN ps,t∈bi:=λ t ht=>by
  unfold aN at ht
  obtain ⟨p,hp,ht⟩:=List.mem_flatMap.mp ht
  exact h.v p hp t ht
 have hfl:=v8 (aN ps) ha
 have h6:=Gr h.nd
 have h12:=Ak h.l3
 rw [h.n] at h12
 have hc:=h.c
 refine ⟨h.v,λ p hp _=>h.ne p hp,hc,h.nd,?_,by lia⟩
 have:1 <= (aN ps).length:=by
  match ps,h with
  | [],h=>have:=h.n;simp at this;lia
  | p :: ps,h =>
   have:=h.ne p List.mem_cons_self
   have:0 < p.2.length:=List.length_pos_iff.mpr this
   unfold aN
   rw [List.flatMap_cons,List.length_append]
   lia
 lia
noncomputable abbrev va (ps:List bc):List (List Nat):=(aN ps).filter bZ
inductive BuJ (c:Int) (mx:Bool) (pk:List Int) (parts:List bc) (k z:Option Sl) (j:Nat) (δ:Ev):Prop
 | mk (ts:List (List Nat)) (l:ts.length=j) (h:∀ t∈ts,t∈bi) (n:(va parts++ts.filter bZ).Nodup) (a b d:Option Sl) (e:δ=xi c mx pk parts (va parts++ts.filter bZ) (jb parts) k (some (.ow (ts.map D.str))) a b d z)
theorem AO {u ts:List (List Nat)} {t:List Nat} (g:(u++ts.filter bZ).Nodup) (h:bZ t=true->t ∉ u++ts.filter bZ):(u++(ts++[t]).filter bZ).Nodup:=by
 rw [List.filter_append,<- List.append_assoc]
 cases ip:bZ t with
 | false=>rw [List.filter_cons_of_neg (by rw [ip];decide)];rw [List.filter_nil,List.append_nil];exact g
 | true =>
  rw [List.filter_cons_of_pos ip,List.nodup_append]
  exact ⟨g,List.nodup_cons.mpr ⟨List.not_mem_nil,List.nodup_nil⟩,λ a ha b hb e=>h ip (by rw [List.mem_singleton.mp hb] at e;exact e ▸ ha)⟩
theorem BX (ts:List (List Nat)) (t:List Nat):(ts++[t]).filter bZ=ts.filter bZ++if bZ t then [t] else []:=by
 rw [List.filter_append]
 cases ip:bZ t with
 | false=>rw [List.filter_cons_of_neg (by rw [ip];decide)];rfl
 | true=>rw [List.filter_cons_of_pos ip];rfl
theorem xo (ps:List bc) (b:Bool) (ts:List (List Nat)):va (ps++[(b,ts)])=va ps++ts.filter bZ:=by unfold va;rw [xD,List.filter_append]
theorem zl (ps:List bc) (b:Bool) (ts:List (List Nat)):jb (ps++[(b,ts)])=jb ps + (if b then 1 else 0):=by
 unfold jb
 rw [List.countP_append,List.countP_singleton]
theorem BI.snoc {k:Nat} {ps:List bc} (h:BI k ps) {b:Bool} {ts:List (List Nat)} (l1:1 <= ts.length) (l3:ts.length <= 3) (ha:∀ t∈ts,t∈bi) (hn:(va ps++ts.filter bZ).Nodup) (hb:b=true->jb ps < 3):BI (k + 1) (ps++[(b,ts)]):=by
 have al {P:bc->Prop} (h1:∀ p∈ps,P p) (h2:P (b,ts)):∀ p∈ps++[(b,ts)],P p:=λ p hp=>by
  rcases List.mem_append.mp hp with hp | hp
  ·exact h1 p hp
  ·rw [List.mem_singleton.mp hp];exact h2
 refine ⟨by rw [List.length_append,h.n];rfl,al h.v ha,al h.ne (List.ne_nil_of_length_pos l1),al h.l3 l3,?_,?_⟩
 ·rw [zl]
  cases b with
  | false=>exact h.c
  | true=>exact hb rfl
 ·show (va _).Nodup
  rw [xo];exact hn
inductive BuT (c:Int) (mx:Bool) (pk:List Int) (parts:List bc) (k:Nat) (F:SR):Prop
 | mk (p:bc) (h:BI (k + 1) (parts++[p])) (a b d e f:Option Sl) (q:F=.next (xi c mx pk (parts++[p]) (va (parts++[p])) (jb (parts++[p])) (b4 k) a b d e f))
theorem An {c:Int} {mx:Bool} {pk:List Int} (hl:pk.length=40) (hb:∀ x∈pk,0 <= x/\x < 41) {parts:List bc} {k:Nat} (hk:k < 4) (h:BI k parts) (x9 x10 x11 x12 x13:Option Sl) :
  BuT c mx pk parts k (gv (xi c mx pk parts (va parts) (jb parts) (b4 k) x9 x10 x11 x12 x13)):=by
 obtain ⟨v,hv,h1⟩:=wQ hl hb (i:=1 + k) (by lia)
 obtain ⟨w,hw,h2⟩:=wQ hl hb (i:=5 + k) (by lia)
 have h1:bO (eM pk) (.int (1 + (k:Int)))=.ok (.int (v:Int)):=h1
 have h2:bO (eM pk) (.int (5 + (k:Int)))=.ok (.int (w:Int)):=h2
 have hul:(va parts).length <= 6:=Gr h.nd
 have hv3:v % 3 < 3:=Nat.mod_lt _ (by decide)
 obtain ⟨δ',e,I⟩:=ck (fit:=λ δ=>((ah (m2 aT (mC (.int 1)) (m2 bp (m2 bO (ae 4) (m2 aT (mC (.int 1)) (ae 8))) (mC (.int 3)))) (ar)) δ).bind uZ) (bd:=bN 10) (F:=dU) (δ:=xi c mx pk parts (va parts) (jb parts) (b4 k) (some (.ow [])) x10 x11 x12 x13) (ds:=iA 0 ((1 + v % 3:Nat):Int))
  (BuJ c mx pk parts (b4 k) x13) (GV (av (ak rfl (ak (ak rfl (ak rfl rfl rfl) h1) rfl (ay _ (by decide))) rfl) rfl) (by lia)) ⟨[],rfl,(λ t z=>nomatch z),by rw [List.filter_nil,List.append_nil];exact h.nd,x10,x11,x12,by rw [List.filter_nil,List.append_nil];rfl⟩ (λ j d δ hd hI=>by
   obtain ⟨ts,g1,g2,g3,y10,y11,y12,rfl⟩:=hI
   obtain ⟨rfl,hj⟩:=jQ hd
   have hj3:j < 3:=by lia
   have hu2:(va parts++ts.filter bZ).length < 1000:=by
    rw [List.length_append]
    exact Nat.lt_of_le_of_lt (Nat.add_le_add hul (Nat.le_trans (List.length_filter_le bZ ts) (Nat.le_of_eq g1))) (Nat.lt_of_lt_of_le (Nat.add_lt_add_left hj3 6) (by decide))
   obtain ⟨t,t1,t2,z11,z12,t3⟩:=Am (c:=c) (mx:=mx) hl hb (parts:=parts) (used:=va parts++ts.filter bZ) (ts:=ts) (lk:=jb parts) (k:=k) (j:=j) hk hj3 y11 y12 x13 hu2 (by rw [g1];exact Nat.lt_trans hj3 (by decide))
   refine ⟨xi c mx pk parts (va parts++ts.filter bZ) (jb parts) (b4 k) (some (.ow (ts.map D.str))) (b4 j) y11 y12 x13,_,?_,.inl t3,⟨ts++[t],by rw [List.length_append,g1];rfl,λ x hx=>?_,AO g3 t2,b4 j,z11,z12,?_⟩⟩
   ·rw [Int.zero_add];rfl
   ·rcases List.mem_append.mp hx with hx | hx
    ·exact g2 x hx
    ·rw [List.mem_singleton.mp hx];exact t1
   ·rw [BX,List.append_assoc])
 rw [eD,Int.sub_zero,Int.toNat_natCast] at I
 obtain ⟨ts,g1,g2,g3,y10,y11,y12,rfl⟩:=I
 have hb2:(decide ((w:Int) % 5 < 2) && decide ((jb parts:Int) < 3))=true->jb parts < 3:=λ z=>Int.ofNat_lt.mp (of_decide_eq_true (Bool.and_eq_true_iff.mp z).2)
 have hval:Ge uj (ah (jL (m2 (dL oW) (m2 bp (m2 bO (ae 4) (m2 aT (mC (.int 5)) (ae 8))) (mC (.int 5))) (mC (.int 2))) (m2 (dL oW) (ae 7) (mC (.int 3)))) (ar)) (xi c mx pk parts (va parts++ts.filter bZ) (jb parts) (b4 k) (some (.ow (ts.map D.str))) y10 y11 y12 x13)=.ok (.int (if (decide ((w:Int) % 5 < 2) && decide ((jb parts:Int) < 3))=true then 1 else 0)):=bF (av (mS (ak (ak (ak rfl (ak rfl rfl rfl) h2) rfl (ay _ (by decide))) rfl rfl) (ak rfl rfl rfl)) rfl) (pf _)
 generalize (decide ((w:Int) % 5 < 2) && decide ((jb parts:Int) < 3))=b at hb2 hval
 refine ⟨(b,ts),h.snoc (by rw [g1];exact Nat.le_add_right 1 _) (by rw [g1];lia) g2 g3 hb2,some (.sh (.lst (ts.map D.str))),y10,y11,y12,b4 (if b then 1 else 0),(ac (gn rfl)).trans ((ac e).trans ((ac (ao hval)).trans ((ac (ao rfl)).trans ((d5 (d:=oJ (b,ts)) rfl rfl ?_).trans ?_))))⟩
 ·rw [List.length_map,h.n];exact Nat.lt_trans hk (by decide)
 ·have e2:((jb (parts++[(b,ts)]):Nat):Int)=(jb parts:Int) + (if b then 1 else 0):=by rw [zl];cases b <;> rfl
  rw [xo,e2]
  unfold xi
  rw [List.map_append (f:=oJ)];rfl
inductive BuI (c:Int) (mx:Bool) (pk:List Int) (k:Nat) (δ:Ev):Prop
 | mk (ps:List bc) (h:BI k ps) (x a b d e f:Option Sl) (q:δ=xi c mx pk ps (va ps) (jb ps) x a b d e f)
theorem BF (c:Int) (mx:Bool):∃ ps,eh [.int c,.bl mx]=.ok (bj ps)/\∃ k,BI k ps/\1 <= k/\k <= 4:=by
 obtain ⟨pk,hd,hl,hb⟩:=v5 c mx (n:=40) (m:=41) (by decide) (by decide) (by decide)
 have hb':∀ x∈pk,0 <= x/\x < 41:=hb
 obtain ⟨v,hv,h1⟩:=wQ hl hb' (i:=0) (by decide)
 have hv4:v % 4 < 4:=Nat.mod_lt _ (by decide)
 obtain ⟨δ',e,I⟩:=ck (fit:=λ δ=>((ah (m2 aT (mC (.int 1)) (m2 bp (m2 bO (ae 4) (mC (.int 0))) (mC (.int 4)))) (ar)) δ).bind uZ) (bd:=bN 8) (F:=gv) (δ:=xi c mx pk [] (va []) (jb []:Int) none none none none none none) (ds:=iA 0 ((1 + v % 4:Nat):Int))
  (BuI c mx pk) (GV (av (ak rfl (ak (ak rfl rfl h1) rfl (ay _ (by decide))) rfl) rfl) (by lia)) ⟨[],⟨rfl,(λ p z=>nomatch z),(λ p z=>nomatch z),(λ p z=>nomatch z),by decide,List.nodup_nil⟩,none,none,none,none,none,none,rfl⟩ (λ k d δ hd2 hI=>by
   obtain ⟨ps,g1,x8,x9,x10,x11,x12,x13,rfl⟩:=hI
   obtain ⟨rfl,hk⟩:=jQ hd2
   obtain ⟨p,b1,y9,y10,y11,y12,y13,b2⟩:=An (c:=c) (mx:=mx) hl hb' (by lia) g1 x9 x10 x11 x12 x13
   exact ⟨xi c mx pk ps (va ps) (jb ps:Int) (b4 k) x9 x10 x11 x12 x13,_,(by rw [Int.zero_add];rfl),.inl b2,⟨ps++[p],b1,_,_,_,_,_,_,rfl⟩⟩)
 rw [eD,Int.sub_zero,Int.toNat_natCast] at I
 obtain ⟨ps,g1,x8,x9,x10,x11,x12,x13,rfl⟩:=I
 exact ⟨ps,aP ((ac (ao rfl)).trans ((ac (ao rfl)).trans ((ac (ao (ax rfl hd))).trans ((ac (gn rfl)).trans ((ac (gn rfl)).trans ((ac (ao rfl)).trans ((ac e).trans rfl))))))),_,g1,Nat.le_add_right 1 _,Nat.add_le_add_left (Nat.le_of_lt_succ hv4) 1⟩
theorem DK {y:Nat} (h:y < 10000):([48,48,48]++dg y).drop ((dg y).length - 1)=DJ y:=by
 unfold dg DJ
 split
 ·rename_i h1
  rw [dz (k:=1000) (Nat.lt_of_lt_of_le h1 (by decide)),dz (k:=100) (Nat.lt_of_lt_of_le h1 (by decide)),dz (k:=10) h1,Nat.mod_eq_of_lt h1]
  rfl
 ·split
  ·rename_i h1
   rw [dz (k:=1000) (Nat.lt_of_lt_of_le h1 (by decide)),dz (k:=100) h1,dm (k:=10) h1]
   rfl
  ·split
   ·rename_i h1
    rw [dz (k:=1000) h1,dm (k:=100) h1]
    rfl
   ·rw [dm (k:=1000) h]
    rfl
theorem BW {n:Nat} (k:Int) (h:k=if n < 10 then 2 else 1):gz ([dg n,[48]++dg n].map D.str) none (some k)=(lF n).map D.str:=by
 unfold lF
 by_cases c:n < 10
 ·rw [if_pos c] at h ⊢
  subst h
  exact mW (b:=2) _ (by simp)
 ·rw [if_neg c] at h ⊢
  subst h
  exact mW (b:=1) _ (by simp)
noncomputable def vE (t:List Nat) (y m d w:Int) (a b:Option Sl):Ev:=[some (.sh (.str t)),some (.sh (.tup [.int y,.int m,.int d,.int w])),some (.sh (.int y)),some (.sh (.int m)),some (.sh (.int d)),some (.sh (.int w)),a,b]
theorem xt {n:Nat} (hn:n < 10000) {δ:Ev} (h:ae 6 δ=.ok (.int (n:Int))):jW (b8 (ah (m1 fD (ae 6)) (ah (m2 aT (mC (.str [48])) (m1 fD (ae 6))) (ar)))) (dD) (mP (m2 aT (mC (.int 1)) (Ge uj (ah (m2 (dL oW) (ae 6) (mC (.int 10))) (ar))))) δ=.ok (aX (lF n)):=by
 refine gh (bF (av (ce h (dX hn)) (av (ak rfl (ce h (dX hn)) (fB (by have:=(@pX n).2;show 1 + _ <= _;lia))) rfl)) rfl) rfl (J2 (ak rfl (bF (av (ak h rfl rfl) rfl) (pf _)) rfl)) ?_
 refine congrArg (λ l=>R.ok (D.lst l)) (BW _ ?_)
 show (1 + if decide ((n:Int) < 10)=true then 1 else 0)=if n < 10 then 2 else 1
 by_cases c:n < 10
 ·rw [if_pos c,if_pos (decide_eq_true (show (n:Int) < 10 from Int.ofNat_lt.mpr c))];rfl
 ·rw [if_neg c,if_neg (show ¬ decide ((n:Int) < 10)=true from λ z=>c (Int.ofNat_lt.mp (of_decide_eq_true z)))];rfl
theorem yK {t:List Nat} {y m d w:Int} {a:Option Sl} {s:List Nat} (hs:s.length <= 9):hZ (vE t y m d w a (eY s))=.ret (aX (jG s)):=by
 have e1:(ah (mC (.int 1)) (ah (m2 aT (m1 b3 (ae 7)) (mC (.int 1))) (ar))) (vE t y m d w a (eY s))=.ok [.int 1,.int ((s.length:Int) + 1)]:=av rfl (av (ak (ce rfl (fC (Nat.le_trans hs (by decide)))) rfl rfl) rfl)
 have hc:=pQ (l:=qF 1 (s.length + 1)) (h:=D.int) (g:=λ k=>D.str (s.take k.toNat)) (f:=jW (ae 7) (dD) (mP (ae 8))) (fit:=λ δ=>((ah (mC (.int 1)) (ah (m2 aT (m1 b3 (ae 7)) (mC (.int 1))) (ar))) δ).bind we) (δ:=vE t y m d w a (eY s)) (by
   rw [<- wY]
   exact GW e1 (by decide) (by decide) (by lia) (by lia)) (by rw [qG];lia) (λ k hk=>by
   have hb:=qm.mp hk
   obtain ⟨k,rfl⟩:∃ j:Nat,k=(j:Int):=⟨k.toNat,by lia⟩
   show um (.str s) none (some (k:Int))=_
   rw [nb (Nat.le_trans hs (by decide)),mW _ (by lia)]
   rfl)
 refine (bh (bF hc rfl)).trans ?_
 rw [vF,aX,List.map_map]
 rfl
theorem nT {c a b d:Nat} (h:c < 1114112) (hl:∀ x∈[a,b,d],x < 1114112):cz (.str [c]) (.str [a,b,d])=.ok false:=by
 rw [na (λ x hx=>by rw [List.mem_singleton.mp hx];exact h) hl]
 exact congrArg R.ok (Bool.and_false _)
theorem wj {l:List (List Nat)} {k:Nat} (h:k < l.length):bO (.lst (l.map D.str)) (.int (k:Int))=.ok (.str (l.getD k [])):=c0 (cb (by rw [List.getElem?_map,List.getD_eq_getElem?_getD,List.getElem?_eq_getElem h];rfl))
theorem Gf (y:Nat):bp (.int (y:Int)) (.int 10)=.ok (.int ((y % 10:Nat):Int)):=ay _ (by decide)
theorem Mq {n:Nat} (h:n < 10):fD (.int (n:Int))=.ok (.str [48 + n]):=by rw [dX (Nat.lt_trans h (by decide)),dg,if_pos h]
theorem IT {y:Nat} (hy:y < 10000) {δ:Ev} (h:ae 2 δ=.ok (.int (y:Int))):jW (m2 aT (mC (.str [48,48,48])) (m1 fD (ae 2))) (mP (m2 gA (m1 b3 (m1 fD (ae 2))) (mC (.int 1)))) (dD) δ=.ok (.str (DJ y)):=by
 have l:=@pX y
 refine gh (ak rfl (ce h (dX hy)) (fB (by show 3 + _ <= _;lia))) (J2 (ak (ce (ce h (dX hy)) (fC (Nat.le_trans l.2 (by decide)))) rfl rfl)) rfl ?_
 have hs:((dg y).length:Int) - 1=(((dg y).length - 1:Nat):Int):=by lia
 have hl:([48,48,48]++dg y).length=3 + (dg y).length:=List.length_append
 show um _ (some (((dg y).length:Int) - 1)) none=_
 rw [hs,nb (by rw [hl];lia),rR _ (by rw [hl];lia),DK hy]
theorem cA {a b:List Nat} {k:Bool} (h:(a++b).all (λ c=>decide (c < 1114112))=true) (e:(a == b)=k):cz (.str a) (.str b)=.ok k:=by
 have h:=List.all_eq_true.mp h
 rw [na (λ c hc=>of_decide_eq_true (h c (List.mem_append_left _ hc))) (λ c hc=>of_decide_eq_true (h c (List.mem_append_right _ hc))),e]
theorem wn {y m d w:Nat} (hy:y < 10000) (hm1:1 <= m) (hm:m <= 12) (hd:d < 10000) (hw:w < 7) {t:List Nat} (ht:t∈bi) :
  aS [.str t,.tup [.int y,.int m,.int d,.int w]]=.ok (aX (WY y m d w t)):=by
 have go:∀ {t:List Nat} {r:SR},hU (vE t y m d w none none)=r->lB (aG 8 [.str t,.tup [.int y,.int m,.int d,.int w]])=r:=λ h=>(ac (BA rfl rfl)).trans h
 rcases ie ht with ⟨hp,_⟩ | ⟨c,hc,rfl⟩
 ·simp only [bU,List.mem_cons,List.not_mem_nil,or_false] at hp
  rcases hp with rfl | rfl | rfl | rfl | rfl | rfl
  ·exact aP (go (b6 ((aZ (i6 (a:=true) (b:=false) (aA rfl rfl (cA (k:=true) rfl rfl)) (aA rfl rfl (cA (k:=false) rfl rfl)))).trans ((ac (ao (ak rfl (bF (av (ak rfl rfl (congrArg BC (cA (k:=false) rfl rfl))) rfl) (pf false)) rfl))).trans (bh (xt hd rfl))))))
  ·exact aP (go (b6 ((aZ (i6 (a:=false) (b:=true) (aA rfl rfl (cA (k:=false) rfl rfl)) (aA rfl rfl (cA (k:=true) rfl rfl)))).trans ((ac (ao (ak rfl (bF (av (ak rfl rfl (congrArg BC (cA (k:=true) rfl rfl))) rfl) (pf true)) rfl))).trans (bh (xt (Nat.lt_of_le_of_lt hm (by decide)) rfl))))))
  ·exact aP (go ((ac (aK (i6 (a:=false) (b:=false) (aA rfl rfl (cA (k:=false) rfl rfl)) (aA rfl rfl (cA (k:=false) rfl rfl))))).trans (b6 ((aZ (aA rfl rfl (cA (k:=true) rfl rfl))).trans (bh (bF (av (ak (ce (ak (ak rfl rfl (bI _ (by decide) (by decide))) rfl (Gf (y / 10))) (Mq (Nat.mod_lt _ (by decide)))) (ce (ak rfl rfl (Gf y)) (Mq (Nat.mod_lt _ (by decide)))) (fB (show 2 <= 1000 by decide))) rfl) rfl))))))
  ·exact aP (go ((ac (aK (i6 (a:=false) (b:=false) (aA rfl rfl (cA (k:=false) rfl rfl)) (aA rfl rfl (cA (k:=false) rfl rfl))))).trans ((ac (aK (aA rfl rfl (cA (k:=false) rfl rfl)))).trans (b6 ((aZ (aA rfl rfl (cA (k:=true) rfl rfl))).trans (bh (bF (av (IT hy rfl) rfl) rfl)))))))
  ·have hix:bO (.lst (cJ.map D.str)) (.int ((m:Int) - 1))=.ok (.str (cJ.getD (m - 1) [])):=by
    rw [show ((m:Int) - 1)=((m - 1:Nat):Int) by lia]
    exact wj (show m - 1 < 12 by lia)
   exact aP (go ((ac (aK (i6 (a:=false) (b:=false) (aA rfl rfl (cA (k:=false) rfl rfl)) (aA rfl rfl (cA (k:=false) rfl rfl))))).trans ((ac (aK (aA rfl rfl (cA (k:=false) rfl rfl)))).trans ((ac (aK (aA rfl rfl (cA (k:=false) rfl rfl)))).trans ((ac (ao rfl)).trans ((ac ((aZ (aA rfl rfl (cA (k:=true) rfl rfl))).trans (ao (ak rfl rfl hix)))).trans ((ac (aK (aA rfl rfl (cA (k:=false) rfl rfl)))).trans (yK (jY (lJ m)).1))))))))
  ·exact aP (go ((ac (aK (i6 (a:=false) (b:=false) (aA rfl rfl (cA (k:=false) rfl rfl)) (aA rfl rfl (cA (k:=false) rfl rfl))))).trans ((ac (aK (aA rfl rfl (cA (k:=false) rfl rfl)))).trans ((ac (aK (aA rfl rfl (cA (k:=false) rfl rfl)))).trans ((ac (ao rfl)).trans ((ac (aK (aA rfl rfl (cA (k:=false) rfl rfl)))).trans ((ac ((aZ (aA rfl rfl (cA (k:=true) rfl rfl))).trans (ao (ak rfl rfl (wj (l:=b5) hw))))).trans (yK (jY (il w)).1))))))))
 ·have hc2:c < 1114112:=Nat.lt_trans (qK c hc) (by decide)
  rw [tt y m d w c hc]
  exact aP (go ((ac (aK (i6 (aA rfl rfl (nT hc2 (by decide))) (aA rfl rfl (nT hc2 (by decide)))))).trans ((ac (aK (aA rfl rfl (nT hc2 (by decide))))).trans ((ac (aK (aA rfl rfl (nT hc2 (by decide))))).trans ((ac (ao rfl)).trans
   ((ac (aK (aA rfl rfl (nT hc2 (by decide))))).trans ((ac (aK (aA rfl rfl (nT hc2 (by decide))))).trans (yK (s:=[c]) (show 1 <= 9 by decide)))))))))
noncomputable def Wd (W:List Nat->List (List Nat)):List (List Nat)->List Nat->Prop
 | [],b=>b=[]
 | t :: ts,b=>∃ u v,b=u++v/\u∈W t/\Wd W ts v
noncomputable def Wg (W:List Nat->List (List Nat)):List i7->List Nat->Prop
 | [],b=>b=[]
 | g :: gs,b=>∃ u v,b=u++v/\(Wd W g.2 u \/ (0 < g.1/\u=[]))/\Wg W gs v
noncomputable def Wp (W:List Nat->List (List Nat)):List bc->List Nat->Prop
 | [],b=>b=[]
 | p :: ps,b=>∃ u v,b=u++v/\(Wd W p.2 u \/ (p.1=true/\u=[]))/\Wp W ps v
noncomputable def Sub (tx:List Nat) (s:Nat) (b:List Nat):Prop:=(tx.drop s).take b.length=b
theorem Er {a b m k:Nat} (h:min a m + min b k=a + b):min a m=a:=Nat.le_antisymm (Nat.min_le_left _ _) (Nat.le_of_add_le_add_right (b:=b) (h ▸ Nat.add_le_add_left (Nat.min_le_left b k) _))
theorem iB {tx:List Nat} {s:Nat} {u v:List Nat}:Sub tx s (u++v) ↔ Sub tx s u/\Sub tx (s + u.length) v:=by
 unfold Sub
 rw [List.length_append,List.take_add,List.drop_drop]
 constructor
 ·intro h
  have hl:=congrArg List.length h
  rw [List.length_append,List.length_append,List.length_take,List.length_take,List.length_drop,List.length_drop] at hl
  exact List.append_inj h (by rw [List.length_take,List.length_drop];exact Er hl)
 ·rintro ⟨h1,h2⟩
  rw [h1,h2]
theorem Ab {tx:List Nat} {s:Nat}:Sub tx s []:=by simp [Sub]
theorem yY {tx:List Nat} {W:List Nat->List (List Nat)}:∀ (ts:List (List Nat)) {s e:Nat},PR tx W ts s e ↔ ∃ b,Wd W ts b/\Sub tx s b/\e=s + b.length
 | [],s,e=>by
  simp only [PR,Wd]
  constructor
  ·rintro rfl
   exact ⟨[],rfl,Ab,rfl⟩
  ·rintro ⟨b,rfl,_,h⟩
   simpa using h.symm
 | t :: ts,s,e=>by
  simp only [PR,Wd]
  constructor
  ·rintro ⟨m,⟨u,hu,h1,rfl⟩,h2⟩
   obtain ⟨v,hv,h3,rfl⟩:=(yY ts).mp h2
   exact ⟨u++v,⟨u,v,rfl,hu,hv⟩,iB.mpr ⟨h1,h3⟩,by rw [List.length_append];lia⟩
  ·rintro ⟨b,⟨u,v,rfl,hu,hv⟩,h1,rfl⟩
   obtain ⟨h1,h3⟩:=iB.mp h1
   exact ⟨s + u.length,⟨u,hu,h1,rfl⟩,(yY ts).mpr ⟨v,hv,h3,by rw [List.length_append];lia⟩⟩
theorem Bv {tx:List Nat} {W:List Nat->List (List Nat)}:∀ (gs:List i7) {s e:Nat},GR tx W gs s e ↔ ∃ b,Wg W gs b/\Sub tx s b/\e=s + b.length
 | [],s,e=>by
  simp only [GR,Wg]
  constructor
  ·rintro rfl
   exact ⟨[],rfl,Ab,rfl⟩
  ·rintro ⟨b,rfl,_,h⟩
   simpa using h.symm
 | g :: gs,s,e=>by
  simp only [GR,Wg]
  constructor
  ·rintro ⟨m,h1,h2⟩
   obtain ⟨v,hv,h3,rfl⟩:=(Bv gs).mp h2
   rcases h1 with h1 | ⟨h1,rfl⟩
   ·obtain ⟨u,hu,h4,rfl⟩:=(yY g.2).mp h1
    exact ⟨u++v,⟨u,v,rfl,.inl hu,hv⟩,iB.mpr ⟨h4,h3⟩,by rw [List.length_append];lia⟩
   ·exact ⟨v,⟨[],v,rfl,.inr ⟨h1,rfl⟩,hv⟩,h3,rfl⟩
  ·rintro ⟨b,⟨u,v,rfl,hu,hv⟩,h1,rfl⟩
   obtain ⟨h1,h3⟩:=iB.mp h1
   refine ⟨s + u.length,?_,(Bv gs).mpr ⟨v,hv,h3,by rw [List.length_append];lia⟩⟩
   rcases hu with hu | ⟨hu,rfl⟩
   ·exact .inl ((yY g.2).mpr ⟨u,hu,h1,rfl⟩)
   ·exact .inr ⟨hu,rfl⟩
theorem GB {tx:List Nat} {W:List Nat->List (List Nat)} {gs:List i7}:GR tx W gs 0 tx.length ↔ Wg W gs tx:=by
 rw [Bv]
 constructor
 ·rintro ⟨b,hb,h1,h2⟩
  have:b=tx:=by
   unfold Sub at h1
   rw [show b.length=tx.length by lia] at h1
   simp at h1
   exact h1.symm
  rw [<- this]
  exact hb
 ·exact λ h=>⟨tx,h,by simp [Sub],by simp⟩
noncomputable def o7 (A B:List Nat->Prop):List Nat->Prop:=λ b=>∃ u v,b=u++v/\A u/\B v
theorem eZ (A B C:List Nat->Prop):o7 (o7 A B) C=o7 A (o7 B C):=funext λ b=>propext ⟨λ ⟨u,v,e,⟨u1,u2,e1,h1,h2⟩,hv⟩=>⟨u1,u2++v,by rw [e,e1,List.append_assoc],h1,u2,v,rfl,h2,hv⟩,λ ⟨u,v,e,hu,v1,v2,e1,h1,h2⟩=>⟨u++v1,v2,by rw [e,e1,List.append_assoc],⟨u,v1,rfl,hu,h1⟩,h2⟩⟩
theorem o8 (A:List Nat->Prop):o7 (λ b=>b=[]) A=A:=funext λ b=>propext ⟨λ ⟨u,v,e,hu,hv⟩=>by rw [e,hu];exact hv,λ h=>⟨[],b,rfl,rfl,h⟩⟩
theorem lT (A:List Nat->Prop):o7 A (λ b=>b=[])=A:=funext λ b=>propext ⟨λ ⟨u,v,e,hu,hv⟩=>by rw [e,hv,List.append_nil];exact hu,λ h=>⟨b,[],(List.append_nil b).symm,h,rfl⟩⟩
theorem J1 {A:List Nat->Prop} {P:Prop} (h:P):(λ b=>A b \/ (P/\b=[]))=λ b=>A b \/ (true=true/\b=[]):=funext λ b=>propext ⟨Or.imp_right λ z=>⟨rfl,z.2⟩,Or.imp_right λ z=>⟨h,z.2⟩⟩
theorem sD {A:List Nat->Prop} {P:Prop} (h:¬ P):(λ b=>A b \/ (P/\b=[]))=A:=funext λ b=>propext ⟨λ z=>z.elim id λ y=>absurd y.1 h,.inl⟩
theorem rM {W:List Nat->List (List Nat)}:∀ (ts us:List (List Nat)),Wd W (ts++us)=o7 (Wd W ts) (Wd W us)
 | [],us=>(o8 _).symm
 | t :: ts,us=>by
  show o7 (λ u=>u∈W t) (Wd W (ts++us))=o7 (o7 (λ u=>u∈W t) (Wd W ts)) (Wd W us)
  rw [rM ts us,eZ]
theorem gQ {W:List Nat->List (List Nat)}:∀ (gs hs:List i7),Wg W (gs++hs)=o7 (Wg W gs) (Wg W hs)
 | [],hs=>(o8 _).symm
 | g :: gs,hs=>by
  show o7 (λ u=>Wd W g.2 u \/ (0 < g.1/\u=[])) (Wg W (gs++hs))=o7 (o7 (λ u=>Wd W g.2 u \/ (0 < g.1/\u=[])) (Wg W gs)) (Wg W hs)
  rw [gQ gs hs,eZ]
theorem tz {W:List Nat->List (List Nat)} {g:i7}:Wg W [g]=λ u=>Wd W g.2 u \/ (0 < g.1/\u=[]):=lT _
theorem qa (k:Int):∀ (ts:List (List Nat)) (gs:List i7) (l:List (List Nat)),(ts.map λ t=>(k,t)).foldl ii (gs++[(k,l)])=gs++[(k,l++ts)]
 | [],gs,l=>by simp
 | t :: ts,gs,l=>by
  rw [List.map_cons,List.foldl_cons]
  have:ii (gs++[(k,l)]) (k,t)=gs++[(k,l++[t])]:=by
   unfold ii
   simp
  rw [this,qa k ts gs (l++[t])]
  simp
theorem v9 {k:Int} {t:List Nat} {ts:List (List Nat)} {gs:List i7} (h:∀ g,gs.getLast?=some g->g.1 ≠ k):((t :: ts).map λ t=>(k,t)).foldl ii gs=gs++[(k,t :: ts)]:=by
 rw [List.map_cons,List.foldl_cons]
 have:ii gs (k,t)=gs++[(k,[t])]:=by
  unfold ii
  cases e:gs.getLast? with
  | none =>
   have:gs=[]:=List.getLast?_eq_none_iff.mp e
   subst this
   rfl
  | some g=>simp [h g e]
 rw [this,qa k ts gs [t]]
 rfl
theorem qj {gs:List i7} {g:i7} (h:gs.getLast?=some g):gs=gs.dropLast++[g]:=by
 have hne:gs ≠ []:=by rintro rfl;cases h
 have:=List.dropLast_concat_getLast hne
 rw [List.getLast?_eq_some_getLast hne] at h
 cases h
 exact this.symm
structure GOk (n:Nat) (gs:List i7):Prop where
 k:∀ g∈gs,0 <= g.1/\g.1 <= n
 v:∀ g∈gs,(∀ t∈g.2,t∈bi)/\g.2 ≠ []
theorem GOk.snoc {n m:Nat} {gs:List i7} {g:i7} (h:GOk n gs) (hn:n <= m) (h1:0 <= g.1/\g.1 <= m) (h2:(∀ t∈g.2,t∈bi)/\g.2 ≠ []):GOk m (gs++[g]):=by
 refine ⟨λ x hx=>?_,λ x hx=>?_⟩
 ·rcases List.mem_append.mp hx with hx | hx
  ·exact ⟨(h.k x hx).1,Int.le_trans (h.k x hx).2 (Int.ofNat_le.mpr hn)⟩
  ·rw [List.mem_singleton.mp hx];exact h1
 ·rcases List.mem_append.mp hx with hx | hx
  ·exact h.v x hx
  ·rw [List.mem_singleton.mp hx];exact h2
theorem GOk.init {n:Nat} {gs:List i7} {g:i7} (h:GOk n (gs++[g])):GOk n gs:=⟨λ x hx=>h.k x (List.mem_append_left _ hx),λ x hx=>h.v x (List.mem_append_left _ hx)⟩
inductive GSt (W:List Nat->List (List Nat)) (n:Nat) (gs:List i7) (l:Bool) (ts:List (List Nat)):Prop
 | mk (g2:List i7) (h:GOk (if l then n + 1 else n) g2) (e:(ts.map λ t=>((if l then ((n + 1:Nat):Int) else 0),t)).foldl ii gs=g2) (s:Wg W g2=o7 (Wg W gs) (λ v=>Wd W ts v \/ (l=true/\v=[])))
theorem B5 {W:List Nat->List (List Nat)} {n:Nat} {gs:List i7} (h:GOk n gs) {l:Bool} {ts:List (List Nat)} (hv:∀ t∈ts,t∈bi) (hne:l=true->ts ≠ []):GSt W n gs l ts:=by
 cases l with
 | true =>
  have hts:=hne rfl
  obtain ⟨t,tr,rfl⟩:=List.exists_cons_of_ne_nil hts
  refine ⟨gs++[(((n + 1:Nat):Int),t :: tr)],h.snoc (Nat.le_succ n) ⟨Int.natCast_nonneg _,Int.le_refl _⟩ ⟨hv,hts⟩,v9 (λ g hg z=>?_),?_⟩
  ·have:=(h.k g (by rw [qj hg];exact List.mem_append_right _ (.head _))).2
   have z:g.1=((n + 1:Nat):Int):=z
   lia
  ·rw [gQ,tz,J1 (show (0:Int) < ((n + 1:Nat):Int) from Int.natCast_pos.mpr (Nat.succ_pos n))]
 | false =>
  cases ts with
  | nil=>exact ⟨gs,h,rfl,by rw [sD Bool.false_ne_true];exact (lT _).symm⟩
  | cons t tr =>
   by_cases c:∃ g,gs.getLast?=some g/\g.1=0
   ·obtain ⟨⟨k,l0⟩,hg,hk⟩:=c
    obtain rfl:k=0:=hk
    have hs:=qj hg
    generalize gs.dropLast=dl at hs
    subst hs
    have h0:=h.v _ (List.mem_append_right dl (.head _))
    refine ⟨dl++[(0,l0++(t :: tr))],h.init.snoc (Nat.le_refl n) ⟨Int.le_refl 0,Int.natCast_nonneg n⟩ ⟨λ u hu=>?_,List.append_ne_nil_of_left_ne_nil h0.2 _⟩,qa 0 (t :: tr) dl l0,?_⟩
    ·rcases List.mem_append.mp hu with hu | hu
     ·exact h0.1 u hu
     ·exact hv u hu
    ·rw [sD Bool.false_ne_true,gQ,gQ,tz,tz,sD (Int.lt_irrefl 0),sD (Int.lt_irrefl 0),eZ,rM]
   ·refine ⟨gs++[(0,t :: tr)],h.snoc (Nat.le_refl n) ⟨Int.le_refl 0,Int.natCast_nonneg n⟩ ⟨hv,List.cons_ne_nil _ _⟩,v9 (λ g hg z=>c ⟨g,hg,z⟩),?_⟩
    rw [sD Bool.false_ne_true,gQ,tz,sD (Int.lt_irrefl 0)]
theorem rZ {W:List Nat->List (List Nat)}:∀ (ps:List bc) (n:Nat) (gs:List i7),GOk n gs->(∀ p∈ps,∀ t∈p.2,t∈bi)->(∀ p∈ps,p.1=true->p.2 ≠ []) →
  (∃ n',GOk n' ((kt n ps).foldl ii gs))/\Wg W ((kt n ps).foldl ii gs)=o7 (Wg W gs) (Wp W ps)
 | [],n,gs,h,_,_=>⟨⟨n,h⟩,(lT _).symm⟩
 | p :: ps,n,gs,h,hv,hne=>by
  obtain ⟨g2,hg2,e2,s2⟩:=B5 (W:=W) h (hv p List.mem_cons_self) (hne p List.mem_cons_self)
  have ih:=rZ (W:=W) ps (if p.1 then n + 1 else n) g2 hg2 (λ q hq=>hv q (List.mem_cons_of_mem _ hq)) (λ q hq=>hne q (List.mem_cons_of_mem _ hq))
  have ek:(kt n (p :: ps)).foldl ii gs=(kt (if p.1 then n + 1 else n) ps).foldl ii g2:=by rw [kt,List.foldl_append,e2]
  rw [ek]
  exact ⟨ih.1,ih.2.trans (by rw [s2,eZ];rfl)⟩
theorem xU {W:List Nat->List (List Nat)} {ps:List bc} (h:OkP ps):(∀ g∈nN ps,(∀ t∈g.2,t∈bi)/\g.2 ≠ [])/\∀ b,Wg W (nN ps) b ↔ Wp W ps b:=by
 obtain ⟨⟨n,h1⟩,h2⟩:=rZ (W:=W) ps 0 [] ⟨(λ g z=>nomatch z),(λ g z=>nomatch z)⟩ h.v h.ne
 have h2:Wg W (nN ps)=Wp W ps:=h2.trans (o8 _)
 exact ⟨h1.v,λ b=>by rw [h2]⟩
noncomputable def di (A B:List (List Nat)):List (List Nat):=A.flatMap λ a=>B.map λ b=>a++b
noncomputable def gf (f:List Nat->Nat):List (List Nat)->Nat
 | []=>1
 | t :: ts=>f t * gf f ts
noncomputable def cap (t:List Nat):Nat:=if t=[60,100,62] \/ t=[60,109,62] then 2 else if t=[60,110,62] \/ t=[60,119,62] then 9 else 1
structure WF (W:List Nat->List (List Nat)):Prop where
 pos:∀ t∈bi,1 <= (W t).length
 cap:∀ t∈bi,(W t).length <= cap t
 pl:∀ t∈bi,∀ x∈W t,1 <= x.length/\x.length <= 9/\∀ c∈x,c∈bJ
theorem nO (A B:List (List Nat)):(di A B).length=A.length * B.length:=by
 unfold di
 induction A with
 | nil=>simp
 | cons a A ih=>rw [List.flatMap_cons,List.length_append,ih,List.length_map,List.length_cons,Nat.add_mul];lia
theorem su (A B:List (List Nat)):(λ x=>x∈di A B)=o7 (λ x=>x∈A) (λ x=>x∈B):=funext λ x=>propext (by
 unfold di
 rw [List.mem_flatMap]
 constructor
 ·rintro ⟨a,ha,hb⟩
  obtain ⟨b,hb2,rfl⟩:=List.mem_map.mp hb
  exact ⟨a,b,rfl,ha,hb2⟩
 ·rintro ⟨a,b,rfl,ha,hb⟩
  exact ⟨a,ha,List.mem_map.mpr ⟨b,hb,rfl⟩⟩)
theorem Bj (l B:List (List Nat)) (a:List Nat):D.lst (l.map D.str++B.map λ b=>D.str (a++b))=aX (l++B.map λ b=>a++b):=by rw [aX,List.map_append,List.map_map];rfl
theorem DD (l:List (List Nat)) (a:List Nat):D.lst (l.map D.str++[D.str a])=aX (l++[a]):=by rw [aX,List.map_append];rfl
noncomputable def jE (A B C:List (List Nat)) (x:Option Sl):Ev:=[some (.sh (aX A)),some (.sh (aX B)),some (.sh (aX C)),x]
theorem ya {A B:List (List Nat)} {k:Nat} {a:List Nat} (hk:A[k]?=some a):di (A.take (k + 1)) B=di (A.take k) B++B.map λ b=>a++b:=by
 unfold di
 rw [List.take_add_one,hk,Option.toList_some,List.flatMap_append,List.flatMap_singleton]
theorem si {A B:List (List Nat)} (hn:A.length * B.length <= 100000) (hB:B.length <= 100000) (hl:∀ a∈A,∀ b∈B,a.length + b.length <= 1000):cP [aX A,aX B]=.ok (aX (di A B)):=by
 obtain ⟨δ',e,x3,rfl⟩:=eG (f:=D.str) (l:=A) (i:=3) (fit:=λ δ=>((ae 0) δ).bind br) (F:=ju) (δ:=jE A B [] none)
  (λ k δ=>∃ x3,δ=jE A B (di (A.take k) B) x3) rfl ⟨none,rfl⟩ (λ k a δ hk hI=>by
   obtain ⟨x3,rfl⟩:=hI
   have hlen:(di (A.take k) B).length + B.length <= 1000000:=by
    have hkl:=(List.getElem?_eq_some_iff.mp hk).1
    rw [nO,List.length_take,Nat.min_eq_left (Nat.le_of_lt hkl)]
    exact Nat.le_trans (Nat.add_le_add (Nat.le_trans (Nat.mul_le_mul_right _ (Nat.le_of_lt hkl)) hn) hB) (by decide)
   have hc:ec (λ δ=>((ae 1) δ).bind br) (λ _=>.ok true) (m2 aT (ae 3) (ae 4)) (jE A B (di (A.take k) B) (eY a))=.ok (B.map λ b=>D.str (a++b)):=
    pQ (l:=B) (h:=D.str) rfl (Nat.le_trans hB (by decide)) (λ b hb=>ak rfl rfl (fB (hl a (List.mem_of_getElem? hk) b hb)))
   refine ⟨_,.inl (ao (ak rfl (bF hc rfl) ((ui (by rw [List.length_map,List.length_map];exact hlen)).trans (congrArg R.ok (Bj _ _ _))))),eY a,?_⟩
   rw [ya hk]
   rfl)
 rw [List.take_length] at e
 exact aP ((ac (ao rfl)).trans ((ac e).trans rfl))
noncomputable def tY (W:List Nat->List (List Nat)) (A:List (List Nat)) (ts:List (List Nat)):List (List Nat):=ts.foldl (λ acc t=>di acc (W t)) A
theorem pc {W:List Nat->List (List Nat)}:∀ (ts:List (List Nat)) (A:List (List Nat)),(tY W A ts).length=A.length * gf (λ t=>(W t).length) ts
 | [],A=>by simp [tY,gf]
 | t :: ts,A=>by
  show (tY W (di A (W t)) ts).length=_
  rw [pc ts,nO,gf,Nat.mul_assoc]
theorem ug {W:List Nat->List (List Nat)}:∀ (ts:List (List Nat)) (A:List (List Nat)),(λ x=>x∈tY W A ts)=o7 (λ x=>x∈A) (Wd W ts)
 | [],A=>(lT _).symm
 | t :: ts,A=>by
  show (λ x=>x∈tY W (di A (W t)) ts)=o7 _ (o7 (λ u=>u∈W t) (Wd W ts))
  rw [ug ts,su,eZ]
theorem xV {P:List Nat->Prop}:o7 (λ x=>x∈[[]]) P=P:=by
 rw [show (λ x:List Nat=>x∈[[]])=λ x=>x=[] from funext λ x=>propext List.mem_singleton,o8]
theorem tu {W:List Nat->List (List Nat)} (hW:WF W):∀ (ts:List (List Nat)) {b:List Nat},(∀ t∈ts,t∈bi)->Wd W ts b->b.length <= 9 * ts.length
 | [],b,_,h=>by have:b=[]:=h;subst this;simp
 | t :: ts,b,ht,h=>by
  obtain ⟨u,v,rfl,hu,hv⟩:=h
  have h1:=tu hW ts (λ z hz=>ht z (List.mem_cons_of_mem _ hz)) hv
  have h2:=(hW.pl t (ht t List.mem_cons_self) u hu).2.1
  rw [List.length_append,List.length_cons]
  lia
theorem nk {f:List Nat->Nat}:∀ {ts:List (List Nat)},(∀ t∈ts,1 <= f t)->1 <= gf f ts
 | [],_=>Nat.le_refl _
 | t :: ts,h=>Nat.mul_le_mul (h t List.mem_cons_self) (nk λ z hz=>h z (List.mem_cons_of_mem _ hz))
theorem C5 {f g:List Nat->Nat}:∀ {ts:List (List Nat)},(∀ t∈ts,f t <= g t)->gf f ts <= gf g ts
 | [],_=>Nat.le_refl _
 | t :: ts,h=>Nat.mul_le_mul (h t List.mem_cons_self) (C5 λ z hz=>h z (List.mem_cons_of_mem _ hz))
theorem iw {f:List Nat->Nat}:∀ (ts us:List (List Nat)),gf f (ts++us)=gf f ts * gf f us
 | [],us=>by simp [gf]
 | t :: ts,us=>by rw [List.cons_append,gf,gf,iw ts us,Nat.mul_assoc]
theorem C6 {f:List Nat->Nat} {ts:List (List Nat)} (h:∀ t∈ts,1 <= f t) (k:Nat):gf f (ts.take k) <= gf f ts:=by
 have e:ts=ts.take k++ts.drop k:=(List.take_append_drop k ts).symm
 conv=>rhs;rw [e,iw]
 exact Nat.le_mul_of_pos_right _ (nk λ t ht=>h t (List.mem_of_mem_drop ht))
theorem sN {f:List Nat->Nat} {a:List Nat}:∀ {s:List (List Nat)},a∈s->gf f s=f a * gf f (s.erase a)
 | t :: s,h=>by
  by_cases c:t=a
  ·subst c
   simp [gf]
  ·have ha:a∈s:=by
    rcases List.mem_cons.mp h with h | h
    ·exact absurd h.symm c
    ·exact h
   rw [List.erase_cons_tail (by simpa using c),gf,gf,sN ha]
   exact Nat.mul_left_comm _ _ _
theorem sO {f:List Nat->Nat}:∀ (l s:List (List Nat)),l.Nodup->(∀ t∈l,t∈s)->(∀ t∈s,1 <= f t)->gf f l <= gf f s
 | [],s,_,_,h=>nk h
 | a :: l,s,hn,hs,h=>by
  have hn':=List.nodup_cons.mp hn
  rw [gf,sN (hs a List.mem_cons_self)]
  refine Nat.mul_le_mul_left _ (sO l (s.erase a) hn'.2 (λ t ht=>?_) λ t ht=>h t (List.mem_of_mem_erase ht))
  refine (List.mem_erase_of_ne ?_).mpr (hs t (List.mem_cons_of_mem _ ht))
  rintro rfl
  exact hn'.1 ht
theorem BJ:∀ t∈bi,bZ t=false->cap t=1:=by decide
theorem D5:∀ t∈bi,1 <= cap t:=by decide
theorem pO:∀ (l:List (List Nat)),(∀ t∈l,t∈bi)->gf cap l=gf cap (l.filter bZ)
 | [],_=>rfl
 | t :: l,h=>by
  have ih:=pO l λ z hz=>h z (List.mem_cons_of_mem _ hz)
  cases c:bZ t with
  | true=>rw [List.filter_cons_of_pos c,gf,gf,ih]
  | false=>rw [List.filter_cons_of_neg (by simp [c]),gf,BJ t (h t List.mem_cons_self) c,ih,Nat.one_mul]
theorem GL {l:List (List Nat)} (hv:∀ t∈l,t∈bi) (hn:(l.filter bZ).Nodup):gf cap l <= 324:=by
 rw [pO l hv]
 have:gf cap (l.filter bZ) <= gf cap bU:=sO _ _ hn (λ t ht=>by
  have:=(List.mem_filter.mp ht).2
  simpa [bZ] using this) (by decide)
 exact Nat.le_trans this (by decide)
noncomputable def pW (W:List Nat->List (List Nat)) (p:bc):List (List Nat):=if p.1 then tY W [[]] p.2++[[]] else tY W [[]] p.2
noncomputable def gU (W:List Nat->List (List Nat)) (A:List (List Nat)) (ps:List bc):List (List Nat):=ps.foldl (λ acc p=>di acc (pW W p)) A
theorem Co {W:List Nat->List (List Nat)} (p:bc):(λ x=>x∈pW W p)=λ x=>Wd W p.2 x \/ (p.1=true/\x=[]):=by
 have h:(λ x=>x∈tY W [[]] p.2)=Wd W p.2:=(ug _ _).trans xV
 funext x
 have hx:(x∈tY W [[]] p.2)=Wd W p.2 x:=congrFun h x
 unfold pW
 cases p.1 with
 | true=>rw [if_pos rfl,List.mem_append,hx,List.mem_singleton];exact propext ⟨Or.imp_right λ z=>⟨rfl,z⟩,Or.imp_right λ z=>z.2⟩
 | false=>rw [if_neg Bool.false_ne_true,hx];exact propext ⟨.inl,λ z=>z.elim id λ y=>nomatch y.1⟩
theorem wr {W:List Nat->List (List Nat)}:∀ (ps:List bc) (A:List (List Nat)),(λ x=>x∈gU W A ps)=o7 (λ x=>x∈A) (Wp W ps)
 | [],A=>(lT _).symm
 | p :: ps,A=>by
  show (λ x=>x∈gU W (di A (pW W p)) ps)=o7 _ (o7 (λ u=>Wd W p.2 u \/ (p.1=true/\u=[])) (Wp W ps))
  rw [wr ps,su,eZ,Co]
theorem wq {W:List Nat->List (List Nat)} (ps:List bc):(λ x=>x∈gU W [[]] ps)=Wp W ps:=(wr _ _).trans xV
theorem Bx {W:List Nat->List (List Nat)} (hW:WF W):∀ (ps:List bc) {b:List Nat},(∀ p∈ps,∀ t∈p.2,t∈bi)->Wp W ps b->b.length <= 9 * (aN ps).length
 | [],b,_,h=>by have:b=[]:=h;subst this;simp
 | p :: ps,b,hv,h=>by
  obtain ⟨u,v,rfl,hu,hv2⟩:=h
  have h1:=Bx hW ps (λ q hq=>hv q (List.mem_cons_of_mem _ hq)) hv2
  have h2:u.length <= 9 * p.2.length:=by
   rcases hu with hu | ⟨_,rfl⟩
   ·exact tu hW p.2 (hv p List.mem_cons_self) hu
   ·simp
  have:aN (p :: ps)=p.2++aN ps:=by unfold aN;rw [List.flatMap_cons]
  rw [this,List.length_append,List.length_append]
  lia
noncomputable def wt (W:List Nat->List (List Nat)):List bc->Nat
 | []=>1
 | p :: ps=>(if p.1 then 2 else 1) * gf (λ t=>(W t).length) p.2 * wt W ps
theorem CI {W:List Nat->List (List Nat)} {p:bc} (h:∀ t∈p.2,1 <= (W t).length):1 <= (pW W p).length/\(pW W p).length <= (if p.1 then 2 else 1) * gf (λ t=>(W t).length) p.2:=by
 have h1:(tY W [[]] p.2).length=gf (λ t=>(W t).length) p.2:=by rw [pc];simp
 have h2:=nk (f:=λ t=>(W t).length) h
 unfold pW
 cases p.1 with
 | true =>
  simp only [if_true]
  rw [List.length_append,h1]
  simp
  lia
 | false =>
  simp
  rw [h1]
  lia
theorem vB {W:List Nat->List (List Nat)}:∀ (ps:List bc) (A:List (List Nat)),(∀ p∈ps,∀ t∈p.2,1 <= (W t).length)->(gU W A ps).length <= A.length * wt W ps
 | [],A,_=>by simp [gU,wt]
 | p :: ps,A,h=>by
  have h1:=vB ps (di A (pW W p)) λ q hq=>h q (List.mem_cons_of_mem _ hq)
  have h2:=(CI (h p List.mem_cons_self)).2
  show (gU W (di A (pW W p)) ps).length <= _
  refine Nat.le_trans h1 ?_
  rw [nO,wt,<- Nat.mul_assoc]
  exact Nat.mul_le_mul_right _ (Nat.mul_le_mul_left _ h2)
theorem Gy {W:List Nat->List (List Nat)}:∀ (ps:List bc),wt W ps=2 ^ jb ps * gf (λ t=>(W t).length) (aN ps)
 | []=>by simp [wt,jb,aN,gf]
 | p :: ps=>by
  have e:aN (p :: ps)=p.2++aN ps:=by unfold aN;rw [List.flatMap_cons]
  rw [wt,Gy ps,e,iw]
  unfold jb
  rw [List.countP_cons]
  obtain ⟨l,ts⟩:=p
  cases l with
  | true =>
   simp only [if_true]
   rw [Nat.pow_succ,Nat.mul_comm (2 ^ _) 2]
   simp only [Nat.mul_assoc,Nat.mul_left_comm]
  | false =>
   simp
   simp only [Nat.mul_left_comm]
theorem KD {W:List Nat->List (List Nat)} (hW:WF W) {ps:List bc} (h:OkP ps):wt W ps <= 2592:=by
 have hv:∀ t∈aN ps,t∈bi:=λ t ht=>by
  obtain ⟨p,hp,ht⟩:=List.mem_flatMap.mp ht
  exact h.v p hp t ht
 rw [Gy]
 have h1:gf (λ t=>(W t).length) (aN ps) <= 324:=Nat.le_trans (C5 λ t ht=>hW.cap t (hv t ht)) (GL hv h.nd)
 have h2:2 ^ jb ps <= 2 ^ 3:=Nat.pow_le_pow_right (by lia) h.c
 exact Nat.le_trans (Nat.mul_le_mul h2 h1) (by decide)
theorem yN {W:List Nat->List (List Nat)}:∀ {ps:List bc},(∀ p∈ps,∀ t∈p.2,1 <= (W t).length)->1 <= wt W ps
 | [],_=>Nat.le_refl _
 | p :: ps,h=>by
  have h1:=yN (W:=W) (ps:=ps) λ q hq=>h q (List.mem_cons_of_mem _ hq)
  have h2:=nk (f:=λ t=>(W t).length) (h p List.mem_cons_self)
  rw [wt]
  refine Nat.mul_pos (Nat.mul_pos ?_ h2) h1
  cases p.1 <;> simp
theorem sX {W:List Nat->List (List Nat)}:∀ (ps qs:List bc),wt W (ps++qs)=wt W ps * wt W qs
 | [],qs=>by simp [wt]
 | p :: ps,qs=>by rw [List.cons_append,wt,wt,sX ps qs];simp only [Nat.mul_assoc]
noncomputable def aE (P Q:D) (A:List (List Nat)) (x y z w:Option Sl):Ev:=[some (.sh P),some (.sh Q),some (.sh (aX A)),x,y,z,w]
theorem B9 {W:List Nat->List (List Nat)} {A ts:List (List Nat)} {j:Nat} {t:List Nat} (hj:ts[j]?=some t):tY W A (ts.take (j + 1))=di (tY W A (ts.take j)) (W t):=by
 unfold tY
 rw [List.take_add_one,hj,Option.toList_some,List.foldl_append];rfl
theorem Al {W:List Nat->List (List Nat)} {A:List (List Nat)} {ps:List bc} {j:Nat} {p:bc} (hj:ps[j]?=some p):gU W A (ps.take (j + 1))=di (gU W A (ps.take j)) (pW W p):=by
 unfold gU
 rw [List.take_add_one,hj,Option.toList_some,List.foldl_append];rfl
theorem Ls:∀ t∈bi,cap t <= 9:=by decide
theorem G4 {W:List Nat->List (List Nat)} (hW:WF W) {ts:List (List Nat)} (hv:∀ t∈ts,t∈bi) {j:Nat} (hl:ts.length <= 30):∀ a∈tY W [[]] (ts.take j),a.length <= 270:=λ a ha=>by
 have hc:Wd W (ts.take j) a:=congrFun ((ug _ _).trans xV) a ▸ ha
 have:=tu hW _ (λ z hz=>hv z (List.mem_of_mem_take hz)) hc
 exact Nat.le_trans this (Nat.mul_le_mul_left 9 (Nat.le_trans (List.length_take_le' j ts) hl))
theorem Ej {W:List Nat->List (List Nat)} (hW:WF W) {Q:D} (hQ:∀ t∈bi,aS [.str t,Q]=.ok (aX (W t))) {p:bc} (hvp:∀ t∈p.2,t∈bi) (htl:p.2.length <= 30) (hpr:gf (λ t=>(W t).length) p.2 <= 2592) {P:D} {A:List (List Nat)} {x:Option Sl} {y:Option Sl} :
  ∃ z,df (λ δ=>((ae 4) δ).bind br) (bN 6) dN (aE P Q A x (some (.sh (aX p.2))) (some (.sh (aX [[]]))) y)=.next (aE P Q A x (some (.sh (aX p.2))) (some (.sh (aX (tY W [[]] p.2)))) z):=by
 obtain ⟨δ2,e2,y6,rfl⟩:=eG (f:=D.str) (l:=p.2) (i:=6) (fit:=λ δ=>((ae 4) δ).bind br) (F:=dN) (δ:=aE P Q A x (some (.sh (aX p.2))) (some (.sh (aX [[]]))) y)
  (λ j δ=>∃ y6,δ=aE P Q A x (some (.sh (aX p.2))) (some (.sh (aX (tY W [[]] (p.2.take j))))) y6) rfl ⟨y,rfl⟩ (λ j t δ hj hI=>by
   obtain ⟨y6,rfl⟩:=hI
   have ht:=hvp t (List.mem_of_getElem? hj)
   have h1:(tY W [[]] (p.2.take j)).length * (W t).length=gf (λ t=>(W t).length) (p.2.take (j + 1)):=by
    rw [pc,List.take_add_one,hj,iw,List.length_singleton,Nat.one_mul,Option.toList_some,gf,gf,Nat.mul_one]
   have h9:(W t).length <= 9:=Nat.le_trans (hW.cap t ht) (Ls t ht)
   have ej:=si (A:=tY W [[]] (p.2.take j)) (B:=W t) (by rw [h1];exact Nat.le_trans (Nat.le_trans (C6 (λ z hz=>hW.pos z (hvp z hz)) (j + 1)) hpr) (by decide)) (Nat.le_trans h9 (by decide)) (λ a ha b hb=>Nat.le_trans (Nat.add_le_add (G4 hW hvp htl a ha) (hW.pl t ht b hb).2.1) (by decide))
   exact ⟨_,.inl (ao (ax (av rfl (av (ax rfl (hQ t ht)) rfl)) ej)),eY t,by rw [B9 hj];rfl⟩)
 rw [List.take_length] at e2
 exact ⟨y6,e2⟩
theorem KC {W:List Nat->List (List Nat)} {ps:List bc} {k:Nat} {p:bc} (q:ps[k]?=some p) (hpos:∀ p∈ps,∀ t∈p.2,1 <= (W t).length) (hwt:wt W ps <= 2592):wt W (ps.take k) * ((if p.1 then 2 else 1) * gf (λ t=>(W t).length) p.2) <= 2592/\p.2.length <= (aN ps).length:=by
 have hsplit:ps=ps.take k++p :: ps.drop (k + 1):=by
  have hk:=(List.getElem?_eq_some_iff.mp q).1
  rw [<- (List.getElem?_eq_some_iff.mp q).2,<- List.drop_eq_getElem_cons hk,List.take_append_drop]
 have e2:wt W ps=wt W (ps.take k) * ((if p.1 then 2 else 1) * gf (λ t=>(W t).length) p.2 * wt W (ps.drop (k + 1))):=by
  conv=>lhs;rw [hsplit,sX,wt]
 have e3:(aN ps).length=(aN (ps.take k)).length + (p.2.length + (aN (ps.drop (k + 1))).length):=by
  conv=>lhs;rw [hsplit]
  unfold aN
  rw [List.flatMap_append,List.flatMap_cons,List.length_append,List.length_append]
 rw [e2,<- Nat.mul_assoc] at hwt
 exact ⟨Nat.le_trans (Nat.le_mul_of_pos_right _ (yN λ r hr=>hpos r (List.mem_of_mem_drop hr))) hwt,by rw [e3];exact Nat.le_trans (Nat.le_add_right _ _) (Nat.le_add_left _ _)⟩
theorem HI {W:List Nat->List (List Nat)} (hW:WF W) {p:bc} (hv:∀ t∈p.2,t∈bi):∀ b∈pW W p,b.length <= 9 * p.2.length:=λ b hb=>by
 have hb:Wd W p.2 b \/ (p.1=true/\b=[]):=congrFun (Co p) b ▸ hb
 rcases hb with hb | ⟨_,rfl⟩
 ·exact tu hW _ hv hb
 ·exact Nat.zero_le _
theorem vC {W:List Nat->List (List Nat)} (hW:WF W) {ps:List bc} (h:OkP ps) {Q:D} (hQ:∀ t∈bi,aS [.str t,Q]=.ok (aX (W t))):cI [bj ps,Q]=.ok (aX (gU W [[]] ps)):=by
 have hpos:∀ p∈ps,∀ t∈p.2,1 <= (W t).length:=λ p hp t ht=>hW.pos t (h.v p hp t ht)
 have hwt:=KD hW h
 have htk:(aN ps).length <= 30:=Nat.le_trans (mR h.v) h.hi
 obtain ⟨δ',e,x3,x4,x5,x6,rfl⟩:=ck (fit:=λ δ=>((ae 0) δ).bind br) (bd:=j9 2 (bw (bN 3) (bw (bN 4) (ga)))) (F:=gM) (δ:=aE (bj ps) Q [[]] none none none none) (ds:=ps.map oJ)
  (λ k δ=>∃ x3 x4 x5 x6,δ=aE (bj ps) Q (gU W [[]] (ps.take k)) x3 x4 x5 x6) rfl ⟨none,none,none,none,rfl⟩ (λ k dd δ hd hI=>by
   obtain ⟨x3,x4,x5,x6,rfl⟩:=hI
   obtain ⟨p,q,rfl⟩:=pL hd
   have hpm:p∈ps:=List.mem_of_getElem? q
   have hvp:=h.v p hpm
   obtain ⟨hle,hl2⟩:=KC q hpos hwt
   have hfac:=Nat.le_trans (Nat.le_mul_of_pos_left _ (yN λ r hr=>hpos r (List.mem_of_mem_take hr))) hle
   have hpr:gf (λ t=>(W t).length) p.2 <= 2592:=Nat.le_trans (Nat.le_mul_of_pos_left _ (by cases p.1 <;> decide)) hfac
   obtain ⟨y6,e2⟩:=Ej hW hQ hvp (Nat.le_trans hl2 htk) hpr (P:=bj ps) (A:=gU W [[]] (ps.take k)) (x:=b4 (if p.1 then 1 else 0)) (y:=x6)
   have hpw:=CI (hpos p hpm)
   have hal:(gU W [[]] (ps.take k)).length <= wt W (ps.take k):=by
    have:=vB (ps.take k) [[]] λ r hr=>hpos r (List.mem_of_mem_take hr)
    rwa [List.length_singleton,Nat.one_mul] at this
   have ej:=si (A:=gU W [[]] (ps.take k)) (B:=pW W p) (Nat.le_trans (Nat.le_trans (Nat.mul_le_mul hal hpw.2) hle) (by decide)) (Nat.le_trans (Nat.le_trans hpw.2 hfac) (by decide)) (λ a ha b hb=>by
    have hc:Wp W (ps.take k) a:=congrFun (wq _) a ▸ ha
    have h1:=Bx hW _ (λ r hr=>h.v r (List.mem_of_mem_take hr)) hc
    exact Nat.le_trans (Nat.add_le_add (Nat.le_trans h1 (Nat.mul_le_mul_left 9 (Nat.le_trans (lu ps k) htk))) (Nat.le_trans (HI hW hvp b hb) (Nat.mul_le_mul_left 9 (Nat.le_trans hl2 htk)))) (by decide))
   have e3:c7 (bC cz (ae 3) (mC (.int 1))) (aJ 5 (m2 qp (ae 5) (b8 (ah (mC (.str [])) (ar))))) (SR.next) (aE (bj ps) Q (gU W [[]] (ps.take k)) (b4 (if p.1 then 1 else 0)) (some (.sh (aX p.2))) (some (.sh (aX (tY W [[]] p.2)))) y6)=.next (aE (bj ps) Q (gU W [[]] (ps.take k)) (b4 (if p.1 then 1 else 0)) (some (.sh (aX p.2))) (some (.sh (aX (pW W p)))) y6):=by
    unfold pW
    cases p.1 with
    | true=>exact (aZ rfl).trans (ao (ak rfl rfl ((ui (by rw [List.length_map,pc,List.length_singleton,Nat.one_mul];exact Nat.le_trans (Nat.succ_le_succ hpr) (by decide))).trans (congrArg R.ok (DD _ _)))))
    | false=>exact aK rfl
   exact ⟨_,_,rfl,.inl ((ac (ao rfl)).trans ((ac e2).trans ((ac e3).trans (ao (ax rfl ej))))),_,_,_,_,by rw [Al q];rfl⟩)
 rw [List.length_map,List.take_length] at e
 exact aP ((ac (ao rfl)).trans ((ac e).trans rfl))
theorem Ep {W:List Nat->List (List Nat)} {ps:List bc} {x:List Nat}:x∈gU W [[]] ps ↔ Wp W ps x:=iff_of_eq (congrFun (wq ps) x)
theorem p7 {n:Nat} (hn:n < 10000):1 <= (lF n).length/\(lF n).length <= 2/\∀ x∈lF n,1 <= x.length/\x.length <= 9/\∀ c∈x,c∈bJ:=by
 have hl:=@pX n
 have hdg:∀ c∈dg n,c∈bJ:=λ c hc=>by
  have:=v0 hn c hc
  exact pY c this.1 this.2
 have h48:∀ c∈48 :: dg n,c∈bJ:=λ c hc=>by
  rcases List.mem_cons.mp hc with rfl | hc
  ·decide
  ·exact hdg c hc
 unfold lF
 split
 ·refine ⟨by simp,by simp,λ x hx=>?_⟩
  rcases List.mem_cons.mp hx with rfl | hx
  ·exact ⟨by lia,by lia,hdg⟩
  ·have:x=48 :: dg n:=by simpa using hx
   subst this
   exact ⟨by simp,by simp;lia,h48⟩
 ·refine ⟨by simp,by simp,λ x hx=>?_⟩
  have:x=dg n:=by simpa using hx
  subst this
  exact ⟨by lia,by lia,hdg⟩
theorem xE {s:List Nat} (h:1 <= s.length/\s.length <= 9/\∀ c∈s,c∈bJ):1 <= (jG s).length/\(jG s).length <= 9/\∀ x∈jG s,1 <= x.length/\x.length <= 9/\∀ c∈x,c∈bJ:=by
 refine ⟨by simp [jG];lia,by simp [jG];lia,λ x hx=>?_⟩
 obtain ⟨k,hk,rfl⟩:=List.mem_map.mp hx
 have:=List.mem_range.mp hk
 exact ⟨by rw [List.length_take];lia,by rw [List.length_take];lia,λ c hc=>h.2.2 c (List.mem_of_mem_take hc)⟩
theorem wA:∀ s∈cJ++b5,1 <= s.length/\s.length <= 9/\∀ c∈s,c∈bJ:=by decide
theorem xy {l:List Nat} (h1:1 <= l.length) (h2:l.length <= 9) (h:∀ c∈l,48 <= c/\c <= 57):1 <= [l].length/\[l].length <= 1/\∀ x∈[l],1 <= x.length/\x.length <= 9/\∀ c∈x,c∈bJ:=⟨Nat.le_refl 1,Nat.le_refl 1,λ x hx=>by
 rw [List.mem_singleton.mp hx]
 exact ⟨h1,h2,λ c hc=>pY c (h c hc).1 (h c hc).2⟩⟩
theorem Mr (n:Nat):48 <= 48 + n % 10/\48 + n % 10 <= 57:=⟨Nat.le_add_right _ _,Nat.add_le_add_left (Nat.le_of_lt_succ (Nat.mod_lt _ (by decide))) 48⟩
theorem qe {l:List (List Nat)} {k:Nat} (hl:k < l.length) (h:∀ s∈l,s∈cJ++b5):1 <= (jG (l.getD k [])).length/\(jG (l.getD k [])).length <= 9/\∀ x∈jG (l.getD k []),1 <= x.length/\x.length <= 9/\∀ c∈x,c∈bJ:=by
 rw [List.getD_eq_getElem?_getD,List.getElem?_eq_getElem hl]
 exact xE (wA _ (h _ (List.getElem_mem hl)))
theorem GG {y m d w:Nat} (hm1:1 <= m) (hm:m <= 12) (hd:d < 10000) (hw:w < 7):∀ t∈bi,1 <= (WY y m d w t).length/\(WY y m d w t).length <= cap t/\∀ x∈WY y m d w t,1 <= x.length/\x.length <= 9/\∀ c∈x,c∈bJ:=λ t ht=>by
 rcases ie ht with ⟨hp,_⟩ | ⟨c,hc,rfl⟩
 ·simp only [bU,List.mem_cons,List.not_mem_nil,or_false] at hp
  rcases hp with rfl | rfl | rfl | rfl | rfl | rfl
  ·exact p7 hd
  ·exact p7 (Nat.lt_of_le_of_lt hm (by decide))
  ·exact xy (l:=Gz y) (show 1 <= 2 by decide) (show 2 <= 9 by decide) (λ c hc=>by
    simp only [Gz,List.mem_cons,List.not_mem_nil,or_false] at hc
    rcases hc with rfl | rfl <;> exact Mr _)
  ·exact xy (l:=DJ y) (show 1 <= 4 by decide) (show 4 <= 9 by decide) (λ c hc=>by
    simp only [DJ,List.mem_cons,List.not_mem_nil,or_false] at hc
    rcases hc with rfl | rfl | rfl | rfl <;> exact Mr _)
  ·exact qe (l:=cJ) (show m - 1 < 12 by lia) (λ s hs=>List.mem_append_left _ hs)
  ·exact qe (l:=b5) hw (λ s hs=>List.mem_append_right _ hs)
 ·rw [tt y m d w c hc]
  refine ⟨Nat.le_refl 1,D5 _ ht,λ x hx=>?_⟩
  rw [List.mem_singleton.mp hx]
  exact ⟨Nat.le_refl 1,(show 1 <= 9 by decide),λ z hz=>by rw [List.mem_singleton.mp hz];exact hc⟩
theorem GF {y m d w:Nat} (hm1:1 <= m) (hm:m <= 12) (hd:d < 10000) (hw:w < 7):WF (WY y m d w):=
 have key:=@GG y m d w hm1 hm hd hw
 ⟨λ t ht=>(key t ht).1,λ t ht=>(key t ht).2.1,λ t ht=>(key t ht).2.2⟩
structure Pl (n:Nat) (s:List Nat):Prop where
 l:s.length <= n
 c:∀ c∈s,c∈bJ
theorem Pl.lt {n:Nat} {s:List Nat} (h:Pl n s):∀ c∈s,c < 1114112:=λ c hc=>by have:=qK c (h.c c hc);lia
theorem Pl.app {n k:Nat} {s u:List Nat} (h:Pl n s) (h2:Pl k u):Pl (n + k) (s++u):=⟨by rw [List.length_append];have:=h.l;have:=h2.l;lia,λ c hc=>by
 rcases List.mem_append.mp hc with hc | hc
 ·exact h.c c hc
 ·exact h2.c c hc⟩
theorem Pl.up {n k:Nat} {s:List Nat} (h:Pl n s) (hk:n <= k):Pl k s:=⟨by have:=h.l;lia,h.c⟩
theorem fw (a:Int) {n:Nat} (h:0 < n):∃ k:Nat,a % (n:Int)=(k:Int)/\k < n:=by
 have h1:=Int.emod_nonneg a (show (n:Int) ≠ 0 by lia)
 have h2:=Int.emod_lt_of_pos a (show (0:Int) < (n:Int) by lia)
 exact ⟨(a % (n:Int)).toNat,by lia,by lia⟩
theorem nj {pk:List Int} (hl:pk.length=12) (a:Int):∃ v,bO (eM pk) (.int (a % 12))=.ok (.int v):=by
 obtain ⟨k,hk,hk12⟩:=fw a (n:=12) (by lia)
 have hkl:k < pk.length:=by lia
 refine ⟨pk[k],?_⟩
 rw [show a % 12=(k:Int) from hk]
 exact zH (List.getElem?_eq_getElem hkl)
theorem wN {W:List Nat->List (List Nat)} (hW:WF W) {t:List Nat} (ht:t∈bi) (a:Int):∃ x,bO (aX (W t)) (.int (a % ((W t).length:Int)))=.ok (.str x)/\Pl 9 x:=by
 obtain ⟨k,hk,hkl⟩:=fw a (n:=(W t).length) (hW.pos t ht)
 refine ⟨(W t)[k],?_,?_⟩
 ·rw [hk]
  exact c0 (cb (by rw [List.getElem?_map,List.getElem?_eq_getElem hkl];rfl))
 ·have:=hW.pl t ht _ (List.getElem_mem hkl)
  exact ⟨this.2.1,this.2.2⟩
theorem EB {s:List Nat} (h:∀ c∈s,c < 1114112):cz (.str s) (.str [])=.ok s.isEmpty:=by
 rw [na h (by simp)]
 cases s <;> rfl
theorem BM {s:List Nat} (h:Pl 500 s):∃ tx,um (.str s) none (some 20)=.ok (.str tx)/\Pl 20 tx/\(1 <= s.length->1 <= tx.length):=by
 have hl:=h.l
 refine ⟨s.take 20,?_,⟨by rw [List.length_take];lia,λ c hc=>h.c c (List.mem_of_mem_take hc)⟩,λ h1=>by rw [List.length_take];lia⟩
 rw [nb (by lia)]
 congr 2
 unfold gz
 rw [HT.sIx_none,show (20:Int)=((20:Nat):Int) from rfl,HT.sIx_nat]
 simp
theorem DG {i:Nat} {δ:Ev} {mb:List Nat} (h:ae i δ=.ok (.str mb)) (hm:Pl 400 mb):∃ tx,zC (bC cz (ae i) (mC (.str []))) (jW (m2 aT (ae i) (mC (.str [120]))) (dD) (mP (mC (.int 20)))) (jW (ae i) (dD) (mP (mC (.int 20)))) δ=.ok (.str tx)/\Pl 20 tx/\1 <= tx.length:=by
 have q:=aA (o:=cz) h (fb:=mC (.str [])) rfl (EB hm.lt)
 cases mb with
 | nil =>
  obtain ⟨tx,e1,h1,h2⟩:=BM (s:=[]++[120]) ⟨by decide,by decide⟩
  exact ⟨tx,(G0 q).trans (gh (ak h rfl (fB (by decide))) rfl rfl e1),h1,h2 (by decide)⟩
 | cons a mb =>
  obtain ⟨tx,e1,h1,h2⟩:=BM (hm.up (by decide))
  exact ⟨tx,(GZ q).trans (gh h rfl rfl e1),h1,h2 (Nat.succ_le_succ (Nat.zero_le _))⟩
theorem Ac {ps:List bc} {j:Nat} {p:bc} (q:ps[j]?=some p) (hl:(aN ps).length <= 30):(aN (ps.take (j + 1))).length=(aN (ps.take j)).length + p.2.length/\(aN (ps.take j)).length + p.2.length <= 30:=by
 have h:(aN (ps.take (j + 1))).length=(aN (ps.take j)).length + p.2.length:=by
  unfold aN
  rw [List.take_add_one,q,Option.toList_some,List.flatMap_append,List.length_append,List.flatMap_singleton]
 exact ⟨h,h ▸ Nat.le_trans (lu ps (j + 1)) hl⟩
theorem zZ {pk:List Int} (h:pk.length=12):b3 (eM pk)=.ok (.int 12):=by show R.ok (D.int ((pk.map D.int).length:Int))=_;rw [List.length_map,h];rfl
theorem xk {l:List (List Nat)}:b3 (aX l)=.ok (.int (l.length:Int)):=by show R.ok (D.int ((l.map D.str).length:Int))=_;rw [List.length_map]
theorem Bz {n:Nat} {mb x:List Nat} (hm:Pl n mb) (hn:n <= 400) (hp:Pl 9 x):aT (.str mb) (.str x)=.ok (.str (mb++x)):=fB (by have:=hm.l;have:=hp.l;lia)
theorem F8 {a l m i:Nat} (h:a + l <= 30) (hi:i < l):9 * a + 9 * i <= 400:=by lia
section
variable {W W':List Nat->List (List Nat)} {ps:List bc} {Q Q':D} {pk:List Int}
noncomputable def tE (P Q:D) (pk:List Int) (mb:List Nat) (k:Int) (a b c d e f:Option Sl):Ev:=[some (.sh P),some (.sh Q),some (.sh (eM pk)),some (.sh (.str mb)),some (.sh (.int k)),a,b,c,d,e,f]
inductive WrS (P Q:D) (pk:List Int) (n:Nat) (a b c d:Option Sl) (F:SR):Prop
 | mk (mb:List Nat) (k:Int) (h:Pl n mb) (e f:Option Sl) (q:F=.next (tE P Q pk mb k a b c d e f))
theorem uW (hW:WF W) (hQ:∀ t∈bi,aS [.str t,Q]=.ok (aX (W t))) (hpk:pk.length=12) {P:D} {la tk:Option Sl} {mb:List Nat} {n:Nat} (hm:Pl n mb) (hn:n <= 400) {k:Int} {th:Bool} {t:List Nat} (ht:t∈bi) (x9 x10:Option Sl) :
  WrS P Q pk (n + 9) la tk (some (.sh (.bl th))) (eY t) (cZ (tE P Q pk mb k la tk (some (.sh (.bl th))) (eY t) x9 x10)):=by
 obtain ⟨v,hv⟩:=nj hpk k
 obtain ⟨x,hx,hp⟩:=wN hW ht v
 have e:∀ {mb'},c7 (mT (ae 7)) (aJ 3 (m2 aT (ae 3) (m2 bO (ae 9) (m2 bp (ae 10) (m1 b3 (ae 9)))))) (SR.next) (tE P Q pk mb k la tk (some (.sh (.bl th))) (eY t) (some (.sh (aX (W t)))) (b4 v))=.next (tE P Q pk mb' k la tk (some (.sh (.bl th))) (eY t) (some (.sh (aX (W t)))) (b4 v))->cZ (tE P Q pk mb k la tk (some (.sh (.bl th))) (eY t) x9 x10)=.next (tE P Q pk mb' (k + 1) la tk (some (.sh (.bl th))) (eY t) (some (.sh (aX (W t)))) (b4 v)):=λ h =>
  (ac (ao (ax rfl (hQ t ht)))).trans ((ac (ao (ak rfl (ak rfl (ce rfl (zZ hpk)) (ay k (by decide))) hv))).trans ((ac h).trans (ao rfl)))
 cases th with
 | true=>exact ⟨mb++x,k + 1,hm.app hp,_,_,e ((aZ rfl).trans (ao (ak rfl (ak rfl (ak rfl (ce rfl xk) (ay v (Int.natCast_pos.mpr (hW.pos t ht)))) hx) (Bz hm hn hp))))⟩
 | false=>exact ⟨mb,k + 1,hm.up (Nat.le_add_right n 9),_,_,e (aK rfl)⟩
inductive WrJ (P Q:D) (pk:List Int) (n:Nat) (a b c:Option Sl) (i:Nat) (δ:Ev):Prop
 | mk (mb:List Nat) (k:Int) (h:Pl (n + 9 * i) mb) (d e f:Option Sl) (q:δ=tE P Q pk mb k a b c d e f)
inductive WrI (P Q:D) (pk:List Int) (ps:List bc) (j:Nat) (δ:Ev):Prop
 | mk (mb:List Nat) (k:Int) (h:Pl (9 * (aN (ps.take j)).length) mb) (a b c d e f:Option Sl) (q:δ=tE P Q pk mb k a b c d e f)
theorem xu (hW:WF W) (hQ:∀ t∈bi,aS [.str t,Q]=.ok (aX (W t))) (hpk:pk.length=12) (hv:∀ p∈ps,∀ t∈p.2,t∈bi) (hl:(aN ps).length <= 30):∃ tx,cW [bj ps,Q,eM pk]=.ok (.str tx)/\Pl 20 tx/\1 <= tx.length:=by
 obtain ⟨δ',e,I⟩:=ck (fit:=λ δ=>((ae 0) δ).bind br) (bd:=j9 2 (bw (bN 5) (bw (bN 6) (ga)))) (F:=iQ) (δ:=tE (bj ps) Q pk [] 0 none none none none none none) (ds:=ps.map oJ)
  (WrI (bj ps) Q pk ps) rfl ⟨[],0,⟨Nat.zero_le _,λ c z=>nomatch z⟩,none,none,none,none,none,none,rfl⟩ (λ j dd δ hd hI=>by
   obtain ⟨mb,k,hm,x5,x6,x7,x8,x9,x10,rfl⟩:=hI
   obtain ⟨p,q,rfl⟩:=pL hd
   have htk:=Ac q hl
   obtain ⟨v,hvv⟩:=nj hpk k
   obtain ⟨δ2,e2,⟨mb2,k2,hm2,y8,y9,y10,rfl⟩⟩:=eG (f:=D.str) (l:=p.2) (i:=8) (fit:=λ δ=>((ae 6) δ).bind br) (F:=cZ) (δ:=tE (bj ps) Q pk mb (k + 1) (b4 (if p.1 then 1 else 0)) (some (.sh (.lst (p.2.map D.str)))) (some (.sh (.bl ((if p.1 then 1 else 0:Int) == 0 || v % 2 == 0)))) x8 x9 x10)
    (WrJ (bj ps) Q pk (9 * (aN (ps.take j)).length) (b4 (if p.1 then 1 else 0)) (some (.sh (.lst (p.2.map D.str)))) (some (.sh (.bl ((if p.1 then 1 else 0:Int) == 0 || v % 2 == 0))))) rfl ⟨mb,k + 1,hm,x8,x9,x10,rfl⟩ (λ i t δ hi hJ=>by
     obtain ⟨mb,k,hm,y8,y9,y10,rfl⟩:=hJ
     obtain ⟨mb',k',hm',z9,z10,e1⟩:=uW (P:=bj ps) (la:=b4 (if p.1 then 1 else 0)) (tk:=some (.sh (.lst (p.2.map D.str)))) (k:=k) (th:=(if p.1 then 1 else 0:Int) == 0 || v % 2 == 0) hW hQ hpk hm (F8 (m:=0) htk.2 (List.getElem?_eq_some_iff.mp hi).1) (hv p (List.mem_of_getElem? q) t (List.mem_of_getElem? hi)) y9 y10
     exact ⟨_,.inl e1,⟨mb',k',hm',eY t,z9,z10,rfl⟩⟩)
   exact ⟨_,_,rfl,.inl ((ac (ao (uB (ak rfl rfl rfl) (ak (ak (ak rfl (ak rfl (ce rfl (zZ hpk)) (ay k (by decide))) hvv) rfl (ay v (j:=2) (by decide))) rfl rfl)))).trans ((ac (ao rfl)).trans e2)),⟨mb2,k2,by rw [htk.1,Nat.mul_add];exact hm2,_,_,_,y8,y9,y10,rfl⟩⟩)
 rw [List.length_map] at I
 obtain ⟨mb,k,hm,x5,x6,x7,x8,x9,x10,rfl⟩:=I
 rw [List.take_length] at hm
 obtain ⟨tx,e1,h1⟩:=DG (i:=3) (δ:=tE (bj ps) Q pk mb k x5 x6 x7 x8 x9 x10) rfl (hm.up (by lia))
 exact ⟨tx,aP ((ac (ao rfl)).trans ((ac (ao rfl)).trans ((ac e).trans (bh e1)))),h1⟩
noncomputable def uE (P Q Q':D) (pk:List Int) (mb:List Nat) (k:Int) (a b c d e:Option Sl):Ev:=[some (.sh P),some (.sh Q),some (.sh Q'),some (.sh (eM pk)),some (.sh (.str mb)),some (.sh (.int k)),a,b,c,d,e]
inductive ByS (P Q Q':D) (pk:List Int) (n:Nat) (a b c d:Option Sl) (F:SR):Prop
 | mk (mb:List Nat) (k:Int) (h:Pl n mb) (e:Option Sl) (q:F=.next (uE P Q Q' pk mb k a b c d e))
inductive ByQ (Q Q':D) (v:Int):Prop
 | mk (V:List Nat->List (List Nat)) (q:D) (h:WF V) (e:bO (.lst [Q,Q']) (.int (v / 5 % 2))=.ok q) (w:∀ t∈bi,aS [.str t,q]=.ok (aX (V t)))
theorem Lr (hW:WF W) (hQ:∀ t∈bi,aS [.str t,Q]=.ok (aX (W t))) (hW':WF W') (hQ':∀ t∈bi,aS [.str t,Q']=.ok (aX (W' t))) (v:Int):ByQ Q Q' v:=by
 rcases Int.emod_two_eq (v / 5) with h | h
 ·exact ⟨W,Q,hW,by rw [h];rfl,hQ⟩
 ·exact ⟨W',Q',hW',by rw [h];rfl,hQ'⟩
theorem vH (hW:WF W) (hQ:∀ t∈bi,aS [.str t,Q]=.ok (aX (W t))) (hW':WF W') (hQ':∀ t∈bi,aS [.str t,Q']=.ok (aX (W' t))) (hpk:pk.length=12) {P:D} {la tk:Option Sl} {mb:List Nat} {n:Nat} (hm:Pl n mb) (hn:n <= 400) {k:Int} {th:Bool} {t:List Nat} (ht:t∈bi) (x10:Option Sl) :
  ByS P Q Q' pk (n + 9) la tk (some (.sh (.bl th))) (eY t) (dr (uE P Q Q' pk mb k la tk (some (.sh (.bl th))) (eY t) x10)):=by
 obtain ⟨v,hv⟩:=nj hpk k
 obtain ⟨V,q,hV,hix,hw⟩:=Lr hW hQ hW' hQ' v
 obtain ⟨x,hx,hp⟩:=wN hV ht (v / 10)
 have e:∀ {mb'},c7 (mT (ae 8)) (aJ 4 (m2 aT (ae 4) (m2 bO (ae 10) (m2 bp (m2 cY (m2 bO (ae 3) (m2 bp (ae 5) (mC (.int 12)))) (mC (.int 10))) (m1 b3 (ae 10)))))) (SR.next) (uE P Q Q' pk mb k la tk (some (.sh (.bl th))) (eY t) (some (.sh (aX (V t)))))=.next (uE P Q Q' pk mb' k la tk (some (.sh (.bl th))) (eY t) (some (.sh (aX (V t)))))->dr (uE P Q Q' pk mb k la tk (some (.sh (.bl th))) (eY t) x10)=.next (uE P Q Q' pk mb' (k + 1) la tk (some (.sh (.bl th))) (eY t) (some (.sh (aX (V t))))):=λ h =>
  (ac (ao (ax (xs:=[.str t,q]) (av rfl (av (ak rfl (ak (ak (ak rfl (ak rfl rfl (ay k (by decide))) hv) rfl (bI v (by decide) (by decide))) rfl (ay _ (by decide))) hix) rfl)) (hw t ht)))).trans ((ac h).trans (ao rfl))
 cases th with
 | true=>exact ⟨mb++x,k + 1,hm.app hp,_,e ((aZ rfl).trans (ao (ak rfl (ak rfl (ak (ak (ak rfl (ak rfl rfl (ay k (by decide))) hv) rfl (bI v (by decide) (by decide))) (ce rfl xk) (ay _ (Int.natCast_pos.mpr (hV.pos t ht)))) hx) (Bz hm hn hp))))⟩
 | false=>exact ⟨mb,k + 1,hm.up (Nat.le_add_right n 9),_,e (aK rfl)⟩
inductive ByJ (P Q Q':D) (pk:List Int) (n:Nat) (a b c:Option Sl) (i:Nat) (δ:Ev):Prop
 | mk (mb:List Nat) (k:Int) (h:Pl (n + 9 * i) mb) (d e:Option Sl) (q:δ=uE P Q Q' pk mb k a b c d e)
inductive ByI (P Q Q':D) (pk:List Int) (ps:List bc) (j:Nat) (δ:Ev):Prop
 | mk (mb:List Nat) (k:Int) (h:Pl (9 * (aN (ps.take j)).length) mb) (a b c d e:Option Sl) (q:δ=uE P Q Q' pk mb k a b c d e)
theorem xG (hW:WF W) (hQ:∀ t∈bi,aS [.str t,Q]=.ok (aX (W t))) (hW':WF W') (hQ':∀ t∈bi,aS [.str t,Q']=.ok (aX (W' t))) (hpk:pk.length=12) (hv:∀ p∈ps,∀ t∈p.2,t∈bi) (hl:(aN ps).length <= 30):∃ tx,dG [bj ps,Q,Q',eM pk]=.ok (.str tx)/\Pl 20 tx/\1 <= tx.length:=by
 obtain ⟨δ',e,I⟩:=ck (fit:=λ δ=>((ae 0) δ).bind br) (bd:=j9 2 (bw (bN 6) (bw (bN 7) (ga)))) (F:=jt) (δ:=uE (bj ps) Q Q' pk [] 0 none none none none none) (ds:=ps.map oJ)
  (ByI (bj ps) Q Q' pk ps) rfl ⟨[],0,⟨Nat.zero_le _,λ c z=>nomatch z⟩,none,none,none,none,none,rfl⟩ (λ j dd δ hd hI=>by
   obtain ⟨mb,k,hm,x6,x7,x8,x9,x10,rfl⟩:=hI
   obtain ⟨p,q,rfl⟩:=pL hd
   have htk:=Ac q hl
   obtain ⟨v,hvv⟩:=nj hpk k
   obtain ⟨δ2,e2,⟨mb2,k2,hm2,y9,y10,rfl⟩⟩:=eG (f:=D.str) (l:=p.2) (i:=9) (fit:=λ δ=>((ae 7) δ).bind br) (F:=dr) (δ:=uE (bj ps) Q Q' pk mb k (b4 (if p.1 then 1 else 0)) (some (.sh (.lst (p.2.map D.str)))) (some (.sh (.bl ((if p.1 then 1 else 0:Int) == 0 || decide (0 < v % 5))))) x9 x10)
    (ByJ (bj ps) Q Q' pk (9 * (aN (ps.take j)).length) (b4 (if p.1 then 1 else 0)) (some (.sh (.lst (p.2.map D.str)))) (some (.sh (.bl ((if p.1 then 1 else 0:Int) == 0 || decide (0 < v % 5)))))) rfl ⟨mb,k,hm,x9,x10,rfl⟩ (λ i t δ hi hJ=>by
     obtain ⟨mb,k,hm,y9,y10,rfl⟩:=hJ
     obtain ⟨mb',k',hm',z10,e1⟩:=vH (P:=bj ps) (la:=b4 (if p.1 then 1 else 0)) (tk:=some (.sh (.lst (p.2.map D.str)))) (k:=k) (th:=(if p.1 then 1 else 0:Int) == 0 || decide (0 < v % 5)) hW hQ hW' hQ' hpk hm (F8 (m:=0) htk.2 (List.getElem?_eq_some_iff.mp hi).1) (hv p (List.mem_of_getElem? q) t (List.mem_of_getElem? hi)) y10
     exact ⟨_,.inl e1,⟨mb',k',hm',eY t,z10,rfl⟩⟩)
   exact ⟨_,_,rfl,.inl ((ac (ao (uB (ak rfl rfl rfl) (ak (ak (ak rfl (ak rfl rfl (ay k (by decide))) hvv) rfl (ay v (j:=5) (by decide))) rfl rfl)))).trans e2),⟨mb2,k2,by rw [htk.1,Nat.mul_add];exact hm2,_,_,_,y9,y10,rfl⟩⟩)
 rw [List.length_map] at I
 obtain ⟨mb,k,hm,x6,x7,x8,x9,x10,rfl⟩:=I
 rw [List.take_length] at hm
 obtain ⟨tx,e1,h1⟩:=DG (i:=4) (δ:=uE (bj ps) Q Q' pk mb k x6 x7 x8 x9 x10) rfl (hm.up (by lia))
 exact ⟨tx,aP ((ac (ao rfl)).trans ((ac (ao rfl)).trans ((ac e).trans (bh e1)))),h1⟩
end
theorem Ma:∀ k,k < 11->[48,49,50,51,32,109,97,106,101,46,47].getD k 0∈bJ:=by decide
theorem Kp {k:Nat} (h:k < 11):bO (.str [48,49,50,51,32,109,97,106,101,46,47]) (.int (k:Int))=.ok (.str [[48,49,50,51,32,109,97,106,101,46,47].getD k 0]):=
 uk (by decide) (by rw [List.getD_eq_getElem?_getD,List.getElem?_eq_getElem (show k < [48,49,50,51,32,109,97,106,101,46,47].length from h)];rfl)
theorem GO {s:List Nat} {q:Nat} (h:s.length <= 20) (hq:q <= s.length):um (.str s) none (some (q:Int))=.ok (.str (s.take q)):=by rw [nb (Nat.le_trans h (by decide)),mW _ hq]
theorem vN {s:List Nat} {q:Nat} (h:s.length <= 20) (hq:q <= s.length):um (.str s) (some (q:Int)) none=.ok (.str (s.drop q)):=by rw [nb (Nat.le_trans h (by decide)),rR _ hq]
theorem Pl.take {n:Nat} {s:List Nat} (h:Pl n s) (q:Nat):Pl n (s.take q):=⟨Nat.le_trans (List.length_take_le' q s) h.l,λ c hc=>h.c c (List.mem_of_mem_take hc)⟩
theorem Pl.drop {n:Nat} {s:List Nat} (h:Pl n s) (q:Nat):Pl n (s.drop q):=⟨Nat.le_trans (by rw [List.length_drop];exact Nat.sub_le _ _) h.l,λ c hc=>h.c c (List.mem_of_mem_drop hc)⟩
theorem Pl.add {n k:Nat} {s u:List Nat} (h:Pl n s) (h2:Pl k u) (hk:n + k <= 1000):aT (.str s) (.str u)=.ok (.str (s++u)):=fB (Nat.le_trans (Nat.add_le_add h.l h2.l) (Nat.le_trans hk (by decide)))
theorem wo {s:List Nat} {q:Nat} (h:q < s.length) (h2:s.length <= 20):(s.take q++s.drop (q + 1)).length <= 20/\(1 < s.length->1 <= (s.take q++s.drop (q + 1)).length):=by
 have e:(s.take q++s.drop (q + 1)).length + 1=s.length:=by
  rw [List.length_append,List.length_take_of_le (Nat.le_of_lt h),List.length_drop,Nat.add_right_comm]
  exact Nat.add_sub_cancel' h
 rw [<- e] at h2 ⊢
 exact ⟨Nat.le_trans (Nat.le_succ _) h2,λ z=>Nat.le_of_lt_succ z⟩
theorem En {s:List Nat} {q x:Nat} (h:q < s.length) (h2:s.length <= 20):(s.take q++[x]++s.drop (q + 1)).length <= 20/\1 <= (s.take q++[x]++s.drop (q + 1)).length:=by
 have e:(s.take q++[x]++s.drop (q + 1)).length=s.length:=by
  rw [List.length_append,List.length_append,List.length_take_of_le (Nat.le_of_lt h),List.length_drop]
  exact Nat.add_sub_cancel' h
 rw [e]
 exact ⟨h2,Nat.lt_of_le_of_lt (Nat.zero_le q) h⟩
theorem vJ {tx:List Nat} (h:Pl 20 tx) (h1:1 <= tx.length) (p c:Int):∃ tx',cV [.str tx,.int p,.int c]=.ok (.str tx')/\Pl 20 tx'/\1 <= tx'.length:=by
 have hl:=h.l
 obtain ⟨q,hq,hql⟩:=fw c (n:=tx.length) h1
 obtain ⟨k,hk,hk11⟩:=fw (c / 20) (n:=11) (by decide)
 have hix:=Kp hk11
 have hx:=Ma k hk11
 generalize [48,49,50,51,32,109,97,106,101,46,47].getD k 0=x at hix hx
 have hP:Pl 1 [x]:=⟨Nat.le_refl 1,λ c hc=>by rw [List.mem_singleton.mp hc];exact hx⟩
 have f1:=GO hl (Nat.le_of_lt hql)
 have f2:um (.str tx) (some ((q:Int) + 1)) none=.ok (.str (tx.drop (q + 1))):=vN hl hql
 have f3:=vN hl (Nat.le_of_lt hql)
 have hlen:=fC (s:=tx) (Nat.le_trans hl (by decide))
 have go:∀ {r:SR},eH [eY tx,b4 p,b4 c,b4 q,eY [x]]=r->gr (aG 5 [.str tx,.int p,.int c])=r:=λ h =>
  (ac (ao ((ak rfl (ce rfl hlen) (ay c (Int.natCast_pos.mpr h1))).trans (by rw [hq])))).trans ((ac (ao (ak rfl ((ak (ak rfl rfl (bI c (j:=20) (by decide) (by decide))) rfl (ay _ (j:=11) (by decide))).trans (by rw [show c / 20 % 11=(k:Int) from hk])) hix))).trans h)
 have t2:gX (bC cz (ae 1) (mC (.int 3))) (bC nF (m1 b3 (ae 0)) (mC (.int 1))) [eY tx,b4 p,b4 c,b4 q,eY [x]]=.ok (p == 3 && decide ((1:Int) < tx.length)):=nK rfl (aA (ce rfl hlen) rfl rfl)
 have t3:gX (bC cz (ae 1) (mC (.int 4))) (bC cz (m2 bp (m2 cY (ae 2) (mC (.int 220))) (mC (.int 2))) (mC (.int 0))) [eY tx,b4 p,b4 c,b4 q,eY [x]]=.ok (p == 4 && (c / 220 % 2 == 0)):=nK rfl (aA (ak (ak rfl rfl (bI _ (by decide) (by decide))) rfl (ay _ (by decide))) rfl rfl)
 cases c1:(p == 3 && decide ((1:Int) < tx.length)) with
 | true =>
  have d:=wo hql hl
  exact ⟨_,aP (go (b6 ((aZ (t2.trans (congrArg R.ok c1))).trans (bh (ak (gh rfl rfl rfl f1) (gh rfl rfl rfl f2) ((h.take q).add (h.drop (q + 1)) (by decide))))))),⟨d.1,((h.take q).app (h.drop (q + 1))).c⟩,d.2 (Int.ofNat_lt.mp (of_decide_eq_true (Bool.and_eq_true_iff.mp c1).2))⟩
 | false =>
  have n2:=aK (F1:=bx (m2 aT (jW (ae 0) (dD) (mP (ae 3))) (jW (ae 0) (mP (m2 aT (ae 3) (mC (.int 1)))) (dD)))) (F2:=SR.next) (t2.trans (congrArg R.ok c1))
  cases c3:(p == 4 && (c / 220 % 2 == 0)) with
  | true =>
   obtain ⟨tx',e1,h2,h3⟩:=BM ((((h.take q).app hP).app (h.drop q)).up (by decide))
   exact ⟨tx',aP (go ((ac n2).trans (b6 ((aZ (t3.trans (congrArg R.ok c3))).trans (bh (gh (ak (ak (gh rfl rfl rfl f1) rfl ((h.take q).add hP (by decide))) (gh rfl rfl rfl f3) (((h.take q).app hP).add (h.drop q) (by decide))) rfl rfl e1)))))),h2,h3 (by rw [List.length_append,List.length_append];exact Nat.le_trans (Nat.le_add_left 1 _) (Nat.le_add_right _ _))⟩
  | false =>
   have n3:=aK (F1:=bx (jW (m2 aT (m2 aT (jW (ae 0) (dD) (mP (ae 3))) (ae 4)) (jW (ae 0) (mP (ae 3)) (dD))) (dD) (mP (mC (.int 20))))) (F2:=SR.next) (t3.trans (congrArg R.ok c3))
   cases c4:(p == 4) with
   | true =>
    have d:=En (x:=x) hql hl
    exact ⟨_,aP (go ((ac n2).trans ((ac n3).trans (b6 ((aZ (congrArg R.ok c4)).trans (bh (ak (ak (gh rfl rfl rfl f1) rfl ((h.take q).add hP (by decide))) (gh rfl rfl rfl f2) (((h.take q).app hP).add (h.drop (q + 1)) (by decide))))))))),⟨d.1,(((h.take q).app hP).app (h.drop (q + 1))).c⟩,d.2⟩
   | false=>exact ⟨tx,aP (go ((ac n2).trans ((ac n3).trans ((ac (aK (congrArg R.ok c4))).trans rfl)))),h,h1⟩
set_option Elab.async false
set_option linter.all false
set_option maxRecDepth 100000
set_option maxHeartbeats 400000
open PySem L2 L3
noncomputable def FX:List (List bc):=[[(false,[[60,109,62],[32],[60,110,62]])],[(true,[[60,110,62],[46]]),(false,[[60,109,62]])],[(false,[[60,121,62],[60,89,62]]),(true,[[60,119,62]])],[(false,[[60,109,62]]),(true,[[60,110,62]]),(true,[[60,100,62]])]]
theorem AT:∀ ps∈FX,OkP ps:=λ ps h=>by
 simp only [FX,List.mem_cons,List.not_mem_nil,or_false] at h
 rcases h with rfl | rfl | rfl | rfl <;> exact ⟨by decide,by decide,by decide,by decide,by decide,by decide⟩
theorem yd {y:Int} (h:0 <= y):∃ k:Nat,y=(k:Int):=⟨y.toNat,(Int.toNat_of_nonneg h).symm⟩
inductive Near (N:D) (n:Int) (i:Nat):Prop
 | mk (Q:D) (y m d w:Nat) (ix:bO N (.int (i:Int))=.ok Q) (hW:WF (WY y m d w)) (hQ:∀ t∈bi,aS [.str t,Q]=.ok (aX (WY y m d w t))) (ok:lG y m d=true) (hn:fg y m d=n + (i:Int)) (hw:fg y m d % 7=(w:Int))
theorem Et {n:Int} {L:List D} (hr:Aj n L) (hn:n <= 3652000) (hl:L.length=40) {i:Nat} (hi:i < 40):Near (.lst L) n i:=by
 have hil:i < L.length:=by rw [hl];exact hi
 obtain ⟨y,m,d,e1,e2,e3⟩:=hr i L[i] (List.getElem?_eq_getElem hil)
 have hok:=CB e2 (by rw [e3];lia)
 have hm:=(ir y e2.2.1 e2.2.2.1).2
 obtain ⟨q1,q2,q3,q4,q5⟩:=e2
 have hy9:y <= 9999:=by
  simp only [lG,Bool.and_eq_true,decide_eq_true_eq] at hok
  exact hok.1.1.1.1.2
 obtain ⟨y,rfl⟩:=yd (Int.le_trans (by decide) q1)
 obtain ⟨m,rfl⟩:=yd (Int.le_trans (by decide) q2)
 obtain ⟨d,rfl⟩:=yd (Int.le_trans (by decide) q4)
 obtain ⟨w,hw,hw7⟩:=fw (n + (i:Int)) (n:=7) (by decide)
 have hw:(n + (i:Int)) % 7=(w:Int):=hw
 rw [hw] at e1
 have m1:=Int.ofNat_le.mp q2
 have m2:=Int.ofNat_le.mp q3
 have hd:d < 10000:=Int.ofNat_lt.mp (Int.lt_of_le_of_lt (Int.le_trans q5 hm) (by decide))
 exact ⟨L[i],y,m,d,w,c0 (cb (List.getElem?_eq_getElem hil)),GF m1 m2 hd hw7,λ t ht=>by rw [e1];exact wn (Int.ofNat_lt.mp (Int.lt_of_le_of_lt hy9 (by decide))) m1 m2 hd hw7 ht,hok,e3,by rw [e3,hw]⟩
noncomputable def mE (S:D) (mx:Bool) (a b c d e f g h:Option Sl):Ev:=[some (.sh S),some (.sh (.bl mx)),a,b,c,d,e,f,g,h]
noncomputable abbrev DT (b:Bool):Option Sl:=some (.sh (.bl b))
noncomputable abbrev qV (d:D):Option Sl:=some (.sh d)
theorem JJ {S:D} {c:Nat->Int} (a:∀ k:Nat,bz [S,.int (k:Int)]=.ok (.int (c k))) {ps:List bc} (h:OkP ps) {mx tw:Bool} {x y z u v w:Option Sl}:∃ ps',OkP ps'/\ti (mE S mx (qV (bj ps)) (DT tw) x y z u v w)=.next (mE S mx (qV (bj ps')) (DT tw) x y z u v w):=by
 cases tw with
 | false=>exact ⟨ps,h,aK rfl⟩
 | true =>
  obtain ⟨k,hk,hk4⟩:=fw (c 1) (n:=4) (by decide)
  have hk':k < FX.length:=hk4
  exact ⟨FX[k],AT _ (List.getElem_mem hk'),(aZ rfl).trans (ao (ak (a:=.lst (FX.map bj)) rfl ((ak (ax rfl (a 1)) rfl (ay _ (j:=4) (by decide))).trans (by rw [show c 1 % 4=(k:Int) from hk])) (c0 (cb (by rw [List.getElem?_map,List.getElem?_eq_getElem hk'];rfl)))))⟩
theorem HR (l:List Nat) {k:Nat} (h:k < l.length):∃ q∈l,bO (.lst (l.map λ (n:Nat)=>D.int (n:Int))) (.int (k:Int))=.ok (.int (q:Int)):=⟨l[k],List.getElem_mem h,c0 (cb (by rw [List.getElem?_map,List.getElem?_eq_getElem h];rfl))⟩
theorem zT {S:D} {c:Nat->Int} (a:∀ k:Nat,bz [S,.int (k:Int)]=.ok (.int (c k))) (l:List Nat) {n:Nat} (hn:l.length=n) (h0:0 < n) (h40:∀ q∈l,q < 40) (h:(l.length <= 1000000)) {δ:Ev} (hS:ae 0 δ=.ok S):∃ q:Nat,q < 40/\m2 bO (b8 (λ _=>.ok (l.map λ (n:Nat)=>D.int (n:Int)))) (m2 bp (aH bz (ah (ae 0) (ah (mC (.int 3)) (ar)))) (mC (.int (n:Int)))) δ=.ok (.int (q:Int)):=by
 obtain ⟨k,hk,hk4⟩:=fw (c 3) h0
 obtain ⟨q,hq,hix⟩:=HR l (by rw [hn];exact hk4)
 refine ⟨q,h40 q hq,ak (bF rfl (if_pos (by rw [List.length_map];exact h))) (ak (ax (av hS rfl) (a 3)) rfl (ay _ (Int.natCast_pos.mpr h0))) ?_⟩
 rw [hk];exact hix
theorem main (ns:List Int) (_:ns.length <= 63):Cm [.lst (ns.map D.int)]=.ok (.bl true):=by
 generalize hS:D.lst (ns.map D.int)=S
 have a:∀ k:Nat,bz [S,.int (k:Int)]=.ok (.int (cell ns k)):=λ k=>hS ▸ Js ns k
 clear hS
 generalize cell ns=c at a
 have e0:s0 (aG 10 [S])=.next (mE S (c 0 % 2 == 0) none none none none none none none none):=ao (ak (ak (ax rfl (a 0)) rfl (ay _ (by decide))) rfl rfl)
 generalize (c 0 % 2 == 0)=mx at e0
 obtain ⟨ps0,eb,kk,hbi,hk1,hk4⟩:=BF (c 1) mx
 obtain ⟨ps,hp,e3⟩:=JJ a (hbi.ok hk1 hk4) (mx:=mx) (tw:=c 6 % 4 == 1) (x:=none) (y:=none) (z:=none) (u:=none) (v:=none) (w:=none)
 have e2:tf (mE S mx (qV (bj ps0)) none none none none none none none)=.next (mE S mx (qV (bj ps0)) (DT (c 6 % 4 == 1)) none none none none none none):=ao (ak (ak (ax rfl (a 6)) rfl (ay _ (by decide))) rfl rfl)
 generalize (c 6 % 4 == 1)=tw at e2 e3
 have hfm:=Eh (ps:=ps) (Nat.le_trans hp.hi (by decide))
 have htk:(aN ps).length <= 30:=Nat.le_trans (mR hp.v) hp.hi
 obtain ⟨y,m,d,ef,hy1,hy2,hm1,hm2,hd1,hd2⟩:=ub (c 2) mx
 obtain ⟨L,ew,hL,hrun⟩:=DF y m d 40 ⟨hy1,hm1,hm2,hd1,hd2⟩ (by decide) (by decide)
 have hnum:=lx y m d hm1 hm2
 have hn9:=Int.le_trans (Ez hy1 hy2 hm1 hm2 hd1 hd2).2 (show (3650963:Int) <= 3652000 by decide)
 have hat:=λ (i:Nat) (hi:i < 40)=>Et hrun hn9 hL hi
 generalize D.lst L=N at ew hat
 obtain ⟨k6,hk6,e6⟩:=zT a [0,0,1,7,31,39] rfl (by decide) (by decide) (by decide) (δ:=mE S mx (qV (bj ps)) (DT tw) (qV (Bs y m d)) (qV N) none none none none) rfl
 obtain ⟨pk,hd,hpl,hpb⟩:=v5 (c 4) mx (n:=12) (m:=1000) (by decide) (by decide) (by decide)
 obtain ⟨Q6,y6,m6,d6,w6,ix6,hW6,hQ6,_,_,_⟩:=hat k6 hk6
 obtain ⟨tx0,etx,hpx0,hx10⟩:=xu hW6 hQ6 hpl hp.v htk
 obtain ⟨Q,y0,m0,d0,w,ix0,hW,hQ,hok,hn,hw⟩:=hat 0 (by decide)
 obtain ⟨tx1,hpx1,hx11,e9⟩:∃ tx',Pl 20 tx'/\1 <= tx'.length/\tj (mE S mx (qV (bj ps)) (DT tw) (qV (Bs y m d)) (qV N) (b4 k6) (Kq pk) (eY tx0) none)=.next (mE S mx (qV (bj ps)) (DT tw) (qV (Bs y m d)) (qV N) (b4 k6) (Kq pk) (eY tx') none):=by
  have t:=i6 (f:=mT (ae 3)) (a:=tw) (δ:=mE S mx (qV (bj ps)) (DT tw) (qV (Bs y m d)) (qV N) (b4 k6) (Kq pk) (eY tx0) none) rfl (aA (o:=nF) (ak (o:=bp) (ax (m:=bz) (fs:=ah (ae 0) (ah (mC (.int 5)) ar)) rfl (a 5)) (fb:=mC (.int 7)) rfl (ay _ (by decide))) (fb:=mC (.int 4)) rfl (EC _ _))
  generalize (tw || decide ((4:Int) < c 5 % 7))=z at t
  cases z with
  | false=>exact ⟨tx0,hpx0,hx10,aK t⟩
  | true =>
   obtain ⟨q,hq,e7⟩:=zT a [31,1,39,7] rfl (by decide) (by decide) (by decide) (δ:=mE S mx (qV (bj ps)) (DT tw) (qV (Bs y m d)) (qV N) (b4 k6) (Kq pk) (eY tx0) none) rfl
   obtain ⟨Q7,y7,m7,d7,w7,ix7,hW7,hQ7,_,_,_⟩:=hat q hq
   obtain ⟨tx',et,h1,h2⟩:=xG hW hQ hW7 hQ7 hpl hp.v htk
   exact ⟨tx',h1,h2,(aZ t).trans (ao (ax (av rfl (av (ak rfl rfl ix0) (av (ak rfl e7 ix7) rfl))) et))⟩
 obtain ⟨tx,ech,hpx,hx1⟩:=vJ hpx1 hx11 (c 5 % 7) (c 5 / 7)
 obtain ⟨hgv,hgw⟩:=xU (W:=WY y0 m0 d0 w) hp
 obtain ⟨b,efit,hb⟩:=Ef hok hw hp hx1 hpx.l hpx.c hgv
 rw [hn,show fg y m d + ((0:Nat):Int)=fg y m d from Int.add_zero _] at efit
 have hbe:decide (tx∈gU (WY y0 m0 d0 w) [[]] ps)=b:=by
  have:b=true ↔ tx∈gU (WY y0 m0 d0 w) [[]] ps:=by rw [hb,GB,hgw,Ep]
  cases b with
  | true=>exact decide_eq_true (this.mp rfl)
  | false=>exact decide_eq_false λ z=>Bool.noConfusion (this.mpr z)
 have hin:sx (.str tx) (aX (gU (WY y0 m0 d0 w) [[]] ps))=.ok b:=hbe ▸ wf tx _
 have e12:vw (mE S mx (qV (bj ps)) (DT tw) (qV (Bs y m d)) (qV N) (b4 k6) (Kq pk) (eY tx) (DT b))=.ret (.bl true):=by
  refine (bh (mS rfl (ak rfl (ak rfl (ax (av rfl (av (ak rfl rfl ix0) rfl)) (vC hW hp hQ)) (congrArg BC hin)) (congrArg BC (Ht b b))))).trans ?_
  rw [beq_self_eq_true];rfl
 exact aP ((ac e0).trans ((ac (ao (ax (av (ax rfl (a 1)) rfl) eb))).trans ((ac e2).trans ((ac e3).trans ((ac (ao (ax (av (ax rfl (a 2)) rfl) ef))).trans ((ac (ao (ax rfl ew))).trans ((ac (ao e6)).trans
  ((ac (ao (ax (av (ax rfl (a 4)) rfl) hd))).trans ((ac (ao (ax (av rfl (av (ak rfl rfl ix6) rfl)) etx))).trans ((ac e9).trans ((ac (ao (ax (av rfl (av (ak (ax rfl (a 5)) rfl (ay _ (by decide))) (av (ak (ax rfl (a 5)) rfl (bI _ (by decide) (by decide))) rfl))) ech))).trans
  ((ac (ao (ax (av (ax rfl hfm) (av rfl (av (ax (av (ak rfl rfl rfl) (av (ak rfl rfl rfl) (av (ak rfl rfl rfl) rfl))) hnum) rfl))) efit))).trans e12))))))))))))
end Lw
open PySem PySem.W PyProof.Rows
set_option maxRecDepth 100000 in
set_option maxHeartbeats 0 in
theorem PySem.Challenge.cw_inkdays_k11_written_in_a_form_holds : PySem.Challenge.rw_inkdays_k11_written_in_a_form.Holds := by
 w_on;o_law;z_head;(case hw=>w_witness2)
 k_fill
 refine L3.FM (Lw.walk (l:=PySem.Challenge.rw_inkdays_k11_written_in_a_form) rfl rfl (λ w h Y=>Y) ?F) (λ _=>by kernel_rfl)
 case F =>
  intro w mg fa h KX G hmg
  refine' Lw.GI Lw.main KX G hmg ?u0 ?u1 ?u2 ?u3 ?u4 ?u5 ?u6 ?u7 ?u8 ?u9 ?u10 ?u11 ?u12 ?u13 ?u14 ?u15 ?u16 ?u17 ?u18 ?u19 ?u20 ?u21 ?u22 ?u23 ?u24 ?u25 ?u26 ?u27 ?u28 ?u29 ?u30 ?u31 ?u32 ?u33 ?u34 ?u35 ?u36 ?u37 ?u38 ?u39 ?u40 ?u41 ?u42 ?v_PLACES ?u43 ?y_PLAIN_SIGNS' ?u44 ?u45 ?u46 ?u47 ?u48 ?u49 ?u50 ?v_COMMON_LENGTHS ?u51 ?u52 ?v_WEEKDAYS ?u53 ?u54 ?v_MONTHS ?u55 ?u56 ?u57 ?u58 ?u59 ?u60 ?u61 ?u62 ?u63 ?u64 ?u65 ?e_BadForm ?e_BadText ?e_NoSuchDay
  case u0|u1|u2|u3|u4|u5|u6|u7|u8|u9|u10|u11|u12|u13|u14|u15|u16|u17|u18|u19|u20|u21|u22|u23|u24|u25|u26|u27|u28|u29|u30|u31|u32|u33|u34|u35|u36=>(refine' L3.FF.mk ?xa ?xl ?xd ?xp;case xa|xl|xd|xp=>k_is)
  case u37|u38|u39|u40|u41|u42|u43|u44|u45|u46|u47|u48|u49|u50|u51|u52|u53|u54|u55|u56|u57|u58|u59|u60|u61|u62|u63|u64|u65=>k_is
  (case v_PLACES=>repeat (first | exact .nil | refine .cons ⟨_,rfl⟩ ?_))
  (case y_PLAIN_SIGNS'=>decide +kernel)
  (case v_COMMON_LENGTHS=>repeat (first | exact .nil | refine .cons ⟨_,rfl⟩ ?_))
  (case v_WEEKDAYS=>repeat (first | exact .nil | refine .cons ⟨_,rfl⟩ ?_))
  (case v_MONTHS=>repeat (first | exact .nil | refine .cons ⟨_,rfl⟩ ?_))
  (case e_BadForm=>k_exc)
  (case e_BadText=>k_exc)
  (case e_NoSuchDay=>k_exc)
