import PyProof.Rows.All
import Wide.All
import OpenK.AllK
import Wide.FinOn
import Lean
import PyProof.EqAt
import PyProof.EqKinds
import PyProof.TupleCall
import KE.KDictOf
import PyProof.AttrMissHeap
import PyProof.StrWalks
import PyProof.StrBlockI
import PyProof.FString5
import PyProof.SetRoads
import PyProof.SetNew
import PyProof.TupleKey
import PyProof.InstEq
import PySem.SetOps
import PyProof.Rows.SetFrom
import KE.KTryMore
import PyProof.NsDelKeeps
import KE.KIsAll
import KE.KItemsList
import KE.KSortTup
import KE.KDictSum
import KE.KLam
import KE.KNestM
import KE.KSortTup
import PySem.Challenge.RW_satchelmeet_k60_prices_judged
open List renaming length_map → zA,mem_of_getElem? → zB,mem_append_right → zC,getElem?_eq_getElem → zD,getElem?_map → zF,mem_singleton → zG,length_append → zH,getElem?_eq_some_iff → zI,map_append → zJ,size_toArray → zL,mem_cons → zO,mem_map → zP,mem_append → zS,length_take → zW,mem_append_left → ze,not_mem_nil → zh,mem_range → zi,take_length → zk,length_cons → zl,take_of_length_le → zm,mem_cons_of_mem → zn,getElem_mem → zp,mem_map_of_mem → zq,length_range → zx,mem_cons_self → z8,length_drop → yF,getElem?_append_right → yK,getD_eq_getElem?_getD → yM,getElem?_append_left → yP,map_map → yR,lookup_cons → yU,all_eq_true → yV,mem_filterMap → yW,length_singleton → yZ,length_set → yc,length_nil → yd,filterMap_cons → ye,replicate_succ → yf,map_cons → yl,all_map → yo
open Nat renaming le_refl → zE,ne_of_lt → zT,not_lt_zero → zU,zero_le → zV,lt_of_lt_of_le → zY,lt_irrefl → zy,le_trans → yH,ne_of_gt → yJ,lt_succ_iff → yO,le_succ → yT,lt_succ_of_lt → yk,two_pow_pos → ym
open PySem.W renaming nsIn → zK,keepIn → zM,mg_of → zR,mg_none_of → zg,kia_one → zu,fnOf → yn
open Bool renaming false_ne_true → zN,false_eq_true → zf,false_and → zo,and_false → yY,true_and → yj
open Int renaming eq_ofNat_of_zero_le → zQ,toNat_natCast → zc,natCast_nonneg → zt,emod_lt_of_pos → yX,zero_add → yh,emod_nonneg → yi
open PySem.F renaming plainAttrs_list → zX,slot_list_append → zZ,type_list_append → za
open PyProof.Rows renaming callWith_type1 → zb,boot_isinstance → zd,boot_list → zj,boot_min → yQ,boot_tuple → yS,boot_max → ya,boot_all → yb
open PySem renaming mem_of_lookup → zv
open Option renaming getD_some → yg
set_option Elab.async false
set_option linter.all false
set_option maxRecDepth 100000
set_option maxHeartbeats 4000000
namespace L2
open PySem PySem.Spec PyProof.Rows
abbrev Key:=Sum Int Str
def J3:Key->Value->Bool
 | .inl k,v=>Value.isInt k v
 | .inr x,v=>Value.isStrOf x v
def Ra (w:World):Key->Int
 | .inl k=>hashInt k
 | .inr x=>hashStr w x
theorem xy:∀ {k:Key}{v:Value},J3 k v=true->(∃ i t,k=Sum.inl i/\v=Value.int i t)\/(∃ x t,k=Sum.inr x/\v=Value.str x t)
 | .inl i,v,h=>by
  obtain ⟨t,e⟩:=Value.isInt_shape (k:=i) (v:=v) h;exact .inl ⟨i,t,rfl,e⟩
 | .inr x,v,h=>by
  obtain ⟨t,e⟩:=Value.isStrOf_shape (x:=x) (v:=v) h;exact .inr ⟨x,t,rfl,e⟩
theorem Lq (a b:Int):decide ((Sum.inl a:Key)=Sum.inl b)=(a == b):=by
 by_cases e:a=b
 ·subst e;simp
 ·have h:¬ (Sum.inl a:Key)=Sum.inl b:=λq=>e (Sum.inl.inj q);rw [decide_eq_false h];exact (beq_eq_false_iff_ne.mpr e).symm
theorem Ln (a b:Str):decide ((Sum.inr a:Key)=Sum.inr b)=decide (a=b):=by
 by_cases e:a=b
 ·subst e;simp
 ·have h:¬ (Sum.inr a:Key)=Sum.inr b:=λq=>e (Sum.inr.inj q);rw [decide_eq_false h,decide_eq_false e]
theorem Lp (a:Int)(b:Str):decide ((Sum.inl a:Key)=Sum.inr b)=false:=decide_eq_false (λq=>nomatch q)
theorem Lo (a:Str)(b:Int):decide ((Sum.inr a:Key)=Sum.inl b)=false:=decide_eq_false (λq=>nomatch q)
def pR (prog:Program)(w:World):PySem.KeyKind prog w Key where
 is:=J3
 hash:=Ra w
 inj:=λv a b ha hb=>by
  rcases xy ha with ⟨i,t,rfl,rfl⟩ | ⟨x,t,rfl,rfl⟩
  ·rcases xy hb with ⟨j,u,rfl,e⟩ | ⟨y,u,rfl,e⟩
   ·injection e with e1 _;rw [e1]
   ·exact nomatch e
  ·rcases xy hb with ⟨j,u,rfl,e⟩ | ⟨y,u,rfl,e⟩
   ·exact nomatch e
   ·injection e with e1 _;rw [e1]
 byValue:=λk v h=>by
  rcases xy h with ⟨i,t,rfl,rfl⟩ | ⟨x,t,rfl,rfl⟩ <;> rfl
 pyHash:=λhv h=>by
  rcases xy hv with ⟨i,t,rfl,rfl⟩ | ⟨x,t,rfl,rfl⟩
  ·exact wpAny_pyHash_int h
  ·exact wpAny_pyHash_str h
 eqBool:=λhu hv h=>by
  rcases xy hu with ⟨i,t,rfl,rfl⟩ | ⟨x,t,rfl,rfl⟩
  ·rcases xy hv with ⟨j,u,rfl,rfl⟩ | ⟨y,u,rfl,rfl⟩
   ·rw [Lq] at h;exact wpAny_eqBool_int h
   ·rw [Lp] at h;exact SeqAt.EqAt.int_str i t y u _ _ _ _ h
  ·rcases xy hv with ⟨j,u,rfl,rfl⟩ | ⟨y,u,rfl,rfl⟩
   ·rw [Lo] at h;exact SeqAt.EqAt.str_int x t j u _ _ _ _ h
   ·rw [Ln] at h;exact wpAny_eqBool_str h
 «strs»:=λk x t v h=>by
  rcases xy h with ⟨i,u,rfl,e⟩ | ⟨y,u,rfl,e⟩
  ·exact nomatch e
  ·injection e with e1 _
   subst e1;cases v <;> rfl
inductive V where
 | bu | bl (b:Bool) | int (i:Int) | str (x:Str) | rS (b:Array UInt8) | LQ (b:UInt64) | ref (a:Addr) | ty (n:String)
 deriving DecidableEq
def RelV:V->Value->Prop
 | .bu,u=>u=Value.none
 | .bl b,u=>u=Value.bool b
 | .int i,u=>∃ t,u=Value.int i t
 | .str x,u=>∃ t,u=Value.str x t
 | .rS b,u=>∃ t,u=Value.bytes b t
 | .LQ b,u=>∃ t,u=Value.float b t
 | .ref a,u=>u=Value.ref a
 | .ty n,u=>u=Value.type n
abbrev Vals:List V->List Value->Prop:=Paired RelV
theorem Vals.length {xs:List V}{us:List Value}(r:Vals xs us):xs.length=us.length:=Paired.length r
theorem Vals.get:∀ {xs:List V}{us:List Value}{i:Nat}{x:V},Vals xs us->xs[i]?=some x->∃ u,us[i]?=some u/\RelV x u
 | _,_,_,_,.nil,e=>by simp at e
 | _,_,0,_,.cons r _,e=>by simp at e;subst e;exact ⟨_,rfl,r⟩
 | _,_,i + 1,x,.cons _ t,e=>by
  obtain ⟨u,h1,h2⟩:=Vals.get (i:=i) (x:=x) t (by simpa using e);exact ⟨u,by simpa using h1,h2⟩
theorem Vals.set {x:V}{u:Value}(r:RelV x u):∀ {xs:List V}{us:List Value} (i:Nat),Vals xs us->Vals (xs.set i x) (us.set i u)
 | _,_,_,.nil=>.nil
 | _,_,0,.cons _ t=>.cons r t
 | _,_,i + 1,.cons q t=>.cons q (Vals.set r i t)
theorem Vals.append:∀ {xs ys:List V}{us ws:List Value},Vals xs us->Vals ys ws->Vals (xs++ys) (us++ws)
 | _,_,_,_,.nil,s=>s
 | _,_,_,_,.cons r t,s=>.cons r (Vals.append t s)
theorem Vals.take:∀ {xs:List V}{us:List Value} (n:Nat),Vals xs us->Vals (xs.take n) (us.take n)
 | _,_,0,_=>.nil
 | _,_,_ + 1,.nil=>.nil
 | _,_,n + 1,.cons r t=>.cons r (Vals.take n t)
theorem Vals.drop:∀ {xs:List V}{us:List Value} (n:Nat),Vals xs us->Vals (xs.drop n) (us.drop n)
 | _,_,0,r=>r
 | _,_,_ + 1,.nil=>.nil
 | _,_,n + 1,.cons _ t=>Vals.drop n t
def L6:Option V->Option Value->Prop
 | some v,some u=>RelV v u
 | none,none=>True
 | _,_=>False
def KV {κ:Type}:List (κ×V)->List (κ×Value)->Prop:=Paired λ(p:κ×V) (q:κ×Value)=>p.1=q.1/\RelV p.2 q.2
def kV:Key->V
 | .inl i=>.int i
 | .inr x=>.str x
inductive HO where
  | lst (xs:List V)
  | tup (xs:List V)
  | dK (fP:List (Key×V)) | dT (fP:List (List Key×V))
  | set (S:Int->Bool) (n:Nat)
  | ins (C dx:Addr) (fs:List (Str×V))
  | own (x:Addr)
  | xd (fs:List (Str×V))
  | met (f x:Addr)
  | OM (lo hi:Int)
  | mW (o:Obj) (u:HO)
  | JM (ps:Array Value)
  | ext (φ:Heap->Prop)
abbrev Hp:=Addr->Option HO
def upd (H:Hp)(a:Addr)(o:HO):Hp:=λb=>if b=a then some o else H b
theorem yq {H:Hp}{a:Addr}{o:HO}:upd H a o a=some o:=by unfold upd;rw [if_pos rfl]
theorem xC {H:Hp}{a b:Addr}{o:HO}(h:b≠a):upd H a o b=H b:=by unfold upd;rw [if_neg h]
theorem pP {H:Hp}{a b:Addr}{o u:HO}(h:H a=some o)(h':H b=some u)(d:o≠u):a≠b:=by intro e;subst e;rw [h] at h';exact d (Option.some.inj h')
theorem xA {H:Hp}{a b:Addr}{o:HO}(h:H a=some o)(h':H b=none):a≠b:=by intro e;subst e;rw [h] at h';cases h'
theorem mF {h:Heap}{o:Obj}(hf:o.isFreed=false:=by rfl)(hd:o.dict=none:=by rfl):∀ ob,(h.push o).get? h.objs.size=some ob->ob.dict=none:=λob e=>by
 rw [Heap.get?_push_size h hf] at e;cases e;exact hd
section
variable (P:Program) (w:World)
def aT (H:Hp)(h:Heap)(a:Addr):HO->Prop
 | .lst xs=>xs.length<=sizeLine/\∃ (ak:List Value) (n:Nat),Vals xs ak/\h.get? a=some { cls:=.type "list", data:=.seq ak.toArray n }
 | .tup xs=>(xs.length<=sizeLine/\∀ ob,h.get? a=some ob->ob.dict=none)/\∃ ak:List Value,Vals xs ak/\IsTup h a ak.toArray
 | .dK fP=>fP.length<=sizeLine/\(a == sysModules)=false/\∃ vs,KV fP vs/\h.DictOf (pR P w) a vs
 | .dT fP=>fP.length<=sizeLine/\(a == sysModules)=false/\∃ xs:List (List Key×Addr×Value),
   Paired (λ(p:List Key×V) (q:List Key×Addr×Value)=>p.1=q.1/\H q.2.1=some (.tup (p.1.map kV))/\RelV p.2 q.2.2) fP xs /\
   ∃ o es ep,h.get? a=some o/\o.ExactDict/\o.data=.dict es ep/\es.toList=xs.map (entryOfKey (tupleKind (pR P w)))/\(xs.map (·.1)).Nodup
 | .set S n=>h.SetOf (intKind P w) a S n
 | .ins C dx fs=>H dx=some (.own a)/\fs.length<=1000/\dx≠a/\h.get? a=some (PySem.W.instObj C dx) /\
   ∃ mA,h.Ns1 dx mA/\(∀ f,L6 (fs.lookup f) (mA f))/\PySem.Within mA (fs.map (·.1))
 | .own _=>∃ o,h.get? a=some o
 | .xd fs=>∃ mA,h.Ns1 a mA/\∀ f,L6 (fs.lookup f) (mA f)
 | .OM lo hi=>∃ t u v,h.get? a=some { cls:=.type "range", data:=.fields #[.int lo t,.int hi u,.int 1 v] }
 | .mW o u=>h.get? a=some o/\aT H h a u
 | .JM ps=>h.get? a=some { cls:=.none,data:=.fields ps }
 | .met f x=>h.get? a=some (PySem.W.methodObj (.ref f) (.ref x))
 | .ext φ=>φ h/\(∃ o,h.get? a=some o)/\∀ h1 h2:Heap,φ h1->(∀ o,h1.get? a=some o->h2.get? a=some o)->φ h2
def fh (H:Hp)(h:Heap):Prop:=∀ a o,H a=some o->aT P w H h a o
end
section
variable {P:Program}{w:World}{H H':Hp}{h h':Heap}{a:Addr}{o:HO}
theorem aT.lt (x:aT P w H h a o):a < h.objs.size:=by
 cases o with
 | lst xs=>obtain ⟨_,_,_,_,e⟩:=x;exact Heap.lt_size e
 | tup xs=>obtain ⟨_,_,_,p⟩:=x;exact p.lt
 | dK fP=>obtain ⟨_,_,_,_,o,_,_,e,_⟩:=x;exact Heap.lt_size e
 | dT fP=>obtain ⟨_,_,_,_,o,_,_,e,_⟩:=x;exact Heap.lt_size e
 | set S n=>obtain ⟨o,_,_,_,e,_⟩:=x;exact Heap.lt_size e
 | ins C dx fs=>obtain ⟨_,_,_,e,_⟩:=x;exact Heap.lt_size e
 | own y=>obtain ⟨_,e⟩:=x;exact Heap.lt_size e
 | xd fs=>obtain ⟨_,⟨_,_,_,e,_⟩,_⟩:=x;exact Heap.lt_size e
 | OM lo hi=>obtain ⟨_,_,_,e⟩:=x;exact Heap.lt_size e
 | mW ob u=>obtain ⟨e,_⟩:=x;exact Heap.lt_size e
 | JM ps=>exact Heap.lt_size (show h.get? a=some _ from x)
 | met f y=>exact Heap.lt_size (show h.get? a=some _ from x)
 | ext φ=>obtain ⟨_,⟨_,e⟩,_⟩:=x;exact Heap.lt_size e
theorem Paired.Nj {α β:Type}{F G:α->β->Prop}:∀ {Nm:List α}{Nl:List β},Paired F Nm Nl->(∀ a b,F a b->G a b)->Paired G Nm Nl
 | _,_,.nil,_=>.nil
 | _,_,.cons r t,f=>.cons (f _ _ r) (Paired.Nj t f)
theorem aT.fD (x:aT P w H h a o)(k:∀ b u,(b=a\/H b=some (.own a))->h.get? b=some u->h'.get? b=some u)
  (ho:∀ b,H b=some (.own a)->H' b=some (.own a)) (ht:∀ b xs,H b=some (.tup xs)->H' b=some (.tup xs)):aT P w H' h' a o:=by
 induction o with
 | lst xs=>obtain ⟨z,ak,n,r,e⟩:=x;exact ⟨z,ak,n,r,k _ _ (.inl rfl) e⟩
 | tup xs=>obtain ⟨z,ak,r,ob,e,c⟩:=x;exact ⟨⟨z.1,λYN e'=>by rw [k _ _ (.inl rfl) e] at e';cases e';exact z.2 _ e⟩,ak,r,ob,k _ _ (.inl rfl) e,c⟩
 | dK fP=>obtain ⟨z,y,vs,r,ob,es,ep,e,c⟩:=x;exact ⟨z,y,vs,r,ob,es,ep,k _ _ (.inl rfl) e,c⟩
 | dT fP=>
  obtain ⟨z,y,xs,r,ob,es,ep,e,c⟩:=x;exact ⟨z,y,xs,Paired.Nj r λp q z=>⟨z.1,ht _ _ z.2.1,z.2.2⟩,ob,es,ep,k _ _ (.inl rfl) e,c⟩
 | set S n=>obtain ⟨ob,es,ep,t,e,c⟩:=x;exact ⟨ob,es,ep,t,k _ _ (.inl rfl) e,c⟩
 | ins C dx fs=>
  obtain ⟨d,z,ne,e,mA,⟨od,es,ep,e2,c⟩,r⟩:=x;exact ⟨ho _ d,z,ne,k _ _ (.inl rfl) e,mA,⟨od,es,ep,k _ _ (.inr d) e2,c⟩,r⟩
 | own y=>obtain ⟨ob,e⟩:=x;exact ⟨ob,k _ _ (.inl rfl) e⟩
 | xd fs=>obtain ⟨mA,⟨od,es,ep,e,c⟩,r⟩:=x;exact ⟨mA,⟨od,es,ep,k _ _ (.inl rfl) e,c⟩,r⟩
 | OM lo hi=>obtain ⟨t,u,v,e⟩:=x;exact ⟨t,u,v,k _ _ (.inl rfl) e⟩
 | mW ob u ih=>obtain ⟨e,q⟩:=x;exact ⟨k _ _ (.inl rfl) e,ih q⟩
 | JM ps=>
  have e:h.get? a=some { cls:=.none,data:=.fields ps }:=x;show h'.get? a=some { cls:=.none,data:=.fields ps };exact k a _ (.inl rfl) e
 | met f y=>
  have e:h.get? a=some (PySem.W.methodObj (.ref f) (.ref y)):=x;show h'.get? a=some (PySem.W.methodObj (.ref f) (.ref y));exact k a _ (.inl rfl) e
 | ext φ=>obtain ⟨p,⟨o,e⟩,st⟩:=x;exact ⟨st _ _ p λo q=>k _ _ (.inl rfl) q,⟨o,k _ _ (.inl rfl) e⟩,st⟩
theorem fh.lt (x:fh P w H h)(e:H a=some o):a < h.objs.size:=(x a o e).lt
theorem fh.fresh (x:fh P w H h)(e:h.objs.size<=a):H a=none:=by
 cases q:H a with
 | none=>rfl
 | some u=>exact absurd (zY (x.lt q) e) (zy _)
theorem fh.kept (x:fh P w H h)(k:∀ b u,h.get? b=some u->h'.get? b=some u):fh P w H h':=λa o e=>
 (x a o e).fD (λb u _ q=>k b u q) (λ_ q=>q) λ_ _ q=>q
theorem fh.laid (x:fh P w H h)(k:∀ b u,h.get? b=some u->h'.get? b=some u)(hp:h.objs.size<=a)(new:aT P w (upd H a o) h' a o):fh P w (upd H a o) h':=λb u e=>by
 have hn:=x.fresh hp;by_cases hb:b=a
 ·subst hb;rw [yq] at e;cases e;exact new
 ·rw [xC hb] at e;exact (x b u e).fD (λc v _ q=>k c v q) (λc q=>by rw [xC (xA q hn)];exact q) λc xs q=>by rw [xC (xA q hn)];exact q
end
def Rd (H:Hp)(a:Addr)(u:HO):Prop:=H a=some u\/∃ o,H a=some (.mW o u)
theorem Rd.ok {P:Program}{w:World}{H:Hp}{h:Heap}{a:Addr}{u:HO}(r:Rd H a u)(x:fh P w H h):aT P w H h a u:=by
 rcases r with r | ⟨o,r⟩
 ·exact x a u r
 ·obtain ⟨_,q⟩:=x a _ r;exact q
def Pk:Option HO->Prop
 | some (.lst _)=>True
 | some (.dK _)=>True
 | some (.dT _)=>True
 | some (.set _ _)=>True
 | some (.ins _ _ _)=>True
 | some (.ext _)=>True
 | _=>False
section
variable {P:Program}{w:World}{H:Hp}{h h':Heap}{x e:Addr}{o':HO}
theorem fh.write (ok:fh P w H h)(mu:Pk (H x))(he:e=x\/H e=some (.own x))(k:∀ b u,b≠e->h.get? b=some u->h'.get? b=some u)(Mu:∃ u,h'.get? e=some u)
  (new:aT P w (upd H x o') h' x o'):fh P w (upd H x o') h':=λb u q=>by
 have Na:∀ c y,H c=some (.own y)->c≠x:=λc y r z=>by subst z;rw [r] at mu;exact mu
 have QY:∀ c xs,H c=some (.tup xs)->c≠x:=λc xs r z=>by subst z;rw [r] at mu;exact mu
 by_cases hb:b=x
 ·subst hb;rw [yq] at q;cases q;exact new
 ·rw [xC hb] at q;by_cases LH:b=e
  ·have q':H b=some (.own x):=by
    rcases he with z | z
    ·exact absurd (LH.trans z) hb
    ·rw [LH];exact z
   rw [q] at q';cases q';obtain ⟨v,hv⟩:=Mu;exact ⟨v,by rw [LH];exact hv⟩
  ·refine (ok b u q).fD (λc v hc r=>k c v ?_ r) (λc r=>by rw [xC (Na c b r)];exact r) λc xs r=>by rw [xC (QY c xs r)];exact r
   rcases hc with rfl | hc
   ·exact LH
   ·rintro rfl;rcases he with z | z
    ·exact Na c b hc z
    ·rw [hc] at z;cases z;exact hb rfl
end
structure Un (fs ex:List Addr) (H H':Hp) (h h':Heap):Prop where
 keep:∀ b o,h.get? b=some o->H b=none->b ∉ fs->b ∉ ex->h'.get? b=some o
 slot:∀ b o,h.get? b=some o->H b=none->b∈fs->b ∉ ex->∃ sl,h'.get? b=some { o with slots:=sl }
 free:∀ b o,h.get? b=some o->H b=none->b ∉ ex->H' b=none
 there:∀ b o,h.get? b=some o->b ∉ ex->∃ o',h'.get? b=some o'
 aJ:∀ b xs,H b=some (.tup xs)->H' b=some (.tup xs)
 gZ:∀ b o u,H b=some (.mW o u)->H' b=some (.mW o u)
 iG:∀ b ps,H b=some (.JM ps)->∃ more,H' b=some (.JM (ps++more))
section
variable {fs Xy ex Zc:List Addr} {H H1 H2:Hp} {h h1 h2 h':Heap}{a x e:Addr}{o:HO}
theorem Un.any (u:Un fs ex H H1 h h1){b:Addr}{ob:Obj}(q:h.get? b=some ob)(n:H b=none)(hx:b ∉ ex):∃ sl,h1.get? b=some { ob with slots:=sl }:=by
 by_cases hb:b∈fs
 ·exact u.slot b ob q n hb hx
 ·exact ⟨ob.slots,u.keep b ob q n hb hx⟩
theorem Un.kept (k:∀ b u,h.get? b=some u->h'.get? b=some u):Un fs ex H H h h':=
 ⟨λb ob q _ _ _=>k b ob q,λb ob q _ _ _=>⟨ob.slots,k b ob q⟩,λ_ _ _ n _=>n,λb ob q _=>⟨ob,k b ob q⟩,λ_ _ q=>q,λ_ _ _ q=>q,λ_ ps q=>⟨#[],by rw [q];simp⟩⟩
theorem Un.refl:Un fs ex H H h h:=Un.kept λ_ _ q=>q
theorem Un.laid (k:∀ b u,h.get? b=some u->h'.get? b=some u)(hp:h.objs.size<=a)(hn:H a=none):Un fs ex H (upd H a o) h h' where
 keep:=λb u q _ _ _=>k b u q
 slot:=λb u q _ _ _=>⟨u.slots,k b u q⟩
 free:=λb u q n _=>by rw [xC (zT (zY (Heap.lt_size q) hp))];exact n
 there:=λb u q _=>⟨u,k b u q⟩
 aJ:=λb xs q=>by rw [xC (xA q hn)];exact q
 gZ:=λb u xs q=>by rw [xC (xA q hn)];exact q
 iG:=λb ps q=>⟨#[],by rw [xC (xA q hn),q];simp⟩
theorem Un.write (mu:Pk (H x))(he:e=x\/H e=some (.own x))(k:∀ b u,b≠e->h.get? b=some u->h'.get? b=some u)(Mu:∃ u,h'.get? e=some u):Un fs ex H (upd H x o) h h':=by
 have hx:∀ b,H b=none->b≠x:=λb n z=>by subst z;rw [n] at mu;exact mu
 have hb:∀ b,H b=none->b≠e:=λb n z=>by
  subst z;rcases he with r | r
  ·exact hx b n r
  ·rw [n] at r;cases r
 have hm:∀ b u,H b=some u->¬ Pk (some u)->b≠x:=λb u q nm z=>by subst z;rw [q] at mu;exact nm mu
 refine ⟨λb u q n _ _=>k b u (hb b n) q,λb u q n _ _=>⟨u.slots,k b u (hb b n) q⟩,λb u q n _=>by rw [xC (hx b n)];exact n,λb u q _=>?_,
  λb xs q=>by rw [xC (hm b _ q λz=>z)];exact q,λb u xs q=>by rw [xC (hm b _ q λz=>z)];exact q,λb ps q=>⟨#[],by rw [xC (hm b _ q λz=>z),q];simp⟩⟩
 by_cases LH:b=e
 ·subst LH;exact Mu
 ·exact ⟨u,k b u LH q⟩
end
def OD (h:Heap)(H:Hp):List Addr:=(List.range h.objs.size).filter λa=>(H a).isSome
def kL (h:Heap)(H:Hp):Heap:=PySem.W.hideAll h (OD h H)
theorem qW (h:Heap)(H:Hp):(kL h H).objs.size=h.objs.size:=PySem.W.hideAll_size _ _
theorem uV {h:Heap}{H:Hp}{b:Addr}{o:Obj}(e:h.get? b=some o)(n:H b=none):(kL h H).get? b=some o:=
 PySem.W.hideAll_get _ e λhm=>by
  have q:(H b).isSome=true:=(List.mem_filter.mp hm).2;rw [n] at q;simp at q
theorem Jm {h:Heap}{H:Hp}{b:Addr}{o:Obj}(e:(kL h H).get? b=some o):h.get? b=some o/\H b=none:=by
 have e':h.get? b=some o:=PySem.W.of_hideAll (OD h H) e;refine ⟨e',?_⟩;cases q:H b with
 | none=>rfl
 | some x=>
  have hm:b∈OD h H:=List.mem_filter.mpr ⟨zi.mpr (Heap.lt_size e'),by simp [q]⟩;have z:(kL h H).get? b=none:=PySem.W.hideAll_none (OD h H) hm;rw [z] at e;cases e
def dg (g h:Heap)(L:Addr):List (Addr×Obj):=(List.range h.objs.size).filterMap λa=>if a=L\/(g.get? a).isSome=true then none else (h.get? a).map λo=>(a,o)
theorem cF {g h:Heap}{L a:Addr}{o:Obj}(h1:a≠L)(h2:g.get? a=none)(h3:h.get? a=some o):(a,o)∈dg g h L:=
 yW.mpr ⟨a,zi.mpr (Heap.lt_size h3),by simp [h1,h2,h3]⟩
theorem iU {g h:Heap}{L:Addr}{p:Addr×Obj}(hp:p∈dg g h L):p.1≠L/\g.get? p.1=none/\h.get? p.1=some p.2:=by
 obtain ⟨b,_,e⟩:=yW.mp hp;split at e
 ·cases e
 ·rename_i hn;cases q:h.get? b with
  | none=>rw [q] at e;simp at e
  | some u=>
   rw [q] at e;simp only [Option.map_some,Option.some.injEq] at e;subst e;refine ⟨λz=>hn (.inl z),?_,q⟩;show g.get? b=none;cases r:g.get? b with
   | none=>rfl
   | some v=>exact (hn (.inr (by simp [r]))).elim
def rest (g h:Heap)(L d:Addr):List (Addr×Obj):=(dg g h L).filter λp=>decide (p.1≠d)
theorem iW {g h:Heap}{L:Addr}:News g L h (dg g h L):=λp hp=>let ⟨a,b,c⟩:=iU hp;⟨c,a,b⟩
structure Mod (K:PySem.W.Frag) (mg:Str->Option Value) (base:Heap):Prop where
 Q9:K.In base
 glob:base.Ns mainGlobals mg
 blt:∃ mb,base.Ns builtinsNs mb/\∀ x:Str,x ≠ "__name__" -> mb x=bootBuiltins x
 nolimit:base.NoLimit
structure Cx where
 prog:Program
 w:World
 K:PySem.W.Frag
 mg:Str->Option Value
 base:Heap
 A:Around
 N:List Str
 cj:Shared
 vO:Hp
 env:Env
 outer:List Env
 stack:List Env
 ex:List Addr
 fn:Str->Bool
 calm:Bool
 pn:List (Addr×Obj)
 xe:Value->Shared->Prop
def rR (l:List Env):List Addr:=l.filterMap (·.frame)
abbrev Cx.fs (X:Cx):List Addr:=rR X.outer
def Pg (sc:Scope)(x:Str):Prop:=sc.names.lookup x=some .local\/sc.names.lookup x=some .cell\/sc.names.lookup x=some .free
def Loc (sc:Scope)(x:Str):Prop:=sc.names.lookup x=some .local\/sc.names.lookup x=some .cell
def Look (env:Env)(h:Heap)(m:Str->Option Value)(x:Str)(u:Value):Prop:=
 (env.kindOf x=some .local/\m x=some u)\/((env.kindOf x=some .cell\/env.kindOf x=some .free)/\∃ c,env.cells.lookup x=some c/\h.IsCell c (some u))
structure Cx.Ok (X:Cx):Prop where
 mod:Mod X.K X.mg X.base
 kind:X.env.scope.kind=.function
 glob:X.env.globals=mainGlobals
 blt:X.env.builtins=builtinsNs
 above:X.cj.heap.objs.size<=X.env.locals
 inj:∀ x y c,X.env.cells.lookup x=some c->X.env.cells.lookup y=some c->x=y
 has:∀ x,(X.env.kindOf x=some .cell\/X.env.kindOf x=some .free)->∃ c,X.env.cells.lookup x=some c
 Ol:∀ x c,X.fn x=true->X.env.cells.lookup x=some c->X.cj.heap.objs.size<=c
 hd:X.calm=true->X.A.handled=none
 frames:X.A.frames=some X.stack
 OG:X.stack=X.outer\/(X.stack=X.env::X.outer/\X.env.frame=some X.env.locals)
 UU:∀ b∈X.ex,b≠X.env.locals/\∀ x c,X.env.cells.lookup x=some c->c≠b
 bs:∀ b o,X.base.get? b=some o->X.cj.heap.get? b=some o/\X.vO b=none
 JE:X.base.objs.size<=X.cj.heap.objs.size
 ua:∀ b o,X.base.get? b=some o->b ∉ X.ex
 Jz:∀ b∈X.ex,b ∉ X.fs
 jc:X.cj.heap.FunFrames X.base X.outer
 My:∀ b∈X.fs,X.vO b=none
structure Inv (X:Cx) (aa:List (Addr×Obj)) (σ:List (Option V)) (H:Hp) (s:Shared):Prop where
 ok:X.Ok
 os:s.os=X.cj.os
 bare:AllBare s.gens
 base:Un X.fs X.ex X.vO H X.cj.heap s.heap
 loc:∃ m,s.heap.Ns X.env.locals m/\∀ (i:Nat) (x:Str) (v:V),X.N[i]?=some x->σ[i]?=some (some v)->Pg X.env.scope x->∃ u,RelV v u/\Look X.env s.heap m x u
 cell:∀ x c,X.env.cells.lookup x=some c->∃ v,s.heap.IsCell c v
 free:H X.env.locals=none
 eE:∀ x c,X.env.cells.lookup x=some c->H c=none
 pin:∀ p∈X.pn++aa,s.heap.get? p.1=some p.2/\H p.1=none/\p.1≠X.env.locals/\p.1 ∉ X.fs/\∀ v,p.2.data≠.cell v
 aU:fh X.prog X.w H s.heap
 len:σ.length=X.N.length
section
variable {X:Cx}{aa:List (Addr×Obj)}{σ:List (Option V)}{H H':Hp}{s:Shared}{h':Heap}
theorem Cx.Ok.QZ (ok:X.Ok){b:Addr}{o:Obj}(e:X.base.get? b=some o):b ∉ X.fs:=λhb=>by
 have:=(ok.jc.mem hb).1;rw [e] at this;cases this
theorem Inv.bs (I:Inv X aa σ H s):∀ b o,X.base.get? b=some o->s.heap.get? b=some o/\H b=none:=λb o e=>
 ⟨I.base.keep b o (I.ok.bs b o e).1 (I.ok.bs b o e).2 (I.ok.QZ e) (I.ok.ua b o e),I.base.free b o (I.ok.bs b o e).1 (I.ok.bs b o e).2 (I.ok.ua b o e)⟩
theorem Inv.bk (I:Inv X aa σ H s):∀ b o,X.base.get? b=some o->s.heap.get? b=some o:=λb o e=>(I.bs b o e).1
theorem Inv.mod (I:Inv X aa σ H s):Mod X.K X.mg X.base:=I.ok.mod
theorem Inv.mL (I:Inv X aa σ H s):X.K.In s.heap:=I.ok.mod.Q9.keeps I.bk
theorem Inv.fr (I:Inv X aa σ H s):∃ m,Fr X.base X.env.locals s.heap m:=
 let ⟨m,hn,_⟩:=I.loc
 ⟨m,hn,I.bk,yH I.ok.JE I.ok.above⟩
theorem Inv.lt (I:Inv X aa σ H s):X.env.locals < s.heap.objs.size:=let ⟨_,hn,_⟩:=I.loc;hn.lt
theorem Inv.sz (I:Inv X aa σ H s):X.cj.heap.objs.size<=s.heap.objs.size:=yH I.ok.above (Nat.le_of_lt I.lt)
theorem Inv.Nb (I:Inv X aa σ H s){a:Addr}(h:s.heap.objs.size<=a):a ∉ X.fs:=λhb=>by
 obtain ⟨_,o,ho,_⟩:=I.ok.jc.mem hb;exact absurd (zY (Heap.lt_size ho) (yH I.sz h)) (zy _)
theorem Inv.LX (I:Inv X aa σ H s):∀ x c,X.env.cells.lookup x=some c->c≠X.env.locals:=λx c e z=>by
 obtain ⟨v,o,ho,hd⟩:=I.cell x c e;obtain ⟨m,⟨o',es,ep,qU,Mv,_⟩,_⟩:=I.loc;rw [z,qU] at ho;cases ho;rw [Mv] at hd;cases hd
theorem Inv.jc (I:Inv X aa σ H s):s.heap.FunFrames X.base X.outer:=by
 have all:∀ (l:List Env),(∀ b∈rR l,b∈X.fs)->X.cj.heap.FunFrames X.base l->s.heap.FunFrames X.base l:=by
  intro l;induction l with
  | nil=>intro _ _;trivial
  | cons env r ih=>
   intro hs hl;obtain ⟨hk,⟨L,o,hf,hn,ho,hd⟩,hr⟩:=hl;have hL:L∈X.fs:=hs L (by unfold rR;rw [ye,hf];exact z8);obtain ⟨sl,e⟩:=I.base.slot L o ho (I.ok.My L hL) hL λz=>I.ok.Jz L z hL;exact ⟨hk,⟨L,_,hf,hn,e,hd⟩,ih (λb hb=>hs b (by unfold rR;rw [ye,hf];exact zn _ hb)) hr⟩
 exact all X.outer (λ_ hb=>hb) I.ok.jc
theorem Inv.stack (I:Inv X aa σ H s):s.heap.FunFrames X.base X.stack:=by
 rcases I.ok.OG with e | ⟨e,hf⟩
 ·rw [e];exact I.jc
 ·rw [e];obtain ⟨m,hn,_⟩:=I.loc;refine .cons (by rw [I.ok.kind];decide) hf hn ?_ I.jc;exact Heap.get?_none_of_le (yH I.ok.JE I.ok.above)
theorem Inv.eH (I:Inv X aa σ H s):∀ b∈rR X.stack,b∈X.env.locals::X.fs:=λb hb=>by
 rcases I.ok.OG with e | ⟨e,hf⟩
 ·rw [e] at hb;exact zn _ hb
 ·rw [e] at hb;unfold rR at hb;rw [ye,hf] at hb;exact hb
theorem Inv.pB (I:Inv X aa σ H s):∀ b∈rR X.stack,H b=none:=λb hb=>by
 rcases zO.mp (I.eH b hb) with e | hb
 ·rw [e];exact I.free
 ·obtain ⟨_,o,ho,_⟩:=I.ok.jc.mem hb;exact I.base.free b o ho (I.ok.My b hb) λz=>I.ok.Jz b z hb
theorem Inv.step {g':Array GenState}{t':Nat}{d':Drawn}{ch:List Addr}(I:Inv X aa σ H s)
  (vX:∀ b∈ch,(b∈X.ex\/X.cj.heap.objs.size<=b)/\b≠X.env.locals/\(∀ x c,X.env.cells.lookup x=some c->c≠b)/\∀ p∈X.pn++aa,p.1≠b)
  (keep:∀ b o,b≠X.env.locals->b ∉ X.fs->b ∉ ch->s.heap.get? b=some o->H b=none->h'.get? b=some o)
  (slot:∀ b o,b≠X.env.locals->b∈X.fs->b ∉ ch->s.heap.get? b=some o->H b=none->∃ sl,h'.get? b=some { o with slots:=sl }) (free:∀ b o,b ∉ ch->s.heap.get? b=some o->H b=none->H' b=none)
  (there:∀ b o,b ∉ ch->s.heap.get? b=some o->∃ o',h'.get? b=some o')
  (aJ:∀ b xs,H b=some (.tup xs)->H' b=some (.tup xs)) (gZ:∀ b o u,H b=some (.mW o u)->H' b=some (.mW o u)) (iG:∀ b ps,H b=some (.JM ps)->∃ more,H' b=some (.JM (ps++more)))
  (ns:∀ m,s.heap.Ns X.env.locals m->h'.Ns X.env.locals m) (aU:fh X.prog X.w H' h') (hg:AllBare g') :
  Inv X aa σ H' { s with heap:=h',gens:=g',drawn:=d',toks:=t' }:=by
 have TU:∀ b o,X.cj.heap.get? b=some o->b≠X.env.locals:=λb o e=>zT (zY (Heap.lt_size e) I.ok.above);have OS:∀ b o,X.cj.heap.get? b=some o->b ∉ X.ex->b ∉ ch:=λb o e hx hb=>by
  rcases (vX b hb).1 with z | z
  ·exact hx z
  ·exact absurd (zY (Heap.lt_size e) z) (zy _)
 have cellK:∀ x c,X.env.cells.lookup x=some c->∀ v,s.heap.IsCell c v->h'.IsCell c v:=λx c e v ⟨o,ho,hd⟩=>by
  have kD:c ∉ ch:=λz=>(vX c z).2.2.1 x c e rfl;by_cases hc:c∈X.fs
  ·obtain ⟨sl,q⟩:=slot c o (I.LX x c e) hc kD ho (I.eE x c e);exact ⟨_,q,hd⟩
  ·exact ⟨o,keep c o (I.LX x c e) hc kD ho (I.eE x c e),hd⟩
 refine ⟨I.ok,I.os,hg,⟨λb o e n hb hx=>?_,λb o e n hb hx=>?_,λb o e n hx=>?_,λb o e hx=>?_,λb xs e=>aJ b xs (I.base.aJ b xs e),λb o xs e=>gZ b o xs (I.base.gZ b o xs e),λb ps e=>?_⟩,?_,λx c e=>?_,?_,λx c e=>?_,λp hp=>?_,aU,I.len⟩
 ·exact keep b o (TU b o e) hb (OS b o e hx) (I.base.keep b o e n hb hx) (I.base.free b o e n hx)
 ·obtain ⟨sl,e1⟩:=I.base.slot b o e n hb hx;obtain ⟨VE,e2⟩:=slot b _ (TU b o e) hb (OS b o e hx) e1 (I.base.free b o e n hx);exact ⟨VE,e2⟩
 ·obtain ⟨o',e1⟩:=I.base.there b o e hx;exact free b o' (OS b o e hx) e1 (I.base.free b o e n hx)
 ·obtain ⟨o',e1⟩:=I.base.there b o e hx;exact there b o' (OS b o e hx) e1
 ·obtain ⟨m1,e1⟩:=I.base.iG b ps e;obtain ⟨m2,e2⟩:=iG b _ e1;exact ⟨m1++m2,by rw [e2,Array.append_assoc]⟩
 ·obtain ⟨m,hn,hl⟩:=I.loc;refine ⟨m,ns m hn,λi x v e1 e2 e3=>?_⟩;obtain ⟨u,r,l⟩:=hl i x v e1 e2 e3;refine ⟨u,r,?_⟩;rcases l with l | ⟨k,c,e,z⟩
  ·exact .inl l
  ·exact .inr ⟨k,c,e,cellK x c e _ z⟩
 ·obtain ⟨v,z⟩:=I.cell x c e;exact ⟨v,cellK x c e v z⟩
 ·obtain ⟨m,⟨o,_,_,ho,_⟩,_⟩:=I.loc;exact free _ o (λz=>(vX _ z).2.1 rfl) ho I.free
 ·obtain ⟨v,o,ho,hd⟩:=I.cell x c e;exact free c o (λz=>(vX c z).2.2.1 x c e rfl) ho (I.eE x c e)
 ·obtain ⟨e,n,ne,nf,d⟩:=I.pin p hp;have kD:p.1 ∉ ch:=λz=>(vX p.1 z).2.2.2 p hp rfl;exact ⟨keep p.1 p.2 ne nf kD e n,free p.1 p.2 kD e n,ne,nf,d⟩
theorem Inv.un {t':Nat}(I:Inv X aa σ H s)(u:Un X.fs [] H H' s.heap h')(aU:fh X.prog X.w H' h'):Inv X aa σ H' { s with heap:=h',toks:=t' }:=by
 obtain ⟨m,⟨o,es,ep,ho,r⟩,_⟩:=id I.loc;obtain ⟨sl,hL⟩:=u.any ho I.free (by simp);exact I.step (g':=s.gens) (d':=s.drawn) (ch:=[]) (λ_ z=>nomatch z) (λb o _ hb _ e n=>u.keep b o e n hb (by simp)) (λb o _ hb _ e n=>u.slot b o e n hb (by simp)) (λb o _ e n=>u.free b o e n (by simp)) (λb o _ e=>u.there b o e (by simp)) u.aJ u.gZ u.iG (λm' hm=>by
  obtain ⟨o',ia,LR,qU,r'⟩:=hm;rw [ho] at qU;cases qU;exact ⟨_,ia,LR,hL,r'⟩) aU I.bare
theorem Inv.call {g':Array GenState}{t':Nat}{d':Drawn}{ch:List Addr}(I:Inv X aa σ H s)(u:Un (rR X.stack) ch H H' s.heap h')(aU:fh X.prog X.w H' h')(hg:AllBare g')
  (vX:∀ b∈ch,(b∈X.ex\/X.cj.heap.objs.size<=b)/\b≠X.env.locals/\(∀ x c,X.env.cells.lookup x=some c->c≠b)/\∀ p∈X.pn++aa,p.1≠b) :
  Inv X aa σ H' { s with heap:=h',gens:=g',drawn:=d',toks:=t' }:=by
 obtain ⟨m,⟨o,es,ep,ho,r⟩,_⟩:=id I.loc;obtain ⟨sl,hL⟩:=u.any ho I.free λz=>(vX _ z).2.1 rfl;exact I.step (ch:=ch) vX (λb o hL hb hc e n=>u.keep b o e n (λz=>(zO.mp (I.eH b z)).elim hL hb) hc) (λb o _ _ hc e n=>u.any e n hc) (λb o hc e n=>u.free b o e n hc) (λb o hc e=>u.there b o e hc) u.aJ u.gZ u.iG (λm' hm=>by
  obtain ⟨o',ia,LR,qU,r'⟩:=hm;rw [ho] at qU;cases qU;exact ⟨_,ia,LR,hL,r'⟩) aU hg
theorem Inv.turned {t':Nat}{it:Addr}(I:Inv X aa σ H s)(k:∀ b o,b≠it->s.heap.get? b=some o->h'.get? b=some o)(hn:H it=none)(hL:it≠X.env.locals)
  (h1:it∈X.ex\/X.cj.heap.objs.size<=it) (h2:∀ x c,X.env.cells.lookup x=some c->c≠it) (h3:∀ p∈X.pn++aa,p.1≠it):Inv X aa σ H { s with heap:=h',toks:=t' }:=by
 have TR:∀ b u,H b=some u->b≠it:=λb u e z=>by rw [z,hn] at e;cases e
 refine I.step (g':=s.gens) (d':=s.drawn) (ch:=[it]) (λb hb=>?_) (λb o _ _ hc e _=>k b o (λz=>hc (by simp [z])) e) (λb o _ _ hc e _=>⟨o.slots,k b o (λz=>hc (by simp [z])) e⟩) (λ_ _ _ _ n=>n)
  (λb o hc e=>⟨o,k b o (λz=>hc (by simp [z])) e⟩) (λ_ _ e=>e) (λ_ _ _ e=>e) (λb ps e=>⟨#[],by rw [e];simp⟩) (λm hm=>?_) (λb u e=>?_) I.bare
 ·have e:b=it:=by simpa using hb
  subst e;exact ⟨h1,hL,h2,h3⟩
 ·obtain ⟨o,es,ep,ho,r⟩:=hm;exact ⟨o,es,ep,k _ o (Ne.symm hL) ho,r⟩
 ·refine (I.aU b u e).fD (λc v hc q=>k c v ?_ q) (λ_ q=>q) λ_ _ q=>q;rcases hc with z | z
  ·rw [z];exact TR b u e
  ·exact TR c _ z
theorem Inv.tok (I:Inv X aa σ H s)(t:Nat):Inv X aa σ H { s with toks:=t }:=I.un (h':=s.heap) (t':=t) Un.refl I.aU
theorem Inv.kept {t':Nat}(I:Inv X aa σ H s)(k:∀ b u,s.heap.get? b=some u->h'.get? b=some u):Inv X aa σ H { s with heap:=h',toks:=t' }:=I.un (Un.kept k) (I.aU.kept k)
theorem Inv.laid {a:Addr}{o:HO}{t':Nat}(I:Inv X aa σ H s)(k:∀ b u,s.heap.get? b=some u->h'.get? b=some u)(hp:s.heap.objs.size<=a)(new:aT X.prog X.w (upd H a o) h' a o) :
  Inv X aa σ (upd H a o) { s with heap:=h',toks:=t' }:=I.un (Un.laid k hp (I.aU.fresh hp)) (I.aU.laid k hp new)
theorem Inv.write {x e:Addr}{o:HO}{t':Nat}(I:Inv X aa σ H s)(mu:Pk (H x))(he:e=x\/H e=some (.own x))(k:∀ b u,b≠e->s.heap.get? b=some u->h'.get? b=some u)(Mu:∃ u,h'.get? e=some u)
  (new:aT X.prog X.w (upd H x o) h' x o):Inv X aa σ (upd H x o) { s with heap:=h',toks:=t' }:=I.un (Un.write mu he k Mu) (I.aU.write mu he k Mu new)
theorem Inv.cz {mq:List (Addr×Obj)}(I:Inv X aa σ H s)(h:∀ p∈mq,s.heap.get? p.1=some p.2/\H p.1=none/\p.1≠X.env.locals/\p.1 ∉ X.fs/\∀ v,p.2.data≠.cell v):Inv X mq σ H s:=
 ⟨I.ok,I.os,I.bare,I.base,I.loc,I.cell,I.free,I.eE,λp hp=>(zS.mp hp).elim (λz=>I.pin p (ze _ z)) (h p),I.aU,I.len⟩
theorem mE {N:List Str}(hN:N.Nodup){i j:Nat}{x:Str}(a:N[i]?=some x)(b:N[j]?=some x):i=j:=by obtain ⟨h1,e1⟩:=zI.mp a;obtain ⟨h2,e2⟩:=zI.mp b;exact (List.getElem_inj hN).mp (e1.trans e2.symm)
def ur (sc:Scope)(x:Str):Bool:=match sc.names.lookup x with | some .local=>true | some .cell=>true | _=>false
theorem kF {sc:Scope}{x:Str}(h:ur sc x=true):Loc sc x:=by
 unfold ur at h;unfold Loc
 revert h
 cases sc.names.lookup x with
 | none=>intro h;cases h
 | some k=>cases k <;> intro h <;> first | exact .inl rfl | exact .inr rfl | cases h
def jd (X:Cx)(x:Str):Bool:=X.fn x || (match X.env.scope.names.lookup x with | some .local=>true | _=>false)
theorem vf {X:Cx}{x:Str}(h:jd X x=true):X.fn x=true\/X.env.scope.names.lookup x=some .local:=by
 unfold jd at h;cases e:X.fn x with
 | true=>exact .inl rfl
 | false=>
  rw [e,Bool.false_or] at h
  revert h
  cases X.env.scope.names.lookup x with
  | none=>intro h;cases h
  | some k=>cases k <;> intro h <;> first | exact .inr rfl | cases h
def Kz (sc:Scope)(x:Str):Bool:=match sc.names.lookup x with | some .local=>true | some .cell=>true | some .free=>true | _=>false
theorem IB {sc:Scope}{x:Str}(h:Kz sc x=true):Pg sc x:=by
 unfold Kz at h;unfold Pg
 revert h
 cases sc.names.lookup x with
 | none=>intro h;cases h
 | some k=>cases k <;> intro h <;> first | exact .inl rfl | exact .inr (.inl rfl) | exact .inr (.inr rfl) | cases h
theorem qm {M:Model}{A:Around}{E:Value->Shared->Prop}{i:Nat}{x:Str}{v:V}{u:Value}{Q:Unit->Shared->Prop}(I:Inv X aa σ H s)(hN:X.N.Nodup)(hi:X.N[i]?=some x)(hx:Loc X.env.scope x)(r:RelV v u)
  (h:∀ s',Inv X aa (σ.set i (some v)) H s'->(∃ a,Heap.SameBut a s.heap s'.heap/\(a=X.env.locals\/X.env.cells.lookup x=some a))->Q () s') (hf:jd X x=true:=by rfl):wpAny M A (storeName X.env x u) Q E s:=by
 have hf:=vf hf;obtain ⟨m,hn,hl⟩:=id I.loc;have RP:(X.env.scope.kind == .class || (X.env.scope.kind == .module && X.env.locals != X.env.globals))=false:=by rw [I.ok.kind];rfl
 have NW:i < σ.length:=by rw [I.len];exact (zI.mp hi).1
 have LX:=I.LX;have tracked:∀ {a:Addr}{h':Heap},(∃ o,s.heap.get? a=some o/\H a=none)->Heap.SameBut a s.heap h'->fh X.prog X.w H h':=λ{a h'} ha hs b ob e=>by
  obtain ⟨_,_,Ka⟩:=ha;refine (I.aU b ob e).fD (λc w' hc q=>(hs.2 c ?_).trans q) (λ_ q=>q) λ_ _ q=>q;rintro rfl;rcases hc with rfl | hc
  ·rw [Ka] at e;cases e
  ·rw [Ka] at hc;cases hc
 rcases hx with hk | hk
 ·refine wpAny_storeName_local hk hn (λh' Uo hs=>?_) RP;obtain ⟨oL,_,_,WM,_⟩:=id hn;refine h _ ⟨I.ok,I.os,I.bare,⟨λb o e n hb hx=>?_,λb o e n hb hx=>?_,I.base.free,λb o e hx=>?_,I.base.aJ,I.base.gZ,I.base.iG⟩,⟨_,Uo,λj y v' e1 e2 e3=>?_⟩,λy c e=>?_,I.free,I.eE,λp hp=>?_,tracked ⟨oL,WM,I.free⟩ hs,by simpa using I.len⟩ ⟨_,hs,.inl rfl⟩
  ·exact (hs.2 b (zT (zY (Heap.lt_size e) I.ok.above))).trans (I.base.keep b o e n hb hx)
  ·obtain ⟨sl,e1⟩:=I.base.slot b o e n hb hx;exact ⟨sl,(hs.2 b (zT (zY (Heap.lt_size e) I.ok.above))).trans e1⟩
  ·obtain ⟨o',e1⟩:=I.base.there b o e hx;exact ⟨o',(hs.2 b (zT (zY (Heap.lt_size e) I.ok.above))).trans e1⟩
  ·by_cases hj:j=i
   ·subst hj;rw [hi] at e1;cases e1;rw [List.getElem?_set_self NW] at e2;cases e2;exact ⟨u,r,.inl ⟨hk,by simp⟩⟩
   ·rw [List.getElem?_set_ne (Ne.symm hj)] at e2;obtain ⟨u',r',q⟩:=hl j y v' e1 e2 e3;refine ⟨u',r',?_⟩;rcases q with ⟨k,e⟩ | ⟨k,c,e,z⟩
    ·refine .inl ⟨k,?_⟩;have:y≠x:=λe=>hj (mE hN e1 (e ▸ hi));simp [this,e]
    ·exact .inr ⟨k,c,e,z.sameBut hs (LX y c e)⟩
  ·obtain ⟨w',z⟩:=I.cell y c e;exact ⟨w',z.sameBut hs (LX y c e)⟩
  ·obtain ⟨e,n,ne,nf,d⟩:=I.pin p hp;exact ⟨(hs.2 p.1 ne).trans e,n,ne,nf,d⟩
 ·have RJ:X.fn x=true:=by
   rcases hf with z | z
   ·exact z
   ·rw [z] at hk;cases hk
  obtain ⟨c,hc⟩:=I.ok.has x (.inl hk);obtain ⟨w',z⟩:=I.cell x c hc;refine wpAny_storeName_cell I.ok.kind hk hc z (λh' RT hs=>?_);obtain ⟨oc,Um,Rx⟩:=id z;refine h { s with heap:=h' } ⟨I.ok,I.os,I.bare,⟨λb o e n hb hx=>?_,λb o e n hb hx=>?_,I.base.free,λb o e hx=>?_,I.base.aJ,I.base.gZ,I.base.iG⟩,⟨m,hn.sameBut hs (Ne.symm (LX x c hc)),λj y v' e1 e2 e3=>?_⟩,λy c' e=>?_,I.free,I.eE,λp hp=>?_,tracked ⟨oc,Um,I.eE x c hc⟩ hs,by simpa using I.len⟩ ⟨c,hs,.inr hc⟩
  ·exact (hs.2 b (zT (zY (Heap.lt_size e) (I.ok.Ol x c RJ hc)))).trans (I.base.keep b o e n hb hx)
  ·obtain ⟨sl,e1⟩:=I.base.slot b o e n hb hx;exact ⟨sl,(hs.2 b (zT (zY (Heap.lt_size e) (I.ok.Ol x c RJ hc)))).trans e1⟩
  ·obtain ⟨o',e1⟩:=I.base.there b o e hx;exact ⟨o',(hs.2 b (zT (zY (Heap.lt_size e) (I.ok.Ol x c RJ hc)))).trans e1⟩
  ·by_cases hj:j=i
   ·subst hj;rw [hi] at e1;cases e1;rw [List.getElem?_set_self NW] at e2;cases e2;exact ⟨u,r,.inr ⟨.inl hk,c,hc,RT⟩⟩
   ·rw [List.getElem?_set_ne (Ne.symm hj)] at e2;obtain ⟨u',r',q⟩:=hl j y v' e1 e2 e3;refine ⟨u',r',?_⟩;rcases q with q | ⟨k,c',e,z'⟩
    ·exact .inl q
    ·refine .inr ⟨k,c',e,z'.sameBut hs ?_⟩;rintro rfl;exact hj (mE hN e1 (I.ok.inj _ _ _ e hc ▸ hi))
  ·by_cases Uu:c'=c
   ·subst Uu;exact ⟨_,RT⟩
   ·obtain ⟨w2,z2⟩:=I.cell y c' e;exact ⟨w2,z2.sameBut hs Uu⟩
  ·obtain ⟨e,n,ne,nf,d⟩:=I.pin p hp;refine ⟨(hs.2 p.1 ?_).trans e,n,ne,nf,d⟩;intro q;rw [q,Um] at e;have q':oc=p.2:=Option.some.inj e;exact d w' (by rw [<-q'];exact Rx)
theorem iJ {M:Model}{A:Around}{E:Value->Shared->Prop}{i:Nat}{x:Str}{v:V}{u:Value}{Q:Unit->Shared->Prop}(I:Inv X aa σ H s)(hN:X.N.Nodup)(hi:X.N[i]?=some x)(hx:Loc X.env.scope x)(r:RelV v u)
  (h:∀ s',Inv X aa (σ.set i (some v)) H s'->Q () s') (hf:jd X x=true:=by rfl):wpAny M A (storeName X.env x u) Q E s:=
 qm I hN hi hx r (λs' I' _=>h s' I') hf
theorem Inv.vz {s':Shared}{ch:List Addr}(I:Inv X aa σ H s)(ho:s'.os=s.os)(u:Un (rR X.stack) ch H H' s.heap s'.heap)(aU:fh X.prog X.w H' s'.heap)(hg:AllBare s'.gens)
  (vX:∀ b∈ch,(b∈X.ex\/X.cj.heap.objs.size<=b)/\b≠X.env.locals/\(∀ x c,X.env.cells.lookup x=some c->c≠b)/\∀ p∈X.pn++aa,p.1≠b):Inv X aa σ H' s':=by
 obtain ⟨h',g',d',t',o'⟩:=s';have e:o'=s.os:=ho;subst e;exact I.call (g':=g') (t':=t') (d':=d') u aU hg vX
end
abbrev XK:=Value->Option Addr->Hp->Prop
abbrev St:=List (Option V)
abbrev VK:=V->Hp->Prop
abbrev TE:=St->Hp->VK->Prop
abbrev TT:=St->Hp->(Bool->Hp->Prop)->Prop
abbrev TA:=St->Hp->(List V->Hp->Prop)->Prop
structure Ends where
 nx:St->Hp->Prop
 rt:VK
 bk:St->Hp->Prop:=λ_ _=>False
 ct:St->Hp->Prop:=λ_ _=>False
abbrev Ends.go (D:Ends)(n:St->Hp->Prop):Ends:={ D with nx:=n }
abbrev Ends.lp (D:Ends)(n:St->Hp->Prop):Ends:={ D with nx:=n,ct:=n,bk:=D.nx }
abbrev TS:=Ends->St->Hp->Prop
def EP (X:Cx)(aa:List (Addr×Obj))(σ:St)(Q:VK)(u:Value)(s':Shared):Prop:=∃ v H',Inv X aa σ H' s'/\RelV v u/\Q v H'
def TP (X:Cx)(aa:List (Addr×Obj))(σ:St)(Q:Bool->Hp->Prop)(b:Bool)(s':Shared):Prop:=∃ H',Inv X aa σ H' s'/\Q b H'
def AP (X:Cx)(aa:List (Addr×Obj))(σ:St)(Q:List V->Hp->Prop)(us:List Value)(s':Shared):Prop:=∃ vs H',Inv X aa σ H' s'/\Vals vs us/\Q vs H'
def SP (X:Cx)(aa:List (Addr×Obj))(D:Ends)(f:Flow)(s':Shared):Prop:=
 match f with
 | .next=>∃ br H',Inv X aa br H' s'/\D.nx br H'
 | .brk=>∃ br H',Inv X aa br H' s'/\D.bk br H'
 | .cont=>∃ br H',Inv X aa br H' s'/\D.ct br H'
 | .ret u=>∃ v br H',Inv X aa br H' s'/\RelV v u/\D.rt v H'
def PE (X:Cx)(e:Expr)(t:TE):Prop:=
 ∀ (aa:List (Addr×Obj)) (s:Shared) (σ:St) (H:Hp) (Q:VK),Inv X aa σ H s->t σ H Q->wpAny (model X.prog X.w) X.A (eval e X.env) (EP X aa σ Q) X.xe s
def PT (X:Cx)(e:Expr)(t:TT):Prop:=
 ∀ (aa:List (Addr×Obj)) (s:Shared) (σ:St) (H:Hp) (Q:Bool->Hp->Prop),Inv X aa σ H s->t σ H Q->wpAny (model X.prog X.w) X.A (isTrue e X.env (eval e X.env)) (TP X aa σ Q) X.xe s
def PW (X:Cx)(e:Expr)(t:TT):Prop:=
 ∀ (whole:Sem Value) (aa:List (Addr×Obj)) (s:Shared) (σ:St) (H:Hp) (Q:Bool->Hp->Prop),Inv X aa σ H s->t σ H Q->wpAny (model X.prog X.w) X.A (isTrue e X.env whole) (TP X aa σ Q) X.xe s
theorem PW.pt {X:Cx}{e:Expr}{t:TT}(h:PW X e t):PT X e t:=h _
def PA (X:Cx)(es:List Expr)(t:TA):Prop:=
 ∀ (pos:Pos) (aa:List (Addr×Obj)) (s:Shared) (σ:St) (H:Hp) (Q:List V->Hp->Prop),Inv X aa σ H s->t σ H Q->wpAny (model X.prog X.w) X.A (spliced (backTo pos (starEach es X.env))) (AP X aa σ Q) X.xe s
def PS (X:Cx)(st:Stmt)(t:TS):Prop:=
 ∀ (aa:List (Addr×Obj)) (s:Shared) (σ:St) (H:Hp) (D:Ends),Inv X aa σ H s->t D σ H->wpAny (model X.prog X.w) X.A (exec st X.env) (SP X aa D) X.xe s
def lJ (X:Cx)(st:List Stmt)(t:TS):Prop:=
 ∀ (aa:List (Addr×Obj)) (s:Shared) (σ:St) (H:Hp) (D:Ends),Inv X aa σ H s->t D σ H->wpAny (model X.prog X.w) X.A (execs st X.env) (SP X aa D) X.xe s
theorem aM {α:Type}{t:Sem α}{Q Q':α->Shared->Prop}{M:Model}{A:Around}{E:Value->Shared->Prop}{s:Shared}(h:wpAny M A t Q E s)(hQ:∀ a s,Q a s->Q' a s):wpAny M A t Q' E s:=wpAny_mono h hQ λ_ _ x=>x
section
variable {X:Cx}
def KJ (i:Nat):TE:=fun σ H Q=>∃ v,σ[i]?=some (some v)/\Q v H
def tC (v:V):TE:=λ_ H Q=>Q v H
theorem Ld {i:Nat}{x:Str}{pos:Pos}(hN:X.N[i]?=some x)(hv:Pg X.env.scope x)(hd:(x == ("__debug__" : Str))=false:=by decide)(uW:(x == ("__classdict__" : Str))=false:=by decide):PE X (.Name x pos) (KJ i):=by
 intro aa s σ H Q I h;obtain ⟨v,e,h⟩:=h;obtain ⟨m,hn,hl⟩:=I.loc;obtain ⟨u,r,l⟩:=hl i x v hN e hv;have fin:EP X aa σ Q u s:=⟨v,H,I,r,h⟩;rcases l with ⟨hk,hm⟩ | ⟨hk,c,hc,Kc⟩
 ·exact wpAny_Name (wpAny_loadName_local I.ok.kind hk hn hm fin) hd
 ·rcases hk with hk | hk
  ·exact wpAny_Name (wpAny_loadName_cell I.ok.kind hk hc Kc fin) hd
  ·exact wpAny_Name (wpAny_loadName_free I.ok.kind hk hc Kc fin uW) hd
theorem yu {i j pos}:PE X (.Constant (.int i) j pos) (tC (.int i)):=λ_ _ _ H _ I h=>wpAny_Constant_int ⟨.int i,H,I.tok _,⟨_,rfl⟩,h⟩
theorem wR {b j pos}:PE X (.Constant (.bool b) j pos) (tC (.bl b)):=λ_ _ _ H _ I h=>Constant_bool ⟨.bl b,H,I,rfl,h⟩
theorem dJ {j pos}:PE X (.Constant .none j pos) (tC .bu):=λ_ _ _ H _ I h=>Constant_none ⟨.bu,H,I,rfl,h⟩
theorem tM {x j pos}:PE X (.Constant (.str x) j pos) (tC (.str x)):=λ_ _ _ H _ I h=>Calls.Constant_str ⟨.str x,H,I.tok _,⟨_,rfl⟩,h⟩
def Gl (X:Cx)(x:Str):Prop:=X.env.kindOf x=some .globalImplicit
theorem Jr {E:Value->Shared->Prop}{aa:List (Addr×Obj)}{s:Shared}{σ:St}{H:Hp}{x:Str}{u:Value}{pos:Pos}{Q:Value->Shared->Prop}(I:Inv X aa σ H s)(hg:Gl X x)(hm:X.mg x=some u)(h:Q u s)
  (hd:(x == ("__debug__" : Str))=false:=by decide):wpAny (model X.prog X.w) X.A (eval (.Name x pos) X.env) Q E s:=
 Calls.Name_function_global I.ok.kind hg (Calls.loadGlobal_global (by rw [I.ok.glob];exact I.mod.glob.keeps I.bk) hm h) hd
theorem bJ {E:Value->Shared->Prop}{aa:List (Addr×Obj)}{s:Shared}{σ:St}{H:Hp}{x:Str}{u:Value}{pos:Pos}{Q:Value->Shared->Prop}(I:Inv X aa σ H s)(hg:Gl X x)(hm:X.mg x=none)(hv:bootBuiltins x=some u)(h:Q u s)
  (hn:x ≠ "__name__" := by decide) (hd:(x == ("__debug__" : Str))=false:=by decide):wpAny (model X.prog X.w) X.A (eval (.Name x pos) X.env) Q E s:=by
 obtain ⟨mb,h1,h2⟩:=I.mod.blt;exact Calls.Name_function_global I.ok.kind hg (Calls.loadGlobal_builtin (by rw [I.ok.glob];exact I.mod.glob.keeps I.bk) hm (by rw [I.ok.blt];exact h1.keeps I.bk) ((h2 x hn).trans hv) h) hd
theorem bL {x:Str}{v:V}{u:Value}{pos:Pos}(hg:Gl X x)(hm:X.mg x=none)(hv:bootBuiltins x=some u)(r:RelV v u)(hn:x ≠ "__name__" := by decide)(hd:(x == ("__debug__" : Str))=false:=by decide):PE X (.Name x pos) (tC v):=
 λ_ _ _ H _ I h=>bJ I hg hm hv ⟨v,H,I,r,h⟩ hn hd
variable {a b:Expr}{ta tb:TE}{pos:Pos}
def PC (X:Cx)(op:CmpOp)(a b:Expr)(t:TE):Prop:=
 ∀ (aa:List (Addr×Obj)) (s:Shared) (σ:St) (H:Hp) (Q:VK),Inv X aa σ H s->t σ H Q ->
  wpAny (model X.prog X.w) X.A (eval a X.env) (λv aI=>wpAny (model X.prog X.w) X.A (eval b X.env) (λu gT=>wpAny (model X.prog X.w) X.A (compareOp op v u) (EP X aa σ Q) X.xe gT) X.xe aI) X.xe s
def QA (ta:TE):TE:=fun σ H Q=>ta σ H λx H1=>Q (.bl (decide (x=.bu))) H1
def MS (ta:TE):TE:=fun σ H Q=>ta σ H λx H1=>Q (.bl (!decide (x=.bu))) H1
theorem RelV.mD {x:V}{v:Value}(r:RelV x v):(v == Value.none)=decide (x=.bu):=by
 cases x with
 | bu=>cases r;rfl
 | bl _=>cases r;rfl
 | int _=>obtain ⟨t,rfl⟩:=r;rfl
 | str _=>obtain ⟨t,rfl⟩:=r;rfl
 | rS _=>obtain ⟨t,rfl⟩:=r;rfl
 | LQ _=>obtain ⟨t,rfl⟩:=r;rfl
 | ref _=>cases r;rfl
 | ty _=>cases r;rfl
theorem tR {j pos'}(ha:PE X a ta):PC X .Is a (.Constant .none j pos') (QA ta):=by intro aa s σ H Q I h;refine aM (ha aa s σ H _ I h) λv s1 Qq=>?_;obtain ⟨x,H1,I1,r1,q1⟩:=Qq;exact Constant_none (is_none_gen ⟨.bl _,H1,I1,by rw [r1.mD];rfl,q1⟩)
theorem pL {j pos'}(ha:PE X a ta):PC X .IsNot a (.Constant .none j pos') (MS ta):=by intro aa s σ H Q I h;refine aM (ha aa s σ H _ I h) λv s1 Qp=>?_;obtain ⟨x,H1,I1,r1,q1⟩:=Qp;exact Constant_none (isnot_none_gen ⟨.bl _,H1,I1,by rw [r1.mD];rfl,q1⟩)
def tB (t:TE):TT:=fun σ H Q=>t σ H λx H1=>∃ c,x=.bl c/\Q c H1
theorem tQ {op:CmpOp}{t:TE}(h:PC X op a b t)(h1:behindInMarks op b=false:=by rfl):PE X (.Compare a [op] [b] pos) t:=λaa s σ H Q I hw=>wpAny_Compare1 (h aa s σ H Q I hw) h1
theorem tH {op:CmpOp}{t:TE}(h:PC X op a b t)(h1:behindInMarks op b=false:=by rfl):PT X (.Compare a [op] [b] pos) (tB t):=by intro aa s σ H Q I hw;refine wpAny_isTrue_Compare1 (aM (h aa s σ H _ I hw) λv s1 h1=>aM h1 λu s2 h2=>aM h2 λc s3 Qo=>?_) h1;obtain ⟨x,H1,I1,r1,q1⟩:=Qo;obtain ⟨d,rfl,q⟩:=q1;cases r1;exact wpAny_truthy_bool ⟨H1,I1,q⟩
theorem wQ {e:Expr}{t:TE}(h:PE X e t)(he:∀ whole,isTrue e X.env whole=(do let v <- whole;standAt e.pos;holding [v] (truthy v)):=by intro _;rfl):PT X e (tB t):=by intro aa s σ H Q I hw;refine isTrue_plain (aM (h aa s σ H _ I hw) λv s1 Qn=>?_) (he _);obtain ⟨x,H1,I1,r1,q1⟩:=Qn;obtain ⟨d,rfl,q⟩:=q1;cases r1;exact wpAny_truthy_bool ⟨H1,I1,q⟩
variable {tA OF:TT}{rest:List Expr}
def MW (t u:TT):TT:=fun σ H Q=>t σ H λc H1=>if c=true then u σ H1 Q else Q false H1
def S6 (t u:TT):TT:=fun σ H Q=>t σ H λc H1=>if c=true then Q true H1 else u σ H1 Q
def MT (t:TT):TT:=fun σ H Q=>t σ H λc H1=>Q (!c) H1
theorem ir (ha:PT X a tA):PW X (.BoolOp .And [a] pos) tA:=by
 intro wh aa s σ H Q I h;refine isTrue_and (aM (ha aa s σ H Q I h) λc s1 e=>?_);cases c with
 | true=>exact isTrue_and_nil e
 | false=>exact e
theorem bQ (ha:PT X a tA):PW X (.BoolOp .Or [a] pos) tA:=by
 intro wh aa s σ H Q I h;refine isTrue_or (aM (ha aa s σ H Q I h) λc s1 e=>?_);cases c with
 | false=>exact isTrue_or_nil e
 | true=>exact e
theorem kB (ha:PT X a tA)(hb:PW X (.BoolOp .And (b::rest) pos) OF):PW X (.BoolOp .And (a::b::rest) pos) (MW tA OF):=by
 intro wh aa s σ H Q I h;refine isTrue_and (aM (ha aa s σ H _ I h) λc s1 Qm=>?_);obtain ⟨H1,I1,q1⟩:=Qm;cases c with
 | true=>exact hb wh aa s1 σ H1 Q I1 q1
 | false=>exact ⟨H1,I1,q1⟩
theorem cR (ha:PT X a tA)(hb:PW X (.BoolOp .Or (b::rest) pos) OF):PW X (.BoolOp .Or (a::b::rest) pos) (S6 tA OF):=by
 intro wh aa s σ H Q I h;refine isTrue_or (aM (ha aa s σ H _ I h) λc s1 Ql=>?_);obtain ⟨H1,I1,q1⟩:=Ql;cases c with
 | true=>exact ⟨H1,I1,q1⟩
 | false=>exact hb wh aa s1 σ H1 Q I1 q1
theorem wj (ha:PT X a tA):PT X (.UnaryOp .Not a pos) (MT tA):=by intro aa s σ H Q I h;exact isTrue_not (ha aa s σ H (λc H1=>Q (!c) H1) I h)
def JT (ta tb:TE):TE:=fun σ H Q=>ta σ H λx H1=>∃ c,x=.bl c/\if c=true then tb σ H1 Q else Q (.bl false) H1
def Qz (ta tb:TE):TE:=fun σ H Q=>ta σ H λx H1=>∃ c,x=.bl c/\if c=true then Q (.bl true) H1 else tb σ H1 Q
def JO (ta:TE):TE:=fun σ H Q=>ta σ H λx H1=>∃ c,x=.bl c/\Q (.bl (!c)) H1
theorem iR {op}{t:TE}(h:PE X a t):PE X (.BoolOp op [a] pos) t:=λaa s σ H Q I hw=>BoolOp_one (h aa s σ H Q I hw)
theorem gf (ha:PE X a ta)(hb:PE X (.BoolOp .And (b::rest) pos) tb):PE X (.BoolOp .And (a::b::rest) pos) (JT ta tb):=by
 intro aa s σ H Q I h;refine BoolOp_and (aM (ha aa s σ H _ I h) λv s1 Qk=>?_);obtain ⟨x,H1,I1,r1,q1⟩:=Qk;obtain ⟨c,rfl,q1⟩:=q1;cases r1;refine wpAny_truthy_bool ?_;cases c with
 | true=>exact hb aa s1 σ H1 Q I1 q1
 | false=>exact ⟨.bl false,H1,I1,rfl,q1⟩
theorem tN (ha:PE X a ta):PE X (.UnaryOp .Not a pos) (JO ta):=by intro aa s σ H Q I h;refine UnaryOp_ (aM (ha aa s σ H _ I h) λv s1 Qj=>?_);obtain ⟨x,H1,I1,r1,q1⟩:=Qj;obtain ⟨c,rfl,q1⟩:=q1;cases r1;exact not_of (wpAny_truthy_bool ⟨.bl (!c),H1,I1,rfl,q1⟩)
end
def av (K:PySem.W.Frag)(H:Hp)(a:Addr)(xs:List V):Prop:=
 Rd H a (.lst xs) \/
  ∃ (o:Obj) (ak:Array Value) (n:Nat),K.lookup a=some o/\o.cls=.type "list" /\ o.dict=none/\o.data=.seq ak n/\ak.size<=sizeLine/\Vals xs ak.toList
def bC (K:PySem.W.Frag)(H:Hp)(a:Addr)(xs:List V):Prop:=
 Rd H a (.tup xs) \/
  ∃ (o:Obj) (ak:Array Value) (n:Nat),K.lookup a=some o/\o.cls=.type "tuple" /\ o.data=.seq ak n/\ak.size<=sizeLine/\Vals xs ak.toList
def Sx:Value->Option V
 | .none=>some .bu
 | .bool b=>some (.bl b)
 | .int i _=>some (.int i)
 | .str x _=>some (.str x)
 | .bytes b _=>some (.rS b)
 | .float b _=>some (.LQ b)
 | .ref a=>some (.ref a)
 | .type n=>some (.ty n)
 | _=>none
theorem RelV.abs {x:V}{u:Value}(r:RelV x u):Sx u=some x:=by
 cases x with
 | bu=>cases r;rfl
 | bl _=>cases r;rfl
 | int _=>obtain ⟨t,rfl⟩:=r;rfl
 | str _=>obtain ⟨t,rfl⟩:=r;rfl
 | rS _=>obtain ⟨t,rfl⟩:=r;rfl
 | LQ _=>obtain ⟨t,rfl⟩:=r;rfl
 | ref _=>cases r;rfl
 | ty _=>cases r;rfl
theorem RelV.inj {x y:V}{u:Value}(r:RelV x u)(q:RelV y u):x=y:=Option.some.inj (r.abs.symm.trans q.abs)
theorem Vals.inj:∀ {xs ys:List V}{us:List Value},Vals xs us->Vals ys us->xs=ys
 | _,_,_,.nil,.nil=>rfl
 | _,_,_,.cons r t,.cons r' t'=>by rw [r.inj r',Vals.inj t t']
section
variable {X:Cx}{aa:List (Addr×Obj)}{σ:St}{H:Hp}{s:Shared}{a:Addr}{xs ys:List V}
theorem av.of {K:PySem.W.Frag}(h:H a=some (.lst xs)):av K H a xs:=.inl (.inl h)
theorem bC.of {K:PySem.W.Frag}(h:H a=some (.tup xs)):bC K H a xs:=.inl (.inl h)
theorem Inv.list (I:Inv X aa σ H s)(h:av X.K H a xs):∃ ak:List Value,Vals xs ak/\PlainL s.heap a ak.toArray/\xs.length<=sizeLine:=by
 rcases h with h | ⟨o,ak,n,hk,hc,hd,hs,hz,r⟩
 ·obtain ⟨z,ak,n,r,e⟩:=h.ok I.aU;exact ⟨ak,r,⟨_,n,e,rfl,rfl,rfl⟩,z⟩
 ·refine ⟨ak.toList,r,⟨o,n,I.mL a o hk,hc,hd,by simpa using hs⟩,?_⟩;have e:=r.length;simp only [Array.length_toList] at e;omega
theorem Inv.tuple (I:Inv X aa σ H s)(h:bC X.K H a xs):∃ ak:List Value,Vals xs ak/\IsTup s.heap a ak.toArray/\xs.length<=sizeLine:=by
 rcases h with h | ⟨o,ak,n,hk,hc,hs,hz,r⟩
 ·obtain ⟨z,ak,r,p⟩:=h.ok I.aU;exact ⟨ak,r,p,z.1⟩
 ·refine ⟨ak.toList,r,⟨o,I.mL a o hk,hc,n,by simpa using hs⟩,?_⟩;have e:=r.length;simp only [Array.length_toList] at e;omega
theorem Inv.fN (I:Inv X aa σ H s)(h:av X.K H a xs)(h':av X.K H a ys):xs=ys:=by
 obtain ⟨ak,r,⟨o,n,e,_,_,d⟩,_⟩:=I.list h;obtain ⟨its',r',⟨o',n',e',_,_,d'⟩,_⟩:=I.list h';rw [e] at e';cases e';rw [d] at d';injection d' with d1 _
 have:ak=its':=by simpa using congrArg Array.toList d1
 subst this;exact r.inj r'
theorem Inv.jI (I:Inv X aa σ H s)(h:bC X.K H a xs)(h':bC X.K H a ys):xs=ys:=by
 obtain ⟨ak,r,⟨o,e,_,n,d⟩,_⟩:=I.tuple h;obtain ⟨its',r',⟨o',e',_,n',d'⟩,_⟩:=I.tuple h';rw [e] at e';cases e';rw [d] at d';injection d' with d1 _
 have:ak=its':=by simpa using congrArg Array.toList d1
 subst this;exact r.inj r'
end
abbrev Cx.jt (X:Cx)(E:Value->Shared->Prop):Cx:={ X with xe:=E }
abbrev Cx.OQ (X:Cx):Cx:=X.jt λ_ _=>False
theorem Cx.Ok.jt {X:Cx}(ok:X.Ok)(E:Value->Shared->Prop):(X.jt E).Ok:=
 ⟨ok.mod,ok.kind,ok.glob,ok.blt,ok.above,ok.inj,ok.has,ok.Ol,ok.hd,ok.frames,ok.OG,ok.UU,ok.bs,ok.JE,ok.ua,ok.Jz,ok.jc,ok.My⟩
theorem Cx.Ok.dH {X:Cx}{E:Value->Shared->Prop}(ok:(X.jt E).Ok):X.Ok:=
 ⟨ok.mod,ok.kind,ok.glob,ok.blt,ok.above,ok.inj,ok.has,ok.Ol,ok.hd,ok.frames,ok.OG,ok.UU,ok.bs,ok.JE,ok.ua,ok.Jz,ok.jc,ok.My⟩
section
variable {X:Cx}{aa:List (Addr×Obj)}{σ:St}{H:Hp}{s:Shared}{E:Value->Shared->Prop}
theorem Inv.jt (I:Inv X aa σ H s)(E:Value->Shared->Prop):Inv (X.jt E) aa σ H s:=⟨I.ok.jt E,I.os,I.bare,I.base,I.loc,I.cell,I.free,I.eE,I.pin,I.aU,I.len⟩
theorem Inv.dH (I:Inv (X.jt E) aa σ H s):Inv X aa σ H s:=⟨I.ok.dH,I.os,I.bare,I.base,I.loc,I.cell,I.free,I.eE,I.pin,I.aU,I.len⟩
theorem SP.dH {D:Ends}{f:Flow}{s':Shared}(h:SP (X.jt E) aa D f s'):SP X aa D f s':=by
 cases f with
 | next=>obtain ⟨br,H',I,q⟩:=h;exact ⟨br,H',I.dH,q⟩
 | brk=>obtain ⟨br,H',I,q⟩:=h;exact ⟨br,H',I.dH,q⟩
 | cont=>obtain ⟨br,H',I,q⟩:=h;exact ⟨br,H',I.dH,q⟩
 | ret u=>obtain ⟨v,br,H',I,r,q⟩:=h;exact ⟨v,br,H',I.dH,r,q⟩
theorem lJ.OQ {st:List Stmt}{t:TS}(h:lJ X.OQ st t):lJ X st t:=λaa s σ H D I hw=>
 wpAny_mono (h aa s σ H D (I.jt _) hw) (λ_ _ q=>q.dH) λ_ _ z=>False.elim z
end
section
variable {X:Cx}{st:Stmt}{rest:List Stmt}{t u:TS}{e:Expr}{te:TE}{pos:Pos}
def lP:TS:=λD σ H=>D.nx σ H
def KL (t u:TS):TS:=λD σ H=>t (D.go (u D)) σ H
theorem xQ:lJ X [] lP:=λ_ _ σ H _ I h=>wpAny_execs_nil ⟨σ,H,I,h⟩
theorem tK (h1:PS X st t)(h2:lJ X rest u):lJ X (st::rest) (KL t u):=by
 intro aa s σ H D I h;refine wpAny_execs_cons (aM (h1 aa s σ H (D.go (u D)) I h) λf s1 q=>?_);cases f with
 | next=>
  obtain ⟨br,H',I',q⟩:=q;exact h2 aa s1 br H' D I' q
 | ret v=>exact q
 | brk=>exact q
 | cont=>exact q
theorem Jb (h1:PS X st t):lJ X [st] t:=by
 intro aa s σ H D I h;refine wpAny_execs_cons (aM (h1 aa s σ H D I h) λf s1 q=>?_);cases f with
 | next=>exact wpAny_execs_nil q
 | ret v=>exact q
 | brk=>exact q
 | cont=>exact q
theorem Inv.quiet {aa:List (Addr×Obj)}{σ:St}{H:Hp}{s:Shared}(I:Inv X aa σ H s):interactive X.env=false:=by simp [interactive,I.ok.kind]
def JP (te:TE):TS:=λD σ H=>te σ H λ_ H1=>D.nx σ H1
theorem wb (he:PE X e te)(hs:swapsWith e none pos.line X.env=pure false:=by rfl):PS X (.Expr e pos) (JP te):=by intro aa s σ H D I h;exact wpAny_Expr_any (aM (he aa s σ H _ I h) λv s1 ⟨x,H1,I1,r1,q1⟩=>⟨σ,H1,I1,q1⟩) I.quiet hs
def MQ (te:TE):TS:=λD σ H=>te σ H D.rt
theorem xM (he:PE X e te):PS X (.Return (some e) pos) (MQ te):=by intro aa s σ H D I h;exact wpAny_Return_some (aM (he aa s σ H _ I h) λv s1 ⟨x,H1,I1,r1,q1⟩=>⟨x,σ,H1,I1,r1,q1⟩)
def MV (c:TT)(t u:TS):TS:=λD σ H=>c σ H λb H1=>if b=true then t D σ H1 else u D σ H1
theorem xg {c:Expr}{a b:List Stmt}{tc:TT}(hc:PT X c tc)(ha:lJ X a t)(hb:lJ X b u):PS X (.If c a b pos) (MV tc t u):=by
 intro aa s σ H D I h;refine wpAny_If (aM (hc aa s σ H _ I h) λd s1 Qi=>?_);obtain ⟨H1,I1,q1⟩:=Qi;cases d with
 | true=>exact ha aa s1 σ H1 D I1 q1
 | false=>exact hb aa s1 σ H1 D I1 q1
end
abbrev TG:=V->St->Hp->(St->Hp->Prop)->Prop
abbrev Kq:=List V->St->Hp->(St->Hp->Prop)->Prop
def PG (X:Cx)(target:Expr)(t:TG):Prop:=
 ∀ (aa:List (Addr×Obj)) (s:Shared) (σ:St) (H:Hp) (v:V) (u:Value) (Q:St->Hp->Prop),Inv X aa σ H s->RelV v u->t v σ H Q ->
  wpAny (model X.prog X.w) X.A (assign target X.env u) (λ_ s'=>∃ br H',Inv X aa br H' s'/\Q br H') X.xe s
def Oo (X:Cx)(ts:List Expr)(t:Kq):Prop:=
 ∀ (aa:List (Addr×Obj)) (s:Shared) (σ:St) (H:Hp) (vs:List V) (us:List Value) (Q:St->Hp->Prop),Inv X aa σ H s->Vals vs us->t vs σ H Q ->
  wpAny (model X.prog X.w) X.A (assignInOrder ((assignEach ts X.env).map (·.2)) us) (λ_ s'=>∃ br H',Inv X aa br H' s'/\Q br H') X.xe s
abbrev vJ:=V->V->V->Hp->(Hp->Prop)->Prop
def L7 (X:Cx)(t:vJ):Prop:=
 ∀ (aa:List (Addr×Obj)) (s:Shared) (σ:St) (H:Hp) (o i v:V) (ov iv u:Value) (Q:Hp->Prop),Inv X aa σ H s->RelV o ov->RelV i iv->RelV v u->t o i v H Q ->
  wpAny (model X.prog X.w) X.A (setItem ov iv u) (λ_ s'=>∃ H',Inv X aa σ H' s'/\Q H') X.xe s
abbrev Ph:=V->V->Hp->VK->Prop
def U5 (X:Cx)(op:Operator)(t:Ph):Prop:=
 ∀ (aa:List (Addr×Obj)) (s:Shared) (σ:St) (H:Hp) (x y:V) (v u:Value) (Q:VK),Inv X aa σ H s->RelV x v->RelV y u->t x y H Q ->
  wpAny (model X.prog X.w) X.A (inplaceOp op v u) (EP X aa σ Q) X.xe s
section
variable {X:Cx}{pos:Pos}
def pX (i:Nat):TG:=λv σ H Q=>Q (σ.set i (some v)) H
theorem xH {i:Nat}{x:Str}(hN:X.N.Nodup)(hi:X.N[i]?=some x)(hx:ur X.env.scope x=true)(hf:jd X x=true:=by rfl):PG X (.Name x pos) (pX i):=by have hx:=kF hx;intro aa s σ H v u Q I r h;exact wpAny_assign_Name (iJ I hN hi hx r (λs' I'=>⟨_,H,I',h⟩) hf)
def Oc:Kq:=λvs σ H Q=>vs=[]/\Q σ H
def Kf (t:TG)(u:Kq):Kq:=λvs σ H Q=>∃ v r,vs=v::r/\t v σ H fun br H'=>u r br H' Q
theorem xo:Oo X [] Oc:=by intro aa s σ H vs us Q I r h;obtain ⟨e,h⟩:=h;subst e;cases r;exact assignInOrder_nil ⟨σ,H,I,h⟩
theorem xK {e:Expr}{es:List Expr}{t:TG}{u:Kq}(h1:PG X e t)(h2:Oo X es u)
  (hs:(assignEach (e::es) X.env).map (·.2)=assign e X.env::(assignEach es X.env).map (·.2):=by rfl):Oo X (e::es) (Kf t u):=by
 intro aa s σ H vs us Q I r h;obtain ⟨v,vr,e1,h⟩:=h;subst e1;cases r with
 | cons r rr=>
  rw [hs];refine assignInOrder_cons (aM (h1 aa s σ H _ _ _ I r h) λ_ s1 Qh=>?_);obtain ⟨Vt,H1,I1,q1⟩:=Qh;exact h2 aa s1 Vt H1 _ _ Q I1 rr q1
def LP (K:PySem.W.Frag)(n:Nat)(t:Kq):TG:=λv σ H Q=>∃ a xs,v=.ref a/\bC K H a xs/\xs.length=n/\t xs σ H Q
theorem Lc {es:List Expr}{k:Nat}{t:Kq}{n:Nat}(hc:X.calm=true)(h:Oo X es t)
  (hn:(assignEach es X.env).length=n:=by rfl) (uO:(assignEach es X.env).findIdx? (·.1)=none:=by rfl):PG X (.Tuple es k pos) (LP X.K n t):=by
 intro aa s σ H v u Q I r hw;obtain ⟨a,xs,e1,hq,hl,hw⟩:=hw;subst e1;cases r;obtain ⟨ak,rv,ht,hz⟩:=I.tuple hq;refine assign_Tuple_tuple (I.ok.hd hc) ht (by simp [hn,<- hl,rv.length]) uO λh' hx=>?_;have I1:Inv X aa σ H { s with heap:=h' }:=I.kept (t':=s.toks) λb o e=>hx b o (zT (Heap.lt_size e)) e;exact h aa _ σ H xs _ Q I1 (by simpa using rv) hw
def Ob (to ti:TE)(t:vJ):TG:=λv σ H Q=>to σ H λo H1=>ti σ H1 λi H2=>t o i v H2 λH3=>Q σ H3
theorem iP {o i:Expr}{to ti:TE}{t:vJ}(ho:PE X o to)(hi:PE X i ti)(hs:L7 X t)
  (ha:∀ v,assign (.Subscript o i pos) X.env v=(do
   let ov <- holding [v] (eval o X.env)
   let iv <- holding [v,ov] (eval i X.env)
   standAt pos
   holding [v,ov,iv] (setItem ov iv v)
   release [v,ov,iv] []):=by intro _;rfl):PG X (.Subscript o i pos) (Ob to ti t):=by
 intro aa s σ H v u Q I r h;rw [ha];refine wpAny_bind (wpAny_holding (aM (ho aa s σ H _ I h) λov s1 Qg=>?_));obtain ⟨x,H1,I1,r1,q1⟩:=Qg;refine wpAny_bind (wpAny_holding (aM (hi aa s1 σ H1 _ I1 q1) λiv s2 Qe=>?_));obtain ⟨y,H2,I2,r2,q2⟩:=Qe;refine wpAny_bind (wpAny_standAt (wpAny_bind (wpAny_holding (aM (hs aa s2 σ H2 x y v ov iv u _ I2 r1 r2 r q2) λ_ s3 Qd=>?_))));obtain ⟨H3,I3,q3⟩:=Qd;exact wpAny_release ⟨σ,H3,I3,q3⟩
def IK (te:TE)(g:TG):TS:=λD σ H=>te σ H λx H1=>g x σ H1 D.nx
theorem gc {tg e:Expr}{te:TE}{g:TG}(he:PE X e te)(hg:PG X tg g)(hs:swapsWithSole [tg] e pos.line X.env=pure false:=by rfl)(hw:swappedStores [tg] e X.env=pure none:=by rfl)
  (h1:(assignEach [tg] X.env).map (·.2)=[assign tg X.env]:=by rfl):PS X (.Assign [tg] e pos) (IK te g):=by
 intro aa s σ H D I h;refine wpAny_Assign_stores (aM (he aa s σ H _ I h) λv s1 Qc=>?_) hs hw;obtain ⟨x,H1,I1,r1,q1⟩:=Qc;rw [h1];exact aM (hg aa s1 σ H1 x v _ I1 r1 q1) λ_ s2 q=>q
theorem xL {i:Nat}{x:Str}{e:Expr}{te:TE}{pos':Pos}(hN:X.N.Nodup)(hi:X.N[i]?=some x)(hx:ur X.env.scope x=true)(he:PE X e te)(hs:swapsWith e (some (.Name x pos')) pos.line X.env=pure false:=by rfl)(hf:jd X x=true:=by rfl) :
  PS X (.Assign [.Name x pos'] e pos) (IK te (pX i)):=by
 have hx:=kF hx;intro aa s σ H D I h;refine wpAny_Assign_Name (aM (he aa s σ H _ I h) λv s1 Qa=>?_) hs;obtain ⟨y,H1,I1,r1,q1⟩:=Qa;exact iJ I1 hN hi hx r1 (λs2 I2=>⟨_,H1,I2,q1⟩) hf
def JS (to ti te:TE)(IJ:V->V->Hp->VK->Prop)(OE:Ph)(II:vJ):TS:=λD σ H=>to σ H λo H1=>ti σ H1 λi H2=>IJ o i H2 λx H3=>te σ H3 λy H4=>OE x y H4 λz H5=>II o i z H5 λH6=>D.nx σ H6
def Oq (X:Cx)(t:V->V->Hp->VK->Prop):Prop:=
 ∀ (aa:List (Addr×Obj)) (s:Shared) (σ:St) (H:Hp) (o i:V) (ov iv:Value) (Q:VK),Inv X aa σ H s->RelV o ov->RelV i iv->t o i H Q ->
  wpAny (model X.prog X.w) X.A (getItem ov iv) (EP X aa σ Q) X.xe s
theorem Jc {o i e:Expr}{to ti te:TE}{IJ:V->V->Hp->VK->Prop}{OE:Ph}{II:vJ}{op:Operator}{KG:Pos}(ho:PE X o to)(hi:PE X i ti)(hg:Oq X IJ)(he:PE X e te)(hp:U5 X op OE)(hs:L7 X II)
  (ha:∀ ov iv new,augStore i ov iv new=(do holding [new,ov,iv] (setItem ov iv new);release [new,ov,iv] [];pure .next):=by intros;rfl):PS X (.AugAssign (.Subscript o i KG) op e pos) (JS to ti te IJ OE II):=by
 intro aa s σ H D I h;refine wpAny_AugAssign_SubscriptAny (aM (ho aa s σ H _ I h) λov s1 P9=>?_) ha;obtain ⟨x1,H1,I1,r1,q1⟩:=P9;refine aM (hi aa s1 σ H1 _ I1 q1) λiv s2 P8=>?_;obtain ⟨x2,H2,I2,r2,q2⟩:=P8;refine aM (hg aa s2 σ H2 x1 x2 ov iv _ I2 r1 r2 q2) λold s3 P7=>?_;obtain ⟨x3,H3,I3,r3,q3⟩:=P7;refine aM (he aa s3 σ H3 _ I3 q3) λv s4 P6=>?_;obtain ⟨x4,H4,I4,r4,q4⟩:=P6;refine aM (hp aa s4 σ H4 x3 x4 old v _ I4 r3 r4 q4) λnew s5 P5=>?_;obtain ⟨x5,H5,I5,r5,q5⟩:=P5;exact aM (hs aa s5 σ H5 x1 x2 x5 ov iv new _ I5 r1 r2 r5 q5) λ_ s6 ⟨H6,I6,q6⟩=>⟨σ,H6,I6,q6⟩
def Uc (f:Int->Int->Int):Ph:=λx y H Q=>∃ i j,x=.int i/\y=.int j/\Q (.int (f i j)) H
theorem Ls:U5 X .Add (Uc λi j=>i + j):=by intro aa s σ H x y v u Q I r1 r2 h;obtain ⟨i,j,e1,e2,q⟩:=h;subst e1;subst e2;obtain ⟨t,rfl⟩:=r1;obtain ⟨t',rfl⟩:=r2;exact iadd_int ⟨.int _,H,I.tok _,⟨_,rfl⟩,q⟩
end
section
variable {X:Cx}{pos:Pos}
end
structure It where
 go:Nat->Hp->Prop
 jq:Nat->Hp->V->Hp->Prop
 stop:Nat->Hp->Prop
def ic (X:Cx)(aa:List (Addr×Obj))(H:Hp)(b:Addr):Prop:=
 H b=none/\b≠X.env.locals/\b ∉ X.fs/\(b∈X.ex\/X.cj.heap.objs.size<=b)/\(∀ x c,X.env.cells.lookup x=some c->c≠b)/\∀ p∈X.pn++aa,p.1≠b
theorem Inv.mX {X:Cx}{aa:List (Addr×Obj)}{σ:St}{H H':Hp}{s:Shared}{b:Addr}(I:Inv X aa σ H s)(hb:s.heap.objs.size<=b)(hn:H' b=none):ic X aa H' b:=by
 refine ⟨hn,yJ (zY I.lt hb),I.Nb hb,.inr (yH I.sz hb),λx c e z=>?_,λp hp z=>?_⟩
 ·obtain ⟨v,q⟩:=I.cell x c e;exact absurd (zY q.lt (by rw [z];exact hb)) (zy _)
 ·exact absurd (zY (Heap.lt_size (I.pin p hp).1) (by rw [z];exact hb)) (zy _)
structure Turn (P:Program) (w:World) (K:PySem.W.Frag) (tg:Expr) (J:It) (fp:List Addr) (it:Addr) (tn:Nat->Heap->Prop):Prop where
 mem:it∈fp
 obj:∀ i h,tn i h->∀ b∈fp,∃ o,h.get? b=some o/\∀ v,o.data≠.cell v
 keep:∀ i h h',tn i h->(∀ b∈fp,∀ o,h.get? b=some o->h'.get? b=some o)->tn i h'
 item:∀ (X:Cx),X.prog=P->X.w=w->X.K=K->X.calm=true->∀ (i:Nat) (aa:List (Addr×Obj)) (s:Shared) (σ:St) (H:Hp) (E:Value->Shared->Prop),Inv X aa σ H s->(∀ b∈fp,ic X aa H b)->tn i s.heap->J.go i H ->
  wpAny (model P w) X.A (pyNext (.ref it)) (λr s1=>∃ u,r=some u /\
   wpAny (model P w) X.A (letOwnedTupleGo tg (.ref it) u) (λ_ s2=>∃ x H',Inv X aa σ H' s2/\RelV x u/\J.jq i H x H'/\tn (i + 1) s2.heap/\∀ b∈fp,H' b=none) E s1) E s
 done:∀ (X:Cx),X.prog=P->X.w=w->X.K=K->X.calm=true->∀ (i:Nat) (aa:List (Addr×Obj)) (s:Shared) (σ:St) (H:Hp) (E:Value->Shared->Prop),Inv X aa σ H s->(∀ b∈fp,ic X aa H b)->tn i s.heap->J.stop i H ->
  wpAny (model P w) X.A (pyNext (.ref it)) (λr s1=>r=none/\Inv X aa σ H s1) E s
 self:∀ (A:Around) (i:Nat) (s:Shared) (Q:Value->Shared->Prop) (E:Value->Shared->Prop),tn i s.heap->Q (.ref it) s->wpAny (model P w) A (pyIter (.ref it)) Q E s
abbrev TI:=St->Hp->(It->Hp->Prop)->Prop
def SD (X:Cx)(aa:List (Addr×Obj))(σ:St)(tg:Expr)(R:It->Hp->Prop)(Nv:Value)(s2:Shared):Prop:=
 ∃ (it:Addr) (fp:List Addr) (tn:Nat->Heap->Prop) (J:It) (H':Hp),Nv=.ref it/\Inv X aa σ H' s2/\Turn X.prog X.w X.K tg J fp it tn/\tn 0 s2.heap/\(∀ b∈fp,ic X aa H' b)/\R J H'
def PI (X:Cx)(tg iter:Expr)(wi:TI):Prop:=
 ∀ (aa:List (Addr×Obj)) (s:Shared) (σ:St) (H:Hp) (R:It->Hp->Prop),Inv X aa σ H s->wi σ H R ->
  wpAny (model X.prog X.w) X.A (eval iter X.env) (λv s1=>wpAny (model X.prog X.w) X.A (pyIter v) (SD X aa σ tg R) X.xe s1) X.xe s
theorem pV {M:Model}{A:Around}{E:Value->Shared->Prop}{s:Shared}{tg:Expr}{it:Addr}{u:Value}{o:Obj}{n:String}{vs:Array Value}{Q:Unit->Shared->Prop}(ho:s.heap.get? it=some o)(hc:o.cls=.type n)(hd:o.data=.fields vs)
    (hn:["enumerate", "zip", "dict_itemiterator", "dict_reverseitemiterator", "odict_iterator", "itertools.zip_longest", "itertools.pairwise"].contains n=false) (hQ:Q () s):wpAny M A (letOwnedTupleGo tg (.ref it) u) Q E s:=by
  unfold letOwnedTupleGo;cases tg <;> first
    | exact wpAny_pure hQ
    | (cases u <;> first
        | exact wpAny_pure hQ
        | (refine wpAny_bind (wpAny_load ho ?_)
           rw [hc,hd];show wpAny M A (if (["enumerate", "zip", "dict_itemiterator", "dict_reverseitemiterator", "odict_iterator", "itertools.zip_longest", "itertools.pairwise"].contains n && vs[0]? == some (rawInt _))=true then _ else _) Q E s;rw [if_neg (by intro h;rw [hn,zo] at h;cases h)];exact wpAny_pure hQ))
def rG (K:PySem.W.Frag)(a:Addr):It:=
 ⟨λi H=>∃ xs x,av K H a xs/\xs[i]?=some x,λi H x H'=>H'=H/\∀ xs,av K H a xs->xs[i]?=some x,λi H=>∃ xs,av K H a xs/\xs.length<=i⟩
def MF (K:PySem.W.Frag)(a:Addr):It:=
 ⟨λi H=>∃ xs x,bC K H a xs/\xs[i]?=some x,λi H x H'=>H'=H/\∀ xs,bC K H a xs->xs[i]?=some x,λi H=>∃ xs,bC K H a xs/\xs.length<=i⟩
def vM (lo:Int)(n:Nat):It:=⟨λi _=>i < n,λi H x H'=>H'=H/\x=.int (lo + i),λi _=>n<=i⟩
theorem qj {P:Program}{w:World}{K:PySem.W.Frag}{tg:Expr}(a it:Addr):Turn P w K tg (rG K a) [it] it (λi h=>h.IsListIter it a i) where
 mem:=by simp
 obj:=λi h st b hb=>by
  have e:b=it:=by simpa using hb
  subst e;obtain ⟨o,e,c,d⟩:=st;exact ⟨o,e,λv z=>by rw [d] at z;cases z⟩
 keep:=λi h h' st k=>st.at λo e=>k it (by simp) o e
 item:=by
  intro X hP hw hK hc i aa s σ H E I hf st hg;subst hP hw hK;obtain ⟨xs,x,hq,hx⟩:=hg;obtain ⟨ak,rv,p,hz⟩:=I.list hq;obtain ⟨u,hu,ru⟩:=rv.get hx;obtain ⟨f0,f1,f2,f3,f4,f5⟩:=hf it (by simp);refine wpAny_pyNext_list_item st p.isList (x:=u) (by simpa using hu) λh' sN sb=>?_;have I1:Inv X aa σ H { s with heap:=h' }:=I.turned (t':=s.toks) (λb o hb e=>(sb.2 b hb).trans e) f0 f1 f3 f4 f5;obtain ⟨o,e,c,d⟩:=id sN;exact ⟨u,rfl,pV (s:={ s with heap:=h' }) e c d (by decide) ⟨x,H,I1,ru,⟨rfl,λys hy=>by rw [I.fN hy hq];exact hx⟩,sN,λb hb=>(hf b hb).1⟩⟩
 done:=by
  intro X hP hw hK hc i aa s σ H E I hf st hg;subst hP hw hK;obtain ⟨xs,hq,hx⟩:=hg;obtain ⟨ak,rv,p,hz⟩:=I.list hq;obtain ⟨f0,f1,f2,f3,f4,f5⟩:=hf it (by simp);have hl:=rv.length;exact wpAny_pyNext_list_end (I.ok.hd hc) st p.isList (by simp;omega) λh' eb=>⟨rfl,I.turned (t':=s.toks) (λb o hb e=>eb b o hb e) f0 f1 f3 f4 f5⟩
 self:=λ_ _ _ _ _ st h=>wpAny_pyIter_listiter st h
theorem nR {P:Program}{w:World}{K:PySem.W.Frag}{tg:Expr}(a it:Addr):Turn P w K tg (MF K a) [it] it (λi h=>h.IsTupleIter it a i) where
 mem:=by simp
 obj:=λi h st b hb=>by
  have e:b=it:=by simpa using hb
  subst e;obtain ⟨o,e,c,d⟩:=st;exact ⟨o,e,λv z=>by rw [d] at z;cases z⟩
 keep:=λi h h' st k=>st.at λo e=>k it (by simp) o e
 item:=by
  intro X hP hw hK hc i aa s σ H E I hf st hg;subst hP hw hK;obtain ⟨xs,x,hq,hx⟩:=hg;obtain ⟨ak,rv,p,hz⟩:=I.tuple hq;obtain ⟨u,hu,ru⟩:=rv.get hx;obtain ⟨f0,f1,f2,f3,f4,f5⟩:=hf it (by simp);refine wpAny_pyNext_tuple_item st (show s.heap.IsTuple a ak.toArray from p) (x:=u) (by simpa using hu) λh' sN sb=>?_;have I1:Inv X aa σ H { s with heap:=h' }:=I.turned (t':=s.toks) (λb o hb e=>(sb.2 b hb).trans e) f0 f1 f3 f4 f5;obtain ⟨o,e,c,d⟩:=id sN;exact ⟨u,rfl,pV (s:={ s with heap:=h' }) e c d (by decide) ⟨x,H,I1,ru,⟨rfl,λys hy=>by rw [I.jI hy hq];exact hx⟩,sN,λb hb=>(hf b hb).1⟩⟩
 done:=by
  intro X hP hw hK hc i aa s σ H E I hf st hg;subst hP hw hK;obtain ⟨xs,hq,hx⟩:=hg;obtain ⟨ak,rv,p,hz⟩:=I.tuple hq;obtain ⟨f0,f1,f2,f3,f4,f5⟩:=hf it (by simp);have hl:=rv.length;exact wpAny_pyNext_tuple_end (I.ok.hd hc) st (show s.heap.IsTuple a ak.toArray from p) (by simp;omega) λh' eb=>⟨rfl,I.turned (t':=s.toks) (λb o hb e=>eb b o hb e) f0 f1 f3 f4 f5⟩
 self:=λ_ _ _ _ _ st h=>wpAny_pyIter_tupleiter st h
theorem nS {P:Program}{w:World}{K:PySem.W.Frag}{tg:Expr}(it:Addr)(lo:Int)(n:Nat):Turn P w K tg (vM lo n) [it] it (λi h=>IsRangeIter h it (lo + (i:Nat) * 1) ((n:Int) - (i:Nat)) 1) where
 mem:=by simp
 obj:=λi h st b hb=>by
  have e:b=it:=by simpa using hb
  subst e;exact ⟨_,st,λv z=>by
   have z':Data.fields _=Data.cell v:=z;cases z'⟩
 keep:=λi h h' st k=>k it (by simp) _ st
 item:=by
  intro X hP hw hK hc i aa s σ H E I hf st hg;subst hP hw hK;obtain ⟨f0,f1,f2,f3,f4,f5⟩:=hf it (by simp);have W:=Walks.range (prog:=X.prog) (w:=X.w) (I.ok.hd hc) it lo 1 n;refine W.item i s _ _ hg st λv h' tk hv sN kk=>?_;obtain ⟨t,rfl⟩:=hv;have I1:Inv X aa σ H { s with heap:=h',toks:=tk }:=I.turned (λb o hb e=>kk b o (by simpa using hb) e) f0 f1 f3 f4 f5;refine ⟨_,rfl,pV (s:={ s with heap:=h',toks:=tk }) (n := "range_iterator") sN rfl rfl (by decide) ⟨.int (lo + i),H,I1,⟨t,?_⟩,⟨rfl,rfl⟩,sN,λb hb=>(hf b hb).1⟩⟩;rw [Int.mul_one]
 done:=by
  intro X hP hw hK hc i aa s σ H E I hf st hg;subst hP hw hK;obtain ⟨f0,f1,f2,f3,f4,f5⟩:=hf it (by simp);exact wpAny_pyNext_range_end (I.ok.hd hc) st (by have:n<=i:=hg;omega) λh' eb=>⟨rfl,I.turned (t':=s.toks) (λb o hb e=>eb b o hb e) f0 f1 f3 f4 f5⟩
 self:=λ_ _ _ _ _ st h=>wpAny_pyIter_rangeiter st h
section
variable {X:Cx}{tg:Expr}
def J5 (K:PySem.W.Frag)(tl:TE):TI:=fun σ H R=>tl σ H λx H1=>∃ a,x=.ref a/\(∃ xs,av K H1 a xs)/\R (rG K a) H1
def Nz (K:PySem.W.Frag)(tl:TE):TI:=fun σ H R=>tl σ H λx H1=>∃ a,x=.ref a/\(∃ xs,bC K H1 a xs)/\R (MF K a) H1
theorem Jf {l:Expr}{tl:TE}(hl:PE X l tl):PI X tg l (J5 X.K tl):=by
 intro aa s σ H R I h;refine aM (hl aa s σ H _ I h) λv s1 P4=>?_;obtain ⟨x,H1,I1,r1,q1⟩:=P4;obtain ⟨a,e,⟨xs,hq⟩,q⟩:=q1;subst e;cases r1;obtain ⟨ak,rv,p,hz⟩:=I1.list hq;refine wpAny_pyIter_list p.isList ?_;refine ⟨s1.heap.objs.size,[s1.heap.objs.size],_,_,H1,rfl,I1.kept (t':=s1.toks) λb o e=>Heap.get?_push_of_some _ e,qj a _,⟨_,Heap.get?_push_size _ rfl,rfl,rfl⟩,λb hb=>?_,q⟩;have e:b=s1.heap.objs.size:=by simpa using hb
 subst e;exact I1.mX (zE _) (I1.aU.fresh (zE _))
theorem Lb {l:Expr}{tl:TE}(hl:PE X l tl):PI X tg l (Nz X.K tl):=by
 intro aa s σ H R I h;refine aM (hl aa s σ H _ I h) λv s1 P1=>?_;obtain ⟨x,H1,I1,r1,q1⟩:=P1;obtain ⟨a,e,⟨xs,hq⟩,q⟩:=q1;subst e;cases r1;obtain ⟨ak,rv,p,hz⟩:=I1.tuple hq;refine wpAny_pyIter_tuple (show s1.heap.IsTuple a ak.toArray from p) ?_;refine ⟨s1.heap.objs.size,[s1.heap.objs.size],_,_,H1,rfl,I1.kept (t':=s1.toks) λb o e=>Heap.get?_push_of_some _ e,nR a _,⟨_,Heap.get?_push_size _ rfl,rfl,rfl⟩,λb hb=>?_,q⟩;have e:b=s1.heap.objs.size:=by simpa using hb
 subst e;exact I1.mX (zE _) (I1.aU.fresh (zE _))
theorem mh {aa:List (Addr×Obj)}{σ:St}{H:Hp}{s:Shared}{R:It->Hp->Prop}{E:Value->Shared->Prop}{lo hi:Int}{t u v:Tok}{tk:Nat}(I:Inv X aa σ H s)(h1:-(2 ^ 62)<=lo)(h2:lo < 2 ^ 62)(h3:-(2 ^ 62)<=hi)(h4:hi < 2 ^ 62)
  (q:R (vM lo (hi - lo).toNat) H):wpAny (model X.prog X.w) X.A (pyIter (.ref s.heap.objs.size)) (SD X aa σ tg R) E { s with heap:=s.heap.push { cls:=.type "range", data:=.fields #[.int lo t,.int hi u,.int 1 v] },toks:=tk }:=by
 refine wpAny_pyIter_range (IsRange.new ..) (small_one h1 h2 h3 h4) ?_;have I1:Inv X aa σ H { s with heap:=s.heap.push { cls:=.type "range", data:=.fields #[.int lo t,.int hi u,.int 1 v] },toks:=tk }:=I.kept λb o e=>Heap.get?_push_of_some _ e;refine ⟨(s.heap.push { cls:=.type "range", data:=.fields #[.int lo t,.int hi u,.int 1 v] }).objs.size,[(s.heap.push { cls:=.type "range", data:=.fields #[.int lo t,.int hi u,.int 1 v] }).objs.size],_,_,H,rfl,
  I1.kept (t':=tk) λb o e=>Heap.get?_push_of_some _ e,nS _ lo (hi - lo).toNat,?_,λb hb=>?_,q⟩
 ·have e1:lo + ((0:Nat):Int) * 1=lo:=by simp
  have e2:(((hi - lo).toNat:Nat):Int) - ((0:Nat):Int)=Builtin.Range.rangeSize lo hi 1:=by rw [rangeSize_one];split <;> omega
  show IsRangeIter _ _ (lo + ((0:Nat):Int) * 1) ((((hi - lo).toNat:Nat):Int) - ((0:Nat):Int)) 1;rw [e1,e2];exact Heap.get?_push_size _ rfl
 ·have e:b=(s.heap.push { cls:=.type "range", data:=.fields #[.int lo t,.int hi u,.int 1 v] }).objs.size:=by simpa using hb
  subst e;exact I1.mX (zE _) (I1.aU.fresh (zE _))
def ND (ta:TA):TI:=fun σ H R=>ta σ H λvs H1=>∃ j:Int,vs=[.int j]/\-(2 ^ 62)<=j/\j < 2 ^ 62/\R (vM 0 j.toNat) H1
def NC (ta:TA):TI:=fun σ H R=>ta σ H λvs H1=>∃ i j:Int,vs=[.int i,.int j]/\(-(2 ^ 62)<=i/\i < 2 ^ 62/\-(2 ^ 62)<=j/\j < 2 ^ 62)/\R (vM i (j - i).toNat) H1
theorem xx {a:Expr}{ta:TA}{p pos:Pos}(hg:Gl X "range")(hm:X.mg "range" = none)(ha:PA X [a] ta)(hs:starEach [a] X.env=[(false,eval a X.env)]:=by rfl):PI X tg (.Call (.Name "range" p) [a] [] pos) (ND ta):=by
 intro aa s σ H R I h;refine Call_ (bJ I hg hm boot_range (zb (aM (ha pos aa s σ H _ I h) λus s1 P0=>?_) hs rfl));obtain ⟨vs,H1,I1,r1,q1⟩:=P0;obtain ⟨j,e,q1,q2,q⟩:=q1;subst e;cases r1 with
 | cons r rr=>
  cases rr;obtain ⟨t,rfl⟩:=r;exact call_range_1 (mh I1 (by omega) (by omega) q1 q2 (by simpa using q))
theorem qL {a b:Expr}{ta:TA}{p pos:Pos}(hg:Gl X "range")(hm:X.mg "range" = none)(ha:PA X [a,b] ta)(hs:starEach [a,b] X.env=[(false,eval a X.env),(false,eval b X.env)]:=by rfl)(lH:starEach [b] X.env=[(false,eval b X.env)]:=by rfl) :
  PI X tg (.Call (.Name "range" p) [a,b] [] pos) (NC ta):=by
 intro aa s σ H R I h;refine Call_ (bJ I hg hm boot_range (zb (aM (ha pos aa s σ H _ I h) λus s1 PZ=>?_) (by rw [hs,lH]) (by rw [lH];rfl)));obtain ⟨vs,H1,I1,r1,q1⟩:=PZ;obtain ⟨i,j,e,⟨q1,q2,q3,q4⟩,q⟩:=q1;subst e;cases r1 with
 | cons r rr=>
  cases rr with
  | cons r' rr=>
   cases rr;obtain ⟨t,rfl⟩:=r;obtain ⟨t',rfl⟩:=r';exact call_range_2 (mh I1 q1 q2 q3 q4 q)
def QB (wi:TI)(g:TG)(tb:TS):TS:=λD σ H=>wi σ H λJ H1=>∃ W:Nat->Nat->St->Hp->Prop,(∃ m,W 0 m σ H1)/\∀ i m σ H,W i m σ H ->
 (J.stop i H/\D.nx σ H)\/(J.go i H/\∃ N:St->Hp->Prop,(∀ br H',N br H'->∃ m',m' < m/\W (i + 1) m' br H')/\∀ x H',J.jq i H x H'->g x σ H' fun fj H2=>tb (D.lp N) fj H2)
def bR (fp:List Addr)(h:Heap):List (Addr×Obj):=fp.filterMap λb=>(h.get? b).map λo=>(b,o)
theorem xk {fp:List Addr}{h:Heap}{b:Addr}{o:Obj}(hb:b∈fp)(e:h.get? b=some o):(b,o)∈bR fp h:=yW.mpr ⟨b,hb,by rw [e];rfl⟩
theorem jM {fp:List Addr}{h:Heap}{p:Addr×Obj}(hp:p∈bR fp h):p.1∈fp/\h.get? p.1=some p.2:=by
 obtain ⟨b,hb,e⟩:=yW.mp hp;cases q:h.get? b with
 | none=>rw [q] at e;cases e
 | some o=>
  rw [q] at e;have e':(b,o)=p:=Option.some.inj e;subst e';exact ⟨hb,q⟩
theorem Inv.pinned {aa:List (Addr×Obj)}{σ:St}{H:Hp}{s:Shared}{fp:List Addr}(I:Inv X aa σ H s)(hf:∀ b∈fp,ic X aa H b)(ho:∀ b∈fp,∃ o,s.heap.get? b=some o/\∀ v,o.data≠.cell v):Inv X (aa++bR fp s.heap) σ H s:=
 I.cz λp hp=>(zS.mp hp).elim (λz=>I.pin p (zC _ z)) λz=>by
  obtain ⟨hb,e⟩:=jM z;obtain ⟨f0,f1,f2,_⟩:=hf p.1 hb;obtain ⟨o,e',d⟩:=ho p.1 hb;rw [e] at e';cases e';exact ⟨e,f0,f1,f2,d⟩
theorem Inv.bH {aa pl:List (Addr×Obj)}{σ:St}{H:Hp}{s:Shared}(I:Inv X (aa++pl) σ H s):Inv X aa σ H s:=I.cz λp hp=>I.pin p (zC _ (ze _ hp))
theorem xj {iter:Expr}{body:List Stmt}{wi:TI}{g:TG}{tb:TS}{pos:Pos}(hp:PassesOwn (model X.prog X.w) X.A X.env X.xe)(hc:X.calm=true)(hi:PI X tg iter wi)(hg:PG X tg g)(hb:lJ X body tb)
  (hs:∀ x,foldedSetIterable iter X.env x=pure x:=by intro _;rfl):PS X (.For tg iter body [] pos) (QB wi g tb):=by
 intro aa s σ H D I h;refine wpAny_For (aM (hi aa s σ H _ I h) λv s1 h1=>aM h1 λNv s2 h2=>?_) hs;obtain ⟨it,fp,tn,J,H2,e,I2,T,rM,f2,W,⟨m0,w0⟩,turn⟩:=h2;subst e
 -- Vx stays true of pe eT objects through pe loop
 have eK:∀ {H':Hp},(∀ b∈fp,H' b=none)->∀ b∈fp,ic X aa H' b:=λhn b hb=>⟨hn b hb,(f2 b hb).2⟩;refine codeAny_forLoop_any (λn s'=>∃ i br H',Inv X aa br H' s'/\tn i s'.heap/\(∀ b∈fp,H' b=none)/\W i n br H') ?_ m0 ⟨0,σ,H2,I2,rM,λb hb=>(f2 b hb).1,w0⟩;rintro n s3 ⟨i,MH,H3,I3,S9,UQ,w3⟩;rcases turn i n MH H3 w3 with ⟨stop,qn⟩ | ⟨go,N,hN,step⟩
 ·refine wpAny_passesOwn hp (aM (T.done X rfl rfl rfl hc i aa s3 MH H3 X.xe I3 (eK UQ) S9 stop) λr s4 ⟨hr,I4⟩=>?_);subst hr;exact wpAny_execs_nil ⟨MH,H3,I4,qn⟩
 ·refine wpAny_passesOwn hp (aM (T.item X rfl rfl rfl hc i aa s3 MH H3 X.xe I3 (eK UQ) S9 go) λr s4 ⟨u,hr,h4⟩=>?_);subst hr;refine wpAny_passesOwn hp (aM h4 λ_ s5 PY=>?_);obtain ⟨x,H5,I5,r5,y5,rL,Iv⟩:=PY;have Yu:=I5.pinned (eK Iv) (T.obj _ _ rL);refine wpAny_passesOwn hp (aM (hg _ s5 MH H5 x u _ Yu r5 (step x H5 y5)) λ_ s6 PX=>?_);obtain ⟨Vs,H6,I6,q6⟩:=PX;refine wpAny_passesOwn hp (aM (hb _ s6 Vs H6 _ I6 q6) λf s7 q7=>?_);have again:∀ {rZ:St} {H7:Hp},Inv X (aa++bR fp s5.heap) rZ H7 s7->N rZ H7->∃ m,m < n/\∃ i br H',Inv X aa br H' s7/\tn i s7.heap/\(∀ b∈fp,H' b=none)/\W i m br H':=λ{rZ H7} I7 n7=>by
   obtain ⟨m',hm,w7⟩:=hN rZ H7 n7;refine ⟨m',hm,i + 1,rZ,H7,I7.bH,T.keep _ _ _ rL λb hb o e=>(I7.pin (b,o) (zC _ (zC _ (xk hb e)))).1,λb hb=>?_,w7⟩;obtain ⟨o,e,d⟩:=T.obj _ _ rL b hb;exact (I7.pin (b,o) (zC _ (zC _ (xk hb e)))).2.1
  cases f with
  | next=>obtain ⟨rZ,H7,I7,n7⟩:=q7;exact again I7 n7
  | cont=>obtain ⟨rZ,H7,I7,n7⟩:=q7;exact again I7 n7
  | brk=>obtain ⟨rZ,H7,I7,q7⟩:=q7;exact ⟨rZ,H7,I7.bH,q7⟩
  | ret v=>obtain ⟨x7,rZ,H7,I7,r7,q7⟩:=q7;exact ⟨x7,rZ,H7,I7.bH,r7,q7⟩
end
theorem wx {K:PySem.W.Frag}{a:Addr}{xs:List V}{g:TG}{tb:TS}{D:Ends}{σ:St}{H:Hp}(Pv:Nat->St->Hp->Prop)(h0:Pv 0 σ H)(hl:∀ i σ H,i<=xs.length->Pv i σ H->av K H a xs)
  (hs:∀ i x σ H,xs[i]?=some x->Pv i σ H->g x σ H fun fj H2=>tb (D.lp (Pv (i + 1))) fj H2) (hd:∀ σ H,Pv xs.length σ H->D.nx σ H) :
  ∃ W:Nat->Nat->St->Hp->Prop,(∃ m,W 0 m σ H)/\∀ i m σ H,W i m σ H ->
   ((rG K a).stop i H/\D.nx σ H)\/((rG K a).go i H/\∃ N:St->Hp->Prop,(∀ br H',N br H'->∃ m',m' < m/\W (i + 1) m' br H')/\∀ x H',(rG K a).jq i H x H'->g x σ H' fun fj H2=>tb (D.lp N) fj H2):=by
 refine ⟨λi m σ H=>m=xs.length - i/\i<=xs.length/\Pv i σ H,⟨xs.length,by simp,zV _,h0⟩,?_⟩;rintro i m σ H ⟨rfl,hi,p⟩;have q:=hl i σ H hi p;by_cases cM:i < xs.length
 ·refine .inr ⟨⟨xs,xs[i],q,by simp [cM]⟩,Pv (i + 1),fun br H' p'=>⟨xs.length - (i + 1),by omega,rfl,cM,p'⟩,λx H' y=>?_⟩;obtain ⟨e,y⟩:=y;subst e;exact hs i x σ _ (y xs q) p
 ·have e:i=xs.length:=by omega
  subst e;exact .inl ⟨⟨xs,q,zE _⟩,hd σ H p⟩
theorem wV {lo:Int}{n:Nat}{g:TG}{tb:TS}{D:Ends}{σ:St}{H:Hp}(Pv:Nat->St->Hp->Prop)(h0:Pv 0 σ H)
  (hs:∀ i σ H,i < n->Pv i σ H->g (.int (lo + i)) σ H fun fj H2=>tb (D.lp (Pv (i + 1))) fj H2) (hd:∀ σ H,Pv n σ H->D.nx σ H) :
  ∃ W:Nat->Nat->St->Hp->Prop,(∃ m,W 0 m σ H)/\∀ i m σ H,W i m σ H ->
   ((vM lo n).stop i H/\D.nx σ H)\/((vM lo n).go i H/\∃ N:St->Hp->Prop,(∀ br H',N br H'->∃ m',m' < m/\W (i + 1) m' br H')/\∀ x H',(vM lo n).jq i H x H'->g x σ H' fun fj H2=>tb (D.lp N) fj H2):=by
 refine ⟨λi m σ H=>m=n - i/\i<=n/\Pv i σ H,⟨n,by simp,zV _,h0⟩,?_⟩;rintro i m σ H ⟨rfl,hi,p⟩;by_cases cM:i < n
 ·refine .inr ⟨cM,Pv (i + 1),fun br H' p'=>⟨n - (i + 1),by omega,rfl,cM,p'⟩,λx H' y=>?_⟩;obtain ⟨e,y⟩:=y;subst e y;exact hs i σ _ cM p
 ·have e:i=n:=by omega
  subst e;exact .inl ⟨zE _,hd σ H p⟩
abbrev R2:=V->V->Hp->VK->Prop
def ff (X:Cx)(f:Value->Value->Sem Value)(r:R2):Prop:=
 ∀ (aa:List (Addr×Obj)) (s:Shared) (σ:St) (H:Hp) (x y:V) (v u:Value) (Q:VK),Inv X aa σ H s->RelV x v->RelV y u->r x y H Q ->
  wpAny (model X.prog X.w) X.A (f v u) (EP X aa σ Q) X.xe s
def Sz (X:Cx)(f:Value->Sem Value)(r:V->Hp->VK->Prop):Prop:=
 ∀ (aa:List (Addr×Obj)) (s:Shared) (σ:St) (H:Hp) (x:V) (v:Value) (Q:VK),Inv X aa σ H s->RelV x v->r x H Q ->
  wpAny (model X.prog X.w) X.A (f v) (EP X aa σ Q) X.xe s
def cH (X:Cx)(f:Value)(r:List V->Hp->VK->Prop):Prop:=
 ∀ (aa:List (Addr×Obj)) (s:Shared) (σ:St) (H:Hp) (xs:List V) (us:List Value) (Q:VK),Inv X aa σ H s->Vals xs us->r xs H Q ->
  wpAny (model X.prog X.w) X.A (call f us) (EP X aa σ Q) X.xe s
def MR (r:R2)(ta tb:TE):TE:=fun σ H Q=>ta σ H λx H1=>tb σ H1 λy H2=>r x y H2 Q
def S4 (r:V->Hp->VK->Prop)(ta:TE):TE:=fun σ H Q=>ta σ H λx H1=>r x H1 Q
def rI (C:Int->Int->Prop)(g:Int->Int->V):R2:=λx y H Q=>∃ i j,x=.int i/\y=.int j/\C i j/\Q (g i j) H
def rN (g:Int->Int->V):R2:=λx y H Q=>∃ i j,x=.int i/\y=.int j/\Q (g i j) H
def rU (g:Int->V):V->Hp->VK->Prop:=λx H Q=>∃ i,x=.int i/\Q (g i) H
section
variable {X:Cx}{a b c:Expr}{ta tb tc:TE}{pos:Pos}
theorem LZ (ha:PE X a ta)(hb:PE X b tb){aa:List (Addr×Obj)}{s:Shared}{σ:St}{H:Hp}{R:V->V->Hp->Prop}(I:Inv X aa σ H s)
  (h:ta σ H λx H1=>tb σ H1 λy H2=>R x y H2) {Q:Value->Shared->Prop}{f:Value->Value->Sem Value}
  (hf:∀ v u s2 x y H2,Inv X aa σ H2 s2->RelV x v->RelV y u->R x y H2->wpAny (model X.prog X.w) X.A (f v u) Q X.xe s2) :
  wpAny (model X.prog X.w) X.A (eval a X.env) (λv aI=>wpAny (model X.prog X.w) X.A (eval b X.env) (λu gT=>wpAny (model X.prog X.w) X.A (f v u) Q X.xe gT) X.xe aI) X.xe s:=by
 refine aM (ha aa s σ H _ I h) λv s1 PV=>?_;obtain ⟨x,H1,I1,r1,q1⟩:=PV;refine aM (hb aa s1 σ H1 _ I1 q1) λu s2 PU=>?_;obtain ⟨y,H2,I2,r2,q2⟩:=PU;exact hf v u s2 x y H2 I2 r1 r2 q2
theorem xI {op:Operator}{r:R2}(ho:ff X (binaryOp op) r)(ha:PE X a ta)(hb:PE X b tb):PE X (.BinOp a op b pos) (MR r ta tb):=by intro aa s σ H Q I h;exact wpAny_BinOp (LZ ha hb I h λv u s2 x y H2 I2 rx ry q=>ho aa s2 σ H2 x y v u Q I2 rx ry q)
theorem iQ {op:UnaryOp}{r:V->Hp->VK->Prop}(ho:Sz X (unaryOp op) r)(ha:PE X a ta):PE X (.UnaryOp op a pos) (S4 r ta):=by intro aa s σ H Q I h;exact UnaryOp_ (aM (ha aa s σ H _ I h) λv s1 ⟨x,H1,I1,r1,q1⟩=>ho aa s1 σ H1 x v Q I1 r1 q1)
theorem Mm {f:Value->Value->Sem Value}{C:Int->Int->Prop}{g:Int->Int->Int}
  (rule:∀ (i j:Int) (t u:Tok) (s:Shared) (Q:Value->Shared->Prop) (E:Value->Shared->Prop),C i j->Q (.int (g i j) s.toks) { s with toks:=s.toks + 1 }->wpAny (model X.prog X.w) X.A (f (.int i t) (.int j u)) Q E s) :
  ff X f (rI C λi j=>.int (g i j)):=by
 intro aa s σ H x y v u Q I rx ry h;obtain ⟨i,j,rfl,rfl,hc,q⟩:=h;obtain ⟨t,rfl⟩:=rx;obtain ⟨t',rfl⟩:=ry;exact rule i j t t' s _ _ hc ⟨.int (g i j),H,I.tok _,⟨_,rfl⟩,q⟩
theorem t6 {f:Value->Value->Sem Value}{g:Int->Int->Int}
  (rule:∀ (i j:Int) (t u:Tok) (s:Shared) (Q:Value->Shared->Prop) (E:Value->Shared->Prop),Q (.int (g i j) s.toks) { s with toks:=s.toks + 1 }->wpAny (model X.prog X.w) X.A (f (.int i t) (.int j u)) Q E s) :
  ff X f (rN λi j=>.int (g i j)):=by
 intro aa s σ H x y v u Q I rx ry h;obtain ⟨i,j,rfl,rfl,q⟩:=h;obtain ⟨t,rfl⟩:=rx;obtain ⟨t',rfl⟩:=ry;exact rule i j t t' s _ _ ⟨.int (g i j),H,I.tok _,⟨_,rfl⟩,q⟩
theorem Jk {f:Value->Value->Sem Value}{g:Int->Int->Bool}
  (rule:∀ (i j:Int) (t u:Tok) (s:Shared) (Q:Value->Shared->Prop) (E:Value->Shared->Prop),Q (.bool (g i j)) s->wpAny (model X.prog X.w) X.A (f (.int i t) (.int j u)) Q E s) :
  ff X f (rN λi j=>.bl (g i j)):=by
 intro aa s σ H x y v u Q I rx ry h;obtain ⟨i,j,rfl,rfl,q⟩:=h;obtain ⟨t,rfl⟩:=rx;obtain ⟨t',rfl⟩:=ry;exact rule i j t t' s _ _ ⟨.bl (g i j),H,I,rfl,q⟩
def rJ (i j:Int):Prop:=0<=j/\j<=1000000/\i.natAbs < 2 ^ 64
def rK (i j:Int):Prop:=(-(2 ^ 64) < i/\i < 2 ^ 64)\/(-(2 ^ 64) < j/\j < 2 ^ 64)
theorem rK.ok {i j:Int}(h:rK i j):IntMulOk i j:=by
 rcases h with ⟨h1,h2⟩ | ⟨h1,h2⟩
 ·exact .of_left (intBits_le_64 h1 h2)
 ·exact .of_right (intBits_le_64 h1 h2)
theorem nQ (k:Nat):(0:Int)<=2 ^ k:=by rw [two_pow_cast];exact zt _
theorem xU:ff X (binaryOp .Add) (rN λi j=>.int (i + j)):=t6 λ_ _ _ _ _ _ _ q=>add_int q
theorem cY:ff X (binaryOp .Sub) (rN λi j=>.int (i - j)):=t6 λ_ _ _ _ _ _ _ q=>sub_int q
theorem cK:ff X (binaryOp .Mult) (rI rK λi j=>.int (i * j)):=Mm λ_ _ _ _ _ _ _ hc q=>mul_int q hc.ok
theorem dM:ff X (binaryOp .Mod) (rI (λ_ j=>0 < j) λi j=>.int (i % j)):=Mm λi j _ _ _ _ _ hc q=>by
 have h1:(0:Int) < j:=hc;exact mod_int' (by omega) (by rw [Int.fmod_eq_emod_of_nonneg i (by omega)];exact q)
theorem gg:ff X (binaryOp .Pow) (rI rJ λi j=>.int (i ^ j.toNat)):=Mm λ_ _ _ _ _ _ _ hc q=>pow_int_small hc.1 hc.2.1 hc.2.2 q
theorem eO:ff X (binaryOp .LShift) (rI rJ λi j=>.int (i * 2 ^ j.toNat)):=Mm λ_ _ _ _ _ _ _ hc q=>lshift_int_small hc.1 hc.2.1 hc.2.2 q
theorem tV:ff X (binaryOp .RShift) (rI (λ_ j=>0<=j) λi j=>.int (i / 2 ^ j.toNat)):=Mm λi j _ _ _ _ _ hc q=>
 rshift_int hc (by rw [Int.fdiv_eq_ediv_of_nonneg i (nQ _)];exact q)
theorem iT:ff X (binaryOp .BitAnd) (rN λi j=>.int (Builtin.bitAnd i j)):=t6 λ_ _ _ _ _ _ _ q=>and_int q
theorem M8:ff X (binaryOp .BitOr) (rN λi j=>.int (Builtin.bitOr i j)):=t6 λ_ _ _ _ _ _ _ q=>or_int q
theorem Lf:ff X (binaryOp .BitXor) (rN λi j=>.int (Builtin.bitXor i j)):=t6 λ_ _ _ _ _ _ _ q=>xor_int q
theorem Vz {f:Value->Sem Value}{g:Int->Int}
  (rule:∀ (i:Int) (t:Tok) (s:Shared) (Q:Value->Shared->Prop) (E:Value->Shared->Prop),Q (.int (g i) s.toks) { s with toks:=s.toks + 1 }->wpAny (model X.prog X.w) X.A (f (.int i t)) Q E s) :
  Sz X f (rU λi=>.int (g i)):=by
 intro aa s σ H x v Q I rx h;obtain ⟨i,rfl,q⟩:=h;obtain ⟨t,rfl⟩:=rx;exact rule i t s _ _ ⟨.int (g i),H,I.tok _,⟨_,rfl⟩,q⟩
theorem eG:Sz X (unaryOp .USub) (rU λi=>.int (-i)):=Vz λ_ _ _ _ _ q=>neg_int q
end
def QF:V->Bool
 | .bu=>true | .int _=>true | .bl _=>true | .str _=>true | _=>false
def Te:V->Bool
 | .bu=>true | .int _=>true | .str _=>true | _=>false
def Tf:V->Bool
 | .bu=>true | .bl _=>true | .str _=>true | _=>false
def VF:V->Bool
 | .rS _=>true | _=>false
def IY:V->V->Bool
 | .bu,y=>QF y | .int _,y=>Te y | .bl _,y=>Tf y | .str _,y=>QF y | .rS _,y=>VF y | _,_=>false
def Tu:R2:=λx y H Q=>IY x y=true/\Q (.bl (decide (x=y))) H
def Tq:R2:=λx y H Q=>IY x y=true/\Q (.bl (!decide (x=y))) H
theorem p6 {i j:Int}:decide (V.int i=V.int j)=(i == j):=by rw [Bool.eq_iff_iff];simp
theorem vp {i j:Bool}:decide (V.bl i=V.bl j)=(i == j):=by rw [Bool.eq_iff_iff];simp
theorem p5 {i j:Str}:decide (V.str i=V.str j)=(i == j):=by rw [Bool.eq_iff_iff];simp
theorem p7 {i j:Array UInt8}:decide (V.rS i=V.rS j)=(i.toList == j.toList):=by rw [Bool.eq_iff_iff];cases i;cases j;simp
section
variable {X:Cx}{a b c:Expr}{ta tb tc:TE}{pos:Pos}
theorem xf {aa:List (Addr×Obj)}{σ:St}{H:Hp}{s:Shared}{Q:VK}{k k':Bool}(I:Inv X aa σ H s)(q:Q (.bl k) H)(e:k=k'):EP X aa σ Q (.bool k') s:=by subst e;exact ⟨.bl k,H,I,rfl,q⟩
theorem cE:ff X (compareOp .Eq) Tu:=by
 intro aa s σ H x y v u Q I rx ry h;obtain ⟨hs,q⟩:=h;cases x with
 | bu=>
  cases rx;cases y with
  | bu=>cases ry;exact PySem.EqNone.eq_none_none (xf I q (by simp))
  | bl j=>cases ry;exact PySem.EqNone.eq_none_bool (xf I q (by simp))
  | int j=>obtain ⟨t',rfl⟩:=ry;exact PySem.EqNone.eq_none_int (xf I q (by simp))
  | str j=>obtain ⟨t',rfl⟩:=ry;exact PySem.EqNone.eq_none_str (xf I q (by simp))
  | _=>exact absurd (show false=true from hs) zN
 | bl i=>
  cases rx;cases y with
  | bu=>cases ry;exact PySem.EqNone.eq_bool_none (xf I q (by simp))
  | bl j=>cases ry;exact eq_bool (xf I q vp)
  | str j=>obtain ⟨t',rfl⟩:=ry;exact PySem.EqMixed.eq_bool_str (xf I q (by simp))
  | _=>exact absurd (show false=true from hs) zN
 | int i=>
  obtain ⟨t,rfl⟩:=rx;cases y with
  | bu=>cases ry;exact PySem.EqNone.eq_int_none (xf I q (by simp))
  | int j=>obtain ⟨t',rfl⟩:=ry;exact eq_int (xf I q p6)
  | str j=>obtain ⟨t',rfl⟩:=ry;exact PySem.EqMixed.eq_int_str (xf I q (by simp))
  | _=>exact absurd (show false=true from hs) zN
 | str i=>
  obtain ⟨t,rfl⟩:=rx;cases y with
  | bu=>cases ry;exact PySem.EqNone.eq_str_none (xf I q (by simp))
  | bl j=>cases ry;exact PySem.EqMixed.eq_str_bool (xf I q (by simp))
  | int j=>obtain ⟨t',rfl⟩:=ry;exact PySem.EqMixed.eq_str_int (xf I q (by simp))
  | str j=>obtain ⟨t',rfl⟩:=ry;exact eq_str (xf I q p5)
  | _=>exact absurd (show false=true from hs) zN
 | rS i=>
  obtain ⟨t,rfl⟩:=rx;cases y with
  | rS j=>obtain ⟨t',rfl⟩:=ry;exact PySem.W.eq_bytes (xf I q p7)
  | _=>exact absurd (show false=true from hs) zN
 | _=>cases y <;> exact absurd (show false=true from hs) zN
theorem gM:ff X (compareOp .NotEq) Tq:=by
 intro aa s σ H x y v u Q I rx ry h;obtain ⟨hs,q⟩:=h;cases x with
 | bu=>
  cases rx;cases y with
  | bu=>cases ry;exact PySem.EqNone.ne_none_none (xf I q (by simp))
  | bl j=>cases ry;exact PySem.EqNone.ne_none_bool (xf I q (by simp))
  | int j=>obtain ⟨t',rfl⟩:=ry;exact PySem.EqNone.ne_none_int (xf I q (by simp))
  | str j=>obtain ⟨t',rfl⟩:=ry;exact PySem.EqNone.ne_none_str (xf I q (by simp))
  | _=>exact absurd (show false=true from hs) zN
 | bl i=>
  cases rx;cases y with
  | bu=>cases ry;exact PySem.EqNone.ne_bool_none (xf I q (by simp))
  | bl j=>cases ry;exact ne_bool (xf I q (congrArg not vp))
  | str j=>obtain ⟨t',rfl⟩:=ry;exact PySem.EqMixed.ne_bool_str (xf I q (by simp))
  | _=>exact absurd (show false=true from hs) zN
 | int i=>
  obtain ⟨t,rfl⟩:=rx;cases y with
  | bu=>cases ry;exact PySem.EqNone.ne_int_none (xf I q (by simp))
  | int j=>obtain ⟨t',rfl⟩:=ry;exact ne_int (xf I q (congrArg not p6))
  | str j=>obtain ⟨t',rfl⟩:=ry;exact PySem.EqMixed.ne_int_str (xf I q (by simp))
  | _=>exact absurd (show false=true from hs) zN
 | str i=>
  obtain ⟨t,rfl⟩:=rx;cases y with
  | bu=>cases ry;exact PySem.EqNone.ne_str_none (xf I q (by simp))
  | bl j=>cases ry;exact PySem.EqMixed.ne_str_bool (xf I q (by simp))
  | int j=>obtain ⟨t',rfl⟩:=ry;exact PySem.EqMixed.ne_str_int (xf I q (by simp))
  | str j=>obtain ⟨t',rfl⟩:=ry;exact ne_str (xf I q (congrArg not p5))
  | _=>exact absurd (show false=true from hs) zN
 | rS i=>
  obtain ⟨t,rfl⟩:=rx;cases y with
  | rS j=>obtain ⟨t',rfl⟩:=ry;exact PySem.W.ne_bytes (xf I q (congrArg not p7))
  | _=>exact absurd (show false=true from hs) zN
 | _=>cases y <;> exact absurd (show false=true from hs) zN
theorem pM:ff X (compareOp .Lt) (rN λi j=>.bl (decide (i < j))):=Jk λ_ _ _ _ _ _ _ q=>lt_int q
theorem tY:ff X (compareOp .LtE) (rN λi j=>.bl (decide (i<=j))):=Jk λ_ _ _ _ _ _ _ q=>le_int q
theorem fL:ff X (compareOp .Gt) (rN λi j=>.bl (decide (j < i))):=Jk λ_ _ _ _ _ _ _ q=>gt_int q
theorem tZ:ff X (compareOp .GtE) (rN λi j=>.bl (decide (j<=i))):=Jk λ_ _ _ _ _ _ _ q=>ge_int q
theorem aB (b:Expr){op:CmpOp}(h:op≠.In:=by decide)(h2:op≠.NotIn:=by decide):behindInMarks op b=false:=by
 have e1:(op == CmpOp.In)=false:=by cases op <;> first | rfl | exact absurd rfl h
 have e2:(op == CmpOp.NotIn)=false:=by cases op <;> first | rfl | exact absurd rfl h2
 cases b <;> simp [behindInMarks,e1,e2]
theorem cC {op:CmpOp}{r:R2}(ho:ff X (compareOp op) r)(ha:PE X a ta)(hb:PE X b tb)(hm:behindInMarks op b=false):PE X (.Compare a [op] [b] pos) (MR r ta tb):=by intro aa s σ H Q I h;exact wpAny_Compare1 (LZ ha hb I h λv u s2 x y H2 I2 rx ry q=>ho aa s2 σ H2 x y v u Q I2 rx ry q) hm
def JN (t:TE):TT:=fun σ H Q=>t σ H λx H'=>∃ k,x=.bl k/\Q k H'
theorem xR {op:CmpOp}{r:R2}(ho:ff X (compareOp op) r)(ha:PE X a ta)(hb:PE X b tb)(hm:behindInMarks op b=false):PT X (.Compare a [op] [b] pos) (JN (MR r ta tb)):=by intro aa s σ H Q I h;refine wpAny_isTrue_Compare1 (aM (ha aa s σ H _ I h) λv s1 PR=>?_) hm;obtain ⟨x,H1,I1,r1,q1⟩:=PR;refine aM (hb aa s1 σ H1 _ I1 q1) λu s2 PN=>?_;obtain ⟨y,H2,I2,r2,q2⟩:=PN;refine aM (ho aa s2 σ H2 x y v u _ I2 r1 r2 q2) λc s3 PM=>?_;obtain ⟨z,H3,I3,r3,k,e,q3⟩:=PM;subst e;cases r3;exact wpAny_truthy_bool ⟨H3,I3,q3⟩
def KP (r r':R2)(ta tb tc:TE):TE:=fun σ H Q=>ta σ H λx H1=>tb σ H1 λy H2=>r x y H2 λz H3=>∃ k,z=.bl k /\
 (if k=true then tc σ H3 λw' H4=>r' y w' H4 Q else Q (.bl false) H3)
theorem iZ:(sizeLine:Nat) < 2 ^ 63:=by rw [sizeLine_eq];decide
theorem vals1 {x:V}{us:List Value}(r:Vals [x] us):∃ u,us=[u]/\RelV x u:=by
 cases r with
 | cons r1 r2=>cases r2;exact ⟨_,rfl,r1⟩
theorem vals2 {x y:V}{us:List Value}(r:Vals [x,y] us):∃ u w',us=[u,w']/\RelV x u/\RelV y w':=by
 cases r with
 | cons r1 r2=>
  cases r2 with
  | cons r3 r4=>cases r4;exact ⟨_,_,rfl,r1,r3⟩
theorem dZ (hc:X.calm=true):cH X (.builtin "max") (λxs H Q=>∃ i j,xs=[.int i,.int j]/\Q (.int (if j > i then j else i)) H):=by
 intro aa s σ H xs us Q I r h;obtain ⟨i,j,rfl,q⟩:=h;obtain ⟨u,w',rfl,⟨t,rfl⟩,⟨t',rfl⟩⟩:=vals2 r;refine max_two_ints (I.ok.hd hc) λh' tk k=>⟨_,H,I.kept k,?_,q⟩;by_cases hj:j > i
 ·rw [if_pos hj,if_pos hj];exact ⟨_,rfl⟩
 ·rw [if_neg hj,if_neg hj];exact ⟨_,rfl⟩
theorem cg (hc:X.calm=true):cH X (.builtin "min") (λxs H Q=>∃ i j,xs=[.int i,.int j]/\Q (.int (if j < i then j else i)) H):=by
 intro aa s σ H xs us Q I r h;obtain ⟨i,j,rfl,q⟩:=h;obtain ⟨u,w',rfl,⟨t,rfl⟩,⟨t',rfl⟩⟩:=vals2 r;refine min_two_ints (I.ok.hd hc) λh' tk k=>⟨_,H,I.kept k,?_,q⟩;by_cases hj:j < i
 ·rw [if_pos hj,if_pos hj];exact ⟨_,rfl⟩
 ·rw [if_neg hj,if_neg hj];exact ⟨_,rfl⟩
end
structure Mb (h:Heap) (x dx C:Addr) (mA:Str->Option Value):Prop where
 obj:h.get? x=some (PySem.W.instObj C dx)
 ns:h.Ns1 dx mA
 ne:dx≠x
theorem qO {h:Heap}{dx:Addr}{mA:Str->Option Value}(n:h.Ns1 dx mA):∃ od,h.get? dx=some od/\∀ name,PySem.W.lookIn name od=some (mA name):=by
 obtain ⟨o,es,ep,ho,hd,hk,_,hm⟩:=n;refine ⟨o,ho,λname=>?_⟩;have e:=hm name;unfold nsFind findBy at e;rw [<-Array.find?_toList] at e;unfold PySem.W.lookIn;rw [hd];dsimp only;split
 ·rename_i y q;rw [q] at e;exact congrArg some e
 ·rename_i q;rw [q] at e;have a:es.toList.any (·.refKey)=false:=by
   rw [List.any_eq_false];intro y hy;obtain ⟨z,t,RE⟩:=hk y (Array.mem_toList_iff.mp hy);simp [DictEntry.refKey,RE]
  have a':¬ es.toList.any (·.refKey)=true:=by rw [a];exact zN
  rw [if_neg a'];exact congrArg some e
theorem Mb.look {h:Heap}{x dx C:Addr}{mA:Str->Option Value}(I:Mb h x dx C mA):∃ od,PySem.W.InstAt h x (PySem.W.instObj C dx) C (some od)/\∀ name,PySem.W.lookIn name od=some (mA name):=
 let ⟨od,ho,hl⟩:=qO I.ns
 ⟨od,⟨I.obj,rfl,rfl,ho⟩,hl⟩
section
variable {prog:Program}{w:World}{A:Around}{E:Value->Shared->Prop}{s:Shared}{K:PySem.W.Frag}{x dx C f:Addr}{mA:Str->Option Value}{name:Str}{v:Value}
end
section
variable {P:Program}{w:World}{H H':Hp}{h h':Heap}{a C dx:Addr}{fs Xy:List (Str×V)}
theorem Ju (aU:fh P w H h)(e:H a=some (.ins C dx fs)):∃ mA,Mb h a dx C mA/\(∀ f,L6 (fs.lookup f) (mA f))/\PySem.Within mA (fs.map (·.1))/\fs.length<=1000/\H dx=some (.own a):=by obtain ⟨d,z,ne,ob,mA,n,r,q⟩:=(show aT P w H h a (.ins C dx fs) from aU a _ e);exact ⟨mA,⟨ob,n,ne⟩,r,q,z,d⟩
end
structure SK (K:PySem.W.Frag) (C:Addr):Prop where
 pg:PySem.W.plainGet K C Str.empty=true
 hd:PySem.W.hasDictIn K C=true
 po:PySem.W.plainOver K C=true
 sa:PySem.W.findIn K (.ref C) "__setattr__" = some (some (.builtin "object.__setattr__"))
theorem SK.get {K:PySem.W.Frag}{C:Addr}(c:SK K C)(f:Str):PySem.W.plainGet K C f=true:=c.pg
section
variable {X:Cx}{aa:List (Addr×Obj)}{σ:St}{H:Hp}{s:Shared}{a C dx:Addr}{fs:List (Str×V)}{f:Str}{v:V}{A:Around}{E:Value->Shared->Prop}
end
section
variable {X:Cx}{o e value:Expr}{f:Str}{pos pos' KG:Pos}{ta tv:TE}
end
section
variable {X:Cx}{aa:List (Addr×Obj)}{σ:St}{H:Hp}{s:Shared}{A:Around}{E:Value->Shared->Prop}{Q:Value->Shared->Prop}{c:Value}{b:Bool}
inductive gv (K:PySem.W.Frag) (H:Hp):V->Value->Prop where
 | bu:gv K H .bu (.type "NoneType")
 | bl (x:Bool):gv K H (.bl x) (.type "bool")
 | int (i:Int):gv K H (.int i) (.type "int")
 | str (x:Str):gv K H (.str x) (.type "str")
 | LQ (x:UInt64):gv K H (.LQ x) (.type "float")
 | lst {a:Addr}{xs:List V} (e:H a=some (.lst xs)):gv K H (.ref a) (.type "list")
 | mW {a:Addr}{o:Obj}{xs:List V} (e:H a=some (.mW o (.lst xs))):gv K H (.ref a) (.type "list")
 | tup {a:Addr}{xs:List V} (e:H a=some (.tup xs)):gv K H (.ref a) (.type "tuple")
 | dK {a:Addr}{fP:List (Key×V)} (e:H a=some (.dK fP)):gv K H (.ref a) (.type "dict")
 | dT {a:Addr}{fP:List (List Key×V)} (e:H a=some (.dT fP)):gv K H (.ref a) (.type "dict")
 | ins {a C dx:Addr}{fs:List (Str×V)} (e:H a=some (.ins C dx fs)) (cl:SK K C) (ha:PySem.W.findIn K (.ref C) "__class__" = some (some (.builtin "object.__class__")))
   (hn:PySem.W.specialIn K (.builtin "object.__class__") "__get__" = some (some (.builtin "getset_descriptor.__get__"))) (O0:PySem.W.takesIn K (.builtin "object.__class__")=some true)
   (hm:PySem.W.mroIn K C (.type "object")=some true):gv K H (.ref a) (.ref C)
theorem qR {x:V}{u t:Value}(I:Inv X aa σ H s)(rx:RelV x u)(ty:gv X.K H x t)(e:PySem.W.kitOne X.K t c=some b)(h:∀ tk,Q (.bool b) { s with toks:=tk }) :
  wpAny (model X.prog X.w) A (call (.builtin "isinstance") [u,c]) Q E s:=by
 cases ty with
 | bu=>cases (show u=Value.none from rx);exact zu PySem.W.kitx_none I.mL True.intro e (λz=>nomatch z) h
 | bl y=>cases (show u=Value.bool y from rx);exact zu PySem.W.kitx_bool I.mL True.intro e (λz=>nomatch z) h
 | int i=>obtain ⟨t,q⟩:=(show ∃ t,u=Value.int i t from rx);cases q;exact zu PySem.W.kitx_int I.mL True.intro e (λz=>nomatch z) h
 | str y=>obtain ⟨t,q⟩:=(show ∃ t,u=Value.str y t from rx);cases q;exact zu PySem.W.kitx_str I.mL True.intro e (λz=>nomatch z) h
 | LQ y=>obtain ⟨t,q⟩:=(show ∃ t,u=Value.float y t from rx);cases q;exact zu PySem.W.kitx_float I.mL True.intro e (λz=>nomatch z) h
 | @lst a xs ea=>
  cases (show u=Value.ref a from rx);obtain ⟨_,_,n,_,h1⟩:=(show aT X.prog X.w H s.heap a (.lst xs) from I.aU a _ ea);exact zu PySem.W.kitx_list I.mL ⟨_,h1,rfl⟩ e (λz=>nomatch z) h
 | @mW a ob xs ea=>
  cases (show u=Value.ref a from rx);obtain ⟨_,_,_,n,_,h1⟩:=(show aT X.prog X.w H s.heap a (.mW ob (.lst xs)) from I.aU a _ ea);exact zu PySem.W.kitx_list I.mL ⟨_,h1,rfl⟩ e (λz=>nomatch z) h
 | @tup a xs ea=>
  cases (show u=Value.ref a from rx);obtain ⟨_,_,_,p⟩:=(show aT X.prog X.w H s.heap a (.tup xs) from I.aU a _ ea);obtain ⟨o,h1,h2,_⟩:=p;exact zu PySem.W.kitx_tuple I.mL ⟨o,h1,h2⟩ e (λz=>nomatch z) h
 | @dK a fP ea=>
  cases (show u=Value.ref a from rx);obtain ⟨_,_,vs,_,p⟩:=(show aT X.prog X.w H s.heap a (.dK fP) from I.aU a _ ea);obtain ⟨o,es,ep,h1,h2,_⟩:=p;exact zu PySem.W.kitx_dict I.mL ⟨o,h1,h2.1⟩ e (λz=>nomatch z) h
 | @dT a fP ea=>
  cases (show u=Value.ref a from rx);obtain ⟨_,_,xs,_,o,es,ep,h1,h2,_⟩:=(show aT X.prog X.w H s.heap a (.dT fP) from I.aU a _ ea);exact zu PySem.W.kitx_dict I.mL ⟨o,h1,h2.1⟩ e (λz=>nomatch z) h
 | @ins a C dx fs ea cl ha hn O0 hm=>
  cases (show u=Value.ref a from rx);obtain ⟨mA,O,_⟩:=Ju I.aU ea;obtain ⟨od,J,_⟩:=O.look;exact zu (PySem.W.kitx_own (cl.get _) cl.hd ha hn O0 hm) I.mL J e (λz=>nomatch z) h
end
structure dW (k:Nat) (A:Around):Prop where
 hd:A.handled=none
 dp:A.depth + 3 * k + 5 < recursionLimit
 un:A.units + 16 * k + 200 < cLine
 gd:A.guards=some []
theorem dW.mono {j k:Nat}{A:Around}(r:dW k A)(h:j<=k):dW j A:=⟨r.hd,by have:=r.dp;omega,by have:=r.un;omega,r.gd⟩
theorem dW.deeper {k:Nat}{A:Around}(r:dW (k + 1) A)(env:Env):dW k (A.deeper env):=
 ⟨r.hd,by have:=r.dp;show A.depth + 1 + 3 * k + 5 < _;omega,by have:=r.un;show A.units + 3 + 16 * k + 200 < _;omega,r.gd⟩
theorem dW.depth {k:Nat}{A:Around}(r:dW k A):A.depth < recursionLimit:=by have:=r.dp;omega
theorem dW.units {k:Nat}{A:Around}(r:dW k A):A.units + 64 < cLine:=by have:=r.un;omega
def ql:TA:=λ_ H Q=>Q [] H
def su (ta:TE)(tr:TA):TA:=fun σ H Q=>ta σ H λx H1=>tr σ H1 λxs H2=>Q (x::xs) H2
section
variable {X:Cx}{e:Expr}{es:List Expr}{te:TE}{t:TA}{pos:Pos}
theorem bT:PA X [] ql:=λ_ _ _ _ H Q I h=>Calls.spliced_nil ⟨[],H,I,.nil,h⟩
theorem Ji (ha:PE X e te)(hr:PA X es t)(hs:starEach (e::es) X.env=(false,eval e X.env)::starEach es X.env:=by rfl):PA X (e::es) (su te t):=by intro pos aa s σ H Q I h;rw [hs];show wpAny _ _ (spliced ((false,eval e X.env)::backTo pos (starEach es X.env))) _ _ s;refine Calls.spliced_cons (aM (ha aa s σ H _ I h) λu s1 PL=>?_);obtain ⟨x,H1,I1,r1,q1⟩:=PL;exact aM (hr pos aa s1 σ H1 _ I1 q1) λus s2 ⟨xs,H2,I2,r2,q2⟩=>⟨x::xs,H2,I2,.cons r1 r2,q2⟩
def MO (t:TA):TE:=fun σ H Q=>t σ H λxs H1=>xs.length<=sizeLine/\∀ p,H1 p=none->Q (.ref p) (upd H1 p (.tup xs))
def MU (t:TA):TE:=fun σ H Q=>t σ H λxs H1=>xs.length<=sizeLine/\∀ p,H1 p=none->Q (.ref p) (upd H1 p (.lst xs))
theorem bS {x1}(h:PA X es t):PE X (.Tuple es x1 pos) (MO t):=by intro aa s σ H Q I hq;refine wpAny_Tuple_spliced (aM (h pos aa s σ H _ I hq) λus s1 PK=>?_);obtain ⟨xs,H1,I1,r,z,q⟩:=PK;refine ⟨by rw [<-r.length];exact z,?_⟩;have hf:H1 s1.heap.objs.size=none:=I1.aU.fresh (zE _);refine ⟨.ref s1.heap.objs.size,upd H1 s1.heap.objs.size (.tup xs),I1.laid (t':=s1.toks) (λb u e=>Heap.get?_push_of_some _ e) (zE _) ?_,rfl,q _ hf⟩;exact ⟨⟨z,mF⟩,us,r,⟨_,Heap.get?_push_size _ rfl,rfl,_,rfl⟩⟩
theorem xY (h:PA X es t):PE X (.List es pos) (MU t):=by intro aa s σ H Q I hq;refine wpAny_List_spliced (aM (h pos aa s σ H _ I hq) λus s1 PJ=>?_);obtain ⟨xs,H1,I1,r,z,q⟩:=PJ;refine ⟨by rw [<-r.length];exact z,?_⟩;have hf:H1 s1.heap.objs.size=none:=I1.aU.fresh (zE _);refine ⟨.ref s1.heap.objs.size,upd H1 s1.heap.objs.size (.lst xs),I1.laid (t':=s1.toks) (λb u e=>Heap.get?_push_of_some _ e) (zE _) ?_,rfl,q _ hf⟩;exact ⟨z,us,0,r,Heap.get?_push_size _ rfl⟩
end
abbrev Sp:=List V->Hp->VK->XK->Prop
abbrev vR:=List Env->Hp->Shared->XK->Value->Shared->Prop
structure JK (P:Program) (w:World) (K:PySem.W.Frag) (mg:Str->Option Value) (base:Heap) (A:Around) (outer:List Env) (s:Shared) (H:Hp):Prop where
 frames:A.frames=some outer
 mod:Mod K mg base
 bs:∀ b o,base.get? b=some o->s.heap.get? b=some o/\H b=none
 JE:base.objs.size<=s.heap.objs.size
 jc:s.heap.FunFrames base outer
 My:∀ b∈rR outer,H b=none
 aU:fh P w H s.heap
 bare:AllBare s.gens
def CE (outer:List Env)(P:Program)(w:World)(H:Hp)(s:Shared)(Q:VK)(u:Value)(s':Shared):Prop:=
 ∃ v H',s'.os=s.os/\AllBare s'.gens/\Un (rR outer) [] H H' s.heap s'.heap/\fh P w H' s'.heap/\RelV v u/\Q v H'
def CR (CX:vR)(outer:List Env)(P:Program)(w:World)(H:Hp)(s:Shared)(Q:VK)(E:XK)(r:Result)(s':Shared):Prop:=
 match r with
 | .ok (.ret u)=>CE outer P w H s Q u s'
 | .ok _=>False
 | .error e=>CX outer H s E e s'
structure aR (P:Program) (w:World) (K:PySem.W.Frag) (mg:Str->Option Value) (base:Heap) (CX:vR) (k:Nat) (f:Addr) (fd:FuncData) (ps:List Str) (sp:Sp):Prop where
 len:∀ vs H Q E,sp vs H Q E->vs.length=ps.length
 run:∀ (A:Around) (outer:List Env) (s:Shared) (H:Hp) (args:Args) (us:List Value) (vs:List V) (Q:VK) (E:XK),dW k A->JK P w K mg base A outer s H->BindsTo s fd args (ps.zip us)->Vals vs us->sp vs H Q E ->
  codeAny (model P w) A (.call (.ref f) args) (CR CX outer P w H s Q E) s
section
variable {X:Cx}{aa:List (Addr×Obj)}{σ:St}{H:Hp}{s s':Shared}
theorem Inv.Si (I:Inv X aa σ H s):JK X.prog X.w X.K X.mg X.base X.A X.stack s H:=
 ⟨I.ok.frames,I.ok.mod,I.bs,yH I.ok.JE I.sz,I.stack,I.pB,I.aU,I.bare⟩
theorem Inv.after {Q:VK}{u:Value}(I:Inv X aa σ H s)(h:CE X.stack X.prog X.w H s Q u s'):EP X aa σ Q u s':=by obtain ⟨v,H',os,bare,un,aU,r,q⟩:=h;obtain ⟨hh,g,d,t,VZ⟩:=s';obtain rfl:VZ=s.os:=os;exact ⟨v,H',I.call (h':=hh) (g':=g) (d':=d) (t':=t) (ch:=[]) un aU bare (λb z=>absurd z (by simp)),r,q⟩
end
def JR (sp:Sp)(Km:List V)(E:XK)(t:TA):TE:=fun σ H Q=>t σ H λvs H1=>sp (vs++Km) H1 Q E
def Binds (K:PySem.W.Frag)(fd:FuncData)(ps:List Str)(ds:List Value):Prop:=
 ∀ (s:Shared) (us:List Value),K.In s.heap->(us++ds).length=ps.length->BindsTo s fd ⟨us,[]⟩ (ps.zip (us++ds))
theorem Binds.all {K:PySem.W.Frag}{fd:FuncData}{ps:List Str}(h:∀ us:List Value,us.length=ps.length->bindArgs fd ⟨us,[]⟩=pure (ps.zip us)):Binds K fd ps []:=λs us _ hl=>by
 rw [List.append_nil] at hl ⊢;exact .of_eq (h us hl)
def Passes (CX:vR)(X:Cx)(E:XK):Prop:=∀ (aa:List (Addr×Obj)) (σ:St) (H:Hp) (s:Shared) (e:Value) (s':Shared),Inv X aa σ H s->CX X.stack H s E e s'->X.xe e s'
section
variable {X:Cx}{CX:vR}{k:Nat}{f C:Addr}{fd:FuncData}{ps:List Str}{sp:Sp}{Km:List V}{ds:List Value}{E:XK}{x m:Str}{p pos apos:Pos}{e o:Expr}{es:List Expr}{ta:TE}{t:TA}
theorem K5 {aa:List (Addr×Obj)}{σ:St}{H:Hp}{s:Shared}{Q:VK}{us:List Value}{vs:List V}(F:aR X.prog X.w X.K X.mg X.base CX k f fd ps sp)(hr:dW k X.A)(hb:Binds X.K fd ps ds)(hd:Vals Km ds)(hx:Passes CX X E)
  (I:Inv X aa σ H s) (r:Vals vs us) (h:sp (vs++Km) H Q E):wpAny (model X.prog X.w) X.A (call (.ref f) us) (EP X aa σ Q) X.xe s:=by
 have r2:Vals (vs++Km) (us++ds):=r.append hd;have hl:(us++ds).length=ps.length:=by rw [<-r2.length];exact F.len _ _ _ _ h
 refine wpAny_call (codeAny_mono (F.run X.A X.stack s H ⟨us,[]⟩ (us++ds) (vs++Km) Q E hr I.Si (hb s us I.mL hl) r2 h) λr s' hq=>?_);cases r with
 | error e=>exact hx aa σ H s e s' I hq
 | ok fl=>
  cases fl with
  | ret u=>exact I.after hq
  | next=>exact False.elim hq
  | brk=>exact False.elim hq
  | cont=>exact False.elim hq
theorem xF (F:aR X.prog X.w X.K X.mg X.base CX k f fd ps sp)(hr:dW k X.A)(hg:Gl X x)(hm:X.mg x=some (.ref f))(hk:zM X.K (.ref f)=true)(hb:Binds X.K fd ps ds)(hd:Vals Km ds)(hx:Passes CX X E)
  (ha:PA X (e::es) t) (N3:(x == ("__debug__" : Str))=false:=by decide) (he:starEach (e::es) X.env=(false,eval e X.env)::starEach es X.env:=by rfl) (Mr:(backTo pos (starEach es X.env)).any (·.1)=false:=by rfl) :
  PE X (.Call (.Name x p) (e::es) [] pos) (JR sp Km E t):=by
 intro aa s σ H Q I h;refine wpAny_Call_Name_kw (Jr I hg hm ?_ N3);refine PySem.W.callWith_K (h₀:=X.base) I.ok.mod.Q9 hk (aM (ha pos aa s σ H _ I h) λus s1 PF=>?_) he Mr;obtain ⟨vs,H1,I1,r,q⟩:=PF;refine ⟨I1.mL,?_⟩;exact K5 F hr hb hd hx I1 r q
end
section
variable {X:Cx}{CX:vR}{k:Nat}{f C:Addr}{fd:FuncData}{ps ks:List Str}{sp:Sp}{E:XK}{x m:Str}{p pos apos Wm:Pos}{e o:Expr}{es:List Expr}{YY:List Keyword}{te ta:TE}{t tk:TA}{nm:Option Str}
variable {g:List Value->List Value->List Value}{gV:List V->List V->List V}
end
structure aA (N P:List Str) (sc:Scope):Prop where
 kind:sc.kind=.function
 co:sc.isCoroutine=false
 gen:sc.isGenerator=false
 nd:N.Nodup
 pre:N.take P.length=P
 par:∀ x∈P,sc.names.lookup x=some .local\/sc.names.lookup x=some .cell
 Li:∀ y∈sc.names,y.2≠.free
theorem jZ {kindOf:Str->Option NameKind}{x:Str}:∀ {binds:List (Str×Value)}{m:Str->Option Value},(∀ v,(x,v) ∉ binds)->bindL kindOf binds m x=m x
 | [],_,_=>rfl
 | (n,v)::r,m,h=>by
  unfold bindL;rw [jZ λw hw=>h w (zn _ hw)];split
  ·have:x≠n:=by rintro rfl;exact h v z8
   simp [this]
  ·rfl
theorem j7 {kindOf:Str->Option NameKind}{x:Str}:∀ {binds:List (Str×Value)}{m:Str->Option Value},(∀ v,(x,v) ∉ binds)->bindC kindOf binds m x=m x
 | [],_,_=>rfl
 | (n,v)::r,m,h=>by
  unfold bindC;rw [j7 λw hw=>h w (zn _ hw)];split
  ·rfl
  ·have:x≠n:=by rintro rfl;exact h v z8
   simp [this]
theorem j6 {kindOf:Str->Option NameKind}{x:Str}{v:Value}:∀ {P:List Str}{vs:List Value}{i:Nat}{m:Str->Option Value},P.Nodup->P[i]?=some x->vs[i]?=some v->kindOf x=some .local ->
  bindL kindOf (P.zip vs) m x=some v
 | [],_,_,_,_,h,_,_=>by simp at h
 | _::_,[],_,_,_,_,h,_=>by simp at h
 | p::P,w::vs,0,m,nd,h1,h2,hk=>by
  simp at h1 h2;subst h1;subst h2;show bindL kindOf ((p,w)::P.zip vs) m p=_;unfold bindL;rw [jZ λv hv=>(List.nodup_cons.mp nd).1 (List.of_mem_zip hv).1,if_pos hk];simp
 | p::P,w::vs,i + 1,m,nd,h1,h2,hk=>by
  show bindL kindOf ((p,w)::P.zip vs) m x=_;unfold bindL;exact j6 (i:=i) (List.nodup_cons.mp nd).2 (by simpa using h1) (by simpa using h2) hk
theorem j8 {kindOf:Str->Option NameKind}{x:Str}{v:Value}:∀ {P:List Str}{vs:List Value}{i:Nat}{m:Str->Option Value},P.Nodup->P[i]?=some x->vs[i]?=some v->kindOf x≠some .local ->
  bindC kindOf (P.zip vs) m x=some v
 | [],_,_,_,_,h,_,_=>by simp at h
 | _::_,[],_,_,_,_,h,_=>by simp at h
 | p::P,w::vs,0,m,nd,h1,h2,hk=>by
  simp at h1 h2;subst h1;subst h2;show bindC kindOf ((p,w)::P.zip vs) m p=_;unfold bindC;rw [j7 λv hv=>(List.nodup_cons.mp nd).1 (List.of_mem_zip hv).1,if_neg hk];simp
 | p::P,w::vs,i + 1,m,nd,h1,h2,hk=>by
  show bindC kindOf ((p,w)::P.zip vs) m x=_;unfold bindC;exact j8 (i:=i) (List.nodup_cons.mp nd).2 (by simpa using h1) (by simpa using h2) hk
def start (N:List Str)(vs:List V):St:=vs.map some++List.replicate (N.length - vs.length) none
def oS (CX:vR)(P:Program)(w:World)(K:PySem.W.Frag)(mg:Str->Option Value)(base:Heap)(N:List Str)(qual:Str)(scope:Scope)(f:Addr)(cd:Value)(A:Around)(outer:List Env)(s:Shared)(H:Hp)(E:XK):Cx where
 prog:=P
 w:=w
 K:=K
 mg:=mg
 base:=base
 A:=A.deeper (envOfC qual scope s.heap.objs.size f cd)
 N:=N
 cj:=s
 vO:=H
 env:=envOfC qual scope s.heap.objs.size f cd
 outer:=outer
 stack:=envOfC qual scope s.heap.objs.size f cd::outer
 ex:=[]
 calm:=true
 fn:=λ_=>true
 pn:=[]
 xe:=λe s'=>wpAny (model P w) (A.deeper (envOfC qual scope s.heap.objs.size f cd)) (leaving (envOfC qual scope s.heap.objs.size f cd) e) (λ_ K3=>CX outer H s E e K3) (λe' K3=>CX outer H s E e' K3) s'
theorem nj {sc:Scope}{n:Nat}{x:Str}(h:sc.names.lookup x=some .cell):∃ c,(cellsFrom n sc.names []).lookup x=some c:=by have q:=PySem.W.cellsFrom_some sc.names n [] (.inl h);exact Option.isSome_iff_exists.mp q
theorem qS {CX:vR}{P:Program}{w:World}{K:PySem.W.Frag}{mg:Str->Option Value}{base:Heap}{N ps:List Str}{qual:Str}{scope:Scope}{f:Addr}{cd:Value}{A:Around}{outer:List Env}{s s1:Shared}{H:Hp}{E:XK}{us:List Value}{vs:List V}
  (S:aA N ps scope) (hd:A.handled=none) (e0:JK P w K mg base A outer s H) (hl:vs.length=ps.length) (r:Vals vs us)
  (x:InCallC s s.heap.objs.size (bindL (envOfC qual scope s.heap.objs.size f cd).kindOf (ps.zip us) λ_=>none) (cellsFrom (s.heap.objs.size + 1) scope.names []) (bindC (envOfC qual scope s.heap.objs.size f cd).kindOf (ps.zip us) λ_=>none) s1) :
  Inv (oS CX P w K mg base N qual scope f cd A outer s H E) [] (start N vs) H s1:=by
 have Mr:ps.length<=N.length:=by have:=congrArg List.length S.pre;rw [zW] at this;omega
 obtain ⟨h1,tk,rfl,hk⟩:=x.done;have Nc:∀ b:Addr,b ∉ (oS CX P w K mg base N qual scope f cd A outer s H E).ex:=λb z=>absurd (show b∈([]:List Addr) from z) (by simp);refine ⟨⟨e0.mod,S.kind,rfl,rfl,zE _,λy z c h1 h2=>?_,λy hy=>?_,λy c _ h=>?_,λ_=>hd,Around.frames_deeper e0.frames,.inr ⟨rfl,rfl⟩,λb z=>absurd z (Nc b),e0.bs,e0.JE,λb _ _=>Nc b,λb z=>absurd z (Nc b),e0.jc,e0.My⟩,
  rfl,e0.bare,Un.kept hk,⟨_,x.toInCall.ns,λi y v h1 h2 h3=>?_⟩,λy c h=>⟨_,x.cell y c h⟩,e0.aU.fresh (zE _),λy c h=>?_,λp hp=>absurd (show p∈([]:List (Addr×Obj)) from hp) (by simp),e0.aU.kept hk,?_⟩
 ·exact name_of_addr x.apart (zv h1) (zv h2)
 ·have hy:scope.names.lookup y=some .cell\/scope.names.lookup y=some .free:=hy;rcases hy with hy | hy
  ·exact nj hy
  ·exact absurd rfl (S.Li _ (zv hy))
 ·exact Nat.le_of_lt (x.above y c (zv h))
 ·have hi:i < vs.length:=by
   unfold start at h2;by_cases hi:i < vs.length
   ·exact hi
   ·rw [yK (by simpa using hi)] at h2;rw [List.getElem?_replicate] at h2;split at h2 <;> cases h2
  have ha:vs[i]?=some v:=by
   unfold start at h2;rw [yP (by simpa using hi),zF] at h2;cases e:vs[i]? with
   | none=>rw [e] at h2;cases h2
   | some a=>rw [e] at h2;cases h2;rfl
  obtain ⟨u,hu,rv⟩:=r.get ha;have hp:ps[i]?=some y:=by
   rw [<-S.pre,List.getElem?_take_of_lt (by omega)];exact h1
  have TV:ps.Nodup:=by rw [<-S.pre];exact S.nd.sublist (List.take_sublist _ _)
  refine ⟨u,rv,?_⟩;rcases S.par y (zB hp) with k | k
  ·exact .inl ⟨k,j6 TV hp hu k⟩
  ·obtain ⟨c,e⟩:=nj (n:=s.heap.objs.size + 1) k;refine .inr ⟨.inl k,c,e,?_⟩;have q:=x.cell y c e;rw [j8 TV hp hu (by show scope.names.lookup y≠_;rw [k];decide)] at q;exact q
 ·exact e0.aU.fresh (Nat.le_of_lt (x.above y c (zv h)))
 ·unfold start;show _=N.length;rw [zH,zA,List.length_replicate];omega
theorem Og {CX:vR}{P:Program}{w:World}{K:PySem.W.Frag}{mg:Str->Option Value}{base:Heap}{k:Nat}{f:Addr}{name qual:Str}{params:Arguments}{body:List Stmt}{scope:Scope}{dV kV doc pm bG ct oc:Value}{an od:Option Addr}
  {JZ:Array (Option Value)}{N ps:List Str}{sp:Sp} (lk:K.lookup f=some ⟨oc,od,.func (yn name qual params body scope dV kV doc pm an bG ct),JZ⟩) (uW:PySem.W.codeIn K bG qual=true) (S:aA N ps scope)
  (len:∀ vs H Q E,sp vs H Q E->vs.length=ps.length)
  (uY:∀ (A:Around) (outer:List Env) (s:Shared) (H:Hp) (vs:List V) (Q:VK) (E:XK),dW k (A.deeper (envOfC qual scope s.heap.objs.size f bG))->sp vs H Q E ->
   ∃ t,lJ (oS CX P w K mg base N qual scope f bG A outer s H E) body t/\t { nx:=λ_ H'=>Q .bu H',rt:=Q } (start N vs) H) :
  aR P w K mg base CX (k + 1) f (yn name qual params body scope dV kV doc pm an bG ct) ps sp:=by
 refine ⟨len,λA outer s H args us vs Q E hr e0 hb r J7=>?_⟩;have hl:=len _ _ _ _ J7;have KX:K.In s.heap:=e0.mod.Q9.keeps λb o e=>(e0.bs b o e).1;have lim:s.heap.NoLimit:=e0.mod.nolimit.keeps λb o e=>(e0.bs b o e).1;have NT:∀ y∈ps.zip us,scope.names.lookup y.1=some .local\/(scope.names.lookup y.1=some .cell/\((cellsFrom (s.heap.objs.size + 1) scope.names []).lookup y.1).isSome=true):=λ⟨n,v⟩ hy=>by
  rcases S.par n (List.of_mem_zip hy).1 with q | q
  ·exact .inl q
  ·exact .inr ⟨q,PySem.W.cellsFrom_some _ _ _ (.inl q)⟩
 refine codeAny_call_function hr.depth (KX _ _ lk) rfl S.co S.gen rfl (PySem.W.codeRec_of KX uW) (hb _ _ _ _ ?_);refine wpAny_newFunctionEnv_cells S.kind NT λenv he s1 x=>?_;subst he;refine ⟨lim.keeps x.toInCall.keep,codeAny_func ?_⟩;obtain ⟨t,ht,hq⟩:=uY A outer s H vs Q E (hr.deeper _) J7;have I:Inv (oS CX P w K mg base N qual scope f bG A outer s H E) [] (start N vs) H s1:=qS S hr.hd e0 hl r x;refine wpAny_mono (ht [] s1 (start N vs) H _ I hq) (λfl s' hs=>?_) λe s' hs=>hs;have fin:∀ {br:St}{H':Hp}{v:V}{u:Value},Inv (oS CX P w K mg base N qual scope f bG A outer s H E) [] br H' s'->RelV v u->Q v H'->CE outer P w H s Q u s':=
  λ{br H' v u} J rv q=>⟨v,H',J.os,J.bare,J.base,J.aU,rv,q⟩
 cases fl with
 | ret u=>
  obtain ⟨v,br,H',J,rv,q⟩:=hs;exact fin J rv q
 | next=>
  obtain ⟨br,H',J,q⟩:=hs;exact fin (v:=V.bu) (u:=Value.none) J rfl q
 | brk=>
  obtain ⟨_,_,_,q⟩:=hs;exact False.elim q
 | cont=>
  obtain ⟨_,_,_,q⟩:=hs;exact False.elim q
section
variable {X:Cx}{x:Str}{p pos:Pos}{e:Expr}{es:List Expr}{t:TA}{id T:String}{r:List V->Hp->VK->Prop}
def QC (r:List V->Hp->VK->Prop)(t:TA):TE:=fun σ H Q=>t σ H λvs H1=>r vs H1 Q
theorem xG (hc:cH X (.builtin id) r)(hg:Gl X x)(hm:X.mg x=none)(hv:bootBuiltins x=some (.builtin id))(ha:PA X (e::es) t)(hn:x ≠ "__name__" := by decide)(N3:(x == ("__debug__" : Str))=false:=by decide)
  (he:starEach (e::es) X.env=(false,eval e X.env)::starEach es X.env:=by rfl) (Mr:(backTo pos (starEach es X.env)).any (·.1)=false:=by rfl):PE X (.Call (.Name x p) (e::es) [] pos) (QC r t):=by
 intro aa s σ H Q I h;refine wpAny_Call_Name_kw (bJ I hg hm hv ?_ hn N3);exact PyProof.Rows.callWith_builtin1 (aM (ha pos aa s σ H _ I h) λus s1 ⟨vs,H1,I1,r1,q1⟩=>hc aa s1 σ H1 vs us Q I1 r1 q1) he Mr
theorem wc (hc:cH X (.type T) r)(hg:Gl X x)(hm:X.mg x=none)(hv:bootBuiltins x=some (.type T))(ha:PA X (e::es) t)(hn:x ≠ "__name__" := by decide)(N3:(x == ("__debug__" : Str))=false:=by decide)
  (he:starEach (e::es) X.env=(false,eval e X.env)::starEach es X.env:=by rfl) (Mr:(backTo pos (starEach es X.env)).any (·.1)=false:=by rfl):PE X (.Call (.Name x p) (e::es) [] pos) (QC r t):=by
 intro aa s σ H Q I h;refine wpAny_Call_Name_kw (bJ I hg hm hv ?_ hn N3);exact zb (aM (ha pos aa s σ H _ I h) λus s1 ⟨vs,H1,I1,r1,q1⟩=>hc aa s1 σ H1 vs us Q I1 r1 q1) he Mr
end
section
variable {κ:Type} [DecidableEq κ]
end
section
variable {P:Program}{w:World}{H:Hp}{h:Heap}{a:Addr}
end
section
variable {X:Cx}{aa:List (Addr×Obj)}{σ:St}{H:Hp}{s:Shared}{a:Addr}{y v:V}{u r:Value}{o:Option V}{A:Around}{E:Value->Shared->Prop}
theorem Inv.big (I:Inv X aa σ H s):sysModules < s.heap.objs.size:=by have h:mainGlobals < s.heap.objs.size:=(I.mod.glob.keeps I.bk).lt;exact Nat.lt_trans (by decide) h
end
section
variable {X:Cx}{aa:List (Addr×Obj)}{σ:St}{H:Hp}{s:Shared}{a:Addr}{fP:List (Key×V)}{k:Key}{u:Value}{A:Around}{E:Value->Shared->Prop}
end
section
variable {X:Cx}{o i e value:Expr}{pos pos' KG:Pos}{td ty tv:TE}
end
theorem vo {P:Program}{w:World}{H:Hp}(h:Heap)(hb:sysModules < h.objs.size):aT P w H (h.push { cls:=.type "dict", data:=.dict #[] }) h.objs.size (.dK []):=
 ⟨zV _,beq_eq_false_iff_ne.mpr (Ne.symm (zT hb)),[],.nil,Heap.DictOf.new h⟩
def KN:TE:=λ_ H Q=>∀ p,H p=none->Q (.ref p) (upd H p (.dK []))
section
variable {X:Cx}{pos:Pos}
theorem tO:PE X (.Dict [] [] pos) KN:=λaa s σ H Q I h=>
 wpAny_Dict_empty ⟨.ref s.heap.objs.size,_,I.laid (a:=s.heap.objs.size) (o:=.dK []) (t':=s.toks) (λ_ _ q=>Heap.get?_push_of_some _ q) (zE _) (vo s.heap I.big),rfl,h _ (I.aU.fresh (zE _))⟩
end
section
variable {X:Cx}{aa:List (Addr×Obj)}{σ:St}{H:Hp}{s:Shared}{a:Addr}{y d:V}{u r:Value}{o:Option V}{A:Around}{E:Value->Shared->Prop}
end
section
variable {X:Cx}{o e f:Expr}{apos m8:Pos}{td ty tx:TE}
end
section
variable {X:Cx}{aa:List (Addr×Obj)}{σ:St}{H:Hp}{s:Shared}{a:Addr}{fP:List (Key×V)}{A:Around}{E:Value->Shared->Prop}
end
section
variable {X:Cx}{aa:List (Addr×Obj)}{σ:St}{H:Hp}{s:Shared}{a:Addr}{y:V}{u:Value}{A:Around}{E:Value->Shared->Prop}
end
end L2
namespace HT
open PySem PyProof.Rows
section
open PySem.SeqAt
open PySem.AutoSeq1 (wpAny_loadPart')
open PySem.MeetsSeq PySem.MeetsSeq2 PySem.MeetsSeq3
end
section
variable {prog:Program}{w:World}{A:Around}{E:Value->Shared->Prop}{s:Shared}
def lG (n d:Nat):Option Int->Nat
 | none=>d
 | some v=>if v < 0 then (v + (n:Int)).toNat else min v.toNat n
theorem tu (n d:Nat):lG n d none=d:=rfl
theorem pG (n d k:Nat):lG n d (some (k:Int))=min k n:=by show (if (k:Int) < 0 then ((k:Int) + (n:Int)).toNat else min (k:Int).toNat n)=min k n;rw [if_neg (by omega),zc]
end
end HT
namespace L2
open PySem PySem.Spec PyProof.Rows
abbrev TO:=St->Hp->(Option Int->Hp->Prop)->Prop
def PO (X:Cx)(e:Option Expr)(t:TO):Prop:=
 ∀ (aa:List (Addr×Obj)) (s:Shared) (σ:St) (H:Hp) (Q:Option Int->Hp->Prop),Inv X aa σ H s->t σ H Q ->
  wpAny (model X.prog X.w) X.A (evalPart e X.env) (λu s'=>∃ o H',Inv X aa σ H' s'/\IsPart u o/\Q o H') X.xe s
def pA:TO:=λ_ H Q=>Q none H
def sr (t:TE):TO:=fun σ H Q=>t σ H λx H1=>∃ i,x=.int i/\Q (some i) H1
section
variable {X:Cx}{e:Expr}{te:TE}{lo hi:Option Expr}{tl th:TO} {pos p2:Pos}
theorem wX:PO X none pA:=by intro aa s σ H Q I h;rw [evalPart_none];exact wpAny_pure ⟨none,H,I,.none,h⟩
theorem wO (h:PE X e te):PO X (some e) (sr te):=by intro aa s σ H Q I hw;rw [evalPart_some];refine aM (h aa s σ H _ I hw) λu s1 PD=>?_;obtain ⟨x,H1,I1,r1,q1⟩:=PD;obtain ⟨i,rfl,q⟩:=q1;obtain ⟨t,rfl⟩:=r1;exact ⟨some i,H1,I1,.int i t,q⟩
def SA (X:Cx)(r:V->Option Int->Option Int->Hp->VK->Prop):Prop:=
 ∀ (aa:List (Addr×Obj)) (s:Shared) (σ:St) (H:Hp) (x:V) (v vl vu:Value) (lo hi:Option Int) (sl:Addr) (Q:VK),Inv X aa σ H s->RelV x v->s.heap.IsSliceOf sl vl vu .none->IsPart vl lo->IsPart vu hi->r x lo hi H Q ->
  ∃ T id,typeLookup (.type T) "__getitem__" = pure (some (.builtin id))/\s.TypeIs v T/\wpAny (model X.prog X.w) X.A (getItem v (.ref sl)) (EP X aa σ Q) X.xe s
def S5 (r:V->Option Int->Option Int->Hp->VK->Prop)(te:TE)(tl th:TO):TE:=fun σ H Q=>te σ H λx H1=>tl σ H1 λl H2=>th σ H2 λu H3=>r x l u H3 Q
theorem xz {r:V->Option Int->Option Int->Hp->VK->Prop}(hr:SA X r)(he:PE X e te)(hl:PO X lo tl)(hu:PO X hi th):PE X (.Subscript e (.Slice lo hi none p2) pos) (S5 r te tl th):=by intro aa s σ H Q I h;refine Subscript_ (aM (he aa s σ H _ I h) λv s1 PB=>?_);obtain ⟨x,H1,I1,r1,q1⟩:=PB;refine wpAny_Slice (aM (hl aa s1 σ H1 _ I1 q1) λvl s2 Pz=>?_);obtain ⟨l,H2,I2,pl,q2⟩:=Pz;refine aM (hu aa s2 σ H2 _ I2 q2) λvu s3 Py=>?_;obtain ⟨u,H3,I3,pu,q3⟩:=Py;rw [evalPart_none];refine wpAny_pure ?_;have I4:Inv X aa σ H3 { s3 with heap:=s3.heap.push { cls:=.type "slice", data:=.fields #[vl,vu,.none] } }:=I3.kept (t':=s3.toks) λb ob q=>Heap.get?_push_of_some _ q;obtain ⟨T,id,hT,ht,hg⟩:=hr aa { s3 with heap:=s3.heap.push { cls:=.type "slice", data:=.fields #[vl,vu,.none] } } σ H3 x v vl vu l u s3.heap.objs.size Q I4 r1 (Heap.IsSliceOf.new ..) pl pu q3;show wpAny (model X.prog X.w) X.A (subscriptTail e (.Slice lo hi none p2) v (.ref s3.heap.objs.size)) (EP X aa σ Q) X.xe { s3 with heap:=s3.heap.push { cls:=.type "slice", data:=.fields #[vl,vu,.none] } };exact tail_any (ops:=[.ref s3.heap.objs.size,v]) ht hT hg (by with_unfolding_all rfl)
def ay (xs:List V)(lo hi:Option Int):List V:=(xs.drop (HT.lG xs.length 0 lo)).take (HT.lG xs.length xs.length hi - HT.lG xs.length 0 lo)
theorem xh (xs:List V)(lo hi:Option Int):(ay xs lo hi).length<=xs.length:=by unfold ay;rw [zW,yF];omega
end
def ux (n:Nat)(i:Int):Option Nat:=if 0<=i then (if i < n then some i.toNat else none) else if -(n:Int)<=i then some (i + n).toNat else none
def ee {α:Type}(xs:List α)(i:Int):Option α:=(ux xs.length i).bind λj=>xs[j]?
theorem kG {n:Nat}{i:Int}{j:Nat}(h:ux n i=some j):seqIndex? i n=some j/\j < n/\-(n:Int)<=i/\i < n:=by
 unfold ux at h;by_cases h0:0<=i
 ·rw [if_pos h0] at h;by_cases h1:i < n
  ·rw [if_pos h1] at h;have e:i.toNat=j:=Option.some.inj h;exact ⟨by rw [seqIndex_of h0 h1,e],by omega,by omega,h1⟩
  ·rw [if_neg h1] at h;cases h
 ·rw [if_neg h0] at h;by_cases h1:-(n:Int)<=i
  ·rw [if_pos h1] at h;have e:(i + n).toNat=j:=Option.some.inj h;exact ⟨by rw [seqIndex_neg (by omega) h1,e],by omega,h1,by omega⟩
  ·rw [if_neg h1] at h;cases h
theorem qe {α:Type}{xs:List α}{i:Int}{v:α}(h:ee xs i=some v):∃ j,seqIndex? i xs.length=some j/\xs[j]?=some v/\j < xs.length/\-(xs.length:Int)<=i/\i < xs.length:=by
 unfold ee at h;cases e:ux xs.length i with
 | none=>rw [e] at h;cases h
 | some j=>
  rw [e] at h;obtain ⟨h1,h2,h3,h4⟩:=kG e;exact ⟨j,h1,h,h2,h3,h4⟩
theorem xW {α:Type}{xs:List α}{j:Nat}{v:α}(h:xs[j]?=some v):ee xs (j:Int)=some v:=by
 have hj:j < xs.length:=(zI.mp h).1;have e:ux xs.length (j:Int)=some j:=by
  unfold ux;rw [if_pos (by omega),if_pos (by omega)];simp
 unfold ee;rw [e];exact h
theorem vH {α:Type}(xs:List α)(v:α):ee (xs++[v]) (-1)=some v:=by
 have hl:(xs++[v]).length=xs.length + 1:=by simp
 have e:ux (xs++[v]).length (-1)=some xs.length:=by
  unfold ux;rw [hl,if_neg (by decide),if_pos (by omega)];congr 1;omega
 unfold ee;rw [e];show (xs++[v])[xs.length]?=some v;simp
def JI (b:Expr):Prop:=∀ o i,subscripted b false o i=operate [o,i] (getItem o i)
def Ov (X:Cx)(r:R2):Prop:=
 ∀ (value slice:Expr) (aa:List (Addr×Obj)) (s:Shared) (σ:St) (H:Hp) (x y:V) (v u:Value) (Q:VK),Inv X aa σ H s->RelV x v->RelV y u->r x y H Q ->
  subscripted slice false v u=operate [v,u] (getItem v u)->wpAny (model X.prog X.w) X.A (subscriptTail value slice v u) (EP X aa σ Q) X.xe s
def U6 (X:Cx)(id:String)(r:V->List V->Hp->VK->Prop):Prop:=
 ∀ (aa:List (Addr×Obj)) (s:Shared) (σ:St) (H:Hp) (x:V) (xs:List V) (v:Value) (us:List Value) (Q:VK),Inv X aa σ H s->RelV x v->Vals xs us->r x xs H Q ->
  wpAny (model X.prog X.w) X.A (call (.builtin id) (v::us)) (EP X aa σ Q) X.xe s
section
variable {X:Cx}{a b:Expr}{ta tb:TE}{pos:Pos}
theorem xJ {r:R2}(hr:Ov X r)(ha:PE X a ta)(hb:PE X b tb)(hs:JI b):PE X (.Subscript a b pos) (MR r ta tb):=by intro aa s σ H Q I h;exact Subscript_ (LZ ha hb I h λv u s2 x y H2 I2 rx ry q=>hr a b aa s2 σ H2 x y v u Q I2 rx ry q (hs _ _))
def K8 (K:PySem.W.Frag):R2:=λx y H Q=>∃ p xs i v,x=.ref p/\y=.int i/\av K H p xs/\ee xs i=some v/\Q v H
def K7 (K:PySem.W.Frag):R2:=λx y H Q=>∃ p xs i v,x=.ref p/\y=.int i/\bC K H p xs/\ee xs i=some v/\Q v H
theorem Js:Ov X (K8 X.K):=by
 intro value slice aa s σ H x y v u Q I rx ry h hs;obtain ⟨p,xs,i,z,rfl,rfl,hq,he,q⟩:=h;cases rx;obtain ⟨t,rfl⟩:=ry;obtain ⟨ak,r,pl,hz⟩:=I.list hq;obtain ⟨j,h1,h2,h3,h4,h5⟩:=qe he;obtain ⟨w,ew,K4⟩:=r.get h2;have hl:=r.length;have hn:=iZ;have fin:EP X aa σ Q w s:=⟨z,H,I,K4,q⟩;by_cases h0:0<=i
 ·have hj:i.toNat=j:=by
   rw [seqIndex_of h0 h5] at h1;exact Option.some.inj h1
  exact item_listR pl.isList h0 (by omega) (by rw [hj];simpa using ew) fin hs
 ·have hj:(i + (ak.toArray.size:Int)).toNat=j:=by
   rw [seqIndex_neg (by omega) h4] at h1;rw [zL,<- hl];exact Option.some.inj h1
  exact subscriptTail_builtinR (x:=w) pl.isList.typeIs slot_list_getitem.lookup
   (wpAny_getItem_list_neg (Q:=λr s'=>r=w/\EP X aa σ Q r s') pl.isList (by omega) (by rw [zL] <;> omega) (by omega) (by rw [hj];simpa using ew) ⟨rfl,fin⟩) hs
theorem Lr:Ov X (K7 X.K):=by
 intro value slice aa s σ H x y v u Q I rx ry h hs;obtain ⟨p,xs,i,z,rfl,rfl,hq,he,q⟩:=h;cases rx;obtain ⟨t,rfl⟩:=ry;obtain ⟨ak,r,pl,hz⟩:=I.tuple hq;obtain ⟨j,h1,h2,h3,h4,h5⟩:=qe he;obtain ⟨w,ew,K4⟩:=r.get h2;have hl:=r.length;have hn:=iZ;have fin:EP X aa σ Q w s:=⟨z,H,I,K4,q⟩;exact subscriptTail_builtinR (x:=w) pl.typeIs slot_tuple_getitem.lookup
  (getItem_tuple (j:=j) (Q:=λr s'=>r=w/\EP X aa σ Q r s') pl (by omega) (by omega) (by rw [zL,<- hl];exact h1) (by simpa using ew) ⟨rfl,fin⟩) hs
theorem oz (ak:List Value)(n j:Nat)(u:Value):Obj.mapSeq (·.setIfInBounds j u) { cls:=.type "list", data:=.seq ak.toArray n }={ cls:=.type "list", data:=.seq (ak.set j u).toArray n }:=by simp [Obj.mapSeq]
theorem Inv.lst {aa:List (Addr×Obj)}{σ:St}{H:Hp}{s:Shared}{p:Addr}{xs:List V}(I:Inv X aa σ H s)(h:H p=some (.lst xs)) :
  ∃ (ak:List Value) (n:Nat),Vals xs ak/\s.heap.get? p=some { cls:=.type "list", data:=.seq ak.toArray n }/\xs.length<=sizeLine:=by
 obtain ⟨z,ak,n,r,e⟩:=I.aU p _ h;exact ⟨ak,n,r,e,z⟩
theorem Inv.Lk {aa:List (Addr×Obj)}{σ:St}{H:Hp}{s:Shared}{p:Addr}{xs ys:List V}{ak its':List Value}{n n':Nat}{f:Obj->Obj}(I:Inv X aa σ H s)(h:H p=some (.lst xs))
  (ho:s.heap.get? p=some { cls:=.type "list", data:=.seq ak.toArray n }) (hf:f { cls:=.type "list", data:=.seq ak.toArray n }={ cls:=.type "list", data:=.seq its'.toArray n' }) (r:Vals ys its') (hz:ys.length<=sizeLine) (t:Nat) :
  Inv X aa σ (upd H p (.lst ys)) { s with heap:=s.heap.update p f,toks:=t }:=by
 have e:(s.heap.update p f).get? p=some { cls:=.type "list", data:=.seq its'.toArray n' }:=by
  rw [Heap.get?_update_self f ho (by rw [hf] <;> rfl),hf]
 refine I.write (x:=p) (e:=p) (by rw [h];trivial) (.inl rfl) (λb u hb q=>(Heap.get?_update_other _ _ (Ne.symm hb)).trans q) ⟨_,e⟩ ?_;exact ⟨hz,its',n',r,e⟩
def JW:V->V->V->Hp->(Hp->Prop)->Prop:=λo i v H Q=>∃ p xs k j,o=.ref p/\i=.int k/\H p=some (.lst xs)/\ux xs.length k=some j/\Q (upd H p (.lst (xs.set j v)))
theorem set_list:L7 X JW:=by
 intro aa s σ H o i v ov iv u Q I ro ri rv h;obtain ⟨p,xs,k,j,rfl,rfl,hp,hj,q⟩:=h;cases ro;obtain ⟨t,rfl⟩:=ri;obtain ⟨ak,n,r,ho,hz⟩:=I.lst hp;obtain ⟨h1,h2,h3,h4⟩:=kG hj;have hl:=r.length;have hn:=iZ;have I':Inv X aa σ (upd H p (.lst (xs.set j v))) { s with heap:=s.heap.update p (Obj.mapSeq (·.setIfInBounds j u)) }:=
  I.Lk hp ho (oz ak n j u) (r.set rv j) (by rw [yc];exact hz) s.toks
 by_cases h0:0<=k
 ·have hk:k.toNat=j:=by
   rw [seqIndex_of h0 h4] at h1;exact Option.some.inj h1
  exact PySem.W.ki_setAt ho h0 (by omega) (by rw [zL,<- hl];exact h4) (by rw [hk];exact ⟨_,I',q⟩)
 ·have hk:(k + (ak.toArray.size:Int)).toNat=j:=by
   rw [seqIndex_neg (by omega) h3] at h1;rw [zL,<- hl];exact Option.some.inj h1
  exact PySem.W.ki_setBack ho (by omega) (by rw [zL,<- hl];exact h3) (by omega) (by rw [hk];exact ⟨_,I',q⟩)
theorem ko (lo hi:Option Int)(n:Nat):(sliceBounds lo hi none n).1=((HT.lG n 0 lo:Nat):Int)/\(sliceBounds lo hi none n).2.1=((HT.lG n n hi:Nat):Int)/\(sliceBounds lo hi none n).2.2=1:=by
 refine ⟨?_,?_,rfl⟩
 ·cases lo with
  | none=>simp [sliceBounds,HT.lG]
  | some i=>
   simp only [sliceBounds,HT.lG,Option.getD_none,show (1:Int) > 0 by decide,if_true];by_cases h:i < 0
   ·simp only [h,if_true] <;> omega
   ·simp only [h,if_false] <;> omega
 ·cases hi with
  | none=>simp [sliceBounds,HT.lG]
  | some i=>
   simp only [sliceBounds,HT.lG,Option.getD_none,show (1:Int) > 0 by decide,if_true];by_cases h:i < 0
   ·simp only [h,if_true] <;> omega
   ·simp only [h,if_false] <;> omega
theorem jv (ak:List Value)(lo hi:Option Int):slicePick ak.toArray lo hi none=((ak.drop (HT.lG ak.length 0 lo)).take (HT.lG ak.length ak.length hi - HT.lG ak.length 0 lo)).toArray:=by obtain ⟨h1,h2,h3⟩:=ko lo hi ak.toArray.size;unfold slicePick;rw [h1,h2,h3];simp only [sliceRange_one,pick_run,zL] <;> rfl
def M6 (K:PySem.W.Frag):V->Option Int->Option Int->Hp->VK->Prop:=λx lo hi H Q=>∃ a xs,x=.ref a/\av K H a xs/\∀ p,H p=none->Q (.ref p) (upd H p (.lst (ay xs lo hi)))
theorem IU:SA X (M6 X.K):=by intro aa s σ H x v vl vu lo hi sl Q I rx hs pl pu h;obtain ⟨a,xs,rfl,hx,q⟩:=h;cases rx;obtain ⟨ak,r,ht,hz⟩:=I.list hx;have hlen:=r.length;refine ⟨"list", _,slot_list_getitem.lookup,ht.isList.typeIs,?_⟩;refine wpAny_getItem_list_slice ht.isList hs pl pu .none (by simp) ?_ (by rw [zL] <;> omega);rw [jv,<- hlen];refine ⟨.ref s.heap.objs.size,_,I.laid (t':=s.toks) (o:=.lst (ay xs lo hi)) (λb ob q=>Heap.get?_push_of_some _ q) (zE _) ?_,rfl,q _ (I.aU.fresh (zE _))⟩;exact ⟨yH (xh xs lo hi) hz,_,0,(r.drop (HT.lG xs.length 0 lo)).take (HT.lG xs.length xs.length hi - HT.lG xs.length 0 lo),Heap.get?_push_size _ rfl⟩
def bW:V->Bool
 | .bu=>true
 | .bl _=>true
 | .int _=>true
 | .str _=>true
 | _=>false
def oQ:V->V->Bool
 | .bu,.bu=>true
 | .bl a,.bl b=>a == b
 | .bl a,.int b=>(if a then 1 else 0) == b
 | .int a,.bl b=>a == (if b then 1 else 0)
 | .int a,.int b=>a == b
 | .str a,.str b=>a == b
 | _,_=>false
theorem vn {A:Around}{s:Shared}{y x:V}{u v:Value}(ry:RelV y u)(rx:RelV x v)(fy:bW y=true)(fx:bW x=true):SeqAt.EqAt A s u v (oQ y x):=by
 cases y with
 | bu=>
  cases ry;cases x with
  | bu=>cases rx;exact SeqAt.EqAt.same _
  | bl b=>cases rx;exact SeqAt.EqAt.none_bool b
  | int b=>obtain ⟨t,rfl⟩:=rx;exact SeqAt.EqAt.none_int b t
  | str b=>obtain ⟨t,rfl⟩:=rx;exact SeqAt.EqAt.none_str b t
  | _=>exact absurd (show false=true from fx) zN
 | bl a=>
  cases ry;cases x with
  | bu=>cases rx;exact SeqAt.EqAt.bool_none a
  | bl b=>cases rx;exact SeqAt.EqAt.bool_bool a b
  | int b=>obtain ⟨t,rfl⟩:=rx;exact SeqAt.EqAt.bool_int a b t
  | str b=>obtain ⟨t,rfl⟩:=rx;exact SeqAt.EqAt.bool_str a b t
  | _=>exact absurd (show false=true from fx) zN
 | int a=>
  obtain ⟨t',rfl⟩:=ry;cases x with
  | bu=>cases rx;exact SeqAt.EqAt.int_none a t'
  | bl b=>cases rx;exact SeqAt.EqAt.int_bool a t' b
  | int b=>obtain ⟨t,rfl⟩:=rx;exact SeqAt.EqAt.int_int a t' b t
  | str b=>obtain ⟨t,rfl⟩:=rx;exact SeqAt.EqAt.int_str a t' b t
  | _=>exact absurd (show false=true from fx) zN
 | str a=>
  obtain ⟨t',rfl⟩:=ry;cases x with
  | bu=>cases rx;exact SeqAt.EqAt.str_none a t'
  | bl b=>cases rx;exact SeqAt.EqAt.str_bool a t' b
  | int b=>obtain ⟨t,rfl⟩:=rx;exact SeqAt.EqAt.str_int a t' b t
  | str b=>obtain ⟨t,rfl⟩:=rx;exact SeqAt.EqAt.str_str a t' b t
  | _=>exact absurd (show false=true from fx) zN
 | _=>exact absurd (show false=true from fy) zN
def JC (x:V)(u:Value):Bool:=match u with
 | .none=>oQ .bu x
 | .bool b=>oQ (.bl b) x
 | .int i _=>oQ (.int i) x
 | .str z _=>oQ (.str z) x
 | _=>false
theorem vm {x y:V}{u:Value}(r:RelV y u)(f:bW y=true):JC x u=oQ y x:=by
 cases y with
 | bu=>cases r;rfl
 | bl b=>cases r;rfl
 | int i=>obtain ⟨t,rfl⟩:=r;rfl
 | str z=>obtain ⟨t,rfl⟩:=r;rfl
 | _=>exact absurd (show false=true from f) zN
theorem lC {x:V}:∀ {xs:List V}{us:List Value},Vals xs us->xs.all bW=true->us.any (JC x)=xs.any λy=>oQ y x
 | _,_,.nil,_=>rfl
 | y::xs,u::us,.cons r t,f=>by
  rw [List.all_cons,Bool.and_eq_true] at f;rw [List.any_cons,List.any_cons,vm r f.1,lC t f.2]
theorem iX {A:Around}{s:Shared}{x:V}{v:Value}(rx:RelV x v)(fx:bW x=true):∀ {xs:List V}{us:List Value},Vals xs us->xs.all bW=true->∀ u∈us,SeqAt.EqAt A s u v (JC x u)
 | _,_,.nil,_=>λu hu=>by cases hu
 | y::xs,u::us,.cons r t,f=>λu' hu=>by
  rw [List.all_cons,Bool.and_eq_true] at f;rcases zO.mp hu with rfl | hu
  ·rw [vm r f.1];exact vn r rx f.1 fx
  ·exact iX rx fx t f.2 u' hu
def OX (x:V)(xs:List V):Bool:=xs.any λy=>oQ y x
def Tt (K:PySem.W.Frag)(neg:Bool):R2:=λx y H Q=>∃ p xs,y=.ref p/\(av K H p xs\/bC K H p xs)/\bW x=true/\xs.all bW=true/\Q (.bl (if neg then !OX x xs else OX x xs)) H
theorem qM:ff X (compareOp .In) (Tt X.K false):=by
 intro aa s σ H x y v u Q I rx ry h;obtain ⟨p,xs,rfl,hq,fx,fs,q⟩:=h;cases ry;rcases hq with hq | hq
 ·obtain ⟨ak,r,pl,hz⟩:=I.list hq;refine SeqAt.in_listAt (JC x) pl.isList (λw hw=>iX rx fx r fs w (by simpa using hw)) ⟨.bl _,H,I,rfl,?_⟩;rw [show ak.toArray.any (JC x)=ak.any (JC x) by simp,lC r fs];exact q
 ·obtain ⟨ak,r,pl,hz⟩:=I.tuple hq;refine SeqAt.in_tupleAt (JC x) pl (λw hw=>iX rx fx r fs w (by simpa using hw)) ⟨.bl _,H,I,rfl,?_⟩;rw [show ak.toArray.any (JC x)=ak.any (JC x) by simp,lC r fs];exact q
theorem kZ:cH X (.builtin "len") (λxs H Q=>∃ p ys,xs=[.ref p]/\(av X.K H p ys\/bC X.K H p ys)/\Q (.int ys.length) H):=by
 intro aa s σ H xs us Q I r h;obtain ⟨p,ys,rfl,hq,q⟩:=h;obtain ⟨u,rfl,rx⟩:=vals1 r;cases rx;have hn:=iZ;rcases hq with hq | hq
 ·obtain ⟨ak,r',pl,hz⟩:=I.list hq;have hlen:=r'.length;exact Calls.call_len_list pl.isList (by simp only [zL] <;> omega) ⟨.int ys.length,H,I.tok _,⟨s.toks + 1,by rw [zL,hlen]⟩,q⟩
 ·obtain ⟨ak,r',pl,hz⟩:=I.tuple hq;have hlen:=r'.length;exact len_tuple pl (by simp only [zL] <;> omega) ⟨.int ys.length,H,I.tok _,⟨s.toks + 1,by rw [zL,hlen]⟩,q⟩
theorem kY:cH X (.type "list") (λxs H Q=>∃ p ys,xs=[.ref p]/\(av X.K H p ys\/bC X.K H p ys)/\∀ l,H l=none->Q (.ref l) (upd H l (.lst ys))):=by
 intro aa s σ H xs us Q I r h;obtain ⟨p,ys,rfl,hq,q⟩:=h;obtain ⟨u,rfl,rx⟩:=vals1 r;cases rx;have fin:∀ (ak:List Value),Vals ys ak->ys.length<=sizeLine->∀ (h':Heap) (c':Nat),(∀ b o',s.heap.get? b=some o'->h'.get? b=some o') ->
   h'.get? s.heap.objs.size=some { cls:=.type "list", dict:=none,data:=.seq ak.toArray c',slots:=#[] }->EP X aa σ Q (.ref s.heap.objs.size) { s with heap:=h' }:=λak r' hz h' c' kp e=>
  ⟨.ref s.heap.objs.size,_,I.laid (t':=s.toks) kp (zE _) (show aT X.prog X.w _ h' _ (.lst ys) from ⟨hz,ak,c',r',e⟩),rfl,q _ (I.aU.fresh (zE _))⟩
 rcases hq with hq | hq
 ·obtain ⟨ak,r',pl,hz⟩:=I.list hq;have hlen:=r'.length;obtain ⟨o,ho,hc,n,hd⟩:=pl.isList;exact call_list_seq p (.inl rfl) ho hc hd (λh' c' kp e=>fin ak r' hz h' c' kp e) (by simp only [zL] <;> omega)
 ·obtain ⟨ak,r',pl,hz⟩:=I.tuple hq;have hlen:=r'.length;obtain ⟨o,ho,hc,n,hd⟩:=pl;exact call_list_seq p (.inr rfl) ho hc hd (λh' c' kp e=>fin ak r' hz h' c' kp e) (by simp only [zL] <;> omega)
theorem wn:cH X (.type "tuple") (λxs H Q=>∃ p ys,xs=[.ref p]/\((av X.K H p ys/\∀ l,H l=none->Q (.ref l) (upd H l (.tup ys)))\/(bC X.K H p ys/\Q (.ref p) H))):=by
 intro aa s σ H xs us Q I r h;obtain ⟨p,ys,rfl,h⟩:=h;obtain ⟨u,rfl,rx⟩:=vals1 r;cases rx;rcases h with ⟨hq,q⟩ | ⟨hq,q⟩
 ·obtain ⟨ak,r',pl,hz⟩:=I.list hq;have hlen:=r'.length;refine call_tuple_list pl.isList (λh' kp=>?_) (by simp only [zL] <;> omega);have I1:Inv X aa σ H { s with heap:=h' }:=I.kept (t':=s.toks) kp;have I2:Inv X aa σ (upd H h'.objs.size (.tup ys)) { s with heap:=h'.push { cls:=.type "tuple", data:=.seq ak.toArray } }:=
   I1.laid (t':=s.toks) (λb o e=>Heap.get?_push_of_some _ e) (zE _) (show aT X.prog X.w _ _ _ (.tup ys) from ⟨⟨hz,mF⟩,ak,r',IsTup.new _ _⟩)
  exact ⟨.ref h'.objs.size,_,I2,rfl,q _ (I1.aU.fresh (zE _))⟩
 ·obtain ⟨ak,r',pl,hz⟩:=I.tuple hq;exact call_tuple_same pl ⟨.ref p,H,I,rfl,q⟩
def S0 (K:PySem.W.Frag)(T:String)(x:V)(H:Hp):Prop:=match x with
 | .str _=>T = "str"
 | .int _=>T = "int"
 | .ref p=>(T = "list" /\ ∃ xs,av K H p xs)\/(T = "tuple" /\ ((∃ o,K.lookup p=some o/\o.cls=.type "tuple" /\ o.dict=none)\/∃ xs,H p=some (.tup xs))) \/
   (T = "dict" /\ ((∃ fP,H p=some (.dK fP))\/∃ fP,H p=some (.dT fP)))\/(T = "set" /\ ∃ S n,H p=some (.set S n))
 | _=>False
theorem KC {aa:List (Addr×Obj)}{σ:St}{H:Hp}{s:Shared}{T:String}{x:V}{v:Value}(I:Inv X aa σ H s)(r:RelV x v)(ty:S0 X.K T x H) :
  s.TypeIs v T/\∀ a,v=.ref a->∃ ob,s.heap.get? a=some ob/\ob.dict=none:=by
 cases x with
 | str z=>
  obtain ⟨t,rfl⟩:=r;cases (show T = "str" from ty);exact ⟨typeIs_str s z t,λ_ e=>nomatch e⟩
 | int i=>
  obtain ⟨t,rfl⟩:=r;cases (show T = "int" from ty);exact ⟨typeIs_int s i t,λ_ e=>nomatch e⟩
 | ref p=>
  cases r;rcases ty with ⟨rfl,xs,hq⟩ | ⟨rfl,⟨o,hk,hc,hd⟩ | ⟨xs,hk⟩⟩ | ⟨rfl,hk⟩ | ⟨rfl,S,n,hk⟩
  ·obtain ⟨ak,_,pl,_⟩:=I.list hq;refine ⟨pl.isList.typeIs,λa e=>?_⟩;cases e;obtain ⟨o,n,e,c,hd,_⟩:=pl;exact ⟨o,e,hd⟩
  ·refine ⟨⟨o,I.mL p o hk,hc⟩,λa e=>?_⟩;cases e;exact ⟨o,I.mL _ o hk,hd⟩
  ·obtain ⟨nb,_,_,o,e,c,_⟩:=I.aU p _ hk;exact ⟨⟨o,e,c⟩,λa z=>by cases z;exact ⟨o,e,nb.2 o e⟩⟩
  ·have z:∃ o,s.heap.get? p=some o/\o.ExactDict:=by
    rcases hk with ⟨fP,hk⟩ | ⟨fP,hk⟩
    ·obtain ⟨_,_,_,_,o,_,_,e,ex,_⟩:=I.aU p _ hk;exact ⟨o,e,ex⟩
    ·obtain ⟨_,_,_,_,o,_,_,e,ex,_⟩:=I.aU p _ hk;exact ⟨o,e,ex⟩
   obtain ⟨o,e,ex⟩:=z;refine ⟨⟨o,e,ex.1⟩,λa e2=>?_⟩;cases e2;exact ⟨o,e,ex.2.1⟩
  ·obtain ⟨o,_,_,_,e,ex,_⟩:=I.aU p _ hk;refine ⟨⟨o,e,ex.1⟩,λa e2=>?_⟩;cases e2;exact ⟨o,e,ex.2.1⟩
 | _=>exact False.elim ty
def S7 (K:PySem.W.Frag)(T:String)(r:V->List V->Hp->VK->Prop)(to:TE)(t:TA):TE:=fun σ H Q=>to σ H λx H1=>S0 K T x H1/\t σ H1 λxs H2=>r x xs H2 Q
variable {o e:Expr}{es:List Expr}{to:TE}{t:TA}{name:Str}{apos m8:Pos}{T id:String}{r:V->List V->Hp->VK->Prop}
theorem cD (pa:PlainAttrs T)(slot:Slot T name id)(Ro:typeOf (.builtin id)=pure (.type "method_descriptor"))(hm:U6 X id r)(ho:PE X o to)(ha:PA X (e::es) t)
  (N5:attributeBase o name X.env (eval o X.env)=eval o X.env:=by rfl)
  (RL:((backTo m8 (starEach (e::es) X.env)).all (λx=>!x.1) && (backToKw m8 (keywordEach [] X.env)).all (λx=>x.1.isSome)
   && decide ((e::es).length + ([]:List Keyword).length + (if ([]:List Keyword).isEmpty then 0 else 1) < 30))=true:=by rfl)
  (NR:(apos.endLine == m8.line)=true:=by rfl) (hs:starEach (e::es) X.env=(false,eval e X.env)::starEach es X.env:=by rfl) (Ly:(backTo m8 (starEach es X.env)).any (·.1)=false:=by rfl) :
  PE X (.Call (.Attribute o name apos) (e::es) [] m8) (S7 X.K T r to t):=by
 intro aa s σ H Q I h;refine wpAny_Call_method_late N5 RL NR rfl (aM (ho aa s σ H _ I h) λv s1 Px=>?_);obtain ⟨x,H1,I1,r1,ty,q1⟩:=Px;obtain ⟨h1,h2⟩:=KC I1 r1 ty;refine ⟨T,id,pa,slot,Ro,h1,h2,?_⟩;have hA:=ha m8 aa s1 σ H1 _ I1 q1;rw [hs] at hA ⊢;refine Calls.callWith_builtin (by show (false || (backTo m8 (starEach es X.env)).any (·.1))=false;rw [Ly] <;> rfl) (Calls.evalArgs_plain ?_);exact aM hA λus s2 ⟨vs,H2,I2,r2,q2⟩=>hm aa s2 σ H2 x vs v us Q I2 r1 r2 q2
/- xs.append(e),list.index on a ud tuple .. are U6 facts of 06m -/
end
def U7 (X:Cx)(id:String)(r:V->List V->Hp->VK->Prop):Prop:=
 ∀ (aa:List (Addr×Obj)) (s:Shared) (σ:St) (H:Hp) (x:V) (xs:List V) (v:Value) (us:List Value) (Q:VK),Inv X aa σ H s->RelV x v->Vals xs us->r x xs H Q ->
  wpAny (model X.prog X.w) X.A (call (.builtin id) (v::us)) (EP X aa σ Q) X.xe s
theorem Vals.one:∀ {x:V}{us:List Value},Vals [x] us->∃ u,us=[u]/\RelV x u
 | _,_,.cons r .nil=>⟨_,rfl,r⟩
theorem Vals.eraseIdx:∀ {xs:List V}{us:List Value} (i:Nat),Vals xs us->Vals (xs.eraseIdx i) (us.eraseIdx i)
 | _,_,_,.nil=>.nil
 | _,_,0,.cons _ t=>t
 | _,_,i + 1,.cons r t=>.cons r (Vals.eraseIdx i t)
theorem Vals.reverse {xs:List V}{us:List Value}(h:Vals xs us):Vals xs.reverse us.reverse:=by
 induction h with
 | nil=>exact .nil
 | cons r t ih=>rw [List.reverse_cons,List.reverse_cons];exact Vals.append ih (.cons r .nil)
theorem Vals.rep {xs:List V}{us:List Value}(h:Vals xs us):∀ k:Nat,Vals (List.replicate k xs).flatten (List.replicate k us).flatten
 | 0=>.nil
 | k + 1=>by
  rw [yf,yf,List.flatten_cons,List.flatten_cons];exact Vals.append h (Vals.rep h k)
theorem jP {α:Type}:∀ (l:List α) (i:Nat),(l.eraseIdx i).length<=l.length
 | [],_=>zE _
 | _::_,0=>yT _
 | _::r,i + 1=>Nat.succ_le_succ (jP r i)
theorem foldl_rep (ak:List Value):∀ (k:Nat) (acc:List Value),
  List.foldl (λx1 x2=>x1++x2) acc.toArray (List.replicate k ak.toArray)=(acc++(List.replicate k ak).flatten).toArray
 | 0,acc=>by simp
 | k + 1,acc=>by
  have e:acc.toArray++ak.toArray=(acc++ak).toArray:=by simp
  have e2:(acc++ak)++(List.replicate k ak).flatten=acc++(List.replicate (k + 1) ak).flatten:=by
   rw [yf,List.flatten_cons,List.append_assoc]
  rw [<-e2,<- foldl_rep ak k (acc++ak),<- e,yf,List.foldl_cons]
section
variable {X:Cx}{aa:List (Addr×Obj)}{σ:St}{H:Hp}{s:Shared}{l b:Addr}{xs ys zs:List V}
theorem Inv.Nn {ak its':List Value}{n:Nat}{f:Array Value->Array Value}{t':Nat}(I:Inv X aa σ H s)(hH:H l=some (.lst xs))
  (e:s.heap.get? l=some { cls:=.type "list", data:=.seq ak.toArray n }) (hf:f ak.toArray=its'.toArray) (hv:Vals ys its') (hz:ys.length<=sizeLine) :
  Inv X aa σ (upd H l (.lst ys)) { s with heap:=s.heap.update l (Obj.mapSeq f),toks:=t' }:=by
 have q:=PySem.IsL.update e f;rw [hf] at q;refine I.write (x:=l) (e:=l) (by rw [hH];exact trivial) (.inl rfl) (λb' u hb hu=>(Heap.get?_update_other s.heap (Obj.mapSeq f) (Ne.symm hb)).trans hu) ⟨_,q⟩ ?_;exact ⟨hz,its',_,hv,q⟩
theorem Inv.Np {ak:List Value}{t':Nat}(I:Inv X aa σ H s)(hv:Vals ys ak)(hz:ys.length<=sizeLine) :
  Inv X aa σ (upd H s.heap.objs.size (.lst ys)) { s with heap:=s.heap.push { cls:=.type "list", data:=.seq ak.toArray },toks:=t' }:=
 I.laid (λ_ _ q=>Heap.get?_push_of_some _ q) (zE _) ⟨hz,ak,0,hv,Heap.get?_push_size _ rfl⟩
theorem Inv.fresh (I:Inv X aa σ H s):H s.heap.objs.size=none:=I.aU.fresh (zE _)
theorem Inv.um (I:Inv X aa σ H s)(hH:H l=some (.lst xs)):xs.length<=sizeLine/\∃ (ak:List Value) (n:Nat),Vals xs ak/\xs.length=ak.length/\s.heap.get? l=some { cls:=.type "list", data:=.seq ak.toArray n }:=by obtain ⟨z,ak,n,r,e⟩:=I.aU l _ hH;exact ⟨z,ak,n,r,r.length,e⟩
theorem t9 {n:Nat}(h:n<=sizeLine):Builtin.List.listTooLong n=false:=by unfold Builtin.List.listTooLong;exact decide_eq_false (by omega)
end
section
variable {X:Cx}
def pJ:V->List V->Hp->VK->Prop:=λx vs H Q=>∃ l xs y,x=.ref l/\vs=[y]/\H l=some (.lst xs)/\xs.length < sizeLine/\Q .bu (upd H l (.lst (xs++[y])))
theorem xw:U7 X "list.append" pJ:=by intro aa s σ H x vs v us Q I rx rv h;obtain ⟨l,xs,y,rfl,rfl,hH,hz,q⟩:=h;cases rx;obtain ⟨u,rfl,ru⟩:=rv.one;obtain ⟨z,ak,n,r,hl,e⟩:=I.um hH;refine call_meets F.slot_list_append ⟨_,e,rfl⟩ F.entry_list_append (F.args_list_append_2 _ _) (PySem.list_append l ak.toArray n u (by rw [zL];omega)) ⟨e,?_⟩;refine ⟨.bu,_,I.Nn (its':=ak++[u]) hH e (by simp) (r.append (.cons ru .nil)) ?_,rfl,q⟩;rw [zH,yZ];omega
def K6:V->List V->Hp->VK->Prop:=λx vs H Q=>∃ l xs i k y,x=.ref l/\vs=[.int i]/\H l=some (.lst xs)/\-(2 ^ 63)<=i/\i < 2 ^ 63/\seqIndex? i xs.length=some k/\xs[k]?=some y/\Q y (upd H l (.lst (xs.eraseIdx k)))
theorem uc:U7 X "list.pop" K6:=by
 intro aa s σ H x vs v us Q I rx rv h;obtain ⟨l,xs,i,k,y,rfl,rfl,hH,h1,h2,hk,hy,q⟩:=h;cases rx;obtain ⟨u,rfl,ru⟩:=rv.one;obtain ⟨t,rfl⟩:=ru;obtain ⟨z,ak,n,r,hl,e⟩:=I.um hH;obtain ⟨w,hw,K4⟩:=r.get hy;refine call_meets F.slot_list_pop ⟨_,e,rfl⟩ F.entry_list_pop (F.args_list_pop_2 _ _)
  (MeetsSeq.list_pop_at l ak.toArray n i t k w (fitsIndex_both h1 h2) (by rw [zL,<- hl];exact hk) (by rw [<-Array.getElem?_toList];exact hw) (by rw [zL];omega)) ⟨e,?_⟩
 refine ⟨y,_,I.Nn (its':=ak.eraseIdx k) hH e ?_ (r.eraseIdx k) ?_,K4,q⟩
 ·show ak.toArray.eraseIdxIfInBounds k=(ak.eraseIdx k).toArray;rw [List.eraseIdxIfInBounds_toArray]
 ·have:=jP xs k;omega
def QJ:R2:=λx y H Q=>∃ l b xs zs,x=.ref l/\y=.ref b/\H l=some (.lst xs)/\H b=some (.lst zs)/\xs.length + zs.length<=sizeLine/\∀ p,H p=none->Q (.ref p) (upd H p (.lst (xs++zs)))
theorem wl:ff X (binaryOp .Add) QJ:=by
 intro aa s σ H x y v u Q I rx ry h;obtain ⟨l,b,xs,zs,rfl,rfl,hH,hB,hz,q⟩:=h;cases rx;cases ry;obtain ⟨z,ak,n,r,hl,e⟩:=I.um hH;obtain ⟨z2,dw,n2,r2,qV,e2⟩:=I.um hB;refine PySem.P.add_list e e2 ?_ (by rw [zL,zL];omega);have ea:ak.toArray++dw.toArray=(ak++dw).toArray:=by simp
 rw [ea];exact ⟨.ref _,_,I.Np (t':=s.toks) (r.append r2) (by rw [zH];omega),rfl,q _ I.fresh⟩
def QI:R2:=λx y H Q=>∃ l k xs,x=.ref l/\y=.int k/\H l=some (.lst xs)/\-(2 ^ 63)<=k/\k < 2 ^ 63/\xs.length * k.toNat<=sizeLine /\
 ∀ p,H p=none->Q (.ref p) (upd H p (.lst (List.replicate k.toNat xs).flatten))
theorem len_rep {α:Type}(xs:List α)(k:Nat):(List.replicate k xs).flatten.length=k * xs.length:=by
 induction k with
 | zero=>simp
 | succ k ih=>rw [yf,List.flatten_cons,zH,ih,Nat.succ_mul,Nat.add_comm]
theorem Lg:ff X (binaryOp .Mult) QI:=by
 intro aa s σ H x y v u Q I rx ry h;obtain ⟨l,k,xs,rfl,rfl,hH,h1,h2,hz,q⟩:=h;cases rx;obtain ⟨t,rfl⟩:=ry;obtain ⟨z,ak,n,r,hl,e⟩:=I.um hH;have hlen:ak.toArray.size * k.toNat<=sizeLine:=by rw [zL,<- hl];exact hz
 have RQ:¬ ak.toArray.size * k.toNat > (2 ^ 63 - 1) / 8:=by
  have:(sizeLine:Nat)<=(2 ^ 63 - 1) / 8:=by decide
  omega
 have RK:¬ (!Builtin.List.listFitsIndex k)=true:=by
  rw [fitsIndex_both h1 h2];exact zN
 have NQ:¬ Builtin.List.listTooLong (ak.toArray.size * k.toNat)=true:=by
  rw [t9 hlen];exact zN
 have uS:List.foldl (λx1 x2=>x1++x2) #[] (List.replicate (if ak.toArray.isEmpty=true then 0 else k.toNat) ak.toArray)=(List.replicate k.toNat ak).flatten.toArray:=by
  have f0:∀ m:Nat,List.foldl (λx1 x2=>x1++x2) #[] (List.replicate m ak.toArray)=(List.replicate m ak).flatten.toArray:=λm=>by
   have:=foldl_rep ak m [];rw [List.nil_append] at this;exact this
  rw [f0];cases ak with
  | nil=>simp
  | cons a r'=>rw [if_neg (by simp)]
 refine wpAny_binaryOp_repeat_ref (T := "list") (U := "int") (by decide) ⟨_,e,rfl⟩ (λs'=>typeIs_int s' k t) noFill_list_mul F.fills_int_mul F.slot_int_rmul repeat_list F.slot_int_index.lookup
  (call_meets F.slot_int_rmul (typeIs_int s k t) F.entry_int_rmul (F.args_int_rmul_2 _ _) (int___rmul___int_list k t l ak.toArray n)
   ⟨e,rfl,⟨_,e,rfl⟩,call_meets F.slot_list_mul ⟨_,e,rfl⟩ F.entry_list_mul (F.args_list_mul_2 _ _) (AutoListH.list___mul___list_int_3 l ak.toArray n k t RK RQ NQ) ⟨e,?_⟩⟩)
 rw [uS];exact ⟨.ref _,_,I.Np (t':=s.toks) (r.rep k.toNat) (by rw [len_rep,Nat.mul_comm];exact hz),rfl,q _ I.fresh⟩
end
section
variable {prog:Program}{w:World}{A:Around}{E:Value->Shared->Prop}{s:Shared}
set_option maxRecDepth 100000 in
end
section
variable {X:Cx}
end
end L2
namespace Vr
open PySem PySem.W PySem.Calls PyProof.Rows
theorem gU {P:Params}{h:Heap}:∀ (ns:List Int) (vs:List Value),WellAll P h vs (ns.map WData.int)->IntsAre vs ns:=by
 intro ns;induction ns with
 | nil=>
  intro vs w;rw [List.map_nil] at w;cases w;exact .nil
 | cons n ns ih=>
  intro vs w;rw [yl] at w;cases w with
  | cons a b=>
   cases a;exact .cons _ _ (ih _ b)
theorem qD {l:OpenLaw}{n:Nat}(hn:l.most=some n){P:Params}{h:Heap}{args:List WData}{vals:List Value}
  (Jv:l.row.toRowW.claim.pre args=true) (Rk:WellAll P h vals args) :
  ∃ a vs ns,vals=[Value.ref a]/\args=[WData.list (ns.map WData.int)]/\h.get? a=some { cls:=.type "list", data:=.seq vs.toArray }/\IntsAre vs ns/\ns.length<=n:=by
 have WH:WShape.hasAll [] args [.list .int]=true:=(pre_splitW Jv).1;have hc:l.pre.holds [] { args:=args }=true:=(pre_splitW Jv).2;obtain ⟨d,r,rfl,h1,h2⟩:=hasAllW_cons WH;obtain rfl:=hasAllW_nil h2;obtain ⟨xs,rfl,h3⟩:=hasW_list h1;obtain ⟨ns,rfl⟩:=items_int h3;have hlen:ns.length<=n:=by
  unfold OpenLaw.pre at hc;have h4:(WTm.not (.lt (.lit (.int (n:Int))) (.len (.arg 0)))).holds [] { args:=[.list (ns.map .int)] }=true:=by
   have h4:=(holds_andW hc).1;rw [hn] at h4;exact h4
  have h5:=condW_of h4 (w_not (w_lt w_lit (w_len_list (w_arg rfl))));rw [zA] at h5;refine Nat.le_of_not_lt λq=>?_;have q':(n:Int) < ((ns.length:Nat):Int):=by omega
  first
   | (rw [decide_eq_true q'] at h5;exact absurd h5 (by decide))
   | (simp at h5;omega)
 cases Rk with
 | cons w1 w2=>
  cases w2;cases w1 with
  | list ho gY=>exact ⟨_,_,ns,rfl,rfl,ho,gU ns _ gY,hlen⟩
theorem qJ (l:OpenLaw)(args:List WData):l.row.toRowW.claim.post args (.bool true) args=true:=
 postW_of (r:=l.row.toRowW) (X:=(true == true))
  (show WShape.has [] (.bool true) .bool=true by first | rfl | decide | simp [WShape.has,WShape.arms,WShape.armsAll])
  (show (WTm.eq .res (.lit (.bool true))).value [] { args:=args,res:=some (.bool true),after:=args }=some (.bool (true == true)) from w_eq_bool (w_res rfl) w_lit) rfl
theorem nv {l:OpenLaw}{n:Nat}{q:Program}{loose:List Str}{XP:(Str->Option Value)->Heap->Prop}{YP:World->Heap->Prop}{d:DefRec}
  (hn:l.most=some n) (N1:d.params.defaults=[])
  (call:∀ (w:World) (cj aI:Shared) (mg mb:Str->Option Value) (fa:Addr) (o:Obj) (pm cd doc:Value) (a:Addr) (vs:List Value) (ns:List Int),
   Ground q loose [] XP w cj mg mb aI.heap->YP w aI.heap ->
   aI.heap.get? fa=some o->o.data=.func (docDef d.name d.params d.body d.scope pm cd doc)->aI.heap.CodeRec cd d.name->mg d.name=some (.ref fa) ->
   aI.heap.get? a=some { cls:=.type "list", data:=.seq vs.toArray }->IntsAre vs ns->ns.length<=n->aI.gens=#[] ->
   codeAny (model l.prog w) callerA (.call (.ref fa) ⟨[.ref a],[]⟩) (λr s'=>r=.ok (.ret (.bool true))/\OldK aI.heap s'.heap/\s'.os=aI.os/\AllBare s'.gens) aI) :
  WalkO q loose XP YP l.row.toRowW d [] (λf vs=>PySem.call f vs):=by
 intro w cj aI mg mb G Y fa o pm cd doc dV kV ho hd uW hD hmg hg args vals as Jv WR Y0 Rk Y5;obtain rfl:dV=.none:=Dflts.none hD N1;obtain rfl:kV=.none:=Dflts.noKw hD;obtain ⟨a,vs,ns,rfl,rfl,Lz,hints,hlen⟩:=qD hn Jv Rk;refine enter_call (codeAny_mono (call w cj aI mg mb fa o pm cd doc a vs ns G Y ho (fd_plain hd) uW hmg Lz hints hlen hg) λr s' hq=>?_);obtain ⟨rfl,h2,h3,h4⟩:=hq;exact ⟨.inl ⟨.bool true,.bool true,[],rfl,λ_=>rfl,.bool true,qJ l _,λ_=>⟨List.Pairwise.nil,λ_ hm=>(nomatch hm)⟩⟩,h2,h3,h4⟩
section
variable {prog:Program}{w:World}{A:Around}{E:Value->Shared->Prop}{s:Shared}{K:Frag}
def ledger (h:Heap)(L d:Addr):List (Addr×Obj):=(List.range h.objs.size).filterMap λa=>if a=L\/a=d then none else (h.get? a).map λo=>(a,o)
end
end Vr
namespace L2
open PySem PySem.Spec PyProof.Rows
theorem jH:∀ {vs:List Value}{ns:List Int},IntsAre vs ns->Vals (ns.map V.int) vs
 | _,_,.nil=>.nil
 | _,_,.cons n t h=>.cons ⟨t,rfl⟩ (jH h)
def Ma (H:Hp):Prop:=∀ b,H b=none\/∃ o xs,H b=some (.mW o (.lst xs))
theorem uw {P:Program}{w:World}{K:PySem.W.Frag}{mg mb:Str->Option Value}{CX:vR}{k:Nat}{fa a:Addr}{fd:FuncData}{x:Str}{sp:Sp}{aI:Shared}{vs:List Value}{ns:List Int}
  (KX:K.In aI.heap) (O3:aI.heap.Ns mainGlobals mg) (hb:aI.heap.Ns builtinsNs mb) (W0:∀ x:Str,x ≠ "__name__" -> mb x=bootBuiltins x) (RB:aI.heap.NoLimit) (hg:aI.gens=#[])
  (ha:aI.heap.get? a=some { cls:=.type "list", data:=.seq vs.toArray }) (hi:IntsAre vs ns) (hl:ns.length<=sizeLine) (hr:dW k callerA)
  (F:∀ base:Heap,K.In base->base.Ns mainGlobals mg->aR P w K mg base CX k fa fd [x] sp) (N4:∀ (s:Shared) (u:Value),BindsTo s fd ⟨[u],[]⟩ [(x,u)])
  (J7:∀ H:Hp,Ma H->av K H a (ns.map V.int)->sp [.ref a] H (λv _=>v=.bl true) λ_ _ _=>False)
  (N8:∀ H e s',CX [] H aI (λ_ _ _=>False) e s'->False) :
  codeAny (model P w) callerA (.call (.ref fa) ⟨[.ref a],[]⟩) (λr s'=>r=.ok (.ret (.bool true))/\OldK aI.heap s'.heap/\s'.os=aI.os/\AllBare s'.gens) aI:=by
 have rv:=jH hi;have Q6:=hi.length
 -- from an abstract heap in SM nothing but pe KZ may be tracked
 have core:∀ H:Hp,Ma H->av K H a (ns.map V.int)->fh P w H aI.heap->(∀ b,H b≠none->b=a)->(H a≠none->K.lookup a=none) ->
   codeAny (model P w) callerA (.call (.ref fa) ⟨[.ref a],[]⟩) (λr s'=>r=.ok (.ret (.bool true))/\OldK aI.heap s'.heap/\s'.os=aI.os/\AllBare s'.gens) aI:=by
  intro H hO hS aU hA hK;have qa:∀ {b:Addr}{o:Obj},aI.heap.get? b=some o->H b=none->(kL aI.heap H).get? b=some o:=λe n=>uV e n;have Nc:∀ {b:Addr}{o:Obj}{es:Array DictEntry}{ep:Nat},aI.heap.get? b=some o->o.data=.dict es ep->H b=none:=λ{b o es ep} e d=>by
   cases q:H b with
   | none=>rfl
   | some u=>
    have e':b=a:=hA b (by rw [q];simp);subst e';rw [ha] at e;cases e;have d':Data.seq vs.toArray _=Data.dict es ep:=d;cases d'
  have OP:∀ {b:Addr}{m:Str->Option Value},aI.heap.Ns b m->(kL aI.heap H).Ns b m:=λ{b m} ⟨o,es,ep,e,d,r⟩=>⟨o,es,ep,qa e (Nc e d),d,r⟩;have UE:K.In (kL aI.heap H):=λb o e=>qa (KX b o e) (by
   cases q:H b with
   | none=>rfl
   | some u=>
    have e':b=a:=hA b (by rw [q];simp);subst e';rw [hK (by rw [q];simp)] at e;cases e)
  have hM:Mod K mg (kL aI.heap H):=⟨UE,OP O3,⟨mb,OP hb,W0⟩,let ⟨mc,h1,h2⟩:=RB;⟨mc,OP h1,h2⟩⟩;have e0:JK P w K mg (kL aI.heap H) callerA [] aI H:=⟨rfl,hM,λb o e=>Jm e,Nat.le_of_eq (qW _ _),trivial,λb hb=>absurd (show b∈([]:List Addr) from hb) (by simp),aU,.of_eq hg⟩;refine codeAny_mono ((F _ UE (OP O3)).run callerA [] aI H ⟨[.ref a],[]⟩ [.ref a] [.ref a] _ _ hr e0 (N4 aI (.ref a)) (.cons rfl .nil) (J7 H hO hS)) λr s' h=>?_;cases r with
  | error e=>exact (N8 H e s' h).elim
  | ok fl=>
   cases fl with
   | next=>exact False.elim h
   | brk=>exact False.elim h
   | cont=>exact False.elim h
   | ret u=>
    obtain ⟨v,H',os,bare,un,Rw,r',q⟩:=h;have q':v=.bl true:=q;subst q';obtain rfl:u=Value.bool true:=r';refine ⟨rfl,OldK.of_keep λb o e=>?_,os,bare⟩;cases q:H b with
    | none=>exact un.keep b o e q (by intro z;exact absurd (show b∈([]:List Addr) from z) (by simp)) (by simp)
    | some u=>
     rcases hO b with z | ⟨ob,xs,z⟩
     ·rw [q] at z;cases z
     ·have z2:=un.gZ b ob _ z;obtain ⟨e1,_⟩:=aU b _ z;obtain ⟨e2,_⟩:=Rw b _ z2;rw [e] at e1;cases e1;exact e2
 cases hk:K.lookup a with
 | some o=>
  -- pe KZ is one of pe ud own objects
  have e:=KX a o hk;rw [ha] at e;cases e;refine core (λ_=>none) (λ_=>.inl rfl) (.inr ⟨_,vs.toArray,_,hk,rfl,rfl,rfl,by rw [zL,Q6];exact hl,by simpa using rv⟩) (λb u z=>by have z':(none:Option HO)=some u:=z;cases z') (λb z=>absurd rfl z) λz=>absurd rfl z
 | none=>
  refine core (λb=>if b=a then some (.mW { cls:=.type "list", data:=.seq vs.toArray } (.lst (ns.map V.int))) else none) (λb=>?_) (.inl (.inr ⟨{ cls:=.type "list", data:=.seq vs.toArray },if_pos rfl⟩)) (λb u z=>?_) (λb z=>?_) λ_=>hk
  ·by_cases hb:b=a
   ·exact .inr ⟨_,_,if_pos hb⟩
   ·exact .inl (if_neg hb)
  ·by_cases hb:b=a
   ·have z':=(if_pos hb).symm.trans z;cases z';subst hb;exact ⟨ha,by rw [zA];exact hl,vs,_,rv,ha⟩
   ·have z':=(if_neg hb).symm.trans z;cases z'
  ·by_cases hb:b=a
   ·exact hb
   ·exact absurd (if_neg hb) z
theorem Iz {l:PySem.W.OpenLaw}{n k:Nat}{q:Program}{loose:List Str}{XP:(Str->Option Value)->Heap->Prop}{YP:World->Heap->Prop}{d:DefRec}{K:Params->PySem.W.Frag}{CX:World->vR}{sp:World->Sp}{x:Str}
  (hn:l.most=some n) (WN:n<=sizeLine) (N1:d.params.defaults=[]) (hr:dW k callerA)
  (hY:∀ (w:World) (h:Heap),YP w h->(K w.params).In h)
  (F:∀ (w:World) (mg:Str->Option Value) (fa:Addr) (h:Heap),(K w.params).In h->h.Ns mainGlobals mg->mg d.name=some (.ref fa) ->
   ∃ fd:FuncData,(∀ (s:Shared) (u:Value),BindsTo s fd ⟨[u],[]⟩ [(x,u)]) /\
    ∀ base:Heap,(K w.params).In base->base.Ns mainGlobals mg->aR l.prog w (K w.params) mg base (CX w) k fa fd [x] (sp w))
  (J7:∀ (w:World) (H:Hp) (a:Addr) (ns:List Int),ns.length<=n->Ma H->av (K w.params) H a (ns.map V.int)->sp w [.ref a] H (λv _=>v=.bl true) λ_ _ _=>False)
  (N8:∀ (w:World) (H:Hp) (s:Shared) (e:Value) (s':Shared),CX w [] H s (λ_ _ _=>False) e s'->False) :
  PySem.W.WalkO q loose XP YP l.row.toRowW d [] (λf vs=>PySem.call f vs):=by
 refine Vr.nv hn N1 λw cj aI mg mb fa o pm cd doc a vs ns G Y ho hd uW hmg Lz hints hlen hg=>?_;have KX:=hY w _ Y;obtain ⟨fd,hb,hF⟩:=F w mg fa _ KX G.T.g hmg;exact uw KX G.T.g G.T.b G.T.builtins G.T.nolimit hg Lz hints (yH hlen WN) hr hF hb (λH hO hS=>J7 w H a ns hlen hO hS) λH e s'=>N8 w H aI e s'
def iz (s:Stmt):Arguments:=match s with
 | .FunctionDef _ a _ _ _ _ _ _ _ _=>a
 | _=>{ posonlyargs:=[],args:=[],vararg:=none,kwonlyargs:=[],kw_defaults:=[],kwarg:=none,defaults:=[] }
def ah (s:Stmt):List Stmt:=match s with
 | .FunctionDef _ _ b _ _ _ _ _ _ _=>b
 | _=>[]
def ai (s:Stmt):Scope:=match s with
 | .FunctionDef _ _ _ _ _ _ sc _ _ _=>sc
 | _=>{ kind:=.function,names:=[],isGenerator:=false,isCoroutine:=false }
abbrev cO:vR:=λ_ _ _ _ _ _=>False
abbrev E0:XK:=λ_ _ _=>False
theorem au {X:Cx}:Passes cO X E0:=λ_ _ _ _ _ _ _ h=>h.elim
structure aX (K:PySem.W.Frag) (x qual:Str) (st:Stmt) (f:Addr) (fd:FuncData):Prop where
 ex:∃ (oc:Value) (od:Option Addr) (kV doc pm:Value) (an:Option Addr) (bG ct:Value) (JZ:Array (Option Value)),
  fd=yn x qual (iz st) (ah st) (ai st) .none kV doc pm an bG ct/\K.lookup f=some ⟨oc,od,.func fd,JZ⟩/\PySem.W.codeIn K bG qual=true
 kp:zM K (.ref f)=true
section
variable {P:Program}{w:World}{K:PySem.W.Frag}{mg:Str->Option Value}{base:Heap}
theorem aX.ok {x qual:Str}{st:Stmt}{f:Addr}{fd:FuncData}{N ps:List Str}{k:Nat}{sp:Sp}(F:aX K x qual st f fd)(S:aA N ps (ai st))(len:∀ vs H Q E,sp vs H Q E->vs.length=ps.length)
  (uY:∀ (bG:Value) (A:Around) (outer:List Env) (s:Shared) (H:Hp) (vs:List V) (Q:VK) (E:XK),dW k (A.deeper (envOfC qual (ai st) s.heap.objs.size f bG))->sp vs H Q E ->
   ∃ t,lJ (oS cO P w K mg base N qual (ai st) f bG A outer s H E).OQ (ah st) t/\t { nx:=λ_ H'=>Q .bu H',rt:=Q } (start N vs) H):aR P w K mg base cO (k + 1) f fd ps sp:=by
 obtain ⟨oc,od,kV,doc,pm,an,bG,ct,JZ,rfl,lk,uW⟩:=F.ex;refine Og lk uW S len λA outer s H vs Q E hr J7=>?_;obtain ⟨t,h,q⟩:=uY bG A outer s H vs Q E hr J7;exact ⟨t,h.OQ,q⟩
theorem aX.binds {x qual:Str}{st:Stmt}{f:Addr}{fd:FuncData}{ps:List Str}(F:aX K x qual st f fd)
  (h:∀ (kV doc pm:Value) (an:Option Addr) (bG ct:Value) (us:List Value),us.length=ps.length->bindArgs (yn x qual (iz st) (ah st) (ai st) .none kV doc pm an bG ct) ⟨us,[]⟩=pure (ps.zip us)):Binds K fd ps []:=by
 obtain ⟨oc,od,kV,doc,pm,an,bG,ct,JZ,rfl,lk,uW⟩:=F.ex;exact .all (h kV doc pm an bG ct)
theorem fun_mk {x qual:Str}{st:Stmt}{f:Addr}{oc:Value}{od an:Option Addr}{JZ:Array (Option Value)}{kV doc pm bG ct:Value}(l:K.lookup f=some ⟨oc,od,.func (yn x qual (iz st) (ah st) (ai st) .none kV doc pm an bG ct),JZ⟩)
  (c:PySem.W.codeIn K bG qual=true) (k:zM K (.ref f)=true):aX K x qual st f (yn x qual (iz st) (ah st) (ai st) .none kV doc pm an bG ct):=⟨⟨oc,od,kV,doc,pm,an,bG,ct,JZ,rfl,l,c⟩,k⟩
end
section
variable {X:Cx}
theorem pv (i:Nat){x:Str}{pos:Pos}(hN:X.N[i]?=some x:=by rfl)(hv:Kz X.env.scope x=true:=by rfl)(hd:(x == ("__debug__" : Str))=false:=by decide)
  (uW:(x == ("__classdict__" : Str))=false:=by decide):PE X (.Name x pos) (KJ i):=Ld hN (IB hv) hd uW
end
def aj (H H':Hp):Prop:=∀ b o,H b=some o->H' b=some o
theorem aj.refl (H:Hp):aj H H:=λ_ _ h=>h
theorem aj.trans {H H1 H2:Hp}(a:aj H H1)(b:aj H1 H2):aj H H2:=λc o h=>b c o (a c o h)
theorem aj.free {H H':Hp}(e:aj H H'){l:Addr}(h:H' l=Option.none):H l=Option.none:=by
 cases q:H l with
 | none=>rfl
 | some o=>
  rw [e l o q] at h;cases h
theorem aj.seq {K:PySem.W.Frag}{H H':Hp}{a:Addr}{xs:List V}(e:aj H H')(h:av K H a xs):av K H' a xs:=by
 rcases h with (h | ⟨o,h⟩) | h
 ·exact .inl (.inl (e _ _ h))
 ·exact .inl (.inr ⟨o,e _ _ h⟩)
 ·exact .inr h
theorem jN {prog:Program}{w:World}{A:Around}{R:Result->Shared->Prop}{s:Shared}{elt target iter:Expr}{ifs:List Expr}{scope:Scope}{pos:Pos}{it acc:Value}{env:Env}(I:Nat->Shared->Prop)
  (turn:∀ n s,I n s->wpAny (model prog w) A (pyNext it) (λr aI=>match r with
   | none=>R (.ok .next) aI
   | some v=>wpAny (model prog w) A (letOwnedTupleGo target it v) (λ_ gH=>wpAny (model prog w) A (assign target env v) (λ_ gT=>
     wpAny (model prog w) A (forIn ifs true λc r=>if r=true then do let ok <- isTrue c env (eval c env);pure (ForInStep.yield ok) else pure (ForInStep.yield r)) (λok iI=>
      if ok=true then wpAny (model prog w) A (eval elt env) (λx lR=>
       wpAny (model prog w) A (call (.builtin "list.append") [acc,x]) (λ_ lQ=>∃ m,m < n/\I m lQ) (λ_ _=>False) lR) (λ_ _=>False) iI
      else ∃ m,m < n/\I m iI) (λ_ _=>False) gT) (λ_ _=>False) gH) (λ_ _=>False) aI) (λ_ _=>False) s)
  (n:Nat) (h:I n s) :
  codeAny (model prog w) A (.compLoop (.ListComp elt [⟨target,iter,ifs,0⟩] scope pos) 0 it acc env) R s:=by
 refine codeAny_loop rfl I (λn s hI=>?_) n h;show wpAny _ A ((compTurn (.ListComp elt [⟨target,iter,ifs,0⟩] scope pos) 0 it acc env).onRaise (λx=>do noteFrame x env;theTreesLotGoes x)) _ _ s;refine wpAny_noted ?_;rw [compTurn_list];refine wpAny_bind (wpAny_standAt (wpAny_bind (wpAny_mono (turn n s hI) (λr aI bD=>?_) λ_ _ h'=>h'.elim)));cases r with
 | none=>exact wpAny_pure bD
 | some v=>
  refine wpAny_bind (wpAny_mono bD (λ_ gH mS=>?_) λ_ _ h'=>h'.elim);refine wpAny_bind (wpAny_mono mS (λ_ gT uK=>wpAny_bind (wpAny_mono uK (λok iI mR=>?_) λ_ _ h'=>h'.elim)) λ_ _ h'=>h'.elim);cases ok with
  | false=>exact wpAny_pure ⟨rfl,mR⟩
  | true=>
   exact wpAny_bind (wpAny_bind (wpAny_mono mR (λx lR uJ=>wpAny_bind (wpAny_mono uJ (λ_ lQ uH=>wpAny_pure (wpAny_pure ⟨rfl,uH⟩)) λ_ _ h'=>h'.elim)) λ_ _ h'=>h'.elim))
def dc (names:List (Str×NameKind))(env:Env)(cs:List (Str×Addr)):List (Str×Addr):=
 names.foldl (λcs p=>if p.2=.free then (match env.cells.lookup p.1 with | some c=>(p.1,c)::cs | none=>cs) else cs) cs
theorem fV {env:Env}:∀ (names:List (Str×NameKind)) (cs:List (Str×Addr)),(∀ y∈names,y.2=.free->∃ c,env.cells.lookup y.1=some c) ->
  (forIn names cs λx r=>(if (x.2 == NameKind.free)=true then do let a <- cellOf env x.1;pure (ForInStep.yield ((x.1,a)::r)) else pure (ForInStep.yield r):Sem _))=pure (dc names env cs)
 | [],cs,_=>by simp [dc]
 | (n,k)::r,cs,h=>by
  have ih:=λcs=>fV r cs λy hy=>h y (zn _ hy);simp only [List.forIn_cons];by_cases hk:k=.free
  ·subst hk;obtain ⟨c,e⟩:=h (n,.free) z8 rfl;have e':env.cells.lookup n=some c:=e;have ec:cellOf env n=pure c:=by unfold cellOf;rw [e']
   simp only [beq_self_eq_true,if_true,ec,pure_bind];rw [ih];simp [dc,e']
  ·have hb:(k == NameKind.free)=false:=by simpa using hk
   simp only [hb,zf,if_false,pure_bind];rw [ih];simp [dc,hk]
theorem cN {scope:Scope}{env:Env}(h:∀ y∈scope.names,y.2=.free->∃ c,env.cells.lookup y.1=some c):closureFor scope env=pure (dc scope.names env []):=by unfold closureFor;have:=fV scope.names [] h;simp only [bind_pure];exact this
theorem nh {env:Env}:∀ (names:List (Str×NameKind)) (cs:List (Str×Addr)) (x:Str) (c:Addr),(x,c)∈dc names env cs->(x,c)∈cs\/env.cells.lookup x=some c
 | [],cs,x,c,h=>.inl h
 | (n,k)::r,cs,x,c,h=>by
  have h':(x,c)∈dc r env (if k=.free then (match env.cells.lookup n with | some c=>(n,c)::cs | none=>cs) else cs):=h;rcases nh r _ x c h' with q | q
  ·split at q
   ·cases e:env.cells.lookup n with
    | none=>rw [e] at q;exact .inl q
    | some d=>
     rw [e] at q;rcases zO.mp q with z | z
     ·cases z;exact .inr e
     ·exact .inl z
   ·exact .inl q
  ·exact .inr q
theorem jY {env:Env}:∀ (names:List (Str×NameKind)) (cs:List (Str×Addr)) (x:Str),(∃ c,(x,c)∈cs)->∃ c,(x,c)∈dc names env cs
 | [],cs,x,h=>h
 | (n,k)::r,cs,x,⟨c,h⟩=>by
  refine jY r _ x ?_;dsimp only;split
  ·split
   ·exact ⟨c,zn _ h⟩
   ·exact ⟨c,h⟩
  ·exact ⟨c,h⟩
theorem ni {env:Env}:∀ (names:List (Str×NameKind)) (cs:List (Str×Addr)) (x:Str),(x,NameKind.free)∈names->(∃ c,env.cells.lookup x=some c)->∃ c,(x,c)∈dc names env cs
 | [],_,_,h,_=>by simp at h
 | (n,k)::r,cs,x,h,⟨c,e⟩=>by
  rcases zO.mp h with z | z
  ·have e1:x=n:=congrArg Prod.fst z;have e2:NameKind.free=k:=congrArg Prod.snd z;subst e1 e2;refine jY r _ x ⟨c,?_⟩;dsimp only;rw [if_pos rfl,e];exact z8
  ·exact ni r _ x z ⟨c,e⟩
theorem eB {β:Type}:∀ (l:List (Str×β)) (x:Str) (c:β),(x,c)∈l->∃ d,l.lookup x=some d
 | (n,d)::r,x,c,h=>by
  cases hx:x == n with
  | true=>exact ⟨d,by simp [yU,hx]⟩
  | false=>
   simp only [yU,hx];rcases zO.mp h with z | z
   ·cases z;simp at hx
   ·exact eB r x c z
theorem xi {names:List (Str×NameKind)}{env:Env}{x:Str}{c:Addr}(h:(dc names env []).lookup x=some c):env.cells.lookup x=some c:=by
 rcases nh names [] x c (zv h) with q | q
 ·simp at q
 ·exact q
theorem jX {names:List (Str×NameKind)}{env:Env}{x:Str}{c:Addr}(h:(x,NameKind.free)∈names)(e:env.cells.lookup x=some c):(dc names env []).lookup x=some c:=by obtain ⟨d,hd⟩:=ni names [] x h ⟨c,e⟩;obtain ⟨d',Mv⟩:=eB _ _ _ hd;have:=xi Mv;rw [e] at this;cases this;exact Mv
theorem bV {env:Env}:∀ {names:List (Str×NameKind)}{x:Str},names.lookup x=some .free ->
  (names.map λ(n,k)=>if (k == NameKind.free && env.scope.kind == .function && env.kindOf n == some .cell) then (n,NameKind.cell) else (n,k)).lookup x=some .cell \/
  (names.map λ(n,k)=>if (k == NameKind.free && env.scope.kind == .function && env.kindOf n == some .cell) then (n,NameKind.cell) else (n,k)).lookup x=some .free
 | [],_,h=>by simp at h
 | (n,k)::r,x,h=>by
  have ih:=@bV env r x;show List.lookup x ((if (k == NameKind.free && env.scope.kind == .function && env.kindOf n == some .cell)=true then (n,NameKind.cell) else (n,k))::_)=_\/List.lookup x ((if (k == NameKind.free && env.scope.kind == .function && env.kindOf n == some .cell)=true then (n,NameKind.cell) else (n,k))::_)=_;by_cases hc:(k == NameKind.free && env.scope.kind == .function && env.kindOf n == some .cell)=true
  ·rw [if_pos hc];cases hx:x == n with
   | true=>left;simp [yU,hx]
   | false=>
    simp only [yU,hx] at h ⊢;exact ih h
  ·rw [if_neg hc];cases hx:x == n with
   | true=>
    simp only [yU,hx] at h;cases h;right;simp [yU,hx]
   | false=>
    simp only [yU,hx] at h ⊢;exact ih h
structure aC (own:List Str) (caps:List Nat) (N:List Str) (sc scope:Scope):Prop where
 kind:scope.kind=.function
 iV:∀ y∈scope.names,y.2≠.cell
 loc:∀ y∈scope.names,y.2=.local->scope.names.lookup y.1=some .local
 fr:∀ y∈scope.names,y.2=.free->sc.names.lookup y.1=some .cell\/sc.names.lookup y.1=some .free
 XQ:∀ i∈caps,i < N.length/\scope.names.lookup ((N[i]?).getD Str.empty)=some .free
def bA (X:Cx)(own:List Str)(caps:List Nat)(scope:Scope)(s:Shared)(H:Hp)(fp:List Addr)(C:Addr):Cx:=
 { X with N:=own++caps.map (λi=>(X.N[i]?).getD Str.empty),cj:=s,vO:=H,env:=compEnvC scope (dc scope.names X.env []) C X.env,outer:=X.stack,ex:=fp,fn:=λ_=>false,pn:=[],xe:=λ_ _=>False }
def cW (n:Nat)(caps:List Nat)(σ:St):St:=List.replicate n none++caps.map λi=>(σ[i]?).join
section
variable {X:Cx}{aa:List (Addr×Obj)}{σ:St}{H:Hp}{s:Shared}
theorem fS {scope:Scope}{env:Env}(nc:∀ y∈scope.names,y.2≠.cell){x:Str}{k:NameKind}(hk:k=.cell\/k=.free)(h:(relabel scope env).names.lookup x=some k):(x,NameKind.free)∈scope.names:=by
 have hm:=zv h;obtain ⟨⟨n,k0⟩,hy,e⟩:=zP.mp hm;dsimp only at e;split at e
 ·rename_i hc;simp only [Bool.and_eq_true,beq_iff_eq] at hc;have e1:n=x:=congrArg Prod.fst e;subst e1;rw [hc.1.1] at hy;exact hy
 ·cases e;rcases hk with z | z
  ·subst z;exact absurd rfl (nc _ hy)
  ·subst z;exact hy
theorem i7 {own:List Str}{caps:List Nat}{scope:Scope}{fp:List Addr}{D C:Addr}{o:Obj}{h1:Heap}{tk:Nat}(I:Inv X aa σ H s)(S:aC own caps X.N X.env.scope scope)
  (f:∀ b∈fp,ic X aa H b) (fl:∀ b∈fp,b < s.heap.objs.size) (hD:s.heap.objs.size<=D) (hC:s.heap.objs.size<=C) (qY:D≠C) (keep:∀ b o,s.heap.get? b=some o->h1.get? b=some o)
  (O3:h1.Ns C λ_=>none) (kM:h1.get? D=some o) (ho:∀ v,o.data≠.cell v) :
  Inv (bA X own caps scope s H fp C) [(D,o)] (cW own.length caps σ) H { s with heap:=h1,toks:=tk }:=by
 have sub:∀ b∈rR X.stack,b < s.heap.objs.size:=λb hb=>by
  rcases zO.mp (I.eH b hb) with e | hb
  ·rw [e];exact I.lt
  ·by_cases q:b < s.heap.objs.size
   ·exact q
   ·exact absurd hb (I.Nb (Nat.le_of_not_lt q))
 refine ⟨⟨I.ok.mod,S.kind,I.ok.glob,I.ok.blt,hC,λx y c h1 h2=>I.ok.inj x y c (xi h1) (xi h2),λx hx=>?_,λx c z _=>absurd (show false=true from z) zN,I.ok.hd,I.ok.frames,.inl rfl,
   λb hb=>⟨zT (zY (fl b hb) hC),λx c e=>(f b hb).2.2.2.2.1 x c (xi e)⟩,I.bs,yH I.ok.JE I.sz,λb ob e hb=>?_,λb hb hs=>?_,I.stack,I.pB⟩,
  rfl,I.bare,Un.kept keep,⟨_,O3,λi x v e1 e2 e3=>?_⟩,λx c e=>?_,I.aU.fresh hC,λx c e=>I.eE x c (xi e),λp hp=>?_,I.aU.kept keep,?_⟩
 ·have hm:(x,NameKind.free)∈scope.names:=by
   rcases hx with hx | hx
   ·exact fS S.iV (.inl rfl) hx
   ·exact fS S.iV (.inr rfl) hx
  obtain ⟨c,hc⟩:=I.ok.has x (S.fr _ hm rfl);exact ⟨c,jX hm hc⟩
 ·rcases (f b hb).2.2.2.1 with z | z
  ·exact I.ok.ua b ob e z
  ·exact absurd (zY (Heap.lt_size e) (yH I.ok.JE z)) (zy _)
 ·rcases zO.mp (I.eH b hs) with e | e
  ·exact (f b hb).2.1 e
  ·exact (f b hb).2.2.1 e
 ·have Oj:(List.replicate own.length (none:Option V)++caps.map λi=>(σ[i]?).join)[i]?=some (some v):=e2;have Iw:(own++caps.map (λi=>(X.N[i]?).getD Str.empty))[i]?=some x:=e1;have hi:own.length<=i:=by
   by_cases q:i < own.length
   ·rw [yP (by simpa using q),List.getElem?_replicate,if_pos q] at Oj;cases Oj
   ·exact Nat.le_of_not_lt q
  rw [yK (by simpa using hi),List.length_replicate,zF] at Oj;rw [yK hi,zF] at Iw;cases ek:caps[i - own.length]? with
  | none=>rw [ek] at Iw;cases Iw
  | some k=>
   rw [ek] at Iw Oj;have ex:(X.N[k]?).getD Str.empty=x:=Option.some.inj Iw;have ev:(σ[k]?).join=some v:=Option.some.inj Oj;have XC:σ[k]?=some (some v):=by
    cases q:σ[k]? with
    | none=>rw [q] at ev;cases ev
    | some y=>rw [q] at ev;exact congrArg some ev
   obtain ⟨hl,hf⟩:=S.XQ k (zB ek);have eN:X.N[k]?=some x:=by
    rw [zD hl] at ex ⊢;exact congrArg some ex
   rw [ex] at hf;have hm:=zv hf;have Ut:=S.fr _ hm rfl;obtain ⟨m,_,RD⟩:=I.loc;obtain ⟨u,ru,lk⟩:=RD k x v eN XC (.inr Ut);refine ⟨u,ru,.inr ⟨bV hf,?_⟩⟩;rcases lk with ⟨kl,_⟩ | ⟨_,c,hc,ob,Jw,hd⟩
   ·have OV:X.env.scope.names.lookup x=some .local:=kl;rcases Ut with z | z
    ·have z':X.env.scope.names.lookup x=some .cell:=z;rw [z'] at OV;cases OV
    ·have z':X.env.scope.names.lookup x=some .free:=z;rw [z'] at OV;cases OV
   ·exact ⟨c,jX hm hc,ob,keep c ob Jw,hd⟩
 ·obtain ⟨v,ob,Jw,hd⟩:=I.cell x c (xi e);exact ⟨v,ob,keep c ob Jw,hd⟩
 ·have e:p=(D,o):=by simpa using (show p∈[]++[(D,o)] from hp)
  subst e;refine ⟨kM,I.aU.fresh hD,qY,λz=>?_,ho⟩;exact absurd (zY (sub D z) hD) (zy _)
 ·show (cW own.length caps σ).length=(own++caps.map (λi=>(X.N[i]?).getD Str.empty)).length;simp [cW]
def ME (X:Cx)(ifs:List Expr)(t:TT):Prop:=
 ∀ (aa:List (Addr×Obj)) (s:Shared) (σ:St) (H:Hp) (Q:Bool->Hp->Prop),Inv X aa σ H s->t σ H Q ->
  wpAny (model X.prog X.w) X.A (forIn ifs true λc r=>if r=true then do let ok <- isTrue c X.env (eval c X.env);pure (ForInStep.yield ok) else pure (ForInStep.yield r)) (TP X aa σ Q) X.xe s
def MN:TT:=λ_ H Q=>Q true H
theorem wS:ME X [] MN:=λ_ s σ H Q I h=>wpAny_tests_nil ⟨H,I,h⟩
theorem iu {c:Expr}{t:TT}(h:PT X c t):ME X [c] t:=λaa s σ H Q I q=>wpAny_tests_one (h aa s σ H Q I q)
def JQ (n:Nat)(caps:List Nat)(wi:TI)(g:TG)(tc:TT)(te:TE):TE:=fun σ H Q=>wi σ H λJ H1=>∃ W:Nat->Nat->St->List V->Hp->Prop,(∃ m,W 0 m (cW n caps σ) [] H1)/\∀ i m τ acc H,W i m τ acc H ->
 (J.stop i H/\acc.length<=sizeLine/\∀ p,H p=none->Q (.ref p) (upd H p (.lst acc))) \/
 (J.go i H/\acc.length < sizeLine/\∀ x H',J.jq i H x H'->g x τ H' fun aV H2=>tc aV H2 λb H3=>if b=true then te aV H3 λy H4=>∃ m',m' < m/\W (i + 1) m' aV (acc++[y]) H4 else ∃ m',m' < m/\W (i + 1) m' aV acc H3)
theorem fh.sj {P:Program}{w:World}{H:Hp}{h:Heap}{a:Addr}{o:HO}(x:fh P w H h)(hn:H a=none)(new:aT P w (upd H a o) h a o):fh P w (upd H a o) h:=λb u e=>by
 by_cases hb:b=a
 ·subst hb;rw [yq] at e;cases e;exact new
 ·rw [xC hb] at e;exact (x b u e).fD (λc v _ q=>q) (λc q=>by rw [xC (xA q hn)];exact q) λc xs q=>by rw [xC (xA q hn)];exact q
theorem wP {own:List Str}{caps:List Nat}{elt tg iter:Expr}{ifs:List Expr}{scope:Scope}{pos:Pos}{wi:TI}{g:TG}{tc:TT}{te:TE}(hc:X.calm=true)(S:aC own caps X.N X.env.scope scope)(hi:PI X tg iter wi)
  (hg:∀ s H fp C,PG (bA X own caps scope s H fp C) tg g) (ht:∀ s H fp C,ME (bA X own caps scope s H fp C) ifs tc) (he:∀ s H fp C,PE (bA X own caps scope s H fp C) elt te)
  (hs:∀ x,foldedSetIterable iter X.env x=pure x:=by intro _;rfl):PE X (.ListComp elt [⟨tg,iter,ifs,0⟩] scope pos) (JQ own.length caps wi g tc te):=by
 intro aa s σ H Q I h;rw [eval_ListComp];refine wpAny_comprehension_free (use:=none) (cl:=dc scope.names X.env []) rfl hs (cN λy hy e=>I.ok.has y.1 (S.fr y hy e)) S.kind S.loc
  (wpAny_mono (hi aa s σ H _ I h) (λv s1 h1=>aM h1 λNv s2 h2=>?_) λ_ _ e=>e)
 obtain ⟨it,fp,tn,J,H2,e,I2,T,rM,f2,W,⟨m0,w0⟩,turn⟩:=h2;subst e;refine wpAny_newObj_type (wpAny_newFunctionEnv S.iV (by intro y hy;simp at hy) (λbD ck bI=>?_) S.kind);dsimp only at ck bI ⊢;generalize rQ:s2.heap.push { cls:=.type "list", dict:=none,data:=.seq ([]:List Value).toArray }=G at ck bI ⊢;have hG:G.objs.size=s2.heap.objs.size + 1:=by rw [<-rQ,Heap.size_push]
 have qY:s2.heap.objs.size≠G.objs.size:=by rw [hG];exact zT (Nat.lt_succ_self _)
 have qZ:s2.heap.objs.size<=G.objs.size:=by rw [hG];exact yT _
 have below:∀ b,b < s2.heap.objs.size->b≠G.objs.size:=λb hb=>by rw [hG];exact zT (yk hb)
 have old:∀ b o,s2.heap.get? b=some o->bD.get? b=some o:=λb o e=>bI.extBut b o (below b (Heap.lt_size e)) (Heap.get?_push_of_some _ (rQ ▸ Heap.get?_push_of_some _ e));have kM:bD.get? s2.heap.objs.size=some { cls:=.type "list", dict:=none,data:=.seq ([]:List Value).toArray }:=bI.extBut _ _ qY (Heap.get?_push_of_some _ (rQ ▸ Heap.get?_push_size _ rfl));have fl:∀ b∈fp,b < s2.heap.objs.size:=λb hb=>let ⟨o,e,_⟩:=T.obj _ _ rM b hb;Heap.lt_size e;have fR:bD.Ns G.objs.size λ_=>none:=ck;have I4:=i7 (tk:=s2.toks + ([]:List (Str×Value)).length) I2 S f2 fl (zE _) qZ qY old fR kM (λv z=>nomatch z);have sJ:tn 0 bD:=T.keep _ _ _ rM λb _ o e=>old b o e;generalize NL:({ s2 with heap:=bD,toks:=s2.toks + ([]:List (Str×Value)).length }:Shared)=s4 at I4 ⊢;have e4:s4.heap=bD:=by rw [<-NL]
 rw [<-e4] at sJ
 -- pe loop
 have loop:codeAny (model X.prog X.w) X.A (.compLoop (.ListComp elt [⟨tg,iter,ifs,0⟩] scope pos) 0 (.ref it) (.ref s2.heap.objs.size) (compEnvC scope (dc scope.names X.env []) G.objs.size X.env))
   (compPost (model X.prog X.w) X.A X.xe none (EP X aa σ Q) (.ref s2.heap.objs.size) G.objs.size) s4:=by
  let Y:=bA X own caps scope s2 H2 fp G.objs.size
  have eK:∀ {H':Hp}{ak:List Value}{n:Nat},(∀ b∈fp,H' b=none)->∀ b∈fp,ic Y [(s2.heap.objs.size,({ cls:=.type "list", data:=.seq ak.toArray n }:Obj))] H' b:=λ{H' ak n} hn b hb=>by
   refine ⟨hn b hb,below b (fl b hb),λz=>?_,.inl hb,λx c e=>(f2 b hb).2.2.2.2.1 x c (xi e),λp hp=>?_⟩
   ·rcases zO.mp (I2.eH b z) with e | e
    ·exact (f2 b hb).2.1 e
    ·exact (f2 b hb).2.2.1 e
   ·have e:p=(s2.heap.objs.size,({ cls:=.type "list", data:=.seq ak.toArray n }:Obj)):=by simpa using (show p∈[]++[_] from hp)
    subst e;exact yJ (fl b hb)
  refine jN (λn s'=>∃ i τ acc ak k H',Inv Y [(s2.heap.objs.size,({ cls:=.type "list", data:=.seq ak.toArray k }:Obj))] τ H' s'/\tn i s'.heap/\(∀ b∈fp,H' b=none)/\Vals acc ak/\W i n τ acc H') ?_ m0
   ⟨0,_,[],[],0,H2,I4,sJ,λb hb=>(f2 b hb).1,.nil,w0⟩
  rintro n s5 ⟨i,τ,acc,ak,k,H5,I5,rL,Iv,qE,w5⟩;rcases turn i n τ acc H5 w5 with ⟨stop,hz,q⟩ | ⟨go,hz,step⟩
  ·refine aM (T.done Y rfl rfl rfl hc i _ s5 τ H5 (λ_ _=>False) I5 (eK Iv) rL stop) λr s6 ⟨hr,I6⟩=>?_;subst hr;obtain ⟨eD,nD,_,_,_⟩:=I6.pin _ (zC _ (zG.mpr rfl));obtain ⟨m6,NP,_⟩:=I6.loc;refine ⟨m6,NP,λh' qT=>?_⟩;have LM:H5 G.objs.size=none:=I6.free;have Sk:h'.get? s2.heap.objs.size=some { cls:=.type "list", data:=.seq ak.toArray k }:=qT.extBut _ _ qY eD;have uR:fh X.prog X.w H5 h':=λb u e=>(I6.aU b u e).fD (λc v RO qv=>qT.extBut c v (by
     rcases RO with z | z
     ·subst z;exact xA e LM
     ·exact xA z LM) qv) (λ_ q=>q) λ_ _ q=>q
   refine ⟨.ref s2.heap.objs.size,_,?_,rfl,q _ nD⟩;have ub:=I6.base;refine I2.vz (ch:=fp) (s':={ s6 with heap:=h' }) I6.os ⟨λb o e n' hb hx=>qT.extBut b o (below b (Heap.lt_size e)) (ub.keep b o e n' hb hx),λb o e n' hb hx=>?_,λb o e n' hx=>?_,λb o e hx=>?_,λb xs e=>?_,λb o u e=>?_,λb ps e=>?_⟩
    (uR.sj nD ⟨hz,ak,k,qE,Sk⟩) I6.bare λb hb=>⟨(f2 b hb).2.2.2.1,(f2 b hb).2.1,(f2 b hb).2.2.2.2.1,(f2 b hb).2.2.2.2.2⟩
   ·obtain ⟨sl,e'⟩:=ub.slot b o e n' hb hx;exact ⟨sl,qT.extBut b _ (below b (Heap.lt_size e)) e'⟩
   ·rw [xC (zT (Heap.lt_size e))];exact ub.free b o e n' hx
   ·obtain ⟨o',e'⟩:=ub.there b o e hx;exact ⟨o',qT.extBut b _ (below b (Heap.lt_size e)) e'⟩
   ·have z:=ub.aJ b xs e;rw [xC (xA z nD)];exact z
   ·have z:=ub.gZ b o u e;rw [xC (xA z nD)];exact z
   ·obtain ⟨more,z⟩:=ub.iG b ps e;exact ⟨more,by rw [xC (xA z nD)];exact z⟩
  ·refine aM (T.item Y rfl rfl rfl hc i _ s5 τ H5 (λ_ _=>False) I5 (eK Iv) rL go) λr s6 ⟨u,hr,h6⟩=>?_;subst hr;refine aM h6 λ_ s7 ⟨x,H7,I7,r7,y7,qp,Oe⟩=>?_;have Ox:=I7.pinned (eK Oe) (T.obj _ _ qp);refine aM (hg s2 H2 fp G.objs.size _ s7 τ H7 x u _ Ox r7 (step x H7 y7)) λ_ s8 ⟨nF,H8,I8,q8⟩=>?_;refine aM (ht s2 H2 fp G.objs.size _ s8 nF H8 _ I8 q8) λok s9 ⟨H9,I9,q9⟩=>?_
   -- pe eT state behind pe turn
   have back:∀ {s':Shared}{rY:St}{H':Hp},Inv Y ([(s2.heap.objs.size,({ cls:=.type "list", data:=.seq ak.toArray k }:Obj))]++bR fp s7.heap) rY H' s'->(tn (i + 1) s'.heap/\∀ b∈fp,H' b=none):=λ{s' rY H'} Ib=>
    ⟨T.keep _ _ _ qp λb hb o e=>(Ib.pin (b,o) (zC _ (zC _ (xk hb e)))).1,λb hb=>by
     obtain ⟨o,e,d⟩:=T.obj _ _ qp b hb;exact (Ib.pin (b,o) (zC _ (zC _ (xk hb e)))).2.1⟩
   cases ok with
   | false=>
    obtain ⟨m',mT,w'⟩:=q9;obtain ⟨sb,fb⟩:=back I9;exact ⟨m',mT,i + 1,nF,acc,ak,k,H9,I9.bH,sb,fb,qE,w'⟩
   | true=>
    refine aM (he s2 H2 fp G.objs.size _ s9 nF H9 _ I9 q9) λy bP ⟨yv,eW,Me,QK,QL⟩=>?_;obtain ⟨m',mT,w'⟩:=QL;obtain ⟨sb,fb⟩:=back Me;obtain ⟨eD,nD,vV,Nd,_⟩:=Me.pin (s2.heap.objs.size,_) (zC _ (ze _ (zG.mpr rfl)));have hl:acc.length=ak.length:=qE.length;refine call_meets F.slot_list_append ⟨_,eD,rfl⟩ F.entry_list_append (F.args_list_append_2 _ _) (PySem.list_append s2.heap.objs.size ak.toArray k y (by rw [zL];omega)) ⟨eD,?_⟩;have q:=PySem.IsL.update eD (λa:Array Value=>a.push y);have Iu:Inv Y [] nF eW bP:=Me.cz λp hp=>nomatch hp;have It:=Iu.turned (t':=bP.toks) (it:=s2.heap.objs.size) (h':=bP.heap.update s2.heap.objs.size (Obj.mapSeq (λa:Array Value=>a.push y))) (λb o hb e=>(Heap.get?_update_other bP.heap _ (Ne.symm hb)).trans e) nD vV (.inr (zE _))
     (λx c e z=>by
      obtain ⟨v,ob,Jw,_⟩:=I2.cell x c (xi e);exact absurd (Heap.lt_size Jw) (by rw [z];exact zy _)) (λp hp=>nomatch hp)
    have Ow:=It.cz (mq:=[(s2.heap.objs.size,({ cls:=.type "list", data:=.seq (ak++[y]).toArray (k + 1) }:Obj))]) λp hp=>by
     have e:p=_:=zG.mp hp;subst e;exact ⟨by simpa using q,nD,vV,Nd,λv z=>nomatch z⟩
    refine ⟨m',mT,i + 1,nF,acc++[yv],ak++[y],_,eW,Ow,T.keep _ _ _ sb λb hb o e=>(Heap.get?_update_other bP.heap _ (yJ (fl b hb))).trans e,fb,qE.append (.cons QK .nil),w'⟩
 exact codeAny_compStart_list loop (T.self _ 0 s4 _ _ sJ loop)
end
open AutoSeq1 (wpAny_loadPart')
section
variable {prog:Program}{w:World}{A:Around}{E:Value->Shared->Prop}{s:Shared}
theorem Lh {it t:Addr}{i:Nat}{items}{x:Value}{Q:Value->Shared->Prop}(hit:s.heap.IsTupleIter it t i)(ht:s.heap.IsTuple t items)(hx:items[i]?=some x)
  (hQ:∀ h',h'.IsTupleIter it t (i + 1)->Heap.SameBut it s.heap h'->Q x { s with heap:=h' }):wpAny (model prog w) A (Builtin.SmallTypes.nextOf (.ref it)) Q E s:=by
 have ty:=hit.typeIs (s:=s);obtain ⟨o,ho,hc,hd⟩:=hit;obtain ⟨ot,Rv,_,n,RN⟩:=ht;have new:=hQ _ ⟨_,Heap.get?_update_self (Obj.mapFields (·.set! 1 (rawInt (i + 1)))) ho (Obj.isFreed_of_fields (Obj.data_mapFields hd _)),(Obj.cls_mapFields ..).trans hc,by rw [Obj.data_mapFields hd];simp [rawInt]⟩ (Heap.SameBut.update ..);unfold Builtin.SmallTypes.nextOf;refine wpAny_bind (wpAny_callSpecial?_slot ty F.slot_tuple_iterator_next (wpAny_call_entry F.slot_tuple_iterator_next ty F.entry_tuple_iterator_next ?_ (F.args_tuple_iterator_next_1 _)));unfold Builtin.«tuple_iterator.__next__»;wp_walk using wpAny_field ho hd (x:=.ref t) rfl,wpAny_field ho hd (x:=.int i 0) rfl,wpAny_seqItems Rv RN;simp only [zc,hx];wp_walk using wpAny_setField ho hd (by simp);exact ⟨x,rfl,wpAny_pure new⟩
theorem pO {it t:Addr}{i:Nat}{items}{Q:Value->Shared->Prop}(hh:A.handled=none)(hit:s.heap.IsTupleIter it t i)(ht:s.heap.IsTuple t items)(hx:items[i]?=none)
  (hE:∀ h' e,Heap.ExtBut it s.heap h'->(∃ o,h'.get? e=some o/\o.cls=.type "StopIteration")->E (.ref e) { s with heap:=h' }):wpAny (model prog w) A (Builtin.SmallTypes.nextOf (.ref it)) Q E s:=by
 have ty:=hit.typeIs (s:=s);obtain ⟨o,ho,hc,hd⟩:=hit;obtain ⟨ot,Rv,_,n,RN⟩:=ht;have WX:A.in1.handled=none:=hh;unfold Builtin.SmallTypes.nextOf;refine wpAny_bind (wpAny_callSpecial?_slot ty F.slot_tuple_iterator_next (wpAny_call_entry F.slot_tuple_iterator_next ty F.entry_tuple_iterator_next ?_ (F.args_tuple_iterator_next_1 _)));unfold Builtin.«tuple_iterator.__next__»;wp_walk using wpAny_field ho hd (x:=.ref t) rfl,wpAny_field ho hd (x:=.int i 0) rfl,wpAny_seqItems Rv RN;simp only [zc,hx];wp_walk using wpAny_setField ho hd (by simp);simp only [raiseNew];refine wpAny_bind (wpAny_handled ?_);rw [WX];exact wpAny_bind (wpAny_pure (wpAny_throw (hE _ _ (((Heap.SameBut.update ..).extBut.push _).push _) ⟨_,Heap.get?_push_size _ rfl,rfl⟩)))
end
theorem LS {prog:Program}{w:World}{A:Around}(hh:A.handled=none)(it t:Addr)(pS:t≠it)(items:Array Value) :
  Draws prog w A it [it,t] items.size (λi v=>items[i]?=some v) (λi h=>h.IsTupleIter it t i/\h.IsTuple t items) where
 live:=λ_ _ st=>let ⟨⟨o,ho,_⟩,_⟩:=st;⟨o,ho⟩
 frame:=λ_ _ _ st hk=>let ⟨⟨o,ho,r⟩,o',qU,r'⟩:=st;⟨⟨o,hk it (by simp) o ho,r⟩,o',hk t (by simp) o' qU,r'⟩
 item:=λi s Q E hi st hQ=>Lh st.1 st.2 (Array.getElem?_eq_getElem hi) λh' a b=>hQ _ h' s.toks (Array.getElem?_eq_getElem hi) ⟨a,st.2.extBut b.extBut pS⟩ b
 done:=λs Q E st hE=>pO hh st.1 st.2 (Array.getElem?_eq_none (zE _)) hE
theorem LU {prog:Program}{w:World}{A:Around}(hh:A.handled=none)(it t:Addr)(items:Array Value) :
  Draws prog w A it [it,t] 0 (λ_ _=>False) (λ_ h=>∃ j,h.IsTupleIter it t j/\h.IsTuple t items/\items[j]?=none) where
 live:=λ_ _ st=>let ⟨_,⟨o,ho,_⟩,_⟩:=st;⟨o,ho⟩
 frame:=λ_ _ _ st hk=>let ⟨j,⟨o,ho,r⟩,⟨o',qU,r'⟩,z⟩:=st;⟨j,⟨o,hk it (by simp) o ho,r⟩,⟨o',hk t (by simp) o' qU,r'⟩,z⟩
 item:=λi s Q E hi _ _=>absurd hi (zU _)
 done:=λs Q E st hE=>let ⟨_,a,b,c⟩:=st;pO hh a b c hE
section
variable {prog:Program}{w:World}{A:Around}{E:Value->Shared->Prop}{s:Shared}
theorem rj (l:Addr)(items:Array Value)(o:Obj) :
  Meets (Builtin.«enumerate.__new__» ⟨[.type "enumerate", .ref l],[]⟩) (λ_ R s=>(s.heap.get? l=some o/\s.heap.IsTuple l items) /\
   R (.ok (.ret (.ref (s.heap.push { cls:=.type "tuple_iterator", data:=.fields #[.ref l,.int 0 0] }).objs.size)))
    { s with heap:=(s.heap.push { cls:=.type "tuple_iterator", data:=.fields #[.ref l,.int 0 0] }).push { cls:=.type "enumerate", data:=.fields #[.none,.bool false,.ref s.heap.objs.size,rawInt 0,.none,.none] } }):=
 .of_wp λprog w A R s ⟨⟨hl,hL⟩,h⟩=>by
  obtain ⟨hp,g,d,tk,os⟩:=s;have WG:=sub_enumerate;wp_walk using wpAny_loadPart' hl;refine wpAny_stack_any λst=>wpAny_pure ?_;split
  ·rename_i c _ _ _ _ _;cases (c == Value.type "enumerate") <;> (wp_walk using wpAny_loadPart' hl,wpAny_pyIter_tuple hL) <;> exact ⟨_,rfl,h⟩
  ·wp_walk using wpAny_loadPart' hl,wpAny_pyIter_tuple hL;exact ⟨_,rfl,h⟩
theorem oY {l:Addr}{items:Array Value}{Q:Value->Shared->Prop}(hL:s.heap.IsTuple l items)
  (h:∀ h',IsEnum h' (s.heap.objs.size + 1) s.heap.objs.size 0 .none->h'.IsTupleIter s.heap.objs.size l 0 ->
   (∀ b o,s.heap.get? b=some o->h'.get? b=some o)->Q (.ref (s.heap.objs.size + 1)) { s with heap:=h' }) :
  wpAny (model prog w) A (call (.type "enumerate") [.ref l]) Q E s:=by
 obtain ⟨o,hl,_⟩:=id hL;refine callType_new F.called_enumerate (by decide) (F.typeCall_enumerate_1 _) (F.newCall_enumerate_1 _) (λobj=>F.args_object_init_2 obj _) F.entry_enumerate_new (rj l items o) ⟨⟨hl,hL⟩,?_⟩;generalize hG:s.heap.push { cls:=.type "tuple_iterator", data:=.fields #[.ref l,.int 0 0] }=G;have hz:G.objs.size=s.heap.objs.size + 1:=by rw [<-hG,Heap.size_push]
 have hi:G.get? s.heap.objs.size=some { cls:=.type "tuple_iterator", data:=.fields #[.ref l,.int 0 0] }:=by rw [<-hG];exact Heap.get?_push_size _ rfl
 have he:=Heap.get?_push_size G (o:={ cls:=.type "enumerate", data:=.fields #[.none,.bool false,.ref s.heap.objs.size,rawInt 0,.none,.none] }) rfl;rw [hz] at he;show _/\_;rw [hz];exact ⟨⟨_,he,rfl⟩,h _ he ⟨_,Heap.get?_push_of_some _ hi,rfl,rfl⟩ λb o x=>Heap.get?_push_of_some _ (by rw [<-hG];exact Heap.get?_push_of_some _ x)⟩
end
def vN (K:PySem.W.Frag)(a:Addr):It:=
 ⟨λi H=>∃ xs x,bC K H a xs/\xs[i]?=some x,λi H y H'=>∃ p x,H p=none/\y=.ref p/\H'=upd H p (.tup [.int i,x])/\∀ xs,bC K H a xs->xs[i]?=some x,λi H=>∃ xs,bC K H a xs/\xs.length<=i⟩
theorem nU {P:Program}{w:World}{K:PySem.W.Frag}{es:List Expr}{k:Nat}{pos:Pos}(a e it:Addr)(pS:e≠it) :
  Turn P w K (.Tuple es k pos) (vN K a) [e,it] e (λi h=>(∃ old,IsEnum h e it i old)/\h.IsTupleIter it a i) where
 mem:=by simp
 obj:=λi h st b hb=>by
  obtain ⟨⟨old,he⟩,o,hi,c,d⟩:=st;rcases zO.mp hb with z | z
  ·subst z;exact ⟨_,he,λv q=>nomatch q⟩
  ·have z':b=it:=by simpa using z
   subst z';exact ⟨o,hi,λv q=>by rw [d] at q;cases q⟩
 keep:=λi h h' st q=>by
  obtain ⟨⟨old,he⟩,o,hi,r⟩:=st;exact ⟨⟨old,q e (by simp) _ he⟩,o,q it (by simp) o hi,r⟩
 item:=by
  intro X hP hw hK hc i aa s σ H E I hf st hg;subst hP hw hK;obtain ⟨xs,x,hq,hx⟩:=hg;obtain ⟨ak,rv,p,hz⟩:=I.tuple hq;obtain ⟨u,hu,ru⟩:=rv.get hx;obtain ⟨⟨old,he⟩,hi⟩:=st;obtain ⟨e0,e1,e2,e3,e4,e5⟩:=hf e (by simp);obtain ⟨f0,f1,f2,f3,f4,f5⟩:=hf it (by simp);have el:e < s.heap.objs.size:=Heap.lt_size he;have il:it < s.heap.objs.size:=let ⟨_,z,_⟩:=hi;Heap.lt_size z;have ht:s.heap.IsTuple a ak.toArray:=p;have Y8:a < s.heap.objs.size:=let ⟨_,z,_⟩:=ht;Heap.lt_size z;have Uz:a≠it:=λz=>by
   obtain ⟨o1,z1,c1,_⟩:=ht;obtain ⟨o2,z2,c2,_⟩:=hi;rw [z,z2] at z1;cases z1;rw [c2] at c1;exact absurd (Value.type.inj c1) (by decide)
  have Xd:e ∉ [it,a]:=λz=>by
   rcases zO.mp z with z | z
   ·exact pS z
   ·have z':e=a:=by simpa using z
    obtain ⟨o1,z1,c1,_⟩:=ht;rw [<-z',he] at z1;cases z1;exact absurd (Value.type.inj c1) (by decide)
  refine wpAny_pyNext_enum_itemD (LS (A:=X.A.in1) (I.ok.hd hc) it a Uz ak.toArray) he ⟨hi,ht⟩ (by simpa using (zI.mp hu).1) pS Xd λu1 h1 tk WC ho Rp hT O1 hk=>?_;have eu:u=u1:=by
   have q:ak.toArray[i]?=some u:=by simpa using hu
   have NK:ak.toArray[i]?=some u1:=WC;rw [q] at NK;exact Option.some.inj NK
  subst eu;have lI:=Rp.1;refine ⟨_,rfl,?_⟩;refine wpAny_letOwnedTupleGo_enum ho λh2 RM lH=>?_;have gi:Heap.SameBut e h1 h2:=lH;have bX:∀ b o,b≠e->b≠it->s.heap.get? b=some o->h2.get? b=some o:=λb o hb gj q=>gi.extBut b o hb (hk b o hb gj q);have Kd:h2.get? s.heap.objs.size=some { cls:=.type "tuple", data:=.seq #[.int i tk,u] }:=gi.extBut _ _ (yJ el) hT;have nT:H s.heap.objs.size=none:=I.aU.fresh (zE _);refine ⟨.ref s.heap.objs.size,upd H s.heap.objs.size (.tup [.int i,x]),?_,rfl,⟨_,x,nT,rfl,rfl,λys hy=>by rw [I.jI hy hq];exact hx⟩,⟨⟨u,by simpa using RM⟩,?_⟩,λb hb=>?_⟩
  ·have kD:∀ b,b ∉ [e,it]->b≠e/\b≠it:=λb hb=>⟨λz=>hb (by simp [z]),λz=>hb (by simp [z])⟩;refine Inv.step (s:=s) (h':=h2) (g':=s.gens) (d':=s.drawn) (t':=tk + 1) (ch:=[e,it]) I (λb hb=>?_) (λb o _ _ hb q _=>bX b o (kD b hb).1 (kD b hb).2 q) (λb o _ _ hb q _=>⟨o.slots,bX b o (kD b hb).1 (kD b hb).2 q⟩)
    (λb o _ q n=>by rw [xC (zT (Heap.lt_size q))];exact n) (λb o hb q=>⟨o,bX b o (kD b hb).1 (kD b hb).2 q⟩)
    (λb ys q=>by rw [xC (xA q nT)];exact q) (λb o v q=>by rw [xC (xA q nT)];exact q) (λb ps q=>⟨#[],by rw [xC (xA q nT),q];simp⟩)
    (λm hm=>by
     obtain ⟨o,ia,ep,q,r⟩:=hm;exact ⟨o,ia,ep,bX _ o (Ne.symm e1) (Ne.symm f1) q,r⟩) (λb v q=>?_) I.bare
   ·rcases zO.mp hb with z | z
    ·subst z;exact ⟨e3,e1,e4,e5⟩
    ·have z':b=it:=by simpa using z
     subst z';exact ⟨f3,f1,f4,f5⟩
   ·by_cases hb:b=s.heap.objs.size
    ·subst hb;rw [yq] at q;cases q;exact ⟨⟨by show 2<=sizeLine;rw [sizeLine_eq];decide,λob e=>by rw [Kd] at e;cases e;rfl⟩,[.int i tk,u],.cons ⟨_,rfl⟩ (.cons ru .nil),⟨_,Kd,rfl,_,rfl⟩⟩
    ·rw [xC hb] at q;refine (I.aU b v q).fD (λc ob hc qc=>bX c ob ?_ ?_ qc) (λc qc=>by rw [xC (xA qc nT)];exact qc) λc ys qc=>by rw [xC (xA qc nT)];exact qc
     ·rcases hc with z | z
      ·subst z;exact xA q e0
      ·exact xA z e0
     ·rcases hc with z | z
      ·subst z;exact xA q f0
      ·exact xA z f0
  ·obtain ⟨o,q,r⟩:=lI;exact ⟨o,gi.extBut it o (Ne.symm pS) q,r⟩
  ·rcases zO.mp hb with z | z
   ·subst z;rw [xC (zT el)];exact e0
   ·have z':b=it:=by simpa using z
    subst z';rw [xC (zT il)];exact f0
 done:=by
  intro X hP hw hK hc i aa s σ H E I hf st hg;subst hP hw hK;obtain ⟨xs,hq,hx⟩:=hg;obtain ⟨ak,rv,p,hz⟩:=I.tuple hq;obtain ⟨⟨old,he⟩,hi⟩:=st;obtain ⟨f0,f1,f2,f3,f4,f5⟩:=hf it (by simp);have hl:=rv.length;have ht:s.heap.IsTuple a ak.toArray:=p;have Uz:a≠it:=λz=>by
   obtain ⟨o1,z1,c1,_⟩:=ht;obtain ⟨o2,z2,c2,_⟩:=hi;rw [z,z2] at z1;cases z1;rw [c2] at c1;exact absurd (Value.type.inj c1) (by decide)
  exact wpAny_pyNext_enum_endD (LU (A:=X.A.in1) (I.ok.hd hc) it a ak.toArray) he ⟨i,hi,ht,by simp;omega⟩ λh' eb=>⟨rfl,I.turned (t':=s.toks) (λb o hb e=>eb b o hb e) f0 f1 f3 f4 f5⟩
 self:=λ_ _ _ _ _ st h=>let ⟨⟨_,he⟩,_⟩:=st;wpAny_pyIter_enum he h
def Lu (K:PySem.W.Frag)(ta:TA):TI:=fun σ H R=>ta σ H λvs H1=>∃ a,vs=[.ref a]/\(∃ xs,bC K H1 a xs)/\R (vN K a) H1
theorem mz {X:Cx}{a:Expr}{ta:TA}{p pos dI:Pos}{es:List Expr}{k:Nat}{K:PySem.W.Frag}(hK:X.K=K)(hg:Gl X "enumerate")(hm:X.mg "enumerate" = none)(ha:PA X [a] ta)(hs:starEach [a] X.env=[(false,eval a X.env)]:=by rfl) :
  PI X (.Tuple es k dI) (.Call (.Name "enumerate" p) [a] [] pos) (Lu K ta):=by
 subst hK;intro aa s σ H R I h;refine Call_ (bJ I hg hm boot_enumerate (zb (aM (ha pos aa s σ H _ I h) λus s1 ⟨vs,H1,I1,r1,q1⟩=>?_) hs rfl));obtain ⟨l,e,⟨xs,hq⟩,q⟩:=q1;subst e;cases r1 with
 | cons r rr=>
  cases rr;cases r;obtain ⟨ak,rv,p,hz⟩:=I1.tuple hq;refine oY (show s1.heap.IsTuple l ak.toArray from p) λh' he hi hk=>?_;refine wpAny_pyIter_enum he ?_;have I2:Inv X aa σ H1 { s1 with heap:=h' }:=I1.kept (t':=s1.toks) hk;refine ⟨s1.heap.objs.size + 1,[s1.heap.objs.size + 1,s1.heap.objs.size],_,_,H1,rfl,I2,nU l _ _ (Nat.succ_ne_self _),⟨⟨_,he⟩,hi⟩,λb hb=>?_,q⟩;have gj:s1.heap.objs.size<=b:=by
   rcases zO.mp hb with z | z
   ·subst z;exact yT _
   ·have z':b=s1.heap.objs.size:=by simpa using z
    subst z';exact zE _
  exact I1.mX gj (I1.aU.fresh gj)
def lF (K:PySem.W.Frag)(a:Addr):It:=
 ⟨λi H=>∃ xs x,av K H a xs/\xs[i]?=some x,λi H y H'=>∃ p x,H p=none/\y=.ref p/\H'=upd H p (.tup [.int i,x])/\∀ xs,av K H a xs->xs[i]?=some x,λi H=>∃ xs,av K H a xs/\xs.length<=i⟩
theorem nV {P:Program}{w:World}{K:PySem.W.Frag}{es:List Expr}{k:Nat}{pos:Pos}(a e it:Addr)(pS:e≠it) :
  Turn P w K (.Tuple es k pos) (lF K a) [e,it] e (λi h=>(∃ old,IsEnum h e it i old)/\h.IsListIter it a i) where
 mem:=by simp
 obj:=λi h st b hb=>by
  obtain ⟨⟨old,he⟩,o,hi,c,d⟩:=st;rcases zO.mp hb with z | z
  ·subst z;exact ⟨_,he,λv q=>nomatch q⟩
  ·have z':b=it:=by simpa using z
   subst z';exact ⟨o,hi,λv q=>by rw [d] at q;cases q⟩
 keep:=λi h h' st q=>by
  obtain ⟨⟨old,he⟩,o,hi,r⟩:=st;exact ⟨⟨old,q e (by simp) _ he⟩,o,q it (by simp) o hi,r⟩
 item:=by
  intro X hP hw hK hc i aa s σ H E I hf st hg;subst hP hw hK;obtain ⟨xs,x,hq,hx⟩:=hg;obtain ⟨ak,rv,p,hz⟩:=I.list hq;obtain ⟨u,hu,ru⟩:=rv.get hx;obtain ⟨⟨old,he⟩,hi⟩:=st;obtain ⟨e0,e1,e2,e3,e4,e5⟩:=hf e (by simp);obtain ⟨f0,f1,f2,f3,f4,f5⟩:=hf it (by simp);have el:e < s.heap.objs.size:=Heap.lt_size he;have il:it < s.heap.objs.size:=let ⟨_,z,_⟩:=hi;Heap.lt_size z;refine wpAny_pyNext_enum_item he hi p.isList (x:=u) (by simpa using hu) pS λh1 ho lI hT O1 hk=>?_;obtain ⟨tk,O0⟩:∃ tk,tk=s.toks:=⟨_,rfl⟩;rw [<-O0] at hT ⊢;refine ⟨_,rfl,?_⟩;refine wpAny_letOwnedTupleGo_enum ho λh2 RM lH=>?_;have gi:Heap.SameBut e h1 h2:=lH;have bX:∀ b o,b≠e->b≠it->s.heap.get? b=some o->h2.get? b=some o:=λb o hb gj q=>gi.extBut b o hb (hk b o hb gj q);have Kd:h2.get? s.heap.objs.size=some { cls:=.type "tuple", data:=.seq #[.int i tk,u] }:=gi.extBut _ _ (yJ el) hT;have nT:H s.heap.objs.size=none:=I.aU.fresh (zE _);refine ⟨.ref s.heap.objs.size,upd H s.heap.objs.size (.tup [.int i,x]),?_,rfl,⟨_,x,nT,rfl,rfl,λys hy=>by rw [I.fN hy hq];exact hx⟩,⟨⟨u,by simpa using RM⟩,?_⟩,λb hb=>?_⟩
  ·have kD:∀ b,b ∉ [e,it]->b≠e/\b≠it:=λb hb=>⟨λz=>hb (by simp [z]),λz=>hb (by simp [z])⟩;refine Inv.step (s:=s) (h':=h2) (g':=s.gens) (d':=s.drawn) (t':=tk + 1) (ch:=[e,it]) I (λb hb=>?_) (λb o _ _ hb q _=>bX b o (kD b hb).1 (kD b hb).2 q) (λb o _ _ hb q _=>⟨o.slots,bX b o (kD b hb).1 (kD b hb).2 q⟩)
    (λb o _ q n=>by rw [xC (zT (Heap.lt_size q))];exact n) (λb o hb q=>⟨o,bX b o (kD b hb).1 (kD b hb).2 q⟩)
    (λb ys q=>by rw [xC (xA q nT)];exact q) (λb o v q=>by rw [xC (xA q nT)];exact q) (λb ps q=>⟨#[],by rw [xC (xA q nT),q];simp⟩)
    (λm hm=>by
     obtain ⟨o,ia,ep,q,r⟩:=hm;exact ⟨o,ia,ep,bX _ o (Ne.symm e1) (Ne.symm f1) q,r⟩) (λb v q=>?_) I.bare
   ·rcases zO.mp hb with z | z
    ·subst z;exact ⟨e3,e1,e4,e5⟩
    ·have z':b=it:=by simpa using z
     subst z';exact ⟨f3,f1,f4,f5⟩
   ·by_cases hb:b=s.heap.objs.size
    ·subst hb;rw [yq] at q;cases q;exact ⟨⟨by show 2<=sizeLine;rw [sizeLine_eq];decide,λob e=>by rw [Kd] at e;cases e;rfl⟩,[.int i tk,u],.cons ⟨_,rfl⟩ (.cons ru .nil),⟨_,Kd,rfl,_,rfl⟩⟩
    ·rw [xC hb] at q;refine (I.aU b v q).fD (λc ob hc qc=>bX c ob ?_ ?_ qc) (λc qc=>by rw [xC (xA qc nT)];exact qc) λc ys qc=>by rw [xC (xA qc nT)];exact qc
     ·rcases hc with z | z
      ·subst z;exact xA q e0
      ·exact xA z e0
     ·rcases hc with z | z
      ·subst z;exact xA q f0
      ·exact xA z f0
  ·obtain ⟨o,q,r⟩:=lI;exact ⟨o,gi.extBut it o (Ne.symm pS) q,r⟩
  ·rcases zO.mp hb with z | z
   ·subst z;rw [xC (zT el)];exact e0
   ·have z':b=it:=by simpa using z
    subst z';rw [xC (zT il)];exact f0
 done:=by
  intro X hP hw hK hc i aa s σ H E I hf st hg;subst hP hw hK;obtain ⟨xs,hq,hx⟩:=hg;obtain ⟨ak,rv,p,hz⟩:=I.list hq;obtain ⟨⟨old,he⟩,hi⟩:=st;obtain ⟨f0,f1,f2,f3,f4,f5⟩:=hf it (by simp);have hl:=rv.length;exact wpAny_pyNext_enum_end (I.ok.hd hc) he hi p.isList (by simp;omega) λh' eb=>⟨rfl,I.turned (t':=s.toks) (λb o hb e=>eb b o hb e) f0 f1 f3 f4 f5⟩
 self:=λ_ _ _ _ _ st h=>let ⟨⟨_,he⟩,_⟩:=st;wpAny_pyIter_enum he h
def Lv (K:PySem.W.Frag)(ta:TA):TI:=fun σ H R=>ta σ H λvs H1=>∃ a,vs=[.ref a]/\(∃ xs,av K H1 a xs)/\R (lF K a) H1
theorem fK {X:Cx}{a:Expr}{ta:TA}{p pos dI:Pos}{es:List Expr}{k:Nat}{K:PySem.W.Frag}(hK:X.K=K)(hg:Gl X "enumerate")(hm:X.mg "enumerate" = none)(ha:PA X [a] ta)(hs:starEach [a] X.env=[(false,eval a X.env)]:=by rfl) :
  PI X (.Tuple es k dI) (.Call (.Name "enumerate" p) [a] [] pos) (Lv K ta):=by
 subst hK;intro aa s σ H R I h;refine Call_ (bJ I hg hm boot_enumerate (zb (aM (ha pos aa s σ H _ I h) λus s1 ⟨vs,H1,I1,r1,q1⟩=>?_) hs rfl));obtain ⟨l,e,⟨xs,hq⟩,q⟩:=q1;subst e;cases r1 with
 | cons r rr=>
  cases rr;cases r;obtain ⟨ak,rv,p,hz⟩:=I1.list hq;refine call_enumerate_list p.isList λh' he hi O1 hk=>?_;refine wpAny_pyIter_enum he ?_;have I2:Inv X aa σ H1 { s1 with heap:=h' }:=I1.kept (t':=s1.toks) hk;refine ⟨s1.heap.objs.size + 1,[s1.heap.objs.size + 1,s1.heap.objs.size],_,_,H1,rfl,I2,nV l _ _ (Nat.succ_ne_self _),⟨⟨_,he⟩,hi⟩,λb hb=>?_,q⟩;have gj:s1.heap.objs.size<=b:=by
   rcases zO.mp hb with z | z
   ·subst z;exact yT _
   ·have z':b=s1.heap.objs.size:=by simpa using z
    subst z';exact zE _
  exact I1.mX gj (I1.aU.fresh gj)
def ig (H:Hp):V->Option String
 | .bu=>some "NoneType"
 | .bl _=>some "bool"
 | .int _=>some "int"
 | .str _=>some "str"
 | .ref a=>match H a with
  | some (.lst _)=>some "list"
  | some (.mW _ (.lst _))=>some "list"
  | some (.tup _)=>some "tuple"
  | some (.dK _)=>some "dict"
  | _=>none
 | _=>none
theorem KD {K:PySem.W.Frag}{H:Hp}{x:V}{t:String}(h:ig H x=some t):gv K H x (.type t):=by
 cases x with
 | bu=>cases h;exact .bu
 | bl b=>cases h;exact .bl b
 | int i=>cases h;exact .int i
 | str x=>cases h;exact .str x
 | ref a=>
  unfold ig at h;dsimp only at h;split at h
  ·rename_i e;cases h;exact .lst e
  ·rename_i e;cases h;exact .mW e
  ·rename_i e;cases h;exact .tup e
  ·rename_i e;cases h;exact .dK e
  ·cases h
 | _=>cases h
theorem fu {H:Hp}{x:V}{t:String}(h:ig H x=some t):t = "NoneType" \/ t = "bool" \/ t = "int" \/ t = "str" \/ t = "list" \/ t = "tuple" \/ t = "dict" := by
 cases x with
 | ref a=>
  unfold ig at h;dsimp only at h;split at h <;> cases h <;> simp
 | _=>cases h <;> simp
def mP (t T:String):Bool:=t == T || (t == "bool" && T == "int")
theorem Lm {K:PySem.W.Frag}{t T:String}(h:t = "NoneType" \/ t = "bool" \/ t = "int" \/ t = "str" \/ t = "list" \/ t = "tuple" \/ t = "dict")(hT:T = "int" \/ T = "bool" \/ T = "list" \/ T = "tuple"):PySem.W.kitOne K (.type t) (.type T)=some (mP t T):=by rcases h with rfl | rfl | rfl | rfl | rfl | rfl | rfl <;> rcases hT with rfl | rfl | rfl | rfl <;> first | rfl | decide +kernel
section
variable {X:Cx}
theorem xu:cH X (.builtin "isinstance") (λxs H Q=>∃ x t T,xs=[x,.ty T]/\ig H x=some t/\(T = "int" \/ T = "bool" \/ T = "list" \/ T = "tuple")/\Q (.bl (mP t T)) H):=by intro aa s σ H xs us Q I r h;obtain ⟨x,t,T,rfl,ht,hT,q⟩:=h;obtain ⟨u,w',rfl,r1,r2⟩:=vals2 r;cases r2;exact qR I r1 (KD ht) (Lm (fu ht) hT) λtk=>⟨.bl _,H,I.tok tk,rfl,q⟩
theorem wT:ff X (binaryOp .FloorDiv) (rI (λ_ j=>0 < j/\j < 2 ^ 200) λi j=>.int (i / j)):=Mm λi j _ _ _ _ _ hc q=>by
 have e:i.fdiv j=i / j:=Int.fdiv_eq_ediv_of_nonneg _ (by omega);rw [<-e] at q;refine floordiv_int (by omega) q (.inl (PyProof.noPylong_of_log2 ?_));have h0:j.natAbs≠0:=by omega
 have h1:j.natAbs < 2 ^ 200:=by omega
 have:=(Nat.log2_lt h0).mpr h1;omega
theorem tW (hu:X.A.units + 64 < cLine):ff X (compareOp .NotEq) (λx y H Q=>∃ a b xs,x=.ref a/\y=.ref b/\av X.K H a xs/\av X.K H b []/\Q (.bl (!xs.isEmpty)) H):=by
 intro aa s σ H x y v u Q I rx ry h;obtain ⟨a,b,xs,rfl,rfl,ha,hb,q⟩:=h;cases rx;cases ry;obtain ⟨ak,r,p,_⟩:=I.list ha;obtain ⟨dw,r2,p2,_⟩:=I.list hb;cases r2;cases r with
 | nil=>exact SeqAt.RcNeAt.lists (e:=λ_=>true) p.isList p2.isList rfl (by omega) (λj h1=>absurd h1 (zU _)) _ _ _ _ ⟨.bl _,H,I,rfl,q⟩
 | cons r1 rr=>exact SeqAt.RcNeAt.lists_lengths p.isList p2.isList (by simp) (by omega) _ _ _ _ ⟨.bl _,H,I,rfl,q⟩
theorem qN (hu:X.A.units + 64 < cLine):ff X (compareOp .Eq) (λx y H Q=>∃ a b xs,x=.ref a/\y=.ref b/\bC X.K H a xs/\bC X.K H b []/\Q (.bl xs.isEmpty) H):=by
 intro aa s σ H x y v u Q I rx ry h;obtain ⟨a,b,xs,rfl,rfl,ha,hb,q⟩:=h;cases rx;cases ry;obtain ⟨ak,r,p,_⟩:=I.tuple ha;obtain ⟨dw,r2,p2,_⟩:=I.tuple hb;cases r2;have q':Q (.bl ((List.range (min ak.toArray.size ([]:List Value).toArray.size)).all (λ_=>true) && ak.toArray.size == ([]:List Value).toArray.size)) H:=by
  cases r with
  | nil=>simpa using q
  | cons r1 rr=>simpa using q
 exact SeqAt.RcAt.tuples (e:=λ_=>true) p p2 (by omega) (λj h1 h2=>absurd h2 (zU _)) _ _ _ _ ⟨.bl _,H,I,rfl,q'⟩
variable {K:PySem.W.Frag}
theorem xp {es:List Expr}{k:Nat}{t:Kq}{n:Nat}{pos:Pos}(hK:X.K=K)(hc:X.calm=true)(h:Oo X es t)
  (hn:(assignEach es X.env).length=n:=by rfl) (uO:(assignEach es X.env).findIdx? (·.1)=none:=by rfl):PG X (.Tuple es k pos) (LP K n t):=by subst hK;exact Lc hc h hn uO
theorem xa {tg l:Expr}{tl:TE}(hK:X.K=K)(hl:PE X l tl):PI X tg l (J5 K tl):=by subst hK;exact Jf hl
theorem mw {tg l:Expr}{tl:TE}(hK:X.K=K)(hl:PE X l tl):PI X tg l (Nz K tl):=by subst hK;exact Lb hl
theorem xE (hK:X.K=K):Ov X (K8 K):=by subst hK;exact Js
theorem xX (hK:X.K=K):Ov X (K7 K):=by subst hK;exact Lr
theorem wF (hK:X.K=K):SA X (M6 K):=by subst hK;exact IU
theorem iS (hK:X.K=K):ff X (compareOp .In) (Tt K false):=by subst hK;exact qM
theorem xD (hK:X.K=K):cH X (.builtin "len") (λxs H Q=>∃ p ys,xs=[.ref p]/\(av K H p ys\/bC K H p ys)/\Q (.int ys.length) H):=by subst hK;exact kZ
theorem bN (hK:X.K=K):cH X (.type "list") (λxs H Q=>∃ p ys,xs=[.ref p]/\(av K H p ys\/bC K H p ys)/\∀ l,H l=none->Q (.ref l) (upd H l (.lst ys))):=by subst hK;exact kY
end
theorem vd {X:Cx}{K:PySem.W.Frag}(hK:X.K=K):Oq X (λo i H Q=>∃ p xs v,∃ k:Nat,o=.ref p/\i=.int k/\av K H p xs/\xs[k]?=some v/\Q v H):=by subst hK;intro aa s σ H o i ov iv Q I ro ri h;obtain ⟨p,xs,v,k,rfl,rfl,hq,hv,q⟩:=h;cases ro;obtain ⟨t,rfl⟩:=ri;obtain ⟨ak,r,pl,hz⟩:=I.list hq;obtain ⟨w,ew,K4⟩:=r.get hv;have hk:k < xs.length:=(zI.mp hv).1;have hn:=iZ;exact wpAny_getItem_list pl.isList (by omega) (by omega) (by simpa using ew) ⟨v,H,I,K4,q⟩
end L2
namespace aZ
open PySem PySem.W PyProof.Rows
def dF {α:Type}(n:Nat)(c:Nat->Nat->Bool):KasT α->(α->Prop)->Prop
 | .ret a,P=>P a
 | .ask i j k,P=>i < n/\j < n/\dF n c (k (c i j)) P
theorem dF.bind {α β:Type}{n:Nat}{c:Nat->Nat->Bool}{f:α->KasT β}{P:β->Prop}:∀ (t:KasT α),dF n c t (λa=>dF n c (f a) P)->dF n c (t.bind f) P
 | .ret a,h=>h
 | .ask i j k,h=>⟨h.1,h.2.1,dF.bind (k (c i j)) h.2.2⟩
theorem dF.mono {α:Type}{n:Nat}{c:Nat->Nat->Bool}{P P':α->Prop}(hp:∀ a,P a->P' a):∀ (t:KasT α),dF n c t P->dF n c t P'
 | .ret a,h=>hp a h
 | .ask i j k,h=>⟨h.1,h.2.1,dF.mono hp (k (c i j)) h.2.2⟩
theorem dF.wp {α:Type}{n:Nat}{c:Nat->Nat->Bool}{P:α->Prop}{Q:α->Shared->Prop}{cmp:Nat->Nat->(Bool->Shared->Prop)->Shared->Prop}{s:Shared}
  (hc:∀ i j C,i < n->j < n->C (c i j) s->cmp i j C s) (hq:∀ a,P a->Q a s):∀ (t:KasT α),dF n c t P->t.kasWp cmp Q s
 | .ret a,h=>hq a h
 | .ask i j k,h=>hc i j _ h.1 h.2.1 (dF.wp hc hq (k (c i j)) h.2.2)
section
variable {n:Nat}{f:Nat->Int}
def at' (p:Array Nat)(i:Nat):Nat:=(p[i]?).getD 0
theorem getD_at (p:Array Nat)(i:Nat):p.getD i 0=at' p i:=by unfold at';simp
def g (f:Nat->Int)(p:Array Nat)(i:Nat):Int:=f (at' p i)
def Pm (n:Nat)(p:Array Nat):Prop:=p.Perm (List.toArray (List.range n))
theorem Pm.size {p:Array Nat}(h:Pm n p):p.size=n:=by rw [Array.Perm.size_eq h];simp
theorem Pm.lt {p:Array Nat}(h:Pm n p){i:Nat}(hi:i < n):at' p i < n:=by
 have hs:=h.size;have e:at' p i=p[i]'(by omega):=by unfold at';simp [hs,hi]
 have hm:p[i]'(by omega)∈p:=Array.getElem_mem _;have mT:=(Array.Perm.mem_iff h).mp hm;rw [e];simpa using mT
theorem Pm.rev {p:Array Nat}(h:Pm n p)(i j:Nat):Pm n (kas_rev p i j):=(mirror_perm p i j _).trans h
theorem Pm.XW {p:Array Nat}(h:Pm n p)(k d:Nat):Pm n (bubble p k d):=(bubble_perm p k d).trans h
theorem pW {p:Array Nat}{i j:Nat}(hj:j<=p.size)(k:Nat):g f (kas_rev p i j) k=if i<=k/\k < j then g f p (i + j - 1 - k) else g f p k:=by unfold g at' kas_rev;rw [getElem?_mirror_all hj k];split <;> rfl
theorem Ke {p:Array Nat}{src d:Nat}(hs:src < p.size)(hd:d<=src)(k:Nat):g f (bubble p src d) k=if k=src - d then g f p src else if src - d < k/\k<=src then g f p (k - 1) else g f p k:=by
 unfold g at';rw [getElem?_bubble hs d hd k];split
 ·rfl
 ·split <;> rfl
def Up (f:Nat->Int)(p:Array Nat)(k:Nat):Prop:=∀ i j,i<=j->j < k->g f p i<=g f p j
def Dn (f:Nat->Int)(p:Array Nat)(k:Nat):Prop:=∀ i j,i<=j->j < k->g f p j<=g f p i
def cf (f:Nat->Int)(i j:Nat):Bool:=decide (f i < f j)
theorem o6 {p:Array Nat}(hp:Pm n p):∀ (q m:Nat),1<=m->m + q<=n->Up f p m->dF n (cf f) (kas_asc p q m) (λm'=>m<=m'/\m'<=m + q/\Up f p m'/\(m' < m + q->g f p m' < g f p (m' - 1)))
 | 0,m,_,_,hu=>⟨zE _,zE _,hu,λh=>absurd h (zy _)⟩
 | q + 1,m,h1,h2,hu=>by
  unfold kas_asc;refine ⟨by rw [getD_at];exact hp.lt (by omega),by rw [getD_at];exact hp.lt (by omega),?_⟩;rw [getD_at,getD_at];by_cases hc:g f p m < g f p (m - 1)
  ·have e:cf f (at' p m) (at' p (m - 1))=true:=decide_eq_true hc;rw [e];dsimp only;rw [if_pos rfl];exact ⟨zE _,by omega,hu,λ_=>hc⟩
  ·have e:cf f (at' p m) (at' p (m - 1))=false:=decide_eq_false hc;rw [e];dsimp only;rw [if_neg zN];refine dF.mono (λm' h=>⟨by omega,by omega,h.2.2.1,λz=>h.2.2.2 (by omega)⟩) _ (o6 hp q (m + 1) (by omega) (by omega) λi j oG hj=>?_);by_cases LC:j < m
   ·exact hu i j oG LC
   ·have ej:j=m:=by omega
    subst ej;by_cases hi:i=j
    ·subst hi;omega
    ·have:=hu i (j - 1) (by omega) (by omega);omega
def Pr (f:Nat->Int)(p:Array Nat)(m q:Nat):Prop:=∀ i,m<=i + (q + 1)->i < m->g f p i=g f p (m - 1)
theorem iN {p:Array Nat}(hp:Pm n p){m q:Nat}(hm:m<=n)(hq:q + 1<=m)(hb:Pr f p m q)(k:Nat):g f (kas_rev p (m - (q + 1)) m) k=g f p k:=by
 rw [pW (by rw [hp.size];exact hm)];split
 ·rename_i h;rw [hb _ (by omega) (by omega),hb k (by omega) (by omega)]
 ·rfl
theorem kW:∀ (t:Nat) (p:Array Nat) (m q:Nat),Pm n p->1<=m->m + t<=n->q + 1<=m->Dn f p m->Pr f p m q ->
  dF n (cf f) (kas_desc t p m q) (λr=>Pm n r.1/\m<=r.2.1/\r.2.1<=n/\r.2.2 + 1<=r.2.1/\Dn f r.1 r.2.1/\Pr f r.1 r.2.1 r.2.2)
 | 0,p,m,q,hp,h1,h2,h3,hd,hb=>⟨hp,zE _,by simpa using h2,h3,hd,hb⟩
 | t + 1,p,m,q,hp,h1,h2,h3,hd,hb=>by
  unfold kas_desc;refine ⟨by rw [getD_at];exact hp.lt (by omega),by rw [getD_at];exact hp.lt (by omega),?_⟩;rw [getD_at,getD_at];by_cases hc:g f p m < g f p (m - 1)
  ·have e:cf f (at' p m) (at' p (m - 1))=true:=decide_eq_true hc;rw [e];dsimp only;rw [if_pos rfl];have step:∀ p':Array Nat,Pm n p'->(∀ k,g f p' k=g f p k)->dF n (cf f) (kas_desc t p' (m + 1) 0) (λr=>Pm n r.1/\m<=r.2.1/\r.2.1<=n/\r.2.2 + 1<=r.2.1/\Dn f r.1 r.2.1/\Pr f r.1 r.2.1 r.2.2):=λp' Ms hg=>by
    refine dF.mono (λr h=>⟨h.1,by omega,h.2.2⟩) _ (kW t p' (m + 1) 0 Ms (by omega) (by omega) (by omega) (λi j oG hj=>?_) λi hi cU=>?_)
    ·rw [hg,hg];by_cases LC:j < m
     ·exact hd i j oG LC
     ·have ej:j=m:=by omega
      subst ej;by_cases hi:i=j
      ·subst hi;omega
      ·have:=hd i (j - 1) (by omega) (by omega);omega
    ·have:i=m + 1 - 1:=by omega
     rw [this]
   split
   ·exact step _ (hp.rev _ _) (iN hp (by omega) h3 hb)
   ·exact step _ hp λ_=>rfl
  ·have e:cf f (at' p m) (at' p (m - 1))=false:=decide_eq_false hc;rw [e];dsimp only;rw [if_neg zN];refine ⟨hp.lt (by omega),hp.lt (by omega),?_⟩;by_cases Mw:g f p (m - 1) < g f p m
   ·have e2:cf f (at' p (m - 1)) (at' p m)=true:=decide_eq_true Mw;rw [e2];dsimp only;rw [if_pos rfl];exact ⟨hp,zE _,by show m<=n;omega,h3,hd,hb⟩
   ·have e2:cf f (at' p (m - 1)) (at' p m)=false:=decide_eq_false Mw;rw [e2];dsimp only;rw [if_neg zN];have eq:g f p m=g f p (m - 1):=by omega
    refine dF.mono (λr h=>⟨h.1,by omega,h.2.2⟩) _ (kW t p (m + 1) (q + 1) hp (by omega) (by omega) (by omega) (λi j oG hj=>?_) λi hi cU=>?_)
    ·by_cases LC:j < m
     ·exact hd i j oG LC
     ·have ej:j=m:=by omega
      subst ej;by_cases hi:i=j
      ·subst hi;omega
      ·have:=hd i (j - 1) (by omega) (by omega);omega
    ·rw [show m + 1 - 1=m from rfl];by_cases qX:i=m
     ·rw [qX]
     ·rw [hb i (by omega) (by omega),eq]
theorem lO {p:Array Nat}{m:Nat}(hp:Pm n p)(h1:1<=m)(hm:m<=n)(hd:Dn f p m):dF n (cf f) (kas_tail3 m n p) (λr=>Pm n r.2/\r.1<=n/\1<=r.1/\Up f r.2 r.1):=by unfold kas_tail3;have Ms:=hp.rev 0 m;refine dF.bind _ (dF.mono (λm' h=>⟨Ms,by omega,by omega,h.2.2.1⟩) _ (o6 Ms (n - m) m h1 (by omega) λi j oG hj=>?_));rw [pW (by rw [hp.size];exact hm),pW (by rw [hp.size];exact hm),if_pos ⟨by omega,by omega⟩,if_pos ⟨by omega,by omega⟩];exact hd _ _ (by omega) (by omega)
theorem gQ {p:Array Nat}{m:Nat}(hp:Pm n p)(h1:1<=m)(hm:m < n)(hd:Dn f p (m + 1)):dF n (cf f) (kas_descPart m n p) (λr=>Pm n r.2/\r.1<=n/\1<=r.1/\Up f r.2 r.1):=by
 unfold kas_descPart;refine dF.bind _ (dF.mono (λr h=>?_) _ (kW (n - (m + 1)) p (m + 1) 0 hp (by omega) (by omega) (by omega) hd λi hi cU=>by rw [show i=m + 1 - 1 by omega]));obtain ⟨a1,a2,a3,a4,a5,a6⟩:=h;split
 ·exact lO (a1.rev _ _) (by omega) a3 λi j oG hj=>by
   rw [iN a1 a3 a4 a6,iN a1 a3 a4 a6];exact a5 i j oG hj
 ·exact lO a1 (by omega) a3 a5
theorem vv {p:Array Nat}(hn:1<=n)(hp:Pm n p):dF n (cf f) (kas_count n p) (λr=>Pm n r.2/\r.1<=n/\1<=r.1/\Up f r.2 r.1):=by
 unfold kas_count;refine dF.bind _ (dF.mono (λm h=>?_) _ (o6 hp (n - 1) 1 (zE _) (by omega) λi j oG hj=>by rw [show i=j by omega];omega));obtain ⟨a1,a2,a3,a4⟩:=h;split
 ·exact ⟨hp,by omega,a1,a3⟩
 ·rename_i pS;have cM:m < n:=by
   have:¬ m=n:=by simpa using pS
   omega
  have XY:=a4 (by omega);split
  ·rename_i Y3;refine ⟨by rw [getD_at];exact hp.lt (by omega),by rw [getD_at];exact hp.lt (by omega),?_⟩;rw [getD_at,getD_at];by_cases hc:g f p 0 < g f p (m - 1)
   ·have e:cf f (at' p 0) (at' p (m - 1))=true:=decide_eq_true hc;rw [e];dsimp only;rw [if_pos rfl];exact ⟨hp,by omega,a1,a3⟩
   ·have e:cf f (at' p 0) (at' p (m - 1))=false:=decide_eq_false hc;rw [e];dsimp only;rw [if_neg zN];have all:∀ k,k < m->g f p k=g f p 0:=λk hk=>by
     have:=a3 0 k (by omega) hk;have:=a3 k (m - 1) (by omega) (by omega);omega
    have gr:∀ k,g f (kas_rev p 0 m) k=g f p k:=λk=>by
     rw [pW (by rw [hp.size];omega)];split
     ·rw [all _ (by omega),all k (by omega)]
     ·rfl
    refine gQ (hp.rev _ _) a1 cM λi j oG hj=>?_;rw [gr,gr];by_cases LC:j < m
    ·rw [all i (by omega),all j LC];omega
    ·have ej:j=m:=by omega
     subst ej;by_cases hi:i=j
     ·subst hi;omega
     ·have:=all i (by omega);have:=all (j - 1) (by omega);omega
  ·refine gQ hp a1 cM λi j oG hj=>?_;have em:m=1:=by omega
   subst em;by_cases hi:i=j
   ·subst hi;omega
   ·have e1:i=0:=by omega
    have e2:j=1:=by omega
    subst e1 e2;have:g f p 1 < g f p 0:=XY;omega
theorem iO {p:Array Nat}{k:Nat}(hp:Pm n p)(hk:k < n)(hu:Up f p k):∀ (t l r:Nat),l<=r->r<=k->r<=l + t->(∀ i,i < l->g f p i<=g f p k)->(∀ i,r<=i->i < k->g f p k < g f p i) ->
  dF n (cf f) (kas_place p k t l r) (λl'=>l'<=k/\(∀ i,i < l'->g f p i<=g f p k)/\∀ i,l'<=i->i < k->g f p k < g f p i)
 | 0,l,r,h1,h2,h3,ha,hb=>⟨by omega,ha,λi hi cU=>hb i (by omega) cU⟩
 | t + 1,l,r,h1,h2,h3,ha,hb=>by
  unfold kas_place;split
  ·exact ⟨by omega,ha,λi hi cU=>hb i (by omega) cU⟩
  ·rename_i J8;refine ⟨by rw [getD_at];exact hp.lt hk,by rw [getD_at];exact hp.lt (by omega),?_⟩;rw [getD_at,getD_at];by_cases hc:g f p k < g f p ((l + r) / 2)
   ·have e:cf f (at' p k) (at' p ((l + r) / 2))=true:=decide_eq_true hc;rw [e];dsimp only;rw [if_pos rfl];refine iO hp hk hu t l ((l + r) / 2) (by omega) (by omega) (by omega) ha λi hi cU=>?_;have:=hu ((l + r) / 2) i (by omega) cU;omega
   ·have e:cf f (at' p k) (at' p ((l + r) / 2))=false:=decide_eq_false hc;rw [e];dsimp only;rw [if_neg zN];refine iO hp hk hu t ((l + r) / 2 + 1) r (by omega) (by omega) (by omega) (λi hi=>?_) hb;have:=hu i ((l + r) / 2) (by omega) (by omega);omega
theorem vC:∀ (t:Nat) (p:Array Nat) (k:Nat),Pm n p->k + t=n->Up f p k->dF n (cf f) (kas_bin t p k) (λp'=>Pm n p'/\Up f p' n)
 | 0,p,k,hp,hk,hu=>⟨hp,by rw [<-hk];exact hu⟩
 | t + 1,p,k,hp,hk,hu=>by
  unfold kas_bin;refine dF.bind _ (dF.mono (λl h=>?_) _ (iO hp (by omega) hu k 0 k (by omega) (by omega) (by omega) (λi hi=>absurd hi (zU _)) λi hi cU=>absurd cU (by omega)));obtain ⟨a1,a2,a3⟩:=h;refine vC t _ (k + 1) (hp.XW _ _) (by omega) λi j oG hj=>?_;have hs:k < p.size:=by rw [hp.size];omega
  rw [Ke hs (by omega),Ke hs (by omega)];have el:k - (k - l)=l:=by omega
  rw [el];by_cases Us:i=l
  ·rw [if_pos Us];by_cases NU:j=l
   ·rw [if_pos NU];omega
   ·rw [if_neg NU,if_pos ⟨by omega,by omega⟩];have:=a3 (j - 1) (by omega) (by omega);omega
  ·rw [if_neg Us];by_cases qX:l < i/\i<=k
   ·rw [if_pos qX];rw [if_neg (by omega),if_pos ⟨by omega,by omega⟩];exact hu _ _ (by omega) (by omega)
   ·rw [if_neg qX];have WW:i < l:=by omega
    by_cases NU:j=l
    ·rw [if_pos NU];exact a2 i WW
    ·rw [if_neg NU];by_cases NV:l < j/\j<=k
     ·rw [if_pos NV];exact hu _ _ (by omega) (by omega)
     ·rw [if_neg NV];exact hu _ _ oG (by omega)
theorem IT (hn:1<=n):dF n (cf f) (kas_sort n) (λp=>Pm n p/\Up f p n):=by
 unfold kas_sort;refine dF.bind _ (dF.mono (λr h=>?_) _ (vv hn (show Pm n (List.toArray (List.range n)) from Array.Perm.refl _)));obtain ⟨a1,a2,a3,a4⟩:=h;split
 ·have e:max r.1 1=r.1:=by omega
  rw [e];exact vC _ _ _ a1 (by omega) a4
 ·have e:r.1=n:=by omega
  exact ⟨a1,by rw [<-e];exact a4⟩
end
end aZ
namespace aZ
def lx:List Int->List Int->Bool
 | [],[]=>false
 | [],_::_=>true
 | _::_,[]=>false
 | x::xs,y::ys=>if x=y then lx xs ys else decide (x < y)
theorem uh:∀ r:List Int,lx r r=false
 | []=>rfl
 | x::xs=>by unfold lx;rw [if_pos rfl];exact uh xs
theorem ue:∀ {a b c:List Int},lx a b=true->lx b c=true->lx a c=true
 | [],[],_,h,_=>by cases h
 | [],_::_,[],_,h=>by cases h
 | [],_::_,_::_,_,_=>rfl
 | _::_,[],_,h,_=>by cases h
 | _::_,_::_,[],_,h=>by cases h
 | x::xs,y::ys,z::zs,h,h'=>by
  unfold lx at h h' ⊢;split at h
  ·split at h'
   ·rename_i e1 e2;rw [if_pos (e1.trans e2)];exact ue h h'
   ·rename_i e1 e2;simp only [decide_eq_true_eq] at h';rw [if_neg (by omega)];simp only [decide_eq_true_eq];omega
  ·simp only [decide_eq_true_eq] at h;split at h'
   ·rename_i e1 e2;rw [if_neg (by omega)];simp only [decide_eq_true_eq];omega
   ·simp only [decide_eq_true_eq] at h';rw [if_neg (by omega)];simp only [decide_eq_true_eq];omega
theorem uf:∀ {a b:List Int},lx a b=false->lx b a=false->a=b
 | [],[],_,_=>rfl
 | [],_::_,h,_=>by cases h
 | _::_,[],_,h=>by cases h
 | x::xs,y::ys,h,h'=>by
  unfold lx at h h';split at h
  ·rename_i e;subst e;rw [if_pos rfl] at h';rw [uf h h']
  ·rename_i e;rw [if_neg λz=>e z.symm] at h';simp only [decide_eq_false_iff_not] at h h';omega
def rk (rs:List (List Int))(r:List Int):Int:=((rs.countP λx=>lx x r:Nat):Int)
theorem jV {α:Type}{p q:α->Bool}{a:α}:∀ {l:List α},(∀ x,p x=true->q x=true)->a∈l->p a=false->q a=true->l.countP p < l.countP q
 | [],_,h,_,_=>by cases h
 | x::l,Ru,h,h1,h2=>by
  have hm:l.countP p<=l.countP q:=List.countP_mono_left λx _=>Ru x;rcases zO.mp h with rfl | h
  ·rw [List.countP_cons_of_neg (by rw [h1];exact zN),List.countP_cons_of_pos h2];omega
  ·have:=jV Ru h h1 h2;rw [List.countP_cons,List.countP_cons];cases e:p x with
   | true=>rw [Ru x e];simp;omega
   | false=>cases e2:q x <;> simp <;> omega
theorem JV {rs:List (List Int)}{a b:List Int}(ha:a∈rs):decide (rk rs a < rk rs b)=lx a b:=by
 unfold rk;cases h:lx a b with
 | true=>
  have:=jV (p:=λx=>lx x a) (q:=λx=>lx x b) (λx hx=>ue hx h) ha (uh a) h;simp only [decide_eq_true_eq];omega
 | false=>
  have hm:rs.countP (λx=>lx x b)<=rs.countP (λx=>lx x a):=List.countP_mono_left λx _ hx=>by
   cases h':lx b a with
   | true=>exact ue hx h'
   | false=>rw [uf h h'];exact hx
  simp only [decide_eq_false_iff_not];omega
end aZ
namespace L2
open PySem PySem.Spec PyProof.Rows PySem.W aZ
theorem aT.at {P:Program}{w:World}{H:Hp}{h:Heap}{a:Addr}{o:HO}(x:aT P w H h a o):∃ ob,h.get? a=some ob:=by
 cases o with
 | lst xs=>obtain ⟨_,_,_,_,e⟩:=x;exact ⟨_,e⟩
 | tup xs=>obtain ⟨_,_,_,ob,e,_⟩:=x;exact ⟨_,e⟩
 | dK fP=>obtain ⟨_,_,_,_,o,_,_,e,_⟩:=x;exact ⟨_,e⟩
 | dT fP=>obtain ⟨_,_,_,_,o,_,_,e,_⟩:=x;exact ⟨_,e⟩
 | set S n=>obtain ⟨o,_,_,_,e,_⟩:=x;exact ⟨_,e⟩
 | ins C dx fs=>obtain ⟨_,_,_,e,_⟩:=x;exact ⟨_,e⟩
 | own y=>obtain ⟨_,e⟩:=x;exact ⟨_,e⟩
 | xd fs=>obtain ⟨_,⟨_,_,_,e,_⟩,_⟩:=x;exact ⟨_,e⟩
 | OM lo hi=>obtain ⟨_,_,_,e⟩:=x;exact ⟨_,e⟩
 | mW ob u=>obtain ⟨e,_⟩:=x;exact ⟨_,e⟩
 | JM ps=>exact ⟨_,(show h.get? a=some _ from x)⟩
 | met f y=>exact ⟨_,(show h.get? a=some _ from x)⟩
 | ext φ=>obtain ⟨_,⟨_,e⟩,_⟩:=x;exact ⟨_,e⟩
section
variable {X:Cx}{aa:List (Addr×Obj)}{σ:St}{H:Hp}{s:Shared}
theorem Inv.sX {m:Str->Option Value}{h':Heap}{D:Addr}{ak:List Value}{c:Nat}{xs:List V}(I:Inv X aa σ H s)(F0:Fr X.base X.env.locals s.heap m)(F:Fr X.base X.env.locals h' m)
  (N:News X.base X.env.locals h' ((D,listOf ak.toArray c)::dg X.base s.heap X.env.locals)) (lt:∀ q∈dg X.base s.heap X.env.locals,q.1 < D) (hv:Vals xs ak) (hz:xs.length<=sizeLine) :
  Inv X aa σ (upd H D (.lst xs)) { s with heap:=h' }/\H D=none:=by
 obtain ⟨eD,nL,nb⟩:=N (D,listOf ak.toArray c) (.head _);have M9:s.heap.get? D=none:=by
  cases q:s.heap.get? D with
  | none=>rfl
  | some o=>exact absurd (lt (D,o) (cF nL nb q)) (zy _)
 have hD:H D=none:=by
  cases q:H D with
  | none=>rfl
  | some u=>
   obtain ⟨ob,e⟩:=(I.aU D u q).at;rw [M9] at e;cases e
 have keep:∀ b o,b≠X.env.locals->s.heap.get? b=some o->h'.get? b=some o:=λb o hb e=>by
  cases q:X.base.get? b with
  | some u=>
   have:=I.bk b u q;rw [e] at this;cases this;exact F.keep b _ q
  | none=>exact (N (b,o) (.tail _ (cF hb q e))).1
 have vV:∀ b o,s.heap.get? b=some o->b≠D:=λb o e z=>by rw [z,M9] at e;cases e
 have neT:∀ b u,H b=some u->b≠D:=λb u e z=>by rw [z,hD] at e;cases e
 refine ⟨I.step (g':=s.gens) (t':=s.toks) (d':=s.drawn) (ch:=[]) (λ_ z=>nomatch z) (λb o hb _ _ e _=>keep b o hb e) (λb o hb _ _ e _=>⟨o.slots,keep b o hb e⟩) (λb o _ e n=>by rw [xC (vV b o e)];exact n) (λb o _ e=>?_)
  (λb ys e=>by rw [xC (neT b _ e)];exact e) (λb o u e=>by rw [xC (neT b _ e)];exact e) (λb ps e=>⟨#[],by rw [xC (neT b _ e),e,Array.append_empty]⟩) (λm' hm=>?_) (λb u e=>?_) I.bare,hD⟩
 ·by_cases hb:b=X.env.locals
  ·obtain ⟨o',_,_,q,_⟩:=F.ns;exact ⟨o',by rw [hb];exact q⟩
  ·exact ⟨o,keep b o hb e⟩
 ·obtain ⟨o1,Kl,XH,e1,d1,k1,f1⟩:=hm;obtain ⟨o2,XE,XG,e2,d2,k2,f2⟩:=F0.ns;rw [e1] at e2;cases e2;rw [d1] at d2;cases d2;obtain ⟨o3,Sg,Sh,e3,d3,k3,f3⟩:=F.ns;exact ⟨o3,Sg,Sh,e3,d3,k3,λname=>(f3 name).trans ((f2 name).symm.trans (f1 name))⟩
 ·by_cases hb:b=D
  ·subst hb;rw [yq] at e;cases e;exact ⟨hz,ak,c,hv,eD⟩
  ·rw [xC hb] at e;refine (I.aU b u e).fD (λc v hc q=>keep c v (λz=>?_) q) (λc q=>by rw [xC (neT c _ q)];exact q) λc ys q=>by rw [xC (neT c _ q)];exact q
   rcases hc with rfl | hc
   ·rw [z,I.free] at e;cases e
   ·rw [z,I.free] at hc;cases hc
end
section
variable {prog:Program}{w:World}{A:Around}{E:Value->Shared->Prop}{s:Shared}
theorem n9 {ak:List Value}(kT:ak.length < 2):(ak.toArray.zip ak.toArray).map (·.2)=ak.toArray:=by
 rcases ak with _ | ⟨x,_ | ⟨y,r⟩⟩
 ·simp
 ·simp
 ·exact absurd kT (by simp)
theorem n8 {a:Addr}{ak:List Value}{k:Nat}{P:PySem.Fin->Shared->Prop}(hx:s.heap.get? a=some (seqObj "list" ak.toArray k))(kT:ak.length < 2)
  (done:P (.done (.ret .none)) { s with heap:=sortedHeap s.heap a ak ak.toArray }):wpAny (model prog w) A (Builtin.«list.sort» ⟨[.ref a],[]⟩) P E s:=by
 have here:a < s.heap.objs.size:=Heap.lt_size hx;have line:ak.length<=sizeLine:=by rw [sizeLine_eq];omega
 rw [list_sort_plain];obtain ⟨e1,U1⟩:∃ e1,(s.heap.update a (Obj.mapSeq λ_=>(#[]:Array Value))).get? a=some (seqObj "list" #[] e1):=⟨_,get?_update_seq hx (λ_=>#[])⟩;refine wpAny_bind (listItems_at hx rfl (wpAny_bind (listUpdate_at hx rfl (wpAny_bind (seqEpoch_at U1 rfl (wpAny_bind (wpAny_newTuple (wpAny_bind (wpAny_newList (wpAny_holding ?_) (zV _))) line))))
  (by rw [zL];exact line) (zV _))))
 have at2:(((s.heap.update a (Obj.mapSeq λ_=>(#[]:Array Value))).push (seqObj "tuple" ak.toArray 0)).push (seqObj "list" #[] 0)).get? a=some (seqObj "list" #[] e1):=
  Heap.get?_push_of_some _ (Heap.get?_push_of_some _ U1)
 show wpAny (model prog w) A _ P E { s with heap:=((s.heap.update a (Obj.mapSeq λ_=>(#[]:Array Value))).push (seqObj "tuple" ak.toArray 0)).push (seqObj "list" #[] 0) };have less:ak.toArray.size < 2:=by rw [zL];exact kT
 have M5:(arrOf (SortSt.mk' general' (ak.toArray.zip ak.toArray) #[] 7 none)).map (·.2)=ak.toArray:=by
  show (ak.toArray.zip ak.toArray).map (·.2)=ak.toArray;exact n9 kT
 dsimp only;rw [if_pos less,if_pos less];refine wpAny_bind (wpAny_pure ?_);rw [StateT.run_pure];refine wpAny_bind (wpAny_pure ?_);dsimp only;refine wpAny_bind (seqEpoch_at at2 rfl (wpAny_bind (listUpdate_at at2 rfl ?_ (zV _) (by rw [M5,zL];omega))));simp only [bne_self_eq_false,zf,if_false];rw [M5];exact wpAny_pure done
theorem kj {l:Addr}{ak:List Value}{Q:Value->Shared->Prop}(hl:s.heap.IsList l ak.toArray)(kT:ak.length < 2)
  (done:Q (.ref (s.heap.objs.size + 1)) { s with heap:=sortedAll s.heap ak ak.toArray }):wpAny (model prog w) A (call (.builtin "sorted") [.ref l]) Q E s:=by
 have line:ak.length<=sizeLine:=by rw [sizeLine_eq];omega
 refine Calls.call_function_entry kind_sorted plain_sorted entry_sorted (args_sorted1 _) ?_;unfold Builtin.«sorted»;refine wpAny_bind (m:=checkCount "sorted" 1 1 _) (wpAny_pure (wpAny_bind (collect_list hl (wpAny_bind (wpAny_newList ?_ line)) line)));have sz:((s.heap.push (seqObj "list" #[] 0)).update s.heap.objs.size (Obj.mapSeq (·++ak.toArray))).objs.size=s.heap.objs.size + 1:=by rw [Heap.size_update,size_push']
 have U0:(((s.heap.push (seqObj "list" #[] 0)).update s.heap.objs.size (Obj.mapSeq (·++ak.toArray))).push (seqObj "list" ak.toArray 0)).get? (s.heap.objs.size + 1)=some (seqObj "list" ak.toArray 0):=by
  rw [<-sz];exact Heap.get?_push_size _ rfl
 show wpAny _ _ _ _ _ { s with heap:=((s.heap.push (seqObj "list" #[] 0)).update s.heap.objs.size (Obj.mapSeq (·++ak.toArray))).push (seqObj "list" ak.toArray 0) };rw [sz];exact wpAny_bind (wpAny_holding (wpAny_call_entry slot_list_sort ⟨_,U0,rfl⟩ entry_list_sort (n8 U0 kT ⟨_,rfl,wpAny_pure ⟨_,rfl,done⟩⟩) (args_list_sort _)))
end
section
variable {X:Cx}
theorem jG:∀ {ps:List (Addr×List Int)}{us:List Value},Vals (ps.map λa=>V.ref a.1) us->us=ps.map λa=>Value.ref a.1
 | [],us,r=>by cases r;rfl
 | a::ps,us,r=>by
  cases r with
  | cons x y=>rw [jG y];cases x;rfl
def Kr (h:Heap)(a:Addr)(r:List Int):Prop:=∃ o items n,h.get? a=some o/\o.cls=.type "tuple" /\ o.data=.seq items n/\Vals (r.map V.int) items.toList
theorem lM {prog:Program}{w:World}{A:Around}{s:Shared}{b fin:Bool}{Q:Bool->Shared->Prop}:∀ {r r':List Int}{us KA:List Value}{i:Nat},Vals (r.map V.int) us->Vals (r'.map V.int) KA->fin=decide (us.length < KA.length)->Q (lx r r') s ->
  KatLex prog w A b fin Q (us.zip KA) i s
 | [],[],us,KA,i,ru,Ja,hf,q=>by cases ru;cases Ja;exact kat_nil (by rw [hf];exact q)
 | [],_::_,us,KA,i,ru,Ja,hf,q=>by
  cases ru;cases Ja with
  | cons _ _=>exact kat_nil (by rw [hf];simpa [lx] using q)
 | _::_,[],us,KA,i,ru,Ja,hf,q=>by
  cases Ja;cases ru with
  | cons _ _=>exact kat_nil (by rw [hf];simpa [lx] using q)
 | x::r,y::r',us,KA,i,ru,Ja,hf,q=>by
  cases ru with
  | cons rx ru=>
  cases Ja with
  | cons ry Ja=>
  obtain ⟨t,rfl⟩:=rx;obtain ⟨t',rfl⟩:=ry;refine kat_cons (wpAny_eqBool_int ?_);unfold lx at q;by_cases e:x=y
  ·subst e;rw [if_pos rfl] at q;rw [show (x == x)=true from by simp];exact kat_yes (lM ru Ja (by rw [hf];simp) q)
  ·rw [if_neg e] at q;rw [show (x == y)=false from by simpa using e];refine kat_no ?_;cases (b && i == 0) with
   | true=>exact oneLt_int q
   | false=>exact kat_one _ _ (lt_int q)
theorem mK {h:Heap}:∀ {ps:List (Addr×List Int)},(∀ a∈ps,Kr h a.1 a.2/\a.2≠[])->∃ fs,KatTups h (ps.map λa=>Value.ref a.1) fs/\fs.length=ps.length/\∀ v∈fs,∃ i t,v=Value.int i t
 | [],_=>⟨[],KatTups.nil,rfl,λ_ z=>nomatch z⟩
 | (a,r)::ps,hp=>by
  obtain ⟨fs,k,l,f⟩:=mK λa ha=>hp a (.tail _ ha);obtain ⟨⟨o,items,n,ho,hc,hd,hv⟩,hn⟩:=hp (a,r) (.head _)
  match r,hn,hv with
  | x::r,_,hv=>
   obtain ⟨u,hu,t,e⟩:=Vals.get (i:=0) hv rfl;refine ⟨u::fs,KatTups.cons ho hc hd (by rw [<-hu];simp) k,by simp [l],λv hv=>?_⟩;rcases zO.mp hv with rfl | hv
   ·exact ⟨x,t,e⟩
   ·exact f v hv
theorem qG {α:Type}(d:α)(l:List α):(List.range l.length).map (λi=>l.getD i d)=l:=by
 apply List.ext_getElem
 ·simp
 ·intro i h1 h2;simp [List.getD,h2]
theorem fk:∀ (ps:List (Addr×List Int)),Vals (ps.map λa=>V.ref a.1) (ps.map λa=>Value.ref a.1)
 | []=>.nil
 | _::ps=>.cons rfl (fk ps)
theorem oX:cH X (.builtin "sorted") (λxs H Q=>∃ p,∃ ps:List (Addr×List Int),xs=[.ref p]/\av X.K H p (ps.map λa=>V.ref a.1)/\ps.length < 64/\(∀ a∈ps,H a.1=some (.tup (a.2.map V.int))/\a.2≠[]) /\
  ∀ l qs,H l=none->List.Perm qs ps->qs.Pairwise (λa b=>lx b.2 a.2=false)->Q (.ref l) (upd H l (.lst (qs.map λa=>V.ref a.1)))):=by
 intro aa s σ H xs us Q I r h;obtain ⟨p,ps,rfl,hq,Y9,kH,q⟩:=h;obtain ⟨u,rfl,rx⟩:=vals1 r;cases rx;obtain ⟨ak,r',pl,hz⟩:=I.list hq;have ei:=jG r';subst ei;have hlen:(ps.map λa=>Value.ref a.1).length=ps.length:=by simp
 by_cases h2:ps.length < 2
 ·refine kj pl.isList (by omega) ?_;have sz:((s.heap.push (seqObj "list" #[] 0)).update s.heap.objs.size (Obj.mapSeq (·++(ps.map λa=>Value.ref a.1).toArray))).objs.size=s.heap.objs.size + 1:=by rw [Heap.size_update,size_push']
  have kp:∀ b o,s.heap.get? b=some o->(sortedAll s.heap (ps.map λa=>Value.ref a.1) (ps.map λa=>Value.ref a.1).toArray).get? b=some o:=λb o e=>by
   have lb:b < s.heap.objs.size:=Heap.lt_size e;unfold sortedAll sortedHeap;rw [Heap.get?_update_ne _ _ _ _ (zT (yk lb))];refine Heap.get?_push_of_some _ (Heap.get?_push_of_some _ ?_);rw [Heap.get?_update_ne _ _ _ _ (zT (yk lb))];refine Heap.get?_push_of_some _ ?_;rw [Heap.get?_update_ne _ _ _ _ (zT lb)];exact Heap.get?_push_of_some _ e
  obtain ⟨c,ec⟩:∃ c,(sortedAll s.heap (ps.map λa=>Value.ref a.1) (ps.map λa=>Value.ref a.1).toArray).get? (s.heap.objs.size + 1)=some (seqObj "list" (ps.map λa=>Value.ref a.1).toArray c):=by
   have e0:=Heap.get?_push_size ((s.heap.push (seqObj "list" #[] 0)).update s.heap.objs.size (Obj.mapSeq (·++(ps.map λa=>Value.ref a.1).toArray))) (o:=seqObj "list" (ps.map λa=>Value.ref a.1).toArray 0) rfl;rw [sz] at e0;unfold sortedAll sortedHeap;have e1:=get?_update_seq e0 (λ_=>(#[]:Array Value));exact ⟨_,get?_update_seq (Heap.get?_push_of_some _ (Heap.get?_push_of_some _ e1)) _⟩
  refine ⟨.ref (s.heap.objs.size + 1),_,I.laid (t':=s.toks) kp (yT _) (show aT X.prog X.w _ _ _ (.lst (ps.map λa=>V.ref a.1)) from ⟨hz,_,c,r',ec⟩),rfl,q _ ps (I.aU.fresh (yT _)) (List.Perm.refl _) ?_⟩
  match ps,h2 with
  | [],_=>exact .nil
  | [_],_=>exact List.pairwise_singleton _ _
 ·obtain ⟨m,F⟩:=I.fr;refine kat_sorted F (iW (g:=X.base) (h:=s.heap)) pl.isList (by omega) (by omega) λD e1 h' F' N' lt=>?_;have keep:∀ b o,b≠X.env.locals->s.heap.get? b=some o->h'.get? b=some o:=λb o hb e=>by
   cases q:X.base.get? b with
   | some u=>
    have:=I.bk b u q;rw [e] at this;cases this;exact F'.keep b _ q
   | none=>exact (N' (b,o) (.tail _ (cF hb q e))).1
  have rowAt:∀ a∈ps,Kr h' a.1 a.2/\a.2≠[]:=λa ha=>by
   obtain ⟨ht,hn⟩:=kH a ha;obtain ⟨_,ak,rv,o,e,c,n,d⟩:=I.aU a.1 _ ht;refine ⟨⟨o,_,n,keep a.1 o (λz=>?_) e,c,d,rv⟩,hn⟩;rw [z,I.free] at ht;cases ht
  obtain ⟨fs,kt,lf,hf⟩:=mK rowAt;refine kat_kind (T:=.type "int") kt (by omega) (λv hv=>?_) (by decide) ?_
  ·obtain ⟨i,t,rfl⟩:=hf v hv;exact Looks.now
  have n1:1<=(ps.map λa=>Value.ref a.1).length:=by omega
  refine dF.wp (c:=cf λi=>rk (ps.map (·.2)) ((ps.map (·.2)).getD i [])) (λi j C hi hj hC=>?_) (λpp hp=>?_) _ (IT (f:=λi=>rk (ps.map (·.2)) ((ps.map (·.2)).getD i [])) n1)
  ·have cU:i < ps.length:=by omega
   have mU:j < ps.length:=by omega
   obtain ⟨⟨o,items,n,ho,hc,hd,hv⟩,hn⟩:=rowAt ps[i] (zp cU);obtain ⟨⟨o',Rb,n',qU,RT,Mv,WB⟩,Uo⟩:=rowAt ps[j] (zp mU);unfold kas_ask;have ei:(ps.map λa=>Value.ref a.1).getD i Value.none=.ref ps[i].1:=by simp [cU]
   have ej:(ps.map λa=>Value.ref a.1).getD j Value.none=.ref ps[j].1:=by simp [mU]
   rw [ei,ej];refine kat_lt ho hd qU Mv (lM hv WB (by simp) ?_);have e:cf (λi=>rk (ps.map (·.2)) ((ps.map (·.2)).getD i [])) i j=lx ps[i].2 ps[j].2:=by
    unfold cf;have e1:(ps.map (·.2)).getD i []=ps[i].2:=by simp [cU]
    have e2:(ps.map (·.2)).getD j []=ps[j].2:=by simp [mU]
    simp only [e1,e2];exact JV (zP.mpr ⟨ps[i],zp cU,rfl⟩)
   rw [e] at hC;exact hC
  ·obtain ⟨pm,up⟩:=hp;refine KasFin.intro F' N' (UpdF.head λx hx=>zT (lt x hx)) λZb c F2 N2=>?_;have pl:pp.toList.Perm (List.range ps.length):=by
    have:=pm.toList;rw [hlen] at this;simpa using this
   have eo:(pp.toList.map λi=>(ps.map λa=>Value.ref a.1).getD i Value.none)=(pp.toList.map λi=>ps.getD i (0,[])).map λa=>Value.ref a.1:=by
    rw [yR];refine List.map_congr_left λi hi=>?_;have cU:i < ps.length:=zi.mp (pl.mem_iff.mp hi);simp [cU]
   have perm:(pp.toList.map λi=>ps.getD i (0,[])).Perm ps:=by
    have:=pl.map λi=>ps.getD i (0,[]);rwa [qG] at this
   rw [eo] at N2;have Wv:((pp.toList.map λi=>ps.getD i (0,[])).map λa=>V.ref a.1).length<=sizeLine:=by
    rw [zA,perm.length_eq,sizeLine_eq];omega
   obtain ⟨I2,hD⟩:=I.sX F F2 N2 lt (fk _) Wv;refine ⟨.ref D,_,I2,rfl,q D _ hD perm ?_⟩;rw [List.pairwise_iff_getElem];intro i j hi hj oG;simp only [zA,Array.length_toList] at hi hj;simp only [List.getElem_map,Array.getElem_toList];have hn:pp.size=ps.length:=by rw [pm.size];exact hlen
   have key:=up i j (Nat.le_of_lt oG) (by omega);have a1:pp[i] < ps.length:=zi.mp (pl.mem_iff.mp (by simp));have a2:pp[j] < ps.length:=zi.mp (pl.mem_iff.mp (by simp));unfold g at'  at key;simp only [hi,hj,getElem?_pos,yg] at key;have e1:(ps.map (·.2)).getD pp[i] []=ps[pp[i]].2:=by simp [a1]
   have e2:(ps.map (·.2)).getD pp[j] []=ps[pp[j]].2:=by simp [a2]
   rw [e1,e2] at key;have e3:ps.getD pp[i] (0,[])=ps[pp[i]]:=by simp [a1]
   have e4:ps.getD pp[j] (0,[])=ps[pp[j]]:=by simp [a2]
   rw [e3,e4];have:=JV (rs:=ps.map (·.2)) (a:=ps[pp[j]].2) (b:=ps[pp[i]].2) (zP.mpr ⟨_,zp a2,rfl⟩);rw [<-this];simp only [decide_eq_false_iff_not];omega
end
end L2
namespace L2
open PySem PySem.Spec PyProof.Rows
def notStar:Expr->Bool
 | .Starred _ _=>false
 | _=>true
theorem qo {e:Expr}{es:List Expr}{env:Env}(h:notStar e=true):starEach (e::es) env=(false,eval e env)::starEach es env:=by cases e <;> first | rfl | cases h
@[irreducible] def L8 (X:Cx) (es:List Expr) (t:TA):Prop:=PA X es t
theorem yp {X:Cx}{es:List Expr}{t:TA}(h:L8 X es t):PA X es t:=by unfold L8 at h;exact h
theorem JY {X:Cx}{es:List Expr}{t:TA}(h:PA X es t):L8 X es t:=by unfold L8;exact h
theorem xB {X:Cx}:L8 X [] ql:=JY bT
theorem yr {X:Cx}{e:Expr}{es:List Expr}{te:TE}{t:TA}(ha:PE X e te)(hr:L8 X es t)(hn:notStar e=true):L8 X (e::es) (su te t):=JY (Ji ha (yp hr) (qo hn))
@[irreducible] def nE (X:Cx) (es:List Stmt) (t:TS):Prop:=lJ X es t
theorem yx {X:Cx}{es:List Stmt}{t:TS}(h:nE X es t):lJ X es t:=by unfold nE at h;exact h
theorem vB {X:Cx}{es:List Stmt}{t:TS}(h:lJ X es t):nE X es t:=by unfold nE;exact h
theorem xP {X:Cx}{a:Stmt}{t:TS}(h:PS X a t):nE X [a] t:=vB (Jb h)
theorem xN {X:Cx}{a b:Stmt}{rest:List Stmt}{t u:TS}(h:PS X a t)(hr:nE X (b::rest) u):nE X (a::b::rest) (KL t u):=vB (tK h (yx hr))
section
variable {K:PySem.W.Frag}{a:Addr}{xs:List V}{n:Nat}{caps:List Nat}{g:TG}{tc:TT}{te:TE}{σ:St}{H:Hp}{Qf:Addr->Hp->List V->Prop}
theorem fT {J:It}(Pv:Nat->St->List V->Hp->Prop)(len:Nat)(h0:Pv 0 (cW n caps σ) [] H)(hn:len<=1000)(hl:∀ i τ acc H,Pv i τ acc H->acc.length<=i)
  (RI:∀ i τ acc H,i < len->Pv i τ acc H->J.go i H) (uM:∀ τ acc H,Pv len τ acc H->J.stop len H)
  (hs:∀ i τ acc H (C:St->List V->Hp->Prop),i < len->Pv i τ acc H->(∀ τ acc H,Pv (i + 1) τ acc H->C τ acc H)->∀ x H',J.jq i H x H'->g x τ H' fun aV H2=>tc aV H2 λb H3=>if b=true then te aV H3 λy H4=>C aV (acc++[y]) H4 else C aV acc H3)
  (hd:∀ τ acc H,Pv len τ acc H->∀ p,H p=none->Qf p H acc) :
  ∃ W:Nat->Nat->St->List V->Hp->Prop,(∃ m,W 0 m (cW n caps σ) [] H)/\∀ i m τ acc H,W i m τ acc H ->
   (J.stop i H/\acc.length<=sizeLine/\∀ p,H p=none->Qf p H acc) \/
   (J.go i H/\acc.length < sizeLine/\∀ x H',J.jq i H x H'->g x τ H' fun aV H2=>tc aV H2 λb H3=>if b=true then te aV H3 λy H4=>∃ m',m' < m/\W (i + 1) m' aV (acc++[y]) H4 else ∃ m',m' < m/\W (i + 1) m' aV acc H3):=by
 have line:1001<=sizeLine:=by rw [sizeLine_eq];decide
 refine ⟨λi m τ acc H=>m=len - i/\i<=len/\Pv i τ acc H,⟨len,by simp,zV _,h0⟩,?_⟩;rintro i m τ acc H ⟨rfl,hi,p⟩;have q:=hl i τ acc H p;by_cases cM:i < len
 ·exact .inr ⟨RI i τ acc H cM p,by omega,λx H' y=>hs i τ acc H (fun τ acc H=>∃ m',m' < len - i/\m'=len - (i + 1)/\i + 1<=len/\Pv (i + 1) τ acc H) cM p (fun τ acc H p'=>⟨len - (i + 1),by omega,rfl,cM,p'⟩) x H' y⟩
 ·have e:i=len:=by omega
  subst e;exact .inl ⟨uM τ acc H p,by omega,hd τ acc H p⟩
theorem ng (Pv:Nat->St->List V->Hp->Prop)(h0:Pv 0 (cW n caps σ) [] H)(hn:xs.length<=1000)(hl:∀ i τ acc H,Pv i τ acc H->acc.length<=i/\bC K H a xs)
  (hs:∀ i x τ acc H (C:St->List V->Hp->Prop),xs[i]?=some x->Pv i τ acc H->(∀ τ acc H,Pv (i + 1) τ acc H->C τ acc H)->g x τ H fun aV H2=>tc aV H2 λb H3=>if b=true then te aV H3 λy H4=>C aV (acc++[y]) H4 else C aV acc H3)
  (hd:∀ τ acc H,Pv xs.length τ acc H->∀ p,H p=none->Qf p H acc) :
  ∃ W:Nat->Nat->St->List V->Hp->Prop,(∃ m,W 0 m (cW n caps σ) [] H)/\∀ i m τ acc H,W i m τ acc H ->
   ((MF K a).stop i H/\acc.length<=sizeLine/\∀ p,H p=none->Qf p H acc) \/
   ((MF K a).go i H/\acc.length < sizeLine/\∀ x H',(MF K a).jq i H x H'->g x τ H' fun aV H2=>tc aV H2 λb H3=>if b=true then te aV H3 λy H4=>∃ m',m' < m/\W (i + 1) m' aV (acc++[y]) H4 else ∃ m',m' < m/\W (i + 1) m' aV acc H3):=
 fT (J:=MF K a) Pv xs.length h0 hn (λi τ acc H p=>(hl i τ acc H p).1) (λi τ acc H hi p=>⟨xs,xs[i],(hl i τ acc H p).2,by simp [hi]⟩) (fun τ acc H p=>⟨xs,(hl _ τ acc H p).2,zE _⟩)
  (λi τ acc H C hi p c x H' y=>by obtain ⟨e,y⟩:=y;subst e;exact hs i x τ acc _ C (y xs (hl i τ acc _ p).2) p c) hd
theorem wd (Pv:Nat->St->List V->Hp->Prop)(h0:Pv 0 (cW n caps σ) [] H)(hn:xs.length<=1000)(hl:∀ i τ acc H,Pv i τ acc H->acc.length<=i/\av K H a xs)
  (hs:∀ i x τ acc H (C:St->List V->Hp->Prop),xs[i]?=some x->Pv i τ acc H->(∀ τ acc H,Pv (i + 1) τ acc H->C τ acc H)->g x τ H fun aV H2=>tc aV H2 λb H3=>if b=true then te aV H3 λy H4=>C aV (acc++[y]) H4 else C aV acc H3)
  (hd:∀ τ acc H,Pv xs.length τ acc H->∀ p,H p=none->Qf p H acc) :
  ∃ W:Nat->Nat->St->List V->Hp->Prop,(∃ m,W 0 m (cW n caps σ) [] H)/\∀ i m τ acc H,W i m τ acc H ->
   ((rG K a).stop i H/\acc.length<=sizeLine/\∀ p,H p=none->Qf p H acc) \/
   ((rG K a).go i H/\acc.length < sizeLine/\∀ x H',(rG K a).jq i H x H'->g x τ H' fun aV H2=>tc aV H2 λb H3=>if b=true then te aV H3 λy H4=>∃ m',m' < m/\W (i + 1) m' aV (acc++[y]) H4 else ∃ m',m' < m/\W (i + 1) m' aV acc H3):=
 fT (J:=rG K a) Pv xs.length h0 hn (λi τ acc H p=>(hl i τ acc H p).1) (λi τ acc H hi p=>⟨xs,xs[i],(hl i τ acc H p).2,by simp [hi]⟩) (fun τ acc H p=>⟨xs,(hl _ τ acc H p).2,zE _⟩)
  (λi τ acc H C hi p c x H' y=>by obtain ⟨e,y⟩:=y;subst e;exact hs i x τ acc _ C (y xs (hl i τ acc _ p).2) p c) hd
theorem jS {tb:TS}{D:Ends}(Pv:Nat->St->Hp->Prop)(h0:Pv 0 σ H)(hl:∀ i σ H,i<=xs.length->Pv i σ H->bC K H a xs)
  (hs:∀ i x q σ H,xs[i]?=some x->H q=none->Pv i σ H->g (.ref q) σ (upd H q (.tup [.int i,x])) fun fj H2=>tb (D.lp (Pv (i + 1))) fj H2) (hd:∀ σ H,Pv xs.length σ H->D.nx σ H) :
  ∃ W:Nat->Nat->St->Hp->Prop,(∃ m,W 0 m σ H)/\∀ i m σ H,W i m σ H ->
   ((vN K a).stop i H/\D.nx σ H)\/((vN K a).go i H/\∃ N:St->Hp->Prop,(∀ br H',N br H'->∃ m',m' < m/\W (i + 1) m' br H')/\∀ x H',(vN K a).jq i H x H'->g x σ H' fun fj H2=>tb (D.lp N) fj H2):=by
 refine ⟨λi m σ H=>m=xs.length - i/\i<=xs.length/\Pv i σ H,⟨xs.length,by simp,zV _,h0⟩,?_⟩;rintro i m σ H ⟨rfl,hi,p⟩;have q:=hl i σ H hi p;by_cases cM:i < xs.length
 ·refine .inr ⟨⟨xs,xs[i],q,by simp [cM]⟩,Pv (i + 1),fun br H' p'=>⟨xs.length - (i + 1),by omega,rfl,cM,p'⟩,λx H' y=>?_⟩;obtain ⟨q',x',hq,e1,e2,y⟩:=y;subst e1;subst e2;exact hs i x' q' σ _ (y xs q) hq p
 ·have e:i=xs.length:=by omega
  subst e;exact .inl ⟨⟨xs,q,zE _⟩,hd σ H p⟩
theorem gq {tb:TS}{D:Ends}(Pv:Nat->St->Hp->Prop)(h0:Pv 0 σ H)(hl:∀ i σ H,i<=xs.length->Pv i σ H->av K H a xs)
  (hs:∀ i x q σ H,xs[i]?=some x->H q=none->Pv i σ H->g (.ref q) σ (upd H q (.tup [.int i,x])) fun fj H2=>tb (D.lp (Pv (i + 1))) fj H2) (hd:∀ σ H,Pv xs.length σ H->D.nx σ H) :
  ∃ W:Nat->Nat->St->Hp->Prop,(∃ m,W 0 m σ H)/\∀ i m σ H,W i m σ H ->
   ((lF K a).stop i H/\D.nx σ H)\/((lF K a).go i H/\∃ N:St->Hp->Prop,(∀ br H',N br H'->∃ m',m' < m/\W (i + 1) m' br H')/\∀ x H',(lF K a).jq i H x H'->g x σ H' fun fj H2=>tb (D.lp N) fj H2):=by
 refine ⟨λi m σ H=>m=xs.length - i/\i<=xs.length/\Pv i σ H,⟨xs.length,by simp,zV _,h0⟩,?_⟩;rintro i m σ H ⟨rfl,hi,p⟩;have q:=hl i σ H hi p;by_cases cM:i < xs.length
 ·refine .inr ⟨⟨xs,xs[i],q,by simp [cM]⟩,Pv (i + 1),fun br H' p'=>⟨xs.length - (i + 1),by omega,rfl,cM,p'⟩,λx H' y=>?_⟩;obtain ⟨q',x',hq,e1,e2,y⟩:=y;subst e1;subst e2;exact hs i x' q' σ _ (y xs q) hq p
 ·have e:i=xs.length:=by omega
  subst e;exact .inl ⟨⟨xs,q,zE _⟩,hd σ H p⟩
end
end L2
namespace Sm
open PySem L2 aZ
def lK (p:Addr)(H H':Hp):Prop:=∀ b u,b≠p->H b=some u->H' b=some u
theorem lK.refl (p:Addr)(H:Hp):lK p H H:=λ_ _ _ h=>h
theorem lK.trans {p:Addr}{H H1 H2:Hp}(a:lK p H H1)(b:lK p H1 H2):lK p H H2:=λc u n h=>b c u n (a c u n h)
theorem lK.set {p:Addr}{H:Hp}{o:HO}:lK p H (upd H p o):=λb u n h=>by rw [xC n];exact h
theorem lK.new {p l:Addr}{H:Hp}{o:HO}(h:H l=none):lK p H (upd H l o):=λb u n e=>by rw [xC (xA e h)];exact e
def aL (H:Hp)(p:Addr):Prop:=∃ a b c:Int,H p=some (.lst [.int a,.int b,.int c])
def Go (p:Addr)(H H':Hp):Prop:=lK p H H'/\aL H' p
theorem Go.trans {p:Addr}{H H1 H2:Hp}(a:Go p H H1)(b:Go p H1 H2):Go p H H2:=⟨a.1.trans b.1,b.2⟩
theorem Go.refl {p:Addr}{H:Hp}(a:aL H p):Go p H H:=⟨lK.refl p H,a⟩
theorem aL.new {p l:Addr}{H:Hp}{o:HO}(a:aL H p)(h:H l=none):aL (upd H l o) p:=by obtain ⟨x,y,z,e⟩:=a;exact ⟨x,y,z,by rw [xC (xA e h)];exact e⟩
theorem aL.ne {p l:Addr}{H:Hp}(a:aL H p)(h:H l=none):l≠p:=by obtain ⟨x,y,z,e⟩:=a;exact (xA e h).symm
theorem Go.new {p l:Addr}{H H1:Hp}{o:HO}(a:Go p H H1)(h:H1 l=none):Go p H (upd H1 l o):=⟨a.1.trans (lK.new h),a.2.new h⟩
theorem aL.tup {p t:Addr}{H:Hp}{xs:List V}(a:aL H p)(h:H t=some (.tup xs)):t≠p:=by obtain ⟨x,y,z,e⟩:=a;exact pP h e (by intro z;cases z)
def dB (H H':Hp):Prop:=∀ b xs,H b=some (.tup xs)->H' b=some (.tup xs)
theorem Go.aJ {p:Addr}{H H':Hp}(a:Go p H H')(h:aL H p):dB H H':=λb xs e=>a.1 b _ (h.tup e) e
theorem dB.new {l:Addr}{H:Hp}{o:HO}(h:H l=none):dB H (upd H l o):=λb u e=>by rw [xC (xA e h)];exact e
theorem dB.set {l:Addr}{H:Hp}{xs:List V}{o:HO}(h:H l=some (.lst xs)):dB H (upd H l o):=λb u e=>by rw [xC (pP e h (by intro z;cases z))];exact e
theorem dB.same {H H':Hp}(h:aj H H'):dB H H':=λb u e=>h b _ e
structure M4 where
 lo:Int
 hi:Int
 t:Int
 m:Int
def M4.vs (r:M4):List V:=[.int r.lo,.int r.hi,.int r.t,.int r.m]
def apart (a b:M4):Prop:=a.lo≠b.lo/\a.lo≠b.hi/\a.hi≠b.lo/\a.hi≠b.hi
structure Good (w:Int) (ms:List M4):Prop where
 kT:ms.length<=60
 each:∀ r∈ms,0<=r.lo/\r.lo < r.hi/\r.hi < w/\1<=r.t/\r.t<=1000000000/\1<=r.m/\r.m<=99
 order:ms.Pairwise λa b=>a.t < b.t\/(a.t=b.t/\a.lo < b.lo/\apart a b)
def gw (H:Hp)(ps:List (Addr×M4)):Prop:=∀ a∈ps,H a.1=some (.tup a.2.vs)
structure bf (H:Hp) (b:Addr) (af:List Int) (tr tm:Addr) (ps:List (Addr×M4)):Prop where
 book:H b=some (.tup [.ref tr,.ref tm])
 af:H tr=some (.tup (af.map V.int))
 meets:H tm=some (.tup (ps.map λa=>V.ref a.1))
 rows:gw H ps
theorem gw.aJ {H H':Hp}{ps:List (Addr×M4)}(a:gw H ps)(t:dB H H'):gw H' ps:=λx hx=>t _ _ (a x hx)
theorem bf.aJ {H H':Hp}{b tr tm:Addr}{af:List Int}{ps:List (Addr×M4)}(a:bf H b af tr tm ps)(t:dB H H'):bf H' b af tr tm ps:=
 ⟨t _ _ a.book,t _ _ a.af,t _ _ a.meets,a.rows.aJ t⟩
def pF (K:PySem.W.Frag):Sp:=λvs H Q _=>∃ (a:Addr) (ns:List Int),vs=[.ref a]/\av K H a (ns.map V.int)/\ns.length<=63/\∀ H',Q (.bl true) H'
def IM (K:PySem.W.Frag):Sp:=λvs H Q _=>∃ (a:Addr) (ns:List Int) (k:Nat),vs=[.ref a,.int k]/\av K H a (ns.map V.int)/\k < 1000/\∀ p H',H p=none->aL H' p->aj H H'->Q (.ref p) H'
def KU:Sp:=λvs H Q _=>∃ p n,vs=[.ref p,.int n]/\0 < n/\n < 2 ^ 200/\aL H p/\∀ d H',0<=d->d < n->Go p H H'->Q (.int d) H'
def M3:Sp:=λvs H Q _=>∃ p,vs=[.ref p]/\aL H p/\∀ d H',0<=d->d<=1000000000->Go p H H'->Q (.int d) H'
def IL:Sp:=λvs H Q _=>∃ p,∃ n:Nat,vs=[.ref p,.int n]/\n<=1000/\aL H p/\∀ (t:Addr) (af:List Int) (H':Hp),Go p H H'->H' t=some (.tup (af.map V.int))->af.length=n->(∀ r∈af,(0:Int)<=r/\r<=99)->Q (.ref t) H'
def KW:Sp:=λvs H Q _=>∃ p,vs=[.ref p]/\aL H p/\∀ d H',0<=d->d<=16000000->Go p H H'->Q (.int d) H'
def n5:Sp:=λvs H Q _=>∃ p,∃ w:Int,∃ n:Nat,vs=[.ref p,.int w,.int n]/\n<=60/\w < 1000/\(n=0\/2<=w)/\aL H p /\
 ∀ (t:Addr) (ps:List (Addr×M4)) (H':Hp),Go p H H'->H' t=some (.tup (ps.map λa=>V.ref a.1))->gw H' ps->Good w (ps.map (·.2))->ps.length=n->Q (.ref t) H'
def KY:Sp:=λvs H Q _=>∃ p,∃ a:Int,∃ n:Nat,vs=[.ref p,.int a,.int n]/\1<=a/\a<=100/\n<=60/\aL H p /\
 ∀ (b:Addr) (af:List Int) (tr tm:Addr) (ps:List (Addr×M4)) (H':Hp),Go p H H'->bf H' b af tr tm ps->1<=af.length->(af.length:Int)<=a->(∀ r∈af,(0:Int)<=r/\r<=99)->Good af.length (ps.map (·.2))->ps.length<=n->Q (.ref b) H'
theorem jz {c A B:Prop}[Decidable c](h1:c->A)(h2:¬ c->B):if decide c=true then A else B:=by
 by_cases h:c
 ·rw [if_pos (decide_eq_true h)];exact h1 h
 ·rw [if_neg (by simpa using h)];exact h2 h
theorem aG {c:Bool}{A B:Prop}(hc:c=false)(h:B):if c=true then A else B:=by rw [if_neg (by rw [hc];exact zN)];exact h
theorem aO {c:Bool}{A B:Prop}(hc:c=true)(h:A):if c=true then A else B:=by rw [if_pos hc];exact h
theorem Jt {c:Bool}{A B:Prop}(h1:c=true->A)(h2:c=false->B):if c=true then A else B:=by
 cases c with
 | true=>exact h1 rfl
 | false=>exact h2 rfl
theorem yy {H:Hp}{p:Addr}{o:HO}(h:H p=none):aj H (upd H p o):=λb u e=>by
 rw [xC (xA e h)];exact e
def M4.row (r:M4):List Int:=[r.t,r.lo,r.hi,r.m]
structure Mf (w JL:Int) (bs:List Int) (fs:List (Addr×M4)):Prop where
 each:∀ a∈fs,0<=a.2.lo/\a.2.lo < a.2.hi/\a.2.hi < w/\1<=a.2.t/\a.2.t<=JL/\1<=a.2.m/\a.2.m<=99
 pw:fs.Pairwise λa b=>a.2.t=b.2.t->apart a.2 b.2
 bz:∀ a∈fs,a.2.t=JL->a.2.lo∈bs/\a.2.hi∈bs
theorem Mf.step {w wh gap one other m:Int}{bs bs':List Int}{fs:List (Addr×M4)}{a:Addr}(F:Mf w wh bs fs)(h1:1<=wh)(g0:0<=gap)(o0:0<=one)(o1:one < w)(p0:0<=other)(p1:other < w)(ne:one≠other)
  (m0:1<=m) (m1:m<=99) (hg:gap=0->one ∉ bs/\other ∉ bs) (hb:∀ x∈bs,gap=0->x∈bs') (bZ:one∈bs') (iy:other∈bs') :
  Mf w (wh + gap) bs' (fs++[(a,⟨if other < one then other else one,if other > one then other else one,wh + gap,m⟩)]):=by
 refine ⟨λb hb=>?_,?_,λb hm e=>?_⟩
 ·rcases zS.mp hb with h | h
  ·obtain ⟨a1,a2,a3,a4,a5,a6,a7⟩:=F.each b h;exact ⟨a1,a2,a3,a4,by omega,a6,a7⟩
  ·cases zG.mp h;by_cases c:other < one
   ·rw [if_pos c,if_neg (by omega)];exact ⟨p0,c,o1,by show 1<=wh + gap;omega,Int.le_refl _,m0,m1⟩
   ·rw [if_neg c,if_pos (by omega)];exact ⟨o0,by show one < other;omega,p1,by show 1<=wh + gap;omega,Int.le_refl _,m0,m1⟩
 ·rw [List.pairwise_append];refine ⟨F.pw,List.pairwise_singleton _ _,λb hb c hc e=>?_⟩;cases zG.mp hc;have e':b.2.t=wh + gap:=e;obtain ⟨a1,a2,a3,a4,a5,a6,a7⟩:=F.each b hb;have g:gap=0:=by omega
  obtain ⟨x1,x2⟩:=F.bz b hb (by omega);obtain ⟨n1,n2⟩:=hg g;have q1:b.2.lo≠one:=λz=>n1 (z ▸ x1);have q2:b.2.lo≠other:=λz=>n2 (z ▸ x1);have q3:b.2.hi≠one:=λz=>n1 (z ▸ x2);have q4:b.2.hi≠other:=λz=>n2 (z ▸ x2);unfold apart;dsimp only;by_cases c:other < one
  ·rw [if_pos c,if_neg (by omega)];exact ⟨q2,q1,q4,q3⟩
  ·rw [if_neg c,if_pos (by omega)];exact ⟨q1,q2,q3,q4⟩
 ·rcases zS.mp hm with h | h
  ·obtain ⟨a1,a2,a3,a4,a5,a6,a7⟩:=F.each b h;obtain ⟨x1,x2⟩:=F.bz b h (by omega);exact ⟨hb _ x1 (by omega),hb _ x2 (by omega)⟩
  ·cases zG.mp h;by_cases c:other < one
   ·rw [if_pos c,if_neg (by omega)];exact ⟨iy,bZ⟩
   ·rw [if_neg c,if_pos (by omega)];exact ⟨bZ,iy⟩
def M4.fO (l:Int)(r:M4):M4:=⟨r.lo,r.hi,r.t + l,r.m⟩
theorem Mf.good {w wh l:Int}{bs:List Int}{fs qs:List (Addr×M4)}(F:Mf w wh bs fs)(n:fs.length<=60)(l0:0<=l)(l1:fs≠[]->wh + l<=1000000000)(p:qs.Perm fs)(s:qs.Pairwise λa b=>lx b.2.row a.2.row=false) :
  Good w (qs.map λa=>a.2.fO l):=by
 refine ⟨by rw [zA,p.length_eq];exact n,λr hr=>?_,?_⟩
 ·obtain ⟨a,ha,rfl⟩:=zP.mp hr;have hm:=p.mem_iff.mp ha;obtain ⟨a1,a2,a3,a4,a5,a6,a7⟩:=F.each a hm;have:=l1 (List.ne_nil_of_mem hm);unfold M4.fO;exact ⟨a1,a2,a3,by show 1<=a.2.t + l;omega,by show a.2.t + l<=1000000000;omega,a6,a7⟩
 ·rw [List.pairwise_map];have ap:qs.Pairwise λa b=>a.2.t=b.2.t->apart a.2 b.2:=(List.Perm.pairwise_iff (λ{x y} h e=>by
   obtain ⟨a1,a2,a3,a4⟩:=h e.symm;exact ⟨a1.symm,a3.symm,a2.symm,a4.symm⟩) p).mpr F.pw
  refine (s.and ap).imp λ{a b} ⟨h1,h2⟩=>?_;unfold M4.fO;dsimp only;unfold M4.row lx at h1;by_cases e:a.2.t=b.2.t
  ·have q:=h2 e;rw [if_pos e.symm] at h1;unfold lx at h1;rw [if_neg λz=>q.1 z.symm] at h1;simp only [decide_eq_false_iff_not] at h1;refine .inr ⟨by omega,?_,q⟩;have:=q.1;omega
  ·rw [if_neg λz=>e z.symm] at h1;simp only [decide_eq_false_iff_not] at h1;exact .inl (by omega)
def KI (r:List Int):M4:=⟨r.getD 1 0,r.getD 2 0,r.getD 0 0,r.getD 3 0⟩
theorem qF {fs:List (Addr×M4)}{qs:List (Addr×List Int)}(p:qs.Perm (fs.map λa=>(a.1,a.2.row)))(s:qs.Pairwise λa b=>lx b.2 a.2=false) :
  ∃ rs:List (Addr×M4),rs.Perm fs/\(rs.Pairwise λa b=>lx b.2.row a.2.row=false)/\qs=rs.map λa=>(a.1,a.2.row):=by
 have e:qs=(qs.map λa=>(a.1,KI a.2)).map λa=>(a.1,a.2.row):=by
  rw [yR];refine (List.map_id qs).symm.trans (List.map_congr_left λx hx=>?_);obtain ⟨a,_,rfl⟩:=zP.mp (p.mem_iff.mp hx);rfl
 refine ⟨qs.map λa=>(a.1,KI a.2),?_,?_,e⟩
 ·have:=p.map λa=>(a.1,KI a.2);rw [yR] at this;refine this.trans (.of_eq ?_);refine (List.map_congr_left λx _=>?_).trans (List.map_id fs);rfl
 ·rw [e,List.pairwise_map] at s;exact s
theorem jT (bs:List Int):(bs.map V.int).all bW=true:=by rw [yV];intro x hx;obtain ⟨b,_,rfl⟩:=zP.mp hx;rfl
theorem mQ {x:Int}{bs:List Int}:OX (.int x) (bs.map V.int)=decide (x∈bs):=by
 unfold OX;induction bs with
 | nil=>rfl
 | cons b bs ih=>
  rw [yl,List.any_cons,ih];by_cases h:x=b
  ·subst h;simp [oQ]
  ·have h':¬ b=x:=λz=>h z.symm;simp [oQ,h,h']
def Pj (p lf:Addr)(w:Int)(n:Nat)(H:Hp)(i:Nat)(σ:St)(H3:Hp):Prop:=
 ∃ v6 v7 v8 v9 v10 wh lb bs,∃ fs:List (Addr×M4),σ=[some (.ref p),some (.int w),some (.int n),some (.ref lf),some (.int wh),some (.ref lb),v6,v7,v8,v9,v10,none] /\
  H3 lf=some (.lst (fs.map λa=>V.ref a.1))/\H3 lb=some (.lst (List.map V.int bs))/\lb≠lf/\lb≠p/\(∀ a∈fs,H3 a.1=some (.tup (a.2.row.map V.int)))/\Mf w wh bs fs/\fs.length=i/\bs.length<=2 * i/\1<=wh/\wh<=10000000 + 16000000 * i/\Go p H H3
theorem Pj.step {p lf lb t:Addr}{w wh gap one other m:Int}{n i:Nat}{H Hx:Hp}{bs bs':List Int}{fs:List (Addr×M4)}{v6 v7 v8 v9 v10:Option V}(vU:lf≠p)(nH:H lf=none)
  (F:Mf w wh bs fs) (uu:fs.length=i) (Ll:bs'.length<=2 * i + 2) (OC:1<=wh) (Qs:wh<=10000000 + 16000000 * i) (hf:Hx lf=some (.lst (fs.map λa=>V.ref a.1))) (hb:Hx lb=some (.lst (List.map V.int bs'))) (nb:lb≠lf) (Nf:lb≠p)
  (rows:∀ a∈fs,Hx a.1=some (.tup (a.2.row.map V.int))) (go:Go p H Hx) (ht:Hx t=none)
  (g0:0<=gap) (g1:gap<=16000000) (o0:0<=one) (o1:one < w) (p0:0<=other) (p1:other < w) (ne:one≠other) (m0:1<=m) (m1:m<=99) (hg:gap=0->one ∉ bs/\other ∉ bs) (Mx:∀ x∈bs,gap=0->x∈bs') (bZ:one∈bs') (iy:other∈bs') :
  Pj p lf w n H (i + 1) [some (.ref p),some (.int w),some (.int n),some (.ref lf),some (.int (wh + gap)),some (.ref lb),v6,v7,v8,v9,v10,none]
   (upd (upd Hx t (.tup [.int (wh + gap),.int (if other < one then other else one),.int (if other > one then other else one),.int m])) lf (.lst ((fs.map λa=>V.ref a.1)++[.ref t]))):=by
 have V1:t≠lf:=(xA hf ht).symm;refine ⟨v6,v7,v8,v9,v10,wh + gap,lb,bs',fs++[(t,⟨if other < one then other else one,if other > one then other else one,wh + gap,m⟩)],rfl,by rw [yq,zJ];rfl,?_,nb,Nf,λa ha=>?_,F.step OC g0 o0 o1 p0 p1 ne m0 m1 hg Mx bZ iy,by rw [zH,uu];rfl,by omega,by omega,by omega,λb u nb e=>?_,?_⟩
 ·rw [xC nb,xC (xA hb ht)];exact hb
 ·rcases zS.mp ha with h | h
  ·have:=rows a h;rw [xC (pP this hf (by intro z;cases z)),xC (xA this ht)];exact this
  ·cases zG.mp h;rw [xC V1,yq];rfl
 ·rw [xC (xA e nH),xC (xA (go.1 b u nb e) ht)];exact go.1 b u nb e
 ·have:=go.2.new (o:=.tup [.int (wh + gap),.int (if other < one then other else one),.int (if other > one then other else one),.int m]) ht;obtain ⟨x,y,z,e⟩:=this;exact ⟨x,y,z,by rw [xC vU.symm];exact e⟩
theorem Le {one x w:Int}(o0:0<=one)(o1:one < w)(x0:0<=x)(x1:x < w - 1):0<=(one + 1 + x) % w/\(one + 1 + x) % w < w/\one≠(one + 1 + x) % w:=by
 refine ⟨yi _ (by omega),yX _ (by omega),?_⟩;by_cases h:one + 1 + x < w
 ·rw [Int.emod_eq_of_lt (by omega) h];omega
 ·have e:(one + 1 + x) % w=(one + 1 + x - w) % w:=by
   have:one + 1 + x=(one + 1 + x - w) + w:=by omega
   rw [this,Int.add_emod_right];congr 1;omega
  rw [e,Int.emod_eq_of_lt (by omega) (by omega)];omega
theorem Go.same {p:Addr}{H H1 H2:Hp}(a:Go p H H1)(s:aj H1 H2):Go p H H2:=⟨λb u n e=>s b u (a.1 b u n e),by obtain ⟨x,y,z,e⟩:=a.2;exact ⟨x,y,z,s _ _ e⟩⟩
theorem xT {α:Type}{f:α->V}{l:List α}{i:Nat}{x:V}(h:(l.map f)[i]?=some x):∃ r,l[i]?=some r/\x=f r:=by
 rw [zF] at h;cases e:l[i]? with
 | none=>rw [e] at h;cases h
 | some r=>rw [e] at h;exact ⟨r,rfl,(Option.some.inj h).symm⟩
theorem xb {α:Type}{l:List α}{i:Nat}{r:α}(h:l[i]?=some r):l.take (i + 1)=l.take i++[r]:=by rw [List.take_add_one,h];rfl
theorem av.but {K:PySem.W.Frag}{p a:Addr}{H H':Hp}{xs:List V}(h:av K H a xs)(hp:H p=none)(s:lK p H H'):av K H' a xs:=by
 rcases h with (h | ⟨o,h⟩) | h
 ·exact .inl (.inl (s _ _ (xA h hp) h))
 ·exact .inl (.inr ⟨o,s _ _ (xA h hp) h⟩)
 ·exact .inr h
theorem aj.put {l:Addr}{H H':Hp}{o:HO}(h:H l=none)(s:aj H H'):aj H (upd H' l o):=λb u e=>by rw [xC (xA e h)];exact s b u e
theorem bf.same {H H':Hp}{b tr tm:Addr}{af:List Int}{ps:List (Addr×M4)}(a:bf H b af tr tm ps)(t:aj H H'):bf H' b af tr tm ps:=a.aJ (dB.same t)
theorem bK {H:Hp}{l:Addr}{xs:List V}(h:H l=some (.lst xs)):ig H (.ref l)=some "list" := by simp only [ig,h]
def pD:Sp:=λvs H Q _=>∃ x t,vs=[x]/\ig H x=some t/\Q (.bl (t == "int")) H
theorem IE {H:Hp}{x:V}(h:ig H x=some "int"):∃ i,x=.int i:=by
 cases x with
 | int i=>exact ⟨i,rfl⟩
 | ref a=>
  unfold ig at h;dsimp only at h;split at h <;> simp at h
 | _=>simp [ig] at h
def RV (w:Int)(r:M4):Bool:=decide (r.lo=w) || decide (r.hi=w)
def numsTo (ms:List M4)(w:Int):Nat->List Int
 | 0=>[]
 | i + 1=>numsTo ms w i++(if (ms[i]?).any (RV w)=true then [(i:Int)] else [])
def cnt (ms:List M4)(t:Int):Nat:=(ms.filter λr=>decide (r.t<=t)).length
theorem fU {ms:List M4}{t:Int}{i:Nat}{r:M4}(h:ms[i]?=some r):cnt (ms.take (i + 1)) t=cnt (ms.take i) t + (if r.t<=t then 1 else 0):=by unfold cnt;rw [xb h,List.filter_append,zH];congr 1;by_cases c:r.t<=t <;> simp [c]
def lX:Sp:=λvs H Q _=>∃ b t af tr tm ps,vs=[.ref b,.int t]/\bf H b af tr tm ps/\ps.length<=1000/\∀ H',aj H H'->Q (.int (cnt (ps.map (·.2)) t)) H'
def sQ:Sp:=λvs H Q _=>∃ p b j af tr tm ps,vs=[.ref p,.ref b,.int j]/\(j=0\/j=1)/\bf H b af tr tm ps/\Good af.length (ps.map (·.2))/\aL H p/\∀ d H',0<=d->d<=1000000000->Go p H H'->Q (.int d) H'
theorem Good.len {w:Int}{ps:List (Addr×M4)}(g:Good w (ps.map (·.2))):ps.length<=60:=by simpa using g.kT
theorem Good.at {w:Int}{ps:List (Addr×M4)}(g:Good w (ps.map (·.2))){r:Addr×M4}(h:r∈ps):0<=r.2.lo/\r.2.lo < r.2.hi/\r.2.hi < w/\1<=r.2.t/\r.2.t<=1000000000/\1<=r.2.m/\r.2.m<=99:=g.each _ (zP.mpr ⟨r,h,rfl⟩)
end Sm
namespace L2
open PySem PySem.Spec PyProof.Rows
end L2
namespace dj
open PySem
theorem jm {xs:Array Nat}{j:Nat}(so:xs.toList.Pairwise (· < ·)):∀ (fuel lo hi:Nat),hi - lo<=fuel->lo<=hi->hi<=xs.size->(∀ i (h:i < xs.size),i < lo->xs[i] < j)->(∀ i (h:i < xs.size),hi<=i->j<=xs[i]) ->
  SetTable.below.go xs j fuel lo hi<=xs.size/\(∀ i (h:i < xs.size),i < SetTable.below.go xs j fuel lo hi->xs[i] < j)/\∀ i (h:i < xs.size),SetTable.below.go xs j fuel lo hi<=i->j<=xs[i]
 | 0,lo,hi,hf,h1,h2,hl,hh=>by
  have:lo=hi:=by omega
  subst this;unfold SetTable.below.go;exact ⟨h2,hl,hh⟩
 | fuel + 1,lo,hi,hf,h1,h2,hl,hh=>by
  unfold SetTable.below.go;have mono:∀ a b (ha:a < xs.size) (hb:b < xs.size),a < b->xs[a] < xs[b]:=λa b ha hb ab=>by
   have:=List.pairwise_iff_getElem.mp so a b (by simpa using ha) (by simpa using hb) ab;simpa using this
  by_cases c:lo < hi
  ·rw [if_pos c];dsimp only;have hm:(lo + hi) / 2 < xs.size:=by omega
   have e:xs.getD ((lo + hi) / 2) j=xs[(lo + hi) / 2]:=by simp [Array.getD,hm]
   rw [e];by_cases d:xs[(lo + hi) / 2] < j
   ·rw [if_pos d];refine jm so fuel _ _ (by omega) (by omega) h2 (λi h cU=>?_) hh;by_cases q:i=(lo + hi) / 2
    ·subst q;exact d
    ·exact Nat.lt_trans (mono i ((lo + hi) / 2) h hm (by omega)) d
   ·rw [if_neg d];refine jm so fuel _ _ (by omega) (by omega) (by omega) hl (λi h cU=>?_);by_cases q:i=(lo + hi) / 2
    ·subst q;omega
    ·have:=mono ((lo + hi) / 2) i hm h (by omega);omega
  ·rw [if_neg c];have:lo=hi:=by omega
   subst this;exact ⟨h2,hl,hh⟩
theorem jk {xs:Array Nat}{j:Nat}(so:xs.toList.Pairwise (· < ·)):SetTable.below xs j<=xs.size/\(∀ i (h:i < xs.size),i < SetTable.below xs j->xs[i] < j)/\∀ i (h:i < xs.size),SetTable.below xs j<=i->j<=xs[i]:=
 jm so _ _ _ (by omega) (by omega) (zE _) (λ_ _ h=>absurd h (zU _)) (λi h hi=>absurd h (by omega))
theorem below_at {xs:Array Nat}{j i:Nat}(so:xs.toList.Pairwise (· < ·))(h:xs[i]?=some j):SetTable.below xs j=i:=by
 obtain ⟨hi,e⟩:=Array.getElem?_eq_some_iff.mp h;obtain ⟨b1,b2,b3⟩:=jk (j:=j) so;rcases Nat.lt_trichotomy (SetTable.below xs j) i with c | c | c
 ·have hb:SetTable.below xs j < xs.size:=by omega
  have:=b3 _ hb (zE _);have m:=List.pairwise_iff_getElem.mp so (SetTable.below xs j) i (by simpa using hb) (by simpa using hi) c;simp only [Array.getElem_toList] at m;omega
 ·exact c
 ·have:=b2 i hi c;omega
theorem gb {t:SetTable}{j i:Nat}(so:t.place.toList.Pairwise (· < ·))(h:t.place[i]?=some j):t.slot j=.live i:=by unfold SetTable.slot;dsimp only;rw [below_at so h,h];simp
theorem oh {t:SetTable}{j:Nat}(nd:t.dummies=#[])(h:j ∉ t.place.toList):t.slot j=.empty:=by
 unfold SetTable.slot;dsimp only;rw [if_neg,if_neg]
 ·rw [nd];unfold SetTable.has;simp
 ·intro c;have:t.place[SetTable.below t.place j]?=some j:=by simpa using c
  exact h (by simpa using Array.mem_of_getElem? this)
def rT (m:Nat)(p:SetTable.Probe):SetTable.Probe:=
 if p.more > 0 then { p with j:=p.j + 1,more:=p.more - 1 } else
 { p with j:=(SetTable.leap m p.i p.perturb).1,more:=SetTable.runEnd m (SetTable.leap m p.i p.perturb).1 - (SetTable.leap m p.i p.perturb).1,i:=(SetTable.leap m p.i p.perturb).1,perturb:=(SetTable.leap m p.i p.perturb).2 }
theorem jo (t:SetTable)(p:SetTable.Probe):t.advance p=rT t.mask p:=rfl
def run (m i u:Nat):SetTable.Probe:={ j:=i,more:=SetTable.runEnd m i - i,i,perturb:=u,dummy:=none }
def start (m:Nat)(h:Int):SetTable.Probe:=run m (SetTable.bits h % (m + 1)) (SetTable.bits h)
def ad (m:Nat):Nat->SetTable.Probe->SetTable.Probe
 | 0,p=>p
 | n + 1,p=>ad m n (rT m p)
theorem fZ (m n:Nat)(p:SetTable.Probe):ad m (n + 1) p=rT m (ad m n p):=by
 induction n generalizing p with
 | zero=>rfl
 | succ n ih=>exact ih (rT m p)
theorem vI (m a b:Nat)(p:SetTable.Probe):ad m (a + b) p=ad m b (ad m a p):=by
 induction a generalizing p with
 | zero=>rw [Nat.zero_add];rfl
 | succ a ih=>rw [Nat.succ_add];exact ih (rT m p)
theorem rE {m:Nat}{p:SetTable.Probe}:(rT m p).dummy=p.dummy:=by unfold rT;split <;> rfl
theorem nB {m:Nat}:∀ {n:Nat}{p:SetTable.Probe},(ad m n p).dummy=p.dummy
 | 0,_=>rfl
 | n + 1,p=>(nB (n:=n)).trans rE
def at' (m:Nat)(h:Int)(n:Nat):Nat:=(ad m n (start m h)).j
theorem d7 {m i u:Nat}:∀ k,k<=SetTable.runEnd m i - i->ad m k (run m i u)={ j:=i + k,more:=SetTable.runEnd m i - i - k,i,perturb:=u,dummy:=none }
 | 0,_=>rfl
 | k + 1,h=>by
  rw [fZ,d7 k (by omega)];unfold rT;dsimp only;rw [if_pos (by omega)];rfl
theorem gS {m i u:Nat}:ad m (SetTable.runEnd m i - i + 1) (run m i u)=run m ((i * 5 + 1 + u / 32) % (m + 1)) (u / 32):=by rw [fZ,d7 _ (zE _)];unfold rT;dsimp only;rw [if_neg (by omega)];rfl
theorem cQ {m i:Nat}:SetTable.runEnd m i - i<=9/\i<=SetTable.runEnd m i/\(i<=m->SetTable.runEnd m i<=m):=by unfold SetTable.runEnd;split <;> omega
def runs (m:Nat):Nat->Nat->Nat->Nat×Nat
 | 0,i,u=>(i,u)
 | r + 1,i,u=>runs m r ((i * 5 + 1 + u / 32) % (m + 1)) (u / 32)
theorem pI {m:Nat}:∀ (r i u:Nat),∃ c,c<=10 * r/\ad m c (run m i u)=run m (runs m r i u).1 (runs m r i u).2
 | 0,i,u=>⟨0,zE _,rfl⟩
 | r + 1,i,u=>by
  obtain ⟨c,hc,e⟩:=pI r ((i * 5 + 1 + u / 32) % (m + 1)) (u / 32);refine ⟨SetTable.runEnd m i - i + 1 + c,?_,?_⟩
  ·have:=(cQ (m:=m) (i:=i)).1;omega
  ·rw [vI,gS,e];rfl
theorem lY {m:Nat}:∀ (a b i u:Nat),runs m (a + b) i u=runs m b (runs m a i u).1 (runs m a i u).2
 | 0,b,i,u=>by rw [Nat.zero_add];rfl
 | a + 1,b,i,u=>by rw [Nat.succ_add];exact lY a b _ _
theorem fG {m:Nat}:∀ (r i u:Nat),(runs m r i u).2=u / 32 ^ r
 | 0,i,u=>by simp [runs]
 | r + 1,i,u=>by
  show (runs m r _ (u / 32)).2=_;rw [fG r,Nat.div_div_eq_div_mul,Nat.pow_succ,Nat.mul_comm]
theorem iL {m:Nat}:∀ (r i u:Nat),i<=m->(runs m r i u).1<=m
 | 0,i,u,h=>h
 | r + 1,i,u,h=>iL r _ _ (yO.mp (Nat.mod_lt _ (by omega)))
def f5 (m:Nat):Nat->Nat->Nat
 | 0,i=>i
 | s + 1,i=>f5 m s ((i * 5 + 1) % (m + 1))
theorem pH {m:Nat}:∀ (s i:Nat),(runs m s i 0).1=f5 m s i
 | 0,i=>rfl
 | s + 1,i=>by
  show (runs m s ((i * 5 + 1 + 0 / 32) % (m + 1)) (0 / 32)).1=f5 m s ((i * 5 + 1) % (m + 1));rw [Nat.zero_div,Nat.add_zero];exact pH s _
theorem kU {m:Nat}:∀ (a b i:Nat),f5 m (a + b) i=f5 m b (f5 m a i)
 | 0,b,i=>by rw [Nat.zero_add];rfl
 | a + 1,b,i=>by rw [Nat.succ_add];exact kU a b _
def k7 (m:Nat):Nat->Nat->Nat->Nat
 | 0,_,acc=>acc
 | s + 1,i,acc=>k7 m s ((i * 5 + 1) % (m + 1)) (acc ||| (2 ^ i))
theorem gR {m j:Nat}:∀ (s i acc:Nat),(k7 m s i acc).testBit j=true->acc.testBit j=true\/∃ a,a < s/\f5 m a i=j
 | 0,i,acc,h=>.inl h
 | s + 1,i,acc,h=>by
  rcases gR s _ _ h with h | ⟨a,ha,e⟩
  ·rw [Nat.testBit_or,Bool.or_eq_true] at h;rcases h with h | h
   ·exact .inl h
   ·rw [Nat.testBit_two_pow] at h;exact .inr ⟨0,by omega,of_decide_eq_true h⟩
  ·exact .inr ⟨a + 1,by omega,e⟩
def Mask (m:Nat):Prop:=m=7\/m=31\/m=127\/m=511\/m=2047\/m=8191
theorem LW {m:Nat}(hm:Mask m):f5 m (m + 1) 0=0/\∀ j,j<=m->∃ a,a<=m/\f5 m a 0=j:=by
 have key:f5 m (m + 1) 0=0/\k7 m (m + 1) 0 0=2 ^ (m + 1) - 1:=by
  rcases hm with rfl | rfl | rfl | rfl | rfl | rfl <;> constructor <;> decide +kernel
 refine ⟨key.1,λj hj=>?_⟩;have:(k7 m (m + 1) 0 0).testBit j=true:=by
  rw [key.2,Nat.testBit_two_pow_sub_one];exact decide_eq_true (by omega)
 rcases gR _ _ _ this with h | ⟨a,ha,e⟩
 ·simp at h
 ·exact ⟨a,by omega,e⟩
theorem cover {m i j:Nat}(hm:Mask m)(hi:i<=m)(hj:j<=m):∃ s,s<=m/\f5 m s i=j:=by
 obtain ⟨z,all⟩:=LW hm;obtain ⟨a,ha,rfl⟩:=all i hi;obtain ⟨b,hb,rfl⟩:=all j hj;by_cases c:a<=b
 ·exact ⟨b - a,by omega,by rw [<-kU];congr 1;omega⟩
 ·refine ⟨b + (m + 1) - a,by omega,?_⟩;rw [<-kU,show a + (b + (m + 1) - a)=(m + 1) + b from by omega,kU,z]
theorem reach {m i u j:Nat}(hm:Mask m)(hi:i<=m)(hu:u < 2 ^ 64)(hj:j<=m):∃ r,r<=m + 13/\(runs m r i u).1=j:=by
 have p0:(runs m 13 i u).2=0:=by
  rw [fG];exact Nat.div_eq_of_lt (zY hu (by decide))
 obtain ⟨s,hs,e⟩:=cover hm (iL 13 i u hi) hj;refine ⟨13 + s,by omega,?_⟩;rw [lY,p0,pH,e]
theorem p9 (h:Int):SetTable.bits h < 2 ^ 64:=by
 unfold SetTable.bits;have a:=yi h (show (2 ^ 64:Int)≠0 by decide);have b:=yX h (show (0:Int) < 2 ^ 64 by decide);have c:((h % 2 ^ 64).toNat:Int)=h % 2 ^ 64:=Int.toNat_of_nonneg a;have d:((2 ^ 64:Nat):Int)=(2:Int) ^ 64:=by decide
 omega
theorem tE {m j:Nat}{h:Int}(hm:Mask m)(hj:j<=m):∃ n,n<=10 * (m + 13)/\at' m h n=j:=by obtain ⟨r,hr,e⟩:=reach (u:=SetTable.bits h) hm (yO.mp (Nat.mod_lt (SetTable.bits h) (show 0 < m + 1 by omega))) (p9 h) hj;obtain ⟨c,hc,e2⟩:=pI (m:=m) r (SetTable.bits h % (m + 1)) (SetTable.bits h);refine ⟨c,by omega,?_⟩;unfold at' start;rw [e2,e];rfl
theorem least {P:Nat->Prop}:∀ n,P n->∃ k,k<=n/\P k/\∀ i,i < k->¬ P i:=by
 intro n;induction n using Nat.strongRecOn with
 | _ n ih=>
  intro h;by_cases c:∃ i,i < n/\P i
  ·obtain ⟨i,hi,pi⟩:=c;obtain ⟨k,hk,pk,al⟩:=ih i hi pi;exact ⟨k,by omega,pk,al⟩
  ·exact ⟨n,zE _,h,λi hi pi=>c ⟨i,hi,pi⟩⟩
theorem oO {m:Nat}{O:Nat->Prop}(h:Int)(hm:Mask m)(he:∃ j,j<=m/\¬ O j):∃ N,N<=10 * (m + 13)/\¬ O (at' m h N)/\∀ n,n < N->O (at' m h n):=by obtain ⟨j,hj,no⟩:=he;obtain ⟨n,hn,e⟩:=tE (h:=h) hm hj;obtain ⟨k,hk,pk,al⟩:=least (P:=λn=>¬ O (at' m h n)) n (by rw [e];exact no);exact ⟨k,by omega,pk,λi hi=>Classical.byContradiction λc=>al i hi c⟩
theorem ny {m:Nat}{h:Int}:∀ n,at' m h n<=m:=by
 have key:∀ n,(ad m n (start m h)).j + (ad m n (start m h)).more<=m:=by
  have step:∀ p:SetTable.Probe,p.j + p.more<=m->(rT m p).j + (rT m p).more<=m:=λp hp=>by
   unfold rT;split
   ·dsimp only;omega
   ·dsimp only;have l:(SetTable.leap m p.i p.perturb).1<=m:=yO.mp (Nat.mod_lt _ (by omega));have:=cQ (m:=m) (i:=(SetTable.leap m p.i p.perturb).1);have:=this.2.2 l;omega
  intro n;induction n with
  | zero=>
   show SetTable.bits h % (m + 1) + (SetTable.runEnd m (SetTable.bits h % (m + 1)) - SetTable.bits h % (m + 1))<=m;have l:SetTable.bits h % (m + 1)<=m:=yO.mp (Nat.mod_lt _ (by omega));have:=cQ (m:=m) (i:=SetTable.bits h % (m + 1));have:=this.2.2 l;omega
  | succ n ih=>rw [fZ];exact step _ ih
 intro n;have:=key n;unfold at';omega
end dj
namespace dj
open PySem
structure Tab (t:SetTable) (es:Array (Int×Value)):Prop where
 mask:Mask t.mask
 nd:t.dummies=#[]
 so:t.place.toList.Pairwise (· < ·)
 sz:t.place.size=es.size
 small:∀ j∈t.place.toList,j<=t.mask
 jO:es.size * 5 < t.mask * 3
 way:∀ i (h:i < es.size),∃ n,t.place[i]?=some (at' t.mask es[i].1 n)/\∀ n',n' < n->at' t.mask es[i].1 n'∈t.place.toList
theorem Tab.room {t:SetTable}{es:Array (Int×Value)}(T:Tab t es):es.size<=t.mask:=by have:=T.jO;omega
theorem Tab.fits {t:SetTable}{es:Array (Int×Value)}(T:Tab t es):t.fits es.size=true:=by unfold SetTable.fits SetTable.fill;have:=T.room;rw [T.sz,T.nd];simp;exact this
theorem Tab.odd {t:SetTable}{es:Array (Int×Value)}(T:Tab t es):t.gaveWay=false:=by unfold SetTable.gaveWay;rcases T.mask with h | h | h | h | h | h <;> rw [h] <;> rfl
theorem lA:∀ (n:Nat) (l:List Nat),(∀ j,j < n->j∈l)->n<=l.length
 | 0,_,_=>zV _
 | n + 1,l,h=>by
  have:=lA n (l.erase n) λj hj=>(List.mem_erase_of_ne (by omega)).mpr (h j (by omega));rw [List.length_erase_of_mem (h n (by omega))] at this;have:=List.length_pos_of_mem (h n (by omega));omega
theorem uv {l:List Nat}{m:Nat}(h:l.length<=m):∃ j,j<=m/\j ∉ l:=by refine Classical.byContradiction λc=>?_;have:=lA (m + 1) l λj hj=>Classical.byContradiction λz=>c ⟨j,by omega,z⟩;omega
theorem Tab.left {t:SetTable}{es:Array (Int×Value)}(T:Tab t es):∃ j,j<=t.mask/\¬ j∈t.place.toList:=by have:=uv (l:=t.place.toList) (m:=t.mask) (by rw [Array.length_toList,T.sz];exact T.room);exact this
theorem Tab.first {t:SetTable}{es:Array (Int×Value)}(T:Tab t es)(h:Int):∃ N,N<=10 * (t.mask + 13)/\¬ at' t.mask h N∈t.place.toList/\∀ n,n < N->at' t.mask h n∈t.place.toList:=oO h T.mask T.left
theorem vG {t:SetTable}{j:Nat}(h:j∈t.place.toList):∃ i:Nat,t.place[i]?=some j:=by obtain ⟨i,hi,e⟩:=List.getElem_of_mem h;exact ⟨i,by rw [<-Array.getElem?_toList,zD hi,e]⟩
theorem mj {t:SetTable}{es:Array (Int×Value)}(T:Tab t es){hashAt:Nat->Int}{h:Int}{N:Nat}(hN:¬ at' t.mask h N∈t.place.toList)(gY:∀ n,n < N->at' t.mask h n∈t.place.toList) :
  ∀ (d k fuel:Nat),N - k=d->k<=N->d < fuel ->
   (∃ n i,k<=n/\n < N/\t.place[i]?=some (at' t.mask h n)/\hashAt i=h/\(∀ n',k<=n'->n' < n->∀ i',t.place[i']?=some (at' t.mask h n')->hashAt i'≠h)/\SetTable.probe.go t hashAt h fuel (ad t.mask k (start t.mask h))=some (.candidate (at' t.mask h n) i (ad t.mask (n + 1) (start t.mask h)))) \/
   ((∀ n',k<=n'->n' < N->∀ i',t.place[i']?=some (at' t.mask h n')->hashAt i'≠h)/\SetTable.probe.go t hashAt h fuel (ad t.mask k (start t.mask h))=some (.empty (at' t.mask h N) none))
 | d,k,0,e,hk,hf=>absurd hf (zU _)
 | 0,k,fuel + 1,e,hk,hf=>by
  have:k=N:=by omega
  subst this;refine .inr ⟨λn' h1 h2=>absurd h1 (by omega),?_⟩;unfold SetTable.probe.go;rw [show (ad t.mask k (start t.mask h)).j=at' t.mask h k from rfl,oh T.nd hN];dsimp only;rw [nB];rfl
 | d + 1,k,fuel + 1,e,hk,hf=>by
  obtain ⟨i,hi⟩:=vG (gY k (by omega));by_cases c:hashAt i=h
  ·refine .inl ⟨k,i,zE _,by omega,hi,c,λn' h1 h2=>absurd h1 (by omega),?_⟩;unfold SetTable.probe.go;rw [show (ad t.mask k (start t.mask h)).j=at' t.mask h k from rfl,gb T.so hi];dsimp only;rw [if_pos (by rw [c];simp),jo,<- fZ]
  ·have step:SetTable.probe.go t hashAt h (fuel + 1) (ad t.mask k (start t.mask h))=SetTable.probe.go t hashAt h fuel (ad t.mask (k + 1) (start t.mask h)):=by
    conv=>lhs;unfold SetTable.probe.go
    rw [show (ad t.mask k (start t.mask h)).j=at' t.mask h k from rfl,gb T.so hi];dsimp only;rw [if_neg (by simpa using c),jo,<- fZ]
   have here:∀ i',t.place[i']?=some (at' t.mask h k)->hashAt i'≠h:=λi' cU=>by
    have:=(below_at T.so cU).symm.trans (below_at T.so hi);rw [this];exact c
   rw [step];rcases mj T hN gY d (k + 1) fuel (by omega) (by omega) (by omega) with ⟨n,i2,a1,a2,a3,a4,a5,a6⟩ | ⟨a1,a2⟩
   ·refine .inl ⟨n,i2,by omega,a2,a3,a4,λn' h1 h2 i' cU=>?_,a6⟩;by_cases q:n'=k
    ·subst q;exact here i' cU
    ·exact a5 n' (by omega) h2 i' cU
   ·refine .inr ⟨λn' h1 h2 i' cU=>?_,a2⟩;by_cases q:n'=k
    ·subst q;exact here i' cU
    ·exact a1 n' (by omega) h2 i' cU
end dj
namespace dj
open PySem
section
variable {prog:Program}{w:World}{K:Type} [DecidableEq K] {knd:HeapKind prog w K}{A:Around}{E:Value->Shared->Prop}{s:Shared}{a:Addr}
def Ou (knd:HeapKind prog w K)(h:Heap)(es:Array (Int×Value))(ks:Nat->K):Prop:=∀ i (hi:i < es.size),∃ b,es[i]=(knd.hash (ks i),.ref b)/\knd.is h (ks i) b
def Calm (knd:HeapKind prog w K)(A:Around)(s:Shared):Prop:=∀ (k:K) (b:Addr),knd.is s.heap k b->∀ (E:Value->Shared->Prop) (Q:Bool->Shared->Prop),Q false s->wpAny (model prog w) A (ofAClassStatement 8 (.ref b)) Q E s
theorem t8 {k:K}{c:Addr}(hk:knd.is s.heap k c)(cl:Calm knd A s):∀ (ys:List Value),(∀ y∈ys,∃ k b,y=.ref b/\knd.is s.heap k b)->∀ {Q:Bool->Shared->Prop},Q false s->wpAny (model prog w) A (searchCouldBeSeen (.ref c) ys) Q E s:=by
 intro ys hy Q q;unfold searchCouldBeSeen;refine wpAny_bind ?_;refine wpAny_forIn_list _ (λrest r s'=>r.1=none/\s'=s/\∀ y∈rest,∃ k b,y=.ref b/\knd.is s.heap k b) _ ?_ ?_ _ _ ⟨rfl,rfl,hy⟩
 ·rintro y rest r s' ⟨hr,rfl,gY⟩;obtain ⟨k2,b,rfl,hb⟩:=gY _ z8;have next:∀ u∈rest,∃ k b,u=Value.ref b/\knd.is s'.heap k b:=λu hu=>gY u (zn _ hu);dsimp only;split
  ·exact wpAny_pure ⟨rfl,rfl,next⟩
  ·refine wpAny_bind (knd.quiet hk ?_);simp only [Bool.not_true,zf,if_false];refine wpAny_bind (knd.quiet hb ?_);simp only [Bool.not_true,zf,if_false];refine wpAny_bind (cl _ _ hk _ _ ?_);simp only [zf,if_false];refine wpAny_bind (cl _ _ hb _ _ ?_);simp only [zf,if_false];exact wpAny_pure ⟨rfl,rfl,next⟩
 ·rintro ⟨r1,r2⟩ s' ⟨hr,rfl,_⟩;simp only at hr;subst hr;exact wpAny_pure q
theorem search {o:Obj}{es:Array (Int×Value)}{ep:Nat}{t:SetTable}{ks:Nat->K}{kx:K}{c:Addr}{adding:Bool}{Q:SetFound->Shared->Prop}(hr:knd.room A)(ho:s.heap.get? a=some o)(hd:o.data=.set es ep t)(T:Tab t es)(ke:Ou knd s.heap es ks)(hx:knd.is s.heap kx c)(cl:Calm knd A s)
  (qt:∀ r:Option Nat,(r=none->adding=true)->(∃ i,i < es.size/\ks i=kx)->Q (.there r) s) {N:Nat} (hN:¬ at' t.mask (knd.hash kx) N∈t.place.toList) (gY:∀ n,n < N->at' t.mask (knd.hash kx) n∈t.place.toList) (Xh:N<=10 * (t.mask + 13))
  (qf:(∀ i,i < es.size->ks i≠kx)->Q (.free (at' t.mask (knd.hash kx) N) false) s) :
  ∀ (fuel k:Nat) (st:Option SetTable.Probe),N - k < fuel->k<=N->st.getD (t.probeStart (knd.hash kx))=ad t.mask k (start t.mask (knd.hash kx))->(∀ n',n' < k->∀ i',t.place[i']?=some (at' t.mask (knd.hash kx) n')->ks i'≠kx) ->
   wpAny (model prog w) A (setSearchFrom a (.ref c) (knd.hash kx) adding fuel st) Q E s
 | 0,k,st,hf,_,_,_=>absurd hf (zU _)
 | fuel + 1,k,st,hf,hk,uO,prev=>by
  unfold setSearchFrom;refine wpAny_bind (wpAny_setState_of ho hd T.fits ?_);dsimp only;rw [T.odd,uO];simp only [zf,if_false];unfold SetTable.probe;rcases mj T hN gY (hashAt:=λi=>((es[i]?).map (·.1)).getD 0) _ k (10 * SetTable.turns t.mask) rfl hk (by unfold SetTable.turns;omega) with ⟨n,i,a1,a2,a3,a4,a5,a6⟩ | ⟨a1,a2⟩
  ·generalize hp:SetTable.probe.go t _ (knd.hash kx) (10 * SetTable.turns t.mask) (ad t.mask k (start t.mask (knd.hash kx)))=pr;have e:=hp.symm.trans a6;subst e;have hi:i < es.size:=by
    have:=(Array.getElem?_eq_some_iff.mp a3).1;rw [T.sz] at this;exact this
   obtain ⟨b,eb,hb⟩:=ke i hi;have eg:es[i]?=some (knd.hash (ks i),.ref b):=by rw [<-eb];exact Array.getElem?_eq_getElem hi
   dsimp only;rw [eg];dsimp only;have sl:=gb T.so a3;have mem:t.sameMemory t.moves t.mask=some true:=by simp [SetTable.sameMemory]
   have again:=search (adding:=adding) hr ho hd T ke hx cl qt hN gY Xh qf fuel (n + 1) (some (ad t.mask (n + 1) (start t.mask (knd.hash kx)))) (by omega) (by omega) rfl;have more:ks i≠kx->∀ n',n' < n + 1->∀ i',t.place[i']?=some (at' t.mask (knd.hash kx) n')->ks i'≠kx:=λne n' hn i' cU=>by
    by_cases q:n' < k
    ·exact prev n' q i' cU
    by_cases q2:n'=n
    ·subst q2;have:=(below_at T.so cU).symm.trans (below_at T.so a3);rw [this];exact ne
    ·intro z;have hl:i' < es.size:=by
      have:=(Array.getElem?_eq_some_iff.mp cU).1;rw [T.sz] at this;exact this
     obtain ⟨b',Sj,_⟩:=ke i' hl;exact a5 n' (by omega) (by omega) i' cU (by simp [Sj,hl,z])
   have stored:∀ y∈List.map (λx=>x.snd) (Array.filter (λx=>x.fst == knd.hash kx) es).toList,∃ k b,y=Value.ref b/\knd.is s.heap k b:=λy hy=>by
    obtain ⟨e,he,rfl⟩:=zP.mp hy;have he:e∈es:=by
     have:e∈es/\e.fst=knd.hash kx:=by simpa using he
     exact this.1
    obtain ⟨j,hj,rfl⟩:=Array.getElem_of_mem he;obtain ⟨b',Sj,gj⟩:=ke j hj;exact ⟨_,b',by rw [Sj],gj⟩
   split
   ·refine wpAny_bind (t8 hx cl _ stored ?_);simp only [zf,if_false];refine wpAny_bind (wpAny_holding (knd.eqBool hr hb hx ?_));refine wpAny_bind (wpAny_setState_of ho hd T.fits ?_);dsimp only;rw [mem];dsimp only;rw [if_pos (show (true=true) from rfl),sl];dsimp only;rw [eg];dsimp only;by_cases q:ks i=kx
    ·rw [decide_eq_true q];cases adding with
     | true=>exact wpAny_pure (qt _ (λ_=>rfl) ⟨i,hi,q⟩)
     | false=>
      simp only [zo,zf,if_false];refine wpAny_bind (wpAny_isSame_ref_self ?_);exact wpAny_pure (qt _ (λz=>by cases z) ⟨i,hi,q⟩)
    ·rw [decide_eq_false q];simp only [yY,zf,if_false];refine wpAny_bind (wpAny_isSame_ref_self ?_);exact again (more q)
   ·refine wpAny_bind (wpAny_holding (knd.eqBool hr hb hx ?_));refine wpAny_bind (wpAny_setState_of ho hd T.fits ?_);dsimp only;rw [mem];dsimp only;rw [if_pos (show (true=true) from rfl),sl];dsimp only;rw [eg];dsimp only;by_cases q:ks i=kx
    ·rw [decide_eq_true q];cases adding with
     | true=>exact wpAny_pure (qt _ (λ_=>rfl) ⟨i,hi,q⟩)
     | false=>
      simp only [zo,zf,if_false];refine wpAny_bind (wpAny_isSame_ref_self ?_);exact wpAny_pure (qt _ (λz=>by cases z) ⟨i,hi,q⟩)
    ·rw [decide_eq_false q];simp only [yY,zf,if_false];refine wpAny_bind (wpAny_isSame_ref_self ?_);exact again (more q)
  ·generalize hp:SetTable.probe.go t _ (knd.hash kx) (10 * SetTable.turns t.mask) (ad t.mask k (start t.mask (knd.hash kx)))=pr;have e:=hp.symm.trans a2;subst e;dsimp only;refine wpAny_pure (qf λi hi z=>?_);obtain ⟨m,hm,al⟩:=T.way i hi;obtain ⟨b,eb,_⟩:=ke i hi;rw [eb] at hm al;dsimp only at hm al;rw [z] at hm al;have mN:m < N:=Classical.byContradiction λc=>by
    by_cases q:N=m
    ·subst q;exact hN (by simpa using Array.mem_of_getElem? hm)
    ·exact hN (al N (by omega))
   by_cases q:m < k
   ·exact prev m q i hm z
   ·refine a1 m (by omega) mN i hm ?_;simp [eb,hi,z]
structure Om (knd:HeapKind prog w K) (h:Heap) (a:Addr) (es:Array (Int×Value)) (ep:Nat) (t:SetTable) (ks:Nat->K):Prop where
 obj:h.get? a=some { cls:=.type "set", data:=.set es ep t }
 tab:Tab t es
 keys:Ou knd h es ks
end
end dj
namespace dj
open PySem
theorem i8 {α:Type}{l:List α}{p:Nat}{x:α}(hp:p<=l.length)(i:Nat):(l.take p++x::l.drop p)[i]?=if i < p then l[i]? else if i=p then some x else l[i - 1]?:=by
 have lt:(l.take p).length=p:=by rw [zW];omega
 by_cases c:i < p
 ·rw [if_pos c,yP (by omega),List.getElem?_take_of_lt c]
 ·rw [if_neg c,yK (by omega),lt];by_cases d:i=p
  ·rw [if_pos d,d,Nat.sub_self];rfl
  ·rw [if_neg d,show i - p=(i - p - 1) + 1 from by omega,List.getElem?_cons_succ,List.getElem?_drop];congr 1;omega
theorem Tab.put {t:SetTable}{es:Array (Int×Value)}(T:Tab t es){h:Int}{x:Value}{N:Nat}(hN:¬ at' t.mask h N∈t.place.toList)(gY:∀ n,n < N->at' t.mask h n∈t.place.toList)(pl:Bool) :
  (((es.size + 1) * 5 < t.mask * 3)->Tab { (t.put (at' t.mask h N)).1 with plain:=pl } (SetTable.insertAt es (t.put (at' t.mask h N)).2 (h,x)))/\(t.put (at' t.mask h N)).1.dummies=#[]/\(t.put (at' t.mask h N)).1.mask=t.mask/\(t.put (at' t.mask h N)).1.place.size=es.size + 1:=by
 have e1:(t.put (at' t.mask h N)).1={ t with place:=SetTable.insertAt t.place (SetTable.below t.place (at' t.mask h N)) (at' t.mask h N) }:=by
  unfold SetTable.put;dsimp only;rw [T.nd];unfold SetTable.has;simp
 have e2:(t.put (at' t.mask h N)).2=SetTable.below t.place (at' t.mask h N):=rfl;rw [e1,e2];generalize hj:at' t.mask h N=j at *;obtain ⟨b1,b2,b3⟩:=jk (j:=j) T.so;generalize hp:SetTable.below t.place j=p at *;have lp:(SetTable.insertAt t.place p j).toList=t.place.toList.take p++j::t.place.toList.drop p:=SetTable.toList_insertAt ..;have le:(SetTable.insertAt es p (h,x)).toList=es.toList.take p++(h,x)::es.toList.drop p:=SetTable.toList_insertAt ..;have p1:p<=t.place.toList.length:=by rw [Array.length_toList];exact b1
 have p2:p<=es.toList.length:=by rw [Array.length_toList,<- T.sz];exact b1
 have s1:(SetTable.insertAt t.place p j).size=es.size + 1:=by
  rw [<-Array.length_toList,lp,zH,zl,zW,yF,Array.length_toList,<- T.sz];omega
 have s2:(SetTable.insertAt es p (h,x)).size=es.size + 1:=by
  rw [<-Array.length_toList,le,zH,zl,zW,yF,Array.length_toList];have:=T.sz;omega
 have mem:∀ j',j'∈(SetTable.insertAt t.place p j).toList↔j'=j\/j'∈t.place.toList:=λj'=>by
  rw [lp,zS,zO];constructor
  ·rintro (h | h | h)
   ·exact .inr (List.mem_of_mem_take h)
   ·exact .inl h
   ·exact .inr (List.mem_of_mem_drop h)
  ·rintro (h | h)
   ·exact .inr (.inl h)
   ·rw [<-List.take_append_drop p t.place.toList,zS] at h;exact h.imp id .inr
 refine ⟨λjO=>⟨T.mask,T.nd,?_,by rw [s2];exact s1,λj' mU=>?_,by rw [s2];exact jO,λi hi=>?_⟩,T.nd,rfl,s1⟩
 ·show (SetTable.insertAt t.place p j).toList.Pairwise (· < ·);rw [lp,List.pairwise_append,List.pairwise_cons];refine ⟨T.so.sublist (List.take_sublist _ _),⟨λy hy=>?_,T.so.sublist (List.drop_sublist _ _)⟩,λy hy z hz=>?_⟩
  ·obtain ⟨i,hi,e⟩:=List.getElem_of_mem hy;rw [List.getElem_drop] at e;have hl:p + i < t.place.size:=by rw [yF,Array.length_toList] at hi;omega
   have q:=b3 (p + i) hl (by omega);rw [Array.getElem_toList] at e;rw [e] at q;have ne:y≠j:=λz=>hN (by rw [<-z];exact List.mem_of_mem_drop hy);omega
  ·obtain ⟨i,hi,e⟩:=List.getElem_of_mem hy;rw [List.getElem_take] at e;rw [zW,Array.length_toList] at hi;have hl:i < t.place.size:=by omega
   have q:=b2 i hl (by omega);rw [Array.getElem_toList] at e;rw [e] at q;rcases zO.mp hz with z1 | z1
   ·rw [z1];exact q
   ·obtain ⟨k,hk,ek⟩:=List.getElem_of_mem z1;rw [List.getElem_drop] at ek;have RD:p + k < t.place.size:=by rw [yF,Array.length_toList] at hk;omega
    have q2:=b3 (p + k) RD (by omega);rw [Array.getElem_toList] at ek;rw [ek] at q2;omega
 ·have mU:j'∈(SetTable.insertAt t.place p j).toList:=mU;rcases (mem j').mp mU with z | z
  ·rw [z,<- hj];exact ny N
  ·exact T.small j' z
 ·show ∃ n,(SetTable.insertAt t.place p j)[i]?=some (at' t.mask (SetTable.insertAt es p (h,x))[i].1 n)/\∀ n',n' < n->at' t.mask (SetTable.insertAt es p (h,x))[i].1 n'∈(SetTable.insertAt t.place p j).toList;have ge:(SetTable.insertAt es p (h,x))[i]?=some (SetTable.insertAt es p (h,x))[i]:=Array.getElem?_eq_getElem hi;generalize (SetTable.insertAt es p (h,x))[i]=e at ge ⊢;rw [<-Array.getElem?_toList,le,i8 p2] at ge;rw [<-Array.getElem?_toList,lp,i8 p1,<- lp];have old:∀ k,es.toList[k]?=some e->∃ n,t.place.toList[k]?=some (at' t.mask e.1 n)/\∀ n',n' < n->at' t.mask e.1 n'∈(SetTable.insertAt t.place p j).toList:=λk hk=>by
   rw [Array.getElem?_toList] at hk;obtain ⟨Ur,ek⟩:=Array.getElem?_eq_some_iff.mp hk;obtain ⟨n,a1,a2⟩:=T.way k Ur;rw [ek] at a1 a2;exact ⟨n,by rw [Array.getElem?_toList];exact a1,λn' hn=>(mem _).mpr (.inr (a2 n' hn))⟩
  by_cases c:i < p
  ·rw [if_pos c] at ge ⊢;exact old i ge
  ·rw [if_neg c] at ge ⊢;by_cases d:i=p
   ·rw [if_pos d] at ge ⊢;cases ge;exact ⟨N,by rw [hj],λn' hn=>(mem _).mpr (.inr (gY n' hn))⟩
   ·rw [if_neg d] at ge ⊢;exact old (i - 1) ge
def pN (ow:Array (Option Nat))(j:Nat):Prop:=(ow.getD j (some 0)).isNone=false
theorem jR {m:Nat}{ow:Array (Option Nat)}:∀ (fuel i u:Nat),(∃ r,r < fuel/\¬ pN ow (runs m r i u).1) ->
  ∃ n,SetTable.layClean.free m ow fuel i u=some (ad m n (run m i u)).j/\¬ pN ow (ad m n (run m i u)).j/\∀ n',n' < n->pN ow (ad m n' (run m i u)).j
 | 0,i,u,⟨r,h,_⟩=>absurd h (zU _)
 | fuel + 1,i,u,⟨r,h,no⟩=>by
  unfold SetTable.layClean.free;cases e:(List.range (SetTable.runEnd m i + 1 - i)).find? λk=>(ow.getD (i + k) (some 0)).isNone with
  | some k=>
   dsimp only;obtain ⟨hk,cM,before⟩:=List.find?_range_eq_some.mp e;have cM:k < SetTable.runEnd m i + 1 - i:=zi.mp cM;have inr:∀ k',k'<=k->(ad m k' (run m i u)).j=i + k':=λk' Ur=>by rw [d7 k' (by omega)]
   refine ⟨k,by rw [inr k (zE _)],?_,λn' hn=>?_⟩
   ·rw [inr k (zE _)];unfold pN;rw [hk];simp
   ·rw [inr n' (by omega)];unfold pN;have:=before n' hn;simpa using this
  | none=>
   dsimp only;have all:∀ k,k < SetTable.runEnd m i + 1 - i->pN ow (i + k):=λk hk=>by
    have:=List.find?_eq_none.mp e k (zi.mpr hk);unfold pN;cases q:(ow.getD (i + k) (some 0)).isNone with
    | false=>rfl
    | true=>exact absurd q this
   have r0:r≠0:=λz=>by
    subst z;refine no ?_;exact all 0 (by have:=(cQ (m:=m) (i:=i)).2.1;omega)
   obtain ⟨r',rfl⟩:=Nat.exists_eq_succ_of_ne_zero r0;obtain ⟨n,a1,a2,a3⟩:=jR fuel ((i * 5 + 1 + u / 32) % (m + 1)) (u / 32) ⟨r',by omega,no⟩;have next:∀ n',ad m (SetTable.runEnd m i - i + 1 + n') (run m i u)=ad m n' (run m ((i * 5 + 1 + u / 32) % (m + 1)) (u / 32)):=λn'=>by rw [vI,gS]
   refine ⟨SetTable.runEnd m i - i + 1 + n,?_,?_,λn' hn=>?_⟩
   ·rw [next];exact a1
   ·rw [next];exact a2
   ·by_cases c:n' < SetTable.runEnd m i - i + 1
    ·rw [d7 n' (by omega)];exact all n' (by have:=(cQ (m:=m) (i:=i)).2.1;omega)
    ·rw [show n'=SetTable.runEnd m i - i + 1 + (n' - (SetTable.runEnd m i - i + 1)) from by omega,next];exact a3 _ (by omega)
structure Lay (m:Nat) (hs:List Int) (ow:Array (Option Nat)):Prop where
 sz:ow.size=m + 1
 each:∀ (k:Nat) (h:Int),hs[k]?=some h->∃ n,ow[at' m h n]?=some (some k)/\∀ n',n' < n->pN ow (at' m h n')
 low:∀ (j k:Nat),ow[j]?=some (some k)->k < hs.length
 one:∀ (j j' k:Nat),ow[j]?=some (some k)->ow[j']?=some (some k)->j=j'
theorem fM {ow:Array (Option Nat)}{j:Nat}(h:j < ow.size):pN ow j↔∃ k,ow[j]?=some (some k):=by unfold pN;rw [show ow.getD j (some 0)=ow[j] from by simp [Array.getD,h],Array.getElem?_eq_getElem h];cases ow[j] <;> simp
theorem Lay.left {m:Nat}{hs:List Int}{ow:Array (Option Nat)}(L:Lay m hs ow)(kT:hs.length<=m):∃ j,j<=m/\¬ pN ow j:=by
 refine Classical.byContradiction λc=>?_;have all:∀ j,j < m + 1->∃ k,ow[j]?=some (some k):=λj hj=>(fM (by rw [L.sz];exact hj)).mp (Classical.byContradiction λz=>c ⟨j,by omega,z⟩);have pick:∀ k,∃ j,k < hs.length->ow[j]?=some (some k):=λk=>by
  by_cases hk:k < hs.length
  ·obtain ⟨n,a,_⟩:=L.each k hs[k] (zD hk);exact ⟨_,λ_=>a⟩
  ·exact ⟨0,λz=>absurd z hk⟩
 have:=lA (m + 1) ((List.range hs.length).map λk=>(pick k).choose) λj hj=>by
  obtain ⟨k,hk⟩:=all j hj;have kl:=L.low j k hk;exact zP.mpr ⟨k,zi.mpr kl,L.one _ _ _ ((pick k).choose_spec kl) hk⟩
 rw [zA,zx] at this;omega
theorem Lay.step {m:Nat}{hs:List Int}{ow:Array (Option Nat)}(hm:Mask m)(L:Lay m hs ow)(kT:hs.length<=m)(h:Int) :
  ∃ j,SetTable.layClean.free m ow (SetTable.turns m) (SetTable.bits h % (m + 1)) (SetTable.bits h)=some j/\Lay m (hs++[h]) (ow.setIfInBounds j (some hs.length)):=by
 obtain ⟨j0,WU,no⟩:=L.left kT;obtain ⟨r,hr,e⟩:=reach (u:=SetTable.bits h) hm (yO.mp (Nat.mod_lt (SetTable.bits h) (show 0 < m + 1 by omega))) (p9 h) WU;obtain ⟨n,a1,a2,a3⟩:=jR (m:=m) (ow:=ow) (SetTable.turns m) (SetTable.bits h % (m + 1)) (SetTable.bits h) ⟨r,by unfold SetTable.turns;omega,by rw [e];exact no⟩;have ej:(ad m n (run m (SetTable.bits h % (m + 1)) (SetTable.bits h))).j=at' m h n:=rfl;rw [ej] at a1 a2;have a3:∀ n',n' < n->pN ow (at' m h n'):=a3;have jl:at' m h n < ow.size:=by rw [L.sz];exact yO.mpr (ny n)
 have get:∀ j,(ow.setIfInBounds (at' m h n) (some hs.length))[j]?=if at' m h n=j then some (some hs.length) else ow[j]?:=λj=>by
  rw [Array.getElem?_setIfInBounds];by_cases c:at' m h n=j
  ·rw [if_pos c,if_pos c,if_pos jl]
  ·rw [if_neg c,if_neg c]
 have keep:∀ j,pN ow j->j < ow.size->pN (ow.setIfInBounds (at' m h n) (some hs.length)) j:=λj oj hj=>by
  rw [fM (by rw [Array.size_setIfInBounds];exact hj),get];by_cases c:at' m h n=j
  ·exact ⟨_,by rw [if_pos c]⟩
  ·rw [if_neg c];exact (fM hj).mp oj
 have free:∀ k,ow[at' m h n]?≠some (some k):=λk z=>a2 ((fM jl).mpr ⟨k,z⟩);refine ⟨_,a1,by rw [Array.size_setIfInBounds];exact L.sz,λk x hx=>?_,λj k hj=>?_,λj j' k h1 h2=>?_⟩
 ·by_cases c:k < hs.length
  ·rw [yP c] at hx;obtain ⟨n2,b1,b2⟩:=L.each k x hx;refine ⟨n2,?_,λn' hn=>keep _ (b2 n' hn) (by rw [L.sz];exact yO.mpr (ny n'))⟩;rw [get,if_neg λz=>free k (by rw [z];exact b1)];exact b1
  ·rw [yK (by omega)] at hx;have:k - hs.length=0:=by
    have:=(zI.mp hx).1;simp at this;omega
   rw [this] at hx;cases hx;have:k=hs.length:=by omega
   subst this;exact ⟨n,by rw [get,if_pos rfl],λn' hn=>keep _ (a3 n' hn) (by rw [L.sz];exact yO.mpr (ny n'))⟩
 ·rw [get] at hj;rw [zH,yZ];split at hj
  ·cases hj;omega
  ·have:=L.low j k hj;omega
 ·rw [get] at h1 h2;split at h1 <;> split at h2
  ·rename_i x y;rw [<-x,<- y]
  ·cases h1;have:=L.low _ _ h2;omega
  ·cases h2;have:=L.low _ _ h1;omega
  ·exact L.one _ _ _ h1 h2
theorem mJ {m:Nat}(hm:Mask m):∀ (l hs:List Int) (ow:Array (Option Nat)),Lay m hs ow->hs.length + l.length<=m + 1 ->
  ∃ OO,l.foldl (λ(acc:Option (Array (Option Nat)×Nat)) h=>do
   let (owner,k) <- acc
   let j <- SetTable.layClean.free m owner (SetTable.turns m) (SetTable.bits h % (m + 1)) (SetTable.bits h)
   pure (owner.setIfInBounds j (some k),k + 1)) (some (ow,hs.length))=some (OO,hs.length + l.length)/\Lay m (hs++l) OO
 | [],hs,ow,L,_=>⟨ow,rfl,by rw [List.append_nil];exact L⟩
 | h::l,hs,ow,L,kT=>by
  obtain ⟨j,e,L'⟩:=L.step hm (by rw [zl] at kT;omega) h;have Sa:(hs++[h]).length + l.length<=m + 1:=by rw [zH,yZ];rw [zl] at kT;omega
  obtain ⟨OO,e2,L2⟩:=mJ hm l (hs++[h]) _ L' Sa;refine ⟨OO,?_,by rw [List.append_assoc] at L2;exact L2⟩;rw [List.foldl_cons];show l.foldl _ ((SetTable.layClean.free m ow (SetTable.turns m) (SetTable.bits h % (m + 1)) (SetTable.bits h)).bind λj=>some (ow.setIfInBounds j (some hs.length),hs.length + 1))=_;rw [e];rw [zH,yZ] at e2;rw [zl];rw [show hs.length + (l.length + 1)=hs.length + 1 + l.length from by omega];exact e2
theorem qP {m:Nat}(hm:Mask m){hashes:Array Int}(kT:hashes.size<=m + 1):∃ ow,SetTable.layClean m hashes=some ow/\Lay m hashes.toList ow:=by have L0:Lay m [] (Array.replicate (m + 1) none):=⟨by simp,λk h e=>(by cases e),(λj k e=>by rw [Array.getElem?_replicate] at e;split at e <;> cases e),(λj j' k e=>by rw [Array.getElem?_replicate] at e;split at e <;> cases e)⟩;obtain ⟨ow,e,L⟩:=mJ hm hashes.toList [] _ L0 (by rw [yd,Array.length_toList];omega);refine ⟨ow,?_,by simpa using L⟩;unfold SetTable.layClean;rw [<-Array.foldl_toList];have:=congrArg (Option.map (·.1)) e;exact this
theorem Jg {l l':List Nat}(h:l.Nodup)(h':l'.Nodup)(e:∀ x,x∈l↔x∈l'):l.Perm l':=by
 rw [List.perm_iff_count];intro a;rw [h.count,h'.count];by_cases c:a∈l
 ·rw [if_pos c,if_pos ((e a).mp c)]
 ·rw [if_neg c,if_neg λz=>c ((e a).mpr z)]
theorem kQ {α β:Type}{f:α->Option β}{g:α->β}:∀ {l:List α},(∀ x∈l,f x=some (g x))->l.filterMap f=l.map g
 | [],_=>rfl
 | x::l,h=>by
  rw [List.filterMap_cons_some (h x z8),yl,kQ λy hy=>h y (zn _ hy)]
theorem kR {f:Nat->Option Nat}:∀ (l:List Nat),(l.filterMap λj=>(f j).map (j,·)).map (·.1)=l.filter λj=>(f j).isSome
 | []=>rfl
 | x::l=>by
  cases e:f x with
  | none=>rw [List.filterMap_cons_none (by rw [e];rfl),List.filter_cons_of_neg (by rw [e];simp),kR l]
  | some k=>rw [List.filterMap_cons_some (b:=(x,k)) (by rw [e];rfl),List.filter_cons_of_pos (by rw [e];rfl),yl,kR l]
theorem l7 {t:SetTable}{es:Array (Int×Value)}{wanted m:Nat}(hw:SetTable.sizeAbove wanted - 1=m)(hm:Mask m)(jO:es.size * 5 < m * 3) :
  ∃ t' order,t.relaid (es.map (·.1)) wanted=some (t',order)/\(order.filterMap (es[·]?)).toList.Perm es.toList/\Tab t' (order.filterMap (es[·]?)):=by
 obtain ⟨ow,e,L⟩:=qP (hashes:=es.map (·.1)) hm (by rw [Array.size_map];omega);have lh:(es.map (·.1)).toList.length=es.size:=by rw [Array.length_toList,Array.size_map]
 have hh:∀ (k:Nat) (x:Int×Value),es[k]?=some x->(es.map (·.1)).toList[k]?=some x.1:=λk x hx=>by rw [Array.getElem?_toList,Array.getElem?_map,hx];rfl
 let lv:=(List.range (m + 1)).filterMap λj=>(ow.getD j none).map (j,·)
 have e2:t.relaid (es.map (·.1)) wanted=some ({ mask:=m,place:=(lv.map (·.1)).toArray,dummies:=#[],finger:=t.finger,led:=t.led,moves:=t.movedTo m,plain:=t.plain },(lv.map (·.2)).toArray):=by
  unfold SetTable.relaid SetTable.laid;rw [hw,e];rfl
 have f1:lv.map (·.1)=(List.range (m + 1)).filter λj=>(ow.getD j none).isSome:=kR _;have f2:∀ p∈lv,ow[p.1]?=some (some p.2)/\p.1<=m:=λp hp=>by
  obtain ⟨j,hj,q⟩:=yW.mp hp;have hj:j < m + 1:=zi.mp hj;have hs:j < ow.size:=by rw [L.sz];exact hj
  rw [show ow.getD j none=ow[j] from by simp [Array.getD,hs]] at q;cases eo:ow[j] with
  | none=>rw [eo] at q;cases q
  | some k=>rw [eo] at q;cases q;exact ⟨by rw [Array.getElem?_eq_getElem hs,eo],by show j<=m;omega⟩
 have f3:∀ j k,ow[j]?=some (some k)->(j,k)∈lv:=λj k h=>by
  obtain ⟨hs,eo⟩:=Array.getElem?_eq_some_iff.mp h;refine yW.mpr ⟨j,zi.mpr (by rw [L.sz] at hs;exact hs),?_⟩;rw [show ow.getD j none=ow[j] from by simp [Array.getD,hs],eo];rfl
 have Tc:(lv.map (·.1)).Pairwise (· < ·):=by rw [f1];exact List.pairwise_lt_range.filter _
 have VC:lv.Pairwise λa b=>a.1 < b.1:=List.pairwise_map.mp Tc;have nd:(lv.map (·.2)).Nodup:=by
  refine List.pairwise_map.mpr (VC.imp_of_mem λ{a b} ha hb h z=>?_);have:=L.one _ _ _ (f2 a ha).1 (by rw [z];exact (f2 b hb).1);omega
 have kl:∀ p∈lv,p.2 < es.size:=λp hp=>by have:=L.low _ _ (f2 p hp).1;rw [lh] at this;exact this
 have pm:(lv.map (·.2)).Perm (List.range es.size):=Jg nd List.nodup_range λk=>by
  constructor
  ·intro h;obtain ⟨p,hp,rfl⟩:=zP.mp h;exact zi.mpr (kl p hp)
  ·intro h;have hk:k < es.size:=zi.mp h;obtain ⟨n,a,_⟩:=L.each k es[k].1 (hh k _ (Array.getElem?_eq_getElem hk));exact zP.mpr ⟨_,f3 _ _ a,rfl⟩
 let g:Nat->Int×Value:=λk=>(es[k]?).getD (0,Value.none)
 have gk:∀ k,k < es.size->es[k]?=some (g k):=λk hk=>by show es[k]?=some ((es[k]?).getD _);rw [Array.getElem?_eq_getElem hk];rfl
 have e3:((lv.map (·.2)).toArray.filterMap (es[·]?)).toList=lv.map λp=>g p.2:=by
  rw [Array.toList_filterMap,List.filterMap_map];exact kQ λp hp=>gk p.2 (kl p hp)
 have e4:es.toList=(List.range es.size).map g:=by
  have:=filterMap_getElem?_range es;rw [kQ (g:=g) λk hk=>gk k (zi.mp hk)] at this;exact this.symm
 refine ⟨_,_,e2,?_,?_⟩
 ·rw [e3,e4,show (λp:Nat×Nat=>g p.2)=g ∘ (·.2) from rfl,<- yR];exact pm.map g
 ·have sz:((lv.map (·.2)).toArray.filterMap (es[·]?)).size=lv.length:=by rw [<-Array.length_toList,e3,zA]
  have ll:lv.length=es.size:=by have:=pm.length_eq;rw [zA,zx] at this;exact this
  refine ⟨hm,rfl,by simpa using Tc,by rw [sz];simp,λj hj=>?_,by rw [sz,ll];exact jO,λi hi=>?_⟩
  ·have hj:j∈lv.map (·.1):=by simpa using hj
   obtain ⟨p,hp,rfl⟩:=zP.mp hj;exact (f2 p hp).2
  ·have ge:((lv.map (·.2)).toArray.filterMap (es[·]?))[i]?=some ((lv.map (·.2)).toArray.filterMap (es[·]?))[i]:=Array.getElem?_eq_getElem hi;generalize ((lv.map (·.2)).toArray.filterMap (es[·]?))[i]=x at ge ⊢;rw [<-Array.getElem?_toList,e3,zF] at ge;cases ep:lv[i]? with
   | none=>rw [ep] at ge;cases ge
   | some p=>
    rw [ep] at ge;have ge:g p.2=x:=Option.some.inj ge;have hp:=zB ep;have hx:=gk p.2 (kl p hp);rw [ge] at hx;obtain ⟨n,a1,a2⟩:=L.each p.2 x.1 (hh p.2 x hx);have ej:=L.one _ _ _ a1 (f2 p hp).1;refine ⟨n,?_,λn' hn=>?_⟩
    ·show ((lv.map (·.1)).toArray)[i]?=some (at' m x.1 n);rw [List.getElem?_toArray,zF,ep,ej];rfl
    ·show at' m x.1 n'∈((lv.map (·.1)).toArray).toList;obtain ⟨k,hk⟩:=(fM (by rw [L.sz];exact yO.mpr (ny n'))).mp (a2 n' hn);simpa using ⟨k,f3 _ _ hk⟩
end dj
namespace dj
open PySem
section
variable {prog:Program}{w:World}{K:Type} [DecidableEq K] {knd:HeapKind prog w K}{A:Around}{E:Value->Shared->Prop}{s:Shared}{a:Addr}
def Ku (knd:HeapKind prog w K):Prop:=∀ (A:Around) (s:Shared) (k:K) (b:Addr),knd.is s.heap k b->∀ (E:Value->Shared->Prop) (Q:Bool->Shared->Prop),(∀ v,Q v s)->wpAny (model prog w) A (hashByValue 8 (.ref b)) Q E s
def lD (es:Array (Int×Value))(ep:Nat)(t:SetTable):Obj:={ cls:=.type "set", data:=.set es ep t }
theorem store {es ia:Array (Int×Value)}{ep:Nat}{t t':SetTable}{Q:Unit->Shared->Prop}(ho:s.heap.get? a=some (lD es ep t))(hz:ia.size<=sizeLine)
  (h:∀ h',Heap.SameBut a s.heap h'->h'.get? a=some (lD ia (ep + 1) t')->Q () { s with heap:=h' }):wpAny (model prog w) A (storeSet a ia t') Q E s:=by
 refine wpAny_storeSet_of ho rfl (h _ (Heap.SameBut.update s.heap a (Obj.putSet ia t')) ?_) hz;have:=Heap.get?_update_self (Obj.putSet ia t') ho (by rw [putSet_of ia t' rfl];rfl);rw [putSet_of ia t' rfl] at this;exact this
theorem oH {n m:Nat}(hm:Mask m)(lt:(n - 1) * 5 < m * 3)(n1:1<=n)(full:n * 5 ≥ m * 3)(kT:n<=4000):Mask (SetTable.sizeAbove (SetTable.grown n) - 1)/\n * 5 < (SetTable.sizeAbove (SetTable.grown n) - 1) * 3/\SetTable.sizeAbove (SetTable.grown n)<=8192:=by
 rcases hm with rfl | rfl | rfl | rfl | rfl | rfl
 ·have:n=5:=by omega
  subst this;exact ⟨.inr (.inl (by decide +kernel)),by decide +kernel,by decide +kernel⟩
 ·have:n=19:=by omega
  subst this;exact ⟨.inr (.inr (.inl (by decide +kernel))),by decide +kernel,by decide +kernel⟩
 ·have:n=77:=by omega
  subst this;exact ⟨.inr (.inr (.inr (.inl (by decide +kernel)))),by decide +kernel,by decide +kernel⟩
 ·have:n=307:=by omega
  subst this;exact ⟨.inr (.inr (.inr (.inr (.inl (by decide +kernel))))),by decide +kernel,by decide +kernel⟩
 ·have:n=1229:=by omega
  subst this;exact ⟨.inr (.inr (.inr (.inr (.inr (by decide +kernel))))),by decide +kernel,by decide +kernel⟩
 ·omega
theorem add {es:Array (Int×Value)}{ep:Nat}{t:SetTable}{ks:Nat->K}{kx:K}{c:Addr}{Q:Bool->Shared->Prop}(hr:knd.room A)(S:Om knd s.heap a es ep t ks)(hx:knd.is s.heap kx c)(cl:Calm knd A s)(hb:Ku knd)(kT:es.size < 4000)
  (qt:(∃ i,i < es.size/\ks i=kx)->Q false s)
  (qf:∀ (h':Heap) (ia:Array (Int×Value)) (LR:Nat) (t':SetTable),(∀ i,i < es.size->ks i≠kx)->Heap.SameBut a s.heap h'->h'.get? a=some (lD ia LR t')->Tab t' ia->ia.toList.Perm (es.toList++[(knd.hash kx,.ref c)])->Q true { s with heap:=h' }) :
  wpAny (model prog w) A (setAddHashed a (.ref c) (knd.hash kx)) Q E s:=by
 obtain ⟨N,n1,n2,n3⟩:=S.tab.first (knd.hash kx);have line:10000<=sizeLine:=by rw [sizeLine_eq];decide
 unfold setAddHashed setAddHashedIn;refine wpAny_holding (wpAny_bind (wpAny_setState_of S.obj rfl S.tab.fits ?_));dsimp only;rw [show byScan (.ref c) es=false from rfl];simp only [zf,if_false];refine wpAny_bind ?_;unfold setSearch;have lim:10 * (t.mask + 13) < 100000:=by
  rcases S.tab.mask with h | h | h | h | h | h <;> rw [h] <;> decide
 refine search hr S.obj rfl S.tab S.keys hx cl (λr h f=>?_) n2 n3 n1 (λnf=>?_) 100000 0 none (by omega) (zV _) rfl (λn' h=>absurd h (zU _))
 ·exact wpAny_pure (qt f)
 ·dsimp only;refine wpAny_bind (wpAny_setState_of S.obj rfl S.tab.fits ?_);dsimp only;have m7:7<=t.mask:=by rcases S.tab.mask with h | h | h | h | h | h <;> omega
  have lt:=S.tab.jO;have oR:SetTable.tooFull=λt=>decide (t.fill * 5 ≥ t.mask * 3):=rfl;have tail:∀ tt,(∃ pl,tt={ (t.put (at' t.mask (knd.hash kx) N)).1 with plain:=pl })->wpAny (model prog w) A (do
    storeSet a (SetTable.insertAt es (t.put (at' t.mask (knd.hash kx) N)).2 (knd.hash kx,Value.ref c)) tt
    if (!false && tt.tooFull)=true then do
     setRelay a (SetTable.grown (es.size + 1))
     pure true
    else pure true) Q E s:=by
   rintro tt ⟨pl,rfl⟩;obtain ⟨pt,pd,pm,ps⟩:=S.tab.put (x:=Value.ref c) n2 n3 pl;have pp:=SetTable.insertAt_perm es (t.put (at' t.mask (knd.hash kx) N)).2 (knd.hash kx,Value.ref c);rw [Array.toList_push] at pp;have sz:(SetTable.insertAt es (t.put (at' t.mask (knd.hash kx) N)).2 (knd.hash kx,Value.ref c)).size=es.size + 1:=by
    have:=pp.length_eq;rw [Array.length_toList,zH,Array.length_toList,yZ] at this;exact this
   generalize (t.put (at' t.mask (knd.hash kx) N)).1=T1 at pt pd pm ps ⊢;generalize SetTable.insertAt es (t.put (at' t.mask (knd.hash kx) N)).2 (knd.hash kx,Value.ref c)=Kl at pt pp sz ⊢;have fit:({ T1 with plain:=pl }:SetTable).fits Kl.size=true:=by
    unfold SetTable.fits SetTable.fill;dsimp only;rw [ps,pd,sz,pm];simp;omega
   refine wpAny_bind (store S.obj (by omega) λh' sb go=>?_);have full:({ T1 with plain:=pl }:SetTable).tooFull=decide ((es.size + 1) * 5 ≥ t.mask * 3):=by
    unfold SetTable.tooFull SetTable.fill;dsimp only;rw [ps,pd,pm];rfl
   rw [full];by_cases c:(es.size + 1) * 5 ≥ t.mask * 3
   ·rw [decide_eq_true c];simp only [Bool.not_false,Bool.and_self,if_true];obtain ⟨gm,gl,gz⟩:=oH S.tab.mask (by rw [Nat.add_sub_cancel];exact lt) (by omega) c (by omega);obtain ⟨t2,order,er,pr,T2⟩:=l7 (t:={ T1 with plain:=pl }) (es:=Kl) rfl gm (by rw [sz];exact gl);refine wpAny_bind ?_;unfold setRelay;refine wpAny_bind (wpAny_setState_of (s:={ s with heap:=h' }) go rfl fit ?_);dsimp only;rw [if_neg (by omega)];refine wpAny_bind ?_;rw [er];show wpAny (model prog w) A (if ((order.filterMap (Kl[·]?)).size != Kl.size)=true then _ else _) _ _ _;have s2:(order.filterMap (Kl[·]?)).size=Kl.size:=by have:=pr.length_eq;rw [Array.length_toList,Array.length_toList] at this;exact this
    rw [if_neg (by rw [s2];simp)];refine wpAny_pure ?_;dsimp only;refine store (s:={ s with heap:=h' }) go (by rw [s2];omega) λh2 VG go2=>?_;exact wpAny_pure (qf h2 _ _ _ nf (sb.trans VG) go2 T2 (pr.trans pp))
   ·rw [decide_eq_false c];simp only [Bool.not_false,yY,zf,if_false];exact wpAny_pure (qf h' _ _ _ nf sb go (pt (by omega)) pp)
  split
  ·refine wpAny_bind (hb _ _ _ _ hx _ _ λv=>tail _ ?_);cases v with
   | true=>exact ⟨(t.put (at' t.mask (knd.hash kx) N)).1.plain,rfl⟩
   | false=>exact ⟨false,rfl⟩
  ·refine wpAny_bind (wpAny_pure (tail _ ⟨(t.put (at' t.mask (knd.hash kx) N)).1.plain,rfl⟩))
end
end dj
namespace dj
open PySem PySem.Spec
def Kp (h0 h:Heap):Prop:=∀ b o,h0.get? b=some o->h.get? b=some o
section
variable {prog:Program}{w:World}{K:Type} [DecidableEq K] [Inhabited K] {knd:HeapKind prog w K}
def Holds (knd:HeapKind prog w K)(h:Heap)(a:Addr)(xs:List (Addr×K)):Prop:=∃ es ep t,h.get? a=some (lD es ep t)/\Tab t es/\es.toList.Perm (xs.map λx=>(knd.hash x.2,Value.ref x.1))
theorem Holds.QE {h:Heap}{a:Addr}{xs:List (Addr×K)}(H:Holds knd h a xs)(hk:∀ x∈xs,knd.is h x.2 x.1):∃ es ep t ks,Om knd h a es ep t ks/\es.toList.Perm (xs.map λx=>(knd.hash x.2,Value.ref x.1))/\es.size=xs.length/\∀ i,i < es.size->ks i∈xs.map (·.2):=by
 obtain ⟨es,ep,t,ho,T,pm⟩:=H;have ln:es.size=xs.length:=by have:=pm.length_eq;rw [Array.length_toList,zA] at this;exact this
 have pick:∀ i,∃ x:Addr×K,i < es.size->x∈xs/\es[i]?=some (knd.hash x.2,Value.ref x.1):=λi=>by
  by_cases hi:i < es.size
  ·have:=pm.mem_iff.mp (show es[i]∈es.toList from by simp);obtain ⟨x,hx,e⟩:=zP.mp this;exact ⟨x,λ_=>⟨hx,by rw [Array.getElem?_eq_getElem hi,<- e]⟩⟩
  ·exact ⟨(0,default),λz=>absurd z hi⟩
 refine ⟨es,ep,t,λi=>((pick i).choose).2,⟨ho,T,λi hi=>?_⟩,pm,ln,λi hi=>zP.mpr ⟨_,((pick i).choose_spec hi).1,rfl⟩⟩;obtain ⟨h1,h2⟩:=(pick i).choose_spec hi;exact ⟨_,Option.some.inj ((Array.getElem?_eq_getElem hi).symm.trans h2),hk _ h1⟩
theorem Holds.move {h h':Heap}{a:Addr}{xs:List (Addr×K)}(H:Holds knd h a xs)(k:∀ o,h.get? a=some o->h'.get? a=some o):Holds knd h' a xs:=by obtain ⟨es,ep,t,ho,T,pm⟩:=H;exact ⟨es,ep,t,k _ ho,T,pm⟩
section
variable {A:Around}{R:Result->Shared->Prop}{I:Addr}{fp wr:List Addr}{G:Array GenState->Array GenState->Prop}{n:Nat}{P:Nat->Value->Prop}{St:Nat->Shared->Prop} {h0:Heap}{xs:List (Addr×K)}
theorem loop (W:WalksS prog w A.in1 I fp wr G n P St)(S:Addr)(O7:S ∉ fp)(hr:knd.room A.in1)(cl:∀ B (s':Shared),Calm knd B s')(hb:Ku knd)(f0:h0.get? S=none)(f1:∀ b∈wr,h0.get? b=none)(Wr:∀ h h' k b,Kp h h'->knd.is h k b->knd.is h' k b)
  (hn:xs.length=n) (kT:n < 4000) (nd:(xs.map (·.2)).Nodup) (hx:∀ x∈xs,knd.is h0 x.2 x.1) (hv:∀ i v,P i v->∃ x,xs[i]?=some x/\v=.ref x.1) :
  ∀ (k i:Nat) (s:Shared),n - i=k->i<=n->St i s->Kp h0 s.heap->Holds knd s.heap S (xs.take i) ->
   (∀ s',Moved (S::wr) G s s'->Holds knd s'.heap S xs->R (.ok (.ret .none)) s')->codeAny (model prog w) A (.builtin "set.update.loop" ⟨[.ref S,.ref I],[]⟩) R s:=by
 have UC:S ∉ wr:=λh=>O7 (W.sub _ h);have sub:∀ b∈wr,b∈S::wr:=λb hb=>zn _ hb;intro k;induction k with
 | zero=>
  intro i s hk hi uO kp hS hR;obtain rfl:i=n:=by omega
  refine codeAny_builtin PyProof.Rows.F.entry_set_update_loop ?_;rw [Around.under_plainId PyProof.Rows.F.plain_set_update_loop _];show wpAny _ A.in1 (pyNext (.ref I) >>= _) _ _ s;refine wpAny_bind (W.done s _ _ uO λs' hm=>?_);show wpAny _ A.in1 (ret Value.none) _ _ s';rw [<-hn,zk] at hS;exact wpAny_pure (hR s' (hm.mono sub) (hS.move λo e=>hm.heap S o UC e))
 | succ k ih=>
  intro i s hk hi uO kp hS hR;have lt:i < n:=by omega
  refine codeAny_builtin PyProof.Rows.F.entry_set_update_loop ?_;rw [Around.under_plainId PyProof.Rows.F.plain_set_update_loop _];show wpAny _ A.in1 (pyNext (.ref I) >>= _) _ _ s;refine wpAny_bind (W.item i s _ _ lt uO λv s' hP Rq hm=>?_);obtain ⟨x,Rj,rfl⟩:=hv i v hP;have T7:Kp h0 s'.heap:=λb o e=>hm.heap b o (λz=>by rw [f1 b z] at e;cases e) (kp b o e);have RZ:Holds knd s'.heap S (xs.take i):=hS.move λo e=>hm.heap S o UC e;have Rh:∀ y∈xs,knd.is s'.heap y.2 y.1:=λy hy=>Wr _ _ _ _ T7 (hx y hy);obtain ⟨es,ep,t,ks,T,pm,ez,mem⟩:=RZ.QE λy hy=>Rh y (List.mem_of_mem_take hy);have Ue:=zB Rj;show wpAny _ A.in1 (holding [Value.ref x.1] (setAdd S (.ref x.1)) >>= _) _ _ s';refine wpAny_bind (wpAny_holding ?_);unfold setAdd;refine wpAny_holding ?_;refine wpAny_bind (knd.pyHash hr (Rh x Ue) ?_);refine add (s:={ s' with toks:=s'.toks + knd.draws x.2 }) hr ⟨T.obj,T.tab,T.keys⟩ (Rh x Ue) (cl _ _) hb (by rw [ez,zW];omega) (λf=>?_) (λh' ia LR t' nf sb go T' VY=>?_)
  ·exfalso;obtain ⟨j,hj,e⟩:=f;have m1:=mem j hj;rw [e,List.map_take] at m1;obtain ⟨j',mU⟩:=List.getElem?_of_mem m1;rw [List.getElem?_take] at mU;split at mU
   ·rename_i lt';have e1:(xs.map (·.2))[i]?=some x.2:=by rw [zF,Rj];rfl
    have:=(List.getElem?_inj (zI.mp mU).1 nd).mp (mU.trans e1.symm);omega
   ·cases mU
  ·have Wn:Kp h0 h':=λb o e=>by rw [sb.2 b (λz=>by rw [z,f0] at e;cases e)];exact T7 b o e
   refine wpAny_pure ⟨plainId_quiet PyProof.Rows.F.plain_set_update_loop _,ih (i + 1) _ (by omega) lt (W.frame _ s' _ _ Rq (Nat.le_add_right _ _) λb gj o e=>?_) Wn ⟨ia,LR,t',go,T',?_⟩ λK3 Rz RY=>?_⟩
   ·rw [sb.2 b (λz=>O7 (by rw [<-z];exact gj))];exact e
   ·rw [List.take_add_one,Rj,zJ];exact VY.trans (pm.append_right _)
   ·refine hR K3 (Moved.trans W.gtrans ((hm.mono sub).then_heap (Nat.le_add_right _ _) λb o gj e=>?_) Rz) RY;rw [sb.2 b (λz=>gj (by rw [z];exact z8))];exact e
end
section
variable {A:Around}{E:Value->Shared->Prop}{s:Shared}{xs:List (Addr×K)}
end
end
end dj
namespace L2
open PySem PySem.Spec PyProof.Rows
section
variable {X:Cx}
def oV:Option Int->V
 | none=>.bu
 | some i=>.int i
end
end L2
namespace Sm
open PySem L2 aZ
theorem fq {H:Hp}{l:Addr}{xs:List V}(h:H l=some (.tup xs)):ig H (.ref l)=some "tuple" := by simp only [ig,h]
theorem fz {H H':Hp}{x:V}{t:String}(s:aj H H')(h:ig H x=some t):ig H' x=some t:=by
 cases x with
 | ref a=>
  unfold ig at h ⊢;dsimp only at h ⊢;cases e:H a with
  | none=>rw [e] at h;simp at h
  | some o=>rw [e] at h;rw [s a o e];exact h
 | _=>exact h
theorem fQ {n k:Nat}(h:k < n):ux n (k:Int)=some k:=by unfold ux;rw [if_pos (by omega),if_pos (by omega)];simp
abbrev Fn:=Nat->Option Int
def put (f:Fn)(k:Nat)(x:Option Int):Fn:=λi=>if i=k then x else f i
theorem tF {f:Fn}{k:Nat}{x:Option Int}:put f k x k=x:=by unfold put;rw [if_pos rfl]
theorem tG {f:Fn}{k i:Nat}{x:Option Int}(h:i≠k):put f k x i=f i:=by unfold put;rw [if_neg h]
def mH (k:Nat)(x:Int):Fn:=λi=>if i=k then some x else none
def below (o:Option Int)(t:Int):Bool:=match o with
 | some y=>decide (y < t)
 | none=>false
theorem rB {o:Option Int}{t:Int}:below o t=true↔∃ y,o=some y/\y < t:=by cases o <;> simp [below]
def Qx (o:Option Int)(t:Int):Bool:=match o with
 | some y=>decide (y<=t)
 | none=>false
structure W3 where
 g:Nat
 o:Nat
 t:Int
def two (m:M4):List W3:=[⟨m.lo.toNat,m.hi.toNat,m.t⟩,⟨m.hi.toNat,m.lo.toNat,m.t⟩]
def gG (ms:List M4):List W3:=ms.flatMap two
def gP (st:Fn)(x:W3):Fn:=if st x.o=none/\below (st x.g) x.t=true then put st x.o (some x.t) else st
def fwd (ms:List M4)(st:Fn):Fn:=(gG ms).foldl gP st
theorem oM {st:Fn}{x:W3}{i:Nat}{y:Int}(h:st i=some y):gP st x i=some y:=by
 unfold gP;split
 ·rename_i c;by_cases e:i=x.o
  ·rw [e,c.1] at h;cases h
  ·rw [tG e];exact h
 ·exact h
def rep (n:Nat)(f:Fn):List (Option Int):=(List.range n).map f
structure W4 where
 n:Nat
 w:W3
def W4.vs (x:W4):List V:=[.int x.n,.int x.w.g,.int x.w.o,.int x.w.t]
def cP (ms:List M4):Nat->List W4
 | 0=>[]
 | i + 1=>cP ms i++(match ms[i]? with
  | some m=>[⟨i,⟨m.lo.toNat,m.hi.toNat,m.t⟩⟩,⟨i,⟨m.hi.toNat,m.lo.toNat,m.t⟩⟩]
  | none=>[])
theorem nO {ms:List M4}{i:Nat}{m:M4}(h:ms[i]?=some m):cP ms (i + 1)=cP ms i++[⟨i,⟨m.lo.toNat,m.hi.toNat,m.t⟩⟩,⟨i,⟨m.hi.toNat,m.lo.toNat,m.t⟩⟩]:=by
 conv=>lhs;unfold cP
 rw [h]
def KS:Sp:=λvs H Q _=>∃ b af tr tm ps,vs=[.ref b]/\bf H b af tr tm ps/\Good af.length (ps.map (·.2))/\∀ l (ws:List (Addr×W4)) H',H l=none->aj H H'->H' l=some (.lst (ws.map λa=>V.ref a.1))->(∀ a∈ws,H' a.1=some (.tup a.2.vs))->ws.map (·.2)=cP (ps.map (·.2)) ps.length->Q (.ref l) H'
end Sm
namespace L2
open PySem PySem.Spec PyProof.Rows
section
variable {n:Nat}{caps:List Nat}{g:TG}{tc:TT}{te:TE}{σ:St}{H:Hp}{Qf:Addr->Hp->List V->Prop}
theorem eU {lo:Int}{m:Nat}(Pv:Nat->St->List V->Hp->Prop)(h0:Pv 0 (cW n caps σ) [] H)(hn:m<=1000)(hl:∀ i τ acc H,Pv i τ acc H->acc.length<=i)
  (hs:∀ i τ acc H (C:St->List V->Hp->Prop),i < m->Pv i τ acc H->(∀ τ acc H,Pv (i + 1) τ acc H->C τ acc H)->g (.int (lo + i)) τ H fun aV H2=>tc aV H2 λb H3=>if b=true then te aV H3 λy H4=>C aV (acc++[y]) H4 else C aV acc H3)
  (hd:∀ τ acc H,Pv m τ acc H->∀ p,H p=none->Qf p H acc) :
  ∃ W:Nat->Nat->St->List V->Hp->Prop,(∃ m,W 0 m (cW n caps σ) [] H)/\∀ i m' τ acc H,W i m' τ acc H ->
   ((vM lo m).stop i H/\acc.length<=sizeLine/\∀ p,H p=none->Qf p H acc) \/
   ((vM lo m).go i H/\acc.length < sizeLine/\∀ x H',(vM lo m).jq i H x H'->g x τ H' fun aV H2=>tc aV H2 λb H3=>if b=true then te aV H3 λy H4=>∃ Nk,Nk < m'/\W (i + 1) Nk aV (acc++[y]) H4 else ∃ Nk,Nk < m'/\W (i + 1) Nk aV acc H3):=
 fT (J:=vM lo m) Pv m h0 hn hl (λi τ acc H hi p=>hi) (fun τ acc H p=>zE _)
  (λi τ acc H C hi p c x H' y=>by obtain ⟨e1,e2⟩:=y;subst e1;subst e2;exact hs i τ acc _ C hi p c) hd
end
end L2
namespace Sm
open PySem L2 aZ
def run (ws:List W3)(st:Fn):Fn:=ws.foldl gP st
theorem iM:∀ {ws:List W3}{st:Fn}{i:Nat}{y:Int},st i=some y->run ws st i=some y
 | [],_,_,_,h=>h
 | w::ws,st,i,y,h=>iM (ws:=ws) (oM h)
theorem lZ:∀ {ws:List W3}{st:Fn}{i:Nat}{t:Int},run ws st i=some t->st i=none->∃ x∈ws,x.o=i/\x.t=t/\∃ y,run ws st x.g=some y/\y < t
 | [],st,i,t,h,h0=>by
  have:st i=some t:=h;rw [h0] at this;cases this
 | w::ws,st,i,t,h,h0=>by
  have h':run ws (gP st w) i=some t:=h;cases e:gP st w i with
  | none=>
   obtain ⟨x,hx,a,b,y,hy,lt⟩:=lZ h' e;exact ⟨x,.tail _ hx,a,b,y,hy,lt⟩
  | some z=>
   have z':=iM (ws:=ws) e;rw [h'] at z';cases z';unfold gP at e;split at e
   ·rename_i c;by_cases io:i=w.o
    ·subst io;rw [tF] at e;cases e;obtain ⟨y,hy,lt⟩:=rB.mp c.2;exact ⟨w,.head _,rfl,rfl,y,iM (ws:=w::ws) hy,lt⟩
    ·rw [tG io,h0] at e;cases e
   ·rw [h0] at e;cases e
end Sm
namespace L2
open PySem PySem.Spec PyProof.Rows
section
variable {X:Cx}{aa:List (Addr×Obj)}{σ:St}{H:Hp}{s:Shared}
theorem Inv.keptAll {m:Str->Option Value}{h':Heap}{tk:Nat}(I:Inv X aa σ H s)(F0:Fr X.base X.env.locals s.heap m)(F:Fr X.base X.env.locals h' m)
  (N:News X.base X.env.locals h' (dg X.base s.heap X.env.locals)):Inv X aa σ H { s with heap:=h',toks:=tk }:=by
 have keep:∀ b o,b≠X.env.locals->s.heap.get? b=some o->h'.get? b=some o:=λb o hb e=>by
  cases q:X.base.get? b with
  | some u=>
   have:=I.bk b u q;rw [e] at this;cases this;exact F.keep b _ q
  | none=>exact (N (b,o) (cF hb q e)).1
 refine I.step (g':=s.gens) (t':=tk) (d':=s.drawn) (ch:=[]) (λ_ z=>nomatch z) (λb o hb _ _ e _=>keep b o hb e) (λb o hb _ _ e _=>⟨o.slots,keep b o hb e⟩) (λb o _ e n=>n) (λb o _ e=>?_)
  (λb ys e=>e) (λb o u e=>e) (λb ps e=>⟨#[],by rw [e,Array.append_empty]⟩) (λm' hm=>?_) (λb u e=>?_) I.bare
 ·by_cases hb:b=X.env.locals
  ·obtain ⟨o',_,_,q,_⟩:=F.ns;exact ⟨o',by rw [hb];exact q⟩
  ·exact ⟨o,keep b o hb e⟩
 ·obtain ⟨o1,Kl,XH,e1,d1,k1,f1⟩:=hm;obtain ⟨o2,XE,XG,e2,d2,k2,f2⟩:=F0.ns;rw [e1] at e2;cases e2;rw [d1] at d2;cases d2;obtain ⟨o3,Sg,Sh,e3,d3,k3,f3⟩:=F.ns;exact ⟨o3,Sg,Sh,e3,d3,k3,λname=>(f3 name).trans ((f2 name).symm.trans (f1 name))⟩
 ·refine (I.aU b u e).fD (λc v hc q=>keep c v (λz=>?_) q) (λc q=>q) λc ys q=>q;rcases hc with rfl | hc
  ·rw [z,I.free] at e;cases e
  ·rw [z,I.free] at hc;cases hc
theorem jj:∀ {bs:List Bool}{us:List Value},Vals (bs.map V.bl) us->LSm.BoolsAre us bs
 | [],us,r=>by cases r;exact .nil
 | b::bs,us,r=>by
  cases r with
  | cons x y=>
   cases x;exact .cons b (jj y)
theorem dS {K:PySem.W.Frag}(hK:X.K=K)(hc:X.calm=true):cH X (.builtin "all") (λxs H Q=>∃ p,∃ bs:List Bool,xs=[.ref p]/\av K H p (bs.map V.bl)/\Q (.bl (bs.all id)) H):=by subst hK;intro aa s σ H xs us Q I r h;obtain ⟨p,bs,rfl,hq,q⟩:=h;obtain ⟨u,rfl,rx⟩:=vals1 r;cases rx;obtain ⟨ak,r',pl,hz⟩:=I.list hq;obtain ⟨m,F⟩:=I.fr;exact LSm.all_bools F (iW (g:=X.base) (h:=s.heap)) (I.ok.hd hc) pl.isList (jj r') λh' tk F' N'=>⟨.bl _,H,I.keptAll F F' N',rfl,q⟩
end
end L2
namespace Sm
open PySem L2 aZ
def Mc (ms:List M4)(n g o:Nat)(t:Int):Prop:=∃ m,ms[n]?=some m/\m.t=t/\((m.lo.toNat=g/\m.hi.toNat=o)\/(m.lo.toNat=o/\m.hi.toNat=g))
theorem eF {ms:List M4}:∀ {i:Nat}{x:W4},x∈cP ms i->Mc ms x.n x.w.g x.w.o x.w.t
 | 0,x,h=>by cases h
 | i + 1,x,h=>by
  unfold cP at h;rcases zS.mp h with h | h
  ·exact eF h
  ·cases e:ms[i]? with
   | none=>rw [e] at h;cases h
   | some m=>
    rw [e] at h;simp only [zO,zh,or_false] at h;rcases h with rfl | rfl
    ·exact ⟨m,e,rfl,.inl ⟨rfl,rfl⟩⟩
    ·exact ⟨m,e,rfl,.inr ⟨rfl,rfl⟩⟩
theorem Mc.inside {n g o w:Nat}{t:Int}{ms:List M4}(g0:Good w ms)(h:Mc ms n g o t):g < w/\o < w/\g≠o:=by obtain ⟨m,hm,_,h⟩:=h;obtain ⟨a1,a2,a3,_⟩:=g0.each m (zB hm);rcases h with ⟨rfl,rfl⟩ | ⟨rfl,rfl⟩ <;> omega
theorem aL.same {H H':Hp}{p:Addr}(h:aL H p)(e:aj H H'):aL H' p:=by obtain ⟨x,y,z,q⟩:=h;exact ⟨x,y,z,e _ _ q⟩
end Sm
namespace L2
open PySem PySem.Spec PyProof.Rows
def rV (K:PySem.W.Frag)(a b:Addr):It:=
 ⟨λi H=>∃ xs ys x y,av K H a xs/\av K H b ys/\xs[i]?=some x/\ys[i]?=some y,λi H v H'=>∃ p x y,H p=none/\v=.ref p/\H'=upd H p (.tup [x,y])/\∀ xs ys,av K H a xs->av K H b ys->xs[i]?=some x/\ys[i]?=some y,
  λi H=>∃ xs ys,av K H a xs/\av K H b ys/\(xs.length<=i\/ys.length<=i)⟩
theorem qi {P:Program}{w:World}{K:PySem.W.Frag}{es:List Expr}{k:Nat}{pos:Pos}(l1 l2 z TI TO i1 i2:Addr)(ap:ZipApart z TI TO i1 i2 l1 l2) :
  Turn P w K (.Tuple es k pos) (rV K l1 l2) [z,TI,TO,i1,i2] z (λi h=>IsZip h z TI TO .none/\IsPair h TI (.ref i1) (.ref i2)/\(∃ a b,IsPair h TO a b)/\h.IsListIter i1 l1 i/\h.IsListIter i2 l2 i) where
 mem:=by simp
 obj:=λi h st b hb=>by
  obtain ⟨hz,u0,⟨a,c,vY⟩,⟨o1,g1,c1,d1⟩,⟨o2,g2,c2,d2⟩⟩:=st;simp only [zO,zh,or_false] at hb;rcases hb with e | e | e | e | e <;> subst e
  ·exact ⟨_,hz,λv q=>nomatch q⟩
  ·exact ⟨_,u0,λv q=>nomatch q⟩
  ·exact ⟨_,vY,λv q=>nomatch q⟩
  ·exact ⟨o1,g1,λv q=>by rw [d1] at q;cases q⟩
  ·exact ⟨o2,g2,λv q=>by rw [d2] at q;cases q⟩
 keep:=λi h h' st q=>by
  obtain ⟨hz,u0,⟨a,c,vY⟩,⟨o1,g1,r1⟩,⟨o2,g2,r2⟩⟩:=st;exact ⟨q z (by simp) _ hz,q TI (by simp) _ u0,⟨a,c,q TO (by simp) _ vY⟩,⟨o1,q i1 (by simp) o1 g1,r1⟩,⟨o2,q i2 (by simp) o2 g2,r2⟩⟩
 item:=by
  intro X hP hw hK hc i aa s σ H E I hf st hg;subst hP hw hK;obtain ⟨xs,ys,x,y,vW,rP,hx,hy⟩:=hg;obtain ⟨Nx,OL,p1,OY⟩:=I.list vW;obtain ⟨dw,OJ,p2,NF⟩:=I.list rP;obtain ⟨u,hu,ru⟩:=OL.get hx;obtain ⟨v,hv,rv⟩:=OJ.get hy;obtain ⟨hZ,u0,⟨a0,c0,vY⟩,lI,qX⟩:=st;have fp:=λb hb=>hf b hb;have lt:∀ b,b∈[z,TI,TO,i1,i2]->b < s.heap.objs.size:=λb hb=>by
   simp only [zO,zh,or_false] at hb;rcases hb with e | e | e | e | e <;> subst e
   ·exact Heap.lt_size hZ
   ·exact Heap.lt_size u0
   ·exact Heap.lt_size vY
   ·exact let ⟨_,z,_⟩:=lI;Heap.lt_size z
   ·exact let ⟨_,z,_⟩:=qX;Heap.lt_size z
  refine wpAny_pyNext_zip_item ap hZ u0 vY lI qX p1.isList p2.isList (x:=u) (y:=v) (by simpa using hu) (by simpa using hv) λh1 Xf RX RH RG hT O1 hk=>?_;refine ⟨_,rfl,?_⟩;refine wpAny_letOwnedTupleGo_zip Xf λh2 Xe lH=>?_;have gi:Heap.SameBut z h1 h2:=lH;have bX:∀ b o,b ∉ [z,TO,i1,i2]->s.heap.get? b=some o->h2.get? b=some o:=λb o hb q=>by
   simp only [zO,zh,or_false,not_or] at hb;exact gi.extBut b o hb.1 (hk b o hb.1 hb.2.1 hb.2.2.1 hb.2.2.2 q)
  have Kd:h2.get? s.heap.objs.size=some { cls:=.type "tuple", data:=.seq #[u,v] }:=gi.extBut _ _ (yJ (lt z (by simp))) hT;have nT:H s.heap.objs.size=none:=I.aU.fresh (zE _);have sub:∀ b,b∈[z,TO,i1,i2]->b∈[z,TI,TO,i1,i2]:=λb hb=>by
   simp only [zO,zh,or_false] at hb ⊢;rcases hb with e | e | e | e <;> simp [e]
  refine ⟨.ref s.heap.objs.size,upd H s.heap.objs.size (.tup [x,y]),?_,rfl,⟨_,x,y,nT,rfl,rfl,λYF YD h1 h2=>by rw [I.fN h1 vW,I.fN h2 rP];exact ⟨hx,hy⟩⟩,⟨Xe,?_,⟨u,v,?_⟩,?_,?_⟩,λb hb=>?_⟩
  ·refine Inv.step (s:=s) (h':=h2) (g':=s.gens) (d':=s.drawn) (t':=s.toks) (ch:=[z,TO,i1,i2]) I (λb hb=>?_) (λb o _ _ hb q _=>bX b o hb q) (λb o _ _ hb q _=>⟨o.slots,bX b o hb q⟩)
    (λb o _ q n=>by rw [xC (zT (Heap.lt_size q))];exact n) (λb o hb q=>⟨o,bX b o hb q⟩)
    (λb ys q=>by rw [xC (xA q nT)];exact q) (λb o v q=>by rw [xC (xA q nT)];exact q) (λb ps q=>⟨#[],by rw [xC (xA q nT),q];simp⟩)
    (λm hm=>by
     obtain ⟨o,ia,ep,q,r⟩:=hm;exact ⟨o,ia,ep,bX _ o (λhb=>(fp _ (sub _ hb)).2.1 rfl) q,r⟩) (λb v' q=>?_) I.bare
   ·obtain ⟨e0,e1,e2,e3,e4,e5⟩:=fp b (sub b hb);exact ⟨e3,e1,e4,e5⟩
   ·by_cases hb:b=s.heap.objs.size
    ·subst hb;rw [yq] at q;cases q;exact ⟨⟨by show 2<=sizeLine;rw [sizeLine_eq];decide,λob e=>by rw [Kd] at e;cases e;rfl⟩,[u,v],.cons ru (.cons rv .nil),⟨_,Kd,rfl,_,rfl⟩⟩
    ·rw [xC hb] at q;refine (I.aU b v' q).fD (λc ob hc qc=>bX c ob (λhb=>?_) qc) (λc qc=>by rw [xC (xA qc nT)];exact qc) λc ys qc=>by rw [xC (xA qc nT)];exact qc
     have e0:=(fp c (sub c hb)).1;rcases hc with z | z
     ·subst z;exact xA q e0 rfl
     ·exact xA z e0 rfl
  ·exact bX _ _ (by simp only [zO,zh,or_false,not_or];exact ⟨ap.TIz,ap.TITO,ap.TIi1,ap.TIi2⟩) u0
  ·exact gi.extBut _ _ ap.TOz RX
  ·obtain ⟨o,q,r⟩:=RH;exact ⟨o,gi.extBut i1 o ap.i1z q,r⟩
  ·obtain ⟨o,q,r⟩:=RG;exact ⟨o,gi.extBut i2 o ap.i2z q,r⟩
  ·rw [xC (zT (lt b hb))];exact (fp b hb).1
 done:=by
  intro X hP hw hK hc i aa s σ H E I hf st hg;subst hP hw hK;obtain ⟨xs,ys,vW,rP,hx⟩:=hg;obtain ⟨Nx,OL,p1,OY⟩:=I.list vW;obtain ⟨dw,OJ,p2,NF⟩:=I.list rP;obtain ⟨hZ,u0,⟨a0,c0,vY⟩,lI,qX⟩:=st;have YX:=OL.length;have J1:=OJ.length;have sub:∀ b,b∈[z,TO,i1,i2]->b∈[z,TI,TO,i1,i2]:=λb hb=>by
   simp only [zO,zh,or_false] at hb ⊢;rcases hb with e | e | e | e <;> simp [e]
  refine wpAny_pyNext_zip_end (I.ok.hd hc) ap hZ u0 vY lI qX p1.isList p2.isList (by
   rcases hx with h | h
   ·exact .inl (by simp;omega)
   ·exact .inr (by simp;omega)) λh' hk=>⟨rfl,?_⟩
  have bX:∀ b o,b ∉ [z,TO,i1,i2]->s.heap.get? b=some o->h'.get? b=some o:=λb o hb q=>by
   simp only [zO,zh,or_false,not_or] at hb;exact hk b o hb.1 hb.2.1 hb.2.2.1 hb.2.2.2 q
  refine Inv.step (s:=s) (h':=h') (g':=s.gens) (d':=s.drawn) (t':=s.toks) (ch:=[z,TO,i1,i2]) I (λb hb=>?_) (λb o _ _ hb q _=>bX b o hb q) (λb o _ _ hb q _=>⟨o.slots,bX b o hb q⟩)
    (λb o _ q n=>n) (λb o hb q=>⟨o,bX b o hb q⟩)
    (λb ys q=>q) (λb o v q=>q) (λb ps q=>⟨#[],by rw [q];simp⟩)
    (λm hm=>by
     obtain ⟨o,ia,ep,q,r⟩:=hm;exact ⟨o,ia,ep,bX _ o (λhb=>(hf _ (sub _ hb)).2.1 rfl) q,r⟩) (λb v' q=>?_) I.bare
  ·obtain ⟨e0,e1,e2,e3,e4,e5⟩:=hf b (sub b hb);exact ⟨e3,e1,e4,e5⟩
  ·refine (I.aU b v' q).fD (λc ob hc qc=>bX c ob (λhb=>?_) qc) (λc qc=>qc) λc ys qc=>qc;have e0:=(hf c (sub c hb)).1;rcases hc with z | z
   ·subst z;exact xA q e0 rfl
   ·exact xA z e0 rfl
 self:=λ_ _ _ _ _ st h=>wpAny_pyIter_zip st.1 h
def Ny (K:PySem.W.Frag)(ta:TA):TI:=fun σ H R=>ta σ H λvs H1=>∃ a b,vs=[.ref a,.ref b]/\(∃ xs,av K H1 a xs)/\(∃ ys,av K H1 b ys)/\R (rV K a b) H1
theorem fJ {X:Cx}{a b:Expr}{ta:TA}{p pos dI:Pos}{es:List Expr}{k:Nat}{K:PySem.W.Frag}(hK:X.K=K)(hg:Gl X "zip")(hm:X.mg "zip" = none)(ha:PA X [a,b] ta)
  (hs:starEach [a,b] X.env=(false,eval a X.env)::starEach [b] X.env:=by rfl) (lH:starEach [b] X.env=[(false,eval b X.env)]:=by rfl) :
  PI X (.Tuple es k dI) (.Call (.Name "zip" p) [a,b] [] pos) (Ny K ta):=by
 subst hK;intro aa s σ H R I h;refine Call_ (bJ I hg hm boot_zip (zb (aM (ha pos aa s σ H _ I h) λus s1 ⟨vs,H1,I1,r1,q1⟩=>?_) (by rw [hs,lH]) (by rw [lH];rfl)));obtain ⟨l1,l2,e,⟨xs,vW⟩,⟨ys,rP⟩,q⟩:=q1;subst e;cases r1 with
 | cons r rr=>
  cases rr with
  | cons r' rr=>
   cases rr;cases r;cases r';obtain ⟨Nx,OL,p1,OY⟩:=I1.list vW;obtain ⟨dw,OJ,p2,NF⟩:=I1.list rP;have Wg:l1 < s1.heap.objs.size:=let ⟨_,z,_⟩:=p1.isList;Heap.lt_size z;have Wf:l2 < s1.heap.objs.size:=let ⟨_,z,_⟩:=p2.isList;Heap.lt_size z;refine call_zip_2 p1.isList p2.isList λh' hZ u0 vY lI qX O1 hk=>?_;refine wpAny_pyIter_zip hZ ?_;have I2:Inv X aa σ H1 { s1 with heap:=h' }:=I1.kept (t':=s1.toks) hk;refine ⟨s1.heap.objs.size + 4,[s1.heap.objs.size + 4,s1.heap.objs.size + 2,s1.heap.objs.size + 3,s1.heap.objs.size,s1.heap.objs.size + 1],_,_,H1,rfl,I2,qi l1 l2 _ _ _ _ _ (zipApart_new Wg Wf),⟨hZ,u0,⟨_,_,vY⟩,lI,qX⟩,λb hb=>?_,q⟩;have gj:s1.heap.objs.size<=b:=by
    simp only [zO,zh,or_false] at hb;rcases hb with e | e | e | e | e <;> rw [e] <;> first | exact zE _ | exact Nat.le_add_right _ _
   exact I1.mX gj (I1.aU.fresh gj)
theorem mY {K:PySem.W.Frag}{a b:Addr}{xs ys:List V}{g:TG}{tb:TS}{D:Ends}{σ:St}{H:Hp}(el:xs.length=ys.length)(Pv:Nat->St->Hp->Prop)(h0:Pv 0 σ H)(hl:∀ i σ H,i<=xs.length->Pv i σ H->av K H a xs/\av K H b ys)
  (hs:∀ i x y q σ H,xs[i]?=some x->ys[i]?=some y->H q=none->Pv i σ H->g (.ref q) σ (upd H q (.tup [x,y])) fun fj H2=>tb (D.lp (Pv (i + 1))) fj H2) (hd:∀ σ H,Pv xs.length σ H->D.nx σ H) :
  ∃ W:Nat->Nat->St->Hp->Prop,(∃ m,W 0 m σ H)/\∀ i m σ H,W i m σ H ->
   ((rV K a b).stop i H/\D.nx σ H)\/((rV K a b).go i H/\∃ N:St->Hp->Prop,(∀ br H',N br H'->∃ m',m' < m/\W (i + 1) m' br H')/\∀ x H',(rV K a b).jq i H x H'->g x σ H' fun fj H2=>tb (D.lp N) fj H2):=by
 refine ⟨λi m σ H=>m=xs.length - i/\i<=xs.length/\Pv i σ H,⟨xs.length,by simp,zV _,h0⟩,?_⟩;rintro i m σ H ⟨rfl,hi,p⟩;obtain ⟨q1,q2⟩:=hl i σ H hi p;by_cases cM:i < xs.length
 ·refine .inr ⟨⟨xs,ys,xs[i],ys[i]'(by omega),q1,q2,by simp [cM],by simp [<-el,cM]⟩,Pv (i + 1),fun br H' p'=>⟨xs.length - (i + 1),by omega,rfl,cM,p'⟩,λx H' y=>?_⟩;obtain ⟨q',x',y',hq,e1,e2,y⟩:=y;subst e1;subst e2;exact hs i x' y' q' σ _ (y xs ys q1 q2).1 (y xs ys q1 q2).2 hq p
 ·have e:i=xs.length:=by omega
  subst e;exact .inl ⟨⟨xs,ys,q1,q2,.inl (zE _)⟩,hd σ H p⟩
end L2
namespace Sm
open PySem L2 aZ
theorem mZ (xs:List V)(k:Nat):ay xs (some (k:Int)) none=xs.drop k:=by
 unfold ay;rw [HT.pG];show (xs.drop (min k xs.length)).take (xs.length - min k xs.length)=xs.drop k;by_cases h:k<=xs.length
 ·rw [Nat.min_eq_left h,zm (by rw [yF];exact zE _)]
 ·rw [Nat.min_eq_right (by omega),List.drop_eq_nil_of_le (by omega),List.drop_eq_nil_of_le (by omega),List.take_nil]
theorem jh (xs:List V)(k:Nat):ay xs none (some (k:Int))=xs.take k:=by
 unfold ay;rw [HT.pG];show (xs.drop 0).take (min k xs.length - 0)=xs.take k;rw [List.drop_zero,Nat.sub_zero];by_cases h:k<=xs.length
 ·rw [Nat.min_eq_left h]
 ·rw [Nat.min_eq_right (by omega),zm (zE _),zm (by omega)]
end Sm
namespace L2
open PySem
theorem jy {c:Bool}{A:Prop}{D:Ends}{σ:St}{H:Hp}(Pre:St->Hp->Prop)(k:∀ σ H,Pre σ H->D.nx σ H)(h1:c=true->(∀ σ H,Pre σ H->D.nx σ H)->A)(h2:c=false->Pre σ H):if c=true then A else lP D σ H:=by
 cases c with
 | true=>exact h1 rfl k
 | false=>exact k _ _ (h2 rfl)
end L2
namespace Sm
open PySem L2 aZ
theorem Go.free {p l:Addr}{H H':Hp}(g:Go p H H')(h:H' l=none)(np:l≠p):H l=none:=by
 cases e:H l with
 | none=>rfl
 | some u=>rw [g.1 l u np e] at h;cases h
def Nu (row F:Fn)(x:W3):Fn:=if below (row x.g) x.t=true/\Qx (F x.o) x.t=false then put F x.o (some x.t) else F
def Wo (ws:List W3)(row:Fn):Fn:=ws.foldl (Nu row) row
def qQ (ws:List W3)(row:Fn):Nat->Fn
 | 0=>row
 | k + 1=>Wo ws (qQ ws row k)
def rk (ws:List W3):Option Int->Nat
 | none=>ws.length + 1
 | some y=>ws.countP λx=>decide (x.t < y)
end Sm
namespace L2
open PySem PySem.Spec PyProof.Rows
section
variable {X:Cx}
theorem fitsLong {k:Int}(h1:-2 ^ 63<=k)(h2:k < 2 ^ 63):Builtin.Range.rangeFitsLong k=true:=by unfold Builtin.Range.rangeFitsLong;rw [decide_eq_true h1,decide_eq_true h2];rfl
theorem kC {a:Expr}{ta:TA}{p p2 pos dI:Pos}(hc:X.calm=true)(hg:Gl X "list")(hm:X.mg "list" = none)(NX:Gl X "range")(Ry:X.mg "range" = none)(ha:PA X [a] ta)
  (hs:starEach [a] X.env=[(false,eval a X.env)]:=by rfl) (NN:starEach [Expr.Call (.Name "range" p2) [a] [] dI] X.env=[(false,eval (Expr.Call (.Name "range" p2) [a] [] dI) X.env)]:=by rfl) :
  PE X (.Call (.Name "list" p) [.Call (.Name "range" p2) [a] [] dI] [] pos) (fun σ H Q=>ta σ H λvs H1=>∃ n:Nat,vs=[.int (n:Int)]/\n<=1000/\∀ l,H1 l=none->Q (.ref l) (upd H1 l (.lst ((List.range n).map λk:Nat=>V.int (k:Int))))):=by
 intro aa s σ H Q I h;refine wpAny_Call_Name_kw (bJ I hg hm boot_list ?_ (by decide) (by decide));refine zb ?_ NN rfl;rw [NN];show wpAny _ _ (spliced ((false,eval (Expr.Call (.Name "range" p2) [a] [] dI) X.env)::backTo pos (starEach [] X.env))) _ _ s;refine Calls.spliced_cons ?_;refine Call_ (bJ I NX Ry boot_range (zb (aM (ha dI aa s σ H _ I h) λus s1 ⟨vs,H1,I1,r1,q1⟩=>?_) hs rfl));obtain ⟨n,rfl,hn,q⟩:=q1;obtain ⟨u,rfl,ru⟩:=Vals.one r1;obtain ⟨t,rfl⟩:=ru;refine call_range_1 ?_;refine Calls.spliced_nil ?_;have sm:Builtin.Range.small 0 (n:Int) 1=true:=by
  have sz:Builtin.Range.rangeSize 0 (n:Int) 1=n:=by rw [rangeSize_one];split <;> omega
  have f0:Builtin.Range.rangeFitsLong 0=true:=fitsLong (by decide) (by decide);have f1:Builtin.Range.rangeFitsLong 1=true:=fitsLong (by decide) (by decide);have fn:Builtin.Range.rangeFitsLong (n:Int)=true:=fitsLong (by omega) (by omega);have fm:Builtin.Range.rangeFitsLong ((n:Int) + (1 - 1))=true:=fitsLong (by omega) (by omega);unfold Builtin.Range.small;rw [sz,f0,f1,fn,if_pos (show (1:Int) > 0 by decide),fm,Bool.or_true];rfl
 have sz:Builtin.Range.rangeSize 0 (n:Int) 1=n:=by rw [rangeSize_one];split <;> omega
 refine call_list_range (n:=n) (I1.ok.hd hc) (Heap.get?_push_size _ rfl) sm sz (by omega) λh' tk dU c' keep uS items=>?_;have vals:∀ (m:Nat) (l:List Value),l.length=m->(∀ (j:Nat) v,l[j]?=some v->∃ t,v=Value.int (0 + (j:Int) * 1) t)->Vals ((List.range m).map λk:Nat=>V.int (k:Int)) l:=by
  intro m;induction m with
  | zero=>
   intro l hl _;rw [List.length_eq_zero_iff.mp hl];exact .nil
  | succ m ih=>
   intro l hl hv;have ne:l≠[]:=λe=>by rw [e] at hl;cases hl
   have es:l=l.dropLast++[l.getLast ne]:=(List.dropLast_concat_getLast ne).symm;rw [es,List.range_succ,zJ];refine Vals.append (ih _ (by rw [List.length_dropLast,hl];rfl) λj v h=>hv j v ?_) (.cons ?_ .nil)
   ·rw [es];rw [yP (zI.mp h).1];exact h
   ·obtain ⟨t,e⟩:=hv m (l.getLast ne) (by rw [List.getLast_eq_getElem];rw [zD (by omega)];simp [hl]);have e2:(0:Int) + (m:Int) * 1=(m:Int):=by omega
    rw [e2] at e;exact ⟨t,e⟩
 have Q0:((List.range n).map λk:Nat=>V.int (k:Int)).length<=sizeLine:=by
  rw [zA,zx,sizeLine_eq];omega
 have ge:s1.heap.objs.size<=(s1.heap.push { cls:=.type "range", data:=.fields #[.int 0 s1.toks,.int n t,.int 1 (s1.toks + 1)] }).objs.size:=by rw [Heap.size_push];exact yT _
 exact ⟨.ref _,_,I1.laid (t':=tk) (λb o' h=>keep b o' (Heap.get?_push_of_some _ h)) ge (show aT X.prog X.w _ h' _ (.lst ((List.range n).map λk:Nat=>V.int (k:Int))) from ⟨Q0,dU.toList,c',vals n dU.toList (by rw [Array.length_toList];exact items.1) (λj v h=>items.2 j v (by rw [<-Array.getElem?_toList];exact h)),uS⟩),rfl,q _ (I1.aU.fresh ge)⟩
end
end L2
namespace Sm
open PySem L2 aZ
structure Rows (H0 H:Hp) (ms:List M4) (n k:Nat) (x:Int) (as:List Addr):Prop where
 pos:as≠[]
 kT:as.length<=200000
 at':∀ (i:Nat) (a:Addr),as[i]?=some a->H0 a=none/\H a=some (.lst ((rep n (qQ (gG ms) (mH k x) i)).map oV))
 ne:∀ i,i + 1 < as.length->rep n (qQ (gG ms) (mH k x) (i + 1))≠rep n (qQ (gG ms) (mH k x) i)
 last:rep n (qQ (gG ms) (mH k x) as.length)=rep n (qQ (gG ms) (mH k x) (as.length - 1))
end Sm
namespace L2
open PySem PySem.Spec PyProof.Rows
section
variable {K:PySem.W.Frag}{a:Addr}{xs:List V}{n:Nat}{caps:List Nat}{g:TG}{tc:TT}{te:TE}{σ:St}{H:Hp}{Qf:Addr->Hp->List V->Prop}
end
theorem vt (xs:List V):ay xs none (some (-1))=xs.dropLast:=by
 unfold ay;have e:HT.lG xs.length xs.length (some (-1))=xs.length - 1:=by
  show (if (-1:Int) < 0 then (-1 + (xs.length:Int)).toNat else min (-1:Int).toNat xs.length)=_;rw [if_pos (by decide)];omega
 rw [e,HT.tu,List.drop_zero,Nat.sub_zero,List.dropLast_eq_take]
end L2
namespace Sm
open PySem L2 aZ
end Sm
namespace Sm
open PySem L2
end Sm
namespace Sm
open PySem L2 aZ
theorem jF {ms:List M4}{n:Nat}{m:M4}(hm:ms[n]?=some m):∀ i,n < i->(⟨n,⟨m.lo.toNat,m.hi.toNat,m.t⟩⟩:W4)∈cP ms i/\(⟨n,⟨m.hi.toNat,m.lo.toNat,m.t⟩⟩:W4)∈cP ms i
 | 0,h=>absurd h (zU _)
 | i + 1,h=>by
  unfold cP;rcases Nat.lt_or_ge n i with l | l
  ·have:=jF hm i l;exact ⟨ze _ this.1,ze _ this.2⟩
  ·have e:n=i:=by omega
   subst e;rw [hm];exact ⟨zC _ (.head _),zC _ (.tail _ (.head _))⟩
def again (ms:List M4)(day first:Int):Nat->List M4
 | 0=>[]
 | r + 1=>again ms day first r++ms.map (M4.fO ((first + r) * day))
end Sm
namespace L2
open PySem PySem.Spec PyProof.Rows
def MG (lo c:Int)(n:Nat):It:=⟨λi _=>i < n,λi H x H'=>H'=H/\x=.int (lo + i * c),λi _=>n<=i⟩
theorem lN {P:Program}{w:World}{K:PySem.W.Frag}{tg:Expr}(it:Addr)(lo c:Int)(n:Nat):Turn P w K tg (MG lo c n) [it] it (λi h=>IsRangeIter h it (lo + (i:Nat) * c) ((n:Int) - (i:Nat)) c) where
 mem:=by simp
 obj:=λi h st b hb=>by
  have e:b=it:=by simpa using hb
  subst e;exact ⟨_,st,λv z=>by
   have z':Data.fields _=Data.cell v:=z;cases z'⟩
 keep:=λi h h' st k=>k it (by simp) _ st
 item:=by
  intro X hP hw hK hc i aa s σ H E I hf st hg;subst hP hw hK;obtain ⟨f0,f1,f2,f3,f4,f5⟩:=hf it (by simp);have W:=Walks.range (prog:=X.prog) (w:=X.w) (I.ok.hd hc) it lo c n;refine W.item i s _ _ hg st λv h' tk hv sN kk=>?_;obtain ⟨t,rfl⟩:=hv;have I1:Inv X aa σ H { s with heap:=h',toks:=tk }:=I.turned (λb o hb e=>kk b o (by simpa using hb) e) f0 f1 f3 f4 f5;exact ⟨_,rfl,pV (s:={ s with heap:=h',toks:=tk }) (n := "range_iterator") sN rfl rfl (by decide) ⟨.int (lo + i * c),H,I1,⟨t,rfl⟩,⟨rfl,rfl⟩,sN,λb hb=>(hf b hb).1⟩⟩
 done:=by
  intro X hP hw hK hc i aa s σ H E I hf st hg;subst hP hw hK;obtain ⟨f0,f1,f2,f3,f4,f5⟩:=hf it (by simp);exact wpAny_pyNext_range_end (I.ok.hd hc) st (by have:n<=i:=hg;omega) λh' eb=>⟨rfl,I.turned (t':=s.toks) (λb o hb e=>eb b o hb e) f0 f1 f3 f4 f5⟩
 self:=λ_ _ _ _ _ st h=>wpAny_pyIter_rangeiter st h
section
variable {X:Cx}{tg:Expr}
theorem qH {aa:List (Addr×Obj)}{σ:St}{H:Hp}{s:Shared}{R:It->Hp->Prop}{E:Value->Shared->Prop}{lo hi c:Int}{n:Nat}{t u v:Tok}{tk:Nat}(I:Inv X aa σ H s)(hs:Builtin.Range.small lo hi c=true)(hn:Builtin.Range.rangeSize lo hi c=(n:Int))
  (q:R (MG lo c n) H):wpAny (model X.prog X.w) X.A (pyIter (.ref s.heap.objs.size)) (SD X aa σ tg R) E { s with heap:=s.heap.push { cls:=.type "range", data:=.fields #[.int lo t,.int hi u,.int c v] },toks:=tk }:=by
 refine wpAny_pyIter_range (IsRange.new ..) hs ?_;have I1:Inv X aa σ H { s with heap:=s.heap.push { cls:=.type "range", data:=.fields #[.int lo t,.int hi u,.int c v] },toks:=tk }:=I.kept λb o e=>Heap.get?_push_of_some _ e;refine ⟨(s.heap.push { cls:=.type "range", data:=.fields #[.int lo t,.int hi u,.int c v] }).objs.size,[(s.heap.push { cls:=.type "range", data:=.fields #[.int lo t,.int hi u,.int c v] }).objs.size],_,_,H,rfl,
  I1.kept (t':=tk) λb o e=>Heap.get?_push_of_some _ e,lN _ lo c n,?_,λb hb=>?_,q⟩
 ·show IsRangeIter _ _ (lo + ((0:Nat):Int) * c) ((n:Int) - ((0:Nat):Int)) c;rw [show lo + ((0:Nat):Int) * c=lo by simp,show (n:Int) - ((0:Nat):Int)=Builtin.Range.rangeSize lo hi c by rw [hn];simp];exact Heap.get?_push_size _ rfl
 ·have e:b=(s.heap.push { cls:=.type "range", data:=.fields #[.int lo t,.int hi u,.int c v] }).objs.size:=by simpa using hb
  subst e;exact I1.mX (zE _) (I1.aU.fresh (zE _))
def NB (ta:TA):TI:=fun σ H R=>ta σ H λvs H1=>∃ i j c:Int,∃ n:Nat,vs=[.int i,.int j,.int c]/\c≠0/\Builtin.divisionGoesByPylong (j - i) c=false/\Builtin.Range.small i j c=true/\Builtin.Range.rangeSize i j c=(n:Int)/\R (MG i c n) H1
theorem qK {a b d:Expr}{ta:TA}{p pos:Pos}(hg:Gl X "range")(hm:X.mg "range" = none)(ha:PA X [a,b,d] ta)(hs:starEach [a,b,d] X.env=[(false,eval a X.env),(false,eval b X.env),(false,eval d X.env)]:=by rfl)(lH:starEach [b,d] X.env=[(false,eval b X.env),(false,eval d X.env)]:=by rfl) :
  PI X tg (.Call (.Name "range" p) [a,b,d] [] pos) (NB ta):=by
 intro aa s σ H R I h;refine Call_ (bJ I hg hm boot_range (zb (aM (ha pos aa s σ H _ I h) λus s1 ⟨vs,H1,I1,r1,q1⟩=>?_) (by rw [hs,lH]) (by rw [lH];rfl)));obtain ⟨i,j,c,n,e,c0,np,sm,hn,q⟩:=q1;subst e;cases r1 with
 | cons r rr=>
  cases rr with
  | cons r' rr=>
   cases rr with
   | cons VR rr=>
    cases rr;obtain ⟨t,rfl⟩:=r;obtain ⟨t',rfl⟩:=r';obtain ⟨YK,rfl⟩:=VR;exact call_range_3 c0 (qH I1 sm hn q) (.inl np)
theorem oN {lo c:Int}{n:Nat}{g:TG}{tb:TS}{D:Ends}{σ:St}{H:Hp}(Pv:Nat->St->Hp->Prop)(h0:Pv 0 σ H)
  (hs:∀ i σ H,i < n->Pv i σ H->g (.int (lo + i * c)) σ H fun fj H2=>tb (D.lp (Pv (i + 1))) fj H2) (hd:∀ σ H,Pv n σ H->D.nx σ H) :
  ∃ W:Nat->Nat->St->Hp->Prop,(∃ m,W 0 m σ H)/\∀ i m σ H,W i m σ H ->
   ((MG lo c n).stop i H/\D.nx σ H)\/((MG lo c n).go i H/\∃ N:St->Hp->Prop,(∀ br H',N br H'->∃ m',m' < m/\W (i + 1) m' br H')/\∀ x H',(MG lo c n).jq i H x H'->g x σ H' fun fj H2=>tb (D.lp N) fj H2):=by
 refine ⟨λi m σ H=>m=n - i/\i<=n/\Pv i σ H,⟨n,by simp,zV _,h0⟩,?_⟩;rintro i m σ H ⟨rfl,hi,p⟩;by_cases cM:i < n
 ·refine .inr ⟨cM,Pv (i + 1),fun br H' p'=>⟨n - (i + 1),by omega,rfl,cM,p'⟩,λx H' y=>?_⟩;obtain ⟨e,y⟩:=y;subst e;subst y;exact hs i σ _ cM p
 ·have e:i=n:=by omega
  subst e;exact .inl ⟨zE _,hd σ H p⟩
end
section
variable {X:Cx}
theorem fW {K:PySem.W.Frag}(hK:X.K=K)(hc:X.calm=true):cH X (.builtin "any") (λxs H Q=>∃ p,∃ bs:List Bool,xs=[.ref p]/\av K H p (bs.map V.bl)/\Q (.bl (bs.any id)) H):=by subst hK;intro aa s σ H xs us Q I r h;obtain ⟨p,bs,rfl,hq,q⟩:=h;obtain ⟨u,rfl,rx⟩:=vals1 r;cases rx;obtain ⟨ak,r',pl,hz⟩:=I.list hq;obtain ⟨m,F⟩:=I.fr;exact LSm.any_bools F (iW (g:=X.base) (h:=s.heap)) (I.ok.hd hc) pl.isList (jj r') λh' tk F' N'=>⟨.bl _,H,I.keptAll F F' N',rfl,q⟩
end
end L2
namespace HT
open PySem PySem.Spec PyProof.Rows
section
variable {prog:Program}{w:World}{A:Around}{E:Value->Shared->Prop}{s:Shared}
end
end HT
namespace L2
open PySem PySem.Spec PyProof.Rows
section
variable {X:Cx}
end
section
variable {X:Cx}{aa:List (Addr×Obj)}{σ:St}{H:Hp}{s:Shared}
theorem cy {xs:List V}{us:List Value}(r:Vals xs us){j:Nat}(h:j < us.toArray.size):∃ x,xs[j]?=some x/\RelV x us.toArray[j]:=by
 have hl:=r.length;simp only [zL] at h;have a1:j < xs.length:=by omega
 obtain ⟨u,eu,ru⟩:=r.get (i:=j) (x:=xs[j]) (by simp [a1]);have e1:us.toArray[j]=u:=by rw [List.getElem_toArray];exact Option.some.inj ((zD h).symm.trans eu)
 exact ⟨xs[j],by simp [a1],by rw [e1];exact ru⟩
end
def Eqv (K:PySem.W.Frag)(H:Hp):Nat->V->V->Bool->Prop
 | 0,x,y,b=>(x=y/\(∃ a,x=.ref a)/\b=true)\/(bW x=true/\bW y=true/\b=oQ x y)
 | n + 1,x,y,b=>(x=y/\(∃ a,x=.ref a)/\b=true)\/(bW x=true/\bW y=true/\b=oQ x y)\/∃ (a c:Addr) (xs ys:List V) (e:Nat->Bool),x=.ref a/\y=.ref c/\((av K H a xs/\av K H c ys)\/(bC K H a xs/\bC K H c ys))/\(a=c->b=true)/\b=(decide (xs.length=ys.length) && (List.range xs.length).all e)/\∀ (i:Nat) (x y:V),xs[i]?=some x->ys[i]?=some y->Eqv K H n x y (e i)
section
variable {X:Cx}{aa:List (Addr×Obj)}{σ:St}{H:Hp}{s:Shared}
theorem jf {A:Around}{x y:V}{b:Bool}{u v:Value}(h:(x=y/\(∃ a,x=.ref a)/\b=true)\/(bW x=true/\bW y=true/\b=oQ x y))(ru:RelV x u)(rv:RelV y v):SeqAt.EqAt A s u v b:=by
 rcases h with ⟨rfl,⟨a,rfl⟩,rfl⟩ | ⟨h1,h2,rfl⟩
 ·cases ru;cases rv;exact SeqAt.EqAt.same _
 ·exact vn (A:=A) (s:=s) ru rv h1 h2
theorem vj (I:Inv X aa σ H s):∀ (n:Nat) {A:Around}{x y:V}{b:Bool}{u v:Value},A.units + n < cLine->Eqv X.K H n x y b->RelV x u->RelV y v->SeqAt.EqAt A s u v b:=by
 intro n;induction n with
 | zero=>intro A x y b u v hu h ru rv;exact jf h ru rv
 | succ n ih=>
  intro A x y b u v hu h ru rv;rcases h with h | h | ⟨a,c,xs,ys,e,rfl,rfl,h,hs,hb,hi⟩
  ·exact jf (.inl h) ru rv
  ·exact jf (.inr h) ru rv
  ·cases ru;cases rv;by_cases ne:a=c
   ·rw [hs ne,ne];exact SeqAt.EqAt.same _
   refine SeqAt.EqAt.of_refs ne ?_;have NJ:(A.units + 1) + n < cLine:=by omega
   rcases h with ⟨h1,h2⟩ | ⟨h1,h2⟩
   ·obtain ⟨ak,r1,p1,_⟩:=I.list h1;obtain ⟨dw,r2,p2,_⟩:=I.list h2;have l1:=r1.length;have l2:=r2.length;by_cases hl:xs.length=ys.length
    ·have:=SeqAt.RcAt.lists (A:=A) (e:=e) p1.isList p2.isList (by simp;omega) (by omega) λj h1 h2=>by
      obtain ⟨x,ex,rx⟩:=cy r1 h1;obtain ⟨y,ey,ry⟩:=cy r2 h2;exact ih NJ (hi j x y ex ey) rx ry
     rw [hb,decide_eq_true hl,yj,l1];simpa using this
    ·rw [hb,decide_eq_false hl,zo];exact SeqAt.RcAt.lists_lengths (A:=A) p1.isList p2.isList (by simp;omega) (by omega)
   ·obtain ⟨ak,r1,p1,_⟩:=I.tuple h1;obtain ⟨dw,r2,p2,_⟩:=I.tuple h2;have l1:=r1.length;have l2:=r2.length;have:=SeqAt.RcAt.tuples (A:=A) (e:=e) p1 p2 (by omega) λj h1 h2=>by
     obtain ⟨x,ex,rx⟩:=cy r1 h1;obtain ⟨y,ey,ry⟩:=cy r2 h2;exact ih NJ (hi j x y ex ey) rx ry
    by_cases hl:xs.length=ys.length
    ·rw [hb,decide_eq_true hl,yj,l1];have e1:dw.length=ak.length:=by omega
     simpa [e1] using this
    ·rw [hb,decide_eq_false hl,zo];have e1:¬ ak.length=dw.length:=by omega
     have e2:(ak.toArray.size == dw.toArray.size)=false:=by simp [e1]
     rw [e2,yY] at this;exact this
def K9 (K:PySem.W.Frag)(neg:Bool):R2:=λx y H Q=>∃ (n:Nat) (a c:Addr) (xs ys:List V) (e:Nat->Bool) (b:Bool),n<=20/\x=.ref a/\y=.ref c/\((av K H a xs/\av K H c ys)\/(bC K H a xs/\bC K H c ys))/\b=(decide (xs.length=ys.length) && (List.range xs.length).all e)/\(∀ (i:Nat) (x y:V),xs[i]?=some x->ys[i]?=some y->Eqv K H n x y (e i))/\Q (.bl (if neg then !b else b)) H
theorem tX (hu:X.A.units + 64 < cLine):ff X (compareOp .NotEq) (K9 X.K true):=by
 intro aa s σ H x y v u Q I rx ry h;obtain ⟨n,a,c,xs,ys,e,b,hn,rfl,rfl,h,hb,hi,q⟩:=h;cases rx;cases ry;rw [if_pos rfl,hb] at q;rcases h with ⟨h1,h2⟩ | ⟨h1,h2⟩
 ·obtain ⟨ak,r1,p1,_⟩:=I.list h1;obtain ⟨dw,r2,p2,_⟩:=I.list h2;have l1:=r1.length;have l2:=r2.length;by_cases hl:xs.length=ys.length
  ·rw [decide_eq_true hl,yj,l1] at q;exact SeqAt.RcNeAt.lists (e:=e) p1.isList p2.isList (by simp;omega) (by omega) (λj h1 h2=>by
    obtain ⟨x,ex,rx⟩:=cy r1 h1;obtain ⟨y,ey,ry⟩:=cy r2 h2;exact vj I n (by show X.A.units + 1 + n < cLine;omega) (hi j x y ex ey) rx ry) _ _ _ _ ⟨.bl _,H,I,rfl,by simpa using q⟩
  ·rw [decide_eq_false hl,zo] at q;exact SeqAt.RcNeAt.lists_lengths p1.isList p2.isList (by simp;omega) (by omega) _ _ _ _ ⟨.bl _,H,I,rfl,q⟩
 ·obtain ⟨ak,r1,p1,_⟩:=I.tuple h1;obtain ⟨dw,r2,p2,_⟩:=I.tuple h2;have l1:=r1.length;have l2:=r2.length;have key:((List.range (min ak.toArray.size dw.toArray.size)).all e && ak.toArray.size == dw.toArray.size)=(decide (xs.length=ys.length) && (List.range xs.length).all e):=by
   by_cases hl:xs.length=ys.length
   ·have e1:dw.length=ak.length:=by omega
    rw [decide_eq_true hl,yj,l1];simp [e1]
   ·have e1:¬ ak.length=dw.length:=by omega
    rw [decide_eq_false hl,zo];simp [e1]
  rw [<-key] at q;exact SeqAt.RcNeAt.tuples (e:=e) p1 p2 (by omega) (λj h1 h2=>by
   obtain ⟨x,ex,rx⟩:=cy r1 h1;obtain ⟨y,ey,ry⟩:=cy r2 h2;exact vj I n (by show X.A.units + 1 + n < cLine;omega) (hi j x y ex ey) rx ry) _ _ _ _ ⟨.bl _,H,I,rfl,q⟩
end
theorem JB (x y:Int):oQ (.int x) (.int y)=decide (x=y):=rfl
section
variable {X:Cx}
theorem jQ:∀ {ns:List Int}{ak:List Value},Vals (ns.map V.int) ak->∃ xs:List (Int×Tok),ak=xs.map (λp=>Value.int p.1 p.2)/\xs.map (·.1)=ns
 | [],_,r=>by cases r;exact ⟨[],rfl,rfl⟩
 | n::ns,_,r=>by
  cases r with
  | cons r1 rr=>
   obtain ⟨t,rfl⟩:=r1;obtain ⟨xs,rfl,e⟩:=jQ rr;exact ⟨(n,t)::xs,rfl,by rw [yl,e]⟩
theorem rz (hc:X.calm=true):cH X (.builtin "max") (λxs H Q=>∃ p ns,xs=[.ref p]/\av X.K H p (List.map V.int ns)/\0 < ns.length/\∀ M,M∈ns->(∀ a∈ns,a<=M)->Q (.int M) H):=by
 intro aa s σ H xs us Q I r h;obtain ⟨p,ns,rfl,hp,n0,q⟩:=h;obtain ⟨u,rfl,ru⟩:=vals1 r;cases ru;obtain ⟨ak,r,pl,_⟩:=I.list hp;obtain ⟨ys,rfl,e⟩:=jQ r;have hl:ys.length=ns.length:=by rw [<-e,zA]
 have li:s.heap.IsList p (intItems ys.toArray):=by
  have:=pl.isList;unfold intItems;rw [List.map_toArray];exact this
 refine max_intList (I.ok.hd hc) li (by simp;omega) λv h' tk hv k=>?_;obtain ⟨t,rfl⟩:=intItems_at hv;obtain ⟨b1,b2⟩:=argBest_gt (numAt ys.toArray) (ys.toArray.size - 1);have Ng:∀ j (h:j < ns.length),numAt ys.toArray j=ns[j]:=λj h=>by
  rw [numAt_eq];simp [e,h]
 have sz:ys.toArray.size=ns.length:=by simp [hl]
 rw [sz] at b1 b2 ⊢;refine ⟨.int _,H,I.kept k,⟨_,rfl⟩,q _ ?_ λa ha=>?_⟩
 ·rw [Ng _ (by omega)];exact zp _
 ·obtain ⟨j,hj,rfl⟩:=List.mem_iff_getElem.mp ha;have:=b2 j (by omega);rw [Ng j hj] at this;exact this
end
end L2
namespace Sm
open PySem L2 aZ
def mx:Option Int->Option Int->Option Int
 | none,b=>b
 | some a,none=>some a
 | some a,some b=>some (if b > a then b else a)
theorem ahead {n:Nat}{ms:List M4}{m:M4}(g:Good n (ms++[m])){v:Nat}{x y:Int}{i:Nat}(hi:i≠v)(h:fwd ms (mH v x) i=some y):y<=m.t/\((i=m.lo.toNat\/i=m.hi.toNat)->y < m.t):=by
 obtain ⟨a,ha,ao,at',_⟩:=lZ (ws:=gG ms) h (by simp [mH,hi]);unfold gG at ha;obtain ⟨c,hc,hx⟩:=List.mem_flatMap.mp ha;have od:=(List.pairwise_append.mp g.order).2.2 c hc m (by simp);obtain ⟨c1,c2,c3,_⟩:=g.each c (by simp [hc]);obtain ⟨m1,m2,m3,_⟩:=g.each m (by simp);unfold two at hx;simp only [zO,zh,or_false] at hx;have ct:c.t=y:=by rcases hx with rfl | rfl <;> exact at'
 have ci:i=c.lo.toNat\/i=c.hi.toNat:=by
  rcases hx with rfl | rfl
  ·exact .inr ao.symm
  ·exact .inl ao.symm
 refine ⟨by rcases od with h | h <;> omega,λhm=>?_⟩;rcases od with h | ⟨h1,h2,h3,h4,h5,h6⟩
 ·omega
 ·exfalso;rcases ci with e | e <;> rcases hm with e' | e' <;> omega
end Sm
namespace L2
open PySem PySem.Spec PyProof.Rows
section
variable {X:Cx}{aa:List (Addr×Obj)}{σ:St}{H:Hp}{s:Shared}
theorem om {ix:Nat}{xn:Str}{pos' M1:Pos}{own:List Str}{caps:List Nat}{elt tg iter:Expr}{ifs:List Expr}{scope:Scope}{pos:Pos}{wi:TI}{g:TG}{tc:TT}{te:TE}(hN:X.N.Nodup)(WV:X.N[ix]?=some xn)(Ri:ur X.env.scope xn=true)(hc:X.calm=true)(S:aC own caps X.N X.env.scope scope)(hi:PI X tg iter wi)
  (hg:∀ s H fp C,PG (bA X own caps scope s H fp C) tg g) (ht:∀ s H fp C,ME (bA X own caps scope s H fp C) ifs tc) (he:∀ s H fp C,PE (bA X own caps scope s H fp C) elt te)
  (hs:∀ x,foldedSetIterable iter X.env x=pure x:=by intro _;rfl) (WE:swapsWith (.ListComp elt [⟨tg,iter,ifs,0⟩] scope pos) (some (.Name xn pos')) M1.line X.env=pure true:=by rfl)
  (hf:jd X xn=true:=by rfl) :
  PS X (.Assign [.Name xn pos'] (.ListComp elt [⟨tg,iter,ifs,0⟩] scope pos) M1) (IK (JQ own.length caps wi g tc te) (pX ix)):=by
 have Ri:=kF Ri;intro aa s σ H D0 I h;rw [exec_Assign_Name_used _ _ _ _ WE,arm_evalThenUse_ListComp]
 suffices main:wpAny (model X.prog X.w) X.A (comprehension (.ListComp elt [⟨tg,iter,ifs,0⟩] scope pos) scope X.env (firstIterPos [⟨tg,iter,ifs,0⟩] pos) (newList []) false (eval iter X.env) (some (assign (.Name xn pos') X.env))) (λ_ s1=>SP X aa D0 .next s1) X.xe s from
  wpAny_bind (wpAny_standAt (wpAny_bind (wpAny_bind (wpAny_mono main (λ_ s1 h=>wpAny_pure (wpAny_pure h)) λ_ _ e=>e))))
 refine wpAny_comprehension_free (use:=some _) (cl:=dc scope.names X.env []) rfl hs (cN λy hy e=>I.ok.has y.1 (S.fr y hy e)) S.kind S.loc
  (wpAny_mono (hi aa s σ H _ I h) (λv s1 h1=>aM h1 λNv s2 h2=>?_) λ_ _ e=>e)
 obtain ⟨it,fp,tn,J,H2,e,I2,T,rM,f2,W,⟨m0,w0⟩,turn⟩:=h2;subst e;refine wpAny_newObj_type (wpAny_newFunctionEnv S.iV (by intro y hy;simp at hy) (λbD ck bI=>?_) S.kind);dsimp only at ck bI ⊢;generalize rQ:s2.heap.push { cls:=.type "list", dict:=none,data:=.seq ([]:List Value).toArray }=G at ck bI ⊢;have hG:G.objs.size=s2.heap.objs.size + 1:=by rw [<-rQ,Heap.size_push]
 have qY:s2.heap.objs.size≠G.objs.size:=by rw [hG];exact zT (Nat.lt_succ_self _)
 have qZ:s2.heap.objs.size<=G.objs.size:=by rw [hG];exact yT _
 have below:∀ b,b < s2.heap.objs.size->b≠G.objs.size:=λb hb=>by rw [hG];exact zT (yk hb)
 have old:∀ b o,s2.heap.get? b=some o->bD.get? b=some o:=λb o e=>bI.extBut b o (below b (Heap.lt_size e)) (Heap.get?_push_of_some _ (rQ ▸ Heap.get?_push_of_some _ e));have kM:bD.get? s2.heap.objs.size=some { cls:=.type "list", dict:=none,data:=.seq ([]:List Value).toArray }:=bI.extBut _ _ qY (Heap.get?_push_of_some _ (rQ ▸ Heap.get?_push_size _ rfl));have fl:∀ b∈fp,b < s2.heap.objs.size:=λb hb=>let ⟨o,e,_⟩:=T.obj _ _ rM b hb;Heap.lt_size e;have fR:bD.Ns G.objs.size λ_=>none:=ck;have I4:=i7 (tk:=s2.toks + ([]:List (Str×Value)).length) I2 S f2 fl (zE _) qZ qY old fR kM (λv z=>nomatch z);have sJ:tn 0 bD:=T.keep _ _ _ rM λb _ o e=>old b o e;generalize NL:({ s2 with heap:=bD,toks:=s2.toks + ([]:List (Str×Value)).length }:Shared)=s4 at I4 ⊢;have e4:s4.heap=bD:=by rw [<-NL]
 rw [<-e4] at sJ
 -- pe loop
 have loop:codeAny (model X.prog X.w) X.A (.compLoop (.ListComp elt [⟨tg,iter,ifs,0⟩] scope pos) 0 (.ref it) (.ref s2.heap.objs.size) (compEnvC scope (dc scope.names X.env []) G.objs.size X.env))
   (compPost (model X.prog X.w) X.A X.xe (some (assign (.Name xn pos') X.env)) (λ_ s1=>SP X aa D0 .next s1) (.ref s2.heap.objs.size) G.objs.size) s4:=by
  let Y:=bA X own caps scope s2 H2 fp G.objs.size
  have eK:∀ {H':Hp}{ak:List Value}{n:Nat},(∀ b∈fp,H' b=none)->∀ b∈fp,ic Y [(s2.heap.objs.size,({ cls:=.type "list", data:=.seq ak.toArray n }:Obj))] H' b:=λ{H' ak n} hn b hb=>by
   refine ⟨hn b hb,below b (fl b hb),λz=>?_,.inl hb,λx c e=>(f2 b hb).2.2.2.2.1 x c (xi e),λp hp=>?_⟩
   ·rcases zO.mp (I2.eH b z) with e | e
    ·exact (f2 b hb).2.1 e
    ·exact (f2 b hb).2.2.1 e
   ·have e:p=(s2.heap.objs.size,({ cls:=.type "list", data:=.seq ak.toArray n }:Obj)):=by simpa using (show p∈[]++[_] from hp)
    subst e;exact yJ (fl b hb)
  refine jN (λn s'=>∃ i τ acc ak k H',Inv Y [(s2.heap.objs.size,({ cls:=.type "list", data:=.seq ak.toArray k }:Obj))] τ H' s'/\tn i s'.heap/\(∀ b∈fp,H' b=none)/\Vals acc ak/\W i n τ acc H') ?_ m0
   ⟨0,_,[],[],0,H2,I4,sJ,λb hb=>(f2 b hb).1,.nil,w0⟩
  rintro n s5 ⟨i,τ,acc,ak,k,H5,I5,rL,Iv,qE,w5⟩;rcases turn i n τ acc H5 w5 with ⟨stop,hz,q⟩ | ⟨go,hz,step⟩
  ·refine aM (T.done Y rfl rfl rfl hc i _ s5 τ H5 (λ_ _=>False) I5 (eK Iv) rL stop) λr s6 ⟨hr,I6⟩=>?_;subst hr;obtain ⟨eD,nD,_,_,_⟩:=I6.pin _ (zC _ (zG.mpr rfl));obtain ⟨m6,NP,_⟩:=I6.loc;have LM:H5 G.objs.size=none:=I6.free;have uR:fh X.prog X.w H5 s6.heap:=I6.aU;have ub:=I6.base;have IX:Inv X aa σ (upd H5 s2.heap.objs.size (.lst acc)) s6:=by
    refine I2.vz (ch:=fp) (s':=s6) I6.os ⟨λb o e n' hb hx=>ub.keep b o e n' hb hx,λb o e n' hb hx=>?_,λb o e n' hx=>?_,λb o e hx=>?_,λb xs e=>?_,λb o u e=>?_,λb ps e=>?_⟩
     (uR.sj nD ⟨hz,ak,k,qE,eD⟩) I6.bare λb hb=>⟨(f2 b hb).2.2.2.1,(f2 b hb).2.1,(f2 b hb).2.2.2.2.1,(f2 b hb).2.2.2.2.2⟩
    ·exact ub.slot b o e n' hb hx
    ·rw [xC (zT (Heap.lt_size e))];exact ub.free b o e n' hx
    ·exact ub.there b o e hx
    ·have z:=ub.aJ b xs e;rw [xC (xA z nD)];exact z
    ·have z:=ub.gZ b o u e;rw [xC (xA z nD)];exact z
    ·obtain ⟨more,z⟩:=ub.iG b ps e;exact ⟨more,by rw [xC (xA z nD)];exact z⟩
   have N8:(upd H5 s2.heap.objs.size (.lst acc)) G.objs.size=none:=by rw [xC (Ne.symm qY)];exact LM
   have fC:ic X aa (upd H5 s2.heap.objs.size (.lst acc)) G.objs.size:=I2.mX qZ N8;obtain ⟨oC,XD,XF,gC,dC,rC⟩:=NP;have IP:=IX.pinned (fp:=[G.objs.size]) (λb hb=>by cases zG.mp hb;exact fC) (λb hb=>by cases zG.mp hb;exact ⟨oC,gC,λv z=>by rw [dC] at z;cases z⟩);refine wpAny_assign_Name (iJ IP hN WV Ri (v:=.ref s2.heap.objs.size) rfl (λs7 I7=>?_) hf);have pC:=(I7.pin (G.objs.size,oC) (zC _ (zC _ (xk (zG.mpr rfl) gC)))).1;refine ⟨m6,⟨oC,XD,XF,pC,dC,rC⟩,λh' qT=>?_⟩;have I8:Inv X aa (σ.set ix (some (.ref s2.heap.objs.size))) (upd H5 s2.heap.objs.size (.lst acc)) { s7 with heap:=h' }:=I7.bH.turned (t':=s7.toks) (λb o hb e=>qT.extBut b o hb e) fC.1 fC.2.1 fC.2.2.2.1 fC.2.2.2.2.1 fC.2.2.2.2.2;exact ⟨_,_,I8,q _ nD⟩
  ·refine aM (T.item Y rfl rfl rfl hc i _ s5 τ H5 (λ_ _=>False) I5 (eK Iv) rL go) λr s6 ⟨u,hr,h6⟩=>?_;subst hr;refine aM h6 λ_ s7 ⟨x,H7,I7,r7,y7,qp,Oe⟩=>?_;have Ox:=I7.pinned (eK Oe) (T.obj _ _ qp);refine aM (hg s2 H2 fp G.objs.size _ s7 τ H7 x u _ Ox r7 (step x H7 y7)) λ_ s8 ⟨nF,H8,I8,q8⟩=>?_;refine aM (ht s2 H2 fp G.objs.size _ s8 nF H8 _ I8 q8) λok s9 ⟨H9,I9,q9⟩=>?_
   -- pe eT state behind pe turn
   have back:∀ {s':Shared}{rY:St}{H':Hp},Inv Y ([(s2.heap.objs.size,({ cls:=.type "list", data:=.seq ak.toArray k }:Obj))]++bR fp s7.heap) rY H' s'->(tn (i + 1) s'.heap/\∀ b∈fp,H' b=none):=λ{s' rY H'} Ib=>
    ⟨T.keep _ _ _ qp λb hb o e=>(Ib.pin (b,o) (zC _ (zC _ (xk hb e)))).1,λb hb=>by
     obtain ⟨o,e,d⟩:=T.obj _ _ qp b hb;exact (Ib.pin (b,o) (zC _ (zC _ (xk hb e)))).2.1⟩
   cases ok with
   | false=>
    obtain ⟨m',mT,w'⟩:=q9;obtain ⟨sb,fb⟩:=back I9;exact ⟨m',mT,i + 1,nF,acc,ak,k,H9,I9.bH,sb,fb,qE,w'⟩
   | true=>
    refine aM (he s2 H2 fp G.objs.size _ s9 nF H9 _ I9 q9) λy bP ⟨yv,eW,Me,QK,QL⟩=>?_;obtain ⟨m',mT,w'⟩:=QL;obtain ⟨sb,fb⟩:=back Me;obtain ⟨eD,nD,vV,Nd,_⟩:=Me.pin (s2.heap.objs.size,_) (zC _ (ze _ (zG.mpr rfl)));have hl:acc.length=ak.length:=qE.length;refine call_meets F.slot_list_append ⟨_,eD,rfl⟩ F.entry_list_append (F.args_list_append_2 _ _) (PySem.list_append s2.heap.objs.size ak.toArray k y (by rw [zL];omega)) ⟨eD,?_⟩;have q:=PySem.IsL.update eD (λa:Array Value=>a.push y);have Iu:Inv Y [] nF eW bP:=Me.cz λp hp=>nomatch hp;have It:=Iu.turned (t':=bP.toks) (it:=s2.heap.objs.size) (h':=bP.heap.update s2.heap.objs.size (Obj.mapSeq (λa:Array Value=>a.push y))) (λb o hb e=>(Heap.get?_update_other bP.heap _ (Ne.symm hb)).trans e) nD vV (.inr (zE _))
     (λx c e z=>by
      obtain ⟨v,ob,Jw,_⟩:=I2.cell x c (xi e);exact absurd (Heap.lt_size Jw) (by rw [z];exact zy _)) (λp hp=>nomatch hp)
    have Ow:=It.cz (mq:=[(s2.heap.objs.size,({ cls:=.type "list", data:=.seq (ak++[y]).toArray (k + 1) }:Obj))]) λp hp=>by
     have e:p=_:=zG.mp hp;subst e;exact ⟨by simpa using q,nD,vV,Nd,λv z=>nomatch z⟩
    refine ⟨m',mT,i + 1,nF,acc++[yv],ak++[y],_,eW,Ow,T.keep _ _ _ sb λb hb o e=>(Heap.get?_update_other bP.heap _ (yJ (fl b hb))).trans e,fb,qE.append (.cons QK .nil),w'⟩
 exact codeAny_compStart_list loop (T.self _ 0 s4 _ _ sJ loop)
end
section
variable {n:Nat}{caps:List Nat}{σ:St}{H:Hp}{g:TG}{tc:TT}{te:TE}{Qf:Addr->Hp->List V->Prop}{K:PySem.W.Frag}{a b:Addr}{xs ys:List V}
theorem jW (el:xs.length=ys.length)(Pv:Nat->St->List V->Hp->Prop)(h0:Pv 0 (cW n caps σ) [] H)(hn:xs.length<=1000)(hl:∀ i τ acc H,Pv i τ acc H->acc.length<=i/\av K H a xs/\av K H b ys)
  (hs:∀ i x y q τ acc H (C:St->List V->Hp->Prop),xs[i]?=some x->ys[i]?=some y->H q=none->Pv i τ acc H->(∀ τ acc H,Pv (i + 1) τ acc H->C τ acc H)->g (.ref q) τ (upd H q (.tup [x,y])) fun aV H2=>tc aV H2 λb H3=>if b=true then te aV H3 λy H4=>C aV (acc++[y]) H4 else C aV acc H3)
  (hd:∀ τ acc H,Pv xs.length τ acc H->∀ p,H p=none->Qf p H acc) :
  ∃ W:Nat->Nat->St->List V->Hp->Prop,(∃ m,W 0 m (cW n caps σ) [] H)/\∀ i m τ acc H,W i m τ acc H ->
   ((rV K a b).stop i H/\acc.length<=sizeLine/\∀ p,H p=none->Qf p H acc) \/
   ((rV K a b).go i H/\acc.length < sizeLine/\∀ x H',(rV K a b).jq i H x H'->g x τ H' fun aV H2=>tc aV H2 λb H3=>if b=true then te aV H3 λy H4=>∃ m',m' < m/\W (i + 1) m' aV (acc++[y]) H4 else ∃ m',m' < m/\W (i + 1) m' aV acc H3):=
 fT (J:=rV K a b) Pv xs.length h0 hn (λi τ acc H p=>(hl i τ acc H p).1) (λi τ acc H hi p=>⟨xs,ys,xs[i],ys[i]'(by omega),(hl i τ acc H p).2.1,(hl i τ acc H p).2.2,by simp [hi],by simp [<-el,hi]⟩) (fun τ acc H p=>⟨xs,ys,(hl _ τ acc H p).2.1,(hl _ τ acc H p).2.2,.inl (zE _)⟩)
  (λi τ acc H C hi p c x H' y=>by obtain ⟨q,x',y',hq,e1,e2,y⟩:=y;subst e1;subst e2;exact hs i x' y' q τ acc _ C (y xs ys (hl i τ acc _ p).2.1 (hl i τ acc _ p).2.2).1 (y xs ys (hl i τ acc _ p).2.1 (hl i τ acc _ p).2.2).2 hq p c) hd
end
section
variable {X:Cx}
end
end L2
namespace Sm
open PySem L2 aZ
theorem Rc {c:Bool}{A B:Prop}{D:Ends}{σ:St}{H:Hp}(Pre:St->Hp->Prop)(k:∀ σ H,Pre σ H->D.nx σ H)(h1:c=true->(∀ σ H,Pre σ H->D.nx σ H)->A)(h2:c=false->(∀ σ H,Pre σ H->D.nx σ H)->B):if c=true then (if true=true then A else lP D σ H) else B:=by
 cases c with
 | true=>exact h1 rfl k
 | false=>exact h2 rfl k
theorem Rf {c:Bool}{T2 A:Prop}{D:Ends}{σ:St}{H:Hp}(Pre:St->Hp->Prop)(k:∀ σ H,Pre σ H->D.nx σ H)(h1:c=true->(∀ σ H,Pre σ H->D.nx σ H)->T2)(h2:c=false->Pre σ H):if c=true then T2 else (if false=true then A else lP D σ H):=by
 cases c with
 | true=>exact h1 rfl k
 | false=>exact k _ _ (h2 rfl)
theorem di {K:PySem.W.Frag}{H:Hp}{a:Addr}{xs:List V}{i:Int}{v:V}{Q:V->Prop}(h:H a=some (.tup xs))(hi:ee xs i=some v)(q:Q v):∃ p MI i' v',V.ref a=.ref p/\V.int i=.int i'/\bC K H p MI/\ee MI i'=some v'/\Q v':=⟨a,xs,i,v,rfl,rfl,bC.of h,hi,q⟩
theorem bq {K:PySem.W.Frag}{H:Hp}{a:Addr}{xs:List V}{i:Int}{v:V}{Q:V->Prop}(h:H a=some (.lst xs))(hi:ee xs i=some v)(q:Q v):∃ p MI i' v',V.ref a=.ref p/\V.int i=.int i'/\av K H p MI/\ee MI i'=some v'/\Q v':=⟨a,xs,i,v,rfl,rfl,av.of h,hi,q⟩
theorem nP {P:List Value->Prop}{us:List Value}{n:Nat}(h:us.length=n + 1)(q:∀ a r,r.length=n->P (a::r)):P us:=by
 cases us with
 | nil=>cases h
 | cons a r=>exact q a r (Nat.succ.inj h)
theorem MJ {P:List Value->Prop}{us:List Value}(h:us.length=0)(q:P []):P us:=by rw [List.eq_nil_of_length_eq_zero h];exact q
theorem se {fd:FuncData}{ps:List Str}{us:List Value}(h:us.length=1)(q:∀ a,bindArgs fd ⟨[a],[]⟩=pure (ps.zip [a])):bindArgs fd ⟨us,[]⟩=pure (ps.zip us):=nP (P:=λus=>bindArgs fd ⟨us,[]⟩=pure (ps.zip (us))) h λa us h=>MJ (P:=λus=>bindArgs fd ⟨a::us,[]⟩=pure (ps.zip (a::us))) h (q a)
theorem ID {fd:FuncData}{ps:List Str}{us:List Value}(h:us.length=2)(q:∀ a b,bindArgs fd ⟨[a,b],[]⟩=pure (ps.zip [a,b])):bindArgs fd ⟨us,[]⟩=pure (ps.zip us):=nP (P:=λus=>bindArgs fd ⟨us,[]⟩=pure (ps.zip (us))) h λa us h=>nP (P:=λus=>bindArgs fd ⟨a::us,[]⟩=pure (ps.zip (a::us))) h λb us h=>MJ (P:=λus=>bindArgs fd ⟨a::b::us,[]⟩=pure (ps.zip (a::b::us))) h (q a b)
theorem qh {fd:FuncData}{ps:List Str}{us:List Value}(h:us.length=3)(q:∀ a b c,bindArgs fd ⟨[a,b,c],[]⟩=pure (ps.zip [a,b,c])):bindArgs fd ⟨us,[]⟩=pure (ps.zip us):=nP (P:=λus=>bindArgs fd ⟨us,[]⟩=pure (ps.zip (us))) h λa us h=>nP (P:=λus=>bindArgs fd ⟨a::us,[]⟩=pure (ps.zip (a::us))) h λb us h=>nP (P:=λus=>bindArgs fd ⟨a::b::us,[]⟩=pure (ps.zip (a::b::us))) h λc us h=>MJ (P:=λus=>bindArgs fd ⟨a::b::c::us,[]⟩=pure (ps.zip (a::b::c::us))) h (q a b c)
theorem SV {fd:FuncData}{ps:List Str}{us:List Value}(h:us.length=4)(q:∀ a b c d,bindArgs fd ⟨[a,b,c,d],[]⟩=pure (ps.zip [a,b,c,d])):bindArgs fd ⟨us,[]⟩=pure (ps.zip us):=nP (P:=λus=>bindArgs fd ⟨us,[]⟩=pure (ps.zip (us))) h λa us h=>nP (P:=λus=>bindArgs fd ⟨a::us,[]⟩=pure (ps.zip (a::us))) h λb us h=>nP (P:=λus=>bindArgs fd ⟨a::b::us,[]⟩=pure (ps.zip (a::b::us))) h λc us h=>nP (P:=λus=>bindArgs fd ⟨a::b::c::us,[]⟩=pure (ps.zip (a::b::c::us))) h λd us h=>MJ (P:=λus=>bindArgs fd ⟨a::b::c::d::us,[]⟩=pure (ps.zip (a::b::c::d::us))) h (q a b c d)
theorem SS {fd:FuncData}{ps:List Str}{us:List Value}(h:us.length=5)(q:∀ a b c d e,bindArgs fd ⟨[a,b,c,d,e],[]⟩=pure (ps.zip [a,b,c,d,e])):bindArgs fd ⟨us,[]⟩=pure (ps.zip us):=nP (P:=λus=>bindArgs fd ⟨us,[]⟩=pure (ps.zip (us))) h λa us h=>nP (P:=λus=>bindArgs fd ⟨a::us,[]⟩=pure (ps.zip (a::us))) h λb us h=>nP (P:=λus=>bindArgs fd ⟨a::b::us,[]⟩=pure (ps.zip (a::b::us))) h λc us h=>nP (P:=λus=>bindArgs fd ⟨a::b::c::us,[]⟩=pure (ps.zip (a::b::c::us))) h λd us h=>nP (P:=λus=>bindArgs fd ⟨a::b::c::d::us,[]⟩=pure (ps.zip (a::b::c::d::us))) h λe us h=>MJ (P:=λus=>bindArgs fd ⟨a::b::c::d::e::us,[]⟩=pure (ps.zip (a::b::c::d::e::us))) h (q a b c d e)
theorem XA {iF iE iD iC iB:Type}{P:iF->iE->iD->iC->iB->Prop}(x0:iF)(x1:iE)(x2:iD)(x3:iC)(x4:iB)(h:P x0 x1 x2 x3 x4):∃ y0:iF,∃ y1:iE,∃ y2:iD,∃ y3:iC,∃ y4:iB,P y0 y1 y2 y3 y4:=⟨x0,x1,x2,x3,x4,h⟩
theorem MB {iF iE iD iC iB kg:Type}{P:iF->iE->iD->iC->iB->kg->Prop}(x0:iF)(x1:iE)(x2:iD)(x3:iC)(x4:iB)(x5:kg)(h:P x0 x1 x2 x3 x4 x5):∃ y0:iF,∃ y1:iE,∃ y2:iD,∃ y3:iC,∃ y4:iB,∃ y5:kg,P y0 y1 y2 y3 y4 y5:=⟨x0,x1,x2,x3,x4,x5,h⟩
theorem Se {iF iE iD iC iB kg nK:Type}{P:iF->iE->iD->iC->iB->kg->nK->Prop}(x0:iF)(x1:iE)(x2:iD)(x3:iC)(x4:iB)(x5:kg)(x6:nK)(h:P x0 x1 x2 x3 x4 x5 x6):∃ y0:iF,∃ y1:iE,∃ y2:iD,∃ y3:iC,∃ y4:iB,∃ y5:kg,∃ y6:nK,P y0 y1 y2 y3 y4 y5 y6:=⟨x0,x1,x2,x3,x4,x5,x6,h⟩
theorem Sd {iF iE iD iC iB kg nK r9:Type}{P:iF->iE->iD->iC->iB->kg->nK->r9->Prop}(x0:iF)(x1:iE)(x2:iD)(x3:iC)(x4:iB)(x5:kg)(x6:nK)(x7:r9)(h:P x0 x1 x2 x3 x4 x5 x6 x7):∃ y0:iF,∃ y1:iE,∃ y2:iD,∃ y3:iC,∃ y4:iB,∃ y5:kg,∃ y6:nK,∃ y7:r9,P y0 y1 y2 y3 y4 y5 y6 y7:=⟨x0,x1,x2,x3,x4,x5,x6,x7,h⟩
theorem MA {iF iE iD iC iB kg nK r9 Kv:Type}{P:iF->iE->iD->iC->iB->kg->nK->r9->Kv->Prop}(x0:iF)(x1:iE)(x2:iD)(x3:iC)(x4:iB)(x5:kg)(x6:nK)(x7:r9)(x8:Kv)(h:P x0 x1 x2 x3 x4 x5 x6 x7 x8):∃ y0:iF,∃ y1:iE,∃ y2:iD,∃ y3:iC,∃ y4:iB,∃ y5:kg,∃ y6:nK,∃ y7:r9,∃ y8:Kv,P y0 y1 y2 y3 y4 y5 y6 y7 y8:=⟨x0,x1,x2,x3,x4,x5,x6,x7,x8,h⟩
theorem Sf {iF iE iD iC iB kg nK r9 Kv Pu:Type}{P:iF->iE->iD->iC->iB->kg->nK->r9->Kv->Pu->Prop}(x0:iF)(x1:iE)(x2:iD)(x3:iC)(x4:iB)(x5:kg)(x6:nK)(x7:r9)(x8:Kv)(x9:Pu)(h:P x0 x1 x2 x3 x4 x5 x6 x7 x8 x9):∃ y0:iF,∃ y1:iE,∃ y2:iD,∃ y3:iC,∃ y4:iB,∃ y5:kg,∃ y6:nK,∃ y7:r9,∃ y8:Kv,∃ y9:Pu,P y0 y1 y2 y3 y4 y5 y6 y7 y8 y9:=⟨x0,x1,x2,x3,x4,x5,x6,x7,x8,x9,h⟩
theorem sf {K:PySem.W.Frag}{H:Hp}{a:Addr}{v0 v1:V}{Q:V->V->Prop}(h:H a=some (.tup [v0,v1]))(q:Q v0 v1):∃ a' xs,V.ref a=.ref a'/\bC K H a' xs/\xs.length=2/\∃ w0 r0,xs=w0::r0/\∃ w1 r1,r0=w1::r1/\r1=[]/\Q w0 w1:=⟨a,_,rfl,bC.of h,rfl,_,_,rfl,_,_,rfl,rfl,q⟩
theorem MK {K:PySem.W.Frag}{H:Hp}{a:Addr}{v0 v1 v2 v3:V}{Q:V->V->V->V->Prop}(h:H a=some (.tup [v0,v1,v2,v3]))(q:Q v0 v1 v2 v3):∃ a' xs,V.ref a=.ref a'/\bC K H a' xs/\xs.length=4/\∃ w0 r0,xs=w0::r0/\∃ w1 r1,r0=w1::r1/\∃ w2 r2,r1=w2::r2/\∃ w3 r3,r2=w3::r3/\r3=[]/\Q w0 w1 w2 w3:=⟨a,_,rfl,bC.of h,rfl,_,_,rfl,_,_,rfl,_,_,rfl,_,_,rfl,rfl,q⟩
theorem zr {α:Sort _}{A Q:α->Prop}{x:α}(a:A x)(q:Q x):∃ y,A y/\Q y:=⟨x,a,q⟩
theorem jE {α β:Sort _}{A Q:α->β->Prop}{x:α}{y:β}(a:A x y)(q:Q x y):∃ x y,A x y/\Q x y:=⟨x,y,a,q⟩
theorem aD {α β:Sort _}{A B Q:α->β->Prop}{x:α}{y:β}(a:A x y)(b:B x y)(q:Q x y):∃ x y,A x y/\B x y/\Q x y:=⟨x,y,a,b,q⟩
def Ky (ms:List M4)(j:Int):Int:=((ms[j.toNat]?).map (·.t)).getD 0
def SN (ms:List M4)(k:Nat):List Int:=(numsTo ms k ms.length).map (Ky ms)
section
variable {n k w:Nat}{ms:List M4}{day:Int}
end
def nextOf (ts:List (Int×Int))(b:Int)(k:Nat):Int:=match ts[k + 1]? with
 | some q=>q.1
 | none=>b
end Sm
namespace L2
open PySem PySem.Spec PyProof.Rows
section
variable {K:PySem.W.Frag}{a:Addr}{xs:List V}{n:Nat}{caps:List Nat}{g:TG}{tc:TT}{te:TE}{σ:St}{H:Hp}{Qf:Addr->Hp->List V->Prop}
theorem oU (Pv:Nat->St->List V->Hp->Prop)(h0:Pv 0 (cW n caps σ) [] H)(hn:xs.length<=1000)(hl:∀ i τ acc H,Pv i τ acc H->acc.length<=i/\av K H a xs)
  (hs:∀ i x q τ acc H (C:St->List V->Hp->Prop),xs[i]?=some x->H q=none->Pv i τ acc H->(∀ τ acc H,Pv (i + 1) τ acc H->C τ acc H)->g (.ref q) τ (upd H q (.tup [.int i,x])) fun aV H2=>tc aV H2 λb H3=>if b=true then te aV H3 λy H4=>C aV (acc++[y]) H4 else C aV acc H3)
  (hd:∀ τ acc H,Pv xs.length τ acc H->∀ p,H p=none->Qf p H acc) :
  ∃ W:Nat->Nat->St->List V->Hp->Prop,(∃ m,W 0 m (cW n caps σ) [] H)/\∀ i m τ acc H,W i m τ acc H ->
   ((lF K a).stop i H/\acc.length<=sizeLine/\∀ p,H p=none->Qf p H acc) \/
   ((lF K a).go i H/\acc.length < sizeLine/\∀ x H',(lF K a).jq i H x H'->g x τ H' fun aV H2=>tc aV H2 λb H3=>if b=true then te aV H3 λy H4=>∃ m',m' < m/\W (i + 1) m' aV (acc++[y]) H4 else ∃ m',m' < m/\W (i + 1) m' aV acc H3):=
 fT (J:=lF K a) Pv xs.length h0 hn (λi τ acc H p=>(hl i τ acc H p).1) (λi τ acc H hi p=>⟨xs,xs[i],(hl i τ acc H p).2,by simp [hi]⟩) (fun τ acc H p=>⟨xs,(hl _ τ acc H p).2,zE _⟩)
  (λi τ acc H C hi p c x H' y=>by obtain ⟨q,x',hq,e1,e2,y⟩:=y;subst e1;subst e2;exact hs i x' q τ acc _ C (y xs (hl i τ acc _ p).2) hq p c) hd
end
end L2
namespace Sm
open PySem L2 aZ
structure L4 where
 s:Nat
 w:Nat
 a:Int
 z:Int
theorem map_some {α β:Type}{f:α->β}{o o':Option α}{a:α}(e:o.map f=o'.map f)(h:o'=some a):∃ b,o=some b/\f b=f a:=by
 subst h;cases o with
 | none=>cases e
 | some b=>exact ⟨b,rfl,Option.some.inj e⟩
open Classical in
noncomputable def cut (M:Addr->Prop) (H:Hp):Hp:=λc=>if M c then none else H c
theorem pZ {K:PySem.W.Frag}{H:Hp}{n:Nat}{a c:Addr}{xs ys:List V}(ha:H a=some (.lst xs))(hc:H c=some (.lst ys))(l:xs.length=ys.length)(h:∀ (i:Nat) (x y:V),xs[i]?=some x->ys[i]?=some y->Eqv K H n x y true):Eqv K H (n + 1) (.ref a) (.ref c) true:=
 .inr (.inr ⟨a,c,xs,ys,λ_=>true,rfl,rfl,.inl ⟨av.of ha,av.of hc⟩,λ_=>rfl,by simp [l],h⟩)
theorem vh {K:PySem.W.Frag}{H:Hp}{n:Nat}{x:V}(f:bW x=true)(e:oQ x x=true):Eqv K H n x x true:=by
 cases n with
 | zero=>exact .inr ⟨f,f,e.symm⟩
 | succ n=>exact .inr (.inl ⟨f,f,e.symm⟩)
theorem JA {K:PySem.W.Frag}{H:Hp}{n:Nat}(i:Int):Eqv K H n (.int i) (.int i) true:=vh rfl (by rw [JB];exact decide_eq_true rfl)
theorem vg {K:PySem.W.Frag}{H:Hp}{n:Nat}(ns:List Int)(i:Nat)(x y:V)(hx:(ns.map V.int)[i]?=some x)(hy:(ns.map V.int)[i]?=some y):Eqv K H n x y true:=by rw [hx] at hy;cases hy;obtain ⟨r,_,rfl⟩:=xT hx;exact JA r
end Sm
namespace L2
open PySem PySem.Spec PyProof.Rows
section
variable {X:Cx}{pos:Pos}
end
end L2
namespace Sm
open PySem L2 aZ
theorem aL.refs {H:Hp}{p l:Addr}{xs:List V}(pu:aL H p)(h:H l=some (.lst xs))(r:∀ x∈xs,∃ a,x=V.ref a):l≠p:=by rintro rfl;obtain ⟨a,b,c,e⟩:=pu;rw [e] at h;cases h;obtain ⟨x,hx⟩:=r _ (.head _);cases hx
section
variable {C:Addr} {H0 H:Hp}{t u:Tr}{af:List Int}{tr tm:Addr}{ps:List (Addr×M4)} {n0 n1:Nat}
end
theorem JG {xs:List V}{n:Nat}{x:V}(l:xs.length=n + 1)(h:xs[n]?=some x):ee xs (-1)=some x:=by
 have e:xs=xs.take n++[x]:=by rw [<-xb h,<- l,zk]
 rw [e];exact L2.vH _ _
abbrev Ds:=List (V×Option (Int×Int))
def R0 (ms:List M4)(d:Option (Int×Int)):Bool:=match d with
 | none=>false
 | some (k,g)=>decide (0<=k) && (decide (k < ms.length) && (match ms[k.toNat]? with | some m=>decide (g=m.lo) || decide (g=m.hi) | none=>false))
def S1 (ms:List M4):Fn->Int->List (Option (Int×Int))->Option Fn
 | f,_,[]=>some f
 | _,_,none::_=>none
 | f,bh,some (k,g)::r=>match ms[k.toNat]? with
  | none=>none
  | some m=>if R0 ms (some (k,g))=true/\bh < k/\below (f g.toNat) m.t=true then S1 ms (gP f ⟨g.toNat,(if g=m.lo then m.hi else m.lo).toNat,m.t⟩) k r else none
def tt (ms:List M4)(s:Nat)(a:Int):Option Ds->Option Fn
 | none=>none
 | some ps=>S1 ms (mH s a) (-1) (ps.map (·.2))
def dz (H:Hp)(l:Addr)(n:Nat)(ws:List (Addr×Nat×Int)):Prop:=H l=some (.lst (ws.map λx=>V.ref x.1))/\∀ x∈ws,H x.1=some (.tup [.int (x.2.1:Int),.int x.2.2])/\x.2.1 < n
theorem dz.same {H H':Hp}{l:Addr}{n:Nat}{ws:List (Addr×Nat×Int)}(h:dz H l n ws)(s:aj H H'):dz H' l n ws:=⟨s _ _ h.1,λx hx=>⟨s _ _ (h.2 x hx).1,(h.2 x hx).2⟩⟩
section
variable {K:PySem.W.Frag}{H:Hp}{σ:St}{lt p:Addr}{n g:Nat}{f:Fn}{t:Int}{Q:VK}
end
section
variable {K:PySem.W.Frag}{H:Hp}{a b:Addr}{xs ys:List V}{lo hi:Option Int}{Q:VK}
end
section
variable {K:PySem.W.Frag}{D:Ends}{σ:St}{HI H:Hp}{l la lb lf:Addr}{x:V}{ss A C:List (Addr×Int×Int)}{n:Nat}{o:Option (Int×Int)}
end
section
variable {K:PySem.W.Frag}{D:Ends} {HI H0:Hp}{l la lb lf lm:Addr}{ms:List V}{ss A C:List (Addr×Int×Int)}{n:Nat} {s0 s1 s2 s3 s4 s5 s6 s8:Option V}
end
section
variable {K:PySem.W.Frag}{σ:St}{H:Hp}
end
section
variable {K:PySem.W.Frag}{σ:St}{H:Hp}
end
end Sm
namespace L2
end L2
namespace Sm
open PySem L2
def kX:V->Bool
 | .int i=>decide (0<=i)
 | _=>false
def IQ:Sp:=λvs H Q _=>∃ x t,vs=[x]/\ig H x=some t/\Q (.bl (kX x)) H
theorem nM {α β:Type}{xs:List α}{ys:List β}{i:Nat}{x:α}{y:β}(hx:xs[i]?=some x)(hy:ys[i]?=some y):(xs.zip ys)[i]?=some (x,y):=by rw [List.getElem?_zip_eq_some];exact ⟨hx,hy⟩
theorem kE {α:Type}{ps:List (Addr×α)}{i:Nat}{r:Addr×α}(h:ps[i]?=some r):(ps.map (·.2))[i]?=some r.2:=by rw [zF,h];rfl
theorem dY {p:Addr}{H H1 H2:Hp}(hp:H p=none)(s:aj H H1)(g:lK p H1 H2):aj H H2:=λb u e=>g b u (xA e hp) (s b u e)
theorem Go.QM {p l:Addr}{H H':Hp}{o:HO}(g:Go p H H')(h:H l=none)(n:l≠p):Go p H (upd H' l o):=
 ⟨λb u nb e=>by rw [xC (xA e h)];exact g.1 b u nb e,by obtain ⟨a,b,c,e⟩:=g.2;exact ⟨a,b,c,by rw [xC n.symm];exact e⟩⟩
def F7 (a b c d e f g:List Int):Nat->List Int
 | 0=>a | 1=>b | 2=>c | 3=>d | 4=>e | 5=>f | _=>g
end Sm
namespace L2
open PySem PySem.Spec PyProof.Rows
theorem jC (elt t1 i1 t2 i2:Expr)(c8 bY:List Expr)(scope:Scope)(pos:Pos)(it acc:Value)(env:Env) :
  compTurn (.ListComp elt [⟨t1,i1,c8,0⟩,⟨t2,i2,bY,0⟩] scope pos) 0 it acc env=(do
   standAt i1.pos
   match <- pyNext it with
   | none=>pure (.done .next)
   | some v=>
    letOwnedTupleGo t1 it v
    assign t1 env v
    let mut ok:=true
    for c in c8 do
     if ok then ok <- isTrue c env (eval c env)
    if ok then
     let x <- eval i2 env
     standAt i2.pos
     let x <- foldedSetIterable i2 env x
     let Mn <- holding [x] (pyIter x)
     let _ <- runOwn (.compStart (.ListComp elt [⟨t1,i1,c8,0⟩,⟨t2,i2,bY,0⟩] scope pos) 1 Mn acc env) env
     again (.compLoop (.ListComp elt [⟨t1,i1,c8,0⟩,⟨t2,i2,bY,0⟩] scope pos) 0 it acc env)
    else
     again (.compLoop (.ListComp elt [⟨t1,i1,c8,0⟩,⟨t2,i2,bY,0⟩] scope pos) 0 it acc env)):=by rfl
theorem jB (elt t1 i1 t2 i2:Expr)(c8 bY:List Expr)(scope:Scope)(pos:Pos)(it acc:Value)(env:Env) :
  compTurn (.ListComp elt [⟨t1,i1,c8,0⟩,⟨t2,i2,bY,0⟩] scope pos) 1 it acc env=(do
   standAt i2.pos
   match <- pyNext it with
   | none=>pure (.done .next)
   | some v=>
    letOwnedTupleGo t2 it v
    assign t2 env v
    let mut ok:=true
    for c in bY do
     if ok then ok <- isTrue c env (eval c env)
    if ok then
     (do let _ <- call (.builtin "list.append") [acc,<- eval elt env])
    again (.compLoop (.ListComp elt [⟨t1,i1,c8,0⟩,⟨t2,i2,bY,0⟩] scope pos) 1 it acc env)):=by rfl
section
variable {prog:Program}{w:World}{A:Around}{R:Result->Shared->Prop}{s:Shared} {elt t1 i1 t2 i2:Expr} {c8 bY:List Expr}{scope:Scope}{pos:Pos}{it acc:Value}{env:Env}
abbrev tests (ifs:List Expr)(env:Env):Sem Bool:=forIn ifs true λc r=>if r=true then do let ok <- isTrue c env (eval c env);pure (ForInStep.yield ok) else pure (ForInStep.yield r)
theorem oE (I:Nat->Shared->Prop)
  (turn:∀ n s,I n s->wpAny (model prog w) A (pyNext it) (λr aI=>match r with
   | none=>R (.ok .next) aI
   | some v=>wpAny (model prog w) A (letOwnedTupleGo t2 it v) (λ_ gH=>wpAny (model prog w) A (assign t2 env v) (λ_ gT=>
     wpAny (model prog w) A (tests bY env) (λok iI=>
      if ok=true then wpAny (model prog w) A (eval elt env) (λx lR=>
       wpAny (model prog w) A (call (.builtin "list.append") [acc,x]) (λ_ lQ=>∃ m,m < n/\I m lQ) (λ_ _=>False) lR) (λ_ _=>False) iI
      else ∃ m,m < n/\I m iI) (λ_ _=>False) gT) (λ_ _=>False) gH) (λ_ _=>False) aI) (λ_ _=>False) s)
  (n:Nat) (h:I n s) :
  codeAny (model prog w) A (.compLoop (.ListComp elt [⟨t1,i1,c8,0⟩,⟨t2,i2,bY,0⟩] scope pos) 1 it acc env) R s:=by
 refine codeAny_loop rfl I (λn s hI=>?_) n h;show wpAny _ A ((compTurn (.ListComp elt [⟨t1,i1,c8,0⟩,⟨t2,i2,bY,0⟩] scope pos) 1 it acc env).onRaise (λx=>do noteFrame x env;theTreesLotGoes x)) _ _ s;refine wpAny_noted ?_;rw [jB];refine wpAny_bind (wpAny_standAt (wpAny_bind (wpAny_mono (turn n s hI) (λr aI bD=>?_) λ_ _ h'=>h'.elim)));cases r with
 | none=>exact wpAny_pure bD
 | some v=>
  refine wpAny_bind (wpAny_mono bD (λ_ gH mS=>?_) λ_ _ h'=>h'.elim);refine wpAny_bind (wpAny_mono mS (λ_ gT uK=>wpAny_bind (wpAny_mono uK (λok iI mR=>?_) λ_ _ h'=>h'.elim)) λ_ _ h'=>h'.elim);cases ok with
  | false=>exact wpAny_pure ⟨rfl,mR⟩
  | true=>
   exact wpAny_bind (wpAny_bind (wpAny_mono mR (λx lR uJ=>wpAny_bind (wpAny_mono uJ (λ_ lQ uH=>wpAny_pure (wpAny_pure ⟨rfl,uH⟩)) λ_ _ h'=>h'.elim)) λ_ _ h'=>h'.elim))
theorem oF (I:Nat->Shared->Prop)(lH:∀ x,foldedSetIterable i2 env x=pure x)
  (turn:∀ n s,I n s->wpAny (model prog w) A (pyNext it) (λr aI=>match r with
   | none=>R (.ok .next) aI
   | some v=>wpAny (model prog w) A (letOwnedTupleGo t1 it v) (λ_ gH=>wpAny (model prog w) A (assign t1 env v) (λ_ gT=>
     wpAny (model prog w) A (tests c8 env) (λok iI=>
      if ok=true then wpAny (model prog w) A (eval i2 env) (λx lR=>wpAny (model prog w) A (pyIter x) (λMn lQ=>
       codeAny (model prog w) A (.compStart (.ListComp elt [⟨t1,i1,c8,0⟩,⟨t2,i2,bY,0⟩] scope pos) 1 Mn acc env) (λr sy=>(∃ f,r=.ok f)/\∃ m,m < n/\I m sy) lQ) (λ_ _=>False) lR) (λ_ _=>False) iI
      else ∃ m,m < n/\I m iI) (λ_ _=>False) gT) (λ_ _=>False) gH) (λ_ _=>False) aI) (λ_ _=>False) s)
  (n:Nat) (h:I n s) :
  codeAny (model prog w) A (.compLoop (.ListComp elt [⟨t1,i1,c8,0⟩,⟨t2,i2,bY,0⟩] scope pos) 0 it acc env) R s:=by
 refine codeAny_loop rfl I (λn s hI=>?_) n h;show wpAny _ A ((compTurn (.ListComp elt [⟨t1,i1,c8,0⟩,⟨t2,i2,bY,0⟩] scope pos) 0 it acc env).onRaise (λx=>do noteFrame x env;theTreesLotGoes x)) _ _ s;refine wpAny_noted ?_;rw [jC];refine wpAny_bind (wpAny_standAt (wpAny_bind (wpAny_mono (turn n s hI) (λr aI bD=>?_) λ_ _ h'=>h'.elim)));cases r with
 | none=>exact wpAny_pure bD
 | some v=>
  refine wpAny_bind (wpAny_mono bD (λ_ gH mS=>?_) λ_ _ h'=>h'.elim);refine wpAny_bind (wpAny_mono mS (λ_ gT uK=>wpAny_bind (wpAny_mono uK (λok iI mR=>?_) λ_ _ h'=>h'.elim)) λ_ _ h'=>h'.elim);cases ok with
  | false=>exact wpAny_pure ⟨rfl,mR⟩
  | true=>
   refine wpAny_bind (wpAny_mono mR (λx lR uJ=>wpAny_bind (wpAny_standAt (wpAny_bind (wpAny_of_eq (lH x) (wpAny_bind (wpAny_holding (wpAny_mono uJ (λMn lQ uH=>?_) λ_ _ h'=>h'.elim))))))) λ_ _ h'=>h'.elim);refine wpAny_bind (wpAny_runOwn (codeAny_mono uH λr sy Lw=>?_));obtain ⟨⟨f,rfl⟩,Lw⟩:=Lw;exact wpAny_pure ⟨rfl,Lw⟩
theorem d9
  (h0:codeAny (model prog w) A (.compLoop (.ListComp elt [⟨t1,i1,c8,0⟩,⟨t2,i2,bY,0⟩] scope pos) 1 it acc env) R s)
  (h:wpAny (model prog w) A (pyIter it) (λRg s'=>codeAny (model prog w) A (.compLoop (.ListComp elt [⟨t1,i1,c8,0⟩,⟨t2,i2,bY,0⟩] scope pos) 1 Rg acc env) R s')
   (notedBy (model prog w) A env λx s'=>R (.error x) s') s) :
  codeAny (model prog w) A (.compStart (.ListComp elt [⟨t1,i1,c8,0⟩,⟨t2,i2,bY,0⟩] scope pos) 1 it acc env) R s:=by
 refine codeAny_of_tree ?_;show wpAny _ _ ((compStart (.ListComp elt [⟨t1,i1,c8,0⟩,⟨t2,i2,bY,0⟩] scope pos) 1 it acc env).onRaise (λx=>do noteFrame x env;standAt theWindowsPlace)) _ _ s;refine wpAny_notedAt ?_;unfold compStart;show wpAny _ _ (ask >>= _) _ _ s;refine wpAny_bind (wpAny_askSetting (wpAny_ite ?_));split
 ·first
   | exact wpAny_bind (wpAny_pure (wpAny_pure (And.intro rfl h0)))
   | exact wpAny_pure (And.intro rfl h0)
 ·first
   | exact wpAny_bind (wpAny_rule (wpAny_bind (wpAny_standAt (wpAny_bind (wpAny_mono h (λRg s' h'=>wpAny_pure (And.intro rfl h')) λ_ _ x=>x)))))
   | (refine wpAny_bind (wpAny_rule ?_);show wpAny _ _ (standAt i2.pos >>= _) _ _ s;exact wpAny_bind (wpAny_standAt (wpAny_bind (wpAny_mono h (λRg s' h'=>wpAny_pure (And.intro rfl h')) λ_ _ x=>x))))
end
def KO (n:Nat)(caps:List Nat)(wi:TI)(g:TG)(tc:TT)(Kw:TI)(g2:TG)(qk:TT)(te:TE):TE:=fun σ H Q=>wi σ H λJ H1=>∃ W:Nat->Nat->St->List V->Hp->Prop,(∃ m,W 0 m (cW n caps σ) [] H1)/\∀ i m τ acc H,W i m τ acc H ->
 (J.stop i H/\acc.length<=sizeLine/\∀ p,H p=none->Q (.ref p) (upd H p (.lst acc))) \/
 (J.go i H/\∀ x H',J.jq i H x H'->g x τ H' fun aV H2=>tc aV H2 λb H3=>if b=true then Kw aV H3 λJ2 H4=>∃ W2:Nat->Nat->St->List V->Hp->Prop,(∃ m2,W2 0 m2 aV acc H4)/\∀ j m2 τ acc H,W2 j m2 τ acc H ->
   (J2.stop j H/\∃ m',m' < m/\W (i + 1) m' τ acc H) \/
   (J2.go j H/\acc.length < sizeLine/\∀ y H',J2.jq j H y H'->g2 y τ H' fun kc H5=>qk kc H5 λb H6=>if b=true then te kc H6 λz H7=>∃ m',m' < m2/\W2 (j + 1) m' kc (acc++[z]) H7 else ∃ m',m' < m2/\W2 (j + 1) m' kc acc H6)
  else ∃ m',m' < m/\W (i + 1) m' aV acc H3)
section
variable {X:Cx}{aa:List (Addr×Obj)}{σ:St}{H:Hp}{s:Shared}
theorem tP {own:List Str}{caps:List Nat}{elt tg iter MM mO:Expr}{ifs bY:List Expr}{scope:Scope}{pos:Pos}{wi Kw:TI}{g g2:TG}{tc qk:TT}{te:TE}(hc:X.calm=true)(S:aC own caps X.N X.env.scope scope)(hi:PI X tg iter wi)
  (hg:∀ s H fp C,PG (bA X own caps scope s H fp C) tg g) (ht:∀ s H fp C,ME (bA X own caps scope s H fp C) ifs tc) (he:∀ s H fp C,PE (bA X own caps scope s H fp C) elt te)
  (qX:∀ s H fp C,PI (bA X own caps scope s H fp C) MM mO Kw) (NX:∀ s H fp C,PG (bA X own caps scope s H fp C) MM g2) (rO:∀ s H fp C,ME (bA X own caps scope s H fp C) bY qk)
  (lH:∀ env x,foldedSetIterable mO env x=pure x:=by intro _ _;rfl) (hs:∀ x,foldedSetIterable iter X.env x=pure x:=by intro _;rfl):PE X (.ListComp elt [⟨tg,iter,ifs,0⟩,⟨MM,mO,bY,0⟩] scope pos) (KO own.length caps wi g tc Kw g2 qk te):=by
 intro aa s σ H Q I h;rw [eval_ListComp];refine wpAny_comprehension_free (use:=none) (cl:=dc scope.names X.env []) rfl hs (cN λy hy e=>I.ok.has y.1 (S.fr y hy e)) S.kind S.loc
  (wpAny_mono (hi aa s σ H _ I h) (λv s1 h1=>aM h1 λNv s2 h2=>?_) λ_ _ e=>e)
 obtain ⟨it,fp,tn,J,H2,e,I2,T,rM,f2,W,⟨m0,w0⟩,turn⟩:=h2;subst e;refine wpAny_newObj_type (wpAny_newFunctionEnv S.iV (by intro y hy;simp at hy) (λbD ck bI=>?_) S.kind);dsimp only at ck bI ⊢;generalize rQ:s2.heap.push { cls:=.type "list", dict:=none,data:=.seq ([]:List Value).toArray }=G at ck bI ⊢;have hG:G.objs.size=s2.heap.objs.size + 1:=by rw [<-rQ,Heap.size_push]
 have qY:s2.heap.objs.size≠G.objs.size:=by rw [hG];exact zT (Nat.lt_succ_self _)
 have qZ:s2.heap.objs.size<=G.objs.size:=by rw [hG];exact yT _
 have below:∀ b,b < s2.heap.objs.size->b≠G.objs.size:=λb hb=>by rw [hG];exact zT (yk hb)
 have old:∀ b o,s2.heap.get? b=some o->bD.get? b=some o:=λb o e=>bI.extBut b o (below b (Heap.lt_size e)) (Heap.get?_push_of_some _ (rQ ▸ Heap.get?_push_of_some _ e));have kM:bD.get? s2.heap.objs.size=some { cls:=.type "list", dict:=none,data:=.seq ([]:List Value).toArray }:=bI.extBut _ _ qY (Heap.get?_push_of_some _ (rQ ▸ Heap.get?_push_size _ rfl));have fl:∀ b∈fp,b < s2.heap.objs.size:=λb hb=>let ⟨o,e,_⟩:=T.obj _ _ rM b hb;Heap.lt_size e;have fR:bD.Ns G.objs.size λ_=>none:=ck;have I4:=i7 (tk:=s2.toks + ([]:List (Str×Value)).length) I2 S f2 fl (zE _) qZ qY old fR kM (λv z=>nomatch z);have sJ:tn 0 bD:=T.keep _ _ _ rM λb _ o e=>old b o e;generalize NL:({ s2 with heap:=bD,toks:=s2.toks + ([]:List (Str×Value)).length }:Shared)=s4 at I4 ⊢;have e4:s4.heap=bD:=by rw [<-NL]
 rw [<-e4] at sJ
 -- pe loop
 have loop:codeAny (model X.prog X.w) X.A (.compLoop (.ListComp elt [⟨tg,iter,ifs,0⟩,⟨MM,mO,bY,0⟩] scope pos) 0 (.ref it) (.ref s2.heap.objs.size) (compEnvC scope (dc scope.names X.env []) G.objs.size X.env))
   (compPost (model X.prog X.w) X.A X.xe none (EP X aa σ Q) (.ref s2.heap.objs.size) G.objs.size) s4:=by
  let Y:=bA X own caps scope s2 H2 fp G.objs.size
  have eK:∀ {H':Hp}{ak:List Value}{n:Nat},(∀ b∈fp,H' b=none)->∀ b∈fp,ic Y [(s2.heap.objs.size,({ cls:=.type "list", data:=.seq ak.toArray n }:Obj))] H' b:=λ{H' ak n} hn b hb=>by
   refine ⟨hn b hb,below b (fl b hb),λz=>?_,.inl hb,λx c e=>(f2 b hb).2.2.2.2.1 x c (xi e),λp hp=>?_⟩
   ·rcases zO.mp (I2.eH b z) with e | e
    ·exact (f2 b hb).2.1 e
    ·exact (f2 b hb).2.2.1 e
   ·have e:p=(s2.heap.objs.size,({ cls:=.type "list", data:=.seq ak.toArray n }:Obj)):=by simpa using (show p∈[]++[_] from hp)
    subst e;exact yJ (fl b hb)
  refine oF (λn s'=>∃ i τ acc ak k H',Inv Y [(s2.heap.objs.size,({ cls:=.type "list", data:=.seq ak.toArray k }:Obj))] τ H' s'/\tn i s'.heap/\(∀ b∈fp,H' b=none)/\Vals acc ak/\W i n τ acc H') (lH _) ?_ m0
   ⟨0,_,[],[],0,H2,I4,sJ,λb hb=>(f2 b hb).1,.nil,w0⟩
  rintro n s5 ⟨i,τ,acc,ak,k,H5,I5,rL,Iv,qE,w5⟩;rcases turn i n τ acc H5 w5 with ⟨stop,hz,q⟩ | ⟨go,step⟩
  ·refine aM (T.done Y rfl rfl rfl hc i _ s5 τ H5 (λ_ _=>False) I5 (eK Iv) rL stop) λr s6 ⟨hr,I6⟩=>?_;subst hr;obtain ⟨eD,nD,_,_,_⟩:=I6.pin _ (zC _ (zG.mpr rfl));obtain ⟨m6,NP,_⟩:=I6.loc;refine ⟨m6,NP,λh' qT=>?_⟩;have LM:H5 G.objs.size=none:=I6.free;have Sk:h'.get? s2.heap.objs.size=some { cls:=.type "list", data:=.seq ak.toArray k }:=qT.extBut _ _ qY eD;have uR:fh X.prog X.w H5 h':=λb u e=>(I6.aU b u e).fD (λc v RO qv=>qT.extBut c v (by
     rcases RO with z | z
     ·subst z;exact xA e LM
     ·exact xA z LM) qv) (λ_ q=>q) λ_ _ q=>q
   refine ⟨.ref s2.heap.objs.size,_,?_,rfl,q _ nD⟩;have ub:=I6.base;refine I2.vz (ch:=fp) (s':={ s6 with heap:=h' }) I6.os ⟨λb o e n' hb hx=>qT.extBut b o (below b (Heap.lt_size e)) (ub.keep b o e n' hb hx),λb o e n' hb hx=>?_,λb o e n' hx=>?_,λb o e hx=>?_,λb xs e=>?_,λb o u e=>?_,λb ps e=>?_⟩
    (uR.sj nD ⟨hz,ak,k,qE,Sk⟩) I6.bare λb hb=>⟨(f2 b hb).2.2.2.1,(f2 b hb).2.1,(f2 b hb).2.2.2.2.1,(f2 b hb).2.2.2.2.2⟩
   ·obtain ⟨sl,e'⟩:=ub.slot b o e n' hb hx;exact ⟨sl,qT.extBut b _ (below b (Heap.lt_size e)) e'⟩
   ·rw [xC (zT (Heap.lt_size e))];exact ub.free b o e n' hx
   ·obtain ⟨o',e'⟩:=ub.there b o e hx;exact ⟨o',qT.extBut b _ (below b (Heap.lt_size e)) e'⟩
   ·have z:=ub.aJ b xs e;rw [xC (xA z nD)];exact z
   ·have z:=ub.gZ b o u e;rw [xC (xA z nD)];exact z
   ·obtain ⟨more,z⟩:=ub.iG b ps e;exact ⟨more,by rw [xC (xA z nD)];exact z⟩
  ·refine aM (T.item Y rfl rfl rfl hc i _ s5 τ H5 (λ_ _=>False) I5 (eK Iv) rL go) λr s6 ⟨u,hr,h6⟩=>?_;subst hr;refine aM h6 λ_ s7 ⟨x,H7,I7,r7,y7,qp,Oe⟩=>?_;have Ox:=I7.pinned (eK Oe) (T.obj _ _ qp);refine aM (hg s2 H2 fp G.objs.size _ s7 τ H7 x u _ Ox r7 (step x H7 y7)) λ_ s8 ⟨nF,H8,I8,q8⟩=>?_;refine aM (ht s2 H2 fp G.objs.size _ s8 nF H8 _ I8 q8) λok s9 ⟨H9,I9,q9⟩=>?_
   -- pe eT state behind pe turn
   have back:∀ {s':Shared}{rY:St}{H':Hp},Inv Y ([(s2.heap.objs.size,({ cls:=.type "list", data:=.seq ak.toArray k }:Obj))]++bR fp s7.heap) rY H' s'->(tn (i + 1) s'.heap/\∀ b∈fp,H' b=none):=λ{s' rY H'} Ib=>
    ⟨T.keep _ _ _ qp λb hb o e=>(Ib.pin (b,o) (zC _ (zC _ (xk hb e)))).1,λb hb=>by
     obtain ⟨o,e,d⟩:=T.obj _ _ qp b hb;exact (Ib.pin (b,o) (zC _ (zC _ (xk hb e)))).2.1⟩
   cases ok with
   | false=>
    obtain ⟨m',mT,w'⟩:=q9;obtain ⟨sb,fb⟩:=back I9;exact ⟨m',mT,i + 1,nF,acc,ak,k,H9,I9.bH,sb,fb,qE,w'⟩
   | true=>
    -- pe inner clause
    refine aM (qX s2 H2 fp G.objs.size _ s9 nF H9 _ I9 q9) λxv bP Xr=>aM Xr λWq iK Xq=>?_;obtain ⟨Mn,Mz,S2,J2,o9,e2,Yx,T2,M0,Sb,W2,⟨m2,w2⟩,ML⟩:=Xq;subst e2;have sH:∀ {H':Hp}{its':List Value}{n':Nat},(∀ b∈Mz,H' b=none)->∀ b∈Mz,ic Y ([(s2.heap.objs.size,({ cls:=.type "list", data:=.seq its'.toArray n' }:Obj))]++bR fp s7.heap) H' b:=λ{H' its' n'} hn b hb=>by
     obtain ⟨_,a2,a3,a4,a5,a6⟩:=Sb b hb;refine ⟨hn b hb,a2,a3,a4,a5,λp hp=>?_⟩;rcases zS.mp hp with z | z
     ·exact a6 p (ze _ z)
     ·rcases zS.mp z with z | z
      ·rw [zG.mp z];exact (show s2.heap.objs.size≠b from a6 (s2.heap.objs.size,({ cls:=.type "list", data:=.seq ak.toArray k }:Obj)) (zC _ (ze _ (zG.mpr rfl))))
      ·exact a6 p (zC _ (zC _ z))
    have J0:codeAny (model X.prog X.w) X.A (.compLoop (.ListComp elt [⟨tg,iter,ifs,0⟩,⟨MM,mO,bY,0⟩] scope pos) 1 (.ref Mn) (.ref s2.heap.objs.size) (compEnvC scope (dc scope.names X.env []) G.objs.size X.env))
      (λr sy=>(∃ f,r=.ok f)/\∃ m,m < n/\∃ i τ acc ak k H',Inv Y [(s2.heap.objs.size,({ cls:=.type "list", data:=.seq ak.toArray k }:Obj))] τ H' sy/\tn i sy.heap/\(∀ b∈fp,H' b=none)/\Vals acc ak/\W i m τ acc H') iK:=by
     refine oE (λn' s'=>∃ j τ acc ak k H',Inv Y ([(s2.heap.objs.size,({ cls:=.type "list", data:=.seq ak.toArray k }:Obj))]++bR fp s7.heap) τ H' s'/\S2 j s'.heap/\(∀ b∈Mz,H' b=none)/\Vals acc ak/\W2 j n' τ acc H') ?_ m2
      ⟨0,nF,acc,ak,k,o9,Yx,M0,λb hb=>(Sb b hb).1,qE,w2⟩
     rintro n' ku ⟨j,rX,nC,i0,J4,rH,U8,MZ,Of,I0,IA⟩;rcases ML j n' rX nC rH IA with ⟨MX,m',mT,w'⟩ | ⟨go2,NF,MY⟩
     ·refine aM (T2.done Y rfl rfl rfl hc j _ ku rX rH (λ_ _=>False) U8 (sH Of) MZ MX) λr Tn ⟨hr,SH⟩=>?_;subst hr;have sb:tn (i + 1) Tn.heap:=T.keep _ _ _ qp λb hb o e=>(SH.pin (b,o) (zC _ (zC _ (xk hb e)))).1;have fb:∀ b∈fp,rH b=none:=λb hb=>by
       obtain ⟨o,e,d⟩:=T.obj _ _ qp b hb;exact (SH.pin (b,o) (zC _ (zC _ (xk hb e)))).2.1
      exact ⟨⟨_,rfl⟩,m',mT,i + 1,rX,nC,i0,J4,rH,SH.bH,sb,fb,I0,w'⟩
     ·refine aM (T2.item Y rfl rfl rfl hc j _ ku rX rH (λ_ _=>False) U8 (sH Of) MZ go2) λr Tn ⟨u2,hr,Xp⟩=>?_;subst hr;refine aM Xp λ_ Tj ⟨y2,SJ,Yw,VQ,Vv,KR,R9⟩=>?_;have SG:=Yw.pinned (sH R9) (T2.obj _ _ KR);refine aM (NX s2 H2 fp G.objs.size _ Tj rX SJ y2 u2 _ SG VQ (MY y2 SJ Vv)) λ_ VN ⟨rW,Vq,Yv,VT⟩=>?_;refine aM (rO s2 H2 fp G.objs.size _ VN rW Vq _ Yv VT) λV0 IZ ⟨SI,SE,Tv⟩=>?_;have Kn:∀ {s':Shared}{rY:St}{H':Hp},Inv Y (([(s2.heap.objs.size,({ cls:=.type "list", data:=.seq i0.toArray J4 }:Obj))]++bR fp s7.heap)++bR Mz Tj.heap) rY H' s'->(S2 (j + 1) s'.heap/\∀ b∈Mz,H' b=none):=λ{s' rY H'} Ib=>
       ⟨T2.keep _ _ _ KR λb hb o e=>(Ib.pin (b,o) (zC _ (zC _ (xk hb e)))).1,λb hb=>by
        obtain ⟨o,e,d⟩:=T2.obj _ _ KR b hb;exact (Ib.pin (b,o) (zC _ (zC _ (xk hb e)))).2.1⟩
      cases V0 with
      | false=>
       obtain ⟨m',mT,w'⟩:=Tv;obtain ⟨sb,fb⟩:=Kn SE;exact ⟨m',mT,j + 1,rW,nC,i0,J4,SI,SE.bH,sb,fb,I0,w'⟩
      | true=>
       refine aM (he s2 H2 fp G.objs.size _ IZ rW SI _ SE Tv) λy Mk ⟨yv,Vp,Po,VP,VS⟩=>?_;obtain ⟨m',mT,w'⟩:=VS;obtain ⟨sb,fb⟩:=Kn Po;obtain ⟨eD,nD,vV,Nd,_⟩:=Po.pin (s2.heap.objs.size,_) (zC _ (ze _ (ze _ (zG.mpr rfl))));have hl:nC.length=i0.length:=I0.length;refine call_meets F.slot_list_append ⟨_,eD,rfl⟩ F.entry_list_append (F.args_list_append_2 _ _) (PySem.list_append s2.heap.objs.size i0.toArray J4 y (by rw [zL];omega)) ⟨eD,?_⟩;have q:=PySem.IsL.update eD (λa:Array Value=>a.push y);have Iu:Inv Y [] rW Vp Mk:=Po.cz λp hp=>nomatch hp;have QX:∀ b o,b≠s2.heap.objs.size->Mk.heap.get? b=some o->(Mk.heap.update s2.heap.objs.size (Obj.mapSeq (λa:Array Value=>a.push y))).get? b=some o:=λb o hb e=>(Heap.get?_update_other Mk.heap _ (Ne.symm hb)).trans e;have It:=Iu.turned (t':=Mk.toks) (it:=s2.heap.objs.size) (h':=Mk.heap.update s2.heap.objs.size (Obj.mapSeq (λa:Array Value=>a.push y))) QX nD vV (.inr (zE _))
        (λx c e z=>by
         obtain ⟨v,ob,Jw,_⟩:=I2.cell x c (xi e);exact absurd (Heap.lt_size Jw) (by rw [z];exact zy _)) (λp hp=>nomatch hp)
       have V6:∀ b∈fp,b≠s2.heap.objs.size:=λb hb=>zT (fl b hb);have Q3:∀ b∈Mz,b≠s2.heap.objs.size:=λb hb z=>(Sb b hb).2.2.2.2.2 (s2.heap.objs.size,({ cls:=.type "list", data:=.seq ak.toArray k }:Obj)) (zC _ (ze _ (zG.mpr rfl))) z.symm;have Ow:=It.cz (mq:=[(s2.heap.objs.size,({ cls:=.type "list", data:=.seq (i0++[y]).toArray (J4 + 1) }:Obj))]++bR fp s7.heap) λp hp=>by
        rcases zS.mp hp with hp | hp
        ·have e:p=_:=zG.mp hp;subst e;exact ⟨by simpa using q,nD,vV,Nd,λv z=>nomatch z⟩
        ·obtain ⟨e1,e2,e3,e4,e5⟩:=Po.pin p (zC _ (ze _ (zC _ hp)));exact ⟨QX _ _ (V6 _ (jM hp).1) e1,e2,e3,e4,e5⟩
       exact ⟨m',mT,j + 1,rW,nC++[yv],i0++[y],_,Vp,Ow,T2.keep _ _ _ sb λb hb o e=>QX b o (Q3 b hb) e,fb,I0.append (.cons VP .nil),w'⟩
    exact d9 J0 (T2.self _ 0 iK _ _ M0 J0)
 exact codeAny_compStart_list loop (T.self _ 0 s4 _ _ sJ loop)
end
section
variable {K:PySem.W.Frag}{a b:Addr}{xs ys:List V}{n:Nat}{caps:List Nat} {g g2:TG} {tc qk:TT} {Kw:TI}{te:TE} {σ Mh:St}{H:Hp} {rF:List V}{Qf:Addr->Hp->List V->Prop}{C:St->List V->Hp->Prop}
def Pn (J2:It)(g2:TG)(qk:TT)(te:TE)(Mh:St)(rF:List V)(H0:Hp)(C:St->List V->Hp->Prop):Prop:=
 ∃ W2:Nat->Nat->St->List V->Hp->Prop,(∃ m2,W2 0 m2 Mh rF H0)/\∀ j m2 τ acc H,W2 j m2 τ acc H ->
  (J2.stop j H/\C τ acc H) \/
  (J2.go j H/\acc.length < sizeLine/\∀ y H',J2.jq j H y H'->g2 y τ H' fun kc H5=>qk kc H5 λb H6=>if b=true then te kc H6 λz H7=>∃ m',m' < m2/\W2 (j + 1) m' kc (acc++[z]) H7 else ∃ m',m' < m2/\W2 (j + 1) m' kc acc H6)
theorem in_of {J2:It}(Pw:Nat->St->List V->Hp->Prop)(len:Nat)(h0:Pw 0 Mh rF H)(hl:∀ j τ acc H,Pw j τ acc H->acc.length < sizeLine)
  (RI:∀ j τ acc H,j < len->Pw j τ acc H->J2.go j H) (uM:∀ τ acc H,Pw len τ acc H->J2.stop len H)
  (hs:∀ j τ acc H (D:St->List V->Hp->Prop),j < len->Pw j τ acc H->(∀ τ acc H,Pw (j + 1) τ acc H->D τ acc H)->∀ y H',J2.jq j H y H'->g2 y τ H' fun kc H5=>qk kc H5 λb H6=>if b=true then te kc H6 λz H7=>D kc (acc++[z]) H7 else D kc acc H6)
  (hd:∀ τ acc H,Pw len τ acc H->C τ acc H):Pn J2 g2 qk te Mh rF H C:=by
 refine ⟨λj m τ acc H=>m=len - j/\j<=len/\Pw j τ acc H,⟨len,by simp,zV _,h0⟩,?_⟩;rintro j m τ acc H ⟨rfl,hj,p⟩;by_cases cM:j < len
 ·exact .inr ⟨RI j τ acc H cM p,hl j τ acc H p,λy H' z=>hs j τ acc H (fun τ acc H=>∃ m',m' < len - j/\m'=len - (j + 1)/\j + 1<=len/\Pw (j + 1) τ acc H) cM p (fun τ acc H p'=>⟨len - (j + 1),by omega,rfl,cM,p'⟩) y H' z⟩
 ·have e:j=len:=by omega
  subst e;exact .inl ⟨uM τ acc H p,hd τ acc H p⟩
theorem in_list (Pw:Nat->St->List V->Hp->Prop)(h0:Pw 0 Mh rF H)(hl:∀ j τ acc H,Pw j τ acc H->acc.length < sizeLine/\av K H a xs)
  (hs:∀ j x τ acc H (D:St->List V->Hp->Prop),xs[j]?=some x->Pw j τ acc H->(∀ τ acc H,Pw (j + 1) τ acc H->D τ acc H)->g2 x τ H fun kc H5=>qk kc H5 λb H6=>if b=true then te kc H6 λz H7=>D kc (acc++[z]) H7 else D kc acc H6)
  (hd:∀ τ acc H,Pw xs.length τ acc H->C τ acc H):Pn (rG K a) g2 qk te Mh rF H C:=
 in_of Pw xs.length h0 (λj τ acc H p=>(hl j τ acc H p).1) (λj τ acc H hj p=>⟨xs,xs[j],(hl j τ acc H p).2,by simp [hj]⟩) (fun τ acc H p=>⟨xs,(hl _ τ acc H p).2,zE _⟩)
  (λj τ acc H D hj p c y H' z=>by obtain ⟨e,z⟩:=z;subst e;exact hs j y τ acc _ D (z xs (hl j τ acc _ p).2) p c) hd
theorem oW (Pv:Nat->St->List V->Hp->Prop)(h0:Pv 0 (cW n caps σ) [] H)(hl:∀ i τ acc H,Pv i τ acc H->acc.length<=sizeLine/\av K H a xs)
  (hs:∀ i x τ acc H (D:St->List V->Hp->Prop),xs[i]?=some x->Pv i τ acc H->(∀ τ acc H,Pv (i + 1) τ acc H->D τ acc H)->g x τ H fun aV H2=>tc aV H2 λb H3=>if b=true then Kw aV H3 λJ2 H4=>Pn J2 g2 qk te aV acc H4 D else D aV acc H3)
  (hd:∀ τ acc H,Pv xs.length τ acc H->∀ p,H p=none->Qf p H acc) :
  ∃ W:Nat->Nat->St->List V->Hp->Prop,(∃ m,W 0 m (cW n caps σ) [] H)/\∀ i m τ acc H,W i m τ acc H ->
   ((rG K a).stop i H/\acc.length<=sizeLine/\∀ p,H p=none->Qf p H acc) \/
   ((rG K a).go i H/\∀ x H',(rG K a).jq i H x H'->g x τ H' fun aV H2=>tc aV H2 λb H3=>if b=true then Kw aV H3 λJ2 H4=>Pn J2 g2 qk te aV acc H4 (fun τ acc H=>∃ m',m' < m/\W (i + 1) m' τ acc H) else ∃ m',m' < m/\W (i + 1) m' aV acc H3):=by
 refine ⟨λi m τ acc H=>m=xs.length - i/\i<=xs.length/\Pv i τ acc H,⟨xs.length,by simp,zV _,h0⟩,?_⟩;rintro i m τ acc H ⟨rfl,hi,p⟩;have q:=hl i τ acc H p;by_cases cM:i < xs.length
 ·refine .inr ⟨⟨xs,xs[i],q.2,by simp [cM]⟩,λx H' y=>?_⟩;obtain ⟨e,y⟩:=y;subst e;exact hs i x τ acc _ (fun τ acc H=>∃ m',m' < xs.length - i/\m'=xs.length - (i + 1)/\i + 1<=xs.length/\Pv (i + 1) τ acc H) (y xs q.2) p fun τ acc H p'=>⟨xs.length - (i + 1),by omega,rfl,cM,p'⟩
 ·have e:i=xs.length:=by omega
  subst e;exact .inl ⟨⟨xs,q.2,zE _⟩,q.1,hd τ acc H p⟩
end
end L2
namespace Sm
open PySem L2
def DT (H:Hp):Nat->V->Prop
 | 0,v=>∃ t,ig H v=some t
 | n + 1,v=>(∃ p xs,v=.ref p/\H p=some (.lst xs)/\∀ x∈xs,DT H n x)\/(∃ p xs,v=.ref p/\H p=some (.tup xs)/\∀ x∈xs,DT H n x)\/∃ t,ig H v=some t/\t ≠ "list" /\ t ≠ "tuple"
theorem DT.ty {H:Hp}{n:Nat}{v:V}(h:DT H n v):∃ t,ig H v=some t:=by
 cases n with
 | zero=>exact h
 | succ n=>
  rcases h with ⟨p,xs,rfl,k,_⟩ | ⟨p,xs,rfl,k,_⟩ | ⟨t,k,_⟩
  ·exact ⟨_,bK k⟩
  ·exact ⟨_,fq k⟩
  ·exact ⟨t,k⟩
theorem DT.same {H H':Hp}(s:aj H H'):∀ {n:Nat}{v:V},DT H n v->DT H' n v
 | 0,_,⟨t,h⟩=>⟨t,fz s h⟩
 | n + 1,_,h=>by
  rcases h with ⟨p,xs,rfl,k,e⟩ | ⟨p,xs,rfl,k,e⟩ | ⟨t,k,e⟩
  ·exact .inl ⟨p,xs,rfl,s _ _ k,λx hx=>DT.same s (e x hx)⟩
  ·exact .inr (.inl ⟨p,xs,rfl,s _ _ k,λx hx=>DT.same s (e x hx)⟩)
  ·exact .inr (.inr ⟨t,fz s k,e⟩)
theorem DT.le {H:Hp}:∀ {n:Nat}{v:V},DT H (n + 1) v->DT H n v
 | 0,_,h=>h.ty
 | n + 1,_,h=>by
  rcases h with ⟨p,xs,rfl,k,e⟩ | ⟨p,xs,rfl,k,e⟩ | ⟨t,k,e⟩
  ·exact .inl ⟨p,xs,rfl,k,λx hx=>DT.le (e x hx)⟩
  ·exact .inr (.inl ⟨p,xs,rfl,k,λx hx=>DT.le (e x hx)⟩)
  ·exact .inr (.inr ⟨t,k,e⟩)
theorem getD_at {α:Type}{l:List α}{i:Nat}{x d:α}(h:l[i]?=some x):l.getD i d=x:=by rw [yM,h];rfl
section
variable {n nr k w k' w':Nat}{rs:List (List Int)}{v:Int}
end
section
variable {p lg lt lm a:Addr} {H0 H H':Hp}{as:List Addr}{n nr k w i:Nat}{gs ts:List Bool}{rs:List (List Int)}{v:Int}
end
section
variable {p lg lt lm a:Addr} {Zn H0 H H' H1:Hp}{as:List Addr}{n nr:Nat}{gs ts:List Bool}{rs:List (List Int)}{r:List Int}
end
section
variable {ms:List M4}{ls ws:List S3}{gs ts:List Bool}{rs VO:List (List Int)}{n nr i k w:Nat}{v:Int}
end
section
variable {ms:List M4}{ls ws:List S3}{gs ts:List Bool}{rs VO:List (List Int)}{n nr i k w:Nat}{v:Int}
end
theorem DT.flat {H:Hp}{v:V}{t:String}(h:ig H v=some t)(n1:t ≠ "list")(n2:t ≠ "tuple"):∀ n,DT H n v
 | 0=>⟨t,h⟩
 | _ + 1=>.inr (.inr ⟨t,h,n1,n2⟩)
theorem DT.bl {H:Hp}(n:Nat)(b:Bool):DT H n (.bl b):=DT.flat (t := "bool") rfl (by decide) (by decide) n
theorem DT.int {H:Hp}(n:Nat)(b:Int):DT H n (.int b):=DT.flat (t := "int") rfl (by decide) (by decide) n
theorem DT.bu {H:Hp}(n:Nat):DT H n .bu:=DT.flat (t := "NoneType") rfl (by decide) (by decide) n
theorem DT.lst {H:Hp}{n:Nat}{p:Addr}{xs:List V}(h:H p=some (.lst xs))(e:∀ x∈xs,DT H n x):DT H (n + 1) (.ref p):=.inl ⟨p,xs,rfl,h,e⟩
theorem DT.tup {H:Hp}{n:Nat}{p:Addr}{xs:List V}(h:H p=some (.tup xs))(e:∀ x∈xs,DT H n x):DT H (n + 1) (.ref p):=.inr (.inl ⟨p,xs,rfl,h,e⟩)
theorem DT.ints {H:Hp}(n:Nat){r:List Int}:∀ x∈r.map V.int,DT H n x:=λx hx=>by
 obtain ⟨b,_,rfl⟩:=zP.mp hx;exact DT.int n b
theorem gu {xs:List V}{lo hi:Option Int}{y:V}(h:y∈ay xs lo hi):y∈xs:=by unfold ay at h;exact List.mem_of_mem_drop (List.mem_of_mem_take h)
section
variable {H:Hp}{c lg lt lm:Addr}{gs ts:List Bool}{ms:List (Addr×List Int)}
theorem cS {n:Nat}{xs:List V}{l1 h1 l2 h2:Option Int}{v:V}(e:∀ x∈xs,DT H n x)(hv:DT H n v):∀ x∈ay xs l1 h1++[v]++ay xs l2 h2,DT H n x:=λx hx=>by
 rcases zS.mp hx with hx | hx
 ·rcases zS.mp hx with hx | hx
  ·exact e x (gu hx)
  ·cases zG.mp hx;exact hv
 ·exact e x (gu hx)
end
end Sm
namespace Sm
open PySem L2 dj
def bE (H:Hp):V->Option (List V)
 | .ref p=>match H p with
  | some (.lst xs)=>some xs
  | _=>none
 | _=>none
def ef (H:Hp):V->Option (List V)
 | .ref p=>match H p with
  | some (.tup xs)=>some xs
  | _=>none
 | _=>none
section
variable {H H':Hp}{p:Addr}{v:V}{xs:List V}{t:String}{n:Nat}
theorem qA (h:H p=some (.lst xs)):bE H (.ref p)=some xs:=by simp only [bE,h]
theorem IG (h:H p=some (.lst xs)):ef H (.ref p)=none:=by simp only [ef,h]
theorem iw (h:H p=some (.tup xs)):bE H (.ref p)=none:=by simp only [bE,h]
theorem IF (h:H p=some (.tup xs)):ef H (.ref p)=some xs:=by simp only [ef,h]
theorem oA (h:bE H v=some xs):∃ p,v=.ref p/\H p=some (.lst xs):=by
 cases v with
 | ref p=>
  simp only [bE] at h;split at h
  ·rename_i k;cases h;exact ⟨p,rfl,k⟩
  ·cases h
 | _=>cases h
theorem nW (h:ef H v=some xs):∃ p,v=.ref p/\H p=some (.tup xs):=by
 cases v with
 | ref p=>
  simp only [ef] at h;split at h
  ·rename_i k;cases h;exact ⟨p,rfl,k⟩
  ·cases h
 | _=>cases h
theorem DT.way (h:DT H (n + 1) v):(∃ p xs,v=.ref p/\H p=some (.lst xs)/\bE H v=some xs/\ef H v=none/\∀ x∈xs,DT H n x)\/(∃ p xs,v=.ref p/\H p=some (.tup xs)/\bE H v=none/\ef H v=some xs/\∀ x∈xs,DT H n x)\/∃ t,ig H v=some t/\mP t "list" = false/\mP t "tuple" = false/\bE H v=none/\ef H v=none:=by
 rcases h with ⟨p,xs,rfl,k,e⟩ | ⟨p,xs,rfl,k,e⟩ | ⟨t,k,n1,n2⟩
 ·exact .inl ⟨p,xs,rfl,k,qA k,IG k,e⟩
 ·exact .inr (.inl ⟨p,xs,rfl,k,iw k,IF k,e⟩)
 ·refine .inr (.inr ⟨t,k,?_,?_,?_,?_⟩)
  ·rcases fu k with rfl | rfl | rfl | rfl | rfl | rfl | rfl <;> first | rfl | exact absurd rfl n1
  ·rcases fu k with rfl | rfl | rfl | rfl | rfl | rfl | rfl <;> first | rfl | exact absurd rfl n2
  ·cases e:bE H v with
   | none=>rfl
   | some xs=>obtain ⟨p,rfl,k2⟩:=oA e;rw [bK k2] at k;exact absurd (Option.some.inj k).symm n1
  ·cases e:ef H v with
   | none=>rfl
   | some xs=>obtain ⟨p,rfl,k2⟩:=nW e;rw [fq k2] at k;exact absurd (Option.some.inj k).symm n2
theorem DT.iY (s:aj H H')(h:DT H (n + 1) v):bE H' v=bE H v:=by
 rcases (h.same s).way with ⟨p,xs,rfl,k,e1,_⟩ | ⟨p,xs,rfl,k,e1,_⟩ | ⟨t,k,_,_,e1,_⟩
 ·rcases h.way with ⟨p,ys,ep,k2,e2,_⟩ | ⟨p,ys,ep,k2,e2,_⟩ | ⟨t,k2,n1,n2,e2,_⟩
  ·cases ep;rw [s _ _ k2] at k;cases k;rw [e1,e2]
  ·cases ep;rw [s _ _ k2] at k;cases k
  ·have:=fz s k2;rw [bK k] at this;cases this;cases n1
 ·rcases h.way with ⟨p,ys,ep,k2,e2,_⟩ | ⟨p,ys,ep,k2,e2,_⟩ | ⟨t,k2,n1,n2,e2,_⟩
  ·cases ep;rw [s _ _ k2] at k;cases k
  ·rw [e1,e2]
  ·rw [e1,e2]
 ·rcases h.way with ⟨p,ys,rfl,k2,e2,_⟩ | ⟨p,ys,ep,k2,e2,_⟩ | ⟨t,k2,n1,n2,e2,_⟩
  ·rw [qA (s _ _ k2)] at e1;cases e1
  ·rw [e1,e2]
  ·rw [e1,e2]
end
def aF (H:Hp)(n:Nat)(v:V):Bool:=match bE H v with
 | some xs=>decide (xs.length=n) && xs.all kX
 | none=>false
def qy:Sp:=λvs H Q _=>∃ v,∃ n:Nat,vs=[v,.int n]/\DT H 1 v/\n<=900/\∀ H',aj H H'->Q (.bl (aF H n v)) H'
end Sm
namespace Sm
open PySem L2 aZ
structure Yt where
 h:Nat
 t:Nat
 m:Int
def hd (ts:List Yt)(a:Nat):Nat:=match ts[a / 2]? with
 | some x=>if a % 2=0 then x.t else x.h
 | none=>0
def MD (sp:List Int)(a:Nat):Int:=sp[a]?.getD 0
def lU (L:L4)(M:M4):Prop:=L.a < M.t/\L.s≠L.w/\(M.lo=(L.s:Int)\/M.hi=(L.s:Int))/\(M.lo=(L.w:Int)\/M.hi=(L.w:Int))
instance (L:L4) (M:M4):Decidable (lU L M):=by unfold lU;infer_instance
section
variable {af:List Int}{ms:List M4}{ls:List (Addr×L4)}{d:U3}{m j:Nat}{s:RS}{M:M4}{L:Addr×L4}{o:Option (Nat×Int)}
end
end Sm
namespace L2
open PySem PySem.Spec PyProof.Rows
theorem Vals.picks {xs:List V}{ak:List Value}(r:Vals xs ak):∀ ks:List Nat,∃ ys:List V,Vals ys (ks.filterMap (λj=>ak.toArray[j]?))/\ys.length<=ks.length/\∀ y∈ys,y∈xs
 | []=>⟨[],.nil,zE _,λ_ h=>nomatch h⟩
 | k::ks=>by
  obtain ⟨ys,h1,h2,h3⟩:=Vals.picks r ks;by_cases e:k < xs.length
  ·obtain ⟨u,hu,ru⟩:=r.get (zD e);have e2:ak.toArray[k]?=some u:=by simpa using hu
   refine ⟨xs[k]::ys,?_,by simp only [zl];omega,λy hy=>?_⟩
   ·rw [ye,e2];exact .cons ru h1
   ·rcases zO.mp hy with rfl | h
    ·exact zp e
    ·exact h3 y h
  ·have e2:ak.toArray[k]?=none:=by
    have:=r.length;simp;omega
   exact ⟨ys,by rw [ye,e2];exact h1,by simp only [zl];omega,h3⟩
section
variable {X:Cx}{e lo:Expr}{te:TE}{tl:TO} {pos p2 p4:Pos}{j:Nat}{c:Int}
def MP (K:PySem.W.Frag)(te:TE)(tl:TO):TE:=fun σ H Q=>te σ H λx H1=>tl σ H1 λl H2=>∃ a xs,x=.ref a/\av K H2 a xs/\∀ p ys,H2 p=none->ys.length<=xs.length->(∀ y∈ys,y∈xs)->Q (.ref p) (upd H2 p (.lst ys))
theorem Jh {K:PySem.W.Frag}(hK:X.K=K)(hc:c≠0)(he:PE X e te)(hl:PO X (some lo) tl):PE X (.Subscript e (.Slice (some lo) none (some (.Constant (.int c) j p4)) p2) pos) (MP K te tl):=by
 subst hK;intro aa s σ H Q I h;refine Subscript_ (aM (he aa s σ H _ I h) λv s1 ⟨x,H1,I1,r1,q1⟩=>?_);refine wpAny_Slice (aM (hl aa s1 σ H1 _ I1 q1) λvl s2 ⟨l,H2,I2,pl,q2⟩=>?_);have st:PO X (some (.Constant (.int c) j p4)) (sr (tC (.int c))):=wO yu;rw [evalPart_none];refine wpAny_pure ?_;refine aM (st aa s2 σ H2 (λo H'=>o=some c/\H'=H2) I2 ⟨c,rfl,rfl,rfl⟩) λvs s3 h3=>?_;obtain ⟨o,H',I3,ps,rfl,rfl⟩:=h3;have I4:Inv X aa σ H' { s3 with heap:=s3.heap.push { cls:=.type "slice", data:=.fields #[vl,.none,vs] } }:=I3.kept (t':=s3.toks) λb ob q=>Heap.get?_push_of_some _ q;obtain ⟨a,xs,rfl,hx,q⟩:=q2;cases r1;obtain ⟨ak,r,ht,hz⟩:=I4.list hx;have hlen:=r.length;show wpAny (model X.prog X.w) X.A (subscriptTail e (.Slice (some lo) none (some (.Constant (.int c) j p4)) p2) (.ref a) (.ref s3.heap.objs.size)) (EP X aa σ Q) X.xe { s3 with heap:=s3.heap.push { cls:=.type "slice", data:=.fields #[vl,.none,vs] } };refine tail_any (ops:=[.ref a,.ref s3.heap.objs.size]) ht.isList.typeIs slot_list_getitem.lookup ?_ (by with_unfolding_all rfl);refine wpAny_getItem_list_slice ht.isList (Heap.IsSliceOf.new ..) pl .none ps (by simpa using hc) ?_ (by rw [zL] <;> omega);obtain ⟨ys,h1,h2,h3⟩:=Vals.picks r (sliceRange (sliceBounds l none (some c) ak.toArray.size).1 (sliceBounds l none (some c) ak.toArray.size).2.1 (sliceBounds l none (some c) ak.toArray.size).2.2);have le:(sliceRange (sliceBounds l none (some c) ak.toArray.size).1 (sliceBounds l none (some c) ak.toArray.size).2.1 (sliceBounds l none (some c) ak.toArray.size).2.2).length<=ak.toArray.size:=by
  refine sliceRange_length_le _ _ _ _ (λh=>?_) (λh=>?_)
  ·have h':c > 0:=h;cases l with
   | none=>simp only [sliceBounds,yg,if_pos h'];omega
   | some i=>simp only [sliceBounds,yg,if_pos h'];omega
  ·have h':¬ c > 0:=h;cases l with
   | none=>simp only [sliceBounds,yg,if_neg h'];omega
   | some i=>simp only [sliceBounds,yg,if_neg h'];omega
 have le:=yH h2 le;rw [zL] at le;refine ⟨.ref _,_,I4.laid (t':=s3.toks) (o:=.lst ys) (λb ob q=>Heap.get?_push_of_some _ q) (zE _) ?_,rfl,q _ ys (I4.aU.fresh (zE _)) (by omega) h3⟩;exact ⟨by omega,_,0,h1,Heap.get?_push_size _ rfl⟩
end
theorem oB:typeLookup (.type "list_reverseiterator") "__len__" = pure none:=by rw [typeLookup_type,builtinLookup_eq_fast];kernel_rfl
theorem uq:typeLookup (.type "list_reverseiterator") "__length_hint__" = pure (some (.builtin "list_reverseiterator.__length_hint__")):=by rw [typeLookup_type,builtinLookup_eq_fast];kernel_rfl
section
variable {prog:Program}{w:World}{A:Around}{E:Value->Shared->Prop}{s:Shared}
theorem uU {it l:Addr}{i:Int}{Q:Bool->Shared->Prop}(hit:s.heap.IsRevIter it l i)(h:Q false s):wpAny (model prog w) A (Builtin.List.listLengthHint (.ref it)) Q E s:=by
 unfold Builtin.List.listLengthHint;refine wpAny_bind (wpAny_specialOf hit.typeIs oB ?_);show wpAny _ A (specialOf (Value.ref it) (Str.ofString "__length_hint__") >>= _) _ _ _;refine wpAny_bind (wpAny_specialOf hit.typeIs uq ?_);generalize Jy:("list_reverseiterator.__length_hint__" : String)=Wt
 wp_delta
 rw [show splitId Wt=some ("list_reverseiterator", "__length_hint__") from by subst Jy;decide +kernel];subst Jy;refine wpAny_bind (wpAny_isInstance (T := "list_reverseiterator") (b:=true) hit.typeIs (by rw [isSubtype_type];kernel_rfl) ?_);refine wpAny_ite_split (λLL=>absurd LL (by decide)) (λ_=>?_);refine wpAny_ite_split (λ_=>?_) (λLL=>absurd (by decide +kernel) LL);refine wpAny_ite_split (λLL=>absurd LL (by decide)) (λ_=>?_);exact wpAny_pure h
theorem uF {R:Result->Shared->Prop}{it l S:Addr}{items:Array Value}(hh:A.handled=none)(hit:s.heap.IsRevIter it l ((items.size:Int) - 1 - ((0:Nat):Int)))(hl:s.heap.IsList l items)(pS:l≠it)(hn:items.size<=2 ^ 24)(n1:S≠it)(n2:S≠l)
  (hS:s.heap.get? S=some { cls:=.type "list", data:=.seq #[] })
  (hR:∀ h' tk dU c',(∀ b o,b≠S->b≠it->s.heap.get? b=some o->h'.get? b=some o)->h'.get? S=some { cls:=.type "list", dict:=none,data:=.seq dU c',slots:=#[] } ->
   ItemsOf (λi v=>items[items.size - 1 - i]?=some v) dU items.size->R (.ok (.ret .none)) { s with heap:=h',toks:=tk }) :
  wpAny (model prog w) A.in1 (Builtin.«list.__init__» ⟨[.ref S,.ref it],[]⟩)
   (λfin s'=>match fin with | .done f=>R (.ok f) s' | .again c'=>c'.quiet=true/\codeAny (model prog w) A c' R s') (λe s'=>R (.error e) s') s:=by
 have W:=(Walks.listRev (prog:=prog) (w:=w) (A:=A.in1) hh it l pS items).toS;have O7:S ∉ [it,l]:=λhm=>by
  simp only [zO,zh,or_false] at hm;exact hm.elim n1 n2
 show wpAny _ A.in1 (do let old <- Builtin.List.listItems (.ref S);Builtin.List.listUpdate (.ref S) (λ_=>#[]);letGo old.toList.reverse;Builtin.List.listExtendWith (.ref S) (.ref it) .none) _ _ s;refine wpAny_bind ?_;unfold Builtin.List.listItems;refine wpAny_bind (wpAny_seqItems hS rfl (wpAny_pure ?_));show wpAny _ A.in1 (updateSeq S (λ_=>#[]) >>= λ_=>letGo (#[]:Array Value).toList.reverse >>= λ_=>Builtin.List.listExtendWith (.ref S) (.ref it) .none) _ _ s;refine wpAny_bind (wpAny_updateSeq hS rfl ?_);have UD:=Heap.get?_update_self (Obj.mapSeq (λ_=>(#[]:Array Value))) hS rfl;have OU:∀ b o,b≠S->s.heap.get? b=some o->(s.heap.update S (Obj.mapSeq (λ_=>(#[]:Array Value)))).get? b=some o:=λb o hb e=>(Heap.get?_update_other _ _ (Ne.symm hb)).trans e;generalize s.heap.update S (Obj.mapSeq (λ_=>(#[]:Array Value)))=h1 at UD OU ⊢;refine wpAny_bind (wpAny_letGo ?_);have Jx:h1.IsRevIter it l ((items.size:Int) - 1 - ((0:Nat):Int)):=hit.at λo e=>OU _ o n1.symm e;have RC:h1.IsList l items:=hl.at λo e=>OU _ o n2.symm e;have Rn:Shared.TypeIs { s with heap:=h1 } (.ref it) "list_reverseiterator" := Heap.IsRevIter.typeIs (s:={ s with heap:=h1 }) Jx;unfold Builtin.List.listExtendWith;refine wpAny_bind (wpAny_typeOf Rn ?_);have e1:Builtin.List.listSameRef (.ref S) (.ref it)=false:=by simp [Builtin.List.listSameRef,n1]
 have e2:(Value.type "list_reverseiterator" == Value.type "list")=false:=by decide
 have e3:(Value.type "list_reverseiterator" == Value.type "tuple")=false:=by decide
 simp only [e1,e2,e3,Bool.or_false,zf,if_false];refine wpAny_bind (wpAny_pyIter_revIter (s:={ s with heap:=h1 }) Jx ?_);refine wpAny_bind (wpAny_holding (uU (s:={ s with heap:=h1 }) Jx ?_));refine wpAny_ite_split (λLL=>absurd LL (by decide)) (λ_=>?_);refine wpAny_pure ⟨plainId_quiet F.plain_extend_loop _,?_⟩;refine codeAny_extend_loopS W (by rw [sizeLine_eq];omega) S O7 .none items.size 0 _ #[] _ rfl (zV _) ⟨zV _,Jx,RC⟩ UD (ItemsOf.nil _) λs' dU c' hm RZ kM=>?_;rw [Moved.eq_with hm];refine hR s'.heap s'.toks dU c' (λb o b1 b2 e=>hm.heap b o (λNO=>?_) (OU b o b1 e)) RZ kM;simp only [zO,zh,or_false] at NO;exact NO.elim b1 b2
theorem jD {it l:Addr}{items:Array Value}{Q:Value->Shared->Prop}(hh:A.handled=none)(hit:s.heap.IsRevIter it l ((items.size:Int) - 1 - ((0:Nat):Int)))(hl:s.heap.IsList l items)(pS:l≠it)(hn:items.size<=2 ^ 24)
  (hQ:∀ h' tk dU c',(∀ b o,b≠it->s.heap.get? b=some o->h'.get? b=some o)->h'.get? s.heap.objs.size=some { cls:=.type "list", dict:=none,data:=.seq dU c',slots:=#[] } ->
   ItemsOf (λi v=>items[items.size - 1 - i]?=some v) dU items.size->Q (.ref s.heap.objs.size) { s with heap:=h',toks:=tk }) :
  wpAny (model prog w) A (call (.type "list") [.ref it]) Q E s:=by
 refine callType_codes (Q₁:=λobj aI=>obj=.ref s.heap.objs.size/\aI={ s with heap:=s.heap.push { cls:=.type "list", data:=.seq #[] } }) F.called_list (F.typeCall_list_1 _) F.entry_list_init
  (code_list_new _ ⟨rfl,rfl⟩) λobj aI bD=>?_
 obtain ⟨rfl,rfl⟩:=bD;have hS:(s.heap.push { cls:=.type "list", data:=.seq #[] }).get? s.heap.objs.size=some { cls:=.type "list", data:=.seq #[] }:=Heap.get?_push_size _ rfl;have ps:∀ b o,s.heap.get? b=some o->(s.heap.push { cls:=.type "list", data:=.seq #[] }).get? b=some o:=λb o e=>Heap.get?_push_of_some _ e;have i1:it < s.heap.objs.size:=by obtain ⟨o,e,_⟩:=id hit;exact Heap.lt_size e
 have i2:l < s.heap.objs.size:=by obtain ⟨o,e,_⟩:=id hl;exact Heap.lt_size e
 refine ⟨⟨_,hS,rfl⟩,F.args_list_init_2 _ _,uF (A:=A.in1) (it:=it) (l:=l) (items:=items) hh (hit.at λo e=>ps _ o e) (hl.at λo e=>ps _ o e) pS hn (yJ i1) (yJ i2) hS λh' tk dU c' kp a1 a2=>?_⟩;exact ⟨rfl,hQ h' tk dU c' (λb o hb e=>kp b o (zT (Heap.lt_size e)) hb (ps b o e)) a1 a2⟩
end
section
variable {X:Cx}
theorem mC {a:Expr}{ta:TA}{p p2 pos dI:Pos}{K:PySem.W.Frag}(hK:X.K=K)(hc:X.calm=true)(hg:Gl X "list")(hm:X.mg "list" = none)(NX:Gl X "reversed")(Ry:X.mg "reversed" = none)(ha:PA X [a] ta)
  (hs:starEach [a] X.env=[(false,eval a X.env)]:=by rfl) (NN:starEach [Expr.Call (.Name "reversed" p2) [a] [] dI] X.env=[(false,eval (Expr.Call (.Name "reversed" p2) [a] [] dI) X.env)]:=by rfl) :
  PE X (.Call (.Name "list" p) [.Call (.Name "reversed" p2) [a] [] dI] [] pos) (fun σ H Q=>ta σ H λvs H1=>∃ a xs,vs=[.ref a]/\av K H1 a xs/\∀ l,H1 l=none->Q (.ref l) (upd H1 l (.lst xs.reverse))):=by
 subst hK;intro aa s σ H Q I h;refine wpAny_Call_Name_kw (bJ I hg hm boot_list ?_ (by decide) (by decide));refine zb ?_ NN rfl;rw [NN];show wpAny _ _ (spliced ((false,eval (Expr.Call (.Name "reversed" p2) [a] [] dI) X.env)::backTo pos (starEach [] X.env))) _ _ s;refine Calls.spliced_cons ?_;refine Call_ (bJ I NX Ry boot_reversed (zb (aM (ha dI aa s σ H _ I h) λus s1 ⟨vs,H1,I1,r1,q1⟩=>?_) hs rfl));obtain ⟨l,xs,rfl,hq,q⟩:=q1;obtain ⟨u,rfl,ru⟩:=Vals.one r1;cases ru;obtain ⟨ak,rv,p,hz⟩:=I1.list hq;have l2:=rv.length;refine call_reversed_list p.isList ?_;refine Calls.spliced_nil ?_;have i2:l < s1.heap.objs.size:=by obtain ⟨o,e,_⟩:=id p.isList;exact Heap.lt_size e
 have hit:Heap.IsRevIter (s1.heap.push (revObj l ((ak.toArray.size:Int) - 1))) s1.heap.objs.size l ((ak.toArray.size:Int) - 1 - ((0:Nat):Int)):=⟨_,Heap.get?_push_size _ rfl,rfl,by
  show Data.fields #[.ref l,rawInt ((ak.toArray.size:Int) - 1)]=_;simp⟩
 have ge:s1.heap.objs.size<=(s1.heap.push (revObj l ((ak.toArray.size:Int) - 1))).objs.size:=by rw [Heap.size_push];exact yT _
 refine jD (items:=ak.toArray) (I1.ok.hd hc) hit (p.isList.at λo e=>Heap.get?_push_of_some _ e) (zT i2) (by rw [zL,<- l2];have:=sizeLine_eq;omega) λh' tk dU c' keep uS items=>?_;have e:dU.toList=ak.reverse:=by
  refine List.ext_getElem? λj=>?_;by_cases hj:j < ak.length
  ·have NV:j < dU.size:=by rw [items.1];simpa using hj
   have hv:=items.2 j dU[j] (Array.getElem?_eq_getElem NV);rw [List.getElem?_reverse hj,Array.getElem?_toList,Array.getElem?_eq_getElem NV];rw [zL,List.getElem?_toArray] at hv;exact hv.symm
  ·rw [List.getElem?_eq_none (by rw [Array.length_toList,items.1];simp;omega),List.getElem?_eq_none (by rw [List.length_reverse];omega)]
 exact ⟨.ref _,_,I1.laid (t':=tk) (λb o' h=>keep b o' (zT (Heap.lt_size h)) (Heap.get?_push_of_some _ h)) ge (show aT X.prog X.w _ h' _ (.lst xs.reverse) from ⟨by rw [List.length_reverse];exact hz,dU.toList,c',e ▸ rv.reverse,uS⟩),rfl,q _ (I1.aU.fresh ge)⟩
end
theorem ve {K:PySem.W.Frag}{a b:Addr}{xs ys:List V}{g:TG}{tb:TS}{D:Ends}{σ:St}{H:Hp}(el:ys.length<=xs.length)(Pv:Nat->St->Hp->Prop)(h0:Pv 0 σ H)(hl:∀ i σ H,i<=ys.length->Pv i σ H->av K H a xs/\av K H b ys)
  (hs:∀ i x y q σ H,xs[i]?=some x->ys[i]?=some y->H q=none->Pv i σ H->g (.ref q) σ (upd H q (.tup [x,y])) fun fj H2=>tb (D.lp (Pv (i + 1))) fj H2) (hd:∀ σ H,Pv ys.length σ H->D.nx σ H) :
  ∃ W:Nat->Nat->St->Hp->Prop,(∃ m,W 0 m σ H)/\∀ i m σ H,W i m σ H ->
   ((rV K a b).stop i H/\D.nx σ H)\/((rV K a b).go i H/\∃ N:St->Hp->Prop,(∀ br H',N br H'->∃ m',m' < m/\W (i + 1) m' br H')/\∀ x H',(rV K a b).jq i H x H'->g x σ H' fun fj H2=>tb (D.lp N) fj H2):=by
 refine ⟨λi m σ H=>m=ys.length - i/\i<=ys.length/\Pv i σ H,⟨ys.length,by simp,zV _,h0⟩,?_⟩;rintro i m σ H ⟨rfl,hi,p⟩;obtain ⟨q1,q2⟩:=hl i σ H hi p;by_cases cM:i < ys.length
 ·refine .inr ⟨⟨xs,ys,xs[i]'(by omega),ys[i],q1,q2,by simp [show i < xs.length by omega],by simp [cM]⟩,Pv (i + 1),fun br H' p'=>⟨ys.length - (i + 1),by omega,rfl,cM,p'⟩,λx H' y=>?_⟩;obtain ⟨q',x',y',hq,e1,e2,y⟩:=y;subst e1;subst e2;exact hs i x' y' q' σ _ (y xs ys q1 q2).1 (y xs ys q1 q2).2 hq p
 ·have e:i=ys.length:=by omega
  subst e;exact .inl ⟨⟨xs,ys,q1,q2,.inr (zE _)⟩,hd σ H p⟩
end L2
namespace Sm
open PySem L2
abbrev dD:=Addr×List Int
abbrev aQ:=Addr×List dD
structure aN (H:Hp) (l:Addr) (nm w sz:Nat) (P:List aQ):Prop where
 top:H l=some (.lst (P.map λa=>V.ref a.1))
 str:∀ a∈P,H a.1=some (.lst (a.2.map λb=>V.ref b.1))
 row:∀ a∈P,∀ b∈a.2,H b.1=some (.lst (b.2.map V.int))
 len:P.length=nm + 1
 dG:∀ a∈P,a.2.length=w
 gJ:∀ a∈P,∀ b∈a.2,b.2.length=sz
 pos:∀ a∈P,∀ b∈a.2,∀ x∈b.2,(0:Int)<=x
theorem aN.same {H H':Hp}{l:Addr}{nm w sz:Nat}{P:List aQ}(h:aN H l nm w sz P)(s:aj H H'):aN H' l nm w sz P:=
 ⟨s _ _ h.top,λa ha=>s _ _ (h.str a ha),λa ha b hb=>s _ _ (h.row a ha b hb),h.len,h.dG,h.gJ,h.pos⟩
abbrev f6:=List (List (List Int))
def aq (P:List aQ):f6:=P.map λa=>a.2.map (·.2)
def cu (V:f6)(i j s:Nat):Int:=((V.getD i []).getD j []).getD s 0
theorem xc {P:List aQ}{i j s:Nat}{a:aQ}{b:dD}(h1:P[i]?=some a)(h2:a.2[j]?=some b):cu (aq P) i j s=b.2.getD s 0:=by unfold cu aq;simp only [yM,zF,h1,Option.map_some,yg,h2]
theorem kP {xs:List Int}{s:Nat}{x:Int}(h:xs[s]?=some x):xs.getD s 0=x:=by rw [yM,h];rfl
def cT (V:f6):Prop:=∀ st∈V,∀ r∈st,r.getD 0 0=0
def vL (ms:List M4)(V:f6)(sz k v:Nat)(z:Int):Prop:=∀ i,i<=cnt ms z->∀ s,s < sz->s.testBit k=true->cu V i v s<=cu V i v (s - 2 ^ k)
def vK (ms:List M4)(V:f6)(sz:Nat)(ws:List (Addr×Nat×Int)):Prop:=∀ k x,ws[k]?=some x->vL ms V sz k x.2.1 x.2.2
def o8 (V:f6)(i w sz:Nat):Prop:=∀ j < w,∀ s < sz,cu V i j s<=cu V (i + 1) j s
def lE (V:f6)(nm w sz:Nat):Prop:=∀ i < nm,o8 V i w sz
def dX (V:f6)(i g o s:Nat):Prop:=∀ p,p<=s->p &&& s=p->cu V i g s<=1 + cu V (i + 1) g p + cu V (i + 1) o (s - p)
def bB (V:f6)(i g o sz:Nat):Prop:=∀ s < sz,dX V i g o s
def dh (ms:List M4)(V:f6)(sz:Nat):Prop:=∀ x∈cP ms ms.length,bB V x.n x.w.g x.w.o sz
def eX (ms:List M4)(V:f6)(w sz:Nat)(ws:List (Addr×Nat×Int)):Prop:=cT V/\vK ms V sz ws/\lE V ms.length w sz/\dh ms V sz
theorem dR (ms:List M4)(z:Int):cnt ms z<=ms.length:=List.length_filter_le _ _
def aE (H:Hp)(w sz:Nat)(v:V):Bool:=match bE H v with
 | some xs=>decide (xs.length=w) && xs.all (aF H sz)
 | none=>false
def aS (H:Hp)(nm w sz:Nat)(v:V):Bool:=match bE H v with
 | some xs=>decide (xs.length=nm + 1) && xs.all (aE H w sz)
 | none=>false
theorem bM {H H':Hp}{n:Nat}{v:V}(s:aj H H')(d:DT H 1 v):aF H' n v=aF H n v:=by unfold aF;rw [d.iY s]
theorem eV {f g:V->Bool}:∀ {xs:List V},(∀ x∈xs,f x=g x)->xs.all f=xs.all g
 | [],_=>rfl
 | x::xs,h=>by rw [List.all_cons,List.all_cons,h x (.head _),eV λy hy=>h y (.tail _ hy)]
theorem DT.UW {H:Hp}{n:Nat}{v:V}{xs:List V}(d:DT H (n + 1) v)(h:bE H v=some xs):∀ x∈xs,DT H n x:=by
 rcases d.way with ⟨p,ys,rfl,k,e,_,q⟩ | ⟨p,ys,rfl,k,e,_⟩ | ⟨t,k,_,_,e,_⟩
 ·rw [e] at h;cases h;exact q
 ·rw [e] at h;cases h
 ·rw [e] at h;cases h
theorem fB {H H':Hp}{w sz:Nat}{v:V}(s:aj H H')(d:DT H 2 v):aE H' w sz v=aE H w sz v:=by
 unfold aE;rw [d.iY s];cases e:bE H v with
 | none=>rfl
 | some xs=>simp only;rw [eV λx hx=>bM (n:=sz) s (d.UW e x hx)]
theorem oq {H H':Hp}{nm w sz:Nat}{v:V}(s:aj H H')(d:DT H 3 v):aS H' nm w sz v=aS H nm w sz v:=by
 unfold aS;rw [d.iY s];cases e:bE H v with
 | none=>rfl
 | some xs=>simp only;rw [eV λx hx=>fB (w:=w) (sz:=sz) s (d.UW e x hx)]
section
variable {H:Hp}{l:Addr}{nm w sz:Nat}{P:List aQ}
theorem aN.JU (h:aN H l nm w sz P){a:aQ}(ha:a∈P){b:dD}(hb:b∈a.2)(n:Nat):DT H (n + 1) (.ref b.1):=
 DT.lst (h.row a ha b hb) λx hx=>by obtain ⟨y,_,rfl⟩:=zP.mp hx;exact DT.int n y
theorem aN.sF (h:aN H l nm w sz P){a:aQ}(ha:a∈P)(n:Nat):DT H (n + 2) (.ref a.1):=
 DT.lst (h.str a ha) λx hx=>by obtain ⟨y,hy,rfl⟩:=zP.mp hx;exact h.JU ha hy n
theorem aN.dt (h:aN H l nm w sz P)(n:Nat):DT H (n + 3) (.ref l):=
 DT.lst h.top λx hx=>by obtain ⟨y,hy,rfl⟩:=zP.mp hx;exact h.sF hy n
theorem aN.QH (h:aN H l nm w sz P){a:aQ}(ha:a∈P){b:dD}(hb:b∈a.2):aF H sz (.ref b.1)=true:=by
 have e:(b.2.map V.int).all kX=true:=by
  rw [yo,yV];intro x hx;exact decide_eq_true (h.pos a ha b hb x hx)
 simp only [aF,qA (h.row a ha b hb),zA];rw [decide_eq_true (h.gJ a ha b hb),e];rfl
theorem aN.QD (h:aN H l nm w sz P){a:aQ}(ha:a∈P):aE H w sz (.ref a.1)=true:=by
 have e:(a.2.map λb=>V.ref b.1).all (aF H sz)=true:=by
  rw [yo,yV];intro x hx;exact h.QH ha hx
 simp only [aE,qA (h.str a ha),zA];rw [decide_eq_true (h.dG a ha),e];rfl
theorem aN.aS (h:aN H l nm w sz P):aS H nm w sz (.ref l)=true:=by
 have e:(P.map λb=>V.ref b.1).all (aE H w sz)=true:=by
  rw [yo,yV];intro x hx;exact h.QD hx
 simp only [Sm.aS,qA h.top,zA];rw [decide_eq_true h.len,e];rfl
end
theorem fX (a b:Nat):Builtin.bitAnd (a:Int) (b:Int)=((a &&& b:Nat):Int):=by unfold Builtin.bitAnd;rw [decide_eq_true (by omega:(0:Int)<=(a:Int))];rfl
theorem LY (a b:Nat):Builtin.bitOr (a:Int) (b:Int)=((a ||| b:Nat):Int):=by unfold Builtin.bitOr Builtin.bitAnd Builtin.bitNot;rw [decide_eq_false (by omega:¬ (0:Int)<=-(a:Int) - 1),decide_eq_false (by omega:¬ (0:Int)<=-(b:Int) - 1)];show -(-((((-(-(a:Int) - 1) - 1).toNat ||| (-(-(b:Int) - 1) - 1).toNat:Nat):Int)) - 1) - 1=_;rw [show (-(-(a:Int) - 1) - 1).toNat=a by omega,show (-(-(b:Int) - 1) - 1).toNat=b by omega];omega
theorem cX (k:Nat):(1:Int) * 2 ^ (k:Int).toNat=((2 ^ k:Nat):Int):=by rw [Int.one_mul,zc];push_cast;rfl
theorem IW (s k:Nat):Builtin.bitAnd ((s:Int) / 2 ^ (k:Int).toNat) 1=if s.testBit k then 1 else 0:=by
 rw [zc];have e:(s:Int) / 2 ^ k=((s / 2 ^ k:Nat):Int):=by push_cast;rfl
 rw [e,show (1:Int)=((1:Nat):Int) from rfl,fX,Nat.and_one_is_mod,Nat.testBit_eq_decide_div_mod_eq];have:=Nat.mod_two_eq_zero_or_one (s / 2 ^ k);rcases this with h | h <;> rw [h] <;> rfl
def cL (s k:Nat):Nat:=if s.testBit k then s - 2 ^ k else s
theorem JH (s k:Nat):s &&& 2 ^ k=if s.testBit k then 2 ^ k else 0:=by
 refine Nat.eq_of_testBit_eq λi=>?_;rw [Nat.testBit_and,Nat.testBit_two_pow];by_cases e:k=i
 ·subst e;cases h:s.testBit k with
  | true=>rw [if_pos rfl,Nat.testBit_two_pow];simp
  | false=>rw [if_neg (by decide)];simp
 ·rw [decide_eq_false e,yY];split
  ·rw [Nat.testBit_two_pow,decide_eq_false e]
  ·simp
theorem Jq (s k:Nat):(s:Int) - Builtin.bitAnd (s:Int) (((2 ^ k:Nat):Int))=((cL s k:Nat):Int):=by
 rw [fX,JH];unfold cL;cases h:s.testBit k with
 | true=>
  have:=Nat.ge_two_pow_of_testBit h;rw [if_pos rfl,if_pos rfl];omega
 | false=>rw [if_neg (by decide),if_neg (by decide)];simp
def eL (s:Nat):List (Nat×Nat):=((List.range (s + 1)).filter λp=>p &&& s == p).map λp=>(p,s - p)
theorem gh {s p q:Nat}:(p,q)∈eL s↔(p<=s/\p &&& s=p)/\q=s - p:=by
 unfold eL;rw [zP];constructor
 ·rintro ⟨x,hx,e⟩;rw [List.mem_filter,zi,beq_iff_eq] at hx;cases e;exact ⟨⟨by omega,hx.2⟩,rfl⟩
 ·rintro ⟨⟨h1,h2⟩,rfl⟩;exact ⟨p,by rw [List.mem_filter,zi,beq_iff_eq];exact ⟨by omega,h2⟩,rfl⟩
def IS:Sp:=λvs H Q _=>∃ l ws n,vs=[.ref l]/\dz H l n ws/\ws.length<=60/\Q (.int (((2 ^ ws.length:Nat):Int) - 1)) H
def sU:Sp:=λvs H Q _=>∃ s k:Nat,vs=[.int (s:Int),.int (k:Int)]/\k<=60/\Q (.int ((cL s k:Nat):Int)) H
def sR:Sp:=λvs H Q _=>∃ s:Nat,vs=[.int (s:Int)]/\s<=900/\∀ l (rs:List (Addr×Nat×Nat)) H',aj H H'->H' l=some (.lst (rs.map λr=>V.ref r.1))->(∀ r∈rs,H' r.1=some (.tup [.int (r.2.1:Int),.int (r.2.2:Int)]))->rs.map (·.2)=eL s->Q (.ref l) H'
def sW:Sp:=λvs H Q _=>∃ b l v af tr tm ps ws,vs=[.ref b,.ref l,v]/\bf H b af tr tm ps/\af.length<=12/\ps.length<=60/\dz H l af.length ws/\ws.length<=4/\DT H 3 v/\∀ H',aj H H'->Q (.bl (aS H ps.length af.length (2 ^ ws.length) v)) H'
def lV:Sp:=λvs H Q _=>∃ b l v af tr tm ps ws,vs=[.ref b,.ref l,v]/\bf H b af tr tm ps/\af.length<=12/\dz H l af.length ws/\ws.length<=4/\DT H 2 v/\∀ H',aj H H'->Q (.bl (aE H af.length (2 ^ ws.length) v)) H'
def qq:Sp:=λvs H Q _=>∃ l nm w sz P,vs=[.ref l]/\aN H l nm w sz P/\nm<=60/\w<=12/\1<=sz/\sz<=16/\∀ b H',aj H H'->(b=true↔cT (aq P))->Q (.bl b) H'
structure cG (H:Hp) (b l lp:Addr) (af:List Int) (tr tm:Addr) (ps:List (Addr×M4)) (ws:List (Addr×Nat×Int)) (P:List aQ):Prop where
 bk:bf H b af tr tm ps
 gd:Good af.length (ps.map (·.2))
 r1:1<=af.length
 gK:af.length<=12
 wa:dz H l af.length ws
 w1:1<=ws.length
 w4:ws.length<=4
 pr:aN H lp ps.length af.length (2 ^ ws.length) P
theorem cG.same {H H':Hp}{b l lp:Addr}{af:List Int}{tr tm:Addr}{ps:List (Addr×M4)}{ws:List (Addr×Nat×Int)}{P:List aQ}(h:cG H b l lp af tr tm ps ws P)(s:aj H H'):cG H' b l lp af tr tm ps ws P:=
 ⟨h.bk.same s,h.gd,h.r1,h.gK,h.wa.same s,h.w1,h.w4,h.pr.same s⟩
theorem fH {n:Nat}(h:n<=4):2 ^ n<=16:=Nat.pow_le_pow_right (by decide) h
def fE:Sp:=λvs H Q _=>∃ b l lp af tr tm ps ws P,vs=[.ref b,.ref l,.ref lp]/\cG H b l lp af tr tm ps ws P/\∀ bb H',aj H H'->(bb=true↔vK (ps.map (·.2)) (aq P) (2 ^ ws.length) ws)->Q (.bl bb) H'
def n6:Sp:=λvs H Q _=>∃ l nm w sz P,vs=[.ref l]/\aN H l nm w sz P/\nm<=60/\w<=12/\sz<=16/\∀ b H',aj H H'->(b=true↔lE (aq P) nm w sz)->Q (.bl b) H'
def qx:Sp:=λvs H Q _=>∃ b l lp af tr tm ps ws P,vs=[.ref b,.ref lp]/\cG H b l lp af tr tm ps ws P/\∀ bb H',aj H H'->(bb=true↔dh (ps.map (·.2)) (aq P) (2 ^ ws.length))->Q (.bl bb) H'
def fF:Sp:=λvs H Q _=>∃ b k a l v af tr tm ps ws,vs=[.ref b,.int ((k:Nat):Int),.int a,.ref l,v]/\k < af.length/\bf H b af tr tm ps/\Good af.length (ps.map (·.2))/\1<=af.length/\af.length<=12/\dz H l af.length ws/\1<=ws.length/\ws.length<=4/\DT H 3 v /\
 ((aS H ps.length af.length (2 ^ ws.length) v=false/\∀ H',aj H H'->Q .bu H')\/∃ lp P,v=.ref lp/\aN H lp ps.length af.length (2 ^ ws.length) P /\
  (eX (ps.map (·.2)) (aq P) af.length (2 ^ ws.length) ws->∀ H',aj H H'->Q (.int (cu (aq P) (cnt (ps.map (·.2)) a) k (2 ^ ws.length - 1))) H') /\
  (¬ eX (ps.map (·.2)) (aq P) af.length (2 ^ ws.length) ws->∀ H',aj H H'->Q .bu H'))
def cV (P:List aQ):List Bool:=P.flatMap λa=>a.2.map λb=>decide (b.2.getD 0 0=0)
theorem nN {P:List aQ}{i:Nat}{r:aQ}(h:P[i]?=some r):cV (P.take (i + 1))=cV (P.take i)++r.2.map λb=>decide (b.2.getD 0 0=0):=by unfold cV;rw [xb h,List.flatMap_append];simp
theorem qg {P:List aQ}:(cV P).all id=true↔cT (aq P):=by
 unfold cV cT aq;simp only [yV,List.mem_flatMap,zP,id];constructor
 ·rintro h st ⟨a,ha,rfl⟩ r hr;obtain ⟨b,hb,rfl⟩:=zP.mp hr;exact of_decide_eq_true (h _ ⟨a,ha,b,hb,rfl⟩)
 ·rintro h x ⟨a,ha,b,hb,rfl⟩;exact decide_eq_true (h _ ⟨a,ha,rfl⟩ _ (zP.mpr ⟨b,hb,rfl⟩))
theorem wZ {xs:List Int}{n:Nat}(h:n < xs.length):ee (xs.map V.int) (n:Int)=some (V.int (xs.getD n 0)):=
 xW (by rw [zF,yM,zD h];rfl)
theorem kO {xs:List Int}{n:Nat}(h:n < xs.length):xs[n]?=some (xs.getD n 0):=by rw [yM,zD h];rfl
theorem o7 {α:Type}{f:α->Bool}{l:List α}:(l.map f).any id=false↔∀ x∈l,f x=false:=by rw [List.any_map,List.any_eq_false];exact ⟨λh x hx=>by have:=h x hx;simpa using this,λh x hx=>by simpa using h x hx⟩
def gtB (xs ys:List Int):List Bool:=(xs.zip ys).map λp=>decide (p.2 < p.1)
theorem pU {xs ys:List Int}{n:Nat}(ex:xs.length=n)(ey:ys.length=n):(gtB xs ys).any id=false↔∀ s < n,xs.getD s 0<=ys.getD s 0:=by
 unfold gtB;rw [o7];constructor
 ·intro h s hs;have:=h (xs.getD s 0,ys.getD s 0) (zB (nM (kO (by omega)) (kO (by omega))));have:=of_decide_eq_false this;omega
 ·rintro h ⟨x,y⟩ hx;obtain ⟨s,hs⟩:=List.mem_iff_getElem?.mp hx;rw [List.getElem?_zip_eq_some] at hs;have s1:s < n:=by have:=(zI.mp hs.1).1;omega
  have:=h s s1;rw [kP hs.1,kP hs.2] at this;exact decide_eq_false (by simp only;omega)
def tU (xs:List Int)(k n:Nat):List Bool:=(List.range n).map λs=>decide (xs.getD (cL s k) 0 < xs.getD s 0)
theorem tT {xs:List Int}{k n:Nat}:(tU xs k n).any id=false↔∀ s < n,s.testBit k=true->xs.getD s 0<=xs.getD (s - 2 ^ k) 0:=by
 unfold tU;rw [o7];constructor
 ·intro h s hs b;have:=of_decide_eq_false (h s (zi.mpr hs));unfold cL at this;rw [if_pos b] at this;omega
 ·intro h s hs;have:=h s (zi.mp hs);refine decide_eq_false ?_;unfold cL;split
  ·rename_i b;have:=this b;omega
  ·omega
theorem Jp (s k:Nat):cL s k<=s:=by unfold cL;split;exact Nat.sub_le _ _;exact zE _
def gn (x:Int)(ys zs:List Int)(s:Nat):List Bool:=(eL s).map λr=>decide (1 + ys.getD r.1 0 + zs.getD r.2 0 < x)
theorem mV {x:Int}{ys zs:List Int}{s:Nat}:(gn x ys zs s).any id=false↔∀ p,p<=s->p &&& s=p->x<=1 + ys.getD p 0 + zs.getD (s - p) 0:=by
 unfold gn;rw [o7];constructor
 ·intro h p h1 h2;have:=of_decide_eq_false (h (p,s - p) (gh.mpr ⟨⟨h1,h2⟩,rfl⟩));simp only at this;omega
 ·rintro h ⟨p,q⟩ hx;obtain ⟨⟨h1,h2⟩,rfl⟩:=gh.mp hx;have:=h p h1 h2;exact decide_eq_false (by simp only;omega)
theorem split_le {s:Nat}{r:Nat×Nat}(h:r∈eL s):r.1<=s/\r.2<=s:=by obtain ⟨p,q⟩:=r;obtain ⟨⟨h1,h2⟩,rfl⟩:=gh.mp h;exact ⟨h1,by simp only;omega⟩
theorem split_len (s:Nat):(eL s).length<=s + 1:=by unfold eL;rw [zA];exact yH (List.length_filter_le _ _) (by rw [zx];exact zE _)
theorem iH {α:Type}{l:List α}{n j:Nat}{a:α}(h:(l.take n)[j]?=some a):j < n/\l[j]?=some a:=by
 rw [List.getElem?_take] at h;split at h
 ·rename_i c;exact ⟨c,h⟩
 ·cases h
theorem sd {w:Nat}{ms:List M4}{x:W4}(gd:Good w ms)(h:x∈cP ms ms.length):x.n < ms.length/\x.w.g < w/\x.w.o < w/\∃ m,ms[x.n]?=some m:=by have k:=eF h;have z:=k.inside gd;obtain ⟨m,hm,_⟩:=k;exact ⟨(zI.mp hm).1,z.1,z.2.1,m,hm⟩
theorem dz.vc {p:Addr}{H H':Hp}{l:Addr}{n:Nat}{ws:List (Addr×Nat×Int)}(h:dz H l n ws)(pu:aL H p)(n1:l≠p)(g:Go p H H'):dz H' l n ws:=
 ⟨g.1 _ _ n1 h.1,λx hx=>⟨g.aJ pu _ _ (h.2 x hx).1,(h.2 x hx).2⟩⟩
def nX:Sp:=λvs H Q _=>∃ p b m af tr tm ps,vs=[.ref p,.ref b,.int m]/\1<=m/\m<=4/\aL H p/\bf H b af tr tm ps/\Good af.length (ps.map (·.2))/\1<=af.length/\af.length<=12 /\
 ∀ l ws H',Go p H H'->H l=none->l≠p->dz H' l af.length ws->1<=ws.length->(ws.length:Int)<=m->Q (.ref l) H'
def nZ:Sp:=λvs H Q _=>∃ b l lp af tr tm ps ws P,vs=[.ref b,.ref l,.ref lp]/\cG H b l lp af tr tm ps ws P/\∀ bb H',aj H H'->(bb=true↔cT (aq P))->Q (.bl bb) H'
def qw:Sp:=λvs H Q _=>∃ a b c,∃ xs ys zs:List Int,∃ sz,vs=[.ref a,.ref b,.ref c]/\H a=some (.lst (xs.map V.int))/\H b=some (.lst (ys.map V.int))/\H c=some (.lst (zs.map V.int))/\xs.length=sz/\ys.length=sz/\zs.length=sz/\sz<=16 /\
 ∀ bb H',aj H H'->(bb=true↔∀ s < sz,∀ p,p<=s->p &&& s=p->xs.getD s 0<=1 + ys.getD p 0 + zs.getD (s - p) 0)->Q (.bl bb) H'
def qu:Sp:=λvs H Q _=>∃ b l lp af tr tm ps ws P,vs=[.ref b,.ref lp]/\cG H b l lp af tr tm ps ws P /\
 ∀ bb H',aj H H'->(bb=true↔lE (aq P) ps.length af.length (2 ^ ws.length)/\dh (ps.map (·.2)) (aq P) (2 ^ ws.length))->Q (.bl bb) H'
def vS (ms:List M4)(V:f6)(i sz:Nat):Prop:=∀ m,ms[i]?=some m->bB V i m.lo.toNat m.hi.toNat sz/\bB V i m.hi.toNat m.lo.toNat sz
theorem oJ {ms:List M4}{V:f6}{sz:Nat}(h:∀ i < ms.length,vS ms V i sz):dh ms V sz:=λx hx=>by
 obtain ⟨m,hm,_,c⟩:=eF hx;have:=h x.n (zI.mp hm).1 m hm;rcases c with ⟨e1,e2⟩ | ⟨e1,e2⟩
 ·rw [<-e1,<- e2];exact this.1
 ·rw [<-e1,<- e2];exact this.2
theorem oK {ms:List M4}{V:f6}{sz i:Nat}{m:M4}(h:dh ms V sz)(hm:ms[i]?=some m):bB V i m.lo.toNat m.hi.toNat sz/\bB V i m.hi.toNat m.lo.toNat sz:=by have:=jF hm ms.length (zI.mp hm).1;exact ⟨h _ this.1,h _ this.2⟩
structure Ot (H:Hp) (l:Addr) (P:List aQ):Prop where
 top:H l=some (.lst (P.map λa=>V.ref a.1))
 str:∀ a∈P,H a.1=some (.lst (a.2.map λb=>V.ref b.1))
 row:∀ a∈P,∀ b∈a.2,H b.1=some (.lst (b.2.map V.int))
theorem Ot.same {H H':Hp}{l:Addr}{P:List aQ}(h:Ot H l P)(s:aj H H'):Ot H' l P:=
 ⟨s _ _ h.top,λa ha=>s _ _ (h.str a ha),λa ha b hb=>s _ _ (h.row a ha b hb)⟩
structure U4 (H:Hp) (l:Addr) (n w:Nat) (hs:List dD):Prop where
 top:H l=some (.lst (hs.map λa=>V.ref a.1))
 row:∀ a∈hs,H a.1=some (.lst (a.2.map V.int))/\a.2.length=w
 len:hs.length=n
def sV:Sp:=λvs H Q _=>∃ b x je k z af tr tm ps,vs=[.ref b,.ref x,.int je]/\bf H b af tr tm ps/\Good af.length (ps.map (·.2))/\1<=af.length/\af.length<=12/\H x=some (.tup [.int ((k:Nat):Int),.int z])/\k < af.length /\
 ∀ l hs H',aj H H'->U4 H' l (ps.length + 1) af.length hs->Q (.ref l) H'
def sS:Sp:=λvs H Q _=>∃ l,∃ MD k s:Nat,∃ Z n w,vs=[.ref l,.int (MD:Int),.int (k:Int),.int (s:Int)]/\Ot H l Z/\Z.length<=4/\(∀ a∈Z,a.2.length=n/\∀ b∈a.2,b.2.length=w)/\MD < n/\k < w /\
 ∀ x H',0<=x->aj H H'->Q (.int x) H'
def nY:Sp:=λvs H Q _=>∃ p b l af tr tm ps ws,vs=[.ref p,.ref b,.ref l]/\aL H p/\bf H b af tr tm ps/\Good af.length (ps.map (·.2))/\1<=af.length/\af.length<=12/\dz H l af.length ws/\1<=ws.length/\ws.length<=4/\l≠p /\
 ∀ lp P H',Go p H H'->aN H' lp ps.length af.length (2 ^ ws.length) P->Q (.ref lp) H'
def cJ (H:Hp)(nm w sz:Nat)(x:V):Prop:=DT H 3 x/\aS H nm w sz x=false
def Ks (H H' G:Hp):Prop:=∀ a u,H a=none->H' a=some u->G a=some u
def aP (p f:Addr)(H:Hp):Hp:=λa=>if a=p\/a=f then none else H a
def sP:Sp:=λvs H Q _=>∃ lp,∃ i j:Nat,∃ v nm w sz P,vs=[.ref lp,.int (i:Int),.int (j:Int),v]/\aN H lp nm w sz P/\nm<=60/\w<=12/\i < nm + 1/\j < w /\
 ∀ q H',aj H H'->(∀ G G',aj G G'->Ks H H' G'->aN G lp nm w sz P->DT G 1 v->aF G sz v=false->cJ G' nm w sz (.ref q))->Q (.ref q) H'
def lW:Sp:=λvs H Q _=>∃ p b l lp af tr tm ps ws P,vs=[.ref p,.ref b,.ref lp]/\aL H p/\cG H b l lp af tr tm ps ws P /\
 ∀ t xs H',Go p H H'->t≠p->H' t=some (.lst xs)->xs.length<=100->(∀ x∈xs,cJ (aP p p H') ps.length af.length (2 ^ ws.length) x)->Q (.ref t) H'
def kh:Sp:=λvs H Q _=>∃ b k a l lp af tr tm ps ws P,vs=[.ref b,.int ((k:Nat):Int),.int a,.ref l,.ref lp]/\k < af.length/\cG H b l lp af tr tm ps ws P /\
 (eX (ps.map (·.2)) (aq P) af.length (2 ^ ws.length) ws->∀ H',aj H H'->Q (.int (cu (aq P) (cnt (ps.map (·.2)) a) k (2 ^ ws.length - 1))) H') /\
 (¬ eX (ps.map (·.2)) (aq P) af.length (2 ^ ws.length) ws->∀ H',aj H H'->Q .bu H')
theorem pK (n:Nat):2 ^ n≠3:=by
 cases n with
 | zero=>decide
 | succ n=>rw [Nat.pow_succ];omega
theorem aN.ne {H:Hp}{p l:Addr}{nm w sz:Nat}{P:List aQ}(h:aN H l nm w sz P)(pu:aL H p)(s3:sz≠3):l≠p/\∀ a∈P,a.1≠p/\∀ b∈a.2,b.1≠p:=by
 refine ⟨pu.refs h.top λx hx=>?_,λa ha=>⟨pu.refs (h.str a ha) λx hx=>?_,λb hb e=>?_⟩⟩
 ·obtain ⟨y,_,rfl⟩:=zP.mp hx;exact ⟨_,rfl⟩
 ·obtain ⟨y,_,rfl⟩:=zP.mp hx;exact ⟨_,rfl⟩
 ·obtain ⟨x,y,z,e1⟩:=pu;have e2:=h.row a ha b hb;rw [e,e1] at e2;have:=congrArg List.length (HO.lst.inj (Option.some.inj e2));rw [zA,h.gJ a ha b hb] at this;exact s3 this.symm
theorem aN.go {H H':Hp}{p l:Addr}{nm w sz:Nat}{P:List aQ}(h:aN H l nm w sz P)(pu:aL H p)(s3:sz≠3)(g:Go p H H'):aN H' l nm w sz P:=by obtain ⟨n1,n2⟩:=h.ne pu s3;exact ⟨g.1 _ _ n1 h.top,λa ha=>g.1 _ _ (n2 a ha).1 (h.str a ha),λa ha b hb=>g.1 _ _ ((n2 a ha).2 b hb) (h.row a ha b hb),h.len,h.dG,h.gJ,h.pos⟩
theorem jn {f:V->Bool}{xs:List V}{v:V}(h:v∈xs)(e:f v=false):xs.all f=false:=by
 cases z:xs.all f with
 | false=>rfl
 | true=>rw [yV] at z;rw [z v h] at e;cases e
theorem gI {H:Hp}{w sz:Nat}{r:Addr}{ys:List V}{v:V}(k:H r=some (.lst ys))(m:v∈ys)(e:aF H sz v=false):aE H w sz (.ref r)=false:=by simp only [aE,qA k];rw [jn m e,yY]
theorem jL {H:Hp}{nm w sz:Nat}{q:Addr}{xs:List V}{v:V}(k:H q=some (.lst xs))(m:v∈xs)(e:aE H w sz v=false):aS H nm w sz (.ref q)=false:=by simp only [aS,qA k];rw [jn m e,yY]
theorem dN {xs ys:List V}{v:V}:v∈xs++[v]++ys:=ze _ (zC _ (.head _))
structure L5 (H:Hp) (n w:Nat) (Z:List aQ):Prop where
 str:∀ a∈Z,H a.1=some (.lst (a.2.map λb=>V.ref b.1))
 row:∀ a∈Z,∀ b∈a.2,H b.1=some (.lst (b.2.map V.int))/\b.2.length=w
 len:∀ a∈Z,a.2.length=n
theorem L5.same {H H':Hp}{n w:Nat}{Z:List aQ}(h:L5 H n w Z)(s:aj H H'):L5 H' n w Z:=
 ⟨λa ha=>s _ _ (h.str a ha),λa ha b hb=>⟨s _ _ (h.row a ha b hb).1,(h.row a ha b hb).2⟩,h.len⟩
theorem L5.snoc {H:Hp}{n w:Nat}{Z:List aQ}(h:L5 H n w Z){l:Addr}{hs:List dD}(r:U4 H l n w hs):L5 H n w (Z++[(l,hs)]):=by
 refine ⟨λa ha=>?_,λa ha=>?_,λa ha=>?_⟩ <;> rcases zS.mp ha with h1 | h1
 ·exact h.str a h1
 ·cases zG.mp h1;exact r.top
 ·exact h.row a h1
 ·cases zG.mp h1;exact r.row
 ·exact h.len a h1
 ·cases zG.mp h1;exact r.len
structure nJ (H0 H:Hp) (lf:Addr) (sz:Nat) (A:List dD):Prop where
 ne:∀ b∈A,b.1≠lf/\H0 b.1=none
 row:∀ b∈A,H b.1=some (.lst (b.2.map V.int))/\b.2.length=sz/\∀ x∈b.2,(0:Int)<=x
theorem nJ.nil {H0 H:Hp}{lf:Addr}{sz:Nat}:nJ H0 H lf sz []:=⟨(λ_ z=>nomatch z),(λ_ z=>nomatch z)⟩
theorem nJ.same {H0 H H':Hp}{lf:Addr}{sz:Nat}{A:List dD}(h:nJ H0 H lf sz A)(s:aj H H'):nJ H0 H' lf sz A:=
 ⟨h.ne,λb hb=>⟨s _ _ (h.row b hb).1,(h.row b hb).2⟩⟩
theorem nJ.put {H0 H:Hp}{lf l:Addr}{sz:Nat}{A:List dD}{o:HO}(h:nJ H0 H lf sz A)(n:∀ b∈A,b.1≠l):nJ H0 (upd H l o) lf sz A:=
 ⟨h.ne,λb hb=>⟨by rw [xC (n b hb)];exact (h.row b hb).1,(h.row b hb).2⟩⟩
theorem nJ.snoc {H0 H:Hp}{lf l:Addr}{sz:Nat}{A:List dD}{r:List Int}(h:nJ H0 H lf sz A)(n1:l≠lf)(n2:H0 l=none)(k:H l=some (.lst (r.map V.int)))(e:r.length=sz)(p:∀ x∈r,(0:Int)<=x):nJ H0 H lf sz (A++[(l,r)]):=by
 refine ⟨λb hb=>?_,λb hb=>?_⟩ <;> rcases zS.mp hb with h1 | h1
 ·exact h.ne b h1
 ·cases zG.mp h1;exact ⟨n1,n2⟩
 ·exact h.row b h1
 ·cases zG.mp h1;exact ⟨k,e,p⟩
structure JJ (H0 H:Hp) (lf:Addr) (w sz:Nat) (P:List aQ):Prop where
 top:H lf=some (.lst (P.map λa=>V.ref a.1))
 ne:∀ a∈P,a.1≠lf/\H0 a.1=none
 str:∀ a∈P,H a.1=some (.lst (a.2.map λb=>V.ref b.1))/\a.2.length=w
 row:∀ a∈P,nJ H0 H lf sz a.2
theorem JJ.same {H0 H H':Hp}{lf:Addr}{w sz:Nat}{P:List aQ}(h:JJ H0 H lf w sz P)(s:aj H H'):JJ H0 H' lf w sz P:=
 ⟨s _ _ h.top,h.ne,λa ha=>⟨s _ _ (h.str a ha).1,(h.str a ha).2⟩,λa ha=>(h.row a ha).same s⟩
theorem JJ.snoc {H0 H:Hp}{lf l:Addr}{w sz:Nat}{P:List aQ}{A:List dD}(h:JJ H0 H lf w sz P)(n1:l≠lf)(n2:H0 l=none)(k:H l=some (.lst (A.map λb=>V.ref b.1)))(e:A.length=w)(r:nJ H0 H lf sz A):JJ H0 (upd H lf (HO.lst ((P.map λa=>V.ref a.1)++[V.ref l]))) lf w sz (P++[(l,A)]):=by
 refine ⟨by rw [yq,zJ];rfl,λb hb=>?_,λb hb=>?_,λb hb=>?_⟩ <;> rcases zS.mp hb with h1 | h1
 ·exact h.ne b h1
 ·cases zG.mp h1;exact ⟨n1,n2⟩
 ·exact ⟨by rw [xC (h.ne b h1).1];exact (h.str b h1).1,(h.str b h1).2⟩
 ·cases zG.mp h1;exact ⟨by rw [xC n1];exact k,e⟩
 ·exact (h.row b h1).put λc hc=>((h.row b h1).ne c hc).1
 ·cases zG.mp h1;exact r.put λc hc=>(r.ne c hc).1
def jx (x:Addr)(r:List Int)(b:dD):dD:=if b.1=x then (b.1,r) else b
def qz (P:List aQ)(x:Addr)(r:List Int):List aQ:=P.map λa=>(a.1,a.2.map (jx x r))
theorem sY {x:Addr}{r:List Int}{b:dD}:(jx x r b).1=b.1:=by unfold jx;split <;> rfl
theorem mG {H:Hp}{x l:Addr}{r:List Int}{ys:List V}(k:H x=some (.lst (r.map V.int)))(n:1<=r.length)(h:H l=some (.lst ys))(e:∀ y∈ys,∃ a,y=V.ref a):l≠x:=by
 rintro rfl;rw [k] at h;cases h;cases r with
 | nil=>exact absurd n (by decide)
 | cons y ys=>obtain ⟨a,z⟩:=e _ (.head _);cases z
theorem tD {α:Type}{P:List (Addr×α)}:∀ y∈P.map λa=>V.ref a.1,∃ a,y=V.ref a:=λy hy=>by
 obtain ⟨z,_,rfl⟩:=zP.mp hy;exact ⟨_,rfl⟩
theorem aN.put {H:Hp}{l x:Addr}{nm w sz:Nat}{P:List aQ}{r0 r:List Int}(h:aN H l nm w sz P)(k:H x=some (.lst (r0.map V.int)))(n:1<=r0.length)(e:r.length=sz)(p:∀ y∈r,(0:Int)<=y):aN (upd H x (.lst (r.map V.int))) l nm w sz (qz P x r):=by
 have el:(qz P x r).map (λa=>V.ref a.1)=P.map λa=>V.ref a.1:=by unfold qz;rw [yR];rfl
 refine ⟨?_,λa ha=>?_,λa ha b hb=>?_,?_,λa ha=>?_,λa ha b hb=>?_,λa ha b hb=>?_⟩
 ·rw [xC (mG k n h.top tD),el];exact h.top
 ·obtain ⟨a,m,rfl⟩:=zP.mp ha;show upd H x _ a.1=_;rw [xC (mG k n (h.str a m) tD),yR,h.str a m];congr 2;exact List.map_congr_left λb _=>by show V.ref b.1=V.ref (jx x r b).1;rw [sY]
 ·obtain ⟨a,m,rfl⟩:=zP.mp ha;obtain ⟨b,mb,rfl⟩:=zP.mp hb;by_cases e1:b.1=x
  ·rw [show jx x r b=(b.1,r) from if_pos e1,e1,yq]
  ·rw [show jx x r b=b from if_neg e1,xC e1];exact h.row a m b mb
 ·unfold qz;rw [zA];exact h.len
 ·obtain ⟨a,m,rfl⟩:=zP.mp ha;rw [zA];exact h.dG a m
 ·obtain ⟨a,m,rfl⟩:=zP.mp ha;obtain ⟨b,mb,rfl⟩:=zP.mp hb;by_cases e1:b.1=x
  ·rw [show jx x r b=(b.1,r) from if_pos e1];exact e
  ·rw [show jx x r b=b from if_neg e1];exact h.gJ a m b mb
 ·obtain ⟨a,m,rfl⟩:=zP.mp ha;obtain ⟨b,mb,rfl⟩:=zP.mp hb;by_cases e1:b.1=x
  ·rw [show jx x r b=(b.1,r) from if_pos e1];exact p
  ·rw [show jx x r b=b from if_neg e1];exact h.pos a m b mb
def f7 (H0:Hp)(P:List aQ):Prop:=∀ a∈P,∀ b∈a.2,H0 b.1=none
theorem f7.put {H0:Hp}{P:List aQ}{x:Addr}{r:List Int}(h:f7 H0 P):f7 H0 (qz P x r):=λa ha b hb=>by
 obtain ⟨a,m,rfl⟩:=zP.mp ha;obtain ⟨b,mb,rfl⟩:=zP.mp hb;rw [sY];exact h a m b mb
theorem JJ.pr {H0 H:Hp}{lf:Addr}{nm w sz:Nat}{P:List aQ}(h:JJ H0 H lf w sz P)(e:P.length=nm + 1):aN H lf nm w sz P/\f7 H0 P:=
 ⟨⟨h.top,λa ha=>(h.str a ha).1,λa ha b hb=>((h.row a ha).row b hb).1,e,λa ha=>(h.str a ha).2,λa ha b hb=>((h.row a ha).row b hb).2.1,λa ha b hb=>((h.row a ha).row b hb).2.2⟩,λa ha b hb=>((h.row a ha).ne b hb).2⟩
theorem L3 {d:Int}(d0:0<=d)(d1:d < 4):∃ y:Int,ee [V.int 1,V.int (-1),V.int 1,V.int 7] d=some (V.int y):=by
 obtain rfl | rfl | rfl | rfl:d=0\/d=1\/d=2\/d=3:=by omega
 all_goals exact ⟨_,rfl⟩
theorem Jj {e k n:Nat}{m:Nat}(h:(e:Int) < (m:Nat))(hk:k < n)(l:m=2 ^ n)(_:True=True):e ||| 2 ^ k < 2 ^ n:=by refine Nat.or_lt_two_pow (by omega) (Nat.pow_lt_pow_right (by decide) hk)
section
variable {H H':Hp}{p f a:Addr}{o:HO}{nm w sz:Nat}
theorem dO (n1:a≠p)(n2:a≠f):aP p f H a=H a:=if_neg λe=>e.elim n1 n2
theorem i9 {u:HO}(h:aP p f H a=some u):a≠p/\a≠f/\H a=some u:=by
 unfold aP at h;split at h
 ·cases h
 ·rename_i c;exact ⟨λe=>c (.inl e),λe=>c (.inr e),h⟩
theorem wU (s:aj H H'):aj (aP p f H) (aP p f H'):=λa u e=>by
 obtain ⟨n1,n2,e⟩:=i9 e;rw [dO n1 n2];exact s a u e
theorem LD:aj (aP p f H) (aP p p H):=λa u e=>by
 obtain ⟨n1,n2,e⟩:=i9 e;rw [dO n1 n1];exact e
theorem kJ:aP p f (upd H f o)=aP p f H:=by
 funext a;unfold aP;split
 ·rfl
 ·rename_i c;exact xC λe=>c (.inr e)
theorem LF (g:Go p H H'):aj (aP p p H) H':=λa u e=>by
 obtain ⟨n1,_,e⟩:=i9 e;exact g.1 a u n1 e
theorem pT (np:∃ u,H p=some u)(nf:∃ u,H f=some u):Ks H H' (aP p f H'):=λa u e1 e2=>by
 obtain ⟨_,e3⟩:=np;obtain ⟨_,e4⟩:=nf;rw [dO (λe=>by rw [e,e3] at e1;cases e1) (λe=>by rw [e,e4] at e1;cases e1)];exact e2
theorem cJ.same {x:V}(h:cJ H nm w sz x)(s:aj H H'):cJ H' nm w sz x:=⟨h.1.same s,(oq s h.1).trans h.2⟩
theorem qb {q:Addr}{xs:List V}(k:H q=some (.lst xs))(e:xs.length≠nm + 1)(d:∀ x∈xs,DT H 2 x):cJ H nm w sz (.ref q):=
 ⟨DT.lst k d,by simp only [aS,qA k];rw [decide_eq_false e,zo]⟩
theorem JF {q:Addr}{xs:List V}(k:H q=some (.tup xs))(d:∀ x∈xs,DT H 2 x):cJ H nm w sz (.ref q):=
 ⟨DT.tup k d,by simp only [aS,iw k]⟩
theorem oZ {q:Addr}{xs:List V}{v:V}(k:H q=some (.lst xs))(d:∀ x∈xs,DT H 2 x)(m:v∈xs)(e:aE H w sz v=false):cJ H nm w sz (.ref q):=⟨DT.lst k d,jL k m e⟩
theorem iA {x:V}{t:String}(k:ig H x=some t)(n1:t ≠ "list")(n2:t ≠ "tuple")(e:bE H x=none):cJ H nm w sz x:=
 ⟨DT.flat k n1 n2 3,by unfold aS;rw [e]⟩
theorem lT {q:Addr}{xs:List V}(k:H q=some (.lst xs))(e:xs.length≠w):aE H w sz (.ref q)=false:=by simp only [aE,qA k];rw [decide_eq_false e,zo]
theorem lS {q:Addr}{xs:List V}(k:H q=some (.tup xs)):aE H w sz (.ref q)=false:=by simp only [aE,iw k]
theorem jU {q:Addr}{xs:List V}(k:H q=some (.lst xs))(e:xs.length≠sz):aF H sz (.ref q)=false:=by simp only [aF,qA k];rw [decide_eq_false e,zo]
theorem rq {q:Addr}{xs:List V}(k:H q=some (.tup xs)):aF H sz (.ref q)=false:=by simp only [aF,iw k]
theorem m9 {q:Addr}{xs:List V}{v:V}(k:H q=some (.lst xs))(m:v∈xs)(e:kX v=false):aF H sz (.ref q)=false:=by simp only [aF,qA k];rw [jn m e,yY]
theorem vD {q l:Addr}{P:List aQ}(hp:aN H l nm w sz P)(w1:1<=w)(k:H q=some (.lst [V.ref l])):cJ H nm w sz (.ref q):=by
 refine ⟨DT.lst k λx hx=>?_,jL k (.head _) ?_⟩
 ·cases zG.mp hx;exact (hp.dt 0).le
 ·have pl:=hp.len;obtain ⟨a,ha⟩:∃ a,P[0]?=some a:=⟨_,zD (by omega)⟩;have m:=zB ha;obtain ⟨b,hb⟩:∃ a',a.2[0]?=some a':=⟨_,zD (by have:=hp.dG a m;omega)⟩;exact gI hp.top (zq m) (m9 (hp.str a m) (zq (zB hb)) rfl)
theorem aN.strs {l:Addr}{P:List aQ}(hp:aN H l nm w sz P):∀ x∈P.map λa=>V.ref a.1,DT H 2 x:=λx hx=>by
 obtain ⟨y,hy,rfl⟩:=zP.mp hx;exact hp.sF hy 0
theorem aN.rows {l:Addr}{P:List aQ}(hp:aN H l nm w sz P){a:aQ}(ha:a∈P):∀ x∈a.2.map λb=>V.ref b.1,DT H 1 x:=λx hx=>by
 obtain ⟨y,hy,rfl⟩:=zP.mp hx;exact hp.JU ha hy 0
theorem f9 {n:Nat}{xs ys:List V}(e:∀ x∈xs,DT H n x)(e2:∀ x∈ys,DT H n x):∀ x∈xs++ys,DT H n x:=λx hx=>by
 rcases zS.mp hx with h | h
 ·exact e x h
 ·exact e2 x h
theorem dP {n:Nat}{xs:List V}{lo hi:Option Int}(e:∀ x∈xs,DT H n x):∀ x∈ay xs lo hi,DT H n x:=λx hx=>e x (gu hx)
theorem jJ {n:Nat}{xs:List V}{v:V}(e:∀ x∈xs,DT H n x)(d:DT H n v):∀ x∈xs++[v],DT H n x:=f9 e λx hx=>by cases zG.mp hx;exact d
theorem jg {xs:List V}{i:Nat}(h:i < xs.length):(ay xs none (some (i:Int))++ay xs (some ((i:Int) + 1)) none).length=xs.length - 1:=by rw [show (i:Int) + 1=((i + 1:Nat):Int) from rfl,jh,mZ,zH,zW,yF];omega
end
section
variable {H H' H0 H1 H2 HS:Hp}{p f c:Addr}{o:HO}{nm w sz:Nat}{xs:List V}
theorem aN.Jy {l:Addr}{P:List aQ}(h:aN H l nm w sz P)(pu:aL H p)(s3:sz≠3)(hf:H f=none)(s:aj H H'):aN (aP p f H') l nm w sz P:=by obtain ⟨n1,n2⟩:=h.ne pu s3;exact ⟨by rw [dO n1 (xA h.top hf)];exact s _ _ h.top,λa ha=>by rw [dO (n2 a ha).1 (xA (h.str a ha) hf)];exact s _ _ (h.str a ha),λa ha b hb=>by rw [dO ((n2 a ha).2 b hb) (xA (h.row a ha b hb) hf)];exact s _ _ (h.row a ha b hb),h.len,h.dG,h.gJ,h.pos⟩
theorem kK (np:∃ u,H0 p=some u)(y:H0 c=none)(k:H1 c=some o)(hf:H1 f=none)(s:aj H1 H2):aP p f H2 c=some o:=by obtain ⟨u,e⟩:=np;rw [dO (λz=>by rw [z,e] at y;cases y) (xA k hf)];exact s _ _ k
theorem wo (np:∃ u,H0 p=some u)(nf:∃ u,H0 f=some u)(y:H0 c=none)(k:H1 c=some o):aP p f H1 c=some o:=by obtain ⟨u,e⟩:=np;obtain ⟨u2,e2⟩:=nf;rw [dO (λz=>by rw [z,e] at y;cases y) (λz=>by rw [z,e2] at y;cases y)];exact k
theorem aL.bw (pu:aL H p):∃ u,H p=some u:=by obtain ⟨_,_,_,e⟩:=pu;exact ⟨_,e⟩
structure vP (p f:Addr) (HS H:Hp) (nm w sz:Nat) (xs:List V):Prop where
 s:aj HS H
 k:H f=some (.lst xs)
 bad:∀ x∈xs,cJ (aP p f H) nm w sz x
theorem vP.same (h:vP p f HS H nm w sz xs)(s:aj H H'):vP p f HS H' nm w sz xs:=⟨h.s.trans s,s _ _ h.k,λx hx=>(h.bad x hx).same (wU s)⟩
theorem vP.add {x:V}(h:vP p f HS H nm w sz xs)(f0:HS f=none)(b:cJ (aP p f H) nm w sz x):vP p f HS (upd H f (HO.lst (xs++[x]))) nm w sz (xs++[x]):=
 ⟨λa u e=>by rw [xC (xA e f0)];exact h.s a u e,yq,λy hy=>by
  rw [kJ];rcases zS.mp hy with z | z
  ·exact h.bad y z
  ·cases zG.mp z;exact b⟩
end
def Tells (A:Prop)(v:Int)(x:V):Prop:=(A/\x=.int v)\/(¬ A/\x=.bu)
theorem Tells.uniq {A:Prop}{v:Int}{x y:V}(h:Tells A v x)(h':Tells A v y):x=y:=by
 rcases h with ⟨a,rfl⟩ | ⟨a,rfl⟩ <;> rcases h' with ⟨b,rfl⟩ | ⟨b,rfl⟩
 ·rfl
 ·exact absurd a b
 ·exact absurd b a
 ·rfl
section
variable {H:Hp}{Q:VK}{E:XK}{b l lp:Addr}{k:Nat}{a:Int}{af:List Int}{tr tm:Addr}{ps:List (Addr×M4)}{ws:List (Addr×Nat×Int)}{P:List aQ}
theorem qI (cx:cG H b l lp af tr tm ps ws P)(hk:k < af.length)(q:∀ x H',aj H H'->Tells (eX (ps.map (·.2)) (aq P) af.length (2 ^ ws.length) ws) (cu (aq P) (cnt (ps.map (·.2)) a) k (2 ^ ws.length - 1)) x->Q x H'):fF [.ref b,.int (k:Int),.int a,.ref l,.ref lp] H Q E:=
 ⟨b,k,a,l,_,af,tr,tm,ps,ws,rfl,hk,cx.bk,cx.gd,cx.r1,cx.gK,cx.wa,cx.w1,cx.w4,cx.pr.dt 0,.inr ⟨lp,P,rfl,cx.pr,λf H' s=>q _ H' s (.inl ⟨f,rfl⟩),λf H' s=>q _ H' s (.inr ⟨f,rfl⟩)⟩⟩
theorem JD (cx:cG H b l lp af tr tm ps ws P)(hk:k < af.length)(q:∀ x H',aj H H'->Tells (eX (ps.map (·.2)) (aq P) af.length (2 ^ ws.length) ws) (cu (aq P) (cnt (ps.map (·.2)) a) k (2 ^ ws.length - 1)) x->Q x H'):kh [.ref b,.int (k:Int),.int a,.ref l,.ref lp] H Q E:=
 ⟨b,k,a,l,lp,af,tr,tm,ps,ws,P,rfl,hk,cx,λf H' s=>q _ H' s (.inl ⟨f,rfl⟩),λf H' s=>q _ H' s (.inr ⟨f,rfl⟩)⟩
theorem tL {v:V}(hb:bf H b af tr tm ps)(gd:Good af.length (ps.map (·.2)))(r1:1<=af.length)(gK:af.length<=12)(hw:dz H l af.length ws)(w1:1<=ws.length)(w4:ws.length<=4)(hk:k < af.length)(bd:cJ H ps.length af.length (2 ^ ws.length) v)(q:∀ H',aj H H'->Q .bu H'):fF [.ref b,.int (k:Int),.int a,.ref l,v] H Q E:=
 ⟨b,k,a,l,_,af,tr,tm,ps,ws,rfl,hk,hb,gd,r1,gK,hw,w1,w4,bd.1,.inl ⟨bd.2,q⟩⟩
end
theorem aN.eqv {K:PySem.W.Frag}{H:Hp}{l l':Addr}{nm w sz:Nat}{P P':List aQ}{neg:Bool}{Q:VK}(h:aN H l nm w sz P)(h':aN H l' nm w sz P')(e:aq P=aq P')(q:Q (.bl (if neg=true then !true else true)) H):K9 K neg (.ref l) (.ref l') H Q:=by
 refine ⟨2,l,l',_,_,λ_=>true,true,by decide,rfl,rfl,.inl ⟨av.of h.top,av.of h'.top⟩,by simp [h.len,h'.len],λi x y hx hy=>?_,q⟩;obtain ⟨a,ha,rfl⟩:=xT hx;obtain ⟨a',UA,rfl⟩:=xT hy;have m:=zB ha;have m':=zB UA;have ea:a.2.map (·.2)=a'.2.map (·.2):=by
  have:=congrArg (·[i]?) e;simp only [aq,zF,ha,UA,Option.map_some,Option.some.injEq] at this;exact this
 refine pZ (h.str a m) (h'.str a' m') (by rw [zA,zA,h.dG a m,h'.dG a' m']) λj u v hu hv=>?_;obtain ⟨b,hb,rfl⟩:=xT hu;obtain ⟨b',gj,rfl⟩:=xT hv;have eb:b.2=b'.2:=by
  have:=congrArg (·[j]?) ea;simp only [zF,hb,gj,Option.map_some,Option.some.injEq] at this;exact this
 have k2:=h'.row a' m' b' (zB gj);rw [<-eb] at k2;exact pZ (h.row a m b (zB hb)) k2 rfl (vg _)
theorem oi {K:PySem.W.Frag}{H:Hp}{l l':Addr}{as:List Addr}{neg:Bool}{Q:VK}(h:H l=some (.lst (as.map V.ref)))(h':H l'=some (.lst (as.map V.ref)))(q:Q (.bl (if neg=true then !true else true)) H):K9 K neg (.ref l) (.ref l') H Q:=by refine ⟨1,l,l',_,_,λ_=>true,true,by decide,rfl,rfl,.inl ⟨av.of h,av.of h'⟩,by simp,λi x y hx hy=>?_,q⟩;rw [hx] at hy;cases hy;obtain ⟨r,_,rfl⟩:=xT hx;exact .inl ⟨rfl,⟨_,rfl⟩,rfl⟩
structure vQ (H0 H:Hp) (Z:List aQ):Prop where
 str:∀ a∈Z,H a.1=some (.lst (a.2.map λb=>V.ref b.1))
 row:∀ a∈Z,∀ b∈a.2,H b.1=some (.lst (b.2.map V.int))
theorem vQ.same {H0 H H':Hp}{Z:List aQ}(h:vQ H0 H Z)(s:aj H H'):vQ H0 H' Z:=⟨λa ha=>s _ _ (h.str a ha),λa ha b hb=>s _ _ (h.row a ha b hb)⟩
theorem aN.Jl {H H':Hp}{l l':Addr}{nm w sz:Nat}{P Z:List aQ}(h:aN H l nm w sz P)(c:vQ H H' Z)(k:H' l'=some (.lst (Z.map λa=>V.ref a.1)))(e:aq Z=aq P):aN H' l' nm w sz Z:=by
 have get:∀ a∈Z,∃ a'∈P,a.2.map (·.2)=a'.2.map (·.2):=λa ha=>by
  have:a.2.map (·.2)∈aq P:=by rw [<-e];exact zq ha
  obtain ⟨a',m,q⟩:=zP.mp this;exact ⟨a',m,q.symm⟩
 have Oa:∀ a∈Z,∀ b∈a.2,∃ a'∈P,∃ b'∈a'.2,b.2=b'.2:=λa ha b hb=>by
  obtain ⟨a',m,q⟩:=get a ha;have:b.2∈a'.2.map (·.2):=by rw [<-q];exact zq hb
  obtain ⟨b',m',q'⟩:=zP.mp this;exact ⟨a',m,b',m',q'.symm⟩
 refine ⟨k,c.str,c.row,?_,λa ha=>?_,λa ha b hb=>?_,λa ha b hb=>?_⟩
 ·have:=congrArg List.length e;unfold aq at this;rw [zA,zA] at this;rw [this];exact h.len
 ·obtain ⟨a',m,q⟩:=get a ha;have:=congrArg List.length q;rw [zA,zA] at this;rw [this];exact h.dG a' m
 ·obtain ⟨a',m,b',m',q⟩:=Oa a ha b hb;rw [q];exact h.gJ a' m b' m'
 ·obtain ⟨a',m,b',m',q⟩:=Oa a ha b hb;rw [q];exact h.pos a' m b' m'
theorem uy {c:Bool}{R U W:Prop}(r:R)(h1:c=true->R->U)(h2:c=false->R->W):if c=true then U else W:=by
 cases c with
 | true=>exact h1 rfl r
 | false=>exact h2 rfl r
end Sm
namespace HT
open PySem PySem.Spec PyProof.Rows
end HT
namespace L2
open PySem PySem.Spec PyProof.Rows
section
variable {X:Cx}
theorem aC.plain {own N:List Str}{sc scope:Scope}(h1:scope.kind=.function)(h2:∀ y∈scope.names,y.2≠.cell)(h3:∀ y∈scope.names,y.2=.local->scope.names.lookup y.1=some .local)(h4:∀ y∈scope.names,y.2≠.free):aC own [] N sc scope:=
 ⟨h1,h2,h3,λy hy e=>absurd e (h4 y hy),λi hi=>by cases hi⟩
end
end L2
namespace L2
open PySem
set_option genInjectivity false
set_option genSizeOf false
structure Bk (X:Cx) (b:List Stmt) where
 t:TS
 ps:lJ X b t
theorem bO {X:Cx}{b:List Stmt}{R:TS->Prop}(h:let Y:=X;∃ t,lJ Y b t/\R t):∃ t,lJ X b t/\R t:=h
theorem Bk.bl {X:Cx}{a:Stmt}{rest:List Stmt}(B:Bk X (a::rest)):nE X (a::rest) B.t:=vB B.ps
abbrev IV:=Nat->St->Hp->Prop
abbrev IC:=Nat->St->List V->Hp->Prop
def S8:Stmt:=.Pass ⟨0,0,0,0⟩
def nb (l:List Stmt)(i:Nat):List Stmt:=match l.getD i S8 with
 | .If _ a _ _=>a
 | .For _ _ a _ _=>a
 | .While _ a _ _=>a
 | _=>[]
def ne (l:List Stmt)(i:Nat):List Stmt:=match l.getD i S8 with
 | .If _ _ a _=>a
 | _=>[]
end L2
namespace Sm
open PySem L2
theorem bg:1002<=sizeLine:=by rw [sizeLine_eq];decide
end Sm


namespace L2
open PySem PySem.Spec PyProof.Rows
theorem aY {N P:List Str}{sc:Scope}(a:sc.kind=.function:=by rfl)(b:sc.isCoroutine=false:=by rfl)(c:sc.isGenerator=false:=by rfl)(d:N.Nodup:=by decide +kernel)(e:N.take P.length=P:=by rfl)(f:∀ x∈P,sc.names.lookup x=some .local∨sc.names.lookup x=some .cell:=by decide +kernel)(g:∀ y∈sc.names,y.2≠.free:=by decide +kernel):aA N P sc:=⟨a,b,c,d,e,f,g⟩
theorem dQ {o:List Str}{c:List Nat}{N:List Str}{s p:Scope}(k:p.kind=.function:=by rfl)(a:∀ y∈p.names,y.2≠.cell:=by decide +kernel)(l:∀ y∈p.names,y.2=.local->p.names.lookup y.1=some .local:=by decide +kernel)(f:∀ y∈p.names,y.2=.free->s.names.lookup y.1=some .cell∨s.names.lookup y.1=some .free:=by decide +kernel)(g:∀ i∈c,i < N.length∧p.names.lookup ((N[i]?).getD Str.empty)=some .free:=by decide +kernel):aC o c N s p:=⟨k,a,l,f,g⟩
end L2
namespace Sm
open PySem L2
def top (i:Nat):Stmt:=PySem.Challenge.pw_satchelmeet_k60_prices_judged.main.body.getD i (.Pass ⟨0,0,0,0⟩)
abbrev we:Stmt:=top 19
abbrev wt:Stmt:=top 20
abbrev CA:Stmt:=top 21
abbrev wf:Stmt:=top 22
abbrev wu:Stmt:=top 23
abbrev xO:Stmt:=top 24
abbrev BY:Stmt:=top 25
abbrev wH:Stmt:=top 26
abbrev Cz:Stmt:=top 27
abbrev Du:Stmt:=top 1
abbrev Dv:Stmt:=top 2
abbrev Cc:Stmt:=top 3
abbrev De:Stmt:=top 5
abbrev Ek:Stmt:=top 6
abbrev EM:Stmt:=top 9
abbrev Ck:Stmt:=top 10
abbrev DN:Stmt:=top 11
abbrev qB:Stmt:=top 13
abbrev wJ:Stmt:=top 12
abbrev wY:Stmt:=top 14
abbrev xq:Stmt:=top 15
abbrev xt:Stmt:=top 16
abbrev xZ:Stmt:=top 17
abbrev wg:Stmt:=top 8
abbrev Df:Stmt:=top 28
abbrev wW:Stmt:=top 29
abbrev wM:Stmt:=top 30
abbrev wv:Stmt:=top 31
abbrev Cd:Stmt:=top 32
abbrev wK:Stmt:=top 33
abbrev xm:Stmt:=top 34
abbrev Cr:Stmt:=top 35
abbrev xV:Stmt:=top 36
abbrev Cq:Stmt:=top 37
abbrev xS:Stmt:=top 38
abbrev Cl:Stmt:=top 39
abbrev qC:Stmt:=top 40
set_option genInjectivity false
set_option genSizeOf false
structure Ad where
 AJ:Addr
 Bv:FuncData
 AU:Addr
 BE:FuncData
 Bf:Addr
 BT:FuncData
 AI:Addr
 Bu:FuncData
 AV:Addr
 BF:FuncData
 Aq:Addr
 AD:FuncData
 AZ:Addr
 BJ:FuncData
 AT:Addr
 BD:FuncData
 AH:Addr
 Bt:FuncData
 Bd:Addr
 BR:FuncData
 Be:Addr
 BS:FuncData
 AG:Addr
 Bs:FuncData
 BK:Addr
 Ce:FuncData
 Db:Addr
 Eo:FuncData
 Ca:Addr
 Cy:FuncData
 Ar:Addr
 AQ:FuncData
 BZ:Addr
 Cw:FuncData
 AF:Addr
 Br:FuncData
 Aj:Addr
 Av:FuncData
 Ah:Addr
 At:FuncData
 Ak:Addr
 Aw:FuncData
 Ai:Addr
 Au:FuncData
 Af:Addr
 Al:FuncData
 AE:Addr
 Bq:FuncData
 BL:Addr
 Cf:FuncData
 Ay:Addr
 A9:FuncData
 AA:Addr
 Bb:FuncData
 AW:Addr
 BG:FuncData
 AL:Addr
 Bx:FuncData
 AK:Addr
 Bw:FuncData
 AY:Addr
 BI:FuncData
 AX:Addr
 BH:FuncData
 Az:Addr
 Ba:FuncData
 AS:Addr
 BC:FuncData
 As:Addr
 AR:FuncData
 Bg:Addr
 BU:FuncData
 Ee:Addr
 FM:FuncData
structure Tx (K:PySem.W.Frag) (mg:Str->Option Value) (a:Ad):Prop where
 A6:aX K "_law_purse" "_law_purse" we a.AJ a.Bv
 CF:Binds K a.Bv ["_law_script", "_law_k"] []
 CC:mg "_law_purse" = some (.ref a.AJ)
 CD:zM K (.ref a.AJ)=true
 Bj:aX K "_law_take" "_law_take" wt a.AU a.BE
 Ae:Binds K a.BE ["_law_purse_here", "_law_many"] []
 Ab:mg "_law_take" = some (.ref a.AU)
 Ac:zM K (.ref a.AU)=true
 BA:aX K "_law_far" "_law_far" CA a.Bf a.BT
 Hi:Binds K a.BT ["_law_purse_here"] []
 Ha:mg "_law_far" = some (.ref a.Bf)
 He:zM K (.ref a.Bf)=true
 A5:aX K "_law_rooms" "_law_rooms" wf a.AI a.Bu
 Gg:Binds K a.Bu ["_law_purse_here", "_law_walkers"] []
 FW:mg "_law_rooms" = some (.ref a.AI)
 Gb:zM K (.ref a.AI)=true
 Bl:aX K "_law_step" "_law_step" wu a.AV a.BF
 GQ:Binds K a.BF ["_law_purse_here"] []
 GE:mg "_law_step" = some (.ref a.AV)
 GK:zM K (.ref a.AV)=true
 Ax:aX K "_law_meetings" "_law_meetings" xO a.Aq a.AD
 EH:Binds K a.AD ["_law_purse_here", "_law_walkers", "_law_most_here"] []
 EF:mg "_law_meetings" = some (.ref a.Aq)
 EG:zM K (.ref a.Aq)=true
 Bp:aX K "_law_book" "_law_book" BY a.AZ a.BJ
 GU:Binds K a.BJ ["_law_purse_here", "_law_most_walkers", "_law_most_meetings"] []
 GI:mg "_law_book" = some (.ref a.AZ)
 GO:zM K (.ref a.AZ)=true
 Bi:aX K "_law_time" "_law_time" wH a.AT a.BD
 EA:Binds K a.BD ["_law_purse_here", "_law_book_here", "_law_later"] []
 Ew:mg "_law_time" = some (.ref a.AT)
 Ey:zM K (.ref a.AT)=true
 A4:aX K "_law_whole" "_law_whole" Cz a.AH a.Bt
 D9:Binds K a.Bt ["_law_thing"] []
 DV:mg "_law_whole" = some (.ref a.AH)
 D3:zM K (.ref a.AH)=true
 By:aX K "is_whole" "is_whole" Du a.Bd a.BR
 Hg:Binds K a.BR ["thing"] []
 G8:mg "is_whole" = some (.ref a.Bd)
 Hc:zM K (.ref a.Bd)=true
 Bz:aX K "is_count" "is_count" Dv a.Be a.BS
 Hh:Binds K a.BS ["thing"] []
 G9:mg "is_count" = some (.ref a.Be)
 Hd:zM K (.ref a.Be)=true
 A3:aX K "are_counts" "are_counts" Cc a.AG a.Bs
 Gf:Binds K a.Bs ["thing", "size"] []
 FV:mg "are_counts" = some (.ref a.AG)
 Ga:zM K (.ref a.AG)=true
 BW:aX K "by_time" "by_time" De a.BK a.Ce
 Fz:Binds K a.Ce ["book", "time"] []
 Fx:mg "by_time" = some (.ref a.BK)
 Fy:zM K (.ref a.BK)=true
 DE:aX K "ways" "ways" Ek a.Db a.Eo
 Il:Binds K a.Eo ["book"] []
 Ij:mg "ways" = some (.ref a.Db)
 Ik:zM K (.ref a.Db)=true
 Cp:aX K "all_of" "all_of" EM a.Ca a.Cy
 GP:Binds K a.Cy ["wishes"] []
 GD:mg "all_of" = some (.ref a.Ca)
 GJ:zM K (.ref a.Ca)=true
 AB:aX K "without_wish" "without_wish" Ck a.Ar a.AQ
 EW:Binds K a.AQ ["some", "number"] []
 ES:mg "without_wish" = some (.ref a.Ar)
 EU:zM K (.ref a.Ar)=true
 Co:aX K "splits" "splits" DN a.BZ a.Cw
 Ia:Binds K a.Cw ["some"] []
 HU:mg "splits" = some (.ref a.BZ)
 HV:zM K (.ref a.BZ)=true
 A2:aX K "is_stretch" "is_stretch" qB a.AF a.Br
 Ge:Binds K a.Br ["book", "wishes", "thing"] []
 FU:mg "is_stretch" = some (.ref a.AF)
 FZ:zM K (.ref a.AF)=true
 Ao:aX K "has_prices_form" "has_prices_form" wJ a.Aj a.Av
 D7:Binds K a.Av ["book", "wishes", "thing"] []
 DS:mg "has_prices_form" = some (.ref a.Aj)
 DZ:zM K (.ref a.Aj)=true
 Am:aX K "is_nothing_free" "is_nothing_free" wY a.Ah a.At
 D5:Binds K a.At ["prices"] []
 DQ:mg "is_nothing_free" = some (.ref a.Ah)
 DX:zM K (.ref a.Ah)=true
 Ap:aX K "are_wishes_free" "are_wishes_free" xq a.Ak a.Aw
 D8:Binds K a.Aw ["book", "wishes", "prices"] []
 DU:mg "are_wishes_free" = some (.ref a.Ak)
 D1:zM K (.ref a.Ak)=true
 An:aX K "is_keeping_free" "is_keeping_free" xt a.Ai a.Au
 D6:Binds K a.Au ["prices"] []
 DR:mg "is_keeping_free" = some (.ref a.Ai)
 DY:zM K (.ref a.Ai)=true
 Ag:aX K "is_giving_one_more" "is_giving_one_more" xZ a.Af a.Al
 C0:Binds K a.Al ["book", "prices"] []
 CY:mg "is_giving_one_more" = some (.ref a.Af)
 CZ:zM K (.ref a.Af)=true
 A0:aX K "price_told" "price_told" wg a.AE a.Bq
 D4:Binds K a.Bq ["book", "sender", "since", "wishes", "thing"] []
 DP:mg "price_told" = some (.ref a.AE)
 DW:zM K (.ref a.AE)=true
 BX:aX K "_law_by" "_law_by" Df a.BL a.Cf
 Di:Binds K a.Cf ["_law_book_here", "_law_time_here"] []
 Dg:mg "_law_by" = some (.ref a.BL)
 Dh:zM K (.ref a.BL)=true
 AM:aX K "_law_wishes" "_law_wishes" wW a.Ay a.A9
 Fj:Binds K a.A9 ["_law_purse_here", "_law_book_here", "_law_most_here"] []
 Fd:mg "_law_wishes" = some (.ref a.Ay)
 Fg:zM K (.ref a.Ay)=true
 AO:aX K "_law_priced" "_law_priced" wM a.AA a.Bb
 Fl:Binds K a.Bb ["_law_book_here", "_law_wishes_here", "_law_prices_here"] []
 Ff:mg "_law_priced" = some (.ref a.AA)
 Fi:zM K (.ref a.AA)=true
 Bm:aX K "_law_outs" "_law_outs" wv a.AW a.BG
 GR:Binds K a.BG ["_law_book_here", "_law_wishes_here", "_law_prices_here"] []
 GF:mg "_law_outs" = some (.ref a.AW)
 GL:zM K (.ref a.AW)=true
 A8:aX K "_law_gives" "_law_gives" Cd a.AL a.Bx
 Gi:Binds K a.Bx ["_law_now", "_law_kept", "_law_given"] []
 FY:mg "_law_gives" = some (.ref a.AL)
 Gd:zM K (.ref a.AL)=true
 A7:aX K "_law_links" "_law_links" wK a.AK a.Bw
 Gh:Binds K a.Bw ["_law_book_here", "_law_prices_here"] []
 FX:mg "_law_links" = some (.ref a.AK)
 Gc:zM K (.ref a.AK)=true
 Bo:aX K "_law_hops" "_law_hops" xm a.AY a.BI
 GT:Binds K a.BI ["_law_book_here", "_law_wish", "_law_far_here"] []
 GH:mg "_law_hops" = some (.ref a.AY)
 GN:zM K (.ref a.AY)=true
 Bn:aX K "_law_most" "_law_most" Cr a.AX a.BH
 GS:Binds K a.BH ["_law_hops_here", "_law_at", "_law_walker", "_law_wished"] []
 GG:mg "_law_most" = some (.ref a.AX)
 GM:zM K (.ref a.AX)=true
 AN:aX K "_law_prices" "_law_prices" xV a.Az a.Ba
 Fk:Binds K a.Ba ["_law_purse_here", "_law_book_here", "_law_wishes_here"] []
 Fe:mg "_law_prices" = some (.ref a.Az)
 Fh:zM K (.ref a.Az)=true
 Bh:aX K "_law_with" "_law_with" Cq a.AS a.BC
 Ez:Binds K a.BC ["_law_prices_here", "_law_at", "_law_walker", "_law_some"] []
 Ev:mg "_law_with" = some (.ref a.AS)
 Ex:zM K (.ref a.AS)=true
 AC:aX K "_law_strange" "_law_strange" xS a.As a.AR
 EX:Binds K a.AR ["_law_purse_here", "_law_book_here", "_law_prices_here"] []
 ET:mg "_law_strange" = some (.ref a.As)
 EV:zM K (.ref a.As)=true
 BB:aX K "_law_due" "_law_due" Cl a.Bg a.BU
 Hj:Binds K a.BU ["_law_book_here", "_law_sender", "_law_since", "_law_wishes_here", "_law_prices_here"] []
 Hb:mg "_law_due" = some (.ref a.Bg)
 Hf:zM K (.ref a.Bg)=true
 EC:aX K "law" "law" qC a.Ee a.FM
 Ir:Binds K a.FM ["_law_script"] []
 Iq:mg "law" = some (.ref a.Ee)
 T9:zM K (.ref a.Ee)=true
 nu:mg "all" = none
 qd:mg "any" = none
 vF:mg "bool" = none
 bF:mg "enumerate" = none
 Ko:mg "int" = none
 aK:mg "isinstance" = none
 aH:mg "len" = none
 bU:mg "list" = none
 nq:mg "max" = none
 j9:mg "min" = none
 aW:mg "range" = none
 o5:mg "reversed" = none
 vE:mg "sorted" = none
 fY:mg "tuple" = none
 nk:mg "zip" = none
section
variable (P:Program) (w:World) {K:PySem.W.Frag}{mg:Str->Option Value} (base:Heap) {a:Ad}
theorem Dp:aA ["_law_script", "_law_k", "_law_cell", "_law_left"] ["_law_script", "_law_k"] (ai we):=L2.aY
theorem Fa (T:Tx K mg a):aR P w K mg base cO 1 a.AJ a.Bv ["_law_script", "_law_k"] (IM K):=by
 refine T.A6.ok Dp (λvs H Q E h=>?_) (λbG A outer s H vs Q E hr h=>?_)
 ·obtain ⟨a,ns,k,rfl,_⟩:=h;rfl
 ·have nd:=Dp.nd;have hu:=hr.units;obtain ⟨sa,ns,k,rfl,hS,hk,q⟩:=h;refine bO ?_;intro Y
  let B0:Bk Y ((ah we).drop 5):=⟨_,(yx (xP (xM (xY (yp (yr (pv 3) (yr (xI dM (xI xU (xI xU (xI cK (pv 2) yu) (xI cK (pv 1) yu)) yu) yu) (yr yu xB rfl) rfl) rfl))))))⟩
  let B1:Bk Y ((ah we).drop 3):=⟨_,(yx (xN (xg (xR pM (pv 2) yu (aB _)) (yx (xP (xL (i:=3) nd rfl rfl (xI cY (iQ eG yu) (pv 2))))) xQ) (xN (xg (xR tZ (pv 2) (xI gg yu yu) (aB _)) (yx (xP (xL (i:=3) nd rfl rfl (pv 2)))) xQ) B0.bl)))⟩
  let B2:Bk Y ((ah we).drop 1):=⟨_,(yx (xN (xg (xR pM (pv 1) (xG (xD rfl) (by rfl) T.aH PySem.boot_len (yp (yr (pv 0) xB rfl))) (aB _)) (yx (xP (xL (i:=2) nd rfl rfl (xJ (xE rfl) (pv 0) (pv 1) (λ_ _=>rfl))))) xQ) (xN (xL (i:=3) nd rfl rfl yu) B1.bl)))⟩
  refine ⟨_,(yx (xN (xL (i:=2) nd rfl rfl yu) B2.bl)),?_⟩;have XT:rJ 10 18:=⟨by decide,by decide,by decide⟩;have s3:3<=sizeLine:=by rw [sizeLine_eq];decide
  have fin:∀ (x y:Int) p,H p=none->Q (.ref p) (upd H p (.lst [.int x,.int y,.int 0])):=λx y p hp=>q p _ hp ⟨x,y,0,yq⟩ (yy hp);have XR:∀ x:Int,rK x 69:=λx=>.inr ⟨by decide,by decide⟩;have Sw:∀ x:Int,rK x 40503:=λx=>.inr ⟨by decide,by decide⟩;refine (zr rfl (zr rfl ⟨sa,zr rfl ⟨.inl hS,aD rfl rfl (zr rfl (jy (fun σ H1=>∃ c:Int,σ=[some (.ref sa),some (.int k),some (.int c),none]/\H=H1) ?_ (λc k0=>?_) (λc=>⟨0,rfl,rfl⟩)))⟩⟩))
  ·rintro σ H1 ⟨c,rfl,rfl⟩;refine (zr rfl (aD rfl rfl (zr rfl (jy (fun σ H1=>∃ d:Int,σ=[some (.ref sa),some (.int k),some (.int c),some (.int d)]/\H=H1) ?_ (λz k0=>?_) (λz=>⟨0,rfl,rfl⟩)))))
   ·rintro σ H1 ⟨d,rfl,rfl⟩;refine (zr rfl (aD rfl rfl ⟨XT,aD rfl rfl (zr rfl (jy (fun σ H1=>∃ d:Int,σ=[some (.ref sa),some (.int k),some (.int c),some (.int d)]/\H=H1) ?_ (λz k0=>(zr rfl (k0 _ _ ⟨c,rfl,rfl⟩))) (λz=>⟨d,rfl,rfl⟩)))⟩));rintro σ H1 ⟨d,rfl,rfl⟩;exact (zr rfl (zr rfl (aD rfl rfl ⟨XR _,zr rfl (aD rfl rfl ⟨Sw _,aD rfl rfl (aD rfl rfl (aD rfl rfl ⟨(by show (0:Int) < 2147483647;decide),s3,fin _ _⟩))⟩)⟩)))
   ·exact (zr rfl (zr rfl (aD rfl rfl (k0 _ _ (zr rfl rfl)))))
  ·have WT:k < ns.length:=by
    have:=of_decide_eq_true c;rw [zA] at this;omega
   exact (zr rfl (zr rfl ⟨sa,_,aD rfl rfl ⟨hS,xW (v:=V.int ns[k]) (by simp [WT]),k0 _ _ (zr rfl rfl)⟩⟩))
theorem DH:aA ["_law_purse_here", "_law_many", "_law_digit", "_law_mixed"] ["_law_purse_here", "_law_many"] (ai wt):=L2.aY
theorem xl (T:Tx K mg a):aR P w K mg base cO 1 a.AU a.BE ["_law_purse_here", "_law_many"] (KU):=by
 refine T.Bj.ok DH (λvs H Q E h=>?_) (λbG A outer s H vs Q E hr h=>?_)
 ·obtain ⟨p,n,rfl,_⟩:=h;rfl
 ·have nd:=DH.nd;have hu:=hr.units;obtain ⟨p,n,rfl,n0,n1,⟨x,y,z,hp⟩,q⟩:=h;refine bO ?_;intro Y
  let B0:Bk Y ((ah wt).drop 3):=⟨_,(yx (xN (xL (i:=3) nd rfl rfl (xI dM (xI xU (xI xU (xI cK (pv 3) (pv 3)) (xI cK (xJ (xE rfl) (pv 0) yu (λ_ _=>rfl)) yu)) (xJ (xE rfl) (pv 0) yu (λ_ _=>rfl))) yu)) (xP (xM (xI dM (xI wT (xI dM (xI cK (pv 3) yu) yu) yu) (pv 1))))))⟩
  let B1:Bk Y ((ah wt).drop 2):=⟨_,(yx (xN (xL (i:=3) nd rfl rfl (xI dM (xI cK (xI xU (xJ (xE rfl) (pv 0) yu (λ_ _=>rfl)) (xI cK (xJ (xE rfl) (pv 0) yu (λ_ _=>rfl)) yu)) yu) yu)) B0.bl))⟩
  let B2:Bk Y (nb (ah wt) 0):=⟨_,(yx (xN (xL (i:=2) nd rfl rfl (xI dM (xJ (xE rfl) (pv 0) yu (λ_ _=>rfl)) (pv 1))) (xN (gc (xI wT (xJ (xE rfl) (pv 0) yu (λ_ _=>rfl)) (pv 1)) (iP (pv 0) yu set_list)) (xP (xM (pv 2))))))⟩
  refine ⟨_,(yx (xN (xg (xR fL (xJ (xE rfl) (pv 0) yu (λ_ _=>rfl)) yu (aB _)) B2.ps xQ) (xN (Jc (pv 0) yu (vd rfl) yu Ls set_list) B1.bl))),?_⟩;have hS:av K H p _:=av.of hp;have cm:∀ x c:Int,-(2 ^ 64) < c->c < 2 ^ 64->rK x c:=λx c h h'=>.inr ⟨h,h'⟩;refine (zr rfl ⟨p,_,aD rfl rfl ⟨hS,rfl,aD rfl rfl (zr rfl (jz (λh1=>?_) λh1=>?_))⟩⟩)
  ·refine (zr rfl ⟨p,_,aD rfl rfl ⟨hS,rfl,zr rfl (aD rfl rfl ⟨n0,?_⟩)⟩⟩);refine (zr rfl ⟨p,_,aD rfl rfl ⟨hS,rfl,zr rfl (aD rfl rfl ⟨⟨n0,n1⟩,zr rfl ⟨p,_,_,0,rfl,rfl,hp,rfl,?_⟩⟩)⟩⟩);exact (zr rfl (q _ _ (yi _ (by omega)) (yX _ n0) ⟨lK.set,_,_,_,yq⟩))
  ·refine (zr rfl ⟨p,_,aD rfl rfl ⟨hS,rfl,aD rfl rfl ⟨p,_,_,2,rfl,rfl,hp,rfl,?_⟩⟩⟩);have h2:(upd H p (HO.lst ([V.int x,V.int y,V.int z].set 2 (.int (z + 1))))) p=some (.lst [V.int x,V.int y,V.int (z + 1)]):=yq;have b2:lK p H (upd H p (HO.lst ([V.int x,V.int y,V.int z].set 2 (.int (z + 1))))):=lK.set;generalize upd H p (HO.lst ([V.int x,V.int y,V.int z].set 2 (.int (z + 1))))=H2 at h2 b2 ⊢;have O8:av K H2 p _:=av.of h2;have big:(2147483647:Int) < 2 ^ 64:=by decide
   have low:-(2:Int) ^ 64 < 0:=by decide
   have pos:(0:Int) < 2147483647:=by decide
   refine (zr rfl ⟨p,_,aD rfl rfl ⟨O8,rfl,zr rfl ⟨p,_,aD rfl rfl ⟨O8,rfl,aD rfl rfl ⟨cm _ _ (by decide) (by decide),aD rfl rfl (aD rfl rfl ⟨cm _ _ (by decide) (by decide),aD rfl rfl ⟨(by show (0:Int) < 2147483647;decide),?_⟩⟩)⟩⟩⟩⟩⟩);have m0:=yi ((y + (z + 1) * 362437) * 48271) (show (2147483647:Int)≠0 by decide);have m1:=yX ((y + (z + 1) * 362437) * 48271) pos;refine (zr rfl (zr rfl (aD rfl rfl ⟨.inl ⟨Int.lt_of_lt_of_le low m0,Int.lt_trans m1 big⟩,zr rfl ⟨p,_,aD rfl rfl ⟨O8,rfl,aD rfl rfl ⟨cm _ _ (by decide) (by decide),aD rfl rfl (zr rfl ⟨p,_,aD rfl rfl ⟨O8,rfl,aD rfl rfl (aD rfl rfl ⟨(by show (0:Int) < 2147483629;decide),?_⟩)⟩⟩)⟩⟩⟩⟩)));refine (zr rfl (aD rfl rfl ⟨cm _ _ (by decide) (by decide),aD rfl rfl ⟨(by show (0:Int) < 2147483563;decide),aD rfl rfl ⟨⟨by decide,by decide⟩,zr rfl (aD rfl rfl ⟨n0,?_⟩)⟩⟩⟩));exact q _ _ (yi _ (by omega)) (yX _ n0) ⟨b2,_,_,_,h2⟩
theorem Et:aA ["_law_purse_here", "_law_high"] ["_law_purse_here"] (ai CA):=L2.aY
theorem GB (T:Tx K mg a):aR P w K mg base cO 2 a.Bf a.BT ["_law_purse_here"] (M3):=by
 have Aa:=xl P w base T;refine T.BA.ok Et (λvs H Q E h=>?_) (λbG A outer s H vs Q E hr h=>?_)
 ·obtain ⟨p,rfl,_⟩:=h;rfl
 ·have nd:=Et.nd;have hu:=hr.units;obtain ⟨p,rfl,hp,q⟩:=h;refine bO ?_;intro Y
  let B0:Bk Y ((ah CA).drop 1):=⟨_,(yx (xP (xM (xI dM (xI xU (xI cK (pv 1) yu) (xF Aa (hr.mono (by decide)) rfl T.Ab T.Ac T.Ae .nil au (yp (yr (pv 0) (yr yu xB rfl) rfl)))) (xI xU (xI gg yu yu) yu)))))⟩
  refine ⟨_,(yx (xN (xL (i:=1) nd rfl rfl (xF Aa (hr.mono (by decide)) rfl T.Ab T.Ac T.Ae .nil au (yp (yr (pv 0) (yr yu xB rfl) rfl)))) B0.bl)),?_⟩;refine (zr rfl ⟨p,zr rfl ⟨by decide,by decide,hp,λd H1 d0 d1 g1=>(zr rfl (aD rfl rfl ⟨.inr ⟨by decide,by decide⟩,zr rfl ⟨p,zr rfl ⟨by decide,by decide,g1.2,λe H2 e0 e1 g2=>(aD rfl rfl (aD rfl rfl ⟨⟨by decide,by decide,by decide⟩,aD rfl rfl (aD rfl rfl ⟨(by show (0:Int) < 10 ^ Int.toNat 9 + 1;decide),?_⟩)⟩))⟩⟩⟩))⟩⟩);have e9:(10:Int) ^ Int.toNat 9 + 1=1000000001:=by decide
  rw [e9];exact q _ _ (yi _ (by decide)) (Int.lt_add_one_iff.mp (yX _ (by decide))) (g1.trans g2)
theorem Do:aA ["_law_purse_here", "_law_walkers", "_law_rooms_here", "_law_walker", "_law_room"] ["_law_purse_here", "_law_walkers"] (ai wf):=L2.aY
theorem E9 (T:Tx K mg a):aR P w K mg base cO 2 a.AI a.Bu ["_law_purse_here", "_law_walkers"] (IL):=by
 have Aa:=xl P w base T;refine T.A5.ok Do (λvs H Q E h=>?_) (λbG A outer s H vs Q E hr h=>?_)
 ·obtain ⟨p,n,rfl,_⟩:=h;rfl
 ·have nd:=Do.nd;have hu:=hr.units;obtain ⟨p,n,rfl,hn,hp,q⟩:=h;refine bO ?_;intro Y
  let B0:Bk Y ((nb (ah wf) 1).drop 1):=⟨_,(yx (xN (xg (xR cE (pv 4) yu (aB _)) (yx (xP (xL (i:=4) nd rfl rfl (xF Aa (hr.mono (by decide)) rfl T.Ab T.Ac T.Ae .nil au (yp (yr (pv 0) (yr yu xB rfl) rfl)))))) xQ) (xP (wb (cD zX zZ za xw (pv 2) (yp (yr (pv 4) xB rfl)))))))⟩
  let B1:Bk Y (nb (ah wf) 1):=⟨_,(yx (xN (xL (i:=4) nd rfl rfl (xI wT (xF Aa (hr.mono (by decide)) rfl T.Ab T.Ac T.Ae .nil au (yp (yr (pv 0) (yr yu xB rfl) rfl))) yu)) B0.bl))⟩
  let B2:Bk Y ((ah wf).drop 1):=⟨_,(yx (xN (xj PassesOwn.never rfl (xx rfl T.aW (yp (yr (pv 1) xB rfl))) (xH (i:=3) nd rfl rfl) B1.ps) (xP (xM (wc (wn) (by rfl) T.fY yS (yp (yr (pv 2) xB rfl)))))))⟩
  refine ⟨_,(yx (xN (xL (i:=2) nd rfl rfl (xY bT)) B2.bl)),?_⟩;have line:1001<=sizeLine:=by rw [sizeLine_eq];decide
  refine ⟨zV _,λl hl=>?_⟩;have TN:=hp.ne hl;refine (zr rfl (zr rfl ⟨by omega,by omega,?_⟩));refine (let W1:IV:=λi σ H2=>∃ v3 v4 rs,σ=[some (.ref p),some (.int n),some (.ref l),v3,v4]/\H2 l=some (.lst (List.map V.int rs))/\rs.length=i/\(∀ r∈rs,(0:Int)<=r/\r<=99)/\Go p H H2;wV (lo:=0) (n:=n) W1)
   ⟨_,_,[],rfl,yq,rfl,(λ_ z=>nomatch z),(Go.refl hp).new hl⟩ ?_ ?_
  ·rintro i σ H2 hi ⟨v3,v4,rs,rfl,h2,hlen,hr,go⟩;refine (zr rfl ⟨p,zr rfl ⟨by decide,by decide,go.2,λd H3 d0 d1 g3=>(aD rfl rfl ⟨⟨by decide,by decide⟩,?_⟩)⟩⟩);refine (zr rfl ⟨rfl,zr rfl (jy (fun σ H4=>∃ x:Int,σ=[some (.ref p),some (.int n),some (.ref l),some (.int (0 + (i:Int))),some (.int x)]/\0<=x/\x<=99/\Go p H2 H4) ?_ (λc k0=>(zr rfl ⟨p,zr rfl ⟨by decide,by decide,g3.2,λe H4 e0 e1 g4=>k0 _ _ ⟨e,rfl,e0,by omega,g3.trans g4⟩⟩⟩)) (λc=>(zr rfl ⟨by omega,by omega,g3⟩)))⟩);rintro σ H4 ⟨x,rfl,x0,x1,g4⟩;have h4:=g4.1 l _ TN h2;refine (zr rfl ⟨.inl ⟨rfl,_,av.of h4⟩,zr rfl ⟨l,aD rfl rfl ⟨h4,by rw [zA];omega,_,_,rs++[x],rfl,by rw [yq,zJ];rfl,by simp [hlen],λr Mq=>?_,?_⟩⟩⟩)
   ·rcases zS.mp Mq with h | h
    ·exact hr r h
    ·cases zG.mp h;exact ⟨x0,x1⟩
   ·have g2:=go.trans g4;refine ⟨λb u nb e=>?_,?_⟩
    ·rw [xC (xA e hl)];exact g2.1 b u nb e
    ·obtain ⟨a,b,c,e⟩:=g2.2;exact ⟨a,b,c,by rw [xC TN.symm];exact e⟩
  ·rintro σ H2 ⟨v3,v4,rs,rfl,h2,hlen,hr,go⟩;exact (zr rfl ⟨l,zr rfl (.inl ⟨av.of h2,λt ht=>q t rs _ (go.new ht) yq hlen hr⟩)⟩)
theorem DI:aA ["_law_purse_here", "_law_way"] ["_law_purse_here"] (ai wu):=L2.aY
theorem FO (T:Tx K mg a):aR P w K mg base cO 2 a.AV a.BF ["_law_purse_here"] (KW):=by
 have Aa:=xl P w base T;refine T.Bl.ok DI (λvs H Q E h=>?_) (λbG A outer s H vs Q E hr h=>?_)
 ·obtain ⟨p,rfl,_⟩:=h;rfl
 ·have nd:=DI.nd;have hu:=hr.units;obtain ⟨p,rfl,hp,q⟩:=h;refine bO ?_;intro Y
  let B0:Bk Y ((ah wu).drop 3):=⟨_,(yx (xP (xM (xI xU yu (xF Aa (hr.mono (by decide)) rfl T.Ab T.Ac T.Ae .nil au (yp (yr (pv 0) (yr (xI cK yu (xI gg yu yu)) xB rfl) rfl)))))))⟩
  let B1:Bk Y ((ah wu).drop 2):=⟨_,(yx (xN (xg (xR cE (pv 1) yu (aB _)) (yx (xP (xM (xI xU yu (xF Aa (hr.mono (by decide)) rfl T.Ab T.Ac T.Ae .nil au (yp (yr (pv 0) (yr yu xB rfl) rfl))))))) xQ) B0.bl))⟩
  let B2:Bk Y ((ah wu).drop 1):=⟨_,(yx (xN (xg (xR pM (pv 1) yu (aB _)) (yx (xP (xM (xJ (xE rfl) (xY (yp (yr yu (yr yu (yr yu xB rfl) rfl) rfl))) (pv 1) (λ_ _=>rfl))))) xQ) B1.bl))⟩
  refine ⟨_,(yx (xN (xL (i:=1) nd rfl rfl (xF Aa (hr.mono (by decide)) rfl T.Ab T.Ac T.Ae .nil au (yp (yr (pv 0) (yr yu xB rfl) rfl)))) B2.bl)),?_⟩;have s3:3<=sizeLine:=by rw [sizeLine_eq];decide
  refine (zr rfl ⟨p,zr rfl ⟨by decide,by decide,hp,λd H1 d0 d1 g1=>(zr rfl (aD rfl rfl (zr rfl (jz (λh1=>?_) λh1=>?_))))⟩⟩)
  ·obtain ⟨v,hv,v0,v1⟩:∃ v:Int,ee [V.int 0,V.int 1,V.int 1] d=some (V.int v)/\0<=v/\v<=1:=by
    obtain rfl | rfl | rfl:d=0\/d=1\/d=2:=by omega
    ·exact ⟨0,rfl,by decide,by decide⟩
    ·exact ⟨1,rfl,by decide,by decide⟩
    ·exact ⟨1,rfl,by decide,by decide⟩
   exact ⟨s3,λl hl=>(zr rfl (bq yq hv (q _ _ v0 (by omega) (g1.new hl))))⟩
  ·refine (zr rfl ⟨rfl,zr rfl (jz (λh2=>?_) λh2=>?_)⟩)
   ·exact (zr rfl ⟨p,zr rfl ⟨by decide,by decide,g1.2,λe H2 e0 e1 g2=>(aD rfl rfl (q _ _ (by omega) (by omega) (g1.trans g2)))⟩⟩)
   ·have XM:(16:Int) * 10 ^ Int.toNat 6=16000000:=by decide
    refine (zr rfl (aD rfl rfl ⟨⟨by decide,by decide,by decide⟩,aD rfl rfl ⟨.inl ⟨by decide,by decide⟩,p,zr rfl ⟨by decide,by decide,g1.2,λe H2 e0 e1 g2=>(aD rfl rfl (q _ _ (by omega) (by rw [XM] at e1;omega) (g1.trans g2)))⟩⟩⟩))
theorem Cv:aA ["_law_purse_here", "_law_walkers", "_law_most_here", "_law_found", "_law_when", "_law_busy", "_law_k", "_law_one", "_law_other", "_law_gap", "_law_passed", "_law_late"] ["_law_purse_here", "_law_walkers", "_law_most_here"] (ai xO):=L2.aY
theorem El (T:Tx K mg a):aR P w K mg base cO 3 a.Aq a.AD ["_law_purse_here", "_law_walkers", "_law_most_here"] (n5):=by
 have Aa:=xl P w base T;have G3:=FO P w base T;refine T.Ax.ok Cv (λvs H Q E h=>?_) (λbG A outer s H vs Q E hr h=>?_)
 ·obtain ⟨p,w,n,rfl,_⟩:=h;rfl
 ·have nd:=Cv.nd;have hu:=hr.units;obtain ⟨p,w,n,rfl,hn,w9,hw,hp,q⟩:=h;refine bO ?_;intro Y
  let B0:Bk Y ((ah xO).drop 6):=⟨_,(yx (xP (xM (wc (wn) (by rfl) T.fY yS (yp (yr (wP (own:=["_law_when", "_law_one", "_law_other", "_law_passed"]) (caps:=[11]) rfl (show aC ["_law_when", "_law_one", "_law_other", "_law_passed"] [11] ["_law_purse_here", "_law_walkers", "_law_most_here", "_law_found", "_law_when", "_law_busy", "_law_k", "_law_one", "_law_other", "_law_gap", "_law_passed", "_law_late"] (ai xO) _ from L2.dQ) (xa rfl (xG (oX) (by rfl) T.vE PyProof.Rows.boot_sorted (yp (yr (pv 3) xB rfl)))) (λ_ _ _ _=>(xp (n:=4) rfl rfl (xK (xH (i:=0) (show List.Nodup (["_law_when", "_law_one", "_law_other", "_law_passed", "_law_late"]:List Str) from by decide +kernel) rfl rfl) (xK (xH (i:=1) (show List.Nodup (["_law_when", "_law_one", "_law_other", "_law_passed", "_law_late"]:List Str) from by decide +kernel) rfl rfl) (xK (xH (i:=2) (show List.Nodup (["_law_when", "_law_one", "_law_other", "_law_passed", "_law_late"]:List Str) from by decide +kernel) rfl rfl) (xK (xH (i:=3) (show List.Nodup (["_law_when", "_law_one", "_law_other", "_law_passed", "_law_late"]:List Str) from by decide +kernel) rfl rfl) xo)))))) (λ_ _ _ _=>wS) (λ_ _ _ _=>(bS (yp (yr (pv 1) (yr (pv 2) (yr (xI xU (pv 0) (pv 4)) (yr (pv 3) xB rfl) rfl) rfl) rfl))))) xB rfl))))))⟩
  let B1:Bk Y ((ah xO).drop 5):=⟨_,(yx (xN (xg (@PW.pt _ _ _ (kB (xR cE (xF Aa (hr.mono (by decide)) rfl T.Ab T.Ac T.Ae .nil au (yp (yr (pv 0) (yr yu xB rfl) rfl))) yu (aB _)) (ir (xR (tW hu) (pv 3) (xY bT) (aB _))))) (yx (xP (xL (i:=11) nd rfl rfl (xI cY (xI gg yu yu) (pv 4))))) xQ) B0.bl))⟩
  let B2:Bk Y ((nb (ah xO) 3).drop 9):=⟨_,(yx (xP (wb (cD zX zZ za xw (pv 3) (yp (yr (bS (yp (yr (pv 4) (yr (xG (cg rfl) (by rfl) T.j9 yQ (yp (yr (pv 7) (yr (pv 8) xB rfl) rfl))) (yr (xG (dZ rfl) (by rfl) T.nq ya (yp (yr (pv 7) (yr (pv 8) xB rfl) rfl))) (yr (pv 10) xB rfl) rfl) rfl) rfl))) xB rfl))))))⟩
  let B3:Bk Y (nb (nb (ah xO) 3) 8):=⟨_,(yx (xP (xL (i:=10) nd rfl rfl (xI xU yu (xF Aa (hr.mono (by decide)) rfl T.Ab T.Ac T.Ae .nil au (yp (yr (pv 0) (yr yu xB rfl) rfl)))))))⟩
  let B4:Bk Y ((nb (ah xO) 3).drop 8):=⟨_,(yx (xN (xg (xR cE (xF Aa (hr.mono (by decide)) rfl T.Ab T.Ac T.Ae .nil au (yp (yr (pv 0) (yr yu xB rfl) rfl))) yu (aB _)) B3.ps xQ) B2.bl))⟩
  let B5:Bk Y ((nb (ah xO) 3).drop 7):=⟨_,(yx (xN (xL (i:=10) nd rfl rfl (xI xU yu (xI wT (xF Aa (hr.mono (by decide)) rfl T.Ab T.Ac T.Ae .nil au (yp (yr (pv 0) (yr yu xB rfl) rfl))) yu))) B4.bl))⟩
  let B6:Bk Y ((nb (ah xO) 3).drop 4):=⟨_,(yx (xN (xg (xR fL (pv 9) yu (aB _)) (yx (xP (xL (i:=5) nd rfl rfl (xY bT)))) xQ) (xN (xL (i:=4) nd rfl rfl (xI xU (pv 4) (pv 9))) (xN (xL (i:=5) nd rfl rfl (xI wl (pv 5) (xY (yp (yr (pv 7) (yr (pv 8) xB rfl) rfl))))) B5.bl))))⟩
  let B7:Bk Y ((nb (ah xO) 3).drop 3):=⟨_,(yx (xN (xg (@PW.pt _ _ _ (cR (xR (iS rfl) (pv 7) (pv 5) rfl) (bQ (xR (iS rfl) (pv 8) (pv 5) rfl)))) (yx (xP (xL (i:=9) nd rfl rfl (xG (dZ rfl) (by rfl) T.nq ya (yp (yr yu (yr (pv 9) xB rfl) rfl)))))) xQ) B6.bl))⟩
  let B8:Bk Y ((nb (ah xO) 3).drop 1):=⟨_,(yx (xN (xL (i:=8) nd rfl rfl (xI dM (xI xU (xI xU (pv 7) yu) (xF Aa (hr.mono (by decide)) rfl T.Ab T.Ac T.Ae .nil au (yp (yr (pv 0) (yr (xI cY (pv 1) yu) xB rfl) rfl)))) (pv 1))) (xN (xL (i:=9) nd rfl rfl (xF G3 (hr.mono (by decide)) rfl T.GE T.GK T.GQ .nil au (yp (yr (pv 0) xB rfl)))) B7.bl)))⟩
  let B9:Bk Y (nb (ah xO) 3):=⟨_,(yx (xN (xL (i:=7) nd rfl rfl (xF Aa (hr.mono (by decide)) rfl T.Ab T.Ac T.Ae .nil au (yp (yr (pv 0) (yr (pv 1) xB rfl) rfl)))) B8.bl))⟩
  let Mg:Bk Y ((ah xO).drop 2):=⟨_,(yx (xN (xL (i:=5) nd rfl rfl (xY bT)) (xN (xj PassesOwn.never rfl (xx rfl T.aW (yp (yr (pv 2) xB rfl))) (xH (i:=6) nd rfl rfl) B9.ps) (xN (xL (i:=11) nd rfl rfl yu) B1.bl))))⟩
  let Oz:Bk Y ((ah xO).drop 1):=⟨_,(yx (xN (xL (i:=4) nd rfl rfl (xI xU yu (xI cK (xI wT (xF Aa (hr.mono (by decide)) rfl T.Ab T.Ac T.Ae .nil au (yp (yr (pv 0) (yr yu xB rfl) rfl))) yu) (xF Aa (hr.mono (by decide)) rfl T.Ab T.Ac T.Ae .nil au (yp (yr (pv 0) (yr (xI gg yu yu) xB rfl) rfl)))))) Mg.bl))⟩
  refine ⟨_,(yx (xN (xL (i:=3) nd rfl rfl (xY bT)) Oz.bl)),?_⟩;have line:1001<=sizeLine:=by rw [sizeLine_eq];decide
  have c7:rJ 10 7:=⟨by decide,by decide,by decide⟩;have e7:(10:Int) ^ Int.toNat 7=10000000:=by decide
  have Zd:(2:Int) ^ 64 > 1000:=by decide
  have oR:(2:Int) ^ 200 > 1000:=by decide
  refine ⟨zV _,λlf nH=>?_⟩;have vU:=hp.ne nH;have WL:aL (upd H lf (.lst [])) p:=hp.new nH;refine (zr rfl ⟨p,zr rfl ⟨by decide,by decide,WL,λd H1 d0 d1 g1=>(aD rfl rfl ⟨⟨by decide,by decide⟩,zr rfl (aD rfl rfl ⟨c7,?_⟩)⟩)⟩⟩);refine ⟨p,zr rfl ⟨by decide,by decide,g1.2,λd2 H2 XO UZ g2=>(aD rfl rfl ⟨.inl ⟨by omega,by omega⟩,aD rfl rfl ?_⟩)⟩⟩;rw [e7] at UZ;refine ⟨zV _,λlb J9=>?_⟩;have UR:=g1.trans g2;have LA:H2 lf=some (.lst []):=UR.1 lf _ vU yq;have UJ:Go p H H2:=((Go.refl hp).new nH).trans UR;refine (zr rfl (zr rfl ⟨by omega,by omega,?_⟩));have SO:1<=1 + d / 2 * d2/\1 + d / 2 * d2<=10000000:=by
   obtain h | h:d / 2=0\/d / 2=1:=by omega
   ·rw [h];omega
   ·rw [h];omega
  refine wV (lo:=0) (n:=n) (Pj p lf w n H)
   ⟨_,_,_,_,_,_,lb,[],[],rfl,by rw [xC (xA LA J9)];exact LA,yq,(xA LA J9).symm,UJ.2.ne J9,(λ_ z=>nomatch z),⟨(λ_ z=>nomatch z),.nil,(λ_ z=>nomatch z)⟩,rfl,by simp,SO.1,(by have:=SO.2;simpa using this),UJ.new J9⟩ ?_ ?_
  ·rintro i σ H3 hi ⟨v6,v7,v8,v9,v10,wh,lb,bs,fs,rfl,LN,UH,V8,Nf,O9,F,uu,Ll,OC,Qs,go⟩;have w2:2<=w:=by omega
   refine (zr rfl (zr rfl ⟨p,w,rfl,by omega,by omega,go.2,λone H4 o0 o1 g4=>?_⟩));refine (zr rfl (aD rfl rfl (zr rfl (zr rfl (aD rfl rfl ⟨p,zr rfl ⟨by omega,by omega,g4.2,λx H5 x0 x1 g5=>(aD rfl rfl (zr rfl (aD rfl rfl ⟨by omega,?_⟩)))⟩⟩)))));have ot:=Le o0 o1 x0 x1;refine (zr rfl ⟨p,rfl,g5.2,λgap H6 Xw Xv g6=>?_⟩);have Od:=g4.trans (g5.trans g6);have LJ:=Od.1 lb _ Nf UH;have Y7:=Od.1 lf _ vU LN;refine (zr rfl (zr rfl ⟨lb,zr rfl ⟨.inl (av.of LJ),rfl,jT bs,zr rfl (Rc (fun σ H7=>∃ gp:Int,σ=[some (.ref p),some (.int w),some (.int n),some (.ref lf),some (.int wh),some (.ref lb),some (.int (0 + (i:Int))),some (.int one),some (.int ((one + 1 + x) % w)),some (.int gp),v10,none]/\H6=H7/\0<=gp/\gp<=16000000/\(gp=0->one ∉ bs/\(one + 1 + x) % w ∉ bs)) ?_ (λc1 k0=>?_) (λc1 k0=>(zr rfl (zr rfl ⟨lb,zr rfl ⟨.inl (av.of LJ),rfl,jT bs,zr rfl (Jt (λc2=>?_) (λc2=>?_))⟩⟩))))⟩⟩))
   rotate_left
   ·exact (zr rfl (jE rfl (k0 _ _ (zr rfl ⟨rfl,by split <;> omega,by split <;> omega,λz=>by split at z <;> omega⟩))))
   ·exact (zr rfl (jE rfl (k0 _ _ (zr rfl ⟨rfl,by split <;> omega,by split <;> omega,λz=>by split at z <;> omega⟩))))
   ·have XU:one ∉ bs:=of_decide_eq_false (mQ.symm.trans c1);have XS:(one + 1 + x) % w ∉ bs:=of_decide_eq_false (mQ.symm.trans c2);exact k0 _ _ ⟨gap,rfl,rfl,by omega,by omega,λ_=>⟨XU,XS⟩⟩
   rintro σ H7 ⟨gp,rfl,rfl,Xu,Xs,hg⟩;refine (zr rfl (aD rfl rfl (zr rfl (jy (fun σ H7=>∃ ly bz,σ=[some (.ref p),some (.int w),some (.int n),some (.ref lf),some (.int wh),some (.ref ly),some (.int (0 + (i:Int))),some (.int one),some (.int ((one + 1 + x) % w)),some (.int gp),v10,none]/\Go p H3 H7/\H7 ly=some (.lst (List.map V.int bz))/\ly≠p/\bz.length<=2 * i/\∀ z∈bs,gp=0->z∈bz) ?_ (λc3 k0=>⟨zV _,λln Uq=>k0 _ _ ⟨ln,[],rfl,Od.new Uq,yq,Od.2.ne Uq,zV _,λ_ _ z=>by have:=of_decide_eq_true c3;omega⟩⟩) (λc3=>⟨lb,bs,rfl,Od,LJ,Nf,Ll,λ_ z _=>z⟩)))));rintro σ H7 ⟨ly,bz,rfl,gy,Ww,YO,Wi,Mx⟩;have Xm:=gy.1 lf _ vU LN;refine (zr rfl (zr rfl (aD rfl rfl ?_)));refine (zr rfl (zr rfl (zr rfl ⟨by show 2<=sizeLine;omega,λl2 qV=>?_⟩)));have Pa:=gy.new (o:=HO.lst [V.int one,V.int ((one + 1 + x) % w)]) qV;have NG:=yy (o:=HO.lst [V.int one,V.int ((one + 1 + x) % w)]) qV _ _ Ww;have UI:(upd H7 l2 (HO.lst [V.int one,V.int ((one + 1 + x) % w)])) l2=some (.lst [V.int one,V.int ((one + 1 + x) % w)]):=yq;generalize upd H7 l2 (HO.lst [V.int one,V.int ((one + 1 + x) % w)])=H8 at Pa NG UI ⊢;refine ⟨ly,l2,aD rfl rfl ⟨NG,UI,(by simp only [zA,zl,yd];omega),λl3 LB=>?_⟩⟩;have TY:l3≠p:=Pa.2.ne LB;have Wa:l3≠lf:=(xA (Pa.1 lf _ vU LN) LB).symm;have R6:=Pa.new (o:=HO.lst (List.map V.int bz++[V.int one,V.int ((one + 1 + x) % w)])) LB;have N9:(upd H8 l3 (HO.lst (List.map V.int bz++[V.int one,V.int ((one + 1 + x) % w)]))) l3=some (.lst (List.map V.int (bz++[one,(one + 1 + x) % w]))):=by rw [yq,zJ];rfl
   generalize upd H8 l3 (HO.lst (List.map V.int bz++[V.int one,V.int ((one + 1 + x) % w)]))=H9 at R6 N9 ⊢;refine (zr rfl ⟨p,zr rfl ⟨by decide,by decide,R6.2,λd4 eW UY UX jr=>(aD rfl rfl ⟨⟨by decide,by decide⟩,aD rfl rfl ?_⟩)⟩⟩);refine (zr rfl ⟨p,zr rfl ⟨by decide,by decide,jr.2,λd5 o9 Zj Zi Kg=>⟨rfl,zr rfl (jy (fun σ rH=>∃ mm:Int,σ=[some (.ref p),some (.int w),some (.int n),some (.ref lf),some (.int (wh + gp)),some (.ref l3),some (.int (0 + (i:Int))),some (.int one),some (.int ((one + 1 + x) % w)),some (.int gp),some (.int mm),none]/\1<=mm/\mm<=99/\Go p H9 rH) ?_ (λc5 k0=>(zr rfl ⟨p,zr rfl ⟨by decide,by decide,Kg.2,λd6 rH Zh Zg pY=>(aD rfl rfl (k0 _ _ (zr rfl ⟨by omega,by omega,(jr.trans Kg).trans pY⟩)))⟩⟩)) (λc5=>(zr rfl ⟨by omega,by omega,jr.trans Kg⟩)))⟩⟩⟩);rintro σ rH ⟨mm,rfl,Wd,Wc,pY⟩;have LO:=R6.trans pY;have hz:=LO.1 lf _ vU LN;refine (zr rfl ⟨.inl ⟨rfl,_,av.of hz⟩,zr rfl (zr rfl (zr rfl (jE rfl (zr rfl (zr rfl (jE rfl (zr rfl ⟨by show 4<=sizeLine;omega,λt ht=>⟨lf,aD rfl rfl ⟨(by rw [xC (xA hz ht)];exact hz),(by rw [zA];omega),?_⟩⟩⟩)))))))⟩);exact Pj.step vU nH F uu (bs':=bz++[one,(one + 1 + x) % w]) (by simp only [zH,zl,yd];omega) OC Qs hz (pY.1 l3 _ TY N9) Wa TY (λa ha=>LO.aJ go.2 _ _ (O9 a ha)) (go.trans LO) ht Xu Xs o0 o1 ot.1 ot.2.1 ot.2.2 Wd Wc hg (λz OY NF=>ze _ (Mx z OY NF)) (by simp) (by simp)
  ·rintro σ H3 ⟨v6,v7,v8,v9,v10,wh,lb,bs,fs,rfl,LN,UH,V8,Nf,O9,F,uu,Ll,OC,Qs,go⟩;have c9:rJ 10 9:=⟨by decide,by decide,by decide⟩;have e9:(10:Int) ^ Int.toNat 9=1000000000:=by decide
   refine (zr rfl ⟨p,zr rfl ⟨by decide,by decide,go.2,λd8 H4 _ _ g4=>⟨rfl,zr rfl (Rf (fun σ H5=>∃ fO:Int,(∃ v6 v7 v8 v9 v10,σ=[some (.ref p),some (.int w),some (.int n),some (.ref lf),some (.int wh),some (.ref lb),v6,v7,v8,v9,v10,some (.int fO)])/\Go p H3 H5/\0<=fO/\(fs≠[]->wh + fO<=1000000000)) ?_ (λc k0=>?_) (λc=>⟨0,⟨_,_,_,_,_,rfl⟩,g4,Int.le_refl _,λ_=>by omega⟩))⟩⟩⟩)
   rotate_left
   ·have UG:=g4.1 lf _ vU LN;refine (zr rfl ⟨zV _,λl4 uT=>⟨lf,l4,zr rfl ⟨rfl,av.of (by rw [xC (xA UG uT)];exact UG),av.of yq,zr rfl (Jt (λc2=>?_) (λc2=>?_))⟩⟩⟩)
    ·exact (aD rfl rfl ⟨c9,zr rfl (aD rfl rfl (k0 _ _ ⟨_,⟨_,_,_,_,_,rfl⟩,g4.new uT,by rw [e9];omega,λ_=>by rw [e9];omega⟩))⟩)
    ·exact k0 _ _ ⟨0,⟨_,_,_,_,_,rfl⟩,g4.new uT,Int.le_refl _,λ_=>by omega⟩
   rintro σ Hz ⟨fO,⟨YJ,YI,YH,YG,Vy,rfl⟩,gz,L0,L1⟩;have hz:=gz.1 lf _ vU LN;refine (zr rfl ⟨lf,fs.map (λa=>(a.1,a.2.row)),rfl,?_,(by rw [zA];omega),(λa ha=>?_),λD qs hD pq sq=>?_⟩)
   ·rw [yR];exact av.of hz
   ·obtain ⟨b,hb,rfl⟩:=zP.mp ha;exact ⟨gz.aJ go.2 _ _ (O9 b hb),by intro z;cases z⟩
   obtain ⟨rs,QS,VB,rfl⟩:=qF pq sq;refine ⟨D,rfl,⟨_,av.of yq⟩,?_⟩;have Wh:rs.length=n:=by rw [QS.length_eq,uu]
   have Xj:(upd Hz D (HO.lst (List.map (λa=>V.ref a.1) (List.map (λa:Addr×M4=>(a.1,a.2.row)) rs)))) D=some (.lst (rs.map λa=>V.ref a.1)):=by rw [yq,yR];rfl
   have rD:=λa (ha:a∈rs)=>(dB.new (o:=HO.lst (List.map (λa=>V.ref a.1) (List.map (λa:Addr×M4=>(a.1,a.2.row)) rs))) hD) _ _ (gz.aJ go.2 _ _ (O9 a (QS.mem_iff.mp ha)));have gD:=(go.trans gz).new (o:=HO.lst (List.map (λa=>V.ref a.1) (List.map (λa:Addr×M4=>(a.1,a.2.row)) rs))) hD;refine (let W2:IC:=λi τ acc H5=>∃ ps:List (Addr×M4),(∃ t0 t1 t2 t3,τ=[t0,t1,t2,t3,some (.int fO)])/\acc=(ps.map λa=>V.ref a.1)/\(ps.map (·.2))=((rs.take i).map λa=>a.2.fO fO)/\gw H5 ps/\aj (upd Hz D (HO.lst (List.map (λa=>V.ref a.1) (List.map (λa:Addr×M4=>(a.1,a.2.row)) rs)))) H5;wd (K:=K) (a:=D) (xs:=rs.map λa=>V.ref a.1) W2)
    ?_ (by rw [zA];omega) ?_ ?_ ?_
   ·exact ⟨[],⟨_,_,_,_,rfl⟩,rfl,rfl,(λ_ z=>nomatch z),aj.refl _⟩
   ·rintro i τ acc H6 ⟨ps,⟨t0,t1,t2,t3,rfl⟩,rfl,MC,rws,sm⟩;have:=congrArg List.length MC;rw [zA,zA,zW] at this;exact ⟨by rw [zA];omega,sm.seq (av.of Xj)⟩
   ·rintro i x τ acc H5 C hx ⟨ps,⟨t0,t1,t2,t3,rfl⟩,rfl,MC,rws,sm⟩ hC;obtain ⟨r,hr,rfl⟩:=xT hx;have kH:=sm _ _ (rD r (zB hr));refine (MK kH (zr rfl (zr rfl (zr rfl (zr rfl (aD rfl rfl (zr rfl ⟨by show 4<=sizeLine;omega,λt ht=>hC _ _ _ ?_⟩)))))));refine ⟨ps++[(t,r.2.fO fO)],⟨_,_,_,_,rfl⟩,by rw [zJ];rfl,by rw [zJ,xb hr,zJ,MC];rfl,λa ha=>?_,sm.trans (yy ht)⟩;rcases zS.mp ha with h | h
    ·exact yy ht _ _ (rws a h)
    ·cases zG.mp h;exact yq
   ·rintro τ acc H6 ⟨ps,⟨t0,t1,t2,t3,rfl⟩,rfl,MC,rws,sm⟩ lt cM;refine ⟨lt,zr rfl (.inl ⟨av.of yq,λt ht=>q t ps _ (((gD.same sm).new cM).new ht) yq ((rws.aJ (dB.new cM)).aJ (dB.new ht)) ?_ ?_⟩)⟩
    ·rw [MC,zA,zk];exact F.good (by omega) L0 L1 QS VB
    ·have:=congrArg List.length MC;rw [zA,zA,zA,zk] at this;omega
theorem DM:aA ["_law_purse_here", "_law_most_walkers", "_law_most_meetings", "_law_walkers", "_law_most_here"] ["_law_purse_here", "_law_most_walkers", "_law_most_meetings"] (ai BY):=L2.aY
theorem FS (T:Tx K mg a):aR P w K mg base cO 4 a.AZ a.BJ ["_law_purse_here", "_law_most_walkers", "_law_most_meetings"] (KY):=by
 have Aa:=xl P w base T;have Gw:=E9 P w base T;have EJ:=El P w base T;refine T.Bp.ok DM (λvs H Q E h=>?_) (λbG A outer s H vs Q E hr h=>?_)
 ·obtain ⟨p,a,n,rfl,_⟩:=h;rfl
 ·have nd:=DM.nd;have hu:=hr.units;obtain ⟨p,aw,n,rfl,a1,a2,hn,hp,q⟩:=h;refine bO ?_;intro Y
  let B0:Bk Y ((ah BY).drop 3):=⟨_,(yx (xP (xM (bS (yp (yr (xF Gw (hr.mono (by decide)) rfl T.FW T.Gb T.Gg .nil au (yp (yr (pv 0) (yr (pv 3) xB rfl) rfl))) (yr (xF EJ (hr.mono (by decide)) rfl T.EF T.EG T.EH .nil au (yp (yr (pv 0) (yr (pv 3) (yr (pv 4) xB rfl) rfl) rfl))) xB rfl) rfl))))))⟩
  let B1:Bk Y ((ah BY).drop 1):=⟨_,(yx (xN (xL (i:=4) nd rfl rfl (xF Aa (hr.mono (by decide)) rfl T.Ab T.Ac T.Ae .nil au (yp (yr (pv 0) (yr (xI xU (pv 2) yu) xB rfl) rfl)))) (xN (xg (xR cE (pv 3) yu (aB _)) (yx (xP (xL (i:=4) nd rfl rfl yu))) xQ) B0.bl)))⟩
  refine ⟨_,(yx (xN (xL (i:=3) nd rfl rfl (xI xU yu (xF Aa (hr.mono (by decide)) rfl T.Ab T.Ac T.Ae .nil au (yp (yr (pv 0) (yr (pv 1) xB rfl) rfl))))) B1.bl)),?_⟩;have line:1001<=sizeLine:=by rw [sizeLine_eq];decide
  have oR:(2:Int) ^ 200 > 1000:=by decide
  refine (zr rfl (zr rfl ⟨p,aw,rfl,by omega,by omega,hp,λd H1 d0 d1 g1=>(aD rfl rfl ?_)⟩));obtain ⟨k,rfl⟩:=zQ d0;refine (zr rfl (zr rfl (aD rfl rfl ⟨p,zr rfl ⟨by omega,by omega,g1.2,λe H2 e0 e1 g2=>?_⟩⟩)));obtain ⟨m,em⟩:=zQ e0;have hm:m<=n:=by omega
  refine ⟨_,rfl,rfl,_,rfl,jy (fun σ H3=>∃ m:Nat,σ=[some (.ref p),some (.int aw),some (.int n),some (.int (1 + (k:Int))),some (.int m)]/\m<=n/\(m=0\/1<=k)/\Go p H H3) ?_ (λc k0=>k0 _ _ ⟨0,rfl,zV _,.inl rfl,g1.trans g2⟩) (λc=>⟨m,by rw [em];rfl,hm,.inr (by
    by_cases hk:k=0
    ·subst hk;exact absurd c (by simp)
    ·omega),g1.trans g2⟩)⟩
  rintro σ H2 ⟨m,rfl,hm,hk,g2⟩;refine (zr rfl (zr rfl ⟨p,1 + k,by simp,by omega,g2.2,λtr af H3 g3 h3 l3 r3=>(zr rfl (zr rfl (zr rfl ⟨p,_,m,rfl,by omega,by omega,by omega,g3.2,λtm ps H4 g4 h4 r4 gd l4=>⟨by show 2<=sizeLine;omega,λb hb=>?_⟩⟩)))⟩));have Xn:=g4.aJ g3.2 _ _ h3;have tn:=dB.new (o:=HO.tup [V.ref tr,V.ref tm]) hb;refine q b af tr tm ps _ ((g2.trans (g3.trans g4)).new hb) ⟨yq,tn _ _ Xn,tn _ _ h4,r4.aJ tn⟩ (by omega) (by omega) r3 ?_ (by omega);rw [l3];simpa using gd
theorem DG:aA ["_law_purse_here", "_law_book_here", "_law_later", "_law_way", "_law_at"] ["_law_purse_here", "_law_book_here", "_law_later"] (ai wH):=L2.aY
theorem DO (T:Tx K mg a):aR P w K mg base cO 3 a.AT a.BD ["_law_purse_here", "_law_book_here", "_law_later"] (sQ):=by
 have Aa:=xl P w base T;have Hs:=GB P w base T;refine T.Bi.ok DG (λvs H Q E h=>?_) (λbG A outer s H vs Q E hr h=>?_)
 ·obtain ⟨p,b,j,_,_,_,_,rfl,_⟩:=h;rfl
 ·have nd:=DG.nd;have hu:=hr.units;obtain ⟨p,b,j,af,tr,tm,ps,rfl,hj,hb,gd,hp,q⟩:=h;refine bO ?_;intro Y
  let B0:Bk Y ((ah wH).drop 6):=⟨_,(yx (xP (xM (xI cY (xJ (xX rfl) (xJ (xX rfl) (xJ (xX rfl) (pv 1) yu (λ_ _=>rfl)) (pv 4) (λ_ _=>rfl)) yu (λ_ _=>rfl)) (xJ (xE rfl) (xY (yp (yr yu (yr yu xB rfl) rfl))) (xI Lf (xI wT (xF Aa (hr.mono (by decide)) rfl T.Ab T.Ac T.Ae .nil au (yp (yr (pv 0) (yr yu xB rfl) rfl))) yu) (pv 2)) (λ_ _=>rfl))))))⟩
  let B1:Bk Y (nb (ah wH) 5):=⟨_,(yx (xP (xL (i:=4) nd rfl rfl (xJ (xE rfl) (xY (yp (yr (xI wT (pv 4) yu) (yr (xI wT (xI xU (pv 4) (xG (xD rfl) (by rfl) T.aH PySem.boot_len (yp (yr (xJ (xX rfl) (pv 1) yu (λ_ _=>rfl)) xB rfl)))) yu) xB rfl) rfl))) (pv 2) (λ_ _=>rfl)))))⟩
  let B2:Bk Y ((ah wH).drop 4):=⟨_,(yx (xN (xL (i:=4) nd rfl rfl (xF Aa (hr.mono (by decide)) rfl T.Ab T.Ac T.Ae .nil au (yp (yr (pv 0) (yr (xG (xD rfl) (by rfl) T.aH PySem.boot_len (yp (yr (xJ (xX rfl) (pv 1) yu (λ_ _=>rfl)) xB rfl))) xB rfl) rfl)))) (xN (xg (xR fL (pv 3) yu (aB _)) B1.ps xQ) B0.bl)))⟩
  let B3:Bk Y ((ah wH).drop 3):=⟨_,(yx (xN (xg (xR (qN hu) (xJ (xX rfl) (pv 1) yu (λ_ _=>rfl)) (bS bT) (aB _)) (yx (xP (xM (xF Aa (hr.mono (by decide)) rfl T.Ab T.Ac T.Ae .nil au (yp (yr (pv 0) (yr yu xB rfl) rfl)))))) xQ) B2.bl))⟩
  let B4:Bk Y ((ah wH).drop 2):=⟨_,(yx (xN (xg (xR cE (pv 3) yu (aB _)) (yx (xP (xM (xF Hs (hr.mono (by decide)) rfl T.Ha T.He T.Hi .nil au (yp (yr (pv 0) xB rfl)))))) xQ) B3.bl))⟩
  let B5:Bk Y ((ah wH).drop 1):=⟨_,(yx (xN (xg (xR cE (pv 3) yu (aB _)) (yx (xP (xM (xJ (xE rfl) (xY (yp (yr yu (yr (xI gg yu yu) xB rfl) rfl))) (pv 2) (λ_ _=>rfl))))) xQ) B4.bl))⟩
  refine ⟨_,(yx (xN (xL (i:=3) nd rfl rfl (xF Aa (hr.mono (by decide)) rfl T.Ab T.Ac T.Ae .nil au (yp (yr (pv 0) (yr yu xB rfl) rfl)))) B5.bl)),?_⟩;have line:=bg;have oR:(2:Int) ^ 200 > 10000:=by decide
  have c9:rJ 10 9:=⟨by decide,by decide,by decide⟩;have e9:(10:Int) ^ Int.toNat 9=1000000000:=by decide
  have Wj:=gd.len;refine (zr rfl ⟨p,zr rfl ⟨by decide,by decide,hp,λway H1 w0 w1 g1=>?_⟩⟩);refine (zr rfl ⟨rfl,zr rfl (jz (λc=>?_) (λc=>(zr rfl ⟨rfl,zr rfl (jz (λc=>?_) (λc=>?_))⟩)))⟩)
  ·refine (aD rfl rfl ⟨c9,by show 2<=sizeLine;omega,λl hl=>(zr rfl ?_)⟩);rcases hj with rfl | rfl
   ·exact (bq yq rfl (q _ _ (by omega) (by omega) (g1.new hl)))
   ·exact (bq yq rfl (q _ _ (by rw [e9];decide) (by rw [e9];decide) (g1.new hl)))
  ·exact (zr rfl ⟨p,rfl,g1.2,λd H2 d0 d1 g2=>q _ _ d0 d1 (g1.trans g2)⟩)
  have bZ:=hb.aJ (g1.aJ hp);refine (zr rfl (di bZ.book rfl ⟨zV _,λu NJ=>?_⟩));have iy:=bZ.aJ (dB.new (o:=HO.tup []) NJ);have g2:=g1.new (o:=HO.tup []) NJ;refine ⟨tm,u,zr rfl ⟨rfl,bC.of iy.meets,bC.of yq,zr rfl (Jt (λc2=>?_) (λc2=>?_))⟩⟩
  ·exact (zr rfl ⟨p,zr rfl ⟨by decide,by decide,g2.2,λd H3 d0 d1 g3=>q _ _ d0 (by omega) (g2.trans g3)⟩⟩)
  have YU:1<=ps.length:=by
   cases ps with
   | nil=>cases c2
   | cons _ _=>simp
  refine (zr rfl (zr rfl (di iy.book rfl ⟨tm,zr rfl ⟨.inr (bC.of iy.meets),p,zr rfl ⟨by rw [zA];omega,by rw [zA];omega,g2.2,λd H3 d0 d1 g3=>?_⟩⟩⟩)));rw [zA] at d1;have LK:=iy.aJ (g3.aJ g2.2);have UK:=g2.trans g3;refine (zr rfl (aD rfl rfl (zr rfl (jz (λc3=>?_) (λc3=>?_)))))
  ·refine (zr rfl (aD rfl rfl ⟨⟨by decide,by decide⟩,zr rfl (zr rfl (di LK.book rfl ⟨tm,zr rfl ⟨.inr (bC.of LK.meets),aD rfl rfl (aD rfl rfl ⟨⟨by decide,by decide⟩,by show 2<=sizeLine;omega,λl hl=>(zr rfl ?_)⟩)⟩⟩))⟩));have gx:=UK.new (o:=HO.lst [V.int (d / 2),V.int ((d + ((ps.map λa=>V.ref a.1).length:Int)) / 2)]) hl;have hx:=LK.aJ (dB.new (o:=HO.lst [V.int (d / 2),V.int ((d + ((ps.map λa=>V.ref a.1).length:Int)) / 2)]) hl);obtain ⟨k,ek,hk⟩:∃ k:Nat,ee [V.int (d / 2),V.int ((d + ((ps.map λa=>V.ref a.1).length:Int)) / 2)] j=some (V.int (k:Int))/\k < ps.length:=by
    rcases hj with rfl | rfl
    ·obtain ⟨k,hk⟩:=zQ (show 0<=d / 2 by omega);exact ⟨k,by rw [<-hk];rfl,by omega⟩
    ·obtain ⟨k,hk⟩:=zQ (show 0<=(d + ((ps.map λa=>V.ref a.1).length:Int)) / 2 by omega);refine ⟨k,by rw [<-hk];rfl,?_⟩;rw [zA] at hk;omega
   refine (bq yq ek ?_);refine (zr rfl (di hx.book rfl (zr rfl (di hx.meets (xW (v:=V.ref ps[k].1) (by simp [hk])) (di (hx.rows _ (zp hk)) rfl ⟨by show 2<=sizeLine;omega,λl9 NS=>?_⟩)))));have g9:=gx.new (o:=HO.lst [V.int 1,V.int 0]) NS;refine (zr rfl ⟨p,zr rfl ⟨by decide,by decide,g9.2,λe H9 e0 e1 jr=>(aD rfl rfl ⟨⟨by decide,by decide⟩,zr rfl (aD rfl rfl ?_)⟩)⟩⟩);have h9:=jr.1 l9 _ (gx.2.ne NS) yq;have tb:=gd.at (zp hk);have bx:(e / 3=0\/e / 3=1):=by omega
   rcases hj with rfl | rfl <;> rcases bx with bx | bx <;> rw [bx]
   ·exact (bq h9 (by decide:ee [V.int 1,V.int 0] (Builtin.bitXor 0 0)=some (V.int 1)) (aD rfl rfl (q _ _ (by omega) (by omega) (g9.trans jr))))
   ·exact (bq h9 (by decide:ee [V.int 1,V.int 0] (Builtin.bitXor 1 0)=some (V.int 0)) (aD rfl rfl (q _ _ (by omega) (by omega) (g9.trans jr))))
   ·exact (bq h9 (by decide:ee [V.int 1,V.int 0] (Builtin.bitXor 0 1)=some (V.int 0)) (aD rfl rfl (q _ _ (by omega) (by omega) (g9.trans jr))))
   ·exact (bq h9 (by decide:ee [V.int 1,V.int 0] (Builtin.bitXor 1 1)=some (V.int 1)) (aD rfl rfl (q _ _ (by omega) (by omega) (g9.trans jr))))
  ·have gx:=UK;have hx:=LK;obtain ⟨k,rfl⟩:=zQ d0;have hk:k < ps.length:=by omega
   refine (zr rfl (di hx.book rfl (zr rfl (di hx.meets (xW (v:=V.ref ps[k].1) (by simp [hk])) (di (hx.rows _ (zp hk)) rfl ⟨by show 2<=sizeLine;omega,λl9 NS=>?_⟩)))));have g9:=gx.new (o:=HO.lst [V.int 1,V.int 0]) NS;refine (zr rfl ⟨p,zr rfl ⟨by decide,by decide,g9.2,λe H9 e0 e1 jr=>(aD rfl rfl ⟨⟨by decide,by decide⟩,zr rfl (aD rfl rfl ?_)⟩)⟩⟩);have h9:=jr.1 l9 _ (gx.2.ne NS) yq;have tb:=gd.at (zp hk);have bx:(e / 3=0\/e / 3=1):=by omega
   rcases hj with rfl | rfl <;> rcases bx with bx | bx <;> rw [bx]
   ·exact (bq h9 (by decide:ee [V.int 1,V.int 0] (Builtin.bitXor 0 0)=some (V.int 1)) (aD rfl rfl (q _ _ (by omega) (by omega) (g9.trans jr))))
   ·exact (bq h9 (by decide:ee [V.int 1,V.int 0] (Builtin.bitXor 1 0)=some (V.int 0)) (aD rfl rfl (q _ _ (by omega) (by omega) (g9.trans jr))))
   ·exact (bq h9 (by decide:ee [V.int 1,V.int 0] (Builtin.bitXor 0 1)=some (V.int 0)) (aD rfl rfl (q _ _ (by omega) (by omega) (g9.trans jr))))
   ·exact (bq h9 (by decide:ee [V.int 1,V.int 0] (Builtin.bitXor 1 1)=some (V.int 1)) (aD rfl rfl (q _ _ (by omega) (by omega) (g9.trans jr))))
theorem Dm:aA ["_law_thing"] ["_law_thing"] (ai Cz):=L2.aY
theorem Dt (T:Tx K mg a):aR P w K mg base cO 1 a.AH a.Bt ["_law_thing"] (pD):=by
 refine T.A4.ok Dm (λvs H Q E h=>?_) (λbG A outer s H vs Q E hr h=>?_)
 ·obtain ⟨x,t,rfl,_⟩:=h;rfl
 ·have nd:=Dm.nd;have hu:=hr.units;obtain ⟨x,t,rfl,ht,k⟩:=h;refine ⟨_,(yx (xP (xM (gf (xG (xu) (by rfl) T.aK zd (yp (yr (pv 0) (yr (bL (v:=V.ty "int") rfl T.Ko PyProof.Rows.boot_int rfl) xB rfl) rfl))) (iR (tN (xG (xu) (by rfl) T.aK zd (yp (yr (pv 0) (yr (bL (v:=V.ty "bool") rfl T.vF PyProof.Rows.boot_bool rfl) xB rfl) rfl))))))))),?_⟩;refine (zr rfl ⟨x,t, "int", rfl,ht,.inl rfl,zr rfl ?_⟩);rcases fu ht with rfl | rfl | rfl | rfl | rfl | rfl | rfl <;> first | exact aG rfl k | exact aO rfl ⟨_,rfl,x,_, "bool", rfl,ht,.inr (.inl rfl),_,rfl,k⟩
theorem Er:aA ["thing"] ["thing"] (ai Du):=L2.aY
theorem Gz (T:Tx K mg a):aR P w K mg base cO 1 a.Bd a.BR ["thing"] (pD):=by
 refine T.By.ok Er (λvs H Q E h=>?_) (λbG A outer s H vs Q E hr h=>?_)
 ·obtain ⟨x,t,rfl,_⟩:=h;rfl
 ·have nd:=Er.nd;have hu:=hr.units;obtain ⟨x,t,rfl,ht,k⟩:=h;refine ⟨_,(yx (xP (xM (gf (xG (xu) (by rfl) T.aK zd (yp (yr (pv 0) (yr (bL (v:=V.ty "int") rfl T.Ko PyProof.Rows.boot_int rfl) xB rfl) rfl))) (iR (tN (xG (xu) (by rfl) T.aK zd (yp (yr (pv 0) (yr (bL (v:=V.ty "bool") rfl T.vF PyProof.Rows.boot_bool rfl) xB rfl) rfl))))))))),?_⟩;simp only [LP,Kf,Oc,MN,S7,pJ,Ob,JS,Uc,rU,K8,K7,JW,KL,IK,MV,MQ,MR,S4,rN,rI,KJ,tC,pX,JR,QC,su,ql,JT,Qz,JO,lP,JN,tB,MT,MW,S6,JP,Tu,Tq,IY,QF,Te,Tf,KP,MO,MU,S5,pA,sr,oS,L2.start,yl,List.map_nil,zl,yd,Nat.reduceAdd,Nat.reduceSub,List.replicate,List.cons_append,List.nil_append,List.append_nil,List.getElem?_cons_zero,List.getElem?_cons_succ,Option.some.injEq,exists_eq_left',exists_eq_left,exists_and_left,and_assoc,V.int.injEq,V.ty.injEq,V.str.injEq,V.bl.injEq,V.ref.injEq,List.cons.injEq,and_true,true_and,List.set_cons_zero,List.set_cons_succ];simp only [V.ty.injEq,ht,Option.some.injEq,exists_eq_left',exists_and_left,true_or,or_true,true_and];rcases fu ht with rfl | rfl | rfl | rfl | rfl | rfl | rfl <;> simpa [mP] using k
theorem Es:aA ["thing"] ["thing"] (ai Dv):=L2.aY
theorem GA (T:Tx K mg a):aR P w K mg base cO 2 a.Be a.BS ["thing"] (IQ):=by
 have Hq:=Gz P w base T;refine T.Bz.ok Es (λvs H Q E h=>?_) (λbG A outer s H vs Q E hr h=>?_)
 ·obtain ⟨x,t,rfl,_⟩:=h;rfl
 ·have nd:=Es.nd;have hu:=hr.units;obtain ⟨x,t,rfl,ht,k⟩:=h;refine ⟨_,(yx (xP (xM (gf (xF Hq (hr.mono (by decide)) rfl T.G8 T.Hc T.Hg .nil au (yp (yr (pv 0) xB rfl))) (iR (cC tZ (pv 0) yu (aB _))))))),?_⟩;refine (zr rfl ⟨x,t,rfl,ht,zr rfl ?_⟩);by_cases h:t = "int"
  ·subst h;obtain ⟨i,rfl⟩:=IE ht;exact aO rfl (zr rfl (aD rfl rfl k))
  ·refine aG (by simpa using h) ?_;have e:kX x=false:=by
    cases x <;> first | rfl | exact absurd (Option.some.inj ht).symm h
   rwa [e] at k
theorem Dl:aA ["thing", "size"] ["thing", "size"] (ai Cc):=L2.aY
theorem E8 (T:Tx K mg a):aR P w K mg base cO 3 a.AG a.Bs ["thing", "size"] (qy):=by
 have Hr:=GA P w base T;refine T.A3.ok Dl (λvs H Q E h=>?_) (λbG A outer s H vs Q E hr h=>?_)
 ·obtain ⟨_,_,rfl,_⟩:=h;rfl
 ·have nd:=Dl.nd;have hu:=hr.units;obtain ⟨v,n,rfl,dt,V9,q⟩:=h;refine ⟨_,(yx (xP (xM (gf (xG (xu) (by rfl) T.aK zd (yp (yr (pv 0) (yr (bL (v:=V.ty "list") rfl T.bU zj rfl) xB rfl) rfl))) (gf (cC cE (xG (xD rfl) (by rfl) T.aH PySem.boot_len (yp (yr (pv 0) xB rfl))) (pv 1) (aB _)) (iR (xG (dS rfl rfl) (by rfl) T.nu yb (yp (yr (wP (own:=["number"]) (caps:=[]) rfl (show aC ["number"] [] ["thing", "size"] (ai Cc) _ from L2.dQ) (xa rfl (pv 0)) (λ_ _ _ _=>(xH (i:=0) (show List.Nodup (["number"]:List Str) from by decide +kernel) rfl rfl)) (λ_ _ _ _=>wS) (λ_ _ _ _=>(xF Hr (hr.mono (by decide)) rfl T.G9 T.Hd T.Hh .nil au (yp (yr (pv 0) xB rfl))))) xB rfl))))))))),?_⟩;have line:=bg;rcases dt.way with ⟨l,xs,rfl,kl,e1,_,ex⟩ | ⟨l,xs,rfl,kl,e1,_,ex⟩ | ⟨t,ht,n1,_,e1,_⟩
  ·have cv:aF H n (.ref l)=(decide (xs.length=n) && xs.all kX):=by simp only [aF,e1]
   refine (zr rfl ⟨_, "list", "list", rfl,bK kl,.inr (.inr (.inl rfl)),zr rfl (aO rfl (zr rfl ⟨l,zr rfl ⟨.inl (av.of kl),zr rfl ⟨rfl,zr rfl ?_⟩⟩⟩))⟩);by_cases e:xs.length=n
   ·refine aO (decide_eq_true (by rw [e])) ?_;refine (zr rfl ⟨l,rfl,⟨_,av.of kl⟩,?_⟩);refine (let W3:IC:=λi τ acc H5=>(∃ t0,τ=[t0])/\acc=((xs.take i).map kX).map V.bl/\aj H H5;wd (K:=K) (a:=l) (xs:=xs) W3 ⟨⟨_,rfl⟩,rfl,aj.refl _⟩ (by omega) ?_ ?_ ?_)
    ·rintro i τ acc H5 ⟨_,rfl,sm⟩;refine ⟨?_,av.of (sm _ _ kl)⟩;rw [zA,zA,zW];omega
    ·rintro i v τ acc H5 C hv ⟨⟨t0,rfl⟩,rfl,sm⟩ hC;obtain ⟨ty,Ro⟩:=ex v (zB hv);refine (zr rfl ⟨v,ty,rfl,fz sm Ro,?_⟩);refine hC _ _ _ ⟨⟨_,rfl⟩,?_,sm⟩;rw [xb hv,zJ,zJ];rfl
    ·rintro τ acc H5 ⟨⟨t0,rfl⟩,rfl,sm⟩ lc eY;refine ⟨lc,zr rfl ⟨av.of yq,?_⟩⟩;have z:=q _ (sm.trans (yy (o:=HO.lst (((xs.take xs.length).map kX).map V.bl)) eY));rw [cv,decide_eq_true e,yj] at z;rw [zk,yo] at *;exact z
   ·refine aG (decide_eq_false (λz=>e (Int.ofNat.inj (V.int.inj z)))) ?_;have z:=q _ (aj.refl _);rwa [cv,decide_eq_false e,zo] at z
  ·refine (zr rfl ⟨_, "tuple", "list", rfl,fq kl,.inr (.inr (.inl rfl)),zr rfl (aG rfl ?_)⟩);have z:=q _ (aj.refl _);rwa [show aF H n (.ref l)=false by simp only [aF,e1]] at z
  ·refine (zr rfl ⟨_,t, "list", rfl,ht,.inr (.inr (.inl rfl)),zr rfl (aG n1 ?_)⟩);have z:=q _ (aj.refl _);rwa [show aF H n v=false by simp only [aF,e1]] at z
theorem EK:aA ["book", "time"] ["book", "time"] (ai De):=L2.aY
theorem EN (T:Tx K mg a):aR P w K mg base cO 1 a.BK a.Ce ["book", "time"] (lX):=by
 refine T.BW.ok EK (λvs H Q E h=>?_) (λbG A outer s H vs Q E hr h=>?_)
 ·obtain ⟨b,t,_,_,_,_,rfl,_⟩:=h;rfl
 ·have nd:=EK.nd;have hu:=hr.units;obtain ⟨b,t,af,tr,tm,ps,rfl,hb,hn,q⟩:=h;refine ⟨_,(yx (xP (xM (xG (xD rfl) (by rfl) T.aH PySem.boot_len (yp (yr (wP (own:=["meeting"]) (caps:=[1]) rfl (show aC ["meeting"] [1] ["book", "time"] (ai De) _ from L2.dQ) (mw rfl (xJ (xX rfl) (pv 0) yu (λ_ _=>rfl))) (λ_ _ _ _=>(xH (i:=0) (show List.Nodup (["meeting", "time"]:List Str) from by decide +kernel) rfl rfl)) (λ_ _ _ _=>iu (xR tY (xJ (xX rfl) (pv 0) yu (λ_ _=>rfl)) (pv 1) (aB _))) (λ_ _ _ _=>(pv 0))) xB rfl)))))),?_⟩;refine (zr rfl (di hb.book rfl ⟨tm,rfl,⟨_,bC.of hb.meets⟩,?_⟩));refine (let W4:IC:=λi τ acc H5=>(∃ t0,τ=[t0,some (.int t)])/\acc.length=cnt ((ps.map (·.2)).take i) t/\acc.length<=i/\aj H H5;ng (K:=K) (a:=tm) (xs:=ps.map λa=>V.ref a.1) W4)
   ?_ (by rw [zA];omega) ?_ ?_ ?_
  ·exact ⟨⟨_,rfl⟩,rfl,zE _,aj.refl _⟩
  ·rintro i τ acc H5 ⟨⟨t0,rfl⟩,_,le,sm⟩;exact ⟨le,bC.of (sm _ _ hb.meets)⟩
  ·rintro i x τ acc H5 C hx ⟨⟨t0,rfl⟩,ec,le,sm⟩ hC;obtain ⟨r,hr,rfl⟩:=xT hx;have kH:=sm _ _ (hb.rows r (zB hr));have hm:(ps.map (·.2))[i]?=some r.2:=by rw [zF,hr];rfl
   refine (zr rfl (di kH rfl (zr rfl (aD rfl rfl (zr rfl (jz (λc=>(zr rfl (hC _ _ _ ?_))) (λc=>hC _ _ _ ?_)))))))
   ·exact ⟨⟨_,rfl⟩,by rw [fU hm,if_pos c,zH,ec];rfl,by rw [zH];exact Nat.succ_le_succ le,sm⟩
   ·exact ⟨⟨_,rfl⟩,by rw [fU hm,if_neg c,ec];rfl,by omega,sm⟩
  ·rintro τ acc H5 ⟨⟨t0,rfl⟩,ec,le,sm⟩ l hl;have e:(ps.map λa=>V.ref a.1).length=(ps.map (·.2)).length:=by simp
   rw [e,zk] at ec;refine ⟨l,zr rfl ⟨.inl (av.of yq),?_⟩⟩;rw [ec];exact q _ (sm.trans (yy hl))
theorem Hu:aA ["book", "told", "number", "one", "other", "when", "many"] ["book"] (ai Ek):=L2.aY
theorem Ig (T:Tx K mg a):aR P w K mg base cO 1 a.Db a.Eo ["book"] (KS):=by
 refine T.DE.ok Hu (λvs H Q E h=>?_) (λbG A outer s H vs Q E hr h=>?_)
 ·obtain ⟨b,_,_,_,_,rfl,_⟩:=h;rfl
 ·have nd:=Hu.nd;have hu:=hr.units;obtain ⟨b,af,tr,tm,ps,rfl,hb,gd,q⟩:=h;refine bO ?_;intro Y
  let B0:Bk Y ((nb (ah Ek) 1).drop 1):=⟨_,(yx (xP (wb (cD zX zZ za xw (pv 1) (yp (yr (bS (yp (yr (pv 2) (yr (pv 4) (yr (pv 3) (yr (pv 5) xB rfl) rfl) rfl) rfl))) xB rfl))))))⟩
  let B1:Bk Y (nb (ah Ek) 1):=⟨_,(yx (xN (wb (cD zX zZ za xw (pv 1) (yp (yr (bS (yp (yr (pv 2) (yr (pv 3) (yr (pv 4) (yr (pv 5) xB rfl) rfl) rfl) rfl))) xB rfl)))) B0.bl))⟩
  let B2:Bk Y ((ah Ek).drop 1):=⟨_,(yx (xN (xj PassesOwn.never rfl (mz rfl rfl T.bF (yp (yr (xJ (xX rfl) (pv 0) yu (λ_ _=>rfl)) xB rfl))) (xp (n:=2) rfl rfl (xK (xH (i:=2) nd rfl rfl) (xK (xp (n:=4) rfl rfl (xK (xH (i:=3) nd rfl rfl) (xK (xH (i:=4) nd rfl rfl) (xK (xH (i:=5) nd rfl rfl) (xK (xH (i:=6) nd rfl rfl) xo))))) xo))) B1.ps) (xP (xM (pv 1)))))⟩
  refine ⟨_,(yx (xN (xL (i:=1) nd rfl rfl (xY bT)) B2.bl)),?_⟩;have line:=bg;have Wj:=gd.len;refine ⟨zV _,λl hl=>?_⟩;have bZ:=hb.same (yy (o:=HO.lst []) hl);refine (zr rfl (di bZ.book rfl ⟨tm,rfl,⟨_,bC.of bZ.meets⟩,?_⟩));refine (let W5:IV:=λi σ H4=>(∃ v2 v3 v4 v5 v6,σ=[some (.ref b),some (.ref l),v2,v3,v4,v5,v6])/\aj H H4/\∃ ws:List (Addr×W4),H4 l=some (.lst (ws.map λa=>V.ref a.1))/\(∀ a∈ws,H4 a.1=some (.tup a.2.vs))/\ws.map (·.2)=cP (ps.map (·.2)) i/\ws.length=2 * i;jS (K:=K) (a:=tm) (xs:=ps.map λa=>V.ref a.1) W5)
   ⟨⟨_,_,_,_,_,rfl⟩,yy hl,[],yq,(λ_ z=>nomatch z),rfl,rfl⟩ (λi σ H4 _ h4=>bC.of ((hb.same h4.2.1).meets)) ?_ ?_
  ·rintro i x q' σ H4 hx hq ⟨⟨v2,v3,v4,v5,v6,rfl⟩,sm,ws,h4,hr,ew,lw⟩;obtain ⟨r,O2,rfl⟩:=xT hx;have hi:i < ps.length:=(zI.mp O2).1;have hm:(ps.map (·.2))[i]?=some r.2:=by rw [zF,O2];rfl
   obtain ⟨a1,a2,a3,a4,a5,_⟩:=gd.at (zB O2);have Td:=sm.trans (yy (o:=HO.tup [.int i,.ref r.1]) hq);have kH:=(hb.same Td).rows r (zB O2);have h5:=(yy (o:=HO.tup [.int i,.ref r.1]) hq) _ _ h4;refine ⟨q',zr rfl ⟨bC.of yq,rfl,jE rfl (jE rfl (MK kH ⟨rfl,?_⟩))⟩⟩;refine (zr rfl ⟨.inl ⟨rfl,_,av.of h5⟩,zr rfl (zr rfl (zr rfl (zr rfl ⟨by show 4<=sizeLine;omega,λt1 Mp=>⟨l,aD rfl rfl ⟨yy Mp _ _ h5,by rw [zA];omega,?_⟩⟩⟩)))⟩);have n1:t1≠l:=(xA h5 Mp).symm;refine (zr rfl ⟨.inl ⟨rfl,_,av.of yq⟩,zr rfl (zr rfl (zr rfl (zr rfl ⟨by show 4<=sizeLine;omega,λt2 rO=>⟨l,aD rfl rfl ⟨yy rO _ _ yq,by rw [zH,zA];show ws.length + 1 < sizeLine;omega,?_⟩⟩⟩)))⟩);have n2:t2≠l:=λz=>by rw [z,yq] at rO;cases rO
   have YS:t1≠t2:=λz=>by rw [<-z,xC n1,yq] at rO;cases rO
   have e1:(r.2.lo.toNat:Int)=r.2.lo:=Int.toNat_of_nonneg a1;have e2:(r.2.hi.toNat:Int)=r.2.hi:=Int.toNat_of_nonneg (by omega);have VD:aj H (upd (upd (upd (upd (upd H4 q' (.tup [.int i,.ref r.1])) t1 (.tup [.int i,.int r.2.lo,.int r.2.hi,.int r.2.t])) l (.lst ((ws.map λa=>V.ref a.1)++[.ref t1]))) t2 (.tup [.int i,.int r.2.hi,.int r.2.lo,.int r.2.t])) l (.lst ((ws.map λa=>V.ref a.1)++[.ref t1]++[.ref t2]))):=
    aj.put hl ((aj.put hl (Td.trans (yy Mp))).trans (yy rO))
   refine ⟨⟨_,_,_,_,_,rfl⟩,VD,ws++[(t1,⟨i,⟨r.2.lo.toNat,r.2.hi.toNat,r.2.t⟩⟩),(t2,⟨i,⟨r.2.hi.toNat,r.2.lo.toNat,r.2.t⟩⟩)],?_,λa ha=>?_,?_,?_⟩
   ·rw [yq,zJ,List.append_assoc];rfl
   ·rcases zS.mp ha with h | h
    ·have:=hr a h;have na:a.1≠l:=pP this h4 (by intro z;cases z);have b1:=yy (o:=HO.tup [.int i,.ref r.1]) hq _ _ this;have b2:=yy (o:=HO.tup [.int i,.int r.2.lo,.int r.2.hi,.int r.2.t]) Mp _ _ b1;rw [xC na];exact yy rO _ _ (by rw [xC na];exact b2)
    ·simp only [zO,zh,or_false] at h;rcases h with rfl | rfl
     ·rw [xC n1];refine yy rO _ _ ?_;rw [xC n1,yq];show _=some (HO.tup [.int i,.int (r.2.lo.toNat:Int),.int (r.2.hi.toNat:Int),.int r.2.t]);rw [e1,e2]
     ·rw [xC n2,yq];show _=some (HO.tup [.int i,.int (r.2.hi.toNat:Int),.int (r.2.lo.toNat:Int),.int r.2.t]);rw [e1,e2]
   ·rw [zJ,ew,nO hm];rfl
   ·rw [zH,lw];show 2 * i + 2=_;omega
  ·rintro σ H4 ⟨⟨v2,v3,v4,v5,v6,rfl⟩,sm,ws,h4,hr,ew,lw⟩;rw [zA] at ew;exact (zr rfl (q l ws _ hl sm h4 hr ew))
theorem Fv:aA ["wishes"] ["wishes"] (ai EM):=L2.aY
theorem Fw (T:Tx K mg a):aR P w K mg base cO 1 a.Ca a.Cy ["wishes"] (IS):=by
 refine T.Cp.ok Fv (λvs H Q E h=>?_) (λbG A outer s H vs Q E hr h=>?_)
 ·obtain ⟨_,_,_,rfl,_⟩:=h;rfl
 ·have nd:=Fv.nd;have hu:=hr.units;obtain ⟨l,ws,n,rfl,hw,Za,q⟩:=h;refine ⟨_,(yx (xP (xM (xI cY (xI eO yu (xG (xD rfl) (by rfl) T.aH PySem.boot_len (yp (yr (pv 0) xB rfl)))) yu)))),?_⟩;refine (zr rfl ⟨l,zr rfl ⟨.inl (av.of hw.1),aD rfl rfl ⟨⟨zt _,by rw [zA];omega,by decide⟩,aD rfl rfl ?_⟩⟩⟩);rw [zA,cX];exact q
theorem CQ:aA ["some", "number"] ["some", "number"] (ai Ck):=L2.aY
theorem ED (T:Tx K mg a):aR P w K mg base cO 1 a.Ar a.AQ ["some", "number"] (sU):=by
 refine T.AB.ok CQ (λvs H Q E h=>?_) (λbG A outer s H vs Q E hr h=>?_)
 ·obtain ⟨_,_,rfl,_⟩:=h;rfl
 ·have nd:=CQ.nd;have hu:=hr.units;obtain ⟨s,k,rfl,YZ,q⟩:=h;refine ⟨_,(yx (xP (xM (xI cY (pv 0) (xI iT (pv 0) (xI eO yu (pv 1))))))),?_⟩;refine (zr rfl (zr rfl (zr rfl (aD rfl rfl ⟨⟨zt _,by omega,by decide⟩,aD rfl rfl (aD rfl rfl ?_)⟩))));rw [cX];show Q (V.int ((s:Int) - Builtin.bitAnd (s:Int) (((2 ^ k:Nat):Int)))) H;rw [Jq];exact q
theorem Fu:aA ["some"] ["some"] (ai DN):=L2.aY
theorem Hv (T:Tx K mg a):aR P w K mg base cO 1 a.BZ a.Cw ["some"] (sR):=by
 refine T.Co.ok Fu (λvs H Q E h=>?_) (λbG A outer s H vs Q E hr h=>?_)
 ·obtain ⟨_,rfl,_⟩:=h;rfl
 ·have nd:=Fu.nd;have hu:=hr.units;obtain ⟨s,rfl,VL,q⟩:=h;refine ⟨_,(yx (xP (xM (wP (own:=["part"]) (caps:=[0]) rfl (show aC ["part"] [0] ["some"] (ai DN) _ from L2.dQ) (xx rfl T.aW (yp (yr (xI xU (pv 0) yu) xB rfl))) (λ_ _ _ _=>(xH (i:=0) (show List.Nodup (["part", "some"]:List Str) from by decide +kernel) rfl rfl)) (λ_ _ _ _=>iu (xR cE (xI iT (pv 0) (pv 1)) (pv 0) (aB _))) (λ_ _ _ _=>(bS (yp (yr (pv 0) (yr (xI cY (pv 1) (pv 0)) xB rfl) rfl)))))))),?_⟩;have line:=bg;refine (zr rfl (aD rfl rfl (zr rfl ?_)));rw [show (s:Int) + 1=((s + 1:Nat):Int) from rfl];refine ⟨by omega,by omega,?_⟩;rw [zc];refine (let W6:IC:=λi τ acc H5=>(∃ t0,τ=[t0,some (.int (s:Int))])/\aj H H5/\∃ rs:List (Addr×Nat×Nat),acc=rs.map (λr=>V.ref r.1)/\(∀ r∈rs,H5 r.1=some (.tup [.int (r.2.1:Int),.int (r.2.2:Int)]))/\rs.map (·.2)=(((List.range (s + 1)).take i).filter λp=>p &&& s == p).map λp=>(p,s - p);eU (lo:=0) (m:=s + 1) W6 ⟨⟨_,rfl⟩,aj.refl _,[],rfl,(λ_ z=>nomatch z),rfl⟩ (by omega) ?_ ?_ ?_)
  ·rintro i τ acc H5 ⟨_,_,rs,rfl,_,e⟩;rw [zA];have:=congrArg List.length e;rw [zA,zA] at this;have z:=List.length_filter_le (λp:Nat=>p &&& s == p) ((List.range (s + 1)).take i);rw [zW] at z;omega
  ·rintro i τ acc H5 C hi ⟨⟨t0,rfl⟩,sm,rs,rfl,hr,e⟩ hC;have st:=xb (l:=List.range (s + 1)) (i:=i) (r:=i) (by rw [List.getElem?_range hi]);refine (zr rfl (zr rfl (aD rfl rfl (zr rfl ⟨rfl,?_⟩))));rw [yh];refine (zr rfl ?_);show if decide (V.int (Builtin.bitAnd (i:Int) (s:Int))=V.int (i:Int))=true then _ else _;rw [fX];by_cases e1:i &&& s=i
   ·refine aO (decide_eq_true (by rw [e1])) (zr rfl (zr rfl (zr rfl (aD rfl rfl ⟨by show 2<=sizeLine;omega,λt ht=>?_⟩))));refine hC _ _ _ ⟨⟨_,rfl⟩,sm.trans (yy ht),rs++[(t,i,s - i)],by rw [zJ];rfl,λr Mq=>?_,?_⟩
    ·rcases zS.mp Mq with h | h
     ·exact yy ht _ _ (hr r h)
     ·cases zG.mp h;rw [yq,show ((s - i:Nat):Int)=(s:Int) - (i:Int) by omega]
    ·rw [st,List.filter_append,zJ,zJ,e];simp [e1]
   ·refine aG (decide_eq_false (λz=>e1 (Int.ofNat.inj (V.int.inj z)))) (hC _ _ _ ⟨⟨_,rfl⟩,sm,rs,rfl,hr,?_⟩);rw [st,List.filter_append,zJ,e];simp [e1]
  ·rintro τ acc H5 ⟨⟨t0,rfl⟩,sm,rs,rfl,hr,e⟩ lc eY;have s2:=yy (o:=HO.lst (rs.map λr=>V.ref r.1)) eY;refine q lc rs _ (sm.trans s2) yq (λr h=>s2 _ _ (hr r h)) ?_;rw [e,zm (by rw [zx];exact zE _)];rfl
theorem Dk:aA ["book", "wishes", "thing"] ["book", "wishes", "thing"] (ai qB):=L2.aY
theorem E7 (T:Tx K mg a):aR P w K mg base cO 4 a.AF a.Br ["book", "wishes", "thing"] (lV):=by
 have Gv:=E8 P w base T;have E4:=Fw P w base T;refine T.A2.ok Dk (λvs H Q E h=>?_) (λbG A outer s H vs Q E hr h=>?_)
 ·obtain ⟨_,_,_,_,_,_,_,_,rfl,_⟩:=h;rfl
 ·have nd:=Dk.nd;have hu:=hr.units;obtain ⟨b,l,v,af,tr,tm,ps,ws,rfl,hb,gK,hw,w4,dt,q⟩:=h;refine bO ?_;intro Y
  let B0:Bk Y ((ah qB).drop 1):=⟨_,(yx (xP (xM (xG (dS rfl rfl) (by rfl) T.nu yb (yp (yr (wP (own:=["row"]) (caps:=[1]) rfl (show aC ["row"] [1] ["book", "wishes", "thing"] (ai qB) _ from L2.dQ) (xa rfl (pv 2)) (λ_ _ _ _=>(xH (i:=0) (show List.Nodup (["row", "wishes"]:List Str) from by decide +kernel) rfl rfl)) (λ_ _ _ _=>wS) (λ_ _ _ _=>(xF Gv (hr.mono (by decide)) rfl T.FV T.Ga T.Gf .nil au (yp (yr (pv 0) (yr (xI xU (xF E4 (hr.mono (by decide)) rfl T.GD T.GJ T.GP .nil au (yp (yr (pv 1) xB rfl))) yu) xB rfl) rfl))))) xB rfl))))))⟩
  refine ⟨_,(yx (xN (xg (@PW.pt _ _ _ (cR (wj (wQ (xG (xu) (by rfl) T.aK zd (yp (yr (pv 2) (yr (bL (v:=V.ty "list") rfl T.bU zj rfl) xB rfl) rfl))))) (bQ (xR gM (xG (xD rfl) (by rfl) T.aH PySem.boot_len (yp (yr (pv 2) xB rfl))) (xG (xD rfl) (by rfl) T.aH PySem.boot_len (yp (yr (xJ (xX rfl) (pv 0) yu (λ_ _=>rfl)) xB rfl))) (aB _))))) (yx (xP (xM wR))) xQ) B0.bl)),?_⟩;have line:=bg;rcases dt.way with ⟨a,xs,rfl,kl,e1,_,ex⟩ | ⟨a,xs,rfl,kl,e1,_,ex⟩ | ⟨t,ht,n1,_,e1,_⟩
  rotate_left
  ·refine (zr rfl ⟨_, "tuple", "list", rfl,fq kl,.inr (.inr (.inl rfl)),zr rfl (aO rfl ?_)⟩);have z:=q _ (aj.refl _);rwa [show aE H af.length (2 ^ ws.length) (.ref a)=false by simp only [aE,e1]] at z
  ·refine (zr rfl ⟨_,t, "list", rfl,ht,.inr (.inr (.inl rfl)),zr rfl (aO (by rw [n1];rfl) ?_)⟩);have z:=q _ (aj.refl _);rwa [show aE H af.length (2 ^ ws.length) v=false by simp only [aE,e1]] at z
  have cv:aE H af.length (2 ^ ws.length) (.ref a)=(decide (xs.length=af.length) && xs.all (aF H (2 ^ ws.length))):=by simp only [aE,e1]
  refine (zr rfl ⟨_, "list", "list", rfl,bK kl,.inr (.inr (.inl rfl)),zr rfl (aG rfl (zr rfl ⟨a,zr rfl ⟨.inl (av.of kl),zr rfl (di hb.book rfl ⟨tr,zr rfl ⟨.inr (bC.of hb.af),rfl,zr rfl ?_⟩⟩)⟩⟩))⟩);by_cases e:xs.length=af.length
  rotate_left
  ·refine aO ?_ ?_
   ·rw [zA];simp;omega
   have z:=q _ (aj.refl _);rwa [cv,decide_eq_false e,zo] at z
  refine aG (by rw [zA];simp;omega) ?_;refine (zr rfl ⟨a,rfl,⟨_,av.of kl⟩,?_⟩);refine (let W7:IC:=λi τ acc H5=>(∃ t0,τ=[t0,some (.ref l)])/\acc=((xs.take i).map (aF H (2 ^ ws.length))).map V.bl/\aj H H5;wd (K:=K) (a:=a) (xs:=xs) W7 ⟨⟨_,rfl⟩,rfl,aj.refl _⟩ (by omega) ?_ ?_ ?_)
  ·rintro i τ acc H5 ⟨_,rfl,sm⟩;refine ⟨?_,av.of (sm _ _ kl)⟩;rw [zA,zA,zW];omega
  ·rintro i v τ acc H5 C hv ⟨⟨t0,rfl⟩,rfl,sm⟩ hC;have dv:=ex v (zB hv);have tS:=fH w4;refine (zr rfl (zr rfl ⟨l,ws,af.length,rfl,hw.same sm,by omega,aD rfl rfl ⟨v,2 ^ ws.length,?_,dv.same sm,by omega,λH6 s6=>?_⟩⟩))
   ·show [v,V.int (((2 ^ ws.length:Nat):Int) - 1 + 1)]=_;rw [Int.sub_add_cancel]
   rw [bM sm dv];refine hC _ _ _ ⟨⟨_,rfl⟩,?_,sm.trans s6⟩;rw [xb hv,zJ,zJ];rfl
  ·rintro τ acc H5 ⟨⟨t0,rfl⟩,rfl,sm⟩ lc eY;refine ⟨lc,zr rfl ⟨av.of yq,?_⟩⟩;have z:=q _ (sm.trans (yy (o:=HO.lst (((xs.take xs.length).map (aF H (2 ^ ws.length))).map V.bl)) eY));rw [cv,decide_eq_true e,yj] at z;rw [zk,yo] at *;exact z
theorem Ci:aA ["book", "wishes", "thing"] ["book", "wishes", "thing"] (ai wJ):=L2.aY
theorem Dy (T:Tx K mg a):aR P w K mg base cO 5 a.Aj a.Av ["book", "wishes", "thing"] (sW):=by
 have Gu:=E7 P w base T;refine T.Ao.ok Ci (λvs H Q E h=>?_) (λbG A outer s H vs Q E hr h=>?_)
 ·obtain ⟨_,_,_,_,_,_,_,_,rfl,_⟩:=h;rfl
 ·have nd:=Ci.nd;have hu:=hr.units;obtain ⟨b,l,v,af,tr,tm,ps,ws,rfl,hb,gK,YM,hw,w4,dt,q⟩:=h;refine bO ?_;intro Y
  let B0:Bk Y ((ah wJ).drop 1):=⟨_,(yx (xP (xM (xG (dS rfl rfl) (by rfl) T.nu yb (yp (yr (wP (own:=["stretch"]) (caps:=[0,1]) rfl (show aC ["stretch"] [0,1] ["book", "wishes", "thing"] (ai wJ) _ from L2.dQ) (xa rfl (pv 2)) (λ_ _ _ _=>(xH (i:=0) (show List.Nodup (["stretch", "book", "wishes"]:List Str) from by decide +kernel) rfl rfl)) (λ_ _ _ _=>wS) (λ_ _ _ _=>(xF Gu (hr.mono (by decide)) rfl T.FU T.FZ T.Ge .nil au (yp (yr (pv 1) (yr (pv 2) (yr (pv 0) xB rfl) rfl) rfl))))) xB rfl))))))⟩
  refine ⟨_,(yx (xN (xg (@PW.pt _ _ _ (cR (wj (wQ (xG (xu) (by rfl) T.aK zd (yp (yr (pv 2) (yr (bL (v:=V.ty "list") rfl T.bU zj rfl) xB rfl) rfl))))) (bQ (xR gM (xG (xD rfl) (by rfl) T.aH PySem.boot_len (yp (yr (pv 2) xB rfl))) (xI xU (xG (xD rfl) (by rfl) T.aH PySem.boot_len (yp (yr (xJ (xX rfl) (pv 0) yu (λ_ _=>rfl)) xB rfl))) yu) (aB _))))) (yx (xP (xM wR))) xQ) B0.bl)),?_⟩;have line:=bg;rcases dt.way with ⟨a,xs,rfl,kl,e1,_,ex⟩ | ⟨a,xs,rfl,kl,e1,_,ex⟩ | ⟨t,ht,n1,_,e1,_⟩
  rotate_left
  ·refine (zr rfl ⟨_, "tuple", "list", rfl,fq kl,.inr (.inr (.inl rfl)),zr rfl (aO rfl ?_)⟩);have z:=q _ (aj.refl _);rwa [show aS H ps.length af.length (2 ^ ws.length) (.ref a)=false by simp only [aS,e1]] at z
  ·refine (zr rfl ⟨_,t, "list", rfl,ht,.inr (.inr (.inl rfl)),zr rfl (aO (by rw [n1];rfl) ?_)⟩);have z:=q _ (aj.refl _);rwa [show aS H ps.length af.length (2 ^ ws.length) v=false by simp only [aS,e1]] at z
  have cv:aS H ps.length af.length (2 ^ ws.length) (.ref a)=(decide (xs.length=ps.length + 1) && xs.all (aE H af.length (2 ^ ws.length))):=by simp only [aS,e1]
  refine (zr rfl ⟨_, "list", "list", rfl,bK kl,.inr (.inr (.inl rfl)),zr rfl (aG rfl (zr rfl ⟨a,zr rfl ⟨.inl (av.of kl),zr rfl (di hb.book rfl ⟨tm,zr rfl ⟨.inr (bC.of hb.meets),aD rfl rfl ⟨rfl,zr rfl ?_⟩⟩⟩)⟩⟩))⟩);by_cases e:xs.length=ps.length + 1
  rotate_left
  ·refine aO ?_ ?_
   ·rw [zA];simp;omega
   have z:=q _ (aj.refl _);rwa [cv,decide_eq_false e,zo] at z
  refine aG (by rw [zA];simp;omega) ?_;refine (zr rfl ⟨a,rfl,⟨_,av.of kl⟩,?_⟩);refine (let W8:IC:=λi τ acc H5=>(∃ t0,τ=[t0,some (.ref b),some (.ref l)])/\acc=((xs.take i).map (aE H af.length (2 ^ ws.length))).map V.bl/\aj H H5;wd (K:=K) (a:=a) (xs:=xs) W8 ⟨⟨_,rfl⟩,rfl,aj.refl _⟩ (by omega) ?_ ?_ ?_)
  ·rintro i τ acc H5 ⟨_,rfl,sm⟩;refine ⟨?_,av.of (sm _ _ kl)⟩;rw [zA,zA,zW];omega
  ·rintro i v τ acc H5 C hv ⟨⟨t0,rfl⟩,rfl,sm⟩ hC;have dv:=ex v (zB hv);refine (zr rfl (zr rfl (zr rfl (Sd b l v af tr tm ps ws ⟨rfl,hb.same sm,gK,hw.same sm,w4,dv.same sm,λH6 s6=>?_⟩))));rw [fB sm dv];refine hC _ _ _ ⟨⟨_,rfl⟩,?_,sm.trans s6⟩;rw [xb hv,zJ,zJ];rfl
  ·rintro τ acc H5 ⟨⟨t0,rfl⟩,rfl,sm⟩ lc eY;refine ⟨lc,zr rfl ⟨av.of yq,?_⟩⟩;have z:=q _ (sm.trans (yy (o:=HO.lst (((xs.take xs.length).map (aE H af.length (2 ^ ws.length))).map V.bl)) eY));rw [cv,decide_eq_true e,yj] at z;rw [zk,yo] at *;exact z
theorem Cg:aA ["prices"] ["prices"] (ai wY):=L2.aY
theorem Dw (T:Tx K mg a):aR P w K mg base cO 1 a.Ah a.At ["prices"] (qq):=by
 refine T.Am.ok Cg (λvs H Q E h=>?_) (λbG A outer s H vs Q E hr h=>?_)
 ·obtain ⟨_,_,_,_,_,rfl,_⟩:=h;rfl
 ·have nd:=Cg.nd;have hu:=hr.units;obtain ⟨l,nm,w,sz,P,rfl,hp,pQ,IA,s1,IZ,q⟩:=h;refine ⟨_,(yx (xP (xM (xG (dS rfl rfl) (by rfl) T.nu yb (yp (yr (tP (own:=["stretch", "row"]) (caps:=[]) rfl (show aC ["stretch", "row"] [] ["prices"] (ai wY) _ from L2.dQ) (xa rfl (pv 0)) (λ_ _ _ _=>(xH (i:=0) (show List.Nodup (["stretch", "row"]:List Str) from by decide +kernel) rfl rfl)) (λ_ _ _ _=>wS) (λ_ _ _ _=>(cC cE (xJ (xE rfl) (pv 1) yu (λ_ _=>rfl)) yu (aB _))) (λ_ _ _ _=>(xa rfl (pv 0))) (λ_ _ _ _=>(xH (i:=1) (show List.Nodup (["stretch", "row"]:List Str) from by decide +kernel) rfl rfl)) (λ_ _ _ _=>wS)) xB rfl)))))),?_⟩;have line:=bg;have line:=bg;have pl:=hp.len;refine (zr rfl ⟨l,rfl,⟨_,av.of hp.top⟩,?_⟩);refine oW (K:=K) (a:=l) (xs:=P.map λa=>V.ref a.1) (λi τ acc H5=>(∃ t0 t1,τ=[t0,t1])/\(acc=(cV (P.take i)).map V.bl/\acc.length<=i * 12/\i<=P.length)/\aj H H5) ⟨⟨_,_,rfl⟩,⟨rfl,zV _,zV _⟩,aj.refl _⟩ ?_ ?_ ?_
  ·rintro i τ acc H5 ⟨_,⟨_,le,li⟩,sm⟩;exact ⟨by omega,av.of (sm _ _ hp.top)⟩
  ·rintro i v τ acc H5 D hv ⟨⟨t0,t1,rfl⟩,⟨rfl,le,li⟩,sm⟩ hD;obtain ⟨r,Rt,rfl⟩:=xT hv;have hm:=zB Rt;have Wu:i < P.length:=(zI.mp Rt).1;have kr:=sm _ _ (hp.str r hm);have YL:=hp.dG r hm;refine (zr rfl ⟨r.1,rfl,⟨_,av.of kr⟩,?_⟩);refine in_list (K:=K) (a:=r.1) (xs:=r.2.map λb=>V.ref b.1) (λj τ acc H6=>(∃ t1,τ=[some (.ref r.1),t1])/\(acc=(cV (P.take i)++(r.2.take j).map λb=>decide (b.2.getD 0 0=0)).map V.bl)/\aj H H6) ⟨⟨_,rfl⟩,by rw [List.take_zero,List.map_nil,List.append_nil],sm⟩ ?_ ?_ ?_
   ·rintro j τ acc H6 ⟨_,rfl,s6⟩;refine ⟨?_,av.of (s6 _ _ (hp.str r hm))⟩;rw [zA,zH,zA,zW];rw [zA] at le;omega
   ·rintro j x τ acc H6 D2 hx ⟨⟨t1,rfl⟩,rfl,s6⟩ Xk;obtain ⟨b0,Mx,rfl⟩:=xT hx;have mb:=zB Mx;have st:=xb Mx;refine (zr rfl (bq (s6 _ _ (hp.row r hm b0 mb)) (wZ (n:=0) (by rw [hp.gJ r hm b0 mb];exact s1)) ?_));refine ⟨rfl,?_⟩;show D2 _ (_++[V.bl (decide (V.int (b0.2.getD 0 0)=V.int 0))]) _;refine Xk _ _ _ ⟨⟨_,rfl⟩,?_,s6⟩;rw [st];simp
   ·rintro τ acc H6 ⟨⟨t1,rfl⟩,rfl,s6⟩;refine hD _ _ _ ⟨⟨_,_,rfl⟩,⟨?_,?_,Wu⟩,s6⟩
    ·rw [zA,zk,nN Rt]
    ·rw [zA] at le;rw [zA,zH,zA,zW];omega
  ·rintro τ acc H5 ⟨⟨t0,t1,rfl⟩,⟨rfl,le,li⟩,sm⟩ lc eY;refine ⟨lc,zr rfl ⟨av.of yq,?_⟩⟩;refine q _ _ (sm.trans (yy eY)) ?_;rw [zA,zk];exact qg
theorem Cj:aA ["book", "wishes", "prices", "number", "walker", "last", "stretch", "row"] ["book", "wishes", "prices"] (ai xq):=L2.aY
theorem Dz (T:Tx K mg a):aR P w K mg base cO 2 a.Ak a.Aw ["book", "wishes", "prices"] (fE):=by
 have Ep:=EN P w base T;have E3:=ED P w base T;refine T.Ap.ok Cj (λvs H Q E h=>?_) (λbG A outer s H vs Q E hr h=>?_)
 ·obtain ⟨_,_,_,_,_,_,_,_,_,rfl,_⟩:=h;rfl
 ·have nd:=Cj.nd;have hu:=hr.units;obtain ⟨b,l,lp,af,tr,tm,ps,ws,P,rfl,cx,q⟩:=h;refine bO ?_;intro Y
  let B0:Bk Y ((nb (nb (ah xq) 0) 0).drop 1):=⟨_,(yx (xP (xg (wQ (xG (fW rfl rfl) (by rfl) T.qd PyProof.Rows.boot_any (yp (yr (wP (own:=["some", "price"]) (caps:=[7,3]) rfl (show aC ["some", "price"] [7,3] ["book", "wishes", "prices", "number", "walker", "last", "stretch", "row"] (ai xq) _ from L2.dQ) (fK rfl rfl T.bF (yp (yr (pv 7) xB rfl))) (λ_ _ _ _=>(xp (n:=2) rfl rfl (xK (xH (i:=0) (show List.Nodup (["some", "price", "row", "number"]:List Str) from by decide +kernel) rfl rfl) (xK (xH (i:=1) (show List.Nodup (["some", "price", "row", "number"]:List Str) from by decide +kernel) rfl rfl) xo)))) (λ_ _ _ _=>wS) (λ_ _ _ _=>(cC fL (pv 1) (xJ (xE rfl) (pv 2) (xF E3 (hr.mono (by decide)) rfl T.ES T.EU T.EW .nil au (yp (yr (pv 0) (yr (pv 3) xB rfl) rfl))) (λ_ _=>rfl)) (aB _)))) xB rfl)))) (yx (xP (xM wR))) xQ)))⟩
  let B1:Bk Y (nb (ah xq) 0):=⟨_,(yx (xP (xj PassesOwn.never rfl (xa rfl (xz (wF rfl) (pv 2) wX (wO (xI xU (xF Ep (hr.mono (by decide)) rfl T.Fx T.Fy T.Fz .nil au (yp (yr (pv 0) (yr (pv 5) xB rfl) rfl))) yu)))) (xH (i:=6) nd rfl rfl) (yx (xN (xL (i:=7) nd rfl rfl (xJ (xE rfl) (pv 6) (pv 4) (λ_ _=>rfl))) B0.bl)))))⟩
  refine ⟨_,(yx (xN (xj PassesOwn.never rfl (fK rfl rfl T.bF (yp (yr (pv 1) xB rfl))) (xp (n:=2) rfl rfl (xK (xH (i:=3) nd rfl rfl) (xK (xp (n:=2) rfl rfl (xK (xH (i:=4) nd rfl rfl) (xK (xH (i:=5) nd rfl rfl) xo))) xo))) B1.ps) (xP (xM wR)))),?_⟩;have line:=bg;have w4:=cx.w4;have tS:=fH w4;have pQ:ps.length<=60:=cx.gd.len;have pl:=cx.pr.len;refine (zr rfl ⟨l,rfl,⟨_,av.of cx.wa.1⟩,?_⟩);refine (let W9:IV:=λi σ H5=>(∃ v3 v4 v5 v6 v7,σ=[some (.ref b),some (.ref l),some (.ref lp),v3,v4,v5,v6,v7])/\(∀ k x,k < i->ws[k]?=some x->vL (ps.map (·.2)) (aq P) (2 ^ ws.length) k x.2.1 x.2.2)/\aj H H5;gq (K:=K) (a:=l) (xs:=ws.map λa=>V.ref a.1) W9 ⟨⟨_,_,_,_,_,rfl⟩,(λk x z=>absurd z (zU _)),aj.refl _⟩ ?_ ?_ ?_)
  ·rintro i σ H5 _ ⟨_,_,sm⟩;exact av.of (sm _ _ cx.wa.1)
  ·rintro i v q0 σ H5 hv hq ⟨⟨v3,v4,v5,v6,v7,rfl⟩,old,sm⟩;obtain ⟨x,hx,rfl⟩:=xT hv;have i4:i < ws.length:=(zI.mp hx).1;have s6:=sm.trans (yy (o:=HO.tup [V.int (i:Int),V.ref x.1]) hq);have kq:upd H5 q0 (HO.tup [V.int (i:Int),V.ref x.1]) q0=some (.tup [V.int (i:Int),V.ref x.1]):=yq;generalize upd H5 q0 (HO.tup [V.int (i:Int),V.ref x.1])=H6 at s6 kq ⊢;have nI:=cx.same s6;obtain ⟨kx,lx⟩:=nI.wa.2 x (zB hx);refine ⟨q0,zr rfl ⟨bC.of kq,rfl,jE rfl (jE rfl (sf kx ⟨rfl,?_⟩))⟩⟩;refine (zr rfl (zr rfl (zr rfl (MB b x.2.2 af tr tm ps ⟨rfl,nI.bk,by omega,λH7 s7=>?_⟩))));refine (aD rfl rfl (zr rfl ⟨lp,zr rfl ⟨av.of (nI.same s7).pr.top,λl2 qV=>?_⟩⟩));rw [show ((cnt (ps.map (·.2)) x.2.2:Nat):Int) + 1=((cnt (ps.map (·.2)) x.2.2 + 1:Nat):Int) from rfl,jh,<- List.map_take];have s8:=(s6.trans s7).trans (yy (o:=HO.lst ((P.take (cnt (ps.map (·.2)) x.2.2 + 1)).map λa=>V.ref a.1)) qV);have k8:upd H7 l2 (HO.lst ((P.take (cnt (ps.map (·.2)) x.2.2 + 1)).map λa=>V.ref a.1)) l2=some (.lst ((P.take (cnt (ps.map (·.2)) x.2.2 + 1)).map λa=>V.ref a.1)):=yq;generalize upd H7 l2 _=H8 at s8 k8 ⊢;refine ⟨l2,rfl,⟨_,av.of k8⟩,?_⟩;refine wx (K:=K) (a:=l2) (xs:=(P.take (cnt (ps.map (·.2)) x.2.2 + 1)).map λa=>V.ref a.1) (λj σ H5=>(∃ v6 v7,σ=[some (.ref b),some (.ref l),some (.ref lp),some (.int (i:Int)),some (.int (x.2.1:Int)),some (.int x.2.2),v6,v7])/\(∀ i' < j,∀ s < 2 ^ ws.length,s.testBit i=true->cu (aq P) i' x.2.1 s<=cu (aq P) i' x.2.1 (s - 2 ^ i))/\aj H8 H5) ⟨⟨_,_,rfl⟩,(λj z=>absurd z (zU _)),aj.refl _⟩ ?_ ?_ ?_
   ·rintro j σ H9 _ ⟨_,_,s9⟩;exact av.of (s9 _ _ k8)
   ·rintro j v σ H9 Lx ⟨⟨v6,v7,rfl⟩,o2,s9⟩;obtain ⟨a1,ha,rfl⟩:=xT Lx;obtain ⟨lj,hj⟩:=iH ha;have ma:=zB hj;have vq:=cx.same (s8.trans s9);obtain ⟨r,hr⟩:∃ r,a1.2[x.2.1]?=some r:=⟨_,zD (by rw [vq.pr.dG a1 ma];exact lx)⟩;have mr:=zB hr;have lr:=vq.pr.gJ a1 ma r mr;refine (zr rfl (zr rfl (bq (vq.pr.str a1 ma) (xW (by rw [zF,hr];rfl)) ?_)));refine (zr rfl ⟨r.1,rfl,⟨_,av.of (vq.pr.row a1 ma r mr)⟩,?_⟩);refine (let Ys:IC:=λs τ acc eW=>(∃ t0 t1,τ=[t0,t1,some (.ref r.1),some (.int (i:Int))])/\acc=(((List.range r.2.length).take s).map λs=>decide (r.2.getD (cL s i) 0 < r.2.getD s 0)).map V.bl/\aj H9 eW;oU (K:=K) (a:=r.1) (xs:=r.2.map V.int) Ys ⟨⟨_,_,rfl⟩,rfl,aj.refl _⟩ (by rw [zA];omega) ?_ ?_ ?_)
    ·rintro s τ acc eW ⟨_,rfl,bP⟩;refine ⟨?_,av.of (bP _ _ (vq.pr.row a1 ma r mr))⟩;rw [zA,zA,zW];omega
    ·rintro s v τ acc eW C q2 Rm rP ⟨⟨t0,t1,rfl⟩,rfl,bP⟩ hC;obtain ⟨y,hy,rfl⟩:=xT Rm;have ls:s < r.2.length:=(zI.mp hy).1;have iK:=bP.trans (yy (o:=HO.tup [V.int (s:Int),V.int y]) rP);have ll:=Jp s i;refine (sf yq (zr rfl (zr rfl (zr rfl (zr rfl ⟨s,i,rfl,by omega,?_⟩)))));refine (bq (iK _ _ (vq.pr.row a1 ma r mr)) (wZ (by omega)) (aD rfl rfl (hC _ _ _ ⟨⟨_,_,rfl⟩,?_,iK⟩)));rw [xb (l:=List.range r.2.length) (i:=s) (r:=s) (by rw [List.getElem?_range ls]),zJ,zJ,<- kP hy];rfl
    ·rintro τ acc eW ⟨⟨t0,t1,rfl⟩,rfl,bP⟩ lc eY;have eb:((List.range r.2.length).take (r.2.map V.int).length).map (λs=>decide (r.2.getD (cL s i) 0 < r.2.getD s 0))=tU r.2 i (2 ^ ws.length):=by rw [zA,zm (by rw [zx];exact zE _),lr];rfl
     rw [eb];have ku:=bP.trans (yy (o:=HO.lst ((tU r.2 i (2 ^ ws.length)).map V.bl)) eY);refine ⟨lc,zr rfl ⟨av.of yq,zr rfl ?_⟩⟩;cases eo:(tU r.2 i (2 ^ ws.length)).any id with
     | true=>
      refine aO rfl (q false _ ((s8.trans s9).trans ku) ⟨(λz=>nomatch z),λz=>?_⟩);rw [tT.mpr λs hs hb=>by have:=z i x hx j (by omega) s hs hb;rwa [xc hj hr,xc hj hr] at this] at eo;cases eo
     | false=>
      refine aG rfl ⟨⟨_,_,rfl⟩,λi' cU s hs hb=>?_,s9.trans ku⟩;by_cases e:i'=j
      ·subst e;rw [xc hj hr,xc hj hr];exact tT.mp eo s hs hb
      ·exact o2 i' (by omega) s hs hb
   ·rintro σ H9 ⟨⟨v6,v7,rfl⟩,o2,s9⟩;refine ⟨⟨_,_,_,_,_,rfl⟩,λk y hk hy=>?_,s8.trans s9⟩;by_cases e:k=i
    ·subst e;rw [hx] at hy;cases hy;intro i' cU s hs hb;have:=dR (ps.map (·.2)) x.2.2;rw [zA] at this;exact o2 i' (by rw [zA,zW];omega) s hs hb
    ·exact old k y (by omega) hy
  ·rintro σ H5 ⟨⟨v3,v4,v5,v6,v7,rfl⟩,old,sm⟩;refine q true H5 sm ⟨λ_ k x hx=>old k x (by rw [zA];exact (zI.mp hx).1) hx,λ_=>rfl⟩
theorem Ch:aA ["prices", "stretch", "following", "row", "later"] ["prices"] (ai xt):=L2.aY
theorem Dx (T:Tx K mg a):aR P w K mg base cO 1 a.Ai a.Au ["prices"] (n6):=by
 refine T.An.ok Ch (λvs H Q E h=>?_) (λbG A outer s H vs Q E hr h=>?_)
 ·obtain ⟨_,_,_,_,_,rfl,_⟩:=h;rfl
 ·have nd:=Ch.nd;have hu:=hr.units;obtain ⟨l,nm,w,sz,P,rfl,hp,pQ,IA,IZ,q⟩:=h;refine bO ?_;intro Y
  let B0:Bk Y (nb (nb (ah xt) 0) 0):=⟨_,(yx (xP (xg (wQ (xG (fW rfl rfl) (by rfl) T.qd PyProof.Rows.boot_any (yp (yr (wP (own:=["price", "kept"]) (caps:=[]) rfl (show aC ["price", "kept"] [] ["prices", "stretch", "following", "row", "later"] (ai xt) _ from L2.dQ) (fJ rfl rfl T.nk (yp (yr (pv 3) (yr (pv 4) xB rfl) rfl))) (λ_ _ _ _=>(xp (n:=2) rfl rfl (xK (xH (i:=0) (show List.Nodup (["price", "kept"]:List Str) from by decide +kernel) rfl rfl) (xK (xH (i:=1) (show List.Nodup (["price", "kept"]:List Str) from by decide +kernel) rfl rfl) xo)))) (λ_ _ _ _=>wS) (λ_ _ _ _=>(cC fL (pv 0) (pv 1) (aB _)))) xB rfl)))) (yx (xP (xM wR))) xQ)))⟩
  let B1:Bk Y (nb (ah xt) 0):=⟨_,(yx (xP (xj PassesOwn.never rfl (fJ rfl rfl T.nk (yp (yr (pv 1) (yr (pv 2) xB rfl) rfl))) (xp (n:=2) rfl rfl (xK (xH (i:=3) nd rfl rfl) (xK (xH (i:=4) nd rfl rfl) xo))) B0.ps)))⟩
  refine ⟨_,(yx (xN (xj PassesOwn.never rfl (fJ rfl rfl T.nk (yp (yr (pv 0) (yr (xz (wF rfl) (pv 0) (wO yu) wX) xB rfl) rfl))) (xp (n:=2) rfl rfl (xK (xH (i:=1) nd rfl rfl) (xK (xH (i:=2) nd rfl rfl) xo))) B1.ps) (xP (xM wR)))),?_⟩;have line:=bg;have pl:=hp.len;refine (zr rfl (zr rfl (zr rfl ⟨l,zr rfl ⟨av.of hp.top,λl2 qV=>?_⟩⟩)));rw [show (1:Int)=((1:Nat):Int) from rfl,mZ,<- List.map_drop];have s1:=yy (o:=HO.lst ((P.drop 1).map λa=>V.ref a.1)) qV;have k1:upd H l2 (HO.lst ((P.drop 1).map λa=>V.ref a.1)) l2=some (.lst ((P.drop 1).map λa=>V.ref a.1)):=yq;generalize upd H l2 _=H1 at s1 k1 ⊢;refine ⟨l,l2,rfl,⟨_,av.of (s1 _ _ hp.top)⟩,⟨_,av.of k1⟩,?_⟩;refine ve (K:=K) (a:=l) (b:=l2) (xs:=P.map λa=>V.ref a.1) (ys:=(P.drop 1).map λa=>V.ref a.1) (by rw [zA,zA,yF];omega) (λi σ H5=>(∃ v1 v2 v3 v4,σ=[some (.ref l),v1,v2,v3,v4])/\(∀ i' < i,o8 (aq P) i' w sz)/\aj H1 H5) ⟨⟨_,_,_,_,rfl⟩,(λj z=>absurd z (zU _)),aj.refl _⟩ ?_ ?_ ?_
  ·rintro i σ H5 _ ⟨_,_,s5⟩;exact ⟨av.of (s5 _ _ (s1 _ _ hp.top)),av.of (s5 _ _ k1)⟩
  ·rintro i x y q0 σ H5 hx hy hq ⟨⟨v1,v2,v3,v4,rfl⟩,old,s5⟩;obtain ⟨a1,ha,rfl⟩:=xT hx;obtain ⟨a2,ja,rfl⟩:=xT hy;rw [List.getElem?_drop,Nat.add_comm] at ja;have s6:=(s1.trans s5).trans (yy (o:=HO.tup [V.ref a1.1,V.ref a2.1]) hq);have kq:upd H5 q0 (HO.tup [V.ref a1.1,V.ref a2.1]) q0=some (.tup [V.ref a1.1,V.ref a2.1]):=yq;have K1:=yy (o:=HO.tup [V.ref a1.1,V.ref a2.1]) hq;generalize upd H5 q0 _=H6 at s6 K1 kq ⊢;have m1:=zB ha;have m2:=zB ja;have nG:=hp.same s6;refine (sf kq ?_);refine (zr rfl (zr rfl ⟨a1.1,a2.1,rfl,⟨_,av.of (nG.str a1 m1)⟩,⟨_,av.of (nG.str a2 m2)⟩,?_⟩));have Sq:a1.2.length=a2.2.length:=by rw [hp.dG a1 m1,hp.dG a2 m2]
   refine mY (K:=K) (a:=a1.1) (b:=a2.1) (xs:=a1.2.map λa=>V.ref a.1) (ys:=a2.2.map λa=>V.ref a.1) (by rw [zA,zA,Sq]) (λj σ H7=>(∃ v3 v4,σ=[some (.ref l),some (.ref a1.1),some (.ref a2.1),v3,v4])/\(∀ j' < j,∀ s < sz,cu (aq P) i j' s<=cu (aq P) (i + 1) j' s)/\aj H6 H7) ⟨⟨_,_,rfl⟩,(λj z=>absurd z (zU _)),aj.refl _⟩ ?_ ?_ ?_
   ·rintro j σ H7 _ ⟨_,_,s7⟩;exact ⟨av.of (s7 _ _ (nG.str a1 m1)),av.of (s7 _ _ (nG.str a2 m2))⟩
   ·rintro j x y q1 σ H7 hx hy vW ⟨⟨v3,v4,rfl⟩,o2,s7⟩;obtain ⟨b1,bZ,rfl⟩:=xT hx;obtain ⟨b2,iy,rfl⟩:=xT hy;have s8:=s7.trans (yy (o:=HO.tup [V.ref b1.1,V.ref b2.1]) vW);have Nt:upd H7 q1 (HO.tup [V.ref b1.1,V.ref b2.1]) q1=some (.tup [V.ref b1.1,V.ref b2.1]):=yq;generalize upd H7 q1 _=H8 at s8 Nt ⊢;have uP:=nG.same s8;have eS:=zB bZ;have Jo:=zB iy;have l1:=hp.gJ a1 m1 b1 eS;have J1:=hp.gJ a2 m2 b2 Jo;refine (sf Nt ?_);refine (zr rfl (zr rfl ⟨b1.1,b2.1,rfl,⟨_,av.of (uP.row a1 m1 b1 eS)⟩,⟨_,av.of (uP.row a2 m2 b2 Jo)⟩,?_⟩));refine jW (K:=K) (a:=b1.1) (b:=b2.1) (xs:=b1.2.map V.int) (ys:=b2.2.map V.int) (by rw [zA,zA,l1,J1]) (λs τ acc H9=>(∃ t0 t1,τ=[t0,t1])/\acc=(((b1.2.zip b2.2).take s).map λp=>decide (p.2 < p.1)).map V.bl/\aj H8 H9) ⟨⟨_,_,rfl⟩,rfl,aj.refl _⟩ (by rw [zA];omega) ?_ ?_ ?_
    ·rintro s τ acc H9 ⟨_,rfl,s9⟩;refine ⟨?_,av.of (s9 _ _ (uP.row a1 m1 b1 eS)),av.of (s9 _ _ (uP.row a2 m2 b2 Jo))⟩;rw [zA,zA,zW];omega
    ·rintro s x y q2 τ acc H9 C hx hy rP ⟨⟨t0,t1,rfl⟩,rfl,s9⟩ hC;obtain ⟨c1,uX,rfl⟩:=xT hx;obtain ⟨c2,Mw,rfl⟩:=xT hy;have bP:=s9.trans (yy (o:=HO.tup [V.int c1,V.int c2]) rP);refine (sf yq (zr rfl (zr rfl (aD rfl rfl (hC _ _ _ ⟨⟨_,_,rfl⟩,?_,bP⟩)))));rw [xb (nM uX Mw),zJ,zJ];rfl
    ·rintro τ acc H9 ⟨⟨t0,t1,rfl⟩,rfl,s9⟩ lc eY;have eb:((b1.2.zip b2.2).take (b1.2.map V.int).length).map (λp=>decide (p.2 < p.1))=gtB b1.2 b2.2:=by rw [zA,zm (by rw [List.length_zip];exact Nat.min_le_left _ _)];rfl
     rw [eb];have ku:=s9.trans (yy (o:=HO.lst ((gtB b1.2 b2.2).map V.bl)) eY);refine ⟨lc,zr rfl ⟨av.of yq,zr rfl ?_⟩⟩;cases eo:(gtB b1.2 b2.2).any id with
     | true=>
      have jw:j < w:=by have:=(zI.mp bZ).1;have:=hp.dG a1 m1;omega
      have Ws:i < nm:=by have:=(zI.mp ja).1;omega
      refine aO rfl (q false _ ((s6.trans s8).trans ku) ⟨(λz=>nomatch z),λz=>?_⟩);rw [(pU l1 J1).mpr λs hs=>by have:=z i Ws j jw s hs;rwa [xc ha bZ,xc ja iy] at this] at eo;cases eo
     | false=>
      refine aG rfl ⟨⟨_,_,rfl⟩,λj' mU s hs=>?_,s8.trans ku⟩;by_cases e:j'=j
      ·subst e;rw [xc ha bZ,xc ja iy];exact (pU l1 J1).mp eo s hs
      ·exact o2 j' (by omega) s hs
   ·rintro σ H7 ⟨⟨v3,v4,rfl⟩,o2,s7⟩;refine ⟨⟨_,_,_,_,rfl⟩,λi' cU=>?_,(s5.trans K1).trans s7⟩;by_cases e:i'=i
    ·subst e;intro j' mU s hs;exact o2 j' (by rw [zA,hp.dG a1 m1];exact mU) s hs
    ·exact old i' (by omega)
  ·rintro σ H5 ⟨⟨v1,v2,v3,v4,rfl⟩,old,s5⟩;refine q true H5 (s1.trans s5) ⟨λ_ i hi=>old i (by rw [zA,yF];omega),λ_=>rfl⟩
theorem BQ:aA ["book", "prices", "number", "giver", "other", "when", "kept", "given", "some", "price"] ["book", "prices"] (ai xZ):=L2.aY
theorem CT (T:Tx K mg a):aR P w K mg base cO 2 a.Af a.Al ["book", "prices"] (qx):=by
 have Io:=Ig P w base T;have Ie:=Hv P w base T;refine T.Ag.ok BQ (λvs H Q E h=>?_) (λbG A outer s H vs Q E hr h=>?_)
 ·obtain ⟨_,_,_,_,_,_,_,_,_,rfl,_⟩:=h;rfl
 ·have nd:=BQ.nd;have hu:=hr.units;obtain ⟨b,l,lp,af,tr,tm,ps,ws,P,rfl,cx,q⟩:=h;refine bO ?_;intro Y
  let B0:Bk Y (nb (nb (ah xZ) 0) 2):=⟨_,(yx (xP (xg (wQ (xG (fW rfl rfl) (by rfl) T.qd PyProof.Rows.boot_any (yp (yr (wP (own:=["part", "rest"]) (caps:=[9,7,6]) rfl (show aC ["part", "rest"] [9,7,6] ["book", "prices", "number", "giver", "other", "when", "kept", "given", "some", "price"] (ai xZ) _ from L2.dQ) (xa rfl (xF Ie (hr.mono (by decide)) rfl T.HU T.HV T.Ia .nil au (yp (yr (pv 8) xB rfl)))) (λ_ _ _ _=>(xp (n:=2) rfl rfl (xK (xH (i:=0) (show List.Nodup (["part", "rest", "price", "given", "kept"]:List Str) from by decide +kernel) rfl rfl) (xK (xH (i:=1) (show List.Nodup (["part", "rest", "price", "given", "kept"]:List Str) from by decide +kernel) rfl rfl) xo)))) (λ_ _ _ _=>wS) (λ_ _ _ _=>(cC fL (pv 2) (xI xU (xI xU yu (xJ (xE rfl) (pv 4) (pv 0) (λ_ _=>rfl))) (xJ (xE rfl) (pv 3) (pv 1) (λ_ _=>rfl))) (aB _)))) xB rfl)))) (yx (xP (xM wR))) xQ)))⟩
  let B1:Bk Y ((nb (ah xZ) 0).drop 2):=⟨_,(yx (xP (xj PassesOwn.never rfl (fK rfl rfl T.bF (yp (yr (xJ (xE rfl) (xJ (xE rfl) (pv 1) (pv 2) (λ_ _=>rfl)) (pv 3) (λ_ _=>rfl)) xB rfl))) (xp (n:=2) rfl rfl (xK (xH (i:=8) nd rfl rfl) (xK (xH (i:=9) nd rfl rfl) xo))) B0.ps)))⟩
  let B2:Bk Y (nb (ah xZ) 0):=⟨_,(yx (xN (xL (i:=6) nd rfl rfl (xJ (xE rfl) (xJ (xE rfl) (pv 1) (xI xU (pv 2) yu) (λ_ _=>rfl)) (pv 3) (λ_ _=>rfl))) (xN (xL (i:=7) nd rfl rfl (xJ (xE rfl) (xJ (xE rfl) (pv 1) (xI xU (pv 2) yu) (λ_ _=>rfl)) (pv 4) (λ_ _=>rfl))) B1.bl)))⟩
  refine ⟨_,(yx (xN (xj PassesOwn.never rfl (xa rfl (xF Io (hr.mono (by decide)) rfl T.Ij T.Ik T.Il .nil au (yp (yr (pv 0) xB rfl)))) (xp (n:=4) rfl rfl (xK (xH (i:=2) nd rfl rfl) (xK (xH (i:=3) nd rfl rfl) (xK (xH (i:=4) nd rfl rfl) (xK (xH (i:=5) nd rfl rfl) xo))))) B2.ps) (xP (xM wR)))),?_⟩;have line:=bg;have w4:=cx.w4;have tS:=fH w4;have pQ:ps.length<=60:=cx.gd.len;have pl:=cx.pr.len;refine (zr rfl (XA b af tr tm ps ⟨rfl,cx.bk,cx.gd,λlw wy H1 Y4 s1 kl kr ew=>?_⟩));refine ⟨lw,rfl,⟨_,av.of kl⟩,?_⟩;refine (let Yr:IV:=λi σ H5=>(∃ v2 v3 v4 v5 v6 v7 v8 v9,σ=[some (.ref b),some (.ref lp),v2,v3,v4,v5,v6,v7,v8,v9])/\(∀ i' < i,∀ x,wy[i']?=some x->bB (aq P) x.2.n x.2.w.g x.2.w.o (2 ^ ws.length))/\aj H1 H5;wx (K:=K) (a:=lw) (xs:=wy.map λa=>V.ref a.1) Yr ⟨⟨_,_,_,_,_,_,_,_,rfl⟩,(λj z=>absurd z (zU _)),aj.refl _⟩ ?_ ?_ ?_)
  ·rintro i σ H5 _ ⟨_,_,s5⟩;exact av.of (s5 _ _ kl)
  ·rintro i v σ H5 hv ⟨⟨v2,v3,v4,v5,v6,v7,v8,v9,rfl⟩,old,s5⟩;obtain ⟨x,hx,rfl⟩:=xT hv;have mx:=zB hx;have kx:=s5 _ _ (kr x mx);have LV:=cx.same (s1.trans s5);have jA:=LV.pr;obtain ⟨n1,g1,o1,t1⟩:=sd cx.gd (x:=x.2) (by rw [zA,<- ew];exact zq mx);obtain ⟨a1,e8⟩:∃ a,P[x.2.n]?=some a:=⟨_,zD (by rw [zA] at n1;omega)⟩;obtain ⟨a2,ja⟩:∃ a,P[x.2.n + 1]?=some a:=⟨_,zD (by rw [zA] at n1;omega)⟩;have m1:=zB e8;have m2:=zB ja;obtain ⟨b1,bZ⟩:∃ r,a1.2[x.2.w.g]?=some r:=⟨_,zD (by rw [jA.dG a1 m1];exact g1)⟩;obtain ⟨c1,uX⟩:∃ r,a2.2[x.2.w.g]?=some r:=⟨_,zD (by rw [jA.dG a2 m2];exact g1)⟩;obtain ⟨d1,LG⟩:∃ r,a2.2[x.2.w.o]?=some r:=⟨_,zD (by rw [jA.dG a2 m2];exact o1)⟩;have eS:=zB bZ;have Ni:=zB uX;have Nh:=zB LG;have lb:=jA.gJ a1 m1 b1 eS;have YW:=jA.gJ a2 m2 c1 Ni;have ld:=jA.gJ a2 m2 d1 Nh;refine (MK kx ?_);refine (zr rfl (zr rfl (aD rfl rfl (bq jA.top (xW (j:=x.2.n + 1) (by rw [zF,ja];rfl)) (zr rfl (bq (jA.str a2 m2) (xW (by rw [zF,uX];rfl)) ?_))))));refine (zr rfl (zr rfl (aD rfl rfl (bq jA.top (xW (j:=x.2.n + 1) (by rw [zF,ja];rfl)) (zr rfl (bq (jA.str a2 m2) (xW (by rw [zF,LG];rfl)) ?_))))));refine (zr rfl (zr rfl (bq jA.top (xW (by rw [zF,e8];rfl)) (zr rfl (bq (jA.str a1 m1) (xW (by rw [zF,bZ];rfl)) ?_)))));refine ⟨b1.1,rfl,⟨_,av.of (jA.row a1 m1 b1 eS)⟩,?_⟩;refine (let Yq:IV:=λs σ H7=>(∃ v8 v9,σ=[some (.ref b),some (.ref lp),some (.int (x.2.n:Int)),some (.int (x.2.w.g:Int)),some (.int (x.2.w.o:Int)),some (.int x.2.w.t),some (.ref c1.1),some (.ref d1.1),v8,v9])/\(∀ s' < s,dX (aq P) x.2.n x.2.w.g x.2.w.o s')/\aj H5 H7;gq (K:=K) (a:=b1.1) (xs:=b1.2.map V.int) Yq ⟨⟨_,_,rfl⟩,(λj z=>absurd z (zU _)),aj.refl _⟩ ?_ ?_ ?_)
   ·rintro s σ H7 _ ⟨_,_,s7⟩;exact av.of (s7 _ _ (jA.row a1 m1 b1 eS))
   ·rintro s v q0 σ H7 hv hq ⟨⟨v8,v9,rfl⟩,o2,s7⟩;obtain ⟨y,hy,rfl⟩:=xT hv;have ls:s < b1.2.length:=(zI.mp hy).1;have ey:=kP hy;have s8:=s7.trans (yy (o:=HO.tup [V.int (s:Int),V.int y]) hq);have kq:upd H7 q0 (HO.tup [V.int (s:Int),V.int y]) q0=some (.tup [V.int (s:Int),V.int y]):=yq;generalize upd H7 q0 _=H8 at s8 kq ⊢;refine (sf kq ?_);refine (zr rfl ⟨s,rfl,by omega,λTZ rs H9 s9 T8 Wl es=>?_⟩);have ln:=split_len s;have WK:=jA.same (s8.trans s9);refine ⟨TZ,rfl,⟨_,av.of T8⟩,?_⟩;have Wh:rs.length<=s + 1:=by rw [<-es,zA] at ln;exact ln
    refine (let Yp:IC:=λj τ acc eW=>(∃ t0 t1,τ=[t0,t1,some (.int y),some (.ref d1.1),some (.ref c1.1)])/\acc=((rs.take j).map λr=>decide (1 + c1.2.getD r.2.1 0 + d1.2.getD r.2.2 0 < y)).map V.bl/\aj H9 eW;wd (K:=K) (a:=TZ) (xs:=rs.map λr=>V.ref r.1) Yp ⟨⟨_,_,rfl⟩,rfl,aj.refl _⟩ (by rw [zA];omega) ?_ ?_ ?_)
    ·rintro j τ acc eW ⟨_,rfl,bP⟩;refine ⟨?_,av.of (bP _ _ T8)⟩;rw [zA,zA,zW];omega
    ·rintro j v τ acc eW C hv ⟨⟨t0,t1,rfl⟩,rfl,bP⟩ hC;obtain ⟨r,hr,rfl⟩:=xT hv;have mr:=zB hr;have r2:=split_le (s:=s) (r:=r.2) (by rw [<-es];exact zq mr);have uQ:=WK.same bP;refine (sf (bP _ _ (Wl r mr)) ?_);refine (zr rfl (zr rfl (zr rfl (bq (uQ.row a2 m2 c1 Ni) (wZ (by omega)) ?_))));refine (aD rfl rfl (zr rfl (zr rfl (bq (uQ.row a2 m2 d1 Nh) (wZ (by omega)) ?_))));refine (aD rfl rfl (aD rfl rfl (hC _ _ _ ⟨⟨_,_,rfl⟩,?_,bP⟩)));rw [xb hr,zJ,zJ];rfl
    ·rintro τ acc eW ⟨⟨t0,t1,rfl⟩,rfl,bP⟩ lc eY;have eb:(rs.take (rs.map λr=>V.ref r.1).length).map (λr=>decide (1 + c1.2.getD r.2.1 0 + d1.2.getD r.2.2 0 < y))=gn y c1.2 d1.2 s:=by
      rw [zA,zk];unfold gn;rw [<-es,yR];rfl
     rw [eb];have ku:=bP.trans (yy (o:=HO.lst ((gn y c1.2 d1.2 s).map V.bl)) eY);refine ⟨lc,zr rfl ⟨av.of yq,zr rfl ?_⟩⟩;have ga:dX (aq P) x.2.n x.2.w.g x.2.w.o s↔∀ p,p<=s->p &&& s=p->y<=1 + c1.2.getD p 0 + d1.2.getD (s - p) 0:=by
      unfold dX;simp only [xc e8 bZ,xc ja uX,xc ja LG,ey]
     cases eo:(gn y c1.2 d1.2 s).any id with
     | true=>
      refine aO rfl (q false _ (((s1.trans s5).trans (s8.trans s9)).trans ku) ⟨(λz=>nomatch z),λz=>?_⟩);have zz:=z x.2 (by rw [zA,<- ew];exact zq mx) s (by omega);rw [mV.mpr (ga.mp zz)] at eo;cases eo
     | false=>
      refine aG rfl ⟨⟨_,_,rfl⟩,λs' Rr=>?_,(s8.trans s9).trans ku⟩;by_cases e:s'=s
      ·subst e;exact ga.mpr (mV.mp eo)
      ·exact o2 s' (by omega)
   ·rintro σ H7 ⟨⟨v8,v9,rfl⟩,o2,s7⟩;refine ⟨⟨_,_,_,_,_,_,_,_,rfl⟩,λi' cU z hz=>?_,s5.trans s7⟩;by_cases e:i'=i
    ·subst e;rw [hx] at hz;cases hz;exact λs hs=>o2 s (by rw [zA];omega)
    ·exact old i' (by omega) z hz
  ·rintro σ H5 ⟨⟨v2,v3,v4,v5,v6,v7,v8,v9,rfl⟩,old,s5⟩;refine q true H5 (s1.trans s5) ⟨λ_ y hy=>?_,λ_=>rfl⟩;have We:(ps.map (·.2)).length=ps.length:=zA _;rw [We,<- ew] at hy;obtain ⟨x,hx,rfl⟩:=zP.mp hy;obtain ⟨i,hi⟩:=List.mem_iff_getElem?.mp hx;exact old i (by rw [zA];exact (zI.mp hi).1) x hi
theorem Dj:aA ["book", "sender", "since", "wishes", "thing"] ["book", "sender", "since", "wishes", "thing"] (ai wg):=L2.aY
theorem E6 (T:Tx K mg a):aR P w K mg base cO 6 a.AE a.Bq ["book", "sender", "since", "wishes", "thing"] (fF):=by
 have Ep:=EN P w base T;have E4:=Fw P w base T;have Ei:=Dy P w base T;have Eg:=Dw P w base T;have Ej:=Dz P w base T;have Eh:=Dx P w base T;have Dc:=CT P w base T;refine T.A0.ok Dj (λvs H Q E h=>?_) (λbG A outer s H vs Q E hr h=>?_)
 ·obtain ⟨_,_,_,_,_,_,_,_,_,_,rfl,_⟩:=h;rfl
 ·have nd:=Dj.nd;have hu:=hr.units;obtain ⟨b,k,a0,l,v,af,tr,tm,ps,ws,rfl,hk,hb,hg,r1,gK,hw,w1,w4,dt,q⟩:=h;refine bO ?_;intro Y
  let B0:Bk Y ((ah wg).drop 3):=⟨_,(yx (xP (xM (xJ (xE rfl) (xJ (xE rfl) (xJ (xE rfl) (pv 4) (xF Ep (hr.mono (by decide)) rfl T.Fx T.Fy T.Fz .nil au (yp (yr (pv 0) (yr (pv 2) xB rfl) rfl))) (λ_ _=>rfl)) (pv 1) (λ_ _=>rfl)) (xF E4 (hr.mono (by decide)) rfl T.GD T.GJ T.GP .nil au (yp (yr (pv 3) xB rfl))) (λ_ _=>rfl)))))⟩
  let B1:Bk Y ((ah wg).drop 2):=⟨_,(yx (xN (xg (@PW.pt _ _ _ (cR (wj (wQ (xF Eh (hr.mono (by decide)) rfl T.DR T.DY T.D6 .nil au (yp (yr (pv 4) xB rfl))))) (bQ (wj (wQ (xF Dc (hr.mono (by decide)) rfl T.CY T.CZ T.C0 .nil au (yp (yr (pv 0) (yr (pv 4) xB rfl) rfl)))))))) (yx (xP (xM dJ))) xQ) B0.bl))⟩
  let B2:Bk Y ((ah wg).drop 1):=⟨_,(yx (xN (xg (@PW.pt _ _ _ (cR (wj (wQ (xF Eg (hr.mono (by decide)) rfl T.DQ T.DX T.D5 .nil au (yp (yr (pv 4) xB rfl))))) (bQ (wj (wQ (xF Ej (hr.mono (by decide)) rfl T.DU T.D1 T.D8 .nil au (yp (yr (pv 0) (yr (pv 3) (yr (pv 4) xB rfl) rfl) rfl)))))))) (yx (xP (xM dJ))) xQ) B1.bl))⟩
  refine ⟨_,(yx (xN (xg (wj (wQ (xF Ei (hr.mono (by decide)) rfl T.DS T.DZ T.D7 .nil au (yp (yr (pv 0) (yr (pv 3) (yr (pv 4) xB rfl) rfl) rfl))))) (yx (xP (xM dJ))) xQ) B2.bl)),?_⟩;have line:=bg;refine (zr rfl (zr rfl (zr rfl (Sd b l v af tr tm ps ws ⟨rfl,hb,gK,hg.len,hw,w4,dt,λH1 s1=>?_⟩))));rcases q with ⟨e,q⟩ | ⟨lp,P,rfl,hp,q1,q2⟩
  ·rw [e];exact (zr rfl (aO rfl (q _ s1)))
  rw [hp.aS];refine (zr rfl (aG rfl ?_));have cx:cG H1 b l lp af tr tm ps ws P:=⟨hb.same s1,hg,r1,gK,hw.same s1,w1,w4,hp.same s1⟩;have tS:=fH w4;have p1:=Nat.pos_of_ne_zero (yJ (ym ws.length));refine (zr rfl ⟨lp,_,_,_,P,rfl,cx.pr,hg.len,gK,p1,tS,λc1 H2 s2 e1=>?_⟩);have no:∀ H',aj H1 H'->¬ eX (ps.map (·.2)) (aq P) af.length (2 ^ ws.length) ws->Q .bu H':=λH' s' nf=>q2 nf H' (s1.trans s');cases c1 with
  | false=>exact (zr rfl (aO rfl (aO rfl (no _ s2 λf=>nomatch e1.mpr f.1))))
  | true=>
  have n1:=e1.mp rfl;refine (zr rfl (aG rfl (zr rfl (zr rfl (zr rfl (MA b l lp af tr tm ps ws P ⟨rfl,cx.same s2,λc2 H3 s3 e2=>?_⟩))))));cases c2 with
  | false=>exact (zr rfl (aO rfl (no _ (s2.trans s3) λf=>nomatch e2.mpr f.2.1)))
  | true=>
  have n2:=e2.mp rfl;have Pf:=cx.same (s2.trans s3);refine (zr rfl (aG rfl (zr rfl ⟨lp,_,_,_,P,rfl,Pf.pr,hg.len,gK,tS,λc3 H4 s4 e3=>?_⟩)));cases c3 with
  | false=>exact (zr rfl (aO rfl (aO rfl (no _ ((s2.trans s3).trans s4) λf=>nomatch e3.mpr (by rw [<-zA (as:=ps) (·.2)];exact f.2.2.1)))))
  | true=>
  have n3:=e3.mp rfl;refine (zr rfl (aG rfl (zr rfl (zr rfl (MA b l lp af tr tm ps ws P ⟨rfl,Pf.same s4,λc4 H5 s5 e4=>?_⟩)))));have K2:=((s2.trans s3).trans s4).trans s5;cases c4 with
  | false=>exact (zr rfl (aO rfl (no _ K2 λf=>nomatch e4.mpr f.2.2.2)))
  | true=>
  have n4:=e4.mp rfl;have LV:=cx.same K2;refine (zr rfl (aG rfl (zr rfl (zr rfl (zr rfl (MB b a0 af tr tm ps ⟨rfl,LV.bk,by have:=hg.len;omega,λH6 s6=>?_⟩))))));have cl:=dR (ps.map (·.2)) a0;rw [zA] at cl;have pl:=hp.len;obtain ⟨a1,e8⟩:∃ a,P[cnt (ps.map (·.2)) a0]?=some a:=⟨_,zD (by omega)⟩;have m1:=zB e8;obtain ⟨b1,bZ⟩:∃ r,a1.2[k]?=some r:=⟨_,zD (by rw [hp.dG a1 m1];exact hk)⟩;have eS:=zB bZ;have lb:=hp.gJ a1 m1 b1 eS;have nI:=LV.same s6;refine (bq nI.pr.top (xW (by rw [zF,e8];rfl)) (zr rfl (bq (nI.pr.str a1 m1) (xW (by rw [zF,bZ];rfl)) (zr rfl ⟨l,ws,zr rfl ⟨nI.wa,by omega,?_⟩⟩))));have ep:((2 ^ ws.length:Nat):Int) - 1=((2 ^ ws.length - 1:Nat):Int):=by omega
  rw [ep];refine (bq (nI.pr.row a1 m1 b1 eS) (wZ (by omega)) ?_);rw [<-xc e8 bZ];exact q1 ⟨n1,n2,by rw [zA];exact n3,n4⟩ _ ((s1.trans K2).trans s6)
theorem EL:aA ["_law_book_here", "_law_time_here"] ["_law_book_here", "_law_time_here"] (ai Df):=L2.aY
theorem CB (T:Tx K mg a):aR P w K mg base cO 1 a.BL a.Cf ["_law_book_here", "_law_time_here"] (lX):=by
 refine T.BX.ok EL (λvs H Q E h=>?_) (λbG A outer s H vs Q E hr h=>?_)
 ·obtain ⟨b,t,_,_,_,_,rfl,_⟩:=h;rfl
 ·have nd:=EL.nd;have hu:=hr.units;obtain ⟨b,t,af,tr,tm,ps,rfl,hb,hn,q⟩:=h;refine ⟨_,(yx (xP (xM (xG (xD rfl) (by rfl) T.aH PySem.boot_len (yp (yr (wP (own:=["_law_row"]) (caps:=[1]) rfl (show aC ["_law_row"] [1] ["_law_book_here", "_law_time_here"] (ai Df) _ from L2.dQ) (mw rfl (xJ (xX rfl) (pv 0) yu (λ_ _=>rfl))) (λ_ _ _ _=>(xH (i:=0) (show List.Nodup (["_law_row", "_law_time_here"]:List Str) from by decide +kernel) rfl rfl)) (λ_ _ _ _=>iu (xR tY (xJ (xX rfl) (pv 0) yu (λ_ _=>rfl)) (pv 1) (aB _))) (λ_ _ _ _=>(pv 0))) xB rfl)))))),?_⟩;refine (zr rfl (di hb.book rfl ⟨tm,rfl,⟨_,bC.of hb.meets⟩,?_⟩));refine (let Yo:IC:=λi τ acc H5=>(∃ t0,τ=[t0,some (.int t)])/\acc.length=cnt ((ps.map (·.2)).take i) t/\acc.length<=i/\aj H H5;ng (K:=K) (a:=tm) (xs:=ps.map λa=>V.ref a.1) Yo)
   ?_ (by rw [zA];omega) ?_ ?_ ?_
  ·exact ⟨⟨_,rfl⟩,rfl,zE _,aj.refl _⟩
  ·rintro i τ acc H5 ⟨⟨t0,rfl⟩,_,le,sm⟩;exact ⟨le,bC.of (sm _ _ hb.meets)⟩
  ·rintro i x τ acc H5 C hx ⟨⟨t0,rfl⟩,ec,le,sm⟩ hC;obtain ⟨r,hr,rfl⟩:=xT hx;have kH:=sm _ _ (hb.rows r (zB hr));have hm:(ps.map (·.2))[i]?=some r.2:=by rw [zF,hr];rfl
   refine (zr rfl (di kH rfl (zr rfl (aD rfl rfl (zr rfl (jz (λc=>(zr rfl (hC _ _ _ ?_))) (λc=>hC _ _ _ ?_)))))))
   ·exact ⟨⟨_,rfl⟩,by rw [fU hm,if_pos c,zH,ec];rfl,by rw [zH];exact Nat.succ_le_succ le,sm⟩
   ·exact ⟨⟨_,rfl⟩,by rw [fU hm,if_neg c,ec];rfl,by omega,sm⟩
  ·rintro τ acc H5 ⟨⟨t0,rfl⟩,ec,le,sm⟩ l hl;have e:(ps.map λa=>V.ref a.1).length=(ps.map (·.2)).length:=by simp
   rw [e,zk] at ec;refine ⟨l,zr rfl ⟨.inl (av.of yq),?_⟩⟩;rw [ec];exact q _ (sm.trans (yy hl))
theorem CU:aA ["_law_purse_here", "_law_book_here", "_law_most_here", "_law_left", "_law_found", "_law_k", "_law_walker"] ["_law_purse_here", "_law_book_here", "_law_most_here"] (ai wW):=L2.aY
theorem EO (T:Tx K mg a):aR P w K mg base cO 4 a.Ay a.A9 ["_law_purse_here", "_law_book_here", "_law_most_here"] (nX):=by
 have Aa:=xl P w base T;have Dd:=DO P w base T;refine T.AM.ok CU (λvs H Q E h=>?_) (λbG A outer s H vs Q E hr h=>?_)
 ·obtain ⟨_,_,_,_,_,_,_,rfl,_⟩:=h;rfl
 ·have nd:=CU.nd;have hu:=hr.units;obtain ⟨p,b,m,af,tr,tm,ps,rfl,m1,m4,pu,hb,gd,r1,gK,q⟩:=h;refine bO ?_;intro Y
  let B0:Bk Y ((nb (ah wW) 2).drop 1):=⟨_,(yx (xP (wb (cD zX zZ za xw (pv 4) (yp (yr (bS (yp (yr (pv 6) (yr (xF Dd (hr.mono (by decide)) rfl T.Ew T.Ey T.EA .nil au (yp (yr (pv 0) (yr (pv 1) (yr yu xB rfl) rfl) rfl))) xB rfl) rfl))) xB rfl))))))⟩
  let B1:Bk Y (nb (ah wW) 2):=⟨_,(yx (xN (xL (i:=6) nd rfl rfl (cD zX PySem.F.slot_list_pop PySem.F.type_list_pop uc (pv 3) (yp (yr (xF Aa (hr.mono (by decide)) rfl T.Ab T.Ac T.Ae .nil au (yp (yr (pv 0) (yr (xG (xD rfl) (by rfl) T.aH PySem.boot_len (yp (yr (pv 3) xB rfl))) xB rfl) rfl))) xB rfl)))) B0.bl))⟩
  let B2:Bk Y ((ah wW).drop 2):=⟨_,(yx (xN (xj PassesOwn.never rfl (xx rfl T.aW (yp (yr (xI xU yu (xF Aa (hr.mono (by decide)) rfl T.Ab T.Ac T.Ae .nil au (yp (yr (pv 0) (yr (xG (cg rfl) (by rfl) T.j9 yQ (yp (yr (pv 2) (yr (xG (xD rfl) (by rfl) T.aH PySem.boot_len (yp (yr (pv 3) xB rfl))) xB rfl) rfl))) xB rfl) rfl)))) xB rfl))) (xH (i:=5) nd rfl rfl) B1.ps) (xP (xM (pv 4)))))⟩
  refine ⟨_,(yx (xN (xL (i:=3) nd rfl rfl (kC rfl rfl T.bU rfl T.aW (yp (yr (xG (xD rfl) (by rfl) T.aH PySem.boot_len (yp (yr (xJ (xX rfl) (pv 1) yu (λ_ _=>rfl)) xB rfl))) xB rfl)))) (xN (xL (i:=4) nd rfl rfl (xY bT)) B2.bl))),?_⟩;have line:=bg;have oR:(2:Int) ^ 200 > 10000:=by decide
  refine (zr rfl (di hb.book rfl ⟨tr,zr rfl ⟨.inr (bC.of hb.af),af.length,by rw [zA],by omega,λll O4=>⟨zV _,λlf nH=>?_⟩⟩⟩));have s1:=(yy (o:=HO.lst (List.map (λk:Nat=>V.int (k:Int)) (List.range af.length))) O4).trans (yy (o:=HO.lst []) nH);have fl:H lf=none:=(yy O4).free nH;have OR:ll≠p:=pu.ne O4;have Lj:lf≠p:=pu.ne fl;have Q2:lf≠ll:=λz=>by rw [z,yq] at nH;cases nH
  have h1:upd (upd H ll (HO.lst (List.map (λk:Nat=>V.int (k:Int)) (List.range af.length)))) lf (HO.lst []) ll=some (.lst (List.map (λk:Nat=>V.int (k:Int)) (List.range af.length))):=by rw [xC Q2.symm,yq]
  have Xo:upd (upd H ll (HO.lst (List.map (λk:Nat=>V.int (k:Int)) (List.range af.length)))) lf (HO.lst []) lf=some (.lst []):=yq;have g1:Go p H (upd (upd H ll (HO.lst (List.map (λk:Nat=>V.int (k:Int)) (List.range af.length)))) lf (HO.lst [])):=(Go.refl pu).same s1;generalize upd (upd H ll (HO.lst (List.map (λk:Nat=>V.int (k:Int)) (List.range af.length)))) lf (HO.lst [])=H1 at *;refine (zr rfl (zr rfl (zr rfl ⟨ll,zr rfl ⟨.inl (av.of h1),jE rfl ⟨p,zr rfl ⟨?_,?_,g1.2,λd H2 d0 d1 g2=>?_⟩⟩⟩⟩)))
  ·rw [zA,zx];split <;> omega
  ·rw [zA,zx];split <;> omega
  rw [zA,zx] at d1;obtain ⟨d,rfl⟩:=zQ d0;have dn:d < af.length/\(d:Int) < m:=by split at d1 <;> omega
  refine (aD rfl rfl (zr rfl ⟨by omega,by omega,?_⟩));refine (let Yn:IV:=λi σ H5=>∃ (ks:List Nat) (ws:List (Addr×Nat×Int)),(∃ v5 v6,σ=[some (.ref p),some (.ref b),some (.int m),some (.ref ll),some (.ref lf),v5,v6])/\Go p H H5/\H5 ll=some (.lst (ks.map λk:Nat=>V.int (k:Int)))/\ks.length + i=af.length/\(∀ x∈ks,x < af.length)/\dz H5 lf af.length ws/\ws.length=i;wV (lo:=0) Yn ?_ ?_ ?_)
  ·exact ⟨List.range af.length,[],⟨_,_,rfl⟩,g1.trans g2,g2.1 _ _ OR h1,by simp,λx hx=>zi.mp hx,⟨g2.1 _ _ Lj Xo,λ_ z=>nomatch z⟩,rfl⟩
  ·rintro i σ H5 hi ⟨ks,ws,⟨v5,v6,rfl⟩,g5,h5,lk,kn,hw,lw⟩;have cU:i < d + 1:=by omega
   have k0:0 < ks.length:=by omega
   refine (zr rfl ⟨.inl ⟨rfl,_,av.of h5⟩,zr rfl (zr rfl ⟨ll,zr rfl ⟨.inl (av.of h5),p,zr rfl ⟨by rw [zA];omega,by rw [zA];omega,g5.2,λe H6 e0 e1 g6=>?_⟩⟩⟩)⟩);rw [zA] at e1;obtain ⟨e,rfl⟩:=zQ e0;have he:e < ks.length:=by omega
   have h6:=g6.1 _ _ OR h5;have UM:=g5.trans g6;have J6:dz H6 lf af.length ws:=⟨g6.1 _ _ Lj hw.1,λx hx=>⟨g6.aJ g5.2 _ _ (hw.2 x hx).1,(hw.2 x hx).2⟩⟩;refine ⟨ll,_,(e:Int),e,V.int (ks[e]:Int),rfl,rfl,h6,by omega,by omega,(kG (fQ (by rw [zA];exact he))).1,by simp [he],?_⟩;have wk:ks[e] < af.length:=kn _ (zp he);have g7:Go p H (upd H6 ll (HO.lst ((ks.map λk:Nat=>V.int (k:Int)).eraseIdx e))):=⟨λx u n c=>by rw [xC (xA c O4)];exact UM.1 x u n c,by obtain ⟨x1,x2,x3,c⟩:=UM.2;exact ⟨x1,x2,x3,by rw [xC OR.symm];exact c⟩⟩;have h7:upd H6 ll (HO.lst ((ks.map λk:Nat=>V.int (k:Int)).eraseIdx e)) ll=some (.lst ((ks.eraseIdx e).map λk:Nat=>V.int (k:Int))):=by rw [yq,List.eraseIdx_eq_take_drop_succ,List.eraseIdx_eq_take_drop_succ,zJ,List.map_take,List.map_drop]
   have t7:=dB.set (o:=HO.lst ((ks.map λk:Nat=>V.int (k:Int)).eraseIdx e)) h6;have OZ:dz (upd H6 ll (HO.lst ((ks.map λk:Nat=>V.int (k:Int)).eraseIdx e))) lf af.length ws:=⟨by rw [xC Q2];exact J6.1,λx hx=>⟨t7 _ _ (J6.2 x hx).1,(J6.2 x hx).2⟩⟩;generalize upd H6 ll (HO.lst ((ks.map λk:Nat=>V.int (k:Int)).eraseIdx e))=H7 at *;have N6:=hb.aJ (g7.aJ pu);refine (zr rfl ⟨.inl ⟨rfl,_,av.of OZ.1⟩,zr rfl (zr rfl (zr rfl (Se p b 1 af tr tm ps ⟨rfl,.inr rfl,N6,gd,g7.2,λz H9 z0 z1 g9=>?_⟩)))⟩);have WZ:=g9.1 _ _ Lj OZ.1;have h9:=g9.1 _ _ OR h7;refine ⟨by show 2<=sizeLine;omega,λt ht=>?_⟩;have bP:=yy (o:=HO.tup [V.int (ks[e]:Int),V.int z]) ht;have NZ:=bP _ _ WZ;refine ⟨lf,aD rfl rfl ⟨NZ,by rw [zA];omega,ks.eraseIdx e,ws++[(t,ks[e],z)],⟨_,_,rfl⟩,?_,?_,?_,λx hx=>kn x ((List.eraseIdx_sublist ks e).subset hx),⟨by rw [yq,zJ];rfl,λx hx=>?_⟩,by rw [zH,lw];rfl⟩⟩
   ·have jr:=(g7.trans g9).same bP;exact ⟨λx u n c=>by rw [xC (xA c fl)];exact jr.1 x u n c,by obtain ⟨x1,x2,x3,c⟩:=jr.2;exact ⟨x1,x2,x3,by rw [xC Lj.symm];exact c⟩⟩
   ·rw [xC Q2.symm];exact bP _ _ h9
   ·rw [List.length_eraseIdx_of_lt he];omega
   ·have tt:=dB.set (o:=HO.lst ((ws.map λx=>V.ref x.1)++[V.ref t])) NZ;rcases zS.mp hx with h | h
    ·exact ⟨tt _ _ (bP _ _ (g9.aJ g7.2 _ _ (OZ.2 x h).1)),(OZ.2 x h).2⟩
    ·cases zG.mp h;exact ⟨tt _ _ yq,wk⟩
  ·rintro σ H5 ⟨ks,ws,⟨v5,v6,rfl⟩,g5,h5,lk,kn,hw,lw⟩;exact (zr rfl (q lf ws H5 g5 fl Lj hw (by omega) (by omega)))
theorem CW:aA ["_law_book_here", "_law_wishes_here", "_law_prices_here", "_law_row", "_law_some"] ["_law_book_here", "_law_wishes_here", "_law_prices_here"] (ai wM):=L2.aY
theorem ER (T:Tx K mg a):aR P w K mg base cO 2 a.AA a.Bb ["_law_book_here", "_law_wishes_here", "_law_prices_here"] (nZ):=by
 have CO:=Dt P w base T;refine T.AO.ok CW (λvs H Q E h=>?_) (λbG A outer s H vs Q E hr h=>?_)
 ·obtain ⟨_,_,_,_,_,_,_,_,_,rfl,_⟩:=h;rfl
 ·have nd:=CW.nd;have hu:=hr.units;obtain ⟨b,l,lp,af,tr,tm,ps,ws,P,rfl,cx,q⟩:=h;refine bO ?_;intro Y
  let B0:Bk Y ((nb (nb (ah wM) 1) 1).drop 1):=⟨_,(yx (xP (xg (@PW.pt _ _ _ (cR (wj (wQ (xG (dS rfl rfl) (by rfl) T.nu yb (yp (yr (wP (own:=["_law_one"]) (caps:=[]) rfl (show aC ["_law_one"] [] ["_law_book_here", "_law_wishes_here", "_law_prices_here", "_law_row", "_law_some"] (ai wM) _ from L2.dQ) (xa rfl (pv 4)) (λ_ _ _ _=>(xH (i:=0) (show List.Nodup (["_law_one"]:List Str) from by decide +kernel) rfl rfl)) (λ_ _ _ _=>wS) (λ_ _ _ _=>(gf (xF CO (hr.mono (by decide)) rfl T.DV T.D3 T.D9 .nil au (yp (yr (pv 0) xB rfl))) (iR (cC tZ (pv 0) yu (aB _)))))) xB rfl))))) (bQ (xR gM (xJ (xE rfl) (pv 4) yu (λ_ _=>rfl)) yu (aB _))))) (yx (xP (xM wR))) xQ)))⟩
  let B1:Bk Y (nb (nb (ah wM) 1) 1):=⟨_,(yx (xN (xg (@PW.pt _ _ _ (cR (wj (wQ (xG (xu) (by rfl) T.aK zd (yp (yr (pv 4) (yr (bL (v:=V.ty "list") rfl T.bU zj rfl) xB rfl) rfl))))) (bQ (xR gM (xG (xD rfl) (by rfl) T.aH PySem.boot_len (yp (yr (pv 4) xB rfl))) (xI eO yu (xG (xD rfl) (by rfl) T.aH PySem.boot_len (yp (yr (pv 1) xB rfl)))) (aB _))))) (yx (xP (xM wR))) xQ) B0.bl))⟩
  let B2:Bk Y (nb (ah wM) 1):=⟨_,(yx (xN (xg (@PW.pt _ _ _ (cR (wj (wQ (xG (xu) (by rfl) T.aK zd (yp (yr (pv 3) (yr (bL (v:=V.ty "list") rfl T.bU zj rfl) xB rfl) rfl))))) (bQ (xR gM (xG (xD rfl) (by rfl) T.aH PySem.boot_len (yp (yr (pv 3) xB rfl))) (xG (xD rfl) (by rfl) T.aH PySem.boot_len (yp (yr (xJ (xX rfl) (pv 0) yu (λ_ _=>rfl)) xB rfl))) (aB _))))) (yx (xP (xM wR))) xQ) (xP (xj PassesOwn.never rfl (xa rfl (pv 3)) (xH (i:=4) nd rfl rfl) B1.ps))))⟩
  refine ⟨_,(yx (xN (xg (@PW.pt _ _ _ (cR (wj (wQ (xG (xu) (by rfl) T.aK zd (yp (yr (pv 2) (yr (bL (v:=V.ty "list") rfl T.bU zj rfl) xB rfl) rfl))))) (bQ (xR gM (xG (xD rfl) (by rfl) T.aH PySem.boot_len (yp (yr (pv 2) xB rfl))) (xI xU (xG (xD rfl) (by rfl) T.aH PySem.boot_len (yp (yr (xJ (xX rfl) (pv 0) yu (λ_ _=>rfl)) xB rfl))) yu) (aB _))))) (yx (xP (xM wR))) xQ) (xN (xj PassesOwn.never rfl (xa rfl (pv 2)) (xH (i:=3) nd rfl rfl) B2.ps) (xP (xM wR))))),?_⟩;have line:=bg;have w4:=cx.w4;have tS:=fH w4;have p1:=ym ws.length;have pQ:ps.length<=60:=cx.gd.len;have hp:=cx.pr;have hb:=cx.bk;refine (zr rfl ⟨_, "list", "list", rfl,bK hp.top,.inr (.inr (.inl rfl)),zr rfl (aG rfl (zr rfl ⟨lp,zr rfl ⟨.inl (av.of hp.top),zr rfl (di hb.book rfl ⟨tm,zr rfl ⟨.inr (bC.of hb.meets),aD rfl rfl ⟨rfl,zr rfl (aG (by simp [hp.len]) ?_)⟩⟩⟩)⟩⟩))⟩);refine (zr rfl ⟨lp,rfl,⟨_,av.of hp.top⟩,?_⟩);refine (let Ym:IV:=λi σ H5=>(∃ v3 v4,σ=[some (.ref b),some (.ref l),some (.ref lp),v3,v4])/\(∀ a∈P.take i,∀ r∈a.2,r.2.getD 0 0=0)/\aj H H5;wx (K:=K) (a:=lp) (xs:=P.map λa=>V.ref a.1) Ym ⟨⟨_,_,rfl⟩,(λa z=>nomatch z),aj.refl _⟩ ?_ ?_ ?_)
  ·rintro i σ H5 _ ⟨_,_,s5⟩;exact av.of (s5 _ _ hp.top)
  ·rintro i v σ H5 hv ⟨⟨v3,v4,rfl⟩,old,s5⟩;obtain ⟨a1,ha,rfl⟩:=xT hv;have m1:=zB ha;have jA:=hp.same s5;have ks:=jA.str a1 m1;refine (zr rfl ⟨_, "list", "list", rfl,bK ks,.inr (.inr (.inl rfl)),zr rfl (aG rfl (zr rfl ⟨a1.1,zr rfl ⟨.inl (av.of ks),zr rfl (di ((hb.same s5).book) rfl ⟨tr,zr rfl ⟨.inr (bC.of (hb.same s5).af),rfl,zr rfl (aG (by simp [hp.dG a1 m1]) ?_)⟩⟩)⟩⟩))⟩);refine (zr rfl ⟨a1.1,rfl,⟨_,av.of ks⟩,?_⟩);refine (let Yl:IV:=λj σ H6=>(∃ v4,σ=[some (.ref b),some (.ref l),some (.ref lp),some (.ref a1.1),v4])/\(∀ r∈a1.2.take j,r.2.getD 0 0=0)/\aj H5 H6;wx (K:=K) (a:=a1.1) (xs:=a1.2.map λa=>V.ref a.1) Yl ⟨⟨_,rfl⟩,(λa z=>nomatch z),aj.refl _⟩ ?_ ?_ ?_)
   ·rintro j σ H6 _ ⟨_,_,s6⟩;exact av.of (s6 _ _ ks)
   ·rintro j v σ H6 Lx ⟨⟨v4,rfl⟩,o2,s6⟩;obtain ⟨r,hr,rfl⟩:=xT Lx;have mr:=zB hr;have nG:=jA.same s6;have kr:=nG.row a1 m1 r mr;have lr:=hp.gJ a1 m1 r mr;refine (zr rfl ⟨_, "list", "list", rfl,bK kr,.inr (.inr (.inl rfl)),zr rfl (aG rfl (zr rfl ⟨r.1,zr rfl ⟨.inl (av.of kr),zr rfl ⟨l,zr rfl ⟨.inl (av.of (cx.wa.same (s5.trans s6)).1),aD rfl rfl ⟨⟨zt _,by rw [zA];omega,by decide⟩,?_⟩⟩⟩⟩⟩))⟩);refine ⟨rfl,zr rfl (aG ?_ ?_)⟩
    ·show (!decide (V.int (((r.2.map V.int).length:Nat):Int)=V.int ((1:Int) * 2 ^ (((ws.map λx=>V.ref x.1).length:Nat):Int).toNat)))=false;rw [zA,zA,cX,lr];simp
    refine (zr rfl ⟨r.1,rfl,⟨_,av.of kr⟩,?_⟩);refine (let Yk:IC:=λs τ acc H7=>(∃ t0,τ=[t0])/\acc=(List.replicate s true).map V.bl/\aj H6 H7;wd (K:=K) (a:=r.1) (xs:=r.2.map V.int) Yk ⟨⟨_,rfl⟩,rfl,aj.refl _⟩ (by rw [zA];omega) ?_ ?_ ?_)
    ·rintro s τ acc H7 ⟨_,rfl,s7⟩;refine ⟨?_,av.of (s7 _ _ kr)⟩;rw [zA,List.length_replicate];exact zE _
    ·rintro s v τ acc H7 C Rm ⟨⟨t0,rfl⟩,rfl,s7⟩ hC;obtain ⟨y,hy,rfl⟩:=xT Rm;have y0:=hp.pos a1 m1 r mr y (zB hy);refine (zr rfl ⟨V.int y, "int", rfl,rfl,zr rfl (aO rfl (zr rfl (aD rfl rfl (hC _ _ _ ⟨⟨_,rfl⟩,?_,s7⟩))))⟩);rw [List.replicate_succ',zJ];show _++[V.bl (decide ((0:Int)<=y))]=_;rw [decide_eq_true y0];rfl
    ·rintro τ acc H7 ⟨⟨t0,rfl⟩,rfl,s7⟩ lc eY;have s8:=s7.trans (yy (o:=HO.lst ((List.replicate (r.2.map V.int).length true).map V.bl)) eY);have al:(List.replicate (r.2.map V.int).length true).all id=true:=by rw [yV];intro x hx;exact List.eq_of_mem_replicate hx
     refine ⟨lc,zr rfl ⟨av.of yq,zr rfl (aG (by rw [al];rfl) (zr rfl (bq (s8 _ _ kr) (wZ (n:=0) (by omega)) ⟨rfl,zr rfl ?_⟩)))⟩⟩;have VM:=(s5.trans s6).trans s8;by_cases e:r.2.getD 0 0=0
     ·refine aG (by rw [e];rfl) ⟨⟨_,rfl⟩,λr' Mq=>?_,s6.trans s8⟩;rw [xb hr] at Mq;rcases zS.mp Mq with h | h
      ·exact o2 r' h
      ·cases zG.mp h;exact e
     ·refine aO (by rw [decide_eq_false (λz=>e (V.int.inj z))];rfl) (q false _ VM ⟨(λz=>nomatch z),λz=>absurd (z _ (zq m1) _ (zq mr)) e⟩)
   ·rintro σ H6 ⟨⟨v4,rfl⟩,o2,s6⟩;refine ⟨⟨_,_,rfl⟩,λa Uy=>?_,s5.trans s6⟩;rw [xb ha] at Uy;rcases zS.mp Uy with h | h
    ·exact old a h
    ·cases zG.mp h;rw [zA,zk] at o2;exact o2
  ·rintro σ H5 ⟨⟨v3,v4,rfl⟩,old,s5⟩;rw [zA,zk] at old;refine q true H5 s5 ⟨λ_ st uO r0 WI=>?_,λ_=>rfl⟩;obtain ⟨a,ha,rfl⟩:=zP.mp uO;obtain ⟨r,hr,rfl⟩:=zP.mp WI;exact old a ha r hr
theorem DJ:aA ["_law_book_here", "_law_wishes_here", "_law_prices_here", "_law_k", "_law_walker", "_law_last", "_law_row", "_law_wished"] ["_law_book_here", "_law_wishes_here", "_law_prices_here"] (ai wv):=L2.aY
theorem FP (T:Tx K mg a):aR P w K mg base cO 2 a.AW a.BG ["_law_book_here", "_law_wishes_here", "_law_prices_here"] (fE):=by
 have BV:=CB P w base T;refine T.Bm.ok DJ (λvs H Q E h=>?_) (λbG A outer s H vs Q E hr h=>?_)
 ·obtain ⟨_,_,_,_,_,_,_,_,_,rfl,_⟩:=h;rfl
 ·have nd:=DJ.nd;have hu:=hr.units;obtain ⟨b,l,lp,af,tr,tm,ps,ws,P,rfl,cx,q⟩:=h;refine bO ?_;intro Y
  let B0:Bk Y (nb (nb (nb (ah wv) 0) 0) 0):=⟨_,(yx (xP (xg (@PW.pt _ _ _ (kB (xR cE (xI iT (xI tV (pv 7) (pv 3)) yu) yu (aB _)) (ir (xR fL (xJ (xE rfl) (xJ (xE rfl) (pv 6) (pv 4) (λ_ _=>rfl)) (pv 7) (λ_ _=>rfl)) (xJ (xE rfl) (xJ (xE rfl) (pv 6) (pv 4) (λ_ _=>rfl)) (xI cY (pv 7) (xI eO yu (pv 3))) (λ_ _=>rfl)) (aB _))))) (yx (xP (xM wR))) xQ)))⟩
  let B1:Bk Y (nb (nb (ah wv) 0) 0):=⟨_,(yx (xP (xj PassesOwn.never rfl (xx rfl T.aW (yp (yr (xI eO yu (xG (xD rfl) (by rfl) T.aH PySem.boot_len (yp (yr (pv 1) xB rfl)))) xB rfl))) (xH (i:=7) nd rfl rfl) B0.ps)))⟩
  let B2:Bk Y (nb (ah wv) 0):=⟨_,(yx (xP (xj PassesOwn.never rfl (xa rfl (xz (wF rfl) (pv 2) wX (wO (xI xU (xF BV (hr.mono (by decide)) rfl T.Dg T.Dh T.Di .nil au (yp (yr (pv 0) (yr (pv 5) xB rfl) rfl))) yu)))) (xH (i:=6) nd rfl rfl) B1.ps)))⟩
  refine ⟨_,(yx (xN (xj PassesOwn.never rfl (fK rfl rfl T.bF (yp (yr (pv 1) xB rfl))) (xp (n:=2) rfl rfl (xK (xH (i:=3) nd rfl rfl) (xK (xp (n:=2) rfl rfl (xK (xH (i:=4) nd rfl rfl) (xK (xH (i:=5) nd rfl rfl) xo))) xo))) B2.ps) (xP (xM wR)))),?_⟩;have line:=bg;have w4:=cx.w4;have tS:=fH w4;have pQ:ps.length<=60:=cx.gd.len;have pl:=cx.pr.len;refine (zr rfl ⟨l,rfl,⟨_,av.of cx.wa.1⟩,?_⟩);refine (let Yj:IV:=λi σ H5=>(∃ v3 v4 v5 v6 v7,σ=[some (.ref b),some (.ref l),some (.ref lp),v3,v4,v5,v6,v7])/\(∀ k x,k < i->ws[k]?=some x->vL (ps.map (·.2)) (aq P) (2 ^ ws.length) k x.2.1 x.2.2)/\aj H H5;gq (K:=K) (a:=l) (xs:=ws.map λa=>V.ref a.1) Yj ⟨⟨_,_,_,_,_,rfl⟩,(λk x z=>absurd z (zU _)),aj.refl _⟩ ?_ ?_ ?_)
  ·rintro i σ H5 _ ⟨_,_,sm⟩;exact av.of (sm _ _ cx.wa.1)
  ·rintro i v q0 σ H5 hv hq ⟨⟨v3,v4,v5,v6,v7,rfl⟩,old,sm⟩;obtain ⟨x,hx,rfl⟩:=xT hv;have i4:i < ws.length:=(zI.mp hx).1;have s6:=sm.trans (yy (o:=HO.tup [V.int (i:Int),V.ref x.1]) hq);have kq:upd H5 q0 (HO.tup [V.int (i:Int),V.ref x.1]) q0=some (.tup [V.int (i:Int),V.ref x.1]):=yq;generalize upd H5 q0 (HO.tup [V.int (i:Int),V.ref x.1])=H6 at s6 kq ⊢;have nI:=cx.same s6;obtain ⟨kx,lx⟩:=nI.wa.2 x (zB hx);refine ⟨q0,zr rfl ⟨bC.of kq,rfl,jE rfl (jE rfl (sf kx ⟨rfl,?_⟩))⟩⟩;refine (zr rfl (zr rfl (zr rfl (MB b x.2.2 af tr tm ps ⟨rfl,nI.bk,by omega,λH7 s7=>?_⟩))));refine (aD rfl rfl (zr rfl ⟨lp,zr rfl ⟨av.of (nI.same s7).pr.top,λl2 qV=>?_⟩⟩));rw [show ((cnt (ps.map (·.2)) x.2.2:Nat):Int) + 1=((cnt (ps.map (·.2)) x.2.2 + 1:Nat):Int) from rfl,jh,<- List.map_take];have s8:=(s6.trans s7).trans (yy (o:=HO.lst ((P.take (cnt (ps.map (·.2)) x.2.2 + 1)).map λa=>V.ref a.1)) qV);have k8:upd H7 l2 (HO.lst ((P.take (cnt (ps.map (·.2)) x.2.2 + 1)).map λa=>V.ref a.1)) l2=some (.lst ((P.take (cnt (ps.map (·.2)) x.2.2 + 1)).map λa=>V.ref a.1)):=yq;generalize upd H7 l2 _=H8 at s8 k8 ⊢;refine ⟨l2,rfl,⟨_,av.of k8⟩,?_⟩;refine wx (K:=K) (a:=l2) (xs:=(P.take (cnt (ps.map (·.2)) x.2.2 + 1)).map λa=>V.ref a.1) (λj σ H5=>(∃ v6 v7,σ=[some (.ref b),some (.ref l),some (.ref lp),some (.int (i:Int)),some (.int (x.2.1:Int)),some (.int x.2.2),v6,v7])/\(∀ i' < j,∀ s < 2 ^ ws.length,s.testBit i=true->cu (aq P) i' x.2.1 s<=cu (aq P) i' x.2.1 (s - 2 ^ i))/\aj H8 H5) ⟨⟨_,_,rfl⟩,(λj z=>absurd z (zU _)),aj.refl _⟩ ?_ ?_ ?_
   ·rintro j σ H9 _ ⟨_,_,s9⟩;exact av.of (s9 _ _ k8)
   ·rintro j v σ H9 Lx ⟨⟨v6,v7,rfl⟩,o2,s9⟩;obtain ⟨a1,ha,rfl⟩:=xT Lx;obtain ⟨lj,hj⟩:=iH ha;have ma:=zB hj;have vq:=cx.same (s8.trans s9);obtain ⟨r,hr⟩:∃ r,a1.2[x.2.1]?=some r:=⟨_,zD (by rw [vq.pr.dG a1 ma];exact lx)⟩;have mr:=zB hr;have lr:=vq.pr.gJ a1 ma r mr;refine (zr rfl ⟨l,zr rfl ⟨.inl (av.of vq.wa.1),aD rfl rfl ⟨⟨zt _,by rw [zA];omega,by decide⟩,?_⟩⟩⟩);refine ⟨((2 ^ ws.length:Nat):Int),?_,by omega,by omega,?_⟩
    ·show [V.int ((1:Int) * 2 ^ (((ws.map λx=>V.ref x.1).length:Nat):Int).toNat)]=_;rw [zA,cX]
    rw [zc];refine (let Yi:IV:=λs σ eW=>(∃ v7,σ=[some (.ref b),some (.ref l),some (.ref lp),some (.int (i:Int)),some (.int (x.2.1:Int)),some (.int x.2.2),some (.ref a1.1),v7])/\(∀ s' < s,s'.testBit i=true->cu (aq P) j x.2.1 s'<=cu (aq P) j x.2.1 (s' - 2 ^ i))/\aj H9 eW;wV (lo:=0) (n:=2 ^ ws.length) Yi ⟨⟨_,rfl⟩,(λj z=>absurd z (zU _)),aj.refl _⟩ ?_ ?_)
    ·rintro s σ eW hs ⟨⟨v7,rfl⟩,o3,bP⟩;have uQ:=vq.pr.same bP;have ks:=uQ.str a1 ma;have kr:=uQ.row a1 ma r mr;refine (zr rfl (zr rfl (aD rfl rfl ⟨zt _,aD rfl rfl ⟨rfl,zr rfl ?_⟩⟩)));rw [yh];have eb:decide (V.int (Builtin.bitAnd ((s:Int) / 2 ^ (i:Int).toNat) 1)=V.int 1)=s.testBit i:=by
      rw [IW];cases s.testBit i <;> rfl
     cases bt:s.testBit i with
     | false=>
      refine aG (by rw [<-bt];exact eb) (aG rfl ⟨⟨_,rfl⟩,λs' Rr gj=>?_,bP⟩);by_cases e:s'=s
      ·subst e;rw [bt] at gj;cases gj
      ·exact o3 s' (by omega) gj
     | true=>
      have ge:=Nat.ge_two_pow_of_testBit bt;have lu:=Nat.sub_le s (2 ^ i);refine aO (by rw [<-bt];exact eb) ?_;refine (zr rfl (zr rfl (bq ks (xW (by rw [zF,hr];rfl)) (zr rfl (bq kr (wZ (by omega)) ?_)))));refine (zr rfl (zr rfl (bq ks (xW (by rw [zF,hr];rfl)) (zr rfl (zr rfl (aD rfl rfl ⟨⟨zt _,by omega,by decide⟩,?_⟩))))));refine (aD rfl rfl (bq kr (show ee _ ((s:Int) - (1:Int) * 2 ^ (i:Int).toNat)=some (V.int (r.2.getD (s - 2 ^ i) 0)) from by rw [cX,show (s:Int) - ((2 ^ i:Nat):Int)=((s - 2 ^ i:Nat):Int) by omega];exact wZ (by omega)) (aD rfl rfl (zr rfl ?_))));refine jz (λc0=>q false _ ((s8.trans s9).trans bP) ⟨(λz=>nomatch z),λz=>?_⟩) (λc0=>⟨⟨_,rfl⟩,λs' Rr gj=>?_,bP⟩)
      ·have:=z i x hx j (by omega) s hs bt;rw [xc hj hr,xc hj hr] at this;omega
      ·by_cases e:s'=s
       ·subst e;rw [xc hj hr,xc hj hr];omega
       ·exact o3 s' (by omega) gj
    ·rintro σ eW ⟨⟨v7,rfl⟩,o3,bP⟩;refine ⟨⟨_,_,rfl⟩,λi' cU s hs hb=>?_,s9.trans bP⟩;by_cases e:i'=j
     ·subst e;exact o3 s hs hb
     ·exact o2 i' (by omega) s hs hb
   ·rintro σ H9 ⟨⟨v6,v7,rfl⟩,o2,s9⟩;refine ⟨⟨_,_,_,_,_,rfl⟩,λk y hk hy=>?_,s8.trans s9⟩;by_cases e:k=i
    ·subst e;rw [hx] at hy;cases hy;intro i' cU s hs hb;have:=dR (ps.map (·.2)) x.2.2;rw [zA] at this;exact o2 i' (by rw [zA,zW];omega) s hs hb
    ·exact old k y (by omega) hy
  ·rintro σ H5 ⟨⟨v3,v4,v5,v6,v7,rfl⟩,old,sm⟩;refine q true H5 sm ⟨λ_ k x hx=>old k x (by rw [zA];exact (zI.mp hx).1) hx,λ_=>rfl⟩
theorem Dr:aA ["_law_now", "_law_kept", "_law_given", "_law_wished", "_law_part"] ["_law_now", "_law_kept", "_law_given"] (ai Cd):=L2.aY
theorem Fc (T:Tx K mg a):aR P w K mg base cO 1 a.AL a.Bx ["_law_now", "_law_kept", "_law_given"] (qw):=by
 refine T.A8.ok Dr (λvs H Q E h=>?_) (λbG A outer s H vs Q E hr h=>?_)
 ·obtain ⟨_,_,_,_,_,_,_,rfl,_⟩:=h;rfl
 ·have nd:=Dr.nd;have hu:=hr.units;obtain ⟨l1,l2,l3,xs,ys,zs,sz,rfl,k1,k2,k3,e1,e2,e3,IZ,q⟩:=h;refine bO ?_;intro Y
  let B0:Bk Y (nb (nb (ah Cd) 0) 0):=⟨_,(yx (xP (xg (@PW.pt _ _ _ (kB (xR cE (xI iT (pv 4) (pv 3)) (pv 4) (aB _)) (ir (xR fL (xJ (xE rfl) (pv 0) (pv 3) (λ_ _=>rfl)) (xI xU (xI xU yu (xJ (xE rfl) (pv 1) (pv 4) (λ_ _=>rfl))) (xJ (xE rfl) (pv 2) (xI cY (pv 3) (pv 4)) (λ_ _=>rfl))) (aB _))))) (yx (xP (xM wR))) xQ)))⟩
  refine ⟨_,(yx (xN (xj PassesOwn.never rfl (xx rfl T.aW (yp (yr (xG (xD rfl) (by rfl) T.aH PySem.boot_len (yp (yr (pv 0) xB rfl))) xB rfl))) (xH (i:=3) nd rfl rfl) (yx (xP (xj PassesOwn.never rfl (xx rfl T.aW (yp (yr (xI xU (pv 3) yu) xB rfl))) (xH (i:=4) nd rfl rfl) B0.ps)))) (xP (xM wR)))),?_⟩;have line:=bg;refine (zr rfl ⟨l1,zr rfl ⟨.inl (av.of k1),?_⟩⟩);refine (zr rfl ⟨by omega,by rw [zA];omega,?_⟩);rw [zc,zA,e1];refine (let Yh:IV:=λs σ H5=>(∃ v3 v4,σ=[some (.ref l1),some (.ref l2),some (.ref l3),v3,v4])/\(∀ s' < s,∀ p,p<=s'->p &&& s'=p->xs.getD s' 0<=1 + ys.getD p 0 + zs.getD (s' - p) 0)/\aj H H5;wV (lo:=0) (n:=sz) Yh ⟨⟨_,_,rfl⟩,(λj z=>absurd z (zU _)),aj.refl _⟩ ?_ ?_)
  ·rintro s σ H5 hs ⟨⟨v3,v4,rfl⟩,old,s5⟩;refine (zr rfl (aD rfl rfl (zr rfl ⟨by omega,by omega,?_⟩)));rw [yh,show ((s:Int) + 1).toNat=s + 1 by omega];refine (let Yg:IV:=λp σ H6=>(∃ v4,σ=[some (.ref l1),some (.ref l2),some (.ref l3),some (.int (s:Int)),v4])/\(∀ p' < p,p' &&& s=p'->xs.getD s 0<=1 + ys.getD p' 0 + zs.getD (s - p') 0)/\aj H5 H6;wV (lo:=0) (n:=s + 1) Yg ⟨⟨_,rfl⟩,(λj z=>absurd z (zU _)),aj.refl _⟩ ?_ ?_)
   ·rintro p σ H6 hp ⟨⟨v4,rfl⟩,o2,s6⟩;have K1:=s5.trans s6;refine (zr rfl (zr rfl (aD rfl rfl (zr rfl ⟨rfl,?_⟩))));rw [yh];refine (zr rfl ?_);have sl:s < sz:=hs;by_cases Iw:p &&& s=p
    ·refine aO (by show decide (V.int (Builtin.bitAnd (p:Int) (s:Int))=V.int (p:Int))=true;rw [fX,Iw];exact decide_eq_true rfl) ?_;refine (zr rfl (zr rfl (bq (K1 _ _ k1) (wZ (by omega)) (zr rfl (zr rfl (bq (K1 _ _ k2) (wZ (by omega)) (aD rfl rfl (zr rfl (zr rfl (zr rfl (aD rfl rfl (bq (K1 _ _ k3) (show ee _ ((s:Int) - (p:Int))=some (V.int (zs.getD (s - p) 0)) from by rw [show (s:Int) - (p:Int)=((s - p:Nat):Int) by omega];exact wZ (by omega)) (aD rfl rfl (aD rfl rfl (zr rfl ?_)))))))))))))));refine jz (λc0=>q false _ K1 ⟨(λz=>nomatch z),λz=>?_⟩) (λc0=>⟨⟨_,rfl⟩,λp' Ms hb=>?_,s6⟩)
     ·have:=z s sl p (by omega) Iw;omega
     ·by_cases e:p'=p
      ·subst e;omega
      ·exact o2 p' (by omega) hb
    ·refine aG (by show decide (V.int (Builtin.bitAnd (p:Int) (s:Int))=V.int (p:Int))=false;rw [fX];exact decide_eq_false (λz=>Iw (Int.ofNat.inj (V.int.inj z)))) (aG rfl ⟨⟨_,rfl⟩,λp' Ms hb=>?_,s6⟩);by_cases e:p'=p
     ·subst e;exact absurd hb Iw
     ·exact o2 p' (by omega) hb
   ·rintro σ H6 ⟨⟨v4,rfl⟩,o2,s6⟩;refine ⟨⟨_,_,rfl⟩,λs' Rr p hp hb=>?_,s5.trans s6⟩;by_cases e:s'=s
    ·subst e;exact o2 p (by omega) hb
    ·exact old s' (by omega) p hp hb
  ·rintro σ H5 ⟨⟨v3,v4,rfl⟩,old,s5⟩;exact q true H5 s5 ⟨λ_=>old,λ_=>rfl⟩
theorem Dq:aA ["_law_book_here", "_law_prices_here", "_law_at", "_law_one", "_law_other", "_law_when", "_law_passed", "_law_now", "_law_later", "_law_giver", "_law_taker"] ["_law_book_here", "_law_prices_here"] (ai wK):=L2.aY
theorem Fb (T:Tx K mg a):aR P w K mg base cO 2 a.AK a.Bw ["_law_book_here", "_law_prices_here"] (qu):=by
 have Gy:=Fc P w base T;refine T.A7.ok Dq (λvs H Q E h=>?_) (λbG A outer s H vs Q E hr h=>?_)
 ·obtain ⟨_,_,_,_,_,_,_,_,_,rfl,_⟩:=h;rfl
 ·have nd:=Dq.nd;have hu:=hr.units;obtain ⟨b,l,lp,af,tr,tm,ps,ws,P,rfl,cx,q⟩:=h;refine bO ?_;intro Y
  let B0:Bk Y (nb (nb (ah wK) 0) 1):=⟨_,(yx (xP (xg (wj (wQ (xF Gy (hr.mono (by decide)) rfl T.FY T.Gd T.Gi .nil au (yp (yr (xJ (xE rfl) (xJ (xE rfl) (pv 1) (pv 2) (λ_ _=>rfl)) (pv 9) (λ_ _=>rfl)) (yr (xJ (xE rfl) (xJ (xE rfl) (pv 1) (xI xU (pv 2) yu) (λ_ _=>rfl)) (pv 9) (λ_ _=>rfl)) (yr (xJ (xE rfl) (xJ (xE rfl) (pv 1) (xI xU (pv 2) yu) (λ_ _=>rfl)) (pv 10) (λ_ _=>rfl)) xB rfl) rfl) rfl))))) (yx (xP (xM wR))) xQ)))⟩
  let B1:Bk Y ((nb (ah wK) 0).drop 1):=⟨_,(yx (xP (xj PassesOwn.never rfl (xa rfl (xY (yp (yr (bS (yp (yr (pv 3) (yr (pv 4) xB rfl) rfl))) (yr (bS (yp (yr (pv 4) (yr (pv 3) xB rfl) rfl))) xB rfl) rfl)))) (xp (n:=2) rfl rfl (xK (xH (i:=9) nd rfl rfl) (xK (xH (i:=10) nd rfl rfl) xo))) B0.ps)))⟩
  let B2:Bk Y (nb (nb (ah wK) 0) 0):=⟨_,(yx (xP (xg (wQ (xG (fW rfl rfl) (by rfl) T.qd PyProof.Rows.boot_any (yp (yr (wP (own:=["_law_number", "_law_behind"]) (caps:=[]) rfl (show aC ["_law_number", "_law_behind"] [] ["_law_book_here", "_law_prices_here", "_law_at", "_law_one", "_law_other", "_law_when", "_law_passed", "_law_now", "_law_later", "_law_giver", "_law_taker"] (ai wK) _ from L2.dQ) (fJ rfl rfl T.nk (yp (yr (pv 7) (yr (pv 8) xB rfl) rfl))) (λ_ _ _ _=>(xp (n:=2) rfl rfl (xK (xH (i:=0) (show List.Nodup (["_law_number", "_law_behind"]:List Str) from by decide +kernel) rfl rfl) (xK (xH (i:=1) (show List.Nodup (["_law_number", "_law_behind"]:List Str) from by decide +kernel) rfl rfl) xo)))) (λ_ _ _ _=>wS) (λ_ _ _ _=>(cC fL (pv 0) (pv 1) (aB _)))) xB rfl)))) (yx (xP (xM wR))) xQ)))⟩
  let B3:Bk Y (nb (ah wK) 0):=⟨_,(yx (xN (xj PassesOwn.never rfl (fJ rfl rfl T.nk (yp (yr (xJ (xE rfl) (pv 1) (pv 2) (λ_ _=>rfl)) (yr (xJ (xE rfl) (pv 1) (xI xU (pv 2) yu) (λ_ _=>rfl)) xB rfl) rfl))) (xp (n:=2) rfl rfl (xK (xH (i:=7) nd rfl rfl) (xK (xH (i:=8) nd rfl rfl) xo))) B2.ps) B1.bl))⟩
  refine ⟨_,(yx (xN (xj PassesOwn.never rfl (mz rfl rfl T.bF (yp (yr (xJ (xX rfl) (pv 0) yu (λ_ _=>rfl)) xB rfl))) (xp (n:=2) rfl rfl (xK (xH (i:=2) nd rfl rfl) (xK (xp (n:=4) rfl rfl (xK (xH (i:=3) nd rfl rfl) (xK (xH (i:=4) nd rfl rfl) (xK (xH (i:=5) nd rfl rfl) (xK (xH (i:=6) nd rfl rfl) xo))))) xo))) B3.ps) (xP (xM wR)))),?_⟩;have line:=bg;have w4:=cx.w4;have tS:=fH w4;have pQ:ps.length<=60:=cx.gd.len;have hp:=cx.pr;have hb:=cx.bk;have pl:=hp.len;refine (zr rfl (di hb.book rfl ⟨tm,rfl,⟨_,bC.of hb.meets⟩,?_⟩));refine (let Ye:IV:=λi σ H5=>(∃ v2 v3 v4 v5 v6 v7 v8 v9 v10,σ=[some (.ref b),some (.ref lp),v2,v3,v4,v5,v6,v7,v8,v9,v10])/\(∀ i' < i,o8 (aq P) i' af.length (2 ^ ws.length)/\vS (ps.map (·.2)) (aq P) i' (2 ^ ws.length))/\aj H H5;jS (K:=K) (a:=tm) (xs:=ps.map λa=>V.ref a.1) Ye ⟨⟨_,_,_,_,_,_,_,_,_,rfl⟩,(λj z=>absurd z (zU _)),aj.refl _⟩ ?_ ?_ ?_)
  ·rintro i σ H5 _ ⟨_,_,s5⟩;exact bC.of (s5 _ _ hb.meets)
  ·rintro i v q0 σ H5 hv hq ⟨⟨v2,v3,v4,v5,v6,v7,v8,v9,v10,rfl⟩,old,s5⟩;obtain ⟨x,hx,rfl⟩:=xT hv;have mx:=zB hx;have il:i < ps.length:=(zI.mp hx).1;have s6:=s5.trans (yy (o:=HO.tup [V.int (i:Int),V.ref x.1]) hq);have kq:upd H5 q0 (HO.tup [V.int (i:Int),V.ref x.1]) q0=some (.tup [V.int (i:Int),V.ref x.1]):=yq;generalize upd H5 q0 (HO.tup [V.int (i:Int),V.ref x.1])=H6 at s6 kq ⊢;have nG:=hp.same s6;have kx:=(hb.same s6).rows x mx;have fx:=cx.gd.at mx;obtain ⟨a1,e8⟩:∃ a,P[i]?=some a:=⟨_,zD (by omega)⟩;obtain ⟨a2,ja⟩:∃ a,P[i + 1]?=some a:=⟨_,zD (by omega)⟩;have m1:=zB e8;have m2:=zB ja;refine ⟨q0,zr rfl ⟨bC.of kq,rfl,jE rfl (jE rfl (MK kx ⟨rfl,?_⟩))⟩⟩;refine (zr rfl (zr rfl (bq nG.top (xW (by rw [zF,e8];rfl)) (zr rfl (zr rfl (aD rfl rfl (bq nG.top (xW (j:=i + 1) (by rw [zF,ja];rfl)) ?_)))))));refine ⟨a1.1,a2.1,rfl,⟨_,av.of (nG.str a1 m1)⟩,⟨_,av.of (nG.str a2 m2)⟩,?_⟩;have Sq:a1.2.length=a2.2.length:=by rw [hp.dG a1 m1,hp.dG a2 m2]
   refine mY (K:=K) (a:=a1.1) (b:=a2.1) (xs:=a1.2.map λa=>V.ref a.1) (ys:=a2.2.map λa=>V.ref a.1) (by rw [zA,zA,Sq]) (λj σ H7=>(∃ v7 v8 v9 v10,σ=[some (.ref b),some (.ref lp),some (.int (i:Int)),some (.int x.2.lo),some (.int x.2.hi),some (.int x.2.t),some (.int x.2.m),v7,v8,v9,v10])/\(∀ j' < j,∀ s < 2 ^ ws.length,cu (aq P) i j' s<=cu (aq P) (i + 1) j' s)/\aj H6 H7) ⟨⟨_,_,_,_,rfl⟩,(λj z=>absurd z (zU _)),aj.refl _⟩ ?_ ?_ ?_
   ·rintro j σ H7 _ ⟨_,_,s7⟩;exact ⟨av.of (s7 _ _ (nG.str a1 m1)),av.of (s7 _ _ (nG.str a2 m2))⟩
   ·rintro j x1 y1 q1 σ H7 Wy Wx vW ⟨⟨v7,v8,v9,v10,rfl⟩,o2,s7⟩;obtain ⟨b1,bZ,rfl⟩:=xT Wy;obtain ⟨b2,iy,rfl⟩:=xT Wx;have s8:=s7.trans (yy (o:=HO.tup [V.ref b1.1,V.ref b2.1]) vW);have Nt:upd H7 q1 (HO.tup [V.ref b1.1,V.ref b2.1]) q1=some (.tup [V.ref b1.1,V.ref b2.1]):=yq;generalize upd H7 q1 _=H8 at s8 Nt ⊢;have uP:=nG.same s8;have eS:=zB bZ;have Jo:=zB iy;have l1:=hp.gJ a1 m1 b1 eS;have J1:=hp.gJ a2 m2 b2 Jo;refine (sf Nt ?_);refine (zr rfl (zr rfl ⟨b1.1,b2.1,rfl,⟨_,av.of (uP.row a1 m1 b1 eS)⟩,⟨_,av.of (uP.row a2 m2 b2 Jo)⟩,?_⟩));refine jW (K:=K) (a:=b1.1) (b:=b2.1) (xs:=b1.2.map V.int) (ys:=b2.2.map V.int) (by rw [zA,zA,l1,J1]) (λs τ acc H9=>(∃ t0 t1,τ=[t0,t1])/\acc=(((b1.2.zip b2.2).take s).map λp=>decide (p.2 < p.1)).map V.bl/\aj H8 H9) ⟨⟨_,_,rfl⟩,rfl,aj.refl _⟩ (by rw [zA];omega) ?_ ?_ ?_
    ·rintro s τ acc H9 ⟨_,rfl,s9⟩;refine ⟨?_,av.of (s9 _ _ (uP.row a1 m1 b1 eS)),av.of (s9 _ _ (uP.row a2 m2 b2 Jo))⟩;rw [zA,zA,zW];omega
    ·rintro s x y q2 τ acc H9 C hx hy rP ⟨⟨t0,t1,rfl⟩,rfl,s9⟩ hC;obtain ⟨c1,uX,rfl⟩:=xT hx;obtain ⟨c2,Mw,rfl⟩:=xT hy;have bP:=s9.trans (yy (o:=HO.tup [V.int c1,V.int c2]) rP);refine (sf yq (zr rfl (zr rfl (aD rfl rfl (hC _ _ _ ⟨⟨_,_,rfl⟩,?_,bP⟩)))));rw [xb (nM uX Mw),zJ,zJ];rfl
    ·rintro τ acc H9 ⟨⟨t0,t1,rfl⟩,rfl,s9⟩ lc eY;have eb:((b1.2.zip b2.2).take (b1.2.map V.int).length).map (λp=>decide (p.2 < p.1))=gtB b1.2 b2.2:=by rw [zA,zm (by rw [List.length_zip];exact Nat.min_le_left _ _)];rfl
     rw [eb];have ku:=s9.trans (yy (o:=HO.lst ((gtB b1.2 b2.2).map V.bl)) eY);refine ⟨lc,zr rfl ⟨av.of yq,zr rfl ?_⟩⟩;cases eo:(gtB b1.2 b2.2).any id with
     | true=>
      have jw:j < af.length:=by have:=(zI.mp bZ).1;have:=hp.dG a1 m1;omega
      refine aO rfl (q false _ ((s6.trans s8).trans ku) ⟨(λz=>nomatch z),λz=>?_⟩);rw [(pU l1 J1).mpr λs hs=>by have:=z.1 i il j jw s hs;rwa [xc e8 bZ,xc ja iy] at this] at eo;cases eo
     | false=>
      refine aG rfl ⟨⟨_,_,_,_,rfl⟩,λj' mU s hs=>?_,s8.trans ku⟩;by_cases e:j'=j
      ·subst e;rw [xc e8 bZ,xc ja iy];exact (pU l1 J1).mp eo s hs
      ·exact o2 j' (by omega) s hs
   rintro σ H7 ⟨⟨v7,v8,v9,v10,rfl⟩,o2,s7⟩;rw [zA,hp.dG a1 m1] at o2;obtain ⟨lo,Oh⟩:=zQ fx.1;obtain ⟨hi,Oi⟩:∃ n:Nat,x.2.hi=n:=zQ (by omega);rw [Oh,Oi];have lor:lo < af.length:=by omega
   have Mt:hi < af.length:=by omega
   refine (zr rfl (zr rfl ⟨by show 2<=sizeLine;omega,λt1 Mp=>?_⟩));have z1:=yy (o:=HO.tup [V.int (lo:Int),V.int (hi:Int)]) Mp;have y1:upd H7 t1 (HO.tup [V.int (lo:Int),V.int (hi:Int)]) t1=some (.tup [V.int (lo:Int),V.int (hi:Int)]):=yq;generalize upd H7 t1 _=H8 at z1 y1 ⊢;refine (zr rfl (zr rfl ⟨by show 2<=sizeLine;omega,λt2 rO=>?_⟩));have z2:=yy (o:=HO.tup [V.int (hi:Int),V.int (lo:Int)]) rO;have y2:upd H8 t2 (HO.tup [V.int (hi:Int),V.int (lo:Int)]) t2=some (.tup [V.int (hi:Int),V.int (lo:Int)]):=yq;generalize upd H8 t2 _=H9 at z2 y2 ⊢;refine ⟨by show 2<=sizeLine;omega,λt3 WD=>?_⟩;have z3:=yy (o:=HO.lst [V.ref t1,V.ref t2]) WD;have y3:upd H9 t3 (HO.lst [V.ref t1,V.ref t2]) t3=some (.lst [V.ref t1,V.ref t2]):=yq;generalize upd H9 t3 _=eW at z3 y3 ⊢;have bP:=(s6.trans s7).trans ((z1.trans z2).trans z3);have Vw:=z3 _ _ (z2 _ _ y1);have Vu:=z3 _ _ y2;refine ⟨t3,rfl,⟨_,av.of y3⟩,?_⟩;refine (let Yd:IV:=λj σ o9=>(∃ v7 v8 v9 v10,σ=[some (.ref b),some (.ref lp),some (.int (i:Int)),some (.int (lo:Int)),some (.int (hi:Int)),some (.int x.2.t),some (.int x.2.m),v7,v8,v9,v10])/\(1<=j->bB (aq P) i lo hi (2 ^ ws.length))/\(2<=j->bB (aq P) i hi lo (2 ^ ws.length))/\aj eW o9;wx (K:=K) (a:=t3) (xs:=[V.ref t1,V.ref t2]) Yd ⟨⟨_,_,_,_,rfl⟩,(λz=>absurd z (by decide)),(λz=>absurd z (by decide)),aj.refl _⟩ ?_ ?_ ?_)
   ·rintro j σ o9 _ ⟨_,_,_,iK⟩;exact av.of (iK _ _ y3)
   ·rintro j v σ o9 hv ⟨⟨v7,v8,v9,v10,rfl⟩,o3,o4,iK⟩;obtain ⟨t,g,o,rfl,yt,gl,ol,ug,uo⟩:∃ (t:Addr) (g o:Nat),v=V.ref t/\eW t=some (.tup [V.int (g:Int),V.int (o:Int)])/\g < af.length/\o < af.length/\(dh (ps.map (·.2)) (aq P) (2 ^ ws.length)->bB (aq P) i g o (2 ^ ws.length))/\(bB (aq P) i g o (2 ^ ws.length)->(1<=j + 1->bB (aq P) i lo hi (2 ^ ws.length))/\(2<=j + 1->bB (aq P) i hi lo (2 ^ ws.length))):=by
     have gA:dh (ps.map (·.2)) (aq P) (2 ^ ws.length)->bB (aq P) i lo hi (2 ^ ws.length)/\bB (aq P) i hi lo (2 ^ ws.length):=λz=>by
      have:=oK z (kE hx);rwa [Oh,Oi,zc,zc] at this
     rcases j with _ | _ | j
     ·cases hv;exact ⟨t1,lo,hi,rfl,Vw,lor,Mt,λz=>(gA z).1,λz=>⟨λ_=>z,λc=>absurd c (by decide)⟩⟩
     ·cases hv;exact ⟨t2,hi,lo,rfl,Vu,Mt,lor,λz=>(gA z).2,λz=>⟨λ_=>o3 (zE _),λ_=>z⟩⟩
     ·cases hv
    have kI:=nG.same ((s7.trans ((z1.trans z2).trans z3)).trans iK);obtain ⟨b1,bZ⟩:∃ r,a1.2[g]?=some r:=⟨_,zD (by rw [hp.dG a1 m1];exact gl)⟩;obtain ⟨c1,uX⟩:∃ r,a2.2[g]?=some r:=⟨_,zD (by rw [hp.dG a2 m2];exact gl)⟩;obtain ⟨d1,LG⟩:∃ r,a2.2[o]?=some r:=⟨_,zD (by rw [hp.dG a2 m2];exact ol)⟩;have eS:=zB bZ;have Ni:=zB uX;have Nh:=zB LG;refine (sf (iK _ _ yt) ?_);refine (zr rfl (zr rfl (bq kI.top (xW (by rw [zF,e8];rfl)) (zr rfl (bq (kI.str a1 m1) (xW (by rw [zF,bZ];rfl)) ?_)))));refine (zr rfl (zr rfl (aD rfl rfl (bq kI.top (xW (j:=i + 1) (by rw [zF,ja];rfl)) (zr rfl (bq (kI.str a2 m2) (xW (by rw [zF,uX];rfl)) ?_))))));refine (zr rfl (zr rfl (aD rfl rfl (bq kI.top (xW (j:=i + 1) (by rw [zF,ja];rfl)) (zr rfl (bq (kI.str a2 m2) (xW (by rw [zF,LG];rfl)) ?_))))));refine ⟨b1.1,c1.1,d1.1,b1.2,c1.2,d1.2,2 ^ ws.length,rfl,kI.row a1 m1 b1 eS,kI.row a2 m2 c1 Ni,kI.row a2 m2 d1 Nh,hp.gJ a1 m1 b1 eS,hp.gJ a2 m2 c1 Ni,hp.gJ a2 m2 d1 Nh,tS,λbb rH ku eg=>?_⟩;have ga:bB (aq P) i g o (2 ^ ws.length)↔∀ s < 2 ^ ws.length,∀ p,p<=s->p &&& s=p->b1.2.getD s 0<=1 + c1.2.getD p 0 + d1.2.getD (s - p) 0:=by
     unfold bB dX;simp only [xc e8 bZ,xc ja uX,xc ja LG]
    cases bb with
    | false=>exact (zr rfl (aO rfl (q false _ ((bP.trans iK).trans ku) ⟨(λz=>nomatch z),λz=>nomatch eg.mpr (ga.mp (ug z.2))⟩)))
    | true=>
     have u:=uo (ga.mpr (eg.mp rfl));exact (zr rfl (aG rfl ⟨⟨_,_,_,_,rfl⟩,u.1,u.2,iK.trans ku⟩))
   ·rintro σ o9 ⟨⟨v7,v8,v9,v10,rfl⟩,o3,o4,iK⟩;refine ⟨⟨_,_,_,_,_,_,_,_,_,rfl⟩,λi' cU=>?_,bP.trans iK⟩;by_cases e:i'=i
    ·subst e;refine ⟨o2,λm hm=>?_⟩;rw [kE hx] at hm;cases hm;rw [Oh,Oi,zc,zc];exact ⟨o3 (yT 1),o4 (zE 2)⟩
    ·exact old i' (by omega)
  ·rintro σ H5 ⟨⟨v2,v3,v4,v5,v6,v7,v8,v9,v10,rfl⟩,old,s5⟩;refine q true H5 s5 ⟨λ_=>⟨λi hi=>(old i (by rw [zA];exact hi)).1,oJ λi hi=>(old i (by rw [zA] at hi ⊢;exact hi)).2⟩,λ_=>rfl⟩
theorem DL:aA ["_law_book_here", "_law_wish", "_law_far_here", "_law_row", "_law_rows", "_law_at", "_law_one", "_law_other", "_law_when", "_law_passed", "_law_near"] ["_law_book_here", "_law_wish", "_law_far_here"] (ai xm):=L2.aY
theorem FR (T:Tx K mg a):aR P w K mg base cO 2 a.AY a.BI ["_law_book_here", "_law_wish", "_law_far_here"] (sV):=by
 have BV:=CB P w base T;refine T.Bo.ok DL (λvs H Q E h=>?_) (λbG A outer s H vs Q E hr h=>?_)
 ·obtain ⟨_,_,_,_,_,_,_,_,_,rfl,_⟩:=h;rfl
 ·have nd:=DL.nd;have hu:=hr.units;obtain ⟨b,x,je,k,z,af,tr,tm,ps,rfl,hb,gd,r1,gK,hx,hk,q⟩:=h;refine bO ?_;intro Y
  let B0:Bk Y ((nb (ah xm) 2).drop 3):=⟨_,(yx (xP (wb (cD zX zZ za xw (pv 4) (yp (yr (wc (bN rfl) (by rfl) T.bU zj (yp (yr (pv 3) xB rfl))) xB rfl))))))⟩
  let B1:Bk Y ((nb (ah xm) 2).drop 2):=⟨_,(yx (xN (xg (xR tY (pv 5) (xF BV (hr.mono (by decide)) rfl T.Dg T.Dh T.Di .nil au (yp (yr (pv 0) (yr (xJ (xX rfl) (pv 1) yu (λ_ _=>rfl)) xB rfl) rfl))) (aB _)) (yx (xP (gc yu (iP (pv 3) (xJ (xX rfl) (pv 1) yu (λ_ _=>rfl)) set_list)))) xQ) B0.bl))⟩
  let B2:Bk Y ((nb (nb (ah xm) 2) 1).drop 3):=⟨_,(yx (xP (gc (xG (cg rfl) (by rfl) T.j9 yQ (yp (yr (xJ (xE rfl) (pv 3) (pv 7) (λ_ _=>rfl)) (yr (pv 10) xB rfl) rfl))) (iP (pv 3) (pv 7) set_list))))⟩
  let B3:Bk Y ((nb (nb (ah xm) 2) 1).drop 2):=⟨_,(yx (xN (gc (xG (cg rfl) (by rfl) T.j9 yQ (yp (yr (xJ (xE rfl) (pv 3) (pv 6) (λ_ _=>rfl)) (yr (pv 10) xB rfl) rfl))) (iP (pv 3) (pv 6) set_list)) B2.bl))⟩
  let B4:Bk Y ((nb (nb (ah xm) 2) 1).drop 1):=⟨_,(yx (xN (xL (i:=10) nd rfl rfl (xI xU (xG (cg rfl) (by rfl) T.j9 yQ (yp (yr (xJ (xE rfl) (pv 3) (pv 6) (λ_ _=>rfl)) (yr (xJ (xE rfl) (pv 3) (pv 7) (λ_ _=>rfl)) xB rfl) rfl))) yu)) B3.bl))⟩
  let B5:Bk Y (nb (nb (ah xm) 2) 1):=⟨_,(yx (xN (gc (xJ (xX rfl) (xJ (xX rfl) (pv 0) yu (λ_ _=>rfl)) (pv 5) (λ_ _=>rfl)) (xp (n:=4) rfl rfl (xK (xH (i:=6) nd rfl rfl) (xK (xH (i:=7) nd rfl rfl) (xK (xH (i:=8) nd rfl rfl) (xK (xH (i:=9) nd rfl rfl) xo)))))) B4.bl))⟩
  let B6:Bk Y ((nb (ah xm) 2).drop 1):=⟨_,(yx (xN (xg (xR pM (pv 5) (xG (xD rfl) (by rfl) T.aH PySem.boot_len (yp (yr (xJ (xX rfl) (pv 0) yu (λ_ _=>rfl)) xB rfl))) (aB _)) B5.ps xQ) B1.bl))⟩
  let B7:Bk Y ((ah xm).drop 2):=⟨_,(yx (xN (xj PassesOwn.never rfl (qK rfl T.aW (yp (yr (xG (xD rfl) (by rfl) T.aH PySem.boot_len (yp (yr (xJ (xX rfl) (pv 0) yu (λ_ _=>rfl)) xB rfl))) (yr (iQ eG yu) (yr (iQ eG yu) xB rfl) rfl) rfl))) (xH (i:=5) nd rfl rfl) (yx (xN (xL (i:=3) nd rfl rfl (wc (bN rfl) (by rfl) T.bU zj (yp (yr (pv 3) xB rfl)))) B6.bl))) (xP (xM (mC rfl rfl rfl T.bU rfl T.o5 (yp (yr (pv 4) xB rfl)))))))⟩
  refine ⟨_,(yx (xN (xL (i:=3) nd rfl rfl (xI Lg (xY (yp (yr (pv 2) xB rfl))) (xG (xD rfl) (by rfl) T.aH PySem.boot_len (yp (yr (xJ (xX rfl) (pv 0) yu (λ_ _=>rfl)) xB rfl))))) (xN (xL (i:=4) nd rfl rfl (xY bT)) B7.bl))),?_⟩;have line:=bg;have pQ:=gd.len;have YE:(2:Int) ^ 62 > 1000000:=by decide
  refine (zr rfl ⟨by show 1<=sizeLine;omega,λl1 RC=>?_⟩);have s1:=yy (o:=HO.lst [V.int je]) RC;have k1:upd H l1 (HO.lst [V.int je]) l1=some (.lst [V.int je]):=yq;generalize upd H l1 _=H1 at s1 k1 ⊢;have bZ:=hb.same s1;refine (zr rfl (di bZ.book rfl ⟨tr,zr rfl ⟨.inr (bC.of bZ.af),l1,aD rfl rfl ⟨k1,by omega,by rw [zA];omega,?_,λl2 qV=>?_⟩⟩⟩))
  ·rw [zc,zA];show 1 * _<=_;omega
  have er:(List.replicate ((((af.map V.int).length:Nat):Int)).toNat [V.int je]).flatten=(List.replicate af.length je).map V.int:=by
   rw [zc,zA];simp
  rw [er];have s2:=s1.trans (yy (o:=HO.lst ((List.replicate af.length je).map V.int)) qV);have k2:upd H1 l2 (HO.lst ((List.replicate af.length je).map V.int)) l2=some (.lst ((List.replicate af.length je).map V.int)):=yq;generalize upd H1 l2 _=H2 at s2 k2 ⊢;refine ⟨zV _,λl3 LB=>?_⟩;have f3:H l3=none:=s2.free LB;have s3:=s2.trans (yy (o:=HO.lst []) LB);have Ub:=yy (o:=HO.lst []) LB _ _ k2;have k3:upd H2 l3 (HO.lst []) l3=some (.lst []):=yq;generalize upd H2 l3 _=H3 at s3 Ub k3 ⊢;have LK:=hb.same s3;refine (zr rfl (di LK.book rfl ⟨tm,zr rfl ⟨.inr (bC.of LK.meets),zr rfl (zr rfl ⟨_,_,_,(ps.length + 1),rfl,by decide,PyProof.noPylong_small (by decide),PySem.W.small_down (by rw [zA];omega) (by rw [zA];omega) (by decide) (by decide),?_,?_⟩)⟩⟩))
  ·rw [PySem.W.rangeSize_downNat,zA];omega
  refine (let Yc:IV:=λi σ H4=>∃ (lr:Addr) (r:List Int) (hs:List dD),(∃ v5 v6 v7 v8 v9 v10,σ=[some (.ref b),some (.ref x),some (.int je),some (.ref lr),some (.ref l3),v5,v6,v7,v8,v9,v10])/\aj H H4/\H4 lr=some (.lst (r.map V.int))/\r.length=af.length/\H4 l3=some (.lst (hs.map λa=>V.ref a.1))/\hs.length=i/\∀ a∈hs,a.1≠l3/\H4 a.1=some (.lst (a.2.map V.int))/\a.2.length=af.length;oN (n:=ps.length + 1) Yc)
   ⟨l2,_,[],⟨_,_,_,_,_,_,rfl⟩,s3,Ub,by rw [List.length_replicate],k3,rfl,λ_ z=>nomatch z⟩ ?_ ?_
  ·rintro i σ H4 hi ⟨lr,r,hs,⟨v5,v6,v7,v8,v9,v10,rfl⟩,s4,kr,Q4,k4,lh,eh⟩;have ek:(((ps.map λa=>V.ref a.1).length:Nat):Int) + (i:Int) * (-1)=((ps.length - i:Nat):Int):=by rw [zA];omega
   rw [ek];refine (zr rfl ⟨lr,zr rfl ⟨.inl (av.of kr),λla O5=>?_⟩⟩);have V5:la≠l3:=λe=>by rw [e,k4] at O5;cases O5
   have w5:=yy (o:=HO.lst (r.map V.int)) O5;have k5:upd H4 la (HO.lst (r.map V.int)) la=some (.lst (r.map V.int)):=yq;generalize upd H4 la _=H5 at w5 k5 ⊢;have N7:=hb.same (s4.trans w5);have put:∀ {H':Hp}{o:HO},aj H4 H'->aj H4 (upd H' la o):=λs a u e=>by rw [xC (xA e O5)];exact s a u e
   refine (zr rfl (zr rfl (di N7.book rfl ⟨tm,zr rfl ⟨.inr (bC.of N7.meets),aD rfl rfl (zr rfl ?_)⟩⟩)));refine jy (fun σ H'=>∃ r':List Int,(∃ v6 v7 v8 v9 v10,σ=[some (.ref b),some (.ref x),some (.int je),some (.ref la),some (.ref l3),some (.int ((ps.length - i:Nat):Int)),v6,v7,v8,v9,v10])/\aj H4 H'/\H' la=some (.lst (r'.map V.int))/\r'.length=af.length) ?_ (λc k0=>?_) (λc=>⟨r,⟨_,_,_,_,_,rfl⟩,w5,k5,Q4⟩)
   ·rintro σ H6 ⟨r6,⟨v6,v7,v8,v9,v10,rfl⟩,w6,k6,l6⟩;have Ug:=w6 _ _ (s4 _ _ hx);refine (zr rfl (zr rfl (zr rfl (di Ug rfl (MB b z af tr tm ps ⟨rfl,hb.same (s4.trans w6),by omega,λH7 w7=>(aD rfl rfl (zr rfl ?_))⟩)))));have SQ:=w6.trans w7;refine jy (fun σ H'=>∃ r':List Int,(∃ v6 v7 v8 v9 v10,σ=[some (.ref b),some (.ref x),some (.int je),some (.ref la),some (.ref l3),some (.int ((ps.length - i:Nat):Int)),v6,v7,v8,v9,v10])/\aj H4 H'/\H' la=some (.lst (r'.map V.int))/\r'.length=af.length) ?_ (λc k0=>?_) (λc=>⟨r6,⟨_,_,_,_,_,rfl⟩,SQ,w7 _ _ k6,l6⟩)
    ·rintro σ H8 ⟨r8,⟨v6,v7,v8,v9,v10,rfl⟩,w8,k8,l8⟩;have Q8:=w8 _ _ k4;refine (zr rfl ⟨.inl ⟨rfl,_,av.of Q8⟩,zr rfl ⟨la,zr rfl ⟨.inl (av.of k8),λlb J9=>?_⟩⟩⟩);have w9:=yy (o:=HO.lst (r8.map V.int)) J9;have TQ:lb≠l3:=λe=>by rw [e,Q8] at J9;cases J9
     refine ⟨l3,aD rfl rfl ⟨w9 _ _ Q8,by rw [zA];omega,la,r8,hs++[(lb,r8)],⟨_,_,_,_,_,_,rfl⟩,?_,by rw [xC V5];exact w9 _ _ k8,l8,by rw [yq,zJ];rfl,by rw [zH,lh];rfl,λa ha=>?_⟩⟩
     ·exact λa u e=>by rw [xC (xA e f3)];exact w9 _ _ (w8 _ _ (s4 _ _ e))
     ·rcases zS.mp ha with h | h
      ·obtain ⟨e1,e2,e3⟩:=eh a h;exact ⟨e1,by rw [xC e1];exact w9 _ _ (w8 _ _ e2),e3⟩
      ·cases zG.mp h;exact ⟨TQ,by rw [xC TQ];exact yq,l8⟩
    ·refine (zr rfl (zr rfl (di (w7 _ _ Ug) rfl ⟨la,_,_,k,rfl,rfl,w7 _ _ k6,fQ (k:=k) (by rw [zA];omega),k0 _ _ ⟨r6.set k 0,⟨_,_,_,_,_,rfl⟩,put SQ,by rw [yq,List.map_set],by rw [yc];exact l6⟩⟩)))
   ·have im:=of_decide_eq_true c;rw [zA] at im;obtain ⟨xr,Ud⟩:∃ r,ps[ps.length - i]?=some r:=⟨_,zD (by omega)⟩;have mx:=zB Ud;have fx:=gd.at mx;obtain ⟨lo,Oh⟩:=zQ fx.1;obtain ⟨lI,Oi⟩:∃ n:Nat,xr.2.hi=n:=zQ (by omega);have lor:lo < r.length:=by omega
    have Mt:lI < r.length:=by omega
    have kx:H5 xr.1=some (.tup [.int (lo:Int),.int (lI:Int),.int xr.2.t,.int xr.2.m]):=by rw [<-Oh,<- Oi];exact N7.rows xr mx
    refine (zr rfl (di N7.book rfl (zr rfl (di N7.meets (xW (by rw [zF,Ud];rfl)) (MK kx ?_)))));refine (zr rfl (zr rfl (bq k5 (wZ lor) (zr rfl (zr rfl (bq k5 (wZ Mt) (jE rfl (aD rfl rfl ?_))))))));refine (zr rfl (zr rfl (bq k5 (wZ lor) (zr rfl (jE rfl ?_)))));have st:∀ v:Int,upd H5 la (HO.lst ((r.map V.int).set lo (V.int v))) la=some (.lst ((r.set lo v).map V.int)):=λv=>by rw [yq,List.map_set]
    have rM:∀ v u:Int,some (HO.lst (((r.set lo v).map V.int).set lI (V.int u)))=some (.lst (((r.set lo v).set lI u).map V.int)):=λv u=>by rw [List.map_set (l:=r.set lo v)]
    refine (zr rfl (zr rfl ⟨la,_,_,lo,rfl,rfl,k5,fQ (k:=lo) (by rw [zA];exact lor),?_⟩));refine (zr rfl (zr rfl (bq (st _) (wZ (by rw [yc];exact Mt)) (zr rfl (jE rfl (zr rfl (zr rfl ⟨la,_,_,lI,rfl,rfl,st _,fQ (k:=lI) (by rw [zA,yc];exact Mt),k0 _ _ ⟨(r.set lo _).set lI _,⟨_,_,_,_,_,rfl⟩,put (put w5),yq.trans (rM _ _),by rw [yc,yc];exact Q4⟩⟩)))))))
  ·rintro σ H4 ⟨lr,r,hs,⟨v5,v6,v7,v8,v9,v10,rfl⟩,s4,kr,Q4,k4,lh,eh⟩;refine (zr rfl ⟨l3,zr rfl ⟨av.of k4,λl4 uT=>?_⟩⟩);have w5:=yy (o:=HO.lst ((hs.map λa=>V.ref a.1).reverse)) uT;refine q l4 hs.reverse _ (s4.trans w5) ⟨by rw [yq,List.map_reverse],λa ha=>?_,by rw [List.length_reverse,lh]⟩;have:=eh a (List.mem_reverse.mp ha);exact ⟨w5 _ _ this.2.1,this.2.2⟩
theorem DK:aA ["_law_hops_here", "_law_at", "_law_walker", "_law_wished"] ["_law_hops_here", "_law_at", "_law_walker", "_law_wished"] (ai Cr):=L2.aY
theorem FQ (T:Tx K mg a):aR P w K mg base cO 1 a.AX a.BH ["_law_hops_here", "_law_at", "_law_walker", "_law_wished"] (sS):=by
 refine T.Bn.ok DK (λvs H Q E h=>?_) (λbG A outer s H vs Q E hr h=>?_)
 ·obtain ⟨_,_,_,_,_,_,_,rfl,_⟩:=h;rfl
 ·have nd:=DK.nd;have hu:=hr.units;obtain ⟨l,MD,k,s0,Z,n,w,rfl,hZ,z4,zw,Xc,Y6,q⟩:=h;refine ⟨_,(yx (xP (xM (xG (rz rfl) (by rfl) T.nq ya (yp (yr (xI wl (xY (yp (yr yu xB rfl))) (wP (own:=["_law_k"]) (caps:=[2,1,0,3]) rfl (show aC ["_law_k"] [2,1,0,3] ["_law_hops_here", "_law_at", "_law_walker", "_law_wished"] (ai Cr) _ from L2.dQ) (xx rfl T.aW (yp (yr (xG (xD rfl) (by rfl) T.aH PySem.boot_len (yp (yr (pv 0) xB rfl))) xB rfl))) (λ_ _ _ _=>(xH (i:=0) (show List.Nodup (["_law_k", "_law_walker", "_law_at", "_law_hops_here", "_law_wished"]:List Str) from by decide +kernel) rfl rfl)) (λ_ _ _ _=>iu (xR cE (xI iT (xI tV (pv 4) (pv 0)) yu) yu (aB _))) (λ_ _ _ _=>(xJ (xE rfl) (xJ (xE rfl) (xJ (xE rfl) (pv 3) (pv 0) (λ_ _=>rfl)) (pv 2) (λ_ _=>rfl)) (pv 1) (λ_ _=>rfl))))) xB rfl)))))),?_⟩;have line:=bg;refine ⟨by show 1<=sizeLine;omega,λl0 WS=>?_⟩;have s1:=yy (o:=HO.lst [V.int 0]) WS;have k1:upd H l0 (HO.lst [V.int 0]) l0=some (.lst [V.int 0]):=yq;generalize upd H l0 _=H1 at s1 k1 ⊢;refine (zr rfl ⟨l,zr rfl ⟨.inl (av.of (s1 _ _ hZ.top)),zr rfl ⟨by rw [zA];omega,by rw [zA];omega,?_⟩⟩⟩);rw [zc,zA];refine (let Yb:IC:=λi τ acc H5=>(∃ t0,τ=[t0,some (.int (k:Int)),some (.int (MD:Int)),some (.ref l),some (.int (s0:Int))])/\(∃ ns:List Int,acc=ns.map V.int/\ns.length<=i)/\aj H1 H5;eU (lo:=0) (m:=Z.length) Yb ⟨⟨_,rfl⟩,⟨[],rfl,zE _⟩,aj.refl _⟩ (by omega) ?_ ?_ ?_)
  ·rintro i τ acc H5 ⟨_,⟨ns,rfl,le⟩,_⟩;rw [zA];exact le
  ·rintro i τ acc H5 C hi ⟨⟨t0,rfl⟩,⟨ns,rfl,le⟩,s5⟩ hC;obtain ⟨a1,e8⟩:∃ a,Z[i]?=some a:=⟨_,zD hi⟩;have m1:=zB e8;obtain ⟨b1,bZ⟩:∃ r,a1.2[MD]?=some r:=⟨_,zD (by rw [(zw a1 m1).1];exact Xc)⟩;have eS:=zB bZ;have lb:=(zw a1 m1).2 b1 eS;have RW:=hZ.same (s1.trans s5);refine (zr rfl (zr rfl (aD rfl rfl ⟨by omega,aD rfl rfl ⟨rfl,zr rfl ?_⟩⟩)));rw [yh];refine Jt (λc0=>?_) (λc0=>hC _ _ _ ⟨⟨_,rfl⟩,⟨ns,rfl,by omega⟩,s5⟩);refine (zr rfl (zr rfl (bq RW.top (xW (by rw [zF,e8];rfl)) (zr rfl (bq (RW.str a1 m1) (xW (by rw [zF,bZ];rfl)) (zr rfl (bq (RW.row a1 m1 b1 eS) (wZ (by omega)) (hC _ _ _ ⟨⟨_,rfl⟩,⟨ns++[b1.2.getD k 0],by rw [zJ];rfl,by rw [zH];exact Nat.succ_le_succ le⟩,s5⟩))))))))
  ·rintro τ acc H5 ⟨⟨t0,rfl⟩,⟨ns,rfl,le⟩,s5⟩ lc eY;have s6:=yy (o:=HO.lst (ns.map V.int)) eY;have k6:upd H5 lc (HO.lst (ns.map V.int)) lc=some (.lst (ns.map V.int)):=yq;generalize upd H5 lc _=H6 at s6 k6 ⊢;refine ⟨l0,lc,aD rfl rfl ⟨s6 _ _ (s5 _ _ k1),k6,by rw [zA];show 1 + _<=sizeLine;omega,λl2 qV=>?_⟩⟩;have s7:=yy (o:=HO.lst ([V.int 0]++ns.map V.int)) qV;refine ⟨l2,0::ns,rfl,av.of yq,Nat.succ_pos _,λM _ hM=>?_⟩;exact q M _ (hM 0 (.head _)) (((s1.trans s5).trans s6).trans s7)
theorem CV:aA ["_law_purse_here", "_law_book_here", "_law_wishes_here", "_law_far_here", "_law_hops_here", "_law_found", "_law_at", "_law_row", "_law_walker", "_law_k", "_law_some", "_law_place", "_law_number"] ["_law_purse_here", "_law_book_here", "_law_wishes_here"] (ai xV):=L2.aY
theorem EQ (T:Tx K mg a):aR P w K mg base cO 3 a.Az a.Ba ["_law_purse_here", "_law_book_here", "_law_wishes_here"] (nY):=by
 have Aa:=xl P w base T;have BV:=CB P w base T;have G6:=FR P w base T;have G5:=FQ P w base T;refine T.AN.ok CV (λvs H Q E h=>?_) (λbG A outer s H vs Q E hr h=>?_)
 ·obtain ⟨_,_,_,_,_,_,_,_,rfl,_⟩:=h;rfl
 ·have nd:=CV.nd;have hu:=hr.units;obtain ⟨p,b,l,af,tr,tm,ps,ws,rfl,pu,hb,hg,r1,gK,hw,w1,w4,Q5,q⟩:=h;refine bO ?_;intro Y
  let B0:Bk Y ((nb (ah xV) 4).drop 3):=⟨_,(yx (xP (gc (xG (dZ rfl) (by rfl) T.nq ya (yp (yr yu (yr (xI xU (xJ (xE rfl) (pv 10) (pv 11) (λ_ _=>rfl)) (xJ (xE rfl) (xY (yp (yr yu (yr (iQ eG yu) (yr yu (yr yu xB rfl) rfl) rfl) rfl))) (xF Aa (hr.mono (by decide)) rfl T.Ab T.Ac T.Ae .nil au (yp (yr (pv 0) (yr yu xB rfl) rfl))) (λ_ _=>rfl))) xB rfl) rfl))) (iP (pv 10) (pv 11) set_list))))⟩
  let B1:Bk Y ((nb (nb (ah xV) 4) 2).drop 1):=⟨_,(yx (xN (xL (i:=10) nd rfl rfl (xJ (xE rfl) (xJ (xE rfl) (pv 5) (xF BV (hr.mono (by decide)) rfl T.Dg T.Dh T.Di .nil au (yp (yr (pv 1) (yr (xJ (xX rfl) (xJ (xE rfl) (pv 2) (pv 12) (λ_ _=>rfl)) yu (λ_ _=>rfl)) xB rfl) rfl))) (λ_ _=>rfl)) (xJ (xX rfl) (xJ (xE rfl) (pv 2) (pv 12) (λ_ _=>rfl)) yu (λ_ _=>rfl)) (λ_ _=>rfl))) (xP (xL (i:=11) nd rfl rfl (xI M8 (pv 11) (xI eO yu (pv 12)))))))⟩
  let B2:Bk Y (nb (nb (ah xV) 4) 2):=⟨_,(yx (xN (xL (i:=12) nd rfl rfl (xF Aa (hr.mono (by decide)) rfl T.Ab T.Ac T.Ae .nil au (yp (yr (pv 0) (yr (xG (xD rfl) (by rfl) T.aH PySem.boot_len (yp (yr (pv 2) xB rfl))) xB rfl) rfl)))) B1.bl))⟩
  let B3:Bk Y ((nb (ah xV) 4).drop 2):=⟨_,(yx (xN (xg (xR cE (xF Aa (hr.mono (by decide)) rfl T.Ab T.Ac T.Ae .nil au (yp (yr (pv 0) (yr yu xB rfl) rfl))) yu (aB _)) B2.ps xQ) B0.bl))⟩
  let B4:Bk Y ((nb (ah xV) 4).drop 1):=⟨_,(yx (xN (xL (i:=11) nd rfl rfl (xF Aa (hr.mono (by decide)) rfl T.Ab T.Ac T.Ae .nil au (yp (yr (pv 0) (yr (xG (xD rfl) (by rfl) T.aH PySem.boot_len (yp (yr (pv 10) xB rfl))) xB rfl) rfl)))) B3.bl))⟩
  let B5:Bk Y (nb (ah xV) 4):=⟨_,(yx (xN (xL (i:=10) nd rfl rfl (xJ (xE rfl) (xJ (xE rfl) (pv 5) (xF Aa (hr.mono (by decide)) rfl T.Ab T.Ac T.Ae .nil au (yp (yr (pv 0) (yr (xG (xD rfl) (by rfl) T.aH PySem.boot_len (yp (yr (pv 5) xB rfl))) xB rfl) rfl))) (λ_ _=>rfl)) (xF Aa (hr.mono (by decide)) rfl T.Ab T.Ac T.Ae .nil au (yp (yr (pv 0) (yr (xG (xD rfl) (by rfl) T.aH PySem.boot_len (yp (yr (xJ (xX rfl) (pv 1) yu (λ_ _=>rfl)) xB rfl))) xB rfl) rfl))) (λ_ _=>rfl))) B4.bl))⟩
  let B6:Bk Y ((ah xV).drop 4):=⟨_,(yx (xN (xj PassesOwn.never rfl (xx rfl T.aW (yp (yr (xF Aa (hr.mono (by decide)) rfl T.Ab T.Ac T.Ae .nil au (yp (yr (pv 0) (yr yu xB rfl) rfl))) xB rfl))) (xH (i:=9) nd rfl rfl) B5.ps) (xP (xM (pv 5)))))⟩
  let B7:Bk Y (nb (nb (ah xV) 3) 1):=⟨_,(yx (xP (wb (cD zX zZ za xw (pv 7) (yp (yr (wP (own:=["_law_wished"]) (caps:=[4,6,8]) rfl (show aC ["_law_wished"] [4,6,8] ["_law_purse_here", "_law_book_here", "_law_wishes_here", "_law_far_here", "_law_hops_here", "_law_found", "_law_at", "_law_row", "_law_walker", "_law_k", "_law_some", "_law_place", "_law_number"] (ai xV) _ from L2.dQ) (xx rfl T.aW (yp (yr (xI eO yu (xG (xD rfl) (by rfl) T.aH PySem.boot_len (yp (yr (pv 2) xB rfl)))) xB rfl))) (λ_ _ _ _=>(xH (i:=0) (show List.Nodup (["_law_wished", "_law_hops_here", "_law_at", "_law_walker"]:List Str) from by decide +kernel) rfl rfl)) (λ_ _ _ _=>wS) (λ_ _ _ _=>(xF G5 (hr.mono (by decide)) rfl T.GG T.GM T.GS .nil au (yp (yr (pv 1) (yr (pv 2) (yr (pv 3) (yr (pv 0) xB rfl) rfl) rfl) rfl))))) xB rfl))))))⟩
  let B8:Bk Y ((nb (ah xV) 3).drop 1):=⟨_,(yx (xN (xj PassesOwn.never rfl (xx rfl T.aW (yp (yr (xG (xD rfl) (by rfl) T.aH PySem.boot_len (yp (yr (xJ (xX rfl) (pv 1) yu (λ_ _=>rfl)) xB rfl))) xB rfl))) (xH (i:=8) nd rfl rfl) B7.ps) (xP (wb (cD zX zZ za xw (pv 5) (yp (yr (pv 7) xB rfl)))))))⟩
  let B9:Bk Y ((ah xV).drop 3):=⟨_,(yx (xN (xj PassesOwn.never rfl (xx rfl T.aW (yp (yr (xI xU (xG (xD rfl) (by rfl) T.aH PySem.boot_len (yp (yr (xJ (xX rfl) (pv 1) yu (λ_ _=>rfl)) xB rfl))) yu) xB rfl))) (xH (i:=6) nd rfl rfl) (yx (xN (xL (i:=7) nd rfl rfl (xY bT)) B8.bl))) B6.bl))⟩
  let Mg:Bk Y ((ah xV).drop 1):=⟨_,(yx (xN (xL (i:=4) nd rfl rfl (wP (own:=["_law_wish"]) (caps:=[1,3]) rfl (show aC ["_law_wish"] [1,3] ["_law_purse_here", "_law_book_here", "_law_wishes_here", "_law_far_here", "_law_hops_here", "_law_found", "_law_at", "_law_row", "_law_walker", "_law_k", "_law_some", "_law_place", "_law_number"] (ai xV) _ from L2.dQ) (xa rfl (pv 2)) (λ_ _ _ _=>(xH (i:=0) (show List.Nodup (["_law_wish", "_law_book_here", "_law_far_here"]:List Str) from by decide +kernel) rfl rfl)) (λ_ _ _ _=>wS) (λ_ _ _ _=>(xF G6 (hr.mono (by decide)) rfl T.GH T.GN T.GT .nil au (yp (yr (pv 1) (yr (pv 0) (yr (pv 2) xB rfl) rfl) rfl)))))) (xN (xL (i:=5) nd rfl rfl (xY bT)) B9.bl)))⟩
  refine ⟨_,(yx (xN (xL (i:=3) nd rfl rfl (xJ (xE rfl) (xY (yp (yr yu (yr (xI xU (xG (xD rfl) (by rfl) T.aH PySem.boot_len (yp (yr (xJ (xX rfl) (pv 1) yu (λ_ _=>rfl)) xB rfl))) yu) (yr (xF Aa (hr.mono (by decide)) rfl T.Ab T.Ac T.Ae .nil au (yp (yr (pv 0) (yr yu xB rfl) rfl))) xB rfl) rfl) rfl))) (xI wT (xF Aa (hr.mono (by decide)) rfl T.Ab T.Ac T.Ae .nil au (yp (yr (pv 0) (yr yu xB rfl) rfl))) yu) (λ_ _=>rfl))) Mg.bl)),?_⟩;have line:=bg;have tS:=fH w4;have p1:=ym ws.length;have pQ:=hg.len;have oR:(2:Int) ^ 200 > 10000:=by decide
  refine (zr rfl (di hb.book rfl ⟨tm,zr rfl ⟨.inr (bC.of hb.meets),aD rfl rfl (zr rfl ⟨p,9,rfl,by decide,by decide,pu,λd1 H1 Zl Zk g1=>⟨by show 3<=sizeLine;omega,λlx RA=>?_⟩⟩)⟩⟩));have nx:=g1.2.ne RA;refine (zr rfl ⟨p,8,rfl,by decide,by decide,g1.2.new RA,λd2 H2 XO UZ g2=>?_⟩);have pY:=(g1.new RA).trans g2;have kx:=g2.1 _ _ nx yq;obtain ⟨je,NY⟩:∃ je:Int,ee [V.int 0,V.int ((((ps.map λa=>V.ref a.1).length:Nat):Int) + 1),V.int d1] (d2 / 3)=some (V.int je):=by
   obtain e | e | e:d2 / 3=0\/d2 / 3=1\/d2 / 3=2:=by omega
   all_goals rw [e];exact ⟨_,rfl⟩
  refine (aD rfl rfl ⟨⟨by decide,by decide⟩,bq kx NY ?_⟩);have iy:=hb.aJ (pY.aJ pu);have NI:=hw.vc pu Q5 pY;generalize rQ:H2=Yy at *;refine (zr rfl ⟨l,rfl,⟨_,av.of NI.1⟩,?_⟩);refine (let X8:IC:=λi τ acc H5=>(∃ t0,τ=[t0,some (.ref b),some (.int je)])/\(∃ Z:List aQ,acc=Z.map (λa=>V.ref a.1)/\Z.length=i/\L5 H5 (ps.length + 1) af.length Z)/\aj Yy H5;wd (K:=K) (a:=l) (xs:=ws.map λa=>V.ref a.1) X8 ⟨⟨_,rfl⟩,⟨[],rfl,rfl,(λ_ z=>nomatch z),(λ_ z=>nomatch z),(λ_ z=>nomatch z)⟩,aj.refl _⟩ (by rw [zA];omega) ?_ ?_ ?_)
  ·rintro i τ acc H5 ⟨_,⟨Z,rfl,e,_⟩,s5⟩;exact ⟨by rw [zA,e];exact zE _,av.of (s5 _ _ NI.1)⟩
  ·rintro i v τ acc H5 C hv ⟨⟨t0,rfl⟩,⟨Z,rfl,e,z5⟩,s5⟩ hC;obtain ⟨x,hx,rfl⟩:=xT hv;obtain ⟨kx,lx⟩:=NI.2 x (zB hx);refine (zr rfl (zr rfl (zr rfl (MA b x.1 je x.2.1 x.2.2 af tr tm ps ⟨rfl,iy.same s5,hg,r1,gK,s5 _ _ kx,lx,λlh hs H6 s6 hr=>?_⟩))));exact hC _ _ _ ⟨⟨_,rfl⟩,⟨Z++[(lh,hs)],by rw [zJ];rfl,by rw [zH,e];rfl,(z5.same s6).snoc hr⟩,s5.trans s6⟩
  rintro τ acc H5 ⟨⟨t0,rfl⟩,⟨Z,rfl,eZ,z5⟩,s5⟩ lh WQ;rw [zA] at eZ;have s6:=yy (o:=HO.lst (Z.map λa=>V.ref a.1)) WQ;have k6:upd H5 lh (HO.lst (Z.map λa=>V.ref a.1)) lh=some (.lst (Z.map λa=>V.ref a.1)):=yq;generalize upd H5 lh _=H6 at s6 k6 ⊢;have OI:=s5.trans s6;have g6:=pY.same OI;have z6:=z5.same s6;have LJ:=iy.same OI;have J6:=NI.same OI;refine ⟨zV _,λlf nH=>?_⟩;have Lj:=g6.2.ne nH;have f0:H lf=none:=g6.free nH Lj;have UB:Ot H6 lh Z:=⟨k6,z6.str,λa ha b hb=>(z6.row a ha b hb).1⟩;have kf:upd H6 lf (HO.lst []) lf=some (.lst []):=yq;have s7:=yy (o:=HO.lst []) nH;generalize upd H6 lf (HO.lst [])=H7 at s7 kf ⊢;have N6:=LJ.same s7;refine (zr rfl (di N6.book rfl ⟨tm,zr rfl ⟨.inr (bC.of N6.meets),aD rfl rfl (zr rfl ⟨by omega,by rw [zA];omega,?_⟩)⟩⟩));rw [zA,show (((ps.length:Nat):Int) + 1).toNat=ps.length + 1 by omega];refine (let X7:IV:=λi σ H8=>∃ P:List aQ,(∃ v6 v7 v8 v9 v10 v11 ie,σ=[some (.ref p),some (.ref b),some (.ref l),some (.int je),some (.ref lh),some (.ref lf),v6,v7,v8,v9,v10,v11,ie])/\aj H6 H8/\P.length=i/\JJ H H8 lf af.length (2 ^ ws.length) P;wV (lo:=0) (n:=ps.length + 1) X7 ⟨[],⟨_,_,_,_,_,_,_,rfl⟩,s7,rfl,kf,(λ_ z=>nomatch z),(λ_ z=>nomatch z),(λ_ z=>nomatch z)⟩ ?_ ?_)
  ·rintro i σ H8 hi ⟨P,⟨v6,v7,v8,v9,v10,v11,ie,rfl⟩,s8,eP,p8⟩;refine ⟨zV _,λlr J8=>?_⟩;have V3:lr≠lf:=λe=>by rw [e,p8.top] at J8;cases J8
   have w9:=yy (o:=HO.lst []) J8;have k9:upd H8 lr (HO.lst []) lr=some (.lst []):=yq;have UT:H6 lr=none:=s8.free J8;have V2:=g6.2.ne UT;have fr:H lr=none:=g6.free UT V2;generalize upd H8 lr (HO.lst [])=H9 at w9 k9 ⊢;have Ux:=LJ.same (s8.trans w9);refine (zr rfl (di Ux.book rfl ⟨tr,zr rfl ⟨.inr (bC.of Ux.af),zr rfl ⟨by omega,by rw [zA];omega,?_⟩⟩⟩));rw [zA,zc];refine (let X6:IV:=λj σ eW=>∃ A:List dD,(∃ v8 v9 v10 v11 ie,σ=[some (.ref p),some (.ref b),some (.ref l),some (.int je),some (.ref lh),some (.ref lf),some (.int (i:Int)),some (.ref lr),v8,v9,v10,v11,ie])/\aj H8 eW/\A.length=j/\eW lr=some (.lst (A.map λb=>V.ref b.1))/\(∀ b∈A,b.1≠lr)/\nJ H eW lf (2 ^ ws.length) A;wV (lo:=0) (n:=af.length) X6 ⟨[],⟨_,_,_,_,_,by rw [yh];rfl⟩,w9,rfl,k9,(λ_ z=>nomatch z),nJ.nil⟩ ?_ ?_)
   ·rintro j σ eW hj ⟨A,⟨v8,v9,v10,v11,ie,rfl⟩,bP,eA,OW,nA,Sy⟩;have K0:=s8.trans bP;rw [yh];refine (zr rfl ⟨.inl ⟨rfl,_,av.of OW⟩,zr rfl ⟨l,zr rfl ⟨.inl (av.of (J6.same K0).1),aD rfl rfl ⟨⟨zt _,by rw [zA];omega,by decide⟩,?_⟩⟩⟩⟩);refine ⟨((2 ^ ws.length:Nat):Int),?_,by omega,by omega,?_⟩
    ·show [V.int ((1:Int) * 2 ^ (((ws.map λx=>V.ref x.1).length:Nat):Int).toNat)]=_;rw [zA,cX]
    rw [zc];refine (let X5:IC:=λs τ acc o9=>(∃ t0,τ=[t0,some (.ref lh),some (.int (i:Int)),some (.int (j:Int))])/\(∃ ns:List Int,acc=ns.map V.int/\ns.length=s/\∀ x∈ns,(0:Int)<=x)/\aj eW o9;eU (lo:=0) (m:=2 ^ ws.length) X5 ⟨⟨_,rfl⟩,⟨[],rfl,rfl,(λ_ z=>nomatch z)⟩,aj.refl _⟩ (by omega) ?_ ?_ ?_)
    ·rintro s τ acc o9 ⟨_,⟨ns,rfl,e,_⟩,_⟩;rw [zA,e];exact zE _
    ·rintro s τ acc o9 C hs ⟨⟨t0,rfl⟩,⟨ns,rfl,e,n0⟩,iK⟩ hC;rw [yh];refine (zr rfl (zr rfl (zr rfl (zr rfl ⟨lh,i,j,s,Z,ps.length + 1,af.length,rfl,UB.same (K0.trans iK),by omega,λa ha=>⟨z6.len a ha,λb hb=>(z6.row a ha b hb).2⟩,hi,hj,λx rH x0 ku=>hC _ _ _ ⟨⟨_,rfl⟩,⟨ns++[x],by rw [zJ];rfl,by rw [zH,e];rfl,λy hy=>?_⟩,iK.trans ku⟩⟩))));rcases zS.mp hy with h | h
     ·exact n0 y h
     ·cases zG.mp h;exact x0
    rintro τ acc o9 ⟨⟨t0,rfl⟩,⟨ns,rfl,e,n0⟩,iK⟩ lc eY;have IA:=yy (o:=HO.lst (ns.map V.int)) eY;have J4:upd o9 lc (HO.lst (ns.map V.int)) lc=some (.lst (ns.map V.int)):=yq;have Nr:=iK _ _ OW;have TX:lc≠lr:=λz=>by rw [z,Nr] at eY;cases eY
    have V7:lc≠lf:=λz=>by rw [z,iK _ _ (bP _ _ p8.top)] at eY;cases eY
    have US:H6 lc=none:=(K0.trans iK).free eY;have fc:H lc=none:=g6.free US (g6.2.ne US);generalize upd o9 lc _=rH at IA J4 ⊢;have Q7:=IA _ _ Nr;refine ⟨lr,aD rfl rfl ⟨Q7,by rw [zA];omega,A++[(lc,ns)],⟨_,_,_,_,_,rfl⟩,?_,by rw [zH,eA];rfl,by rw [yq,zJ];rfl,λb hb=>?_,?_⟩⟩
    ·exact λx u e1=>by rw [xC (xA e1 J8)];exact IA _ _ (iK _ _ (bP _ _ e1))
    ·rcases zS.mp hb with h | h
     ·exact nA b h
     ·cases zG.mp h;exact TX
    ·refine nJ.put ((Sy.same (iK.trans IA)).snoc V7 fc J4 e n0) λb hb=>?_;rcases zS.mp hb with h | h
     ·exact nA b h
     ·cases zG.mp h;exact TX
   ·rintro σ eW ⟨A,⟨v8,v9,v10,v11,ie,rfl⟩,bP,eA,OW,nA,Sy⟩;have QW:=p8.same bP;refine (zr rfl ⟨.inl ⟨rfl,_,av.of QW.top⟩,zr rfl ⟨lf,aD rfl rfl ⟨QW.top,by rw [zA];omega,P++[(lr,A)],⟨_,_,_,_,_,_,_,rfl⟩,?_,by rw [zH,eP];rfl,QW.snoc V3 fr OW eA Sy⟩⟩⟩);exact λx u e1=>by rw [xC (xA e1 nH)];exact bP _ _ (s8 _ _ e1)
  rintro σ H8 ⟨P,⟨v6,v7,v8,v9,v10,v11,ie,rfl⟩,s8,eP,p8⟩;obtain ⟨TL,UP⟩:=p8.pr (nm:=ps.length) eP;have g8:=g6.same s8;refine (zr rfl ⟨p,3,rfl,by decide,by decide,g8.2,λd H9 d0 d1 g9=>?_⟩);obtain ⟨d,rfl⟩:=zQ d0;refine (zr rfl ⟨by omega,by omega,?_⟩);rw [zc];have s3:=pK ws.length;have VX:∀ k < ws.length,2 ^ k < 2 ^ ws.length:=λk hk=>Nat.pow_lt_pow_right (by decide) hk;refine wV (lo:=0) (n:=d) (λi σ H'=>∃ P:List aQ,(∃ v6 v7 v8 v9 v10 v11 ie,σ=[some (.ref p),some (.ref b),some (.ref l),some (.int je),some (.ref lh),some (.ref lf),v6,v7,v8,v9,v10,v11,ie])/\Go p H H'/\aN H' lf ps.length af.length (2 ^ ws.length) P/\f7 H P) ⟨P,⟨_,_,_,_,_,_,_,rfl⟩,g8.trans g9,TL.go g8.2 s3 g9,UP⟩ ?_ (fun σ H' ⟨P,⟨_,_,_,_,_,_,_,e⟩,g',VW,_⟩=>by rw [e];exact (zr rfl (q lf P H' g' VW)));clear TL UP g8 g9 p8 eP s8 N6 s7 kf UB J6 LJ z6 g6 OI k6 s6 s5 z5 eZ NI iy NY kx pY g2 g1;rintro i σ eW hi ⟨P,⟨v6,v7,v8,v9,v10,v11,ie,rfl⟩,jr,pr,fr⟩;have pl:=pr.len;refine (zr rfl (zr rfl (zr rfl ⟨lf,zr rfl ⟨.inl (av.of pr.top),p,zr rfl ⟨by rw [zA];omega,by rw [zA];omega,jr.2,λe1 o9 Su Ss Kg=>?_⟩⟩⟩)));rw [zA] at Ss;obtain ⟨e1,rfl⟩:=zQ Su;obtain ⟨a1,e8⟩:∃ a,P[e1]?=some a:=⟨_,zD (by omega)⟩;have m1:=zB e8;have M7:=pr.go jr.2 s3 Kg;have UO:=jr.trans Kg;have bZ:=hb.aJ (UO.aJ pu);refine (bq M7.top (xW (by rw [zF,e8];rfl)) (zr rfl (zr rfl (di bZ.book rfl ⟨tr,zr rfl ⟨.inr (bC.of bZ.af),p,zr rfl ⟨by rw [zA];omega,by rw [zA];omega,Kg.2,λe2 rH So Sn pY=>?_⟩⟩⟩))));rw [zA] at Sn;obtain ⟨e2,rfl⟩:=zQ So;obtain ⟨b1,uZ⟩:∃ r,a1.2[e2]?=some r:=⟨_,zD (by rw [pr.dG a1 m1];omega)⟩;have eS:=zB uZ;have Je:=M7.go Kg.2 s3 pY;have Pd:=UO.trans pY;refine (bq (Je.str a1 m1) (xW (by rw [zF,uZ];rfl)) ?_);have T3:=pr.gJ a1 m1 b1 eS;refine (zr rfl (zr rfl ⟨b1.1,zr rfl ⟨.inl (av.of (Je.row a1 m1 b1 eS)),p,zr rfl ⟨by rw [zA];omega,by rw [zA];omega,pY.2,λe3 Zm Sl Pe Pc=>?_⟩⟩⟩));rw [zA] at Pe;obtain ⟨e3,rfl⟩:=zQ Sl;have La:=Je.go pY.2 s3 Pc;have Kh:=Pd.trans Pc;refine (zr rfl ⟨p,3,rfl,by decide,by decide,Pc.2,λe4 SJ Zf Ze Pb=>⟨rfl,zr rfl ?_⟩⟩);have TM:=La.go Pc.2 s3 Pb;have R8:=Kh.trans Pb;refine jy (fun σ HX=>∃ (a:aQ) (r:dD) (pl:Nat),a∈P/\r∈a.2/\pl < 2 ^ ws.length/\(∃ ie,σ=[some (.ref p),some (.ref b),some (.ref l),some (.int je),some (.ref lh),some (.ref lf),v6,v7,v8,some (.int (0 + (i:Int))),some (.ref r.1),some (.int (pl:Int)),ie])/\Go p H HX/\aN HX lf ps.length af.length (2 ^ ws.length) P) ?_ (λc k0=>?_) (λc=>⟨a1,b1,e3,m1,eS,by omega,⟨_,rfl⟩,R8,TM⟩)
  ·rintro σ HX ⟨a,r,pl,ma,mr,YV,⟨ie,rfl⟩,gX,Tz⟩;have kr:=Tz.row a ma r mr;have lr:=pr.gJ a ma r mr;refine (zr rfl (zr rfl (bq kr (wZ (by omega)) (zr rfl ⟨by show 4<=sizeLine;omega,λl4 uT=>?_⟩))));have n4:=gX.2.ne uT;have VV:=Tz.same (yy (o:=HO.lst [V.int 1,V.int (-1),V.int 1,V.int 7]) uT);refine (zr rfl ⟨p,4,rfl,by decide,by decide,gX.2.new uT,λd4 HW UY UX gW=>?_⟩);obtain ⟨y,hy⟩:=L3 UY UX;have k4:=gW.1 _ _ n4 yq;have Xx:=(gX.new (o:=HO.lst [V.int 1,V.int (-1),V.int 1,V.int 7]) uT).trans gW;have QT:=VV.go (gX.2.new uT) s3 gW;have T6:=QT.row a ma r mr;have Xz:=fr a ma r mr;have nr:=((QT.ne gW.2 s3).2 a ma).2 r mr;refine (bq k4 hy (aD rfl rfl (jE rfl ?_)));have kN:∀ v:Int,(r.2.map V.int).set pl (V.int v)=(r.2.set pl v).map V.int:=λv=>by rw [List.map_set]
   refine (zr rfl (zr rfl ⟨r.1,_,_,pl,rfl,rfl,T6,fQ (k:=pl) (by rw [zA];omega),?_⟩));rw [kN];refine ⟨qz P r.1 _,⟨_,_,_,_,_,_,_,rfl⟩,Xx.QM Xz nr,QT.put T6 (by omega) (by rw [yc];exact lr) (λy hy=>?_),fr.put⟩;rcases List.mem_or_eq_of_mem_set hy with h | h
   ·exact pr.pos a ma r mr y h
   ·rw [h];split <;> omega
  ·have WA:=hw.vc pu Q5 R8;refine (zr rfl (zr rfl ⟨l,zr rfl ⟨.inl (av.of WA.1),p,zr rfl ⟨by rw [zA];omega,by rw [zA];omega,Pb.2,λe5 Vq XJ XI UN=>?_⟩⟩⟩));rw [zA] at XI;obtain ⟨e5,rfl⟩:=zQ XJ;obtain ⟨x,hx⟩:∃ x,ws[e5]?=some x:=⟨_,zD (by omega)⟩;have R7:=R8.trans UN;have Rl:=hw.vc pu Q5 R7;obtain ⟨kx,lx⟩:=Rl.2 x (zB hx);have ax:ee (ws.map λx=>V.ref x.1) (e5:Int)=some (V.ref x.1):=xW (by rw [zF,hx];rfl);have Jd:=TM.go Pb.2 s3 UN;refine (zr rfl (zr rfl (zr rfl (zr rfl (bq Rl.1 ax (di kx rfl (MB b x.2.2 af tr tm ps ⟨rfl,hb.aJ (R7.aJ pu),by omega,λSI IZ=>?_⟩)))))));have cl:=dR (ps.map (·.2)) x.2.2;rw [zA] at cl;obtain ⟨a2,ja⟩:∃ a,P[cnt (ps.map (·.2)) x.2.2]?=some a:=⟨_,zD (by omega)⟩;have m2:=zB ja;obtain ⟨b2,iy⟩:∃ r,a2.2[x.2.1]?=some r:=⟨_,zD (by rw [pr.dG a2 m2];exact lx)⟩;have Jo:=zB iy;have QV:=Jd.same IZ;have J6:=Rl.same IZ;have or:=Jj (k:=e5) Pe (by omega) T3 rfl;refine (bq QV.top (xW (by rw [zF,ja];rfl)) (zr rfl (zr rfl (bq J6.1 ax (di (IZ _ _ kx) rfl (bq (QV.str a2 m2) (xW (by rw [zF,iy];rfl)) ?_))))));refine (zr rfl (zr rfl (aD rfl rfl ⟨⟨zt _,by omega,by decide⟩,aD rfl rfl (k0 _ _ ⟨a2,b2,e3 ||| 2 ^ e5,m2,Jo,or,⟨some (V.int (e5:Int)),?_⟩,R7.same IZ,QV⟩)⟩)));show [some (V.ref p),some (V.ref b),some (V.ref l),some (V.int je),some (V.ref lh),some (V.ref lf),v6,v7,v8,some (V.int (0 + (i:Int))),some (V.ref b2.1),some (V.int (Builtin.bitOr (e3:Int) ((1:Int) * 2 ^ ((e5:Nat):Int).toNat))),some (V.int (e5:Int))]=_;rw [cX,LY]
theorem DF:aA ["_law_prices_here", "_law_at", "_law_walker", "_law_some", "_law_row"] ["_law_prices_here", "_law_at", "_law_walker", "_law_some"] (ai Cq):=L2.aY
theorem FN (T:Tx K mg a):aR P w K mg base cO 1 a.AS a.BC ["_law_prices_here", "_law_at", "_law_walker", "_law_some"] (sP):=by
 refine T.Bh.ok DF (λvs H Q E h=>?_) (λbG A outer s H vs Q E hr h=>?_)
 ·obtain ⟨_,_,_,_,_,_,_,_,rfl,_⟩:=h;rfl
 ·have nd:=DF.nd;have hu:=hr.units;obtain ⟨lp,i,j,v,nm,w,sz,P,rfl,hp,pQ,IA,hi,hj,q⟩:=h;refine bO ?_;intro Y
  let B0:Bk Y ((ah Cq).drop 1):=⟨_,(yx (xP (xM (xI wl (xI wl (xz (wF rfl) (pv 0) wX (wO (pv 1))) (xY (yp (yr (pv 4) xB rfl)))) (xz (wF rfl) (pv 0) (wO (xI xU (pv 1) yu)) wX)))))⟩
  refine ⟨_,(yx (xN (xL (i:=4) nd rfl rfl (xI wl (xI wl (xz (wF rfl) (xJ (xE rfl) (pv 0) (pv 1) (λ_ _=>rfl)) wX (wO (pv 2))) (xY (yp (yr (pv 3) xB rfl)))) (xz (wF rfl) (xJ (xE rfl) (pv 0) (pv 1) (λ_ _=>rfl)) (wO (xI xU (pv 2) yu)) wX))) B0.bl)),?_⟩;have line:=bg;have pl:=hp.len;obtain ⟨a1,e8⟩:∃ a,P[i]?=some a:=⟨_,zD (by omega)⟩;have m1:=zB e8;have aw:=hp.dG a1 m1;have az:ee (P.map λa=>V.ref a.1) (i:Int)=some (V.ref a1.1):=xW (by rw [zF,e8];rfl);refine (zr rfl (zr rfl (bq hp.top az (zr rfl (zr rfl ⟨a1.1,zr rfl ⟨av.of (hp.str a1 m1),λb1 y1=>?_⟩⟩)))));have w1:=yy (o:=HO.lst (ay (a1.2.map λa=>V.ref a.1) none (some (j:Int)))) y1;have u1:upd H b1 (HO.lst (ay (a1.2.map λa=>V.ref a.1) none (some (j:Int)))) b1=some (.lst (ay (a1.2.map λa=>V.ref a.1) none (some (j:Int)))):=yq;generalize upd H b1 _=H1 at w1 u1 ⊢;refine (zr rfl ⟨by show 1<=sizeLine;omega,λb2 y2=>?_⟩);have w2:=yy (o:=HO.lst [v]) y2;have u2:upd H1 b2 (HO.lst [v]) b2=some (.lst [v]):=yq;generalize upd H1 b2 _=H2 at w2 u2 ⊢;have c1:=xh (a1.2.map λa=>V.ref a.1) none (some (j:Int));rw [zA] at c1;refine ⟨b1,b2,aD rfl rfl ⟨w2 _ _ u1,u2,by show _ + 1<=_;omega,λb3 y3=>?_⟩⟩;have w3:=yy (o:=HO.lst (ay (a1.2.map λa=>V.ref a.1) none (some (j:Int))++[v])) y3;have u3:upd H2 b3 (HO.lst (ay (a1.2.map λa=>V.ref a.1) none (some (j:Int))++[v])) b3=some (.lst (ay (a1.2.map λa=>V.ref a.1) none (some (j:Int))++[v])):=yq;generalize upd H2 b3 _=H3 at w3 u3 ⊢;have Qw:=(w1.trans w2).trans w3;have Uk:=hp.same Qw;refine (zr rfl (zr rfl (bq Uk.top az (zr rfl (aD rfl rfl (zr rfl ⟨a1.1,zr rfl ⟨av.of (Uk.str a1 m1),λb4 y4=>?_⟩⟩))))));have w4:=yy (o:=HO.lst (ay (a1.2.map λa=>V.ref a.1) (some ((j:Int) + 1)) none)) y4;have u4:upd H3 b4 (HO.lst (ay (a1.2.map λa=>V.ref a.1) (some ((j:Int) + 1)) none)) b4=some (.lst (ay (a1.2.map λa=>V.ref a.1) (some ((j:Int) + 1)) none)):=yq;generalize upd H3 b4 _=H4 at w4 u4 ⊢;have c2:=xh (a1.2.map λa=>V.ref a.1) (some ((j:Int) + 1)) none;rw [zA] at c2;refine ⟨b3,b4,aD rfl rfl ⟨w4 _ _ u3,u4,by rw [zH];show _ + 1 + _<=_;omega,λb5 y5=>?_⟩⟩;have w5:=yy (o:=HO.lst (ay (a1.2.map λa=>V.ref a.1) none (some (j:Int))++[v]++ay (a1.2.map λa=>V.ref a.1) (some ((j:Int) + 1)) none)) y5;have u5:upd H4 b5 (HO.lst (ay (a1.2.map λa=>V.ref a.1) none (some (j:Int))++[v]++ay (a1.2.map λa=>V.ref a.1) (some ((j:Int) + 1)) none)) b5=some (.lst (ay (a1.2.map λa=>V.ref a.1) none (some (j:Int))++[v]++ay (a1.2.map λa=>V.ref a.1) (some ((j:Int) + 1)) none)):=yq;generalize upd H4 b5 _=H5 at w5 u5 ⊢;have Qv:=(Qw.trans w4).trans w5;have jA:=hp.same Qv;refine (zr rfl (zr rfl (zr rfl ⟨lp,zr rfl ⟨av.of jA.top,λb6 y6=>?_⟩⟩)));have w6:=yy (o:=HO.lst (ay (P.map λa=>V.ref a.1) none (some (i:Int)))) y6;have u6:upd H5 b6 (HO.lst (ay (P.map λa=>V.ref a.1) none (some (i:Int)))) b6=some (.lst (ay (P.map λa=>V.ref a.1) none (some (i:Int)))):=yq;generalize upd H5 b6 _=H6 at w6 u6 ⊢;refine (zr rfl ⟨by show 1<=sizeLine;omega,λb7 y7=>?_⟩);have w7:=yy (o:=HO.lst [V.ref b5]) y7;have u7:upd H6 b7 (HO.lst [V.ref b5]) b7=some (.lst [V.ref b5]):=yq;generalize upd H6 b7 _=H7 at w7 u7 ⊢;have c3:=xh (P.map λa=>V.ref a.1) none (some (i:Int));rw [zA] at c3;refine ⟨b6,b7,aD rfl rfl ⟨w7 _ _ u6,u7,by show _ + 1<=_;omega,λb8 y8=>?_⟩⟩;have w8:=yy (o:=HO.lst (ay (P.map λa=>V.ref a.1) none (some (i:Int))++[V.ref b5])) y8;have u8:upd H7 b8 (HO.lst (ay (P.map λa=>V.ref a.1) none (some (i:Int))++[V.ref b5])) b8=some (.lst (ay (P.map λa=>V.ref a.1) none (some (i:Int))++[V.ref b5])):=yq;generalize upd H7 b8 _=H8 at w8 u8 ⊢;have Qt:=(w6.trans w7).trans w8;have uP:=jA.same Qt;refine (zr rfl (zr rfl (aD rfl rfl (zr rfl ⟨lp,zr rfl ⟨av.of uP.top,λb9 y9=>?_⟩⟩))));have w9:=yy (o:=HO.lst (ay (P.map λa=>V.ref a.1) (some ((i:Int) + 1)) none)) y9;have u9:upd H8 b9 (HO.lst (ay (P.map λa=>V.ref a.1) (some ((i:Int) + 1)) none)) b9=some (.lst (ay (P.map λa=>V.ref a.1) (some ((i:Int) + 1)) none)):=yq;generalize upd H8 b9 _=H9 at w9 u9 ⊢;have c4:=xh (P.map λa=>V.ref a.1) (some ((i:Int) + 1)) none;rw [zA] at c4;refine ⟨b8,b9,aD rfl rfl ⟨w9 _ _ u8,u9,by rw [zH];show _ + 1 + _<=_;omega,λbz yz=>?_⟩⟩;have wz:=yy (o:=HO.lst (ay (P.map λa=>V.ref a.1) none (some (i:Int))++[V.ref b5]++ay (P.map λa=>V.ref a.1) (some ((i:Int) + 1)) none)) yz;have uz:upd H9 bz (HO.lst (ay (P.map λa=>V.ref a.1) none (some (i:Int))++[V.ref b5]++ay (P.map λa=>V.ref a.1) (some ((i:Int) + 1)) none)) bz=some (.lst (ay (P.map λa=>V.ref a.1) none (some (i:Int))++[V.ref b5]++ay (P.map λa=>V.ref a.1) (some ((i:Int) + 1)) none)):=yq;generalize upd H9 bz _=HZ at wz uz ⊢;have Ti:=(Qt.trans w9).trans wz;have sZ:=Qv.trans Ti;have VA:=Ti _ _ u5;refine q bz HZ sZ λG G' sg nw WJ dv cv=>?_;have uG:=nw bz _ (((Qv.trans Qt).trans w9).free yz) uz;have SY:=nw b5 _ ((Qw.trans w4).free y5) VA;have Uj:=WJ.same sg;have d5:DT G' 2 (.ref b5):=DT.lst SY (cS (Uj.rows m1) (dv.same sg));exact oZ uG (cS Uj.strs d5) dN (gI SY dN (by rw [bM sg dv];exact cv))
theorem CS:aA ["_law_purse_here", "_law_book_here", "_law_prices_here", "_law_at", "_law_walker", "_law_some", "_law_place", "_law_ahead", "_law_behind", "_law_found", "_law_fewer", "_law_more", "_law_thing"] ["_law_purse_here", "_law_book_here", "_law_prices_here"] (ai xS):=L2.aY
theorem EE (T:Tx K mg a):aR P w K mg base cO 2 a.As a.AR ["_law_purse_here", "_law_book_here", "_law_prices_here"] (lW):=by
 have Aa:=xl P w base T;have EB:=FN P w base T;refine T.AC.ok CS (λvs H Q E h=>?_) (λbG A outer s H vs Q E hr h=>?_)
 ·obtain ⟨_,_,_,_,_,_,_,_,_,_,rfl,_⟩:=h;rfl
 ·have nd:=CS.nd;have hu:=hr.units;obtain ⟨p,b,l,lp,af,tr,tm,ps,ws,P,rfl,pu,cx,q⟩:=h;refine bO ?_;intro Y
  let B0:Bk Y ((nb (ah xS) 12).drop 1):=⟨_,(yx (xP (wb (cD zX zZ za xw (pv 9) (yp (yr (xF EB (hr.mono (by decide)) rfl T.Ev T.Ex T.Ez .nil au (yp (yr (pv 2) (yr (pv 3) (yr (pv 4) (yr (pv 11) xB rfl) rfl) rfl) rfl))) xB rfl))))))⟩
  let B1:Bk Y (nb (ah xS) 12):=⟨_,(yx (xN (xL (i:=11) nd rfl rfl (xI wl (xI wl (xz (wF rfl) (pv 5) wX (wO (pv 6))) (xY (yp (yr (pv 12) xB rfl)))) (xz (wF rfl) (pv 5) (wO (xI xU (pv 6) yu)) wX))) B0.bl))⟩
  let B2:Bk Y ((ah xS).drop 12):=⟨_,(yx (xN (xj PassesOwn.never rfl (xa rfl (xY (yp (yr wR (yr wR (yr (iQ eG yu) (yr tM (yr dJ (yr (xY (yp (yr yu xB rfl))) xB rfl) rfl) rfl) rfl) rfl) rfl)))) (xH (i:=12) nd rfl rfl) B1.ps) (xP (xM (pv 9)))))⟩
  let B3:Bk Y (nb (ah xS) 11):=⟨_,(yx (xP (wb (cD zX zZ za xw (pv 9) (yp (yr (xF EB (hr.mono (by decide)) rfl T.Ev T.Ex T.Ez .nil au (yp (yr (pv 2) (yr (pv 3) (yr (pv 4) (yr (pv 11) xB rfl) rfl) rfl) rfl))) xB rfl))))))⟩
  let B4:Bk Y ((ah xS).drop 11):=⟨_,(yx (xN (xj PassesOwn.never rfl (xa rfl (xY (yp (yr (xz (wF rfl) (pv 5) wX (wO (iQ eG yu))) (yr (xI wl (pv 5) (xY (yp (yr yu xB rfl)))) (yr (wc (wn) (by rfl) T.fY yS (yp (yr (pv 5) xB rfl))) (yr dJ xB rfl) rfl) rfl) rfl)))) (xH (i:=11) nd rfl rfl) B3.ps) B2.bl))⟩
  let B5:Bk Y ((ah xS).drop 10):=⟨_,(yx (xN (wb (cD zX zZ za xw (pv 9) (yp (yr (xI wl (xI wl (pv 7) (xY (yp (yr (wc (wn) (by rfl) T.fY yS (yp (yr (xJ (xE rfl) (pv 2) (pv 3) (λ_ _=>rfl)) xB rfl))) xB rfl)))) (pv 8)) xB rfl)))) B4.bl))⟩
  let B6:Bk Y ((ah xS).drop 9):=⟨_,(yx (xN (wb (cD zX zZ za xw (pv 9) (yp (yr (xI wl (xI wl (pv 7) (xY (yp (yr (pv 10) xB rfl)))) (pv 8)) xB rfl)))) B5.bl))⟩
  let B7:Bk Y ((ah xS).drop 8):=⟨_,(yx (xN (xL (i:=10) nd rfl rfl (xI wl (xz (wF rfl) (xJ (xE rfl) (pv 2) (pv 3) (λ_ _=>rfl)) wX (wO (pv 4))) (xz (wF rfl) (xJ (xE rfl) (pv 2) (pv 3) (λ_ _=>rfl)) (wO (xI xU (pv 4) yu)) wX))) B6.bl))⟩
  let B8:Bk Y ((ah xS).drop 6):=⟨_,(yx (xN (xL (i:=9) nd rfl rfl (xY (yp (yr (xI wl (pv 7) (pv 8)) (yr (xI wl (pv 2) (xY (yp (yr (xJ (xE rfl) (pv 2) (pv 3) (λ_ _=>rfl)) xB rfl)))) (yr (wc (wn) (by rfl) T.fY yS (yp (yr (pv 2) xB rfl))) (yr dJ (yr tM (yr yu (yr tO xB rfl) rfl) rfl) rfl) rfl) rfl) rfl)))) (xN (wb (cD zX zZ za xw (pv 9) (yp (yr (xY (yp (yr (pv 2) xB rfl))) xB rfl)))) B7.bl)))⟩
  let B9:Bk Y ((ah xS).drop 4):=⟨_,(yx (xN (xL (i:=7) nd rfl rfl (xz (wF rfl) (pv 2) wX (wO (pv 3)))) (xN (xL (i:=8) nd rfl rfl (xz (wF rfl) (pv 2) (wO (xI xU (pv 3) yu)) wX)) B8.bl)))⟩
  let Mg:Bk Y ((ah xS).drop 3):=⟨_,(yx (xN (xL (i:=6) nd rfl rfl (xF Aa (hr.mono (by decide)) rfl T.Ab T.Ac T.Ae .nil au (yp (yr (pv 0) (yr (xG (xD rfl) (by rfl) T.aH PySem.boot_len (yp (yr (pv 5) xB rfl))) xB rfl) rfl)))) B9.bl))⟩
  let Oz:Bk Y ((ah xS).drop 1):=⟨_,(yx (xN (xL (i:=4) nd rfl rfl (xF Aa (hr.mono (by decide)) rfl T.Ab T.Ac T.Ae .nil au (yp (yr (pv 0) (yr (xG (xD rfl) (by rfl) T.aH PySem.boot_len (yp (yr (xJ (xX rfl) (pv 1) yu (λ_ _=>rfl)) xB rfl))) xB rfl) rfl)))) (xN (xL (i:=5) nd rfl rfl (xJ (xE rfl) (xJ (xE rfl) (pv 2) (pv 3) (λ_ _=>rfl)) (pv 4) (λ_ _=>rfl))) Mg.bl)))⟩
  refine ⟨_,(yx (xN (xL (i:=3) nd rfl rfl (xF Aa (hr.mono (by decide)) rfl T.Ab T.Ac T.Ae .nil au (yp (yr (pv 0) (yr (xG (xD rfl) (by rfl) T.aH PySem.boot_len (yp (yr (pv 2) xB rfl))) xB rfl) rfl)))) Oz.bl)),?_⟩;have line:=bg;have w4:=cx.w4;have tS:=fH w4;have s3:=pK ws.length;have p1:=ym ws.length;have pQ:=cx.gd.len;have pr:=cx.pr;have pl:=pr.len;have hb:=cx.bk;have r1:=cx.r1;have gK:=cx.gK;have oR:(2:Int) ^ 200 > 10000:=by decide
  refine (zr rfl (zr rfl ⟨lp,zr rfl ⟨.inl (av.of pr.top),p,zr rfl ⟨by rw [zA];omega,by rw [zA];omega,pu,λe1 H1 Su Ss g1=>?_⟩⟩⟩));rw [zA] at Ss;obtain ⟨e1,rfl⟩:=zQ Su;obtain ⟨a1,e8⟩:∃ a,P[e1]?=some a:=⟨_,zD (by omega)⟩;have m1:=zB e8;have M7:=pr.go pu s3 g1;have bZ:=hb.aJ (g1.aJ pu);have az:ee (P.map λa=>V.ref a.1) (e1:Int)=some (V.ref a1.1):=xW (by rw [zF,e8];rfl);refine (zr rfl (zr rfl (di bZ.book rfl ⟨tr,zr rfl ⟨.inr (bC.of bZ.af),p,zr rfl ⟨by rw [zA];omega,by rw [zA];omega,g1.2,λe2 H2 So Sn g2=>?_⟩⟩⟩)));rw [zA] at Sn;obtain ⟨e2,rfl⟩:=zQ So;obtain ⟨b1,uZ⟩:∃ r,a1.2[e2]?=some r:=⟨_,zD (by rw [pr.dG a1 m1];omega)⟩;have eS:=zB uZ;have T3:=pr.gJ a1 m1 b1 eS;have Je:=M7.go g1.2 s3 g2;have Pd:=g1.trans g2;refine (zr rfl (zr rfl (bq Je.top az (zr rfl (bq (Je.str a1 m1) (xW (by rw [zF,uZ];rfl)) ?_)))));refine (zr rfl (zr rfl ⟨b1.1,zr rfl ⟨.inl (av.of (Je.row a1 m1 b1 eS)),p,zr rfl ⟨by rw [zA];omega,by rw [zA];omega,g2.2,λe3 H3 Sl Pe g3=>?_⟩⟩⟩));rw [zA] at Pe;obtain ⟨e3,rfl⟩:=zQ Sl;have La:=Je.go g2.2 s3 g3;have Kh:=Pd.trans g3;clear Pd g1 g2 g3 M7 Je bZ;generalize Xi:H3=Pp at *;clear Xi;have ne:=La.ne Kh.2 s3;have np:∃ u,Pp p=some u:=Kh.2.bw;have top:=La.top;have cA:=xh (P.map λa=>V.ref a.1) none (some (e1:Int));have cB:=xh (P.map λa=>V.ref a.1) (some ((e1:Int) + 1)) none;rw [zA] at cA cB;refine (zr rfl (zr rfl (zr rfl ⟨lp,zr rfl ⟨av.of top,λla yA=>?_⟩⟩)));have wA:=yy (o:=HO.lst (ay (P.map λa=>V.ref a.1) none (some (e1:Int)))) yA;have uA:upd Pp la (HO.lst (ay (P.map λa=>V.ref a.1) none (some (e1:Int)))) la=some (HO.lst (ay (P.map λa=>V.ref a.1) none (some (e1:Int)))):=yq;generalize upd Pp la _=HA at wA uA ⊢;refine (zr rfl (zr rfl (aD rfl rfl (zr rfl ⟨lp,zr rfl ⟨av.of (wA _ _ top),λlb yB=>?_⟩⟩))));have wB:=yy (o:=HO.lst (ay (P.map λa=>V.ref a.1) (some ((e1:Int) + 1)) none)) yB;have uB:upd HA lb (HO.lst (ay (P.map λa=>V.ref a.1) (some ((e1:Int) + 1)) none)) lb=some (HO.lst (ay (P.map λa=>V.ref a.1) (some ((e1:Int) + 1)) none)):=yq;generalize upd HA lb _=HB at wB uB ⊢;have sB:=wA.trans wB;have Qy:=wB _ _ uA;refine (zr rfl (zr rfl ⟨la,lb,aD rfl rfl ⟨Qy,uB,by omega,λlc yC=>?_⟩⟩));have wC:=yy (o:=HO.lst (ay (P.map λa=>V.ref a.1) none (some (e1:Int))++ay (P.map λa=>V.ref a.1) (some ((e1:Int) + 1)) none)) yC;have uC:upd HB lc (HO.lst (ay (P.map λa=>V.ref a.1) none (some (e1:Int))++ay (P.map λa=>V.ref a.1) (some ((e1:Int) + 1)) none)) lc=some (HO.lst (ay (P.map λa=>V.ref a.1) none (some (e1:Int))++ay (P.map λa=>V.ref a.1) (some ((e1:Int) + 1)) none)):=yq;generalize upd HB lc _=HC at wC uC ⊢;have sC:=sB.trans wC;refine (zr rfl (zr rfl (zr rfl (bq (sC _ _ top) az ⟨by show 1<=sizeLine;omega,λld yD=>?_⟩))));have wD:=yy (o:=HO.lst [V.ref a1.1]) yD;have uD:upd HC ld (HO.lst [V.ref a1.1]) ld=some (HO.lst [V.ref a1.1]):=yq;generalize upd HC ld _=HD at wD uD ⊢;have sD:=sC.trans wD;refine ⟨lp,ld,aD rfl rfl ⟨sD _ _ top,uD,by rw [zA];show _ + 1<=_;omega,λle yE=>?_⟩⟩;have wE:=yy (o:=HO.lst ((P.map λa=>V.ref a.1)++[V.ref a1.1])) yE;have uE:upd HD le (HO.lst ((P.map λa=>V.ref a.1)++[V.ref a1.1])) le=some (HO.lst ((P.map λa=>V.ref a.1)++[V.ref a1.1])):=yq;generalize upd HD le _=HE at wE uE ⊢;have sE:=sD.trans wE;refine (zr rfl ⟨lp,zr rfl (.inl ⟨av.of (sE _ _ top),λlg yG=>?_⟩)⟩);have wG:=yy (o:=HO.tup (P.map λa=>V.ref a.1)) yG;have uG:upd HE lg (HO.tup (P.map λa=>V.ref a.1)) lg=some (HO.tup (P.map λa=>V.ref a.1)):=yq;generalize upd HE lg _=HG at wG uG ⊢;have sG:=sE.trans wG;intro li yI;have wI:=yy (o:=HO.dK []) yI;have uI:upd HG li (HO.dK []) li=some (HO.dK []):=yq;generalize upd HG li _=HI at wI uI ⊢;have sI:=sG.trans wI;refine ⟨by show 7<=sizeLine;omega,λlf yL=>?_⟩;have wL:=yy (o:=HO.lst [V.ref lc,V.ref le,V.ref lg,V.bu,V.str (Str.ofString ""),V.int 3,V.ref li]) yL;have uL:upd HI lf (HO.lst [V.ref lc,V.ref le,V.ref lg,V.bu,V.str (Str.ofString ""),V.int 3,V.ref li]) lf=some (HO.lst [V.ref lc,V.ref le,V.ref lg,V.bu,V.str (Str.ofString ""),V.int 3,V.ref li]):=yq;generalize upd HI lf _=HL at wL uL ⊢;have sL:=sI.trans wL;have f0:Pp lf=none:=sI.free yL;have nf:lf≠p:=Kh.2.ne f0;have ou:=La.same sI;have jK:=Kh.2.same sI;have F0:vP p lf HI HL ps.length af.length (2 ^ ws.length) [V.ref lc,V.ref le,V.ref lg,V.bu,V.str (Str.ofString ""),V.int 3,V.ref li]:=by
   have TJ:=La.Jy Kh.2 s3 f0 sL;have st:=TJ.strs;refine ⟨wL,uL,λx hx=>?_⟩;simp only [zO,zh,or_false] at hx;rcases hx with rfl | rfl | rfl | rfl | rfl | rfl | rfl
   ·exact qb (kK np (sB.free yC) (wI _ _ (wG _ _ (wE _ _ (wD _ _ uC)))) yL wL) (by rw [jg (by rw [zA];omega),zA];omega) (f9 (dP st) (dP st))
   ·exact qb (kK np (sD.free yE) (wI _ _ (wG _ _ uE)) yL wL) (by rw [zH,zA];show _ + 1≠_;omega) (jJ st (TJ.sF m1 0))
   ·exact JF (kK np (sE.free yG) (wI _ _ uG) yL wL) st
   ·exact iA (t := "NoneType") rfl (by decide) (by decide) rfl
   ·exact iA (t := "str") rfl (by decide) (by decide) rfl
   ·exact iA (t := "int") rfl (by decide) (by decide) rfl
   ·have ki:=kK np (sG.free yI) uI yL wL;exact iA (t := "dict") (by simp only [ig,ki]) (by decide) (by decide) (by simp only [bE,ki])
  have SX:=wI _ _ (wG _ _ (wE _ _ (wD _ _ (wC _ _ Qy))));have SW:=wI _ _ (wG _ _ (wE _ _ (wD _ _ (wC _ _ uB))));have KH:=ou.top;have KQ:=ou.str a1 m1;have tw:=ou.row a1 m1 b1 eS;have YQ:=jK.bw;clear wA wB wC wD wE wG wI wL uC uD uE uG uI uL sB sC sD sE sG Qy uA uB yA yB yC yD yE yG yI np La;refine (zr rfl ⟨.inl ⟨rfl,_,av.of F0.k⟩,zr rfl ⟨by show 1<=sizeLine;omega,λln yN=>?_⟩⟩);have wN:=yy (o:=HO.lst [V.ref lp]) yN;have uN:upd HL ln (HO.lst [V.ref lp]) ln=some (HO.lst [V.ref lp]):=yq;generalize upd HL ln _=HM at wN uN ⊢;have Pq:=F0.same wN;have F1:=Pq.add yL (vD (ou.Jy jK s3 yL Pq.s) r1 (wo (jK.same F0.s).bw ⟨_,F0.k⟩ yN uN));refine ⟨lf,aD rfl rfl ⟨Pq.k,(by simp only [zl,yd,zH];omega),?_⟩⟩;clear F0 Pq wN uN yN;generalize upd HM lf _=HN at F1 ⊢;refine (zr rfl (zr rfl (bq (F1.s _ _ KH) az (zr rfl (zr rfl ⟨a1.1,zr rfl ⟨av.of (F1.s _ _ KQ),λl1 y1=>?_⟩⟩)))));have w1:=yy (o:=HO.lst (ay (a1.2.map λa=>V.ref a.1) none (some (e2:Int)))) y1;have u1:upd HN l1 (HO.lst (ay (a1.2.map λa=>V.ref a.1) none (some (e2:Int)))) l1=some (HO.lst (ay (a1.2.map λa=>V.ref a.1) none (some (e2:Int)))):=yq;generalize upd HN l1 _=Vo at w1 u1 ⊢;have F2:=F1.same w1;refine (zr rfl (zr rfl (bq (F2.s _ _ KH) az (zr rfl (aD rfl rfl (zr rfl ⟨a1.1,zr rfl ⟨av.of (F2.s _ _ KQ),λl2 y2=>?_⟩⟩))))));have w2:=yy (o:=HO.lst (ay (a1.2.map λa=>V.ref a.1) (some ((e2:Int) + 1)) none)) y2;have u2:upd Vo l2 (HO.lst (ay (a1.2.map λa=>V.ref a.1) (some ((e2:Int) + 1)) none)) l2=some (HO.lst (ay (a1.2.map λa=>V.ref a.1) (some ((e2:Int) + 1)) none)):=yq;generalize upd Vo l2 _=Vn at w2 u2 ⊢;have aw:=ou.dG a1 m1;have c1:=xh (a1.2.map λa=>V.ref a.1) none (some (e2:Int));have c2:=xh (a1.2.map λa=>V.ref a.1) (some ((e2:Int) + 1)) none;rw [zA] at c1 c2;have F3:=F2.same w2;refine ⟨l1,l2,aD rfl rfl ⟨w2 _ _ u1,u2,by omega,λlw y3=>?_⟩⟩;have w3:=yy (o:=HO.lst (ay (a1.2.map λa=>V.ref a.1) none (some (e2:Int))++ay (a1.2.map λa=>V.ref a.1) (some ((e2:Int) + 1)) none)) y3;have u3:upd Vn lw (HO.lst (ay (a1.2.map λa=>V.ref a.1) none (some (e2:Int))++ay (a1.2.map λa=>V.ref a.1) (some ((e2:Int) + 1)) none)) lw=some (HO.lst (ay (a1.2.map λa=>V.ref a.1) none (some (e2:Int))++ay (a1.2.map λa=>V.ref a.1) (some ((e2:Int) + 1)) none)):=yq;generalize upd Vn lw _=Vm at w3 u3 ⊢;have F4:=F3.same w3;have kw:=wo (jK.same F3.s).bw ⟨_,F3.k⟩ y3 u3;refine (zr rfl ⟨.inl ⟨rfl,_,av.of F4.k⟩,zr rfl (zr rfl ⟨by show 1<=sizeLine;omega,λl4 y4=>?_⟩)⟩);have ju:=yy (o:=HO.lst [V.ref lw]) y4;have u4:upd Vm l4 (HO.lst [V.ref lw]) l4=some (HO.lst [V.ref lw]):=yq;generalize upd Vm l4 _=Vl at ju u4 ⊢;have F5:=F4.same ju;refine ⟨la,l4,aD rfl rfl ⟨F5.s _ _ SX,u4,by show _ + 1<=_;omega,λl5 y5=>?_⟩⟩;have w5:=yy (o:=HO.lst (ay (P.map λa=>V.ref a.1) none (some (e1:Int))++[V.ref lw])) y5;have u5:upd Vl l5 (HO.lst (ay (P.map λa=>V.ref a.1) none (some (e1:Int))++[V.ref lw])) l5=some (HO.lst (ay (P.map λa=>V.ref a.1) none (some (e1:Int))++[V.ref lw])):=yq;generalize upd Vl l5 _=Vk at w5 u5 ⊢;have F6:=F5.same w5;refine (zr rfl ⟨l5,lb,aD rfl rfl ⟨u5,F6.s _ _ SW,by rw [zH];show _ + 1 + _<=_;omega,λl6 y6=>?_⟩⟩);have w6:=yy (o:=HO.lst (ay (P.map λa=>V.ref a.1) none (some (e1:Int))++[V.ref lw]++ay (P.map λa=>V.ref a.1) (some ((e1:Int) + 1)) none)) y6;have u6:upd Vk l6 (HO.lst (ay (P.map λa=>V.ref a.1) none (some (e1:Int))++[V.ref lw]++ay (P.map λa=>V.ref a.1) (some ((e1:Int) + 1)) none)) l6=some (HO.lst (ay (P.map λa=>V.ref a.1) none (some (e1:Int))++[V.ref lw]++ay (P.map λa=>V.ref a.1) (some ((e1:Int) + 1)) none)):=yq;generalize upd Vk l6 _=Vj at w6 u6 ⊢;have F7:=F6.same w6;have F8:vP p lf HI (upd Vj lf _) _ _ _ _:=F7.add yL (by
   have Ml:=ou.Jy jK s3 yL F7.s;have T4:=wU (p:=p) (f:=lf) ((ju.trans w5).trans w6) _ _ kw;exact oZ (wo (jK.same F6.s).bw ⟨_,F6.k⟩ y6 u6) (cS Ml.strs (DT.lst T4 (f9 (dP (Ml.rows m1)) (dP (Ml.rows m1))))) dN (lT T4 (by rw [jg (by rw [zA];omega),zA];omega)))
  refine ⟨lf,aD rfl rfl ⟨F7.k,(by simp only [zl,yd,zH];omega),?_⟩⟩;clear F1 F2 F3 F4 F5 F6 F7 w1 w2 w3 ju w5 w6 u1 u2 u3 u4 u5 u6 y1 y2 y3 y4 y5 y6 kw;generalize upd Vj lf _=HP at F8 ⊢;refine (zr rfl ⟨.inl ⟨rfl,_,av.of F8.k⟩,zr rfl (zr rfl (zr rfl (bq (F8.s _ _ KH) az ⟨a1.1,zr rfl (.inl ⟨av.of (F8.s _ _ KQ),λlt y1=>?_⟩)⟩)))⟩);have w1:=yy (o:=HO.tup (a1.2.map λa=>V.ref a.1)) y1;have u1:upd HP lt (HO.tup (a1.2.map λa=>V.ref a.1)) lt=some (HO.tup (a1.2.map λa=>V.ref a.1)):=yq;generalize upd HP lt _=Vi at w1 u1 ⊢;have F9:=F8.same w1;have kt:=wo (jK.same F8.s).bw ⟨_,F8.k⟩ y1 u1;refine ⟨by show 1<=sizeLine;omega,λl4 y4=>?_⟩;have ju:=yy (o:=HO.lst [V.ref lt]) y4;have u4:upd Vi l4 (HO.lst [V.ref lt]) l4=some (HO.lst [V.ref lt]):=yq;generalize upd Vi l4 _=Vh at ju u4 ⊢;have FA:=F9.same ju;refine ⟨la,l4,aD rfl rfl ⟨FA.s _ _ SX,u4,by show _ + 1<=_;omega,λl5 y5=>?_⟩⟩;have w5:=yy (o:=HO.lst (ay (P.map λa=>V.ref a.1) none (some (e1:Int))++[V.ref lt])) y5;have u5:upd Vh l5 (HO.lst (ay (P.map λa=>V.ref a.1) none (some (e1:Int))++[V.ref lt])) l5=some (HO.lst (ay (P.map λa=>V.ref a.1) none (some (e1:Int))++[V.ref lt])):=yq;generalize upd Vh l5 _=Vg at w5 u5 ⊢;have FB:=FA.same w5;refine (zr rfl ⟨l5,lb,aD rfl rfl ⟨u5,FB.s _ _ SW,by rw [zH];show _ + 1 + _<=_;omega,λl6 y6=>?_⟩⟩);have w6:=yy (o:=HO.lst (ay (P.map λa=>V.ref a.1) none (some (e1:Int))++[V.ref lt]++ay (P.map λa=>V.ref a.1) (some ((e1:Int) + 1)) none)) y6;have u6:upd Vg l6 (HO.lst (ay (P.map λa=>V.ref a.1) none (some (e1:Int))++[V.ref lt]++ay (P.map λa=>V.ref a.1) (some ((e1:Int) + 1)) none)) l6=some (HO.lst (ay (P.map λa=>V.ref a.1) none (some (e1:Int))++[V.ref lt]++ay (P.map λa=>V.ref a.1) (some ((e1:Int) + 1)) none)):=yq;generalize upd Vg l6 _=Vf at w6 u6 ⊢;have FC:=FB.same w6;have FD:vP p lf HI (upd Vf lf _) _ _ _ _:=FC.add yL (by
   have Ml:=ou.Jy jK s3 yL FC.s;have Nq:=wU (p:=p) (f:=lf) ((ju.trans w5).trans w6) _ _ kt;exact oZ (wo (jK.same FB.s).bw ⟨_,FB.k⟩ y6 u6) (cS Ml.strs (DT.tup Nq (Ml.rows m1))) dN (lS Nq))
  refine ⟨lf,aD rfl rfl ⟨FC.k,(by simp only [zl,yd,zH];omega),?_⟩⟩;clear F8 F9 FA FB FC w1 ju w5 w6 u1 u4 u5 u6 y1 y4 y5 y6 kt;generalize upd Vf lf _=HQ at FD ⊢;have cI:=xh (b1.2.map V.int) none (some (-1));rw [zA] at cI;refine (zr rfl (zr rfl (zr rfl ⟨b1.1,zr rfl ⟨av.of (FD.s _ _ tw),λk1 y1=>?_⟩⟩)));have w1:=yy (o:=HO.lst (ay (b1.2.map V.int) none (some (-1)))) y1;have u1:upd HQ k1 (HO.lst (ay (b1.2.map V.int) none (some (-1)))) k1=some (HO.lst (ay (b1.2.map V.int) none (some (-1)))):=yq;generalize upd HQ k1 _=Ve at w1 u1 ⊢;have FE:=FD.same w1;have j1:=wo (jK.same FD.s).bw ⟨_,FD.k⟩ y1 u1;refine (zr rfl ⟨by show 1<=sizeLine;omega,λk2 y2=>?_⟩);have w2:=yy (o:=HO.lst [V.int 0]) y2;have u2:upd Ve k2 (HO.lst [V.int 0]) k2=some (HO.lst [V.int 0]):=yq;generalize upd Ve k2 _=Vd at w2 u2 ⊢;have FF:=FE.same w2;refine ⟨b1.1,k2,aD rfl rfl ⟨FF.s _ _ tw,u2,by rw [zA];show _ + 1<=_;omega,λk3 y3=>?_⟩⟩;have w3:=yy (o:=HO.lst ((b1.2.map V.int)++[V.int 0])) y3;have u3:upd Vd k3 (HO.lst ((b1.2.map V.int)++[V.int 0])) k3=some (HO.lst ((b1.2.map V.int)++[V.int 0])):=yq;generalize upd Vd k3 _=Vc at w3 u3 ⊢;have FG:=FF.same w3;have j3:=wo (jK.same FF.s).bw ⟨_,FF.k⟩ y3 u3;refine (zr rfl ⟨b1.1,zr rfl (.inl ⟨av.of (FG.s _ _ tw),λk4 y4=>?_⟩)⟩);have ju:=yy (o:=HO.tup (b1.2.map V.int)) y4;have u4:upd Vc k4 (HO.tup (b1.2.map V.int)) k4=some (HO.tup (b1.2.map V.int)):=yq;generalize upd Vc k4 _=Vb at ju u4 ⊢;have FH:=FG.same ju;have j4:=wo (jK.same FG.s).bw ⟨_,FG.k⟩ y4 u4;refine ⟨by show 4<=sizeLine;omega,λk5 y5=>?_⟩;have w5:=yy (o:=HO.lst [V.ref k1,V.ref k3,V.ref k4,V.bu]) y5;have u5:upd Vb k5 (HO.lst [V.ref k1,V.ref k3,V.ref k4,V.bu]) k5=some (HO.lst [V.ref k1,V.ref k3,V.ref k4,V.bu]):=yq;generalize upd Vb k5 _=HR at w5 u5 ⊢;have FI:=FH.same w5;have j5:=wo (jK.same FH.s).bw ⟨_,FH.k⟩ y5 u5;have ji:=DT.ints (H:=aP p lf HR) 0 (r:=b1.2);have dm:∀ v∈[V.ref k1,V.ref k3,V.ref k4,V.bu],DT (aP p lf HR) 1 v/\aF (aP p lf HR) (2 ^ ws.length) v=false:=by
   have q1:=wU (p:=p) (f:=lf) (((w2.trans w3).trans ju).trans w5) _ _ j1;have q3:=wU (p:=p) (f:=lf) (ju.trans w5) _ _ j3;have q4:=wU (p:=p) (f:=lf) w5 _ _ j4;intro v hv;simp only [zO,zh,or_false] at hv;rcases hv with rfl | rfl | rfl | rfl
   ·exact ⟨DT.lst q1 (dP ji),jU q1 (by rw [vt,List.length_dropLast,zA];omega)⟩
   ·exact ⟨DT.lst q3 (jJ ji (DT.int 0 0)),jU q3 (by rw [zH,zA];show _ + 1≠_;omega)⟩
   ·exact ⟨DT.tup q4 ji,rq q4⟩
   ·exact ⟨DT.bu 1,rfl⟩
  clear w1 w2 w3 ju w5 u1 u2 u3 u4 y1 y2 y3 y4 y5 j1 j3 j4 FD FE FF FG FH;refine ⟨k5,rfl,⟨_,av.of u5⟩,?_⟩;refine (let X4:IV:=λi σ H5=>∃ xs:List V,(∃ v11 ie,σ=[some (V.ref p),some (V.ref b),some (V.ref lp),some (V.int (e1:Int)),some (V.int (e2:Int)),some (V.ref b1.1),some (V.int (e3:Int)),some (V.ref la),some (V.ref lb),some (V.ref lf),some (V.ref lw),v11,ie])/\xs.length=10 + i/\vP p lf HI H5 ps.length af.length (2 ^ ws.length) xs/\aj (aP p lf HR) (aP p lf H5);wx (K:=K) (a:=k5) (xs:=[V.ref k1,V.ref k3,V.ref k4,V.bu]) X4 ⟨_,⟨_,_,rfl⟩,rfl,FI,aj.refl _⟩ ?_ ?_ ?_)
  ·rintro i σ H5 _ ⟨xs,_,_,_,s5⟩;exact av.of (i9 (s5 _ _ j5)).2.2
  ·rintro i v σ H5 hv ⟨xs,⟨v11,ie,rfl⟩,ex,F5,s5⟩;have i4:i < 4:=(zI.mp hv).1;obtain ⟨dv,cv⟩:=dm v (zB hv);have Jd:=ou.Jy jK s3 yL F5.s;refine (zr rfl ⟨.inl ⟨rfl,_,av.of F5.k⟩,zr rfl (zr rfl (zr rfl (zr rfl ⟨lp,e1,e2,v,ps.length,af.length,2 ^ ws.length,P,rfl,ou.same F5.s,pQ,gK,by omega,by omega,λq5 H6 s6 hq=>?_⟩)))⟩);have bd:=hq (aP p lf H5) (aP p lf H6) (wU s6) (pT (jK.same F5.s).bw ⟨_,F5.k⟩) Jd (dv.same s5) (by rw [bM s5 dv];exact cv);have F6:=F5.same s6;exact ⟨lf,aD rfl rfl ⟨F6.k,by omega,_,⟨_,_,rfl⟩,by rw [zH,ex];rfl,F6.add yL bd,by rw [kJ];exact s5.trans (wU s6)⟩⟩
  rintro σ Va ⟨xs,⟨v11,ie,rfl⟩,ex,FJ,_⟩;clear dm j5 u5 FI ji;have ex:xs.length=14:=ex;refine (zr rfl ⟨by show 1<=sizeLine;omega,λk1 y1=>?_⟩);have w1:=yy (o:=HO.lst [V.int 0]) y1;have u1:upd Va k1 (HO.lst [V.int 0]) k1=some (HO.lst [V.int 0]):=yq;generalize upd Va k1 _=U9 at w1 u1 ⊢;have FK:=FJ.same w1;have j1:=wo (jK.same FJ.s).bw ⟨_,FJ.k⟩ y1 u1;refine ⟨by show 6<=sizeLine;omega,λk2 y2=>?_⟩;have w2:=yy (o:=HO.lst [V.bl true,V.bl false,V.int (-1),V.str (Str.ofString "0"),V.bu,V.ref k1]) y2;have u2:upd U9 k2 (HO.lst [V.bl true,V.bl false,V.int (-1),V.str (Str.ofString "0"),V.bu,V.ref k1]) k2=some (HO.lst [V.bl true,V.bl false,V.int (-1),V.str (Str.ofString "0"),V.bu,V.ref k1]):=yq;generalize upd U9 k2 _=HS at w2 u2 ⊢;have FL:=FK.same w2;have j2:=wo (jK.same FK.s).bw ⟨_,FK.k⟩ y2 u2;have dm:∀ v∈[V.bl true,V.bl false,V.int (-1),V.str (Str.ofString "0"),V.bu,V.ref k1],DT (aP p lf HS) 0 v/\kX v=false:=by
   have q1:=wU (p:=p) (f:=lf) w2 _ _ j1;intro v hv;simp only [zO,zh,or_false] at hv;rcases hv with rfl | rfl | rfl | rfl | rfl | rfl
   ·exact ⟨DT.bl 0 _,rfl⟩
   ·exact ⟨DT.bl 0 _,rfl⟩
   ·exact ⟨DT.int 0 _,rfl⟩
   ·exact ⟨⟨"str", rfl⟩,rfl⟩
   ·exact ⟨DT.bu 0,rfl⟩
   ·exact ⟨⟨_,bK q1⟩,rfl⟩
  clear w1 w2 u1 y1 y2 j1 FJ FK;refine ⟨k2,rfl,⟨_,av.of u2⟩,?_⟩;refine (let X3:IV:=λi σ H5=>∃ xs:List V,(∃ v11 ie,σ=[some (V.ref p),some (V.ref b),some (V.ref lp),some (V.int (e1:Int)),some (V.int (e2:Int)),some (V.ref b1.1),some (V.int (e3:Int)),some (V.ref la),some (V.ref lb),some (V.ref lf),some (V.ref lw),v11,ie])/\xs.length=14 + i/\vP p lf HI H5 ps.length af.length (2 ^ ws.length) xs/\aj (aP p lf HS) (aP p lf H5);wx (K:=K) (a:=k2) (xs:=[V.bl true,V.bl false,V.int (-1),V.str (Str.ofString "0"),V.bu,V.ref k1]) X3 ⟨xs,⟨_,_,rfl⟩,ex,FL,aj.refl _⟩ ?_ ?_ ?_)
  ·rintro i σ H5 _ ⟨xs,_,_,_,s5⟩;exact av.of (i9 (s5 _ _ j2)).2.2
  ·rintro i v σ H5 hv ⟨xs,⟨v11,ie,rfl⟩,ex,F5,s5⟩;have i6:i < 6:=(zI.mp hv).1;obtain ⟨dv,cv⟩:=dm v (zB hv);have c1:=xh (b1.2.map V.int) none (some (e3:Int));have c2:=xh (b1.2.map V.int) (some ((e3:Int) + 1)) none;rw [zA] at c1 c2;refine (zr rfl (zr rfl (zr rfl ⟨b1.1,zr rfl ⟨av.of (F5.s _ _ tw),λOT z1=>?_⟩⟩)));have w1:=yy (o:=HO.lst (ay (b1.2.map V.int) none (some (e3:Int)))) z1;have u1:upd H5 OT (HO.lst (ay (b1.2.map V.int) none (some (e3:Int)))) OT=some (HO.lst (ay (b1.2.map V.int) none (some (e3:Int)))):=yq;generalize upd H5 OT _=H6 at w1 u1 ⊢;refine (zr rfl ⟨by show 1<=sizeLine;omega,λm2 z2=>?_⟩);have w2:=yy (o:=HO.lst [v]) z2;have u2:upd H6 m2 (HO.lst [v]) m2=some (HO.lst [v]):=yq;generalize upd H6 m2 _=H7 at w2 u2 ⊢;refine ⟨OT,m2,aD rfl rfl ⟨w2 _ _ u1,u2,by show _ + 1<=_;omega,λm3 z3=>?_⟩⟩;have w3:=yy (o:=HO.lst (ay (b1.2.map V.int) none (some (e3:Int))++[v])) z3;have u3:upd H7 m3 (HO.lst (ay (b1.2.map V.int) none (some (e3:Int))++[v])) m3=some (HO.lst (ay (b1.2.map V.int) none (some (e3:Int))++[v])):=yq;generalize upd H7 m3 _=H8 at w3 u3 ⊢;have F8:=F5.same ((w1.trans w2).trans w3);refine (zr rfl (zr rfl (aD rfl rfl (zr rfl ⟨b1.1,zr rfl ⟨av.of (F8.s _ _ tw),λm4 z4=>?_⟩⟩))));have ju:=yy (o:=HO.lst (ay (b1.2.map V.int) (some ((e3:Int) + 1)) none)) z4;have u4:upd H8 m4 (HO.lst (ay (b1.2.map V.int) (some ((e3:Int) + 1)) none)) m4=some (HO.lst (ay (b1.2.map V.int) (some ((e3:Int) + 1)) none)):=yq;generalize upd H8 m4 _=H9 at ju u4 ⊢;have F9:=F8.same ju;refine ⟨m3,m4,aD rfl rfl ⟨ju _ _ u3,u4,by rw [zH];show _ + 1 + _<=_;omega,λm5 z5=>?_⟩⟩;have w5:=yy (o:=HO.lst (ay (b1.2.map V.int) none (some (e3:Int))++[v]++ay (b1.2.map V.int) (some ((e3:Int) + 1)) none)) z5;have u5:upd H9 m5 (HO.lst (ay (b1.2.map V.int) none (some (e3:Int))++[v]++ay (b1.2.map V.int) (some ((e3:Int) + 1)) none)) m5=some (HO.lst (ay (b1.2.map V.int) none (some (e3:Int))++[v]++ay (b1.2.map V.int) (some ((e3:Int) + 1)) none)):=yq;generalize upd H9 m5 _=HT at w5 u5 ⊢;have FT:=F9.same w5;have s9:=s5.trans (wU (p:=p) (f:=lf) ((((w1.trans w2).trans w3).trans ju).trans w5));have Ua:=wo (jK.same F9.s).bw ⟨_,F9.k⟩ z5 u5;have XN:=dv.same s9;have dn:=cS (l1:=none) (h1:=some (e3:Int)) (l2:=some ((e3:Int) + 1)) (h2:=none) (DT.ints (H:=aP p lf HT) 0 (r:=b1.2)) XN;have Jd:=ou.Jy jK s3 yL FT.s;clear w1 w2 w3 ju w5 u1 u2 u3 u4 z1 z2 z3 z4 z5 F8 F9 F5;refine (zr rfl ⟨.inl ⟨rfl,_,av.of FT.k⟩,zr rfl (zr rfl (zr rfl (zr rfl ⟨lp,e1,e2,V.ref m5,ps.length,af.length,2 ^ ws.length,P,rfl,ou.same FT.s,pQ,gK,by omega,by omega,λq5 H6 s6 hq=>?_⟩)))⟩);have bd:=hq (aP p lf HT) (aP p lf H6) (wU s6) (pT (jK.same FT.s).bw ⟨_,FT.k⟩) Jd (DT.lst Ua dn) (m9 Ua dN cv);have F6:=FT.same s6;exact ⟨lf,aD rfl rfl ⟨F6.k,by omega,_,⟨_,_,rfl⟩,by rw [zH,ex];rfl,F6.add yL bd,by rw [kJ];exact s9.trans (wU s6)⟩⟩
  rintro σ H5 ⟨xs,⟨v11,ie,rfl⟩,ex,F5,_⟩;have ex:xs.length=20:=ex;exact (zr rfl (q lf xs H5 (Kh.same (sI.trans F5.s)) nf F5.k (by omega) λx hx=>(F5.bad x hx).same LD))
theorem Eu:aA ["_law_book_here", "_law_sender", "_law_since", "_law_wishes_here", "_law_prices_here"] ["_law_book_here", "_law_sender", "_law_since", "_law_wishes_here", "_law_prices_here"] (ai Cl):=L2.aY
theorem GC (T:Tx K mg a):aR P w K mg base cO 3 a.Bg a.BU ["_law_book_here", "_law_sender", "_law_since", "_law_wishes_here", "_law_prices_here"] (kh):=by
 have BV:=CB P w base T;have Ft:=ER P w base T;have G4:=FP P w base T;have Gx:=Fb P w base T;refine T.BB.ok Eu (λvs H Q E h=>?_) (λbG A outer s H vs Q E hr h=>?_)
 ·obtain ⟨_,_,_,_,_,_,_,_,_,_,_,rfl,_⟩:=h;rfl
 ·have nd:=Eu.nd;have hu:=hr.units;obtain ⟨b,k,a0,l,lp,af,tr,tm,ps,ws,P,rfl,hk,cx,q1,q2⟩:=h;refine bO ?_;intro Y
  let B0:Bk Y ((ah Cl).drop 2):=⟨_,(yx (xP (xM (xJ (xE rfl) (xJ (xE rfl) (xJ (xE rfl) (pv 4) (xF BV (hr.mono (by decide)) rfl T.Dg T.Dh T.Di .nil au (yp (yr (pv 0) (yr (pv 2) xB rfl) rfl))) (λ_ _=>rfl)) (pv 1) (λ_ _=>rfl)) (iQ eG yu) (λ_ _=>rfl)))))⟩
  let B1:Bk Y ((ah Cl).drop 1):=⟨_,(yx (xN (xg (wj (wQ (xF Gx (hr.mono (by decide)) rfl T.FX T.Gc T.Gh .nil au (yp (yr (pv 0) (yr (pv 4) xB rfl) rfl))))) (yx (xP (xM dJ))) xQ) B0.bl))⟩
  refine ⟨_,(yx (xN (xg (@PW.pt _ _ _ (cR (wj (wQ (xF Ft (hr.mono (by decide)) rfl T.Ff T.Fi T.Fl .nil au (yp (yr (pv 0) (yr (pv 3) (yr (pv 4) xB rfl) rfl) rfl))))) (bQ (wj (wQ (xF G4 (hr.mono (by decide)) rfl T.GF T.GL T.GR .nil au (yp (yr (pv 0) (yr (pv 3) (yr (pv 4) xB rfl) rfl) rfl)))))))) (yx (xP (xM dJ))) xQ) B1.bl)),?_⟩;have line:=bg;have pQ:ps.length<=60:=cx.gd.len;refine (zr rfl (zr rfl (zr rfl (MA b l lp af tr tm ps ws P ⟨rfl,cx,λc1 H2 s2 e1=>?_⟩))));cases c1 with
  | false=>exact (zr rfl (aO rfl (aO rfl (q2 (λf=>nomatch e1.mpr f.1) _ s2))))
  | true=>
  have n1:=e1.mp rfl;refine (zr rfl (aG rfl (zr rfl (zr rfl (zr rfl (MA b l lp af tr tm ps ws P ⟨rfl,cx.same s2,λc2 H3 s3 e2=>?_⟩))))));cases c2 with
  | false=>exact (zr rfl (aO rfl (q2 (λf=>nomatch e2.mpr f.2.1) _ (s2.trans s3))))
  | true=>
  have n2:=e2.mp rfl;have Pf:=cx.same (s2.trans s3);refine (zr rfl (aG rfl (zr rfl (zr rfl (MA b l lp af tr tm ps ws P ⟨rfl,Pf,λc4 H5 s5 e4=>?_⟩)))));have K2:=(s2.trans s3).trans s5;cases c4 with
  | false=>exact (zr rfl (aO rfl (q2 (λf=>nomatch e4.mpr ⟨(by rw [<-zA (as:=ps) (·.2)];exact f.2.2.1),f.2.2.2⟩) _ K2)))
  | true=>
  have n4:=e4.mp rfl;have LV:=cx.same K2;refine (zr rfl (aG rfl (zr rfl (zr rfl (zr rfl (MB b a0 af tr tm ps ⟨rfl,LV.bk,by omega,λH6 s6=>?_⟩))))));have cl:=dR (ps.map (·.2)) a0;rw [zA] at cl;have hp:=cx.pr;have pl:=hp.len;have p1:=ym ws.length;obtain ⟨a1,e8⟩:∃ a,P[cnt (ps.map (·.2)) a0]?=some a:=⟨_,zD (by omega)⟩;have m1:=zB e8;obtain ⟨b1,bZ⟩:∃ r,a1.2[k]?=some r:=⟨_,zD (by rw [hp.dG a1 m1];exact hk)⟩;have eS:=zB bZ;have lb:=hp.gJ a1 m1 b1 eS;have nI:=LV.same s6;refine (bq nI.pr.top (xW (by rw [zF,e8];rfl)) (zr rfl (bq (nI.pr.str a1 m1) (xW (by rw [zF,bZ];rfl)) (zr rfl ?_))));refine (bq (nI.pr.row a1 m1 b1 eS) (JG (n:=2 ^ ws.length - 1) (by rw [zA];omega) (by rw [zF,kO (by omega)];rfl)) ?_);rw [<-xc e8 bZ];exact q1 ⟨n1,n2,by rw [zA];exact n4.1,n4.2⟩ _ (K2.trans s6)
theorem HH:aA ["_law_script", "_law_head", "_law_sizes", "_law_book_here", "_law_k", "_law_purse_here", "_law_sender", "_law_since", "_law_wishes_here", "_law_prices_here", "_law_handed", "_law_wished", "_law_found", "_law_due_here", "_law_thing"] ["_law_script"] (ai qC):=L2.aY
theorem Ii (T:Tx K mg a):aR P w K mg base cO 7 a.Ee a.FM ["_law_script"] (pF K):=by
 have CP:=Fa P w base T;have Aa:=xl P w base T;have G7:=FS P w base T;have Dd:=DO P w base T;have CO:=Dt P w base T;have Ef:=E6 P w base T;have Fq:=EO P w base T;have Fs:=EQ P w base T;have E5:=EE P w base T;have Ht:=GC P w base T;refine T.EC.ok HH (λvs H Q E h=>?_) (λbG A outer s H vs Q E hr h=>?_)
 ·obtain ⟨_,_,rfl,_⟩:=h;rfl
 ·have nd:=HH.nd;have hu:=hr.units;obtain ⟨sa,ns,rfl,hS,YR,q⟩:=h;refine bO ?_;intro Y
  let B0:Bk Y (nb (nb (ah qC) 3) 11):=⟨_,(yx (xP (xg (tH (pL (xF Ef (hr.mono (by decide)) rfl T.DP T.DW T.D4 .nil au (yp (yr (pv 3) (yr (pv 6) (yr (pv 7) (yr (pv 8) (yr (pv 14) xB rfl) rfl) rfl) rfl) rfl))))) (yx (xP (xM wR))) xQ)))⟩
  let B1:Bk Y ((nb (ah qC) 3).drop 11):=⟨_,(yx (xP (xj PassesOwn.never rfl (xa rfl (Jh rfl (by decide) (xF E5 (hr.mono (by decide)) rfl T.ET T.EV T.EX .nil au (yp (yr (pv 5) (yr (pv 3) (yr (pv 9) xB rfl) rfl) rfl))) (wO (xF Aa (hr.mono (by decide)) rfl T.Ab T.Ac T.Ae .nil au (yp (yr (pv 5) (yr yu xB rfl) rfl)))))) (xH (i:=14) nd rfl rfl) B0.ps)))⟩
  let B2:Bk Y ((nb (ah qC) 3).drop 10):=⟨_,(yx (xN (xg (@PW.pt _ _ _ (kB (tH (pL (pv 13))) (ir (@PW.pt _ _ _ (cR (wj (wQ (xF CO (hr.mono (by decide)) rfl T.DV T.D3 T.D9 .nil au (yp (yr (pv 12) xB rfl))))) (bQ (xR gM (pv 12) (pv 13) (aB _)))))))) (yx (xP (xM wR))) xQ) B1.bl))⟩
  let B3:Bk Y ((nb (ah qC) 3).drop 9):=⟨_,(yx (xN (xg (@PW.pt _ _ _ (cR (xR gM (tQ (tR (pv 12))) (tQ (tR (pv 13))) (aB _)) (cR (xR (tX hu) (pv 10) (pv 9) (aB _)) (bQ (xR (tX hu) (pv 11) (pv 8) (aB _)))))) (yx (xP (xM wR))) xQ) B2.bl))⟩
  let B4:Bk Y ((nb (ah qC) 3).drop 8):=⟨_,(yx (xN (xL (i:=13) nd rfl rfl (xF Ht (hr.mono (by decide)) rfl T.Hb T.Hf T.Hj .nil au (yp (yr (pv 3) (yr (pv 6) (yr (pv 7) (yr (pv 8) (yr (pv 9) xB rfl) rfl) rfl) rfl) rfl)))) B3.bl))⟩
  let B5:Bk Y ((nb (ah qC) 3).drop 7):=⟨_,(yx (xN (xL (i:=12) nd rfl rfl (xF Ef (hr.mono (by decide)) rfl T.DP T.DW T.D4 .nil au (yp (yr (pv 3) (yr (pv 6) (yr (pv 7) (yr (pv 11) (yr (pv 10) xB rfl) rfl) rfl) rfl) rfl)))) B4.bl))⟩
  let B6:Bk Y ((nb (ah qC) 3).drop 5):=⟨_,(yx (xN (om (ix:=10) nd rfl rfl (own:=["_law_row"]) (caps:=[]) rfl (show aC ["_law_row"] [] ["_law_script", "_law_head", "_law_sizes", "_law_book_here", "_law_k", "_law_purse_here", "_law_sender", "_law_since", "_law_wishes_here", "_law_prices_here", "_law_handed", "_law_wished", "_law_found", "_law_due_here", "_law_thing"] (ai qC) _ from L2.dQ) (xa rfl (pv 9)) (λ_ _ _ _=>(xH (i:=0) (show List.Nodup (["_law_row"]:List Str) from by decide +kernel) rfl rfl)) (λ_ _ _ _=>wS) (λ_ _ _ _=>(wP (own:=["_law_some"]) (caps:=[]) rfl (aC.plain rfl (by decide +kernel) (by decide +kernel) (by decide +kernel)) (xa rfl (pv 0)) (λ_ _ _ _=>(xH (i:=0) (show List.Nodup (["_law_some"]:List Str) from by decide +kernel) rfl rfl)) (λ_ _ _ _=>wS) (λ_ _ _ _=>(wc (bN rfl) (by rfl) T.bU zj (yp (yr (pv 0) xB rfl))))))) (xN (xL (i:=11) nd rfl rfl (wc (bN rfl) (by rfl) T.bU zj (yp (yr (pv 8) xB rfl)))) B5.bl)))⟩
  let B7:Bk Y ((nb (ah qC) 3).drop 4):=⟨_,(yx (xN (xL (i:=9) nd rfl rfl (xF Fs (hr.mono (by decide)) rfl T.Fe T.Fh T.Fk .nil au (yp (yr (pv 5) (yr (pv 3) (yr (pv 8) xB rfl) rfl) rfl)))) B6.bl))⟩
  let B8:Bk Y ((nb (ah qC) 3).drop 3):=⟨_,(yx (xN (xL (i:=8) nd rfl rfl (xF Fq (hr.mono (by decide)) rfl T.Fd T.Fg T.Fj .nil au (yp (yr (pv 5) (yr (pv 3) (yr (xI xU yu (xI wT (xF Aa (hr.mono (by decide)) rfl T.Ab T.Ac T.Ae .nil au (yp (yr (pv 5) (yr yu xB rfl) rfl))) yu)) xB rfl) rfl) rfl)))) B7.bl))⟩
  let B9:Bk Y ((nb (ah qC) 3).drop 2):=⟨_,(yx (xN (xL (i:=7) nd rfl rfl (xF Dd (hr.mono (by decide)) rfl T.Ew T.Ey T.EA .nil au (yp (yr (pv 5) (yr (pv 3) (yr yu xB rfl) rfl) rfl)))) B8.bl))⟩
  let Mg:Bk Y ((nb (ah qC) 3).drop 1):=⟨_,(yx (xN (xL (i:=6) nd rfl rfl (xF Aa (hr.mono (by decide)) rfl T.Ab T.Ac T.Ae .nil au (yp (yr (pv 5) (yr (xG (xD rfl) (by rfl) T.aH PySem.boot_len (yp (yr (xJ (xX rfl) (pv 3) yu (λ_ _=>rfl)) xB rfl))) xB rfl) rfl)))) B9.bl))⟩
  let Oz:Bk Y (nb (ah qC) 3):=⟨_,(yx (xN (xL (i:=5) nd rfl rfl (xF CP (hr.mono (by decide)) rfl T.CC T.CD T.CF .nil au (yp (yr (pv 0) (yr (pv 4) xB rfl) rfl)))) Mg.bl))⟩
  let YC:Bk Y ((ah qC).drop 3):=⟨_,(yx (xN (xj PassesOwn.never rfl (qL rfl T.aW (yp (yr yu (yr (xG (dZ rfl) (by rfl) T.nq ya (yp (yr yu (yr (xG (cg rfl) (by rfl) T.j9 yQ (yp (yr (xJ (xE rfl) (xY (yp (yr yu (yr yu xB rfl) rfl))) (xI wT (xJ (xX rfl) (pv 2) yu (λ_ _=>rfl)) yu) (λ_ _=>rfl)) (yr (xG (xD rfl) (by rfl) T.aH PySem.boot_len (yp (yr (pv 0) xB rfl))) xB rfl) rfl))) xB rfl) rfl))) xB rfl) rfl))) (xH (i:=4) nd rfl rfl) Oz.ps) (xP (xM wR))))⟩
  let YB:Bk Y ((ah qC).drop 2):=⟨_,(yx (xN (xL (i:=3) nd rfl rfl (xF G7 (hr.mono (by decide)) rfl T.GI T.GO T.GU .nil au (yp (yr (xF CP (hr.mono (by decide)) rfl T.CC T.CD T.CF .nil au (yp (yr (pv 0) (yr yu xB rfl) rfl))) (yr (xJ (xX rfl) (pv 2) yu (λ_ _=>rfl)) (yr (xJ (xX rfl) (pv 2) yu (λ_ _=>rfl)) xB rfl) rfl) rfl)))) YC.bl))⟩
  let YA:Bk Y ((ah qC).drop 1):=⟨_,(yx (xN (xL (i:=2) nd rfl rfl (xJ (xE rfl) (xY (yp (yr (bS (yp (yr yu (yr yu xB rfl) rfl))) (yr (bS (yp (yr yu (yr yu xB rfl) rfl))) xB rfl) rfl))) (xI wT (xF Aa (hr.mono (by decide)) rfl T.Ab T.Ac T.Ae .nil au (yp (yr (pv 1) (yr yu xB rfl) rfl))) yu) (λ_ _=>rfl))) YB.bl))⟩
  refine ⟨_,(yx (xN (xL (i:=1) nd rfl rfl (xF CP (hr.mono (by decide)) rfl T.CC T.CD T.CF .nil au (yp (yr (pv 0) (yr yu xB rfl) rfl)))) YA.bl)),?_⟩;have line:=bg;have oR:(2:Int) ^ 200 > 10000:=by decide
  refine (zr rfl ⟨sa,ns,1,rfl,hS,by decide,λhd H1 O6 QO s1=>?_⟩);refine ⟨by show 2<=sizeLine;omega,λt1 y1=>?_⟩;have w1:=yy (o:=HO.tup [V.int 6,V.int 20]) y1;have u1:upd H1 t1 (HO.tup [V.int 6,V.int 20]) t1=some (.tup [V.int 6,V.int 20]):=yq;generalize upd H1 t1 _=H2 at w1 u1 ⊢;refine ⟨by show 2<=sizeLine;omega,λt2 y2=>?_⟩;have w2:=yy (o:=HO.tup [V.int 12,V.int 60]) y2;have u2:upd H2 t2 (HO.tup [V.int 12,V.int 60]) t2=some (.tup [V.int 12,V.int 60]):=yq;generalize upd H2 t2 _=H3 at w2 u2 ⊢;refine ⟨by show 2<=sizeLine;omega,λt3 y3=>?_⟩;have w3:=yy (o:=HO.lst [V.ref t1,V.ref t2]) y3;have u3:upd H3 t3 (HO.lst [V.ref t1,V.ref t2]) t3=some (.lst [V.ref t1,V.ref t2]):=yq;generalize upd H3 t3 _=H4 at w3 u3 ⊢;have Qu:=(w1.trans w2).trans w3;have ON:=QO.same Qu;refine (zr rfl ⟨hd,8,rfl,by decide,by decide,ON,λd H5 d0 d1 g5=>?_⟩);have n3:t3≠hd:=λe=>by rw [e,(QO.same (w1.trans w2)).choose_spec.choose_spec.choose_spec] at y3;cases y3
  have k3:=g5.1 _ _ n3 u3;have k1:=g5.aJ ON _ _ (w3 _ _ (w2 _ _ u1));have k2:=g5.aJ ON _ _ (w3 _ _ u2);have s5:=dY O6 (s1.trans Qu) g5.1;obtain ⟨t,A,B,ht,kt,A1,Zp,Yz,hA⟩:∃ (t:Addr) (A B:Nat),ee [V.ref t1,V.ref t2] (d / 7)=some (V.ref t)/\H5 t=some (.tup [V.int (A:Int),V.int (B:Int)])/\1<=A/\A<=12/\B<=60/\((A:Int) / 12=0\/(A:Int) / 12=1):=by
   obtain e | e:d / 7=0\/d / 7=1:=by omega
   ·rw [e];exact ⟨t1,6,20,rfl,k1,by decide,by decide,by decide,.inl rfl⟩
   ·rw [e];exact ⟨t2,12,60,rfl,k2,by decide,by decide,by decide,.inr rfl⟩
  refine (aD rfl rfl ⟨⟨by decide,by decide⟩,bq k3 ht ?_⟩);clear w1 w2 w3 Qu u1 u2 u3 y1 y2 y3 k1 k2 k3 n3 g5 ON QO s1;refine (zr rfl ⟨sa,ns,0,rfl,av.but hS O6 λc u _ e=>s5 _ _ e,by decide,λp0 H6 Ul Tw s6=>?_⟩);refine (zr rfl (di (s6 _ _ kt) rfl (zr rfl (di (s6 _ _ kt) rfl ⟨p0,A,B,rfl,by omega,by omega,Yz,Tw,λb af tr tm ps H7 g7 hb r1 rA rm gd lB=>?_⟩))));have QG:=dY Ul s6 g7.1;have Nq:=QG _ _ kt;have gK:af.length<=12:=by omega
  have Tp:=s5.trans QG;clear s5 s6 g7 Tw Ul QG kt;refine ⟨by show 2<=sizeLine;omega,λl6 y6=>?_⟩;have w6:=yy (o:=HO.lst [V.int 6,V.int 4]) y6;have u6:upd H7 l6 (HO.lst [V.int 6,V.int 4]) l6=some (.lst [V.int 6,V.int 4]):=yq;generalize upd H7 l6 _=H8 at w6 u6 ⊢;obtain ⟨c,hc,c4,c6⟩:∃ c:Int,ee [V.int 6,V.int 4] ((A:Int) / 12)=some (V.int c)/\4<=c/\c<=6:=by
   rcases hA with e | e
   ·rw [e];exact ⟨6,rfl,by decide,by decide⟩
   ·rw [e];exact ⟨4,rfl,by decide,by decide⟩
  have To:=Tp.trans w6;have Xg:av K H8 sa (List.map V.int ns):=av.but hS O6 λc u _ e=>To _ _ e;refine (zr rfl (di (w6 _ _ Nq) rfl (aD rfl rfl ⟨⟨by decide,by decide⟩,bq u6 hc (zr rfl ⟨sa,zr rfl ⟨.inl Xg,jE rfl (jE rfl ?_)⟩⟩)⟩)));have Xb:=hb.same w6;clear w6 u6 y6 Nq Tp hA hc ht;have jb:3<=(if (if (((ns.map V.int).length:Nat):Int) < c then (((ns.map V.int).length:Nat):Int) else c) > 4 then (if (((ns.map V.int).length:Nat):Int) < c then (((ns.map V.int).length:Nat):Int) else c) else 4)/\(if (if (((ns.map V.int).length:Nat):Int) < c then (((ns.map V.int).length:Nat):Int) else c) > 4 then (if (((ns.map V.int).length:Nat):Int) < c then (((ns.map V.int).length:Nat):Int) else c) else 4)<=6:=by
   split <;> split <;> omega
  generalize (if (if (((ns.map V.int).length:Nat):Int) < c then (((ns.map V.int).length:Nat):Int) else c) > 4 then (if (((ns.map V.int).length:Nat):Int) < c then (((ns.map V.int).length:Nat):Int) else c) else 4)=J at jb ⊢;refine (jE rfl ⟨⟨by decide,by decide,by omega,by omega⟩,?_⟩);refine wV (lo:=3) (n:=(J - 3).toNat) (λi σ H'=>(∃ v4 v5 v6 v7 v8 v9 v10 v11 ie SR Mi,σ=[some (.ref sa),some (.ref hd),some (.ref t),some (.ref b),v4,v5,v6,v7,v8,v9,v10,v11,ie,SR,Mi])/\aj H8 H') ⟨⟨_,_,_,_,_,_,_,_,_,_,_,rfl⟩,aj.refl _⟩ ?_ (fun σ H' _=>q H');rintro i σ H9 hi ⟨⟨v4,v5,v6,v7,v8,v9,v10,v11,ie,SR,Mi,rfl⟩,s9⟩;rw [show (3:Int) + (i:Int)=((3 + i:Nat):Int) by omega];refine (zr rfl (zr rfl ⟨sa,ns,3 + i,rfl,av.but hS O6 λc u _ e=>(To.trans s9) _ _ e,by omega,λp HA hp pu sA=>?_⟩));have LI:=Xb.same (s9.trans sA);refine (zr rfl (zr rfl (di LI.book rfl ⟨tr,zr rfl ⟨.inr (bC.of LI.af),p,zr rfl ⟨by rw [zA];omega,by rw [zA];omega,pu,λe HB e0 e1 gB=>?_⟩⟩⟩)));rw [zA] at e1;obtain ⟨e,rfl⟩:=zQ e0;have er:e < af.length:=by omega
  have Uw:=LI.aJ (gB.aJ pu);refine (zr rfl (zr rfl (Se p b 0 af tr tm ps ⟨rfl,.inl rfl,Uw,gd,gB.2,λz HC z0 z1 gC=>?_⟩)));have UL:=gB.trans gC;refine (zr rfl (zr rfl (zr rfl ⟨p,8,rfl,by decide,by decide,gC.2,λd HD d0 d1 gD=>?_⟩)));have R5:=UL.trans gD;refine (aD rfl rfl ⟨⟨by decide,by decide⟩,aD rfl rfl (Se p b (3 + d / 7) af tr tm ps ⟨rfl,by omega,by omega,gD.2,LI.aJ (R5.aJ pu),gd,r1,gK,λl ws HE gE fl nl hw OB wm=>?_⟩)⟩);have R4:=R5.trans gE;have OA:ws.length<=4:=by omega
  refine (zr rfl (zr rfl (zr rfl (Sd p b l af tr tm ps ws ⟨rfl,gE.2,LI.aJ (R4.aJ pu),gd,r1,gK,hw,OB,OA,nl,λlp P HF gF JX=>?_⟩))));have R3:=R4.trans gF;have Uv:=LI.aJ (R3.aJ pu);have Ui:=hw.vc gE.2 nl gF;have VJ:=dY hp sA R3.1;have VU:=gF.2;clear gB gC UL gD R5 gE R4 gF R3 LI Uw hw pu fl;refine (zr rfl ⟨lp,rfl,⟨_,av.of JX.top⟩,?_⟩);have pl:=JX.len;have pQ:=gd.len;refine (let X0:IC:=λi τ acc H5=>(∃ t0,τ=[t0])/\(∃ Z:List aQ,acc=Z.map (λa=>V.ref a.1)/\Z.length=i/\vQ HF H5 Z/\aq Z=(aq P).take i)/\aj HF H5;wd (K:=K) (a:=lp) (xs:=P.map λa=>V.ref a.1) X0 ⟨⟨_,rfl⟩,⟨[],rfl,rfl,⟨(λ_ z=>nomatch z),(λ_ z=>nomatch z)⟩,rfl⟩,aj.refl _⟩ (by rw [zA];omega) ?_ ?_ ?_)
  ·rintro i τ acc H5 ⟨_,⟨Z,rfl,eZ,_⟩,s5⟩;exact ⟨by rw [zA,eZ];exact zE _,av.of (s5 _ _ JX.top)⟩
  ·rintro i v τ acc H5 C hv ⟨⟨t0,rfl⟩,⟨Z,rfl,eZ,cZ,vZ⟩,s5⟩ hC;obtain ⟨a1,ha,rfl⟩:=xT hv;have m1:=zB ha;have Jd:=JX.same s5;have aw:=JX.dG a1 m1;refine (zr rfl ⟨a1.1,rfl,⟨_,av.of (Jd.str a1 m1)⟩,?_⟩);refine (let XZ:IC:=λj τ acc H6=>(∃ t0,τ=[t0])/\(∃ A:List dD,acc=A.map (λb=>V.ref b.1)/\A.length=j/\(∀ b∈A,H6 b.1=some (.lst (b.2.map V.int)))/\A.map (·.2)=(a1.2.map (·.2)).take j)/\aj H5 H6;wd (K:=K) (a:=a1.1) (xs:=a1.2.map λb=>V.ref b.1) XZ ⟨⟨_,rfl⟩,⟨[],rfl,rfl,(λ_ z=>nomatch z),rfl⟩,aj.refl _⟩ (by rw [zA];omega) ?_ ?_ ?_)
   ·rintro j τ acc H6 ⟨_,⟨A,rfl,eA,_⟩,s6⟩;exact ⟨by rw [zA,eA];exact zE _,av.of (s6 _ _ (Jd.str a1 m1))⟩
   ·rintro j v τ acc H6 C2 Lx ⟨⟨t0,rfl⟩,⟨A,rfl,eA,kA,vA⟩,s6⟩ Xl;obtain ⟨r,hr,rfl⟩:=xT Lx;have mr:=zB hr;refine (zr rfl ⟨r.1,zr rfl ⟨.inl (av.of (s6 _ _ (Jd.row a1 m1 r mr))),λlc eY=>?_⟩⟩);have sn:=yy (o:=HO.lst (r.2.map V.int)) eY;refine Xl _ _ _ ⟨⟨_,rfl⟩,⟨A++[(lc,r.2)],by rw [zJ];rfl,by rw [zH,eA];rfl,λb hb=>?_,?_⟩,s6.trans sn⟩
    ·rcases zS.mp hb with h | h
     ·exact sn _ _ (kA b h)
     ·cases zG.mp h;exact yq
    ·rw [zJ,vA,xb (kE hr)];rfl
   rintro τ acc H6 ⟨⟨t0,rfl⟩,⟨A,rfl,eA,kA,vA⟩,s6⟩ lr J8;have sn:=yy (o:=HO.lst (A.map λb=>V.ref b.1)) J8;rw [zA,zm (by rw [zA];exact zE _)] at vA;refine hC _ _ _ ⟨⟨_,rfl⟩,⟨Z++[(lr,A)],by rw [zJ];rfl,by rw [zH,eZ];rfl,⟨λa ha=>?_,λa ha b hb=>?_⟩,?_⟩,s5.trans (s6.trans sn)⟩
   ·rcases zS.mp ha with h | h
    ·exact (cZ.same (s6.trans sn)).str a h
    ·cases zG.mp h;exact yq
   ·rcases zS.mp ha with h | h
    ·exact (cZ.same (s6.trans sn)).row a h b hb
    ·cases zG.mp h;exact sn _ _ (kA b hb)
   ·rw [xb (l:=aq P) (i:=i) (r:=a1.2.map (·.2)) (by unfold aq;rw [zF,ha];rfl),<- vZ,<- vA];unfold aq;rw [zJ];rfl
  rintro τ acc HG ⟨⟨t0,rfl⟩,⟨Z,rfl,eZ,cZ,vZ⟩,sG⟩ lq WO;have wq:=yy (o:=HO.lst (Z.map λa=>V.ref a.1)) WO;have kq:upd HG lq (HO.lst (Z.map λa=>V.ref a.1)) lq=some (.lst (Z.map λa=>V.ref a.1)):=yq;generalize upd HG lq _=HI at wq kq ⊢;rw [zA,zm (by unfold aq;rw [zA];exact zE _)] at vZ;have OH:=sG.trans wq;have ou:=JX.same OH;have QU:=JX.Jl (cZ.same wq) kq vZ;clear wq kq cZ eZ sG;have NH:=Ui.same OH;refine (zr rfl ⟨l,zr rfl ⟨.inl (av.of NH.1),λlw yw=>?_⟩⟩);have ww:=yy (o:=HO.lst (ws.map λx=>V.ref x.1)) yw;have kw:upd HI lw (HO.lst (ws.map λx=>V.ref x.1)) lw=some (.lst (ws.map λx=>V.ref x.1)):=yq;generalize upd HI lw _=HJ at ww kw ⊢;have Th:=OH.trans ww;have Uh:dz HJ lw af.length ws:=⟨kw,λx hx=>⟨ww _ _ (NH.2 x hx).1,(NH.2 x hx).2⟩⟩;have RU:=Uv.same Th;have cq:cG HJ b lw lq af tr tm ps ws Z:=⟨RU,gd,r1,gK,Uh,OB,OA,QU.same ww⟩;have cp:cG HJ b l lp af tr tm ps ws P:=⟨RU,gd,r1,gK,NH.same ww,OB,OA,ou.same ww⟩;refine (zr rfl (zr rfl (zr rfl (zr rfl (zr rfl ?_)))));delta ql;show fF [V.ref b,V.int (e:Int),V.int z,V.ref lw,V.ref lq] HJ _ _;refine qI cq er λx HK sK tx=>?_;refine (zr rfl (zr rfl (zr rfl (zr rfl (zr rfl ?_)))));try delta ql
  show kh [V.ref b,V.int (e:Int),V.int z,V.ref l,V.ref lp] HK _ _;refine JD (cp.same sK) er λy HM sM ty=>?_;rw [vZ] at tx;obtain rfl:=tx.uniq ty;clear tx;have Mj:=sK.trans sM;have TH:=(ou.same ww).same Mj;have TF:=(QU.same ww).same Mj;have kl:HM l=some (.lst ((ws.map (·.1)).map V.ref)):=by rw [yR];exact (cp.same Mj).wa.1
  have T5:HM lw=some (.lst ((ws.map (·.1)).map V.ref)):=by rw [yR];exact Mj _ _ kw
  have sc:IY x x=true:=by rcases ty with ⟨_,rfl⟩ | ⟨_,rfl⟩ <;> rfl
  refine (zr rfl (zr rfl ⟨rfl,zr rfl (aG (by simp) (zr rfl (zr rfl (aN.eqv TF TH vZ (zr rfl (aG rfl (zr rfl (zr rfl (oi T5 kl (zr rfl (aG rfl ?_)))))))))))⟩));refine (zr rfl (zr rfl ?_));refine uy ?_ (λc r=>(zr rfl ⟨x, "int", rfl,?_,zr rfl (aG rfl (zr rfl (zr rfl ⟨sc,zr rfl (aG (by simp) r)⟩)))⟩)) (λc r=>aG rfl r)
  rotate_left
  ·rcases ty with ⟨_,rfl⟩ | ⟨_,rfl⟩
   ·rfl
   ·cases c
  have Sv:=cp.same Mj;have Tg:=Th.trans Mj;have VI:=VJ.trans Tg;have QN:=VU.same Tg;clear TH TF kl T5 sc cq Uh RU kw ww NH QU ou OH Ui Uv JX;refine (zr rfl (zr rfl (zr rfl (Sf p b l lp af tr tm ps ws P ⟨rfl,QN,Sv,λt2 xs HN gN nt kt lx bad=>?_⟩))));refine (zr rfl ⟨p,4,rfl,by decide,by decide,gN.2,λd2 HY _ _ gO=>?_⟩);have R1:=gN.trans gO;have Wk:=gO.1 _ _ nt kt;have XX:∀ y∈xs,cJ HY ps.length af.length (2 ^ ws.length) y:=λy hy=>(bad y hy).same (LF gO);have Xa:=Sv.bk.aJ (R1.aJ QN);have V4:l≠p:=nl;have Wz:=Sv.wa.vc QN V4 R1;refine (zr rfl ⟨t2,xs,rfl,av.of Wk,λlz ys yz YT Wb=>?_⟩);have wz:=yy (o:=HO.lst ys) yz;have kz:upd HY lz (HO.lst ys) lz=some (.lst ys):=yq;have VH:aj H9 HY:=dY hp VI R1.1;generalize upd HY lz _=HP at wz kz ⊢;refine ⟨lz,rfl,⟨_,av.of kz⟩,?_⟩;refine wx (K:=K) (a:=lz) (xs:=ys) (λj σ H'=>(∃ Mi,σ=[some (.ref sa),some (.ref hd),some (.ref t),some (.ref b),some (.int ((3 + i:Nat):Int)),some (.ref p),some (.int (e:Int)),some (.int z),some (.ref l),some (.ref lp),some (.ref lq),some (.ref lw),some x,some x,Mi])/\aj HP H') ⟨⟨_,rfl⟩,aj.refl _⟩ ?_ ?_ ?_
  ·rintro j σ H' _ ⟨_,s'⟩;exact av.of (s' _ _ kz)
  ·rintro j y σ H' hy ⟨⟨Mi,rfl⟩,s'⟩;have sO:=wz.trans s';refine (zr rfl (zr rfl (zr rfl (zr rfl (zr rfl ?_)))));try delta ql
   show fF [V.ref b,V.int (e:Int),V.int z,V.ref l,y] H' _ _;refine tL (Xa.same sO) gd r1 gK (Wz.same sO) OB OA er ((XX y (Wb y (zB hy))).same sO) λZo K3=>?_;exact (zr rfl (aG rfl ⟨⟨_,rfl⟩,s'.trans K3⟩))
  ·rintro σ H' ⟨⟨Mi,rfl⟩,s'⟩;exact ⟨⟨_,_,_,_,_,_,_,_,_,_,_,rfl⟩,((s9.trans VH).trans wz).trans s'⟩
end
theorem all_mk {l:PySem.W.OpenLaw}{w:World}{K:PySem.W.Frag}{h:Heap}{mg:Str->Option Value}{fa CL C4 DC CK C5 Cb C9 C3 CJ DA DB CI Em Hk EZ Cm EY CH BO BM BP BN Bc CG En Cs Cu C6 CN CM C8 C7 Ct C1 Cn DD Ih:Addr}(X:K.In h)(G:h.Ns mainGlobals mg)(WY:mg "law" = some (.ref fa))
  {Bv BE BT Bu BF AD BJ BD Bt BR BS Bs Ce Eo Cy AQ Cw Br Av At Aw Au Al Bq Cf A9 Bb BG Bx Bw BI BH Ba BC AR BU FM:FuncData}
  (AJ:zK K mainGlobals "_law_purse" = some (some (.ref CL))) (A6:aX K "_law_purse" "_law_purse" we CL Bv)
  (AU:zK K mainGlobals "_law_take" = some (some (.ref C4))) (Bj:aX K "_law_take" "_law_take" wt C4 BE)
  (Bf:zK K mainGlobals "_law_far" = some (some (.ref DC))) (BA:aX K "_law_far" "_law_far" CA DC BT)
  (AI:zK K mainGlobals "_law_rooms" = some (some (.ref CK))) (A5:aX K "_law_rooms" "_law_rooms" wf CK Bu)
  (AV:zK K mainGlobals "_law_step" = some (some (.ref C5))) (Bl:aX K "_law_step" "_law_step" wu C5 BF)
  (Aq:zK K mainGlobals "_law_meetings" = some (some (.ref Cb))) (Ax:aX K "_law_meetings" "_law_meetings" xO Cb AD)
  (AZ:zK K mainGlobals "_law_book" = some (some (.ref C9))) (Bp:aX K "_law_book" "_law_book" BY C9 BJ)
  (AT:zK K mainGlobals "_law_time" = some (some (.ref C3))) (Bi:aX K "_law_time" "_law_time" wH C3 BD)
  (AH:zK K mainGlobals "_law_whole" = some (some (.ref CJ))) (A4:aX K "_law_whole" "_law_whole" Cz CJ Bt)
  (Bd:zK K mainGlobals "is_whole" = some (some (.ref DA))) (By:aX K "is_whole" "is_whole" Du DA BR)
  (Be:zK K mainGlobals "is_count" = some (some (.ref DB))) (Bz:aX K "is_count" "is_count" Dv DB BS)
  (AG:zK K mainGlobals "are_counts" = some (some (.ref CI))) (A3:aX K "are_counts" "are_counts" Cc CI Bs)
  (BK:zK K mainGlobals "by_time" = some (some (.ref Em))) (BW:aX K "by_time" "by_time" De Em Ce)
  (Db:zK K mainGlobals "ways" = some (some (.ref Hk))) (DE:aX K "ways" "ways" Ek Hk Eo)
  (Ca:zK K mainGlobals "all_of" = some (some (.ref EZ))) (Cp:aX K "all_of" "all_of" EM EZ Cy)
  (Ar:zK K mainGlobals "without_wish" = some (some (.ref Cm))) (AB:aX K "without_wish" "without_wish" Ck Cm AQ)
  (BZ:zK K mainGlobals "splits" = some (some (.ref EY))) (Co:aX K "splits" "splits" DN EY Cw)
  (AF:zK K mainGlobals "is_stretch" = some (some (.ref CH))) (A2:aX K "is_stretch" "is_stretch" qB CH Br)
  (Aj:zK K mainGlobals "has_prices_form" = some (some (.ref BO))) (Ao:aX K "has_prices_form" "has_prices_form" wJ BO Av)
  (Ah:zK K mainGlobals "is_nothing_free" = some (some (.ref BM))) (Am:aX K "is_nothing_free" "is_nothing_free" wY BM At)
  (Ak:zK K mainGlobals "are_wishes_free" = some (some (.ref BP))) (Ap:aX K "are_wishes_free" "are_wishes_free" xq BP Aw)
  (Ai:zK K mainGlobals "is_keeping_free" = some (some (.ref BN))) (An:aX K "is_keeping_free" "is_keeping_free" xt BN Au)
  (Af:zK K mainGlobals "is_giving_one_more" = some (some (.ref Bc))) (Ag:aX K "is_giving_one_more" "is_giving_one_more" xZ Bc Al)
  (AE:zK K mainGlobals "price_told" = some (some (.ref CG))) (A0:aX K "price_told" "price_told" wg CG Bq)
  (BL:zK K mainGlobals "_law_by" = some (some (.ref En))) (BX:aX K "_law_by" "_law_by" Df En Cf)
  (Ay:zK K mainGlobals "_law_wishes" = some (some (.ref Cs))) (AM:aX K "_law_wishes" "_law_wishes" wW Cs A9)
  (AA:zK K mainGlobals "_law_priced" = some (some (.ref Cu))) (AO:aX K "_law_priced" "_law_priced" wM Cu Bb)
  (AW:zK K mainGlobals "_law_outs" = some (some (.ref C6))) (Bm:aX K "_law_outs" "_law_outs" wv C6 BG)
  (AL:zK K mainGlobals "_law_gives" = some (some (.ref CN))) (A8:aX K "_law_gives" "_law_gives" Cd CN Bx)
  (AK:zK K mainGlobals "_law_links" = some (some (.ref CM))) (A7:aX K "_law_links" "_law_links" wK CM Bw)
  (AY:zK K mainGlobals "_law_hops" = some (some (.ref C8))) (Bo:aX K "_law_hops" "_law_hops" xm C8 BI)
  (AX:zK K mainGlobals "_law_most" = some (some (.ref C7))) (Bn:aX K "_law_most" "_law_most" Cr C7 BH)
  (Az:zK K mainGlobals "_law_prices" = some (some (.ref Ct))) (AN:aX K "_law_prices" "_law_prices" xV Ct Ba)
  (AS:zK K mainGlobals "_law_with" = some (some (.ref C1))) (Bh:aX K "_law_with" "_law_with" Cq C1 BC)
  (As:zK K mainGlobals "_law_strange" = some (some (.ref Cn))) (AC:aX K "_law_strange" "_law_strange" xS Cn AR)
  (Bg:zK K mainGlobals "_law_due" = some (some (.ref DD))) (BB:aX K "_law_due" "_law_due" Cl DD BU)
  (Ee:zK K mainGlobals "law" = some (some (.ref Ih))) (EC:aX K "law" "law" qC Ih FM)
  (z_all:zK K mainGlobals "all" = some none)
  (z_any:zK K mainGlobals "any" = some none)
  (z_bool:zK K mainGlobals "bool" = some none)
  (z_enumerate:zK K mainGlobals "enumerate" = some none)
  (z_int:zK K mainGlobals "int" = some none)
  (z_isinstance:zK K mainGlobals "isinstance" = some none)
  (z_len:zK K mainGlobals "len" = some none)
  (z_list:zK K mainGlobals "list" = some none)
  (z_max:zK K mainGlobals "max" = some none)
  (z_min:zK K mainGlobals "min" = some none)
  (z_range:zK K mainGlobals "range" = some none)
  (z_reversed:zK K mainGlobals "reversed" = some none)
  (z_sorted:zK K mainGlobals "sorted" = some none)
  (z_tuple:zK K mainGlobals "tuple" = some none)
  (z_zip:zK K mainGlobals "zip" = some none) :
  ∃ fd:FuncData,(∀ (s:Shared) (v:Value),BindsTo s fd ⟨[v],[]⟩ [("_law_script", v)])/\∀ base:Heap,K.In base->base.Ns mainGlobals mg->aR l.prog w K mg base cO 7 fa fd ["_law_script"] (pF K):=by
 have e:=WY.symm.trans (zR X G Ee);cases e;have Gq:=A6.binds (ps:=["_law_script", "_law_k"]) λ_ _ _ _ _ _ us hl=>ID hl λ_ _=>rfl;have GX:=Bj.binds (ps:=["_law_purse_here", "_law_many"]) λ_ _ _ _ _ _ us hl=>ID hl λ_ _=>rfl;have Hn:=BA.binds (ps:=["_law_purse_here"]) λ_ _ _ _ _ _ us hl=>se hl λ_=>rfl;have Gp:=A5.binds (ps:=["_law_purse_here", "_law_walkers"]) λ_ _ _ _ _ _ us hl=>ID hl λ_ _=>rfl;have GY:=Bl.binds (ps:=["_law_purse_here"]) λ_ _ _ _ _ _ us hl=>se hl λ_=>rfl;have EI:=Ax.binds (ps:=["_law_purse_here", "_law_walkers", "_law_most_here"]) λ_ _ _ _ _ _ us hl=>qh hl λ_ _ _=>rfl;have G2:=Bp.binds (ps:=["_law_purse_here", "_law_most_walkers", "_law_most_meetings"]) λ_ _ _ _ _ _ us hl=>qh hl λ_ _ _=>rfl;have GW:=Bi.binds (ps:=["_law_purse_here", "_law_book_here", "_law_later"]) λ_ _ _ _ _ _ us hl=>qh hl λ_ _ _=>rfl;have Gn:=A4.binds (ps:=["_law_thing"]) λ_ _ _ _ _ _ us hl=>se hl λ_=>rfl;have Hl:=By.binds (ps:=["thing"]) λ_ _ _ _ _ _ us hl=>se hl λ_=>rfl;have Hm:=Bz.binds (ps:=["thing"]) λ_ _ _ _ _ _ us hl=>se hl λ_=>rfl;have Gm:=A3.binds (ps:=["thing", "size"]) λ_ _ _ _ _ _ us hl=>ID hl λ_ _=>rfl;have Hw:=BW.binds (ps:=["book", "time"]) λ_ _ _ _ _ _ us hl=>ID hl λ_ _=>rfl;have Im:=DE.binds (ps:=["book"]) λ_ _ _ _ _ _ us hl=>se hl λ_=>rfl;have Id:=Cp.binds (ps:=["wishes"]) λ_ _ _ _ _ _ us hl=>se hl λ_=>rfl;have E1:=AB.binds (ps:=["some", "number"]) λ_ _ _ _ _ _ us hl=>ID hl λ_ _=>rfl;have Ic:=Co.binds (ps:=["some"]) λ_ _ _ _ _ _ us hl=>se hl λ_=>rfl;have Gk:=A2.binds (ps:=["book", "wishes", "thing"]) λ_ _ _ _ _ _ us hl=>qh hl λ_ _ _=>rfl;have Ec:=Ao.binds (ps:=["book", "wishes", "thing"]) λ_ _ _ _ _ _ us hl=>qh hl λ_ _ _=>rfl;have Ea:=Am.binds (ps:=["prices"]) λ_ _ _ _ _ _ us hl=>se hl λ_=>rfl;have Ed:=Ap.binds (ps:=["book", "wishes", "prices"]) λ_ _ _ _ _ _ us hl=>qh hl λ_ _ _=>rfl;have Eb:=An.binds (ps:=["prices"]) λ_ _ _ _ _ _ us hl=>se hl λ_=>rfl;have Da:=Ag.binds (ps:=["book", "prices"]) λ_ _ _ _ _ _ us hl=>ID hl λ_ _=>rfl;have Gj:=A0.binds (ps:=["book", "sender", "since", "wishes", "thing"]) λ_ _ _ _ _ _ us hl=>SS hl λ_ _ _ _ _=>rfl;have Hy:=BX.binds (ps:=["_law_book_here", "_law_time_here"]) λ_ _ _ _ _ _ us hl=>ID hl λ_ _=>rfl;have Fm:=AM.binds (ps:=["_law_purse_here", "_law_book_here", "_law_most_here"]) λ_ _ _ _ _ _ us hl=>qh hl λ_ _ _=>rfl;have Fp:=AO.binds (ps:=["_law_book_here", "_law_wishes_here", "_law_prices_here"]) λ_ _ _ _ _ _ us hl=>qh hl λ_ _ _=>rfl;have GZ:=Bm.binds (ps:=["_law_book_here", "_law_wishes_here", "_law_prices_here"]) λ_ _ _ _ _ _ us hl=>qh hl λ_ _ _=>rfl;have Gs:=A8.binds (ps:=["_law_now", "_law_kept", "_law_given"]) λ_ _ _ _ _ _ us hl=>qh hl λ_ _ _=>rfl;have Gr:=A7.binds (ps:=["_law_book_here", "_law_prices_here"]) λ_ _ _ _ _ _ us hl=>ID hl λ_ _=>rfl;have G1:=Bo.binds (ps:=["_law_book_here", "_law_wish", "_law_far_here"]) λ_ _ _ _ _ _ us hl=>qh hl λ_ _ _=>rfl;have G0:=Bn.binds (ps:=["_law_hops_here", "_law_at", "_law_walker", "_law_wished"]) λ_ _ _ _ _ _ us hl=>SV hl λ_ _ _ _=>rfl;have Fo:=AN.binds (ps:=["_law_purse_here", "_law_book_here", "_law_wishes_here"]) λ_ _ _ _ _ _ us hl=>qh hl λ_ _ _=>rfl;have GV:=Bh.binds (ps:=["_law_prices_here", "_law_at", "_law_walker", "_law_some"]) λ_ _ _ _ _ _ us hl=>SV hl λ_ _ _ _=>rfl;have E2:=AC.binds (ps:=["_law_purse_here", "_law_book_here", "_law_prices_here"]) λ_ _ _ _ _ _ us hl=>qh hl λ_ _ _=>rfl;have Ho:=BB.binds (ps:=["_law_book_here", "_law_sender", "_law_since", "_law_wishes_here", "_law_prices_here"]) λ_ _ _ _ _ _ us hl=>SS hl λ_ _ _ _ _=>rfl;have Ip:=EC.binds (ps:=["_law_script"]) λ_ _ _ _ _ _ us hl=>se hl λ_=>rfl;have T:Tx K mg ⟨CL,Bv,C4,BE,DC,BT,CK,Bu,C5,BF,Cb,AD,C9,BJ,C3,BD,CJ,Bt,DA,BR,DB,BS,CI,Bs,Em,Ce,Hk,Eo,EZ,Cy,Cm,AQ,EY,Cw,CH,Br,BO,Av,BM,At,BP,Aw,BN,Au,Bc,Al,CG,Bq,En,Cf,Cs,A9,Cu,Bb,C6,BG,CN,Bx,CM,Bw,C8,BI,C7,BH,Ct,Ba,C1,BC,Cn,AR,DD,BU,fa,FM⟩:=⟨A6,Gq,zR X G AJ,A6.kp,Bj,GX,zR X G AU,Bj.kp,BA,Hn,zR X G Bf,BA.kp,A5,Gp,zR X G AI,A5.kp,Bl,GY,zR X G AV,Bl.kp,Ax,EI,zR X G Aq,Ax.kp,Bp,G2,zR X G AZ,Bp.kp,Bi,GW,zR X G AT,Bi.kp,A4,Gn,zR X G AH,A4.kp,By,Hl,zR X G Bd,By.kp,Bz,Hm,zR X G Be,Bz.kp,A3,Gm,zR X G AG,A3.kp,BW,Hw,zR X G BK,BW.kp,DE,Im,zR X G Db,DE.kp,Cp,Id,zR X G Ca,Cp.kp,AB,E1,zR X G Ar,AB.kp,Co,Ic,zR X G BZ,Co.kp,A2,Gk,zR X G AF,A2.kp,Ao,Ec,zR X G Aj,Ao.kp,Am,Ea,zR X G Ah,Am.kp,Ap,Ed,zR X G Ak,Ap.kp,An,Eb,zR X G Ai,An.kp,Ag,Da,zR X G Af,Ag.kp,A0,Gj,zR X G AE,A0.kp,BX,Hy,zR X G BL,BX.kp,AM,Fm,zR X G Ay,AM.kp,AO,Fp,zR X G AA,AO.kp,Bm,GZ,zR X G AW,Bm.kp,A8,Gs,zR X G AL,A8.kp,A7,Gr,zR X G AK,A7.kp,Bo,G1,zR X G AY,Bo.kp,Bn,G0,zR X G AX,Bn.kp,AN,Fo,zR X G Az,AN.kp,Bh,GV,zR X G AS,Bh.kp,AC,E2,zR X G As,AC.kp,BB,Ho,zR X G Bg,BB.kp,EC,Ip,zR X G Ee,EC.kp,zg X G z_all,zg X G z_any,zg X G z_bool,zg X G z_enumerate,zg X G z_int,zg X G z_isinstance,zg X G z_len,zg X G z_list,zg X G z_max,zg X G z_min,zg X G z_range,zg X G z_reversed,zg X G z_sorted,zg X G z_tuple,zg X G z_zip⟩;obtain ⟨_,_,_,_,_,_,_,_,_,rfl,_,_⟩:=EC.ex;exact ⟨_,λs v=>.of_eq rfl,λbase _ _=>Ii _ _ base T⟩
theorem walk {l:PySem.W.OpenLaw}{q:Program}{loose:List Str}{XP:(Str->Option Value)->Heap->Prop}{YP:World->Heap->Prop}{d:DefRec}{K:Params->PySem.W.Frag}(hn:l.most=some 63)(N1:d.params.defaults=[])
  (hY:∀ (w:World) (h:Heap),YP w h->(K w.params).In h)
  (F:∀ (w:World) (mg:Str->Option Value) (fa:Addr) (h:Heap),(K w.params).In h->h.Ns mainGlobals mg->mg d.name=some (.ref fa) ->
   ∃ fd:FuncData,(∀ (s:Shared) (u:Value),BindsTo s fd ⟨[u],[]⟩ [("_law_script", u)])/\∀ base:Heap,(K w.params).In base->base.Ns mainGlobals mg->aR l.prog w (K w.params) mg base cO 7 fa fd ["_law_script"] (pF (K w.params))) :
  PySem.W.WalkO q loose XP YP l.row.toRowW d [] (λf vs=>PySem.call f vs):=
 L2.Iz (n:=63) (k:=7) (x := "_law_script") (CX:=λ_=>cO) (sp:=λw=>pF (K w.params)) hn (by decide) N1 ⟨rfl,by decide,by decide,rfl⟩ hY F (λ_ _ a ns hl _ hS=>⟨a,ns,rfl,hS,hl,λ_=>rfl⟩) λ_ _ _ _ _ z=>z
end Sm
namespace PySem.W.Fast
def tw14128462958645361453:Nat:=0
def tw3694055527500514626:Nat:=0
def tw15096848387745703592:Nat:=0
def tw1925739616268474340:Nat:=0
def tw4009998362335985663:Nat:=0
def tw10241875196192544120:Nat:=0
def tw16046792655566835769:Nat:=0
def tw4676052917869207371:Nat:=0
def tw6397014641909954284:Nat:=0
def tw527524676038703197:Nat:=0
def tw7976465297830496450:Nat:=0
def tw794428271795260774:Nat:=0
def tw15229585658150207098:Nat:=0
def tw1579908489233688824:Nat:=0
def tw11095319181225183851:Nat:=0
def tw3863819645545026636:Nat:=0
def tw2418107368962871658:Nat:=0
def tw10883701510991088573:Nat:=0
def tw6983292561955690057:Nat:=0
def tw1082424193763339087:Nat:=0
def tw4929092485499109400:Nat:=0
def tw7988532477068029338:Nat:=0
def tw2143893440693112265:Nat:=0
def tw2030507990194120363:Nat:=0
def tw6175879434594546767:Nat:=0
def tw7680239580451864043:Nat:=0
def tw6041515830969235760:Nat:=0
def tw14427690461519714737:Nat:=0
def tw15108603499675244565:Nat:=0
def tw16560350018800300694:Nat:=0
def tw10956646458401796212:Nat:=0
def tw16825829048233304174:Nat:=0
def tw9970368993612884880:Nat:=0
def tw13266512656617956908:Nat:=0
def tw630057268338703320:Nat:=0
def tw5959704861597671585:Nat:=0
def tw16385872958116745025:Nat:=0
def tw17951414308616626618:Nat:=0
def tw17390155440968870512:Nat:=0
def tw9400507389358935773:Nat:=0
def tw6810783668146976803:Nat:=0
def tw10488287271797147069:Nat:=0
def tw9826972765953675027:Nat:=0
def tw7483872856531130798:Nat:=0
def tw4444280415433788206:Nat:=0
def tw2426515895897710744:Nat:=0
def tw15893249449665743924:Nat:=0
def tw3573391403635108075:Nat:=0
def tw17763291521360736713:Nat:=0
def tw11153558011069081862:Nat:=0
def tw10945388038458501002:Nat:=0
def tw14155769667060341491:Nat:=0
def tw11241252480497439768:Nat:=0
def tw11401371647709231278:Nat:=0
def tw992071817550241:Nat:=0
def tw1047908292162480690:Nat:=0
def tw7723666648239720727:Nat:=0
def tw4839223254275502183:Nat:=0
def tw13828052133834720364:Nat:=0
def tw8024696666964881995:Nat:=0
def tw11563365190326573068:Nat:=0
def tw2356106713522679781:Nat:=0
def tw2823805779180902995:Nat:=0
def tw13068995110418108736:Nat:=0
def tw3948755477278946154:Nat:=0
def tw9211787102784387147:Nat:=0
def tw9850972399808353259:Nat:=0
def tw6467903165210627504:Nat:=0
def tw7523717886693759849:Nat:=0
def tw9374284001341929408:Nat:=0
def tw4519562813933976378:Nat:=0
def tw15088764182742952616:Nat:=0
def tw11241267668359022178:Nat:=0
def tw2599057150423870825:Nat:=0
def tw8593189824356257945:Nat:=0
def tw10955814519597192518:Nat:=0
def tw6688660197406192480:Nat:=0
def tw6460613102264187442:Nat:=0
def tw5561510867977963205:Nat:=0
def tw16082026538686744862:Nat:=0
def tw4082266492514651237:Nat:=0
def tw5010358872932058883:Nat:=0
def tw14436664029240578190:Nat:=0
def tw10272851419417459419:Nat:=0
def tw3017779494178461456:Nat:=0
def tw1786524711908406717:Nat:=0
def tw15895290655214400123:Nat:=0
def tw10822518969962753209:Nat:=0
def tw15419829261315433606:Nat:=0
def tw13471669982314045894:Nat:=0
def tw13534899407794791709:Nat:=0
def tw16768680799790638604:Nat:=0
def tw7688480958033741558:Nat:=0
def tw877480991809894517:Nat:=0
def tw16610665725162402895:Nat:=0
def tw13187275269366457889:Nat:=0
def tw4436431841752045207:Nat:=0
def tw5512844095863130139:Nat:=0
def tw1836989734841017240:Nat:=0
def tw8612539811026621035:Nat:=0
def tw15243632004937781573:Nat:=0
def tw512445926791193503:Nat:=0
def tw5541839507351035893:Nat:=0
def tw13545301276732095209:Nat:=0
def tw10556940791072450371:Nat:=0
def tw11856527565494761758:Nat:=0
def tw7999331246767113093:Nat:=0
def tw3732528208889909274:Nat:=0
def tw14675272803312731292:Nat:=0
def tw16831089753889331966:Nat:=0
def tw5662718965949590186:Nat:=0
end PySem.W.Fast
open PySem PySem.W PyProof.Rows
set_option maxRecDepth 100000 in
set_option maxHeartbeats 0 in
theorem PySem.Challenge.cw_satchelmeet_k60_prices_judged_holds : PySem.Challenge.rw_satchelmeet_k60_prices_judged.Holds := by
 w_on;o_law;k_head;(case hw=>w_witness2)
 k_fill
 refine Sm.walk (l:=PySem.Challenge.rw_satchelmeet_k60_prices_judged) rfl rfl (λw h Y=>PySem.W.kIn_of Y) ?F
 case F=>
  intro w mg fa h KX G hmg
  refine' Sm.all_mk KX G hmg ?AJ ?A6 ?AU ?Bj ?Bf ?BA ?AI ?A5 ?AV ?Bl ?Aq ?Ax ?AZ ?Bp ?AT ?Bi ?AH ?A4 ?Bd ?By ?Be ?Bz ?AG ?A3 ?BK ?BW ?Db ?DE ?Ca ?Cp ?Ar ?AB ?BZ ?Co ?AF ?A2 ?Aj ?Ao ?Ah ?Am ?Ak ?Ap ?Ai ?An ?Af ?Ag ?AE ?A0 ?BL ?BX ?Ay ?AM ?AA ?AO ?AW ?Bm ?AL ?A8 ?AK ?A7 ?AY ?Bo ?AX ?Bn ?Az ?AN ?AS ?Bh ?As ?AC ?Bg ?BB ?Ee ?EC ?z_all ?z_any ?z_bool ?z_enumerate ?z_int ?z_isinstance ?z_len ?z_list ?z_max ?z_min ?z_range ?z_reversed ?z_sorted ?z_tuple ?z_zip
  (case AJ=>k_is)
  (case A6=>refine' L2.fun_mk ?x1 ?y1 ?z1;(case x1=>k_is);(case y1=>k_is);(case z1=>k_is))
  (case AU=>k_is)
  (case Bj=>refine' L2.fun_mk ?x3 ?y3 ?z3;(case x3=>k_is);(case y3=>k_is);(case z3=>k_is))
  (case Bf=>k_is)
  (case BA=>refine' L2.fun_mk ?x5 ?y5 ?z5;(case x5=>k_is);(case y5=>k_is);(case z5=>k_is))
  (case AI=>k_is)
  (case A5=>refine' L2.fun_mk ?x7 ?y7 ?z7;(case x7=>k_is);(case y7=>k_is);(case z7=>k_is))
  (case AV=>k_is)
  (case Bl=>refine' L2.fun_mk ?x9 ?y9 ?z9;(case x9=>k_is);(case y9=>k_is);(case z9=>k_is))
  (case Aq=>k_is)
  (case Ax=>refine' L2.fun_mk ?x11 ?y11 ?z11;(case x11=>k_is);(case y11=>k_is);(case z11=>k_is))
  (case AZ=>k_is)
  (case Bp=>refine' L2.fun_mk ?x13 ?y13 ?z13;(case x13=>k_is);(case y13=>k_is);(case z13=>k_is))
  (case AT=>k_is)
  (case Bi=>refine' L2.fun_mk ?x15 ?y15 ?z15;(case x15=>k_is);(case y15=>k_is);(case z15=>k_is))
  (case AH=>k_is)
  (case A4=>refine' L2.fun_mk ?x17 ?y17 ?z17;(case x17=>k_is);(case y17=>k_is);(case z17=>k_is))
  (case Bd=>k_is)
  (case By=>refine' L2.fun_mk ?x19 ?y19 ?z19;(case x19=>k_is);(case y19=>k_is);(case z19=>k_is))
  (case Be=>k_is)
  (case Bz=>refine' L2.fun_mk ?x21 ?y21 ?z21;(case x21=>k_is);(case y21=>k_is);(case z21=>k_is))
  (case AG=>k_is)
  (case A3=>refine' L2.fun_mk ?x23 ?y23 ?z23;(case x23=>k_is);(case y23=>k_is);(case z23=>k_is))
  (case BK=>k_is)
  (case BW=>refine' L2.fun_mk ?x25 ?y25 ?z25;(case x25=>k_is);(case y25=>k_is);(case z25=>k_is))
  (case Db=>k_is)
  (case DE=>refine' L2.fun_mk ?x27 ?y27 ?z27;(case x27=>k_is);(case y27=>k_is);(case z27=>k_is))
  (case Ca=>k_is)
  (case Cp=>refine' L2.fun_mk ?x29 ?y29 ?z29;(case x29=>k_is);(case y29=>k_is);(case z29=>k_is))
  (case Ar=>k_is)
  (case AB=>refine' L2.fun_mk ?x31 ?y31 ?z31;(case x31=>k_is);(case y31=>k_is);(case z31=>k_is))
  (case BZ=>k_is)
  (case Co=>refine' L2.fun_mk ?x33 ?y33 ?z33;(case x33=>k_is);(case y33=>k_is);(case z33=>k_is))
  (case AF=>k_is)
  (case A2=>refine' L2.fun_mk ?x35 ?y35 ?z35;(case x35=>k_is);(case y35=>k_is);(case z35=>k_is))
  (case Aj=>k_is)
  (case Ao=>refine' L2.fun_mk ?x37 ?y37 ?z37;(case x37=>k_is);(case y37=>k_is);(case z37=>k_is))
  (case Ah=>k_is)
  (case Am=>refine' L2.fun_mk ?x39 ?y39 ?z39;(case x39=>k_is);(case y39=>k_is);(case z39=>k_is))
  (case Ak=>k_is)
  (case Ap=>refine' L2.fun_mk ?x41 ?y41 ?z41;(case x41=>k_is);(case y41=>k_is);(case z41=>k_is))
  (case Ai=>k_is)
  (case An=>refine' L2.fun_mk ?x43 ?y43 ?z43;(case x43=>k_is);(case y43=>k_is);(case z43=>k_is))
  (case Af=>k_is)
  (case Ag=>refine' L2.fun_mk ?x45 ?y45 ?z45;(case x45=>k_is);(case y45=>k_is);(case z45=>k_is))
  (case AE=>k_is)
  (case A0=>refine' L2.fun_mk ?x47 ?y47 ?z47;(case x47=>k_is);(case y47=>k_is);(case z47=>k_is))
  (case BL=>k_is)
  (case BX=>refine' L2.fun_mk ?x49 ?y49 ?z49;(case x49=>k_is);(case y49=>k_is);(case z49=>k_is))
  (case Ay=>k_is)
  (case AM=>refine' L2.fun_mk ?x51 ?y51 ?z51;(case x51=>k_is);(case y51=>k_is);(case z51=>k_is))
  (case AA=>k_is)
  (case AO=>refine' L2.fun_mk ?x53 ?y53 ?z53;(case x53=>k_is);(case y53=>k_is);(case z53=>k_is))
  (case AW=>k_is)
  (case Bm=>refine' L2.fun_mk ?x55 ?y55 ?z55;(case x55=>k_is);(case y55=>k_is);(case z55=>k_is))
  (case AL=>k_is)
  (case A8=>refine' L2.fun_mk ?x57 ?y57 ?z57;(case x57=>k_is);(case y57=>k_is);(case z57=>k_is))
  (case AK=>k_is)
  (case A7=>refine' L2.fun_mk ?x59 ?y59 ?z59;(case x59=>k_is);(case y59=>k_is);(case z59=>k_is))
  (case AY=>k_is)
  (case Bo=>refine' L2.fun_mk ?x61 ?y61 ?z61;(case x61=>k_is);(case y61=>k_is);(case z61=>k_is))
  (case AX=>k_is)
  (case Bn=>refine' L2.fun_mk ?x63 ?y63 ?z63;(case x63=>k_is);(case y63=>k_is);(case z63=>k_is))
  (case Az=>k_is)
  (case AN=>refine' L2.fun_mk ?x65 ?y65 ?z65;(case x65=>k_is);(case y65=>k_is);(case z65=>k_is))
  (case AS=>k_is)
  (case Bh=>refine' L2.fun_mk ?x67 ?y67 ?z67;(case x67=>k_is);(case y67=>k_is);(case z67=>k_is))
  (case As=>k_is)
  (case AC=>refine' L2.fun_mk ?x69 ?y69 ?z69;(case x69=>k_is);(case y69=>k_is);(case z69=>k_is))
  (case Bg=>k_is)
  (case BB=>refine' L2.fun_mk ?x71 ?y71 ?z71;(case x71=>k_is);(case y71=>k_is);(case z71=>k_is))
  (case Ee=>k_is)
  (case EC=>refine' L2.fun_mk ?x73 ?y73 ?z73;(case x73=>k_is);(case y73=>k_is);(case z73=>k_is))
  (case z_all=>k_is)
  (case z_any=>k_is)
  (case z_bool=>k_is)
  (case z_enumerate=>k_is)
  (case z_int=>k_is)
  (case z_isinstance=>k_is)
  (case z_len=>k_is)
  (case z_list=>k_is)
  (case z_max=>k_is)
  (case z_min=>k_is)
  (case z_range=>k_is)
  (case z_reversed=>k_is)
  (case z_sorted=>k_is)
  (case z_tuple=>k_is)
  (case z_zip=>k_is)

