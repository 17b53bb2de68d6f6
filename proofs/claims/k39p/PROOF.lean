import PyProof.Rows.All
import Wide.All
import OpenK.AllK
import Wide.FinOn
import Lean
import PyProof.EqAt
import PyProof.EqKinds
import PyProof.TupleCall
import KE.KDictOf
import PyProof.AttrMissHeap
import PyProof.StrWalks
import PyProof.StrBlockI
import PyProof.FString5
import PyProof.SetRoads
import PyProof.SetNew
import PyProof.TupleKey
import PyProof.InstEq
import PySem.SetOps
import PyProof.Rows.SetFrom
import KE.KTryMore
import PyProof.NsDelKeeps
import KE.KIsAll
import KE.KItemsList
import KE.KSortTup
import KE.KDictSum
import KE.KLam
import KE.KNestM
import KE.KSortTup
import PySem.Challenge.RW_satchelmeet_k39_whole_no_plan_beats_a_cu
open List renaming length_map → zA,mem_of_getElem? → zB,getElem?_eq_getElem → zC,map_append → zD,mem_append_right → zE,getElem?_map → zF,getD_eq_getElem?_getD → zG,getElem?_eq_some_iff → zH,mem_cons → zJ,mem_singleton → zK,not_mem_nil → zN,length_append → zO,length_take → zR,take_length → zS,size_toArray → zT,mem_cons_of_mem → zU,mem_append → zV,map_cons → zY,mem_cons_self → za,all_eq_true → zc,mem_map → zd,length_cons → zk,map_map → zp,length_set → zt,sum_append → zu,getElem?_zip_eq_some → zz,getElem_mem → z4,getElem?_of_mem → yA,sum_cons → yB,getElem?_append_right → yC,mem_append_left → yD,filter_append → yF,mem_range → yG,getElem?_append_left → yJ,append_nil → yK,lookup_cons → yL,length_filter_le → yN,mem_or_eq_of_mem_set → yP,map_set → yQ,getElem?_eq_none → yR,getElem?_replicate → yT,filter_cons_of_neg → yU,filter_cons_of_pos → yV,getElem?_set_ne → yW,getElem?_set_self → yY,replicate_succ → ya,length_replicate → yb,length_nil → yf,length_zip → yg,length_drop → yh,zip_cons_cons → ym,map_nil → yn,getElem?_cons_succ → yq,all_cons → yr,cons_append → yt,mem_filterMap → yu,getElem?_drop → yx,length_singleton → xA,flatten_cons → xD,mem_of_mem_drop → xE,filterMap_cons → xF,map_congr_left → xG,getElem_of_mem → xI,drop_length → xJ,range_succ → xL,append_assoc → xM,length_range → xO,filter_cons → xT,all_map → xV,nodup_cons → xX
open Nat renaming le_refl → zI,ne_of_lt → zW,lt_of_lt_of_le → ze,le_trans → zj,zero_le → zo,lt_irrefl → yH,not_lt_zero → yO,ne_of_gt → yS,lt_succ_iff → yk,lt_succ_of_lt → yp,le_of_lt → xC,le_of_not_lt → xQ,lt_succ_self → xR,le_add_right → xS,min_self → xU,le_succ → xY
open PySem.W renaming nsIn → zL,keepIn → zM,mg_of → zP,mg_none_of → zy,kia_one → yX,fnOf → xZ
open Bool renaming false_ne_true → zQ,true_and → zZ,and_eq_true → zb,false_eq_true → zg,false_and → yo,not_false → yy,and_false → xP,not_true → xW
open PyProof.Rows renaming boot_isinstance → zX,boot_all → yI,callWith_type1 → yM,boot_list → yZ,boot_sum → yc,boot_tuple → yj,boot_min → yl,boot_int → xB
open PySem renaming mem_of_lookup → zh,list_append → xN
open Int renaming eq_ofNat_of_zero_le → zn,zero_add → zq,toNat_natCast → zx,le_refl → yE,emod_lt_of_pos → yw,natCast_nonneg → yz,toNat_of_nonneg → xH,emod_nonneg → xK
open PySem.F renaming slot_list_append → yd,type_list_append → ye,plainAttrs_list → yi
set_option Elab.async false
set_option linter.all false
set_option maxRecDepth 100000
set_option maxHeartbeats 4000000
namespace L2
open PySem PySem.Spec PyProof.Rows
abbrev Key:=Sum Int Str
def nv:Key->Value->Bool
 | .inl k,v=>Value.isInt k v
 | .inr x,v=>Value.isStrOf x v
def abF (w:World):Key->Int
 | .inl k=>hashInt k
 | .inr x=>hashStr w x
theorem qH:∀ {k:Key}{v:Value},nv k v=true->(∃ i t,k=Sum.inl i/\v=Value.int i t)\/(∃ x t,k=Sum.inr x/\v=Value.str x t)
 | .inl i,v,h=>by
  obtain ⟨t,e⟩:=Value.isInt_shape (k:=i) (v:=v) h;exact .inl ⟨i,t,rfl,e⟩
 | .inr x,v,h=>by
  obtain ⟨t,e⟩:=Value.isStrOf_shape (x:=x) (v:=v) h;exact .inr ⟨x,t,rfl,e⟩
theorem L5 (i:Int)(t:Tok):nv (.inl i) (.int i t)=true:=by simp [nv,Value.isInt]
theorem L3 (x:Str)(t:Tok):nv (.inr x) (.str x t)=true:=by simp [nv,Value.isStrOf]
theorem TY (a b:Int):decide ((Sum.inl a:Key)=Sum.inl b)=(a == b):=by
 by_cases e:a=b
 ·subst e;simp
 ·have h:¬ (Sum.inl a:Key)=Sum.inl b:=λq=>e (Sum.inl.inj q);rw [decide_eq_false h];exact (beq_eq_false_iff_ne.mpr e).symm
theorem TR (a b:Str):decide ((Sum.inr a:Key)=Sum.inr b)=decide (a=b):=by
 by_cases e:a=b
 ·subst e;simp
 ·have h:¬ (Sum.inr a:Key)=Sum.inr b:=λq=>e (Sum.inr.inj q);rw [decide_eq_false h,decide_eq_false e]
theorem TX (a:Int)(b:Str):decide ((Sum.inl a:Key)=Sum.inr b)=false:=decide_eq_false (λq=>nomatch q)
theorem TU (a:Str)(b:Int):decide ((Sum.inr a:Key)=Sum.inl b)=false:=decide_eq_false (λq=>nomatch q)
def cB (prog:Program)(w:World):PySem.KeyKind prog w Key where
 is:=nv
 hash:=abF w
 inj:=λv a b ha hb=>by
  rcases qH ha with ⟨i,t,rfl,rfl⟩ | ⟨x,t,rfl,rfl⟩
  ·rcases qH hb with ⟨j,u,rfl,e⟩ | ⟨y,u,rfl,e⟩
   ·injection e with e1 _;rw [e1]
   ·exact nomatch e
  ·rcases qH hb with ⟨j,u,rfl,e⟩ | ⟨y,u,rfl,e⟩
   ·exact nomatch e
   ·injection e with e1 _;rw [e1]
 byValue:=λk v h=>by
  rcases qH h with ⟨i,t,rfl,rfl⟩ | ⟨x,t,rfl,rfl⟩ <;> rfl
 pyHash:=λhv h=>by
  rcases qH hv with ⟨i,t,rfl,rfl⟩ | ⟨x,t,rfl,rfl⟩
  ·exact wpAny_pyHash_int h
  ·exact wpAny_pyHash_str h
 eqBool:=λhu hv h=>by
  rcases qH hu with ⟨i,t,rfl,rfl⟩ | ⟨x,t,rfl,rfl⟩
  ·rcases qH hv with ⟨j,u,rfl,rfl⟩ | ⟨y,u,rfl,rfl⟩
   ·rw [TY] at h;exact wpAny_eqBool_int h
   ·rw [TX] at h;exact SeqAt.EqAt.int_str i t y u _ _ _ _ h
  ·rcases qH hv with ⟨j,u,rfl,rfl⟩ | ⟨y,u,rfl,rfl⟩
   ·rw [TU] at h;exact SeqAt.EqAt.str_int x t j u _ _ _ _ h
   ·rw [TR] at h;exact wpAny_eqBool_str h
 «strs»:=λk x t v h=>by
  rcases qH h with ⟨i,u,rfl,e⟩ | ⟨y,u,rfl,e⟩
  ·exact nomatch e
  ·injection e with e1 _
   subst e1;cases v <;> rfl
theorem rZ (prog:Program)(w:World)(i:Int)(t:Tok):(cB prog w).is (.inl i) (.int i t)=true:=L5 i t
theorem rY (prog:Program)(w:World)(x:Str)(t:Tok):(cB prog w).is (.inr x) (.str x t)=true:=L3 x t
inductive V where
 | cK | bl (b:Bool) | int (i:Int) | str (x:Str) | MM (b:Array UInt8) | Q4 (b:UInt64) | ref (a:Addr) | ty (n:String)
 deriving DecidableEq
def RelV:V->Value->Prop
 | .cK,u=>u=Value.none
 | .bl b,u=>u=Value.bool b
 | .int i,u=>∃ t,u=Value.int i t
 | .str x,u=>∃ t,u=Value.str x t
 | .MM b,u=>∃ t,u=Value.bytes b t
 | .Q4 b,u=>∃ t,u=Value.float b t
 | .ref a,u=>u=Value.ref a
 | .ty n,u=>u=Value.type n
abbrev Vals:List V->List Value->Prop:=Paired RelV
theorem Vals.length {xs:List V}{us:List Value}(r:Vals xs us):xs.length=us.length:=Paired.length r
theorem Vals.get:∀ {xs:List V}{us:List Value}{i:Nat}{x:V},Vals xs us->xs[i]?=some x->∃ u,us[i]?=some u/\RelV x u
 | _,_,_,_,.nil,e=>by simp at e
 | _,_,0,_,.cons r _,e=>by simp at e;subst e;exact ⟨_,rfl,r⟩
 | _,_,i + 1,x,.cons _ t,e=>by
  obtain ⟨u,h1,h2⟩:=Vals.get (i:=i) (x:=x) t (by simpa using e);exact ⟨u,by simpa using h1,h2⟩
theorem Vals.set {x:V}{u:Value}(r:RelV x u):∀ {xs:List V}{us:List Value} (i:Nat),Vals xs us->Vals (xs.set i x) (us.set i u)
 | _,_,_,.nil=>.nil
 | _,_,0,.cons _ t=>.cons r t
 | _,_,i + 1,.cons q t=>.cons q (Vals.set r i t)
theorem Vals.append:∀ {xs ys:List V}{us ws:List Value},Vals xs us->Vals ys ws->Vals (xs++ys) (us++ws)
 | _,_,_,_,.nil,s=>s
 | _,_,_,_,.cons r t,s=>.cons r (Vals.append t s)
theorem Vals.take:∀ {xs:List V}{us:List Value} (n:Nat),Vals xs us->Vals (xs.take n) (us.take n)
 | _,_,0,_=>.nil
 | _,_,_ + 1,.nil=>.nil
 | _,_,n + 1,.cons r t=>.cons r (Vals.take n t)
theorem Vals.drop:∀ {xs:List V}{us:List Value} (n:Nat),Vals xs us->Vals (xs.drop n) (us.drop n)
 | _,_,0,r=>r
 | _,_,_ + 1,.nil=>.nil
 | _,_,n + 1,.cons _ t=>Vals.drop n t
def UP:Option V->Option Value->Prop
 | some v,some u=>RelV v u
 | none,none=>True
 | _,_=>False
def KV {κ:Type}:List (κ×V)->List (κ×Value)->Prop:=Paired λ(p:κ×V) (q:κ×Value)=>p.1=q.1/\RelV p.2 q.2
def kV:Key->V
 | .inl i=>.int i
 | .inr x=>.str x
inductive HO where
  | lst (xs:List V)
  | tup (xs:List V)
  | dK (iU:List (Key×V)) | dT (iU:List (List Key×V))
  | set (S:Int->Bool) (n:Nat)
  | ins (C dx:Addr) (fs:List (Str×V))
  | own (x:Addr)
  | xd (fs:List (Str×V))
  | met (f x:Addr)
  | Yu (lo hi:Int)
  | sV (o:Obj) (u:HO)
  | Ro (ps:Array Value)
  | ext (φ:Heap->Prop)
abbrev Hp:=Addr->Option HO
def upd (H:Hp)(a:Addr)(o:HO):Hp:=λb=>if b=a then some o else H b
theorem xj {H:Hp}{a:Addr}{o:HO}:upd H a o a=some o:=by unfold upd;rw [if_pos rfl]
theorem xt {H:Hp}{a b:Addr}{o:HO}(h:b≠a):upd H a o b=H b:=by unfold upd;rw [if_neg h]
theorem qy {H:Hp}{a b:Addr}{o u:HO}(h:H a=some o)(h':H b=some u)(d:o≠u):a≠b:=by intro e;subst e;rw [h] at h';exact d (Option.some.inj h')
theorem xk {H:Hp}{a b:Addr}{o:HO}(h:H a=some o)(h':H b=none):a≠b:=by intro e;subst e;rw [h] at h';cases h'
theorem lu {h:Heap}{o:Obj}(hf:o.isFreed=false:=by rfl)(hd:o.dict=none:=by rfl):∀ ob,(h.push o).get? h.objs.size=some ob->ob.dict=none:=λob e=>by
 rw [Heap.get?_push_size h hf] at e;cases e;exact hd
section
variable (P:Program) (w:World)
def bD (H:Hp)(h:Heap)(a:Addr):HO->Prop
 | .lst xs=>xs.length<=sizeLine/\∃ (aA:List Value) (n:Nat),Vals xs aA/\h.get? a=some { cls:=.type "list", data:=.seq aA.toArray n }
 | .tup xs=>(xs.length<=sizeLine/\∀ ob,h.get? a=some ob->ob.dict=none)/\∃ aA:List Value,Vals xs aA/\IsTup h a aA.toArray
 | .dK iU=>iU.length<=sizeLine/\(a == sysModules)=false/\∃ vs,KV iU vs/\h.DictOf (cB P w) a vs
 | .dT iU=>iU.length<=sizeLine/\(a == sysModules)=false/\∃ xs:List (List Key×Addr×Value),
   Paired (λ(p:List Key×V) (q:List Key×Addr×Value)=>p.1=q.1/\H q.2.1=some (.tup (p.1.map kV))/\RelV p.2 q.2.2) iU xs /\
   ∃ o es ep,h.get? a=some o/\o.ExactDict/\o.data=.dict es ep/\es.toList=xs.map (entryOfKey (tupleKind (cB P w)))/\(xs.map (·.1)).Nodup
 | .set S n=>h.SetOf (intKind P w) a S n
 | .ins C dx fs=>H dx=some (.own a)/\fs.length<=1000/\dx≠a/\h.get? a=some (PySem.W.instObj C dx) /\
   ∃ mA,h.Ns1 dx mA/\(∀ f,UP (fs.lookup f) (mA f))/\PySem.Within mA (fs.map (·.1))
 | .own _=>∃ o,h.get? a=some o
 | .xd fs=>∃ mA,h.Ns1 a mA/\∀ f,UP (fs.lookup f) (mA f)
 | .Yu lo hi=>∃ t u v,h.get? a=some { cls:=.type "range", data:=.fields #[.int lo t,.int hi u,.int 1 v] }
 | .sV o u=>h.get? a=some o/\bD H h a u
 | .Ro ps=>h.get? a=some { cls:=.none,data:=.fields ps }
 | .met f x=>h.get? a=some (PySem.W.methodObj (.ref f) (.ref x))
 | .ext φ=>φ h/\(∃ o,h.get? a=some o)/\∀ h1 h2:Heap,φ h1->(∀ o,h1.get? a=some o->h2.get? a=some o)->φ h2
def gY (H:Hp)(h:Heap):Prop:=∀ a o,H a=some o->bD P w H h a o
end
section
variable {P:Program}{w:World}{H H':Hp}{h h':Heap}{a:Addr}{o:HO}
theorem bD.lt (x:bD P w H h a o):a < h.objs.size:=by
 cases o with
 | lst xs=>obtain ⟨_,_,_,_,e⟩:=x;exact Heap.lt_size e
 | tup xs=>obtain ⟨_,_,_,p⟩:=x;exact p.lt
 | dK iU=>obtain ⟨_,_,_,_,o,_,_,e,_⟩:=x;exact Heap.lt_size e
 | dT iU=>obtain ⟨_,_,_,_,o,_,_,e,_⟩:=x;exact Heap.lt_size e
 | set S n=>obtain ⟨o,_,_,_,e,_⟩:=x;exact Heap.lt_size e
 | ins C dx fs=>obtain ⟨_,_,_,e,_⟩:=x;exact Heap.lt_size e
 | own y=>obtain ⟨_,e⟩:=x;exact Heap.lt_size e
 | xd fs=>obtain ⟨_,⟨_,_,_,e,_⟩,_⟩:=x;exact Heap.lt_size e
 | Yu lo hi=>obtain ⟨_,_,_,e⟩:=x;exact Heap.lt_size e
 | sV ob u=>obtain ⟨e,_⟩:=x;exact Heap.lt_size e
 | Ro ps=>exact Heap.lt_size (show h.get? a=some _ from x)
 | met f y=>exact Heap.lt_size (show h.get? a=some _ from x)
 | ext φ=>obtain ⟨_,⟨_,e⟩,_⟩:=x;exact Heap.lt_size e
theorem Paired.Wt {α β:Type}{F G:α->β->Prop}:∀ {Wy:List α}{Wx:List β},Paired F Wy Wx->(∀ a b,F a b->G a b)->Paired G Wy Wx
 | _,_,.nil,_=>.nil
 | _,_,.cons r t,f=>.cons (f _ _ r) (Paired.Wt t f)
theorem bD.fP (x:bD P w H h a o)(k:∀ b u,(b=a\/H b=some (.own a))->h.get? b=some u->h'.get? b=some u)
  (ho:∀ b,H b=some (.own a)->H' b=some (.own a)) (ht:∀ b xs,H b=some (.tup xs)->H' b=some (.tup xs)):bD P w H' h' a o:=by
 induction o with
 | lst xs=>obtain ⟨z,aA,n,r,e⟩:=x;exact ⟨z,aA,n,r,k _ _ (.inl rfl) e⟩
 | tup xs=>obtain ⟨z,aA,r,ob,e,c⟩:=x;exact ⟨⟨z.1,λob' e'=>by rw [k _ _ (.inl rfl) e] at e';cases e';exact z.2 _ e⟩,aA,r,ob,k _ _ (.inl rfl) e,c⟩
 | dK iU=>obtain ⟨z,y,vs,r,ob,es,ep,e,c⟩:=x;exact ⟨z,y,vs,r,ob,es,ep,k _ _ (.inl rfl) e,c⟩
 | dT iU=>
  obtain ⟨z,y,xs,r,ob,es,ep,e,c⟩:=x;exact ⟨z,y,xs,Paired.Wt r λp q z=>⟨z.1,ht _ _ z.2.1,z.2.2⟩,ob,es,ep,k _ _ (.inl rfl) e,c⟩
 | set S n=>obtain ⟨ob,es,ep,t,e,c⟩:=x;exact ⟨ob,es,ep,t,k _ _ (.inl rfl) e,c⟩
 | ins C dx fs=>
  obtain ⟨d,z,ne,e,mA,⟨od,es,ep,e2,c⟩,r⟩:=x;exact ⟨ho _ d,z,ne,k _ _ (.inl rfl) e,mA,⟨od,es,ep,k _ _ (.inr d) e2,c⟩,r⟩
 | own y=>obtain ⟨ob,e⟩:=x;exact ⟨ob,k _ _ (.inl rfl) e⟩
 | xd fs=>obtain ⟨mA,⟨od,es,ep,e,c⟩,r⟩:=x;exact ⟨mA,⟨od,es,ep,k _ _ (.inl rfl) e,c⟩,r⟩
 | Yu lo hi=>obtain ⟨t,u,v,e⟩:=x;exact ⟨t,u,v,k _ _ (.inl rfl) e⟩
 | sV ob u ih=>obtain ⟨e,q⟩:=x;exact ⟨k _ _ (.inl rfl) e,ih q⟩
 | Ro ps=>
  have e:h.get? a=some { cls:=.none,data:=.fields ps }:=x;show h'.get? a=some { cls:=.none,data:=.fields ps };exact k a _ (.inl rfl) e
 | met f y=>
  have e:h.get? a=some (PySem.W.methodObj (.ref f) (.ref y)):=x;show h'.get? a=some (PySem.W.methodObj (.ref f) (.ref y));exact k a _ (.inl rfl) e
 | ext φ=>obtain ⟨p,⟨o,e⟩,st⟩:=x;exact ⟨st _ _ p λo q=>k _ _ (.inl rfl) q,⟨o,k _ _ (.inl rfl) e⟩,st⟩
theorem gY.lt (x:gY P w H h)(e:H a=some o):a < h.objs.size:=(x a o e).lt
theorem gY.fresh (x:gY P w H h)(e:h.objs.size<=a):H a=none:=by
 cases q:H a with
 | none=>rfl
 | some u=>exact absurd (ze (x.lt q) e) (yH _)
theorem gY.kept (x:gY P w H h)(k:∀ b u,h.get? b=some u->h'.get? b=some u):gY P w H h':=λa o e=>
 (x a o e).fP (λb u _ q=>k b u q) (λ_ q=>q) λ_ _ q=>q
theorem gY.laid (x:gY P w H h)(k:∀ b u,h.get? b=some u->h'.get? b=some u)(hp:h.objs.size<=a)(new:bD P w (upd H a o) h' a o):gY P w (upd H a o) h':=λb u e=>by
 have hn:=x.fresh hp;by_cases hb:b=a
 ·subst hb;rw [xj] at e;cases e;exact new
 ·rw [xt hb] at e;exact (x b u e).fP (λc v _ q=>k c v q) (λc q=>by rw [xt (xk q hn)];exact q) λc xs q=>by rw [xt (xk q hn)];exact q
end
def Rd (H:Hp)(a:Addr)(u:HO):Prop:=H a=some u\/∃ o,H a=some (.sV o u)
theorem Rd.ok {P:Program}{w:World}{H:Hp}{h:Heap}{a:Addr}{u:HO}(r:Rd H a u)(x:gY P w H h):bD P w H h a u:=by
 rcases r with r | ⟨o,r⟩
 ·exact x a u r
 ·obtain ⟨_,q⟩:=x a _ r;exact q
def Za:Option HO->Prop
 | some (.lst _)=>True
 | some (.dK _)=>True
 | some (.dT _)=>True
 | some (.set _ _)=>True
 | some (.ins _ _ _)=>True
 | some (.ext _)=>True
 | _=>False
section
variable {P:Program}{w:World}{H:Hp}{h h':Heap}{x e:Addr}{o':HO}
theorem gY.write (ok:gY P w H h)(mu:Za (H x))(he:e=x\/H e=some (.own x))(k:∀ b u,b≠e->h.get? b=some u->h'.get? b=some u)(Vn:∃ u,h'.get? e=some u)
  (new:bD P w (upd H x o') h' x o'):gY P w (upd H x o') h':=λb u q=>by
 have Wf:∀ c y,H c=some (.own y)->c≠x:=λc y r z=>by subst z;rw [r] at mu;exact mu
 have aa1:∀ c xs,H c=some (.tup xs)->c≠x:=λc xs r z=>by subst z;rw [r] at mu;exact mu
 by_cases hb:b=x
 ·subst hb;rw [xj] at q;cases q;exact new
 ·rw [xt hb] at q;by_cases Uo:b=e
  ·have q':H b=some (.own x):=by
    rcases he with z | z
    ·exact absurd (Uo.trans z) hb
    ·rw [Uo];exact z
   rw [q] at q';cases q';obtain ⟨v,hv⟩:=Vn;exact ⟨v,by rw [Uo];exact hv⟩
  ·refine (ok b u q).fP (λc v hc r=>k c v ?_ r) (λc r=>by rw [xt (Wf c b r)];exact r) λc xs r=>by rw [xt (aa1 c xs r)];exact r
   rcases hc with rfl | hc
   ·exact Uo
   ·rintro rfl;rcases he with z | z
    ·exact Wf c b hc z
    ·rw [hc] at z;cases z;exact hb rfl
end
structure Un (fs ex:List Addr) (H H':Hp) (h h':Heap):Prop where
 keep:∀ b o,h.get? b=some o->H b=none->b ∉ fs->b ∉ ex->h'.get? b=some o
 slot:∀ b o,h.get? b=some o->H b=none->b∈fs->b ∉ ex->∃ sl,h'.get? b=some { o with slots:=sl }
 free:∀ b o,h.get? b=some o->H b=none->b ∉ ex->H' b=none
 there:∀ b o,h.get? b=some o->b ∉ ex->∃ o',h'.get? b=some o'
 aZ:∀ b xs,H b=some (.tup xs)->H' b=some (.tup xs)
 jz:∀ b o u,H b=some (.sV o u)->H' b=some (.sV o u)
 jT:∀ b ps,H b=some (.Ro ps)->∃ more,H' b=some (.Ro (ps++more))
section
variable {fs fs' ex ex':List Addr} {H H1 H2:Hp} {h h1 h2 h':Heap}{a x e:Addr}{o:HO}
theorem Un.any (u:Un fs ex H H1 h h1){b:Addr}{ob:Obj}(q:h.get? b=some ob)(n:H b=none)(hx:b ∉ ex):∃ sl,h1.get? b=some { ob with slots:=sl }:=by
 by_cases hb:b∈fs
 ·exact u.slot b ob q n hb hx
 ·exact ⟨ob.slots,u.keep b ob q n hb hx⟩
theorem Un.kept (k:∀ b u,h.get? b=some u->h'.get? b=some u):Un fs ex H H h h':=
 ⟨λb ob q _ _ _=>k b ob q,λb ob q _ _ _=>⟨ob.slots,k b ob q⟩,λ_ _ _ n _=>n,λb ob q _=>⟨ob,k b ob q⟩,λ_ _ q=>q,λ_ _ _ q=>q,λ_ ps q=>⟨#[],by rw [q];simp⟩⟩
theorem Un.refl:Un fs ex H H h h:=Un.kept λ_ _ q=>q
theorem Un.laid (k:∀ b u,h.get? b=some u->h'.get? b=some u)(hp:h.objs.size<=a)(hn:H a=none):Un fs ex H (upd H a o) h h' where
 keep:=λb u q _ _ _=>k b u q
 slot:=λb u q _ _ _=>⟨u.slots,k b u q⟩
 free:=λb u q n _=>by rw [xt (zW (ze (Heap.lt_size q) hp))];exact n
 there:=λb u q _=>⟨u,k b u q⟩
 aZ:=λb xs q=>by rw [xt (xk q hn)];exact q
 jz:=λb u xs q=>by rw [xt (xk q hn)];exact q
 jT:=λb ps q=>⟨#[],by rw [xt (xk q hn),q];simp⟩
theorem Un.write (mu:Za (H x))(he:e=x\/H e=some (.own x))(k:∀ b u,b≠e->h.get? b=some u->h'.get? b=some u)(Vn:∃ u,h'.get? e=some u):Un fs ex H (upd H x o) h h':=by
 have hx:∀ b,H b=none->b≠x:=λb n z=>by subst z;rw [n] at mu;exact mu
 have hb:∀ b,H b=none->b≠e:=λb n z=>by
  subst z;rcases he with r | r
  ·exact hx b n r
  ·rw [n] at r;cases r
 have hm:∀ b u,H b=some u->¬ Za (some u)->b≠x:=λb u q nm z=>by subst z;rw [q] at mu;exact nm mu
 refine ⟨λb u q n _ _=>k b u (hb b n) q,λb u q n _ _=>⟨u.slots,k b u (hb b n) q⟩,λb u q n _=>by rw [xt (hx b n)];exact n,λb u q _=>?_,
  λb xs q=>by rw [xt (hm b _ q λz=>z)];exact q,λb u xs q=>by rw [xt (hm b _ q λz=>z)];exact q,λb ps q=>⟨#[],by rw [xt (hm b _ q λz=>z),q];simp⟩⟩
 by_cases Uo:b=e
 ·subst Uo;exact Vn
 ·exact ⟨u,k b u Uo q⟩
end
def Yg (h:Heap)(H:Hp):List Addr:=(List.range h.objs.size).filter λa=>(H a).isSome
def oW (h:Heap)(H:Hp):Heap:=PySem.W.hideAll h (Yg h H)
theorem Me (h:Heap)(H:Hp):(oW h H).objs.size=h.objs.size:=PySem.W.hideAll_size _ _
theorem Ow {h:Heap}{H:Hp}{b:Addr}{o:Obj}(e:h.get? b=some o)(n:H b=none):(oW h H).get? b=some o:=
 PySem.W.hideAll_get _ e λhm=>by
  have q:(H b).isSome=true:=(List.mem_filter.mp hm).2;rw [n] at q;simp at q
theorem QD {h:Heap}{H:Hp}{b:Addr}{o:Obj}(e:(oW h H).get? b=some o):h.get? b=some o/\H b=none:=by
 have e':h.get? b=some o:=PySem.W.of_hideAll (Yg h H) e;refine ⟨e',?_⟩;cases q:H b with
 | none=>rfl
 | some x=>
  have hm:b∈Yg h H:=List.mem_filter.mpr ⟨yG.mpr (Heap.lt_size e'),by simp [q]⟩;have z:(oW h H).get? b=none:=PySem.W.hideAll_none (Yg h H) hm;rw [z] at e;cases e
def gI (g h:Heap)(L:Addr):List (Addr×Obj):=(List.range h.objs.size).filterMap λa=>if a=L\/(g.get? a).isSome=true then none else (h.get? a).map λo=>(a,o)
theorem dG {g h:Heap}{L a:Addr}{o:Obj}(h1:a≠L)(h2:g.get? a=none)(h3:h.get? a=some o):(a,o)∈gI g h L:=
 yu.mpr ⟨a,yG.mpr (Heap.lt_size h3),by simp [h1,h2,h3]⟩
theorem kX {g h:Heap}{L:Addr}{p:Addr×Obj}(hp:p∈gI g h L):p.1≠L/\g.get? p.1=none/\h.get? p.1=some p.2:=by
 obtain ⟨b,_,e⟩:=yu.mp hp;split at e
 ·cases e
 ·rename_i hn;cases q:h.get? b with
  | none=>rw [q] at e;simp at e
  | some u=>
   rw [q] at e;simp only [Option.map_some,Option.some.injEq] at e;subst e;refine ⟨λz=>hn (.inl z),?_,q⟩;show g.get? b=none;cases r:g.get? b with
   | none=>rfl
   | some v=>exact (hn (.inr (by simp [r]))).elim
theorem kZ {g h:Heap}{L:Addr}:News g L h (gI g h L):=λp hp=>let ⟨a,b,c⟩:=kX hp;⟨c,a,b⟩
structure Mod (K:PySem.W.Frag) (mg:Str->Option Value) (base:Heap):Prop where
 kin:K.In base
 glob:base.Ns mainGlobals mg
 blt:∃ mb,base.Ns builtinsNs mb/\∀ x:Str,x ≠ "__name__" -> mb x=bootBuiltins x
 nolimit:base.NoLimit
structure Cx where
 prog:Program
 w:World
 K:PySem.W.Frag
 mg:Str->Option Value
 base:Heap
 A:Around
 N:List Str
 cO:Shared
 Mx:Hp
 env:Env
 outer:List Env
 stack:List Env
 ex:List Addr
 fn:Str->Bool
 calm:Bool
 pn:List (Addr×Obj)
 xe:Value->Shared->Prop
def Mi (l:List Env):List Addr:=l.filterMap (·.frame)
abbrev Cx.fs (X:Cx):List Addr:=Mi X.outer
def XX (sc:Scope)(x:Str):Prop:=sc.names.lookup x=some .local\/sc.names.lookup x=some .cell\/sc.names.lookup x=some .free
def Loc (sc:Scope)(x:Str):Prop:=sc.names.lookup x=some .local\/sc.names.lookup x=some .cell
def Look (env:Env)(h:Heap)(m:Str->Option Value)(x:Str)(u:Value):Prop:=
 (env.kindOf x=some .local/\m x=some u)\/((env.kindOf x=some .cell\/env.kindOf x=some .free)/\∃ c,env.cells.lookup x=some c/\h.IsCell c (some u))
structure Cx.Ok (X:Cx):Prop where
 mod:Mod X.K X.mg X.base
 kind:X.env.scope.kind=.function
 glob:X.env.globals=mainGlobals
 blt:X.env.builtins=builtinsNs
 above:X.cO.heap.objs.size<=X.env.locals
 inj:∀ x y c,X.env.cells.lookup x=some c->X.env.cells.lookup y=some c->x=y
 has:∀ x,(X.env.kindOf x=some .cell\/X.env.kindOf x=some .free)->∃ c,X.env.cells.lookup x=some c
 XR:∀ x c,X.fn x=true->X.env.cells.lookup x=some c->X.cO.heap.objs.size<=c
 hd:X.calm=true->X.A.handled=none
 frames:X.A.frames=some X.stack
 Yn:X.stack=X.outer\/(X.stack=X.env::X.outer/\X.env.frame=some X.env.locals)
 exf:∀ b∈X.ex,b≠X.env.locals/\∀ x c,X.env.cells.lookup x=some c->c≠b
 bs:∀ b o,X.base.get? b=some o->X.cO.heap.get? b=some o/\X.Mx b=none
 OW:X.base.objs.size<=X.cO.heap.objs.size
 LU:∀ b o,X.base.get? b=some o->b ∉ X.ex
 Q7:∀ b∈X.ex,b ∉ X.fs
 lV:X.cO.heap.FunFrames X.base X.outer
 Vr:∀ b∈X.fs,X.Mx b=none
structure Inv (X:Cx) (ai:List (Addr×Obj)) (σ:List (Option V)) (H:Hp) (s:Shared):Prop where
 ok:X.Ok
 os:s.os=X.cO.os
 bare:AllBare s.gens
 base:Un X.fs X.ex X.Mx H X.cO.heap s.heap
 loc:∃ m,s.heap.Ns X.env.locals m/\∀ (i:Nat) (x:Str) (v:V),X.N[i]?=some x->σ[i]?=some (some v)->XX X.env.scope x->∃ u,RelV v u/\Look X.env s.heap m x u
 cell:∀ x c,X.env.cells.lookup x=some c->∃ v,s.heap.IsCell c v
 free:H X.env.locals=none
 f6:∀ x c,X.env.cells.lookup x=some c->H c=none
 pin:∀ p∈X.pn++ai,s.heap.get? p.1=some p.2/\H p.1=none/\p.1≠X.env.locals/\p.1 ∉ X.fs/\∀ v,p.2.data≠.cell v
 bq:gY X.prog X.w H s.heap
 len:σ.length=X.N.length
section
variable {X:Cx}{ai:List (Addr×Obj)}{σ:List (Option V)}{H H':Hp}{s:Shared}{h':Heap}
theorem Cx.Ok.aa3 (ok:X.Ok){b:Addr}{o:Obj}(e:X.base.get? b=some o):b ∉ X.fs:=λhb=>by
 have:=(ok.lV.mem hb).1;rw [e] at this;cases this
theorem Inv.bs (I:Inv X ai σ H s):∀ b o,X.base.get? b=some o->s.heap.get? b=some o/\H b=none:=λb o e=>
 ⟨I.base.keep b o (I.ok.bs b o e).1 (I.ok.bs b o e).2 (I.ok.aa3 e) (I.ok.LU b o e),I.base.free b o (I.ok.bs b o e).1 (I.ok.bs b o e).2 (I.ok.LU b o e)⟩
theorem Inv.bk (I:Inv X ai σ H s):∀ b o,X.base.get? b=some o->s.heap.get? b=some o:=λb o e=>(I.bs b o e).1
theorem Inv.mod (I:Inv X ai σ H s):Mod X.K X.mg X.base:=I.ok.mod
theorem Inv.sF (I:Inv X ai σ H s):X.K.In s.heap:=I.ok.mod.kin.keeps I.bk
theorem Inv.fr (I:Inv X ai σ H s):∃ m,Fr X.base X.env.locals s.heap m:=
 let ⟨m,hn,_⟩:=I.loc
 ⟨m,hn,I.bk,zj I.ok.OW I.ok.above⟩
theorem Inv.lt (I:Inv X ai σ H s):X.env.locals < s.heap.objs.size:=let ⟨_,hn,_⟩:=I.loc;hn.lt
theorem Inv.sz (I:Inv X ai σ H s):X.cO.heap.objs.size<=s.heap.objs.size:=zj I.ok.above (xC I.lt)
theorem Inv.Tq (I:Inv X ai σ H s){a:Addr}(h:s.heap.objs.size<=a):a ∉ X.fs:=λhb=>by
 obtain ⟨_,o,ho,_⟩:=I.ok.lV.mem hb;exact absurd (ze (Heap.lt_size ho) (zj I.sz h)) (yH _)
theorem Inv.UJ (I:Inv X ai σ H s):∀ x c,X.env.cells.lookup x=some c->c≠X.env.locals:=λx c e z=>by
 obtain ⟨v,o,ho,hd⟩:=I.cell x c e;obtain ⟨m,⟨o',es,ep,sO,RQ,_⟩,_⟩:=I.loc;rw [z,sO] at ho;cases ho;rw [RQ] at hd;cases hd
theorem Inv.lV (I:Inv X ai σ H s):s.heap.FunFrames X.base X.outer:=by
 have all:∀ (l:List Env),(∀ b∈Mi l,b∈X.fs)->X.cO.heap.FunFrames X.base l->s.heap.FunFrames X.base l:=by
  intro l;induction l with
  | nil=>intro _ _;trivial
  | cons env r ih=>
   intro hs hl;obtain ⟨hk,⟨L,o,hf,hn,ho,hd⟩,hr⟩:=hl;have hL:L∈X.fs:=hs L (by unfold Mi;rw [xF,hf];exact za);obtain ⟨sl,e⟩:=I.base.slot L o ho (I.ok.Vr L hL) hL λz=>I.ok.Q7 L z hL;exact ⟨hk,⟨L,_,hf,hn,e,hd⟩,ih (λb hb=>hs b (by unfold Mi;rw [xF,hf];exact zU _ hb)) hr⟩
 exact all X.outer (λ_ hb=>hb) I.ok.lV
theorem Inv.stack (I:Inv X ai σ H s):s.heap.FunFrames X.base X.stack:=by
 rcases I.ok.Yn with e | ⟨e,hf⟩
 ·rw [e];exact I.lV
 ·rw [e];obtain ⟨m,hn,_⟩:=I.loc;refine .cons (by rw [I.ok.kind];decide) hf hn ?_ I.lV;exact Heap.get?_none_of_le (zj I.ok.OW I.ok.above)
theorem Inv.dN (I:Inv X ai σ H s):∀ b∈Mi X.stack,b∈X.env.locals::X.fs:=λb hb=>by
 rcases I.ok.Yn with e | ⟨e,hf⟩
 ·rw [e] at hb;exact zU _ hb
 ·rw [e] at hb;unfold Mi at hb;rw [xF,hf] at hb;exact hb
theorem Inv.oz (I:Inv X ai σ H s):∀ b∈Mi X.stack,H b=none:=λb hb=>by
 rcases zJ.mp (I.dN b hb) with e | hb
 ·rw [e];exact I.free
 ·obtain ⟨_,o,ho,_⟩:=I.ok.lV.mem hb;exact I.base.free b o ho (I.ok.Vr b hb) λz=>I.ok.Q7 b z hb
theorem Inv.step {g':Array GenState}{t':Nat}{d':Drawn}{ch:List Addr}(I:Inv X ai σ H s)
  (Pp:∀ b∈ch,(b∈X.ex\/X.cO.heap.objs.size<=b)/\b≠X.env.locals/\(∀ x c,X.env.cells.lookup x=some c->c≠b)/\∀ p∈X.pn++ai,p.1≠b)
  (keep:∀ b o,b≠X.env.locals->b ∉ X.fs->b ∉ ch->s.heap.get? b=some o->H b=none->h'.get? b=some o)
  (slot:∀ b o,b≠X.env.locals->b∈X.fs->b ∉ ch->s.heap.get? b=some o->H b=none->∃ sl,h'.get? b=some { o with slots:=sl }) (free:∀ b o,b ∉ ch->s.heap.get? b=some o->H b=none->H' b=none)
  (there:∀ b o,b ∉ ch->s.heap.get? b=some o->∃ o',h'.get? b=some o')
  (aZ:∀ b xs,H b=some (.tup xs)->H' b=some (.tup xs)) (jz:∀ b o u,H b=some (.sV o u)->H' b=some (.sV o u)) (jT:∀ b ps,H b=some (.Ro ps)->∃ more,H' b=some (.Ro (ps++more)))
  (ns:∀ m,s.heap.Ns X.env.locals m->h'.Ns X.env.locals m) (bq:gY X.prog X.w H' h') (hg:AllBare g') :
  Inv X ai σ H' { s with heap:=h',gens:=g',drawn:=d',toks:=t' }:=by
 have neL:∀ b o,X.cO.heap.get? b=some o->b≠X.env.locals:=λb o e=>zW (ze (Heap.lt_size e) I.ok.above);have YF:∀ b o,X.cO.heap.get? b=some o->b ∉ X.ex->b ∉ ch:=λb o e hx hb=>by
  rcases (Pp b hb).1 with z | z
  ·exact hx z
  ·exact absurd (ze (Heap.lt_size e) z) (yH _)
 have cellK:∀ x c,X.env.cells.lookup x=some c->∀ v,s.heap.IsCell c v->h'.IsCell c v:=λx c e v ⟨o,ho,hd⟩=>by
  have ME:c ∉ ch:=λz=>(Pp c z).2.2.1 x c e rfl;by_cases hc:c∈X.fs
  ·obtain ⟨sl,q⟩:=slot c o (I.UJ x c e) hc ME ho (I.f6 x c e);exact ⟨_,q,hd⟩
  ·exact ⟨o,keep c o (I.UJ x c e) hc ME ho (I.f6 x c e),hd⟩
 refine ⟨I.ok,I.os,hg,⟨λb o e n hb hx=>?_,λb o e n hb hx=>?_,λb o e n hx=>?_,λb o e hx=>?_,λb xs e=>aZ b xs (I.base.aZ b xs e),λb o xs e=>jz b o xs (I.base.jz b o xs e),λb ps e=>?_⟩,?_,λx c e=>?_,?_,λx c e=>?_,λp hp=>?_,bq,I.len⟩
 ·exact keep b o (neL b o e) hb (YF b o e hx) (I.base.keep b o e n hb hx) (I.base.free b o e n hx)
 ·obtain ⟨sl,e1⟩:=I.base.slot b o e n hb hx;obtain ⟨sl',e2⟩:=slot b _ (neL b o e) hb (YF b o e hx) e1 (I.base.free b o e n hx);exact ⟨sl',e2⟩
 ·obtain ⟨o',e1⟩:=I.base.there b o e hx;exact free b o' (YF b o e hx) e1 (I.base.free b o e n hx)
 ·obtain ⟨o',e1⟩:=I.base.there b o e hx;exact there b o' (YF b o e hx) e1
 ·obtain ⟨m1,e1⟩:=I.base.jT b ps e;obtain ⟨m2,e2⟩:=jT b _ e1;exact ⟨m1++m2,by rw [e2,Array.append_assoc]⟩
 ·obtain ⟨m,hn,hl⟩:=I.loc;refine ⟨m,ns m hn,λi x v e1 e2 e3=>?_⟩;obtain ⟨u,r,l⟩:=hl i x v e1 e2 e3;refine ⟨u,r,?_⟩;rcases l with l | ⟨k,c,e,z⟩
  ·exact .inl l
  ·exact .inr ⟨k,c,e,cellK x c e _ z⟩
 ·obtain ⟨v,z⟩:=I.cell x c e;exact ⟨v,cellK x c e v z⟩
 ·obtain ⟨m,⟨o,_,_,ho,_⟩,_⟩:=I.loc;exact free _ o (λz=>(Pp _ z).2.1 rfl) ho I.free
 ·obtain ⟨v,o,ho,hd⟩:=I.cell x c e;exact free c o (λz=>(Pp c z).2.2.1 x c e rfl) ho (I.f6 x c e)
 ·obtain ⟨e,n,ne,nf,d⟩:=I.pin p hp;have ME:p.1 ∉ ch:=λz=>(Pp p.1 z).2.2.2 p hp rfl;exact ⟨keep p.1 p.2 ne nf ME e n,free p.1 p.2 ME e n,ne,nf,d⟩
theorem Inv.un {t':Nat}(I:Inv X ai σ H s)(u:Un X.fs [] H H' s.heap h')(bq:gY X.prog X.w H' h'):Inv X ai σ H' { s with heap:=h',toks:=t' }:=by
 obtain ⟨m,⟨o,es,ep,ho,r⟩,_⟩:=id I.loc;obtain ⟨sl,hL⟩:=u.any ho I.free (by simp);exact I.step (g':=s.gens) (d':=s.drawn) (ch:=[]) (λ_ z=>nomatch z) (λb o _ hb _ e n=>u.keep b o e n hb (by simp)) (λb o _ hb _ e n=>u.slot b o e n hb (by simp)) (λb o _ e n=>u.free b o e n (by simp)) (λb o _ e=>u.there b o e (by simp)) u.aZ u.jz u.jT (λm' hm=>by
  obtain ⟨o',iw,UC,sO,r'⟩:=hm;rw [ho] at sO;cases sO;exact ⟨_,iw,UC,hL,r'⟩) bq I.bare
theorem Inv.call {g':Array GenState}{t':Nat}{d':Drawn}{ch:List Addr}(I:Inv X ai σ H s)(u:Un (Mi X.stack) ch H H' s.heap h')(bq:gY X.prog X.w H' h')(hg:AllBare g')
  (Pp:∀ b∈ch,(b∈X.ex\/X.cO.heap.objs.size<=b)/\b≠X.env.locals/\(∀ x c,X.env.cells.lookup x=some c->c≠b)/\∀ p∈X.pn++ai,p.1≠b) :
  Inv X ai σ H' { s with heap:=h',gens:=g',drawn:=d',toks:=t' }:=by
 obtain ⟨m,⟨o,es,ep,ho,r⟩,_⟩:=id I.loc;obtain ⟨sl,hL⟩:=u.any ho I.free λz=>(Pp _ z).2.1 rfl;exact I.step (ch:=ch) Pp (λb o hL hb hc e n=>u.keep b o e n (λz=>(zJ.mp (I.dN b z)).elim hL hb) hc) (λb o _ _ hc e n=>u.any e n hc) (λb o hc e n=>u.free b o e n hc) (λb o hc e=>u.there b o e hc) u.aZ u.jz u.jT (λm' hm=>by
  obtain ⟨o',iw,UC,sO,r'⟩:=hm;rw [ho] at sO;cases sO;exact ⟨_,iw,UC,hL,r'⟩) bq hg
theorem Inv.turned {t':Nat}{it:Addr}(I:Inv X ai σ H s)(k:∀ b o,b≠it->s.heap.get? b=some o->h'.get? b=some o)(hn:H it=none)(hL:it≠X.env.locals)
  (h1:it∈X.ex\/X.cO.heap.objs.size<=it) (h2:∀ x c,X.env.cells.lookup x=some c->c≠it) (h3:∀ p∈X.pn++ai,p.1≠it):Inv X ai σ H { s with heap:=h',toks:=t' }:=by
 have nit:∀ b u,H b=some u->b≠it:=λb u e z=>by rw [z,hn] at e;cases e
 refine I.step (g':=s.gens) (d':=s.drawn) (ch:=[it]) (λb hb=>?_) (λb o _ _ hc e _=>k b o (λz=>hc (by simp [z])) e) (λb o _ _ hc e _=>⟨o.slots,k b o (λz=>hc (by simp [z])) e⟩) (λ_ _ _ _ n=>n)
  (λb o hc e=>⟨o,k b o (λz=>hc (by simp [z])) e⟩) (λ_ _ e=>e) (λ_ _ _ e=>e) (λb ps e=>⟨#[],by rw [e];simp⟩) (λm hm=>?_) (λb u e=>?_) I.bare
 ·have e:b=it:=by simpa using hb
  subst e;exact ⟨h1,hL,h2,h3⟩
 ·obtain ⟨o,es,ep,ho,r⟩:=hm;exact ⟨o,es,ep,k _ o (Ne.symm hL) ho,r⟩
 ·refine (I.bq b u e).fP (λc v hc q=>k c v ?_ q) (λ_ q=>q) λ_ _ q=>q;rcases hc with z | z
  ·rw [z];exact nit b u e
  ·exact nit c _ z
theorem Inv.tok (I:Inv X ai σ H s)(t:Nat):Inv X ai σ H { s with toks:=t }:=I.un (h':=s.heap) (t':=t) Un.refl I.bq
theorem Inv.kept {t':Nat}(I:Inv X ai σ H s)(k:∀ b u,s.heap.get? b=some u->h'.get? b=some u):Inv X ai σ H { s with heap:=h',toks:=t' }:=I.un (Un.kept k) (I.bq.kept k)
theorem Inv.laid {a:Addr}{o:HO}{t':Nat}(I:Inv X ai σ H s)(k:∀ b u,s.heap.get? b=some u->h'.get? b=some u)(hp:s.heap.objs.size<=a)(new:bD X.prog X.w (upd H a o) h' a o) :
  Inv X ai σ (upd H a o) { s with heap:=h',toks:=t' }:=I.un (Un.laid k hp (I.bq.fresh hp)) (I.bq.laid k hp new)
theorem Inv.write {x e:Addr}{o:HO}{t':Nat}(I:Inv X ai σ H s)(mu:Za (H x))(he:e=x\/H e=some (.own x))(k:∀ b u,b≠e->s.heap.get? b=some u->h'.get? b=some u)(Vn:∃ u,h'.get? e=some u)
  (new:bD X.prog X.w (upd H x o) h' x o):Inv X ai σ (upd H x o) { s with heap:=h',toks:=t' }:=I.un (Un.write mu he k Vn) (I.bq.write mu he k Vn new)
theorem Inv.cA {m5:List (Addr×Obj)}(I:Inv X ai σ H s)(h:∀ p∈m5,s.heap.get? p.1=some p.2/\H p.1=none/\p.1≠X.env.locals/\p.1 ∉ X.fs/\∀ v,p.2.data≠.cell v):Inv X m5 σ H s:=
 ⟨I.ok,I.os,I.bare,I.base,I.loc,I.cell,I.free,I.f6,λp hp=>(zV.mp hp).elim (λz=>I.pin p (yD _ z)) (h p),I.bq,I.len⟩
theorem rX {N:List Str}(hN:N.Nodup){i j:Nat}{x:Str}(a:N[i]?=some x)(b:N[j]?=some x):i=j:=by obtain ⟨h1,e1⟩:=zH.mp a;obtain ⟨h2,e2⟩:=zH.mp b;exact (List.getElem_inj hN).mp (e1.trans e2.symm)
def uQ (sc:Scope)(x:Str):Bool:=match sc.names.lookup x with | some .local=>true | some .cell=>true | _=>false
theorem iS {sc:Scope}{x:Str}(h:uQ sc x=true):Loc sc x:=by
 unfold uQ at h;unfold Loc
 revert h
 cases sc.names.lookup x with
 | none=>intro h;cases h
 | some k=>cases k <;> intro h <;> first | exact .inl rfl | exact .inr rfl | cases h
def iY (X:Cx)(x:Str):Bool:=X.fn x || (match X.env.scope.names.lookup x with | some .local=>true | _=>false)
theorem OJ {X:Cx}{x:Str}(h:iY X x=true):X.fn x=true\/X.env.scope.names.lookup x=some .local:=by
 unfold iY at h;cases e:X.fn x with
 | true=>exact .inl rfl
 | false=>
  rw [e,Bool.false_or] at h
  revert h
  cases X.env.scope.names.lookup x with
  | none=>intro h;cases h
  | some k=>cases k <;> intro h <;> first | exact .inr rfl | cases h
def Sg (sc:Scope)(x:Str):Bool:=match sc.names.lookup x with | some .local=>true | some .cell=>true | some .free=>true | _=>false
theorem PB {sc:Scope}{x:Str}(h:Sg sc x=true):XX sc x:=by
 unfold Sg at h;unfold XX
 revert h
 cases sc.names.lookup x with
 | none=>intro h;cases h
 | some k=>cases k <;> intro h <;> first | exact .inl rfl | exact .inr (.inl rfl) | exact .inr (.inr rfl) | cases h
theorem Lv {M:Model}{A:Around}{E:Value->Shared->Prop}{i:Nat}{x:Str}{v:V}{u:Value}{Q:Unit->Shared->Prop}(I:Inv X ai σ H s)(hN:X.N.Nodup)(hi:X.N[i]?=some x)(hx:Loc X.env.scope x)(r:RelV v u)
  (h:∀ s',Inv X ai (σ.set i (some v)) H s'->(∃ a,Heap.SameBut a s.heap s'.heap/\(a=X.env.locals\/X.env.cells.lookup x=some a))->Q () s') (hf:iY X x=true:=by rfl):wpAny M A (storeName X.env x u) Q E s:=by
 have hf:=OJ hf;obtain ⟨m,hn,hl⟩:=id I.loc;have acA:(X.env.scope.kind == .class || (X.env.scope.kind == .module && X.env.locals != X.env.globals))=false:=by rw [I.ok.kind];rfl
 have Xr:i < σ.length:=by rw [I.len];exact (zH.mp hi).1
 have UJ:=I.UJ;have tracked:∀ {a:Addr}{h':Heap},(∃ o,s.heap.get? a=some o/\H a=none)->Heap.SameBut a s.heap h'->gY X.prog X.w H h':=λ{a h'} ha hs b ob e=>by
  obtain ⟨_,_,RO⟩:=ha;refine (I.bq b ob e).fP (λc w' hc q=>(hs.2 c ?_).trans q) (λ_ q=>q) λ_ _ q=>q;rintro rfl;rcases hc with rfl | hc
  ·rw [RO] at e;cases e
  ·rw [RO] at hc;cases hc
 rcases hx with hk | hk
 ·refine wpAny_storeName_local hk hn (λh' hn' hs=>?_) acA;obtain ⟨oL,_,_,hoL,_⟩:=id hn;refine h _ ⟨I.ok,I.os,I.bare,⟨λb o e n hb hx=>?_,λb o e n hb hx=>?_,I.base.free,λb o e hx=>?_,I.base.aZ,I.base.jz,I.base.jT⟩,⟨_,hn',λj y v' e1 e2 e3=>?_⟩,λy c e=>?_,I.free,I.f6,λp hp=>?_,tracked ⟨oL,hoL,I.free⟩ hs,by simpa using I.len⟩ ⟨_,hs,.inl rfl⟩
  ·exact (hs.2 b (zW (ze (Heap.lt_size e) I.ok.above))).trans (I.base.keep b o e n hb hx)
  ·obtain ⟨sl,e1⟩:=I.base.slot b o e n hb hx;exact ⟨sl,(hs.2 b (zW (ze (Heap.lt_size e) I.ok.above))).trans e1⟩
  ·obtain ⟨o',e1⟩:=I.base.there b o e hx;exact ⟨o',(hs.2 b (zW (ze (Heap.lt_size e) I.ok.above))).trans e1⟩
  ·by_cases hj:j=i
   ·subst hj;rw [hi] at e1;cases e1;rw [yY Xr] at e2;cases e2;exact ⟨u,r,.inl ⟨hk,by simp⟩⟩
   ·rw [yW (Ne.symm hj)] at e2;obtain ⟨u',r',q⟩:=hl j y v' e1 e2 e3;refine ⟨u',r',?_⟩;rcases q with ⟨k,e⟩ | ⟨k,c,e,z⟩
    ·refine .inl ⟨k,?_⟩;have:y≠x:=λe=>hj (rX hN e1 (e ▸ hi));simp [this,e]
    ·exact .inr ⟨k,c,e,z.sameBut hs (UJ y c e)⟩
  ·obtain ⟨w',z⟩:=I.cell y c e;exact ⟨w',z.sameBut hs (UJ y c e)⟩
  ·obtain ⟨e,n,ne,nf,d⟩:=I.pin p hp;exact ⟨(hs.2 p.1 ne).trans e,n,ne,nf,d⟩
 ·have hfn:X.fn x=true:=by
   rcases hf with z | z
   ·exact z
   ·rw [z] at hk;cases hk
  obtain ⟨c,hc⟩:=I.ok.has x (.inl hk);obtain ⟨w',z⟩:=I.cell x c hc;refine wpAny_storeName_cell I.ok.kind hk hc z (λh' Xw hs=>?_);obtain ⟨oc,hoc,ace⟩:=id z;refine h { s with heap:=h' } ⟨I.ok,I.os,I.bare,⟨λb o e n hb hx=>?_,λb o e n hb hx=>?_,I.base.free,λb o e hx=>?_,I.base.aZ,I.base.jz,I.base.jT⟩,⟨m,hn.sameBut hs (Ne.symm (UJ x c hc)),λj y v' e1 e2 e3=>?_⟩,λy c' e=>?_,I.free,I.f6,λp hp=>?_,tracked ⟨oc,hoc,I.f6 x c hc⟩ hs,by simpa using I.len⟩ ⟨c,hs,.inr hc⟩
  ·exact (hs.2 b (zW (ze (Heap.lt_size e) (I.ok.XR x c hfn hc)))).trans (I.base.keep b o e n hb hx)
  ·obtain ⟨sl,e1⟩:=I.base.slot b o e n hb hx;exact ⟨sl,(hs.2 b (zW (ze (Heap.lt_size e) (I.ok.XR x c hfn hc)))).trans e1⟩
  ·obtain ⟨o',e1⟩:=I.base.there b o e hx;exact ⟨o',(hs.2 b (zW (ze (Heap.lt_size e) (I.ok.XR x c hfn hc)))).trans e1⟩
  ·by_cases hj:j=i
   ·subst hj;rw [hi] at e1;cases e1;rw [yY Xr] at e2;cases e2;exact ⟨u,r,.inr ⟨.inl hk,c,hc,Xw⟩⟩
   ·rw [yW (Ne.symm hj)] at e2;obtain ⟨u',r',q⟩:=hl j y v' e1 e2 e3;refine ⟨u',r',?_⟩;rcases q with q | ⟨k,c',e,z'⟩
    ·exact .inl q
    ·refine .inr ⟨k,c',e,z'.sameBut hs ?_⟩;rintro rfl;exact hj (rX hN e1 (I.ok.inj _ _ _ e hc ▸ hi))
  ·by_cases Vo:c'=c
   ·subst Vo;exact ⟨_,Xw⟩
   ·obtain ⟨w2,z2⟩:=I.cell y c' e;exact ⟨w2,z2.sameBut hs Vo⟩
  ·obtain ⟨e,n,ne,nf,d⟩:=I.pin p hp;refine ⟨(hs.2 p.1 ?_).trans e,n,ne,nf,d⟩;intro q;rw [q,hoc] at e;have q':oc=p.2:=Option.some.inj e;exact d w' (by rw [<-q'];exact ace)
theorem fO {M:Model}{A:Around}{E:Value->Shared->Prop}{i:Nat}{x:Str}{v:V}{u:Value}{Q:Unit->Shared->Prop}(I:Inv X ai σ H s)(hN:X.N.Nodup)(hi:X.N[i]?=some x)(hx:Loc X.env.scope x)(r:RelV v u)
  (h:∀ s',Inv X ai (σ.set i (some v)) H s'->Q () s') (hf:iY X x=true:=by rfl):wpAny M A (storeName X.env x u) Q E s:=
 Lv I hN hi hx r (λs' I' _=>h s' I') hf
theorem Inv.Lb {s':Shared}{ch:List Addr}(I:Inv X ai σ H s)(ho:s'.os=s.os)(u:Un (Mi X.stack) ch H H' s.heap s'.heap)(bq:gY X.prog X.w H' s'.heap)(hg:AllBare s'.gens)
  (Pp:∀ b∈ch,(b∈X.ex\/X.cO.heap.objs.size<=b)/\b≠X.env.locals/\(∀ x c,X.env.cells.lookup x=some c->c≠b)/\∀ p∈X.pn++ai,p.1≠b):Inv X ai σ H' s':=by
 obtain ⟨h',g',d',t',o'⟩:=s';have e:o'=s.os:=ho;subst e;exact I.call (g':=g') (t':=t') (d':=d') u bq hg Pp
end
abbrev XK:=Value->Option Addr->Hp->Prop
abbrev St:=List (Option V)
abbrev VK:=V->Hp->Prop
abbrev TE:=St->Hp->VK->Prop
abbrev TT:=St->Hp->(Bool->Hp->Prop)->Prop
abbrev TA:=St->Hp->(List V->Hp->Prop)->Prop
structure Ends where
 nx:St->Hp->Prop
 rt:VK
 bk:St->Hp->Prop:=λ_ _=>False
 ct:St->Hp->Prop:=λ_ _=>False
abbrev Ends.go (D:Ends)(n:St->Hp->Prop):Ends:={ D with nx:=n }
abbrev Ends.lp (D:Ends)(n:St->Hp->Prop):Ends:={ D with nx:=n,ct:=n,bk:=D.nx }
abbrev TS:=Ends->St->Hp->Prop
def EP (X:Cx)(ai:List (Addr×Obj))(σ:St)(Q:VK)(u:Value)(s':Shared):Prop:=∃ v H',Inv X ai σ H' s'/\RelV v u/\Q v H'
def TP (X:Cx)(ai:List (Addr×Obj))(σ:St)(Q:Bool->Hp->Prop)(b:Bool)(s':Shared):Prop:=∃ H',Inv X ai σ H' s'/\Q b H'
def AP (X:Cx)(ai:List (Addr×Obj))(σ:St)(Q:List V->Hp->Prop)(us:List Value)(s':Shared):Prop:=∃ vs H',Inv X ai σ H' s'/\Vals vs us/\Q vs H'
def SP (X:Cx)(ai:List (Addr×Obj))(D:Ends)(f:Flow)(s':Shared):Prop:=
 match f with
 | .next=>∃ bM H',Inv X ai bM H' s'/\D.nx bM H'
 | .brk=>∃ bM H',Inv X ai bM H' s'/\D.bk bM H'
 | .cont=>∃ bM H',Inv X ai bM H' s'/\D.ct bM H'
 | .ret u=>∃ v bM H',Inv X ai bM H' s'/\RelV v u/\D.rt v H'
def PE (X:Cx)(e:Expr)(t:TE):Prop:=
 ∀ (ai:List (Addr×Obj)) (s:Shared) (σ:St) (H:Hp) (Q:VK),Inv X ai σ H s->t σ H Q->wpAny (model X.prog X.w) X.A (eval e X.env) (EP X ai σ Q) X.xe s
def PT (X:Cx)(e:Expr)(t:TT):Prop:=
 ∀ (ai:List (Addr×Obj)) (s:Shared) (σ:St) (H:Hp) (Q:Bool->Hp->Prop),Inv X ai σ H s->t σ H Q->wpAny (model X.prog X.w) X.A (isTrue e X.env (eval e X.env)) (TP X ai σ Q) X.xe s
def PW (X:Cx)(e:Expr)(t:TT):Prop:=
 ∀ (whole:Sem Value) (ai:List (Addr×Obj)) (s:Shared) (σ:St) (H:Hp) (Q:Bool->Hp->Prop),Inv X ai σ H s->t σ H Q->wpAny (model X.prog X.w) X.A (isTrue e X.env whole) (TP X ai σ Q) X.xe s
theorem PW.pt {X:Cx}{e:Expr}{t:TT}(h:PW X e t):PT X e t:=h _
def PA (X:Cx)(es:List Expr)(t:TA):Prop:=
 ∀ (pos:Pos) (ai:List (Addr×Obj)) (s:Shared) (σ:St) (H:Hp) (Q:List V->Hp->Prop),Inv X ai σ H s->t σ H Q->wpAny (model X.prog X.w) X.A (spliced (backTo pos (starEach es X.env))) (AP X ai σ Q) X.xe s
def PS (X:Cx)(st:Stmt)(t:TS):Prop:=
 ∀ (ai:List (Addr×Obj)) (s:Shared) (σ:St) (H:Hp) (D:Ends),Inv X ai σ H s->t D σ H->wpAny (model X.prog X.w) X.A (exec st X.env) (SP X ai D) X.xe s
def pQ (X:Cx)(st:List Stmt)(t:TS):Prop:=
 ∀ (ai:List (Addr×Obj)) (s:Shared) (σ:St) (H:Hp) (D:Ends),Inv X ai σ H s->t D σ H->wpAny (model X.prog X.w) X.A (execs st X.env) (SP X ai D) X.xe s
theorem aR {α:Type}{t:Sem α}{Q Q':α->Shared->Prop}{M:Model}{A:Around}{E:Value->Shared->Prop}{s:Shared}(h:wpAny M A t Q E s)(hQ:∀ a s,Q a s->Q' a s):wpAny M A t Q' E s:=wpAny_mono h hQ λ_ _ x=>x
section
variable {X:Cx}
def M8 (i:Nat):TE:=fun σ H Q=>∃ v,σ[i]?=some (some v)/\Q v H
def tC (v:V):TE:=λ_ H Q=>Q v H
theorem Tf {i:Nat}{x:Str}{pos:Pos}(hN:X.N[i]?=some x)(hv:XX X.env.scope x)(hd:(x == ("__debug__" : Str))=false:=by decide)(Oz:(x == ("__classdict__" : Str))=false:=by decide):PE X (.Name x pos) (M8 i):=by
 intro ai s σ H Q I h;obtain ⟨v,e,h⟩:=h;obtain ⟨m,hn,hl⟩:=I.loc;obtain ⟨u,r,l⟩:=hl i x v hN e hv;have fin:EP X ai σ Q u s:=⟨v,H,I,r,h⟩;rcases l with ⟨hk,hm⟩ | ⟨hk,c,hc,K1⟩
 ·exact wpAny_Name (wpAny_loadName_local I.ok.kind hk hn hm fin) hd
 ·rcases hk with hk | hk
  ·exact wpAny_Name (wpAny_loadName_cell I.ok.kind hk hc K1 fin) hd
  ·exact wpAny_Name (wpAny_loadName_free I.ok.kind hk hc K1 fin Oz) hd
theorem xh {i j pos}:PE X (.Constant (.int i) j pos) (tC (.int i)):=λ_ _ _ H _ I h=>wpAny_Constant_int ⟨.int i,H,I.tok _,⟨_,rfl⟩,h⟩
theorem qM {b j pos}:PE X (.Constant (.bool b) j pos) (tC (.bl b)):=λ_ _ _ H _ I h=>Constant_bool ⟨.bl b,H,I,rfl,h⟩
theorem iu {j pos}:PE X (.Constant .none j pos) (tC .cK):=λ_ _ _ H _ I h=>Constant_none ⟨.cK,H,I,rfl,h⟩
def Gl (X:Cx)(x:Str):Prop:=X.env.kindOf x=some .globalImplicit
theorem QJ {E:Value->Shared->Prop}{ai:List (Addr×Obj)}{s:Shared}{σ:St}{H:Hp}{x:Str}{u:Value}{pos:Pos}{Q:Value->Shared->Prop}(I:Inv X ai σ H s)(hg:Gl X x)(hm:X.mg x=some u)(h:Q u s)
  (hd:(x == ("__debug__" : Str))=false:=by decide):wpAny (model X.prog X.w) X.A (eval (.Name x pos) X.env) Q E s:=
 Calls.Name_function_global I.ok.kind hg (Calls.loadGlobal_global (by rw [I.ok.glob];exact I.mod.glob.keeps I.bk) hm h) hd
theorem fc {E:Value->Shared->Prop}{ai:List (Addr×Obj)}{s:Shared}{σ:St}{H:Hp}{x:Str}{u:Value}{pos:Pos}{Q:Value->Shared->Prop}(I:Inv X ai σ H s)(hg:Gl X x)(hm:X.mg x=none)(hv:bootBuiltins x=some u)(h:Q u s)
  (hn:x ≠ "__name__" := by decide) (hd:(x == ("__debug__" : Str))=false:=by decide):wpAny (model X.prog X.w) X.A (eval (.Name x pos) X.env) Q E s:=by
 obtain ⟨mb,h1,h2⟩:=I.mod.blt;exact Calls.Name_function_global I.ok.kind hg (Calls.loadGlobal_builtin (by rw [I.ok.glob];exact I.mod.glob.keeps I.bk) hm (by rw [I.ok.blt];exact h1.keeps I.bk) ((h2 x hn).trans hv) h) hd
theorem qU {x:Str}{v:V}{u:Value}{pos:Pos}(hg:Gl X x)(hm:X.mg x=none)(hv:bootBuiltins x=some u)(r:RelV v u)(hn:x ≠ "__name__" := by decide)(hd:(x == ("__debug__" : Str))=false:=by decide):PE X (.Name x pos) (tC v):=
 λ_ _ _ H _ I h=>fc I hg hm hv ⟨v,H,I,r,h⟩ hn hd
variable {a b:Expr}{ta tb:TE}{pos:Pos}
def PC (X:Cx)(op:CmpOp)(a b:Expr)(t:TE):Prop:=
 ∀ (ai:List (Addr×Obj)) (s:Shared) (σ:St) (H:Hp) (Q:VK),Inv X ai σ H s->t σ H Q ->
  wpAny (model X.prog X.w) X.A (eval a X.env) (λv aP=>wpAny (model X.prog X.w) X.A (eval b X.env) (λu fN=>wpAny (model X.prog X.w) X.A (compareOp op v u) (EP X ai σ Q) X.xe fN) X.xe aP) X.xe s
def aag (ta:TE):TE:=fun σ H Q=>ta σ H λx H1=>Q (.bl (decide (x=.cK))) H1
theorem RelV.NW {x:V}{v:Value}(r:RelV x v):(v == Value.none)=decide (x=.cK):=by
 cases x with
 | cK=>cases r;rfl
 | bl _=>cases r;rfl
 | int _=>obtain ⟨t,rfl⟩:=r;rfl
 | str _=>obtain ⟨t,rfl⟩:=r;rfl
 | MM _=>obtain ⟨t,rfl⟩:=r;rfl
 | Q4 _=>obtain ⟨t,rfl⟩:=r;rfl
 | ref _=>cases r;rfl
 | ty _=>cases r;rfl
theorem Tg {j pos'}(ha:PE X a ta):PC X .Is a (.Constant .none j pos') (aag ta):=by intro ai s σ H Q I h;refine aR (ha ai s σ H _ I h) λv s1 Z5=>?_;obtain ⟨x,H1,I1,r1,q1⟩:=Z5;exact Constant_none (is_none_gen ⟨.bl _,H1,I1,by rw [r1.NW];rfl,q1⟩)
def tB (t:TE):TT:=fun σ H Q=>t σ H λx H1=>∃ c,x=.bl c/\Q c H1
theorem Tc {op:CmpOp}{t:TE}(h:PC X op a b t)(h1:behindInMarks op b=false:=by rfl):PT X (.Compare a [op] [b] pos) (tB t):=by intro ai s σ H Q I hw;refine wpAny_isTrue_Compare1 (aR (h ai s σ H _ I hw) λv s1 h1=>aR h1 λu s2 h2=>aR h2 λc s3 Z4=>?_) h1;obtain ⟨x,H1,I1,r1,q1⟩:=Z4;obtain ⟨d,rfl,q⟩:=q1;cases r1;exact wpAny_truthy_bool ⟨H1,I1,q⟩
theorem wL {e:Expr}{t:TE}(h:PE X e t)(he:∀ whole,isTrue e X.env whole=(do let v <- whole;standAt e.pos;holding [v] (truthy v)):=by intro _;rfl):PT X e (tB t):=by intro ai s σ H Q I hw;refine isTrue_plain (aR (h ai s σ H _ I hw) λv s1 Z3=>?_) (he _);obtain ⟨x,H1,I1,r1,q1⟩:=Z3;obtain ⟨d,rfl,q⟩:=q1;cases r1;exact wpAny_truthy_bool ⟨H1,I1,q⟩
variable {tA Yl:TT}{rest:List Expr}
def P0 (t u:TT):TT:=fun σ H Q=>t σ H λc H1=>if c=true then u σ H1 Q else Q false H1
def Yj (t u:TT):TT:=fun σ H Q=>t σ H λc H1=>if c=true then Q true H1 else u σ H1 Q
def PX (t:TT):TT:=fun σ H Q=>t σ H λc H1=>Q (!c) H1
theorem qV (ha:PT X a tA):PW X (.BoolOp .And [a] pos) tA:=by
 intro wh ai s σ H Q I h;refine isTrue_and (aR (ha ai s σ H Q I h) λc s1 e=>?_);cases c with
 | true=>exact isTrue_and_nil e
 | false=>exact e
theorem qK (ha:PT X a tA):PW X (.BoolOp .Or [a] pos) tA:=by
 intro wh ai s σ H Q I h;refine isTrue_or (aR (ha ai s σ H Q I h) λc s1 e=>?_);cases c with
 | false=>exact isTrue_or_nil e
 | true=>exact e
theorem qW (ha:PT X a tA)(hb:PW X (.BoolOp .And (b::rest) pos) Yl):PW X (.BoolOp .And (a::b::rest) pos) (P0 tA Yl):=by
 intro wh ai s σ H Q I h;refine isTrue_and (aR (ha ai s σ H _ I h) λc s1 Z2=>?_);obtain ⟨H1,I1,q1⟩:=Z2;cases c with
 | true=>exact hb wh ai s1 σ H1 Q I1 q1
 | false=>exact ⟨H1,I1,q1⟩
theorem qa (ha:PT X a tA)(hb:PW X (.BoolOp .Or (b::rest) pos) Yl):PW X (.BoolOp .Or (a::b::rest) pos) (Yj tA Yl):=by
 intro wh ai s σ H Q I h;refine isTrue_or (aR (ha ai s σ H _ I h) λc s1 Z1=>?_);obtain ⟨H1,I1,q1⟩:=Z1;cases c with
 | true=>exact ⟨H1,I1,q1⟩
 | false=>exact hb wh ai s1 σ H1 Q I1 q1
theorem wU (ha:PT X a tA):PT X (.UnaryOp .Not a pos) (PX tA):=by intro ai s σ H Q I h;exact isTrue_not (ha ai s σ H (λc H1=>Q (!c) H1) I h)
def vV (ta tb:TE):TE:=fun σ H Q=>ta σ H λx H1=>∃ c,x=.bl c/\if c=true then tb σ H1 Q else Q (.bl false) H1
def Su (ta tb:TE):TE:=fun σ H Q=>ta σ H λx H1=>∃ c,x=.bl c/\if c=true then Q (.bl true) H1 else tb σ H1 Q
def vQ (ta:TE):TE:=fun σ H Q=>ta σ H λx H1=>∃ c,x=.bl c/\Q (.bl (!c)) H1
theorem dO {op}{t:TE}(h:PE X a t):PE X (.BoolOp op [a] pos) t:=λai s σ H Q I hw=>BoolOp_one (h ai s σ H Q I hw)
theorem cg (ha:PE X a ta)(hb:PE X (.BoolOp .And (b::rest) pos) tb):PE X (.BoolOp .And (a::b::rest) pos) (vV ta tb):=by
 intro ai s σ H Q I h;refine BoolOp_and (aR (ha ai s σ H _ I h) λv s1 Z0=>?_);obtain ⟨x,H1,I1,r1,q1⟩:=Z0;obtain ⟨c,rfl,q1⟩:=q1;cases r1;refine wpAny_truthy_bool ?_;cases c with
 | true=>exact hb ai s1 σ H1 Q I1 q1
 | false=>exact ⟨.bl false,H1,I1,rfl,q1⟩
theorem NO (ha:PE X a ta):PE X (.UnaryOp .Not a pos) (vQ ta):=by intro ai s σ H Q I h;refine UnaryOp_ (aR (ha ai s σ H _ I h) λv s1 ZZ=>?_);obtain ⟨x,H1,I1,r1,q1⟩:=ZZ;obtain ⟨c,rfl,q1⟩:=q1;cases r1;exact not_of (wpAny_truthy_bool ⟨.bl (!c),H1,I1,rfl,q1⟩)
end
def aB (K:PySem.W.Frag)(H:Hp)(a:Addr)(xs:List V):Prop:=
 Rd H a (.lst xs) \/
  ∃ (o:Obj) (aA:Array Value) (n:Nat),K.lookup a=some o/\o.cls=.type "list" /\ o.dict=none/\o.data=.seq aA n/\aA.size<=sizeLine/\Vals xs aA.toList
def aW (K:PySem.W.Frag)(H:Hp)(a:Addr)(xs:List V):Prop:=
 Rd H a (.tup xs) \/
  ∃ (o:Obj) (aA:Array Value) (n:Nat),K.lookup a=some o/\o.cls=.type "tuple" /\ o.data=.seq aA n/\aA.size<=sizeLine/\Vals xs aA.toList
def adb:Value->Option V
 | .none=>some .cK
 | .bool b=>some (.bl b)
 | .int i _=>some (.int i)
 | .str x _=>some (.str x)
 | .bytes b _=>some (.MM b)
 | .float b _=>some (.Q4 b)
 | .ref a=>some (.ref a)
 | .type n=>some (.ty n)
 | _=>none
theorem RelV.abs {x:V}{u:Value}(r:RelV x u):adb u=some x:=by
 cases x with
 | cK=>cases r;rfl
 | bl _=>cases r;rfl
 | int _=>obtain ⟨t,rfl⟩:=r;rfl
 | str _=>obtain ⟨t,rfl⟩:=r;rfl
 | MM _=>obtain ⟨t,rfl⟩:=r;rfl
 | Q4 _=>obtain ⟨t,rfl⟩:=r;rfl
 | ref _=>cases r;rfl
 | ty _=>cases r;rfl
theorem RelV.inj {x y:V}{u:Value}(r:RelV x u)(q:RelV y u):x=y:=Option.some.inj (r.abs.symm.trans q.abs)
theorem Vals.inj:∀ {xs ys:List V}{us:List Value},Vals xs us->Vals ys us->xs=ys
 | _,_,_,.nil,.nil=>rfl
 | _,_,_,.cons r t,.cons r' t'=>by rw [r.inj r',Vals.inj t t']
section
variable {X:Cx}{ai:List (Addr×Obj)}{σ:St}{H:Hp}{s:Shared}{a:Addr}{xs ys:List V}
theorem aB.of {K:PySem.W.Frag}(h:H a=some (.lst xs)):aB K H a xs:=.inl (.inl h)
theorem aW.of {K:PySem.W.Frag}(h:H a=some (.tup xs)):aW K H a xs:=.inl (.inl h)
theorem Inv.list (I:Inv X ai σ H s)(h:aB X.K H a xs):∃ aA:List Value,Vals xs aA/\PlainL s.heap a aA.toArray/\xs.length<=sizeLine:=by
 rcases h with h | ⟨o,aA,n,hk,hc,hd,hs,hz,r⟩
 ·obtain ⟨z,aA,n,r,e⟩:=h.ok I.bq;exact ⟨aA,r,⟨_,n,e,rfl,rfl,rfl⟩,z⟩
 ·refine ⟨aA.toList,r,⟨o,n,I.sF a o hk,hc,hd,by simpa using hs⟩,?_⟩;have e:=r.length;simp only [Array.length_toList] at e;omega
theorem Inv.tuple (I:Inv X ai σ H s)(h:aW X.K H a xs):∃ aA:List Value,Vals xs aA/\IsTup s.heap a aA.toArray/\xs.length<=sizeLine:=by
 rcases h with h | ⟨o,aA,n,hk,hc,hs,hz,r⟩
 ·obtain ⟨z,aA,r,p⟩:=h.ok I.bq;exact ⟨aA,r,p,z.1⟩
 ·refine ⟨aA.toList,r,⟨o,I.sF a o hk,hc,n,by simpa using hs⟩,?_⟩;have e:=r.length;simp only [Array.length_toList] at e;omega
theorem Inv.fX (I:Inv X ai σ H s)(h:aB X.K H a xs)(h':aB X.K H a ys):xs=ys:=by
 obtain ⟨aA,r,⟨o,n,e,_,_,d⟩,_⟩:=I.list h;obtain ⟨its',r',⟨o',n',e',_,_,d'⟩,_⟩:=I.list h';rw [e] at e';cases e';rw [d] at d';injection d' with d1 _
 have:aA=its':=by simpa using congrArg Array.toList d1
 subst this;exact r.inj r'
theorem Inv.gn (I:Inv X ai σ H s)(h:aW X.K H a xs)(h':aW X.K H a ys):xs=ys:=by
 obtain ⟨aA,r,⟨o,e,_,n,d⟩,_⟩:=I.tuple h;obtain ⟨its',r',⟨o',e',_,n',d'⟩,_⟩:=I.tuple h';rw [e] at e';cases e';rw [d] at d';injection d' with d1 _
 have:aA=its':=by simpa using congrArg Array.toList d1
 subst this;exact r.inj r'
end
abbrev Cx.mG (X:Cx)(E:Value->Shared->Prop):Cx:={ X with xe:=E }
abbrev Cx.YE (X:Cx):Cx:=X.mG λ_ _=>False
theorem Cx.Ok.mG {X:Cx}(ok:X.Ok)(E:Value->Shared->Prop):(X.mG E).Ok:=
 ⟨ok.mod,ok.kind,ok.glob,ok.blt,ok.above,ok.inj,ok.has,ok.XR,ok.hd,ok.frames,ok.Yn,ok.exf,ok.bs,ok.OW,ok.LU,ok.Q7,ok.lV,ok.Vr⟩
theorem Cx.Ok.fM {X:Cx}{E:Value->Shared->Prop}(ok:(X.mG E).Ok):X.Ok:=
 ⟨ok.mod,ok.kind,ok.glob,ok.blt,ok.above,ok.inj,ok.has,ok.XR,ok.hd,ok.frames,ok.Yn,ok.exf,ok.bs,ok.OW,ok.LU,ok.Q7,ok.lV,ok.Vr⟩
section
variable {X:Cx}{ai:List (Addr×Obj)}{σ:St}{H:Hp}{s:Shared}{E:Value->Shared->Prop}
theorem Inv.mG (I:Inv X ai σ H s)(E:Value->Shared->Prop):Inv (X.mG E) ai σ H s:=⟨I.ok.mG E,I.os,I.bare,I.base,I.loc,I.cell,I.free,I.f6,I.pin,I.bq,I.len⟩
theorem Inv.fM (I:Inv (X.mG E) ai σ H s):Inv X ai σ H s:=⟨I.ok.fM,I.os,I.bare,I.base,I.loc,I.cell,I.free,I.f6,I.pin,I.bq,I.len⟩
theorem SP.fM {D:Ends}{f:Flow}{s':Shared}(h:SP (X.mG E) ai D f s'):SP X ai D f s':=by
 cases f with
 | next=>obtain ⟨bM,H',I,q⟩:=h;exact ⟨bM,H',I.fM,q⟩
 | brk=>obtain ⟨bM,H',I,q⟩:=h;exact ⟨bM,H',I.fM,q⟩
 | cont=>obtain ⟨bM,H',I,q⟩:=h;exact ⟨bM,H',I.fM,q⟩
 | ret u=>obtain ⟨v,bM,H',I,r,q⟩:=h;exact ⟨v,bM,H',I.fM,r,q⟩
theorem pQ.YE {st:List Stmt}{t:TS}(h:pQ X.YE st t):pQ X st t:=λai s σ H D I hw=>
 wpAny_mono (h ai s σ H D (I.mG _) hw) (λ_ _ q=>q.fM) λ_ _ z=>False.elim z
end
section
variable {X:Cx}{st:Stmt}{rest:List Stmt}{t u:TS}{e:Expr}{te:TE}{pos:Pos}
def kC:TS:=λD σ H=>D.nx σ H
def Na (t u:TS):TS:=λD σ H=>t (D.go (u D)) σ H
theorem wE:pQ X [] kC:=λ_ _ σ H _ I h=>wpAny_execs_nil ⟨σ,H,I,h⟩
theorem NH (h1:PS X st t)(h2:pQ X rest u):pQ X (st::rest) (Na t u):=by
 intro ai s σ H D I h;refine wpAny_execs_cons (aR (h1 ai s σ H (D.go (u D)) I h) λf s1 q=>?_);cases f with
 | next=>
  obtain ⟨bM,H',I',q⟩:=q;exact h2 ai s1 bM H' D I' q
 | ret v=>exact q
 | brk=>exact q
 | cont=>exact q
theorem Qw (h1:PS X st t):pQ X [st] t:=by
 intro ai s σ H D I h;refine wpAny_execs_cons (aR (h1 ai s σ H D I h) λf s1 q=>?_);cases f with
 | next=>exact wpAny_execs_nil q
 | ret v=>exact q
 | brk=>exact q
 | cont=>exact q
def VE:TS:=λD σ H=>D.ct σ H
theorem rM:PS X (.Continue pos) VE:=λ_ _ σ H _ I h=>wpAny_Continue ⟨σ,H,I,h⟩
theorem Inv.quiet {ai:List (Addr×Obj)}{σ:St}{H:Hp}{s:Shared}(I:Inv X ai σ H s):interactive X.env=false:=by simp [interactive,I.ok.kind]
def vR (te:TE):TS:=λD σ H=>te σ H λ_ H1=>D.nx σ H1
theorem gu (he:PE X e te)(hs:swapsWith e none pos.line X.env=pure false:=by rfl):PS X (.Expr e pos) (vR te):=by intro ai s σ H D I h;exact wpAny_Expr_any (aR (he ai s σ H _ I h) λv s1 ⟨x,H1,I1,r1,q1⟩=>⟨σ,H1,I1,q1⟩) I.quiet hs
def PV (te:TE):TS:=λD σ H=>te σ H D.rt
theorem wB (he:PE X e te):PS X (.Return (some e) pos) (PV te):=by intro ai s σ H D I h;exact wpAny_Return_some (aR (he ai s σ H _ I h) λv s1 ⟨x,H1,I1,r1,q1⟩=>⟨x,σ,H1,I1,r1,q1⟩)
def PZ (c:TT)(t u:TS):TS:=λD σ H=>c σ H λb H1=>if b=true then t D σ H1 else u D σ H1
theorem wN {c:Expr}{a b:List Stmt}{tc:TT}(hc:PT X c tc)(ha:pQ X a t)(hb:pQ X b u):PS X (.If c a b pos) (PZ tc t u):=by
 intro ai s σ H D I h;refine wpAny_If (aR (hc ai s σ H _ I h) λd s1 ZY=>?_);obtain ⟨H1,I1,q1⟩:=ZY;cases d with
 | true=>exact ha ai s1 σ H1 D I1 q1
 | false=>exact hb ai s1 σ H1 D I1 q1
end
abbrev TG:=V->St->Hp->(St->Hp->Prop)->Prop
abbrev R3:=List V->St->Hp->(St->Hp->Prop)->Prop
def PG (X:Cx)(target:Expr)(t:TG):Prop:=
 ∀ (ai:List (Addr×Obj)) (s:Shared) (σ:St) (H:Hp) (v:V) (u:Value) (Q:St->Hp->Prop),Inv X ai σ H s->RelV v u->t v σ H Q ->
  wpAny (model X.prog X.w) X.A (assign target X.env u) (λ_ s'=>∃ bM H',Inv X ai bM H' s'/\Q bM H') X.xe s
def X3 (X:Cx)(ts:List Expr)(t:R3):Prop:=
 ∀ (ai:List (Addr×Obj)) (s:Shared) (σ:St) (H:Hp) (vs:List V) (us:List Value) (Q:St->Hp->Prop),Inv X ai σ H s->Vals vs us->t vs σ H Q ->
  wpAny (model X.prog X.w) X.A (assignInOrder ((assignEach ts X.env).map (·.2)) us) (λ_ s'=>∃ bM H',Inv X ai bM H' s'/\Q bM H') X.xe s
abbrev O6:=V->V->V->Hp->(Hp->Prop)->Prop
def UR (X:Cx)(t:O6):Prop:=
 ∀ (ai:List (Addr×Obj)) (s:Shared) (σ:St) (H:Hp) (o i v:V) (ov iv u:Value) (Q:Hp->Prop),Inv X ai σ H s->RelV o ov->RelV i iv->RelV v u->t o i v H Q ->
  wpAny (model X.prog X.w) X.A (setItem ov iv u) (λ_ s'=>∃ H',Inv X ai σ H' s'/\Q H') X.xe s
abbrev Vt:=V->V->Hp->VK->Prop
def PIp (X:Cx)(op:Operator)(t:Vt):Prop:=
 ∀ (ai:List (Addr×Obj)) (s:Shared) (σ:St) (H:Hp) (x y:V) (v u:Value) (Q:VK),Inv X ai σ H s->RelV x v->RelV y u->t x y H Q ->
  wpAny (model X.prog X.w) X.A (inplaceOp op v u) (EP X ai σ Q) X.xe s
section
variable {X:Cx}{pos:Pos}
def iW (i:Nat):TG:=λv σ H Q=>Q (σ.set i (some v)) H
theorem xm {i:Nat}{x:Str}(hN:X.N.Nodup)(hi:X.N[i]?=some x)(hx:uQ X.env.scope x=true)(hf:iY X x=true:=by rfl):PG X (.Name x pos) (iW i):=by have hx:=iS hx;intro ai s σ H v u Q I r h;exact wpAny_assign_Name (fO I hN hi hx r (λs' I'=>⟨_,H,I',h⟩) hf)
def Q2:R3:=λvs σ H Q=>vs=[]/\Q σ H
def K4 (t:TG)(u:R3):R3:=λvs σ H Q=>∃ v r,vs=v::r/\t v σ H fun bM H'=>u r bM H' Q
theorem wH:X3 X [] Q2:=by intro ai s σ H vs us Q I r h;obtain ⟨e,h⟩:=h;subst e;cases r;exact assignInOrder_nil ⟨σ,H,I,h⟩
theorem xo {e:Expr}{es:List Expr}{t:TG}{u:R3}(h1:PG X e t)(h2:X3 X es u)
  (hs:(assignEach (e::es) X.env).map (·.2)=assign e X.env::(assignEach es X.env).map (·.2):=by rfl):X3 X (e::es) (K4 t u):=by
 intro ai s σ H vs us Q I r h;obtain ⟨v,vr,e1,h⟩:=h;subst e1;cases r with
 | cons r rr=>
  rw [hs];refine assignInOrder_cons (aR (h1 ai s σ H _ _ _ I r h) λ_ s1 ZX=>?_);obtain ⟨σ1,H1,I1,q1⟩:=ZX;exact h2 ai s1 σ1 H1 _ _ Q I1 rr q1
def OF (K:PySem.W.Frag)(n:Nat)(t:R3):TG:=λv σ H Q=>∃ a xs,v=.ref a/\aW K H a xs/\xs.length=n/\t xs σ H Q
theorem Te {es:List Expr}{k:Nat}{t:R3}{n:Nat}(hc:X.calm=true)(h:X3 X es t)
  (hn:(assignEach es X.env).length=n:=by rfl) (uU:(assignEach es X.env).findIdx? (·.1)=none:=by rfl):PG X (.Tuple es k pos) (OF X.K n t):=by
 intro ai s σ H v u Q I r hw;obtain ⟨a,xs,e1,hq,hl,hw⟩:=hw;subst e1;cases r;obtain ⟨aA,rv,ht,hz⟩:=I.tuple hq;refine assign_Tuple_tuple (I.ok.hd hc) ht (by simp [hn,<- hl,rv.length]) uU λh' hx=>?_;have I1:Inv X ai σ H { s with heap:=h' }:=I.kept (t':=s.toks) λb o e=>hx b o (zW (Heap.lt_size e)) e;exact h ai _ σ H xs _ Q I1 (by simpa using rv) hw
def Q0 (to ti:TE)(t:O6):TG:=λv σ H Q=>to σ H λo H1=>ti σ H1 λi H2=>t o i v H2 λH3=>Q σ H3
theorem qu {o i:Expr}{to ti:TE}{t:O6}(ho:PE X o to)(hi:PE X i ti)(hs:UR X t)
  (ha:∀ v,assign (.Subscript o i pos) X.env v=(do
   let ov <- holding [v] (eval o X.env)
   let iv <- holding [v,ov] (eval i X.env)
   standAt pos
   holding [v,ov,iv] (setItem ov iv v)
   release [v,ov,iv] []):=by intro _;rfl):PG X (.Subscript o i pos) (Q0 to ti t):=by
 intro ai s σ H v u Q I r h;rw [ha];refine wpAny_bind (wpAny_holding (aR (ho ai s σ H _ I h) λov s1 ZW=>?_));obtain ⟨x,H1,I1,r1,q1⟩:=ZW;refine wpAny_bind (wpAny_holding (aR (hi ai s1 σ H1 _ I1 q1) λiv s2 ZV=>?_));obtain ⟨y,H2,I2,r2,q2⟩:=ZV;refine wpAny_bind (wpAny_standAt (wpAny_bind (wpAny_holding (aR (hs ai s2 σ H2 x y v ov iv u _ I2 r1 r2 r q2) λ_ s3 ZU=>?_))));obtain ⟨H3,I3,q3⟩:=ZU;exact wpAny_release ⟨σ,H3,I3,q3⟩
def uf (te:TE)(g:TG):TS:=λD σ H=>te σ H λx H1=>g x σ H1 D.nx
theorem wg {tg e:Expr}{te:TE}{g:TG}(he:PE X e te)(hg:PG X tg g)(hs:swapsWithSole [tg] e pos.line X.env=pure false:=by rfl)(hw:swappedStores [tg] e X.env=pure none:=by rfl)
  (h1:(assignEach [tg] X.env).map (·.2)=[assign tg X.env]:=by rfl):PS X (.Assign [tg] e pos) (uf te g):=by
 intro ai s σ H D I h;refine wpAny_Assign_stores (aR (he ai s σ H _ I h) λv s1 ZT=>?_) hs hw;obtain ⟨x,H1,I1,r1,q1⟩:=ZT;rw [h1];exact aR (hg ai s1 σ H1 x v _ I1 r1 q1) λ_ s2 q=>q
theorem xy {i:Nat}{x:Str}{e:Expr}{te:TE}{pos':Pos}(hN:X.N.Nodup)(hi:X.N[i]?=some x)(hx:uQ X.env.scope x=true)(he:PE X e te)(hs:swapsWith e (some (.Name x pos')) pos.line X.env=pure false:=by rfl)(hf:iY X x=true:=by rfl) :
  PS X (.Assign [.Name x pos'] e pos) (uf te (iW i)):=by
 have hx:=iS hx;intro ai s σ H D I h;refine wpAny_Assign_Name (aR (he ai s σ H _ I h) λv s1 ZS=>?_) hs;obtain ⟨y,H1,I1,r1,q1⟩:=ZS;exact fO I1 hN hi hx r1 (λs2 I2=>⟨_,H1,I2,q1⟩) hf
def aai (i:Nat)(te:TE)(ti:Vt):TS:=λD σ H=>∃ x,σ[i]?=some (some x)/\te σ H λy H1=>ti x y H1 λz H2=>D.nx (σ.set i (some z)) H2
theorem NI {i:Nat}{x:Str}{e:Expr}{te:TE}{op:Operator}{ti:Vt}{pos':Pos}(hN:X.N.Nodup)(hi:X.N[i]?=some x)(hx:uQ X.env.scope x=true)(he:PE X e te)(ho:PIp X op ti)(hf:iY X x=true:=by rfl) :
  PS X (.AugAssign (.Name x pos') op e pos) (aai i te ti):=by
 have hx:=iS hx;intro ai s σ H D I h;obtain ⟨v,e1,h⟩:=h;obtain ⟨m,hn,hl⟩:=I.loc;have vis:XX X.env.scope x:=by rcases hx with k | k;exact .inl k;exact .inr (.inl k)
 obtain ⟨u,r,l⟩:=hl i x v hi e1 vis;refine wpAny_AugAssign_Name ?_;have go:wpAny (model X.prog X.w) X.A (eval e X.env) (λw fN=>wpAny (model X.prog X.w) X.A (inplaceOp op u w) (λr jh=>wpAny (model X.prog X.w) X.A (storeName X.env x r) (λ_=>SP X ai D .next) X.xe jh) X.xe fN) X.xe s:=by
  refine aR (he ai s σ H _ I h) λw s1 ZR=>?_;obtain ⟨y,H1,I1,r1,q1⟩:=ZR;refine aR (ho ai s1 σ H1 v y u w _ I1 r r1 q1) λz s2 ZQ=>?_;obtain ⟨zv,H2,I2,r2,q2⟩:=ZQ;exact fO I2 hN hi hx r2 (λs3 I3=>⟨_,H2,I3,q2⟩) hf
 rcases l with ⟨hk,hm⟩ | ⟨hk,c,hc,K1⟩
 ·exact wpAny_loadName_local I.ok.kind hk hn hm go
 ·rcases hk with hk | hk
  ·exact wpAny_loadName_cell I.ok.kind hk hc K1 go
  ·rcases hx with k | k
   ·have:X.env.scope.names.lookup x=some .free:=hk;rw [k] at this;cases this
   ·have:X.env.scope.names.lookup x=some .free:=hk;rw [k] at this;cases this
def vU (to ti te:TE)(PM:V->V->Hp->VK->Prop)(Yh:Vt)(PK:O6):TS:=λD σ H=>to σ H λo H1=>ti σ H1 λi H2=>PM o i H2 λx H3=>te σ H3 λy H4=>Yh x y H4 λz H5=>PK o i z H5 λH6=>D.nx σ H6
def X4 (X:Cx)(t:V->V->Hp->VK->Prop):Prop:=
 ∀ (ai:List (Addr×Obj)) (s:Shared) (σ:St) (H:Hp) (o i:V) (ov iv:Value) (Q:VK),Inv X ai σ H s->RelV o ov->RelV i iv->t o i H Q ->
  wpAny (model X.prog X.w) X.A (getItem ov iv) (EP X ai σ Q) X.xe s
theorem oG {o i e:Expr}{to ti te:TE}{PM:V->V->Hp->VK->Prop}{Yh:Vt}{PK:O6}{op:Operator}{So:Pos}(ho:PE X o to)(hi:PE X i ti)(hg:X4 X PM)(he:PE X e te)(hp:PIp X op Yh)(hs:UR X PK)
  (ha:∀ ov iv new,augStore i ov iv new=(do holding [new,ov,iv] (setItem ov iv new);release [new,ov,iv] [];pure .next):=by intros;rfl):PS X (.AugAssign (.Subscript o i So) op e pos) (vU to ti te PM Yh PK):=by
 intro ai s σ H D I h;refine wpAny_AugAssign_SubscriptAny (aR (ho ai s σ H _ I h) λov s1 ZP=>?_) ha;obtain ⟨x1,H1,I1,r1,q1⟩:=ZP;refine aR (hi ai s1 σ H1 _ I1 q1) λiv s2 ZO=>?_;obtain ⟨x2,H2,I2,r2,q2⟩:=ZO;refine aR (hg ai s2 σ H2 x1 x2 ov iv _ I2 r1 r2 q2) λold s3 ZM=>?_;obtain ⟨x3,H3,I3,r3,q3⟩:=ZM;refine aR (he ai s3 σ H3 _ I3 q3) λv s4 ZL=>?_;obtain ⟨x4,H4,I4,r4,q4⟩:=ZL;refine aR (hp ai s4 σ H4 x3 x4 old v _ I4 r3 r4 q4) λnew s5 ZK=>?_;obtain ⟨x5,H5,I5,r5,q5⟩:=ZK;exact aR (hs ai s5 σ H5 x1 x2 x5 ov iv new _ I5 r1 r2 r5 q5) λ_ s6 ⟨H6,I6,q6⟩=>⟨σ,H6,I6,q6⟩
def YM (f:Int->Int->Int):Vt:=λx y H Q=>∃ i j,x=.int i/\y=.int j/\Q (.int (f i j)) H
theorem lH:PIp X .Add (YM λi j=>i + j):=by intro ai s σ H x y v u Q I r1 r2 h;obtain ⟨i,j,e1,e2,q⟩:=h;subst e1;subst e2;obtain ⟨t,rfl⟩:=r1;obtain ⟨t',rfl⟩:=r2;exact iadd_int ⟨.int _,H,I.tok _,⟨_,rfl⟩,q⟩
end
section
variable {X:Cx}{pos:Pos}
end
structure It where
 go:Nat->Hp->Prop
 mF:Nat->Hp->V->Hp->Prop
 stop:Nat->Hp->Prop
def iE (X:Cx)(ai:List (Addr×Obj))(H:Hp)(b:Addr):Prop:=
 H b=none/\b≠X.env.locals/\b ∉ X.fs/\(b∈X.ex\/X.cO.heap.objs.size<=b)/\(∀ x c,X.env.cells.lookup x=some c->c≠b)/\∀ p∈X.pn++ai,p.1≠b
theorem Inv.oY {X:Cx}{ai:List (Addr×Obj)}{σ:St}{H H':Hp}{s:Shared}{b:Addr}(I:Inv X ai σ H s)(hb:s.heap.objs.size<=b)(hn:H' b=none):iE X ai H' b:=by
 refine ⟨hn,yS (ze I.lt hb),I.Tq hb,.inr (zj I.sz hb),λx c e z=>?_,λp hp z=>?_⟩
 ·obtain ⟨v,q⟩:=I.cell x c e;exact absurd (ze q.lt (by rw [z];exact hb)) (yH _)
 ·exact absurd (ze (Heap.lt_size (I.pin p hp).1) (by rw [z];exact hb)) (yH _)
structure Turn (P:Program) (w:World) (K:PySem.W.Frag) (tg:Expr) (J:It) (fp:List Addr) (it:Addr) (tn:Nat->Heap->Prop):Prop where
 mem:it∈fp
 obj:∀ i h,tn i h->∀ b∈fp,∃ o,h.get? b=some o/\∀ v,o.data≠.cell v
 keep:∀ i h h',tn i h->(∀ b∈fp,∀ o,h.get? b=some o->h'.get? b=some o)->tn i h'
 item:∀ (X:Cx),X.prog=P->X.w=w->X.K=K->X.calm=true->∀ (i:Nat) (ai:List (Addr×Obj)) (s:Shared) (σ:St) (H:Hp) (E:Value->Shared->Prop),Inv X ai σ H s->(∀ b∈fp,iE X ai H b)->tn i s.heap->J.go i H ->
  wpAny (model P w) X.A (pyNext (.ref it)) (λr s1=>∃ u,r=some u /\
   wpAny (model P w) X.A (letOwnedTupleGo tg (.ref it) u) (λ_ s2=>∃ x H',Inv X ai σ H' s2/\RelV x u/\J.mF i H x H'/\tn (i + 1) s2.heap/\∀ b∈fp,H' b=none) E s1) E s
 done:∀ (X:Cx),X.prog=P->X.w=w->X.K=K->X.calm=true->∀ (i:Nat) (ai:List (Addr×Obj)) (s:Shared) (σ:St) (H:Hp) (E:Value->Shared->Prop),Inv X ai σ H s->(∀ b∈fp,iE X ai H b)->tn i s.heap->J.stop i H ->
  wpAny (model P w) X.A (pyNext (.ref it)) (λr s1=>r=none/\Inv X ai σ H s1) E s
 self:∀ (A:Around) (i:Nat) (s:Shared) (Q:Value->Shared->Prop) (E:Value->Shared->Prop),tn i s.heap->Q (.ref it) s->wpAny (model P w) A (pyIter (.ref it)) Q E s
abbrev TI:=St->Hp->(It->Hp->Prop)->Prop
def PIE (X:Cx)(ai:List (Addr×Obj))(σ:St)(tg:Expr)(R:It->Hp->Prop)(Vg:Value)(s2:Shared):Prop:=
 ∃ (it:Addr) (fp:List Addr) (tn:Nat->Heap->Prop) (J:It) (H':Hp),Vg=.ref it/\Inv X ai σ H' s2/\Turn X.prog X.w X.K tg J fp it tn/\tn 0 s2.heap/\(∀ b∈fp,iE X ai H' b)/\R J H'
def PI (X:Cx)(tg iter:Expr)(wi:TI):Prop:=
 ∀ (ai:List (Addr×Obj)) (s:Shared) (σ:St) (H:Hp) (R:It->Hp->Prop),Inv X ai σ H s->wi σ H R ->
  wpAny (model X.prog X.w) X.A (eval iter X.env) (λv s1=>wpAny (model X.prog X.w) X.A (pyIter v) (PIE X ai σ tg R) X.xe s1) X.xe s
theorem OE {M:Model}{A:Around}{E:Value->Shared->Prop}{s:Shared}{tg:Expr}{it:Addr}{u:Value}{o:Obj}{n:String}{vs:Array Value}{Q:Unit->Shared->Prop}(ho:s.heap.get? it=some o)(hc:o.cls=.type n)(hd:o.data=.fields vs)
    (hn:["enumerate", "zip", "dict_itemiterator", "dict_reverseitemiterator", "odict_iterator", "itertools.zip_longest", "itertools.pairwise"].contains n=false) (hQ:Q () s):wpAny M A (letOwnedTupleGo tg (.ref it) u) Q E s:=by
  unfold letOwnedTupleGo;cases tg <;> first
    | exact wpAny_pure hQ
    | (cases u <;> first
        | exact wpAny_pure hQ
        | (refine wpAny_bind (wpAny_load ho ?_)
           rw [hc,hd];show wpAny M A (if (["enumerate", "zip", "dict_itemiterator", "dict_reverseitemiterator", "odict_iterator", "itertools.zip_longest", "itertools.pairwise"].contains n && vs[0]? == some (rawInt _))=true then _ else _) Q E s;rw [if_neg (by intro h;rw [hn,yo] at h;cases h)];exact wpAny_pure hQ))
def MO (K:PySem.W.Frag)(a:Addr):It:=
 ⟨λi H=>∃ xs x,aB K H a xs/\xs[i]?=some x,λi H x H'=>H'=H/\∀ xs,aB K H a xs->xs[i]?=some x,λi H=>∃ xs,aB K H a xs/\xs.length<=i⟩
def Ri (K:PySem.W.Frag)(a:Addr):It:=
 ⟨λi H=>∃ xs x,aW K H a xs/\xs[i]?=some x,λi H x H'=>H'=H/\∀ xs,aW K H a xs->xs[i]?=some x,λi H=>∃ xs,aW K H a xs/\xs.length<=i⟩
def O8 (lo:Int)(n:Nat):It:=⟨λi _=>i < n,λi H x H'=>H'=H/\x=.int (lo + i),λi _=>n<=i⟩
theorem Lk {P:Program}{w:World}{K:PySem.W.Frag}{tg:Expr}(a it:Addr):Turn P w K tg (MO K a) [it] it (λi h=>h.IsListIter it a i) where
 mem:=by simp
 obj:=λi h st b hb=>by
  have e:b=it:=by simpa using hb
  subst e;obtain ⟨o,e,c,d⟩:=st;exact ⟨o,e,λv z=>by rw [d] at z;cases z⟩
 keep:=λi h h' st k=>st.at λo e=>k it (by simp) o e
 item:=by
  intro X hP hw hK hc i ai s σ H E I hf st hg;subst hP hw hK;obtain ⟨xs,x,hq,hx⟩:=hg;obtain ⟨aA,rv,p,hz⟩:=I.list hq;obtain ⟨u,hu,ru⟩:=rv.get hx;obtain ⟨f0,f1,f2,f3,f4,f5⟩:=hf it (by simp);refine wpAny_pyNext_list_item st p.isList (x:=u) (by simpa using hu) λh' Rq sb=>?_;have I1:Inv X ai σ H { s with heap:=h' }:=I.turned (t':=s.toks) (λb o hb e=>(sb.2 b hb).trans e) f0 f1 f3 f4 f5;obtain ⟨o,e,c,d⟩:=id Rq;exact ⟨u,rfl,OE (s:={ s with heap:=h' }) e c d (by decide) ⟨x,H,I1,ru,⟨rfl,λys hy=>by rw [I.fX hy hq];exact hx⟩,Rq,λb hb=>(hf b hb).1⟩⟩
 done:=by
  intro X hP hw hK hc i ai s σ H E I hf st hg;subst hP hw hK;obtain ⟨xs,hq,hx⟩:=hg;obtain ⟨aA,rv,p,hz⟩:=I.list hq;obtain ⟨f0,f1,f2,f3,f4,f5⟩:=hf it (by simp);have hl:=rv.length;exact wpAny_pyNext_list_end (I.ok.hd hc) st p.isList (by simp;omega) λh' eb=>⟨rfl,I.turned (t':=s.toks) (λb o hb e=>eb b o hb e) f0 f1 f3 f4 f5⟩
 self:=λ_ _ _ _ _ st h=>wpAny_pyIter_listiter st h
theorem uc {P:Program}{w:World}{K:PySem.W.Frag}{tg:Expr}(a it:Addr):Turn P w K tg (Ri K a) [it] it (λi h=>h.IsTupleIter it a i) where
 mem:=by simp
 obj:=λi h st b hb=>by
  have e:b=it:=by simpa using hb
  subst e;obtain ⟨o,e,c,d⟩:=st;exact ⟨o,e,λv z=>by rw [d] at z;cases z⟩
 keep:=λi h h' st k=>st.at λo e=>k it (by simp) o e
 item:=by
  intro X hP hw hK hc i ai s σ H E I hf st hg;subst hP hw hK;obtain ⟨xs,x,hq,hx⟩:=hg;obtain ⟨aA,rv,p,hz⟩:=I.tuple hq;obtain ⟨u,hu,ru⟩:=rv.get hx;obtain ⟨f0,f1,f2,f3,f4,f5⟩:=hf it (by simp);refine wpAny_pyNext_tuple_item st (show s.heap.IsTuple a aA.toArray from p) (x:=u) (by simpa using hu) λh' Rq sb=>?_;have I1:Inv X ai σ H { s with heap:=h' }:=I.turned (t':=s.toks) (λb o hb e=>(sb.2 b hb).trans e) f0 f1 f3 f4 f5;obtain ⟨o,e,c,d⟩:=id Rq;exact ⟨u,rfl,OE (s:={ s with heap:=h' }) e c d (by decide) ⟨x,H,I1,ru,⟨rfl,λys hy=>by rw [I.gn hy hq];exact hx⟩,Rq,λb hb=>(hf b hb).1⟩⟩
 done:=by
  intro X hP hw hK hc i ai s σ H E I hf st hg;subst hP hw hK;obtain ⟨xs,hq,hx⟩:=hg;obtain ⟨aA,rv,p,hz⟩:=I.tuple hq;obtain ⟨f0,f1,f2,f3,f4,f5⟩:=hf it (by simp);have hl:=rv.length;exact wpAny_pyNext_tuple_end (I.ok.hd hc) st (show s.heap.IsTuple a aA.toArray from p) (by simp;omega) λh' eb=>⟨rfl,I.turned (t':=s.toks) (λb o hb e=>eb b o hb e) f0 f1 f3 f4 f5⟩
 self:=λ_ _ _ _ _ st h=>wpAny_pyIter_tupleiter st h
theorem ud {P:Program}{w:World}{K:PySem.W.Frag}{tg:Expr}(it:Addr)(lo:Int)(n:Nat):Turn P w K tg (O8 lo n) [it] it (λi h=>IsRangeIter h it (lo + (i:Nat) * 1) ((n:Int) - (i:Nat)) 1) where
 mem:=by simp
 obj:=λi h st b hb=>by
  have e:b=it:=by simpa using hb
  subst e;exact ⟨_,st,λv z=>by
   have z':Data.fields _=Data.cell v:=z;cases z'⟩
 keep:=λi h h' st k=>k it (by simp) _ st
 item:=by
  intro X hP hw hK hc i ai s σ H E I hf st hg;subst hP hw hK;obtain ⟨f0,f1,f2,f3,f4,f5⟩:=hf it (by simp);have W:=Walks.range (prog:=X.prog) (w:=X.w) (I.ok.hd hc) it lo 1 n;refine W.item i s _ _ hg st λv h' tk hv Rq kk=>?_;obtain ⟨t,rfl⟩:=hv;have I1:Inv X ai σ H { s with heap:=h',toks:=tk }:=I.turned (λb o hb e=>kk b o (by simpa using hb) e) f0 f1 f3 f4 f5;refine ⟨_,rfl,OE (s:={ s with heap:=h',toks:=tk }) (n := "range_iterator") Rq rfl rfl (by decide) ⟨.int (lo + i),H,I1,⟨t,?_⟩,⟨rfl,rfl⟩,Rq,λb hb=>(hf b hb).1⟩⟩;rw [Int.mul_one]
 done:=by
  intro X hP hw hK hc i ai s σ H E I hf st hg;subst hP hw hK;obtain ⟨f0,f1,f2,f3,f4,f5⟩:=hf it (by simp);exact wpAny_pyNext_range_end (I.ok.hd hc) st (by have:n<=i:=hg;omega) λh' eb=>⟨rfl,I.turned (t':=s.toks) (λb o hb e=>eb b o hb e) f0 f1 f3 f4 f5⟩
 self:=λ_ _ _ _ _ st h=>wpAny_pyIter_rangeiter st h
section
variable {X:Cx}{tg:Expr}
def RH (K:PySem.W.Frag)(tl:TE):TI:=fun σ H R=>tl σ H λx H1=>∃ a,x=.ref a/\(∃ xs,aB K H1 a xs)/\R (MO K a) H1
def Xb (K:PySem.W.Frag)(tl:TE):TI:=fun σ H R=>tl σ H λx H1=>∃ a,x=.ref a/\(∃ xs,aW K H1 a xs)/\R (Ri K a) H1
theorem Qy {l:Expr}{tl:TE}(hl:PE X l tl):PI X tg l (RH X.K tl):=by
 intro ai s σ H R I h;refine aR (hl ai s σ H _ I h) λv s1 ZJ=>?_;obtain ⟨x,H1,I1,r1,q1⟩:=ZJ;obtain ⟨a,e,⟨xs,hq⟩,q⟩:=q1;subst e;cases r1;obtain ⟨aA,rv,p,hz⟩:=I1.list hq;refine wpAny_pyIter_list p.isList ?_;refine ⟨s1.heap.objs.size,[s1.heap.objs.size],_,_,H1,rfl,I1.kept (t':=s1.toks) λb o e=>Heap.get?_push_of_some _ e,Lk a _,⟨_,Heap.get?_push_size _ rfl,rfl,rfl⟩,λb hb=>?_,q⟩;have e:b=s1.heap.objs.size:=by simpa using hb
 subst e;exact I1.oY (zI _) (I1.bq.fresh (zI _))
theorem Td {l:Expr}{tl:TE}(hl:PE X l tl):PI X tg l (Xb X.K tl):=by
 intro ai s σ H R I h;refine aR (hl ai s σ H _ I h) λv s1 ZI=>?_;obtain ⟨x,H1,I1,r1,q1⟩:=ZI;obtain ⟨a,e,⟨xs,hq⟩,q⟩:=q1;subst e;cases r1;obtain ⟨aA,rv,p,hz⟩:=I1.tuple hq;refine wpAny_pyIter_tuple (show s1.heap.IsTuple a aA.toArray from p) ?_;refine ⟨s1.heap.objs.size,[s1.heap.objs.size],_,_,H1,rfl,I1.kept (t':=s1.toks) λb o e=>Heap.get?_push_of_some _ e,uc a _,⟨_,Heap.get?_push_size _ rfl,rfl,rfl⟩,λb hb=>?_,q⟩;have e:b=s1.heap.objs.size:=by simpa using hb
 subst e;exact I1.oY (zI _) (I1.bq.fresh (zI _))
theorem rK {ai:List (Addr×Obj)}{σ:St}{H:Hp}{s:Shared}{R:It->Hp->Prop}{E:Value->Shared->Prop}{lo hi:Int}{t u v:Tok}{tk:Nat}(I:Inv X ai σ H s)(h1:-(2 ^ 62)<=lo)(h2:lo < 2 ^ 62)(h3:-(2 ^ 62)<=hi)(h4:hi < 2 ^ 62)
  (q:R (O8 lo (hi - lo).toNat) H):wpAny (model X.prog X.w) X.A (pyIter (.ref s.heap.objs.size)) (PIE X ai σ tg R) E { s with heap:=s.heap.push { cls:=.type "range", data:=.fields #[.int lo t,.int hi u,.int 1 v] },toks:=tk }:=by
 refine wpAny_pyIter_range (IsRange.new ..) (small_one h1 h2 h3 h4) ?_;have I1:Inv X ai σ H { s with heap:=s.heap.push { cls:=.type "range", data:=.fields #[.int lo t,.int hi u,.int 1 v] },toks:=tk }:=I.kept λb o e=>Heap.get?_push_of_some _ e;refine ⟨(s.heap.push { cls:=.type "range", data:=.fields #[.int lo t,.int hi u,.int 1 v] }).objs.size,[(s.heap.push { cls:=.type "range", data:=.fields #[.int lo t,.int hi u,.int 1 v] }).objs.size],_,_,H,rfl,
  I1.kept (t':=tk) λb o e=>Heap.get?_push_of_some _ e,ud _ lo (hi - lo).toNat,?_,λb hb=>?_,q⟩
 ·have e1:lo + ((0:Nat):Int) * 1=lo:=by simp
  have e2:(((hi - lo).toNat:Nat):Int) - ((0:Nat):Int)=Builtin.Range.rangeSize lo hi 1:=by rw [rangeSize_one];split <;> omega
  show IsRangeIter _ _ (lo + ((0:Nat):Int) * 1) ((((hi - lo).toNat:Nat):Int) - ((0:Nat):Int)) 1;rw [e1,e2];exact Heap.get?_push_size _ rfl
 ·have e:b=(s.heap.push { cls:=.type "range", data:=.fields #[.int lo t,.int hi u,.int 1 v] }).objs.size:=by simpa using hb
  subst e;exact I1.oY (zI _) (I1.bq.fresh (zI _))
def Xd (ta:TA):TI:=fun σ H R=>ta σ H λvs H1=>∃ j:Int,vs=[.int j]/\-(2 ^ 62)<=j/\j < 2 ^ 62/\R (O8 0 j.toNat) H1
def Xc (ta:TA):TI:=fun σ H R=>ta σ H λvs H1=>∃ i j:Int,vs=[.int i,.int j]/\(-(2 ^ 62)<=i/\i < 2 ^ 62/\-(2 ^ 62)<=j/\j < 2 ^ 62)/\R (O8 i (j - i).toNat) H1
theorem wq {a:Expr}{ta:TA}{p pos:Pos}(hg:Gl X "range")(hm:X.mg "range" = none)(ha:PA X [a] ta)(hs:starEach [a] X.env=[(false,eval a X.env)]:=by rfl):PI X tg (.Call (.Name "range" p) [a] [] pos) (Xd ta):=by
 intro ai s σ H R I h;refine Call_ (fc I hg hm boot_range (yM (aR (ha pos ai s σ H _ I h) λus s1 ZH=>?_) hs rfl));obtain ⟨vs,H1,I1,r1,q1⟩:=ZH;obtain ⟨j,e,q1,q2,q⟩:=q1;subst e;cases r1 with
 | cons r rr=>
  cases rr;obtain ⟨t,rfl⟩:=r;exact call_range_1 (rK I1 (by omega) (by omega) q1 q2 (by simpa using q))
theorem nh {a b:Expr}{ta:TA}{p pos:Pos}(hg:Gl X "range")(hm:X.mg "range" = none)(ha:PA X [a,b] ta)(hs:starEach [a,b] X.env=[(false,eval a X.env),(false,eval b X.env)]:=by rfl)(lN:starEach [b] X.env=[(false,eval b X.env)]:=by rfl) :
  PI X tg (.Call (.Name "range" p) [a,b] [] pos) (Xc ta):=by
 intro ai s σ H R I h;refine Call_ (fc I hg hm boot_range (yM (aR (ha pos ai s σ H _ I h) λus s1 ZG=>?_) (by rw [hs,lN]) (by rw [lN];rfl)));obtain ⟨vs,H1,I1,r1,q1⟩:=ZG;obtain ⟨i,j,e,⟨q1,q2,q3,q4⟩,q⟩:=q1;subst e;cases r1 with
 | cons r rr=>
  cases rr with
  | cons r' rr=>
   cases rr;obtain ⟨t,rfl⟩:=r;obtain ⟨t',rfl⟩:=r';exact call_range_2 (rK I1 q1 q2 q3 q4 q)
def aah (wi:TI)(g:TG)(tb:TS):TS:=λD σ H=>wi σ H λJ H1=>∃ W:Nat->Nat->St->Hp->Prop,(∃ m,W 0 m σ H1)/\∀ i m σ H,W i m σ H ->
 (J.stop i H/\D.nx σ H)\/(J.go i H/\∃ N:St->Hp->Prop,(∀ bM H',N bM H'->∃ m',m' < m/\W (i + 1) m' bM H')/\∀ x H',J.mF i H x H'->g x σ H' fun jR H2=>tb (D.lp N) jR H2)
def b8 (fp:List Addr)(h:Heap):List (Addr×Obj):=fp.filterMap λb=>(h.get? b).map λo=>(b,o)
theorem wa {fp:List Addr}{h:Heap}{b:Addr}{o:Obj}(hb:b∈fp)(e:h.get? b=some o):(b,o)∈b8 fp h:=yu.mpr ⟨b,hb,by rw [e];rfl⟩
theorem nk {fp:List Addr}{h:Heap}{p:Addr×Obj}(hp:p∈b8 fp h):p.1∈fp/\h.get? p.1=some p.2:=by
 obtain ⟨b,hb,e⟩:=yu.mp hp;cases q:h.get? b with
 | none=>rw [q] at e;cases e
 | some o=>
  rw [q] at e;have e':(b,o)=p:=Option.some.inj e;subst e';exact ⟨hb,q⟩
theorem Inv.pinned {ai:List (Addr×Obj)}{σ:St}{H:Hp}{s:Shared}{fp:List Addr}(I:Inv X ai σ H s)(hf:∀ b∈fp,iE X ai H b)(ho:∀ b∈fp,∃ o,s.heap.get? b=some o/\∀ v,o.data≠.cell v):Inv X (ai++b8 fp s.heap) σ H s:=
 I.cA λp hp=>(zV.mp hp).elim (λz=>I.pin p (zE _ z)) λz=>by
  obtain ⟨hb,e⟩:=nk z;obtain ⟨f0,f1,f2,_⟩:=hf p.1 hb;obtain ⟨o,e',d⟩:=ho p.1 hb;rw [e] at e';cases e';exact ⟨e,f0,f1,f2,d⟩
theorem Inv.bN {ai pl:List (Addr×Obj)}{σ:St}{H:Hp}{s:Shared}(I:Inv X (ai++pl) σ H s):Inv X ai σ H s:=I.cA λp hp=>I.pin p (zE _ (yD _ hp))
theorem wy {iter:Expr}{body:List Stmt}{wi:TI}{g:TG}{tb:TS}{pos:Pos}(hp:PassesOwn (model X.prog X.w) X.A X.env X.xe)(hc:X.calm=true)(hi:PI X tg iter wi)(hg:PG X tg g)(hb:pQ X body tb)
  (hs:∀ x,foldedSetIterable iter X.env x=pure x:=by intro _;rfl):PS X (.For tg iter body [] pos) (aah wi g tb):=by
 intro ai s σ H D I h;refine wpAny_For (aR (hi ai s σ H _ I h) λv s1 h1=>aR h1 λVg s2 h2=>?_) hs;obtain ⟨it,fp,tn,J,H2,e,I2,T,Lx,f2,W,⟨m0,w0⟩,turn⟩:=h2;subst e
 -- afD stays true of pX fk objects through pX loop
 have eV:∀ {H':Hp},(∀ b∈fp,H' b=none)->∀ b∈fp,iE X ai H' b:=λhn b hb=>⟨hn b hb,(f2 b hb).2⟩;refine codeAny_forLoop_any (λn s'=>∃ i bM H',Inv X ai bM H' s'/\tn i s'.heap/\(∀ b∈fp,H' b=none)/\W i n bM H') ?_ m0 ⟨0,σ,H2,I2,Lx,λb hb=>(f2 b hb).1,w0⟩;rintro n s3 ⟨i,Vw,H3,I3,st3,fr3,w3⟩;rcases turn i n Vw H3 w3 with ⟨stop,qn⟩ | ⟨go,N,hN,step⟩
 ·refine wpAny_passesOwn hp (aR (T.done X rfl rfl rfl hc i ai s3 Vw H3 X.xe I3 (eV fr3) st3 stop) λr s4 ⟨hr,I4⟩=>?_);subst hr;exact wpAny_execs_nil ⟨Vw,H3,I4,qn⟩
 ·refine wpAny_passesOwn hp (aR (T.item X rfl rfl rfl hc i ai s3 Vw H3 X.xe I3 (eV fr3) st3 go) λr s4 ⟨u,hr,h4⟩=>?_);subst hr;refine wpAny_passesOwn hp (aR h4 λ_ s5 ZF=>?_);obtain ⟨x,H5,I5,r5,y5,ug,Mj⟩:=ZF;have I5':=I5.pinned (eV Mj) (T.obj _ _ ug);refine wpAny_passesOwn hp (aR (hg _ s5 Vw H5 x u _ I5' r5 (step x H5 y5)) λ_ s6 ZE=>?_);obtain ⟨σ6,H6,I6,q6⟩:=ZE;refine wpAny_passesOwn hp (aR (hb _ s6 σ6 H6 _ I6 q6) λf s7 q7=>?_);have again:∀ {MR:St} {H7:Hp},Inv X (ai++b8 fp s5.heap) MR H7 s7->N MR H7->∃ m,m < n/\∃ i bM H',Inv X ai bM H' s7/\tn i s7.heap/\(∀ b∈fp,H' b=none)/\W i m bM H':=λ{MR H7} I7 n7=>by
   obtain ⟨m',hm,w7⟩:=hN MR H7 n7;refine ⟨m',hm,i + 1,MR,H7,I7.bN,T.keep _ _ _ ug λb hb o e=>(I7.pin (b,o) (zE _ (zE _ (wa hb e)))).1,λb hb=>?_,w7⟩;obtain ⟨o,e,d⟩:=T.obj _ _ ug b hb;exact (I7.pin (b,o) (zE _ (zE _ (wa hb e)))).2.1
  cases f with
  | next=>obtain ⟨MR,H7,I7,n7⟩:=q7;exact again I7 n7
  | cont=>obtain ⟨MR,H7,I7,n7⟩:=q7;exact again I7 n7
  | brk=>obtain ⟨MR,H7,I7,q7⟩:=q7;exact ⟨MR,H7,I7.bN,q7⟩
  | ret v=>obtain ⟨x7,MR,H7,I7,r7,q7⟩:=q7;exact ⟨x7,MR,H7,I7.bN,r7,q7⟩
end
theorem sW {K:PySem.W.Frag}{a:Addr}{xs:List V}{g:TG}{tb:TS}{D:Ends}{σ:St}{H:Hp}(Pv:Nat->St->Hp->Prop)(h0:Pv 0 σ H)(hl:∀ i σ H,i<=xs.length->Pv i σ H->aB K H a xs)
  (hs:∀ i x σ H,xs[i]?=some x->Pv i σ H->g x σ H fun jR H2=>tb (D.lp (Pv (i + 1))) jR H2) (hd:∀ σ H,Pv xs.length σ H->D.nx σ H) :
  ∃ W:Nat->Nat->St->Hp->Prop,(∃ m,W 0 m σ H)/\∀ i m σ H,W i m σ H ->
   ((MO K a).stop i H/\D.nx σ H)\/((MO K a).go i H/\∃ N:St->Hp->Prop,(∀ bM H',N bM H'->∃ m',m' < m/\W (i + 1) m' bM H')/\∀ x H',(MO K a).mF i H x H'->g x σ H' fun jR H2=>tb (D.lp N) jR H2):=by
 refine ⟨λi m σ H=>m=xs.length - i/\i<=xs.length/\Pv i σ H,⟨xs.length,by simp,zo _,h0⟩,?_⟩;rintro i m σ H ⟨rfl,hi,p⟩;have q:=hl i σ H hi p;by_cases dB:i < xs.length
 ·refine .inr ⟨⟨xs,xs[i],q,by simp [dB]⟩,Pv (i + 1),fun bM H' p'=>⟨xs.length - (i + 1),by omega,rfl,dB,p'⟩,λx H' y=>?_⟩;obtain ⟨e,y⟩:=y;subst e;exact hs i x σ _ (y xs q) p
 ·have e:i=xs.length:=by omega
  subst e;exact .inl ⟨⟨xs,q,zI _⟩,hd σ H p⟩
theorem Q3 {K:PySem.W.Frag}{a:Addr}{xs:List V}{g:TG}{tb:TS}{D:Ends}{σ:St}{H:Hp}(Pv:Nat->St->Hp->Prop)(h0:Pv 0 σ H)(hl:∀ i σ H,i<=xs.length->Pv i σ H->aW K H a xs)
  (hs:∀ i x σ H,xs[i]?=some x->Pv i σ H->g x σ H fun jR H2=>tb (D.lp (Pv (i + 1))) jR H2) (hd:∀ σ H,Pv xs.length σ H->D.nx σ H) :
  ∃ W:Nat->Nat->St->Hp->Prop,(∃ m,W 0 m σ H)/\∀ i m σ H,W i m σ H ->
   ((Ri K a).stop i H/\D.nx σ H)\/((Ri K a).go i H/\∃ N:St->Hp->Prop,(∀ bM H',N bM H'->∃ m',m' < m/\W (i + 1) m' bM H')/\∀ x H',(Ri K a).mF i H x H'->g x σ H' fun jR H2=>tb (D.lp N) jR H2):=by
 refine ⟨λi m σ H=>m=xs.length - i/\i<=xs.length/\Pv i σ H,⟨xs.length,by simp,zo _,h0⟩,?_⟩;rintro i m σ H ⟨rfl,hi,p⟩;have q:=hl i σ H hi p;by_cases dB:i < xs.length
 ·refine .inr ⟨⟨xs,xs[i],q,by simp [dB]⟩,Pv (i + 1),fun bM H' p'=>⟨xs.length - (i + 1),by omega,rfl,dB,p'⟩,λx H' y=>?_⟩;obtain ⟨e,y⟩:=y;subst e;exact hs i x σ _ (y xs q) p
 ·have e:i=xs.length:=by omega
  subst e;exact .inl ⟨⟨xs,q,zI _⟩,hd σ H p⟩
theorem qD {lo:Int}{n:Nat}{g:TG}{tb:TS}{D:Ends}{σ:St}{H:Hp}(Pv:Nat->St->Hp->Prop)(h0:Pv 0 σ H)
  (hs:∀ i σ H,i < n->Pv i σ H->g (.int (lo + i)) σ H fun jR H2=>tb (D.lp (Pv (i + 1))) jR H2) (hd:∀ σ H,Pv n σ H->D.nx σ H) :
  ∃ W:Nat->Nat->St->Hp->Prop,(∃ m,W 0 m σ H)/\∀ i m σ H,W i m σ H ->
   ((O8 lo n).stop i H/\D.nx σ H)\/((O8 lo n).go i H/\∃ N:St->Hp->Prop,(∀ bM H',N bM H'->∃ m',m' < m/\W (i + 1) m' bM H')/\∀ x H',(O8 lo n).mF i H x H'->g x σ H' fun jR H2=>tb (D.lp N) jR H2):=by
 refine ⟨λi m σ H=>m=n - i/\i<=n/\Pv i σ H,⟨n,by simp,zo _,h0⟩,?_⟩;rintro i m σ H ⟨rfl,hi,p⟩;by_cases dB:i < n
 ·refine .inr ⟨dB,Pv (i + 1),fun bM H' p'=>⟨n - (i + 1),by omega,rfl,dB,p'⟩,λx H' y=>?_⟩;obtain ⟨e,y⟩:=y;subst e y;exact hs i σ _ dB p
 ·have e:i=n:=by omega
  subst e;exact .inl ⟨zI _,hd σ H p⟩
abbrev R2:=V->V->Hp->VK->Prop
def iD (X:Cx)(f:Value->Value->Sem Value)(r:R2):Prop:=
 ∀ (ai:List (Addr×Obj)) (s:Shared) (σ:St) (H:Hp) (x y:V) (v u:Value) (Q:VK),Inv X ai σ H s->RelV x v->RelV y u->r x y H Q ->
  wpAny (model X.prog X.w) X.A (f v u) (EP X ai σ Q) X.xe s
def UnR (X:Cx)(f:Value->Sem Value)(r:V->Hp->VK->Prop):Prop:=
 ∀ (ai:List (Addr×Obj)) (s:Shared) (σ:St) (H:Hp) (x:V) (v:Value) (Q:VK),Inv X ai σ H s->RelV x v->r x H Q ->
  wpAny (model X.prog X.w) X.A (f v) (EP X ai σ Q) X.xe s
def bZ (X:Cx)(f:Value)(r:List V->Hp->VK->Prop):Prop:=
 ∀ (ai:List (Addr×Obj)) (s:Shared) (σ:St) (H:Hp) (xs:List V) (us:List Value) (Q:VK),Inv X ai σ H s->Vals xs us->r xs H Q ->
  wpAny (model X.prog X.w) X.A (call f us) (EP X ai σ Q) X.xe s
def Sv (r:R2)(ta tb:TE):TE:=fun σ H Q=>ta σ H λx H1=>tb σ H1 λy H2=>r x y H2 Q
def VC (r:V->Hp->VK->Prop)(ta:TE):TE:=fun σ H Q=>ta σ H λx H1=>r x H1 Q
def rI (C:Int->Int->Prop)(g:Int->Int->V):R2:=λx y H Q=>∃ i j,x=.int i/\y=.int j/\C i j/\Q (g i j) H
def MD (g:Int->Int->V):R2:=λx y H Q=>∃ i j,x=.int i/\y=.int j/\Q (g i j) H
def rU (g:Int->V):V->Hp->VK->Prop:=λx H Q=>∃ i,x=.int i/\Q (g i) H
section
variable {X:Cx}{a b c:Expr}{ta tb tc:TE}{pos:Pos}
theorem UL (ha:PE X a ta)(hb:PE X b tb){ai:List (Addr×Obj)}{s:Shared}{σ:St}{H:Hp}{R:V->V->Hp->Prop}(I:Inv X ai σ H s)
  (h:ta σ H λx H1=>tb σ H1 λy H2=>R x y H2) {Q:Value->Shared->Prop}{f:Value->Value->Sem Value}
  (hf:∀ v u s2 x y H2,Inv X ai σ H2 s2->RelV x v->RelV y u->R x y H2->wpAny (model X.prog X.w) X.A (f v u) Q X.xe s2) :
  wpAny (model X.prog X.w) X.A (eval a X.env) (λv aP=>wpAny (model X.prog X.w) X.A (eval b X.env) (λu fN=>wpAny (model X.prog X.w) X.A (f v u) Q X.xe fN) X.xe aP) X.xe s:=by
 refine aR (ha ai s σ H _ I h) λv s1 ZC=>?_;obtain ⟨x,H1,I1,r1,q1⟩:=ZC;refine aR (hb ai s1 σ H1 _ I1 q1) λu s2 ZA=>?_;obtain ⟨y,H2,I2,r2,q2⟩:=ZA;exact hf v u s2 x y H2 I2 r1 r2 q2
theorem wC {op:Operator}{r:R2}(ho:iD X (binaryOp op) r)(ha:PE X a ta)(hb:PE X b tb):PE X (.BinOp a op b pos) (Sv r ta tb):=by intro ai s σ H Q I h;exact wpAny_BinOp (UL ha hb I h λv u s2 x y H2 I2 rx ry q=>ho ai s2 σ H2 x y v u Q I2 rx ry q)
theorem KH {op:UnaryOp}{r:V->Hp->VK->Prop}(ho:UnR X (unaryOp op) r)(ha:PE X a ta):PE X (.UnaryOp op a pos) (VC r ta):=by intro ai s σ H Q I h;exact UnaryOp_ (aR (ha ai s σ H _ I h) λv s1 ⟨x,H1,I1,r1,q1⟩=>ho ai s1 σ H1 x v Q I1 r1 q1)
theorem YC {f:Value->Value->Sem Value}{C:Int->Int->Prop}{g:Int->Int->Int}
  (rule:∀ (i j:Int) (t u:Tok) (s:Shared) (Q:Value->Shared->Prop) (E:Value->Shared->Prop),C i j->Q (.int (g i j) s.toks) { s with toks:=s.toks + 1 }->wpAny (model X.prog X.w) X.A (f (.int i t) (.int j u)) Q E s) :
  iD X f (rI C λi j=>.int (g i j)):=by
 intro ai s σ H x y v u Q I rx ry h;obtain ⟨i,j,rfl,rfl,hc,q⟩:=h;obtain ⟨t,rfl⟩:=rx;obtain ⟨t',rfl⟩:=ry;exact rule i j t t' s _ _ hc ⟨.int (g i j),H,I.tok _,⟨_,rfl⟩,q⟩
theorem Tn {f:Value->Value->Sem Value}{g:Int->Int->Int}
  (rule:∀ (i j:Int) (t u:Tok) (s:Shared) (Q:Value->Shared->Prop) (E:Value->Shared->Prop),Q (.int (g i j) s.toks) { s with toks:=s.toks + 1 }->wpAny (model X.prog X.w) X.A (f (.int i t) (.int j u)) Q E s) :
  iD X f (MD λi j=>.int (g i j)):=by
 intro ai s σ H x y v u Q I rx ry h;obtain ⟨i,j,rfl,rfl,q⟩:=h;obtain ⟨t,rfl⟩:=rx;obtain ⟨t',rfl⟩:=ry;exact rule i j t t' s _ _ ⟨.int (g i j),H,I.tok _,⟨_,rfl⟩,q⟩
theorem QC {f:Value->Value->Sem Value}{g:Int->Int->Bool}
  (rule:∀ (i j:Int) (t u:Tok) (s:Shared) (Q:Value->Shared->Prop) (E:Value->Shared->Prop),Q (.bool (g i j)) s->wpAny (model X.prog X.w) X.A (f (.int i t) (.int j u)) Q E s) :
  iD X f (MD λi j=>.bl (g i j)):=by
 intro ai s σ H x y v u Q I rx ry h;obtain ⟨i,j,rfl,rfl,q⟩:=h;obtain ⟨t,rfl⟩:=rx;obtain ⟨t',rfl⟩:=ry;exact rule i j t t' s _ _ ⟨.bl (g i j),H,I,rfl,q⟩
def Pc (i j:Int):Prop:=0<=j/\j<=1000000/\i.natAbs < 2 ^ 64
def My (i j:Int):Prop:=(-(2 ^ 64) < i/\i < 2 ^ 64)\/(-(2 ^ 64) < j/\j < 2 ^ 64)
theorem My.ok {i j:Int}(h:My i j):IntMulOk i j:=by
 rcases h with ⟨h1,h2⟩ | ⟨h1,h2⟩
 ·exact .of_left (intBits_le_64 h1 h2)
 ·exact .of_right (intBits_le_64 h1 h2)
theorem wO:iD X (binaryOp .Add) (MD λi j=>.int (i + j)):=Tn λ_ _ _ _ _ _ _ q=>add_int q
theorem qY:iD X (binaryOp .Sub) (MD λi j=>.int (i - j)):=Tn λ_ _ _ _ _ _ _ q=>sub_int q
theorem cY:iD X (binaryOp .Mult) (rI My λi j=>.int (i * j)):=YC λ_ _ _ _ _ _ _ hc q=>mul_int q hc.ok
theorem dP:iD X (binaryOp .Mod) (rI (λ_ j=>0 < j) λi j=>.int (i % j)):=YC λi j _ _ _ _ _ hc q=>by
 have h1:(0:Int) < j:=hc;exact mod_int' (by omega) (by rw [Int.fmod_eq_emod_of_nonneg i (by omega)];exact q)
theorem jq:iD X (binaryOp .Pow) (rI Pc λi j=>.int (i ^ j.toNat)):=YC λ_ _ _ _ _ _ _ hc q=>pow_int_small hc.1 hc.2.1 hc.2.2 q
theorem Tj:iD X (binaryOp .BitXor) (MD λi j=>.int (Builtin.bitXor i j)):=Tn λ_ _ _ _ _ _ _ q=>xor_int q
theorem unI {f:Value->Sem Value}{g:Int->Int}
  (rule:∀ (i:Int) (t:Tok) (s:Shared) (Q:Value->Shared->Prop) (E:Value->Shared->Prop),Q (.int (g i) s.toks) { s with toks:=s.toks + 1 }->wpAny (model X.prog X.w) X.A (f (.int i t)) Q E s) :
  UnR X f (rU λi=>.int (g i)):=by
 intro ai s σ H x v Q I rx h;obtain ⟨i,rfl,q⟩:=h;obtain ⟨t,rfl⟩:=rx;exact rule i t s _ _ ⟨.int (g i),H,I.tok _,⟨_,rfl⟩,q⟩
theorem nY:UnR X (unaryOp .USub) (rU λi=>.int (-i)):=unI λ_ _ _ _ _ q=>neg_int q
end
def VQ:V->Bool
 | .cK=>true | .int _=>true | .bl _=>true | .str _=>true | _=>false
def Yp:V->Bool
 | .cK=>true | .int _=>true | .str _=>true | _=>false
def Yq:V->Bool
 | .cK=>true | .bl _=>true | .str _=>true | _=>false
def scY:V->Bool
 | .MM _=>true | _=>false
def Nv:V->V->Bool
 | .cK,y=>VQ y | .int _,y=>Yp y | .bl _,y=>Yq y | .str _,y=>VQ y | .MM _,y=>scY y | _,_=>false
def Yx:R2:=λx y H Q=>Nv x y=true/\Q (.bl (decide (x=y))) H
def Yw:R2:=λx y H Q=>Nv x y=true/\Q (.bl (!decide (x=y))) H
theorem K7 {i j:Int}:decide (V.int i=V.int j)=(i == j):=by rw [Bool.eq_iff_iff];simp
theorem OR {i j:Bool}:decide (V.bl i=V.bl j)=(i == j):=by rw [Bool.eq_iff_iff];simp
theorem K6 {i j:Str}:decide (V.str i=V.str j)=(i == j):=by rw [Bool.eq_iff_iff];simp
theorem K8 {i j:Array UInt8}:decide (V.MM i=V.MM j)=(i.toList == j.toList):=by rw [Bool.eq_iff_iff];cases i;cases j;simp
section
variable {X:Cx}{a b c:Expr}{ta tb tc:TE}{pos:Pos}
theorem wj {ai:List (Addr×Obj)}{σ:St}{H:Hp}{s:Shared}{Q:VK}{k k':Bool}(I:Inv X ai σ H s)(q:Q (.bl k) H)(e:k=k'):EP X ai σ Q (.bool k') s:=by subst e;exact ⟨.bl k,H,I,rfl,q⟩
theorem qT:iD X (compareOp .Eq) Yx:=by
 intro ai s σ H x y v u Q I rx ry h;obtain ⟨hs,q⟩:=h;cases x with
 | cK=>
  cases rx;cases y with
  | cK=>cases ry;exact PySem.EqNone.eq_none_none (wj I q (by simp))
  | bl j=>cases ry;exact PySem.EqNone.eq_none_bool (wj I q (by simp))
  | int j=>obtain ⟨t',rfl⟩:=ry;exact PySem.EqNone.eq_none_int (wj I q (by simp))
  | str j=>obtain ⟨t',rfl⟩:=ry;exact PySem.EqNone.eq_none_str (wj I q (by simp))
  | _=>exact absurd (show false=true from hs) zQ
 | bl i=>
  cases rx;cases y with
  | cK=>cases ry;exact PySem.EqNone.eq_bool_none (wj I q (by simp))
  | bl j=>cases ry;exact eq_bool (wj I q OR)
  | str j=>obtain ⟨t',rfl⟩:=ry;exact PySem.EqMixed.eq_bool_str (wj I q (by simp))
  | _=>exact absurd (show false=true from hs) zQ
 | int i=>
  obtain ⟨t,rfl⟩:=rx;cases y with
  | cK=>cases ry;exact PySem.EqNone.eq_int_none (wj I q (by simp))
  | int j=>obtain ⟨t',rfl⟩:=ry;exact eq_int (wj I q K7)
  | str j=>obtain ⟨t',rfl⟩:=ry;exact PySem.EqMixed.eq_int_str (wj I q (by simp))
  | _=>exact absurd (show false=true from hs) zQ
 | str i=>
  obtain ⟨t,rfl⟩:=rx;cases y with
  | cK=>cases ry;exact PySem.EqNone.eq_str_none (wj I q (by simp))
  | bl j=>cases ry;exact PySem.EqMixed.eq_str_bool (wj I q (by simp))
  | int j=>obtain ⟨t',rfl⟩:=ry;exact PySem.EqMixed.eq_str_int (wj I q (by simp))
  | str j=>obtain ⟨t',rfl⟩:=ry;exact eq_str (wj I q K6)
  | _=>exact absurd (show false=true from hs) zQ
 | MM i=>
  obtain ⟨t,rfl⟩:=rx;cases y with
  | MM j=>obtain ⟨t',rfl⟩:=ry;exact PySem.W.eq_bytes (wj I q K8)
  | _=>exact absurd (show false=true from hs) zQ
 | _=>cases y <;> exact absurd (show false=true from hs) zQ
theorem kW:iD X (compareOp .NotEq) Yw:=by
 intro ai s σ H x y v u Q I rx ry h;obtain ⟨hs,q⟩:=h;cases x with
 | cK=>
  cases rx;cases y with
  | cK=>cases ry;exact PySem.EqNone.ne_none_none (wj I q (by simp))
  | bl j=>cases ry;exact PySem.EqNone.ne_none_bool (wj I q (by simp))
  | int j=>obtain ⟨t',rfl⟩:=ry;exact PySem.EqNone.ne_none_int (wj I q (by simp))
  | str j=>obtain ⟨t',rfl⟩:=ry;exact PySem.EqNone.ne_none_str (wj I q (by simp))
  | _=>exact absurd (show false=true from hs) zQ
 | bl i=>
  cases rx;cases y with
  | cK=>cases ry;exact PySem.EqNone.ne_bool_none (wj I q (by simp))
  | bl j=>cases ry;exact ne_bool (wj I q (congrArg not OR))
  | str j=>obtain ⟨t',rfl⟩:=ry;exact PySem.EqMixed.ne_bool_str (wj I q (by simp))
  | _=>exact absurd (show false=true from hs) zQ
 | int i=>
  obtain ⟨t,rfl⟩:=rx;cases y with
  | cK=>cases ry;exact PySem.EqNone.ne_int_none (wj I q (by simp))
  | int j=>obtain ⟨t',rfl⟩:=ry;exact ne_int (wj I q (congrArg not K7))
  | str j=>obtain ⟨t',rfl⟩:=ry;exact PySem.EqMixed.ne_int_str (wj I q (by simp))
  | _=>exact absurd (show false=true from hs) zQ
 | str i=>
  obtain ⟨t,rfl⟩:=rx;cases y with
  | cK=>cases ry;exact PySem.EqNone.ne_str_none (wj I q (by simp))
  | bl j=>cases ry;exact PySem.EqMixed.ne_str_bool (wj I q (by simp))
  | int j=>obtain ⟨t',rfl⟩:=ry;exact PySem.EqMixed.ne_str_int (wj I q (by simp))
  | str j=>obtain ⟨t',rfl⟩:=ry;exact ne_str (wj I q (congrArg not K6))
  | _=>exact absurd (show false=true from hs) zQ
 | MM i=>
  obtain ⟨t,rfl⟩:=rx;cases y with
  | MM j=>obtain ⟨t',rfl⟩:=ry;exact PySem.W.ne_bytes (wj I q (congrArg not K8))
  | _=>exact absurd (show false=true from hs) zQ
 | _=>cases y <;> exact absurd (show false=true from hs) zQ
theorem gS:iD X (compareOp .Lt) (MD λi j=>.bl (decide (i < j))):=QC λ_ _ _ _ _ _ _ q=>lt_int q
theorem fD:iD X (compareOp .LtE) (MD λi j=>.bl (decide (i<=j))):=QC λ_ _ _ _ _ _ _ q=>le_int q
theorem fE:iD X (compareOp .Gt) (MD λi j=>.bl (decide (j < i))):=QC λ_ _ _ _ _ _ _ q=>gt_int q
theorem nj:iD X (compareOp .GtE) (MD λi j=>.bl (decide (j<=i))):=QC λ_ _ _ _ _ _ _ q=>ge_int q
theorem az (b:Expr){op:CmpOp}(h:op≠.In:=by decide)(h2:op≠.NotIn:=by decide):behindInMarks op b=false:=by
 have e1:(op == CmpOp.In)=false:=by cases op <;> first | rfl | exact absurd rfl h
 have e2:(op == CmpOp.NotIn)=false:=by cases op <;> first | rfl | exact absurd rfl h2
 cases b <;> simp [behindInMarks,e1,e2]
theorem wx {op:CmpOp}{r:R2}(ho:iD X (compareOp op) r)(ha:PE X a ta)(hb:PE X b tb)(hm:behindInMarks op b=false):PE X (.Compare a [op] [b] pos) (Sv r ta tb):=by intro ai s σ H Q I h;exact wpAny_Compare1 (UL ha hb I h λv u s2 x y H2 I2 rx ry q=>ho ai s2 σ H2 x y v u Q I2 rx ry q) hm
def p6 (t:TE):TT:=fun σ H Q=>t σ H λx H'=>∃ k,x=.bl k/\Q k H'
theorem wD {op:CmpOp}{r:R2}(ho:iD X (compareOp op) r)(ha:PE X a ta)(hb:PE X b tb)(hm:behindInMarks op b=false):PT X (.Compare a [op] [b] pos) (p6 (Sv r ta tb)):=by intro ai s σ H Q I h;refine wpAny_isTrue_Compare1 (aR (ha ai s σ H _ I h) λv s1 Zz=>?_) hm;obtain ⟨x,H1,I1,r1,q1⟩:=Zz;refine aR (hb ai s1 σ H1 _ I1 q1) λu s2 Zy=>?_;obtain ⟨y,H2,I2,r2,q2⟩:=Zy;refine aR (ho ai s2 σ H2 x y v u _ I2 r1 r2 q2) λc s3 Zx=>?_;obtain ⟨z,H3,I3,r3,k,e,q3⟩:=Zx;subst e;cases r3;exact wpAny_truthy_bool ⟨H3,I3,q3⟩
def kD (r r':R2)(ta tb tc:TE):TE:=fun σ H Q=>ta σ H λx H1=>tb σ H1 λy H2=>r x y H2 λz H3=>∃ k,z=.bl k /\
 (if k=true then tc σ H3 λw' H4=>r' y w' H4 Q else Q (.bl false) H3)
theorem NQ {op To:CmpOp}{r r':R2}(ho:iD X (compareOp op) r)(sO:iD X (compareOp To) r')(ha:PE X a ta)(hb:PE X b tb)(hc:PE X c tc)
  (hm:lastMarks [op,To] [b,c]=false:=by with_unfolding_all rfl):PE X (.Compare a [op,To] [b,c] pos) (kD r r' ta tb tc):=by
 intro ai s σ H Q I h;refine Compare_chain (aR (ha ai s σ H _ I h) λv s1 Zw=>?_) hm;obtain ⟨x,H1,I1,r1,q1⟩:=Zw;refine chain_link (aR (hb ai s1 σ H1 _ I1 q1) λu s2 Zv=>?_);obtain ⟨y,H2,I2,r2,q2⟩:=Zv;refine aR (ho ai s2 σ H2 x y v u _ I2 r1 r2 q2) λd s3 Zu=>?_;obtain ⟨z,H3,I3,r3,k,e,q3⟩:=Zu;subst e;cases r3;refine wpAny_truthy_bool ?_;cases k with
 | false=>exact ite_ff ⟨.bl false,H3,I3,rfl,q3⟩
 | true=>exact ite_tt (chain_last (aR (hc ai s3 σ H3 _ I3 q3) λw' s4 ⟨z',H4,I4,r4,q4⟩=>sO ai s4 σ H4 y z' u w' Q I4 r2 r4 q4))
theorem NG {op To:CmpOp}{r r':R2}(ho:iD X (compareOp op) r)(sO:iD X (compareOp To) r')(ha:PE X a ta)(hb:PE X b tb)(hc:PE X c tc)
  (hm:lastMarks [op,To] [b,c]=false:=by with_unfolding_all rfl):PT X (.Compare a [op,To] [b,c] pos) (p6 (kD r r' ta tb tc)):=by
 intro ai s σ H Q I h;refine isTrue_chain (aR (ha ai s σ H _ I h) λv s1 Zt=>?_) hm;obtain ⟨x,H1,I1,r1,q1⟩:=Zt;refine test_link (aR (hb ai s1 σ H1 _ I1 q1) λu s2 Zs=>?_);obtain ⟨y,H2,I2,r2,q2⟩:=Zs;refine aR (ho ai s2 σ H2 x y v u _ I2 r1 r2 q2) λd s3 Zr=>?_;obtain ⟨z,H3,I3,r3,k,e,q3⟩:=Zr;subst e;cases r3;refine wpAny_truthy_bool ?_;cases k with
 | false=>
  obtain ⟨k',e',q'⟩:=q3;cases e';exact ite_ff ⟨H3,I3,q'⟩
 | true=>
  refine ite_tt (test_last (aR (hc ai s3 σ H3 _ I3 q3) λw' s4 Zq=>?_));obtain ⟨z',H4,I4,r4,q4⟩:=Zq;refine aR (sO ai s4 σ H4 y z' u w' _ I4 r2 r4 q4) λd' s5 Zp=>?_;obtain ⟨z2,H5,I5,r5,k2,e2,q5⟩:=Zp;subst e2;cases r5;exact wpAny_truthy_bool ⟨H5,I5,q5⟩
theorem lD:(sizeLine:Nat) < 2 ^ 63:=by rw [sizeLine_eq];decide
theorem vals1 {x:V}{us:List Value}(r:Vals [x] us):∃ u,us=[u]/\RelV x u:=by
 cases r with
 | cons r1 r2=>cases r2;exact ⟨_,rfl,r1⟩
theorem vals2 {x y:V}{us:List Value}(r:Vals [x,y] us):∃ u w',us=[u,w']/\RelV x u/\RelV y w':=by
 cases r with
 | cons r1 r2=>
  cases r2 with
  | cons r3 r4=>cases r4;exact ⟨_,_,rfl,r1,r3⟩
theorem nK (hc:X.calm=true):bZ X (.builtin "max") (λxs H Q=>∃ i j,xs=[.int i,.int j]/\Q (.int (if j > i then j else i)) H):=by
 intro ai s σ H xs us Q I r h;obtain ⟨i,j,rfl,q⟩:=h;obtain ⟨u,w',rfl,⟨t,rfl⟩,⟨t',rfl⟩⟩:=vals2 r;refine max_two_ints (I.ok.hd hc) λh' tk k=>⟨_,H,I.kept k,?_,q⟩;by_cases hj:j > i
 ·rw [if_pos hj,if_pos hj];exact ⟨_,rfl⟩
 ·rw [if_neg hj,if_neg hj];exact ⟨_,rfl⟩
theorem cW (hc:X.calm=true):bZ X (.builtin "min") (λxs H Q=>∃ i j,xs=[.int i,.int j]/\Q (.int (if j < i then j else i)) H):=by
 intro ai s σ H xs us Q I r h;obtain ⟨i,j,rfl,q⟩:=h;obtain ⟨u,w',rfl,⟨t,rfl⟩,⟨t',rfl⟩⟩:=vals2 r;refine min_two_ints (I.ok.hd hc) λh' tk k=>⟨_,H,I.kept k,?_,q⟩;by_cases hj:j < i
 ·rw [if_pos hj,if_pos hj];exact ⟨_,rfl⟩
 ·rw [if_neg hj,if_neg hj];exact ⟨_,rfl⟩
theorem jC:bZ X (.type "int") (λxs H Q=>(∃ i,xs=[.int i]/\Q (.int i) H)\/∃ k,xs=[.bl k]/\Q (.int (if k then 1 else 0)) H):=by
 intro ai s σ H xs us Q I r h;rcases h with ⟨i,rfl,q⟩ | ⟨k,rfl,q⟩
 ·obtain ⟨u,rfl,t,rfl⟩:=vals1 r;exact call_int_int ⟨.int i,H,I,⟨_,rfl⟩,q⟩
 ·obtain ⟨u,rfl,r1⟩:=vals1 r;cases r1;exact call_int_bool ⟨.int (if k then 1 else 0),H,I.tok _,⟨_,rfl⟩,q⟩
end
structure UU (h:Heap) (x dx C:Addr) (mA:Str->Option Value):Prop where
 obj:h.get? x=some (PySem.W.instObj C dx)
 ns:h.Ns1 dx mA
 ne:dx≠x
theorem LW {h:Heap}{dx:Addr}{mA:Str->Option Value}(n:h.Ns1 dx mA):∃ od,h.get? dx=some od/\∀ name,PySem.W.lookIn name od=some (mA name):=by
 obtain ⟨o,es,ep,ho,hd,hk,_,hm⟩:=n;refine ⟨o,ho,λname=>?_⟩;have e:=hm name;unfold nsFind findBy at e;rw [<-Array.find?_toList] at e;unfold PySem.W.lookIn;rw [hd];dsimp only;split
 ·rename_i y q;rw [q] at e;exact congrArg some e
 ·rename_i q;rw [q] at e;have a:es.toList.any (·.refKey)=false:=by
   rw [List.any_eq_false];intro y hy;obtain ⟨z,t,acn⟩:=hk y (Array.mem_toList_iff.mp hy);simp [DictEntry.refKey,acn]
  have a':¬ es.toList.any (·.refKey)=true:=by rw [a];exact zQ
  rw [if_neg a'];exact congrArg some e
theorem UU.look {h:Heap}{x dx C:Addr}{mA:Str->Option Value}(I:UU h x dx C mA):∃ od,PySem.W.InstAt h x (PySem.W.instObj C dx) C (some od)/\∀ name,PySem.W.lookIn name od=some (mA name):=
 let ⟨od,ho,hl⟩:=LW I.ns
 ⟨od,⟨I.obj,rfl,rfl,ho⟩,hl⟩
section
variable {prog:Program}{w:World}{A:Around}{E:Value->Shared->Prop}{s:Shared}{K:PySem.W.Frag}{x dx C f:Addr}{mA:Str->Option Value}{name:Str}{v:Value}
end
section
variable {P:Program}{w:World}{H H':Hp}{h h':Heap}{a C dx:Addr}{fs fs':List (Str×V)}
theorem QN (bq:gY P w H h)(e:H a=some (.ins C dx fs)):∃ mA,UU h a dx C mA/\(∀ f,UP (fs.lookup f) (mA f))/\PySem.Within mA (fs.map (·.1))/\fs.length<=1000/\H dx=some (.own a):=by obtain ⟨d,z,ne,ob,mA,n,r,q⟩:=(show bD P w H h a (.ins C dx fs) from bq a _ e);exact ⟨mA,⟨ob,n,ne⟩,r,q,z,d⟩
end
structure Cls (K:PySem.W.Frag) (C:Addr):Prop where
 pg:PySem.W.plainGet K C Str.empty=true
 hd:PySem.W.hasDictIn K C=true
 po:PySem.W.plainOver K C=true
 sa:PySem.W.findIn K (.ref C) "__setattr__" = some (some (.builtin "object.__setattr__"))
theorem Cls.get {K:PySem.W.Frag}{C:Addr}(c:Cls K C)(f:Str):PySem.W.plainGet K C f=true:=c.pg
section
variable {X:Cx}{ai:List (Addr×Obj)}{σ:St}{H:Hp}{s:Shared}{a C dx:Addr}{fs:List (Str×V)}{f:Str}{v:V}{A:Around}{E:Value->Shared->Prop}
end
section
variable {X:Cx}{o e value:Expr}{f:Str}{pos pos' So:Pos}{ta tv:TE}
end
section
variable {X:Cx}{ai:List (Addr×Obj)}{σ:St}{H:Hp}{s:Shared}{A:Around}{E:Value->Shared->Prop}{Q:Value->Shared->Prop}{c:Value}{b:Bool}
inductive jE (K:PySem.W.Frag) (H:Hp):V->Value->Prop where
 | cK:jE K H .cK (.type "NoneType")
 | bl (x:Bool):jE K H (.bl x) (.type "bool")
 | int (i:Int):jE K H (.int i) (.type "int")
 | str (x:Str):jE K H (.str x) (.type "str")
 | Q4 (x:UInt64):jE K H (.Q4 x) (.type "float")
 | lst {a:Addr}{xs:List V} (e:H a=some (.lst xs)):jE K H (.ref a) (.type "list")
 | sV {a:Addr}{o:Obj}{xs:List V} (e:H a=some (.sV o (.lst xs))):jE K H (.ref a) (.type "list")
 | tup {a:Addr}{xs:List V} (e:H a=some (.tup xs)):jE K H (.ref a) (.type "tuple")
 | dK {a:Addr}{iU:List (Key×V)} (e:H a=some (.dK iU)):jE K H (.ref a) (.type "dict")
 | dT {a:Addr}{iU:List (List Key×V)} (e:H a=some (.dT iU)):jE K H (.ref a) (.type "dict")
 | ins {a C dx:Addr}{fs:List (Str×V)} (e:H a=some (.ins C dx fs)) (cl:Cls K C) (ha:PySem.W.findIn K (.ref C) "__class__" = some (some (.builtin "object.__class__")))
   (hn:PySem.W.specialIn K (.builtin "object.__class__") "__get__" = some (some (.builtin "getset_descriptor.__get__"))) (htk:PySem.W.takesIn K (.builtin "object.__class__")=some true)
   (hm:PySem.W.mroIn K C (.type "object")=some true):jE K H (.ref a) (.ref C)
theorem L7 {x:V}{u t:Value}(I:Inv X ai σ H s)(rx:RelV x u)(ty:jE X.K H x t)(e:PySem.W.kitOne X.K t c=some b)(h:∀ tk,Q (.bool b) { s with toks:=tk }) :
  wpAny (model X.prog X.w) A (call (.builtin "isinstance") [u,c]) Q E s:=by
 cases ty with
 | cK=>cases (show u=Value.none from rx);exact yX PySem.W.kitx_none I.sF True.intro e (λz=>nomatch z) h
 | bl y=>cases (show u=Value.bool y from rx);exact yX PySem.W.kitx_bool I.sF True.intro e (λz=>nomatch z) h
 | int i=>obtain ⟨t,q⟩:=(show ∃ t,u=Value.int i t from rx);cases q;exact yX PySem.W.kitx_int I.sF True.intro e (λz=>nomatch z) h
 | str y=>obtain ⟨t,q⟩:=(show ∃ t,u=Value.str y t from rx);cases q;exact yX PySem.W.kitx_str I.sF True.intro e (λz=>nomatch z) h
 | Q4 y=>obtain ⟨t,q⟩:=(show ∃ t,u=Value.float y t from rx);cases q;exact yX PySem.W.kitx_float I.sF True.intro e (λz=>nomatch z) h
 | @lst a xs ea=>
  cases (show u=Value.ref a from rx);obtain ⟨_,_,n,_,h1⟩:=(show bD X.prog X.w H s.heap a (.lst xs) from I.bq a _ ea);exact yX PySem.W.kitx_list I.sF ⟨_,h1,rfl⟩ e (λz=>nomatch z) h
 | @sV a ob xs ea=>
  cases (show u=Value.ref a from rx);obtain ⟨_,_,_,n,_,h1⟩:=(show bD X.prog X.w H s.heap a (.sV ob (.lst xs)) from I.bq a _ ea);exact yX PySem.W.kitx_list I.sF ⟨_,h1,rfl⟩ e (λz=>nomatch z) h
 | @tup a xs ea=>
  cases (show u=Value.ref a from rx);obtain ⟨_,_,_,p⟩:=(show bD X.prog X.w H s.heap a (.tup xs) from I.bq a _ ea);obtain ⟨o,h1,h2,_⟩:=p;exact yX PySem.W.kitx_tuple I.sF ⟨o,h1,h2⟩ e (λz=>nomatch z) h
 | @dK a iU ea=>
  cases (show u=Value.ref a from rx);obtain ⟨_,_,vs,_,p⟩:=(show bD X.prog X.w H s.heap a (.dK iU) from I.bq a _ ea);obtain ⟨o,es,ep,h1,h2,_⟩:=p;exact yX PySem.W.kitx_dict I.sF ⟨o,h1,h2.1⟩ e (λz=>nomatch z) h
 | @dT a iU ea=>
  cases (show u=Value.ref a from rx);obtain ⟨_,_,xs,_,o,es,ep,h1,h2,_⟩:=(show bD X.prog X.w H s.heap a (.dT iU) from I.bq a _ ea);exact yX PySem.W.kitx_dict I.sF ⟨o,h1,h2.1⟩ e (λz=>nomatch z) h
 | @ins a C dx fs ea cl ha hn htk hm=>
  cases (show u=Value.ref a from rx);obtain ⟨mA,O,_⟩:=QN I.bq ea;obtain ⟨od,J,_⟩:=O.look;exact yX (PySem.W.kitx_own (cl.get _) cl.hd ha hn htk hm) I.sF J e (λz=>nomatch z) h
end
structure gb (k:Nat) (A:Around):Prop where
 hd:A.handled=none
 dp:A.depth + 3 * k + 5 < recursionLimit
 un:A.units + 16 * k + 200 < cLine
 gd:A.guards=some []
theorem gb.mono {j k:Nat}{A:Around}(r:gb k A)(h:j<=k):gb j A:=⟨r.hd,by have:=r.dp;omega,by have:=r.un;omega,r.gd⟩
theorem gb.deeper {k:Nat}{A:Around}(r:gb (k + 1) A)(env:Env):gb k (A.deeper env):=
 ⟨r.hd,by have:=r.dp;show A.depth + 1 + 3 * k + 5 < _;omega,by have:=r.un;show A.units + 3 + 16 * k + 200 < _;omega,r.gd⟩
theorem gb.depth {k:Nat}{A:Around}(r:gb k A):A.depth < recursionLimit:=by have:=r.dp;omega
theorem gb.units {k:Nat}{A:Around}(r:gb k A):A.units + 64 < cLine:=by have:=r.un;omega
def Nb:TA:=λ_ H Q=>Q [] H
def p8 (ta:TE)(tr:TA):TA:=fun σ H Q=>ta σ H λx H1=>tr σ H1 λxs H2=>Q (x::xs) H2
section
variable {X:Cx}{e:Expr}{es:List Expr}{te:TE}{t:TA}{pos:Pos}
theorem qo:PA X [] Nb:=λ_ _ _ _ H Q I h=>Calls.spliced_nil ⟨[],H,I,.nil,h⟩
theorem QB (ha:PE X e te)(hr:PA X es t)(hs:starEach (e::es) X.env=(false,eval e X.env)::starEach es X.env:=by rfl):PA X (e::es) (p8 te t):=by intro pos ai s σ H Q I h;rw [hs];show wpAny _ _ (spliced ((false,eval e X.env)::backTo pos (starEach es X.env))) _ _ s;refine Calls.spliced_cons (aR (ha ai s σ H _ I h) λu s1 Zo=>?_);obtain ⟨x,H1,I1,r1,q1⟩:=Zo;exact aR (hr pos ai s1 σ H1 _ I1 q1) λus s2 ⟨xs,H2,I2,r2,q2⟩=>⟨x::xs,H2,I2,.cons r1 r2,q2⟩
def PU (t:TA):TE:=fun σ H Q=>t σ H λxs H1=>xs.length<=sizeLine/\∀ p,H1 p=none->Q (.ref p) (upd H1 p (.tup xs))
def PY (t:TA):TE:=fun σ H Q=>t σ H λxs H1=>xs.length<=sizeLine/\∀ p,H1 p=none->Q (.ref p) (upd H1 p (.lst xs))
theorem qA {x1}(h:PA X es t):PE X (.Tuple es x1 pos) (PU t):=by intro ai s σ H Q I hq;refine wpAny_Tuple_spliced (aR (h pos ai s σ H _ I hq) λus s1 Zn=>?_);obtain ⟨xs,H1,I1,r,z,q⟩:=Zn;refine ⟨by rw [<-r.length];exact z,?_⟩;have hf:H1 s1.heap.objs.size=none:=I1.bq.fresh (zI _);refine ⟨.ref s1.heap.objs.size,upd H1 s1.heap.objs.size (.tup xs),I1.laid (t':=s1.toks) (λb u e=>Heap.get?_push_of_some _ e) (zI _) ?_,rfl,q _ hf⟩;exact ⟨⟨z,lu⟩,us,r,⟨_,Heap.get?_push_size _ rfl,rfl,_,rfl⟩⟩
theorem wX (h:PA X es t):PE X (.List es pos) (PY t):=by intro ai s σ H Q I hq;refine wpAny_List_spliced (aR (h pos ai s σ H _ I hq) λus s1 Zm=>?_);obtain ⟨xs,H1,I1,r,z,q⟩:=Zm;refine ⟨by rw [<-r.length];exact z,?_⟩;have hf:H1 s1.heap.objs.size=none:=I1.bq.fresh (zI _);refine ⟨.ref s1.heap.objs.size,upd H1 s1.heap.objs.size (.lst xs),I1.laid (t':=s1.toks) (λb u e=>Heap.get?_push_of_some _ e) (zI _) ?_,rfl,q _ hf⟩;exact ⟨z,us,0,r,Heap.get?_push_size _ rfl⟩
end
abbrev Sp:=List V->Hp->VK->XK->Prop
abbrev Pb:=List Env->Hp->Shared->XK->Value->Shared->Prop
structure Rk (P:Program) (w:World) (K:PySem.W.Frag) (mg:Str->Option Value) (base:Heap) (A:Around) (outer:List Env) (s:Shared) (H:Hp):Prop where
 frames:A.frames=some outer
 mod:Mod K mg base
 bs:∀ b o,base.get? b=some o->s.heap.get? b=some o/\H b=none
 OW:base.objs.size<=s.heap.objs.size
 lV:s.heap.FunFrames base outer
 Vr:∀ b∈Mi outer,H b=none
 bq:gY P w H s.heap
 bare:AllBare s.gens
def CE (outer:List Env)(P:Program)(w:World)(H:Hp)(s:Shared)(Q:VK)(u:Value)(s':Shared):Prop:=
 ∃ v H',s'.os=s.os/\AllBare s'.gens/\Un (Mi outer) [] H H' s.heap s'.heap/\gY P w H' s'.heap/\RelV v u/\Q v H'
def CR (CX:Pb)(outer:List Env)(P:Program)(w:World)(H:Hp)(s:Shared)(Q:VK)(E:XK)(r:Result)(s':Shared):Prop:=
 match r with
 | .ok (.ret u)=>CE outer P w H s Q u s'
 | .ok _=>False
 | .error e=>CX outer H s E e s'
structure aQ (P:Program) (w:World) (K:PySem.W.Frag) (mg:Str->Option Value) (base:Heap) (CX:Pb) (k:Nat) (f:Addr) (fd:FuncData) (ps:List Str) (sp:Sp):Prop where
 len:∀ vs H Q E,sp vs H Q E->vs.length=ps.length
 run:∀ (A:Around) (outer:List Env) (s:Shared) (H:Hp) (args:Args) (us:List Value) (vs:List V) (Q:VK) (E:XK),gb k A->Rk P w K mg base A outer s H->BindsTo s fd args (ps.zip us)->Vals vs us->sp vs H Q E ->
  codeAny (model P w) A (.call (.ref f) args) (CR CX outer P w H s Q E) s
section
variable {X:Cx}{ai:List (Addr×Obj)}{σ:St}{H:Hp}{s s':Shared}
theorem Inv.ac0 (I:Inv X ai σ H s):Rk X.prog X.w X.K X.mg X.base X.A X.stack s H:=
 ⟨I.ok.frames,I.ok.mod,I.bs,zj I.ok.OW I.sz,I.stack,I.oz,I.bq,I.bare⟩
theorem Inv.after {Q:VK}{u:Value}(I:Inv X ai σ H s)(h:CE X.stack X.prog X.w H s Q u s'):EP X ai σ Q u s':=by obtain ⟨v,H',os,bare,un,bq,r,q⟩:=h;obtain ⟨hh,g,d,t,os'⟩:=s';obtain rfl:os'=s.os:=os;exact ⟨v,H',I.call (h':=hh) (g':=g) (d':=d) (t':=t) (ch:=[]) un bq bare (λb z=>absurd z (by simp)),r,q⟩
end
def vS (sp:Sp)(RX:List V)(E:XK)(t:TA):TE:=fun σ H Q=>t σ H λvs H1=>sp (vs++RX) H1 Q E
def Binds (K:PySem.W.Frag)(fd:FuncData)(ps:List Str)(ds:List Value):Prop:=
 ∀ (s:Shared) (us:List Value),K.In s.heap->(us++ds).length=ps.length->BindsTo s fd ⟨us,[]⟩ (ps.zip (us++ds))
theorem Binds.all {K:PySem.W.Frag}{fd:FuncData}{ps:List Str}(h:∀ us:List Value,us.length=ps.length->bindArgs fd ⟨us,[]⟩=pure (ps.zip us)):Binds K fd ps []:=λs us _ hl=>by
 rw [yK] at hl ⊢;exact .of_eq (h us hl)
def Passes (CX:Pb)(X:Cx)(E:XK):Prop:=∀ (ai:List (Addr×Obj)) (σ:St) (H:Hp) (s:Shared) (e:Value) (s':Shared),Inv X ai σ H s->CX X.stack H s E e s'->X.xe e s'
section
variable {X:Cx}{CX:Pb}{k:Nat}{f C:Addr}{fd:FuncData}{ps:List Str}{sp:Sp}{RX:List V}{ds:List Value}{E:XK}{x m:Str}{p pos apos:Pos}{e o:Expr}{es:List Expr}{ta:TE}{t:TA}
theorem SW {ai:List (Addr×Obj)}{σ:St}{H:Hp}{s:Shared}{Q:VK}{us:List Value}{vs:List V}(F:aQ X.prog X.w X.K X.mg X.base CX k f fd ps sp)(hr:gb k X.A)(hb:Binds X.K fd ps ds)(hd:Vals RX ds)(hx:Passes CX X E)
  (I:Inv X ai σ H s) (r:Vals vs us) (h:sp (vs++RX) H Q E):wpAny (model X.prog X.w) X.A (call (.ref f) us) (EP X ai σ Q) X.xe s:=by
 have r2:Vals (vs++RX) (us++ds):=r.append hd;have hl:(us++ds).length=ps.length:=by rw [<-r2.length];exact F.len _ _ _ _ h
 refine wpAny_call (codeAny_mono (F.run X.A X.stack s H ⟨us,[]⟩ (us++ds) (vs++RX) Q E hr I.ac0 (hb s us I.sF hl) r2 h) λr s' hq=>?_);cases r with
 | error e=>exact hx ai σ H s e s' I hq
 | ok fl=>
  cases fl with
  | ret u=>exact I.after hq
  | next=>exact False.elim hq
  | brk=>exact False.elim hq
  | cont=>exact False.elim hq
theorem xq (F:aQ X.prog X.w X.K X.mg X.base CX k f fd ps sp)(hr:gb k X.A)(hg:Gl X x)(hm:X.mg x=some (.ref f))(hk:zM X.K (.ref f)=true)(hb:Binds X.K fd ps ds)(hd:Vals RX ds)(hx:Passes CX X E)
  (ha:PA X (e::es) t) (Xv:(x == ("__debug__" : Str))=false:=by decide) (he:starEach (e::es) X.env=(false,eval e X.env)::starEach es X.env:=by rfl) (Ue:(backTo pos (starEach es X.env)).any (·.1)=false:=by rfl) :
  PE X (.Call (.Name x p) (e::es) [] pos) (vS sp RX E t):=by
 intro ai s σ H Q I h;refine wpAny_Call_Name_kw (QJ I hg hm ?_ Xv);refine PySem.W.callWith_K (h₀:=X.base) I.ok.mod.kin hk (aR (ha pos ai s σ H _ I h) λus s1 Zl=>?_) he Ue;obtain ⟨vs,H1,I1,r,q⟩:=Zl;refine ⟨I1.sF,?_⟩;exact SW F hr hb hd hx I1 r q
end
section
variable {X:Cx}{CX:Pb}{k:Nat}{f C:Addr}{fd:FuncData}{ps ks:List Str}{sp:Sp}{E:XK}{x m:Str}{p pos apos agJ:Pos}{e o:Expr}{es:List Expr}{kws:List Keyword}{te ta:TE}{t tk:TA}{nm:Option Str}
variable {g:List Value->List Value->List Value}{gV:List V->List V->List V}
end
structure aC (N P:List Str) (sc:Scope):Prop where
 kind:sc.kind=.function
 co:sc.isCoroutine=false
 gen:sc.isGenerator=false
 nd:N.Nodup
 pre:N.take P.length=P
 par:∀ x∈P,sc.names.lookup x=some .local\/sc.names.lookup x=some .cell
 Tr:∀ y∈sc.names,y.2≠.free
theorem nM {kindOf:Str->Option NameKind}{x:Str}:∀ {binds:List (Str×Value)}{m:Str->Option Value},(∀ v,(x,v) ∉ binds)->bindL kindOf binds m x=m x
 | [],_,_=>rfl
 | (n,v)::r,m,h=>by
  unfold bindL;rw [nM λw hw=>h w (zU _ hw)];split
  ·have:x≠n:=by rintro rfl;exact h v za
   simp [this]
  ·rfl
theorem nO {kindOf:Str->Option NameKind}{x:Str}:∀ {binds:List (Str×Value)}{m:Str->Option Value},(∀ v,(x,v) ∉ binds)->bindC kindOf binds m x=m x
 | [],_,_=>rfl
 | (n,v)::r,m,h=>by
  unfold bindC;rw [nO λw hw=>h w (zU _ hw)];split
  ·rfl
  ·have:x≠n:=by rintro rfl;exact h v za
   simp [this]
theorem nN {kindOf:Str->Option NameKind}{x:Str}{v:Value}:∀ {P:List Str}{vs:List Value}{i:Nat}{m:Str->Option Value},P.Nodup->P[i]?=some x->vs[i]?=some v->kindOf x=some .local ->
  bindL kindOf (P.zip vs) m x=some v
 | [],_,_,_,_,h,_,_=>by simp at h
 | _::_,[],_,_,_,_,h,_=>by simp at h
 | p::P,w::vs,0,m,nd,h1,h2,hk=>by
  simp at h1 h2;subst h1;subst h2;show bindL kindOf ((p,w)::P.zip vs) m p=_;unfold bindL;rw [nM λv hv=>(xX.mp nd).1 (List.of_mem_zip hv).1,if_pos hk];simp
 | p::P,w::vs,i + 1,m,nd,h1,h2,hk=>by
  show bindL kindOf ((p,w)::P.zip vs) m x=_;unfold bindL;exact nN (i:=i) (xX.mp nd).2 (by simpa using h1) (by simpa using h2) hk
theorem nP {kindOf:Str->Option NameKind}{x:Str}{v:Value}:∀ {P:List Str}{vs:List Value}{i:Nat}{m:Str->Option Value},P.Nodup->P[i]?=some x->vs[i]?=some v->kindOf x≠some .local ->
  bindC kindOf (P.zip vs) m x=some v
 | [],_,_,_,_,h,_,_=>by simp at h
 | _::_,[],_,_,_,_,h,_=>by simp at h
 | p::P,w::vs,0,m,nd,h1,h2,hk=>by
  simp at h1 h2;subst h1;subst h2;show bindC kindOf ((p,w)::P.zip vs) m p=_;unfold bindC;rw [nO λv hv=>(xX.mp nd).1 (List.of_mem_zip hv).1,if_neg hk];simp
 | p::P,w::vs,i + 1,m,nd,h1,h2,hk=>by
  show bindC kindOf ((p,w)::P.zip vs) m x=_;unfold bindC;exact nP (i:=i) (xX.mp nd).2 (by simpa using h1) (by simpa using h2) hk
def start (N:List Str)(vs:List V):St:=vs.map some++List.replicate (N.length - vs.length) none
def pA (CX:Pb)(P:Program)(w:World)(K:PySem.W.Frag)(mg:Str->Option Value)(base:Heap)(N:List Str)(qual:Str)(scope:Scope)(f:Addr)(cd:Value)(A:Around)(outer:List Env)(s:Shared)(H:Hp)(E:XK):Cx where
 prog:=P
 w:=w
 K:=K
 mg:=mg
 base:=base
 A:=A.deeper (envOfC qual scope s.heap.objs.size f cd)
 N:=N
 cO:=s
 Mx:=H
 env:=envOfC qual scope s.heap.objs.size f cd
 outer:=outer
 stack:=envOfC qual scope s.heap.objs.size f cd::outer
 ex:=[]
 calm:=true
 fn:=λ_=>true
 pn:=[]
 xe:=λe s'=>wpAny (model P w) (A.deeper (envOfC qual scope s.heap.objs.size f cd)) (leaving (envOfC qual scope s.heap.objs.size f cd) e) (λ_ VV=>CX outer H s E e VV) (λe' VV=>CX outer H s E e' VV) s'
theorem tF {sc:Scope}{n:Nat}{x:Str}(h:sc.names.lookup x=some .cell):∃ c,(cellsFrom n sc.names []).lookup x=some c:=by have q:=PySem.W.cellsFrom_some sc.names n [] (.inl h);exact Option.isSome_iff_exists.mp q
theorem L8 {CX:Pb}{P:Program}{w:World}{K:PySem.W.Frag}{mg:Str->Option Value}{base:Heap}{N ps:List Str}{qual:Str}{scope:Scope}{f:Addr}{cd:Value}{A:Around}{outer:List Env}{s s1:Shared}{H:Hp}{E:XK}{us:List Value}{vs:List V}
  (S:aC N ps scope) (hd:A.handled=none) (e0:Rk P w K mg base A outer s H) (hl:vs.length=ps.length) (r:Vals vs us)
  (x:InCallC s s.heap.objs.size (bindL (envOfC qual scope s.heap.objs.size f cd).kindOf (ps.zip us) λ_=>none) (cellsFrom (s.heap.objs.size + 1) scope.names []) (bindC (envOfC qual scope s.heap.objs.size f cd).kindOf (ps.zip us) λ_=>none) s1) :
  Inv (pA CX P w K mg base N qual scope f cd A outer s H E) [] (start N vs) H s1:=by
 have Ue:ps.length<=N.length:=by have:=congrArg List.length S.pre;rw [zR] at this;omega
 obtain ⟨h1,tk,rfl,hk⟩:=x.done;have Wg:∀ b:Addr,b ∉ (pA CX P w K mg base N qual scope f cd A outer s H E).ex:=λb z=>absurd (show b∈([]:List Addr) from z) (by simp);refine ⟨⟨e0.mod,S.kind,rfl,rfl,zI _,λy z c h1 h2=>?_,λy hy=>?_,λy c _ h=>?_,λ_=>hd,Around.frames_deeper e0.frames,.inr ⟨rfl,rfl⟩,λb z=>absurd z (Wg b),e0.bs,e0.OW,λb _ _=>Wg b,λb z=>absurd z (Wg b),e0.lV,e0.Vr⟩,
  rfl,e0.bare,Un.kept hk,⟨_,x.toInCall.ns,λi y v h1 h2 h3=>?_⟩,λy c h=>⟨_,x.cell y c h⟩,e0.bq.fresh (zI _),λy c h=>?_,λp hp=>absurd (show p∈([]:List (Addr×Obj)) from hp) (by simp),e0.bq.kept hk,?_⟩
 ·exact name_of_addr x.apart (zh h1) (zh h2)
 ·have hy:scope.names.lookup y=some .cell\/scope.names.lookup y=some .free:=hy;rcases hy with hy | hy
  ·exact tF hy
  ·exact absurd rfl (S.Tr _ (zh hy))
 ·exact xC (x.above y c (zh h))
 ·have hi:i < vs.length:=by
   unfold start at h2;by_cases hi:i < vs.length
   ·exact hi
   ·rw [yC (by simpa using hi)] at h2;rw [yT] at h2;split at h2 <;> cases h2
  have ha:vs[i]?=some v:=by
   unfold start at h2;rw [yJ (by simpa using hi),zF] at h2;cases e:vs[i]? with
   | none=>rw [e] at h2;cases h2
   | some a=>rw [e] at h2;cases h2;rfl
  obtain ⟨u,hu,rv⟩:=r.get ha;have hp:ps[i]?=some y:=by
   rw [<-S.pre,List.getElem?_take_of_lt (by omega)];exact h1
  have ndP:ps.Nodup:=by rw [<-S.pre];exact S.nd.sublist (List.take_sublist _ _)
  refine ⟨u,rv,?_⟩;rcases S.par y (zB hp) with k | k
  ·exact .inl ⟨k,nN ndP hp hu k⟩
  ·obtain ⟨c,e⟩:=tF (n:=s.heap.objs.size + 1) k;refine .inr ⟨.inl k,c,e,?_⟩;have q:=x.cell y c e;rw [nP ndP hp hu (by show scope.names.lookup y≠_;rw [k];decide)] at q;exact q
 ·exact e0.bq.fresh (xC (x.above y c (zh h)))
 ·unfold start;show _=N.length;rw [zO,zA,yb];omega
theorem XJ {CX:Pb}{P:Program}{w:World}{K:PySem.W.Frag}{mg:Str->Option Value}{base:Heap}{k:Nat}{f:Addr}{name qual:Str}{params:Arguments}{body:List Stmt}{scope:Scope}{dV kV doc pm bL ct oc:Value}{an od:Option Addr}
  {Rx:Array (Option Value)}{N ps:List Str}{sp:Sp} (lk:K.lookup f=some ⟨oc,od,.func (xZ name qual params body scope dV kV doc pm an bL ct),Rx⟩) (Oz:PySem.W.codeIn K bL qual=true) (S:aC N ps scope)
  (len:∀ vs H Q E,sp vs H Q E->vs.length=ps.length)
  (OA:∀ (A:Around) (outer:List Env) (s:Shared) (H:Hp) (vs:List V) (Q:VK) (E:XK),gb k (A.deeper (envOfC qual scope s.heap.objs.size f bL))->sp vs H Q E ->
   ∃ t,pQ (pA CX P w K mg base N qual scope f bL A outer s H E) body t/\t { nx:=λ_ H'=>Q .cK H',rt:=Q } (start N vs) H) :
  aQ P w K mg base CX (k + 1) f (xZ name qual params body scope dV kV doc pm an bL ct) ps sp:=by
 refine ⟨len,λA outer s H args us vs Q E hr e0 hb r RM=>?_⟩;have hl:=len _ _ _ _ RM;have KX:K.In s.heap:=e0.mod.kin.keeps λb o e=>(e0.bs b o e).1;have lim:s.heap.NoLimit:=e0.mod.nolimit.keeps λb o e=>(e0.bs b o e).1;have Xo:∀ y∈ps.zip us,scope.names.lookup y.1=some .local\/(scope.names.lookup y.1=some .cell/\((cellsFrom (s.heap.objs.size + 1) scope.names []).lookup y.1).isSome=true):=λ⟨n,v⟩ hy=>by
  rcases S.par n (List.of_mem_zip hy).1 with q | q
  ·exact .inl q
  ·exact .inr ⟨q,PySem.W.cellsFrom_some _ _ _ (.inl q)⟩
 refine codeAny_call_function hr.depth (KX _ _ lk) rfl S.co S.gen rfl (PySem.W.codeRec_of KX Oz) (hb _ _ _ _ ?_);refine wpAny_newFunctionEnv_cells S.kind Xo λenv he s1 x=>?_;subst he;refine ⟨lim.keeps x.toInCall.keep,codeAny_func ?_⟩;obtain ⟨t,ht,hq⟩:=OA A outer s H vs Q E (hr.deeper _) RM;have I:Inv (pA CX P w K mg base N qual scope f bL A outer s H E) [] (start N vs) H s1:=L8 S hr.hd e0 hl r x;refine wpAny_mono (ht [] s1 (start N vs) H _ I hq) (λfl s' hs=>?_) λe s' hs=>hs;have fin:∀ {bM:St}{H':Hp}{v:V}{u:Value},Inv (pA CX P w K mg base N qual scope f bL A outer s H E) [] bM H' s'->RelV v u->Q v H'->CE outer P w H s Q u s':=
  λ{bM H' v u} J rv q=>⟨v,H',J.os,J.bare,J.base,J.bq,rv,q⟩
 cases fl with
 | ret u=>
  obtain ⟨v,bM,H',J,rv,q⟩:=hs;exact fin J rv q
 | next=>
  obtain ⟨bM,H',J,q⟩:=hs;exact fin (v:=V.cK) (u:=Value.none) J rfl q
 | brk=>
  obtain ⟨_,_,_,q⟩:=hs;exact False.elim q
 | cont=>
  obtain ⟨_,_,_,q⟩:=hs;exact False.elim q
section
variable {X:Cx}{x:Str}{p pos:Pos}{e:Expr}{es:List Expr}{t:TA}{id T:String}{r:List V->Hp->VK->Prop}
def VF (r:List V->Hp->VK->Prop)(t:TA):TE:=fun σ H Q=>t σ H λvs H1=>r vs H1 Q
theorem xr (hc:bZ X (.builtin id) r)(hg:Gl X x)(hm:X.mg x=none)(hv:bootBuiltins x=some (.builtin id))(ha:PA X (e::es) t)(hn:x ≠ "__name__" := by decide)(Xv:(x == ("__debug__" : Str))=false:=by decide)
  (he:starEach (e::es) X.env=(false,eval e X.env)::starEach es X.env:=by rfl) (Ue:(backTo pos (starEach es X.env)).any (·.1)=false:=by rfl):PE X (.Call (.Name x p) (e::es) [] pos) (VF r t):=by
 intro ai s σ H Q I h;refine wpAny_Call_Name_kw (fc I hg hm hv ?_ hn Xv);exact PyProof.Rows.callWith_builtin1 (aR (ha pos ai s σ H _ I h) λus s1 ⟨vs,H1,I1,r1,q1⟩=>hc ai s1 σ H1 vs us Q I1 r1 q1) he Ue
theorem b9 (hc:bZ X (.type T) r)(hg:Gl X x)(hm:X.mg x=none)(hv:bootBuiltins x=some (.type T))(ha:PA X (e::es) t)(hn:x ≠ "__name__" := by decide)(Xv:(x == ("__debug__" : Str))=false:=by decide)
  (he:starEach (e::es) X.env=(false,eval e X.env)::starEach es X.env:=by rfl) (Ue:(backTo pos (starEach es X.env)).any (·.1)=false:=by rfl):PE X (.Call (.Name x p) (e::es) [] pos) (VF r t):=by
 intro ai s σ H Q I h;refine wpAny_Call_Name_kw (fc I hg hm hv ?_ hn Xv);exact yM (aR (ha pos ai s σ H _ I h) λus s1 ⟨vs,H1,I1,r1,q1⟩=>hc ai s1 σ H1 vs us Q I1 r1 q1) he Ue
end
section
variable {κ:Type} [DecidableEq κ]
end
theorem WV {P:Program}{w:World}{k:Key}{u:Value}(r:RelV (kV k) u):(cB P w).is k u=true:=by
 cases k with
 | inl i=>obtain ⟨t,e⟩:=(show ∃ t,u=Value.int i t from r);subst e;exact rZ P w i t
 | inr x=>obtain ⟨t,e⟩:=(show ∃ t,u=Value.str x t from r);subst e;exact rY P w x t
theorem ny {P:Program}{w:World}:∀ {ks:List Key}{us:List Value},Vals (ks.map kV) us->ItemsAre (cB P w) ks us
 | [],_,r=>by rw [yn] at r;cases r;exact .nil
 | k::ks,_,r=>by
  rw [zY] at r;cases r with
  | cons h t=>exact .cons (WV h) (ny t)
section
variable {P:Program}{w:World}{H:Hp}{h:Heap}{a:Addr}
theorem TV {ks:List Key}(ok:gY P w H h)(e:H a=some (.tup (ks.map kV))):(tupleKind (cB P w)).is h ks a:=by obtain ⟨_,aA,r,o,h1,h2,n,h3⟩:=(show bD P w H h a (.tup (ks.map kV)) from ok a _ e);exact ⟨o,aA.toArray,n,h1,h2,h3,by simpa using ny r⟩
end
section
variable {X:Cx}{ai:List (Addr×Obj)}{σ:St}{H:Hp}{s:Shared}{a:Addr}{y v:V}{u r:Value}{o:Option V}{A:Around}{E:Value->Shared->Prop}
end
section
variable {X:Cx}{ai:List (Addr×Obj)}{σ:St}{H:Hp}{s:Shared}{a:Addr}{iU:List (Key×V)}{k:Key}{u:Value}{A:Around}{E:Value->Shared->Prop}
end
section
variable {X:Cx}{o i e value:Expr}{pos pos' So:Pos}{td ty tv:TE}
end
section
variable {X:Cx}{pos:Pos}
end
section
variable {X:Cx}{ai:List (Addr×Obj)}{σ:St}{H:Hp}{s:Shared}{a:Addr}{y d:V}{u r:Value}{o:Option V}{A:Around}{E:Value->Shared->Prop}
end
section
variable {X:Cx}{o e f:Expr}{apos sZ:Pos}{td ty tx:TE}
end
section
variable {X:Cx}{ai:List (Addr×Obj)}{σ:St}{H:Hp}{s:Shared}{a:Addr}{iU:List (Key×V)}{A:Around}{E:Value->Shared->Prop}
end
section
variable {X:Cx}{ai:List (Addr×Obj)}{σ:St}{H:Hp}{s:Shared}{a:Addr}{y:V}{u:Value}{A:Around}{E:Value->Shared->Prop}
end
end L2
namespace HT
open PySem PyProof.Rows
section
open PySem.SeqAt
open PySem.AutoSeq1 (wpAny_loadPart')
open PySem.MeetsSeq PySem.MeetsSeq2 PySem.MeetsSeq3
end
section
variable {prog:Program}{w:World}{A:Around}{E:Value->Shared->Prop}{s:Shared}
def cz (n d:Nat):Option Int->Nat
 | none=>d
 | some v=>if v < 0 then (v + (n:Int)).toNat else min v.toNat n
theorem oE (n d k:Nat):cz n d (some (k:Int))=min k n:=by show (if (k:Int) < 0 then ((k:Int) + (n:Int)).toNat else min (k:Int).toNat n)=min k n;rw [if_neg (by omega),zx]
theorem SR (n d:Nat)(hd:d<=n)(o:Option Int):cz n d o<=n:=by
 cases o with
 | none=>exact hd
 | some v=>
  show (if v < 0 then (v + (n:Int)).toNat else min v.toNat n)<=n;by_cases hv:v < 0
  ·rw [if_pos hv];omega
  ·rw [if_neg hv];exact Nat.min_le_right _ _
theorem K9 (v:Int)(n d:Nat):(if v < 0 then max (v + (n:Int)) 0 else min v (n:Int))=((cz n d (some v):Nat):Int):=by
 show (if v < 0 then max (v + (n:Int)) 0 else min v (n:Int))=(((if v < 0 then (v + (n:Int)).toNat else min v.toNat n):Nat):Int);by_cases hv:v < 0
 ·simp only [if_pos hv];omega
 ·simp only [if_neg hv];omega
theorem vG (lo hi:Option Int)(n:Nat):Builtin.Slice.sliceAdjust lo hi 1 (n:Int)=(((cz n 0 lo:Nat):Int),((cz n n hi:Nat):Int)):=by
 have h1:¬ ((1:Int) < 0):=by omega
 unfold Builtin.Slice.sliceAdjust;simp only [h1,if_false];refine Prod.ext ?_ ?_
 ·cases lo with
  | none=>rfl
  | some v=>exact K9 v n 0
 ·cases hi with
  | none=>rfl
  | some v=>exact K9 v n n
theorem uE (i j:Nat):Builtin.Slice.slicePlaces (i:Int) (j:Int) 1=j - i:=by
 unfold Builtin.Slice.slicePlaces;have h1:(1:Int) > 0:=by omega
 simp only [h1,if_true,Int.ediv_one];split <;> omega
theorem kH {v:Value}{o:Option Int}{Q:Option Int->Shared->Prop}(p:IsPart v o)(h:Q o s):wpAny (model prog w) A (Builtin.Slice.slicePartIndex v) Q E s:=by
 cases p with
 | none=>exact slicePart_none h
 | int i t=>exact slicePart_int h
theorem jj {sl:Addr}{vl vu:Value}{lo hi:Option Int}{n:Nat}{Q:Int×Int×Nat->Shared->Prop}(hs:s.heap.IsSliceOf sl vl vu .none)(pl:IsPart vl lo)(pu:IsPart vu hi)
  (h:Q (((cz n 0 lo:Nat):Int),1,cz n n hi - cz n 0 lo) s):wpAny (model prog w) A (Builtin.Slice.sliceApplied (.ref sl) (pure (n:Int))) Q E s:=by
 obtain ⟨os,Xl,hcs,YX⟩:=id hs;unfold Builtin.Slice.sliceApplied Builtin.Slice.sliceFields;refine wpAny_bind (wpAny_bind (wpAny_field Xl YX (x:=vl) rfl (wpAny_bind (wpAny_field Xl YX (x:=vu) rfl (wpAny_bind (wpAny_field Xl YX (x:=.none) rfl (wpAny_pure ?_)))))));refine wpAny_bind (slicePart_none ?_);show wpAny _ _ (if ((1:Int) == 0)=true then _ else _) _ _ s;rw [if_neg (by decide)];refine wpAny_bind (kH pl (wpAny_bind (kH pu (wpAny_bind (wpAny_pure ?_)))));show wpAny _ _ (match Builtin.Slice.sliceAdjust lo hi 1 (n:Int) with | (lo,hi)=>pure (lo,(1:Int),Builtin.Slice.slicePlaces lo hi 1)) _ _ s;rw [vG lo hi n];show wpAny _ _ (pure (((cz n 0 lo:Nat):Int),(1:Int),Builtin.Slice.slicePlaces ((cz n 0 lo:Nat):Int) ((cz n n hi:Nat):Int) 1)) _ _ s;rw [uE];exact wpAny_pure h
theorem NJ (xs:Array Value)(i k:Nat):((List.range k).filterMap λ(m:Nat)=>xs[((i:Int) + (m:Int) * 1).toNat]?).toArray=((xs.toList.drop i).take k).toArray:=by
 have e:(λ(m:Nat)=>xs[((i:Int) + (m:Int) * 1).toNat]?)=λm=>xs[i + m]?:=by
  funext m;have:((i:Int) + (m:Int) * 1).toNat=i + m:=by omega
  rw [this]
 rw [e];have:=pick_run xs i k;rw [List.filterMap_map] at this;have e2:((λx=>xs[x]?) ∘ λx=>i + x)=λm=>xs[i + m]?:=rfl;rw [e2] at this;rw [this]
theorem iV {t sl:Addr}{items:Array Value}{vl vu:Value}{lo hi:Option Int}{Q:Value->Shared->Prop}(ht:IsTup s.heap t items)(hs:s.heap.IsSliceOf sl vl vu .none)(pl:IsPart vl lo)(pu:IsPart vu hi)
  (hw:¬ (cz items.size 0 lo=0/\cz items.size items.size hi=items.size))
  (h:Q (.ref s.heap.objs.size) { s with heap:=s.heap.push { cls:=.type "tuple", data:=.seq ((items.toList.drop (cz items.size 0 lo)).take (cz items.size items.size hi - cz items.size 0 lo)).toArray } })
  (Xi:items.size<=sizeLine):wpAny (model prog w) A (getItem (.ref t) (.ref sl)) Q E s:=by
 have KZ:sizeOk (.seq ((items.toList.drop (cz items.size 0 lo)).take (cz items.size items.size hi - cz items.size 0 lo)).toArray):=by
  show ((items.toList.drop (cz items.size 0 lo)).take (cz items.size items.size hi - cz items.size 0 lo)).toArray.size<=sizeLine;rw [zT,zR,yh,Array.length_toList];omega
 have hj:cz items.size items.size hi<=items.size:=SR _ _ (zI _) hi;obtain ⟨os,Xl,hcs,YX⟩:=id hs;have hTs:s.TypeIs (.ref sl) "slice" := ⟨os,Xl,hcs⟩;unfold getItem;try with_reducible refine wpAny_holding ?_
 first | refine wpAny_bind (wpAny_pure ?_) | skip
 refine wpAny_bind (wpAny_sequenceKey ht.typeIs (by decide) ?_);refine wpAny_bind (wpAny_callSpecial?_slot (name:=Str.ofString "__getitem__") ht.typeIs PyProof.Rows.slot_tuple_getitem
  (wpAny_call_entry PyProof.Rows.slot_tuple_getitem ht.typeIs entry_tuple_getitem ?_ (args_tuple_getitem _ _)))
 show wpAny _ _ (Builtin.Tuple.tupleItemsOf (.ref t) >>= _) _ _ s;refine wpAny_bind (tupleItemsOf_ ht ?_);refine wpAny_bind (wpAny_typeOf hTs ?_);rw [if_pos (by decide)];refine wpAny_bind (jj hs pl pu ?_);have hno:¬ ((((cz items.size 0 lo:Nat):Int) == 0 && (1:Int) == 1 && (cz items.size items.size hi - cz items.size 0 lo) == items.size)=true):=by
  intro q;rw [zb,zb] at q;have q1:((cz items.size 0 lo:Nat):Int)=0:=eq_of_beq q.1.1;have q2:cz items.size items.size hi - cz items.size 0 lo=items.size:=eq_of_beq q.2;exact hw ⟨by omega,by omega⟩
 show wpAny _ _ (if (((cz items.size 0 lo:Nat):Int) == 0 && (1:Int) == 1 && (cz items.size items.size hi - cz items.size 0 lo) == items.size)=true then _ else _) _ _ s;rw [if_neg hno,NJ]
 first
  | exact wpAny_bind (m:=Builtin.Tuple.tupleExact _) (wpAny_newObj_type (wpAny_pure ⟨_,rfl,wpAny_pure h⟩) KZ)
  | exact wpAny_bind (m:=Builtin.Tuple.tupleExact _) (wpAny_newObj_type (wpAny_bind (wpAny_pure (wpAny_pure ⟨_,rfl,wpAny_pure h⟩))) KZ)
  | exact wpAny_bind (wpAny_bind (m:=Builtin.Tuple.tupleExact _) (wpAny_newObj_type (wpAny_pure (wpAny_pure ⟨_,rfl,wpAny_pure h⟩)) KZ))
  | exact wpAny_bind (wpAny_bind (m:=Builtin.Tuple.tupleExact _) (wpAny_newObj_type (wpAny_pure ⟨_,rfl,wpAny_pure h⟩) KZ))
end
end HT
namespace L2
open PySem PySem.Spec PyProof.Rows
abbrev TO:=St->Hp->(Option Int->Hp->Prop)->Prop
def PO (X:Cx)(e:Option Expr)(t:TO):Prop:=
 ∀ (ai:List (Addr×Obj)) (s:Shared) (σ:St) (H:Hp) (Q:Option Int->Hp->Prop),Inv X ai σ H s->t σ H Q ->
  wpAny (model X.prog X.w) X.A (evalPart e X.env) (λu s'=>∃ o H',Inv X ai σ H' s'/\IsPart u o/\Q o H') X.xe s
def jZ:TO:=λ_ H Q=>Q none H
def p7 (t:TE):TO:=fun σ H Q=>t σ H λx H1=>∃ i,x=.int i/\Q (some i) H1
section
variable {X:Cx}{e:Expr}{te:TE}{lo hi:Option Expr}{tl th:TO} {pos p2:Pos}
theorem KA:PO X none jZ:=by intro ai s σ H Q I h;rw [evalPart_none];exact wpAny_pure ⟨none,H,I,.none,h⟩
theorem iN (h:PE X e te):PO X (some e) (p7 te):=by intro ai s σ H Q I hw;rw [evalPart_some];refine aR (h ai s σ H _ I hw) λu s1 Zk=>?_;obtain ⟨x,H1,I1,r1,q1⟩:=Zk;obtain ⟨i,rfl,q⟩:=q1;obtain ⟨t,rfl⟩:=r1;exact ⟨some i,H1,I1,.int i t,q⟩
def XZ (X:Cx)(r:V->Option Int->Option Int->Hp->VK->Prop):Prop:=
 ∀ (ai:List (Addr×Obj)) (s:Shared) (σ:St) (H:Hp) (x:V) (v vl vu:Value) (lo hi:Option Int) (sl:Addr) (Q:VK),Inv X ai σ H s->RelV x v->s.heap.IsSliceOf sl vl vu .none->IsPart vl lo->IsPart vu hi->r x lo hi H Q ->
  ∃ T id,typeLookup (.type T) "__getitem__" = pure (some (.builtin id))/\s.TypeIs v T/\wpAny (model X.prog X.w) X.A (getItem v (.ref sl)) (EP X ai σ Q) X.xe s
def Yi (r:V->Option Int->Option Int->Hp->VK->Prop)(te:TE)(tl th:TO):TE:=fun σ H Q=>te σ H λx H1=>tl σ H1 λl H2=>th σ H2 λu H3=>r x l u H3 Q
theorem kQ {r:V->Option Int->Option Int->Hp->VK->Prop}(hr:XZ X r)(he:PE X e te)(hl:PO X lo tl)(hu:PO X hi th):PE X (.Subscript e (.Slice lo hi none p2) pos) (Yi r te tl th):=by intro ai s σ H Q I h;refine Subscript_ (aR (he ai s σ H _ I h) λv s1 Zj=>?_);obtain ⟨x,H1,I1,r1,q1⟩:=Zj;refine wpAny_Slice (aR (hl ai s1 σ H1 _ I1 q1) λvl s2 Zi=>?_);obtain ⟨l,H2,I2,pl,q2⟩:=Zi;refine aR (hu ai s2 σ H2 _ I2 q2) λvu s3 Zh=>?_;obtain ⟨u,H3,I3,pu,q3⟩:=Zh;rw [evalPart_none];refine wpAny_pure ?_;have I4:Inv X ai σ H3 { s3 with heap:=s3.heap.push { cls:=.type "slice", data:=.fields #[vl,vu,.none] } }:=I3.kept (t':=s3.toks) λb ob q=>Heap.get?_push_of_some _ q;obtain ⟨T,id,hT,ht,hg⟩:=hr ai { s3 with heap:=s3.heap.push { cls:=.type "slice", data:=.fields #[vl,vu,.none] } } σ H3 x v vl vu l u s3.heap.objs.size Q I4 r1 (Heap.IsSliceOf.new ..) pl pu q3;show wpAny (model X.prog X.w) X.A (subscriptTail e (.Slice lo hi none p2) v (.ref s3.heap.objs.size)) (EP X ai σ Q) X.xe { s3 with heap:=s3.heap.push { cls:=.type "slice", data:=.fields #[vl,vu,.none] } };exact tail_any (ops:=[.ref s3.heap.objs.size,v]) ht hT hg (by with_unfolding_all rfl)
def jX (xs:List V)(lo hi:Option Int):List V:=(xs.drop (HT.cz xs.length 0 lo)).take (HT.cz xs.length xs.length hi - HT.cz xs.length 0 lo)
theorem jN (xs:List V)(lo hi:Option Int):(jX xs lo hi).length<=xs.length:=by unfold jX;rw [zR,yh];omega
def V3 (K:PySem.W.Frag):V->Option Int->Option Int->Hp->VK->Prop:=λx lo hi H Q=>∃ a xs,x=.ref a/\aW K H a xs /\
 ¬ (HT.cz xs.length 0 lo=0/\HT.cz xs.length xs.length hi=xs.length)/\∀ p,H p=none->Q (.ref p) (upd H p (.tup (jX xs lo hi)))
theorem SO:XZ X (V3 X.K):=by
 intro ai s σ H x v vl vu lo hi sl Q I rx hs pl pu h;obtain ⟨a,xs,rfl,hx,hw,q⟩:=h;cases rx;obtain ⟨aA,r,ht,hz⟩:=I.tuple hx;have hlen:aA.toArray.size=xs.length:=by rw [zT];exact r.length.symm
 refine ⟨"tuple", _,PyProof.Rows.slot_tuple_getitem.lookup,ht.typeIs,?_⟩;refine HT.iV ht hs pl pu (by rw [hlen];exact hw) ?_ (by rw [hlen];exact hz);rw [hlen];refine ⟨.ref s.heap.objs.size,_,I.laid (t':=s.toks) (o:=.tup (jX xs lo hi)) (λb ob q=>Heap.get?_push_of_some _ q) (zI _) ?_,rfl,q _ (I.bq.fresh (zI _))⟩;exact ⟨⟨zj (jN xs lo hi) hz,lu⟩,_,(r.drop (HT.cz xs.length 0 lo)).take (HT.cz xs.length xs.length hi - HT.cz xs.length 0 lo),IsTup.new _ _⟩
end
def KW (n:Nat)(i:Int):Option Nat:=if 0<=i then (if i < n then some i.toNat else none) else if -(n:Int)<=i then some (i + n).toNat else none
def dU {α:Type}(xs:List α)(i:Int):Option α:=(KW xs.length i).bind λj=>xs[j]?
theorem KU {n:Nat}{i:Int}{j:Nat}(h:KW n i=some j):seqIndex? i n=some j/\j < n/\-(n:Int)<=i/\i < n:=by
 unfold KW at h;by_cases h0:0<=i
 ·rw [if_pos h0] at h;by_cases h1:i < n
  ·rw [if_pos h1] at h;have e:i.toNat=j:=Option.some.inj h;exact ⟨by rw [seqIndex_of h0 h1,e],by omega,by omega,h1⟩
  ·rw [if_neg h1] at h;cases h
 ·rw [if_neg h0] at h;by_cases h1:-(n:Int)<=i
  ·rw [if_pos h1] at h;have e:(i + n).toNat=j:=Option.some.inj h;exact ⟨by rw [seqIndex_neg (by omega) h1,e],by omega,h1,by omega⟩
  ·rw [if_neg h1] at h;cases h
theorem Le {α:Type}{xs:List α}{i:Int}{v:α}(h:dU xs i=some v):∃ j,seqIndex? i xs.length=some j/\xs[j]?=some v/\j < xs.length/\-(xs.length:Int)<=i/\i < xs.length:=by
 unfold dU at h;cases e:KW xs.length i with
 | none=>rw [e] at h;cases h
 | some j=>
  rw [e] at h;obtain ⟨h1,h2,h3,h4⟩:=KU e;exact ⟨j,h1,h,h2,h3,h4⟩
theorem wP {α:Type}{xs:List α}{j:Nat}{v:α}(h:xs[j]?=some v):dU xs (j:Int)=some v:=by
 have hj:j < xs.length:=(zH.mp h).1;have e:KW xs.length (j:Int)=some j:=by
  unfold KW;rw [if_pos (by omega),if_pos (by omega)];simp
 unfold dU;rw [e];exact h
def Rg (b:Expr):Prop:=∀ o i,subscripted b false o i=operate [o,i] (getItem o i)
def X8 (X:Cx)(r:R2):Prop:=
 ∀ (value slice:Expr) (ai:List (Addr×Obj)) (s:Shared) (σ:St) (H:Hp) (x y:V) (v u:Value) (Q:VK),Inv X ai σ H s->RelV x v->RelV y u->r x y H Q ->
  subscripted slice false v u=operate [v,u] (getItem v u)->wpAny (model X.prog X.w) X.A (subscriptTail value slice v u) (EP X ai σ Q) X.xe s
def MtR (X:Cx)(id:String)(r:V->List V->Hp->VK->Prop):Prop:=
 ∀ (ai:List (Addr×Obj)) (s:Shared) (σ:St) (H:Hp) (x:V) (xs:List V) (v:Value) (us:List Value) (Q:VK),Inv X ai σ H s->RelV x v->Vals xs us->r x xs H Q ->
  wpAny (model X.prog X.w) X.A (call (.builtin id) (v::us)) (EP X ai σ Q) X.xe s
section
variable {X:Cx}{a b:Expr}{ta tb:TE}{pos:Pos}
theorem xx {r:R2}(hr:X8 X r)(ha:PE X a ta)(hb:PE X b tb)(hs:Rg b):PE X (.Subscript a b pos) (Sv r ta tb):=by intro ai s σ H Q I h;exact Subscript_ (UL ha hb I h λv u s2 x y H2 I2 rx ry q=>hr a b ai s2 σ H2 x y v u Q I2 rx ry q (hs _ _))
def NC (K:PySem.W.Frag):R2:=λx y H Q=>∃ p xs i v,x=.ref p/\y=.int i/\aB K H p xs/\dU xs i=some v/\Q v H
def NB (K:PySem.W.Frag):R2:=λx y H Q=>∃ p xs i v,x=.ref p/\y=.int i/\aW K H p xs/\dU xs i=some v/\Q v H
theorem QL:X8 X (NC X.K):=by
 intro value slice ai s σ H x y v u Q I rx ry h hs;obtain ⟨p,xs,i,z,rfl,rfl,hq,he,q⟩:=h;cases rx;obtain ⟨t,rfl⟩:=ry;obtain ⟨aA,r,pl,hz⟩:=I.list hq;obtain ⟨j,h1,h2,h3,h4,h5⟩:=Le he;obtain ⟨w,ew,VW⟩:=r.get h2;have hl:=r.length;have hn:=lD;have fin:EP X ai σ Q w s:=⟨z,H,I,VW,q⟩;by_cases h0:0<=i
 ·have hj:i.toNat=j:=by
   rw [seqIndex_of h0 h5] at h1;exact Option.some.inj h1
  exact item_listR pl.isList h0 (by omega) (by rw [hj];simpa using ew) fin hs
 ·have hj:(i + (aA.toArray.size:Int)).toNat=j:=by
   rw [seqIndex_neg (by omega) h4] at h1;rw [zT,<- hl];exact Option.some.inj h1
  exact subscriptTail_builtinR (x:=w) pl.isList.typeIs slot_list_getitem.lookup
   (wpAny_getItem_list_neg (Q:=λr s'=>r=w/\EP X ai σ Q r s') pl.isList (by omega) (by rw [zT] <;> omega) (by omega) (by rw [hj];simpa using ew) ⟨rfl,fin⟩) hs
theorem TZ:X8 X (NB X.K):=by
 intro value slice ai s σ H x y v u Q I rx ry h hs;obtain ⟨p,xs,i,z,rfl,rfl,hq,he,q⟩:=h;cases rx;obtain ⟨t,rfl⟩:=ry;obtain ⟨aA,r,pl,hz⟩:=I.tuple hq;obtain ⟨j,h1,h2,h3,h4,h5⟩:=Le he;obtain ⟨w,ew,VW⟩:=r.get h2;have hl:=r.length;have hn:=lD;have fin:EP X ai σ Q w s:=⟨z,H,I,VW,q⟩;exact subscriptTail_builtinR (x:=w) pl.typeIs slot_tuple_getitem.lookup
  (getItem_tuple (j:=j) (Q:=λr s'=>r=w/\EP X ai σ Q r s') pl (by omega) (by omega) (by rw [zT,<- hl];exact h1) (by simpa using ew) ⟨rfl,fin⟩) hs
theorem uM (aA:List Value)(n j:Nat)(u:Value):Obj.mapSeq (·.setIfInBounds j u) { cls:=.type "list", data:=.seq aA.toArray n }={ cls:=.type "list", data:=.seq (aA.set j u).toArray n }:=by simp [Obj.mapSeq]
theorem Inv.lst {ai:List (Addr×Obj)}{σ:St}{H:Hp}{s:Shared}{p:Addr}{xs:List V}(I:Inv X ai σ H s)(h:H p=some (.lst xs)) :
  ∃ (aA:List Value) (n:Nat),Vals xs aA/\s.heap.get? p=some { cls:=.type "list", data:=.seq aA.toArray n }/\xs.length<=sizeLine:=by
 obtain ⟨z,aA,n,r,e⟩:=I.bq p _ h;exact ⟨aA,n,r,e,z⟩
theorem Inv.Tz {ai:List (Addr×Obj)}{σ:St}{H:Hp}{s:Shared}{p:Addr}{xs ys:List V}{aA its':List Value}{n n':Nat}{f:Obj->Obj}(I:Inv X ai σ H s)(h:H p=some (.lst xs))
  (ho:s.heap.get? p=some { cls:=.type "list", data:=.seq aA.toArray n }) (hf:f { cls:=.type "list", data:=.seq aA.toArray n }={ cls:=.type "list", data:=.seq its'.toArray n' }) (r:Vals ys its') (hz:ys.length<=sizeLine) (t:Nat) :
  Inv X ai σ (upd H p (.lst ys)) { s with heap:=s.heap.update p f,toks:=t }:=by
 have e:(s.heap.update p f).get? p=some { cls:=.type "list", data:=.seq its'.toArray n' }:=by
  rw [Heap.get?_update_self f ho (by rw [hf] <;> rfl),hf]
 refine I.write (x:=p) (e:=p) (by rw [h];trivial) (.inl rfl) (λb u hb q=>(Heap.get?_update_other _ _ (Ne.symm hb)).trans q) ⟨_,e⟩ ?_;exact ⟨hz,its',n',r,e⟩
def Kz:V->V->V->Hp->(Hp->Prop)->Prop:=λo i v H Q=>∃ p xs k j,o=.ref p/\i=.int k/\H p=some (.lst xs)/\KW xs.length k=some j/\Q (upd H p (.lst (xs.set j v)))
theorem wv:UR X Kz:=by
 intro ai s σ H o i v ov iv u Q I ro ri rv h;obtain ⟨p,xs,k,j,rfl,rfl,hp,hj,q⟩:=h;cases ro;obtain ⟨t,rfl⟩:=ri;obtain ⟨aA,n,r,ho,hz⟩:=I.lst hp;obtain ⟨h1,h2,h3,h4⟩:=KU hj;have hl:=r.length;have hn:=lD;have I':Inv X ai σ (upd H p (.lst (xs.set j v))) { s with heap:=s.heap.update p (Obj.mapSeq (·.setIfInBounds j u)) }:=
  I.Tz hp ho (uM aA n j u) (r.set rv j) (by rw [zt];exact hz) s.toks
 by_cases h0:0<=k
 ·have hk:k.toNat=j:=by
   rw [seqIndex_of h0 h4] at h1;exact Option.some.inj h1
  exact PySem.W.ki_setAt ho h0 (by omega) (by rw [zT,<- hl];exact h4) (by rw [hk];exact ⟨_,I',q⟩)
 ·have hk:(k + (aA.toArray.size:Int)).toNat=j:=by
   rw [seqIndex_neg (by omega) h3] at h1;rw [zT,<- hl];exact Option.some.inj h1
  exact PySem.W.ki_setBack ho (by omega) (by rw [zT,<- hl];exact h3) (by omega) (by rw [hk];exact ⟨_,I',q⟩)
theorem oB (lo hi:Option Int)(n:Nat):(sliceBounds lo hi none n).1=((HT.cz n 0 lo:Nat):Int)/\(sliceBounds lo hi none n).2.1=((HT.cz n n hi:Nat):Int)/\(sliceBounds lo hi none n).2.2=1:=by
 refine ⟨?_,?_,rfl⟩
 ·cases lo with
  | none=>simp [sliceBounds,HT.cz]
  | some i=>
   simp only [sliceBounds,HT.cz,Option.getD_none,show (1:Int) > 0 by decide,if_true];by_cases h:i < 0
   ·simp only [h,if_true] <;> omega
   ·simp only [h,if_false] <;> omega
 ·cases hi with
  | none=>simp [sliceBounds,HT.cz]
  | some i=>
   simp only [sliceBounds,HT.cz,Option.getD_none,show (1:Int) > 0 by decide,if_true];by_cases h:i < 0
   ·simp only [h,if_true] <;> omega
   ·simp only [h,if_false] <;> omega
theorem mK (aA:List Value)(lo hi:Option Int):slicePick aA.toArray lo hi none=((aA.drop (HT.cz aA.length 0 lo)).take (HT.cz aA.length aA.length hi - HT.cz aA.length 0 lo)).toArray:=by obtain ⟨h1,h2,h3⟩:=oB lo hi aA.toArray.size;unfold slicePick;rw [h1,h2,h3];simp only [sliceRange_one,pick_run,zT] <;> rfl
def V4 (K:PySem.W.Frag):V->Option Int->Option Int->Hp->VK->Prop:=λx lo hi H Q=>∃ a xs,x=.ref a/\aB K H a xs/\∀ p,H p=none->Q (.ref p) (upd H p (.lst (jX xs lo hi)))
theorem Qk:XZ X (V4 X.K):=by intro ai s σ H x v vl vu lo hi sl Q I rx hs pl pu h;obtain ⟨a,xs,rfl,hx,q⟩:=h;cases rx;obtain ⟨aA,r,ht,hz⟩:=I.list hx;have hlen:=r.length;refine ⟨"list", _,slot_list_getitem.lookup,ht.isList.typeIs,?_⟩;refine wpAny_getItem_list_slice ht.isList hs pl pu .none (by simp) ?_ (by rw [zT] <;> omega);rw [mK,<- hlen];refine ⟨.ref s.heap.objs.size,_,I.laid (t':=s.toks) (o:=.lst (jX xs lo hi)) (λb ob q=>Heap.get?_push_of_some _ q) (zI _) ?_,rfl,q _ (I.bq.fresh (zI _))⟩;exact ⟨zj (jN xs lo hi) hz,_,0,(r.drop (HT.cz xs.length 0 lo)).take (HT.cz xs.length xs.length hi - HT.cz xs.length 0 lo),Heap.get?_push_size _ rfl⟩
def iZ:V->Bool
 | .cK=>true
 | .bl _=>true
 | .int _=>true
 | .str _=>true
 | _=>false
def Pr:V->V->Bool
 | .cK,.cK=>true
 | .bl a,.bl b=>a == b
 | .bl a,.int b=>(if a then 1 else 0) == b
 | .int a,.bl b=>a == (if b then 1 else 0)
 | .int a,.int b=>a == b
 | .str a,.str b=>a == b
 | _,_=>false
theorem UB {A:Around}{s:Shared}{y x:V}{u v:Value}(ry:RelV y u)(rx:RelV x v)(fy:iZ y=true)(fx:iZ x=true):SeqAt.EqAt A s u v (Pr y x):=by
 cases y with
 | cK=>
  cases ry;cases x with
  | cK=>cases rx;exact SeqAt.EqAt.same _
  | bl b=>cases rx;exact SeqAt.EqAt.none_bool b
  | int b=>obtain ⟨t,rfl⟩:=rx;exact SeqAt.EqAt.none_int b t
  | str b=>obtain ⟨t,rfl⟩:=rx;exact SeqAt.EqAt.none_str b t
  | _=>exact absurd (show false=true from fx) zQ
 | bl a=>
  cases ry;cases x with
  | cK=>cases rx;exact SeqAt.EqAt.bool_none a
  | bl b=>cases rx;exact SeqAt.EqAt.bool_bool a b
  | int b=>obtain ⟨t,rfl⟩:=rx;exact SeqAt.EqAt.bool_int a b t
  | str b=>obtain ⟨t,rfl⟩:=rx;exact SeqAt.EqAt.bool_str a b t
  | _=>exact absurd (show false=true from fx) zQ
 | int a=>
  obtain ⟨t',rfl⟩:=ry;cases x with
  | cK=>cases rx;exact SeqAt.EqAt.int_none a t'
  | bl b=>cases rx;exact SeqAt.EqAt.int_bool a t' b
  | int b=>obtain ⟨t,rfl⟩:=rx;exact SeqAt.EqAt.int_int a t' b t
  | str b=>obtain ⟨t,rfl⟩:=rx;exact SeqAt.EqAt.int_str a t' b t
  | _=>exact absurd (show false=true from fx) zQ
 | str a=>
  obtain ⟨t',rfl⟩:=ry;cases x with
  | cK=>cases rx;exact SeqAt.EqAt.str_none a t'
  | bl b=>cases rx;exact SeqAt.EqAt.str_bool a t' b
  | int b=>obtain ⟨t,rfl⟩:=rx;exact SeqAt.EqAt.str_int a t' b t
  | str b=>obtain ⟨t,rfl⟩:=rx;exact SeqAt.EqAt.str_str a t' b t
  | _=>exact absurd (show false=true from fx) zQ
 | _=>exact absurd (show false=true from fy) zQ
def vj (x:V)(u:Value):Bool:=match u with
 | .none=>Pr .cK x
 | .bool b=>Pr (.bl b) x
 | .int i _=>Pr (.int i) x
 | .str z _=>Pr (.str z) x
 | _=>false
theorem OO {x y:V}{u:Value}(r:RelV y u)(f:iZ y=true):vj x u=Pr y x:=by
 cases y with
 | cK=>cases r;rfl
 | bl b=>cases r;rfl
 | int i=>obtain ⟨t,rfl⟩:=r;rfl
 | str z=>obtain ⟨t,rfl⟩:=r;rfl
 | _=>exact absurd (show false=true from f) zQ
theorem jc {x:V}:∀ {xs:List V}{us:List Value},Vals xs us->xs.all iZ=true->us.any (vj x)=xs.any λy=>Pr y x
 | _,_,.nil,_=>rfl
 | y::xs,u::us,.cons r t,f=>by
  rw [yr,zb] at f;rw [List.any_cons,List.any_cons,OO r f.1,jc t f.2]
theorem fV {A:Around}{s:Shared}{x:V}{v:Value}(rx:RelV x v)(fx:iZ x=true):∀ {xs:List V}{us:List Value},Vals xs us->xs.all iZ=true->∀ u∈us,SeqAt.EqAt A s u v (vj x u)
 | _,_,.nil,_=>λu hu=>by cases hu
 | y::xs,u::us,.cons r t,f=>λu' hu=>by
  rw [yr,zb] at f;rcases zJ.mp hu with rfl | hu
  ·rw [OO r f.1];exact UB r rx f.1 fx
  ·exact fV rx fx t f.2 u' hu
def T5 (x:V)(xs:List V):Bool:=xs.any λy=>Pr y x
def rIn (K:PySem.W.Frag)(neg:Bool):R2:=λx y H Q=>∃ p xs,y=.ref p/\(aB K H p xs\/aW K H p xs)/\iZ x=true/\xs.all iZ=true/\Q (.bl (if neg then !T5 x xs else T5 x xs)) H
theorem LR:iD X (compareOp .In) (rIn X.K false):=by
 intro ai s σ H x y v u Q I rx ry h;obtain ⟨p,xs,rfl,hq,fx,fs,q⟩:=h;cases ry;rcases hq with hq | hq
 ·obtain ⟨aA,r,pl,hz⟩:=I.list hq;refine SeqAt.in_listAt (vj x) pl.isList (λw hw=>fV rx fx r fs w (by simpa using hw)) ⟨.bl _,H,I,rfl,?_⟩;rw [show aA.toArray.any (vj x)=aA.any (vj x) by simp,jc r fs];exact q
 ·obtain ⟨aA,r,pl,hz⟩:=I.tuple hq;refine SeqAt.in_tupleAt (vj x) pl (λw hw=>fV rx fx r fs w (by simpa using hw)) ⟨.bl _,H,I,rfl,?_⟩;rw [show aA.toArray.any (vj x)=aA.any (vj x) by simp,jc r fs];exact q
theorem iO:iD X (compareOp .NotIn) (rIn X.K true):=by
 intro ai s σ H x y v u Q I rx ry h;obtain ⟨p,xs,rfl,hq,fx,fs,q⟩:=h;cases ry;rcases hq with hq | hq
 ·obtain ⟨aA,r,pl,hz⟩:=I.list hq;refine SeqAt.notIn_listAt (vj x) pl.isList (λw hw=>fV rx fx r fs w (by simpa using hw)) ⟨.bl _,H,I,rfl,?_⟩;rw [show aA.toArray.any (vj x)=aA.any (vj x) by simp,jc r fs];exact q
 ·obtain ⟨aA,r,pl,hz⟩:=I.tuple hq;refine SeqAt.notIn_tupleAt (vj x) pl (λw hw=>fV rx fx r fs w (by simpa using hw)) ⟨.bl _,H,I,rfl,?_⟩;rw [show aA.toArray.any (vj x)=aA.any (vj x) by simp,jc r fs];exact q
theorem pD:bZ X (.builtin "len") (λxs H Q=>∃ p ys,xs=[.ref p]/\(aB X.K H p ys\/aW X.K H p ys)/\Q (.int ys.length) H):=by
 intro ai s σ H xs us Q I r h;obtain ⟨p,ys,rfl,hq,q⟩:=h;obtain ⟨u,rfl,rx⟩:=vals1 r;cases rx;have hn:=lD;rcases hq with hq | hq
 ·obtain ⟨aA,r',pl,hz⟩:=I.list hq;have hlen:=r'.length;exact Calls.call_len_list pl.isList (by simp only [zT] <;> omega) ⟨.int ys.length,H,I.tok _,⟨s.toks + 1,by rw [zT,hlen]⟩,q⟩
 ·obtain ⟨aA,r',pl,hz⟩:=I.tuple hq;have hlen:=r'.length;exact len_tuple pl (by simp only [zT] <;> omega) ⟨.int ys.length,H,I.tok _,⟨s.toks + 1,by rw [zT,hlen]⟩,q⟩
theorem pB:bZ X (.type "list") (λxs H Q=>∃ p ys,xs=[.ref p]/\(aB X.K H p ys\/aW X.K H p ys)/\∀ l,H l=none->Q (.ref l) (upd H l (.lst ys))):=by
 intro ai s σ H xs us Q I r h;obtain ⟨p,ys,rfl,hq,q⟩:=h;obtain ⟨u,rfl,rx⟩:=vals1 r;cases rx;have fin:∀ (aA:List Value),Vals ys aA->ys.length<=sizeLine->∀ (h':Heap) (c':Nat),(∀ b o',s.heap.get? b=some o'->h'.get? b=some o') ->
   h'.get? s.heap.objs.size=some { cls:=.type "list", dict:=none,data:=.seq aA.toArray c',slots:=#[] }->EP X ai σ Q (.ref s.heap.objs.size) { s with heap:=h' }:=λaA r' hz h' c' kp e=>
  ⟨.ref s.heap.objs.size,_,I.laid (t':=s.toks) kp (zI _) (show bD X.prog X.w _ h' _ (.lst ys) from ⟨hz,aA,c',r',e⟩),rfl,q _ (I.bq.fresh (zI _))⟩
 rcases hq with hq | hq
 ·obtain ⟨aA,r',pl,hz⟩:=I.list hq;have hlen:=r'.length;obtain ⟨o,ho,hc,n,hd⟩:=pl.isList;exact call_list_seq p (.inl rfl) ho hc hd (λh' c' kp e=>fin aA r' hz h' c' kp e) (by simp only [zT] <;> omega)
 ·obtain ⟨aA,r',pl,hz⟩:=I.tuple hq;have hlen:=r'.length;obtain ⟨o,ho,hc,n,hd⟩:=pl;exact call_list_seq p (.inr rfl) ho hc hd (λh' c' kp e=>fin aA r' hz h' c' kp e) (by simp only [zT] <;> omega)
theorem gU:bZ X (.type "tuple") (λxs H Q=>∃ p ys,xs=[.ref p]/\((aB X.K H p ys/\∀ l,H l=none->Q (.ref l) (upd H l (.tup ys)))\/(aW X.K H p ys/\Q (.ref p) H))):=by
 intro ai s σ H xs us Q I r h;obtain ⟨p,ys,rfl,h⟩:=h;obtain ⟨u,rfl,rx⟩:=vals1 r;cases rx;rcases h with ⟨hq,q⟩ | ⟨hq,q⟩
 ·obtain ⟨aA,r',pl,hz⟩:=I.list hq;have hlen:=r'.length;refine call_tuple_list pl.isList (λh' kp=>?_) (by simp only [zT] <;> omega);have I1:Inv X ai σ H { s with heap:=h' }:=I.kept (t':=s.toks) kp;have I2:Inv X ai σ (upd H h'.objs.size (.tup ys)) { s with heap:=h'.push { cls:=.type "tuple", data:=.seq aA.toArray } }:=
   I1.laid (t':=s.toks) (λb o e=>Heap.get?_push_of_some _ e) (zI _) (show bD X.prog X.w _ _ _ (.tup ys) from ⟨⟨hz,lu⟩,aA,r',IsTup.new _ _⟩)
  exact ⟨.ref h'.objs.size,_,I2,rfl,q _ (I1.bq.fresh (zI _))⟩
 ·obtain ⟨aA,r',pl,hz⟩:=I.tuple hq;exact call_tuple_same pl ⟨.ref p,H,I,rfl,q⟩
def tyV (K:PySem.W.Frag)(T:String)(x:V)(H:Hp):Prop:=match x with
 | .str _=>T = "str"
 | .int _=>T = "int"
 | .ref p=>(T = "list" /\ ∃ xs,aB K H p xs)\/(T = "tuple" /\ ((∃ o,K.lookup p=some o/\o.cls=.type "tuple" /\ o.dict=none)\/∃ xs,H p=some (.tup xs))) \/
   (T = "dict" /\ ((∃ iU,H p=some (.dK iU))\/∃ iU,H p=some (.dT iU)))\/(T = "set" /\ ∃ S n,H p=some (.set S n))
 | _=>False
theorem Sl {ai:List (Addr×Obj)}{σ:St}{H:Hp}{s:Shared}{T:String}{x:V}{v:Value}(I:Inv X ai σ H s)(r:RelV x v)(ty:tyV X.K T x H) :
  s.TypeIs v T/\∀ a,v=.ref a->∃ ob,s.heap.get? a=some ob/\ob.dict=none:=by
 cases x with
 | str z=>
  obtain ⟨t,rfl⟩:=r;cases (show T = "str" from ty);exact ⟨typeIs_str s z t,λ_ e=>nomatch e⟩
 | int i=>
  obtain ⟨t,rfl⟩:=r;cases (show T = "int" from ty);exact ⟨typeIs_int s i t,λ_ e=>nomatch e⟩
 | ref p=>
  cases r;rcases ty with ⟨rfl,xs,hq⟩ | ⟨rfl,⟨o,hk,hc,hd⟩ | ⟨xs,hk⟩⟩ | ⟨rfl,hk⟩ | ⟨rfl,S,n,hk⟩
  ·obtain ⟨aA,_,pl,_⟩:=I.list hq;refine ⟨pl.isList.typeIs,λa e=>?_⟩;cases e;obtain ⟨o,n,e,c,hd,_⟩:=pl;exact ⟨o,e,hd⟩
  ·refine ⟨⟨o,I.sF p o hk,hc⟩,λa e=>?_⟩;cases e;exact ⟨o,I.sF _ o hk,hd⟩
  ·obtain ⟨nb,_,_,o,e,c,_⟩:=I.bq p _ hk;exact ⟨⟨o,e,c⟩,λa z=>by cases z;exact ⟨o,e,nb.2 o e⟩⟩
  ·have z:∃ o,s.heap.get? p=some o/\o.ExactDict:=by
    rcases hk with ⟨iU,hk⟩ | ⟨iU,hk⟩
    ·obtain ⟨_,_,_,_,o,_,_,e,ex,_⟩:=I.bq p _ hk;exact ⟨o,e,ex⟩
    ·obtain ⟨_,_,_,_,o,_,_,e,ex,_⟩:=I.bq p _ hk;exact ⟨o,e,ex⟩
   obtain ⟨o,e,ex⟩:=z;refine ⟨⟨o,e,ex.1⟩,λa e2=>?_⟩;cases e2;exact ⟨o,e,ex.2.1⟩
  ·obtain ⟨o,_,_,_,e,ex,_⟩:=I.bq p _ hk;refine ⟨⟨o,e,ex.1⟩,λa e2=>?_⟩;cases e2;exact ⟨o,e,ex.2.1⟩
 | _=>exact False.elim ty
def Yk (K:PySem.W.Frag)(T:String)(r:V->List V->Hp->VK->Prop)(to:TE)(t:TA):TE:=fun σ H Q=>to σ H λx H1=>tyV K T x H1/\t σ H1 λxs H2=>r x xs H2 Q
variable {o e:Expr}{es:List Expr}{to:TE}{t:TA}{name:Str}{apos sZ:Pos}{T id:String}{r:V->List V->Hp->VK->Prop}
theorem ni (pa:PlainAttrs T)(slot:Slot T name id)(Vj:typeOf (.builtin id)=pure (.type "method_descriptor"))(hm:MtR X id r)(ho:PE X o to)(ha:PA X (e::es) t)
  (Xy:attributeBase o name X.env (eval o X.env)=eval o X.env:=by rfl)
  (acu:((backTo sZ (starEach (e::es) X.env)).all (λx=>!x.1) && (backToKw sZ (keywordEach [] X.env)).all (λx=>x.1.isSome)
   && decide ((e::es).length + ([]:List Keyword).length + (if ([]:List Keyword).isEmpty then 0 else 1) < 30))=true:=by rfl)
  (Xn:(apos.endLine == sZ.line)=true:=by rfl) (hs:starEach (e::es) X.env=(false,eval e X.env)::starEach es X.env:=by rfl) (Ud:(backTo sZ (starEach es X.env)).any (·.1)=false:=by rfl) :
  PE X (.Call (.Attribute o name apos) (e::es) [] sZ) (Yk X.K T r to t):=by
 intro ai s σ H Q I h;refine wpAny_Call_method_late Xy acu Xn rfl (aR (ho ai s σ H _ I h) λv s1 Zg=>?_);obtain ⟨x,H1,I1,r1,ty,q1⟩:=Zg;obtain ⟨h1,h2⟩:=Sl I1 r1 ty;refine ⟨T,id,pa,slot,Vj,h1,h2,?_⟩;have hA:=ha sZ ai s1 σ H1 _ I1 q1;rw [hs] at hA ⊢;refine Calls.callWith_builtin (by show (false || (backTo sZ (starEach es X.env)).any (·.1))=false;rw [Ud] <;> rfl) (Calls.evalArgs_plain ?_);exact aR hA λus s2 ⟨vs,H2,I2,r2,q2⟩=>hm ai s2 σ H2 x vs v us Q I2 r1 r2 q2
/- xs.append(e),list.index on a N3 tuple .. are MtR facts of 06m -/
end
def MtM (X:Cx)(id:String)(r:V->List V->Hp->VK->Prop):Prop:=
 ∀ (ai:List (Addr×Obj)) (s:Shared) (σ:St) (H:Hp) (x:V) (xs:List V) (v:Value) (us:List Value) (Q:VK),Inv X ai σ H s->RelV x v->Vals xs us->r x xs H Q ->
  wpAny (model X.prog X.w) X.A (call (.builtin id) (v::us)) (EP X ai σ Q) X.xe s
theorem Vals.one:∀ {x:V}{us:List Value},Vals [x] us->∃ u,us=[u]/\RelV x u
 | _,_,.cons r .nil=>⟨_,rfl,r⟩
theorem Vals.reverse {xs:List V}{us:List Value}(h:Vals xs us):Vals xs.reverse us.reverse:=by
 induction h with
 | nil=>exact .nil
 | cons r t ih=>rw [List.reverse_cons,List.reverse_cons];exact Vals.append ih (.cons r .nil)
theorem Vals.rep {xs:List V}{us:List Value}(h:Vals xs us):∀ k:Nat,Vals (List.replicate k xs).flatten (List.replicate k us).flatten
 | 0=>.nil
 | k + 1=>by
  rw [ya,ya,xD,xD];exact Vals.append h (Vals.rep h k)
theorem foldl_rep (aA:List Value):∀ (k:Nat) (acc:List Value),
  List.foldl (λx1 x2=>x1++x2) acc.toArray (List.replicate k aA.toArray)=(acc++(List.replicate k aA).flatten).toArray
 | 0,acc=>by simp
 | k + 1,acc=>by
  have e:acc.toArray++aA.toArray=(acc++aA).toArray:=by simp
  have e2:(acc++aA)++(List.replicate k aA).flatten=acc++(List.replicate (k + 1) aA).flatten:=by
   rw [ya,xD,xM]
  rw [<-e2,<- foldl_rep aA k (acc++aA),<- e,ya,List.foldl_cons]
section
variable {X:Cx}{ai:List (Addr×Obj)}{σ:St}{H:Hp}{s:Shared}{l b:Addr}{xs ys zs:List V}
theorem Inv.abh {aA its':List Value}{n:Nat}{f:Array Value->Array Value}{t':Nat}(I:Inv X ai σ H s)(hH:H l=some (.lst xs))
  (e:s.heap.get? l=some { cls:=.type "list", data:=.seq aA.toArray n }) (hf:f aA.toArray=its'.toArray) (hv:Vals ys its') (hz:ys.length<=sizeLine) :
  Inv X ai σ (upd H l (.lst ys)) { s with heap:=s.heap.update l (Obj.mapSeq f),toks:=t' }:=by
 have q:=PySem.IsL.update e f;rw [hf] at q;refine I.write (x:=l) (e:=l) (by rw [hH];exact trivial) (.inl rfl) (λb' u hb hu=>(Heap.get?_update_other s.heap (Obj.mapSeq f) (Ne.symm hb)).trans hu) ⟨_,q⟩ ?_;exact ⟨hz,its',_,hv,q⟩
theorem Inv.WA {aA:List Value}{t':Nat}(I:Inv X ai σ H s)(hv:Vals ys aA)(hz:ys.length<=sizeLine) :
  Inv X ai σ (upd H s.heap.objs.size (.lst ys)) { s with heap:=s.heap.push { cls:=.type "list", data:=.seq aA.toArray },toks:=t' }:=
 I.laid (λ_ _ q=>Heap.get?_push_of_some _ q) (zI _) ⟨hz,aA,0,hv,Heap.get?_push_size _ rfl⟩
theorem Inv.fresh (I:Inv X ai σ H s):H s.heap.objs.size=none:=I.bq.fresh (zI _)
theorem Inv.QI (I:Inv X ai σ H s)(hH:H l=some (.lst xs)):xs.length<=sizeLine/\∃ (aA:List Value) (n:Nat),Vals xs aA/\xs.length=aA.length/\s.heap.get? l=some { cls:=.type "list", data:=.seq aA.toArray n }:=by obtain ⟨z,aA,n,r,e⟩:=I.bq l _ hH;exact ⟨z,aA,n,r,r.length,e⟩
theorem NV {n:Nat}(h:n<=sizeLine):Builtin.List.listTooLong n=false:=by unfold Builtin.List.listTooLong;exact decide_eq_false (by omega)
end
section
variable {X:Cx}
def j4:V->List V->Hp->VK->Prop:=λx vs H Q=>∃ l xs y,x=.ref l/\vs=[y]/\H l=some (.lst xs)/\xs.length < sizeLine/\Q .cK (upd H l (.lst (xs++[y])))
theorem cV:MtM X "list.append" j4:=by intro ai s σ H x vs v us Q I rx rv h;obtain ⟨l,xs,y,rfl,rfl,hH,hz,q⟩:=h;cases rx;obtain ⟨u,rfl,ru⟩:=rv.one;obtain ⟨z,aA,n,r,hl,e⟩:=I.QI hH;refine call_meets F.slot_list_append ⟨_,e,rfl⟩ F.entry_list_append (F.args_list_append_2 _ _) (xN l aA.toArray n u (by rw [zT];omega)) ⟨e,?_⟩;refine ⟨.cK,_,I.abh (its':=aA++[u]) hH e (by simp) (r.append (.cons ru .nil)) ?_,rfl,q⟩;rw [zO,xA];omega
def aaH:R2:=λx y H Q=>∃ l b xs zs,x=.ref l/\y=.ref b/\H l=some (.lst xs)/\H b=some (.lst zs)/\xs.length + zs.length<=sizeLine/\∀ p,H p=none->Q (.ref p) (upd H p (.lst (xs++zs)))
theorem jr:iD X (binaryOp .Add) aaH:=by
 intro ai s σ H x y v u Q I rx ry h;obtain ⟨l,b,xs,zs,rfl,rfl,hH,hB,hz,q⟩:=h;cases rx;cases ry;obtain ⟨z,aA,n,r,hl,e⟩:=I.QI hH;obtain ⟨z2,cG,n2,r2,MJ,e2⟩:=I.QI hB;refine PySem.P.add_list e e2 ?_ (by rw [zT,zT];omega);have ea:aA.toArray++cG.toArray=(aA++cG).toArray:=by simp
 rw [ea];exact ⟨.ref _,_,I.WA (t':=s.toks) (r.append r2) (by rw [zO];omega),rfl,q _ I.fresh⟩
def aaF:R2:=λx y H Q=>∃ l k xs,x=.ref l/\y=.int k/\H l=some (.lst xs)/\-(2 ^ 63)<=k/\k < 2 ^ 63/\xs.length * k.toNat<=sizeLine /\
 ∀ p,H p=none->Q (.ref p) (upd H p (.lst (List.replicate k.toNat xs).flatten))
theorem len_rep {α:Type}(xs:List α)(k:Nat):(List.replicate k xs).flatten.length=k * xs.length:=by
 induction k with
 | zero=>simp
 | succ k ih=>rw [ya,xD,zO,ih,Nat.succ_mul,Nat.add_comm]
theorem jo:iD X (binaryOp .Mult) aaF:=by
 intro ai s σ H x y v u Q I rx ry h;obtain ⟨l,k,xs,rfl,rfl,hH,h1,h2,hz,q⟩:=h;cases rx;obtain ⟨t,rfl⟩:=ry;obtain ⟨z,aA,n,r,hl,e⟩:=I.QI hH;have hlen:aA.toArray.size * k.toNat<=sizeLine:=by rw [zT,<- hl];exact hz
 have acB:¬ aA.toArray.size * k.toNat > (2 ^ 63 - 1) / 8:=by
  have:(sizeLine:Nat)<=(2 ^ 63 - 1) / 8:=by decide
  omega
 have Um:¬ (!Builtin.List.listFitsIndex k)=true:=by
  rw [fitsIndex_both h1 h2];exact zQ
 have Xm:¬ Builtin.List.listTooLong (aA.toArray.size * k.toNat)=true:=by
  rw [NV hlen];exact zQ
 have acf:List.foldl (λx1 x2=>x1++x2) #[] (List.replicate (if aA.toArray.isEmpty=true then 0 else k.toNat) aA.toArray)=(List.replicate k.toNat aA).flatten.toArray:=by
  have f0:∀ m:Nat,List.foldl (λx1 x2=>x1++x2) #[] (List.replicate m aA.toArray)=(List.replicate m aA).flatten.toArray:=λm=>by
   have:=foldl_rep aA m [];rw [List.nil_append] at this;exact this
  rw [f0];cases aA with
  | nil=>simp
  | cons a r'=>rw [if_neg (by simp)]
 refine wpAny_binaryOp_repeat_ref (T := "list") (U := "int") (by decide) ⟨_,e,rfl⟩ (λs'=>typeIs_int s' k t) noFill_list_mul F.fills_int_mul F.slot_int_rmul repeat_list F.slot_int_index.lookup
  (call_meets F.slot_int_rmul (typeIs_int s k t) F.entry_int_rmul (F.args_int_rmul_2 _ _) (int___rmul___int_list k t l aA.toArray n)
   ⟨e,rfl,⟨_,e,rfl⟩,call_meets F.slot_list_mul ⟨_,e,rfl⟩ F.entry_list_mul (F.args_list_mul_2 _ _) (AutoListH.list___mul___list_int_3 l aA.toArray n k t Um acB Xm) ⟨e,?_⟩⟩)
 rw [acf];exact ⟨.ref _,_,I.WA (t':=s.toks) (r.rep k.toNat) (by rw [len_rep,Nat.mul_comm];exact hz),rfl,q _ I.fresh⟩
end
section
variable {prog:Program}{w:World}{A:Around}{E:Value->Shared->Prop}{s:Shared}
set_option maxRecDepth 100000 in
end
section
variable {X:Cx}
end
end L2
namespace Att
open PySem PySem.W PySem.Calls PyProof.Rows
theorem jU {P:Params}{h:Heap}:∀ (ns:List Int) (vs:List Value),WellAll P h vs (ns.map WData.int)->IntsAre vs ns:=by
 intro ns;induction ns with
 | nil=>
  intro vs w;rw [yn] at w;cases w;exact .nil
 | cons n ns ih=>
  intro vs w;rw [zY] at w;cases w with
  | cons a b=>
   cases a;exact .cons _ _ (ih _ b)
theorem LI {l:OpenLaw}{n:Nat}(hn:l.most=some n){P:Params}{h:Heap}{args:List WData}{vals:List Value}
  (QV:l.row.toRowW.claim.pre args=true) (hwl:WellAll P h vals args) :
  ∃ a vs ns,vals=[Value.ref a]/\args=[WData.list (ns.map WData.int)]/\h.get? a=some { cls:=.type "list", data:=.seq vs.toArray }/\IntsAre vs ns/\ns.length<=n:=by
 have hsh:WShape.hasAll [] args [.list .int]=true:=(pre_splitW QV).1;have hc:l.pre.holds [] { args:=args }=true:=(pre_splitW QV).2;obtain ⟨d,r,rfl,h1,h2⟩:=hasAllW_cons hsh;obtain rfl:=hasAllW_nil h2;obtain ⟨xs,rfl,h3⟩:=hasW_list h1;obtain ⟨ns,rfl⟩:=items_int h3;have hlen:ns.length<=n:=by
  unfold OpenLaw.pre at hc;have h4:(WTm.not (.lt (.lit (.int (n:Int))) (.len (.arg 0)))).holds [] { args:=[.list (ns.map .int)] }=true:=by
   have h4:=(holds_andW hc).1;rw [hn] at h4;exact h4
  have h5:=condW_of h4 (w_not (w_lt w_lit (w_len_list (w_arg rfl))));rw [zA] at h5;refine xQ λq=>?_;have q':(n:Int) < ((ns.length:Nat):Int):=by omega
  first
   | (rw [decide_eq_true q'] at h5;exact absurd h5 (by decide))
   | (simp at h5;omega)
 cases hwl with
 | cons w1 w2=>
  cases w2;cases w1 with
  | list ho fJ=>exact ⟨_,_,ns,rfl,rfl,ho,jU ns _ fJ,hlen⟩
theorem LP (l:OpenLaw)(args:List WData):l.row.toRowW.claim.post args (.bool true) args=true:=
 postW_of (r:=l.row.toRowW) (X:=(true == true))
  (show WShape.has [] (.bool true) .bool=true by first | rfl | decide | simp [WShape.has,WShape.arms,WShape.armsAll])
  (show (WTm.eq .res (.lit (.bool true))).value [] { args:=args,res:=some (.bool true),after:=args }=some (.bool (true == true)) from w_eq_bool (w_res rfl) w_lit) rfl
theorem tO {l:OpenLaw}{n:Nat}{q:Program}{loose:List Str}{XP:(Str->Option Value)->Heap->Prop}{YP:World->Heap->Prop}{d:DefRec}
  (hn:l.most=some n) (Xu:d.params.defaults=[])
  (call:∀ (w:World) (cO aP:Shared) (mg mb:Str->Option Value) (fa:Addr) (o:Obj) (pm cd doc:Value) (a:Addr) (vs:List Value) (ns:List Int),
   Ground q loose [] XP w cO mg mb aP.heap->YP w aP.heap ->
   aP.heap.get? fa=some o->o.data=.func (docDef d.name d.params d.body d.scope pm cd doc)->aP.heap.CodeRec cd d.name->mg d.name=some (.ref fa) ->
   aP.heap.get? a=some { cls:=.type "list", data:=.seq vs.toArray }->IntsAre vs ns->ns.length<=n->aP.gens=#[] ->
   codeAny (model l.prog w) callerA (.call (.ref fa) ⟨[.ref a],[]⟩) (λr s'=>r=.ok (.ret (.bool true))/\OldK aP.heap s'.heap/\s'.os=aP.os/\AllBare s'.gens) aP) :
  WalkO q loose XP YP l.row.toRowW d [] (λf vs=>PySem.call f vs):=by
 intro w cO aP mg mb G Y fa o pm cd doc dV kV ho hd Oz hD hmg hg args vals as QV ahg hrd hwl hlo;obtain rfl:dV=.none:=Dflts.none hD Xu;obtain rfl:kV=.none:=Dflts.noKw hD;obtain ⟨a,vs,ns,rfl,rfl,Ug,hints,hlen⟩:=LI hn QV hwl;refine enter_call (codeAny_mono (call w cO aP mg mb fa o pm cd doc a vs ns G Y ho (fd_plain hd) Oz hmg Ug hints hlen hg) λr s' hq=>?_);obtain ⟨rfl,h2,h3,h4⟩:=hq;exact ⟨.inl ⟨.bool true,.bool true,[],rfl,λ_=>rfl,.bool true,LP l _,λ_=>⟨List.Pairwise.nil,λ_ hm=>(nomatch hm)⟩⟩,h2,h3,h4⟩
section
variable {prog:Program}{w:World}{A:Around}{E:Value->Shared->Prop}{s:Shared}{K:Frag}
def ledger (h:Heap)(L d:Addr):List (Addr×Obj):=(List.range h.objs.size).filterMap λa=>if a=L\/a=d then none else (h.get? a).map λo=>(a,o)
end
end Att
namespace L2
open PySem PySem.Spec PyProof.Rows
theorem mX:∀ {vs:List Value}{ns:List Int},IntsAre vs ns->Vals (ns.map V.int) vs
 | _,_,.nil=>.nil
 | _,_,.cons n t h=>.cons ⟨t,rfl⟩ (mX h)
def UT (H:Hp):Prop:=∀ b,H b=none\/∃ o xs,H b=some (.sV o (.lst xs))
theorem Oc {P:Program}{w:World}{K:PySem.W.Frag}{mg mb:Str->Option Value}{CX:Pb}{k:Nat}{fa a:Addr}{fd:FuncData}{x:Str}{sp:Sp}{aP:Shared}{vs:List Value}{ns:List Int}
  (KX:K.In aP.heap) (Vk:aP.heap.Ns mainGlobals mg) (hb:aP.heap.Ns builtinsNs mb) (hbb:∀ x:Str,x ≠ "__name__" -> mb x=bootBuiltins x) (acj:aP.heap.NoLimit) (hg:aP.gens=#[])
  (ha:aP.heap.get? a=some { cls:=.type "list", data:=.seq vs.toArray }) (hi:IntsAre vs ns) (hl:ns.length<=sizeLine) (hr:gb k callerA)
  (F:∀ base:Heap,K.In base->base.Ns mainGlobals mg->aQ P w K mg base CX k fa fd [x] sp) (Xx:∀ (s:Shared) (u:Value),BindsTo s fd ⟨[u],[]⟩ [(x,u)])
  (RM:∀ H:Hp,UT H->aB K H a (ns.map V.int)->sp [.ref a] H (λv _=>v=.bl true) λ_ _ _=>False)
  (Ut:∀ H e s',CX [] H aP (λ_ _ _=>False) e s'->False) :
  codeAny (model P w) callerA (.call (.ref fa) ⟨[.ref a],[]⟩) (λr s'=>r=.ok (.ret (.bool true))/\OldK aP.heap s'.heap/\s'.os=aP.os/\AllBare s'.gens) aP:=by
 have rv:=mX hi;have abl:=hi.length
 -- from an abstract heap in adz nothing but pX SQ may be tracked
 have core:∀ H:Hp,UT H->aB K H a (ns.map V.int)->gY P w H aP.heap->(∀ b,H b≠none->b=a)->(H a≠none->K.lookup a=none) ->
   codeAny (model P w) callerA (.call (.ref fa) ⟨[.ref a],[]⟩) (λr s'=>r=.ok (.ret (.bool true))/\OldK aP.heap s'.heap/\s'.os=aP.os/\AllBare s'.gens) aP:=by
  intro H hO hS bq hA hK;have Ld:∀ {b:Addr}{o:Obj},aP.heap.get? b=some o->H b=none->(oW aP.heap H).get? b=some o:=λe n=>Ow e n;have Wg:∀ {b:Addr}{o:Obj}{es:Array DictEntry}{ep:Nat},aP.heap.get? b=some o->o.data=.dict es ep->H b=none:=λ{b o es ep} e d=>by
   cases q:H b with
   | none=>rfl
   | some u=>
    have e':b=a:=hA b (by rw [q];simp);subst e';rw [ha] at e;cases e;have d':Data.seq vs.toArray _=Data.dict es ep:=d;cases d'
  have YD:∀ {b:Addr}{m:Str->Option Value},aP.heap.Ns b m->(oW aP.heap H).Ns b m:=λ{b m} ⟨o,es,ep,e,d,r⟩=>⟨o,es,ep,Ld e (Wg e d),d,r⟩;have hKb:K.In (oW aP.heap H):=λb o e=>Ld (KX b o e) (by
   cases q:H b with
   | none=>rfl
   | some u=>
    have e':b=a:=hA b (by rw [q];simp);subst e';rw [hK (by rw [q];simp)] at e;cases e)
  have hM:Mod K mg (oW aP.heap H):=⟨hKb,YD Vk,⟨mb,YD hb,hbb⟩,let ⟨mc,h1,h2⟩:=acj;⟨mc,YD h1,h2⟩⟩;have e0:Rk P w K mg (oW aP.heap H) callerA [] aP H:=⟨rfl,hM,λb o e=>QD e,Nat.le_of_eq (Me _ _),trivial,λb hb=>absurd (show b∈([]:List Addr) from hb) (by simp),bq,.of_eq hg⟩;refine codeAny_mono ((F _ hKb (YD Vk)).run callerA [] aP H ⟨[.ref a],[]⟩ [.ref a] [.ref a] _ _ hr e0 (Xx aP (.ref a)) (.cons rfl .nil) (RM H hO hS)) λr s' h=>?_;cases r with
  | error e=>exact (Ut H e s' h).elim
  | ok fl=>
   cases fl with
   | next=>exact False.elim h
   | brk=>exact False.elim h
   | cont=>exact False.elim h
   | ret u=>
    obtain ⟨v,H',os,bare,un,ab9,r',q⟩:=h;have q':v=.bl true:=q;subst q';obtain rfl:u=Value.bool true:=r';refine ⟨rfl,OldK.of_keep λb o e=>?_,os,bare⟩;cases q:H b with
    | none=>exact un.keep b o e q (by intro z;exact absurd (show b∈([]:List Addr) from z) (by simp)) (by simp)
    | some u=>
     rcases hO b with z | ⟨ob,xs,z⟩
     ·rw [q] at z;cases z
     ·have z2:=un.jz b ob _ z;obtain ⟨e1,_⟩:=bq b _ z;obtain ⟨e2,_⟩:=ab9 b _ z2;rw [e] at e1;cases e1;exact e2
 cases hk:K.lookup a with
 | some o=>
  -- pX SQ is one of pX N3 own objects
  have e:=KX a o hk;rw [ha] at e;cases e;refine core (λ_=>none) (λ_=>.inl rfl) (.inr ⟨_,vs.toArray,_,hk,rfl,rfl,rfl,by rw [zT,abl];exact hl,by simpa using rv⟩) (λb u z=>by have z':(none:Option HO)=some u:=z;cases z') (λb z=>absurd rfl z) λz=>absurd rfl z
 | none=>
  refine core (λb=>if b=a then some (.sV { cls:=.type "list", data:=.seq vs.toArray } (.lst (ns.map V.int))) else none) (λb=>?_) (.inl (.inr ⟨{ cls:=.type "list", data:=.seq vs.toArray },if_pos rfl⟩)) (λb u z=>?_) (λb z=>?_) λ_=>hk
  ·by_cases hb:b=a
   ·exact .inr ⟨_,_,if_pos hb⟩
   ·exact .inl (if_neg hb)
  ·by_cases hb:b=a
   ·have z':=(if_pos hb).symm.trans z;cases z';subst hb;exact ⟨ha,by rw [zA];exact hl,vs,_,rv,ha⟩
   ·have z':=(if_neg hb).symm.trans z;cases z'
  ·by_cases hb:b=a
   ·exact hb
   ·exact absurd (if_neg hb) z
theorem Pz {l:PySem.W.OpenLaw}{n k:Nat}{q:Program}{loose:List Str}{XP:(Str->Option Value)->Heap->Prop}{YP:World->Heap->Prop}{d:DefRec}{K:Params->PySem.W.Frag}{CX:World->Pb}{sp:World->Sp}{x:Str}
  (hn:l.most=some n) (hn2:n<=sizeLine) (Xu:d.params.defaults=[]) (hr:gb k callerA)
  (hY:∀ (w:World) (h:Heap),YP w h->(K w.params).In h)
  (F:∀ (w:World) (mg:Str->Option Value) (fa:Addr) (h:Heap),(K w.params).In h->h.Ns mainGlobals mg->mg d.name=some (.ref fa) ->
   ∃ fd:FuncData,(∀ (s:Shared) (u:Value),BindsTo s fd ⟨[u],[]⟩ [(x,u)]) /\
    ∀ base:Heap,(K w.params).In base->base.Ns mainGlobals mg->aQ l.prog w (K w.params) mg base (CX w) k fa fd [x] (sp w))
  (RM:∀ (w:World) (H:Hp) (a:Addr) (ns:List Int),ns.length<=n->UT H->aB (K w.params) H a (ns.map V.int)->sp w [.ref a] H (λv _=>v=.bl true) λ_ _ _=>False)
  (Ut:∀ (w:World) (H:Hp) (s:Shared) (e:Value) (s':Shared),CX w [] H s (λ_ _ _=>False) e s'->False) :
  PySem.W.WalkO q loose XP YP l.row.toRowW d [] (λf vs=>PySem.call f vs):=by
 refine Att.tO hn Xu λw cO aP mg mb fa o pm cd doc a vs ns G Y ho hd Oz hmg Ug hints hlen hg=>?_;have KX:=hY w _ Y;obtain ⟨fd,hb,hF⟩:=F w mg fa _ KX G.T.g hmg;exact Oc KX G.T.g G.T.b G.T.builtins G.T.nolimit hg Ug hints (zj hlen hn2) hr hF hb (λH hO hS=>RM w H a ns hlen hO hS) λH e s'=>Ut w H aP e s'
def j5 (s:Stmt):Arguments:=match s with
 | .FunctionDef _ a _ _ _ _ _ _ _ _=>a
 | _=>{ posonlyargs:=[],args:=[],vararg:=none,kwonlyargs:=[],kw_defaults:=[],kwarg:=none,defaults:=[] }
def aj (s:Stmt):List Stmt:=match s with
 | .FunctionDef _ _ b _ _ _ _ _ _ _=>b
 | _=>[]
def ak (s:Stmt):Scope:=match s with
 | .FunctionDef _ _ _ _ _ _ sc _ _ _=>sc
 | _=>{ kind:=.function,names:=[],isGenerator:=false,isCoroutine:=false }
abbrev ck:Pb:=λ_ _ _ _ _ _=>False
abbrev E0:XK:=λ_ _ _=>False
theorem aq {X:Cx}:Passes ck X E0:=λ_ _ _ _ _ _ _ h=>h.elim
structure aV (K:PySem.W.Frag) (x qual:Str) (st:Stmt) (f:Addr) (fd:FuncData):Prop where
 ex:∃ (oc:Value) (od:Option Addr) (kV doc pm:Value) (an:Option Addr) (bL ct:Value) (Rx:Array (Option Value)),
  fd=xZ x qual (j5 st) (aj st) (ak st) .none kV doc pm an bL ct/\K.lookup f=some ⟨oc,od,.func fd,Rx⟩/\PySem.W.codeIn K bL qual=true
 kp:zM K (.ref f)=true
section
variable {P:Program}{w:World}{K:PySem.W.Frag}{mg:Str->Option Value}{base:Heap}
theorem aV.ok {x qual:Str}{st:Stmt}{f:Addr}{fd:FuncData}{N ps:List Str}{k:Nat}{sp:Sp}(F:aV K x qual st f fd)(S:aC N ps (ak st))(len:∀ vs H Q E,sp vs H Q E->vs.length=ps.length)
  (OA:∀ (bL:Value) (A:Around) (outer:List Env) (s:Shared) (H:Hp) (vs:List V) (Q:VK) (E:XK),gb k (A.deeper (envOfC qual (ak st) s.heap.objs.size f bL))->sp vs H Q E ->
   ∃ t,pQ (pA ck P w K mg base N qual (ak st) f bL A outer s H E).YE (aj st) t/\t { nx:=λ_ H'=>Q .cK H',rt:=Q } (start N vs) H):aQ P w K mg base ck (k + 1) f fd ps sp:=by
 obtain ⟨oc,od,kV,doc,pm,an,bL,ct,Rx,rfl,lk,Oz⟩:=F.ex;refine XJ lk Oz S len λA outer s H vs Q E hr RM=>?_;obtain ⟨t,h,q⟩:=OA bL A outer s H vs Q E hr RM;exact ⟨t,h.YE,q⟩
theorem aV.binds {x qual:Str}{st:Stmt}{f:Addr}{fd:FuncData}{ps:List Str}(F:aV K x qual st f fd)
  (h:∀ (kV doc pm:Value) (an:Option Addr) (bL ct:Value) (us:List Value),us.length=ps.length->bindArgs (xZ x qual (j5 st) (aj st) (ak st) .none kV doc pm an bL ct) ⟨us,[]⟩=pure (ps.zip us)):Binds K fd ps []:=by
 obtain ⟨oc,od,kV,doc,pm,an,bL,ct,Rx,rfl,lk,Oz⟩:=F.ex;exact .all (h kV doc pm an bL ct)
theorem fun_mk {x qual:Str}{st:Stmt}{f:Addr}{oc:Value}{od an:Option Addr}{Rx:Array (Option Value)}{kV doc pm bL ct:Value}(l:K.lookup f=some ⟨oc,od,.func (xZ x qual (j5 st) (aj st) (ak st) .none kV doc pm an bL ct),Rx⟩)
  (c:PySem.W.codeIn K bL qual=true) (k:zM K (.ref f)=true):aV K x qual st f (xZ x qual (j5 st) (aj st) (ak st) .none kV doc pm an bL ct):=⟨⟨oc,od,kV,doc,pm,an,bL,ct,Rx,rfl,l,c⟩,k⟩
end
section
variable {X:Cx}
theorem pv (i:Nat){x:Str}{pos:Pos}(hN:X.N[i]?=some x:=by rfl)(hv:Sg X.env.scope x=true:=by rfl)(hd:(x == ("__debug__" : Str))=false:=by decide)
  (Oz:(x == ("__classdict__" : Str))=false:=by decide):PE X (.Name x pos) (M8 i):=Tf hN (PB hv) hd Oz
end
def au (H H':Hp):Prop:=∀ b o,H b=some o->H' b=some o
theorem au.refl (H:Hp):au H H:=λ_ _ h=>h
theorem au.trans {H H1 H2:Hp}(a:au H H1)(b:au H1 H2):au H H2:=λc o h=>b c o (a c o h)
theorem au.seq {K:PySem.W.Frag}{H H':Hp}{a:Addr}{xs:List V}(e:au H H')(h:aB K H a xs):aB K H' a xs:=by
 rcases h with (h | ⟨o,h⟩) | h
 ·exact .inl (.inl (e _ _ h))
 ·exact .inl (.inr ⟨o,e _ _ h⟩)
 ·exact .inr h
theorem ju {prog:Program}{w:World}{A:Around}{R:Result->Shared->Prop}{s:Shared}{elt target iter:Expr}{ifs:List Expr}{scope:Scope}{pos:Pos}{it acc:Value}{env:Env}(I:Nat->Shared->Prop)
  (turn:∀ n s,I n s->wpAny (model prog w) A (pyNext it) (λr aP=>match r with
   | none=>R (.ok .next) aP
   | some v=>wpAny (model prog w) A (letOwnedTupleGo target it v) (λ_ jI=>wpAny (model prog w) A (assign target env v) (λ_ fN=>
     wpAny (model prog w) A (forIn ifs true λc r=>if r=true then do let ok <- isTrue c env (eval c env);pure (ForInStep.yield ok) else pure (ForInStep.yield r)) (λok jh=>
      if ok=true then wpAny (model prog w) A (eval elt env) (λx rj=>
       wpAny (model prog w) A (call (.builtin "list.append") [acc,x]) (λ_ p9=>∃ m,m < n/\I m p9) (λ_ _=>False) rj) (λ_ _=>False) jh
      else ∃ m,m < n/\I m jh) (λ_ _=>False) fN) (λ_ _=>False) jI) (λ_ _=>False) aP) (λ_ _=>False) s)
  (n:Nat) (h:I n s) :
  codeAny (model prog w) A (.compLoop (.ListComp elt [⟨target,iter,ifs,0⟩] scope pos) 0 it acc env) R s:=by
 refine codeAny_loop rfl I (λn s hI=>?_) n h;show wpAny _ A ((compTurn (.ListComp elt [⟨target,iter,ifs,0⟩] scope pos) 0 it acc env).onRaise (λx=>do noteFrame x env;theTreesLotGoes x)) _ _ s;refine wpAny_noted ?_;rw [compTurn_list];refine wpAny_bind (wpAny_standAt (wpAny_bind (wpAny_mono (turn n s hI) (λr aP bK=>?_) λ_ _ h'=>h'.elim)));cases r with
 | none=>exact wpAny_pure bK
 | some v=>
  refine wpAny_bind (wpAny_mono bK (λ_ jI sL=>?_) λ_ _ h'=>h'.elim);refine wpAny_bind (wpAny_mono sL (λ_ fN Oh=>wpAny_bind (wpAny_mono Oh (λok jh sJ=>?_) λ_ _ h'=>h'.elim)) λ_ _ h'=>h'.elim);cases ok with
  | false=>exact wpAny_pure ⟨rfl,sJ⟩
  | true=>
   exact wpAny_bind (wpAny_bind (wpAny_mono sJ (λx rj Og=>wpAny_bind (wpAny_mono Og (λ_ p9 Of=>wpAny_pure (wpAny_pure ⟨rfl,Of⟩)) λ_ _ h'=>h'.elim)) λ_ _ h'=>h'.elim))
def dR (names:List (Str×NameKind))(env:Env)(cs:List (Str×Addr)):List (Str×Addr):=
 names.foldl (λcs p=>if p.2=.free then (match env.cells.lookup p.1 with | some c=>(p.1,c)::cs | none=>cs) else cs) cs
theorem jb {env:Env}:∀ (names:List (Str×NameKind)) (cs:List (Str×Addr)),(∀ y∈names,y.2=.free->∃ c,env.cells.lookup y.1=some c) ->
  (forIn names cs λx r=>(if (x.2 == NameKind.free)=true then do let a <- cellOf env x.1;pure (ForInStep.yield ((x.1,a)::r)) else pure (ForInStep.yield r):Sem _))=pure (dR names env cs)
 | [],cs,_=>by simp [dR]
 | (n,k)::r,cs,h=>by
  have ih:=λcs=>jb r cs λy hy=>h y (zU _ hy);simp only [List.forIn_cons];by_cases hk:k=.free
  ·subst hk;obtain ⟨c,e⟩:=h (n,.free) za rfl;have e':env.cells.lookup n=some c:=e;have ec:cellOf env n=pure c:=by unfold cellOf;rw [e']
   simp only [beq_self_eq_true,if_true,ec,pure_bind];rw [ih];simp [dR,e']
  ·have hb:(k == NameKind.free)=false:=by simpa using hk
   simp only [hb,zg,if_false,pure_bind];rw [ih];simp [dR,hk]
theorem cD {scope:Scope}{env:Env}(h:∀ y∈scope.names,y.2=.free->∃ c,env.cells.lookup y.1=some c):closureFor scope env=pure (dR scope.names env []):=by unfold closureFor;have:=jb scope.names [] h;simp only [bind_pure];exact this
theorem tD {env:Env}:∀ (names:List (Str×NameKind)) (cs:List (Str×Addr)) (x:Str) (c:Addr),(x,c)∈dR names env cs->(x,c)∈cs\/env.cells.lookup x=some c
 | [],cs,x,c,h=>.inl h
 | (n,k)::r,cs,x,c,h=>by
  have h':(x,c)∈dR r env (if k=.free then (match env.cells.lookup n with | some c=>(n,c)::cs | none=>cs) else cs):=h;rcases tD r _ x c h' with q | q
  ·split at q
   ·cases e:env.cells.lookup n with
    | none=>rw [e] at q;exact .inl q
    | some d=>
     rw [e] at q;rcases zJ.mp q with z | z
     ·cases z;exact .inr e
     ·exact .inl z
   ·exact .inl q
  ·exact .inr q
theorem nJ {env:Env}:∀ (names:List (Str×NameKind)) (cs:List (Str×Addr)) (x:Str),(∃ c,(x,c)∈cs)->∃ c,(x,c)∈dR names env cs
 | [],cs,x,h=>h
 | (n,k)::r,cs,x,⟨c,h⟩=>by
  refine nJ r _ x ?_;dsimp only;split
  ·split
   ·exact ⟨c,zU _ h⟩
   ·exact ⟨c,h⟩
  ·exact ⟨c,h⟩
theorem tE {env:Env}:∀ (names:List (Str×NameKind)) (cs:List (Str×Addr)) (x:Str),(x,NameKind.free)∈names->(∃ c,env.cells.lookup x=some c)->∃ c,(x,c)∈dR names env cs
 | [],_,_,h,_=>by simp at h
 | (n,k)::r,cs,x,h,⟨c,e⟩=>by
  rcases zJ.mp h with z | z
  ·have e1:x=n:=congrArg Prod.fst z;have e2:NameKind.free=k:=congrArg Prod.snd z;subst e1 e2;refine nJ r _ x ⟨c,?_⟩;dsimp only;rw [if_pos rfl,e];exact za
  ·exact tE r _ x z ⟨c,e⟩
theorem cC {β:Type}:∀ (l:List (Str×β)) (x:Str) (c:β),(x,c)∈l->∃ d,l.lookup x=some d
 | (n,d)::r,x,c,h=>by
  cases hx:x == n with
  | true=>exact ⟨d,by simp [yL,hx]⟩
  | false=>
   simp only [yL,hx];rcases zJ.mp h with z | z
   ·cases z;simp at hx
   ·exact cC r x c z
theorem wf {names:List (Str×NameKind)}{env:Env}{x:Str}{c:Addr}(h:(dR names env []).lookup x=some c):env.cells.lookup x=some c:=by
 rcases tD names [] x c (zh h) with q | q
 ·simp at q
 ·exact q
theorem gG {names:List (Str×NameKind)}{env:Env}{x:Str}{c:Addr}(h:(x,NameKind.free)∈names)(e:env.cells.lookup x=some c):(dR names env []).lookup x=some c:=by obtain ⟨d,hd⟩:=tE names [] x h ⟨c,e⟩;obtain ⟨d',RQ⟩:=cC _ _ _ hd;have:=wf RQ;rw [e] at this;cases this;exact RQ
theorem qN {env:Env}:∀ {names:List (Str×NameKind)}{x:Str},names.lookup x=some .free ->
  (names.map λ(n,k)=>if (k == NameKind.free && env.scope.kind == .function && env.kindOf n == some .cell) then (n,NameKind.cell) else (n,k)).lookup x=some .cell \/
  (names.map λ(n,k)=>if (k == NameKind.free && env.scope.kind == .function && env.kindOf n == some .cell) then (n,NameKind.cell) else (n,k)).lookup x=some .free
 | [],_,h=>by simp at h
 | (n,k)::r,x,h=>by
  have ih:=@qN env r x;show List.lookup x ((if (k == NameKind.free && env.scope.kind == .function && env.kindOf n == some .cell)=true then (n,NameKind.cell) else (n,k))::_)=_\/List.lookup x ((if (k == NameKind.free && env.scope.kind == .function && env.kindOf n == some .cell)=true then (n,NameKind.cell) else (n,k))::_)=_;by_cases hc:(k == NameKind.free && env.scope.kind == .function && env.kindOf n == some .cell)=true
  ·rw [if_pos hc];cases hx:x == n with
   | true=>left;simp [yL,hx]
   | false=>
    simp only [yL,hx] at h ⊢;exact ih h
  ·rw [if_neg hc];cases hx:x == n with
   | true=>
    simp only [yL,hx] at h;cases h;right;simp [yL,hx]
   | false=>
    simp only [yL,hx] at h ⊢;exact ih h
structure ay (own:List Str) (caps:List Nat) (N:List Str) (sc scope:Scope):Prop where
 kind:scope.kind=.function
 kY:∀ y∈scope.names,y.2≠.cell
 loc:∀ y∈scope.names,y.2=.local->scope.names.lookup y.1=some .local
 fr:∀ y∈scope.names,y.2=.free->sc.names.lookup y.1=some .cell\/sc.names.lookup y.1=some .free
 cap:∀ i∈caps,i < N.length/\scope.names.lookup ((N[i]?).getD Str.empty)=some .free
def bQ (X:Cx)(own:List Str)(caps:List Nat)(scope:Scope)(s:Shared)(H:Hp)(fp:List Addr)(C:Addr):Cx:=
 { X with N:=own++caps.map (λi=>(X.N[i]?).getD Str.empty),cO:=s,Mx:=H,env:=compEnvC scope (dR scope.names X.env []) C X.env,outer:=X.stack,ex:=fp,fn:=λ_=>false,pn:=[],xe:=λ_ _=>False }
def dw (n:Nat)(caps:List Nat)(σ:St):St:=List.replicate n none++caps.map λi=>(σ[i]?).join
section
variable {X:Cx}{ai:List (Addr×Obj)}{σ:St}{H:Hp}{s:Shared}
theorem iX {scope:Scope}{env:Env}(nc:∀ y∈scope.names,y.2≠.cell){x:Str}{k:NameKind}(hk:k=.cell\/k=.free)(h:(relabel scope env).names.lookup x=some k):(x,NameKind.free)∈scope.names:=by
 have hm:=zh h;obtain ⟨⟨n,k0⟩,hy,e⟩:=zd.mp hm;dsimp only at e;split at e
 ·rename_i hc;simp only [zb,beq_iff_eq] at hc;have e1:n=x:=congrArg Prod.fst e;subst e1;rw [hc.1.1] at hy;exact hy
 ·cases e;rcases hk with z | z
  ·subst z;exact absurd rfl (nc _ hy)
  ·subst z;exact hy
theorem lI {own:List Str}{caps:List Nat}{scope:Scope}{fp:List Addr}{D C:Addr}{o:Obj}{h1:Heap}{tk:Nat}(I:Inv X ai σ H s)(S:ay own caps X.N X.env.scope scope)
  (f:∀ b∈fp,iE X ai H b) (fl:∀ b∈fp,b < s.heap.objs.size) (hD:s.heap.objs.size<=D) (hC:s.heap.objs.size<=C) (pO:D≠C) (keep:∀ b o,s.heap.get? b=some o->h1.get? b=some o)
  (Vk:h1.Ns C λ_=>none) (lQ:h1.get? D=some o) (ho:∀ v,o.data≠.cell v) :
  Inv (bQ X own caps scope s H fp C) [(D,o)] (dw own.length caps σ) H { s with heap:=h1,toks:=tk }:=by
 have sub:∀ b∈Mi X.stack,b < s.heap.objs.size:=λb hb=>by
  rcases zJ.mp (I.dN b hb) with e | hb
  ·rw [e];exact I.lt
  ·by_cases q:b < s.heap.objs.size
   ·exact q
   ·exact absurd hb (I.Tq (xQ q))
 refine ⟨⟨I.ok.mod,S.kind,I.ok.glob,I.ok.blt,hC,λx y c h1 h2=>I.ok.inj x y c (wf h1) (wf h2),λx hx=>?_,λx c z _=>absurd (show false=true from z) zQ,I.ok.hd,I.ok.frames,.inl rfl,
   λb hb=>⟨zW (ze (fl b hb) hC),λx c e=>(f b hb).2.2.2.2.1 x c (wf e)⟩,I.bs,zj I.ok.OW I.sz,λb ob e hb=>?_,λb hb hs=>?_,I.stack,I.oz⟩,
  rfl,I.bare,Un.kept keep,⟨_,Vk,λi x v e1 e2 e3=>?_⟩,λx c e=>?_,I.bq.fresh hC,λx c e=>I.f6 x c (wf e),λp hp=>?_,I.bq.kept keep,?_⟩
 ·have hm:(x,NameKind.free)∈scope.names:=by
   rcases hx with hx | hx
   ·exact iX S.kY (.inl rfl) hx
   ·exact iX S.kY (.inr rfl) hx
  obtain ⟨c,hc⟩:=I.ok.has x (S.fr _ hm rfl);exact ⟨c,gG hm hc⟩
 ·rcases (f b hb).2.2.2.1 with z | z
  ·exact I.ok.LU b ob e z
  ·exact absurd (ze (Heap.lt_size e) (zj I.ok.OW z)) (yH _)
 ·rcases zJ.mp (I.dN b hs) with e | e
  ·exact (f b hb).2.1 e
  ·exact (f b hb).2.2.1 e
 ·have OP:(List.replicate own.length (none:Option V)++caps.map λi=>(σ[i]?).join)[i]?=some (some v):=e2;have OQ:(own++caps.map (λi=>(X.N[i]?).getD Str.empty))[i]?=some x:=e1;have hi:own.length<=i:=by
   by_cases q:i < own.length
   ·rw [yJ (by simpa using q),yT,if_pos q] at OP;cases OP
   ·exact xQ q
  rw [yC (by simpa using hi),yb,zF] at OP;rw [yC hi,zF] at OQ;cases ek:caps[i - own.length]? with
  | none=>rw [ek] at OQ;cases OQ
  | some k=>
   rw [ek] at OQ OP;have ex:(X.N[k]?).getD Str.empty=x:=Option.some.inj OQ;have ev:(σ[k]?).join=some v:=Option.some.inj OP;have UA:σ[k]?=some (some v):=by
    cases q:σ[k]? with
    | none=>rw [q] at ev;cases ev
    | some y=>rw [q] at ev;exact congrArg some ev
   obtain ⟨hl,hf⟩:=S.cap k (zB ek);have eN:X.N[k]?=some x:=by
    rw [zC hl] at ex ⊢;exact congrArg some ex
   rw [ex] at hf;have hm:=zh hf;have Xs:=S.fr _ hm rfl;obtain ⟨m,_,t7⟩:=I.loc;obtain ⟨u,ru,lk⟩:=t7 k x v eN UA (.inr Xs);refine ⟨u,ru,.inr ⟨qN hf,?_⟩⟩;rcases lk with ⟨kl,_⟩ | ⟨_,c,hc,ob,mO,hd⟩
   ·have QK:X.env.scope.names.lookup x=some .local:=kl;rcases Xs with z | z
    ·have z':X.env.scope.names.lookup x=some .cell:=z;rw [z'] at QK;cases QK
    ·have z':X.env.scope.names.lookup x=some .free:=z;rw [z'] at QK;cases QK
   ·exact ⟨c,gG hm hc,ob,keep c ob mO,hd⟩
 ·obtain ⟨v,ob,mO,hd⟩:=I.cell x c (wf e);exact ⟨v,ob,keep c ob mO,hd⟩
 ·have e:p=(D,o):=by simpa using (show p∈[]++[(D,o)] from hp)
  subst e;refine ⟨lQ,I.bq.fresh hD,pO,λz=>?_,ho⟩;exact absurd (ze (sub D z) hD) (yH _)
 ·show (dw own.length caps σ).length=(own++caps.map (λi=>(X.N[i]?).getD Str.empty)).length;simp [dw]
def UQ (X:Cx)(ifs:List Expr)(t:TT):Prop:=
 ∀ (ai:List (Addr×Obj)) (s:Shared) (σ:St) (H:Hp) (Q:Bool->Hp->Prop),Inv X ai σ H s->t σ H Q ->
  wpAny (model X.prog X.w) X.A (forIn ifs true λc r=>if r=true then do let ok <- isTrue c X.env (eval c X.env);pure (ForInStep.yield ok) else pure (ForInStep.yield r)) (TP X ai σ Q) X.xe s
def PR:TT:=λ_ H Q=>Q true H
theorem wT:UQ X [] PR:=λ_ s σ H Q I h=>wpAny_tests_nil ⟨H,I,h⟩
theorem dF {c:Expr}{t:TT}(h:PT X c t):UQ X [c] t:=λai s σ H Q I q=>wpAny_tests_one (h ai s σ H Q I q)
def Nc (n:Nat)(caps:List Nat)(wi:TI)(g:TG)(tc:TT)(te:TE):TE:=fun σ H Q=>wi σ H λJ H1=>∃ W:Nat->Nat->St->List V->Hp->Prop,(∃ m,W 0 m (dw n caps σ) [] H1)/\∀ i m τ acc H,W i m τ acc H ->
 (J.stop i H/\acc.length<=sizeLine/\∀ p,H p=none->Q (.ref p) (upd H p (.lst acc))) \/
 (J.go i H/\acc.length < sizeLine/\∀ x H',J.mF i H x H'->g x τ H' fun bC H2=>tc bC H2 λb H3=>if b=true then te bC H3 λy H4=>∃ m',m' < m/\W (i + 1) m' bC (acc++[y]) H4 else ∃ m',m' < m/\W (i + 1) m' bC acc H3)
theorem gY.vN {P:Program}{w:World}{H:Hp}{h:Heap}{a:Addr}{o:HO}(x:gY P w H h)(hn:H a=none)(new:bD P w (upd H a o) h a o):gY P w (upd H a o) h:=λb u e=>by
 by_cases hb:b=a
 ·subst hb;rw [xj] at e;cases e;exact new
 ·rw [xt hb] at e;exact (x b u e).fP (λc v _ q=>q) (λc q=>by rw [xt (xk q hn)];exact q) λc xs q=>by rw [xt (xk q hn)];exact q
theorem wc {own:List Str}{caps:List Nat}{elt tg iter:Expr}{ifs:List Expr}{scope:Scope}{pos:Pos}{wi:TI}{g:TG}{tc:TT}{te:TE}(hc:X.calm=true)(S:ay own caps X.N X.env.scope scope)(hi:PI X tg iter wi)
  (hg:∀ s H fp C,PG (bQ X own caps scope s H fp C) tg g) (ht:∀ s H fp C,UQ (bQ X own caps scope s H fp C) ifs tc) (he:∀ s H fp C,PE (bQ X own caps scope s H fp C) elt te)
  (hs:∀ x,foldedSetIterable iter X.env x=pure x:=by intro _;rfl):PE X (.ListComp elt [⟨tg,iter,ifs,0⟩] scope pos) (Nc own.length caps wi g tc te):=by
 intro ai s σ H Q I h;rw [eval_ListComp];refine wpAny_comprehension_free (use:=none) (cl:=dR scope.names X.env []) rfl hs (cD λy hy e=>I.ok.has y.1 (S.fr y hy e)) S.kind S.loc
  (wpAny_mono (hi ai s σ H _ I h) (λv s1 h1=>aR h1 λVg s2 h2=>?_) λ_ _ e=>e)
 obtain ⟨it,fp,tn,J,H2,e,I2,T,Lx,f2,W,⟨m0,w0⟩,turn⟩:=h2;subst e;refine wpAny_newObj_type (wpAny_newFunctionEnv S.kY (by intro y hy;simp at hy) (λbK bT bF=>?_) S.kind);dsimp only at bT bF ⊢;generalize u0:s2.heap.push { cls:=.type "list", dict:=none,data:=.seq ([]:List Value).toArray }=G at bT bF ⊢;have hG:G.objs.size=s2.heap.objs.size + 1:=by rw [<-u0,Heap.size_push]
 have pO:s2.heap.objs.size≠G.objs.size:=by rw [hG];exact zW (xR _)
 have lR:s2.heap.objs.size<=G.objs.size:=by rw [hG];exact xY _
 have below:∀ b,b < s2.heap.objs.size->b≠G.objs.size:=λb hb=>by rw [hG];exact zW (yp hb)
 have old:∀ b o,s2.heap.get? b=some o->bK.get? b=some o:=λb o e=>bF.extBut b o (below b (Heap.lt_size e)) (Heap.get?_push_of_some _ (u0 ▸ Heap.get?_push_of_some _ e));have lQ:bK.get? s2.heap.objs.size=some { cls:=.type "list", dict:=none,data:=.seq ([]:List Value).toArray }:=bF.extBut _ _ pO (Heap.get?_push_of_some _ (u0 ▸ Heap.get?_push_size _ rfl));have fl:∀ b∈fp,b < s2.heap.objs.size:=λb hb=>let ⟨o,e,_⟩:=T.obj _ _ Lx b hb;Heap.lt_size e;have fu:bK.Ns G.objs.size λ_=>none:=bT;have I4:=lI (tk:=s2.toks + ([]:List (Str×Value)).length) I2 S f2 fl (zI _) lR pO old fu lQ (λv z=>nomatch z);have uh:tn 0 bK:=T.keep _ _ _ Lx λb _ o e=>old b o e;generalize Uc:({ s2 with heap:=bK,toks:=s2.toks + ([]:List (Str×Value)).length }:Shared)=s4 at I4 ⊢;have e4:s4.heap=bK:=by rw [<-Uc]
 rw [<-e4] at uh
 -- pX loop
 have loop:codeAny (model X.prog X.w) X.A (.compLoop (.ListComp elt [⟨tg,iter,ifs,0⟩] scope pos) 0 (.ref it) (.ref s2.heap.objs.size) (compEnvC scope (dR scope.names X.env []) G.objs.size X.env))
   (compPost (model X.prog X.w) X.A X.xe none (EP X ai σ Q) (.ref s2.heap.objs.size) G.objs.size) s4:=by
  let Y:=bQ X own caps scope s2 H2 fp G.objs.size
  have eV:∀ {H':Hp}{aA:List Value}{n:Nat},(∀ b∈fp,H' b=none)->∀ b∈fp,iE Y [(s2.heap.objs.size,({ cls:=.type "list", data:=.seq aA.toArray n }:Obj))] H' b:=λ{H' aA n} hn b hb=>by
   refine ⟨hn b hb,below b (fl b hb),λz=>?_,.inl hb,λx c e=>(f2 b hb).2.2.2.2.1 x c (wf e),λp hp=>?_⟩
   ·rcases zJ.mp (I2.dN b z) with e | e
    ·exact (f2 b hb).2.1 e
    ·exact (f2 b hb).2.2.1 e
   ·have e:p=(s2.heap.objs.size,({ cls:=.type "list", data:=.seq aA.toArray n }:Obj)):=by simpa using (show p∈[]++[_] from hp)
    subst e;exact yS (fl b hb)
  refine ju (λn s'=>∃ i τ acc aA k H',Inv Y [(s2.heap.objs.size,({ cls:=.type "list", data:=.seq aA.toArray k }:Obj))] τ H' s'/\tn i s'.heap/\(∀ b∈fp,H' b=none)/\Vals acc aA/\W i n τ acc H') ?_ m0
   ⟨0,_,[],[],0,H2,I4,uh,λb hb=>(f2 b hb).1,.nil,w0⟩
  rintro n s5 ⟨i,τ,acc,aA,k,H5,I5,ug,Mj,pM,w5⟩;rcases turn i n τ acc H5 w5 with ⟨stop,hz,q⟩ | ⟨go,hz,step⟩
  ·refine aR (T.done Y rfl rfl rfl hc i _ s5 τ H5 (λ_ _=>False) I5 (eV Mj) ug stop) λr s6 ⟨hr,I6⟩=>?_;subst hr;obtain ⟨eD,nD,_,_,_⟩:=I6.pin _ (zE _ (zK.mpr rfl));obtain ⟨m6,Uh,_⟩:=I6.loc;refine ⟨m6,Uh,λh' uV=>?_⟩;have QX:H5 G.objs.size=none:=I6.free;have eD':h'.get? s2.heap.objs.size=some { cls:=.type "list", data:=.seq aA.toArray k }:=uV.extBut _ _ pO eD;have uW:gY X.prog X.w H5 h':=λb u e=>(I6.bq b u e).fP (λc v hcv qv=>uV.extBut c v (by
     rcases hcv with z | z
     ·subst z;exact xk e QX
     ·exact xk z QX) qv) (λ_ q=>q) λ_ _ q=>q
   refine ⟨.ref s2.heap.objs.size,_,?_,rfl,q _ nD⟩;have ub:=I6.base;refine I2.Lb (ch:=fp) (s':={ s6 with heap:=h' }) I6.os ⟨λb o e n' hb hx=>uV.extBut b o (below b (Heap.lt_size e)) (ub.keep b o e n' hb hx),λb o e n' hb hx=>?_,λb o e n' hx=>?_,λb o e hx=>?_,λb xs e=>?_,λb o u e=>?_,λb ps e=>?_⟩
    (uW.vN nD ⟨hz,aA,k,pM,eD'⟩) I6.bare λb hb=>⟨(f2 b hb).2.2.2.1,(f2 b hb).2.1,(f2 b hb).2.2.2.2.1,(f2 b hb).2.2.2.2.2⟩
   ·obtain ⟨sl,e'⟩:=ub.slot b o e n' hb hx;exact ⟨sl,uV.extBut b _ (below b (Heap.lt_size e)) e'⟩
   ·rw [xt (zW (Heap.lt_size e))];exact ub.free b o e n' hx
   ·obtain ⟨o',e'⟩:=ub.there b o e hx;exact ⟨o',uV.extBut b _ (below b (Heap.lt_size e)) e'⟩
   ·have z:=ub.aZ b xs e;rw [xt (xk z nD)];exact z
   ·have z:=ub.jz b o u e;rw [xt (xk z nD)];exact z
   ·obtain ⟨more,z⟩:=ub.jT b ps e;exact ⟨more,by rw [xt (xk z nD)];exact z⟩
  ·refine aR (T.item Y rfl rfl rfl hc i _ s5 τ H5 (λ_ _=>False) I5 (eV Mj) ug go) λr s6 ⟨u,hr,h6⟩=>?_;subst hr;refine aR h6 λ_ s7 ⟨x,H7,I7,r7,y7,rz,Ux⟩=>?_;have UY:=I7.pinned (eV Ux) (T.obj _ _ rz);refine aR (hg s2 H2 fp G.objs.size _ s7 τ H7 x u _ UY r7 (step x H7 y7)) λ_ s8 ⟨mj,H8,I8,q8⟩=>?_;refine aR (ht s2 H2 fp G.objs.size _ s8 mj H8 _ I8 q8) λok s9 ⟨H9,I9,q9⟩=>?_
   -- pX fk state behind pX turn
   have back:∀ {s':Shared}{vK:St}{H':Hp},Inv Y ([(s2.heap.objs.size,({ cls:=.type "list", data:=.seq aA.toArray k }:Obj))]++b8 fp s7.heap) vK H' s'->(tn (i + 1) s'.heap/\∀ b∈fp,H' b=none):=λ{s' vK H'} Ib=>
    ⟨T.keep _ _ _ rz λb hb o e=>(Ib.pin (b,o) (zE _ (zE _ (wa hb e)))).1,λb hb=>by
     obtain ⟨o,e,d⟩:=T.obj _ _ rz b hb;exact (Ib.pin (b,o) (zE _ (zE _ (wa hb e)))).2.1⟩
   cases ok with
   | false=>
    obtain ⟨m',lO,w'⟩:=q9;obtain ⟨sb,fb⟩:=back I9;exact ⟨m',lO,i + 1,mj,acc,aA,k,H9,I9.bN,sb,fb,pM,w'⟩
   | true=>
    refine aR (he s2 H2 fp G.objs.size _ s9 mj H9 _ I9 q9) λy iK ⟨yv,gO,Pa,V5,S8⟩=>?_;obtain ⟨m',lO,w'⟩:=S8;obtain ⟨sb,fb⟩:=back Pa;obtain ⟨eD,nD,LV,Tu,_⟩:=Pa.pin (s2.heap.objs.size,_) (zE _ (yD _ (zK.mpr rfl)));have hl:acc.length=aA.length:=pM.length;refine call_meets F.slot_list_append ⟨_,eD,rfl⟩ F.entry_list_append (F.args_list_append_2 _ _) (xN s2.heap.objs.size aA.toArray k y (by rw [zT];omega)) ⟨eD,?_⟩;have q:=PySem.IsL.update eD (λa:Array Value=>a.push y);have Iu:Inv Y [] mj gO iK:=Pa.cA λp hp=>nomatch hp;have It:=Iu.turned (t':=iK.toks) (it:=s2.heap.objs.size) (h':=iK.heap.update s2.heap.objs.size (Obj.mapSeq (λa:Array Value=>a.push y))) (λb o hb e=>(Heap.get?_update_other iK.heap _ (Ne.symm hb)).trans e) nD LV (.inr (zI _))
     (λx c e z=>by
      obtain ⟨v,ob,mO,_⟩:=I2.cell x c (wf e);exact absurd (Heap.lt_size mO) (by rw [z];exact yH _)) (λp hp=>nomatch hp)
    have UX:=It.cA (m5:=[(s2.heap.objs.size,({ cls:=.type "list", data:=.seq (aA++[y]).toArray (k + 1) }:Obj))]) λp hp=>by
     have e:p=_:=zK.mp hp;subst e;exact ⟨by simpa using q,nD,LV,Tu,λv z=>nomatch z⟩
    refine ⟨m',lO,i + 1,mj,acc++[yv],aA++[y],_,gO,UX,T.keep _ _ _ sb λb hb o e=>(Heap.get?_update_other iK.heap _ (yS (fl b hb))).trans e,fb,pM.append (.cons V5 .nil),w'⟩
 exact codeAny_compStart_list loop (T.self _ 0 s4 _ _ uh loop)
end
open AutoSeq1 (wpAny_loadPart')
section
variable {prog:Program}{w:World}{A:Around}{E:Value->Shared->Prop}{s:Shared}
theorem Tp {it t:Addr}{i:Nat}{items}{x:Value}{Q:Value->Shared->Prop}(hit:s.heap.IsTupleIter it t i)(ht:s.heap.IsTuple t items)(hx:items[i]?=some x)
  (hQ:∀ h',h'.IsTupleIter it t (i + 1)->Heap.SameBut it s.heap h'->Q x { s with heap:=h' }):wpAny (model prog w) A (Builtin.SmallTypes.nextOf (.ref it)) Q E s:=by
 have ty:=hit.typeIs (s:=s);obtain ⟨o,ho,hc,hd⟩:=hit;obtain ⟨ot,hot,_,n,hdt⟩:=ht;have new:=hQ _ ⟨_,Heap.get?_update_self (Obj.mapFields (·.set! 1 (rawInt (i + 1)))) ho (Obj.isFreed_of_fields (Obj.data_mapFields hd _)),(Obj.cls_mapFields ..).trans hc,by rw [Obj.data_mapFields hd];simp [rawInt]⟩ (Heap.SameBut.update ..);unfold Builtin.SmallTypes.nextOf;refine wpAny_bind (wpAny_callSpecial?_slot ty F.slot_tuple_iterator_next (wpAny_call_entry F.slot_tuple_iterator_next ty F.entry_tuple_iterator_next ?_ (F.args_tuple_iterator_next_1 _)));unfold Builtin.«tuple_iterator.__next__»;wp_walk using wpAny_field ho hd (x:=.ref t) rfl,wpAny_field ho hd (x:=.int i 0) rfl,wpAny_seqItems hot hdt;simp only [zx,hx];wp_walk using wpAny_setField ho hd (by simp);exact ⟨x,rfl,wpAny_pure new⟩
theorem KN {it t:Addr}{i:Nat}{items}{Q:Value->Shared->Prop}(hh:A.handled=none)(hit:s.heap.IsTupleIter it t i)(ht:s.heap.IsTuple t items)(hx:items[i]?=none)
  (hE:∀ h' e,Heap.ExtBut it s.heap h'->(∃ o,h'.get? e=some o/\o.cls=.type "StopIteration")->E (.ref e) { s with heap:=h' }):wpAny (model prog w) A (Builtin.SmallTypes.nextOf (.ref it)) Q E s:=by
 have ty:=hit.typeIs (s:=s);obtain ⟨o,ho,hc,hd⟩:=hit;obtain ⟨ot,hot,_,n,hdt⟩:=ht;have hh1:A.in1.handled=none:=hh;unfold Builtin.SmallTypes.nextOf;refine wpAny_bind (wpAny_callSpecial?_slot ty F.slot_tuple_iterator_next (wpAny_call_entry F.slot_tuple_iterator_next ty F.entry_tuple_iterator_next ?_ (F.args_tuple_iterator_next_1 _)));unfold Builtin.«tuple_iterator.__next__»;wp_walk using wpAny_field ho hd (x:=.ref t) rfl,wpAny_field ho hd (x:=.int i 0) rfl,wpAny_seqItems hot hdt;simp only [zx,hx];wp_walk using wpAny_setField ho hd (by simp);simp only [raiseNew];refine wpAny_bind (wpAny_handled ?_);rw [hh1];exact wpAny_bind (wpAny_pure (wpAny_throw (hE _ _ (((Heap.SameBut.update ..).extBut.push _).push _) ⟨_,Heap.get?_push_size _ rfl,rfl⟩)))
end
theorem vm {prog:Program}{w:World}{A:Around}(hh:A.handled=none)(it t:Addr)(RN:t≠it)(items:Array Value) :
  Draws prog w A it [it,t] items.size (λi v=>items[i]?=some v) (λi h=>h.IsTupleIter it t i/\h.IsTuple t items) where
 live:=λ_ _ st=>let ⟨⟨o,ho,_⟩,_⟩:=st;⟨o,ho⟩
 frame:=λ_ _ _ st hk=>let ⟨⟨o,ho,r⟩,o',sO,r'⟩:=st;⟨⟨o,hk it (by simp) o ho,r⟩,o',hk t (by simp) o' sO,r'⟩
 item:=λi s Q E hi st hQ=>Tp st.1 st.2 (Array.getElem?_eq_getElem hi) λh' a b=>hQ _ h' s.toks (Array.getElem?_eq_getElem hi) ⟨a,st.2.extBut b.extBut RN⟩ b
 done:=λs Q E st hE=>KN hh st.1 st.2 (Array.getElem?_eq_none (zI _)) hE
theorem UG {prog:Program}{w:World}{A:Around}(hh:A.handled=none)(it t:Addr)(items:Array Value) :
  Draws prog w A it [it,t] 0 (λ_ _=>False) (λ_ h=>∃ j,h.IsTupleIter it t j/\h.IsTuple t items/\items[j]?=none) where
 live:=λ_ _ st=>let ⟨_,⟨o,ho,_⟩,_⟩:=st;⟨o,ho⟩
 frame:=λ_ _ _ st hk=>let ⟨j,⟨o,ho,r⟩,⟨o',sO,r'⟩,z⟩:=st;⟨j,⟨o,hk it (by simp) o ho,r⟩,⟨o',hk t (by simp) o' sO,r'⟩,z⟩
 item:=λi s Q E hi _ _=>absurd hi (yO _)
 done:=λs Q E st hE=>let ⟨_,a,b,c⟩:=st;KN hh a b c hE
section
variable {prog:Program}{w:World}{A:Around}{E:Value->Shared->Prop}{s:Shared}
theorem Mp (l:Addr)(items:Array Value)(o:Obj) :
  Meets (Builtin.«enumerate.__new__» ⟨[.type "enumerate", .ref l],[]⟩) (λ_ R s=>(s.heap.get? l=some o/\s.heap.IsTuple l items) /\
   R (.ok (.ret (.ref (s.heap.push { cls:=.type "tuple_iterator", data:=.fields #[.ref l,.int 0 0] }).objs.size)))
    { s with heap:=(s.heap.push { cls:=.type "tuple_iterator", data:=.fields #[.ref l,.int 0 0] }).push { cls:=.type "enumerate", data:=.fields #[.none,.bool false,.ref s.heap.objs.size,rawInt 0,.none,.none] } }):=
 .of_wp λprog w A R s ⟨⟨hl,hL⟩,h⟩=>by
  obtain ⟨hp,g,d,tk,os⟩:=s;have Ub:=sub_enumerate;wp_walk using wpAny_loadPart' hl;refine wpAny_stack_any λst=>wpAny_pure ?_;split
  ·rename_i c _ _ _ _ _;cases (c == Value.type "enumerate") <;> (wp_walk using wpAny_loadPart' hl,wpAny_pyIter_tuple hL) <;> exact ⟨_,rfl,h⟩
  ·wp_walk using wpAny_loadPart' hl,wpAny_pyIter_tuple hL;exact ⟨_,rfl,h⟩
theorem vB {l:Addr}{items:Array Value}{Q:Value->Shared->Prop}(hL:s.heap.IsTuple l items)
  (h:∀ h',IsEnum h' (s.heap.objs.size + 1) s.heap.objs.size 0 .none->h'.IsTupleIter s.heap.objs.size l 0 ->
   (∀ b o,s.heap.get? b=some o->h'.get? b=some o)->Q (.ref (s.heap.objs.size + 1)) { s with heap:=h' }) :
  wpAny (model prog w) A (call (.type "enumerate") [.ref l]) Q E s:=by
 obtain ⟨o,hl,_⟩:=id hL;refine callType_new F.called_enumerate (by decide) (F.typeCall_enumerate_1 _) (F.newCall_enumerate_1 _) (λobj=>F.args_object_init_2 obj _) F.entry_enumerate_new (Mp l items o) ⟨⟨hl,hL⟩,?_⟩;generalize hG:s.heap.push { cls:=.type "tuple_iterator", data:=.fields #[.ref l,.int 0 0] }=G;have hz:G.objs.size=s.heap.objs.size + 1:=by rw [<-hG,Heap.size_push]
 have hi:G.get? s.heap.objs.size=some { cls:=.type "tuple_iterator", data:=.fields #[.ref l,.int 0 0] }:=by rw [<-hG];exact Heap.get?_push_size _ rfl
 have he:=Heap.get?_push_size G (o:={ cls:=.type "enumerate", data:=.fields #[.none,.bool false,.ref s.heap.objs.size,rawInt 0,.none,.none] }) rfl;rw [hz] at he;show _/\_;rw [hz];exact ⟨⟨_,he,rfl⟩,h _ he ⟨_,Heap.get?_push_of_some _ hi,rfl,rfl⟩ λb o x=>Heap.get?_push_of_some _ (by rw [<-hG];exact Heap.get?_push_of_some _ x)⟩
end
def O9 (K:PySem.W.Frag)(a:Addr):It:=
 ⟨λi H=>∃ xs x,aW K H a xs/\xs[i]?=some x,λi H y H'=>∃ p x,H p=none/\y=.ref p/\H'=upd H p (.tup [.int i,x])/\∀ xs,aW K H a xs->xs[i]?=some x,λi H=>∃ xs,aW K H a xs/\xs.length<=i⟩
theorem ue {P:Program}{w:World}{K:PySem.W.Frag}{es:List Expr}{k:Nat}{pos:Pos}(a e it:Addr)(RN:e≠it) :
  Turn P w K (.Tuple es k pos) (O9 K a) [e,it] e (λi h=>(∃ old,IsEnum h e it i old)/\h.IsTupleIter it a i) where
 mem:=by simp
 obj:=λi h st b hb=>by
  obtain ⟨⟨old,he⟩,o,hi,c,d⟩:=st;rcases zJ.mp hb with z | z
  ·subst z;exact ⟨_,he,λv q=>nomatch q⟩
  ·have z':b=it:=by simpa using z
   subst z';exact ⟨o,hi,λv q=>by rw [d] at q;cases q⟩
 keep:=λi h h' st q=>by
  obtain ⟨⟨old,he⟩,o,hi,r⟩:=st;exact ⟨⟨old,q e (by simp) _ he⟩,o,q it (by simp) o hi,r⟩
 item:=by
  intro X hP hw hK hc i ai s σ H E I hf st hg;subst hP hw hK;obtain ⟨xs,x,hq,hx⟩:=hg;obtain ⟨aA,rv,p,hz⟩:=I.tuple hq;obtain ⟨u,hu,ru⟩:=rv.get hx;obtain ⟨⟨old,he⟩,hi⟩:=st;obtain ⟨e0,e1,e2,e3,e4,e5⟩:=hf e (by simp);obtain ⟨f0,f1,f2,f3,f4,f5⟩:=hf it (by simp);have el:e < s.heap.objs.size:=Heap.lt_size he;have il:it < s.heap.objs.size:=let ⟨_,z,_⟩:=hi;Heap.lt_size z;have ht:s.heap.IsTuple a aA.toArray:=p;have hal:a < s.heap.objs.size:=let ⟨_,z,_⟩:=ht;Heap.lt_size z;have hai:a≠it:=λz=>by
   obtain ⟨o1,z1,c1,_⟩:=ht;obtain ⟨o2,z2,c2,_⟩:=hi;rw [z,z2] at z1;cases z1;rw [c2] at c1;exact absurd (Value.type.inj c1) (by decide)
  have hae:e ∉ [it,a]:=λz=>by
   rcases zJ.mp z with z | z
   ·exact RN z
   ·have z':e=a:=by simpa using z
    obtain ⟨o1,z1,c1,_⟩:=ht;rw [<-z',he] at z1;cases z1;exact absurd (Value.type.inj c1) (by decide)
  refine wpAny_pyNext_enum_itemD (vm (A:=X.A.in1) (I.ok.hd hc) it a hai aA.toArray) he ⟨hi,ht⟩ (by simpa using (zH.mp hu).1) RN hae λu1 h1 tk Xh ho abY hT Xi hk=>?_;have eu:u=u1:=by
   have q:aA.toArray[i]?=some u:=by simpa using hu
   have Xg:aA.toArray[i]?=some u1:=Xh;rw [q] at Xg;exact Option.some.inj Xg
  subst eu;have mD:=abY.1;refine ⟨_,rfl,?_⟩;refine wpAny_letOwnedTupleGo_enum ho λh2 he2 lN=>?_;have cL:Heap.SameBut e h1 h2:=lN;have bu:∀ b o,b≠e->b≠it->s.heap.get? b=some o->h2.get? b=some o:=λb o hb oX q=>cL.extBut b o hb (hk b o hb oX q);have OD:h2.get? s.heap.objs.size=some { cls:=.type "tuple", data:=.seq #[.int i tk,u] }:=cL.extBut _ _ (yS el) hT;have nT:H s.heap.objs.size=none:=I.bq.fresh (zI _);refine ⟨.ref s.heap.objs.size,upd H s.heap.objs.size (.tup [.int i,x]),?_,rfl,⟨_,x,nT,rfl,rfl,λys hy=>by rw [I.gn hy hq];exact hx⟩,⟨⟨u,by simpa using he2⟩,?_⟩,λb hb=>?_⟩
  ·have ME:∀ b,b ∉ [e,it]->b≠e/\b≠it:=λb hb=>⟨λz=>hb (by simp [z]),λz=>hb (by simp [z])⟩;refine Inv.step (s:=s) (h':=h2) (g':=s.gens) (d':=s.drawn) (t':=tk + 1) (ch:=[e,it]) I (λb hb=>?_) (λb o _ _ hb q _=>bu b o (ME b hb).1 (ME b hb).2 q) (λb o _ _ hb q _=>⟨o.slots,bu b o (ME b hb).1 (ME b hb).2 q⟩)
    (λb o _ q n=>by rw [xt (zW (Heap.lt_size q))];exact n) (λb o hb q=>⟨o,bu b o (ME b hb).1 (ME b hb).2 q⟩)
    (λb ys q=>by rw [xt (xk q nT)];exact q) (λb o v q=>by rw [xt (xk q nT)];exact q) (λb ps q=>⟨#[],by rw [xt (xk q nT),q];simp⟩)
    (λm hm=>by
     obtain ⟨o,iw,ep,q,r⟩:=hm;exact ⟨o,iw,ep,bu _ o (Ne.symm e1) (Ne.symm f1) q,r⟩) (λb v q=>?_) I.bare
   ·rcases zJ.mp hb with z | z
    ·subst z;exact ⟨e3,e1,e4,e5⟩
    ·have z':b=it:=by simpa using z
     subst z';exact ⟨f3,f1,f4,f5⟩
   ·by_cases hb:b=s.heap.objs.size
    ·subst hb;rw [xj] at q;cases q;exact ⟨⟨by show 2<=sizeLine;rw [sizeLine_eq];decide,λob e=>by rw [OD] at e;cases e;rfl⟩,[.int i tk,u],.cons ⟨_,rfl⟩ (.cons ru .nil),⟨_,OD,rfl,_,rfl⟩⟩
    ·rw [xt hb] at q;refine (I.bq b v q).fP (λc ob hc qc=>bu c ob ?_ ?_ qc) (λc qc=>by rw [xt (xk qc nT)];exact qc) λc ys qc=>by rw [xt (xk qc nT)];exact qc
     ·rcases hc with z | z
      ·subst z;exact xk q e0
      ·exact xk z e0
     ·rcases hc with z | z
      ·subst z;exact xk q f0
      ·exact xk z f0
  ·obtain ⟨o,q,r⟩:=mD;exact ⟨o,cL.extBut it o (Ne.symm RN) q,r⟩
  ·rcases zJ.mp hb with z | z
   ·subst z;rw [xt (zW el)];exact e0
   ·have z':b=it:=by simpa using z
    subst z';rw [xt (zW il)];exact f0
 done:=by
  intro X hP hw hK hc i ai s σ H E I hf st hg;subst hP hw hK;obtain ⟨xs,hq,hx⟩:=hg;obtain ⟨aA,rv,p,hz⟩:=I.tuple hq;obtain ⟨⟨old,he⟩,hi⟩:=st;obtain ⟨f0,f1,f2,f3,f4,f5⟩:=hf it (by simp);have hl:=rv.length;have ht:s.heap.IsTuple a aA.toArray:=p;have hai:a≠it:=λz=>by
   obtain ⟨o1,z1,c1,_⟩:=ht;obtain ⟨o2,z2,c2,_⟩:=hi;rw [z,z2] at z1;cases z1;rw [c2] at c1;exact absurd (Value.type.inj c1) (by decide)
  exact wpAny_pyNext_enum_endD (UG (A:=X.A.in1) (I.ok.hd hc) it a aA.toArray) he ⟨i,hi,ht,by simp;omega⟩ λh' eb=>⟨rfl,I.turned (t':=s.toks) (λb o hb e=>eb b o hb e) f0 f1 f3 f4 f5⟩
 self:=λ_ _ _ _ _ st h=>let ⟨⟨_,he⟩,_⟩:=st;wpAny_pyIter_enum he h
def T7 (K:PySem.W.Frag)(ta:TA):TI:=fun σ H R=>ta σ H λvs H1=>∃ a,vs=[.ref a]/\(∃ xs,aW K H1 a xs)/\R (O9 K a) H1
theorem NK {X:Cx}{a:Expr}{ta:TA}{p pos uC:Pos}{es:List Expr}{k:Nat}{K:PySem.W.Frag}(hK:X.K=K)(hg:Gl X "enumerate")(hm:X.mg "enumerate" = none)(ha:PA X [a] ta)(hs:starEach [a] X.env=[(false,eval a X.env)]:=by rfl) :
  PI X (.Tuple es k uC) (.Call (.Name "enumerate" p) [a] [] pos) (T7 K ta):=by
 subst hK;intro ai s σ H R I h;refine Call_ (fc I hg hm boot_enumerate (yM (aR (ha pos ai s σ H _ I h) λus s1 ⟨vs,H1,I1,r1,q1⟩=>?_) hs rfl));obtain ⟨l,e,⟨xs,hq⟩,q⟩:=q1;subst e;cases r1 with
 | cons r rr=>
  cases rr;cases r;obtain ⟨aA,rv,p,hz⟩:=I1.tuple hq;refine vB (show s1.heap.IsTuple l aA.toArray from p) λh' he hi hk=>?_;refine wpAny_pyIter_enum he ?_;have I2:Inv X ai σ H1 { s1 with heap:=h' }:=I1.kept (t':=s1.toks) hk;refine ⟨s1.heap.objs.size + 1,[s1.heap.objs.size + 1,s1.heap.objs.size],_,_,H1,rfl,I2,ue l _ _ (Nat.succ_ne_self _),⟨⟨_,he⟩,hi⟩,λb hb=>?_,q⟩;have oX:s1.heap.objs.size<=b:=by
   rcases zJ.mp hb with z | z
   ·subst z;exact xY _
   ·have z':b=s1.heap.objs.size:=by simpa using z
    subst z';exact zI _
  exact I1.oY oX (I1.bq.fresh oX)
def je (H:Hp):V->Option String
 | .cK=>some "NoneType"
 | .bl _=>some "bool"
 | .int _=>some "int"
 | .str _=>some "str"
 | .ref a=>match H a with
  | some (.lst _)=>some "list"
  | some (.sV _ (.lst _))=>some "list"
  | some (.tup _)=>some "tuple"
  | some (.dK _)=>some "dict"
  | _=>none
 | _=>none
theorem Sn {K:PySem.W.Frag}{H:Hp}{x:V}{t:String}(h:je H x=some t):jE K H x (.type t):=by
 cases x with
 | cK=>cases h;exact .cK
 | bl b=>cases h;exact .bl b
 | int i=>cases h;exact .int i
 | str x=>cases h;exact .str x
 | ref a=>
  unfold je at h;dsimp only at h;split at h
  ·rename_i e;cases h;exact .lst e
  ·rename_i e;cases h;exact .sV e
  ·rename_i e;cases h;exact .tup e
  ·rename_i e;cases h;exact .dK e
  ·cases h
 | _=>cases h
theorem dD {H:Hp}{x:V}{t:String}(h:je H x=some t):t = "NoneType" \/ t = "bool" \/ t = "int" \/ t = "str" \/ t = "list" \/ t = "tuple" \/ t = "dict" := by
 cases x with
 | ref a=>
  unfold je at h;dsimp only at h;split at h <;> cases h <;> simp
 | _=>cases h <;> simp
def sH (t T:String):Bool:=t == T || (t == "bool" && T == "int")
theorem TQ {K:PySem.W.Frag}{t T:String}(h:t = "NoneType" \/ t = "bool" \/ t = "int" \/ t = "str" \/ t = "list" \/ t = "tuple" \/ t = "dict")(hT:T = "int" \/ T = "bool" \/ T = "list" \/ T = "tuple"):PySem.W.kitOne K (.type t) (.type T)=some (sH t T):=by rcases h with rfl | rfl | rfl | rfl | rfl | rfl | rfl <;> rcases hT with rfl | rfl | rfl | rfl <;> first | rfl | decide +kernel
section
variable {X:Cx}
theorem wY:bZ X (.builtin "isinstance") (λxs H Q=>∃ x t T,xs=[x,.ty T]/\je H x=some t/\(T = "int" \/ T = "bool" \/ T = "list" \/ T = "tuple")/\Q (.bl (sH t T)) H):=by intro ai s σ H xs us Q I r h;obtain ⟨x,t,T,rfl,ht,hT,q⟩:=h;obtain ⟨u,w',rfl,r1,r2⟩:=vals2 r;cases r2;exact L7 I r1 (Sn ht) (TQ (dD ht) hT) λtk=>⟨.bl _,H,I.tok tk,rfl,q⟩
theorem cF:iD X (binaryOp .FloorDiv) (rI (λ_ j=>0 < j/\j < 2 ^ 200) λi j=>.int (i / j)):=YC λi j _ _ _ _ _ hc q=>by
 have e:i.fdiv j=i / j:=Int.fdiv_eq_ediv_of_nonneg _ (by omega);rw [<-e] at q;refine floordiv_int (by omega) q (.inl (PyProof.noPylong_of_log2 ?_));have h0:j.natAbs≠0:=by omega
 have h1:j.natAbs < 2 ^ 200:=by omega
 have:=(Nat.log2_lt h0).mpr h1;omega
theorem kU (hu:X.A.units + 64 < cLine):iD X (compareOp .NotEq) (λx y H Q=>∃ a b xs,x=.ref a/\y=.ref b/\aB X.K H a xs/\aB X.K H b []/\Q (.bl (!xs.isEmpty)) H):=by
 intro ai s σ H x y v u Q I rx ry h;obtain ⟨a,b,xs,rfl,rfl,ha,hb,q⟩:=h;cases rx;cases ry;obtain ⟨aA,r,p,_⟩:=I.list ha;obtain ⟨cG,r2,p2,_⟩:=I.list hb;cases r2;cases r with
 | nil=>exact SeqAt.RcNeAt.lists (e:=λ_=>true) p.isList p2.isList rfl (by omega) (λj h1=>absurd h1 (yO _)) _ _ _ _ ⟨.bl _,H,I,rfl,q⟩
 | cons r1 rr=>exact SeqAt.RcNeAt.lists_lengths p.isList p2.isList (by simp) (by omega) _ _ _ _ ⟨.bl _,H,I,rfl,q⟩
theorem LS (hu:X.A.units + 64 < cLine):iD X (compareOp .Eq) (λx y H Q=>∃ a b xs,x=.ref a/\y=.ref b/\aW X.K H a xs/\aW X.K H b []/\Q (.bl xs.isEmpty) H):=by
 intro ai s σ H x y v u Q I rx ry h;obtain ⟨a,b,xs,rfl,rfl,ha,hb,q⟩:=h;cases rx;cases ry;obtain ⟨aA,r,p,_⟩:=I.tuple ha;obtain ⟨cG,r2,p2,_⟩:=I.tuple hb;cases r2;have q':Q (.bl ((List.range (min aA.toArray.size ([]:List Value).toArray.size)).all (λ_=>true) && aA.toArray.size == ([]:List Value).toArray.size)) H:=by
  cases r with
  | nil=>simpa using q
  | cons r1 rr=>simpa using q
 exact SeqAt.RcAt.tuples (e:=λ_=>true) p p2 (by omega) (λj h1 h2=>absurd h2 (yO _)) _ _ _ _ ⟨.bl _,H,I,rfl,q'⟩
variable {K:PySem.W.Frag}
theorem wI {es:List Expr}{k:Nat}{t:R3}{n:Nat}{pos:Pos}(hK:X.K=K)(hc:X.calm=true)(h:X3 X es t)
  (hn:(assignEach es X.env).length=n:=by rfl) (uU:(assignEach es X.env).findIdx? (·.1)=none:=by rfl):PG X (.Tuple es k pos) (OF K n t):=by subst hK;exact Te hc h hn uU
theorem wZ {tg l:Expr}{tl:TE}(hK:X.K=K)(hl:PE X l tl):PI X tg l (RH K tl):=by subst hK;exact Qy hl
theorem fQ {tg l:Expr}{tl:TE}(hK:X.K=K)(hl:PE X l tl):PI X tg l (Xb K tl):=by subst hK;exact Td hl
theorem xu (hK:X.K=K):X8 X (NC K):=by subst hK;exact QL
theorem xz (hK:X.K=K):X8 X (NB K):=by subst hK;exact TZ
theorem rE (hK:X.K=K):XZ X (V4 K):=by subst hK;exact Qk
theorem Qj (hK:X.K=K):XZ X (V3 K):=by subst hK;exact SO
theorem eY (hK:X.K=K):iD X (compareOp .In) (rIn K false):=by subst hK;exact LR
theorem xw (hK:X.K=K):bZ X (.builtin "len") (λxs H Q=>∃ p ys,xs=[.ref p]/\(aB K H p ys\/aW K H p ys)/\Q (.int ys.length) H):=by subst hK;exact pD
theorem mT (hK:X.K=K):bZ X (.type "list") (λxs H Q=>∃ p ys,xs=[.ref p]/\(aB K H p ys\/aW K H p ys)/\∀ l,H l=none->Q (.ref l) (upd H l (.lst ys))):=by subst hK;exact pB
end
theorem lU {X:Cx}{K:PySem.W.Frag}(hK:X.K=K):X4 X (λo i H Q=>∃ p xs v,∃ k:Nat,o=.ref p/\i=.int k/\aB K H p xs/\xs[k]?=some v/\Q v H):=by subst hK;intro ai s σ H o i ov iv Q I ro ri h;obtain ⟨p,xs,v,k,rfl,rfl,hq,hv,q⟩:=h;cases ro;obtain ⟨t,rfl⟩:=ri;obtain ⟨aA,r,pl,hz⟩:=I.list hq;obtain ⟨w,ew,VW⟩:=r.get hv;have hk:k < xs.length:=(zH.mp hv).1;have hn:=lD;exact wpAny_getItem_list pl.isList (by omega) (by omega) (by simpa using ew) ⟨v,H,I,VW,q⟩
end L2
namespace bw
open PySem PySem.W PyProof.Rows
def fK {α:Type}(n:Nat)(c:Nat->Nat->Bool):KasT α->(α->Prop)->Prop
 | .ret a,P=>P a
 | .ask i j k,P=>i < n/\j < n/\fK n c (k (c i j)) P
theorem fK.bind {α β:Type}{n:Nat}{c:Nat->Nat->Bool}{f:α->KasT β}{P:β->Prop}:∀ (t:KasT α),fK n c t (λa=>fK n c (f a) P)->fK n c (t.bind f) P
 | .ret a,h=>h
 | .ask i j k,h=>⟨h.1,h.2.1,fK.bind (k (c i j)) h.2.2⟩
theorem fK.mono {α:Type}{n:Nat}{c:Nat->Nat->Bool}{P P':α->Prop}(hp:∀ a,P a->P' a):∀ (t:KasT α),fK n c t P->fK n c t P'
 | .ret a,h=>hp a h
 | .ask i j k,h=>⟨h.1,h.2.1,fK.mono hp (k (c i j)) h.2.2⟩
theorem fK.wp {α:Type}{n:Nat}{c:Nat->Nat->Bool}{P:α->Prop}{Q:α->Shared->Prop}{cmp:Nat->Nat->(Bool->Shared->Prop)->Shared->Prop}{s:Shared}
  (hc:∀ i j C,i < n->j < n->C (c i j) s->cmp i j C s) (hq:∀ a,P a->Q a s):∀ (t:KasT α),fK n c t P->t.kasWp cmp Q s
 | .ret a,h=>hq a h
 | .ask i j k,h=>hc i j _ h.1 h.2.1 (fK.wp hc hq (k (c i j)) h.2.2)
section
variable {n:Nat}{f:Nat->Int}
def at' (p:Array Nat)(i:Nat):Nat:=(p[i]?).getD 0
theorem getD_at (p:Array Nat)(i:Nat):p.getD i 0=at' p i:=by unfold at';simp
def g (f:Nat->Int)(p:Array Nat)(i:Nat):Int:=f (at' p i)
def Pm (n:Nat)(p:Array Nat):Prop:=p.Perm (List.toArray (List.range n))
theorem Pm.size {p:Array Nat}(h:Pm n p):p.size=n:=by rw [Array.Perm.size_eq h];simp
theorem Pm.lt {p:Array Nat}(h:Pm n p){i:Nat}(hi:i < n):at' p i < n:=by
 have hs:=h.size;have e:at' p i=p[i]'(by omega):=by unfold at';simp [hs,hi]
 have hm:p[i]'(by omega)∈p:=Array.getElem_mem _;have lO:=(Array.Perm.mem_iff h).mp hm;rw [e];simpa using lO
theorem Pm.rev {p:Array Nat}(h:Pm n p)(i j:Nat):Pm n (kas_rev p i j):=(mirror_perm p i j _).trans h
theorem Pm.bub {p:Array Nat}(h:Pm n p)(k d:Nat):Pm n (bubble p k d):=(bubble_perm p k d).trans h
theorem K3 {p:Array Nat}{i j:Nat}(hj:j<=p.size)(k:Nat):g f (kas_rev p i j) k=if i<=k/\k < j then g f p (i + j - 1 - k) else g f p k:=by unfold g at' kas_rev;rw [getElem?_mirror_all hj k];split <;> rfl
theorem RV {p:Array Nat}{src d:Nat}(hs:src < p.size)(hd:d<=src)(k:Nat):g f (bubble p src d) k=if k=src - d then g f p src else if src - d < k/\k<=src then g f p (k - 1) else g f p k:=by
 unfold g at';rw [getElem?_bubble hs d hd k];split
 ·rfl
 ·split <;> rfl
def Up (f:Nat->Int)(p:Array Nat)(k:Nat):Prop:=∀ i j,i<=j->j < k->g f p i<=g f p j
def Dn (f:Nat->Int)(p:Array Nat)(k:Nat):Prop:=∀ i j,i<=j->j < k->g f p j<=g f p i
def cf (f:Nat->Int)(i j:Nat):Bool:=decide (f i < f j)
theorem vF {p:Array Nat}(hp:Pm n p):∀ (q m:Nat),1<=m->m + q<=n->Up f p m->fK n (cf f) (kas_asc p q m) (λm'=>m<=m'/\m'<=m + q/\Up f p m'/\(m' < m + q->g f p m' < g f p (m' - 1)))
 | 0,m,_,_,hu=>⟨zI _,zI _,hu,λh=>absurd h (yH _)⟩
 | q + 1,m,h1,h2,hu=>by
  unfold kas_asc;refine ⟨by rw [getD_at];exact hp.lt (by omega),by rw [getD_at];exact hp.lt (by omega),?_⟩;rw [getD_at,getD_at];by_cases hc:g f p m < g f p (m - 1)
  ·have e:cf f (at' p m) (at' p (m - 1))=true:=decide_eq_true hc;rw [e];dsimp only;rw [if_pos rfl];exact ⟨zI _,by omega,hu,λ_=>hc⟩
  ·have e:cf f (at' p m) (at' p (m - 1))=false:=decide_eq_false hc;rw [e];dsimp only;rw [if_neg zQ];refine fK.mono (λm' h=>⟨by omega,by omega,h.2.2.1,λz=>h.2.2.2 (by omega)⟩) _ (vF hp q (m + 1) (by omega) (by omega) λi j uZ hj=>?_);by_cases Ul:j < m
   ·exact hu i j uZ Ul
   ·have ej:j=m:=by omega
    subst ej;by_cases hi:i=j
    ·subst hi;omega
    ·have:=hu i (j - 1) (by omega) (by omega);omega
def Zf (f:Nat->Int)(p:Array Nat)(m q:Nat):Prop:=∀ i,m<=i + (q + 1)->i < m->g f p i=g f p (m - 1)
theorem kO {p:Array Nat}(hp:Pm n p){m q:Nat}(hm:m<=n)(hq:q + 1<=m)(hb:Zf f p m q)(k:Nat):g f (kas_rev p (m - (q + 1)) m) k=g f p k:=by
 rw [K3 (by rw [hp.size];exact hm)];split
 ·rename_i h;rw [hb _ (by omega) (by omega),hb k (by omega) (by omega)]
 ·rfl
theorem pe:∀ (t:Nat) (p:Array Nat) (m q:Nat),Pm n p->1<=m->m + t<=n->q + 1<=m->Dn f p m->Zf f p m q ->
  fK n (cf f) (kas_desc t p m q) (λr=>Pm n r.1/\m<=r.2.1/\r.2.1<=n/\r.2.2 + 1<=r.2.1/\Dn f r.1 r.2.1/\Zf f r.1 r.2.1 r.2.2)
 | 0,p,m,q,hp,h1,h2,h3,hd,hb=>⟨hp,zI _,by simpa using h2,h3,hd,hb⟩
 | t + 1,p,m,q,hp,h1,h2,h3,hd,hb=>by
  unfold kas_desc;refine ⟨by rw [getD_at];exact hp.lt (by omega),by rw [getD_at];exact hp.lt (by omega),?_⟩;rw [getD_at,getD_at];by_cases hc:g f p m < g f p (m - 1)
  ·have e:cf f (at' p m) (at' p (m - 1))=true:=decide_eq_true hc;rw [e];dsimp only;rw [if_pos rfl];have step:∀ p':Array Nat,Pm n p'->(∀ k,g f p' k=g f p k)->fK n (cf f) (kas_desc t p' (m + 1) 0) (λr=>Pm n r.1/\m<=r.2.1/\r.2.1<=n/\r.2.2 + 1<=r.2.1/\Dn f r.1 r.2.1/\Zf f r.1 r.2.1 r.2.2):=λp' YQ hg=>by
    refine fK.mono (λr h=>⟨h.1,by omega,h.2.2⟩) _ (pe t p' (m + 1) 0 YQ (by omega) (by omega) (by omega) (λi j uZ hj=>?_) λi hi gE=>?_)
    ·rw [hg,hg];by_cases Ul:j < m
     ·exact hd i j uZ Ul
     ·have ej:j=m:=by omega
      subst ej;by_cases hi:i=j
      ·subst hi;omega
      ·have:=hd i (j - 1) (by omega) (by omega);omega
    ·have:i=m + 1 - 1:=by omega
     rw [this]
   split
   ·exact step _ (hp.rev _ _) (kO hp (by omega) h3 hb)
   ·exact step _ hp λ_=>rfl
  ·have e:cf f (at' p m) (at' p (m - 1))=false:=decide_eq_false hc;rw [e];dsimp only;rw [if_neg zQ];refine ⟨hp.lt (by omega),hp.lt (by omega),?_⟩;by_cases hc2:g f p (m - 1) < g f p m
   ·have e2:cf f (at' p (m - 1)) (at' p m)=true:=decide_eq_true hc2;rw [e2];dsimp only;rw [if_pos rfl];exact ⟨hp,zI _,by show m<=n;omega,h3,hd,hb⟩
   ·have e2:cf f (at' p (m - 1)) (at' p m)=false:=decide_eq_false hc2;rw [e2];dsimp only;rw [if_neg zQ];have eq:g f p m=g f p (m - 1):=by omega
    refine fK.mono (λr h=>⟨h.1,by omega,h.2.2⟩) _ (pe t p (m + 1) (q + 1) hp (by omega) (by omega) (by omega) (λi j uZ hj=>?_) λi hi gE=>?_)
    ·by_cases Ul:j < m
     ·exact hd i j uZ Ul
     ·have ej:j=m:=by omega
      subst ej;by_cases hi:i=j
      ·subst hi;omega
      ·have:=hd i (j - 1) (by omega) (by omega);omega
    ·rw [show m + 1 - 1=m from rfl];by_cases jW:i=m
     ·rw [jW]
     ·rw [hb i (by omega) (by omega),eq]
theorem pZ {p:Array Nat}{m:Nat}(hp:Pm n p)(h1:1<=m)(hm:m<=n)(hd:Dn f p m):fK n (cf f) (kas_tail3 m n p) (λr=>Pm n r.2/\r.1<=n/\1<=r.1/\Up f r.2 r.1):=by unfold kas_tail3;have YQ:=hp.rev 0 m;refine fK.bind _ (fK.mono (λm' h=>⟨YQ,by omega,by omega,h.2.2.1⟩) _ (vF YQ (n - m) m h1 (by omega) λi j uZ hj=>?_));rw [K3 (by rw [hp.size];exact hm),K3 (by rw [hp.size];exact hm),if_pos ⟨by omega,by omega⟩,if_pos ⟨by omega,by omega⟩];exact hd _ _ (by omega) (by omega)
theorem jM {p:Array Nat}{m:Nat}(hp:Pm n p)(h1:1<=m)(hm:m < n)(hd:Dn f p (m + 1)):fK n (cf f) (kas_descPart m n p) (λr=>Pm n r.2/\r.1<=n/\1<=r.1/\Up f r.2 r.1):=by
 unfold kas_descPart;refine fK.bind _ (fK.mono (λr h=>?_) _ (pe (n - (m + 1)) p (m + 1) 0 hp (by omega) (by omega) (by omega) hd λi hi gE=>by rw [show i=m + 1 - 1 by omega]));obtain ⟨a1,a2,a3,a4,a5,a6⟩:=h;split
 ·exact pZ (a1.rev _ _) (by omega) a3 λi j uZ hj=>by
   rw [kO a1 a3 a4 a6,kO a1 a3 a4 a6];exact a5 i j uZ hj
 ·exact pZ a1 (by omega) a3 a5
theorem OU {p:Array Nat}(hn:1<=n)(hp:Pm n p):fK n (cf f) (kas_count n p) (λr=>Pm n r.2/\r.1<=n/\1<=r.1/\Up f r.2 r.1):=by
 unfold kas_count;refine fK.bind _ (fK.mono (λm h=>?_) _ (vF hp (n - 1) 1 (zI _) (by omega) λi j uZ hj=>by rw [show i=j by omega];omega));obtain ⟨a1,a2,a3,a4⟩:=h;split
 ·exact ⟨hp,by omega,a1,a3⟩
 ·rename_i RN;have dB:m < n:=by
   have:¬ m=n:=by simpa using RN
   omega
  have a4':=a4 (by omega);split
  ·rename_i hm1;refine ⟨by rw [getD_at];exact hp.lt (by omega),by rw [getD_at];exact hp.lt (by omega),?_⟩;rw [getD_at,getD_at];by_cases hc:g f p 0 < g f p (m - 1)
   ·have e:cf f (at' p 0) (at' p (m - 1))=true:=decide_eq_true hc;rw [e];dsimp only;rw [if_pos rfl];exact ⟨hp,by omega,a1,a3⟩
   ·have e:cf f (at' p 0) (at' p (m - 1))=false:=decide_eq_false hc;rw [e];dsimp only;rw [if_neg zQ];have all:∀ k,k < m->g f p k=g f p 0:=λk hk=>by
     have:=a3 0 k (by omega) hk;have:=a3 k (m - 1) (by omega) (by omega);omega
    have gr:∀ k,g f (kas_rev p 0 m) k=g f p k:=λk=>by
     rw [K3 (by rw [hp.size];omega)];split
     ·rw [all _ (by omega),all k (by omega)]
     ·rfl
    refine jM (hp.rev _ _) a1 dB λi j uZ hj=>?_;rw [gr,gr];by_cases Ul:j < m
    ·rw [all i (by omega),all j Ul];omega
    ·have ej:j=m:=by omega
     subst ej;by_cases hi:i=j
     ·subst hi;omega
     ·have:=all i (by omega);have:=all (j - 1) (by omega);omega
  ·refine jM hp a1 dB λi j uZ hj=>?_;have em:m=1:=by omega
   subst em;by_cases hi:i=j
   ·subst hi;omega
   ·have e1:i=0:=by omega
    have e2:j=1:=by omega
    subst e1 e2;have:g f p 1 < g f p 0:=a4';omega
theorem kP {p:Array Nat}{k:Nat}(hp:Pm n p)(hk:k < n)(hu:Up f p k):∀ (t l r:Nat),l<=r->r<=k->r<=l + t->(∀ i,i < l->g f p i<=g f p k)->(∀ i,r<=i->i < k->g f p k < g f p i) ->
  fK n (cf f) (kas_place p k t l r) (λl'=>l'<=k/\(∀ i,i < l'->g f p i<=g f p k)/\∀ i,l'<=i->i < k->g f p k < g f p i)
 | 0,l,r,h1,h2,h3,ha,hb=>⟨by omega,ha,λi hi gE=>hb i (by omega) gE⟩
 | t + 1,l,r,h1,h2,h3,ha,hb=>by
  unfold kas_place;split
  ·exact ⟨by omega,ha,λi hi gE=>hb i (by omega) gE⟩
  ·rename_i uX;refine ⟨by rw [getD_at];exact hp.lt hk,by rw [getD_at];exact hp.lt (by omega),?_⟩;rw [getD_at,getD_at];by_cases hc:g f p k < g f p ((l + r) / 2)
   ·have e:cf f (at' p k) (at' p ((l + r) / 2))=true:=decide_eq_true hc;rw [e];dsimp only;rw [if_pos rfl];refine kP hp hk hu t l ((l + r) / 2) (by omega) (by omega) (by omega) ha λi hi gE=>?_;have:=hu ((l + r) / 2) i (by omega) gE;omega
   ·have e:cf f (at' p k) (at' p ((l + r) / 2))=false:=decide_eq_false hc;rw [e];dsimp only;rw [if_neg zQ];refine kP hp hk hu t ((l + r) / 2 + 1) r (by omega) (by omega) (by omega) (λi hi=>?_) hb;have:=hu i ((l + r) / 2) (by omega) (by omega);omega
theorem OZ:∀ (t:Nat) (p:Array Nat) (k:Nat),Pm n p->k + t=n->Up f p k->fK n (cf f) (kas_bin t p k) (λp'=>Pm n p'/\Up f p' n)
 | 0,p,k,hp,hk,hu=>⟨hp,by rw [<-hk];exact hu⟩
 | t + 1,p,k,hp,hk,hu=>by
  unfold kas_bin;refine fK.bind _ (fK.mono (λl h=>?_) _ (kP hp (by omega) hu k 0 k (by omega) (by omega) (by omega) (λi hi=>absurd hi (yO _)) λi hi gE=>absurd gE (by omega)));obtain ⟨a1,a2,a3⟩:=h;refine OZ t _ (k + 1) (hp.bub _ _) (by omega) λi j uZ hj=>?_;have hs:k < p.size:=by rw [hp.size];omega
  rw [RV hs (by omega),RV hs (by omega)];have el:k - (k - l)=l:=by omega
  rw [el];by_cases hil:i=l
  ·rw [if_pos hil];by_cases Xq:j=l
   ·rw [if_pos Xq];omega
   ·rw [if_neg Xq,if_pos ⟨by omega,by omega⟩];have:=a3 (j - 1) (by omega) (by omega);omega
  ·rw [if_neg hil];by_cases jW:l < i/\i<=k
   ·rw [if_pos jW];rw [if_neg (by omega),if_pos ⟨by omega,by omega⟩];exact hu _ _ (by omega) (by omega)
   ·rw [if_neg jW];have hi3:i < l:=by omega
    by_cases Xq:j=l
    ·rw [if_pos Xq];exact a2 i hi3
    ·rw [if_neg Xq];by_cases hj2:l < j/\j<=k
     ·rw [if_pos hj2];exact hu _ _ (by omega) (by omega)
     ·rw [if_neg hj2];exact hu _ _ uZ (by omega)
theorem Qi (hn:1<=n):fK n (cf f) (kas_sort n) (λp=>Pm n p/\Up f p n):=by
 unfold kas_sort;refine fK.bind _ (fK.mono (λr h=>?_) _ (OU hn (show Pm n (List.toArray (List.range n)) from Array.Perm.refl _)));obtain ⟨a1,a2,a3,a4⟩:=h;split
 ·have e:max r.1 1=r.1:=by omega
  rw [e];exact OZ _ _ _ a1 (by omega) a4
 ·have e:r.1=n:=by omega
  exact ⟨a1,by rw [<-e];exact a4⟩
end
end bw
namespace bw
def lx:List Int->List Int->Bool
 | [],[]=>false
 | [],_::_=>true
 | _::_,[]=>false
 | x::xs,y::ys=>if x=y then lx xs ys else decide (x < y)
theorem N7:∀ r:List Int,lx r r=false
 | []=>rfl
 | x::xs=>by unfold lx;rw [if_pos rfl];exact N7 xs
theorem N5:∀ {a b c:List Int},lx a b=true->lx b c=true->lx a c=true
 | [],[],_,h,_=>by cases h
 | [],_::_,[],_,h=>by cases h
 | [],_::_,_::_,_,_=>rfl
 | _::_,[],_,h,_=>by cases h
 | _::_,_::_,[],_,h=>by cases h
 | x::xs,y::ys,z::zs,h,h'=>by
  unfold lx at h h' ⊢;split at h
  ·split at h'
   ·rename_i e1 e2;rw [if_pos (e1.trans e2)];exact N5 h h'
   ·rename_i e1 e2;simp only [decide_eq_true_eq] at h';rw [if_neg (by omega)];simp only [decide_eq_true_eq];omega
  ·simp only [decide_eq_true_eq] at h;split at h'
   ·rename_i e1 e2;rw [if_neg (by omega)];simp only [decide_eq_true_eq];omega
   ·simp only [decide_eq_true_eq] at h';rw [if_neg (by omega)];simp only [decide_eq_true_eq];omega
theorem N6:∀ {a b:List Int},lx a b=false->lx b a=false->a=b
 | [],[],_,_=>rfl
 | [],_::_,h,_=>by cases h
 | _::_,[],_,h=>by cases h
 | x::xs,y::ys,h,h'=>by
  unfold lx at h h';split at h
  ·rename_i e;subst e;rw [if_pos rfl] at h';rw [N6 h h']
  ·rename_i e;rw [if_neg λz=>e z.symm] at h';simp only [decide_eq_false_iff_not] at h h';omega
def rk (rs:List (List Int))(r:List Int):Int:=((rs.countP λx=>lx x r:Nat):Int)
theorem nI {α:Type}{p q:α->Bool}{a:α}:∀ {l:List α},(∀ x,p x=true->q x=true)->a∈l->p a=false->q a=true->l.countP p < l.countP q
 | [],_,h,_,_=>by cases h
 | x::l,hpq,h,h1,h2=>by
  have hm:l.countP p<=l.countP q:=List.countP_mono_left λx _=>hpq x;rcases zJ.mp h with rfl | h
  ·rw [List.countP_cons_of_neg (by rw [h1];exact zQ),List.countP_cons_of_pos h2];omega
  ·have:=nI hpq h h1 h2;rw [List.countP_cons,List.countP_cons];cases e:p x with
   | true=>rw [hpq x e];simp;omega
   | false=>cases e2:q x <;> simp <;> omega
theorem Ru {rs:List (List Int)}{a b:List Int}(ha:a∈rs):decide (rk rs a < rk rs b)=lx a b:=by
 unfold rk;cases h:lx a b with
 | true=>
  have:=nI (p:=λx=>lx x a) (q:=λx=>lx x b) (λx hx=>N5 hx h) ha (N7 a) h;simp only [decide_eq_true_eq];omega
 | false=>
  have hm:rs.countP (λx=>lx x b)<=rs.countP (λx=>lx x a):=List.countP_mono_left λx _ hx=>by
   cases h':lx b a with
   | true=>exact N5 hx h'
   | false=>rw [N6 h h'];exact hx
  simp only [decide_eq_false_iff_not];omega
end bw
namespace L2
open PySem PySem.Spec PyProof.Rows PySem.W bw
theorem bD.at {P:Program}{w:World}{H:Hp}{h:Heap}{a:Addr}{o:HO}(x:bD P w H h a o):∃ ob,h.get? a=some ob:=by
 cases o with
 | lst xs=>obtain ⟨_,_,_,_,e⟩:=x;exact ⟨_,e⟩
 | tup xs=>obtain ⟨_,_,_,ob,e,_⟩:=x;exact ⟨_,e⟩
 | dK iU=>obtain ⟨_,_,_,_,o,_,_,e,_⟩:=x;exact ⟨_,e⟩
 | dT iU=>obtain ⟨_,_,_,_,o,_,_,e,_⟩:=x;exact ⟨_,e⟩
 | set S n=>obtain ⟨o,_,_,_,e,_⟩:=x;exact ⟨_,e⟩
 | ins C dx fs=>obtain ⟨_,_,_,e,_⟩:=x;exact ⟨_,e⟩
 | own y=>obtain ⟨_,e⟩:=x;exact ⟨_,e⟩
 | xd fs=>obtain ⟨_,⟨_,_,_,e,_⟩,_⟩:=x;exact ⟨_,e⟩
 | Yu lo hi=>obtain ⟨_,_,_,e⟩:=x;exact ⟨_,e⟩
 | sV ob u=>obtain ⟨e,_⟩:=x;exact ⟨_,e⟩
 | Ro ps=>exact ⟨_,(show h.get? a=some _ from x)⟩
 | met f y=>exact ⟨_,(show h.get? a=some _ from x)⟩
 | ext φ=>obtain ⟨_,⟨_,e⟩,_⟩:=x;exact ⟨_,e⟩
section
variable {X:Cx}{ai:List (Addr×Obj)}{σ:St}{H:Hp}{s:Shared}
theorem Inv.Nu {m:Str->Option Value}{h':Heap}{D:Addr}{aA:List Value}{c:Nat}{xs:List V}(I:Inv X ai σ H s)(F0:Fr X.base X.env.locals s.heap m)(F:Fr X.base X.env.locals h' m)
  (N:News X.base X.env.locals h' ((D,listOf aA.toArray c)::gI X.base s.heap X.env.locals)) (lt:∀ q∈gI X.base s.heap X.env.locals,q.1 < D) (hv:Vals xs aA) (hz:xs.length<=sizeLine) :
  Inv X ai σ (upd H D (.lst xs)) { s with heap:=h' }/\H D=none:=by
 obtain ⟨eD,nL,nb⟩:=N (D,listOf aA.toArray c) (.head _);have V8:s.heap.get? D=none:=by
  cases q:s.heap.get? D with
  | none=>rfl
  | some o=>exact absurd (lt (D,o) (dG nL nb q)) (yH _)
 have hD:H D=none:=by
  cases q:H D with
  | none=>rfl
  | some u=>
   obtain ⟨ob,e⟩:=(I.bq D u q).at;rw [V8] at e;cases e
 have keep:∀ b o,b≠X.env.locals->s.heap.get? b=some o->h'.get? b=some o:=λb o hb e=>by
  cases q:X.base.get? b with
  | some u=>
   have:=I.bk b u q;rw [e] at this;cases this;exact F.keep b _ q
  | none=>exact (N (b,o) (.tail _ (dG hb q e))).1
 have LV:∀ b o,s.heap.get? b=some o->b≠D:=λb o e z=>by rw [z,V8] at e;cases e
 have neT:∀ b u,H b=some u->b≠D:=λb u e z=>by rw [z,hD] at e;cases e
 refine ⟨I.step (g':=s.gens) (t':=s.toks) (d':=s.drawn) (ch:=[]) (λ_ z=>nomatch z) (λb o hb _ _ e _=>keep b o hb e) (λb o hb _ _ e _=>⟨o.slots,keep b o hb e⟩) (λb o _ e n=>by rw [xt (LV b o e)];exact n) (λb o _ e=>?_)
  (λb ys e=>by rw [xt (neT b _ e)];exact e) (λb o u e=>by rw [xt (neT b _ e)];exact e) (λb ps e=>⟨#[],by rw [xt (neT b _ e),e,Array.append_empty]⟩) (λm' hm=>?_) (λb u e=>?_) I.bare,hD⟩
 ·by_cases hb:b=X.env.locals
  ·obtain ⟨o',_,_,q,_⟩:=F.ns;exact ⟨o',by rw [hb];exact q⟩
  ·exact ⟨o,keep b o hb e⟩
 ·obtain ⟨o1,RW,ep1,e1,d1,k1,f1⟩:=hm;obtain ⟨o2,es2,ep2,e2,d2,k2,f2⟩:=F0.ns;rw [e1] at e2;cases e2;rw [d1] at d2;cases d2;obtain ⟨o3,es3,ep3,e3,d3,k3,f3⟩:=F.ns;exact ⟨o3,es3,ep3,e3,d3,k3,λname=>(f3 name).trans ((f2 name).symm.trans (f1 name))⟩
 ·by_cases hb:b=D
  ·subst hb;rw [xj] at e;cases e;exact ⟨hz,aA,c,hv,eD⟩
  ·rw [xt hb] at e;refine (I.bq b u e).fP (λc v hc q=>keep c v (λz=>?_) q) (λc q=>by rw [xt (neT c _ q)];exact q) λc ys q=>by rw [xt (neT c _ q)];exact q
   rcases hc with rfl | hc
   ·rw [z,I.free] at e;cases e
   ·rw [z,I.free] at hc;cases hc
end
section
variable {prog:Program}{w:World}{A:Around}{E:Value->Shared->Prop}{s:Shared}
theorem uv {aA:List Value}(jB:aA.length < 2):(aA.toArray.zip aA.toArray).map (·.2)=aA.toArray:=by
 rcases aA with _ | ⟨x,_ | ⟨y,r⟩⟩
 ·simp
 ·simp
 ·exact absurd jB (by simp)
theorem ur {a:Addr}{aA:List Value}{k:Nat}{P:PySem.Fin->Shared->Prop}(hx:s.heap.get? a=some (seqObj "list" aA.toArray k))(jB:aA.length < 2)
  (done:P (.done (.ret .none)) { s with heap:=sortedHeap s.heap a aA aA.toArray }):wpAny (model prog w) A (Builtin.«list.sort» ⟨[.ref a],[]⟩) P E s:=by
 have here:a < s.heap.objs.size:=Heap.lt_size hx;have line:aA.length<=sizeLine:=by rw [sizeLine_eq];omega
 rw [list_sort_plain];obtain ⟨e1,Y8⟩:∃ e1,(s.heap.update a (Obj.mapSeq λ_=>(#[]:Array Value))).get? a=some (seqObj "list" #[] e1):=⟨_,get?_update_seq hx (λ_=>#[])⟩;refine wpAny_bind (listItems_at hx rfl (wpAny_bind (listUpdate_at hx rfl (wpAny_bind (seqEpoch_at Y8 rfl (wpAny_bind (wpAny_newTuple (wpAny_bind (wpAny_newList (wpAny_holding ?_) (zo _))) line))))
  (by rw [zT];exact line) (zo _))))
 have at2:(((s.heap.update a (Obj.mapSeq λ_=>(#[]:Array Value))).push (seqObj "tuple" aA.toArray 0)).push (seqObj "list" #[] 0)).get? a=some (seqObj "list" #[] e1):=
  Heap.get?_push_of_some _ (Heap.get?_push_of_some _ Y8)
 show wpAny (model prog w) A _ P E { s with heap:=((s.heap.update a (Obj.mapSeq λ_=>(#[]:Array Value))).push (seqObj "tuple" aA.toArray 0)).push (seqObj "list" #[] 0) };have less:aA.toArray.size < 2:=by rw [zT];exact jB
 have VN:(arrOf (SortSt.mk' general' (aA.toArray.zip aA.toArray) #[] 7 none)).map (·.2)=aA.toArray:=by
  show (aA.toArray.zip aA.toArray).map (·.2)=aA.toArray;exact uv jB
 dsimp only;rw [if_pos less,if_pos less];refine wpAny_bind (wpAny_pure ?_);rw [StateT.run_pure];refine wpAny_bind (wpAny_pure ?_);dsimp only;refine wpAny_bind (seqEpoch_at at2 rfl (wpAny_bind (listUpdate_at at2 rfl ?_ (zo _) (by rw [VN,zT];omega))));simp only [bne_self_eq_false,zg,if_false];rw [VN];exact wpAny_pure done
theorem oA {l:Addr}{aA:List Value}{Q:Value->Shared->Prop}(hl:s.heap.IsList l aA.toArray)(jB:aA.length < 2)
  (done:Q (.ref (s.heap.objs.size + 1)) { s with heap:=sortedAll s.heap aA aA.toArray }):wpAny (model prog w) A (call (.builtin "sorted") [.ref l]) Q E s:=by
 have line:aA.length<=sizeLine:=by rw [sizeLine_eq];omega
 refine Calls.call_function_entry kind_sorted plain_sorted entry_sorted (args_sorted1 _) ?_;unfold Builtin.«sorted»;refine wpAny_bind (m:=checkCount "sorted" 1 1 _) (wpAny_pure (wpAny_bind (collect_list hl (wpAny_bind (wpAny_newList ?_ line)) line)));have sz:((s.heap.push (seqObj "list" #[] 0)).update s.heap.objs.size (Obj.mapSeq (·++aA.toArray))).objs.size=s.heap.objs.size + 1:=by rw [Heap.size_update,size_push']
 have atL:(((s.heap.push (seqObj "list" #[] 0)).update s.heap.objs.size (Obj.mapSeq (·++aA.toArray))).push (seqObj "list" aA.toArray 0)).get? (s.heap.objs.size + 1)=some (seqObj "list" aA.toArray 0):=by
  rw [<-sz];exact Heap.get?_push_size _ rfl
 show wpAny _ _ _ _ _ { s with heap:=((s.heap.push (seqObj "list" #[] 0)).update s.heap.objs.size (Obj.mapSeq (·++aA.toArray))).push (seqObj "list" aA.toArray 0) };rw [sz];exact wpAny_bind (wpAny_holding (wpAny_call_entry slot_list_sort ⟨_,atL,rfl⟩ entry_list_sort (ur atL jB ⟨_,rfl,wpAny_pure ⟨_,rfl,done⟩⟩) (args_list_sort _)))
end
section
variable {X:Cx}
theorem mW:∀ {ps:List (Addr×List Int)}{us:List Value},Vals (ps.map λa=>V.ref a.1) us->us=ps.map λa=>Value.ref a.1
 | [],us,r=>by cases r;rfl
 | a::ps,us,r=>by
  cases r with
  | cons x y=>rw [mW y];cases x;rfl
def R6 (h:Heap)(a:Addr)(r:List Int):Prop:=∃ o items n,h.get? a=some o/\o.cls=.type "tuple" /\ o.data=.seq items n/\Vals (r.map V.int) items.toList
theorem pS {prog:Program}{w:World}{A:Around}{s:Shared}{b fin:Bool}{Q:Bool->Shared->Prop}:∀ {r r':List Int}{us Sk:List Value}{i:Nat},Vals (r.map V.int) us->Vals (r'.map V.int) Sk->fin=decide (us.length < Sk.length)->Q (lx r r') s ->
  KatLex prog w A b fin Q (us.zip Sk) i s
 | [],[],us,Sk,i,ru,Qo,hf,q=>by cases ru;cases Qo;exact kat_nil (by rw [hf];exact q)
 | [],_::_,us,Sk,i,ru,Qo,hf,q=>by
  cases ru;cases Qo with
  | cons _ _=>exact kat_nil (by rw [hf];simpa [lx] using q)
 | _::_,[],us,Sk,i,ru,Qo,hf,q=>by
  cases Qo;cases ru with
  | cons _ _=>exact kat_nil (by rw [hf];simpa [lx] using q)
 | x::r,y::r',us,Sk,i,ru,Qo,hf,q=>by
  cases ru with
  | cons rx ru=>
  cases Qo with
  | cons ry Qo=>
  obtain ⟨t,rfl⟩:=rx;obtain ⟨t',rfl⟩:=ry;refine kat_cons (wpAny_eqBool_int ?_);unfold lx at q;by_cases e:x=y
  ·subst e;rw [if_pos rfl] at q;rw [show (x == x)=true from by simp];exact kat_yes (pS ru Qo (by rw [hf];simp) q)
  ·rw [if_neg e] at q;rw [show (x == y)=false from by simpa using e];refine kat_no ?_;cases (b && i == 0) with
   | true=>exact oneLt_int q
   | false=>exact kat_one _ _ (lt_int q)
theorem sE {h:Heap}:∀ {ps:List (Addr×List Int)},(∀ a∈ps,R6 h a.1 a.2/\a.2≠[])->∃ fs,KatTups h (ps.map λa=>Value.ref a.1) fs/\fs.length=ps.length/\∀ v∈fs,∃ i t,v=Value.int i t
 | [],_=>⟨[],KatTups.nil,rfl,λ_ z=>nomatch z⟩
 | (a,r)::ps,hp=>by
  obtain ⟨fs,k,l,f⟩:=sE λa ha=>hp a (.tail _ ha);obtain ⟨⟨o,items,n,ho,hc,hd,hv⟩,hn⟩:=hp (a,r) (.head _)
  match r,hn,hv with
  | x::r,_,hv=>
   obtain ⟨u,hu,t,e⟩:=Vals.get (i:=0) hv rfl;refine ⟨u::fs,KatTups.cons ho hc hd (by rw [<-hu];simp) k,by simp [l],λv hv=>?_⟩;rcases zJ.mp hv with rfl | hv
   ·exact ⟨x,t,e⟩
   ·exact f v hv
theorem LO {α:Type}(d:α)(l:List α):(List.range l.length).map (λi=>l.getD i d)=l:=by
 apply List.ext_getElem
 ·simp
 ·intro i h1 h2;simp [List.getD,h2]
theorem iH:∀ (ps:List (Addr×List Int)),Vals (ps.map λa=>V.ref a.1) (ps.map λa=>Value.ref a.1)
 | []=>.nil
 | _::ps=>.cons rfl (iH ps)
theorem vz:bZ X (.builtin "sorted") (λxs H Q=>∃ p,∃ ps:List (Addr×List Int),xs=[.ref p]/\aB X.K H p (ps.map λa=>V.ref a.1)/\ps.length < 64/\(∀ a∈ps,H a.1=some (.tup (a.2.map V.int))/\a.2≠[]) /\
  ∀ l qs,H l=none->List.Perm qs ps->qs.Pairwise (λa b=>lx b.2 a.2=false)->Q (.ref l) (upd H l (.lst (qs.map λa=>V.ref a.1)))):=by
 intro ai s σ H xs us Q I r h;obtain ⟨p,ps,rfl,hq,h64,jV,q⟩:=h;obtain ⟨u,rfl,rx⟩:=vals1 r;cases rx;obtain ⟨aA,r',pl,hz⟩:=I.list hq;have ei:=mW r';subst ei;have hlen:(ps.map λa=>Value.ref a.1).length=ps.length:=by simp
 by_cases h2:ps.length < 2
 ·refine oA pl.isList (by omega) ?_;have sz:((s.heap.push (seqObj "list" #[] 0)).update s.heap.objs.size (Obj.mapSeq (·++(ps.map λa=>Value.ref a.1).toArray))).objs.size=s.heap.objs.size + 1:=by rw [Heap.size_update,size_push']
  have kp:∀ b o,s.heap.get? b=some o->(sortedAll s.heap (ps.map λa=>Value.ref a.1) (ps.map λa=>Value.ref a.1).toArray).get? b=some o:=λb o e=>by
   have lb:b < s.heap.objs.size:=Heap.lt_size e;unfold sortedAll sortedHeap;rw [Heap.get?_update_ne _ _ _ _ (zW (yp lb))];refine Heap.get?_push_of_some _ (Heap.get?_push_of_some _ ?_);rw [Heap.get?_update_ne _ _ _ _ (zW (yp lb))];refine Heap.get?_push_of_some _ ?_;rw [Heap.get?_update_ne _ _ _ _ (zW lb)];exact Heap.get?_push_of_some _ e
  obtain ⟨c,ec⟩:∃ c,(sortedAll s.heap (ps.map λa=>Value.ref a.1) (ps.map λa=>Value.ref a.1).toArray).get? (s.heap.objs.size + 1)=some (seqObj "list" (ps.map λa=>Value.ref a.1).toArray c):=by
   have e0:=Heap.get?_push_size ((s.heap.push (seqObj "list" #[] 0)).update s.heap.objs.size (Obj.mapSeq (·++(ps.map λa=>Value.ref a.1).toArray))) (o:=seqObj "list" (ps.map λa=>Value.ref a.1).toArray 0) rfl;rw [sz] at e0;unfold sortedAll sortedHeap;have e1:=get?_update_seq e0 (λ_=>(#[]:Array Value));exact ⟨_,get?_update_seq (Heap.get?_push_of_some _ (Heap.get?_push_of_some _ e1)) _⟩
  refine ⟨.ref (s.heap.objs.size + 1),_,I.laid (t':=s.toks) kp (xY _) (show bD X.prog X.w _ _ _ (.lst (ps.map λa=>V.ref a.1)) from ⟨hz,_,c,r',ec⟩),rfl,q _ ps (I.bq.fresh (xY _)) (List.Perm.refl _) ?_⟩
  match ps,h2 with
  | [],_=>exact .nil
  | [_],_=>exact List.pairwise_singleton _ _
 ·obtain ⟨m,F⟩:=I.fr;refine kat_sorted F (kZ (g:=X.base) (h:=s.heap)) pl.isList (by omega) (by omega) λD e1 h' F' N' lt=>?_;have keep:∀ b o,b≠X.env.locals->s.heap.get? b=some o->h'.get? b=some o:=λb o hb e=>by
   cases q:X.base.get? b with
   | some u=>
    have:=I.bk b u q;rw [e] at this;cases this;exact F'.keep b _ q
   | none=>exact (N' (b,o) (.tail _ (dG hb q e))).1
  have rowAt:∀ a∈ps,R6 h' a.1 a.2/\a.2≠[]:=λa ha=>by
   obtain ⟨ht,hn⟩:=jV a ha;obtain ⟨_,aA,rv,o,e,c,n,d⟩:=I.bq a.1 _ ht;refine ⟨⟨o,_,n,keep a.1 o (λz=>?_) e,c,d,rv⟩,hn⟩;rw [z,I.free] at ht;cases ht
  obtain ⟨fs,kt,lf,hf⟩:=sE rowAt;refine kat_kind (T:=.type "int") kt (by omega) (λv hv=>?_) (by decide) ?_
  ·obtain ⟨i,t,rfl⟩:=hf v hv;exact Looks.now
  have n1:1<=(ps.map λa=>Value.ref a.1).length:=by omega
  refine fK.wp (c:=cf λi=>rk (ps.map (·.2)) ((ps.map (·.2)).getD i [])) (λi j C hi hj hC=>?_) (λpp hp=>?_) _ (Qi (f:=λi=>rk (ps.map (·.2)) ((ps.map (·.2)).getD i [])) n1)
  ·have gE:i < ps.length:=by omega
   have Mc:j < ps.length:=by omega
   obtain ⟨⟨o,items,n,ho,hc,hd,hv⟩,hn⟩:=rowAt ps[i] (z4 gE);obtain ⟨⟨o',abJ,n',sO,Xw,RQ,Oi⟩,hn'⟩:=rowAt ps[j] (z4 Mc);unfold kas_ask;have ei:(ps.map λa=>Value.ref a.1).getD i Value.none=.ref ps[i].1:=by simp [gE]
   have ej:(ps.map λa=>Value.ref a.1).getD j Value.none=.ref ps[j].1:=by simp [Mc]
   rw [ei,ej];refine kat_lt ho hd sO RQ (pS hv Oi (by simp) ?_);have e:cf (λi=>rk (ps.map (·.2)) ((ps.map (·.2)).getD i [])) i j=lx ps[i].2 ps[j].2:=by
    unfold cf;have e1:(ps.map (·.2)).getD i []=ps[i].2:=by simp [gE]
    have e2:(ps.map (·.2)).getD j []=ps[j].2:=by simp [Mc]
    simp only [e1,e2];exact Ru (zd.mpr ⟨ps[i],z4 gE,rfl⟩)
   rw [e] at hC;exact hC
  ·obtain ⟨pm,up⟩:=hp;refine KasFin.intro F' N' (UpdF.head λx hx=>zW (lt x hx)) λh2' c F2 N2=>?_;have pl:pp.toList.Perm (List.range ps.length):=by
    have:=pm.toList;rw [hlen] at this;simpa using this
   have eo:(pp.toList.map λi=>(ps.map λa=>Value.ref a.1).getD i Value.none)=(pp.toList.map λi=>ps.getD i (0,[])).map λa=>Value.ref a.1:=by
    rw [zp];refine xG λi hi=>?_;have gE:i < ps.length:=yG.mp (pl.mem_iff.mp hi);simp [gE]
   have perm:(pp.toList.map λi=>ps.getD i (0,[])).Perm ps:=by
    have:=pl.map λi=>ps.getD i (0,[]);rwa [LO] at this
   rw [eo] at N2;have hzz:((pp.toList.map λi=>ps.getD i (0,[])).map λa=>V.ref a.1).length<=sizeLine:=by
    rw [zA,perm.length_eq,sizeLine_eq];omega
   obtain ⟨I2,hD⟩:=I.Nu F F2 N2 lt (iH _) hzz;refine ⟨.ref D,_,I2,rfl,q D _ hD perm ?_⟩;rw [List.pairwise_iff_getElem];intro i j hi hj uZ;simp only [zA,Array.length_toList] at hi hj;simp only [List.getElem_map,Array.getElem_toList];have hn:pp.size=ps.length:=by rw [pm.size];exact hlen
   have key:=up i j (xC uZ) (by omega);have a1:pp[i] < ps.length:=yG.mp (pl.mem_iff.mp (by simp));have a2:pp[j] < ps.length:=yG.mp (pl.mem_iff.mp (by simp));unfold g at'  at key;simp only [hi,hj,getElem?_pos,Option.getD_some] at key;have e1:(ps.map (·.2)).getD pp[i] []=ps[pp[i]].2:=by simp [a1]
   have e2:(ps.map (·.2)).getD pp[j] []=ps[pp[j]].2:=by simp [a2]
   rw [e1,e2] at key;have e3:ps.getD pp[i] (0,[])=ps[pp[i]]:=by simp [a1]
   have e4:ps.getD pp[j] (0,[])=ps[pp[j]]:=by simp [a2]
   rw [e3,e4];have:=Ru (rs:=ps.map (·.2)) (a:=ps[pp[j]].2) (b:=ps[pp[i]].2) (zd.mpr ⟨_,z4 a2,rfl⟩);rw [<-this];simp only [decide_eq_false_iff_not];omega
end
end L2
namespace L2
open PySem PySem.Spec PyProof.Rows
def notStar:Expr->Bool
 | .Starred _ _=>false
 | _=>true
theorem Lw {e:Expr}{es:List Expr}{env:Env}(h:notStar e=true):starEach (e::es) env=(false,eval e env)::starEach es env:=by cases e <;> first | rfl | cases h
@[irreducible] def US (X:Cx) (es:List Expr) (t:TA):Prop:=PA X es t
theorem xf {X:Cx}{es:List Expr}{t:TA}(h:US X es t):PA X es t:=by unfold US at h;exact h
theorem Rw {X:Cx}{es:List Expr}{t:TA}(h:PA X es t):US X es t:=by unfold US;exact h
theorem xp {X:Cx}:US X [] Nb:=Rw qo
theorem xg {X:Cx}{e:Expr}{es:List Expr}{te:TE}{t:TA}(ha:PE X e te)(hr:US X es t)(hn:notStar e=true):US X (e::es) (p8 te t):=Rw (QB ha (xf hr) (Lw hn))
@[irreducible] def tW (X:Cx) (es:List Stmt) (t:TS):Prop:=pQ X es t
theorem xi {X:Cx}{es:List Stmt}{t:TS}(h:tW X es t):pQ X es t:=by unfold tW at h;exact h
theorem OY {X:Cx}{es:List Stmt}{t:TS}(h:pQ X es t):tW X es t:=by unfold tW;exact h
theorem wG {X:Cx}{a:Stmt}{t:TS}(h:PS X a t):tW X [a] t:=OY (Qw h)
theorem wA {X:Cx}{a b:Stmt}{rest:List Stmt}{t u:TS}(h:PS X a t)(hr:tW X (b::rest) u):tW X (a::b::rest) (Na t u):=OY (NH h (xi hr))
section
variable {K:PySem.W.Frag}{a:Addr}{xs:List V}{n:Nat}{caps:List Nat}{g:TG}{tc:TT}{te:TE}{σ:St}{H:Hp}{Qf:Addr->Hp->List V->Prop}
theorem i9 {J:It}(Pv:Nat->St->List V->Hp->Prop)(len:Nat)(h0:Pv 0 (dw n caps σ) [] H)(hn:len<=1000)(hl:∀ i τ acc H,Pv i τ acc H->acc.length<=i)
  (hgo:∀ i τ acc H,i < len->Pv i τ acc H->J.go i H) (Oj:∀ τ acc H,Pv len τ acc H->J.stop len H)
  (hs:∀ i τ acc H (C:St->List V->Hp->Prop),i < len->Pv i τ acc H->(∀ τ acc H,Pv (i + 1) τ acc H->C τ acc H)->∀ x H',J.mF i H x H'->g x τ H' fun bC H2=>tc bC H2 λb H3=>if b=true then te bC H3 λy H4=>C bC (acc++[y]) H4 else C bC acc H3)
  (hd:∀ τ acc H,Pv len τ acc H->∀ p,H p=none->Qf p H acc) :
  ∃ W:Nat->Nat->St->List V->Hp->Prop,(∃ m,W 0 m (dw n caps σ) [] H)/\∀ i m τ acc H,W i m τ acc H ->
   (J.stop i H/\acc.length<=sizeLine/\∀ p,H p=none->Qf p H acc) \/
   (J.go i H/\acc.length < sizeLine/\∀ x H',J.mF i H x H'->g x τ H' fun bC H2=>tc bC H2 λb H3=>if b=true then te bC H3 λy H4=>∃ m',m' < m/\W (i + 1) m' bC (acc++[y]) H4 else ∃ m',m' < m/\W (i + 1) m' bC acc H3):=by
 have line:1001<=sizeLine:=by rw [sizeLine_eq];decide
 refine ⟨λi m τ acc H=>m=len - i/\i<=len/\Pv i τ acc H,⟨len,by simp,zo _,h0⟩,?_⟩;rintro i m τ acc H ⟨rfl,hi,p⟩;have q:=hl i τ acc H p;by_cases dB:i < len
 ·exact .inr ⟨hgo i τ acc H dB p,by omega,λx H' y=>hs i τ acc H (fun τ acc H=>∃ m',m' < len - i/\m'=len - (i + 1)/\i + 1<=len/\Pv (i + 1) τ acc H) dB p (fun τ acc H p'=>⟨len - (i + 1),by omega,rfl,dB,p'⟩) x H' y⟩
 ·have e:i=len:=by omega
  subst e;exact .inl ⟨Oj τ acc H p,by omega,hd τ acc H p⟩
theorem i8 (Pv:Nat->St->List V->Hp->Prop)(h0:Pv 0 (dw n caps σ) [] H)(hn:xs.length<=1000)(hl:∀ i τ acc H,Pv i τ acc H->acc.length<=i/\aW K H a xs)
  (hs:∀ i x τ acc H (C:St->List V->Hp->Prop),xs[i]?=some x->Pv i τ acc H->(∀ τ acc H,Pv (i + 1) τ acc H->C τ acc H)->g x τ H fun bC H2=>tc bC H2 λb H3=>if b=true then te bC H3 λy H4=>C bC (acc++[y]) H4 else C bC acc H3)
  (hd:∀ τ acc H,Pv xs.length τ acc H->∀ p,H p=none->Qf p H acc) :
  ∃ W:Nat->Nat->St->List V->Hp->Prop,(∃ m,W 0 m (dw n caps σ) [] H)/\∀ i m τ acc H,W i m τ acc H ->
   ((Ri K a).stop i H/\acc.length<=sizeLine/\∀ p,H p=none->Qf p H acc) \/
   ((Ri K a).go i H/\acc.length < sizeLine/\∀ x H',(Ri K a).mF i H x H'->g x τ H' fun bC H2=>tc bC H2 λb H3=>if b=true then te bC H3 λy H4=>∃ m',m' < m/\W (i + 1) m' bC (acc++[y]) H4 else ∃ m',m' < m/\W (i + 1) m' bC acc H3):=
 i9 (J:=Ri K a) Pv xs.length h0 hn (λi τ acc H p=>(hl i τ acc H p).1) (λi τ acc H hi p=>⟨xs,xs[i],(hl i τ acc H p).2,by simp [hi]⟩) (fun τ acc H p=>⟨xs,(hl _ τ acc H p).2,zI _⟩)
  (λi τ acc H C hi p c x H' y=>by obtain ⟨e,y⟩:=y;subst e;exact hs i x τ acc _ C (y xs (hl i τ acc _ p).2) p c) hd
theorem wV (Pv:Nat->St->List V->Hp->Prop)(h0:Pv 0 (dw n caps σ) [] H)(hn:xs.length<=1000)(hl:∀ i τ acc H,Pv i τ acc H->acc.length<=i/\aB K H a xs)
  (hs:∀ i x τ acc H (C:St->List V->Hp->Prop),xs[i]?=some x->Pv i τ acc H->(∀ τ acc H,Pv (i + 1) τ acc H->C τ acc H)->g x τ H fun bC H2=>tc bC H2 λb H3=>if b=true then te bC H3 λy H4=>C bC (acc++[y]) H4 else C bC acc H3)
  (hd:∀ τ acc H,Pv xs.length τ acc H->∀ p,H p=none->Qf p H acc) :
  ∃ W:Nat->Nat->St->List V->Hp->Prop,(∃ m,W 0 m (dw n caps σ) [] H)/\∀ i m τ acc H,W i m τ acc H ->
   ((MO K a).stop i H/\acc.length<=sizeLine/\∀ p,H p=none->Qf p H acc) \/
   ((MO K a).go i H/\acc.length < sizeLine/\∀ x H',(MO K a).mF i H x H'->g x τ H' fun bC H2=>tc bC H2 λb H3=>if b=true then te bC H3 λy H4=>∃ m',m' < m/\W (i + 1) m' bC (acc++[y]) H4 else ∃ m',m' < m/\W (i + 1) m' bC acc H3):=
 i9 (J:=MO K a) Pv xs.length h0 hn (λi τ acc H p=>(hl i τ acc H p).1) (λi τ acc H hi p=>⟨xs,xs[i],(hl i τ acc H p).2,by simp [hi]⟩) (fun τ acc H p=>⟨xs,(hl _ τ acc H p).2,zI _⟩)
  (λi τ acc H C hi p c x H' y=>by obtain ⟨e,y⟩:=y;subst e;exact hs i x τ acc _ C (y xs (hl i τ acc _ p).2) p c) hd
theorem Ml {tb:TS}{D:Ends}(Pv:Nat->St->Hp->Prop)(h0:Pv 0 σ H)(hl:∀ i σ H,i<=xs.length->Pv i σ H->aW K H a xs)
  (hs:∀ i x q σ H,xs[i]?=some x->H q=none->Pv i σ H->g (.ref q) σ (upd H q (.tup [.int i,x])) fun jR H2=>tb (D.lp (Pv (i + 1))) jR H2) (hd:∀ σ H,Pv xs.length σ H->D.nx σ H) :
  ∃ W:Nat->Nat->St->Hp->Prop,(∃ m,W 0 m σ H)/\∀ i m σ H,W i m σ H ->
   ((O9 K a).stop i H/\D.nx σ H)\/((O9 K a).go i H/\∃ N:St->Hp->Prop,(∀ bM H',N bM H'->∃ m',m' < m/\W (i + 1) m' bM H')/\∀ x H',(O9 K a).mF i H x H'->g x σ H' fun jR H2=>tb (D.lp N) jR H2):=by
 refine ⟨λi m σ H=>m=xs.length - i/\i<=xs.length/\Pv i σ H,⟨xs.length,by simp,zo _,h0⟩,?_⟩;rintro i m σ H ⟨rfl,hi,p⟩;have q:=hl i σ H hi p;by_cases dB:i < xs.length
 ·refine .inr ⟨⟨xs,xs[i],q,by simp [dB]⟩,Pv (i + 1),fun bM H' p'=>⟨xs.length - (i + 1),by omega,rfl,dB,p'⟩,λx H' y=>?_⟩;obtain ⟨q',x',hq,e1,e2,y⟩:=y;subst e1;subst e2;exact hs i x' q' σ _ (y xs q) hq p
 ·have e:i=xs.length:=by omega
  subst e;exact .inl ⟨⟨xs,q,zI _⟩,hd σ H p⟩
end
end L2
namespace Sm
open PySem L2 bw
def jY (p:Addr)(H H':Hp):Prop:=∀ b u,b≠p->H b=some u->H' b=some u
theorem jY.refl (p:Addr)(H:Hp):jY p H H:=λ_ _ _ h=>h
theorem jY.trans {p:Addr}{H H1 H2:Hp}(a:jY p H H1)(b:jY p H1 H2):jY p H H2:=λc u n h=>b c u n (a c u n h)
theorem jY.set {p:Addr}{H:Hp}{o:HO}:jY p H (upd H p o):=λb u n h=>by rw [xt n];exact h
theorem jY.new {p l:Addr}{H:Hp}{o:HO}(h:H l=none):jY p H (upd H l o):=λb u n e=>by rw [xt (xk e h)];exact e
def aN (H:Hp)(p:Addr):Prop:=∃ a b c:Int,H p=some (.lst [.int a,.int b,.int c])
def Go (p:Addr)(H H':Hp):Prop:=jY p H H'/\aN H' p
theorem Go.trans {p:Addr}{H H1 H2:Hp}(a:Go p H H1)(b:Go p H1 H2):Go p H H2:=⟨a.1.trans b.1,b.2⟩
theorem Go.refl {p:Addr}{H:Hp}(a:aN H p):Go p H H:=⟨jY.refl p H,a⟩
theorem aN.new {p l:Addr}{H:Hp}{o:HO}(a:aN H p)(h:H l=none):aN (upd H l o) p:=by obtain ⟨x,y,z,e⟩:=a;exact ⟨x,y,z,by rw [xt (xk e h)];exact e⟩
theorem aN.ne {p l:Addr}{H:Hp}(a:aN H p)(h:H l=none):l≠p:=by obtain ⟨x,y,z,e⟩:=a;exact (xk e h).symm
theorem Go.new {p l:Addr}{H H1:Hp}{o:HO}(a:Go p H H1)(h:H1 l=none):Go p H (upd H1 l o):=⟨a.1.trans (jY.new h),a.2.new h⟩
theorem aN.tup {p t:Addr}{H:Hp}{xs:List V}(a:aN H p)(h:H t=some (.tup xs)):t≠p:=by obtain ⟨x,y,z,e⟩:=a;exact qy h e (by intro z;cases z)
def bY (H H':Hp):Prop:=∀ b xs,H b=some (.tup xs)->H' b=some (.tup xs)
theorem bY.refl (H:Hp):bY H H:=λ_ _ h=>h
theorem bY.trans {H H1 H2:Hp}(a:bY H H1)(b:bY H1 H2):bY H H2:=λc u h=>b c u (a c u h)
theorem Go.aZ {p:Addr}{H H':Hp}(a:Go p H H')(h:aN H p):bY H H':=λb xs e=>a.1 b _ (h.tup e) e
theorem bY.new {l:Addr}{H:Hp}{o:HO}(h:H l=none):bY H (upd H l o):=λb u e=>by rw [xt (xk e h)];exact e
theorem bY.set {l:Addr}{H:Hp}{xs:List V}{o:HO}(h:H l=some (.lst xs)):bY H (upd H l o):=λb u e=>by rw [xt (qy e h (by intro z;cases z))];exact e
theorem bY.same {H H':Hp}(h:au H H'):bY H H':=λb u e=>h b _ e
structure M4 where
 lo:Int
 hi:Int
 t:Int
 m:Int
def M4.vs (r:M4):List V:=[.int r.lo,.int r.hi,.int r.t,.int r.m]
def apart (a b:M4):Prop:=a.lo≠b.lo/\a.lo≠b.hi/\a.hi≠b.lo/\a.hi≠b.hi
structure Good (w:Int) (ms:List M4):Prop where
 jB:ms.length<=60
 each:∀ r∈ms,0<=r.lo/\r.lo < r.hi/\r.hi < w/\1<=r.t/\r.t<=1000000000/\1<=r.m/\r.m<=99
 order:ms.Pairwise λa b=>a.t < b.t\/(a.t=b.t/\a.lo < b.lo/\apart a b)
def jF (H:Hp)(ps:List (Addr×M4)):Prop:=∀ a∈ps,H a.1=some (.tup a.2.vs)
structure aY (H:Hp) (b:Addr) (af:List Int) (tr tm:Addr) (ps:List (Addr×M4)):Prop where
 book:H b=some (.tup [.ref tr,.ref tm])
 af:H tr=some (.tup (af.map V.int))
 meets:H tm=some (.tup (ps.map λa=>V.ref a.1))
 rows:jF H ps
theorem jF.aZ {H H':Hp}{ps:List (Addr×M4)}(a:jF H ps)(t:bY H H'):jF H' ps:=λx hx=>t _ _ (a x hx)
theorem aY.aZ {H H':Hp}{b tr tm:Addr}{af:List Int}{ps:List (Addr×M4)}(a:aY H b af tr tm ps)(t:bY H H'):aY H' b af tr tm ps:=
 ⟨t _ _ a.book,t _ _ a.af,t _ _ a.meets,a.rows.aZ t⟩
def vX (K:PySem.W.Frag):Sp:=λvs H Q _=>∃ (a:Addr) (ns:List Int),vs=[.ref a]/\aB K H a (ns.map V.int)/\ns.length<=63/\∀ H',Q (.bl true) H'
def Qa (K:PySem.W.Frag):Sp:=λvs H Q _=>∃ (a:Addr) (ns:List Int) (k:Nat),vs=[.ref a,.int k]/\aB K H a (ns.map V.int)/\k < 1000/\∀ p H',H p=none->aN H' p->au H H'->Q (.ref p) H'
def SA:Sp:=λvs H Q _=>∃ p n,vs=[.ref p,.int n]/\0 < n/\n < 2 ^ 200/\aN H p/\∀ d H',0<=d->d < n->Go p H H'->Q (.int d) H'
def VM:Sp:=λvs H Q _=>∃ p,vs=[.ref p]/\aN H p/\∀ d H',0<=d->d<=1000000000->Go p H H'->Q (.int d) H'
def P9:Sp:=λvs H Q _=>∃ p,∃ n:Nat,vs=[.ref p,.int n]/\n<=1000/\aN H p/\∀ (t:Addr) (af:List Int) (H':Hp),Go p H H'->H' t=some (.tup (af.map V.int))->af.length=n->(∀ r∈af,(0:Int)<=r/\r<=99)->Q (.ref t) H'
def SD:Sp:=λvs H Q _=>∃ p,vs=[.ref p]/\aN H p/\∀ d H',0<=d->d<=16000000->Go p H H'->Q (.int d) H'
def uo:Sp:=λvs H Q _=>∃ p,∃ w:Int,∃ n:Nat,vs=[.ref p,.int w,.int n]/\n<=60/\w < 1000/\(n=0\/2<=w)/\aN H p /\
 ∀ (t:Addr) (ps:List (Addr×M4)) (H':Hp),Go p H H'->H' t=some (.tup (ps.map λa=>V.ref a.1))->jF H' ps->Good w (ps.map (·.2))->ps.length=n->Q (.ref t) H'
def SJ:Sp:=λvs H Q _=>∃ p,∃ a:Int,∃ n:Nat,vs=[.ref p,.int a,.int n]/\1<=a/\a<=100/\n<=60/\aN H p /\
 ∀ (b:Addr) (af:List Int) (tr tm:Addr) (ps:List (Addr×M4)) (H':Hp),Go p H H'->aY H' b af tr tm ps->1<=af.length->(af.length:Int)<=a->(∀ r∈af,(0:Int)<=r/\r<=99)->Good af.length (ps.map (·.2))->ps.length<=n->Q (.ref b) H'
theorem oR {c A B:Prop}[Decidable c](h1:c->A)(h2:¬ c->B):if decide c=true then A else B:=by
 by_cases h:c
 ·rw [if_pos (decide_eq_true h)];exact h1 h
 ·rw [if_neg (by simpa using h)];exact h2 h
theorem av {c:Bool}{A B:Prop}(hc:c=false)(h:B):if c=true then A else B:=by rw [if_neg (by rw [hc];exact zQ)];exact h
theorem aE {c:Bool}{A B:Prop}(hc:c=true)(h:A):if c=true then A else B:=by rw [if_pos hc];exact h
theorem uS {c:Bool}{A B:Prop}(h1:c=true->A)(h2:c=false->B):if c=true then A else B:=by
 cases c with
 | true=>exact h1 rfl
 | false=>exact h2 rfl
theorem xl {H:Hp}{p:Addr}{o:HO}(h:H p=none):au H (upd H p o):=λb u e=>by
 rw [xt (xk e h)];exact e
def M4.row (r:M4):List Int:=[r.t,r.lo,r.hi,r.m]
structure U0 (w Rl:Int) (bs:List Int) (fs:List (Addr×M4)):Prop where
 each:∀ a∈fs,0<=a.2.lo/\a.2.lo < a.2.hi/\a.2.hi < w/\1<=a.2.t/\a.2.t<=Rl/\1<=a.2.m/\a.2.m<=99
 pw:fs.Pairwise λa b=>a.2.t=b.2.t->apart a.2 b.2
 bz:∀ a∈fs,a.2.t=Rl->a.2.lo∈bs/\a.2.hi∈bs
theorem U0.step {w wh gap one other m:Int}{bs bs':List Int}{fs:List (Addr×M4)}{a:Addr}(F:U0 w wh bs fs)(h1:1<=wh)(g0:0<=gap)(o0:0<=one)(o1:one < w)(p0:0<=other)(p1:other < w)(ne:one≠other)
  (m0:1<=m) (m1:m<=99) (hg:gap=0->one ∉ bs/\other ∉ bs) (hb:∀ x∈bs,gap=0->x∈bs') (Mg:one∈bs') (ML:other∈bs') :
  U0 w (wh + gap) bs' (fs++[(a,⟨if other < one then other else one,if other > one then other else one,wh + gap,m⟩)]):=by
 refine ⟨λb hb=>?_,?_,λb hm e=>?_⟩
 ·rcases zV.mp hb with h | h
  ·obtain ⟨a1,a2,a3,a4,a5,a6,a7⟩:=F.each b h;exact ⟨a1,a2,a3,a4,by omega,a6,a7⟩
  ·cases zK.mp h;by_cases c:other < one
   ·rw [if_pos c,if_neg (by omega)];exact ⟨p0,c,o1,by show 1<=wh + gap;omega,yE _,m0,m1⟩
   ·rw [if_neg c,if_pos (by omega)];exact ⟨o0,by show one < other;omega,p1,by show 1<=wh + gap;omega,yE _,m0,m1⟩
 ·rw [List.pairwise_append];refine ⟨F.pw,List.pairwise_singleton _ _,λb hb c hc e=>?_⟩;cases zK.mp hc;have e':b.2.t=wh + gap:=e;obtain ⟨a1,a2,a3,a4,a5,a6,a7⟩:=F.each b hb;have g:gap=0:=by omega
  obtain ⟨x1,x2⟩:=F.bz b hb (by omega);obtain ⟨n1,n2⟩:=hg g;have q1:b.2.lo≠one:=λz=>n1 (z ▸ x1);have q2:b.2.lo≠other:=λz=>n2 (z ▸ x1);have q3:b.2.hi≠one:=λz=>n1 (z ▸ x2);have q4:b.2.hi≠other:=λz=>n2 (z ▸ x2);unfold apart;dsimp only;by_cases c:other < one
  ·rw [if_pos c,if_neg (by omega)];exact ⟨q2,q1,q4,q3⟩
  ·rw [if_neg c,if_pos (by omega)];exact ⟨q1,q2,q3,q4⟩
 ·rcases zV.mp hm with h | h
  ·obtain ⟨a1,a2,a3,a4,a5,a6,a7⟩:=F.each b h;obtain ⟨x1,x2⟩:=F.bz b h (by omega);exact ⟨hb _ x1 (by omega),hb _ x2 (by omega)⟩
  ·cases zK.mp h;by_cases c:other < one
   ·rw [if_pos c,if_neg (by omega)];exact ⟨ML,Mg⟩
   ·rw [if_neg c,if_pos (by omega)];exact ⟨Mg,ML⟩
def M4.iT (l:Int)(r:M4):M4:=⟨r.lo,r.hi,r.t + l,r.m⟩
theorem U0.good {w wh l:Int}{bs:List Int}{fs qs:List (Addr×M4)}(F:U0 w wh bs fs)(n:fs.length<=60)(l0:0<=l)(l1:fs≠[]->wh + l<=1000000000)(p:qs.Perm fs)(s:qs.Pairwise λa b=>lx b.2.row a.2.row=false) :
  Good w (qs.map λa=>a.2.iT l):=by
 refine ⟨by rw [zA,p.length_eq];exact n,λr hr=>?_,?_⟩
 ·obtain ⟨a,ha,rfl⟩:=zd.mp hr;have hm:=p.mem_iff.mp ha;obtain ⟨a1,a2,a3,a4,a5,a6,a7⟩:=F.each a hm;have:=l1 (List.ne_nil_of_mem hm);unfold M4.iT;exact ⟨a1,a2,a3,by show 1<=a.2.t + l;omega,by show a.2.t + l<=1000000000;omega,a6,a7⟩
 ·rw [List.pairwise_map];have ap:qs.Pairwise λa b=>a.2.t=b.2.t->apart a.2 b.2:=(List.Perm.pairwise_iff (λ{x y} h e=>by
   obtain ⟨a1,a2,a3,a4⟩:=h e.symm;exact ⟨a1.symm,a3.symm,a2.symm,a4.symm⟩) p).mpr F.pw
  refine (s.and ap).imp λ{a b} ⟨h1,h2⟩=>?_;unfold M4.iT;dsimp only;unfold M4.row lx at h1;by_cases e:a.2.t=b.2.t
  ·have q:=h2 e;rw [if_pos e.symm] at h1;unfold lx at h1;rw [if_neg λz=>q.1 z.symm] at h1;simp only [decide_eq_false_iff_not] at h1;refine .inr ⟨by omega,?_,q⟩;have:=q.1;omega
  ·rw [if_neg λz=>e z.symm] at h1;simp only [decide_eq_false_iff_not] at h1;exact .inl (by omega)
def Sq (r:List Int):M4:=⟨r.getD 1 0,r.getD 2 0,r.getD 0 0,r.getD 3 0⟩
theorem LL {fs:List (Addr×M4)}{qs:List (Addr×List Int)}(p:qs.Perm (fs.map λa=>(a.1,a.2.row)))(s:qs.Pairwise λa b=>lx b.2 a.2=false) :
  ∃ rs:List (Addr×M4),rs.Perm fs/\(rs.Pairwise λa b=>lx b.2.row a.2.row=false)/\qs=rs.map λa=>(a.1,a.2.row):=by
 have e:qs=(qs.map λa=>(a.1,Sq a.2)).map λa=>(a.1,a.2.row):=by
  rw [zp];refine (List.map_id qs).symm.trans (xG λx hx=>?_);obtain ⟨a,_,rfl⟩:=zd.mp (p.mem_iff.mp hx);rfl
 refine ⟨qs.map λa=>(a.1,Sq a.2),?_,?_,e⟩
 ·have:=p.map λa=>(a.1,Sq a.2);rw [zp] at this;refine this.trans (.of_eq ?_);refine (xG λx _=>?_).trans (List.map_id fs);rfl
 ·rw [e,List.pairwise_map] at s;exact s
theorem nH (bs:List Int):(bs.map V.int).all iZ=true:=by rw [zc];intro x hx;obtain ⟨b,_,rfl⟩:=zd.mp hx;rfl
theorem lM {x:Int}{bs:List Int}:T5 (.int x) (bs.map V.int)=decide (x∈bs):=by
 unfold T5;induction bs with
 | nil=>rfl
 | cons b bs ih=>
  rw [zY,List.any_cons,ih];by_cases h:x=b
  ·subst h;simp [Pr]
  ·have h':¬ b=x:=λz=>h z.symm;simp [Pr,h,h']
def Y9 (p lf:Addr)(w:Int)(n:Nat)(H:Hp)(i:Nat)(σ:St)(H3:Hp):Prop:=
 ∃ v6 v7 v8 v9 v10 wh lb bs,∃ fs:List (Addr×M4),σ=[some (.ref p),some (.int w),some (.int n),some (.ref lf),some (.int wh),some (.ref lb),v6,v7,v8,v9,v10,none] /\
  H3 lf=some (.lst (fs.map λa=>V.ref a.1))/\H3 lb=some (.lst (List.map V.int bs))/\lb≠lf/\lb≠p/\(∀ a∈fs,H3 a.1=some (.tup (a.2.row.map V.int)))/\U0 w wh bs fs/\fs.length=i/\bs.length<=2 * i/\1<=wh/\wh<=10000000 + 16000000 * i/\Go p H H3
theorem Y9.step {p lf lb t:Addr}{w wh gap one other m:Int}{n i:Nat}{H Hx:Hp}{bs bs':List Int}{fs:List (Addr×M4)}{v6 v7 v8 v9 v10:Option V}(Ph:lf≠p)(Oq:H lf=none)
  (F:U0 w wh bs fs) (N9:fs.length=i) (TF:bs'.length<=2 * i + 2) (Ye:1<=wh) (Z8:wh<=10000000 + 16000000 * i) (hf:Hx lf=some (.lst (fs.map λa=>V.ref a.1))) (hb:Hx lb=some (.lst (List.map V.int bs'))) (nb:lb≠lf) (Wm:lb≠p)
  (rows:∀ a∈fs,Hx a.1=some (.tup (a.2.row.map V.int))) (go:Go p H Hx) (ht:Hx t=none)
  (g0:0<=gap) (g1:gap<=16000000) (o0:0<=one) (o1:one < w) (p0:0<=other) (p1:other < w) (ne:one≠other) (m0:1<=m) (m1:m<=99) (hg:gap=0->one ∉ bs/\other ∉ bs) (hb0:∀ x∈bs,gap=0->x∈bs') (Mg:one∈bs') (ML:other∈bs') :
  Y9 p lf w n H (i + 1) [some (.ref p),some (.int w),some (.int n),some (.ref lf),some (.int (wh + gap)),some (.ref lb),v6,v7,v8,v9,v10,none]
   (upd (upd Hx t (.tup [.int (wh + gap),.int (if other < one then other else one),.int (if other > one then other else one),.int m])) lf (.lst ((fs.map λa=>V.ref a.1)++[.ref t]))):=by
 have ntf:t≠lf:=(xk hf ht).symm;refine ⟨v6,v7,v8,v9,v10,wh + gap,lb,bs',fs++[(t,⟨if other < one then other else one,if other > one then other else one,wh + gap,m⟩)],rfl,by rw [xj,zD];rfl,?_,nb,Wm,λa ha=>?_,F.step Ye g0 o0 o1 p0 p1 ne m0 m1 hg hb0 Mg ML,by rw [zO,N9];rfl,by omega,by omega,by omega,λb u nb e=>?_,?_⟩
 ·rw [xt nb,xt (xk hb ht)];exact hb
 ·rcases zV.mp ha with h | h
  ·have:=rows a h;rw [xt (qy this hf (by intro z;cases z)),xt (xk this ht)];exact this
  ·cases zK.mp h;rw [xt ntf,xj];rfl
 ·rw [xt (xk e Oq),xt (xk (go.1 b u nb e) ht)];exact go.1 b u nb e
 ·have:=go.2.new (o:=.tup [.int (wh + gap),.int (if other < one then other else one),.int (if other > one then other else one),.int m]) ht;obtain ⟨x,y,z,e⟩:=this;exact ⟨x,y,z,by rw [xt Ph.symm];exact e⟩
theorem Th {one x w:Int}(o0:0<=one)(o1:one < w)(x0:0<=x)(x1:x < w - 1):0<=(one + 1 + x) % w/\(one + 1 + x) % w < w/\one≠(one + 1 + x) % w:=by
 refine ⟨xK _ (by omega),yw _ (by omega),?_⟩;by_cases h:one + 1 + x < w
 ·rw [Int.emod_eq_of_lt (by omega) h];omega
 ·have e:(one + 1 + x) % w=(one + 1 + x - w) % w:=by
   have:one + 1 + x=(one + 1 + x - w) + w:=by omega
   rw [this,Int.add_emod_right];congr 1;omega
  rw [e,Int.emod_eq_of_lt (by omega) (by omega)];omega
theorem Go.same {p:Addr}{H H1 H2:Hp}(a:Go p H H1)(s:au H1 H2):Go p H H2:=⟨λb u n e=>s b u (a.1 b u n e),by obtain ⟨x,y,z,e⟩:=a.2;exact ⟨x,y,z,s _ _ e⟩⟩
theorem wF {α:Type}{f:α->V}{l:List α}{i:Nat}{x:V}(h:(l.map f)[i]?=some x):∃ r,l[i]?=some r/\x=f r:=by
 rw [zF] at h;cases e:l[i]? with
 | none=>rw [e] at h;cases h
 | some r=>rw [e] at h;exact ⟨r,rfl,(Option.some.inj h).symm⟩
theorem wK {α:Type}{l:List α}{i:Nat}{r:α}(h:l[i]?=some r):l.take (i + 1)=l.take i++[r]:=by rw [List.take_add_one,h];rfl
theorem aB.but {K:PySem.W.Frag}{p a:Addr}{H H':Hp}{xs:List V}(h:aB K H a xs)(hp:H p=none)(s:jY p H H'):aB K H' a xs:=by
 rcases h with (h | ⟨o,h⟩) | h
 ·exact .inl (.inl (s _ _ (xk h hp) h))
 ·exact .inl (.inr ⟨o,s _ _ (xk h hp) h⟩)
 ·exact .inr h
theorem au.put {l:Addr}{H H':Hp}{o:HO}(h:H l=none)(s:au H H'):au H (upd H' l o):=λb u e=>by rw [xt (xk e h)];exact s b u e
theorem aY.same {H H':Hp}{b tr tm:Addr}{af:List Int}{ps:List (Addr×M4)}(a:aY H b af tr tm ps)(t:au H H'):aY H' b af tr tm ps:=a.aZ (bY.same t)
theorem cy {H:Hp}{l:Addr}{xs:List V}(h:H l=some (.lst xs)):je H (.ref l)=some "list" := by simp only [je,h]
def vW:Sp:=λvs H Q _=>∃ x t,vs=[x]/\je H x=some t/\Q (.bl (t == "int")) H
def KY (lo hi:Int):V->Bool
 | .int i=>decide (lo<=i) && decide (i<=hi)
 | _=>false
def Ni:Sp:=λvs H Q _=>∃ x t lo hi,vs=[x,.int lo,.int hi]/\je H x=some t/\Q (.bl (KY lo hi x)) H
theorem vM {H:Hp}{x:V}(h:je H x=some "int"):∃ i,x=.int i:=by
 cases x with
 | int i=>exact ⟨i,rfl⟩
 | ref a=>
  unfold je at h;dsimp only at h;split at h <;> simp at h
 | _=>simp [je] at h
theorem T6 {H:Hp}{x:V}{t:String}{lo hi:Int}(h:je H x=some t)(n:¬ t = "int"):KY lo hi x=false:=by
 cases x with
 | int i=>simp [je] at h;exact absurd h.symm n
 | _=>rfl
def acF (w:Int)(r:M4):Bool:=decide (r.lo=w) || decide (r.hi=w)
def numsTo (ms:List M4)(w:Int):Nat->List Int
 | 0=>[]
 | i + 1=>numsTo ms w i++(if (ms[i]?).any (acF w)=true then [(i:Int)] else [])
def cnt (ms:List M4)(t:Int):Nat:=(ms.filter λr=>decide (r.t<=t)).length
theorem ja {ms:List M4}{t:Int}{i:Nat}{r:M4}(h:ms[i]?=some r):cnt (ms.take (i + 1)) t=cnt (ms.take i) t + (if r.t<=t then 1 else 0):=by unfold cnt;rw [wK h,yF,zO];congr 1;by_cases c:r.t<=t <;> simp [c]
def rB:Sp:=λvs H Q _=>∃ b t af tr tm ps,vs=[.ref b,.int t]/\aY H b af tr tm ps/\ps.length<=1000/\∀ H',au H H'->Q (.int (cnt (ps.map (·.2)) t)) H'
def Nl:Sp:=λvs H Q _=>∃ p b j af tr tm ps,vs=[.ref p,.ref b,.int j]/\(j=0\/j=1)/\aY H b af tr tm ps/\Good af.length (ps.map (·.2))/\aN H p/\∀ d H',0<=d->d<=1000000000->Go p H H'->Q (.int d) H'
theorem Good.len {w:Int}{ps:List (Addr×M4)}(g:Good w (ps.map (·.2))):ps.length<=60:=by simpa using g.jB
theorem Good.at {w:Int}{ps:List (Addr×M4)}(g:Good w (ps.map (·.2))){r:Addr×M4}(h:r∈ps):0<=r.2.lo/\r.2.lo < r.2.hi/\r.2.hi < w/\1<=r.2.t/\r.2.t<=1000000000/\1<=r.2.m/\r.2.m<=99:=g.each _ (zd.mpr ⟨r,h,rfl⟩)
end Sm
namespace L2
open PySem PySem.Spec PyProof.Rows
end L2
namespace di
open PySem
theorem l5 {xs:Array Nat}{j:Nat}(so:xs.toList.Pairwise (· < ·)):∀ (fuel lo hi:Nat),hi - lo<=fuel->lo<=hi->hi<=xs.size->(∀ i (h:i < xs.size),i < lo->xs[i] < j)->(∀ i (h:i < xs.size),hi<=i->j<=xs[i]) ->
  SetTable.below.go xs j fuel lo hi<=xs.size/\(∀ i (h:i < xs.size),i < SetTable.below.go xs j fuel lo hi->xs[i] < j)/\∀ i (h:i < xs.size),SetTable.below.go xs j fuel lo hi<=i->j<=xs[i]
 | 0,lo,hi,hf,h1,h2,hl,hh=>by
  have:lo=hi:=by omega
  subst this;unfold SetTable.below.go;exact ⟨h2,hl,hh⟩
 | fuel + 1,lo,hi,hf,h1,h2,hl,hh=>by
  unfold SetTable.below.go;have mono:∀ a b (ha:a < xs.size) (hb:b < xs.size),a < b->xs[a] < xs[b]:=λa b ha hb ab=>by
   have:=List.pairwise_iff_getElem.mp so a b (by simpa using ha) (by simpa using hb) ab;simpa using this
  by_cases c:lo < hi
  ·rw [if_pos c];dsimp only;have hm:(lo + hi) / 2 < xs.size:=by omega
   have e:xs.getD ((lo + hi) / 2) j=xs[(lo + hi) / 2]:=by simp [Array.getD,hm]
   rw [e];by_cases d:xs[(lo + hi) / 2] < j
   ·rw [if_pos d];refine l5 so fuel _ _ (by omega) (by omega) h2 (λi h gE=>?_) hh;by_cases q:i=(lo + hi) / 2
    ·subst q;exact d
    ·exact Nat.lt_trans (mono i ((lo + hi) / 2) h hm (by omega)) d
   ·rw [if_neg d];refine l5 so fuel _ _ (by omega) (by omega) (by omega) hl (λi h gE=>?_);by_cases q:i=(lo + hi) / 2
    ·subst q;omega
    ·have:=mono ((lo + hi) / 2) i hm h (by omega);omega
  ·rw [if_neg c];have:lo=hi:=by omega
   subst this;exact ⟨h2,hl,hh⟩
theorem lZ {xs:Array Nat}{j:Nat}(so:xs.toList.Pairwise (· < ·)):SetTable.below xs j<=xs.size/\(∀ i (h:i < xs.size),i < SetTable.below xs j->xs[i] < j)/\∀ i (h:i < xs.size),SetTable.below xs j<=i->j<=xs[i]:=
 l5 so _ _ _ (by omega) (by omega) (zI _) (λ_ _ h=>absurd h (yO _)) (λi h hi=>absurd h (by omega))
theorem below_at {xs:Array Nat}{j i:Nat}(so:xs.toList.Pairwise (· < ·))(h:xs[i]?=some j):SetTable.below xs j=i:=by
 obtain ⟨hi,e⟩:=Array.getElem?_eq_some_iff.mp h;obtain ⟨b1,b2,b3⟩:=lZ (j:=j) so;rcases Nat.lt_trichotomy (SetTable.below xs j) i with c | c | c
 ·have hb:SetTable.below xs j < xs.size:=by omega
  have:=b3 _ hb (zI _);have m:=List.pairwise_iff_getElem.mp so (SetTable.below xs j) i (by simpa using hb) (by simpa using hi) c;simp only [Array.getElem_toList] at m;omega
 ·exact c
 ·have:=b2 i hi c;omega
theorem ji {t:SetTable}{j i:Nat}(so:t.place.toList.Pairwise (· < ·))(h:t.place[i]?=some j):t.slot j=.live i:=by unfold SetTable.slot;dsimp only;rw [below_at so h,h];simp
theorem uw {t:SetTable}{j:Nat}(nd:t.dummies=#[])(h:j ∉ t.place.toList):t.slot j=.empty:=by
 unfold SetTable.slot;dsimp only;rw [if_neg,if_neg]
 ·rw [nd];unfold SetTable.has;simp
 ·intro c;have:t.place[SetTable.below t.place j]?=some j:=by simpa using c
  exact h (by simpa using Array.mem_of_getElem? this)
def MN (m:Nat)(p:SetTable.Probe):SetTable.Probe:=
 if p.more > 0 then { p with j:=p.j + 1,more:=p.more - 1 } else
 { p with j:=(SetTable.leap m p.i p.perturb).1,more:=SetTable.runEnd m (SetTable.leap m p.i p.perturb).1 - (SetTable.leap m p.i p.perturb).1,i:=(SetTable.leap m p.i p.perturb).1,perturb:=(SetTable.leap m p.i p.perturb).2 }
theorem l7 (t:SetTable)(p:SetTable.Probe):t.advance p=MN t.mask p:=rfl
def run (m i u:Nat):SetTable.Probe:={ j:=i,more:=SetTable.runEnd m i - i,i,perturb:=u,dummy:=none }
def start (m:Nat)(h:Int):SetTable.Probe:=run m (SetTable.bits h % (m + 1)) (SetTable.bits h)
def ad (m:Nat):Nat->SetTable.Probe->SetTable.Probe
 | 0,p=>p
 | n + 1,p=>ad m n (MN m p)
theorem jd (m n:Nat)(p:SetTable.Probe):ad m (n + 1) p=MN m (ad m n p):=by
 induction n generalizing p with
 | zero=>rfl
 | succ n ih=>exact ih (MN m p)
theorem O5 (m a b:Nat)(p:SetTable.Probe):ad m (a + b) p=ad m b (ad m a p):=by
 induction a generalizing p with
 | zero=>rw [Nat.zero_add];rfl
 | succ a ih=>rw [Nat.succ_add];exact ih (MN m p)
theorem Mv {m:Nat}{p:SetTable.Probe}:(MN m p).dummy=p.dummy:=by unfold MN;split <;> rfl
theorem tT {m:Nat}:∀ {n:Nat}{p:SetTable.Probe},(ad m n p).dummy=p.dummy
 | 0,_=>rfl
 | n + 1,p=>(tT (n:=n)).trans Mv
def at' (m:Nat)(h:Int)(n:Nat):Nat:=(ad m n (start m h)).j
theorem gJ {m i u:Nat}:∀ k,k<=SetTable.runEnd m i - i->ad m k (run m i u)={ j:=i + k,more:=SetTable.runEnd m i - i - k,i,perturb:=u,dummy:=none }
 | 0,_=>rfl
 | k + 1,h=>by
  rw [jd,gJ k (by omega)];unfold MN;dsimp only;rw [if_pos (by omega)];rfl
theorem jP {m i u:Nat}:ad m (SetTable.runEnd m i - i + 1) (run m i u)=run m ((i * 5 + 1 + u / 32) % (m + 1)) (u / 32):=by rw [jd,gJ _ (zI _)];unfold MN;dsimp only;rw [if_neg (by omega)];rfl
theorem dZ {m i:Nat}:SetTable.runEnd m i - i<=9/\i<=SetTable.runEnd m i/\(i<=m->SetTable.runEnd m i<=m):=by unfold SetTable.runEnd;split <;> omega
def runs (m:Nat):Nat->Nat->Nat->Nat×Nat
 | 0,i,u=>(i,u)
 | r + 1,i,u=>runs m r ((i * 5 + 1 + u / 32) % (m + 1)) (u / 32)
theorem Ku {m:Nat}:∀ (r i u:Nat),∃ c,c<=10 * r/\ad m c (run m i u)=run m (runs m r i u).1 (runs m r i u).2
 | 0,i,u=>⟨0,zI _,rfl⟩
 | r + 1,i,u=>by
  obtain ⟨c,hc,e⟩:=Ku r ((i * 5 + 1 + u / 32) % (m + 1)) (u / 32);refine ⟨SetTable.runEnd m i - i + 1 + c,?_,?_⟩
  ·have:=(dZ (m:=m) (i:=i)).1;omega
  ·rw [O5,jP,e];rfl
theorem rG {m:Nat}:∀ (a b i u:Nat),runs m (a + b) i u=runs m b (runs m a i u).1 (runs m a i u).2
 | 0,b,i,u=>by rw [Nat.zero_add];rfl
 | a + 1,b,i,u=>by rw [Nat.succ_add];exact rG a b _ _
theorem iL {m:Nat}:∀ (r i u:Nat),(runs m r i u).2=u / 32 ^ r
 | 0,i,u=>by simp [runs]
 | r + 1,i,u=>by
  show (runs m r _ (u / 32)).2=_;rw [iL r,Nat.div_div_eq_div_mul,Nat.pow_succ,Nat.mul_comm]
theorem kL {m:Nat}:∀ (r i u:Nat),i<=m->(runs m r i u).1<=m
 | 0,i,u,h=>h
 | r + 1,i,u,h=>kL r _ _ (yk.mp (Nat.mod_lt _ (by omega)))
def f5 (m:Nat):Nat->Nat->Nat
 | 0,i=>i
 | s + 1,i=>f5 m s ((i * 5 + 1) % (m + 1))
theorem Ks {m:Nat}:∀ (s i:Nat),(runs m s i 0).1=f5 m s i
 | 0,i=>rfl
 | s + 1,i=>by
  show (runs m s ((i * 5 + 1 + 0 / 32) % (m + 1)) (0 / 32)).1=f5 m s ((i * 5 + 1) % (m + 1));rw [Nat.zero_div,Nat.add_zero];exact Ks s _
theorem o9 {m:Nat}:∀ (a b i:Nat),f5 m (a + b) i=f5 m b (f5 m a i)
 | 0,b,i=>by rw [Nat.zero_add];rfl
 | a + 1,b,i=>by rw [Nat.succ_add];exact o9 a b _
def pF (m:Nat):Nat->Nat->Nat->Nat
 | 0,_,acc=>acc
 | s + 1,i,acc=>pF m s ((i * 5 + 1) % (m + 1)) (acc ||| (2 ^ i))
theorem jO {m j:Nat}:∀ (s i acc:Nat),(pF m s i acc).testBit j=true->acc.testBit j=true\/∃ a,a < s/\f5 m a i=j
 | 0,i,acc,h=>.inl h
 | s + 1,i,acc,h=>by
  rcases jO s _ _ h with h | ⟨a,ha,e⟩
  ·rw [Nat.testBit_or,Bool.or_eq_true] at h;rcases h with h | h
   ·exact .inl h
   ·rw [Nat.testBit_two_pow] at h;exact .inr ⟨0,by omega,of_decide_eq_true h⟩
  ·exact .inr ⟨a + 1,by omega,e⟩
def Mask (m:Nat):Prop:=m=7\/m=31\/m=127\/m=511\/m=2047\/m=8191
theorem UI {m:Nat}(hm:Mask m):f5 m (m + 1) 0=0/\∀ j,j<=m->∃ a,a<=m/\f5 m a 0=j:=by
 have key:f5 m (m + 1) 0=0/\pF m (m + 1) 0 0=2 ^ (m + 1) - 1:=by
  rcases hm with rfl | rfl | rfl | rfl | rfl | rfl <;> constructor <;> decide +kernel
 refine ⟨key.1,λj hj=>?_⟩;have:(pF m (m + 1) 0 0).testBit j=true:=by
  rw [key.2,Nat.testBit_two_pow_sub_one];exact decide_eq_true (by omega)
 rcases jO _ _ _ this with h | ⟨a,ha,e⟩
 ·simp at h
 ·exact ⟨a,by omega,e⟩
theorem cover {m i j:Nat}(hm:Mask m)(hi:i<=m)(hj:j<=m):∃ s,s<=m/\f5 m s i=j:=by
 obtain ⟨z,all⟩:=UI hm;obtain ⟨a,ha,rfl⟩:=all i hi;obtain ⟨b,hb,rfl⟩:=all j hj;by_cases c:a<=b
 ·exact ⟨b - a,by omega,by rw [<-o9];congr 1;omega⟩
 ·refine ⟨b + (m + 1) - a,by omega,?_⟩;rw [<-o9,show a + (b + (m + 1) - a)=(m + 1) + b from by omega,o9,z]
theorem reach {m i u j:Nat}(hm:Mask m)(hi:i<=m)(hu:u < 2 ^ 64)(hj:j<=m):∃ r,r<=m + 13/\(runs m r i u).1=j:=by
 have p0:(runs m 13 i u).2=0:=by
  rw [iL];exact Nat.div_eq_of_lt (ze hu (by decide))
 obtain ⟨s,hs,e⟩:=cover hm (kL 13 i u hi) hj;refine ⟨13 + s,by omega,?_⟩;rw [rG,p0,Ks,e]
theorem Lc (h:Int):SetTable.bits h < 2 ^ 64:=by
 unfold SetTable.bits;have a:=xK h (show (2 ^ 64:Int)≠0 by decide);have b:=yw h (show (0:Int) < 2 ^ 64 by decide);have c:((h % 2 ^ 64).toNat:Int)=h % 2 ^ 64:=xH a;have d:((2 ^ 64:Nat):Int)=(2:Int) ^ 64:=by decide
 omega
theorem Nz {m j:Nat}{h:Int}(hm:Mask m)(hj:j<=m):∃ n,n<=10 * (m + 13)/\at' m h n=j:=by obtain ⟨r,hr,e⟩:=reach (u:=SetTable.bits h) hm (yk.mp (Nat.mod_lt (SetTable.bits h) (show 0 < m + 1 by omega))) (Lc h) hj;obtain ⟨c,hc,e2⟩:=Ku (m:=m) r (SetTable.bits h % (m + 1)) (SetTable.bits h);refine ⟨c,by omega,?_⟩;unfold at' start;rw [e2,e];rfl
theorem least {P:Nat->Prop}:∀ n,P n->∃ k,k<=n/\P k/\∀ i,i < k->¬ P i:=by
 intro n;induction n using Nat.strongRecOn with
 | _ n ih=>
  intro h;by_cases c:∃ i,i < n/\P i
  ·obtain ⟨i,hi,pi⟩:=c;obtain ⟨k,hk,pk,al⟩:=ih i hi pi;exact ⟨k,by omega,pk,al⟩
  ·exact ⟨n,zI _,h,λi hi pi=>c ⟨i,hi,pi⟩⟩
theorem vg {m:Nat}{O:Nat->Prop}(h:Int)(hm:Mask m)(he:∃ j,j<=m/\¬ O j):∃ N,N<=10 * (m + 13)/\¬ O (at' m h N)/\∀ n,n < N->O (at' m h n):=by obtain ⟨j,hj,no⟩:=he;obtain ⟨n,hn,e⟩:=Nz (h:=h) hm hj;obtain ⟨k,hk,pk,al⟩:=least (P:=λn=>¬ O (at' m h n)) n (by rw [e];exact no);exact ⟨k,by omega,pk,λi hi=>Classical.byContradiction λc=>al i hi c⟩
theorem tP {m:Nat}{h:Int}:∀ n,at' m h n<=m:=by
 have key:∀ n,(ad m n (start m h)).j + (ad m n (start m h)).more<=m:=by
  have step:∀ p:SetTable.Probe,p.j + p.more<=m->(MN m p).j + (MN m p).more<=m:=λp hp=>by
   unfold MN;split
   ·dsimp only;omega
   ·dsimp only;have l:(SetTable.leap m p.i p.perturb).1<=m:=yk.mp (Nat.mod_lt _ (by omega));have:=dZ (m:=m) (i:=(SetTable.leap m p.i p.perturb).1);have:=this.2.2 l;omega
  intro n;induction n with
  | zero=>
   show SetTable.bits h % (m + 1) + (SetTable.runEnd m (SetTable.bits h % (m + 1)) - SetTable.bits h % (m + 1))<=m;have l:SetTable.bits h % (m + 1)<=m:=yk.mp (Nat.mod_lt _ (by omega));have:=dZ (m:=m) (i:=SetTable.bits h % (m + 1));have:=this.2.2 l;omega
  | succ n ih=>rw [jd];exact step _ ih
 intro n;have:=key n;unfold at';omega
end di
namespace di
open PySem
structure Tab (t:SetTable) (es:Array (Int×Value)):Prop where
 mask:Mask t.mask
 nd:t.dummies=#[]
 so:t.place.toList.Pairwise (· < ·)
 sz:t.place.size=es.size
 small:∀ j∈t.place.toList,j<=t.mask
 nt:es.size * 5 < t.mask * 3
 way:∀ i (h:i < es.size),∃ n,t.place[i]?=some (at' t.mask es[i].1 n)/\∀ n',n' < n->at' t.mask es[i].1 n'∈t.place.toList
theorem Tab.room {t:SetTable}{es:Array (Int×Value)}(T:Tab t es):es.size<=t.mask:=by have:=T.nt;omega
theorem Tab.fits {t:SetTable}{es:Array (Int×Value)}(T:Tab t es):t.fits es.size=true:=by unfold SetTable.fits SetTable.fill;have:=T.room;rw [T.sz,T.nd];simp;exact this
theorem Tab.odd {t:SetTable}{es:Array (Int×Value)}(T:Tab t es):t.gaveWay=false:=by unfold SetTable.gaveWay;rcases T.mask with h | h | h | h | h | h <;> rw [h] <;> rfl
theorem pH:∀ (n:Nat) (l:List Nat),(∀ j,j < n->j∈l)->n<=l.length
 | 0,_,_=>zo _
 | n + 1,l,h=>by
  have:=pH n (l.erase n) λj hj=>(List.mem_erase_of_ne (by omega)).mpr (h j (by omega));rw [List.length_erase_of_mem (h n (by omega))] at this;have:=List.length_pos_of_mem (h n (by omega));omega
theorem Oa {l:List Nat}{m:Nat}(h:l.length<=m):∃ j,j<=m/\j ∉ l:=by refine Classical.byContradiction λc=>?_;have:=pH (m + 1) l λj hj=>Classical.byContradiction λz=>c ⟨j,by omega,z⟩;omega
theorem Tab.left {t:SetTable}{es:Array (Int×Value)}(T:Tab t es):∃ j,j<=t.mask/\¬ j∈t.place.toList:=by have:=Oa (l:=t.place.toList) (m:=t.mask) (by rw [Array.length_toList,T.sz];exact T.room);exact this
theorem Tab.first {t:SetTable}{es:Array (Int×Value)}(T:Tab t es)(h:Int):∃ N,N<=10 * (t.mask + 13)/\¬ at' t.mask h N∈t.place.toList/\∀ n,n < N->at' t.mask h n∈t.place.toList:=vg h T.mask T.left
theorem O2 {t:SetTable}{j:Nat}(h:j∈t.place.toList):∃ i:Nat,t.place[i]?=some j:=by obtain ⟨i,hi,e⟩:=xI h;exact ⟨i,by rw [<-Array.getElem?_toList,zC hi,e]⟩
theorem rN {t:SetTable}{es:Array (Int×Value)}(T:Tab t es){hashAt:Nat->Int}{h:Int}{N:Nat}(hN:¬ at' t.mask h N∈t.place.toList)(fJ:∀ n,n < N->at' t.mask h n∈t.place.toList) :
  ∀ (d k fuel:Nat),N - k=d->k<=N->d < fuel ->
   (∃ n i,k<=n/\n < N/\t.place[i]?=some (at' t.mask h n)/\hashAt i=h/\(∀ n',k<=n'->n' < n->∀ i',t.place[i']?=some (at' t.mask h n')->hashAt i'≠h)/\SetTable.probe.go t hashAt h fuel (ad t.mask k (start t.mask h))=some (.candidate (at' t.mask h n) i (ad t.mask (n + 1) (start t.mask h)))) \/
   ((∀ n',k<=n'->n' < N->∀ i',t.place[i']?=some (at' t.mask h n')->hashAt i'≠h)/\SetTable.probe.go t hashAt h fuel (ad t.mask k (start t.mask h))=some (.empty (at' t.mask h N) none))
 | d,k,0,e,hk,hf=>absurd hf (yO _)
 | 0,k,fuel + 1,e,hk,hf=>by
  have:k=N:=by omega
  subst this;refine .inr ⟨λn' h1 h2=>absurd h1 (by omega),?_⟩;unfold SetTable.probe.go;rw [show (ad t.mask k (start t.mask h)).j=at' t.mask h k from rfl,uw T.nd hN];dsimp only;rw [tT];rfl
 | d + 1,k,fuel + 1,e,hk,hf=>by
  obtain ⟨i,hi⟩:=O2 (fJ k (by omega));by_cases c:hashAt i=h
  ·refine .inl ⟨k,i,zI _,by omega,hi,c,λn' h1 h2=>absurd h1 (by omega),?_⟩;unfold SetTable.probe.go;rw [show (ad t.mask k (start t.mask h)).j=at' t.mask h k from rfl,ji T.so hi];dsimp only;rw [if_pos (by rw [c];simp),l7,<- jd]
  ·have step:SetTable.probe.go t hashAt h (fuel + 1) (ad t.mask k (start t.mask h))=SetTable.probe.go t hashAt h fuel (ad t.mask (k + 1) (start t.mask h)):=by
    conv=>lhs;unfold SetTable.probe.go
    rw [show (ad t.mask k (start t.mask h)).j=at' t.mask h k from rfl,ji T.so hi];dsimp only;rw [if_neg (by simpa using c),l7,<- jd]
   have here:∀ i',t.place[i']?=some (at' t.mask h k)->hashAt i'≠h:=λi' gE=>by
    have:=(below_at T.so gE).symm.trans (below_at T.so hi);rw [this];exact c
   rw [step];rcases rN T hN fJ d (k + 1) fuel (by omega) (by omega) (by omega) with ⟨n,i2,a1,a2,a3,a4,a5,a6⟩ | ⟨a1,a2⟩
   ·refine .inl ⟨n,i2,by omega,a2,a3,a4,λn' h1 h2 i' gE=>?_,a6⟩;by_cases q:n'=k
    ·subst q;exact here i' gE
    ·exact a5 n' (by omega) h2 i' gE
   ·refine .inr ⟨λn' h1 h2 i' gE=>?_,a2⟩;by_cases q:n'=k
    ·subst q;exact here i' gE
    ·exact a1 n' (by omega) h2 i' gE
end di
namespace di
open PySem
section
variable {prog:Program}{w:World}{K:Type} [DecidableEq K] {knd:HeapKind prog w K}{A:Around}{E:Value->Shared->Prop}{s:Shared}{a:Addr}
def X6 (knd:HeapKind prog w K)(h:Heap)(es:Array (Int×Value))(ks:Nat->K):Prop:=∀ i (hi:i < es.size),∃ b,es[i]=(knd.hash (ks i),.ref b)/\knd.is h (ks i) b
def Calm (knd:HeapKind prog w K)(A:Around)(s:Shared):Prop:=∀ (k:K) (b:Addr),knd.is s.heap k b->∀ (E:Value->Shared->Prop) (Q:Bool->Shared->Prop),Q false s->wpAny (model prog w) A (ofAClassStatement 8 (.ref b)) Q E s
theorem NU {k:K}{c:Addr}(hk:knd.is s.heap k c)(cl:Calm knd A s):∀ (ys:List Value),(∀ y∈ys,∃ k b,y=.ref b/\knd.is s.heap k b)->∀ {Q:Bool->Shared->Prop},Q false s->wpAny (model prog w) A (searchCouldBeSeen (.ref c) ys) Q E s:=by
 intro ys hy Q q;unfold searchCouldBeSeen;refine wpAny_bind ?_;refine wpAny_forIn_list _ (λrest r s'=>r.1=none/\s'=s/\∀ y∈rest,∃ k b,y=.ref b/\knd.is s.heap k b) _ ?_ ?_ _ _ ⟨rfl,rfl,hy⟩
 ·rintro y rest r s' ⟨hr,rfl,fJ⟩;obtain ⟨k2,b,rfl,hb⟩:=fJ _ za;have next:∀ u∈rest,∃ k b,u=Value.ref b/\knd.is s'.heap k b:=λu hu=>fJ u (zU _ hu);dsimp only;split
  ·exact wpAny_pure ⟨rfl,rfl,next⟩
  ·refine wpAny_bind (knd.quiet hk ?_);simp only [xW,zg,if_false];refine wpAny_bind (knd.quiet hb ?_);simp only [xW,zg,if_false];refine wpAny_bind (cl _ _ hk _ _ ?_);simp only [zg,if_false];refine wpAny_bind (cl _ _ hb _ _ ?_);simp only [zg,if_false];exact wpAny_pure ⟨rfl,rfl,next⟩
 ·rintro ⟨r1,r2⟩ s' ⟨hr,rfl,_⟩;simp only at hr;subst hr;exact wpAny_pure q
theorem search {o:Obj}{es:Array (Int×Value)}{ep:Nat}{t:SetTable}{ks:Nat->K}{kx:K}{c:Addr}{adding:Bool}{Q:SetFound->Shared->Prop}(hr:knd.room A)(ho:s.heap.get? a=some o)(hd:o.data=.set es ep t)(T:Tab t es)(ke:X6 knd s.heap es ks)(hx:knd.is s.heap kx c)(cl:Calm knd A s)
  (qt:∀ r:Option Nat,(r=none->adding=true)->(∃ i,i < es.size/\ks i=kx)->Q (.there r) s) {N:Nat} (hN:¬ at' t.mask (knd.hash kx) N∈t.place.toList) (fJ:∀ n,n < N->at' t.mask (knd.hash kx) n∈t.place.toList) (hNb:N<=10 * (t.mask + 13))
  (qf:(∀ i,i < es.size->ks i≠kx)->Q (.free (at' t.mask (knd.hash kx) N) false) s) :
  ∀ (fuel k:Nat) (st:Option SetTable.Probe),N - k < fuel->k<=N->st.getD (t.probeStart (knd.hash kx))=ad t.mask k (start t.mask (knd.hash kx))->(∀ n',n' < k->∀ i',t.place[i']?=some (at' t.mask (knd.hash kx) n')->ks i'≠kx) ->
   wpAny (model prog w) A (setSearchFrom a (.ref c) (knd.hash kx) adding fuel st) Q E s
 | 0,k,st,hf,_,_,_=>absurd hf (yO _)
 | fuel + 1,k,st,hf,hk,uU,prev=>by
  unfold setSearchFrom;refine wpAny_bind (wpAny_setState_of ho hd T.fits ?_);dsimp only;rw [T.odd,uU];simp only [zg,if_false];unfold SetTable.probe;rcases rN T hN fJ (hashAt:=λi=>((es[i]?).map (·.1)).getD 0) _ k (10 * SetTable.turns t.mask) rfl hk (by unfold SetTable.turns;omega) with ⟨n,i,a1,a2,a3,a4,a5,a6⟩ | ⟨a1,a2⟩
  ·generalize hp:SetTable.probe.go t _ (knd.hash kx) (10 * SetTable.turns t.mask) (ad t.mask k (start t.mask (knd.hash kx)))=pr;have e:=hp.symm.trans a6;subst e;have hi:i < es.size:=by
    have:=(Array.getElem?_eq_some_iff.mp a3).1;rw [T.sz] at this;exact this
   obtain ⟨b,eb,hb⟩:=ke i hi;have eg:es[i]?=some (knd.hash (ks i),.ref b):=by rw [<-eb];exact Array.getElem?_eq_getElem hi
   dsimp only;rw [eg];dsimp only;have sl:=ji T.so a3;have mem:t.sameMemory t.moves t.mask=some true:=by simp [SetTable.sameMemory]
   have again:=search (adding:=adding) hr ho hd T ke hx cl qt hN fJ hNb qf fuel (n + 1) (some (ad t.mask (n + 1) (start t.mask (knd.hash kx)))) (by omega) (by omega) rfl;have more:ks i≠kx->∀ n',n' < n + 1->∀ i',t.place[i']?=some (at' t.mask (knd.hash kx) n')->ks i'≠kx:=λne n' hn i' gE=>by
    by_cases q:n' < k
    ·exact prev n' q i' gE
    by_cases q2:n'=n
    ·subst q2;have:=(below_at T.so gE).symm.trans (below_at T.so a3);rw [this];exact ne
    ·intro z;have hl:i' < es.size:=by
      have:=(Array.getElem?_eq_some_iff.mp gE).1;rw [T.sz] at this;exact this
     obtain ⟨b',eb',_⟩:=ke i' hl;exact a5 n' (by omega) (by omega) i' gE (by simp [eb',hl,z])
   have stored:∀ y∈List.map (λx=>x.snd) (Array.filter (λx=>x.fst == knd.hash kx) es).toList,∃ k b,y=Value.ref b/\knd.is s.heap k b:=λy hy=>by
    obtain ⟨e,he,rfl⟩:=zd.mp hy;have he:e∈es:=by
     have:e∈es/\e.fst=knd.hash kx:=by simpa using he
     exact this.1
    obtain ⟨j,hj,rfl⟩:=Array.getElem_of_mem he;obtain ⟨b',eb',oX⟩:=ke j hj;exact ⟨_,b',by rw [eb'],oX⟩
   split
   ·refine wpAny_bind (NU hx cl _ stored ?_);simp only [zg,if_false];refine wpAny_bind (wpAny_holding (knd.eqBool hr hb hx ?_));refine wpAny_bind (wpAny_setState_of ho hd T.fits ?_);dsimp only;rw [mem];dsimp only;rw [if_pos (show (true=true) from rfl),sl];dsimp only;rw [eg];dsimp only;by_cases q:ks i=kx
    ·rw [decide_eq_true q];cases adding with
     | true=>exact wpAny_pure (qt _ (λ_=>rfl) ⟨i,hi,q⟩)
     | false=>
      simp only [yo,zg,if_false];refine wpAny_bind (wpAny_isSame_ref_self ?_);exact wpAny_pure (qt _ (λz=>by cases z) ⟨i,hi,q⟩)
    ·rw [decide_eq_false q];simp only [xP,zg,if_false];refine wpAny_bind (wpAny_isSame_ref_self ?_);exact again (more q)
   ·refine wpAny_bind (wpAny_holding (knd.eqBool hr hb hx ?_));refine wpAny_bind (wpAny_setState_of ho hd T.fits ?_);dsimp only;rw [mem];dsimp only;rw [if_pos (show (true=true) from rfl),sl];dsimp only;rw [eg];dsimp only;by_cases q:ks i=kx
    ·rw [decide_eq_true q];cases adding with
     | true=>exact wpAny_pure (qt _ (λ_=>rfl) ⟨i,hi,q⟩)
     | false=>
      simp only [yo,zg,if_false];refine wpAny_bind (wpAny_isSame_ref_self ?_);exact wpAny_pure (qt _ (λz=>by cases z) ⟨i,hi,q⟩)
    ·rw [decide_eq_false q];simp only [xP,zg,if_false];refine wpAny_bind (wpAny_isSame_ref_self ?_);exact again (more q)
  ·generalize hp:SetTable.probe.go t _ (knd.hash kx) (10 * SetTable.turns t.mask) (ad t.mask k (start t.mask (knd.hash kx)))=pr;have e:=hp.symm.trans a2;subst e;dsimp only;refine wpAny_pure (qf λi hi z=>?_);obtain ⟨m,hm,al⟩:=T.way i hi;obtain ⟨b,eb,_⟩:=ke i hi;rw [eb] at hm al;dsimp only at hm al;rw [z] at hm al;have mN:m < N:=Classical.byContradiction λc=>by
    by_cases q:N=m
    ·subst q;exact hN (by simpa using Array.mem_of_getElem? hm)
    ·exact hN (al N (by omega))
   by_cases q:m < k
   ·exact prev m q i hm z
   ·refine a1 m (by omega) mN i hm ?_;simp [eb,hi,z]
structure X0 (knd:HeapKind prog w K) (h:Heap) (a:Addr) (es:Array (Int×Value)) (ep:Nat) (t:SetTable) (ks:Nat->K):Prop where
 obj:h.get? a=some { cls:=.type "set", data:=.set es ep t }
 tab:Tab t es
 keys:X6 knd h es ks
end
end di
namespace di
open PySem
theorem lK {α:Type}{l:List α}{p:Nat}{x:α}(hp:p<=l.length)(i:Nat):(l.take p++x::l.drop p)[i]?=if i < p then l[i]? else if i=p then some x else l[i - 1]?:=by
 have lt:(l.take p).length=p:=by rw [zR];omega
 by_cases c:i < p
 ·rw [if_pos c,yJ (by omega),List.getElem?_take_of_lt c]
 ·rw [if_neg c,yC (by omega),lt];by_cases d:i=p
  ·rw [if_pos d,d,Nat.sub_self];rfl
  ·rw [if_neg d,show i - p=(i - p - 1) + 1 from by omega,yq,yx];congr 1;omega
theorem Tab.put {t:SetTable}{es:Array (Int×Value)}(T:Tab t es){h:Int}{x:Value}{N:Nat}(hN:¬ at' t.mask h N∈t.place.toList)(fJ:∀ n,n < N->at' t.mask h n∈t.place.toList)(pl:Bool) :
  (((es.size + 1) * 5 < t.mask * 3)->Tab { (t.put (at' t.mask h N)).1 with plain:=pl } (SetTable.insertAt es (t.put (at' t.mask h N)).2 (h,x)))/\(t.put (at' t.mask h N)).1.dummies=#[]/\(t.put (at' t.mask h N)).1.mask=t.mask/\(t.put (at' t.mask h N)).1.place.size=es.size + 1:=by
 have e1:(t.put (at' t.mask h N)).1={ t with place:=SetTable.insertAt t.place (SetTable.below t.place (at' t.mask h N)) (at' t.mask h N) }:=by
  unfold SetTable.put;dsimp only;rw [T.nd];unfold SetTable.has;simp
 have e2:(t.put (at' t.mask h N)).2=SetTable.below t.place (at' t.mask h N):=rfl;rw [e1,e2];generalize hj:at' t.mask h N=j at *;obtain ⟨b1,b2,b3⟩:=lZ (j:=j) T.so;generalize hp:SetTable.below t.place j=p at *;have lp:(SetTable.insertAt t.place p j).toList=t.place.toList.take p++j::t.place.toList.drop p:=SetTable.toList_insertAt ..;have le:(SetTable.insertAt es p (h,x)).toList=es.toList.take p++(h,x)::es.toList.drop p:=SetTable.toList_insertAt ..;have p1:p<=t.place.toList.length:=by rw [Array.length_toList];exact b1
 have p2:p<=es.toList.length:=by rw [Array.length_toList,<- T.sz];exact b1
 have s1:(SetTable.insertAt t.place p j).size=es.size + 1:=by
  rw [<-Array.length_toList,lp,zO,zk,zR,yh,Array.length_toList,<- T.sz];omega
 have s2:(SetTable.insertAt es p (h,x)).size=es.size + 1:=by
  rw [<-Array.length_toList,le,zO,zk,zR,yh,Array.length_toList];have:=T.sz;omega
 have mem:∀ j',j'∈(SetTable.insertAt t.place p j).toList↔j'=j\/j'∈t.place.toList:=λj'=>by
  rw [lp,zV,zJ];constructor
  ·rintro (h | h | h)
   ·exact .inr (List.mem_of_mem_take h)
   ·exact .inl h
   ·exact .inr (xE h)
  ·rintro (h | h)
   ·exact .inr (.inl h)
   ·rw [<-List.take_append_drop p t.place.toList,zV] at h;exact h.imp id .inr
 refine ⟨λnt=>⟨T.mask,T.nd,?_,by rw [s2];exact s1,λj' Mc=>?_,by rw [s2];exact nt,λi hi=>?_⟩,T.nd,rfl,s1⟩
 ·show (SetTable.insertAt t.place p j).toList.Pairwise (· < ·);rw [lp,List.pairwise_append,List.pairwise_cons];refine ⟨T.so.sublist (List.take_sublist _ _),⟨λy hy=>?_,T.so.sublist (List.drop_sublist _ _)⟩,λy hy z hz=>?_⟩
  ·obtain ⟨i,hi,e⟩:=xI hy;rw [List.getElem_drop] at e;have hl:p + i < t.place.size:=by rw [yh,Array.length_toList] at hi;omega
   have q:=b3 (p + i) hl (by omega);rw [Array.getElem_toList] at e;rw [e] at q;have ne:y≠j:=λz=>hN (by rw [<-z];exact xE hy);omega
  ·obtain ⟨i,hi,e⟩:=xI hy;rw [List.getElem_take] at e;rw [zR,Array.length_toList] at hi;have hl:i < t.place.size:=by omega
   have q:=b2 i hl (by omega);rw [Array.getElem_toList] at e;rw [e] at q;rcases zJ.mp hz with z1 | z1
   ·rw [z1];exact q
   ·obtain ⟨k,hk,ek⟩:=xI z1;rw [List.getElem_drop] at ek;have t7:p + k < t.place.size:=by rw [yh,Array.length_toList] at hk;omega
    have q2:=b3 (p + k) t7 (by omega);rw [Array.getElem_toList] at ek;rw [ek] at q2;omega
 ·have Mc:j'∈(SetTable.insertAt t.place p j).toList:=Mc;rcases (mem j').mp Mc with z | z
  ·rw [z,<- hj];exact tP N
  ·exact T.small j' z
 ·show ∃ n,(SetTable.insertAt t.place p j)[i]?=some (at' t.mask (SetTable.insertAt es p (h,x))[i].1 n)/\∀ n',n' < n->at' t.mask (SetTable.insertAt es p (h,x))[i].1 n'∈(SetTable.insertAt t.place p j).toList;have ge:(SetTable.insertAt es p (h,x))[i]?=some (SetTable.insertAt es p (h,x))[i]:=Array.getElem?_eq_getElem hi;generalize (SetTable.insertAt es p (h,x))[i]=e at ge ⊢;rw [<-Array.getElem?_toList,le,lK p2] at ge;rw [<-Array.getElem?_toList,lp,lK p1,<- lp];have old:∀ k,es.toList[k]?=some e->∃ n,t.place.toList[k]?=some (at' t.mask e.1 n)/\∀ n',n' < n->at' t.mask e.1 n'∈(SetTable.insertAt t.place p j).toList:=λk hk=>by
   rw [Array.getElem?_toList] at hk;obtain ⟨MK,ek⟩:=Array.getElem?_eq_some_iff.mp hk;obtain ⟨n,a1,a2⟩:=T.way k MK;rw [ek] at a1 a2;exact ⟨n,by rw [Array.getElem?_toList];exact a1,λn' hn=>(mem _).mpr (.inr (a2 n' hn))⟩
  by_cases c:i < p
  ·rw [if_pos c] at ge ⊢;exact old i ge
  ·rw [if_neg c] at ge ⊢;by_cases d:i=p
   ·rw [if_pos d] at ge ⊢;cases ge;exact ⟨N,by rw [hj],λn' hn=>(mem _).mpr (.inr (fJ n' hn))⟩
   ·rw [if_neg d] at ge ⊢;exact old (i - 1) ge
def KL (ow:Array (Option Nat))(j:Nat):Prop:=(ow.getD j (some 0)).isNone=false
theorem nG {m:Nat}{ow:Array (Option Nat)}:∀ (fuel i u:Nat),(∃ r,r < fuel/\¬ KL ow (runs m r i u).1) ->
  ∃ n,SetTable.layClean.free m ow fuel i u=some (ad m n (run m i u)).j/\¬ KL ow (ad m n (run m i u)).j/\∀ n',n' < n->KL ow (ad m n' (run m i u)).j
 | 0,i,u,⟨r,h,_⟩=>absurd h (yO _)
 | fuel + 1,i,u,⟨r,h,no⟩=>by
  unfold SetTable.layClean.free;cases e:(List.range (SetTable.runEnd m i + 1 - i)).find? λk=>(ow.getD (i + k) (some 0)).isNone with
  | some k=>
   dsimp only;obtain ⟨hk,dB,before⟩:=List.find?_range_eq_some.mp e;have dB:k < SetTable.runEnd m i + 1 - i:=yG.mp dB;have inr:∀ k',k'<=k->(ad m k' (run m i u)).j=i + k':=λk' MK=>by rw [gJ k' (by omega)]
   refine ⟨k,by rw [inr k (zI _)],?_,λn' hn=>?_⟩
   ·rw [inr k (zI _)];unfold KL;rw [hk];simp
   ·rw [inr n' (by omega)];unfold KL;have:=before n' hn;simpa using this
  | none=>
   dsimp only;have all:∀ k,k < SetTable.runEnd m i + 1 - i->KL ow (i + k):=λk hk=>by
    have:=List.find?_eq_none.mp e k (yG.mpr hk);unfold KL;cases q:(ow.getD (i + k) (some 0)).isNone with
    | false=>rfl
    | true=>exact absurd q this
   have r0:r≠0:=λz=>by
    subst z;refine no ?_;exact all 0 (by have:=(dZ (m:=m) (i:=i)).2.1;omega)
   obtain ⟨r',rfl⟩:=Nat.exists_eq_succ_of_ne_zero r0;obtain ⟨n,a1,a2,a3⟩:=nG fuel ((i * 5 + 1 + u / 32) % (m + 1)) (u / 32) ⟨r',by omega,no⟩;have next:∀ n',ad m (SetTable.runEnd m i - i + 1 + n') (run m i u)=ad m n' (run m ((i * 5 + 1 + u / 32) % (m + 1)) (u / 32)):=λn'=>by rw [O5,jP]
   refine ⟨SetTable.runEnd m i - i + 1 + n,?_,?_,λn' hn=>?_⟩
   ·rw [next];exact a1
   ·rw [next];exact a2
   ·by_cases c:n' < SetTable.runEnd m i - i + 1
    ·rw [gJ n' (by omega)];exact all n' (by have:=(dZ (m:=m) (i:=i)).2.1;omega)
    ·rw [show n'=SetTable.runEnd m i - i + 1 + (n' - (SetTable.runEnd m i - i + 1)) from by omega,next];exact a3 _ (by omega)
structure Lay (m:Nat) (hs:List Int) (ow:Array (Option Nat)):Prop where
 sz:ow.size=m + 1
 each:∀ (k:Nat) (h:Int),hs[k]?=some h->∃ n,ow[at' m h n]?=some (some k)/\∀ n',n' < n->KL ow (at' m h n')
 low:∀ (j k:Nat),ow[j]?=some (some k)->k < hs.length
 one:∀ (j j' k:Nat),ow[j]?=some (some k)->ow[j']?=some (some k)->j=j'
theorem iQ {ow:Array (Option Nat)}{j:Nat}(h:j < ow.size):KL ow j↔∃ k,ow[j]?=some (some k):=by unfold KL;rw [show ow.getD j (some 0)=ow[j] from by simp [Array.getD,h],Array.getElem?_eq_getElem h];cases ow[j] <;> simp
theorem Lay.left {m:Nat}{hs:List Int}{ow:Array (Option Nat)}(L:Lay m hs ow)(jB:hs.length<=m):∃ j,j<=m/\¬ KL ow j:=by
 refine Classical.byContradiction λc=>?_;have all:∀ j,j < m + 1->∃ k,ow[j]?=some (some k):=λj hj=>(iQ (by rw [L.sz];exact hj)).mp (Classical.byContradiction λz=>c ⟨j,by omega,z⟩);have pick:∀ k,∃ j,k < hs.length->ow[j]?=some (some k):=λk=>by
  by_cases hk:k < hs.length
  ·obtain ⟨n,a,_⟩:=L.each k hs[k] (zC hk);exact ⟨_,λ_=>a⟩
  ·exact ⟨0,λz=>absurd z hk⟩
 have:=pH (m + 1) ((List.range hs.length).map λk=>(pick k).choose) λj hj=>by
  obtain ⟨k,hk⟩:=all j hj;have kl:=L.low j k hk;exact zd.mpr ⟨k,yG.mpr kl,L.one _ _ _ ((pick k).choose_spec kl) hk⟩
 rw [zA,xO] at this;omega
theorem Lay.step {m:Nat}{hs:List Int}{ow:Array (Option Nat)}(hm:Mask m)(L:Lay m hs ow)(jB:hs.length<=m)(h:Int) :
  ∃ j,SetTable.layClean.free m ow (SetTable.turns m) (SetTable.bits h % (m + 1)) (SetTable.bits h)=some j/\Lay m (hs++[h]) (ow.setIfInBounds j (some hs.length)):=by
 obtain ⟨j0,hj0,no⟩:=L.left jB;obtain ⟨r,hr,e⟩:=reach (u:=SetTable.bits h) hm (yk.mp (Nat.mod_lt (SetTable.bits h) (show 0 < m + 1 by omega))) (Lc h) hj0;obtain ⟨n,a1,a2,a3⟩:=nG (m:=m) (ow:=ow) (SetTable.turns m) (SetTable.bits h % (m + 1)) (SetTable.bits h) ⟨r,by unfold SetTable.turns;omega,by rw [e];exact no⟩;have ej:(ad m n (run m (SetTable.bits h % (m + 1)) (SetTable.bits h))).j=at' m h n:=rfl;rw [ej] at a1 a2;have a3:∀ n',n' < n->KL ow (at' m h n'):=a3;have jl:at' m h n < ow.size:=by rw [L.sz];exact yk.mpr (tP n)
 have get:∀ j,(ow.setIfInBounds (at' m h n) (some hs.length))[j]?=if at' m h n=j then some (some hs.length) else ow[j]?:=λj=>by
  rw [Array.getElem?_setIfInBounds];by_cases c:at' m h n=j
  ·rw [if_pos c,if_pos c,if_pos jl]
  ·rw [if_neg c,if_neg c]
 have keep:∀ j,KL ow j->j < ow.size->KL (ow.setIfInBounds (at' m h n) (some hs.length)) j:=λj oj hj=>by
  rw [iQ (by rw [Array.size_setIfInBounds];exact hj),get];by_cases c:at' m h n=j
  ·exact ⟨_,by rw [if_pos c]⟩
  ·rw [if_neg c];exact (iQ hj).mp oj
 have free:∀ k,ow[at' m h n]?≠some (some k):=λk z=>a2 ((iQ jl).mpr ⟨k,z⟩);refine ⟨_,a1,by rw [Array.size_setIfInBounds];exact L.sz,λk x hx=>?_,λj k hj=>?_,λj j' k h1 h2=>?_⟩
 ·by_cases c:k < hs.length
  ·rw [yJ c] at hx;obtain ⟨n2,b1,b2⟩:=L.each k x hx;refine ⟨n2,?_,λn' hn=>keep _ (b2 n' hn) (by rw [L.sz];exact yk.mpr (tP n'))⟩;rw [get,if_neg λz=>free k (by rw [z];exact b1)];exact b1
  ·rw [yC (by omega)] at hx;have:k - hs.length=0:=by
    have:=(zH.mp hx).1;simp at this;omega
   rw [this] at hx;cases hx;have:k=hs.length:=by omega
   subst this;exact ⟨n,by rw [get,if_pos rfl],λn' hn=>keep _ (a3 n' hn) (by rw [L.sz];exact yk.mpr (tP n'))⟩
 ·rw [get] at hj;rw [zO,xA];split at hj
  ·cases hj;omega
  ·have:=L.low j k hj;omega
 ·rw [get] at h1 h2;split at h1 <;> split at h2
  ·rename_i x y;rw [<-x,<- y]
  ·cases h1;have:=L.low _ _ h2;omega
  ·cases h2;have:=L.low _ _ h1;omega
  ·exact L.one _ _ _ h1 h2
theorem sj {m:Nat}(hm:Mask m):∀ (l hs:List Int) (ow:Array (Option Nat)),Lay m hs ow->hs.length + l.length<=m + 1 ->
  ∃ YB,l.foldl (λ(acc:Option (Array (Option Nat)×Nat)) h=>do
   let (owner,k) <- acc
   let j <- SetTable.layClean.free m owner (SetTable.turns m) (SetTable.bits h % (m + 1)) (SetTable.bits h)
   pure (owner.setIfInBounds j (some k),k + 1)) (some (ow,hs.length))=some (YB,hs.length + l.length)/\Lay m (hs++l) YB
 | [],hs,ow,L,_=>⟨ow,rfl,by rw [yK];exact L⟩
 | h::l,hs,ow,L,jB=>by
  obtain ⟨j,e,L'⟩:=L.step hm (by rw [zk] at jB;omega) h;have acQ:(hs++[h]).length + l.length<=m + 1:=by rw [zO,xA];rw [zk] at jB;omega
  obtain ⟨YB,e2,L2⟩:=sj hm l (hs++[h]) _ L' acQ;refine ⟨YB,?_,by rw [xM] at L2;exact L2⟩;rw [List.foldl_cons];show l.foldl _ ((SetTable.layClean.free m ow (SetTable.turns m) (SetTable.bits h % (m + 1)) (SetTable.bits h)).bind λj=>some (ow.setIfInBounds j (some hs.length),hs.length + 1))=_;rw [e];rw [zO,xA] at e2;rw [zk];rw [show hs.length + (l.length + 1)=hs.length + 1 + l.length from by omega];exact e2
theorem LX {m:Nat}(hm:Mask m){hashes:Array Int}(jB:hashes.size<=m + 1):∃ ow,SetTable.layClean m hashes=some ow/\Lay m hashes.toList ow:=by have L0:Lay m [] (Array.replicate (m + 1) none):=⟨by simp,λk h e=>(by cases e),(λj k e=>by rw [Array.getElem?_replicate] at e;split at e <;> cases e),(λj j' k e=>by rw [Array.getElem?_replicate] at e;split at e <;> cases e)⟩;obtain ⟨ow,e,L⟩:=sj hm hashes.toList [] _ L0 (by rw [yf,Array.length_toList];omega);refine ⟨ow,?_,by simpa using L⟩;unfold SetTable.layClean;rw [<-Array.foldl_toList];have:=congrArg (Option.map (·.1)) e;exact this
theorem Qz {l l':List Nat}(h:l.Nodup)(h':l'.Nodup)(e:∀ x,x∈l↔x∈l'):l.Perm l':=by
 rw [List.perm_iff_count];intro a;rw [h.count,h'.count];by_cases c:a∈l
 ·rw [if_pos c,if_pos ((e a).mp c)]
 ·rw [if_neg c,if_neg λz=>c ((e a).mpr z)]
theorem oZ {α β:Type}{f:α->Option β}{g:α->β}:∀ {l:List α},(∀ x∈l,f x=some (g x))->l.filterMap f=l.map g
 | [],_=>rfl
 | x::l,h=>by
  rw [List.filterMap_cons_some (h x za),zY,oZ λy hy=>h y (zU _ hy)]
theorem o8 {f:Nat->Option Nat}:∀ (l:List Nat),(l.filterMap λj=>(f j).map (j,·)).map (·.1)=l.filter λj=>(f j).isSome
 | []=>rfl
 | x::l=>by
  cases e:f x with
  | none=>rw [List.filterMap_cons_none (by rw [e];rfl),yU (by rw [e];simp),o8 l]
  | some k=>rw [List.filterMap_cons_some (b:=(x,k)) (by rw [e];rfl),yV (by rw [e];rfl),zY,o8 l]
theorem rJ {t:SetTable}{es:Array (Int×Value)}{wanted m:Nat}(hw:SetTable.sizeAbove wanted - 1=m)(hm:Mask m)(nt:es.size * 5 < m * 3) :
  ∃ t' order,t.relaid (es.map (·.1)) wanted=some (t',order)/\(order.filterMap (es[·]?)).toList.Perm es.toList/\Tab t' (order.filterMap (es[·]?)):=by
 obtain ⟨ow,e,L⟩:=LX (hashes:=es.map (·.1)) hm (by rw [Array.size_map];omega);have lh:(es.map (·.1)).toList.length=es.size:=by rw [Array.length_toList,Array.size_map]
 have hh:∀ (k:Nat) (x:Int×Value),es[k]?=some x->(es.map (·.1)).toList[k]?=some x.1:=λk x hx=>by rw [Array.getElem?_toList,Array.getElem?_map,hx];rfl
 let lv:=(List.range (m + 1)).filterMap λj=>(ow.getD j none).map (j,·)
 have e2:t.relaid (es.map (·.1)) wanted=some ({ mask:=m,place:=(lv.map (·.1)).toArray,dummies:=#[],finger:=t.finger,led:=t.led,moves:=t.movedTo m,plain:=t.plain },(lv.map (·.2)).toArray):=by
  unfold SetTable.relaid SetTable.laid;rw [hw,e];rfl
 have f1:lv.map (·.1)=(List.range (m + 1)).filter λj=>(ow.getD j none).isSome:=o8 _;have f2:∀ p∈lv,ow[p.1]?=some (some p.2)/\p.1<=m:=λp hp=>by
  obtain ⟨j,hj,q⟩:=yu.mp hp;have hj:j < m + 1:=yG.mp hj;have hs:j < ow.size:=by rw [L.sz];exact hj
  rw [show ow.getD j none=ow[j] from by simp [Array.getD,hs]] at q;cases eo:ow[j] with
  | none=>rw [eo] at q;cases q
  | some k=>rw [eo] at q;cases q;exact ⟨by rw [Array.getElem?_eq_getElem hs,eo],by show j<=m;omega⟩
 have f3:∀ j k,ow[j]?=some (some k)->(j,k)∈lv:=λj k h=>by
  obtain ⟨hs,eo⟩:=Array.getElem?_eq_some_iff.mp h;refine yu.mpr ⟨j,yG.mpr (by rw [L.sz] at hs;exact hs),?_⟩;rw [show ow.getD j none=ow[j] from by simp [Array.getD,hs],eo];rfl
 have so1:(lv.map (·.1)).Pairwise (· < ·):=by rw [f1];exact List.pairwise_lt_range.filter _
 have Yo:lv.Pairwise λa b=>a.1 < b.1:=List.pairwise_map.mp so1;have nd:(lv.map (·.2)).Nodup:=by
  refine List.pairwise_map.mpr (Yo.imp_of_mem λ{a b} ha hb h z=>?_);have:=L.one _ _ _ (f2 a ha).1 (by rw [z];exact (f2 b hb).1);omega
 have kl:∀ p∈lv,p.2 < es.size:=λp hp=>by have:=L.low _ _ (f2 p hp).1;rw [lh] at this;exact this
 have pm:(lv.map (·.2)).Perm (List.range es.size):=Qz nd List.nodup_range λk=>by
  constructor
  ·intro h;obtain ⟨p,hp,rfl⟩:=zd.mp h;exact yG.mpr (kl p hp)
  ·intro h;have hk:k < es.size:=yG.mp h;obtain ⟨n,a,_⟩:=L.each k es[k].1 (hh k _ (Array.getElem?_eq_getElem hk));exact zd.mpr ⟨_,f3 _ _ a,rfl⟩
 let g:Nat->Int×Value:=λk=>(es[k]?).getD (0,Value.none)
 have gk:∀ k,k < es.size->es[k]?=some (g k):=λk hk=>by show es[k]?=some ((es[k]?).getD _);rw [Array.getElem?_eq_getElem hk];rfl
 have e3:((lv.map (·.2)).toArray.filterMap (es[·]?)).toList=lv.map λp=>g p.2:=by
  rw [Array.toList_filterMap,List.filterMap_map];exact oZ λp hp=>gk p.2 (kl p hp)
 have e4:es.toList=(List.range es.size).map g:=by
  have:=filterMap_getElem?_range es;rw [oZ (g:=g) λk hk=>gk k (yG.mp hk)] at this;exact this.symm
 refine ⟨_,_,e2,?_,?_⟩
 ·rw [e3,e4,show (λp:Nat×Nat=>g p.2)=g ∘ (·.2) from rfl,<- zp];exact pm.map g
 ·have sz:((lv.map (·.2)).toArray.filterMap (es[·]?)).size=lv.length:=by rw [<-Array.length_toList,e3,zA]
  have ll:lv.length=es.size:=by have:=pm.length_eq;rw [zA,xO] at this;exact this
  refine ⟨hm,rfl,by simpa using so1,by rw [sz];simp,λj hj=>?_,by rw [sz,ll];exact nt,λi hi=>?_⟩
  ·have hj:j∈lv.map (·.1):=by simpa using hj
   obtain ⟨p,hp,rfl⟩:=zd.mp hj;exact (f2 p hp).2
  ·have ge:((lv.map (·.2)).toArray.filterMap (es[·]?))[i]?=some ((lv.map (·.2)).toArray.filterMap (es[·]?))[i]:=Array.getElem?_eq_getElem hi;generalize ((lv.map (·.2)).toArray.filterMap (es[·]?))[i]=x at ge ⊢;rw [<-Array.getElem?_toList,e3,zF] at ge;cases ep:lv[i]? with
   | none=>rw [ep] at ge;cases ge
   | some p=>
    rw [ep] at ge;have ge:g p.2=x:=Option.some.inj ge;have hp:=zB ep;have hx:=gk p.2 (kl p hp);rw [ge] at hx;obtain ⟨n,a1,a2⟩:=L.each p.2 x.1 (hh p.2 x hx);have ej:=L.one _ _ _ a1 (f2 p hp).1;refine ⟨n,?_,λn' hn=>?_⟩
    ·show ((lv.map (·.1)).toArray)[i]?=some (at' m x.1 n);rw [List.getElem?_toArray,zF,ep,ej];rfl
    ·show at' m x.1 n'∈((lv.map (·.1)).toArray).toList;obtain ⟨k,hk⟩:=(iQ (by rw [L.sz];exact yk.mpr (tP n'))).mp (a2 n' hn);simpa using ⟨k,f3 _ _ hk⟩
end di
namespace di
open PySem
section
variable {prog:Program}{w:World}{K:Type} [DecidableEq K] {knd:HeapKind prog w K}{A:Around}{E:Value->Shared->Prop}{s:Shared}{a:Addr}
def tX (knd:HeapKind prog w K):Prop:=∀ (A:Around) (s:Shared) (k:K) (b:Addr),knd.is s.heap k b->∀ (E:Value->Shared->Prop) (Q:Bool->Shared->Prop),(∀ v,Q v s)->wpAny (model prog w) A (hashByValue 8 (.ref b)) Q E s
def bU (es:Array (Int×Value))(ep:Nat)(t:SetTable):Obj:={ cls:=.type "set", data:=.set es ep t }
theorem store {es iw:Array (Int×Value)}{ep:Nat}{t t':SetTable}{Q:Unit->Shared->Prop}(ho:s.heap.get? a=some (bU es ep t))(hz:iw.size<=sizeLine)
  (h:∀ h',Heap.SameBut a s.heap h'->h'.get? a=some (bU iw (ep + 1) t')->Q () { s with heap:=h' }):wpAny (model prog w) A (storeSet a iw t') Q E s:=by
 refine wpAny_storeSet_of ho rfl (h _ (Heap.SameBut.update s.heap a (Obj.putSet iw t')) ?_) hz;have:=Heap.get?_update_self (Obj.putSet iw t') ho (by rw [putSet_of iw t' rfl];rfl);rw [putSet_of iw t' rfl] at this;exact this
theorem u5 {n m:Nat}(hm:Mask m)(lt:(n - 1) * 5 < m * 3)(n1:1<=n)(full:n * 5 ≥ m * 3)(jB:n<=4000):Mask (SetTable.sizeAbove (SetTable.grown n) - 1)/\n * 5 < (SetTable.sizeAbove (SetTable.grown n) - 1) * 3/\SetTable.sizeAbove (SetTable.grown n)<=8192:=by
 rcases hm with rfl | rfl | rfl | rfl | rfl | rfl
 ·have:n=5:=by omega
  subst this;exact ⟨.inr (.inl (by decide +kernel)),by decide +kernel,by decide +kernel⟩
 ·have:n=19:=by omega
  subst this;exact ⟨.inr (.inr (.inl (by decide +kernel))),by decide +kernel,by decide +kernel⟩
 ·have:n=77:=by omega
  subst this;exact ⟨.inr (.inr (.inr (.inl (by decide +kernel)))),by decide +kernel,by decide +kernel⟩
 ·have:n=307:=by omega
  subst this;exact ⟨.inr (.inr (.inr (.inr (.inl (by decide +kernel))))),by decide +kernel,by decide +kernel⟩
 ·have:n=1229:=by omega
  subst this;exact ⟨.inr (.inr (.inr (.inr (.inr (by decide +kernel))))),by decide +kernel,by decide +kernel⟩
 ·omega
theorem add {es:Array (Int×Value)}{ep:Nat}{t:SetTable}{ks:Nat->K}{kx:K}{c:Addr}{Q:Bool->Shared->Prop}(hr:knd.room A)(S:X0 knd s.heap a es ep t ks)(hx:knd.is s.heap kx c)(cl:Calm knd A s)(hb:tX knd)(jB:es.size < 4000)
  (qt:(∃ i,i < es.size/\ks i=kx)->Q false s)
  (qf:∀ (h':Heap) (iw:Array (Int×Value)) (UC:Nat) (t':SetTable),(∀ i,i < es.size->ks i≠kx)->Heap.SameBut a s.heap h'->h'.get? a=some (bU iw UC t')->Tab t' iw->iw.toList.Perm (es.toList++[(knd.hash kx,.ref c)])->Q true { s with heap:=h' }) :
  wpAny (model prog w) A (setAddHashed a (.ref c) (knd.hash kx)) Q E s:=by
 obtain ⟨N,n1,n2,n3⟩:=S.tab.first (knd.hash kx);have line:10000<=sizeLine:=by rw [sizeLine_eq];decide
 unfold setAddHashed setAddHashedIn;refine wpAny_holding (wpAny_bind (wpAny_setState_of S.obj rfl S.tab.fits ?_));dsimp only;rw [show byScan (.ref c) es=false from rfl];simp only [zg,if_false];refine wpAny_bind ?_;unfold setSearch;have lim:10 * (t.mask + 13) < 100000:=by
  rcases S.tab.mask with h | h | h | h | h | h <;> rw [h] <;> decide
 refine search hr S.obj rfl S.tab S.keys hx cl (λr h f=>?_) n2 n3 n1 (λnf=>?_) 100000 0 none (by omega) (zo _) rfl (λn' h=>absurd h (yO _))
 ·exact wpAny_pure (qt f)
 ·dsimp only;refine wpAny_bind (wpAny_setState_of S.obj rfl S.tab.fits ?_);dsimp only;have m7:7<=t.mask:=by rcases S.tab.mask with h | h | h | h | h | h <;> omega
  have lt:=S.tab.nt;have mQ:SetTable.tooFull=λt=>decide (t.fill * 5 ≥ t.mask * 3):=rfl;have tail:∀ tt,(∃ pl,tt={ (t.put (at' t.mask (knd.hash kx) N)).1 with plain:=pl })->wpAny (model prog w) A (do
    storeSet a (SetTable.insertAt es (t.put (at' t.mask (knd.hash kx) N)).2 (knd.hash kx,Value.ref c)) tt
    if (!false && tt.tooFull)=true then do
     setRelay a (SetTable.grown (es.size + 1))
     pure true
    else pure true) Q E s:=by
   rintro tt ⟨pl,rfl⟩;obtain ⟨pt,pd,pm,ps⟩:=S.tab.put (x:=Value.ref c) n2 n3 pl;have pp:=SetTable.insertAt_perm es (t.put (at' t.mask (knd.hash kx) N)).2 (knd.hash kx,Value.ref c);rw [Array.toList_push] at pp;have sz:(SetTable.insertAt es (t.put (at' t.mask (knd.hash kx) N)).2 (knd.hash kx,Value.ref c)).size=es.size + 1:=by
    have:=pp.length_eq;rw [Array.length_toList,zO,Array.length_toList,xA] at this;exact this
   generalize (t.put (at' t.mask (knd.hash kx) N)).1=T1 at pt pd pm ps ⊢;generalize SetTable.insertAt es (t.put (at' t.mask (knd.hash kx) N)).2 (knd.hash kx,Value.ref c)=RW at pt pp sz ⊢;have fit:({ T1 with plain:=pl }:SetTable).fits RW.size=true:=by
    unfold SetTable.fits SetTable.fill;dsimp only;rw [ps,pd,sz,pm];simp;omega
   refine wpAny_bind (store S.obj (by omega) λh' sb go=>?_);have full:({ T1 with plain:=pl }:SetTable).tooFull=decide ((es.size + 1) * 5 ≥ t.mask * 3):=by
    unfold SetTable.tooFull SetTable.fill;dsimp only;rw [ps,pd,pm];rfl
   rw [full];by_cases c:(es.size + 1) * 5 ≥ t.mask * 3
   ·rw [decide_eq_true c];simp only [yy,Bool.and_self,if_true];obtain ⟨gm,gl,gz⟩:=u5 S.tab.mask (by rw [Nat.add_sub_cancel];exact lt) (by omega) c (by omega);obtain ⟨t2,order,er,pr,T2⟩:=rJ (t:={ T1 with plain:=pl }) (es:=RW) rfl gm (by rw [sz];exact gl);refine wpAny_bind ?_;unfold setRelay;refine wpAny_bind (wpAny_setState_of (s:={ s with heap:=h' }) go rfl fit ?_);dsimp only;rw [if_neg (by omega)];refine wpAny_bind ?_;rw [er];show wpAny (model prog w) A (if ((order.filterMap (RW[·]?)).size != RW.size)=true then _ else _) _ _ _;have s2:(order.filterMap (RW[·]?)).size=RW.size:=by have:=pr.length_eq;rw [Array.length_toList,Array.length_toList] at this;exact this
    rw [if_neg (by rw [s2];simp)];refine wpAny_pure ?_;dsimp only;refine store (s:={ s with heap:=h' }) go (by rw [s2];omega) λh2 sb2 go2=>?_;exact wpAny_pure (qf h2 _ _ _ nf (sb.trans sb2) go2 T2 (pr.trans pp))
   ·rw [decide_eq_false c];simp only [yy,xP,zg,if_false];exact wpAny_pure (qf h' _ _ _ nf sb go (pt (by omega)) pp)
  split
  ·refine wpAny_bind (hb _ _ _ _ hx _ _ λv=>tail _ ?_);cases v with
   | true=>exact ⟨(t.put (at' t.mask (knd.hash kx) N)).1.plain,rfl⟩
   | false=>exact ⟨false,rfl⟩
  ·refine wpAny_bind (wpAny_pure (tail _ ⟨(t.put (at' t.mask (knd.hash kx) N)).1.plain,rfl⟩))
end
end di
namespace di
open PySem
section
variable {prog:Program}{w:World}{K:Type} [DecidableEq K] {knd:HeapKind prog w K}{A:Around}{E:Value->Shared->Prop}{s:Shared}{a:Addr}
end
section
variable {prog:Program}{w:World}{K:Type} [DecidableEq K] {knd:KeyKind prog w K}
theorem LQ {v:Value}(h:carriedByValue v=true)(n:Nat):ofAClassStatement n v=pure false:=by
 cases v with
 | ref a=>cases h
 | _=>cases n <;> rfl
theorem M3 {A:Around}{s:Shared}:Calm (tupleKind knd) A s:=by
 intro k b hk E Q q;have hT:s.TypeIs (.ref b) "tuple" := IsTupleKey.typeIs hk;obtain ⟨o,items,n,ho,hc,hd,hi⟩:=hk;unfold ofAClassStatement;refine wpAny_bind (wpAny_typeOf hT ?_);dsimp only;rw [if_pos (by decide)];refine wpAny_bind (wpAny_pure ?_);simp only [xW,zg,if_false];refine wpAny_bind (wpAny_seqItems ho hd ?_);dsimp only;refine wpAny_bind ?_;rw [<-Array.forIn_toList];refine wpAny_forIn_list _ (λrest r s'=>r.1=none/\s'=s/\∀ v∈rest,carriedByValue v=true) _ ?_ ?_ _ _ ⟨rfl,rfl,hi.byValue⟩
 ·rintro v rest r s' ⟨hr,rfl,fJ⟩;rw [LQ (fJ v za)];refine wpAny_bind (wpAny_pure ?_);simp only [zg,if_false];exact wpAny_pure ⟨rfl,rfl,λu hu=>fJ u (zU _ hu)⟩
 ·rintro ⟨r1,r2⟩ s' ⟨hr,rfl,_⟩;simp only at hr;subst hr;exact wpAny_pure q
theorem uD {v:Value}(h:carriedByValue v=true)(n:Nat):∃ c,hashByValue n v=pure c:=by
 cases v with
 | ref a=>cases h
 | _=>cases n <;> exact ⟨_,rfl⟩
theorem Lm:tX (tupleKind knd):=by
 intro A s k b hk E Q q;have hT:s.TypeIs (.ref b) "tuple" := IsTupleKey.typeIs hk;obtain ⟨o,items,n,ho,hc,hd,hi⟩:=hk;unfold hashByValue;refine wpAny_bind (wpAny_specialOf hT F.slot_tuple_hash.lookup ?_);dsimp only;refine wpAny_bind (wpAny_seqItems ho hd ?_);dsimp only [Option.getD];refine wpAny_bind ?_;rw [<-Array.forIn_toList];refine wpAny_forIn_list _ (λrest r s'=>r.1=none/\s'=s/\∀ v∈rest,carriedByValue v=true) _ ?_ ?_ _ _ ⟨rfl,rfl,hi.byValue⟩
 ·rintro v rest r s' ⟨hr,rfl,fJ⟩;obtain ⟨c,Xw⟩:=uD (fJ v za) 7;rw [Xw];refine wpAny_bind (wpAny_pure ?_);cases c with
  | true=>
   simp only [xW,zg,if_false];exact wpAny_pure ⟨rfl,rfl,λu hu=>fJ u (zU _ hu)⟩
  | false=>
   simp only [yy,if_true];exact wpAny_pure (wpAny_pure (q _))
 ·rintro ⟨r1,r2⟩ s' ⟨hr,rfl,_⟩;simp only at hr;subst hr;exact wpAny_pure (q _)
end
end di
namespace L2
open PySem PySem.Spec PyProof.Rows di
def Qm (P:Program)(w:World)(a:Addr)(xs:List (Addr×List Int)):HO:=.ext λh=>∃ es ep t,h.get? a=some (bU es ep t)/\Tab t es/\es.toList.Perm (xs.map λx=>(tupleKeyHash (cB P w) (x.2.map Sum.inl),Value.ref x.1))
section
variable {X:Cx}{ai:List (Addr×Obj)}{σ:St}{H:Hp}{s:Shared}{a:Addr}
theorem Ql {P:Program}{w:World}{H:Hp}{h:Heap}{xs:List (Addr×List Int)}{es:Array (Int×Value)}{ep:Nat}{t:SetTable}(ho:h.get? a=some (bU es ep t))(T:Tab t es)(pm:es.toList.Perm (xs.map λx=>(tupleKeyHash (cB P w) (x.2.map Sum.inl),Value.ref x.1))) :
  bD P w H h a (Qm P w a xs):=⟨⟨es,ep,t,ho,T,pm⟩,⟨_,ho⟩,λh1 h2 ⟨es,ep,t,ho,T,pm⟩ k=>⟨es,ep,t,k _ ho,T,pm⟩⟩
theorem Od (ks:List Int):ks.map V.int=(ks.map Sum.inl).map kV:=by rw [zp];rfl
end
end L2
namespace di
open PySem PySem.Spec
def Kp (h0 h:Heap):Prop:=∀ b o,h0.get? b=some o->h.get? b=some o
section
variable {prog:Program}{w:World}{K:Type} [DecidableEq K] [Inhabited K] {knd:HeapKind prog w K}
def Holds (knd:HeapKind prog w K)(h:Heap)(a:Addr)(xs:List (Addr×K)):Prop:=∃ es ep t,h.get? a=some (bU es ep t)/\Tab t es/\es.toList.Perm (xs.map λx=>(knd.hash x.2,Value.ref x.1))
theorem Holds.aap {h:Heap}{a:Addr}{xs:List (Addr×K)}(H:Holds knd h a xs)(hk:∀ x∈xs,knd.is h x.2 x.1):∃ es ep t ks,X0 knd h a es ep t ks/\es.toList.Perm (xs.map λx=>(knd.hash x.2,Value.ref x.1))/\es.size=xs.length/\∀ i,i < es.size->ks i∈xs.map (·.2):=by
 obtain ⟨es,ep,t,ho,T,pm⟩:=H;have ln:es.size=xs.length:=by have:=pm.length_eq;rw [Array.length_toList,zA] at this;exact this
 have pick:∀ i,∃ x:Addr×K,i < es.size->x∈xs/\es[i]?=some (knd.hash x.2,Value.ref x.1):=λi=>by
  by_cases hi:i < es.size
  ·have:=pm.mem_iff.mp (show es[i]∈es.toList from by simp);obtain ⟨x,hx,e⟩:=zd.mp this;exact ⟨x,λ_=>⟨hx,by rw [Array.getElem?_eq_getElem hi,<- e]⟩⟩
  ·exact ⟨(0,default),λz=>absurd z hi⟩
 refine ⟨es,ep,t,λi=>((pick i).choose).2,⟨ho,T,λi hi=>?_⟩,pm,ln,λi hi=>zd.mpr ⟨_,((pick i).choose_spec hi).1,rfl⟩⟩;obtain ⟨h1,h2⟩:=(pick i).choose_spec hi;exact ⟨_,Option.some.inj ((Array.getElem?_eq_getElem hi).symm.trans h2),hk _ h1⟩
theorem Holds.move {h h':Heap}{a:Addr}{xs:List (Addr×K)}(H:Holds knd h a xs)(k:∀ o,h.get? a=some o->h'.get? a=some o):Holds knd h' a xs:=by obtain ⟨es,ep,t,ho,T,pm⟩:=H;exact ⟨es,ep,t,k _ ho,T,pm⟩
section
variable {A:Around}{R:Result->Shared->Prop}{I:Addr}{fp wr:List Addr}{G:Array GenState->Array GenState->Prop}{n:Nat}{P:Nat->Value->Prop}{St:Nat->Shared->Prop} {h0:Heap}{xs:List (Addr×K)}
theorem loop (W:WalksS prog w A.in1 I fp wr G n P St)(S:Addr)(hSf:S ∉ fp)(hr:knd.room A.in1)(cl:∀ B (s':Shared),Calm knd B s')(hb:tX knd)(f0:h0.get? S=none)(f1:∀ b∈wr,h0.get? b=none)(WX:∀ h h' k b,Kp h h'->knd.is h k b->knd.is h' k b)
  (hn:xs.length=n) (jB:n < 4000) (nd:(xs.map (·.2)).Nodup) (hx:∀ x∈xs,knd.is h0 x.2 x.1) (hv:∀ i v,P i v->∃ x,xs[i]?=some x/\v=.ref x.1) :
  ∀ (k i:Nat) (s:Shared),n - i=k->i<=n->St i s->Kp h0 s.heap->Holds knd s.heap S (xs.take i) ->
   (∀ s',Moved (S::wr) G s s'->Holds knd s'.heap S xs->R (.ok (.ret .none)) s')->codeAny (model prog w) A (.builtin "set.update.loop" ⟨[.ref S,.ref I],[]⟩) R s:=by
 have hSw:S ∉ wr:=λh=>hSf (W.sub _ h);have sub:∀ b∈wr,b∈S::wr:=λb hb=>zU _ hb;intro k;induction k with
 | zero=>
  intro i s hk hi uU kp hS hR;obtain rfl:i=n:=by omega
  refine codeAny_builtin PyProof.Rows.F.entry_set_update_loop ?_;rw [Around.under_plainId PyProof.Rows.F.plain_set_update_loop _];show wpAny _ A.in1 (pyNext (.ref I) >>= _) _ _ s;refine wpAny_bind (W.done s _ _ uU λs' hm=>?_);show wpAny _ A.in1 (ret Value.none) _ _ s';rw [<-hn,zS] at hS;exact wpAny_pure (hR s' (hm.mono sub) (hS.move λo e=>hm.heap S o hSw e))
 | succ k ih=>
  intro i s hk hi uU kp hS hR;have lt:i < n:=by omega
  refine codeAny_builtin PyProof.Rows.F.entry_set_update_loop ?_;rw [Around.under_plainId PyProof.Rows.F.plain_set_update_loop _];show wpAny _ A.in1 (pyNext (.ref I) >>= _) _ _ s;refine wpAny_bind (W.item i s _ _ lt uU λv s' hP abZ hm=>?_);obtain ⟨x,hxi,rfl⟩:=hv i v hP;have kp':Kp h0 s'.heap:=λb o e=>hm.heap b o (λz=>by rw [f1 b z] at e;cases e) (kp b o e);have Us:Holds knd s'.heap S (xs.take i):=hS.move λo e=>hm.heap S o hSw e;have is':∀ y∈xs,knd.is s'.heap y.2 y.1:=λy hy=>WX _ _ _ _ kp' (hx y hy);obtain ⟨es,ep,t,ks,T,pm,ez,mem⟩:=Us.aap λy hy=>is' y (List.mem_of_mem_take hy);have hxm:=zB hxi;show wpAny _ A.in1 (holding [Value.ref x.1] (setAdd S (.ref x.1)) >>= _) _ _ s';refine wpAny_bind (wpAny_holding ?_);unfold setAdd;refine wpAny_holding ?_;refine wpAny_bind (knd.pyHash hr (is' x hxm) ?_);refine add (s:={ s' with toks:=s'.toks + knd.draws x.2 }) hr ⟨T.obj,T.tab,T.keys⟩ (is' x hxm) (cl _ _) hb (by rw [ez,zR];omega) (λf=>?_) (λh' iw UC t' nf sb go T' pm'=>?_)
  ·exfalso;obtain ⟨j,hj,e⟩:=f;have m1:=mem j hj;rw [e,List.map_take] at m1;obtain ⟨j',Mc⟩:=yA m1;rw [List.getElem?_take] at Mc;split at Mc
   ·rename_i lt';have e1:(xs.map (·.2))[i]?=some x.2:=by rw [zF,hxi];rfl
    have:=(List.getElem?_inj (zH.mp Mc).1 nd).mp (Mc.trans e1.symm);omega
   ·cases Mc
  ·have kp2:Kp h0 h':=λb o e=>by rw [sb.2 b (λz=>by rw [z,f0] at e;cases e)];exact kp' b o e
   refine wpAny_pure ⟨plainId_quiet PyProof.Rows.F.plain_set_update_loop _,ih (i + 1) _ (by omega) lt (W.frame _ s' _ _ abZ (xS _ _) λb oX o e=>?_) kp2 ⟨iw,UC,t',go,T',?_⟩ λVV ach acH=>?_⟩
   ·rw [sb.2 b (λz=>hSf (by rw [<-z];exact oX))];exact e
   ·rw [List.take_add_one,hxi,zD];exact pm'.trans (pm.append_right _)
   ·refine hR VV (Moved.trans W.gtrans ((hm.mono sub).then_heap (xS _ _) λb o oX e=>?_) ach) acH;rw [sb.2 b (λz=>oX (by rw [z];exact za))];exact e
end
section
variable {A:Around}{E:Value->Shared->Prop}{s:Shared}{xs:List (Addr×K)}
theorem Ss {l:Addr}{led:Bool}(hh:A.handled=none)(hl:s.heap.IsList l (xs.map λx=>Value.ref x.1).toArray)(Ou:(s.heap.push (bU #[] 0 (.fresh 0 0 led))).IsList l (xs.map λx=>Value.ref x.1).toArray)(lS:l < s.heap.objs.size)
  (hr:∀ B:Around,B.units<=A.units + 8->knd.room B) (cl:∀ B (s':Shared),Calm knd B s') (hb:tX knd) (WX:∀ h h' k b,Kp h h'->knd.is h k b->knd.is h' k b)
  (jB:xs.length < 4000) (nd:(xs.map (·.2)).Nodup) (hx:∀ x∈xs,knd.is s.heap x.2 x.1) {R:Result->Shared->Prop} (hR:∀ h' tk,Holds knd h' s.heap.objs.size xs->Kp s.heap h'->R (.ok (.ret .none)) { s with heap:=h',toks:=tk }) :
  codeAny (model prog w) A.in1.in1 (.builtin "set.update.loop" ⟨[.ref s.heap.objs.size,.ref (s.heap.push (bU #[] 0 (.fresh 0 0 led))).objs.size],[]⟩) R { s with heap:=(s.heap.push (bU #[] 0 (.fresh 0 0 led))).push { cls:=.type "list_iterator", data:=.fields #[.ref l,.int 0 0] } }:=by
 have sz:(s.heap.push (bU #[] 0 (.fresh 0 0 led))).objs.size=s.heap.objs.size + 1:=Heap.size_push _ _;have out:∀ b,s.heap.objs.size<=b->s.heap.get? b=none:=λb hb=>by
  cases e:s.heap.get? b with
  | none=>rfl
  | some o=>exact absurd (Heap.lt_size e) (Nat.not_lt.mpr hb)
 have hS:(s.heap.push (bU #[] 0 (.fresh 0 0 led))).get? s.heap.objs.size=some (bU #[] 0 (.fresh 0 0 led)):=Heap.get?_push_size _ rfl;refine loop (knd:=knd) (h0:=s.heap) (xs:=xs) ((Walks.list (by simp [hh]) _ l (by rw [sz];exact zW (yp lS)) _).toS) s.heap.objs.size (by rw [sz];simp only [zJ,zN,or_false,not_or];exact ⟨zW (xR _),yS lS⟩) (hr _ (by show A.units + 1 + 1 + 1<=_;omega)) cl hb (out _ (zI _)) (λb hb=>out _ (by rw [zK.mp hb,sz];omega)) WX (by simp) (by simpa using jB) nd hx (λi v hv=>?_) _ 0 _ rfl (zo _) ⟨⟨_,Heap.get?_push_size _ rfl,rfl,rfl⟩,Ou.push _⟩ (λb o e=>Heap.get?_push_of_some _ (Heap.get?_push_of_some _ e)) ⟨#[],0,_,Heap.get?_push_of_some _ hS,⟨.inl rfl,rfl,.nil,rfl,(λ_ z=>nomatch z),(by show 0 * 5 < 7 * 3;decide),λi hi=>absurd hi (yO _)⟩,.nil⟩ λs' hm Us=>?_
 ·have Oi:((xs.map λx=>Value.ref x.1).toArray)[i]?=some v:=hv;rw [List.getElem?_toArray,zF] at Oi;cases e:xs[i]? with
  | none=>rw [e] at Oi;cases Oi
  | some x=>rw [e] at Oi;exact ⟨x,rfl,(Option.some.inj Oi).symm⟩
 ·obtain ⟨h',g',d',tk',os'⟩:=s';have eg:g'=s.gens:=hm.gens;have ed:d'=s.drawn:=hm.drawn;have eo:os'=s.os:=hm.os;subst eg;subst ed;subst eo;refine hR h' tk' Us λb o e=>hm.heap b o (λz=>?_) (Heap.get?_push_of_some _ (Heap.get?_push_of_some _ e));have:=Heap.lt_size e;rw [sz] at z;simp only [zJ,zN,or_false] at z;rcases z with rfl | rfl
  ·exact yH _ this
  ·exact yH _ (Nat.lt_of_succ_lt this)
theorem newOf {l:Addr}{Q:Value->Shared->Prop}(hh:A.handled=none)(hl:s.heap.IsList l (xs.map λx=>Value.ref x.1).toArray)(hr:∀ B:Around,B.units<=A.units + 8->knd.room B)(cl:∀ B (s':Shared),Calm knd B s')(hb:tX knd)(WX:∀ h h' k b,Kp h h'->knd.is h k b->knd.is h' k b)
  (jB:xs.length < 4000) (nd:(xs.map (·.2)).Nodup) (hx:∀ x∈xs,knd.is s.heap x.2 x.1)
  (h:∀ (h':Heap) (tk:Nat),Holds knd h' s.heap.objs.size xs->Kp s.heap h'->Q (.ref s.heap.objs.size) { s with heap:=h',toks:=tk }) :
  wpAny (model prog w) A (call (.type "set") [.ref l]) Q E s:=by
 obtain ⟨c,tl,ahd⟩:=F.called_set.mro;have aeG:=F.called_set.made;have Ub:=F.called_set.sub;refine wpAny_call (codeAny_of_tree ?_);show wpAny _ _ (callAny (.type "set") _) _ _ _;refine wpAny_pure ⟨Code.quiet_builtin _ (by decide +kernel),codeAny_builtin F.entry_type_call ?_⟩;rw [Around.under_plain (weight_type_call_type "set" [.ref l] []) rfl];have h1:=F.called_set.notType;have h2:=F.called_set.canCreate;have hct:=F.typeCall_set_1 (.ref l);repeat (any_goals (first | assumption | wp_step))
 refine codeAny_mono (code_set_new_1 (.ref l) (E:=E) (Q₁:=λobj aP=>∃ led:Bool,obj=.ref s.heap.objs.size/\aP={ s with heap:=s.heap.push (bU #[] 0 (.fresh 0 0 led)) }) λled=>⟨led,rfl,rfl⟩) λr aP Xk=>?_;cases r with
 | error e=>exact Xk
 | ok fl=>
  cases fl with
  | ret obj=>
   obtain ⟨led,rfl,rfl⟩:=Xk;generalize mO:bU #[] 0 (.fresh 0 0 led)=ob;have hS:(s.heap.push ob).get? s.heap.objs.size=some ob:=Heap.get?_push_size _ (by rw [<-mO];rfl);have hT:Shared.TypeIs { s with heap:=s.heap.push ob } (.ref s.heap.objs.size) "set" := ⟨_,hS,by rw [<-mO];rfl⟩;have hli:=F.called_set.init.lookup;have hbi:=F.called_set.init.bind (.ref s.heap.objs.size);repeat (any_goals (first | assumption | wp_step))
   refine codeAny_mono (codeAny_call_builtin (R:=wants (λr fN=>r=.none/\∃ h' tk,fN={ s with heap:=h',toks:=tk }/\Holds knd h' s.heap.objs.size xs/\Kp s.heap h') E) F.called_set.init.plain F.entry_set_init (check_set_init_1 hT ?_)) λaaB fN Oo=>?_
   ·have Ou:(s.heap.push ob).IsList l (xs.map λx=>Value.ref x.1).toArray:=hl.push _;have YR:=hl;obtain ⟨⟨agc,V9,adR,Ti⟩,YR,YY,nl,hdl⟩:=YR;simp only at YY hdl;subst YY;subst hdl;have lS:l < s.heap.objs.size:=Heap.lt_size YR;have ab8:(s.heap.push ob).get? l=some { cls:=.type "list", dict:=V9,data:=.seq (xs.map λx=>Value.ref x.1).toArray nl,slots:=Ti }:=Heap.get?_push_of_some _ YR;have ag4:=F.sub_list_set;have ag5:=F.sub_list_frozenset;have RN:(Value.type "list" == Value.type "dict")=false:=by decide
    subst mO;unfold bU at hS hT Ou ab8 ⊢;unfold Builtin.«set.__init__» noKeywords Builtin.Frozenset.updateFrom;generalize hPI:pyIter=PI;wp_walk;subst hPI;refine wpAny_pyIter_list Ou ?_;refine wpAny_bind (wpAny_runValue ?_);refine Ss hh hl Ou lS hr cl hb WX jB nd hx λh' tk Us MK=>?_;show wpAny _ _ _ _ _ _;refine wpAny_pure ?_;show wpAny _ _ (ret Value.none) _ _ _;exact wpAny_pure ⟨rfl,h',tk,rfl,Us,MK⟩
   ·cases aaB with
    | error e=>exact Oo
    | ok XM=>
     cases XM with
     | ret r=>
      obtain ⟨rfl,h',tk,rfl,Us,MK⟩:=Oo;repeat (any_goals (first | assumption | wp_step))
      exact h _ _ Us MK
     | _=>exact Oo.elim
  | _=>exact Xk.elim
end
end
end di
namespace L2
open PySem PySem.Spec PyProof.Rows di
section
variable {X:Cx}{ai:List (Addr×Obj)}{σ:St}{H:Hp}{s:Shared}{a:Addr}
def S6 (K:PySem.W.Frag)(P:Program)(w:World):List V->Hp->VK->Prop:=λvs H Q=>∃ l xs,vs=[.ref l]/\H l=some (.lst (xs.map λx:Addr×List Int=>V.ref x.1))/\(∀ x∈xs,H x.1=some (.tup (x.2.map V.int)))/\xs.length < 4000/\(xs.map (·.2)).Nodup/\∀ p,H p=none->Q (.ref p) (upd H p (Qm P w p xs))
theorem LN {xs:List (Addr×List Int)}{aA:List Value}(r:Vals (xs.map λx=>V.ref x.1) aA):aA=xs.map λx=>Value.ref x.1:=by
 induction xs generalizing aA with
 | nil=>cases r;rfl
 | cons x xs ih=>
  cases r with
  | cons r1 r2=>cases r1;rw [zY,ih r2]
theorem vA (hc:X.calm=true)(hu:X.A.units + 64 < cLine):bZ X (.type "set") (S6 X.K X.prog X.w):=by
 intro ai s σ H xs us Q I r h;obtain ⟨l,xs,rfl,hl,hk,jB,nd,q⟩:=h;obtain ⟨u,rfl,ru⟩:=vals1 r;cases ru;obtain ⟨aA,r,pl,_⟩:=I.list (.inl (.inl hl));obtain rfl:=LN r;have inj:∀ {a b:List Int},a.map (Sum.inl:Int->Key)=b.map Sum.inl->a=b:=λ{a b} e=>List.map_inj_right (λx y z=>Sum.inl.inj z) |>.mp e;refine newOf (knd:=tupleKind (cB X.prog X.w)) (xs:=xs.map λx=>(x.1,x.2.map Sum.inl)) (I.ok.hd hc) ?_ (λB hB=>?_) (λ_ _=>M3) Lm (λh h' k b kp hi=>?_) (by simpa using jB) ?_ (λx hx=>?_) λh' tk hs kp=>?_
 ·have:=pl.isList;rw [zp];exact this
 ·show B.units < cLine;omega
 ·obtain ⟨o,items,n,ho,YY,hd,hi⟩:=hi;exact ⟨o,items,n,kp _ _ ho,YY,hd,hi⟩
 ·rw [zp];have:(xs.map ((λx:Addr×List Key=>x.2) ∘ λx=>(x.1,x.2.map Sum.inl)))=(xs.map (·.2)).map (λx=>x.map Sum.inl):=by rw [zp];rfl
  rw [this];exact List.Pairwise.map _ (λa b ne e=>ne (inj e)) nd
 ·obtain ⟨y,hy,rfl⟩:=zd.mp hx;exact TV I.bq (by rw [hk y hy,Od])
 ·obtain ⟨es,ep,t,ho,T,pm⟩:=hs;refine ⟨.ref s.heap.objs.size,_,I.laid (a:=s.heap.objs.size) (o:=Qm X.prog X.w s.heap.objs.size xs) (t':=tk) kp (zI _) ?_,rfl,q _ (I.bq.fresh (zI _))⟩;rw [zp] at pm;exact Ql ho T pm
theorem Mt:bZ X (.builtin "len") (λvs H Q=>∃ p xs,vs=[.ref p]/\H p=some (Qm X.prog X.w p xs)/\Q (.int xs.length) H):=by
 intro ai s σ H vs us Q I r h;obtain ⟨p,xs,rfl,hp,q⟩:=h;obtain ⟨u,rfl,ru⟩:=vals1 r;cases ru;obtain ⟨⟨es,ep,t,ho,T,pm⟩,_⟩:=I.bq p _ hp;have ln:es.size=xs.length:=by have:=pm.length_eq;rw [Array.length_toList,zA] at this;exact this
 have:es.size < 2 ^ 63:=Nat.lt_of_le_of_lt T.room (by rcases T.mask with h | h | h | h | h | h <;> rw [h] <;> decide);refine call_len_set ho ⟨rfl,rfl,rfl⟩ rfl T.fits (by omega) ⟨.int xs.length,H,I.tok _,⟨s.toks + 1,by rw [ln]⟩,q⟩
end
end L2
namespace L2
open PySem PySem.Spec PyProof.Rows
section
variable {X:Cx}
def oV:Option Int->V
 | none=>.cK
 | some i=>.int i
end
end L2
namespace Sm
open PySem L2 bw
theorem qO {H:Hp}{l:Addr}{xs:List V}(h:H l=some (.tup xs)):je H (.ref l)=some "tuple" := by simp only [je,h]
theorem cX {H H':Hp}{x:V}{t:String}(s:au H H')(h:je H x=some t):je H' x=some t:=by
 cases x with
 | ref a=>
  unfold je at h ⊢;dsimp only at h ⊢;cases e:H a with
  | none=>rw [e] at h;simp at h
  | some o=>rw [e] at h;rw [s a o e];exact h
 | _=>exact h
theorem qz {n k:Nat}(h:k < n):KW n (k:Int)=some k:=by unfold KW;rw [if_pos (by omega),if_pos (by omega)];simp
end Sm
namespace L2
open PySem PySem.Spec PyProof.Rows
theorem KC {α:Type}(l:List α):∀ n,n<=l.length->(List.range n).filterMap (λk=>l[k]?)=l.take n
 | 0,_=>by simp
 | n + 1,h=>by
  have hn:n < l.length:=h;rw [xL,List.filterMap_append,KC l n (by omega),List.take_add_one];simp [hn]
theorem sX {α β:Type}{f g:α->Option β}:∀ {l:List α},(∀ x∈l,f x=g x)->l.filterMap f=l.filterMap g
 | [],_=>rfl
 | x::l,h=>by
  rw [xF,xF,h x (.head _),sX λy hy=>h y (.tail _ hy)]
theorem Ny {α:Type}(l:List α):((List.range l.length).map λk:Nat=>((l.length:Int) - 1 + -1 * (k:Int)).toNat).filterMap (λj=>l.toArray[j]?)=l.reverse:=by
 rw [List.filterMap_map];have h:=KC l.reverse l.length (by simp);rw [show l.reverse.take l.length=l.reverse from by rw [<-List.length_reverse];exact zS] at h;rw [<-h];refine sX λk hk=>?_;have MK:=yG.mp hk;have e:((l.length:Int) - 1 + -1 * (k:Int)).toNat=l.length - 1 - k:=by omega
 show l.toArray[((l.length:Int) - 1 + -1 * (k:Int)).toNat]?=_;rw [e,List.getElem?_reverse MK];simp
theorem mJ (aA:List Value):slicePick aA.toArray none none (some (-1))=aA.reverse.toArray:=by
 unfold slicePick;have e:sliceBounds none none (some (-1)) aA.toArray.size=((aA.length:Int) - 1,-1,-1):=by
  unfold sliceBounds;simp
 rw [e];have r:sliceRange ((aA.length:Int) - 1) (-1) (-1)=(List.range aA.length).map λk:Nat=>((aA.length:Int) - 1 + -1 * (k:Int)).toNat:=by
  unfold sliceRange;have c:(if (-1:Int) > 0 then (if (aA.length:Int) - 1 < -1 then (-1 - ((aA.length:Int) - 1) + -1 - 1) / -1 else 0) else (if (aA.length:Int) - 1 > -1 then ((aA.length:Int) - 1 - -1 - -1 - 1) / (- -1) else 0))=(aA.length:Int):=by
   rw [if_neg (by decide)];have e1:(- -1:Int)=1:=by decide
   rw [e1,Int.ediv_one];split <;> omega
  simp only [c];simp
 rw [r];exact congrArg List.toArray (Ny aA)
section
variable {X:Cx}{e:Expr}{te:TE} {pos p2 p3 p4:Pos}{j:Nat}
def VD (K:PySem.W.Frag)(te:TE):TE:=fun σ H Q=>te σ H λx H1=>∃ a xs,x=.ref a/\aB K H1 a xs/\∀ p,H1 p=none->Q (.ref p) (upd H1 p (.lst xs.reverse))
theorem QA {K:PySem.W.Frag}(hK:X.K=K)(he:PE X e te):PE X (.Subscript e (.Slice none none (some (.UnaryOp .USub (.Constant (.int 1) j p4) p3)) p2) pos) (VD K te):=by subst hK;intro ai s σ H Q I h;refine Subscript_ (aR (he ai s σ H _ I h) λv s1 ⟨x,H1,I1,r1,q1⟩=>?_);have st:PO X (some (.UnaryOp .USub (.Constant (.int 1) j p4) p3)) (p7 (VC (rU λi=>.int (-i)) (tC (.int 1)))):=iN (KH nY xh);refine wpAny_Slice ?_;rw [evalPart_none];refine wpAny_pure (wpAny_pure ?_);refine aR (st ai s1 σ H1 (λo H'=>o=some (-1)/\H'=H1) I1 ⟨1,rfl,-1,rfl,rfl,rfl⟩) λvs s3 h3=>?_;obtain ⟨o,H',I3,ps,rfl,rfl⟩:=h3;have I4:Inv X ai σ H' { s3 with heap:=s3.heap.push { cls:=.type "slice", data:=.fields #[.none,.none,vs] } }:=I3.kept (t':=s3.toks) λb ob q=>Heap.get?_push_of_some _ q;obtain ⟨a,xs,rfl,hx,q⟩:=q1;cases r1;obtain ⟨aA,r,ht,hz⟩:=I4.list hx;have hlen:=r.length;show wpAny (model X.prog X.w) X.A (subscriptTail e (.Slice none none (some (.UnaryOp .USub (.Constant (.int 1) j p4) p3)) p2) (.ref a) (.ref s3.heap.objs.size)) (EP X ai σ Q) X.xe { s3 with heap:=s3.heap.push { cls:=.type "slice", data:=.fields #[.none,.none,vs] } };refine tail_any (ops:=[.ref a,.ref s3.heap.objs.size]) ht.isList.typeIs slot_list_getitem.lookup ?_ (by with_unfolding_all rfl);refine wpAny_getItem_list_slice ht.isList (Heap.IsSliceOf.new ..) .none .none ps (by simp) ?_ (by rw [zT] <;> omega);rw [mJ];refine ⟨.ref _,_,I4.laid (t':=s3.toks) (o:=.lst xs.reverse) (λb ob q=>Heap.get?_push_of_some _ q) (zI _) ?_,rfl,q _ (I4.bq.fresh (zI _))⟩;exact ⟨by rw [List.length_reverse];exact hz,_,0,r.reverse,Heap.get?_push_size _ rfl⟩
end
end L2
namespace Sm
open PySem L2 bw
abbrev Fn:=Nat->Option Int
def put (f:Fn)(k:Nat)(x:Option Int):Fn:=λi=>if i=k then x else f i
theorem ND {f:Fn}{k:Nat}{x:Option Int}:put f k x k=x:=by unfold put;rw [if_pos rfl]
theorem NF {f:Fn}{k i:Nat}{x:Option Int}(h:i≠k):put f k x i=f i:=by unfold put;rw [if_neg h]
def uP (k:Nat)(x:Int):Fn:=λi=>if i=k then some x else none
def below (o:Option Int)(t:Int):Bool:=match o with
 | some y=>decide (y < t)
 | none=>false
theorem Mu {o:Option Int}{t:Int}:below o t=true↔∃ y,o=some y/\y < t:=by cases o <;> simp [below]
def aac (o:Option Int)(t:Int):Bool:=match o with
 | some y=>decide (y<=t)
 | none=>false
structure W3 where
 g:Nat
 o:Nat
 t:Int
def two (m:M4):List W3:=[⟨m.lo.toNat,m.hi.toNat,m.t⟩,⟨m.hi.toNat,m.lo.toNat,m.t⟩]
def jH (ms:List M4):List W3:=ms.flatMap two
def lW (st:Fn)(x:W3):Fn:=if st x.o=none/\below (st x.g) x.t=true then put st x.o (some x.t) else st
def fwd (ms:List M4)(st:Fn):Fn:=(jH ms).foldl lW st
theorem vd {st:Fn}{x:W3}{i:Nat}{y:Int}(h:st i=some y):lW st x i=some y:=by
 unfold lW;split
 ·rename_i c;by_cases e:i=x.o
  ·rw [e,c.1] at h;cases h
  ·rw [NF e];exact h
 ·exact h
def rep (n:Nat)(f:Fn):List (Option Int):=(List.range n).map f
structure W4 where
 n:Nat
 w:W3
def W4.vs (x:W4):List V:=[.int x.n,.int x.w.g,.int x.w.o,.int x.w.t]
def gQ (ms:List M4):Nat->List W4
 | 0=>[]
 | i + 1=>gQ ms i++(match ms[i]? with
  | some m=>[⟨i,⟨m.lo.toNat,m.hi.toNat,m.t⟩⟩,⟨i,⟨m.hi.toNat,m.lo.toNat,m.t⟩⟩]
  | none=>[])
theorem kj {ms:List M4}{i:Nat}{m:M4}(h:ms[i]?=some m):gQ ms (i + 1)=gQ ms i++[⟨i,⟨m.lo.toNat,m.hi.toNat,m.t⟩⟩,⟨i,⟨m.hi.toNat,m.lo.toNat,m.t⟩⟩]:=by
 conv=>lhs;unfold gQ
 rw [h]
def Sz:Sp:=λvs H Q _=>∃ b af tr tm ps,vs=[.ref b]/\aY H b af tr tm ps/\Good af.length (ps.map (·.2))/\∀ l (ws:List (Addr×W4)) H',H l=none->au H H'->H' l=some (.lst (ws.map λa=>V.ref a.1))->(∀ a∈ws,H' a.1=some (.tup a.2.vs))->ws.map (·.2)=gQ (ps.map (·.2)) ps.length->Q (.ref l) H'
end Sm
namespace L2
open PySem PySem.Spec PyProof.Rows
section
variable {n:Nat}{caps:List Nat}{g:TG}{tc:TT}{te:TE}{σ:St}{H:Hp}{Qf:Addr->Hp->List V->Prop}
theorem cZ {lo:Int}{m:Nat}(Pv:Nat->St->List V->Hp->Prop)(h0:Pv 0 (dw n caps σ) [] H)(hn:m<=1000)(hl:∀ i τ acc H,Pv i τ acc H->acc.length<=i)
  (hs:∀ i τ acc H (C:St->List V->Hp->Prop),i < m->Pv i τ acc H->(∀ τ acc H,Pv (i + 1) τ acc H->C τ acc H)->g (.int (lo + i)) τ H fun bC H2=>tc bC H2 λb H3=>if b=true then te bC H3 λy H4=>C bC (acc++[y]) H4 else C bC acc H3)
  (hd:∀ τ acc H,Pv m τ acc H->∀ p,H p=none->Qf p H acc) :
  ∃ W:Nat->Nat->St->List V->Hp->Prop,(∃ m,W 0 m (dw n caps σ) [] H)/\∀ i m' τ acc H,W i m' τ acc H ->
   ((O8 lo m).stop i H/\acc.length<=sizeLine/\∀ p,H p=none->Qf p H acc) \/
   ((O8 lo m).go i H/\acc.length < sizeLine/\∀ x H',(O8 lo m).mF i H x H'->g x τ H' fun bC H2=>tc bC H2 λb H3=>if b=true then te bC H3 λy H4=>∃ Ww,Ww < m'/\W (i + 1) Ww bC (acc++[y]) H4 else ∃ Ww,Ww < m'/\W (i + 1) Ww bC acc H3):=
 i9 (J:=O8 lo m) Pv m h0 hn hl (λi τ acc H hi p=>hi) (fun τ acc H p=>zI _)
  (λi τ acc H C hi p c x H' y=>by obtain ⟨e1,e2⟩:=y;subst e1;subst e2;exact hs i τ acc _ C hi p c) hd
end
end L2
namespace Sm
open PySem L2 bw
def run (ws:List W3)(st:Fn):Fn:=ws.foldl lW st
theorem kM:∀ {ws:List W3}{st:Fn}{i:Nat}{y:Int},st i=some y->run ws st i=some y
 | [],_,_,_,h=>h
 | w::ws,st,i,y,h=>kM (ws:=ws) (vd h)
theorem rH:∀ {ws:List W3}{st:Fn}{i:Nat}{t:Int},run ws st i=some t->st i=none->∃ x∈ws,x.o=i/\x.t=t/\∃ y,run ws st x.g=some y/\y < t
 | [],st,i,t,h,h0=>by
  have:st i=some t:=h;rw [h0] at this;cases this
 | w::ws,st,i,t,h,h0=>by
  have h':run ws (lW st w) i=some t:=h;cases e:lW st w i with
  | none=>
   obtain ⟨x,hx,a,b,y,hy,lt⟩:=rH h' e;exact ⟨x,.tail _ hx,a,b,y,hy,lt⟩
  | some z=>
   have z':=kM (ws:=ws) e;rw [h'] at z';cases z';unfold lW at e;split at e
   ·rename_i c;by_cases io:i=w.o
    ·subst io;rw [ND] at e;cases e;obtain ⟨y,hy,lt⟩:=Mu.mp c.2;exact ⟨w,.head _,rfl,rfl,y,kM (ws:=w::ws) hy,lt⟩
    ·rw [NF io,h0] at e;cases e
   ·rw [h0] at e;cases e
end Sm
namespace L2
open PySem PySem.Spec PyProof.Rows
section
variable {X:Cx}{ai:List (Addr×Obj)}{σ:St}{H:Hp}{s:Shared}
theorem Inv.keptAll {m:Str->Option Value}{h':Heap}{tk:Nat}(I:Inv X ai σ H s)(F0:Fr X.base X.env.locals s.heap m)(F:Fr X.base X.env.locals h' m)
  (N:News X.base X.env.locals h' (gI X.base s.heap X.env.locals)):Inv X ai σ H { s with heap:=h',toks:=tk }:=by
 have keep:∀ b o,b≠X.env.locals->s.heap.get? b=some o->h'.get? b=some o:=λb o hb e=>by
  cases q:X.base.get? b with
  | some u=>
   have:=I.bk b u q;rw [e] at this;cases this;exact F.keep b _ q
  | none=>exact (N (b,o) (dG hb q e)).1
 refine I.step (g':=s.gens) (t':=tk) (d':=s.drawn) (ch:=[]) (λ_ z=>nomatch z) (λb o hb _ _ e _=>keep b o hb e) (λb o hb _ _ e _=>⟨o.slots,keep b o hb e⟩) (λb o _ e n=>n) (λb o _ e=>?_)
  (λb ys e=>e) (λb o u e=>e) (λb ps e=>⟨#[],by rw [e,Array.append_empty]⟩) (λm' hm=>?_) (λb u e=>?_) I.bare
 ·by_cases hb:b=X.env.locals
  ·obtain ⟨o',_,_,q,_⟩:=F.ns;exact ⟨o',by rw [hb];exact q⟩
  ·exact ⟨o,keep b o hb e⟩
 ·obtain ⟨o1,RW,ep1,e1,d1,k1,f1⟩:=hm;obtain ⟨o2,es2,ep2,e2,d2,k2,f2⟩:=F0.ns;rw [e1] at e2;cases e2;rw [d1] at d2;cases d2;obtain ⟨o3,es3,ep3,e3,d3,k3,f3⟩:=F.ns;exact ⟨o3,es3,ep3,e3,d3,k3,λname=>(f3 name).trans ((f2 name).symm.trans (f1 name))⟩
 ·refine (I.bq b u e).fP (λc v hc q=>keep c v (λz=>?_) q) (λc q=>q) λc ys q=>q;rcases hc with rfl | hc
  ·rw [z,I.free] at e;cases e
  ·rw [z,I.free] at hc;cases hc
theorem eG:∀ {bs:List Bool}{us:List Value},Vals (bs.map V.bl) us->LSm.BoolsAre us bs
 | [],us,r=>by cases r;exact .nil
 | b::bs,us,r=>by
  cases r with
  | cons x y=>
   cases x;exact .cons b (eG y)
theorem qp {K:PySem.W.Frag}(hK:X.K=K)(hc:X.calm=true):bZ X (.builtin "all") (λxs H Q=>∃ p,∃ bs:List Bool,xs=[.ref p]/\aB K H p (bs.map V.bl)/\Q (.bl (bs.all id)) H):=by subst hK;intro ai s σ H xs us Q I r h;obtain ⟨p,bs,rfl,hq,q⟩:=h;obtain ⟨u,rfl,rx⟩:=vals1 r;cases rx;obtain ⟨aA,r',pl,hz⟩:=I.list hq;obtain ⟨m,F⟩:=I.fr;exact LSm.all_bools F (kZ (g:=X.base) (h:=s.heap)) (I.ok.hd hc) pl.isList (eG r') λh' tk F' N'=>⟨.bl _,H,I.keptAll F F' N',rfl,q⟩
end
end L2
namespace Sm
open PySem L2 bw
def adj (ms:List M4)(n g o:Nat)(t:Int):Prop:=∃ m,ms[n]?=some m/\m.t=t/\((m.lo.toNat=g/\m.hi.toNat=o)\/(m.lo.toNat=o/\m.hi.toNat=g))
theorem ko {ms:List M4}:∀ {i:Nat}{x:W4},x∈gQ ms i->adj ms x.n x.w.g x.w.o x.w.t
 | 0,x,h=>by cases h
 | i + 1,x,h=>by
  unfold gQ at h;rcases zV.mp h with h | h
  ·exact ko h
  ·cases e:ms[i]? with
   | none=>rw [e] at h;cases h
   | some m=>
    rw [e] at h;simp only [zJ,zN,or_false] at h;rcases h with rfl | rfl
    ·exact ⟨m,e,rfl,.inl ⟨rfl,rfl⟩⟩
    ·exact ⟨m,e,rfl,.inr ⟨rfl,rfl⟩⟩
end Sm
namespace L2
open PySem PySem.Spec PyProof.Rows
section
variable {X:Cx}
theorem rT (hu:X.A.units + 64 < cLine):iD X (compareOp .Eq) (λx y H Q=>∃ a b xs,x=.ref a/\y=.ref b/\aB X.K H a xs/\aB X.K H b []/\Q (.bl xs.isEmpty) H):=by
 intro ai s σ H x y v u Q I rx ry h;obtain ⟨a,b,xs,rfl,rfl,ha,hb,q⟩:=h;cases rx;cases ry;obtain ⟨aA,r,p,_⟩:=I.list ha;obtain ⟨cG,r2,p2,_⟩:=I.list hb;cases r2;cases r with
 | nil=>exact SeqAt.RcAt.lists (e:=λ_=>true) p.isList p2.isList rfl (by omega) (λj h1=>absurd h1 (yO _)) _ _ _ _ ⟨.bl _,H,I,rfl,q⟩
 | cons r1 rr=>exact SeqAt.RcAt.lists_lengths p.isList p2.isList (by simp) (by omega) _ _ _ _ ⟨.bl _,H,I,rfl,q⟩
end
end L2
namespace Sm
open PySem L2 bw
end Sm
namespace L2
open PySem PySem.Spec PyProof.Rows
def Rh (K:PySem.W.Frag)(a b:Addr):It:=
 ⟨λi H=>∃ xs ys x y,aB K H a xs/\aB K H b ys/\xs[i]?=some x/\ys[i]?=some y,λi H v H'=>∃ p x y,H p=none/\v=.ref p/\H'=upd H p (.tup [x,y])/\∀ xs ys,aB K H a xs->aB K H b ys->xs[i]?=some x/\ys[i]?=some y,
  λi H=>∃ xs ys,aB K H a xs/\aB K H b ys/\(xs.length<=i\/ys.length<=i)⟩
theorem Lj {P:Program}{w:World}{K:PySem.W.Frag}{es:List Expr}{k:Nat}{pos:Pos}(l1 l2 z TI TO i1 i2:Addr)(ap:ZipApart z TI TO i1 i2 l1 l2) :
  Turn P w K (.Tuple es k pos) (Rh K l1 l2) [z,TI,TO,i1,i2] z (λi h=>IsZip h z TI TO .none/\IsPair h TI (.ref i1) (.ref i2)/\(∃ a b,IsPair h TO a b)/\h.IsListIter i1 l1 i/\h.IsListIter i2 l2 i) where
 mem:=by simp
 obj:=λi h st b hb=>by
  obtain ⟨hz,dQ,⟨a,c,fz⟩,⟨o1,g1,c1,d1⟩,⟨o2,g2,c2,d2⟩⟩:=st;simp only [zJ,zN,or_false] at hb;rcases hb with e | e | e | e | e <;> subst e
  ·exact ⟨_,hz,λv q=>nomatch q⟩
  ·exact ⟨_,dQ,λv q=>nomatch q⟩
  ·exact ⟨_,fz,λv q=>nomatch q⟩
  ·exact ⟨o1,g1,λv q=>by rw [d1] at q;cases q⟩
  ·exact ⟨o2,g2,λv q=>by rw [d2] at q;cases q⟩
 keep:=λi h h' st q=>by
  obtain ⟨hz,dQ,⟨a,c,fz⟩,⟨o1,g1,r1⟩,⟨o2,g2,r2⟩⟩:=st;exact ⟨q z (by simp) _ hz,q TI (by simp) _ dQ,⟨a,c,q TO (by simp) _ fz⟩,⟨o1,q i1 (by simp) o1 g1,r1⟩,⟨o2,q i2 (by simp) o2 g2,r2⟩⟩
 item:=by
  intro X hP hw hK hc i ai s σ H E I hf st hg;subst hP hw hK;obtain ⟨xs,ys,x,y,nE,nC,hx,hy⟩:=hg;obtain ⟨cQ,t6,p1,jx⟩:=I.list nE;obtain ⟨cG,tZ,p2,uT⟩:=I.list nC;obtain ⟨u,hu,ru⟩:=t6.get hx;obtain ⟨v,hv,rv⟩:=tZ.get hy;obtain ⟨hZ,dQ,⟨a0,c0,fz⟩,mD,jW⟩:=st;have fp:=λb hb=>hf b hb;have lt:∀ b,b∈[z,TI,TO,i1,i2]->b < s.heap.objs.size:=λb hb=>by
   simp only [zJ,zN,or_false] at hb;rcases hb with e | e | e | e | e <;> subst e
   ·exact Heap.lt_size hZ
   ·exact Heap.lt_size dQ
   ·exact Heap.lt_size fz
   ·exact let ⟨_,z,_⟩:=mD;Heap.lt_size z
   ·exact let ⟨_,z,_⟩:=jW;Heap.lt_size z
  refine wpAny_pyNext_zip_item ap hZ dQ fz mD jW p1.isList p2.isList (x:=u) (y:=v) (by simpa using hu) (by simpa using hv) λh1 XD OC acq acp hT Xi hk=>?_;refine ⟨_,rfl,?_⟩;refine wpAny_letOwnedTupleGo_zip XD λh2 XC lN=>?_;have cL:Heap.SameBut z h1 h2:=lN;have bu:∀ b o,b ∉ [z,TO,i1,i2]->s.heap.get? b=some o->h2.get? b=some o:=λb o hb q=>by
   simp only [zJ,zN,or_false,not_or] at hb;exact cL.extBut b o hb.1 (hk b o hb.1 hb.2.1 hb.2.2.1 hb.2.2.2 q)
  have OD:h2.get? s.heap.objs.size=some { cls:=.type "tuple", data:=.seq #[u,v] }:=cL.extBut _ _ (yS (lt z (by simp))) hT;have nT:H s.heap.objs.size=none:=I.bq.fresh (zI _);have sub:∀ b,b∈[z,TO,i1,i2]->b∈[z,TI,TO,i1,i2]:=λb hb=>by
   simp only [zJ,zN,or_false] at hb ⊢;rcases hb with e | e | e | e <;> simp [e]
  refine ⟨.ref s.heap.objs.size,upd H s.heap.objs.size (.tup [x,y]),?_,rfl,⟨_,x,y,nT,rfl,rfl,λys' zs' h1 h2=>by rw [I.fX h1 nE,I.fX h2 nC];exact ⟨hx,hy⟩⟩,⟨XC,?_,⟨u,v,?_⟩,?_,?_⟩,λb hb=>?_⟩
  ·refine Inv.step (s:=s) (h':=h2) (g':=s.gens) (d':=s.drawn) (t':=s.toks) (ch:=[z,TO,i1,i2]) I (λb hb=>?_) (λb o _ _ hb q _=>bu b o hb q) (λb o _ _ hb q _=>⟨o.slots,bu b o hb q⟩)
    (λb o _ q n=>by rw [xt (zW (Heap.lt_size q))];exact n) (λb o hb q=>⟨o,bu b o hb q⟩)
    (λb ys q=>by rw [xt (xk q nT)];exact q) (λb o v q=>by rw [xt (xk q nT)];exact q) (λb ps q=>⟨#[],by rw [xt (xk q nT),q];simp⟩)
    (λm hm=>by
     obtain ⟨o,iw,ep,q,r⟩:=hm;exact ⟨o,iw,ep,bu _ o (λhb=>(fp _ (sub _ hb)).2.1 rfl) q,r⟩) (λb v' q=>?_) I.bare
   ·obtain ⟨e0,e1,e2,e3,e4,e5⟩:=fp b (sub b hb);exact ⟨e3,e1,e4,e5⟩
   ·by_cases hb:b=s.heap.objs.size
    ·subst hb;rw [xj] at q;cases q;exact ⟨⟨by show 2<=sizeLine;rw [sizeLine_eq];decide,λob e=>by rw [OD] at e;cases e;rfl⟩,[u,v],.cons ru (.cons rv .nil),⟨_,OD,rfl,_,rfl⟩⟩
    ·rw [xt hb] at q;refine (I.bq b v' q).fP (λc ob hc qc=>bu c ob (λhb=>?_) qc) (λc qc=>by rw [xt (xk qc nT)];exact qc) λc ys qc=>by rw [xt (xk qc nT)];exact qc
     have e0:=(fp c (sub c hb)).1;rcases hc with z | z
     ·subst z;exact xk q e0 rfl
     ·exact xk z e0 rfl
  ·exact bu _ _ (by simp only [zJ,zN,or_false,not_or];exact ⟨ap.TIz,ap.TITO,ap.TIi1,ap.TIi2⟩) dQ
  ·exact cL.extBut _ _ ap.TOz OC
  ·obtain ⟨o,q,r⟩:=acq;exact ⟨o,cL.extBut i1 o ap.i1z q,r⟩
  ·obtain ⟨o,q,r⟩:=acp;exact ⟨o,cL.extBut i2 o ap.i2z q,r⟩
  ·rw [xt (zW (lt b hb))];exact (fp b hb).1
 done:=by
  intro X hP hw hK hc i ai s σ H E I hf st hg;subst hP hw hK;obtain ⟨xs,ys,nE,nC,hx⟩:=hg;obtain ⟨cQ,t6,p1,jx⟩:=I.list nE;obtain ⟨cG,tZ,p2,uT⟩:=I.list nC;obtain ⟨hZ,dQ,⟨a0,c0,fz⟩,mD,jW⟩:=st;have l1':=t6.length;have l2':=tZ.length;have sub:∀ b,b∈[z,TO,i1,i2]->b∈[z,TI,TO,i1,i2]:=λb hb=>by
   simp only [zJ,zN,or_false] at hb ⊢;rcases hb with e | e | e | e <;> simp [e]
  refine wpAny_pyNext_zip_end (I.ok.hd hc) ap hZ dQ fz mD jW p1.isList p2.isList (by
   rcases hx with h | h
   ·exact .inl (by simp;omega)
   ·exact .inr (by simp;omega)) λh' hk=>⟨rfl,?_⟩
  have bu:∀ b o,b ∉ [z,TO,i1,i2]->s.heap.get? b=some o->h'.get? b=some o:=λb o hb q=>by
   simp only [zJ,zN,or_false,not_or] at hb;exact hk b o hb.1 hb.2.1 hb.2.2.1 hb.2.2.2 q
  refine Inv.step (s:=s) (h':=h') (g':=s.gens) (d':=s.drawn) (t':=s.toks) (ch:=[z,TO,i1,i2]) I (λb hb=>?_) (λb o _ _ hb q _=>bu b o hb q) (λb o _ _ hb q _=>⟨o.slots,bu b o hb q⟩)
    (λb o _ q n=>n) (λb o hb q=>⟨o,bu b o hb q⟩)
    (λb ys q=>q) (λb o v q=>q) (λb ps q=>⟨#[],by rw [q];simp⟩)
    (λm hm=>by
     obtain ⟨o,iw,ep,q,r⟩:=hm;exact ⟨o,iw,ep,bu _ o (λhb=>(hf _ (sub _ hb)).2.1 rfl) q,r⟩) (λb v' q=>?_) I.bare
  ·obtain ⟨e0,e1,e2,e3,e4,e5⟩:=hf b (sub b hb);exact ⟨e3,e1,e4,e5⟩
  ·refine (I.bq b v' q).fP (λc ob hc qc=>bu c ob (λhb=>?_) qc) (λc qc=>qc) λc ys qc=>qc;have e0:=(hf c (sub c hb)).1;rcases hc with z | z
   ·subst z;exact xk q e0 rfl
   ·exact xk z e0 rfl
 self:=λ_ _ _ _ _ st h=>wpAny_pyIter_zip st.1 h
def Xa (K:PySem.W.Frag)(ta:TA):TI:=fun σ H R=>ta σ H λvs H1=>∃ a b,vs=[.ref a,.ref b]/\(∃ xs,aB K H1 a xs)/\(∃ ys,aB K H1 b ys)/\R (Rh K a b) H1
theorem qi {X:Cx}{a b:Expr}{ta:TA}{p pos uC:Pos}{es:List Expr}{k:Nat}{K:PySem.W.Frag}(hK:X.K=K)(hg:Gl X "zip")(hm:X.mg "zip" = none)(ha:PA X [a,b] ta)
  (hs:starEach [a,b] X.env=(false,eval a X.env)::starEach [b] X.env:=by rfl) (lN:starEach [b] X.env=[(false,eval b X.env)]:=by rfl) :
  PI X (.Tuple es k uC) (.Call (.Name "zip" p) [a,b] [] pos) (Xa K ta):=by
 subst hK;intro ai s σ H R I h;refine Call_ (fc I hg hm boot_zip (yM (aR (ha pos ai s σ H _ I h) λus s1 ⟨vs,H1,I1,r1,q1⟩=>?_) (by rw [hs,lN]) (by rw [lN];rfl)));obtain ⟨l1,l2,e,⟨xs,nE⟩,⟨ys,nC⟩,q⟩:=q1;subst e;cases r1 with
 | cons r rr=>
  cases rr with
  | cons r' rr=>
   cases rr;cases r;cases r';obtain ⟨cQ,t6,p1,jx⟩:=I1.list nE;obtain ⟨cG,tZ,p2,uT⟩:=I1.list nC;have QH:l1 < s1.heap.objs.size:=let ⟨_,z,_⟩:=p1.isList;Heap.lt_size z;have QG:l2 < s1.heap.objs.size:=let ⟨_,z,_⟩:=p2.isList;Heap.lt_size z;refine call_zip_2 p1.isList p2.isList λh' hZ dQ fz mD jW Xi hk=>?_;refine wpAny_pyIter_zip hZ ?_;have I2:Inv X ai σ H1 { s1 with heap:=h' }:=I1.kept (t':=s1.toks) hk;refine ⟨s1.heap.objs.size + 4,[s1.heap.objs.size + 4,s1.heap.objs.size + 2,s1.heap.objs.size + 3,s1.heap.objs.size,s1.heap.objs.size + 1],_,_,H1,rfl,I2,Lj l1 l2 _ _ _ _ _ (zipApart_new QH QG),⟨hZ,dQ,⟨_,_,fz⟩,mD,jW⟩,λb hb=>?_,q⟩;have oX:s1.heap.objs.size<=b:=by
    simp only [zJ,zN,or_false] at hb;rcases hb with e | e | e | e | e <;> rw [e] <;> first | exact zI _ | exact xS _ _
   exact I1.oY oX (I1.bq.fresh oX)
theorem cI {K:PySem.W.Frag}{a b:Addr}{xs ys:List V}{g:TG}{tb:TS}{D:Ends}{σ:St}{H:Hp}(el:xs.length=ys.length)(Pv:Nat->St->Hp->Prop)(h0:Pv 0 σ H)(hl:∀ i σ H,i<=xs.length->Pv i σ H->aB K H a xs/\aB K H b ys)
  (hs:∀ i x y q σ H,xs[i]?=some x->ys[i]?=some y->H q=none->Pv i σ H->g (.ref q) σ (upd H q (.tup [x,y])) fun jR H2=>tb (D.lp (Pv (i + 1))) jR H2) (hd:∀ σ H,Pv xs.length σ H->D.nx σ H) :
  ∃ W:Nat->Nat->St->Hp->Prop,(∃ m,W 0 m σ H)/\∀ i m σ H,W i m σ H ->
   ((Rh K a b).stop i H/\D.nx σ H)\/((Rh K a b).go i H/\∃ N:St->Hp->Prop,(∀ bM H',N bM H'->∃ m',m' < m/\W (i + 1) m' bM H')/\∀ x H',(Rh K a b).mF i H x H'->g x σ H' fun jR H2=>tb (D.lp N) jR H2):=by
 refine ⟨λi m σ H=>m=xs.length - i/\i<=xs.length/\Pv i σ H,⟨xs.length,by simp,zo _,h0⟩,?_⟩;rintro i m σ H ⟨rfl,hi,p⟩;obtain ⟨q1,q2⟩:=hl i σ H hi p;by_cases dB:i < xs.length
 ·refine .inr ⟨⟨xs,ys,xs[i],ys[i]'(by omega),q1,q2,by simp [dB],by simp [<-el,dB]⟩,Pv (i + 1),fun bM H' p'=>⟨xs.length - (i + 1),by omega,rfl,dB,p'⟩,λx H' y=>?_⟩;obtain ⟨q',x',y',hq,e1,e2,y⟩:=y;subst e1;subst e2;exact hs i x' y' q' σ _ (y xs ys q1 q2).1 (y xs ys q1 q2).2 hq p
 ·have e:i=xs.length:=by omega
  subst e;exact .inl ⟨⟨xs,ys,q1,q2,.inl (zI _)⟩,hd σ H p⟩
end L2
namespace Sm
open PySem L2 bw
theorem OT (xs:List V)(k:Nat):jX xs (some (k:Int)) none=xs.drop k:=by
 unfold jX;rw [HT.oE];show (xs.drop (min k xs.length)).take (xs.length - min k xs.length)=xs.drop k;by_cases h:k<=xs.length
 ·rw [Nat.min_eq_left h,List.take_of_length_le (by rw [yh];exact zI _)]
 ·rw [Nat.min_eq_right (by omega),List.drop_eq_nil_of_le (by omega),List.drop_eq_nil_of_le (by omega),List.take_nil]
end Sm
namespace L2
open PySem
theorem jv {c:Bool}{A:Prop}{D:Ends}{σ:St}{H:Hp}(Pre:St->Hp->Prop)(k:∀ σ H,Pre σ H->D.nx σ H)(h1:c=true->(∀ σ H,Pre σ H->D.nx σ H)->A)(h2:c=false->Pre σ H):if c=true then A else kC D σ H:=by
 cases c with
 | true=>exact h1 rfl k
 | false=>exact k _ _ (h2 rfl)
end L2
namespace Sm
open PySem L2 bw
theorem Go.free {p l:Addr}{H H':Hp}(g:Go p H H')(h:H' l=none)(np:l≠p):H l=none:=by
 cases e:H l with
 | none=>rfl
 | some u=>rw [g.1 l u np e] at h;cases h
def WW (row F:Fn)(x:W3):Fn:=if below (row x.g) x.t=true/\aac (F x.o) x.t=false then put F x.o (some x.t) else F
def jac (ws:List W3)(row:Fn):Fn:=ws.foldl (WW row) row
def L6 (ws:List W3)(row:Fn):Nat->Fn
 | 0=>row
 | k + 1=>jac ws (L6 ws row k)
def rk (ws:List W3):Option Int->Nat
 | none=>ws.length + 1
 | some y=>ws.countP λx=>decide (x.t < y)
structure Rows (H0 H:Hp) (ms:List M4) (n k:Nat) (x:Int) (as:List Addr):Prop where
 pos:as≠[]
 jB:as.length<=200000
 at':∀ (i:Nat) (a:Addr),as[i]?=some a->H0 a=none/\H a=some (.lst ((rep n (L6 (jH ms) (uP k x) i)).map oV))
 ne:∀ i,i + 1 < as.length->rep n (L6 (jH ms) (uP k x) (i + 1))≠rep n (L6 (jH ms) (uP k x) i)
 last:rep n (L6 (jH ms) (uP k x) as.length)=rep n (L6 (jH ms) (uP k x) (as.length - 1))
end Sm
namespace L2
open PySem PySem.Spec PyProof.Rows
section
variable {K:PySem.W.Frag}{a:Addr}{xs:List V}{n:Nat}{caps:List Nat}{g:TG}{tc:TT}{te:TE}{σ:St}{H:Hp}{Qf:Addr->Hp->List V->Prop}
end
end L2
namespace Sm
open PySem L2 bw
end Sm
namespace Sm
open PySem L2
end Sm
namespace Sm
open PySem L2 bw
theorem Q9 (xs:List V)(i:Nat)(h:i < xs.length):jX xs (some 1) (some ((i:Int) + 1))=(xs.drop 1).take i:=by
 have e:((i:Int) + 1)=((i + 1:Nat):Int):=by omega
 rw [e,show (some (1:Int))=some ((1:Nat):Int) from rfl];unfold jX;rw [HT.oE,HT.oE];show (xs.drop (min 1 xs.length)).take (min (i + 1) xs.length - min 1 xs.length)=_;rw [Nat.min_eq_left (by omega),Nat.min_eq_left (by omega),Nat.add_sub_cancel]
def again (ms:List M4)(day first:Int):Nat->List M4
 | 0=>[]
 | r + 1=>again ms day first r++ms.map (M4.iT ((first + r) * day))
end Sm
namespace L2
open PySem PySem.Spec PyProof.Rows
section
variable {X:Cx}{tg:Expr}
end
section
variable {X:Cx}
theorem tG {K:PySem.W.Frag}(hK:X.K=K)(hc:X.calm=true):bZ X (.builtin "any") (λxs H Q=>∃ p,∃ bs:List Bool,xs=[.ref p]/\aB K H p (bs.map V.bl)/\Q (.bl (bs.any id)) H):=by subst hK;intro ai s σ H xs us Q I r h;obtain ⟨p,bs,rfl,hq,q⟩:=h;obtain ⟨u,rfl,rx⟩:=vals1 r;cases rx;obtain ⟨aA,r',pl,hz⟩:=I.list hq;obtain ⟨m,F⟩:=I.fr;exact LSm.any_bools F (kZ (g:=X.base) (h:=s.heap)) (I.ok.hd hc) pl.isList (eG r') λh' tk F' N'=>⟨.bl _,H,I.keptAll F F' N',rfl,q⟩
end
end L2
namespace HT
open PySem PySem.Spec PyProof.Rows
section
variable {prog:Program}{w:World}{A:Around}{E:Value->Shared->Prop}{s:Shared}
end
end HT
namespace L2
open PySem PySem.Spec PyProof.Rows
section
variable {X:Cx}
end
section
variable {X:Cx}
theorem nB:∀ {ns:List Int}{aA:List Value},Vals (ns.map V.int) aA->∃ xs:List (Int×Tok),aA=xs.map (λp=>Value.int p.1 p.2)/\xs.map (·.1)=ns
 | [],_,r=>by cases r;exact ⟨[],rfl,rfl⟩
 | n::ns,_,r=>by
  cases r with
  | cons r1 rr=>
   obtain ⟨t,rfl⟩:=r1;obtain ⟨xs,rfl,e⟩:=nB rr;exact ⟨(n,t)::xs,rfl,by rw [zY,e]⟩
end
end L2
namespace Sm
open PySem L2 bw
def mx:Option Int->Option Int->Option Int
 | none,b=>b
 | some a,none=>some a
 | some a,some b=>some (if b > a then b else a)
theorem ahead {n:Nat}{ms:List M4}{m:M4}(g:Good n (ms++[m])){v:Nat}{x y:Int}{i:Nat}(hi:i≠v)(h:fwd ms (uP v x) i=some y):y<=m.t/\((i=m.lo.toNat\/i=m.hi.toNat)->y < m.t):=by
 obtain ⟨a,ha,ao,at',_⟩:=rH (ws:=jH ms) h (by simp [uP,hi]);unfold jH at ha;obtain ⟨c,hc,hx⟩:=List.mem_flatMap.mp ha;have od:=(List.pairwise_append.mp g.order).2.2 c hc m (by simp);obtain ⟨c1,c2,c3,_⟩:=g.each c (by simp [hc]);obtain ⟨m1,m2,m3,_⟩:=g.each m (by simp);unfold two at hx;simp only [zJ,zN,or_false] at hx;have ct:c.t=y:=by rcases hx with rfl | rfl <;> exact at'
 have ci:i=c.lo.toNat\/i=c.hi.toNat:=by
  rcases hx with rfl | rfl
  ·exact .inr ao.symm
  ·exact .inl ao.symm
 refine ⟨by rcases od with h | h <;> omega,λhm=>?_⟩;rcases od with h | ⟨h1,h2,h3,h4,h5,h6⟩
 ·omega
 ·exfalso;rcases ci with e | e <;> rcases hm with e' | e' <;> omega
end Sm
namespace L2
open PySem PySem.Spec PyProof.Rows
section
variable {X:Cx}{ai:List (Addr×Obj)}{σ:St}{H:Hp}{s:Shared}
theorem qb {ix:Nat}{xn:Str}{pos' Nh:Pos}{own:List Str}{caps:List Nat}{elt tg iter:Expr}{ifs:List Expr}{scope:Scope}{pos:Pos}{wi:TI}{g:TG}{tc:TT}{te:TE}(hN:X.N.Nodup)(hix:X.N[ix]?=some xn)(T9:uQ X.env.scope xn=true)(hc:X.calm=true)(S:ay own caps X.N X.env.scope scope)(hi:PI X tg iter wi)
  (hg:∀ s H fp C,PG (bQ X own caps scope s H fp C) tg g) (ht:∀ s H fp C,UQ (bQ X own caps scope s H fp C) ifs tc) (he:∀ s H fp C,PE (bQ X own caps scope s H fp C) elt te)
  (hs:∀ x,foldedSetIterable iter X.env x=pure x:=by intro _;rfl) (hsw:swapsWith (.ListComp elt [⟨tg,iter,ifs,0⟩] scope pos) (some (.Name xn pos')) Nh.line X.env=pure true:=by rfl)
  (hf:iY X xn=true:=by rfl) :
  PS X (.Assign [.Name xn pos'] (.ListComp elt [⟨tg,iter,ifs,0⟩] scope pos) Nh) (uf (Nc own.length caps wi g tc te) (iW ix)):=by
 have T9:=iS T9;intro ai s σ H D0 I h;rw [exec_Assign_Name_used _ _ _ _ hsw,arm_evalThenUse_ListComp]
 suffices main:wpAny (model X.prog X.w) X.A (comprehension (.ListComp elt [⟨tg,iter,ifs,0⟩] scope pos) scope X.env (firstIterPos [⟨tg,iter,ifs,0⟩] pos) (newList []) false (eval iter X.env) (some (assign (.Name xn pos') X.env))) (λ_ s1=>SP X ai D0 .next s1) X.xe s from
  wpAny_bind (wpAny_standAt (wpAny_bind (wpAny_bind (wpAny_mono main (λ_ s1 h=>wpAny_pure (wpAny_pure h)) λ_ _ e=>e))))
 refine wpAny_comprehension_free (use:=some _) (cl:=dR scope.names X.env []) rfl hs (cD λy hy e=>I.ok.has y.1 (S.fr y hy e)) S.kind S.loc
  (wpAny_mono (hi ai s σ H _ I h) (λv s1 h1=>aR h1 λVg s2 h2=>?_) λ_ _ e=>e)
 obtain ⟨it,fp,tn,J,H2,e,I2,T,Lx,f2,W,⟨m0,w0⟩,turn⟩:=h2;subst e;refine wpAny_newObj_type (wpAny_newFunctionEnv S.kY (by intro y hy;simp at hy) (λbK bT bF=>?_) S.kind);dsimp only at bT bF ⊢;generalize u0:s2.heap.push { cls:=.type "list", dict:=none,data:=.seq ([]:List Value).toArray }=G at bT bF ⊢;have hG:G.objs.size=s2.heap.objs.size + 1:=by rw [<-u0,Heap.size_push]
 have pO:s2.heap.objs.size≠G.objs.size:=by rw [hG];exact zW (xR _)
 have lR:s2.heap.objs.size<=G.objs.size:=by rw [hG];exact xY _
 have below:∀ b,b < s2.heap.objs.size->b≠G.objs.size:=λb hb=>by rw [hG];exact zW (yp hb)
 have old:∀ b o,s2.heap.get? b=some o->bK.get? b=some o:=λb o e=>bF.extBut b o (below b (Heap.lt_size e)) (Heap.get?_push_of_some _ (u0 ▸ Heap.get?_push_of_some _ e));have lQ:bK.get? s2.heap.objs.size=some { cls:=.type "list", dict:=none,data:=.seq ([]:List Value).toArray }:=bF.extBut _ _ pO (Heap.get?_push_of_some _ (u0 ▸ Heap.get?_push_size _ rfl));have fl:∀ b∈fp,b < s2.heap.objs.size:=λb hb=>let ⟨o,e,_⟩:=T.obj _ _ Lx b hb;Heap.lt_size e;have fu:bK.Ns G.objs.size λ_=>none:=bT;have I4:=lI (tk:=s2.toks + ([]:List (Str×Value)).length) I2 S f2 fl (zI _) lR pO old fu lQ (λv z=>nomatch z);have uh:tn 0 bK:=T.keep _ _ _ Lx λb _ o e=>old b o e;generalize Uc:({ s2 with heap:=bK,toks:=s2.toks + ([]:List (Str×Value)).length }:Shared)=s4 at I4 ⊢;have e4:s4.heap=bK:=by rw [<-Uc]
 rw [<-e4] at uh
 -- pX loop
 have loop:codeAny (model X.prog X.w) X.A (.compLoop (.ListComp elt [⟨tg,iter,ifs,0⟩] scope pos) 0 (.ref it) (.ref s2.heap.objs.size) (compEnvC scope (dR scope.names X.env []) G.objs.size X.env))
   (compPost (model X.prog X.w) X.A X.xe (some (assign (.Name xn pos') X.env)) (λ_ s1=>SP X ai D0 .next s1) (.ref s2.heap.objs.size) G.objs.size) s4:=by
  let Y:=bQ X own caps scope s2 H2 fp G.objs.size
  have eV:∀ {H':Hp}{aA:List Value}{n:Nat},(∀ b∈fp,H' b=none)->∀ b∈fp,iE Y [(s2.heap.objs.size,({ cls:=.type "list", data:=.seq aA.toArray n }:Obj))] H' b:=λ{H' aA n} hn b hb=>by
   refine ⟨hn b hb,below b (fl b hb),λz=>?_,.inl hb,λx c e=>(f2 b hb).2.2.2.2.1 x c (wf e),λp hp=>?_⟩
   ·rcases zJ.mp (I2.dN b z) with e | e
    ·exact (f2 b hb).2.1 e
    ·exact (f2 b hb).2.2.1 e
   ·have e:p=(s2.heap.objs.size,({ cls:=.type "list", data:=.seq aA.toArray n }:Obj)):=by simpa using (show p∈[]++[_] from hp)
    subst e;exact yS (fl b hb)
  refine ju (λn s'=>∃ i τ acc aA k H',Inv Y [(s2.heap.objs.size,({ cls:=.type "list", data:=.seq aA.toArray k }:Obj))] τ H' s'/\tn i s'.heap/\(∀ b∈fp,H' b=none)/\Vals acc aA/\W i n τ acc H') ?_ m0
   ⟨0,_,[],[],0,H2,I4,uh,λb hb=>(f2 b hb).1,.nil,w0⟩
  rintro n s5 ⟨i,τ,acc,aA,k,H5,I5,ug,Mj,pM,w5⟩;rcases turn i n τ acc H5 w5 with ⟨stop,hz,q⟩ | ⟨go,hz,step⟩
  ·refine aR (T.done Y rfl rfl rfl hc i _ s5 τ H5 (λ_ _=>False) I5 (eV Mj) ug stop) λr s6 ⟨hr,I6⟩=>?_;subst hr;obtain ⟨eD,nD,_,_,_⟩:=I6.pin _ (zE _ (zK.mpr rfl));obtain ⟨m6,Uh,_⟩:=I6.loc;have QX:H5 G.objs.size=none:=I6.free;have uW:gY X.prog X.w H5 s6.heap:=I6.bq;have ub:=I6.base;have IX:Inv X ai σ (upd H5 s2.heap.objs.size (.lst acc)) s6:=by
    refine I2.Lb (ch:=fp) (s':=s6) I6.os ⟨λb o e n' hb hx=>ub.keep b o e n' hb hx,λb o e n' hb hx=>?_,λb o e n' hx=>?_,λb o e hx=>?_,λb xs e=>?_,λb o u e=>?_,λb ps e=>?_⟩
     (uW.vN nD ⟨hz,aA,k,pM,eD⟩) I6.bare λb hb=>⟨(f2 b hb).2.2.2.1,(f2 b hb).2.1,(f2 b hb).2.2.2.2.1,(f2 b hb).2.2.2.2.2⟩
    ·exact ub.slot b o e n' hb hx
    ·rw [xt (zW (Heap.lt_size e))];exact ub.free b o e n' hx
    ·exact ub.there b o e hx
    ·have z:=ub.aZ b xs e;rw [xt (xk z nD)];exact z
    ·have z:=ub.jz b o u e;rw [xt (xk z nD)];exact z
    ·obtain ⟨more,z⟩:=ub.jT b ps e;exact ⟨more,by rw [xt (xk z nD)];exact z⟩
   have Ut:(upd H5 s2.heap.objs.size (.lst acc)) G.objs.size=none:=by rw [xt (Ne.symm pO)];exact QX
   have fC:iE X ai (upd H5 s2.heap.objs.size (.lst acc)) G.objs.size:=I2.oY lR Ut;obtain ⟨oC,esC,epC,gC,dC,rC⟩:=Uh;have IP:=IX.pinned (fp:=[G.objs.size]) (λb hb=>by cases zK.mp hb;exact fC) (λb hb=>by cases zK.mp hb;exact ⟨oC,gC,λv z=>by rw [dC] at z;cases z⟩);refine wpAny_assign_Name (fO IP hN hix T9 (v:=.ref s2.heap.objs.size) rfl (λs7 I7=>?_) hf);have pC:=(I7.pin (G.objs.size,oC) (zE _ (zE _ (wa (zK.mpr rfl) gC)))).1;refine ⟨m6,⟨oC,esC,epC,pC,dC,rC⟩,λh' uV=>?_⟩;have I8:Inv X ai (σ.set ix (some (.ref s2.heap.objs.size))) (upd H5 s2.heap.objs.size (.lst acc)) { s7 with heap:=h' }:=I7.bN.turned (t':=s7.toks) (λb o hb e=>uV.extBut b o hb e) fC.1 fC.2.1 fC.2.2.2.1 fC.2.2.2.2.1 fC.2.2.2.2.2;exact ⟨_,_,I8,q _ nD⟩
  ·refine aR (T.item Y rfl rfl rfl hc i _ s5 τ H5 (λ_ _=>False) I5 (eV Mj) ug go) λr s6 ⟨u,hr,h6⟩=>?_;subst hr;refine aR h6 λ_ s7 ⟨x,H7,I7,r7,y7,rz,Ux⟩=>?_;have UY:=I7.pinned (eV Ux) (T.obj _ _ rz);refine aR (hg s2 H2 fp G.objs.size _ s7 τ H7 x u _ UY r7 (step x H7 y7)) λ_ s8 ⟨mj,H8,I8,q8⟩=>?_;refine aR (ht s2 H2 fp G.objs.size _ s8 mj H8 _ I8 q8) λok s9 ⟨H9,I9,q9⟩=>?_
   -- pX fk state behind pX turn
   have back:∀ {s':Shared}{vK:St}{H':Hp},Inv Y ([(s2.heap.objs.size,({ cls:=.type "list", data:=.seq aA.toArray k }:Obj))]++b8 fp s7.heap) vK H' s'->(tn (i + 1) s'.heap/\∀ b∈fp,H' b=none):=λ{s' vK H'} Ib=>
    ⟨T.keep _ _ _ rz λb hb o e=>(Ib.pin (b,o) (zE _ (zE _ (wa hb e)))).1,λb hb=>by
     obtain ⟨o,e,d⟩:=T.obj _ _ rz b hb;exact (Ib.pin (b,o) (zE _ (zE _ (wa hb e)))).2.1⟩
   cases ok with
   | false=>
    obtain ⟨m',lO,w'⟩:=q9;obtain ⟨sb,fb⟩:=back I9;exact ⟨m',lO,i + 1,mj,acc,aA,k,H9,I9.bN,sb,fb,pM,w'⟩
   | true=>
    refine aR (he s2 H2 fp G.objs.size _ s9 mj H9 _ I9 q9) λy iK ⟨yv,gO,Pa,V5,S8⟩=>?_;obtain ⟨m',lO,w'⟩:=S8;obtain ⟨sb,fb⟩:=back Pa;obtain ⟨eD,nD,LV,Tu,_⟩:=Pa.pin (s2.heap.objs.size,_) (zE _ (yD _ (zK.mpr rfl)));have hl:acc.length=aA.length:=pM.length;refine call_meets F.slot_list_append ⟨_,eD,rfl⟩ F.entry_list_append (F.args_list_append_2 _ _) (xN s2.heap.objs.size aA.toArray k y (by rw [zT];omega)) ⟨eD,?_⟩;have q:=PySem.IsL.update eD (λa:Array Value=>a.push y);have Iu:Inv Y [] mj gO iK:=Pa.cA λp hp=>nomatch hp;have It:=Iu.turned (t':=iK.toks) (it:=s2.heap.objs.size) (h':=iK.heap.update s2.heap.objs.size (Obj.mapSeq (λa:Array Value=>a.push y))) (λb o hb e=>(Heap.get?_update_other iK.heap _ (Ne.symm hb)).trans e) nD LV (.inr (zI _))
     (λx c e z=>by
      obtain ⟨v,ob,mO,_⟩:=I2.cell x c (wf e);exact absurd (Heap.lt_size mO) (by rw [z];exact yH _)) (λp hp=>nomatch hp)
    have UX:=It.cA (m5:=[(s2.heap.objs.size,({ cls:=.type "list", data:=.seq (aA++[y]).toArray (k + 1) }:Obj))]) λp hp=>by
     have e:p=_:=zK.mp hp;subst e;exact ⟨by simpa using q,nD,LV,Tu,λv z=>nomatch z⟩
    refine ⟨m',lO,i + 1,mj,acc++[yv],aA++[y],_,gO,UX,T.keep _ _ _ sb λb hb o e=>(Heap.get?_update_other iK.heap _ (yS (fl b hb))).trans e,fb,pM.append (.cons V5 .nil),w'⟩
 exact codeAny_compStart_list loop (T.self _ 0 s4 _ _ uh loop)
end
section
variable {n:Nat}{caps:List Nat}{σ:St}{H:Hp}{g:TG}{tc:TT}{te:TE}{Qf:Addr->Hp->List V->Prop}{K:PySem.W.Frag}{a b:Addr}{xs ys:List V}
theorem eE (el:xs.length=ys.length)(Pv:Nat->St->List V->Hp->Prop)(h0:Pv 0 (dw n caps σ) [] H)(hn:xs.length<=1000)(hl:∀ i τ acc H,Pv i τ acc H->acc.length<=i/\aB K H a xs/\aB K H b ys)
  (hs:∀ i x y q τ acc H (C:St->List V->Hp->Prop),xs[i]?=some x->ys[i]?=some y->H q=none->Pv i τ acc H->(∀ τ acc H,Pv (i + 1) τ acc H->C τ acc H)->g (.ref q) τ (upd H q (.tup [x,y])) fun bC H2=>tc bC H2 λb H3=>if b=true then te bC H3 λy H4=>C bC (acc++[y]) H4 else C bC acc H3)
  (hd:∀ τ acc H,Pv xs.length τ acc H->∀ p,H p=none->Qf p H acc) :
  ∃ W:Nat->Nat->St->List V->Hp->Prop,(∃ m,W 0 m (dw n caps σ) [] H)/\∀ i m τ acc H,W i m τ acc H ->
   ((Rh K a b).stop i H/\acc.length<=sizeLine/\∀ p,H p=none->Qf p H acc) \/
   ((Rh K a b).go i H/\acc.length < sizeLine/\∀ x H',(Rh K a b).mF i H x H'->g x τ H' fun bC H2=>tc bC H2 λb H3=>if b=true then te bC H3 λy H4=>∃ m',m' < m/\W (i + 1) m' bC (acc++[y]) H4 else ∃ m',m' < m/\W (i + 1) m' bC acc H3):=
 i9 (J:=Rh K a b) Pv xs.length h0 hn (λi τ acc H p=>(hl i τ acc H p).1) (λi τ acc H hi p=>⟨xs,ys,xs[i],ys[i]'(by omega),(hl i τ acc H p).2.1,(hl i τ acc H p).2.2,by simp [hi],by simp [<-el,hi]⟩) (fun τ acc H p=>⟨xs,ys,(hl _ τ acc H p).2.1,(hl _ τ acc H p).2.2,.inl (zI _)⟩)
  (λi τ acc H C hi p c x H' y=>by obtain ⟨q,x',y',hq,e1,e2,y⟩:=y;subst e1;subst e2;exact hs i x' y' q τ acc _ C (y xs ys (hl i τ acc _ p).2.1 (hl i τ acc _ p).2.2).1 (y xs ys (hl i τ acc _ p).2.1 (hl i τ acc _ p).2.2).2 hq p c) hd
end
section
variable {X:Cx}
end
end L2
namespace Sm
open PySem L2 bw
theorem abK {c:Bool}{A B:Prop}{D:Ends}{σ:St}{H:Hp}(Pre:St->Hp->Prop)(k:∀ σ H,Pre σ H->D.nx σ H)(h1:c=true->(∀ σ H,Pre σ H->D.nx σ H)->A)(h2:c=false->(∀ σ H,Pre σ H->D.nx σ H)->B):if c=true then (if true=true then A else kC D σ H) else B:=by
 cases c with
 | true=>exact h1 rfl k
 | false=>exact h2 rfl k
theorem T4 {c:Bool}{T2 A:Prop}{D:Ends}{σ:St}{H:Hp}(Pre:St->Hp->Prop)(k:∀ σ H,Pre σ H->D.nx σ H)(h1:c=true->(∀ σ H,Pre σ H->D.nx σ H)->T2)(h2:c=false->Pre σ H):if c=true then T2 else (if false=true then A else kC D σ H):=by
 cases c with
 | true=>exact h1 rfl k
 | false=>exact k _ _ (h2 rfl)
end Sm
namespace L2
open PySem PySem.Spec PyProof.Rows
section
variable {prog:Program}{w:World}{A:Around}{E:Value->Shared->Prop}{s:Shared}
structure ZD (prog:Program) (w:World) (A:Around) (z TI TO i1 i2:Addr) (K5 mP:List Addr) (n:Nat) (P1 P2:Nat->Value->Prop) (S1 S2:Nat->Heap->Prop):Prop where
 d1:Draws prog w A i1 K5 n P1 S1
 d2:Draws prog w A i2 mP n P2 S2
 ne:TI≠z/\TO≠z/\i1≠z/\i2≠z/\TI≠TO/\TI≠i1/\TI≠i2/\TO≠i1/\TO≠i2/\i1≠i2
 f1:z ∉ K5/\TO ∉ K5/\i2 ∉ K5
 f2:z ∉ mP/\TO ∉ mP/\i1 ∉ mP
variable {z TI TO i1 i2:Addr} {K5 mP:List Addr}{n:Nat} {P1 P2:Nat->Value->Prop} {S1 S2:Nat->Heap->Prop}
theorem cP {fp:List Addr}{a:Addr}{h h':Heap}(n:a ∉ fp)(x:Heap.SameBut a h h'):∀ b∈fp,∀ o,h.get? b=some o->h'.get? b=some o:=λb hb o e=>x.extBut b o (λq=>n (q ▸ hb)) e
theorem Py {k:Nat}{a b:Value}{Q:Value->Shared->Prop}(D:ZD prog w A z TI TO i1 i2 K5 mP n P1 P2 S1 S2)(hk:k < n)
  (hz:IsZip s.heap z TI TO .none) (dQ:IsPair s.heap TI (.ref i1) (.ref i2)) (fz:IsPair s.heap TO a b) (t1:S1 k s.heap) (t2:S2 k s.heap)
  (hQ:∀ x y h' tk,P1 k x->P2 k y->IsZip h' z TI TO (rawInt s.heap.objs.size)->IsPair h' TO x y->S1 (k + 1) h'->S2 (k + 1) h'->IsPair h' s.heap.objs.size x y->h'.objs.size=s.heap.objs.size + 1 ->
   (∀ c o,c≠z->c≠TO->c≠i1->c≠i2->s.heap.get? c=some o->h'.get? c=some o)->Q (.ref s.heap.objs.size) { s with heap:=h',toks:=tk })
  (w1:∀ b∈K5,b < s.heap.objs.size) (w2:∀ b∈mP,b < s.heap.objs.size) :
  wpAny (model prog w) A (Builtin.«zip.__next__» ⟨[.ref z],[]⟩) (λfin s'=>∃ v,fin=.done (.ret v)/\Q v s') E s:=by
 obtain ⟨n1,n2,n3,n4,n5,n6,n7,n8,n9,N1⟩:=D.ne;show wpAny _ _ (field (.ref z) 2 >>= _) _ _ _;refine wpAny_bind (wpAny_field hz rfl (x:=.bool false) rfl ?_);show wpAny _ _ (field (.ref z) 3 >>= _) _ _ _;refine wpAny_bind (wpAny_field hz rfl (x:=.ref TI) rfl (wpAny_bind (wpAny_seqItems dQ rfl ?_)));show wpAny _ _ (Builtin.SmallTypes.ownedTupleIsFree (.ref z) >>= _) _ _ _;refine wpAny_bind ?_;unfold Builtin.SmallTypes.ownedTupleIsFree;refine wpAny_bind (wpAny_field hz rfl (x:=.none) rfl (wpAny_pure ?_));simp only [if_true];refine wpAny_bind (wpAny_rule (wpAny_bind (wpAny_field hz rfl (x:=.ref TO) rfl (wpAny_bind (wpAny_setField_rec hz (by simp) λh1 jx e1=>wpAny_bind ?_)))))
 replace jx:IsZip h1 z TI TO .ellipsis:=jx
 simp only [List.zipIdx_cons,List.zipIdx_nil,List.forIn_cons,List.forIn_nil];refine wpAny_bind (wpAny_bind (wpAny_onRaise (show wpAny _ _ (Builtin.SmallTypes.nextOf (.ref i1) >>= _) _ _ _ from wpAny_bind (D.d1.item k _ _ _ hk (D.d1.frame _ _ _ t1 (cP D.f1.1 e1)) λx h2 tk2 px u1 e2=>wpAny_pure ?_))));have o2:IsPair h2 TO a b:=e2.extBut _ _ n8 (e1.extBut _ _ n2 fz);refine wpAny_bind (wpAny_seqItems o2 rfl (wpAny_bind (wpAny_updateSeq_pair o2 λh3 o3 e3=>wpAny_bind (wpAny_letGo (wpAny_pure ?_)))))
 replace o3:IsPair h3 TO x b:=o3
 refine wpAny_bind (wpAny_bind (wpAny_onRaise (show wpAny _ _ (Builtin.SmallTypes.nextOf (.ref i2) >>= _) _ _ _ from wpAny_bind (D.d2.item k _ _ _ hk (D.d2.frame _ _ _ (D.d2.frame _ _ _ (D.d2.frame _ _ _ t2 (cP D.f2.1 e1)) (cP D.f2.2.2 e2)) (cP D.f2.2.1 e3)) λy h4 tk4 py u2 e4=>wpAny_pure ?_))));have o4:IsPair h4 TO x b:=e4.extBut _ _ n9 o3;refine wpAny_bind (wpAny_seqItems o4 rfl (wpAny_bind (wpAny_updateSeq_pair o4 λh5 o5 e5=>wpAny_bind (wpAny_letGo (wpAny_pure (wpAny_pure ?_))))))
 replace o5:IsPair h5 TO x y:=o5
 refine wpAny_bind (wpAny_seqItems o5 rfl (wpAny_bind (wpAny_newTuple ?_)));have sz:h5.objs.size=s.heap.objs.size:=by rw [e5.1,e4.1,e3.1,e2.1,e1.1]
 have z5:IsZip h5 z TI TO .ellipsis:=e5.extBut _ _ n2.symm (e4.extBut _ _ n4.symm (e3.extBut _ _ n2.symm (e2.extBut _ _ n3.symm jx)));have old:∀ c o,c≠z->c≠TO->c≠i1->c≠i2->s.heap.get? c=some o->h5.get? c=some o:=λc o c1 c2 c3 c4 e=>
  e5.extBut _ _ c2 (e4.extBut _ _ c4 (e3.extBut _ _ c2 (e2.extBut _ _ c3 (e1.extBut _ _ c1 e))))
 have v1:S1 (k + 1) h5:=D.d1.frame _ _ _ (D.d1.frame _ _ _ (D.d1.frame _ _ _ u1 (cP D.f1.2.1 e3)) (cP D.f1.2.2 e4)) (cP D.f1.2.1 e5);have v2:S2 (k + 1) h5:=D.d2.frame _ _ _ u2 (cP D.f2.2.1 e5);have zl:z < h5.objs.size:=Heap.lt_size z5;show wpAny _ _ (Builtin.SmallTypes.ownedTupleHandOut (.ref z) (.ref h5.objs.size) >>= _) _ _ _;refine wpAny_bind ?_;unfold Builtin.SmallTypes.ownedTupleHandOut;have z6:IsZip (h5.push { cls:=.type "tuple", data:=.seq #[x,y] }) z TI TO .ellipsis:=Heap.get?_push_of_some _ z5;refine wpAny_bind (wpAny_setField_rec z6 (by simp) λh7 z7 e7=>?_)
 replace z7:IsZip h7 z TI TO (rawInt h5.objs.size):=z7
 refine wpAny_setField_rec z7 (by simp) λh8 z8 e8=>wpAny_pure ⟨_,rfl,?_⟩
 replace z8:IsZip h8 z TI TO (rawInt h5.objs.size):=z8
 have up:∀ c o,c≠z->h5.get? c=some o->h8.get? c=some o:=λc o c1 e=>e8.extBut _ _ c1 (e7.extBut _ _ c1 (Heap.get?_push_of_some _ e));have t8:IsPair h8 h5.objs.size x y:=e8.extBut _ _ (yS zl) (e7.extBut _ _ (yS zl) (Heap.get?_push_size _ rfl));have s8:h8.objs.size=h5.objs.size + 1:=by rw [e8.1,e7.1,Heap.size_push]
 rw [sz] at z8 t8 s8;show Q (.ref h5.objs.size) _;rw [sz];exact hQ x y h8 _ px py z8 (up _ _ n2 o5) (D.d1.frame _ _ _ v1 λb hb o e=>up b o (λq=>D.f1.1 (q ▸ hb)) e) (D.d2.frame _ _ _ v2 λb hb o e=>up b o (λq=>D.f2.1 (q ▸ hb)) e) t8 s8 λc o c1 c2 c3 c4 e=>up c o c1 (old c o c1 c2 c3 c4 e)
theorem R9 {a b:Value}{Q:PySem.Fin->Shared->Prop}(D:ZD prog w A z TI TO i1 i2 K5 mP n P1 P2 S1 S2)
  (hz:IsZip s.heap z TI TO .none) (dQ:IsPair s.heap TI (.ref i1) (.ref i2)) (fz:IsPair s.heap TO a b) (t1:S1 n s.heap)
  (hE:∀ h' e,(∀ c o,c≠z->c≠TO->c≠i1->c≠i2->s.heap.get? c=some o->h'.get? c=some o)->(∃ o,h'.get? e=some o/\o.cls=.type "StopIteration")->E (.ref e) { s with heap:=h' }) :
  wpAny (model prog w) A (Builtin.«zip.__next__» ⟨[.ref z],[]⟩) Q E s:=by
 obtain ⟨n1,n2,n3,n4,n5,n6,n7,n8,n9,N1⟩:=D.ne;show wpAny _ _ (field (.ref z) 2 >>= _) _ _ _;refine wpAny_bind (wpAny_field hz rfl (x:=.bool false) rfl ?_);show wpAny _ _ (field (.ref z) 3 >>= _) _ _ _;refine wpAny_bind (wpAny_field hz rfl (x:=.ref TI) rfl (wpAny_bind (wpAny_seqItems dQ rfl ?_)));show wpAny _ _ (Builtin.SmallTypes.ownedTupleIsFree (.ref z) >>= _) _ _ _;refine wpAny_bind ?_;unfold Builtin.SmallTypes.ownedTupleIsFree;refine wpAny_bind (wpAny_field hz rfl (x:=.none) rfl (wpAny_pure ?_));simp only [if_true];refine wpAny_bind (wpAny_rule (wpAny_bind (wpAny_field hz rfl (x:=.ref TO) rfl (wpAny_bind (wpAny_setField_rec hz (by simp) λh1 jx e1=>wpAny_bind ?_)))))
 replace jx:IsZip h1 z TI TO .ellipsis:=jx
 simp only [List.zipIdx_cons,List.zipIdx_nil,List.forIn_cons,List.forIn_nil];refine wpAny_bind (wpAny_bind (wpAny_onRaise (show wpAny _ _ (Builtin.SmallTypes.nextOf (.ref i1) >>= _) _ _ _ from wpAny_bind (D.d1.done _ _ _ (D.d1.frame _ _ _ t1 (cP D.f1.1 e1)) λh2 e e2 he=>?_))));obtain ⟨oe,hoe,hce⟩:=he;have z2:IsZip h2 z TI TO .ellipsis:=e2 _ _ n3.symm jx;have hez:e≠z:=λx=>by subst x;rw [z2] at hoe;cases hoe;simp at hce
 exact wpAny_setField_rec z2 (by simp) λh3 _ e3=>hE h3 e (λc o c1 _ c3 _ x=>e3.extBut _ _ c1 (e2 _ _ c3 (e1.extBut _ _ c1 x))) ⟨oe,e3.extBut _ _ hez hoe,hce⟩
end
section
variable {prog:Program}{w:World}{A:Around}{E:Value->Shared->Prop}{s:Shared}
variable {z TI TO i1 i2:Addr} {K5 mP:List Addr}{n:Nat} {P1 P2:Nat->Value->Prop} {S1 S2:Nat->Heap->Prop}
theorem pR {k:Nat}{a b:Value}{Q:Option Value->Shared->Prop}(D:ZD prog w A.in1 z TI TO i1 i2 K5 mP n P1 P2 S1 S2)(hk:k < n)
  (hz:IsZip s.heap z TI TO .none) (dQ:IsPair s.heap TI (.ref i1) (.ref i2)) (fz:IsPair s.heap TO a b) (t1:S1 k s.heap) (t2:S2 k s.heap)
  (hQ:∀ x y h' tk,P1 k x->P2 k y->IsZip h' z TI TO (rawInt s.heap.objs.size)->IsPair h' TO x y->S1 (k + 1) h'->S2 (k + 1) h'->IsPair h' s.heap.objs.size x y->h'.objs.size=s.heap.objs.size + 1 ->
   (∀ c o,c≠z->c≠TO->c≠i1->c≠i2->s.heap.get? c=some o->h'.get? c=some o)->Q (some (.ref s.heap.objs.size)) { s with heap:=h',toks:=tk })
  (w1:∀ b∈K5,b < s.heap.objs.size) (w2:∀ b∈mP,b < s.heap.objs.size) :
  wpAny (model prog w) A (pyNext (.ref z)) Q E s:=by
 have hT:s.TypeIs (.ref z) "zip" := ⟨_,hz,rfl⟩;unfold pyNext;exact wpAny_bind (wpAny_attempt (wpAny_callSpecial?_slot (name:=Str.ofString "__next__") hT F.slot_zip_next
  (wpAny_call_entry F.slot_zip_next hT F.entry_zip_next
   (Py D hk hz dQ fz t1 t2 (λx y h' tk a0 a00 a1 a2 a3 a4 a5 a6 a7=>wpAny_pure (hQ x y h' tk a0 a00 a1 a2 a3 a4 a5 a6 a7)) w1 w2) (F.args_zip_next_1 _))))
theorem vL {a b:Value}{Q:Option Value->Shared->Prop}(D:ZD prog w A.in1 z TI TO i1 i2 K5 mP n P1 P2 S1 S2)
  (hz:IsZip s.heap z TI TO .none) (dQ:IsPair s.heap TI (.ref i1) (.ref i2)) (fz:IsPair s.heap TO a b) (t1:S1 n s.heap)
  (hQ:∀ h',(∀ c o,c≠z->c≠TO->c≠i1->c≠i2->s.heap.get? c=some o->h'.get? c=some o)->Q none { s with heap:=h' }):wpAny (model prog w) A (pyNext (.ref z)) Q E s:=by
 have hT:s.TypeIs (.ref z) "zip" := ⟨_,hz,rfl⟩;unfold pyNext;refine wpAny_bind (wpAny_attempt (wpAny_callSpecial?_slot (name:=Str.ofString "__next__") hT F.slot_zip_next
  (wpAny_call_entry F.slot_zip_next hT F.entry_zip_next (R9 D hz dQ fz t1 λh' e hk he=>?_) (F.args_zip_next_1 _))))
 obtain ⟨o,ho,hc⟩:=he;exact wpAny_bind (wpAny_isInstance (T := "StopIteration") (b:=true) ⟨o,ho,hc⟩ isSubtype_stop (wpAny_pure (hQ _ hk)))
end
abbrev ZN (z TI TO i1 i2:Addr):Prop:=TI≠z/\TO≠z/\i1≠z/\i2≠z/\TI≠TO/\TI≠i1/\TI≠i2/\TO≠i1/\TO≠i2/\i1≠i2
section
variable {K:PySem.W.Frag}{a b:Addr}{xs ys:List V}{n:Nat}{caps:List Nat}{g:TG}{tc:TT}{te:TE}{σ:St}{H:Hp}{Qf:Addr->Hp->List V->Prop}
end
end L2
namespace Sm
open PySem L2 bw
theorem bP {K:PySem.W.Frag}{H:Hp}{a:Addr}{xs:List V}{i:Int}{v:V}{Q:V->Prop}(h:H a=some (.tup xs))(hi:dU xs i=some v)(q:Q v):∃ p Vx i' v',V.ref a=.ref p/\V.int i=.int i'/\aW K H p Vx/\dU Vx i'=some v'/\Q v':=⟨a,xs,i,v,rfl,rfl,aW.of h,hi,q⟩
theorem bV {K:PySem.W.Frag}{H:Hp}{a:Addr}{xs:List V}{i:Int}{v:V}{Q:V->Prop}(h:H a=some (.lst xs))(hi:dU xs i=some v)(q:Q v):∃ p Vx i' v',V.ref a=.ref p/\V.int i=.int i'/\aB K H p Vx/\dU Vx i'=some v'/\Q v':=⟨a,xs,i,v,rfl,rfl,aB.of h,hi,q⟩
theorem mH {P:List Value->Prop}{us:List Value}{n:Nat}(h:us.length=n + 1)(q:∀ a r,r.length=n->P (a::r)):P us:=by
 cases us with
 | nil=>cases h
 | cons a r=>exact q a r (Nat.succ.inj h)
theorem U4 {P:List Value->Prop}{us:List Value}(h:us.length=0)(q:P []):P us:=by rw [List.eq_nil_of_length_eq_zero h];exact q
theorem PJ {fd:FuncData}{ps:List Str}{us:List Value}(h:us.length=1)(q:∀ a,bindArgs fd ⟨[a],[]⟩=pure (ps.zip [a])):bindArgs fd ⟨us,[]⟩=pure (ps.zip us):=mH (P:=λus=>bindArgs fd ⟨us,[]⟩=pure (ps.zip (us))) h λa us h=>U4 (P:=λus=>bindArgs fd ⟨a::us,[]⟩=pure (ps.zip (a::us))) h (q a)
theorem Lf {fd:FuncData}{ps:List Str}{us:List Value}(h:us.length=2)(q:∀ a b,bindArgs fd ⟨[a,b],[]⟩=pure (ps.zip [a,b])):bindArgs fd ⟨us,[]⟩=pure (ps.zip us):=mH (P:=λus=>bindArgs fd ⟨us,[]⟩=pure (ps.zip (us))) h λa us h=>mH (P:=λus=>bindArgs fd ⟨a::us,[]⟩=pure (ps.zip (a::us))) h λb us h=>U4 (P:=λus=>bindArgs fd ⟨a::b::us,[]⟩=pure (ps.zip (a::b::us))) h (q a b)
theorem Pe {fd:FuncData}{ps:List Str}{us:List Value}(h:us.length=3)(q:∀ a b c,bindArgs fd ⟨[a,b,c],[]⟩=pure (ps.zip [a,b,c])):bindArgs fd ⟨us,[]⟩=pure (ps.zip us):=mH (P:=λus=>bindArgs fd ⟨us,[]⟩=pure (ps.zip (us))) h λa us h=>mH (P:=λus=>bindArgs fd ⟨a::us,[]⟩=pure (ps.zip (a::us))) h λb us h=>mH (P:=λus=>bindArgs fd ⟨a::b::us,[]⟩=pure (ps.zip (a::b::us))) h λc us h=>U4 (P:=λus=>bindArgs fd ⟨a::b::c::us,[]⟩=pure (ps.zip (a::b::c::us))) h (q a b c)
theorem MA {fd:FuncData}{ps:List Str}{us:List Value}(h:us.length=4)(q:∀ a b c d,bindArgs fd ⟨[a,b,c,d],[]⟩=pure (ps.zip [a,b,c,d])):bindArgs fd ⟨us,[]⟩=pure (ps.zip us):=mH (P:=λus=>bindArgs fd ⟨us,[]⟩=pure (ps.zip (us))) h λa us h=>mH (P:=λus=>bindArgs fd ⟨a::us,[]⟩=pure (ps.zip (a::us))) h λb us h=>mH (P:=λus=>bindArgs fd ⟨a::b::us,[]⟩=pure (ps.zip (a::b::us))) h λc us h=>mH (P:=λus=>bindArgs fd ⟨a::b::c::us,[]⟩=pure (ps.zip (a::b::c::us))) h λd us h=>U4 (P:=λus=>bindArgs fd ⟨a::b::c::d::us,[]⟩=pure (ps.zip (a::b::c::d::us))) h (q a b c d)
theorem us5 {fd:FuncData}{ps:List Str}{us:List Value}(h:us.length=5)(q:∀ a b c d e,bindArgs fd ⟨[a,b,c,d,e],[]⟩=pure (ps.zip [a,b,c,d,e])):bindArgs fd ⟨us,[]⟩=pure (ps.zip us):=mH (P:=λus=>bindArgs fd ⟨us,[]⟩=pure (ps.zip (us))) h λa us h=>mH (P:=λus=>bindArgs fd ⟨a::us,[]⟩=pure (ps.zip (a::us))) h λb us h=>mH (P:=λus=>bindArgs fd ⟨a::b::us,[]⟩=pure (ps.zip (a::b::us))) h λc us h=>mH (P:=λus=>bindArgs fd ⟨a::b::c::us,[]⟩=pure (ps.zip (a::b::c::us))) h λd us h=>mH (P:=λus=>bindArgs fd ⟨a::b::c::d::us,[]⟩=pure (ps.zip (a::b::c::d::us))) h λe us h=>U4 (P:=λus=>bindArgs fd ⟨a::b::c::d::e::us,[]⟩=pure (ps.zip (a::b::c::d::e::us))) h (q a b c d e)
theorem us6 {fd:FuncData}{ps:List Str}{us:List Value}(h:us.length=6)(q:∀ a b c d e f,bindArgs fd ⟨[a,b,c,d,e,f],[]⟩=pure (ps.zip [a,b,c,d,e,f])):bindArgs fd ⟨us,[]⟩=pure (ps.zip us):=mH (P:=λus=>bindArgs fd ⟨us,[]⟩=pure (ps.zip (us))) h λa us h=>mH (P:=λus=>bindArgs fd ⟨a::us,[]⟩=pure (ps.zip (a::us))) h λb us h=>mH (P:=λus=>bindArgs fd ⟨a::b::us,[]⟩=pure (ps.zip (a::b::us))) h λc us h=>mH (P:=λus=>bindArgs fd ⟨a::b::c::us,[]⟩=pure (ps.zip (a::b::c::us))) h λd us h=>mH (P:=λus=>bindArgs fd ⟨a::b::c::d::us,[]⟩=pure (ps.zip (a::b::c::d::us))) h λe us h=>mH (P:=λus=>bindArgs fd ⟨a::b::c::d::e::us,[]⟩=pure (ps.zip (a::b::c::d::e::us))) h λf us h=>U4 (P:=λus=>bindArgs fd ⟨a::b::c::d::e::f::us,[]⟩=pure (ps.zip (a::b::c::d::e::f::us))) h (q a b c d e f)
theorem ex5 {eU eT eS eO eL:Type}{P:eU->eT->eS->eO->eL->Prop}(x0:eU)(x1:eT)(x2:eS)(x3:eO)(x4:eL)(h:P x0 x1 x2 x3 x4):∃ y0:eU,∃ y1:eT,∃ y2:eS,∃ y3:eO,∃ y4:eL,P y0 y1 y2 y3 y4:=⟨x0,x1,x2,x3,x4,h⟩
theorem Y6 {eU eT eS eO eL fL:Type}{P:eU->eT->eS->eO->eL->fL->Prop}(x0:eU)(x1:eT)(x2:eS)(x3:eO)(x4:eL)(x5:fL)(h:P x0 x1 x2 x3 x4 x5):∃ y0:eU,∃ y1:eT,∃ y2:eS,∃ y3:eO,∃ y4:eL,∃ y5:fL,P y0 y1 y2 y3 y4 y5:=⟨x0,x1,x2,x3,x4,x5,h⟩
theorem ex7 {eU eT eS eO eL fL ia:Type}{P:eU->eT->eS->eO->eL->fL->ia->Prop}(x0:eU)(x1:eT)(x2:eS)(x3:eO)(x4:eL)(x5:fL)(x6:ia)(h:P x0 x1 x2 x3 x4 x5 x6):∃ y0:eU,∃ y1:eT,∃ y2:eS,∃ y3:eO,∃ y4:eL,∃ y5:fL,∃ y6:ia,P y0 y1 y2 y3 y4 y5 y6:=⟨x0,x1,x2,x3,x4,x5,x6,h⟩
theorem ex8 {eU eT eS eO eL fL ia jf:Type}{P:eU->eT->eS->eO->eL->fL->ia->jf->Prop}(x0:eU)(x1:eT)(x2:eS)(x3:eO)(x4:eL)(x5:fL)(x6:ia)(x7:jf)(h:P x0 x1 x2 x3 x4 x5 x6 x7):∃ y0:eU,∃ y1:eT,∃ y2:eS,∃ y3:eO,∃ y4:eL,∃ y5:fL,∃ y6:ia,∃ y7:jf,P y0 y1 y2 y3 y4 y5 y6 y7:=⟨x0,x1,x2,x3,x4,x5,x6,x7,h⟩
theorem ex9 {eU eT eS eO eL fL ia jf j9:Type}{P:eU->eT->eS->eO->eL->fL->ia->jf->j9->Prop}(x0:eU)(x1:eT)(x2:eS)(x3:eO)(x4:eL)(x5:fL)(x6:ia)(x7:jf)(x8:j9)(h:P x0 x1 x2 x3 x4 x5 x6 x7 x8):∃ y0:eU,∃ y1:eT,∃ y2:eS,∃ y3:eO,∃ y4:eL,∃ y5:fL,∃ y6:ia,∃ y7:jf,∃ y8:j9,P y0 y1 y2 y3 y4 y5 y6 y7 y8:=⟨x0,x1,x2,x3,x4,x5,x6,x7,x8,h⟩
theorem Uz {eU eT eS eO eL fL ia jf j9 nU:Type}{P:eU->eT->eS->eO->eL->fL->ia->jf->j9->nU->Prop}(x0:eU)(x1:eT)(x2:eS)(x3:eO)(x4:eL)(x5:fL)(x6:ia)(x7:jf)(x8:j9)(x9:nU)(h:P x0 x1 x2 x3 x4 x5 x6 x7 x8 x9):∃ y0:eU,∃ y1:eT,∃ y2:eS,∃ y3:eO,∃ y4:eL,∃ y5:fL,∃ y6:ia,∃ y7:jf,∃ y8:j9,∃ y9:nU,P y0 y1 y2 y3 y4 y5 y6 y7 y8 y9:=⟨x0,x1,x2,x3,x4,x5,x6,x7,x8,x9,h⟩
theorem acV {eU eT eS eO eL fL ia jf j9 nU ic:Type}{P:eU->eT->eS->eO->eL->fL->ia->jf->j9->nU->ic->Prop}(x0:eU)(x1:eT)(x2:eS)(x3:eO)(x4:eL)(x5:fL)(x6:ia)(x7:jf)(x8:j9)(x9:nU)(MU:ic)(h:P x0 x1 x2 x3 x4 x5 x6 x7 x8 x9 MU):∃ y0:eU,∃ y1:eT,∃ y2:eS,∃ y3:eO,∃ y4:eL,∃ y5:fL,∃ y6:ia,∃ y7:jf,∃ y8:j9,∃ y9:nU,∃ Sd:ic,P y0 y1 y2 y3 y4 y5 y6 y7 y8 y9 Sd:=⟨x0,x1,x2,x3,x4,x5,x6,x7,x8,x9,MU,h⟩
theorem acU {eU eT eS eO eL fL ia jf j9 nU ic kh:Type}{P:eU->eT->eS->eO->eL->fL->ia->jf->j9->nU->ic->kh->Prop}(x0:eU)(x1:eT)(x2:eS)(x3:eO)(x4:eL)(x5:fL)(x6:ia)(x7:jf)(x8:j9)(x9:nU)(MU:ic)(x11:kh)(h:P x0 x1 x2 x3 x4 x5 x6 x7 x8 x9 MU x11):∃ y0:eU,∃ y1:eT,∃ y2:eS,∃ y3:eO,∃ y4:eL,∃ y5:fL,∃ y6:ia,∃ y7:jf,∃ y8:j9,∃ y9:nU,∃ Sd:ic,∃ y11:kh,P y0 y1 y2 y3 y4 y5 y6 y7 y8 y9 Sd y11:=⟨x0,x1,x2,x3,x4,x5,x6,x7,x8,x9,MU,x11,h⟩
theorem XN {eU eT eS eO eL fL ia jf j9 nU ic kh ua t9:Type}{P:eU->eT->eS->eO->eL->fL->ia->jf->j9->nU->ic->kh->ua->t9->Prop}(x0:eU)(x1:eT)(x2:eS)(x3:eO)(x4:eL)(x5:fL)(x6:ia)(x7:jf)(x8:j9)(x9:nU)(MU:ic)(x11:kh)(Vy:ua)(x13:t9)(h:P x0 x1 x2 x3 x4 x5 x6 x7 x8 x9 MU x11 Vy x13):∃ y0:eU,∃ y1:eT,∃ y2:eS,∃ y3:eO,∃ y4:eL,∃ y5:fL,∃ y6:ia,∃ y7:jf,∃ y8:j9,∃ y9:nU,∃ Sd:ic,∃ y11:kh,∃ Sb:ua,∃ y13:t9,P y0 y1 y2 y3 y4 y5 y6 y7 y8 y9 Sd y11 Sb y13:=⟨x0,x1,x2,x3,x4,x5,x6,x7,x8,x9,MU,x11,Vy,x13,h⟩
theorem ON {eU eT eS eO eL fL ia jf j9 nU ic kh ua t9 R8:Type}{P:eU->eT->eS->eO->eL->fL->ia->jf->j9->nU->ic->kh->ua->t9->R8->Prop}(x0:eU)(x1:eT)(x2:eS)(x3:eO)(x4:eL)(x5:fL)(x6:ia)(x7:jf)(x8:j9)(x9:nU)(MU:ic)(x11:kh)(Vy:ua)(x13:t9)(x14:R8)(h:P x0 x1 x2 x3 x4 x5 x6 x7 x8 x9 MU x11 Vy x13 x14):∃ y0:eU,∃ y1:eT,∃ y2:eS,∃ y3:eO,∃ y4:eL,∃ y5:fL,∃ y6:ia,∃ y7:jf,∃ y8:j9,∃ y9:nU,∃ Sd:ic,∃ y11:kh,∃ Sb:ua,∃ y13:t9,∃ Sa:R8,P y0 y1 y2 y3 y4 y5 y6 y7 y8 y9 Sd y11 Sb y13 Sa:=⟨x0,x1,x2,x3,x4,x5,x6,x7,x8,x9,MU,x11,Vy,x13,x14,h⟩
theorem pU {K:PySem.W.Frag}{H:Hp}{a:Addr}{v0 v1:V}{Q:V->V->Prop}(h:H a=some (.tup [v0,v1]))(q:Q v0 v1):∃ a' xs,V.ref a=.ref a'/\aW K H a' xs/\xs.length=2/\∃ w0 r0,xs=w0::r0/\∃ w1 r1,r0=w1::r1/\r1=[]/\Q w0 w1:=⟨a,_,rfl,aW.of h,rfl,_,_,rfl,_,_,rfl,rfl,q⟩
theorem MZ {K:PySem.W.Frag}{H:Hp}{a:Addr}{v0 v1 v2:V}{Q:V->V->V->Prop}(h:H a=some (.tup [v0,v1,v2]))(q:Q v0 v1 v2):∃ a' xs,V.ref a=.ref a'/\aW K H a' xs/\xs.length=3/\∃ w0 r0,xs=w0::r0/\∃ w1 r1,r0=w1::r1/\∃ w2 r2,r1=w2::r2/\r2=[]/\Q w0 w1 w2:=⟨a,_,rfl,aW.of h,rfl,_,_,rfl,_,_,rfl,_,_,rfl,rfl,q⟩
theorem U5 {K:PySem.W.Frag}{H:Hp}{a:Addr}{v0 v1 v2 v3:V}{Q:V->V->V->V->Prop}(h:H a=some (.tup [v0,v1,v2,v3]))(q:Q v0 v1 v2 v3):∃ a' xs,V.ref a=.ref a'/\aW K H a' xs/\xs.length=4/\∃ w0 r0,xs=w0::r0/\∃ w1 r1,r0=w1::r1/\∃ w2 r2,r1=w2::r2/\∃ w3 r3,r2=w3::r3/\r3=[]/\Q w0 w1 w2 w3:=⟨a,_,rfl,aW.of h,rfl,_,_,rfl,_,_,rfl,_,_,rfl,_,_,rfl,rfl,q⟩
theorem zr {α:Sort _}{A Q:α->Prop}{x:α}(a:A x)(q:Q x):∃ y,A y/\Q y:=⟨x,a,q⟩
theorem mq {α β:Sort _}{A Q:α->β->Prop}{x:α}{y:β}(a:A x y)(q:Q x y):∃ x y,A x y/\Q x y:=⟨x,y,a,q⟩
theorem aJ {α β:Sort _}{A B Q:α->β->Prop}{x:α}{y:β}(a:A x y)(b:B x y)(q:Q x y):∃ x y,A x y/\B x y/\Q x y:=⟨x,y,a,b,q⟩
def Sf (ms:List M4)(j:Int):Int:=((ms[j.toNat]?).map (·.t)).getD 0
def adA (ms:List M4)(k:Nat):List Int:=(numsTo ms k ms.length).map (Sf ms)
section
variable {n k w:Nat}{ms:List M4}{day:Int}
end
theorem abL {c:Bool}{t1 t2:TS}{D:Ends}{σ:St}{H:Hp}(Pre:St->Hp->Prop)(k:∀ σ H,Pre σ H->D.nx σ H)(h1:c=true->(∀ σ H,Pre σ H->D.nx σ H)->t1 D σ H)(h2:c=false->(∀ σ H,Pre σ H->D.nx σ H)->t2 D σ H):if c=true then t1 D σ H else t2 D σ H:=by
 cases c with
 | true=>exact h1 rfl k
 | false=>exact h2 rfl k
def nextOf (ts:List (Int×Int))(b:Int)(k:Nat):Int:=match ts[k + 1]? with
 | some q=>q.1
 | none=>b
structure L4 where
 s:Nat
 w:Nat
 a:Int
 z:Int
end Sm
namespace L2
open PySem PySem.Spec PyProof.Rows
def vo:V->Value
 | .ref a=>.ref a
 | .ty n=>.type n
 | _=>.none
section
variable {X:Cx}{K:PySem.W.Frag}
end
end L2
namespace Sm
open PySem L2 bw
theorem map_some {α β:Type}{f:α->β}{o o':Option α}{a:α}(e:o.map f=o'.map f)(h:o'=some a):∃ b,o=some b/\f b=f a:=by
 subst h;cases o with
 | none=>cases e
 | some b=>exact ⟨b,rfl,Option.some.inj e⟩
open Classical in
noncomputable def cut (M:Addr->Prop) (H:Hp):Hp:=λc=>if M c then none else H c
end Sm
namespace L2
open PySem PySem.Spec PyProof.Rows
section
variable {X:Cx}
theorem cj (hc:X.calm=true):bZ X (.builtin "sum") (λxs H Q=>∃ p ns,xs=[.ref p]/\aB X.K H p (List.map V.int ns)/\Q (.int ns.sum) H):=by
 intro ai s σ H xs us Q I r h;obtain ⟨p,ns,rfl,hp,q⟩:=h;obtain ⟨u,rfl,ru⟩:=vals1 r;cases ru;obtain ⟨aA,r,pl,_⟩:=I.list hp;obtain ⟨ys,rfl,e⟩:=nB r;have hl:ys.length=ns.length:=by rw [<-e,zA]
 have li:s.heap.IsList p (intItems ys.toArray):=by
  have:=pl.isList;unfold intItems;rw [List.map_toArray];exact this
 refine sum_intListG (I.ok.hd hc) li λh' tk t' k=>?_;have aba:∀ j (h:j < ns.length),numAt ys.toArray j=ns[j]:=λj h=>by
  rw [numAt_eq];simp [e,h]
 have sz:ys.toArray.size=ns.length:=by simp [hl]
 have ps:∀ n,n<=ns.length->preSum (numAt ys.toArray) n=(ns.take n).sum:=by
  intro n;induction n with
  | zero=>intro _;rfl
  | succ n ih=>
   intro hn;show preSum (numAt ys.toArray) n + numAt ys.toArray n=_;rw [ih (by omega),aba n (by omega),List.take_succ_eq_append_getElem (by omega),zu];show _ + ns[n]=_ + (ns[n] + 0);omega
 rw [sz,ps _ (zI _),zS];exact ⟨.int _,H,I.kept k,⟨_,rfl⟩,q⟩
end
end L2
namespace Sm
open PySem L2 bw
section
variable {af:List Int}{ms:List M4}{ls:List (Addr×L4)}{d:R5}{m j:Nat}{s:RS}{M:M4}{L:Addr×L4}
end
section
variable {CA CH:Addr}{H:Hp}{r:Addr}{σ:St}{i:Nat}{Q:VK} {E2:XK}{d:R5}
end
end Sm
namespace L2
open PySem PySem.Spec PyProof.Rows
theorem MT (l1 l2:Addr)(xs ys:Array Value) :
  Meets (Builtin.«zip.__new__» ⟨[.type "zip", .ref l1,.ref l2],[]⟩) (λ_ R s=>s.heap.IsList l1 xs/\s.heap.IsTuple l2 ys /\
   ∀ h':Heap,IsZip h' (s.heap.objs.size + 4) (s.heap.objs.size + 2) (s.heap.objs.size + 3) .none->IsPair h' (s.heap.objs.size + 2) (.ref s.heap.objs.size) (.ref (s.heap.objs.size + 1)) ->
   IsPair h' (s.heap.objs.size + 3) .none .none->h'.IsListIter s.heap.objs.size l1 0->h'.IsTupleIter (s.heap.objs.size + 1) l2 0 -> 
   (∀ c o,s.heap.get? c=some o->h'.get? c=some o)->R (.ok (.ret (.ref (s.heap.objs.size + 4)))) { s with heap:=h' }):=
 .of_wp λprog w A R s h=>by
  obtain ⟨hp,g,d,tk,os⟩:=s;obtain ⟨Ou,MJ,h⟩:=h;have Ub:=sub_zip;have hL1:Heap.IsList (Shared.heap ⟨hp,g,d,tk,os⟩) l1 xs:=Ou;have hL2:Heap.IsTuple (Shared.heap ⟨hp.push { cls:=.type "list_iterator", data:=.fields #[.ref l1,.int 0 0] },g,d,tk,os⟩) l2 ys:=let ⟨o,e,r⟩:=MJ;⟨o,Heap.get?_push_of_some _ e,r⟩;wp_walk using wpAny_pyIter_list hL1,wpAny_pyIter_tuple hL2;refine ⟨_,rfl,?_⟩;have sp:∀ (h:Heap) (o:Obj),(h.push o).objs.size=h.objs.size + 1:=λh o=>Heap.size_push ..;have h':=h (((((hp.push { cls:=.type "list_iterator", data:=.fields #[.ref l1,.int 0 0] }).push { cls:=.type "tuple_iterator", data:=.fields #[.ref l2,.int 0 0] }).push { cls:=.type "tuple", data:=.seq #[.ref hp.objs.size,.ref (hp.objs.size + 1)] }).push { cls:=.type "tuple", data:=.seq #[.none,.none] }).push { cls:=.type "zip", data:=.fields #[.none,.bool false,.bool false,.ref (hp.objs.size + 2),.ref (hp.objs.size + 3)] })
   (by show Heap.get? _ (hp.objs.size + 4)=_;rw [show hp.objs.size + 4=((((hp.push { cls:=.type "list_iterator", data:=.fields #[.ref l1,.int 0 0] }).push { cls:=.type "tuple_iterator", data:=.fields #[.ref l2,.int 0 0] }).push { cls:=.type "tuple", data:=.seq #[.ref hp.objs.size,.ref (hp.objs.size + 1)] }).push { cls:=.type "tuple", data:=.seq #[.none,.none] }).objs.size from by simp only [sp]];exact Heap.get?_push_size _ rfl)
   (by
    refine Heap.get?_push_of_some _ (Heap.get?_push_of_some _ ?_);show Heap.get? _ (hp.objs.size + 2)=_;rw [show hp.objs.size + 2=((hp.push { cls:=.type "list_iterator", data:=.fields #[.ref l1,.int 0 0] }).push { cls:=.type "tuple_iterator", data:=.fields #[.ref l2,.int 0 0] }).objs.size from by simp only [sp]];exact Heap.get?_push_size _ rfl)
   (by
    refine Heap.get?_push_of_some _ ?_;show Heap.get? _ (hp.objs.size + 3)=_;rw [show hp.objs.size + 3=(((hp.push { cls:=.type "list_iterator", data:=.fields #[.ref l1,.int 0 0] }).push { cls:=.type "tuple_iterator", data:=.fields #[.ref l2,.int 0 0] }).push { cls:=.type "tuple", data:=.seq #[.ref hp.objs.size,.ref (hp.objs.size + 1)] }).objs.size from by simp only [sp]];exact Heap.get?_push_size _ rfl)
   ⟨_,Heap.get?_push_of_some _ (Heap.get?_push_of_some _ (Heap.get?_push_of_some _ (Heap.get?_push_of_some _ (Heap.get?_push_size _ rfl)))),rfl,rfl⟩
   ⟨{ cls:=.type "tuple_iterator", data:=.fields #[.ref l2,.int 0 0] },(by
    refine Heap.get?_push_of_some _ (Heap.get?_push_of_some _ (Heap.get?_push_of_some _ ?_));show Heap.get? _ (hp.objs.size + 1)=_;rw [show hp.objs.size + 1=(hp.push { cls:=.type "list_iterator", data:=.fields #[.ref l1,.int 0 0] }).objs.size from by simp only [sp]];exact Heap.get?_push_size _ rfl),rfl,rfl⟩
   (λc o x=>Heap.get?_push_of_some _ (Heap.get?_push_of_some _ (Heap.get?_push_of_some _ (Heap.get?_push_of_some _ (Heap.get?_push_of_some _ x)))))
  simp only [sp] at h' ⊢;exact h'
section
variable {prog:Program}{w:World}{A:Around}{E:Value->Shared->Prop}{s:Shared}
variable {z TI TO i1 i2:Addr} {K5 mP:List Addr}{n:Nat} {P1 P2:Nat->Value->Prop} {S1 S2:Nat->Heap->Prop}
theorem ZD.mix {l1 l2:Addr}(hh:A.handled=none)(ne:TI≠z/\TO≠z/\i1≠z/\i2≠z/\TI≠TO/\TI≠i1/\TI≠i2/\TO≠i1/\TO≠i2/\i1≠i2)(a1:∀ x∈[z,TO,i1,i2],l1≠x)(a2:∀ x∈[z,TO,i1,i2],l2≠x){xs ys:Array Value}(hs:ys.size=xs.size) :
  ZD prog w A z TI TO i1 i2 [i1,l1] [i2,l2] xs.size (λi v=>xs[i]?=some v) (λi v=>ys[i]?=some v) (λi h=>h.IsListIter i1 l1 i/\h.IsList l1 xs) (λi h=>h.IsTupleIter i2 l2 i/\h.IsTuple l2 ys) where
 d1:=Draws.list hh i1 l1 (a1 _ (by simp)) xs
 d2:=hs ▸ vm hh i2 l2 (a2 _ (by simp)) ys
 ne:=ne
 f1:=by
  obtain ⟨n1,n2,n3,n4,n5,n6,n7,n8,n9,N1⟩:=ne;have b1:=a1 z (by simp);have b2:=a1 TO (by simp);have b3:=a1 i2 (by simp);simp only [zJ,zN,or_false,not_or];exact ⟨⟨n3.symm,b1.symm⟩,⟨n8,b2.symm⟩,N1.symm,b3.symm⟩
 f2:=by
  obtain ⟨n1,n2,n3,n4,n5,n6,n7,n8,n9,N1⟩:=ne;have b1:=a2 z (by simp);have b2:=a2 TO (by simp);have b3:=a2 i1 (by simp);simp only [zJ,zN,or_false,not_or];exact ⟨⟨n4.symm,b1.symm⟩,⟨n9,b2.symm⟩,N1,b3.symm⟩
end
def UW (K:PySem.W.Frag)(a b:Addr):It:=
 ⟨λi H=>∃ xs ys x y,aB K H a xs/\aW K H b ys/\xs.length=ys.length/\xs[i]?=some x/\ys[i]?=some y,λi H v H'=>∃ p x y,H p=none/\v=.ref p/\H'=upd H p (.tup [x,y])/\∀ xs ys,aB K H a xs->aW K H b ys->xs[i]?=some x/\ys[i]?=some y,
  λi H=>∃ xs ys,aB K H a xs/\aW K H b ys/\xs.length=ys.length/\xs.length=i⟩
theorem Li {P:Program}{w:World}{K:PySem.W.Frag}{es:List Expr}{k:Nat}{pos:Pos}(l1 l2 z TI TO i1 i2:Addr)(ap:ZN z TI TO i1 i2)(a1:∀ x∈[z,TO,i1,i2],l1≠x)(a2:∀ x∈[z,TO,i1,i2],l2≠x) :
  Turn P w K (.Tuple es k pos) (UW K l1 l2) [z,TI,TO,i1,i2] z (λi h=>IsZip h z TI TO .none/\IsPair h TI (.ref i1) (.ref i2)/\(∃ a b,IsPair h TO a b)/\h.IsListIter i1 l1 i/\h.IsTupleIter i2 l2 i) where
 mem:=by simp
 obj:=λi h st b hb=>by
  obtain ⟨hz,dQ,⟨a,c,fz⟩,⟨o1,g1,c1,d1⟩,⟨o2,g2,c2,d2⟩⟩:=st;simp only [zJ,zN,or_false] at hb;rcases hb with e | e | e | e | e <;> subst e
  ·exact ⟨_,hz,λv q=>nomatch q⟩
  ·exact ⟨_,dQ,λv q=>nomatch q⟩
  ·exact ⟨_,fz,λv q=>nomatch q⟩
  ·exact ⟨o1,g1,λv q=>by rw [d1] at q;cases q⟩
  ·exact ⟨o2,g2,λv q=>by rw [d2] at q;cases q⟩
 keep:=λi h h' st q=>by
  obtain ⟨hz,dQ,⟨a,c,fz⟩,⟨o1,g1,r1⟩,⟨o2,g2,r2⟩⟩:=st;exact ⟨q z (by simp) _ hz,q TI (by simp) _ dQ,⟨a,c,q TO (by simp) _ fz⟩,⟨o1,q i1 (by simp) o1 g1,r1⟩,⟨o2,q i2 (by simp) o2 g2,r2⟩⟩
 item:=by
  intro X hP hw hK hc i ai s σ H E I hf st hg;subst hP hw hK;obtain ⟨xs,ys,x,y,nE,nC,el,hx,hy⟩:=hg;obtain ⟨cQ,t6,p1,jx⟩:=I.list nE;obtain ⟨cG,tZ,p2,uT⟩:=I.tuple nC;obtain ⟨u,hu,ru⟩:=t6.get hx;obtain ⟨v,hv,rv⟩:=tZ.get hy;obtain ⟨hZ,dQ,⟨a0,c0,fz⟩,mD,jW⟩:=st;have t1:s.heap.IsList l1 cQ.toArray:=p1.isList;have t2:s.heap.IsTuple l2 cG.toArray:=p2;have fp:=λb hb=>hf b hb;have lt:∀ b,b∈[z,TI,TO,i1,i2]->b < s.heap.objs.size:=λb hb=>by
   simp only [zJ,zN,or_false] at hb;rcases hb with e | e | e | e | e <;> subst e
   ·exact Heap.lt_size hZ
   ·exact Heap.lt_size dQ
   ·exact Heap.lt_size fz
   ·exact let ⟨_,z,_⟩:=mD;Heap.lt_size z
   ·exact let ⟨_,z,_⟩:=jW;Heap.lt_size z
  have ll1:l1 < s.heap.objs.size:=let ⟨_,z,_⟩:=t1;Heap.lt_size z;have ll2:l2 < s.heap.objs.size:=let ⟨_,z,_⟩:=t2;Heap.lt_size z;have e1:=t6.length;have e2:=tZ.length;have ix:=(zH.mp hu).1;refine pR (ZD.mix (A:=X.A.in1) (I.ok.hd hc) ap a1 a2 (xs:=cQ.toArray) (ys:=cG.toArray) (by simp;omega)) (by simpa using ix) hZ dQ fz ⟨mD,t1⟩ ⟨jW,t2⟩ (λu' v' h1 tk hu' Oi XD OC MH lN hT Xi hk=>?_) (λb hb=>?_) (λb hb=>?_)
  rotate_left
  ·simp only [zJ,zN,or_false] at hb;rcases hb with e | e
   ·rw [e];exact lt i1 (by simp)
   ·rw [e];exact ll1
  ·simp only [zJ,zN,or_false] at hb;rcases hb with e | e
   ·rw [e];exact lt i2 (by simp)
   ·rw [e];exact ll2
  obtain rfl:u=u':=by
   have q:cQ.toArray[i]?=some u:=by simpa using hu
   exact Option.some.inj (q.symm.trans hu')
  obtain rfl:v=v':=by
   have q:cG.toArray[i]?=some v:=by simpa using hv
   exact Option.some.inj (q.symm.trans Oi)
  refine ⟨_,rfl,?_⟩;refine wpAny_letOwnedTupleGo_zip XD λh2 XC cL=>?_
  replace cL:Heap.SameBut z h1 h2:=cL
  obtain ⟨n1,n2,n3,n4,n5,n6,n7,n8,n9,N1⟩:=ap;have bu:∀ b o,b ∉ [z,TO,i1,i2]->s.heap.get? b=some o->h2.get? b=some o:=λb o hb q=>by
   simp only [zJ,zN,or_false,not_or] at hb;exact cL.extBut b o hb.1 (hk b o hb.1 hb.2.1 hb.2.2.1 hb.2.2.2 q)
  have OD:h2.get? s.heap.objs.size=some { cls:=.type "tuple", data:=.seq #[u,v] }:=cL.extBut _ _ (yS (lt z (by simp))) hT;have nT:H s.heap.objs.size=none:=I.bq.fresh (zI _);have sub:∀ b,b∈[z,TO,i1,i2]->b∈[z,TI,TO,i1,i2]:=λb hb=>by
   simp only [zJ,zN,or_false] at hb ⊢;rcases hb with e | e | e | e <;> simp [e]
  refine ⟨.ref s.heap.objs.size,upd H s.heap.objs.size (.tup [x,y]),?_,rfl,⟨_,x,y,nT,rfl,rfl,λys' zs' h1 h2=>by rw [I.fX h1 nE,I.gn h2 nC];exact ⟨hx,hy⟩⟩,⟨XC,?_,⟨u,v,?_⟩,?_,?_⟩,λb hb=>?_⟩
  ·refine Inv.step (s:=s) (h':=h2) (g':=s.gens) (d':=s.drawn) (t':=tk) (ch:=[z,TO,i1,i2]) I (λb hb=>?_) (λb o _ _ hb q _=>bu b o hb q) (λb o _ _ hb q _=>⟨o.slots,bu b o hb q⟩)
    (λb o _ q n=>by rw [xt (zW (Heap.lt_size q))];exact n) (λb o hb q=>⟨o,bu b o hb q⟩)
    (λb ys q=>by rw [xt (xk q nT)];exact q) (λb o v q=>by rw [xt (xk q nT)];exact q) (λb ps q=>⟨#[],by rw [xt (xk q nT),q];simp⟩)
    (λm hm=>by
     obtain ⟨o,iw,ep,q,r⟩:=hm;exact ⟨o,iw,ep,bu _ o (λhb=>(fp _ (sub _ hb)).2.1 rfl) q,r⟩) (λb v' q=>?_) I.bare
   ·obtain ⟨e0,e1,e2,e3,e4,e5⟩:=fp b (sub b hb);exact ⟨e3,e1,e4,e5⟩
   ·by_cases hb:b=s.heap.objs.size
    ·subst hb;rw [xj] at q;cases q;exact ⟨⟨by show 2<=sizeLine;rw [sizeLine_eq];decide,λob e=>by rw [OD] at e;cases e;rfl⟩,[u,v],.cons ru (.cons rv .nil),⟨_,OD,rfl,_,rfl⟩⟩
    ·rw [xt hb] at q;refine (I.bq b v' q).fP (λc ob hc qc=>bu c ob (λhb=>?_) qc) (λc qc=>by rw [xt (xk qc nT)];exact qc) λc ys qc=>by rw [xt (xk qc nT)];exact qc
     have e0:=(fp c (sub c hb)).1;rcases hc with z | z
     ·subst z;exact xk q e0 rfl
     ·exact xk z e0 rfl
  ·exact bu _ _ (by simp only [zJ,zN,or_false,not_or];exact ⟨n1,n5,n6,n7⟩) dQ
  ·exact cL.extBut _ _ n2 OC
  ·obtain ⟨o,q,r⟩:=MH.1;exact ⟨o,cL.extBut i1 o n3 q,r⟩
  ·obtain ⟨o,q,r⟩:=lN.1;exact ⟨o,cL.extBut i2 o n4 q,r⟩
  ·rw [xt (zW (lt b hb))];exact (fp b hb).1
 done:=by
  intro X hP hw hK hc i ai s σ H E I hf st hg;subst hP hw hK;obtain ⟨xs,ys,nE,nC,el,hx⟩:=hg;obtain ⟨cQ,t6,p1,jx⟩:=I.list nE;obtain ⟨cG,tZ,p2,uT⟩:=I.tuple nC;obtain ⟨hZ,dQ,⟨a0,c0,fz⟩,mD,jW⟩:=st;have t1:s.heap.IsList l1 cQ.toArray:=p1.isList;have l1':=t6.length;have l2':=tZ.length;have en:i=cQ.toArray.size:=by simp;omega
  subst en;have sub:∀ b,b∈[z,TO,i1,i2]->b∈[z,TI,TO,i1,i2]:=λb hb=>by
   simp only [zJ,zN,or_false] at hb ⊢;rcases hb with e | e | e | e <;> simp [e]
  refine vL (ZD.mix (A:=X.A.in1) (I.ok.hd hc) ap a1 a2 (xs:=cQ.toArray) (ys:=cG.toArray) (by simp;omega)) hZ dQ fz ⟨mD,t1⟩ λh' hk=>⟨rfl,?_⟩;have bu:∀ b o,b ∉ [z,TO,i1,i2]->s.heap.get? b=some o->h'.get? b=some o:=λb o hb q=>by
   simp only [zJ,zN,or_false,not_or] at hb;exact hk b o hb.1 hb.2.1 hb.2.2.1 hb.2.2.2 q
  refine Inv.step (s:=s) (h':=h') (g':=s.gens) (d':=s.drawn) (t':=s.toks) (ch:=[z,TO,i1,i2]) I (λb hb=>?_) (λb o _ _ hb q _=>bu b o hb q) (λb o _ _ hb q _=>⟨o.slots,bu b o hb q⟩)
    (λb o _ q n=>n) (λb o hb q=>⟨o,bu b o hb q⟩)
    (λb ys q=>q) (λb o v q=>q) (λb ps q=>⟨#[],by rw [q];simp⟩)
    (λm hm=>by
     obtain ⟨o,iw,ep,q,r⟩:=hm;exact ⟨o,iw,ep,bu _ o (λhb=>(hf _ (sub _ hb)).2.1 rfl) q,r⟩) (λb v' q=>?_) I.bare
  ·obtain ⟨e0,e1,e2,e3,e4,e5⟩:=hf b (sub b hb);exact ⟨e3,e1,e4,e5⟩
  ·refine (I.bq b v' q).fP (λc ob hc qc=>bu c ob (λhb=>?_) qc) (λc qc=>qc) λc ys qc=>qc;have e0:=(hf c (sub c hb)).1;rcases hc with z | z
   ·subst z;exact xk q e0 rfl
   ·exact xk z e0 rfl
 self:=λ_ _ _ _ _ st h=>wpAny_pyIter_zip st.1 h
def WZ (K:PySem.W.Frag)(ta:TA):TI:=fun σ H R=>ta σ H λvs H1=>∃ a b,vs=[.ref a,.ref b]/\(∃ xs,aB K H1 a xs)/\(∃ ys,aW K H1 b ys)/\R (UW K a b) H1
theorem KG {X:Cx}{a b:Expr}{ta:TA}{p pos uC:Pos}{es:List Expr}{k:Nat}{K:PySem.W.Frag}(hK:X.K=K)(hg:Gl X "zip")(hm:X.mg "zip" = none)(ha:PA X [a,b] ta)
  (hs:starEach [a,b] X.env=(false,eval a X.env)::starEach [b] X.env:=by rfl) (lN:starEach [b] X.env=[(false,eval b X.env)]:=by rfl) :
  PI X (.Tuple es k uC) (.Call (.Name "zip" p) [a,b] [] pos) (WZ K ta):=by
 subst hK;intro ai s σ H R I h;refine Call_ (fc I hg hm boot_zip (yM (aR (ha pos ai s σ H _ I h) λus s1 ⟨vs,H1,I1,r1,q1⟩=>?_) (by rw [hs,lN]) (by rw [lN];rfl)));obtain ⟨l1,l2,e,⟨xs,nE⟩,⟨ys,nC⟩,q⟩:=q1;subst e;cases r1 with
 | cons r rr=>
  cases rr with
  | cons r' rr=>
   cases rr;cases r;cases r';obtain ⟨cQ,t6,p1,jx⟩:=I1.list nE;obtain ⟨cG,tZ,p2,uT⟩:=I1.tuple nC;have t1:s1.heap.IsList l1 cQ.toArray:=p1.isList;have t2:s1.heap.IsTuple l2 cG.toArray:=p2;have QH:l1 < s1.heap.objs.size:=let ⟨_,z,_⟩:=t1;Heap.lt_size z;have QG:l2 < s1.heap.objs.size:=let ⟨_,z,_⟩:=t2;Heap.lt_size z;refine callType_new F.called_zip (by decide) (F.typeCall_zip_2 _ _) (F.newCall_zip_2 _ _) (λobj=>F.args_object_init_3 obj _ _) F.entry_zip_new (MT l1 l2 cQ.toArray cG.toArray) ⟨t1,t2,λh' hZ dQ fz mD jW hk=>⟨⟨_,hZ,rfl⟩,?_⟩⟩;refine wpAny_pyIter_zip hZ ?_;have I2:Inv X ai σ H1 { s1 with heap:=h' }:=I1.kept (t':=s1.toks) hk;refine ⟨s1.heap.objs.size + 4,[s1.heap.objs.size + 4,s1.heap.objs.size + 2,s1.heap.objs.size + 3,s1.heap.objs.size,s1.heap.objs.size + 1],_,_,H1,rfl,I2,Li l1 l2 _ _ _ _ _ ?_ ?_ ?_,⟨hZ,dQ,⟨_,_,fz⟩,mD,jW⟩,λb hb=>?_,q⟩
   ·have z:=zipApart_new QH QG;exact ⟨z.TIz,z.TOz,z.i1z,z.i2z,z.TITO,z.TIi1,z.TIi2,z.TOi1,z.TOi2,z.i12⟩
   ·intro x hx;have z:=zipApart_new QH QG;simp only [zJ,zN,or_false] at hx;rcases hx with e | e | e | e <;> subst e
    ·exact z.l1z
    ·exact z.l1TO
    ·exact z.l1i1
    ·exact z.l1i2
   ·intro x hx;have z:=zipApart_new QH QG;simp only [zJ,zN,or_false] at hx;rcases hx with e | e | e | e <;> subst e
    ·exact z.l2z
    ·exact z.l2TO
    ·exact z.l2i1
    ·exact z.l2i2
   ·have oX:s1.heap.objs.size<=b:=by
     simp only [zJ,zN,or_false] at hb;rcases hb with e | e | e | e | e <;> rw [e] <;> first | exact zI _ | exact xS _ _
    exact I1.oY oX (I1.bq.fresh oX)
section
variable {K:PySem.W.Frag}{a b:Addr}{xs ys:List V}{n:Nat}{caps:List Nat}{g:TG}{tc:TT}{te:TE}{σ:St}{H:Hp}{Qf:Addr->Hp->List V->Prop}
theorem Mr (el:xs.length=ys.length)(Pv:Nat->St->List V->Hp->Prop)(h0:Pv 0 (dw n caps σ) [] H)(hn:xs.length<=1000)(hl:∀ i τ acc H,Pv i τ acc H->acc.length<=i/\aB K H a xs/\aW K H b ys)
  (hs:∀ i x y q τ acc H (C:St->List V->Hp->Prop),xs[i]?=some x->ys[i]?=some y->H q=none->Pv i τ acc H->(∀ τ acc H,Pv (i + 1) τ acc H->C τ acc H)->g (.ref q) τ (upd H q (.tup [x,y])) fun bC H2=>tc bC H2 λb H3=>if b=true then te bC H3 λy H4=>C bC (acc++[y]) H4 else C bC acc H3)
  (hd:∀ τ acc H,Pv xs.length τ acc H->∀ p,H p=none->Qf p H acc) :
  ∃ W:Nat->Nat->St->List V->Hp->Prop,(∃ m,W 0 m (dw n caps σ) [] H)/\∀ i m τ acc H,W i m τ acc H ->
   ((UW K a b).stop i H/\acc.length<=sizeLine/\∀ p,H p=none->Qf p H acc) \/
   ((UW K a b).go i H/\acc.length < sizeLine/\∀ x H',(UW K a b).mF i H x H'->g x τ H' fun bC H2=>tc bC H2 λb H3=>if b=true then te bC H3 λy H4=>∃ m',m' < m/\W (i + 1) m' bC (acc++[y]) H4 else ∃ m',m' < m/\W (i + 1) m' bC acc H3):=
 i9 (J:=UW K a b) Pv xs.length h0 hn (λi τ acc H p=>(hl i τ acc H p).1) (λi τ acc H hi p=>⟨xs,ys,xs[i],ys[i]'(by omega),(hl i τ acc H p).2.1,(hl i τ acc H p).2.2,el,by simp [hi],by simp [<-el,hi]⟩) (fun τ acc H p=>⟨xs,ys,(hl _ τ acc H p).2.1,(hl _ τ acc H p).2.2,el,rfl⟩)
  (λi τ acc H C hi p c x H' y=>by obtain ⟨q,x',y',hq,e1,e2,y⟩:=y;subst e1;subst e2;exact hs i x' y' q τ acc _ C (y xs ys (hl i τ acc _ p).2.1 (hl i τ acc _ p).2.2).1 (y xs ys (hl i τ acc _ p).2.1 (hl i τ acc _ p).2.2).2 hq p c) hd
end
theorem MS (l1 l2:Addr)(xs ys:Array Value) :
  Meets (Builtin.«zip.__new__» ⟨[.type "zip", .ref l1,.ref l2],[]⟩) (λ_ R s=>s.heap.IsTuple l1 xs/\s.heap.IsList l2 ys /\
   ∀ h':Heap,IsZip h' (s.heap.objs.size + 4) (s.heap.objs.size + 2) (s.heap.objs.size + 3) .none->IsPair h' (s.heap.objs.size + 2) (.ref s.heap.objs.size) (.ref (s.heap.objs.size + 1)) ->
   IsPair h' (s.heap.objs.size + 3) .none .none->h'.IsTupleIter s.heap.objs.size l1 0->h'.IsListIter (s.heap.objs.size + 1) l2 0 -> 
   (∀ c o,s.heap.get? c=some o->h'.get? c=some o)->R (.ok (.ret (.ref (s.heap.objs.size + 4)))) { s with heap:=h' }):=
 .of_wp λprog w A R s h=>by
  obtain ⟨hp,g,d,tk,os⟩:=s;obtain ⟨Ou,MJ,h⟩:=h;have Ub:=sub_zip;have hL1:Heap.IsTuple (Shared.heap ⟨hp,g,d,tk,os⟩) l1 xs:=Ou;have hL2:Heap.IsList (Shared.heap ⟨hp.push { cls:=.type "tuple_iterator", data:=.fields #[.ref l1,.int 0 0] },g,d,tk,os⟩) l2 ys:=let ⟨o,e,r⟩:=MJ;⟨o,Heap.get?_push_of_some _ e,r⟩;wp_walk using wpAny_pyIter_tuple hL1,wpAny_pyIter_list hL2;refine ⟨_,rfl,?_⟩;have sp:∀ (h:Heap) (o:Obj),(h.push o).objs.size=h.objs.size + 1:=λh o=>Heap.size_push ..;have h':=h (((((hp.push { cls:=.type "tuple_iterator", data:=.fields #[.ref l1,.int 0 0] }).push { cls:=.type "list_iterator", data:=.fields #[.ref l2,.int 0 0] }).push { cls:=.type "tuple", data:=.seq #[.ref hp.objs.size,.ref (hp.objs.size + 1)] }).push { cls:=.type "tuple", data:=.seq #[.none,.none] }).push { cls:=.type "zip", data:=.fields #[.none,.bool false,.bool false,.ref (hp.objs.size + 2),.ref (hp.objs.size + 3)] })
   (by show Heap.get? _ (hp.objs.size + 4)=_;rw [show hp.objs.size + 4=((((hp.push { cls:=.type "tuple_iterator", data:=.fields #[.ref l1,.int 0 0] }).push { cls:=.type "list_iterator", data:=.fields #[.ref l2,.int 0 0] }).push { cls:=.type "tuple", data:=.seq #[.ref hp.objs.size,.ref (hp.objs.size + 1)] }).push { cls:=.type "tuple", data:=.seq #[.none,.none] }).objs.size from by simp only [sp]];exact Heap.get?_push_size _ rfl)
   (by
    refine Heap.get?_push_of_some _ (Heap.get?_push_of_some _ ?_);show Heap.get? _ (hp.objs.size + 2)=_;rw [show hp.objs.size + 2=((hp.push { cls:=.type "tuple_iterator", data:=.fields #[.ref l1,.int 0 0] }).push { cls:=.type "list_iterator", data:=.fields #[.ref l2,.int 0 0] }).objs.size from by simp only [sp]];exact Heap.get?_push_size _ rfl)
   (by
    refine Heap.get?_push_of_some _ ?_;show Heap.get? _ (hp.objs.size + 3)=_;rw [show hp.objs.size + 3=(((hp.push { cls:=.type "tuple_iterator", data:=.fields #[.ref l1,.int 0 0] }).push { cls:=.type "list_iterator", data:=.fields #[.ref l2,.int 0 0] }).push { cls:=.type "tuple", data:=.seq #[.ref hp.objs.size,.ref (hp.objs.size + 1)] }).objs.size from by simp only [sp]];exact Heap.get?_push_size _ rfl)
   ⟨_,Heap.get?_push_of_some _ (Heap.get?_push_of_some _ (Heap.get?_push_of_some _ (Heap.get?_push_of_some _ (Heap.get?_push_size _ rfl)))),rfl,rfl⟩
   ⟨{ cls:=.type "list_iterator", data:=.fields #[.ref l2,.int 0 0] },(by
    refine Heap.get?_push_of_some _ (Heap.get?_push_of_some _ (Heap.get?_push_of_some _ ?_));show Heap.get? _ (hp.objs.size + 1)=_;rw [show hp.objs.size + 1=(hp.push { cls:=.type "tuple_iterator", data:=.fields #[.ref l1,.int 0 0] }).objs.size from by simp only [sp]];exact Heap.get?_push_size _ rfl),rfl,rfl⟩
   (λc o x=>Heap.get?_push_of_some _ (Heap.get?_push_of_some _ (Heap.get?_push_of_some _ (Heap.get?_push_of_some _ (Heap.get?_push_of_some _ x)))))
  simp only [sp] at h' ⊢;exact h'
section
variable {prog:Program}{w:World}{A:Around}{E:Value->Shared->Prop}{s:Shared}
variable {z TI TO i1 i2:Addr} {K5 mP:List Addr}{n:Nat} {P1 P2:Nat->Value->Prop} {S1 S2:Nat->Heap->Prop}
theorem ZD.Ws {l1 l2:Addr}(hh:A.handled=none)(ne:TI≠z/\TO≠z/\i1≠z/\i2≠z/\TI≠TO/\TI≠i1/\TI≠i2/\TO≠i1/\TO≠i2/\i1≠i2)(a1:∀ x∈[z,TO,i1,i2],l1≠x)(a2:∀ x∈[z,TO,i1,i2],l2≠x){xs ys:Array Value}(hs:ys.size=xs.size) :
  ZD prog w A z TI TO i1 i2 [i1,l1] [i2,l2] xs.size (λi v=>xs[i]?=some v) (λi v=>ys[i]?=some v) (λi h=>h.IsTupleIter i1 l1 i/\h.IsTuple l1 xs) (λi h=>h.IsListIter i2 l2 i/\h.IsList l2 ys) where
 d1:=vm hh i1 l1 (a1 _ (by simp)) xs
 d2:=hs ▸ Draws.list hh i2 l2 (a2 _ (by simp)) ys
 ne:=ne
 f1:=by
  obtain ⟨n1,n2,n3,n4,n5,n6,n7,n8,n9,N1⟩:=ne;have b1:=a1 z (by simp);have b2:=a1 TO (by simp);have b3:=a1 i2 (by simp);simp only [zJ,zN,or_false,not_or];exact ⟨⟨n3.symm,b1.symm⟩,⟨n8,b2.symm⟩,N1.symm,b3.symm⟩
 f2:=by
  obtain ⟨n1,n2,n3,n4,n5,n6,n7,n8,n9,N1⟩:=ne;have b1:=a2 z (by simp);have b2:=a2 TO (by simp);have b3:=a2 i1 (by simp);simp only [zJ,zN,or_false,not_or];exact ⟨⟨n4.symm,b1.symm⟩,⟨n9,b2.symm⟩,N1,b3.symm⟩
end
def X7 (K:PySem.W.Frag)(a b:Addr):It:=
 ⟨λi H=>∃ xs ys x y,aW K H a xs/\aB K H b ys/\xs.length=ys.length/\xs[i]?=some x/\ys[i]?=some y,λi H v H'=>∃ p x y,H p=none/\v=.ref p/\H'=upd H p (.tup [x,y])/\∀ xs ys,aW K H a xs->aB K H b ys->xs[i]?=some x/\ys[i]?=some y,
  λi H=>∃ xs ys,aW K H a xs/\aB K H b ys/\xs.length=ys.length/\xs.length=i⟩
theorem Lg {P:Program}{w:World}{K:PySem.W.Frag}{es:List Expr}{k:Nat}{pos:Pos}(l1 l2 z TI TO i1 i2:Addr)(ap:ZN z TI TO i1 i2)(a1:∀ x∈[z,TO,i1,i2],l1≠x)(a2:∀ x∈[z,TO,i1,i2],l2≠x) :
  Turn P w K (.Tuple es k pos) (X7 K l1 l2) [z,TI,TO,i1,i2] z (λi h=>IsZip h z TI TO .none/\IsPair h TI (.ref i1) (.ref i2)/\(∃ a b,IsPair h TO a b)/\h.IsTupleIter i1 l1 i/\h.IsListIter i2 l2 i) where
 mem:=by simp
 obj:=λi h st b hb=>by
  obtain ⟨hz,dQ,⟨a,c,fz⟩,⟨o1,g1,c1,d1⟩,⟨o2,g2,c2,d2⟩⟩:=st;simp only [zJ,zN,or_false] at hb;rcases hb with e | e | e | e | e <;> subst e
  ·exact ⟨_,hz,λv q=>nomatch q⟩
  ·exact ⟨_,dQ,λv q=>nomatch q⟩
  ·exact ⟨_,fz,λv q=>nomatch q⟩
  ·exact ⟨o1,g1,λv q=>by rw [d1] at q;cases q⟩
  ·exact ⟨o2,g2,λv q=>by rw [d2] at q;cases q⟩
 keep:=λi h h' st q=>by
  obtain ⟨hz,dQ,⟨a,c,fz⟩,⟨o1,g1,r1⟩,⟨o2,g2,r2⟩⟩:=st;exact ⟨q z (by simp) _ hz,q TI (by simp) _ dQ,⟨a,c,q TO (by simp) _ fz⟩,⟨o1,q i1 (by simp) o1 g1,r1⟩,⟨o2,q i2 (by simp) o2 g2,r2⟩⟩
 item:=by
  intro X hP hw hK hc i ai s σ H E I hf st hg;subst hP hw hK;obtain ⟨xs,ys,x,y,nE,nC,el,hx,hy⟩:=hg;obtain ⟨cQ,t6,p1,jx⟩:=I.tuple nE;obtain ⟨cG,tZ,p2,uT⟩:=I.list nC;obtain ⟨u,hu,ru⟩:=t6.get hx;obtain ⟨v,hv,rv⟩:=tZ.get hy;obtain ⟨hZ,dQ,⟨a0,c0,fz⟩,mD,jW⟩:=st;have t1:s.heap.IsTuple l1 cQ.toArray:=p1;have t2:s.heap.IsList l2 cG.toArray:=p2.isList;have fp:=λb hb=>hf b hb;have lt:∀ b,b∈[z,TI,TO,i1,i2]->b < s.heap.objs.size:=λb hb=>by
   simp only [zJ,zN,or_false] at hb;rcases hb with e | e | e | e | e <;> subst e
   ·exact Heap.lt_size hZ
   ·exact Heap.lt_size dQ
   ·exact Heap.lt_size fz
   ·exact let ⟨_,z,_⟩:=mD;Heap.lt_size z
   ·exact let ⟨_,z,_⟩:=jW;Heap.lt_size z
  have ll1:l1 < s.heap.objs.size:=let ⟨_,z,_⟩:=t1;Heap.lt_size z;have ll2:l2 < s.heap.objs.size:=let ⟨_,z,_⟩:=t2;Heap.lt_size z;have e1:=t6.length;have e2:=tZ.length;have ix:=(zH.mp hu).1;refine pR (ZD.Ws (A:=X.A.in1) (I.ok.hd hc) ap a1 a2 (xs:=cQ.toArray) (ys:=cG.toArray) (by simp;omega)) (by simpa using ix) hZ dQ fz ⟨mD,t1⟩ ⟨jW,t2⟩ (λu' v' h1 tk hu' Oi XD OC MH lN hT Xi hk=>?_) (λb hb=>?_) (λb hb=>?_)
  rotate_left
  ·simp only [zJ,zN,or_false] at hb;rcases hb with e | e
   ·rw [e];exact lt i1 (by simp)
   ·rw [e];exact ll1
  ·simp only [zJ,zN,or_false] at hb;rcases hb with e | e
   ·rw [e];exact lt i2 (by simp)
   ·rw [e];exact ll2
  obtain rfl:u=u':=by
   have q:cQ.toArray[i]?=some u:=by simpa using hu
   exact Option.some.inj (q.symm.trans hu')
  obtain rfl:v=v':=by
   have q:cG.toArray[i]?=some v:=by simpa using hv
   exact Option.some.inj (q.symm.trans Oi)
  refine ⟨_,rfl,?_⟩;refine wpAny_letOwnedTupleGo_zip XD λh2 XC cL=>?_
  replace cL:Heap.SameBut z h1 h2:=cL
  obtain ⟨n1,n2,n3,n4,n5,n6,n7,n8,n9,N1⟩:=ap;have bu:∀ b o,b ∉ [z,TO,i1,i2]->s.heap.get? b=some o->h2.get? b=some o:=λb o hb q=>by
   simp only [zJ,zN,or_false,not_or] at hb;exact cL.extBut b o hb.1 (hk b o hb.1 hb.2.1 hb.2.2.1 hb.2.2.2 q)
  have OD:h2.get? s.heap.objs.size=some { cls:=.type "tuple", data:=.seq #[u,v] }:=cL.extBut _ _ (yS (lt z (by simp))) hT;have nT:H s.heap.objs.size=none:=I.bq.fresh (zI _);have sub:∀ b,b∈[z,TO,i1,i2]->b∈[z,TI,TO,i1,i2]:=λb hb=>by
   simp only [zJ,zN,or_false] at hb ⊢;rcases hb with e | e | e | e <;> simp [e]
  refine ⟨.ref s.heap.objs.size,upd H s.heap.objs.size (.tup [x,y]),?_,rfl,⟨_,x,y,nT,rfl,rfl,λys' zs' h1 h2=>by rw [I.gn h1 nE,I.fX h2 nC];exact ⟨hx,hy⟩⟩,⟨XC,?_,⟨u,v,?_⟩,?_,?_⟩,λb hb=>?_⟩
  ·refine Inv.step (s:=s) (h':=h2) (g':=s.gens) (d':=s.drawn) (t':=tk) (ch:=[z,TO,i1,i2]) I (λb hb=>?_) (λb o _ _ hb q _=>bu b o hb q) (λb o _ _ hb q _=>⟨o.slots,bu b o hb q⟩)
    (λb o _ q n=>by rw [xt (zW (Heap.lt_size q))];exact n) (λb o hb q=>⟨o,bu b o hb q⟩)
    (λb ys q=>by rw [xt (xk q nT)];exact q) (λb o v q=>by rw [xt (xk q nT)];exact q) (λb ps q=>⟨#[],by rw [xt (xk q nT),q];simp⟩)
    (λm hm=>by
     obtain ⟨o,iw,ep,q,r⟩:=hm;exact ⟨o,iw,ep,bu _ o (λhb=>(fp _ (sub _ hb)).2.1 rfl) q,r⟩) (λb v' q=>?_) I.bare
   ·obtain ⟨e0,e1,e2,e3,e4,e5⟩:=fp b (sub b hb);exact ⟨e3,e1,e4,e5⟩
   ·by_cases hb:b=s.heap.objs.size
    ·subst hb;rw [xj] at q;cases q;exact ⟨⟨by show 2<=sizeLine;rw [sizeLine_eq];decide,λob e=>by rw [OD] at e;cases e;rfl⟩,[u,v],.cons ru (.cons rv .nil),⟨_,OD,rfl,_,rfl⟩⟩
    ·rw [xt hb] at q;refine (I.bq b v' q).fP (λc ob hc qc=>bu c ob (λhb=>?_) qc) (λc qc=>by rw [xt (xk qc nT)];exact qc) λc ys qc=>by rw [xt (xk qc nT)];exact qc
     have e0:=(fp c (sub c hb)).1;rcases hc with z | z
     ·subst z;exact xk q e0 rfl
     ·exact xk z e0 rfl
  ·exact bu _ _ (by simp only [zJ,zN,or_false,not_or];exact ⟨n1,n5,n6,n7⟩) dQ
  ·exact cL.extBut _ _ n2 OC
  ·obtain ⟨o,q,r⟩:=MH.1;exact ⟨o,cL.extBut i1 o n3 q,r⟩
  ·obtain ⟨o,q,r⟩:=lN.1;exact ⟨o,cL.extBut i2 o n4 q,r⟩
  ·rw [xt (zW (lt b hb))];exact (fp b hb).1
 done:=by
  intro X hP hw hK hc i ai s σ H E I hf st hg;subst hP hw hK;obtain ⟨xs,ys,nE,nC,el,hx⟩:=hg;obtain ⟨cQ,t6,p1,jx⟩:=I.tuple nE;obtain ⟨cG,tZ,p2,uT⟩:=I.list nC;obtain ⟨hZ,dQ,⟨a0,c0,fz⟩,mD,jW⟩:=st;have t1:s.heap.IsTuple l1 cQ.toArray:=p1;have l1':=t6.length;have l2':=tZ.length;have en:i=cQ.toArray.size:=by simp;omega
  subst en;have sub:∀ b,b∈[z,TO,i1,i2]->b∈[z,TI,TO,i1,i2]:=λb hb=>by
   simp only [zJ,zN,or_false] at hb ⊢;rcases hb with e | e | e | e <;> simp [e]
  refine vL (ZD.Ws (A:=X.A.in1) (I.ok.hd hc) ap a1 a2 (xs:=cQ.toArray) (ys:=cG.toArray) (by simp;omega)) hZ dQ fz ⟨mD,t1⟩ λh' hk=>⟨rfl,?_⟩;have bu:∀ b o,b ∉ [z,TO,i1,i2]->s.heap.get? b=some o->h'.get? b=some o:=λb o hb q=>by
   simp only [zJ,zN,or_false,not_or] at hb;exact hk b o hb.1 hb.2.1 hb.2.2.1 hb.2.2.2 q
  refine Inv.step (s:=s) (h':=h') (g':=s.gens) (d':=s.drawn) (t':=s.toks) (ch:=[z,TO,i1,i2]) I (λb hb=>?_) (λb o _ _ hb q _=>bu b o hb q) (λb o _ _ hb q _=>⟨o.slots,bu b o hb q⟩)
    (λb o _ q n=>n) (λb o hb q=>⟨o,bu b o hb q⟩)
    (λb ys q=>q) (λb o v q=>q) (λb ps q=>⟨#[],by rw [q];simp⟩)
    (λm hm=>by
     obtain ⟨o,iw,ep,q,r⟩:=hm;exact ⟨o,iw,ep,bu _ o (λhb=>(hf _ (sub _ hb)).2.1 rfl) q,r⟩) (λb v' q=>?_) I.bare
  ·obtain ⟨e0,e1,e2,e3,e4,e5⟩:=hf b (sub b hb);exact ⟨e3,e1,e4,e5⟩
  ·refine (I.bq b v' q).fP (λc ob hc qc=>bu c ob (λhb=>?_) qc) (λc qc=>qc) λc ys qc=>qc;have e0:=(hf c (sub c hb)).1;rcases hc with z | z
   ·subst z;exact xk q e0 rfl
   ·exact xk z e0 rfl
 self:=λ_ _ _ _ _ st h=>wpAny_pyIter_zip st.1 h
def WY (K:PySem.W.Frag)(ta:TA):TI:=fun σ H R=>ta σ H λvs H1=>∃ a b,vs=[.ref a,.ref b]/\(∃ xs,aW K H1 a xs)/\(∃ ys,aB K H1 b ys)/\R (X7 K a b) H1
theorem Qx {X:Cx}{a b:Expr}{ta:TA}{p pos uC:Pos}{es:List Expr}{k:Nat}{K:PySem.W.Frag}(hK:X.K=K)(hg:Gl X "zip")(hm:X.mg "zip" = none)(ha:PA X [a,b] ta)
  (hs:starEach [a,b] X.env=(false,eval a X.env)::starEach [b] X.env:=by rfl) (lN:starEach [b] X.env=[(false,eval b X.env)]:=by rfl) :
  PI X (.Tuple es k uC) (.Call (.Name "zip" p) [a,b] [] pos) (WY K ta):=by
 subst hK;intro ai s σ H R I h;refine Call_ (fc I hg hm boot_zip (yM (aR (ha pos ai s σ H _ I h) λus s1 ⟨vs,H1,I1,r1,q1⟩=>?_) (by rw [hs,lN]) (by rw [lN];rfl)));obtain ⟨l1,l2,e,⟨xs,nE⟩,⟨ys,nC⟩,q⟩:=q1;subst e;cases r1 with
 | cons r rr=>
  cases rr with
  | cons r' rr=>
   cases rr;cases r;cases r';obtain ⟨cQ,t6,p1,jx⟩:=I1.tuple nE;obtain ⟨cG,tZ,p2,uT⟩:=I1.list nC;have t1:s1.heap.IsTuple l1 cQ.toArray:=p1;have t2:s1.heap.IsList l2 cG.toArray:=p2.isList;have QH:l1 < s1.heap.objs.size:=let ⟨_,z,_⟩:=t1;Heap.lt_size z;have QG:l2 < s1.heap.objs.size:=let ⟨_,z,_⟩:=t2;Heap.lt_size z;refine callType_new F.called_zip (by decide) (F.typeCall_zip_2 _ _) (F.newCall_zip_2 _ _) (λobj=>F.args_object_init_3 obj _ _) F.entry_zip_new (MS l1 l2 cQ.toArray cG.toArray) ⟨t1,t2,λh' hZ dQ fz mD jW hk=>⟨⟨_,hZ,rfl⟩,?_⟩⟩;refine wpAny_pyIter_zip hZ ?_;have I2:Inv X ai σ H1 { s1 with heap:=h' }:=I1.kept (t':=s1.toks) hk;refine ⟨s1.heap.objs.size + 4,[s1.heap.objs.size + 4,s1.heap.objs.size + 2,s1.heap.objs.size + 3,s1.heap.objs.size,s1.heap.objs.size + 1],_,_,H1,rfl,I2,Lg l1 l2 _ _ _ _ _ ?_ ?_ ?_,⟨hZ,dQ,⟨_,_,fz⟩,mD,jW⟩,λb hb=>?_,q⟩
   ·have z:=zipApart_new QH QG;exact ⟨z.TIz,z.TOz,z.i1z,z.i2z,z.TITO,z.TIi1,z.TIi2,z.TOi1,z.TOi2,z.i12⟩
   ·intro x hx;have z:=zipApart_new QH QG;simp only [zJ,zN,or_false] at hx;rcases hx with e | e | e | e <;> subst e
    ·exact z.l1z
    ·exact z.l1TO
    ·exact z.l1i1
    ·exact z.l1i2
   ·intro x hx;have z:=zipApart_new QH QG;simp only [zJ,zN,or_false] at hx;rcases hx with e | e | e | e <;> subst e
    ·exact z.l2z
    ·exact z.l2TO
    ·exact z.l2i1
    ·exact z.l2i2
   ·have oX:s1.heap.objs.size<=b:=by
     simp only [zJ,zN,or_false] at hb;rcases hb with e | e | e | e | e <;> rw [e] <;> first | exact zI _ | exact xS _ _
    exact I1.oY oX (I1.bq.fresh oX)
section
variable {K:PySem.W.Frag}{a b:Addr}{xs ys:List V}{n:Nat}{caps:List Nat}{g:TG}{tc:TT}{te:TE}{σ:St}{H:Hp}{Qf:Addr->Hp->List V->Prop}
end
theorem OI {K:PySem.W.Frag}{a b:Addr}{xs ys:List V}{g:TG}{tb:TS}{D:Ends}{σ:St}{H:Hp}(el:xs.length=ys.length)(Pv:Nat->St->Hp->Prop)(h0:Pv 0 σ H)(hl:∀ i σ H,i<=xs.length->Pv i σ H->aW K H a xs/\aB K H b ys)
  (hs:∀ i x y q σ H,xs[i]?=some x->ys[i]?=some y->H q=none->Pv i σ H->g (.ref q) σ (upd H q (.tup [x,y])) fun jR H2=>tb (D.lp (Pv (i + 1))) jR H2) (hd:∀ σ H,Pv xs.length σ H->D.nx σ H) :
  ∃ W:Nat->Nat->St->Hp->Prop,(∃ m,W 0 m σ H)/\∀ i m σ H,W i m σ H ->
   ((X7 K a b).stop i H/\D.nx σ H)\/((X7 K a b).go i H/\∃ N:St->Hp->Prop,(∀ bM H',N bM H'->∃ m',m' < m/\W (i + 1) m' bM H')/\∀ x H',(X7 K a b).mF i H x H'->g x σ H' fun jR H2=>tb (D.lp N) jR H2):=by
 refine ⟨λi m σ H=>m=xs.length - i/\i<=xs.length/\Pv i σ H,⟨xs.length,by simp,zo _,h0⟩,?_⟩;rintro i m σ H ⟨rfl,hi,p⟩;obtain ⟨q1,q2⟩:=hl i σ H hi p;by_cases dB:i < xs.length
 ·refine .inr ⟨⟨xs,ys,xs[i],ys[i]'(by omega),q1,q2,el,by simp [dB],by simp [<-el,dB]⟩,Pv (i + 1),fun bM H' p'=>⟨xs.length - (i + 1),by omega,rfl,dB,p'⟩,λx H' y=>?_⟩;obtain ⟨q',x',y',hq,e1,e2,y⟩:=y;subst e1;subst e2;exact hs i x' y' q' σ _ (y xs ys q1 q2).1 (y xs ys q1 q2).2 hq p
 ·have e:i=xs.length:=by omega
  subst e;exact .inl ⟨⟨xs,ys,q1,q2,el,rfl⟩,hd σ H p⟩
theorem qL:∀ (n:Nat) (names:List (Str×NameKind)) (acc:List (Str×Addr)),cellsFrom n names acc=cellsFrom n names []++acc
 | _,[],_=>rfl
 | n,(x,k)::r,acc=>by
  unfold cellsFrom;split
  ·rw [qL (n + 1) r ((x,n)::acc),qL (n + 1) r [(x,n)],xM];rfl
  ·exact qL n r acc
theorem dS:∀ (n:Nat) (names:List (Str×NameKind)) (x:Str) (c:Addr),(x,c)∈cellsFrom n names []->(x,NameKind.cell)∈names
 | _,[],_,_,h=>by simp [cellsFrom] at h
 | n,(y,k)::r,x,c,h=>by
  unfold cellsFrom at h;split at h
  ·rename_i hk;rw [qL] at h;rcases zV.mp h with h | h
   ·exact zU _ (dS _ r x c h)
   ·cases zK.mp h;rw [show k=NameKind.cell by simpa using hk];exact za
  ·exact zU _ (dS _ r x c h)
theorem cE:∀ (n:Nat) (names:List (Str×NameKind)) (x:Str),(x,NameKind.cell)∈names->∃ c,(x,c)∈cellsFrom n names []
 | _,[],_,h=>by simp at h
 | n,(y,k)::r,x,h=>by
  unfold cellsFrom;rcases zJ.mp h with z | z
  ·have e1:x=y:=congrArg Prod.fst z;have e2:NameKind.cell=k:=congrArg Prod.snd z;subst e1 e2;rw [if_pos (show (NameKind.cell == NameKind.cell)=true from rfl),qL];exact ⟨n,zE _ (zK.mpr rfl)⟩
  ·split
   ·obtain ⟨c,h⟩:=cE (n + 1) r x z;rw [qL];exact ⟨c,yD _ h⟩
   ·exact cE n r x z
def Ra (scope:Scope)(env:Env)(C:Addr):List (Str×Addr):=cellsFrom (C + 1) scope.names []++dR scope.names env []
theorem eZ {β:Type}:∀ (l r:List (Str×β)) (x:Str),(l++r).lookup x=(l.lookup x).or (r.lookup x)
 | [],_,_=>rfl
 | (n,d)::l,r,x=>by
  rw [yt,yL,yL];cases x == n with
  | true=>rfl
  | false=>exact eZ l r x
theorem qd {scope:Scope}{env:Env}{C:Addr}{x:Str}{c:Addr}(h:(Ra scope env C).lookup x=some c):(cellsFrom (C + 1) scope.names []).lookup x=some c\/((cellsFrom (C + 1) scope.names []).lookup x=none/\env.cells.lookup x=some c):=by
 unfold Ra at h;rw [eZ] at h;cases z:(cellsFrom (C + 1) scope.names []).lookup x with
 | some d=>rw [z] at h;exact .inl h
 | none=>rw [z] at h;exact .inr ⟨rfl,wf h⟩
structure iF (own:List Str) (caps:List Nat) (N:List Str) (sc scope:Scope):Prop where
 kind:scope.kind=.function
 cel:∀ y∈scope.names,y.2=.cell->scope.names.lookup y.1=some .cell
 loc:∀ y∈scope.names,y.2=.local->scope.names.lookup y.1=some .local
 fr:∀ y∈scope.names,y.2=.free->sc.names.lookup y.1=some .cell\/sc.names.lookup y.1=some .free
 cap:∀ i∈caps,i < N.length/\scope.names.lookup ((N[i]?).getD Str.empty)=some .free
def i7 (X:Cx)(own:List Str)(caps:List Nat)(scope:Scope)(s:Shared)(H:Hp)(fp:List Addr)(C:Addr):Cx:=
 { X with N:=own++caps.map (λi=>(X.N[i]?).getD Str.empty),cO:=s,Mx:=H,env:=compEnvC scope (Ra scope X.env C) C X.env,outer:=X.stack,ex:=fp,fn:=λx=>scope.names.lookup x == some .cell,pn:=[],xe:=λ_ _=>False }
section
variable {M:Model}{A:Around}{E:Value->Shared->Prop}{s:Shared}
theorem dW {scope:Scope}{globals:Addr}{closure:List (Str×Addr)}{qual:Str}{func:Option Addr}{code:Value}{outer:Env}{builtins:Addr}{Q:Env->Shared->Prop}
  (hQ:∀ h':Heap,h'.Ns s.heap.objs.size (λ_=>none)->(∀ b o,s.heap.get? b=some o->h'.get? b=some o)->CellsOk h' (s.heap.objs.size + 1) (cellsFrom (s.heap.objs.size + 1) scope.names []) ->
   Q (newEnv scope s.heap.objs.size globals (cellsFrom (s.heap.objs.size + 1) scope.names []++closure) qual func code (some outer) builtins) { s with heap:=h' }) :
  wpAny M A (newFunctionEnv scope globals closure [] qual func code (some outer) builtins) Q E s:=by
 simp only [newFunctionEnv,Option.isSome_some,if_true];refine wpAny_bind (wpAny_alloc ?_);refine wpAny_bind (wpAny_layCells _ (λname kind cells=>by cases hkc:kind == NameKind.cell <;> simp [hkc]) _ _ _ _ ?_);have ok:=cellsFrom_ok scope.names (s.heap.push { cls:=.type "dict", data:=.dict #[] }) (s.heap.objs.size + 1) [] ⟨λ_ _ hm=>(nomatch hm),List.Pairwise.nil⟩ (by rw [Heap.size_push];exact zI _);rw [Heap.size_push] at ok;rw [show ({ s with heap:=s.heap.push { cls:=.type "dict", data:=.dict #[] } }:Shared).heap.objs.size=s.heap.objs.size + 1 from Heap.size_push ..];rw [qL];refine wpAny_bind ?_;rw [List.forIn_nil];exact wpAny_pure (wpAny_pure (hQ _ ((Heap.Ns.new s.heap (.type "dict")).keeps (pushCells_keeps _ _)) (λb o e=>pushCells_keeps _ _ b o (Heap.get?_push_of_some _ e)) ok))
end
section
variable {X:Cx}{ai:List (Addr×Obj)}{σ:St}{H:Hp}{s:Shared}
theorem La {scope:Scope}{env:Env}{x:Str}{k:NameKind}(hk:k=.cell\/k=.free)(h:(relabel scope env).names.lookup x=some k):(x,NameKind.free)∈scope.names\/(x,NameKind.cell)∈scope.names:=by
 have hm:=zh h;obtain ⟨⟨n,k0⟩,hy,e⟩:=zd.mp hm;dsimp only at e;split at e
 ·rename_i hc;simp only [zb,beq_iff_eq] at hc;have e1:n=x:=congrArg Prod.fst e;subst e1;rw [hc.1.1] at hy;exact .inl hy
 ·cases e;rcases hk with z | z
  ·subst z;exact .inr hy
  ·subst z;exact .inl hy
theorem Ma {own:List Str}{caps:List Nat}{scope:Scope}{fp:List Addr}{D C:Addr}{o:Obj}{h1:Heap}{tk:Nat}(I:Inv X ai σ H s)(S:iF own caps X.N X.env.scope scope)
  (f:∀ b∈fp,iE X ai H b) (fl:∀ b∈fp,b < s.heap.objs.size) (hD:s.heap.objs.size<=D) (hC:s.heap.objs.size<=C) (pO:D≠C) (keep:∀ b o,s.heap.get? b=some o->h1.get? b=some o)
  (Vk:h1.Ns C λ_=>none) (lQ:h1.get? D=some o) (ho:∀ v,o.data≠.cell v) (Vo:CellsOk h1 (C + 1) (cellsFrom (C + 1) scope.names [])) :
  Inv (i7 X own caps scope s H fp C) [(D,o)] (dw own.length caps σ) H { s with heap:=h1,toks:=tk }:=by
 have sub:∀ b∈Mi X.stack,b < s.heap.objs.size:=λb hb=>by
  rcases zJ.mp (I.dN b hb) with e | hb
  ·rw [e];exact I.lt
  ·by_cases q:b < s.heap.objs.size
   ·exact q
   ·exact absurd hb (I.Tq (xQ q))
 have KO:∀ {x:Str}{c:Addr},(cellsFrom (C + 1) scope.names []).lookup x=some c->C < c:=λ{x c} e=>(Vo.empty _ _ (zh e)).2;have NZ:∀ {x y:Str}{c:Addr},(cellsFrom (C + 1) scope.names []).lookup x=some c->X.env.cells.lookup y=some c->False:=λ{x y c} e e'=>by
  obtain ⟨v,ob,mO,_⟩:=I.cell y c e';exact absurd (Heap.lt_size mO) (Nat.not_lt.mpr (zj hC (xC (KO e))))
 have aaS:∀ {x:Str}{c:Addr},(scope.names.lookup x == some NameKind.cell)=true->(Ra scope X.env C).lookup x=some c->C < c:=λ{x c} z e=>by
  have z':scope.names.lookup x=some .cell:=by
   cases q:scope.names.lookup x with
   | none=>rw [q] at z;cases z
   | some k=>rw [q] at z;cases k <;> first | rfl | cases z
  obtain ⟨d,hd⟩:=cE (C + 1) scope.names x (zh z');obtain ⟨d',RQ⟩:=cC _ _ _ hd;rcases qd e with e | ⟨e,_⟩
  ·exact KO e
  ·rw [RQ] at e;cases e
 refine ⟨⟨I.ok.mod,S.kind,I.ok.glob,I.ok.blt,hC,λx y c h1 h2=>?_,λx hx=>?_,λx c z e=>zj hC (xC (aaS z e)),I.ok.hd,I.ok.frames,.inl rfl,
   λb hb=>⟨zW (ze (fl b hb) hC),λx c e=>?_⟩,I.bs,zj I.ok.OW I.sz,λb ob e hb=>?_,λb hb hs=>?_,I.stack,I.oz⟩,
  rfl,I.bare,Un.kept keep,⟨_,Vk,λi x v e1 e2 e3=>?_⟩,λx c e=>?_,I.bq.fresh hC,λx c e=>?_,λp hp=>?_,I.bq.kept keep,?_⟩
 ·rcases qd h1 with h1 | ⟨n1,h1⟩ <;> rcases qd h2 with h2 | ⟨n2,h2⟩
  ·exact name_of_addr Vo.apart (zh h1) (zh h2)
  ·exact (NZ h1 h2).elim
  ·exact (NZ h2 h1).elim
  ·exact I.ok.inj x y c h1 h2
 ·have hm:(x,NameKind.free)∈scope.names\/(x,NameKind.cell)∈scope.names:=by
   rcases hx with hx | hx
   ·exact La (.inl rfl) hx
   ·exact La (.inr rfl) hx
  show ∃ c,(Ra scope X.env C).lookup x=some c;unfold Ra;rw [eZ];cases z:(cellsFrom (C + 1) scope.names []).lookup x with
  | some d=>exact ⟨d,rfl⟩
  | none=>
   rcases hm with hm | hm
   ·obtain ⟨c,hc⟩:=I.ok.has x (S.fr _ hm rfl);exact ⟨c,gG hm hc⟩
   ·obtain ⟨c,hc⟩:=cE (C + 1) scope.names x hm;obtain ⟨d,hd⟩:=cC _ _ _ hc;rw [z] at hd;cases hd
 ·rcases qd e with e | ⟨_,e⟩
  ·have:=KO e;exact λq=>by rw [q] at this;exact absurd (fl b hb) (Nat.not_lt.mpr (zj hC (xC this)))
  ·exact (f b hb).2.2.2.2.1 x c e
 ·rcases (f b hb).2.2.2.1 with z | z
  ·exact I.ok.LU b ob e z
  ·exact absurd (ze (Heap.lt_size e) (zj I.ok.OW z)) (yH _)
 ·rcases zJ.mp (I.dN b hs) with e | e
  ·exact (f b hb).2.1 e
  ·exact (f b hb).2.2.1 e
 ·have OP:(List.replicate own.length (none:Option V)++caps.map λi=>(σ[i]?).join)[i]?=some (some v):=e2;have OQ:(own++caps.map (λi=>(X.N[i]?).getD Str.empty))[i]?=some x:=e1;have hi:own.length<=i:=by
   by_cases q:i < own.length
   ·rw [yJ (by simpa using q),yT,if_pos q] at OP;cases OP
   ·exact xQ q
  rw [yC (by simpa using hi),yb,zF] at OP;rw [yC hi,zF] at OQ;cases ek:caps[i - own.length]? with
  | none=>rw [ek] at OQ;cases OQ
  | some k=>
   rw [ek] at OQ OP;have ex:(X.N[k]?).getD Str.empty=x:=Option.some.inj OQ;have ev:(σ[k]?).join=some v:=Option.some.inj OP;have UA:σ[k]?=some (some v):=by
    cases q:σ[k]? with
    | none=>rw [q] at ev;cases ev
    | some y=>rw [q] at ev;exact congrArg some ev
   obtain ⟨hl,hf⟩:=S.cap k (zB ek);have eN:X.N[k]?=some x:=by
    rw [zC hl] at ex ⊢;exact congrArg some ex
   rw [ex] at hf;have hm:=zh hf;have Xs:=S.fr _ hm rfl;obtain ⟨m,_,t7⟩:=I.loc;obtain ⟨u,ru,lk⟩:=t7 k x v eN UA (.inr Xs);have nn:(cellsFrom (C + 1) scope.names []).lookup x=none:=by
    cases z:(cellsFrom (C + 1) scope.names []).lookup x with
    | none=>rfl
    | some d=>
     have q:=S.cel _ (dS _ _ _ _ (zh z)) rfl;have q':scope.names.lookup x=some .cell:=q;rw [hf] at q';cases q'
   refine ⟨u,ru,.inr ⟨qN hf,?_⟩⟩;rcases lk with ⟨kl,_⟩ | ⟨_,c,hc,ob,mO,hd⟩
   ·have QK:X.env.scope.names.lookup x=some .local:=kl;rcases Xs with z | z
    ·have z':X.env.scope.names.lookup x=some .cell:=z;rw [z'] at QK;cases QK
    ·have z':X.env.scope.names.lookup x=some .free:=z;rw [z'] at QK;cases QK
   ·exact ⟨c,by show (Ra scope X.env C).lookup x=some c;unfold Ra;rw [eZ,nn];exact gG hm hc,ob,keep c ob mO,hd⟩
 ·rcases qd e with e | ⟨_,e⟩
  ·exact ⟨_,(Vo.empty _ _ (zh e)).1⟩
  ·obtain ⟨v,ob,mO,hd⟩:=I.cell x c e;exact ⟨v,ob,keep c ob mO,hd⟩
 ·rcases qd e with e | ⟨_,e⟩
  ·exact I.bq.fresh (zj hC (xC (KO e)))
  ·exact I.f6 x c e
 ·have e:p=(D,o):=by simpa using (show p∈[]++[(D,o)] from hp)
  subst e;refine ⟨lQ,I.bq.fresh hD,pO,λz=>?_,ho⟩;exact absurd (ze (sub D z) hD) (yH _)
 ·show (dw own.length caps σ).length=(own++caps.map (λi=>(X.N[i]?).getD Str.empty)).length;simp [dw]
theorem rL {ix:Nat}{xn:Str}{pos' Nh:Pos}{own:List Str}{caps:List Nat}{elt tg iter:Expr}{ifs:List Expr}{scope:Scope}{pos:Pos}{wi:TI}{g:TG}{tc:TT}{te:TE}(hN:X.N.Nodup)(hix:X.N[ix]?=some xn)(T9:uQ X.env.scope xn=true)(hc:X.calm=true)(S:iF own caps X.N X.env.scope scope)(hi:PI X tg iter wi)
  (hg:∀ s H fp C,PG (i7 X own caps scope s H fp C) tg g) (ht:∀ s H fp C,UQ (i7 X own caps scope s H fp C) ifs tc) (he:∀ s H fp C,PE (i7 X own caps scope s H fp C) elt te)
  (hs:∀ x,foldedSetIterable iter X.env x=pure x:=by intro _;rfl) (hsw:swapsWith (.ListComp elt [⟨tg,iter,ifs,0⟩] scope pos) (some (.Name xn pos')) Nh.line X.env=pure true:=by rfl)
  (hf:iY X xn=true:=by rfl) :
  PS X (.Assign [.Name xn pos'] (.ListComp elt [⟨tg,iter,ifs,0⟩] scope pos) Nh) (uf (Nc own.length caps wi g tc te) (iW ix)):=by
 have T9:=iS T9;intro ai s σ H D0 I h;rw [exec_Assign_Name_used _ _ _ _ hsw,arm_evalThenUse_ListComp]
 suffices main:wpAny (model X.prog X.w) X.A (comprehension (.ListComp elt [⟨tg,iter,ifs,0⟩] scope pos) scope X.env (firstIterPos [⟨tg,iter,ifs,0⟩] pos) (newList []) false (eval iter X.env) (some (assign (.Name xn pos') X.env))) (λ_ s1=>SP X ai D0 .next s1) X.xe s from
  wpAny_bind (wpAny_standAt (wpAny_bind (wpAny_bind (wpAny_mono main (λ_ s1 h=>wpAny_pure (wpAny_pure h)) λ_ _ e=>e))))
 refine wpAny_comprehension_free (use:=some _) (cl:=dR scope.names X.env []) rfl hs (cD λy hy e=>I.ok.has y.1 (S.fr y hy e)) S.kind S.loc
  (wpAny_mono (hi ai s σ H _ I h) (λv s1 h1=>aR h1 λVg s2 h2=>?_) λ_ _ e=>e)
 obtain ⟨it,fp,tn,J,H2,e,I2,T,Lx,f2,W,⟨m0,w0⟩,turn⟩:=h2;subst e;refine wpAny_newObj_type (dW (λbK bT bF lP=>?_));dsimp only at bT bF lP ⊢;generalize u0:s2.heap.push { cls:=.type "list", dict:=none,data:=.seq ([]:List Value).toArray }=G at bT bF lP ⊢;have hG:G.objs.size=s2.heap.objs.size + 1:=by rw [<-u0,Heap.size_push]
 have pO:s2.heap.objs.size≠G.objs.size:=by rw [hG];exact zW (xR _)
 have lR:s2.heap.objs.size<=G.objs.size:=by rw [hG];exact xY _
 have below:∀ b,b < s2.heap.objs.size->b≠G.objs.size:=λb hb=>by rw [hG];exact zW (yp hb)
 have old:∀ b o,s2.heap.get? b=some o->bK.get? b=some o:=λb o e=>bF b o (u0 ▸ Heap.get?_push_of_some _ e);have lQ:bK.get? s2.heap.objs.size=some { cls:=.type "list", dict:=none,data:=.seq ([]:List Value).toArray }:=bF _ _ (u0 ▸ Heap.get?_push_size _ rfl);have fl:∀ b∈fp,b < s2.heap.objs.size:=λb hb=>let ⟨o,e,_⟩:=T.obj _ _ Lx b hb;Heap.lt_size e;have fu:bK.Ns G.objs.size λ_=>none:=bT;have I4:=Ma (tk:=s2.toks) I2 S f2 fl (zI _) lR pO old fu lQ (λv z=>nomatch z) lP;have uh:tn 0 bK:=T.keep _ _ _ Lx λb _ o e=>old b o e;generalize Uc:({ s2 with heap:=bK,toks:=s2.toks }:Shared)=s4 at I4 ⊢;have e4:s4.heap=bK:=by rw [<-Uc]
 rw [<-e4] at uh
 -- pX loop
 have loop:codeAny (model X.prog X.w) X.A (.compLoop (.ListComp elt [⟨tg,iter,ifs,0⟩] scope pos) 0 (.ref it) (.ref s2.heap.objs.size) (compEnvC scope (Ra scope X.env G.objs.size) G.objs.size X.env))
   (compPost (model X.prog X.w) X.A X.xe (some (assign (.Name xn pos') X.env)) (λ_ s1=>SP X ai D0 .next s1) (.ref s2.heap.objs.size) G.objs.size) s4:=by
  let Y:=i7 X own caps scope s2 H2 fp G.objs.size
  have eV:∀ {H':Hp}{aA:List Value}{n:Nat},(∀ b∈fp,H' b=none)->∀ b∈fp,iE Y [(s2.heap.objs.size,({ cls:=.type "list", data:=.seq aA.toArray n }:Obj))] H' b:=λ{H' aA n} hn b hb=>by
   refine ⟨hn b hb,below b (fl b hb),λz=>?_,.inl hb,λx c e=>?_,λp hp=>?_⟩
   ·rcases zJ.mp (I2.dN b z) with e | e
    ·exact (f2 b hb).2.1 e
    ·exact (f2 b hb).2.2.1 e
   ·rcases qd e with e | ⟨_,e⟩
    ·have:=(lP.empty _ _ (zh e)).2;exact λq=>by rw [q] at this;exact absurd (fl b hb) (Nat.not_lt.mpr (zj lR (xC this)))
    ·exact (f2 b hb).2.2.2.2.1 x c e
   ·have e:p=(s2.heap.objs.size,({ cls:=.type "list", data:=.seq aA.toArray n }:Obj)):=by simpa using (show p∈[]++[_] from hp)
    subst e;exact yS (fl b hb)
  refine ju (λn s'=>∃ i τ acc aA k H',Inv Y [(s2.heap.objs.size,({ cls:=.type "list", data:=.seq aA.toArray k }:Obj))] τ H' s'/\tn i s'.heap/\(∀ b∈fp,H' b=none)/\Vals acc aA/\W i n τ acc H') ?_ m0
   ⟨0,_,[],[],0,H2,I4,uh,λb hb=>(f2 b hb).1,.nil,w0⟩
  rintro n s5 ⟨i,τ,acc,aA,k,H5,I5,ug,Mj,pM,w5⟩;rcases turn i n τ acc H5 w5 with ⟨stop,hz,q⟩ | ⟨go,hz,step⟩
  ·refine aR (T.done Y rfl rfl rfl hc i _ s5 τ H5 (λ_ _=>False) I5 (eV Mj) ug stop) λr s6 ⟨hr,I6⟩=>?_;subst hr;obtain ⟨eD,nD,_,_,_⟩:=I6.pin _ (zE _ (zK.mpr rfl));obtain ⟨m6,Uh,_⟩:=I6.loc;have QX:H5 G.objs.size=none:=I6.free;have uW:gY X.prog X.w H5 s6.heap:=I6.bq;have ub:=I6.base;have IX:Inv X ai σ (upd H5 s2.heap.objs.size (.lst acc)) s6:=by
    refine I2.Lb (ch:=fp) (s':=s6) I6.os ⟨λb o e n' hb hx=>ub.keep b o e n' hb hx,λb o e n' hb hx=>?_,λb o e n' hx=>?_,λb o e hx=>?_,λb xs e=>?_,λb o u e=>?_,λb ps e=>?_⟩
     (uW.vN nD ⟨hz,aA,k,pM,eD⟩) I6.bare λb hb=>⟨(f2 b hb).2.2.2.1,(f2 b hb).2.1,(f2 b hb).2.2.2.2.1,(f2 b hb).2.2.2.2.2⟩
    ·exact ub.slot b o e n' hb hx
    ·rw [xt (zW (Heap.lt_size e))];exact ub.free b o e n' hx
    ·exact ub.there b o e hx
    ·have z:=ub.aZ b xs e;rw [xt (xk z nD)];exact z
    ·have z:=ub.jz b o u e;rw [xt (xk z nD)];exact z
    ·obtain ⟨more,z⟩:=ub.jT b ps e;exact ⟨more,by rw [xt (xk z nD)];exact z⟩
   have Ut:(upd H5 s2.heap.objs.size (.lst acc)) G.objs.size=none:=by rw [xt (Ne.symm pO)];exact QX
   have fC:iE X ai (upd H5 s2.heap.objs.size (.lst acc)) G.objs.size:=I2.oY lR Ut;obtain ⟨oC,esC,epC,gC,dC,rC⟩:=Uh;have IP:=IX.pinned (fp:=[G.objs.size]) (λb hb=>by cases zK.mp hb;exact fC) (λb hb=>by cases zK.mp hb;exact ⟨oC,gC,λv z=>by rw [dC] at z;cases z⟩);refine wpAny_assign_Name (fO IP hN hix T9 (v:=.ref s2.heap.objs.size) rfl (λs7 I7=>?_) hf);have pC:=(I7.pin (G.objs.size,oC) (zE _ (zE _ (wa (zK.mpr rfl) gC)))).1;refine ⟨m6,⟨oC,esC,epC,pC,dC,rC⟩,λh' uV=>?_⟩;have I8:Inv X ai (σ.set ix (some (.ref s2.heap.objs.size))) (upd H5 s2.heap.objs.size (.lst acc)) { s7 with heap:=h' }:=I7.bN.turned (t':=s7.toks) (λb o hb e=>uV.extBut b o hb e) fC.1 fC.2.1 fC.2.2.2.1 fC.2.2.2.2.1 fC.2.2.2.2.2;exact ⟨_,_,I8,q _ nD⟩
  ·refine aR (T.item Y rfl rfl rfl hc i _ s5 τ H5 (λ_ _=>False) I5 (eV Mj) ug go) λr s6 ⟨u,hr,h6⟩=>?_;subst hr;refine aR h6 λ_ s7 ⟨x,H7,I7,r7,y7,rz,Ux⟩=>?_;have UY:=I7.pinned (eV Ux) (T.obj _ _ rz);refine aR (hg s2 H2 fp G.objs.size _ s7 τ H7 x u _ UY r7 (step x H7 y7)) λ_ s8 ⟨mj,H8,I8,q8⟩=>?_;refine aR (ht s2 H2 fp G.objs.size _ s8 mj H8 _ I8 q8) λok s9 ⟨H9,I9,q9⟩=>?_
   -- pX fk state behind pX turn
   have back:∀ {s':Shared}{vK:St}{H':Hp},Inv Y ([(s2.heap.objs.size,({ cls:=.type "list", data:=.seq aA.toArray k }:Obj))]++b8 fp s7.heap) vK H' s'->(tn (i + 1) s'.heap/\∀ b∈fp,H' b=none):=λ{s' vK H'} Ib=>
    ⟨T.keep _ _ _ rz λb hb o e=>(Ib.pin (b,o) (zE _ (zE _ (wa hb e)))).1,λb hb=>by
     obtain ⟨o,e,d⟩:=T.obj _ _ rz b hb;exact (Ib.pin (b,o) (zE _ (zE _ (wa hb e)))).2.1⟩
   cases ok with
   | false=>
    obtain ⟨m',lO,w'⟩:=q9;obtain ⟨sb,fb⟩:=back I9;exact ⟨m',lO,i + 1,mj,acc,aA,k,H9,I9.bN,sb,fb,pM,w'⟩
   | true=>
    refine aR (he s2 H2 fp G.objs.size _ s9 mj H9 _ I9 q9) λy iK ⟨yv,gO,Pa,V5,S8⟩=>?_;obtain ⟨m',lO,w'⟩:=S8;obtain ⟨sb,fb⟩:=back Pa;obtain ⟨eD,nD,LV,Tu,_⟩:=Pa.pin (s2.heap.objs.size,_) (zE _ (yD _ (zK.mpr rfl)));have hl:acc.length=aA.length:=pM.length;refine call_meets F.slot_list_append ⟨_,eD,rfl⟩ F.entry_list_append (F.args_list_append_2 _ _) (xN s2.heap.objs.size aA.toArray k y (by rw [zT];omega)) ⟨eD,?_⟩;have q:=PySem.IsL.update eD (λa:Array Value=>a.push y);have Iu:Inv Y [] mj gO iK:=Pa.cA λp hp=>nomatch hp;have It:=Iu.turned (t':=iK.toks) (it:=s2.heap.objs.size) (h':=iK.heap.update s2.heap.objs.size (Obj.mapSeq (λa:Array Value=>a.push y))) (λb o hb e=>(Heap.get?_update_other iK.heap _ (Ne.symm hb)).trans e) nD LV (.inr (zI _))
     (λx c e z=>by
      rcases qd e with e | ⟨_,e⟩
      ·have:=(lP.empty _ _ (zh e)).2;rw [z] at this;exact absurd (Nat.lt_of_le_of_lt lR this) (yH _)
      obtain ⟨v,ob,mO,_⟩:=I2.cell x c e;exact absurd (Heap.lt_size mO) (by rw [z];exact yH _)) (λp hp=>nomatch hp)
    have UX:=It.cA (m5:=[(s2.heap.objs.size,({ cls:=.type "list", data:=.seq (aA++[y]).toArray (k + 1) }:Obj))]) λp hp=>by
     have e:p=_:=zK.mp hp;subst e;exact ⟨by simpa using q,nD,LV,Tu,λv z=>nomatch z⟩
    refine ⟨m',lO,i + 1,mj,acc++[yv],aA++[y],_,gO,UX,T.keep _ _ _ sb λb hb o e=>(Heap.get?_update_other iK.heap _ (yS (fl b hb))).trans e,fb,pM.append (.cons V5 .nil),w'⟩
 exact codeAny_compStart_list loop (T.self _ 0 s4 _ _ uh loop)
end
theorem cM {env:Env}:∀ {names:List (Str×NameKind)}{x:Str},names.lookup x=some .cell ->
  (names.map λ(n,k)=>if (k == NameKind.free && env.scope.kind == .function && env.kindOf n == some .cell) then (n,NameKind.cell) else (n,k)).lookup x=some .cell
 | [],_,h=>by simp at h
 | (n,k)::r,x,h=>by
  have ih:=@cM env r x;show List.lookup x ((if (k == NameKind.free && env.scope.kind == .function && env.kindOf n == some .cell)=true then (n,NameKind.cell) else (n,k))::_)=_;by_cases hc:(k == NameKind.free && env.scope.kind == .function && env.kindOf n == some .cell)=true
  ·rw [if_pos hc];cases hx:x == n with
   | true=>simp [yL,hx]
   | false=>
    simp only [yL,hx] at h ⊢;exact ih h
  ·rw [if_neg hc];cases hx:x == n with
   | true=>simp only [yL,hx] at h ⊢;exact h
   | false=>
    simp only [yL,hx] at h ⊢;exact ih h
theorem ay.inn {own:List Str}{caps:List Nat}{N:List Str}{so scope:Scope}{env:Env}(h1:scope.kind=.function)(h2:∀ y∈scope.names,y.2≠.cell)(h3:∀ y∈scope.names,y.2=.local->scope.names.lookup y.1=some .local)
  (h4:∀ y∈scope.names,y.2=.free->so.names.lookup y.1=some .cell\/so.names.lookup y.1=some .free) (h5:∀ i∈caps,i < N.length/\scope.names.lookup ((N[i]?).getD Str.empty)=some .free):ay own caps N (relabel so env) scope:=
 ⟨h1,h2,h3,λy hy e=>(h4 y hy e).elim (λz=>.inl (cM z)) λz=>qN z,h5⟩
end L2
namespace L2
theorem vv {X:Cx}{K:PySem.W.Frag}(hK:X.K=K)(hc:X.calm=true):bZ X (.builtin "sum") (λxs H Q=>∃ p ns,xs=[.ref p]/\aB K H p (List.map V.int ns)/\Q (.int ns.sum) H):=by subst hK;exact cj hc
end L2
namespace Sm
open PySem L2
structure S3 where
 w:Int
 t:Int
 m:Int
structure aD (H:Hp) (l:Addr) (ps:List (Addr×S3)):Prop where
 l:H l=some (.lst (ps.map λa=>V.ref a.1))
 each:∀ a∈ps,H a.1=some (.tup [.int a.2.w,.int a.2.t,.int a.2.m])
theorem aD.same {H H':Hp}{l:Addr}{ps:List (Addr×S3)}(h:aD H l ps)(s:au H H'):aD H' l ps:=⟨s _ _ h.l,λa ha=>s _ _ (h.each a ha)⟩
structure R4 where
 th:Int
 bk:Int
 bg:List Int
 cm:List Int
structure RA where
 a:Addr
 b:Addr
 c:Addr
 r:R4
structure RA.At (H:Hp) (x:RA):Prop where
 a:H x.a=some (.tup [.int x.r.th,.int x.r.bk,.ref x.b,.ref x.c])
 b:H x.b=some (.lst (x.r.bg.map V.int))
 c:H x.c=some (.lst (x.r.cm.map V.int))
theorem RA.At.same {H H':Hp}{x:RA}(h:RA.At H x)(s:au H H'):RA.At H' x:=⟨s _ _ h.a,s _ _ h.b,s _ _ h.c⟩
structure T3 where
 k:Int
 j:Int
 m:Int
structure vJ (H:Hp) (p:Addr) (lr ls:Addr) (xs:List RA) (ts:List (Addr×T3)):Prop where
 p:H p=some (.tup [.ref lr,.ref ls])
 lr:H lr=some (.lst (xs.map λx=>V.ref x.a))
 ls:H ls=some (.lst (ts.map λx=>V.ref x.1))
 rows:∀ x∈xs,RA.At H x
 ones:∀ x∈ts,H x.1=some (.tup [.int x.2.k,.int x.2.j,.int x.2.m])
structure R4.ok (n m:Nat) (r:R4):Prop where
 th:0<=r.th
 bk:0<=r.bk
 bl:r.bg.length=n
 cl:r.cm.length=m
 b0:∀ x∈r.bg,(0:Int)<=x
 c0:∀ x∈r.cm,(0:Int)<=x
structure T3.ok (n m:Nat) (t:T3):Prop where
 k:0<=t.k/\t.k < n
 j:0<=t.j/\t.j < m
 m:0 < t.m
def Ms:V->Bool
 | .int i=>decide (0<=i)
 | _=>false
def Qg:Sp:=λvs H Q _=>∃ x t,vs=[x]/\je H x=some t/\Q (.bl (Ms x)) H
def Nr:Sp:=λvs H Q _=>∃ l ns,∃ n:Nat,vs=[.ref l,.int n]/\H l=some (.lst (List.map V.int ns))/\ns.length=n/\n<=100/\(∀ x∈ns,(0:Int)<=x)/\∀ H',au H H'->Q (.bl true) H'
def LB:Sp:=λvs H Q _=>∃ ll lw ls ws x,vs=[.ref ll,.ref lw,.ref x.a]/\aD H ll ls/\aD H lw ws/\ls.length<=100/\ws.length<=100/\RA.At H x/\x.r.ok ls.length ws.length/\∀ H',au H H'->Q (.bl true) H'
def Lz:Sp:=λvs H Q _=>∃ ll lw ls ws a t,vs=[.ref ll,.ref lw,.ref a]/\aD H ll ls/\aD H lw ws/\H a=some (.tup [.int t.k,.int t.j,.int t.m])/\T3.ok ls.length ws.length t/\∀ H',au H H'->Q (.bl true) H'
structure vI (nm nl nw:Nat) (xs:List RA) (ts:List (Addr×T3)):Prop where
 n:xs.length=nm
 pN:nm<=60
 l:nl<=100
 w:nw<=100
 t:ts.length<=100
 rows:∀ x∈xs,x.r.ok nl nw
 ones:∀ x∈ts,T3.ok nl nw x.2
def um:Sp:=λvs H Q _=>∃ b ll lw p af tr tm ps ls ws lr lt xs ts,vs=[.ref b,.ref ll,.ref lw,.ref p]/\aY H b af tr tm ps/\aD H ll ls/\aD H lw ws/\vJ H p lr lt xs ts/\vI ps.length ls.length ws.length xs ts/\∀ H',au H H'->Q (.bl true) H'
def b7 (l w:S3):Bool:=decide (l.w=w.w) && decide (l.t<=w.t)
def rA:Sp:=λvs H Q _=>∃ a b l w,vs=[.ref a,.ref b]/\H a=some (.tup [.int l.w,.int l.t,.int l.m])/\H b=some (.tup [.int w.w,.int w.t,.int w.m])/\Q (.bl (b7 l w)) H
def Lu (ls ws:List S3)(t:T3):Bool:=match ls[t.k.toNat]?,ws[t.j.toNat]? with
 | some l,some w=>b7 l w
 | _,_=>false
theorem ou {ls ws:List S3}{t:T3}{l w:S3}(h1:ls[t.k.toNat]?=some l)(h2:ws[t.j.toNat]?=some w):Lu ls ws t=b7 l w:=by unfold Lu;rw [h1,h2]
def dY (ls ws:List S3)(ts:List T3):Bool:=ts.all (Lu ls ws)
def VL:Sp:=λvs H Q _=>∃ ll lw lt ls ws,∃ ts:List (Addr×T3),vs=[.ref ll,.ref lw,.ref lt]/\aD H ll ls/\aD H lw ws/\H lt=some (.lst (ts.map λx=>V.ref x.1))/\(∀ x∈ts,H x.1=some (.tup [.int x.2.k,.int x.2.j,.int x.2.m]))/\ts.length<=100/\(∀ x∈ts,T3.ok ls.length ws.length x.2)/\(ts.map λx=>[x.2.k,x.2.j]).Nodup/\∀ H',au H H'->Q (.bl (dY (ls.map (·.2)) (ws.map (·.2)) (ts.map (·.2)))) H'
def bI (ss:List S3)(ns:List Int)(w:Int):Int:=(((ss.zip ns).filter λp=>decide (p.1.w=w)).map (·.2)).sum
def aak:Sp:=λvs H Q _=>∃ l n ps ns w,vs=[.ref l,.ref n,.int w]/\aD H l ps/\H n=some (.lst (List.map V.int ns))/\ns.length=ps.length/\ps.length<=100/\∀ H',au H H'->Q (.int (bI (ps.map (·.2)) ns w)) H'
def d9 (r:M4)(bad:S3->Bool)(p:S3×Int):Bool:=!(decide (p.2 > 0) && (!(decide (p.1.w=r.lo) || decide (p.1.w=r.hi)) || bad p.1))
def bH (r:M4)(ls ws:List S3)(x:R4):Bool:=
 ((ls.zip x.bg).all (d9 r λs=>decide (s.t ≥ r.t))) && ((ws.zip x.cm).all (d9 r λs=>decide (s.t < r.t))) && decide (x.th + x.bk<=r.m)
def Ly:Sp:=λvs H Q _=>∃ m r ll lw ls ws x,vs=[.ref m,.ref ll,.ref lw,.ref x.a]/\H m=some (.tup [.int r.lo,.int r.hi,.int r.t,.int r.m])/\aD H ll ls/\aD H lw ws/\ls.length<=100/\ws.length<=100/\RA.At H x/\x.r.bg.length=ls.length/\x.r.cm.length=ws.length/\∀ H',au H H'->Q (.bl (bH r (ls.map (·.2)) (ws.map (·.2)) x.r)) H'
def aT (bs:List Int)(w:Int):Int:=bs.getD w.toNat 0
def bO (bs:List Int)(w o i:Int):Bool:=decide (0<=o) && decide (o<=aT bs w) && decide (0<=i)
def bJ (bs:List Int)(r:M4)(ls ws:List S3)(x:R4):Option (List Int):=
 if bO bs r.lo (x.th - bI ls x.bg r.lo) (x.bk - bI ws x.cm r.lo) && bO bs r.hi (x.bk - bI ls x.bg r.hi) (x.th - bI ws x.cm r.hi) then
  some ((bs.set r.lo.toNat (aT bs r.lo + ((x.bk - bI ws x.cm r.lo) - (x.th - bI ls x.bg r.lo)))).set r.hi.toNat (aT bs r.hi + ((x.th - bI ws x.cm r.hi) - (x.bk - bI ls x.bg r.hi))))
 else none
def Vz (bs:List Int)(r:M4)(ls ws:List S3)(x:R4):Nat->List Int->Prop
 | 0,cs=>cs=bs
 | 1,cs=>bO bs r.lo (x.th - bI ls x.bg r.lo) (x.bk - bI ws x.cm r.lo)=true/\cs=bs.set r.lo.toNat (aT bs r.lo + ((x.bk - bI ws x.cm r.lo) - (x.th - bI ls x.bg r.lo)))
 | _,cs=>bO bs r.lo (x.th - bI ls x.bg r.lo) (x.bk - bI ws x.cm r.lo)=true/\bO bs r.hi (x.bk - bI ls x.bg r.hi) (x.th - bI ws x.cm r.hi)=true/\cs=(bs.set r.lo.toNat (aT bs r.lo + ((x.bk - bI ws x.cm r.lo) - (x.th - bI ls x.bg r.lo)))).set r.hi.toNat (aT bs r.hi + ((x.th - bI ws x.cm r.hi) - (x.bk - bI ls x.bg r.hi)))
theorem mU {bs:List Int}{w:Int}(h0:0<=w)(h1:w < bs.length):dU (bs.map V.int) w=some (V.int (aT bs w)):=by obtain ⟨k,rfl⟩:=zn h0;refine wP ?_;rw [zF];unfold aT;rw [zx,zG,zC (by omega)];rfl
theorem XU {bs:List Int}{w:Int}(h0:0<=w)(h1:w < bs.length):(bs.map V.int)[w.toNat]?=some (V.int (aT bs w)):=by rw [zF];unfold aT;rw [zG,zC (by omega)];rfl
theorem jw {x a b:Int}:T5 (V.int x) [V.int a,V.int b]=(decide (x=a) || decide (x=b)):=by have:=lM (x:=x) (bs:=[a,b]);simp only [zY,yn] at this;rw [this];by_cases c:x=a <;> by_cases d:x=b <;> simp [c,d]
theorem uR {n:Nat}{i:Int}(h0:0<=i)(h1:i < n):KW n i=some i.toNat:=by unfold KW;rw [if_pos h0,if_pos h1]
theorem Rf {bs:List Int}{v w x:Int}(h0:0<=v)(h1:0<=w)(ne:v≠w):aT (bs.set v.toNat x) w=aT bs w:=by unfold aT;rw [zG,zG,yW (by omega)]
theorem O0 {bs:List Int}{v x:Int}(h0:0<=v)(h1:v < bs.length):aT (bs.set v.toNat x) v=x:=by unfold aT;rw [zG,yY (by omega)];rfl
def LG:Sp:=λvs H Q _=>∃ lb,∃ bs:List Int,∃ m,∃ r:M4,∃ ll lw ls ws x,vs=[.ref lb,.ref m,.ref ll,.ref lw,.ref x.a]/\H lb=some (.lst (List.map V.int bs))/\(0<=r.lo/\r.lo < r.hi/\r.hi < bs.length)/\bs.length<=100/\H m=some (.tup [.int r.lo,.int r.hi,.int r.t,.int r.m])/\aD H ll ls/\aD H lw ws/\ls.length<=100/\ws.length<=100/\RA.At H x/\x.r.bg.length=ls.length/\x.r.cm.length=ws.length /\
 (bJ bs r (ls.map (·.2)) (ws.map (·.2)) x.r=none->∀ H',au H H'->Q .cK H')/\∀ cs,bJ bs r (ls.map (·.2)) (ws.map (·.2)) x.r=some cs->∀ p H',H p=none->au H H'->H' p=some (.lst (cs.map V.int))->Q (.ref p) H'
def dH (af:List Int)(ls ws:List S3):List (M4×R4)->List Int->Bool
 | [],_=>true
 | (r,x)::rest,bs=>bH r ls ws x && match bJ bs r ls ws x with
  | none=>false
  | some cs=>((cs.zip af).all λp=>decide (p.1<=p.2)) && dH af ls ws rest cs
def SG:Sp:=λvs H Q _=>∃ b ll lw lr af tr tm ps ls ws,∃ xs:List RA,vs=[.ref b,.ref ll,.ref lw,.ref lr]/\aY H b af tr tm ps/\Good af.length (ps.map (·.2))/\af.length<=100/\aD H ll ls/\aD H lw ws/\ls.length<=100/\ws.length<=100/\H lr=some (.lst (xs.map λx=>V.ref x.a))/\(∀ x∈xs,RA.At H x)/\xs.length=ps.length/\(∀ x∈xs,x.r.bg.length=ls.length/\x.r.cm.length=ws.length) /\
 ∀ H',au H H'->Q (.bl (dH af (ls.map (·.2)) (ws.map (·.2)) ((ps.map (·.2)).zip (xs.map (·.r))) (List.replicate af.length 0))) H'
def dM (n:Nat)(rows:List (List Int))(ps:List (Int×Int)):List Int:=(List.range n).map λ(k:Nat)=>(rows.map λr=>r.getD k 0).sum + ((ps.filter λx=>decide (x.1=(k:Int))).map (·.2)).sum
def Nk:Sp:=λvs H Q _=>∃ n:Nat,∃ lr ls,∃ rs:List (Addr×List Int),∃ ts:List (Addr×Int×Int),vs=[.int n,.ref lr,.ref ls]/\n<=100/\H lr=some (.lst (rs.map λx=>V.ref x.1))/\(∀ x∈rs,H x.1=some (.lst (x.2.map V.int))/\x.2.length=n)/\rs.length<=60/\H ls=some (.lst (ts.map λx=>V.ref x.1))/\(∀ x∈ts,H x.1=some (.tup [.int x.2.1,.int x.2.2])/\0<=x.2.1/\x.2.1 < n)/\ts.length<=100 /\
 ∀ l H',H l=none->au H H'->H' l=some (.lst ((dM n (rs.map (·.2)) (ts.map (·.2))).map V.int))->Q (.ref l) H'
def iI (ns:List Int)(ss:List S3):Bool:=(ns.zip ss).all λp=>decide (p.1<=p.2.m)
def P6:Sp:=λvs H Q _=>∃ l a ns ps,vs=[.ref l,.ref a]/\H l=some (.lst (List.map V.int ns))/\aD H a ps/\ns.length=ps.length/\ps.length<=100/\∀ H',au H H'->Q (.bl (iI ns (ps.map (·.2)))) H'
def gT (n:Nat)(xs:List R4)(ts:List T3):List Int:=dM n (xs.map (·.bg)) (ts.map λt=>(t.k,t.m))
def dc (n:Nat)(xs:List R4)(ts:List T3):List Int:=dM n (xs.map (·.cm)) (ts.map λt=>(t.j,t.m))
def b6 (af:List Int)(ms:List M4)(ls ws:List S3)(xs:List R4)(ts:List T3):Option Int:=
 if dY ls ws ts && dH af ls ws (ms.zip xs) (List.replicate af.length 0) && (iI (gT ls.length xs ts) ls && iI (dc ws.length xs ts) ws) then some (dc ws.length xs ts).sum else none
def P5:Sp:=λvs H Q _=>∃ b ll lw p af tr tm ps ls ws lr lt xs ts,vs=[.ref b,.ref ll,.ref lw,.ref p]/\aY H b af tr tm ps/\Good af.length (ps.map (·.2))/\af.length<=100/\aD H ll ls/\aD H lw ws/\vJ H p lr lt xs ts/\vI ps.length ls.length ws.length xs ts/\(ts.map λx=>[x.2.k,x.2.j]).Nodup /\
 ∀ H',au H H'->Q (oV (b6 af (ps.map (·.2)) (ls.map (·.2)) (ws.map (·.2)) (xs.map (·.r)) (ts.map (·.2)))) H'
theorem qe {α β:Type}{xs:List α}{ys:List β}{i:Nat}{x:α}{y:β}(hx:xs[i]?=some x)(hy:ys[i]?=some y):(xs.zip ys)[i]?=some (x,y):=by rw [zz];exact ⟨hx,hy⟩
theorem wW {α:Type}{ps:List (Addr×α)}{i:Nat}{r:Addr×α}(h:ps[i]?=some r):(ps.map (·.2))[i]?=some r.2:=by rw [zF,h];rfl
theorem tS {α:Type}{xs:List α}{i:Nat}{x:α}{f:α->Bool}(h:xs[i]?=some x):(xs.take (i + 1)).all f=((xs.take i).all f && f x):=by rw [wK h,List.all_append,yr,List.all_nil,Bool.and_true]
theorem tR {α:Type}{xs:List α}{i:Nat}{x:α}{f:α->Bool}(h:xs[i]?=some x)(e:f x=false):xs.all f=false:=by rw [List.all_eq_false];exact ⟨x,zB h,by rw [e];exact zQ⟩
theorem gj {α β:Type}{xs:List α}{ys:List β}(e:ys.length=xs.length):(xs.zip ys).length=xs.length:=by rw [yg];omega
theorem NT {ss:List S3}{ns:List Int}{w:Int}{i:Nat}{s:S3}{n:Int}(hs:ss[i]?=some s)(hn:ns[i]?=some n) :
  ((((ss.zip ns).take (i + 1)).filter λp=>decide (p.1.w=w)).map (·.2))=((((ss.zip ns).take i).filter λp=>decide (p.1.w=w)).map (·.2))++if s.w=w then [n] else []:=by
 rw [wK (qe hs hn),yF,zD];by_cases c:s.w=w
 ·simp [c]
 ·simp [c]
theorem qX {n:Nat}{rows:List (List Int)}{ps:List (Int×Int)}:(dM n rows ps).length=n:=by unfold dM;rw [zA,xO]
theorem gq {n k:Nat}{rows:List (List Int)}{ps:List (Int×Int)}(h:k < n):(dM n rows ps)[k]?=some ((rows.map λr=>r.getD k 0).sum + ((ps.filter λx=>decide (x.1=(k:Int))).map (·.2)).sum):=by unfold dM;rw [zF,List.getElem?_range h];rfl
theorem Ln {n k:Nat}{rows:List (List Int)}{ps:List (Int×Int)}{m old:Int}(h:k < n)(e:(dM n rows ps)[k]?=some old):dM n rows (ps++[((k:Int),m)])=(dM n rows ps).set k (old + m):=by
 rw [gq h] at e;refine List.ext_getElem? λi=>?_;by_cases hi:i < n
 ·rw [gq hi,List.getElem?_set];by_cases c:k=i
  ·subst c;rw [if_pos rfl,if_pos (by rw [qX];exact h)];rw [yF,zD,zu,<- Option.some.inj e];congr 1;have:((List.filter (λx:Int×Int=>decide (x.1=(k:Int))) [((k:Int),m)]).map (·.2)).sum=m:=by simp
   rw [this];omega
  ·rw [if_neg c,gq hi,yF,zD,zu];have:(List.filter (λx:Int×Int=>decide (x.1=(i:Int))) [((k:Int),m)])=[]:=by
    rw [xT,if_neg (by simp;omega)];rfl
   rw [this];simp
 ·rw [yR (by rw [qX];omega),yR (by rw [zt,qX];omega)]
theorem qq {α:Type}{xs:List α}{i:Nat}{x:α}(h:xs[i]?=some x):xs.drop i=x::xs.drop (i + 1):=by obtain ⟨hi,e⟩:=zH.mp h;rw [List.drop_eq_getElem_cons hi,e]
theorem lF {af:List Int}{ls ws:List S3}{r:M4}{x:R4}{rest:List (M4×R4)}{bs:List Int}:dH af ls ws ((r,x)::rest) bs=(bH r ls ws x && match bJ bs r ls ws x with
  | none=>false
  | some cs=>((cs.zip af).all λp=>decide (p.1<=p.2)) && dH af ls ws rest cs):=rfl
theorem tL {bs:List Int}{r:M4}{ls ws:List S3}{x:R4}{cs:List Int}(h:bJ bs r ls ws x=some cs):cs.length=bs.length:=by
 unfold bJ at h;split at h
 ·cases h;rw [zt,zt]
 ·cases h
theorem cU {p:Addr}{H H1 H2:Hp}(hp:H p=none)(s:au H H1)(g:jY p H1 H2):au H H2:=λb u e=>g b u (xk e hp) (s b u e)
theorem Go.aaO {p l:Addr}{H H':Hp}{o:HO}(g:Go p H H')(h:H l=none)(n:l≠p):Go p H (upd H' l o):=
 ⟨λb u nb e=>by rw [xt (xk e h)];exact g.1 b u nb e,by obtain ⟨a,b,c,e⟩:=g.2;exact ⟨a,b,c,by rw [xt n.symm];exact e⟩⟩
def Nm:Sp:=λvs H Q _=>∃ p b j af tr tm ps,∃ n:Nat,vs=[.ref p,.ref b,.int n,.int j]/\(j=0\/j=1)/\aY H b af tr tm ps/\Good af.length (ps.map (·.2))/\1<=n/\n<=1000/\aN H p /\
 ∀ t (s:S3) H',Go p H H'->H' t=some (.tup [.int s.w,.int s.t,.int s.m])->0<=s.w->s.w < n->1<=s.m->s.m<=99->Q (.ref t) H'
def LA (K:PySem.W.Frag):Sp:=λvs H Q _=>∃ sa b hd j af tr tm ps ns,∃ n:Nat,∃ H0,vs=[.ref sa,.ref b,.ref hd,.int n,.int j]/\aB K H0 sa (List.map V.int ns)/\ns.length<=63/\H0 hd=none/\au H0 H/\n < 100/\(j=0\/j=1)/\aY H b af tr tm ps/\Good af.length (ps.map (·.2))/\1<=af.length/\af.length<=12/\aN H hd /\
 ∀ l (ss:List (Addr×S3)) H',H l=none->Go hd H H'->aD H' l ss->ss.length<=8->(∀ a∈ss,0<=a.2.w/\a.2.w < af.length/\1<=a.2.m/\a.2.m<=99)->Q (.ref l) H'
def vf (j:Int)(s:S3)(t:Int):Bool:=if j=0 then decide (s.t < t) else decide (s.t ≥ t)
def Nq:Sp:=λvs H Q _=>∃ ls lr w t j,∃ ps:List (Addr×S3),∃ rs,vs=[.ref ls,.ref lr,.int w,.int t,.int j]/\aD H ls ps/\H lr=some (.lst (List.map V.int rs))/\rs.length=ps.length/\ps.length<=100/\(j=0\/j=1) /\
 ∀ l (ks:List Nat) H',H l=none->au H H'->H' l=some (.lst (ks.map λk:Nat=>V.int (k:Int)))->(∀ k∈ks,∃ s r,(ps.map (·.2))[k]?=some s/\rs[k]?=some r/\s.w=w/\vf j s t=true/\0 < r)->ks.length<=ps.length->Q (.ref l) H'
def aF (xs:List Int)(k:Nat):Int:=xs.getD k 0
theorem qF {xs:List Int}{k:Nat}(h:k < xs.length):xs[k]?=some (aF xs k):=by unfold aF;rw [zG,zC h];rfl
theorem qP {xs:List Int}{k:Nat}(h:k < xs.length):aF xs k∈xs:=zB (qF h)
theorem gF {xs:List Int}{k:Nat}{v:Int}(h:k < xs.length):aF (xs.set k v) k=v:=by unfold aF;rw [zG,yY h];rfl
theorem cH {xs:List Int}{k j:Nat}{v:Int}(h:k≠j):aF (xs.set k v) j=aF xs j:=by unfold aF;rw [zG,zG,yW h]
structure Hf (ss:List S3) (ok:S3->Prop) (bg rs aK:List Int):Prop where
 bl:bg.length=ss.length
 rl:rs.length=ss.length
 Nx:aK.length=ss.length
 b0:∀ x∈bg,(0:Int)<=x
 r0:∀ x∈aK,(0:Int)<=x
 gw:∀ k s,ss[k]?=some s->0 < aF bg k->ok s
 eq:∀ k:Nat,k < ss.length->aF aK k=aF rs k - aF bg k
theorem Hf.start {ss:List S3}{ok:S3->Prop}{rs:List Int}(h:rs.length=ss.length)(r0:∀ x∈rs,(0:Int)<=x):Hf ss ok (List.replicate ss.length 0) rs rs where
 bl:=yb ..
 rl:=h
 Nx:=h
 b0:=λx hx=>by rw [(List.mem_replicate.mp hx).2];exact yE _
 r0:=r0
 gw:=λk s _ p=>by
  unfold aF at p;rw [zG,yT] at p;split at p <;> exact absurd p (by decide)
 eq:=λk hk=>by
  have:aF (List.replicate ss.length 0) k=0:=by unfold aF;rw [zG,yT,if_pos hk];rfl
  omega
def iz (bg:List Int)(o:Option Nat)(s:Int):List Int:=match o with
 | none=>bg
 | some k=>bg.set k (aF bg k + s)
def mL (rs:List Int)(o:Option Nat)(s:Int):List Int:=match o with
 | none=>rs
 | some k=>rs.set k (aF rs k - s)
def eN (o:Option Nat)(s:Int):Int:=match o with
 | none=>0
 | some _=>s
theorem Hf.up {ss:List S3}{ok:S3->Prop}{bg rs aK:List Int}{o:Option Nat}{s:Int}(h:Hf ss ok bg rs aK)(s0:0<=s)(ho:∀ k,o=some k->∃ x,ss[k]?=some x/\ok x/\s<=aF aK k):Hf ss ok (iz bg o s) rs (mL aK o s):=by
 cases o with
 | none=>exact h
 | some k=>
  obtain ⟨x,hx,bq,hs⟩:=ho k rfl;have hk:k < ss.length:=(zH.mp hx).1;have kb:k < bg.length:=by rw [h.bl];exact hk
  have kr:k < aK.length:=by rw [h.Nx];exact hk
  have b0:=h.b0 _ (qP kb);refine ⟨by unfold iz;rw [zt,h.bl],h.rl,by unfold mL;rw [zt,h.Nx],λy hy=>?_,λy hy=>?_,λj z hz p=>?_,λj hj=>?_⟩
  ·rcases yP hy with q | q
   ·exact h.b0 y q
   ·omega
  ·rcases yP hy with q | q
   ·exact h.r0 y q
   ·omega
  ·by_cases e:k=j
   ·subst e;rw [hx] at hz;cases hz;exact bq
   ·unfold iz at p;dsimp only at p;rw [cH e] at p;exact h.gw j z hz p
  ·unfold iz mL;dsimp only;by_cases e:k=j
   ·subst e;rw [gF kb,gF kr,h.eq k hk];omega
   ·rw [cH e,cH e,h.eq j hj]
theorem fU {s:S3}{ss:List S3}{n:Int}{ns:List Int}{w:Int}:bI (s::ss) (n::ns) w=(if s.w=w then n else 0) + bI ss ns w:=by
 unfold bI;rw [ym,xT];by_cases c:s.w=w
 ·simp [c]
 ·simp [c]
theorem oH:∀ {ss:List S3}{bg:List Int}{k:Nat}{s:S3}{v w:Int},ss[k]?=some s->k < bg.length->bI ss (bg.set k (aF bg k + v)) w=bI ss bg w + if s.w=w then v else 0
 | [],_,_,_,_,_,h,_=>by simp at h
 | _::_,[],_,_,_,_,_,h=>by simp at h
 | t::ss,b::bg,0,s,v,w,h,_=>by
  cases h;have:aF (b::bg) 0=b:=rfl;rw [this,List.set_cons_zero,fU,fU];by_cases c:t.w=w
  ·rw [if_pos c,if_pos c,if_pos c];omega
  ·rw [if_neg c,if_neg c,if_neg c];omega
 | t::ss,b::bg,k + 1,s,v,w,h,hk=>by
  have e:aF (b::bg) (k + 1)=aF bg k:=rfl;have:=oH (ss:=ss) (bg:=bg) (k:=k) (s:=s) (v:=v) (w:=w) h (by simpa using hk);rw [e,List.set_cons_succ,fU,fU,this];omega
theorem NS {ss:List S3}{bg:List Int}{o:Option Nat}{v G:Int}(ho:∀ k,o=some k->k < bg.length/\∃ x,ss[k]?=some x/\x.w=G):bI ss (iz bg o v) G=bI ss bg G + eN o v/\∀ w,w≠G->bI ss (iz bg o v) w=bI ss bg w:=by
 cases o with
 | none=>exact ⟨by unfold iz eN;simp,λ_ _=>rfl⟩
 | some k=>
  obtain ⟨hk,x,hx,e⟩:=ho k rfl;unfold iz eN;dsimp only;refine ⟨by rw [oH hx hk,if_pos e],λw hw=>by rw [oH hx hk,if_neg (by rw [e];exact hw.symm)];simp⟩
def j8 (bs:List Int)(w:Int)(o:Option Nat)(s:Int):List Int:=match o with
 | none=>bs.set w.toNat (aT bs w + s)
 | some _=>bs
theorem j6 {bs:List Int}{w:Int}{o:Option Nat}{s:Int}:(j8 bs w o s).length=bs.length:=by unfold j8;cases o <;> simp
theorem vE {bs:List Int}{w:Int}{o:Option Nat}{s:Int}(h0:0<=w)(h1:w < bs.length):aT (j8 bs w o s) w=aT bs w + (s - eN o s):=by
 cases o with
 | none=>unfold j8 eN;dsimp only;rw [O0 h0 h1];omega
 | some k=>unfold j8 eN;dsimp only;omega
theorem jD {bs:List Int}{w v:Int}{o:Option Nat}{s:Int}(h0:0<=w)(hv:0<=v)(ne:w≠v):aT (j8 bs w o s) v=aT bs v:=by
 cases o with
 | none=>unfold j8;dsimp only;exact Rf h0 hv ne
 | some k=>rfl
structure RI (r:M4) (ls ws:List S3) (af bs rs ks:List Int) (g0 g1 a0 a1:Int) (bg cm bs' aK aS:List Int):Prop where
 L:Hf ls (λs=>(s.w=r.lo\/s.w=r.hi)/\s.t < r.t) bg rs aK
 W:Hf ws (λs=>(s.w=r.lo\/s.w=r.hi)/\s.t ≥ r.t) cm ks aS
 z0:0<=g0
 z1:0<=g1
 gm:g0 + g1<=r.m
 XQ:a0=aT bs r.lo - (g0 - bI ls bg r.lo)
 XO:a1=aT bs r.hi - (g1 - bI ls bg r.hi)
 p0:0<=a0
 p1:0<=a1
 o0:0<=g0 - bI ls bg r.lo
 o1:0<=g1 - bI ls bg r.hi
 i0:0<=g1 - bI ws cm r.lo
 i1:0<=g0 - bI ws cm r.hi
 bl:bs'.length=bs.length
 XS:aT bs' r.lo=aT bs r.lo + ((g1 - bI ws cm r.lo) - (g0 - bI ls bg r.lo))
 XT:aT bs' r.hi=aT bs r.hi + ((g0 - bI ws cm r.hi) - (g1 - bI ls bg r.hi))
 bo:∀ w:Int,0<=w->w≠r.lo->w≠r.hi->aT bs' w=aT bs w
 rm:∀ w:Int,0<=w->w < af.length->aT bs' w<=aT af w
def M4.swap (r:M4):M4:=⟨r.hi,r.lo,r.t,r.m⟩
theorem RI.swap {r:M4}{ls ws:List S3}{af bs rs ks:List Int}{g0 g1 a0 a1:Int}{bg cm bs' aK aS:List Int}(h:RI r ls ws af bs rs ks g0 g1 a0 a1 bg cm bs' aK aS):RI r.swap ls ws af bs rs ks g1 g0 a1 a0 bg cm bs' aK aS where
 L:=⟨h.L.bl,h.L.rl,h.L.Nx,h.L.b0,h.L.r0,λk s hs p=>⟨(h.L.gw k s hs p).1.symm,(h.L.gw k s hs p).2⟩,h.L.eq⟩
 W:=⟨h.W.bl,h.W.rl,h.W.Nx,h.W.b0,h.W.r0,λk s hs p=>⟨(h.W.gw k s hs p).1.symm,(h.W.gw k s hs p).2⟩,h.W.eq⟩
 z0:=h.z1
 z1:=h.z0
 gm:=by have:=h.gm;show g1 + g0<=r.m;omega
 XQ:=h.XO
 XO:=h.XQ
 p0:=h.p1
 p1:=h.p0
 o0:=h.o1
 o1:=h.o0
 i0:=h.i1
 i1:=h.i0
 bl:=h.bl
 XS:=h.XT
 XT:=h.XS
 bo:=λw w0 n1 n2=>h.bo w w0 n2 n1
 rm:=h.rm
def X5 (ss:List S3)(G:Int)(ok:S3->Prop)(aK:List Int)(a s:Int)(o:Option Nat):Prop:=match o with
 | none=>s<=a
 | some k=>∃ x,ss[k]?=some x/\x.w=G/\ok x/\s<=aF aK k
theorem RI.Rp {r:M4}{ls ws:List S3}{af bs rs ks:List Int}{g0 g1 a0 a1 s:Int}{bg cm bs' aK aS:List Int}{o1 o2:Option Nat}(h:RI r ls ws af bs rs ks g0 g1 a0 a1 bg cm bs' aK aS)
  (hr:0<=r.lo/\r.lo < bs.length/\0<=r.hi/\r.hi < bs.length/\r.lo≠r.hi) (rl:bs.length=af.length) (s1:1<=s) (sm:s<=r.m - (g0 + g1))
  (h1:X5 ls r.lo (λx=>x.t < r.t) aK a0 s o1) (h2:X5 ws r.hi (λx=>x.t ≥ r.t) aS (aT af r.hi - aT bs' r.hi) s o2) :
  RI r ls ws af bs rs ks (g0 + s) g1 (a0 - (s - eN o1 s)) a1 (iz bg o1 s) (iz cm o2 s) (j8 (j8 bs' r.lo o1 (-s)) r.hi o2 s) (mL aK o1 s) (mL aS o2 s):=by
 obtain ⟨l0,l1,h0,h1',ne⟩:=hr;have l2:r.lo < bs'.length:=by rw [h.bl];exact l1
 have h2':r.hi < (j8 bs' r.lo o1 (-s)).length:=by rw [j6,h.bl];exact h1'
 have e1:∀ k,o1=some k->∃ x,ls[k]?=some x/\x.w=r.lo/\x.t < r.t/\s<=aF aK k:=λk e=>by subst e;exact h1
 have e2:∀ k,o2=some k->∃ x,ws[k]?=some x/\x.w=r.hi/\x.t ≥ r.t/\s<=aF aS k:=λk e=>by subst e;exact h2
 obtain ⟨f1,f2⟩:=NS (ss:=ls) (bg:=bg) (o:=o1) (v:=s) (G:=r.lo) λk e=>by
  obtain ⟨x,hx,hw,_⟩:=e1 k e;exact ⟨by rw [h.L.bl];exact (zH.mp hx).1,x,hx,hw⟩
 obtain ⟨f3,f4⟩:=NS (ss:=ws) (bg:=cm) (o:=o2) (v:=s) (G:=r.hi) λk e=>by
  obtain ⟨x,hx,hw,_⟩:=e2 k e;exact ⟨by rw [h.W.bl];exact (zH.mp hx).1,x,hx,hw⟩
 have f2:=f2 r.hi ne.symm;have f4:=f4 r.lo ne;have n1:eN o1 (-s)=- eN o1 s:=by cases o1 <;> simp [eN]
 have q1:0<=eN o1 s/\eN o1 s<=s:=by cases o1 <;> simp only [eN] <;> omega
 have q2:0<=eN o2 s/\eN o2 s<=s:=by cases o2 <;> simp only [eN] <;> omega
 have w1:s - eN o1 s<=a0:=by
  cases o1 with
  | none=>have h1:s<=a0:=h1;simp only [eN];omega
  | some k=>have:=h.p0;simp only [eN];omega
 have w2:aT bs' r.hi + (s - eN o2 s)<=aT af r.hi:=by
  cases o2 with
  | none=>have h2:s<=aT af r.hi - aT bs' r.hi:=h2;simp only [eN];omega
  | some k=>have:=h.rm r.hi h0 (by omega);simp only [eN];omega
 have b1:aT (j8 (j8 bs' r.lo o1 (-s)) r.hi o2 s) r.lo=aT bs' r.lo + (-s - eN o1 (-s)):=by rw [jD h0 l0 ne.symm,vE l0 l2]
 have b2:aT (j8 (j8 bs' r.lo o1 (-s)) r.hi o2 s) r.hi=aT bs' r.hi + (s - eN o2 s):=by rw [vE h0 h2',jD l0 h0 ne]
 have:=h.gm;have:=h.XQ;have:=h.XO;have:=h.p0;have:=h.p1;have:=h.o0;have:=h.o1;have:=h.i0;have:=h.i1;have:=h.XS;have:=h.XT;have:=h.z0;have:=h.z1;refine ⟨h.L.up (by omega) λk e=>?_,h.W.up (by omega) λk e=>?_,by omega,by omega,by omega,by rw [f1];omega,by rw [f2];omega,by omega,by omega,by rw [f1];omega,by rw [f2];omega,by rw [f4];omega,by rw [f3];omega,by rw [j6,j6,h.bl],by rw [b1,f1,f4,n1];omega,by rw [b2,f2,f3];omega,λw w0 m1 m2=>?_,λw w0 w1=>?_⟩
 ·obtain ⟨x,hx,hw,ht,hs⟩:=e1 k e;exact ⟨x,hx,⟨.inl hw,ht⟩,hs⟩
 ·obtain ⟨x,hx,hw,ht,hs⟩:=e2 k e;exact ⟨x,hx,⟨.inr hw,ht⟩,hs⟩
 ·rw [jD h0 w0 m2.symm,jD l0 w0 m1.symm];exact h.bo w w0 m1 m2
 ·by_cases c1:w=r.hi
  ·rw [c1,b2];exact w2
  ·rw [jD h0 w0 (Ne.symm c1)];by_cases c2:w=r.lo
   ·rw [c2,vE l0 l2,n1];have:=h.rm r.lo l0 (by omega);omega
   ·rw [jD l0 w0 (Ne.symm c2)];exact h.rm w w0 w1
def sel {α:Type}(way:Int)(x y:α):α:=if way=0 then x else y
theorem RI.step {r:M4}{ls ws:List S3}{af bs rs ks:List Int}{g0 g1 a0 a1 s way:Int}{bg cm bs' aK aS:List Int}{o1 o2:Option Nat}(h:RI r ls ws af bs rs ks g0 g1 a0 a1 bg cm bs' aK aS)(hw:way=0\/way=1)
  (hr:0<=r.lo/\r.lo < bs.length/\0<=r.hi/\r.hi < bs.length/\r.lo≠r.hi) (rl:bs.length=af.length) (s1:1<=s) (sm:s<=r.m - (g0 + g1))
  (h1:X5 ls (sel way r.lo r.hi) (λx=>x.t < r.t) aK (sel way a0 a1) s o1) (h2:X5 ws (sel way r.hi r.lo) (λx=>x.t ≥ r.t) aS (aT af (sel way r.hi r.lo) - aT bs' (sel way r.hi r.lo)) s o2) :
  RI r ls ws af bs rs ks (sel way (g0 + s) g0) (sel way g1 (g1 + s)) (sel way (a0 - (s - eN o1 s)) a0) (sel way a1 (a1 - (s - eN o1 s))) (iz bg o1 s) (iz cm o2 s) (j8 (j8 bs' (sel way r.lo r.hi) o1 (-s)) (sel way r.hi r.lo) o2 s) (mL aK o1 s) (mL aS o2 s):=by
 rcases hw with rfl | rfl
 ·exact h.Rp hr rl s1 sm h1 h2
 ·exact (RI.Rp (r:=r.swap) h.swap ⟨hr.2.2.1,hr.2.2.2.1,hr.1,hr.2.1,hr.2.2.2.2.symm⟩ rl s1 (by show s<=r.m - (g1 + g0);omega) h1 h2).swap
theorem RI.start {r:M4}{ls ws:List S3}{af bs rs ks:List Int}(lr:rs.length=ls.length)(lk:ks.length=ws.length)(r0:∀ x∈rs,(0:Int)<=x)(k0:∀ x∈ks,(0:Int)<=x)(rm:0<=r.m)
  (b0:∀ w:Int,0<=aT bs w) (br:∀ w:Int,0<=w->w < af.length->aT bs w<=aT af w):RI r ls ws af bs rs ks 0 0 (aT bs r.lo) (aT bs r.hi) (List.replicate ls.length 0) (List.replicate ws.length 0) bs rs ks:=by
 have z:∀ (ss:List S3) (w:Int),bI ss (List.replicate ss.length 0) w=0:=λss w=>by
  induction ss with
  | nil=>rfl
  | cons s ss ih=>rw [zk,ya,fU,ih];split <;> rfl
 exact ⟨Hf.start lr r0,Hf.start lk k0,by omega,by omega,by omega,by rw [z];omega,by rw [z];omega,b0 _,b0 _,by rw [z];omega,by rw [z];omega,by rw [z];omega,by rw [z];omega,rfl,by rw [z,z];omega,by rw [z,z];omega,λ_ _ _ _=>rfl,br⟩
structure O7 (r:M4) (ls ws:List S3) (af bs rs ks:List Int) (x:R4) (bs' aK aS:List Int):Prop where
 ok:x.ok ls.length ws.length
 win:bH r ls ws x=true
 beh:bJ bs r ls ws x=some bs'
 bl:bs'.length=bs.length
 b0:∀ w:Int,0<=aT bs' w
 br:∀ w:Int,0<=w->w < af.length->aT bs' w<=aT af w
 rl:aK.length=ls.length
 kl:aS.length=ws.length
 r0:∀ y∈aK,(0:Int)<=y
 k0:∀ y∈aS,(0:Int)<=y
 re:∀ k:Nat,k < ls.length->aF aK k=aF rs k - aF x.bg k
 ke:∀ k:Nat,k < ws.length->aF aS k=aF ks k - aF x.cm k
theorem Rc {xs ys:List Int}(l:xs.length=ys.length)(h:∀ w:Int,0<=w->aT xs w=aT ys w):xs=ys:=by
 refine List.ext_getElem? λi=>?_;by_cases hi:i < xs.length
 ·have:=h (i:Int) (by omega);unfold aT at this;rw [zx,zG,zG,zC hi,zC (by omega)] at this;rw [zC hi,zC (by omega)];exact congrArg some this
 ·rw [yR (by omega),yR (by omega)]
theorem RI.done {r:M4}{ls ws:List S3}{af bs rs ks:List Int}{g0 g1 a0 a1:Int}{bg cm bs' aK aS:List Int}(h:RI r ls ws af bs rs ks g0 g1 a0 a1 bg cm bs' aK aS)
  (hr:0<=r.lo/\r.lo < bs.length/\0<=r.hi/\r.hi < bs.length/\r.lo≠r.hi) (b0:∀ w:Int,0<=aT bs w):O7 r ls ws af bs rs ks ⟨g0,g1,bg,cm⟩ bs' aK aS:=by
 obtain ⟨l0,l1,h0,h1,ne⟩:=hr;have nat:∀ w:Int,∃ v:Int,0<=v/\∀ xs:List Int,aT xs w=aT xs v:=λw=>⟨w.toNat,by omega,λxs=>by unfold aT;rw [zx]⟩;have all:∀ (ss:List S3) (ns:List Int) (bad:S3->Bool),ns.length=ss.length->(∀ k s,ss[k]?=some s->0 < aF ns k->(s.w=r.lo\/s.w=r.hi)/\bad s=false)->(ss.zip ns).all (d9 r bad)=true:=λss ns bad ln hh=>by
  rw [zc];intro p hp;obtain ⟨k,hk⟩:=yA hp;rw [zz] at hk;have kn:k < ns.length:=(zH.mp hk.2).1;have e2:aF ns k=p.2:=Option.some.inj ((qF kn).symm.trans hk.2);unfold d9;by_cases c:0 < p.2
  ·obtain ⟨q1,q2⟩:=hh k p.1 hk.1 (by rw [e2];exact c);rw [q2,Bool.or_false];rcases q1 with q1 | q1 <;> simp [q1]
  ·rw [decide_eq_false c];rfl
 refine ⟨⟨h.z0,h.z1,h.L.bl,h.W.bl,h.L.b0,h.W.b0⟩,?_,?_,h.bl,λw=>?_,h.rm,h.L.Nx,h.W.Nx,h.L.r0,h.W.r0,h.L.eq,h.W.eq⟩
 ·unfold bH;rw [all ls bg _ h.L.bl λk s hs p=>⟨(h.L.gw k s hs p).1,by have:=(h.L.gw k s hs p).2;simp;omega⟩,all ws cm _ h.W.bl λk s hs p=>⟨(h.W.gw k s hs p).1,by have:=(h.W.gw k s hs p).2;simp;omega⟩];simpa using h.gm
 ·unfold bJ;have:=h.XQ;have:=h.XO;have:=h.p0;have:=h.p1;have c1:bO bs r.lo (g0 - bI ls bg r.lo) (g1 - bI ws cm r.lo)=true:=by unfold bO;rw [decide_eq_true h.o0,decide_eq_true h.i0,decide_eq_true (by omega)];rfl
  have c2:bO bs r.hi (g1 - bI ls bg r.hi) (g0 - bI ws cm r.hi)=true:=by unfold bO;rw [decide_eq_true h.o1,decide_eq_true h.i1,decide_eq_true (by omega)];rfl
  dsimp only;rw [c1,c2];refine congrArg some (Rc (by rw [zt,zt,h.bl]) λw w0=>?_);by_cases e1:w=r.hi
  ·rw [e1,O0 h0 (by rw [zt];exact h1),h.XT]
  ·rw [Rf h0 w0 (Ne.symm e1)];by_cases e2:w=r.lo
   ·rw [e2,O0 l0 l1,h.XS]
   ·rw [Rf l0 w0 (Ne.symm e2),h.bo w w0 e2 e1]
 ·obtain ⟨v,v0,ev⟩:=nat w;rw [ev];have:=h.XQ;have:=h.XO;have:=h.p0;have:=h.p1;have:=h.i0;have:=h.i1;by_cases e1:v=r.hi
  ·rw [e1,h.XT];omega
  ·by_cases e2:v=r.lo
   ·rw [e2,h.XS];omega
   ·rw [h.bo v v0 e2 e1];exact b0 v
theorem Wc {N:St->Hp->Prop}{σ:St}(bM:St){H:Hp}(e:σ=bM)(h:N bM H):N σ H:=by rw [e];exact h
theorem oK {i:Nat}{v:V}{Q:St->Hp->Prop}{σ:St}(bM:St){H:Hp}(e:σ.set i (some v)=bM)(h:Q bM H):iW i v σ H Q:=by unfold iW;rw [e];exact h
def A7 (a b c d e f g:Addr):Nat->Addr
 | 0=>a | 1=>b | 2=>c | 3=>d | 4=>e | 5=>f | _=>g
def F7 (a b c d e f g:List Int):Nat->List Int
 | 0=>a | 1=>b | 2=>c | 3=>d | 4=>e | 5=>f | _=>g
structure jG (H0:Hp) (p:Addr) (A:Nat->Addr):Prop where
 inj:∀ i j,i < 7->j < 7->A i=A j->i=j
 np:∀ i,i < 7->A i≠p
 fr:∀ i,3<=i->i < 7->H0 (A i)=none
structure bB (H0:Hp) (p:Addr) (A:Nat->Addr) (F:Nat->List Int) (H:Hp):Prop where
 pu:aN H p
 ls:∀ i,i < 7->H (A i)=some (.lst ((F i).map V.int))
 kp:∀ c u,c≠p->c≠A 0->c≠A 1->c≠A 2->H0 c=some u->H c=some u
theorem bB.go {H0:Hp}{p:Addr}{A:Nat->Addr}{F:Nat->List Int}{H H':Hp}(h:bB H0 p A F H)(a:jG H0 p A)(g:Go p H H'):bB H0 p A F H':=
 ⟨g.2,λi hi=>g.1 _ _ (a.np i hi) (h.ls i hi),λc u n0 n1 n2 n3 e=>g.1 _ _ n0 (h.kp c u n0 n1 n2 n3 e)⟩
theorem bB.same {H0:Hp}{p:Addr}{A:Nat->Addr}{F:Nat->List Int}{H H':Hp}(h:bB H0 p A F H)(s:au H H'):bB H0 p A F H':=
 ⟨by obtain ⟨a,b,c,e⟩:=h.pu;exact ⟨a,b,c,s _ _ e⟩,λi hi=>s _ _ (h.ls i hi),λc u n0 n1 n2 n3 e=>s _ _ (h.kp c u n0 n1 n2 n3 e)⟩
theorem bB.set {H0:Hp}{p:Addr}{A:Nat->Addr}{F F':Nat->List Int}{H:Hp}(h:bB H0 p A F H)(a:jG H0 p A){i:Nat}{ys:List V}(hi:i < 7)(e:ys=(F' i).map V.int)(o:∀ j,j < 7->j≠i->F' j=F j):bB H0 p A F' (upd H (A i) (.lst ys)):=by
 refine ⟨?_,λj hj=>?_,λc u n0 n1 n2 n3 q=>?_⟩
 ·obtain ⟨x,y,z,q⟩:=h.pu;exact ⟨x,y,z,by rw [xt (a.np i hi).symm];exact q⟩
 ·by_cases c:j=i
  ·subst c;rw [xj,e]
  ·rw [xt (λz=>c (a.inj j i hj hi z)),o j hj c];exact h.ls j hj
 ·have ne:c≠A i:=by
   intro z;subst z;by_cases k:i < 3
   ·match i,k with
    | 0,_=>exact n1 rfl
    | 1,_=>exact n2 rfl
    | 2,_=>exact n3 rfl
   ·rw [a.fr i (by omega) hi] at q;cases q
  rw [xt ne];exact h.kp c u n0 n1 n2 n3 q
theorem bB.VP {H0:Hp}{p:Addr}{A:Nat->Addr}{a b c d e f g y:List Int}{H:Hp}{ys:List V}(h:bB H0 p A (F7 a b c d e f g) H)(r:jG H0 p A)(q:ys=y.map V.int):bB H0 p A (F7 y b c d e f g) (upd H (A 0) (.lst ys)):=h.set r (by decide) q λj hj n=>by rcases j with _ | _ | _ | _ | _ | _ | _ | j <;> first | exact absurd rfl n | rfl
theorem bB.aav {H0:Hp}{p:Addr}{A:Nat->Addr}{a b c d e f g y:List Int}{H:Hp}{ys:List V}(h:bB H0 p A (F7 a b c d e f g) H)(r:jG H0 p A)(q:ys=y.map V.int):bB H0 p A (F7 a y c d e f g) (upd H (A 1) (.lst ys)):=h.set r (by decide) q λj hj n=>by rcases j with _ | _ | _ | _ | _ | _ | _ | j <;> first | exact absurd rfl n | rfl
theorem bB.aau {H0:Hp}{p:Addr}{A:Nat->Addr}{a b c d e f g y:List Int}{H:Hp}{ys:List V}(h:bB H0 p A (F7 a b c d e f g) H)(r:jG H0 p A)(q:ys=y.map V.int):bB H0 p A (F7 a b y d e f g) (upd H (A 2) (.lst ys)):=h.set r (by decide) q λj hj n=>by rcases j with _ | _ | _ | _ | _ | _ | _ | j <;> first | exact absurd rfl n | rfl
theorem bB.aat {H0:Hp}{p:Addr}{A:Nat->Addr}{a b c d e f g y:List Int}{H:Hp}{ys:List V}(h:bB H0 p A (F7 a b c d e f g) H)(r:jG H0 p A)(q:ys=y.map V.int):bB H0 p A (F7 a b c y e f g) (upd H (A 3) (.lst ys)):=h.set r (by decide) q λj hj n=>by rcases j with _ | _ | _ | _ | _ | _ | _ | j <;> first | exact absurd rfl n | rfl
theorem bB.aas {H0:Hp}{p:Addr}{A:Nat->Addr}{a b c d e f g y:List Int}{H:Hp}{ys:List V}(h:bB H0 p A (F7 a b c d e f g) H)(r:jG H0 p A)(q:ys=y.map V.int):bB H0 p A (F7 a b c d y f g) (upd H (A 4) (.lst ys)):=h.set r (by decide) q λj hj n=>by rcases j with _ | _ | _ | _ | _ | _ | _ | j <;> first | exact absurd rfl n | rfl
theorem bB.aar {H0:Hp}{p:Addr}{A:Nat->Addr}{a b c d e f g y:List Int}{H:Hp}{ys:List V}(h:bB H0 p A (F7 a b c d e f g) H)(r:jG H0 p A)(q:ys=y.map V.int):bB H0 p A (F7 a b c d e y g) (upd H (A 5) (.lst ys)):=h.set r (by decide) q λj hj n=>by rcases j with _ | _ | _ | _ | _ | _ | _ | j <;> first | exact absurd rfl n | rfl
theorem bB.aaq {H0:Hp}{p:Addr}{A:Nat->Addr}{a b c d e f g y:List Int}{H:Hp}{ys:List V}(h:bB H0 p A (F7 a b c d e f g) H)(r:jG H0 p A)(q:ys=y.map V.int):bB H0 p A (F7 a b c d e f y) (upd H (A 6) (.lst ys)):=h.set r (by decide) q λj hj n=>by rcases j with _ | _ | _ | _ | _ | _ | j <;> first | exact absurd rfl n | rfl | omega
def opts (ks:List Nat)(b:Bool):List Int:=ks.map (λk:Nat=>(k:Int))++if b then [-1] else []
def oI:Option Nat->Int
 | none=>-1
 | some k=>(k:Int)
def pk (rs:List Int)(a:Int):Option Nat->Int
 | none=>a
 | some k=>aF rs k
theorem KI {ks:List Nat}{b:Bool}{i:Nat}{x:Int}(h:(opts ks b)[i]?=some x):∃ o:Option Nat,x=oI o/\(o=none->b=true)/\∀ k,o=some k->k∈ks:=by
 have hm:=zB h;unfold opts at hm;rcases zV.mp hm with q | q
 ·obtain ⟨k,hk,rfl⟩:=zd.mp q;exact ⟨some k,rfl,nofun,λj e=>by cases e;exact hk⟩
 ·cases b with
  | false=>simp at q
  | true=>
   have q:x=-1:=by simpa using q
   exact ⟨none,q,λ_=>rfl,nofun⟩
theorem kR {b:Bool}:(List.replicate (Int.toNat (if b then 1 else 0)) [V.int (-1)]).flatten=(if b then [(-1:Int)] else []).map V.int:=by cases b <;> rfl
theorem rQ {ks:List Nat}{b:Bool}:(ks.map λk:Nat=>V.int (k:Int))++(if b then [(-1:Int)] else []).map V.int=(opts ks b).map V.int:=by unfold opts;rw [zD,zp];rfl
theorem KD {rs:List Int}{a:Int}{o:Option Nat}(h:∀ k,o=some k->k < rs.length):dU (rs.map V.int++[V.int a]) (oI o)=some (V.int (pk rs a o)):=by
 cases o with
 | none=>
  show dU _ (-1)=some (V.int a);unfold dU KW;rw [if_neg (by decide),if_pos (by rw [zO,zA];show -((rs.length + 1:Nat):Int)<=-1;omega)];show (rs.map V.int++[V.int a])[_]?=_;rw [yC (by rw [zA,zO,zA];show _<=(-1 + ((rs.length + 1:Nat):Int)).toNat;omega)];rw [zA,zO,zA];show [V.int a][(-1 + ((rs.length + 1:Nat):Int)).toNat - rs.length]?=_;rw [show (-1 + ((rs.length + 1:Nat):Int)).toNat - rs.length=0 by omega];rfl
 | some k=>
  show dU _ ((k:Nat):Int)=some (V.int (aF rs k));refine wP ?_;rw [yJ (by rw [zA];exact h k rfl),zF,qF (h k rfl)];rfl
theorem KJ {x:V}:[x].length<=sizeLine:=by rw [sizeLine_eq];show 1<=_;decide
theorem M1 {x y:V}:[x,y].length<=sizeLine:=by rw [sizeLine_eq];show 2<=_;decide
theorem Uy {x y z u:V}:[x,y,z,u].length<=sizeLine:=by rw [sizeLine_eq];show 4<=_;decide
theorem M7 {os:List Int}(h:0 < os.length)(h2:os.length<=9):(0:Int) < ((os.map V.int).length:Nat)/\(((os.map V.int).length:Nat):Int) < 2 ^ 200:=by
 have mQ:(2:Int) ^ 200 > 10000:=by decide
 rw [zA];omega
theorem RY {os:List Int}{x:V}(h:os.length<=8):(os.map V.int).length + [x].length<=sizeLine:=by rw [sizeLine_eq,zA];show os.length + 1<=_;omega
theorem vY {os:List Int}{i:Nat}(h:(i:Int) < ((os.map V.int).length:Nat)):∃ x,os[i]?=some x:=by rw [zA] at h;exact ⟨_,zC (by omega)⟩
theorem UM (x:V)(b:Bool):-(2:Int) ^ 63<=(if b=true then 1 else 0)/\(if b=true then (1:Int) else 0) < 2 ^ 63/\([x]:List V).length * Int.toNat (if b=true then 1 else 0)<=sizeLine:=by
 rw [sizeLine_eq];cases b
 ·exact ⟨by decide,by decide,by show 1 * 0<=_;decide⟩
 ·exact ⟨by decide,by decide,by show 1 * 1<=_;decide⟩
theorem N8 {ks:List Nat}(b:Bool)(h1:ks.length<=8):(ks.map λk:Nat=>V.int (k:Int)).length + ((List.replicate (Int.toNat (if b=true then 1 else 0)) [V.int (-1)]).flatten).length<=sizeLine:=by rw [kR,zA,zA,sizeLine_eq];cases b <;> simp only [if_true,if_false,zg,zk,yf] <;> omega
theorem rR {ks:List Nat}{b:Bool}(h1:ks.length<=8):(opts ks b).length<=9:=by unfold opts;rw [zO,zA];cases b <;> simp only [if_true,if_false,zg,zk,yf] <;> omega
theorem rP {os:List Int}(h:(os.map V.int).isEmpty=false):0 < os.length:=by
 cases os with
 | nil=>cases h
 | cons _ _=>exact Nat.succ_pos _
theorem Wv {a b m:Int}(h:a + b<=m)(c:m - (a + b)≠0):0 < m - (a + b):=by omega
theorem Wu {a b m:Int}(h:0<=a)(h':0<=b)(c:m<=99):m - (a + b)<=99:=by omega
theorem s36 {s d M:Int}(e:s=1 + d)(h:d < M):s<=M:=by omega
theorem aax {s d:Int}(e:s=1 + d)(h:0<=d):1<=s:=by omega
theorem rO {ss:List S3}{rs:List Int}{w t j a:Int}{ks:List Nat}{b:Bool}{o:Option Nat}(mem:∀ k∈ks,∃ s r,ss[k]?=some s/\rs[k]?=some r/\s.w=w/\vf j s t=true/\0 < r)(ob:o=none->b=true)(om:∀ k,o=some k->k∈ks)(hb:b=true->0 < a) :
  (∀ k,o=some k->k < rs.length)/\0 < pk rs a o/\∀ s:Int,s<=pk rs a o->∀ ok:S3->Prop,(∀ x,vf j x t=true->ok x)->X5 ss w ok rs a s o:=by
 cases o with
 | none=>exact ⟨nofun,hb (ob rfl),λs h ok _=>h⟩
 | some k=>
  obtain ⟨x,y,hx,hy,hw,hf,h0⟩:=mem k (om k rfl);have hk:=(zH.mp hy).1;have e:=Option.some.inj ((qF hk).symm.trans hy);refine ⟨λm z=>by cases z;exact hk,by show 0 < aF rs k;rw [e];exact h0,λs h ok q=>⟨x,hx,hw,q x hf,h⟩⟩
theorem QE (a b c:Int)(ha:0 < a)(h9:a<=99)(hb:0 < b)(hc:0 < c):∃ M:Int,(if c < (if b < a then b else a) then c else (if b < a then b else a))=M/\0 < M/\M < 2 ^ 200/\M<=a/\M<=b/\M<=c:=by
 have mQ:(2:Int) ^ 200 > 10000:=by decide
 exact ⟨_,rfl,by split <;> split <;> omega,by split <;> split <;> omega,by split <;> split <;> omega,by split <;> split <;> omega,by split <;> split <;> omega⟩
theorem sY (n:Nat):(List.replicate n [V.int 0]).flatten=(List.replicate n (0:Int)).map V.int:=by
 induction n with
 | zero=>rfl
 | succ n ih=>rw [ya,xD,ih,ya,zY];rfl
theorem jG.mk7 {H0:Hp}{p a b c d e f g:Addr}(nd:[a,b,c,d,e,f,g].Nodup)(np:∀ x∈[a,b,c,d,e,f,g],x≠p)(fd:H0 d=none)(fe:H0 e=none)(ff:H0 f=none)(fg:H0 g=none):jG H0 p (A7 a b c d e f g):=by
 have at7:∀ i,i < 7->[a,b,c,d,e,f,g][i]?=some (A7 a b c d e f g i):=λi hi=>by
  rcases i with _ | _ | _ | _ | _ | _ | _ | i <;> first | rfl | omega
 refine ⟨λi j hi hj ee=>(List.getElem?_inj (show i < [a,b,c,d,e,f,g].length from hi) nd).mp (by rw [at7 i hi,at7 j hj,ee]),λi hi=>np _ (zB (at7 i hi)),λi h3 hi=>?_⟩;rcases i with _ | _ | _ | _ | _ | _ | _ | i <;> first | omega | assumption
theorem bB.tup {H0:Hp}{p:Addr}{A:Nat->Addr}{F:Nat->List Int}{H:Hp}(h:bB H0 p A F H)(pu:aN H0 p)(l0:∀ i,i < 3->∃ xs,H0 (A i)=some (.lst xs)){c:Addr}{xs:List V}(e:H0 c=some (.tup xs)):H c=some (.tup xs):=by
 have ne:∀ i,i < 3->c≠A i:=λi hi=>by obtain ⟨ys,q⟩:=l0 i hi;exact qy e q (by intro z;cases z)
 exact h.kp c _ (pu.tup e) (ne 0 (by decide)) (ne 1 (by decide)) (ne 2 (by decide)) e
theorem bB.Rr {H0:Hp}{p:Addr}{A:Nat->Addr}{F:Nat->List Int}{H:Hp}(h:bB H0 p A F H)(pu:aN H0 p)(l0:∀ i,i < 3->∃ xs,H0 (A i)=some (.lst xs)){l:Addr}{ss:List (Addr×S3)}(hs:aD H0 l ss)(n0:l≠p)(n1:l≠A 0)(n2:l≠A 1)(n3:l≠A 2):aD H l ss:=
 ⟨h.kp _ _ n0 n1 n2 n3 hs.l,λa ha=>h.tup pu l0 (hs.each a ha)⟩
theorem vZ {way:Int}{x y z:Int}(h:way=0\/way=1):([x,y].map V.int).set way.toNat (V.int z)=([sel way z x,sel way y z]:List Int).map V.int:=by rcases h with rfl | rfl <;> rfl
theorem j3 {way:Int}{x y:Int}(h:way=0\/way=1):dU ([x,y].map V.int) way=some (V.int (sel way x y)):=by rcases h with rfl | rfl <;> rfl
theorem kI {α:Type}{way:Int}{x y:α}{P:α->Prop}(hx:P x)(hy:P y):P (sel way x y):=by unfold sel;split <;> assumption
theorem none_of {H H1:Hp}{a:Addr}(s:au H H1)(h:H1 a=none):H a=none:=by
 cases z:H a with
 | none=>rfl
 | some u=>rw [s _ _ z] at h;cases h
theorem bB.fresh {H0:Hp}{p:Addr}{A:Nat->Addr}{F:Nat->List Int}{H:Hp}(h:bB H0 p A F H){x:Addr}(hx:H x=none):H0 x=none:=by
 have n0:x≠p:=λz=>by obtain ⟨a,b,c,e⟩:=h.pu;rw [z,e] at hx;cases hx
 have n:∀ i,i < 7->x≠A i:=λi hi z=>by rw [z,h.ls i hi] at hx;cases hx
 cases z:H0 x with
 | none=>rfl
 | some u=>rw [h.kp x u n0 (n 0 (by decide)) (n 1 (by decide)) (n 2 (by decide)) z] at hx;cases hx
def P8:Sp:=λvs H Q _=>∃ p tr m ll lw st lb lr lk,∃ af:List Int,∃ r:M4,∃ ls ws bs rs ks,vs=[.ref p,.ref tr,.ref m,.ref ll,.ref lw,.ref st]/\aN H p/\H tr=some (.tup (af.map V.int))/\H m=some (.tup [.int r.lo,.int r.hi,.int r.t,.int r.m])/\aD H ll ls/\aD H lw ws/\H st=some (.tup [.ref lb,.ref lr,.ref lk]) /\
 (H lb=some (.lst (List.map V.int bs))/\H lr=some (.lst (List.map V.int rs))/\H lk=some (.lst (List.map V.int ks)))/\(lb≠lr/\lb≠lk/\lr≠lk/\lb≠p/\lr≠p/\lk≠p)/\((ll≠p/\ll≠lb/\ll≠lr/\ll≠lk)/\lw≠p/\lw≠lb/\lw≠lr/\lw≠lk) /\
 (0<=r.lo/\r.lo < r.hi/\r.hi < af.length/\1<=r.m/\r.m<=99)/\(bs.length=af.length/\af.length<=12/\rs.length=ls.length/\ks.length=ws.length/\ls.length<=8/\ws.length<=8)/\(∀ x∈rs,(0:Int)<=x)/\(∀ x∈ks,(0:Int)<=x)/\(∀ w:Int,0<=aT bs w)/\(∀ w:Int,0<=w->w < af.length->aT bs w<=aT af w) /\
 ∀ (x:RA) bs' aK aS H',(∀ c u,c≠p->c≠lb->c≠lr->c≠lk->H c=some u->H' c=some u)->aN H' p->H' lb=some (.lst (List.map V.int bs'))->H' lr=some (.lst (List.map V.int aK))->H' lk=some (.lst (List.map V.int aS))->RA.At H' x->(H x.a=none/\H x.b=none/\H x.c=none)->O7 r (ls.map (·.2)) (ws.map (·.2)) af bs rs ks x.r bs' aK aS->Q (.ref x.a) H'
def aL (f:T3->Int)(ts:List T3)(k:Nat):Int:=((ts.filter λt=>decide (f t=(k:Int))).map (·.m)).sum
theorem kF {f:T3->Int}{ts:List T3}{t:T3}{k:Nat}:aL f (ts++[t]) k=aL f ts k + if f t=(k:Int) then t.m else 0:=by
 unfold aL;rw [yF,zD,zu];by_cases c:f t=(k:Int)
 ·simp [c]
 ·simp [c]
theorem Nf:∀ {xs ys:List Int},xs.Perm ys->xs.sum=ys.sum:=λh=>by
 induction h with
 | nil=>rfl
 | cons x _ ih=>rw [yB,yB,ih]
 | swap x y l=>rw [yB,yB,yB,yB];omega
 | trans _ _ ih1 ih2=>rw [ih1,ih2]
theorem kG {f:T3->Int}{ts us:List T3}{k:Nat}(h:ts.Perm us):aL f ts k=aL f us k:=Nf ((h.filter _).map _)
structure eH (ls ws:List S3) (rs ks:List Int) (ts:List T3) (aK aS:List Int):Prop where
 ones:∀ t∈ts,T3.ok ls.length ws.length t
 str:∀ t∈ts,Lu ls ws t=true
 nd:(ts.map λt=>[t.k,t.j]).Nodup
 rl:aK.length=ls.length
 kl:aS.length=ws.length
 r0:∀ y∈aK,(0:Int)<=y
 k0:∀ y∈aS,(0:Int)<=y
 re:∀ k:Nat,k < ls.length->aF aK k=aF rs k - aL (·.k) ts k
 ke:∀ k:Nat,k < ws.length->aF aS k=aF ks k - aL (·.j) ts k
theorem eH.perm {ls ws:List S3}{rs ks:List Int}{ts us:List T3}{aK aS:List Int}(h:eH ls ws rs ks ts aK aS)(p:us.Perm ts):eH ls ws rs ks us aK aS:=
 ⟨λt ht=>h.ones t (p.mem_iff.mp ht),λt ht=>h.str t (p.mem_iff.mp ht),((p.map λt:T3=>[t.k,t.j]).nodup_iff).mpr h.nd,h.rl,h.kl,h.r0,h.k0,λk hk=>by rw [kG p];exact h.re k hk,λk hk=>by rw [kG p];exact h.ke k hk⟩
theorem QF {xs:List Int}{y:Int}(h:y∈xs):∃ k,k < xs.length/\y=aF xs k:=by obtain ⟨k,hk,e⟩:=xI h;exact ⟨k,hk,by have:=qF hk;rw [zC hk,e] at this;exact Option.some.inj this⟩
theorem jt {xs:List Int}{k:Nat}{v:Int}{P:Int->Prop}(h:∀ y∈xs,P y)(hv:P v):∀ y∈xs.set k v,P y:=λy hy=>by
 rcases yP hy with q | q
 ·exact h y q
 ·rw [q];exact hv
def R7 (ts:List T3)(k j:Nat):Prop:=∀ t∈ts,t.k < k\/(t.k=k/\t.j < j)
theorem eH.step {ls ws:List S3}{rs ks:List Int}{ts:List T3}{aK aS:List Int}{k j:Nat}{s:Int}{l w:S3}(h:eH ls ws rs ks ts aK aS)(a:R7 ts k j)(hl:ls[k]?=some l)(hw:ws[j]?=some w)(st:b7 l w=true)(s0:0 < s)(s1:s<=aF aK k)(s2:s<=aF aS j) :
  eH ls ws rs ks (ts++[⟨k,j,s⟩]) (aK.set k (aF aK k - s)) (aS.set j (aF aS j - s)):=by
 have lk:=(zH.mp hl).1;have lj:=(zH.mp hw).1;refine ⟨λt ht=>?_,λt ht=>?_,?_,by rw [zt,h.rl],by rw [zt,h.kl],jt (P:=λy=>0<=y) h.r0 (by omega),jt (P:=λy=>0<=y) h.k0 (by omega),λm hm=>?_,λm hm=>?_⟩
 ·rcases zV.mp ht with q | q
  ·exact h.ones t q
  ·rw [zK.mp q];exact ⟨⟨by show (0:Int)<=(k:Int);omega,by show (k:Int) < _;omega⟩,⟨by show (0:Int)<=(j:Int);omega,by show (j:Int) < _;omega⟩,s0⟩
 ·rcases zV.mp ht with q | q
  ·exact h.str t q
  ·rw [zK.mp q,ou (l:=l) (w:=w) (by show ls[((k:Int)).toNat]?=_;rw [zx];exact hl) (by show ws[((j:Int)).toNat]?=_;rw [zx];exact hw)];exact st
 ·rw [zD,List.nodup_append];refine ⟨h.nd,by simp,λx hx y hy e=>?_⟩;obtain ⟨t,ht,rfl⟩:=zd.mp hx;have hy:=zK.mp hy;rw [hy] at e;have e1:t.k=(k:Int):=by have:=congrArg List.head? e;simpa using this
  have e2:t.j=(j:Int):=by have:=congrArg (λl:List Int=>l.getD 1 0) e;simpa using this
  rcases a t ht with q | ⟨_,q⟩
  ·omega
  ·omega
 ·rw [kF];by_cases c:k=m
  ·subst c;rw [gF (by rw [h.rl];exact lk),if_pos rfl,h.re k hm];show _ - s=_ - (_ + s);omega
  ·rw [cH c,if_neg (by show ¬ (k:Int)=m;omega),h.re m hm];omega
 ·rw [kF];by_cases c:j=m
  ·subst c;rw [gF (by rw [h.kl];exact lj),if_pos rfl,h.ke j hm];show _ - s=_ - (_ + s);omega
  ·rw [cH c,if_neg (by show ¬ (j:Int)=m;omega),h.ke m hm];omega
theorem ux {xs:List Int}{k:Nat}(h:k < xs.length):xs.set k (aF xs k - 0)=xs:=by
 refine List.ext_getElem? λi=>?_;rw [List.getElem?_set];by_cases c:k=i
 ·subst c;rw [if_pos rfl,if_pos h,qF h,Int.sub_zero]
 ·rw [if_neg c]
def P7:Sp:=λvs H Q _=>∃ p ll lw st lb lr lk ls ws rs ks,vs=[.ref p,.ref ll,.ref lw,.ref st]/\aN H p/\aD H ll ls/\aD H lw ws/\H st=some (.tup [.ref lb,.ref lr,.ref lk]) /\
 (H lr=some (.lst (List.map V.int rs))/\H lk=some (.lst (List.map V.int ks)))/\(lr≠lk/\lr≠p/\lk≠p)/\((ll≠p/\ll≠lr/\ll≠lk)/\lw≠p/\lw≠lr/\lw≠lk) /\
 (rs.length=ls.length/\ks.length=ws.length/\ls.length<=8/\ws.length<=8)/\(∀ x∈rs,(0:Int)<=x/\x<=99)/\(∀ x∈ks,(0:Int)<=x) /\
 ∀ l (ts:List (Addr×T3)) aK aS H',(∀ c u,c≠p->c≠lr->c≠lk->H c=some u->H' c=some u)->aN H' p->H' lr=some (.lst (List.map V.int aK))->H' lk=some (.lst (List.map V.int aS))->H l=none->H' l=some (.lst (ts.map λx=>V.ref x.1))->(∀ x∈ts,H' x.1=some (.tup [.int x.2.k,.int x.2.j,.int x.2.m]))->ts.length<=64 ->
  eH (ls.map (·.2)) (ws.map (·.2)) rs ks (ts.map (·.2)) aK aS->Q (.ref l) H'
structure iC (af:List Int) (ls ws:List S3) (ms:List M4) (xs:List R4) (b0 rs ks bs' aK aS:List Int):Prop where
 len:xs.length=ms.length
 ok:∀ x∈xs,x.ok ls.length ws.length
 kept:∀ rest,dH af ls ws (ms.zip xs++rest) b0=dH af ls ws rest bs'
 bl:bs'.length=af.length
 b0:∀ w:Int,0<=aT bs' w
 br:∀ w:Int,0<=w->w < af.length->aT bs' w<=aT af w
 rl:aK.length=ls.length
 kl:aS.length=ws.length
 r0:∀ y∈aK,(0:Int)<=y
 k0:∀ y∈aS,(0:Int)<=y
 re:∀ k:Nat,k < ls.length->aF aK k=aF rs k - (xs.map λx=>aF x.bg k).sum
 ke:∀ k:Nat,k < ws.length->aF aS k=aF ks k - (xs.map λx=>aF x.cm k).sum
theorem mV {α β:Type}:∀ {xs:List α}{ys:List β}{us:List α}{vs:List β},xs.length=ys.length->(xs++us).zip (ys++vs)=xs.zip ys++us.zip vs
 | [],[],_,_,_=>rfl
 | x::xs,y::ys,us,vs,h=>by
  rw [yt,yt,ym,ym,mV (Nat.succ.inj h),yt]
theorem iC.step {af:List Int}{ls ws:List S3}{ms:List M4}{xs:List R4}{b0 rs ks bs' aK aS OX Qp fj:List Int}{r:M4}{x:R4}(h:iC af ls ws ms xs b0 rs ks bs' aK aS)(o:O7 r ls ws af bs' aK aS x OX Qp fj) :
  iC af ls ws (ms++[r]) (xs++[x]) b0 rs ks OX Qp fj:=by
 refine ⟨by rw [zO,zO,h.len];rfl,λy hy=>?_,λrest=>?_,by rw [o.bl,h.bl],o.b0,o.br,o.rl,o.kl,o.r0,o.k0,λk hk=>?_,λk hk=>?_⟩
 ·rcases zV.mp hy with q | q
  ·exact h.ok y q
  ·rw [zK.mp q];exact o.ok
 ·rw [mV h.len.symm,xM,h.kept];show dH af ls ws ((r,x)::rest) bs'=_;rw [lF,o.win,o.beh,zZ];show (((OX.zip af).all λp=>decide (p.1<=p.2)) && _)=_;have:((OX.zip af).all λp=>decide (p.1<=p.2))=true:=by
   rw [zc];intro p hp;obtain ⟨k,hk⟩:=yA hp;rw [zz] at hk;have k1:=(zH.mp hk.1).1;have k2:=(zH.mp hk.2).1;have e1:aT OX (k:Int)=p.1:=Option.some.inj (by rw [<-hk.1];unfold aT;rw [zx];exact (qF k1).symm);have e2:aT af (k:Int)=p.2:=Option.some.inj (by rw [<-hk.2];unfold aT;rw [zx];exact (qF k2).symm);have:=o.br (k:Int) (by omega) (by omega);rw [e1,e2] at this;exact decide_eq_true this
  rw [this,zZ]
 ·rw [o.re k hk,h.re k hk,zD,zu];show _=_ - (_ + (aF x.bg k + 0));omega
 ·rw [o.ke k hk,h.ke k hk,zD,zu];show _=_ - (_ + (aF x.cm k + 0));omega
structure dj (af:List Int) (ms:List M4) (ls ws:List S3) (xs:List R4) (ts:List T3) (fj:List Int):Prop where
 kept:dH af ls ws (ms.zip xs) (List.replicate af.length 0)=true
 str:∀ t∈ts,Lu ls ws t=true
 ones:∀ t∈ts,T3.ok ls.length ws.length t
 left:∀ k:Nat,k < ls.length->(xs.map λx=>aF x.bg k).sum + aL (·.k) ts k<=aF (ls.map (·.m)) k
 Rb:∀ k:Nat,k < ws.length->(xs.map λx=>aF x.cm k).sum + aL (·.j) ts k=aF (ws.map (·.m)) k - aF fj k
 kl:fj.length=ws.length
 k0:∀ y∈fj,(0:Int)<=y
theorem pW {n:Nat}{rows:List (List Int)}{ts:List T3}{f:T3->Int}{k:Nat}(h:k < n):(dM n rows (ts.map λt=>(f t,t.m)))[k]?=some ((rows.map λr=>aF r k).sum + aL f ts k):=by rw [gq h];congr 2;unfold aL;rw [List.filter_map,zp];rfl
theorem dX {xs:List Int}:∀ {n:Nat}{f:Nat->Int},xs.length=n->(∀ k,k < n->aF xs k=f k)->xs.sum=((List.range n).map f).sum:=by
 intro n f l h;have:xs=(List.range n).map f:=by
  refine List.ext_getElem? λi=>?_;by_cases hi:i < n
  ·rw [qF (by omega),h i hi,zF,List.getElem?_range hi];rfl
  ·rw [yR (by omega),yR (by rw [zA,xO];omega)]
 rw [this]
theorem oh {n:Nat}{f g:Nat->Int}:((List.range n).map λk=>f k - g k).sum=((List.range n).map f).sum - ((List.range n).map g).sum:=by
 induction n with
 | zero=>rfl
 | succ n ih=>
  rw [xL,zD,zD,zD,zu,zu,zu,ih];show _ + (f n - g n + 0)=_ + (f n + 0) - (_ + (g n + 0));omega
theorem Ls {n:Nat}{f g:Nat->Int}:((List.range n).map λk=>f k + g k).sum=((List.range n).map f).sum + ((List.range n).map g).sum:=by
 induction n with
 | zero=>rfl
 | succ n ih=>
  rw [xL,zD,zD,zD,zu,zu,zu,ih];show _ + (f n + g n + 0)=_ + (f n + 0) + (_ + (g n + 0));omega
theorem ki {n:Nat}:((List.range n).map λ_=>(0:Int)).sum=0:=by
 induction n with
 | zero=>rfl
 | succ n ih=>rw [xL,zD,zu,ih];rfl
theorem Lr {n:Nat}{a m:Int}(h0:0<=a)(h1:a < n):((List.range n).map λk:Nat=>if a=(k:Int) then m else 0).sum=m:=by
 induction n with
 | zero=>omega
 | succ n ih=>
  rw [xL,zD,zu];show _ + ((if a=((n:Nat):Int) then m else 0) + 0)=m;by_cases c:a=(n:Int)
  ·rw [if_pos c];have:((List.range n).map λk:Nat=>if a=(k:Int) then m else 0).sum=0:=by
    have:((List.range n).map λk:Nat=>if a=(k:Int) then m else 0)=(List.range n).map λ_=>(0:Int):=xG λk hk=>by
     rw [if_neg];have:=yG.mp hk;omega
    rw [this];exact ki
   rw [this];omega
  ·rw [if_neg c,ih (by omega)];omega
theorem mY {n:Nat}{f:T3->Int}:∀ {ts:List T3},(∀ t∈ts,0<=f t/\f t < n)->((List.range n).map (aL f ts)).sum=(ts.map (·.m)).sum:=by
 intro ts;induction ts with
 | nil=>
  intro _;have:(List.range n).map (aL f [])=(List.range n).map λ_=>(0:Int):=rfl;rw [this];exact ki
 | cons t ts ih=>
  intro h;have e:(List.range n).map (aL f (t::ts))=(List.range n).map λk:Nat=>(if f t=(k:Int) then t.m else 0) + aL f ts k:=xG λk _=>by
   unfold aL;rw [xT];by_cases c:f t=(k:Int)
   ·simp [c]
   ·simp [c]
  rw [e,Ls,ih λu hu=>h u (zU _ hu),Lr (h t za).1 (h t za).2];rfl
theorem MY {ns:List Int}{ss:List S3}(l:ns.length=ss.length)(h:∀ k:Nat,k < ss.length->aF ns k<=aF (ss.map (·.m)) k):iI ns ss=true:=by
 unfold iI;rw [zc];intro p hp;obtain ⟨k,hk⟩:=yA hp;rw [zz] at hk;have k1:=(zH.mp hk.1).1;have k2:=(zH.mp hk.2).1;have e1:aF ns k=p.1:=Option.some.inj ((qF k1).symm.trans hk.1);have e2:aF (ss.map (·.m)) k=p.2.m:=by
  have:(ss.map (·.m))[k]?=some p.2.m:=by rw [zF,hk.2];rfl
  exact Option.some.inj ((qF (by rw [zA];exact k2)).symm.trans this)
 have:=h k k2;rw [e1,e2] at this;exact decide_eq_true this
theorem dj.worth {af:List Int}{ms:List M4}{ls ws:List S3}{xs:List R4}{ts:List T3}{fj:List Int}(h:dj af ms ls ws xs ts fj)(us:List T3)(hu:us=ts\/us=[]) :
  b6 af ms ls ws xs us=some ((ws.map (·.m)).sum - fj.sum - ((ts.map (·.m)).sum - (us.map (·.m)).sum)):=by
 have m0:∀ {f:T3->Int}{k:Nat},0<=aL f ts k:=λ{f k}=>by
  unfold aL;have:∀ l:List T3,(∀ t∈l,0 < t.m)->0<=(l.map (·.m)).sum:=λl=>by
   induction l with
   | nil=>intro _;exact yE _
   | cons t l ih=>intro q;rw [zY,yB];have:=q t za;have:=ih λu hu=>q u (zU _ hu);omega
  exact this _ λt ht=>(h.ones t (List.mem_filter.mp ht).1).m
 have le:∀ {f:T3->Int}{k:Nat},aL f us k<=aL f ts k:=λ{f k}=>by
  rcases hu with rfl | rfl
  ·exact yE _
  ·exact m0
 have str:dY ls ws us=true:=by
  unfold dY;rw [zc];rcases hu with rfl | rfl
  ·exact h.str
  ·exact nofun
 have gl:∀ k,k < ls.length->aF (gT ls.length xs us) k=(xs.map λx=>aF x.bg k).sum + aL (·.k) us k:=λk hk=>by
  have:=pW (n:=ls.length) (rows:=xs.map (·.bg)) (ts:=us) (f:=(·.k)) hk;rw [zp] at this;have e:(gT ls.length xs us)[k]?=_:=this;exact Option.some.inj ((qF (by unfold gT;rw [qX];exact hk)).symm.trans e)
 have gc:∀ k,k < ws.length->aF (dc ws.length xs us) k=(xs.map λx=>aF x.cm k).sum + aL (·.j) us k:=λk hk=>by
  have:=pW (n:=ws.length) (rows:=xs.map (·.cm)) (ts:=us) (f:=(·.j)) hk;rw [zp] at this;have e:(dc ws.length xs us)[k]?=_:=this;exact Option.some.inj ((qF (by unfold dc;rw [qX];exact hk)).symm.trans e)
 have u1:iI (gT ls.length xs us) ls=true:=MY (by unfold gT;rw [qX]) λk hk=>by
  have:=h.left k hk;have:=le (f:=(·.k)) (k:=k);rw [gl k hk];omega
 have u2:iI (dc ws.length xs us) ws=true:=MY (by unfold dc;rw [qX]) λk hk=>by
  have:=h.Rb k hk;have:=le (f:=(·.j)) (k:=k);have:=h.k0 _ (qP (show k < fj.length by rw [h.kl];exact hk));rw [gc k hk];omega
 have sm:(dc ws.length xs us).sum=(ws.map (·.m)).sum - fj.sum - ((ts.map (·.m)).sum - (us.map (·.m)).sum):=by
  have a1:=dX (xs:=dc ws.length xs us) (n:=ws.length) (f:=λk=>(aF (ws.map (·.m)) k - aF fj k) - (aL (·.j) ts k - aL (·.j) us k)) (by unfold dc;rw [qX]) λk hk=>by
   rw [gc k hk];have:=h.Rb k hk;omega
  rw [a1,oh,oh,oh];have b1:=dX (xs:=ws.map (·.m)) (n:=ws.length) (f:=λk=>aF (ws.map (·.m)) k) (by rw [zA]) λk _=>rfl;have b2:=dX (xs:=fj) (n:=ws.length) (f:=λk=>aF fj k) h.kl λk _=>rfl;have b3:((List.range ws.length).map λk=>aL (·.j) ts k).sum=(ts.map (·.m)).sum:=mY (n:=ws.length) (f:=(·.j)) λt ht=>(h.ones t ht).j;have b4:((List.range ws.length).map λk=>aL (·.j) us k).sum=(us.map (·.m)).sum:=mY (n:=ws.length) (f:=(·.j)) λt ht=>by
   rcases hu with rfl | rfl
   ·exact (h.ones t ht).j
   ·cases ht
  rw [<-b1,<- b2,b3,b4]
 unfold b6;rw [str,h.kept,u1,u2,sm];rfl
def Nn (K:PySem.W.Frag):Sp:=λvs H Q _=>∃ sa hd b ll lw af tr tm ps ls ws ns,∃ n:Nat,∃ H0,vs=[.ref sa,.ref hd,.ref b,.ref ll,.ref lw,.int n]/\aB K H0 sa (List.map V.int ns)/\ns.length<=63/\H0 hd=none/\au H0 H/\n < 100/\aY H b af tr tm ps/\Good af.length (ps.map (·.2))/\1<=af.length/\af.length<=12/\(∀ y∈af,(0:Int)<=y)/\aN H hd/\aD H ll ls/\aD H lw ws/\(ll≠hd/\lw≠hd)/\ls.length<=8/\ws.length<=8/\(∀ a∈ls,1<=a.2.m/\a.2.m<=99)/\(∀ a∈ws,1<=a.2.m/\a.2.m<=99) /\
 ∀ t p lr lt xs ts lk fj H',Go hd H H'->H' t=some (.tup [.ref p,.ref lk])->vJ H' p lr lt xs ts->vI ps.length ls.length ws.length xs ts->(ts.map λx=>[x.2.k,x.2.j]).Nodup->H' lk=some (.lst (List.map V.int fj))->dj af (ps.map (·.2)) (ls.map (·.2)) (ws.map (·.2)) (xs.map (·.r)) (ts.map (·.2)) fj->Q (.ref t) H'
structure PF (H:Hp) (hd lb lr lk st:Addr) (bs rs ks:List Int) (H9:Hp):Prop where
 pu:aN H9 hd
 kp:∀ c u,c≠hd->H c=some u->H9 c=some u
 kb:H9 lb=some (.lst (bs.map V.int))
 kr:H9 lr=some (.lst (rs.map V.int))
 kk:H9 lk=some (.lst (ks.map V.int))
 ks:H9 st=some (.tup [.ref lb,.ref lr,.ref lk])
structure PN (H:Hp) (hd lb lr lk:Addr):Prop where
 b:H lb=none
 r:H lr=none
 k:H lk=none
 br:lb≠lr
 bk:lb≠lk
 rk:lr≠lk
 bp:lb≠hd
 rp:lr≠hd
 kp:lk≠hd
theorem PF.same {H:Hp}{hd lb lr lk st:Addr}{bs rs ks:List Int}{H9 H':Hp}(h:PF H hd lb lr lk st bs rs ks H9)(s:au H9 H'):PF H hd lb lr lk st bs rs ks H':=
 ⟨by obtain ⟨a,b,c,e⟩:=h.pu;exact ⟨a,b,c,s _ _ e⟩,λc u n e=>s _ _ (h.kp c u n e),s _ _ h.kb,s _ _ h.kr,s _ _ h.kk,s _ _ h.ks⟩
theorem PF.str {H:Hp}{hd lb lr lk st:Addr}{bs rs ks Kv sr:List Int}{H6 H7:Hp}(f:PF H hd lb lr lk st bs rs ks H6)(n:PN H hd lb lr lk)(k:∀ c u,c≠hd->c≠lr->c≠lk->H6 c=some u->H7 c=some u)(pu:aN H7 hd)(kr:H7 lr=some (.lst (Kv.map V.int)))(kk:H7 lk=some (.lst (sr.map V.int))):PF H hd lb lr lk st bs Kv sr H7:=
 ⟨pu,λc u m e=>k c u m (xk e n.r) (xk e n.k) (f.kp c u m e),k _ _ n.bp n.br n.bk f.kb,kr,kk,k _ _ (f.pu.tup f.ks) (qy f.ks f.kr (by intro z;cases z)) (qy f.ks f.kk (by intro z;cases z)) f.ks⟩
structure pK (H9:Hp) (la:Addr) (ts:List (Addr×T3)):Prop where
 l:H9 la=some (.lst (ts.map λx=>V.ref x.1))
 e:∀ x∈ts,H9 x.1=some (.tup [.int x.2.k,.int x.2.j,.int x.2.m])
theorem gB {ps:List (Addr×S3)}:(ps.map (·.2)).map (·.m)=ps.map λa=>a.2.m:=by rw [zp];rfl
theorem Lq {xs:List Int}(h:∀ x∈xs,0<=x):0<=xs.sum:=by
 induction xs with
 | nil=>exact yE _
 | cons x xs ih=>rw [yB];have:=h x za;have:=ih λy hy=>h y (zU _ hy);omega
theorem Qu {H:Hp}{p la:Addr}{ts:List (Addr×T3)}(pu:aN H p)(k:H la=some (.lst (ts.map λx=>V.ref x.1))):la≠p:=by
 rintro rfl;obtain ⟨a,b,c,e⟩:=pu;rw [k] at e;cases ts with
 | nil=>simp at e
 | cons x ts=>simp at e
theorem u6 {af:List Int}{ms:List M4}{ls ws:List S3}{xs:List R4}{ts:List T3}{b1 r1 k1 r2 k2:List Int}(a:eH ls ws (ls.map (·.m)) (ws.map (·.m)) ts r1 k1)(b:iC af ls ws ms xs (List.replicate af.length 0) r1 k1 b1 r2 k2):dj af ms ls ws xs ts k2:=
 ⟨by have:=b.kept [];rw [yK] at this;rw [this];rfl,a.str,a.ones,λk hk=>by have:=a.re k hk;have:=b.re k hk;have:=b.r0 _ (qP (show k < r2.length by rw [b.rl];exact hk));omega,λk hk=>by have:=a.ke k hk;have:=b.ke k hk;omega,b.kl,b.k0⟩
theorem Mh {af:List Int}{ms:List M4}{ls ws:List S3}{xs:List R4}{ts:List T3}{b1 r1 k1 r2 k2:List Int}(b:iC af ls ws ms xs (List.replicate af.length 0) (ls.map (·.m)) (ws.map (·.m)) b1 r1 k1)(a:eH ls ws r1 k1 ts r2 k2):dj af ms ls ws xs ts k2:=
 ⟨by have:=b.kept [];rw [yK] at this;rw [this];rfl,a.str,a.ones,λk hk=>by have:=a.re k hk;have:=b.re k hk;have:=a.r0 _ (qP (show k < r2.length by rw [a.rl];exact hk));omega,λk hk=>by have:=a.ke k hk;have:=b.ke k hk;omega,a.kl,a.k0⟩
end Sm
namespace L2
open PySem PySem.Spec PyProof.Rows
theorem mS (elt t1 i1 t2 i2:Expr)(fm cR:List Expr)(scope:Scope)(pos:Pos)(it acc:Value)(env:Env) :
  compTurn (.ListComp elt [⟨t1,i1,fm,0⟩,⟨t2,i2,cR,0⟩] scope pos) 0 it acc env=(do
   standAt i1.pos
   match <- pyNext it with
   | none=>pure (.done .next)
   | some v=>
    letOwnedTupleGo t1 it v
    assign t1 env v
    let mut ok:=true
    for c in fm do
     if ok then ok <- isTrue c env (eval c env)
    if ok then
     let x <- eval i2 env
     standAt i2.pos
     let x <- foldedSetIterable i2 env x
     let Vh <- holding [x] (pyIter x)
     let _ <- runOwn (.compStart (.ListComp elt [⟨t1,i1,fm,0⟩,⟨t2,i2,cR,0⟩] scope pos) 1 Vh acc env) env
     again (.compLoop (.ListComp elt [⟨t1,i1,fm,0⟩,⟨t2,i2,cR,0⟩] scope pos) 0 it acc env)
    else
     again (.compLoop (.ListComp elt [⟨t1,i1,fm,0⟩,⟨t2,i2,cR,0⟩] scope pos) 0 it acc env)):=by rfl
theorem mR (elt t1 i1 t2 i2:Expr)(fm cR:List Expr)(scope:Scope)(pos:Pos)(it acc:Value)(env:Env) :
  compTurn (.ListComp elt [⟨t1,i1,fm,0⟩,⟨t2,i2,cR,0⟩] scope pos) 1 it acc env=(do
   standAt i2.pos
   match <- pyNext it with
   | none=>pure (.done .next)
   | some v=>
    letOwnedTupleGo t2 it v
    assign t2 env v
    let mut ok:=true
    for c in cR do
     if ok then ok <- isTrue c env (eval c env)
    if ok then
     (do let _ <- call (.builtin "list.append") [acc,<- eval elt env])
    again (.compLoop (.ListComp elt [⟨t1,i1,fm,0⟩,⟨t2,i2,cR,0⟩] scope pos) 1 it acc env)):=by rfl
section
variable {prog:Program}{w:World}{A:Around}{R:Result->Shared->Prop}{s:Shared} {elt t1 i1 t2 i2:Expr} {fm cR:List Expr}{scope:Scope}{pos:Pos}{it acc:Value}{env:Env}
abbrev tests (ifs:List Expr)(env:Env):Sem Bool:=forIn ifs true λc r=>if r=true then do let ok <- isTrue c env (eval c env);pure (ForInStep.yield ok) else pure (ForInStep.yield r)
theorem uN (I:Nat->Shared->Prop)
  (turn:∀ n s,I n s->wpAny (model prog w) A (pyNext it) (λr aP=>match r with
   | none=>R (.ok .next) aP
   | some v=>wpAny (model prog w) A (letOwnedTupleGo t2 it v) (λ_ jI=>wpAny (model prog w) A (assign t2 env v) (λ_ fN=>
     wpAny (model prog w) A (tests cR env) (λok jh=>
      if ok=true then wpAny (model prog w) A (eval elt env) (λx rj=>
       wpAny (model prog w) A (call (.builtin "list.append") [acc,x]) (λ_ p9=>∃ m,m < n/\I m p9) (λ_ _=>False) rj) (λ_ _=>False) jh
      else ∃ m,m < n/\I m jh) (λ_ _=>False) fN) (λ_ _=>False) jI) (λ_ _=>False) aP) (λ_ _=>False) s)
  (n:Nat) (h:I n s) :
  codeAny (model prog w) A (.compLoop (.ListComp elt [⟨t1,i1,fm,0⟩,⟨t2,i2,cR,0⟩] scope pos) 1 it acc env) R s:=by
 refine codeAny_loop rfl I (λn s hI=>?_) n h;show wpAny _ A ((compTurn (.ListComp elt [⟨t1,i1,fm,0⟩,⟨t2,i2,cR,0⟩] scope pos) 1 it acc env).onRaise (λx=>do noteFrame x env;theTreesLotGoes x)) _ _ s;refine wpAny_noted ?_;rw [mR];refine wpAny_bind (wpAny_standAt (wpAny_bind (wpAny_mono (turn n s hI) (λr aP bK=>?_) λ_ _ h'=>h'.elim)));cases r with
 | none=>exact wpAny_pure bK
 | some v=>
  refine wpAny_bind (wpAny_mono bK (λ_ jI sL=>?_) λ_ _ h'=>h'.elim);refine wpAny_bind (wpAny_mono sL (λ_ fN Oh=>wpAny_bind (wpAny_mono Oh (λok jh sJ=>?_) λ_ _ h'=>h'.elim)) λ_ _ h'=>h'.elim);cases ok with
  | false=>exact wpAny_pure ⟨rfl,sJ⟩
  | true=>
   exact wpAny_bind (wpAny_bind (wpAny_mono sJ (λx rj Og=>wpAny_bind (wpAny_mono Og (λ_ p9 Of=>wpAny_pure (wpAny_pure ⟨rfl,Of⟩)) λ_ _ h'=>h'.elim)) λ_ _ h'=>h'.elim))
theorem uO (I:Nat->Shared->Prop)(lN:∀ x,foldedSetIterable i2 env x=pure x)
  (turn:∀ n s,I n s->wpAny (model prog w) A (pyNext it) (λr aP=>match r with
   | none=>R (.ok .next) aP
   | some v=>wpAny (model prog w) A (letOwnedTupleGo t1 it v) (λ_ jI=>wpAny (model prog w) A (assign t1 env v) (λ_ fN=>
     wpAny (model prog w) A (tests fm env) (λok jh=>
      if ok=true then wpAny (model prog w) A (eval i2 env) (λx rj=>wpAny (model prog w) A (pyIter x) (λVh p9=>
       codeAny (model prog w) A (.compStart (.ListComp elt [⟨t1,i1,fm,0⟩,⟨t2,i2,cR,0⟩] scope pos) 1 Vh acc env) (λr Nd=>(∃ f,r=.ok f)/\∃ m,m < n/\I m Nd) p9) (λ_ _=>False) rj) (λ_ _=>False) jh
      else ∃ m,m < n/\I m jh) (λ_ _=>False) fN) (λ_ _=>False) jI) (λ_ _=>False) aP) (λ_ _=>False) s)
  (n:Nat) (h:I n s) :
  codeAny (model prog w) A (.compLoop (.ListComp elt [⟨t1,i1,fm,0⟩,⟨t2,i2,cR,0⟩] scope pos) 0 it acc env) R s:=by
 refine codeAny_loop rfl I (λn s hI=>?_) n h;show wpAny _ A ((compTurn (.ListComp elt [⟨t1,i1,fm,0⟩,⟨t2,i2,cR,0⟩] scope pos) 0 it acc env).onRaise (λx=>do noteFrame x env;theTreesLotGoes x)) _ _ s;refine wpAny_noted ?_;rw [mS];refine wpAny_bind (wpAny_standAt (wpAny_bind (wpAny_mono (turn n s hI) (λr aP bK=>?_) λ_ _ h'=>h'.elim)));cases r with
 | none=>exact wpAny_pure bK
 | some v=>
  refine wpAny_bind (wpAny_mono bK (λ_ jI sL=>?_) λ_ _ h'=>h'.elim);refine wpAny_bind (wpAny_mono sL (λ_ fN Oh=>wpAny_bind (wpAny_mono Oh (λok jh sJ=>?_) λ_ _ h'=>h'.elim)) λ_ _ h'=>h'.elim);cases ok with
  | false=>exact wpAny_pure ⟨rfl,sJ⟩
  | true=>
   refine wpAny_bind (wpAny_mono sJ (λx rj Og=>wpAny_bind (wpAny_standAt (wpAny_bind (wpAny_of_eq (lN x) (wpAny_bind (wpAny_holding (wpAny_mono Og (λVh p9 Of=>?_) λ_ _ h'=>h'.elim))))))) λ_ _ h'=>h'.elim);refine wpAny_bind (wpAny_runOwn (codeAny_mono Of λr Nd T8=>?_));obtain ⟨⟨f,rfl⟩,T8⟩:=T8;exact wpAny_pure ⟨rfl,T8⟩
theorem gP
  (h0:codeAny (model prog w) A (.compLoop (.ListComp elt [⟨t1,i1,fm,0⟩,⟨t2,i2,cR,0⟩] scope pos) 1 it acc env) R s)
  (h:wpAny (model prog w) A (pyIter it) (λit' s'=>codeAny (model prog w) A (.compLoop (.ListComp elt [⟨t1,i1,fm,0⟩,⟨t2,i2,cR,0⟩] scope pos) 1 it' acc env) R s')
   (notedBy (model prog w) A env λx s'=>R (.error x) s') s) :
  codeAny (model prog w) A (.compStart (.ListComp elt [⟨t1,i1,fm,0⟩,⟨t2,i2,cR,0⟩] scope pos) 1 it acc env) R s:=by
 refine codeAny_of_tree ?_;show wpAny _ _ ((compStart (.ListComp elt [⟨t1,i1,fm,0⟩,⟨t2,i2,cR,0⟩] scope pos) 1 it acc env).onRaise (λx=>do noteFrame x env;standAt theWindowsPlace)) _ _ s;refine wpAny_notedAt ?_;unfold compStart;show wpAny _ _ (ask >>= _) _ _ s;refine wpAny_bind (wpAny_askSetting (wpAny_ite ?_));split
 ·first
   | exact wpAny_bind (wpAny_pure (wpAny_pure (And.intro rfl h0)))
   | exact wpAny_pure (And.intro rfl h0)
 ·first
   | exact wpAny_bind (wpAny_rule (wpAny_bind (wpAny_standAt (wpAny_bind (wpAny_mono h (λit' s' h'=>wpAny_pure (And.intro rfl h')) λ_ _ x=>x)))))
   | (refine wpAny_bind (wpAny_rule ?_);show wpAny _ _ (standAt i2.pos >>= _) _ _ s;exact wpAny_bind (wpAny_standAt (wpAny_bind (wpAny_mono h (λit' s' h'=>wpAny_pure (And.intro rfl h')) λ_ _ x=>x))))
end
def Sw (n:Nat)(caps:List Nat)(wi:TI)(g:TG)(tc:TT)(Se:TI)(g2:TG)(Lp:TT)(te:TE):TE:=fun σ H Q=>wi σ H λJ H1=>∃ W:Nat->Nat->St->List V->Hp->Prop,(∃ m,W 0 m (dw n caps σ) [] H1)/\∀ i m τ acc H,W i m τ acc H ->
 (J.stop i H/\acc.length<=sizeLine/\∀ p,H p=none->Q (.ref p) (upd H p (.lst acc))) \/
 (J.go i H/\∀ x H',J.mF i H x H'->g x τ H' fun bC H2=>tc bC H2 λb H3=>if b=true then Se bC H3 λJ2 H4=>∃ W2:Nat->Nat->St->List V->Hp->Prop,(∃ m2,W2 0 m2 bC acc H4)/\∀ j m2 τ acc H,W2 j m2 τ acc H ->
   (J2.stop j H/\∃ m',m' < m/\W (i + 1) m' τ acc H) \/
   (J2.go j H/\acc.length < sizeLine/\∀ y H',J2.mF j H y H'->g2 y τ H' fun nS H5=>Lp nS H5 λb H6=>if b=true then te nS H6 λz H7=>∃ m',m' < m2/\W2 (j + 1) m' nS (acc++[z]) H7 else ∃ m',m' < m2/\W2 (j + 1) m' nS acc H6)
  else ∃ m',m' < m/\W (i + 1) m' bC acc H3)
section
variable {X:Cx}{ai:List (Addr×Obj)}{σ:St}{H:Hp}{s:Shared}
theorem NP {own:List Str}{caps:List Nat}{elt tg iter VB sG:Expr}{ifs cR:List Expr}{scope:Scope}{pos:Pos}{wi Se:TI}{g g2:TG}{tc Lp:TT}{te:TE}(hc:X.calm=true)(S:ay own caps X.N X.env.scope scope)(hi:PI X tg iter wi)
  (hg:∀ s H fp C,PG (bQ X own caps scope s H fp C) tg g) (ht:∀ s H fp C,UQ (bQ X own caps scope s H fp C) ifs tc) (he:∀ s H fp C,PE (bQ X own caps scope s H fp C) elt te)
  (jW:∀ s H fp C,PI (bQ X own caps scope s H fp C) VB sG Se) (hg2:∀ s H fp C,PG (bQ X own caps scope s H fp C) VB g2) (Po:∀ s H fp C,UQ (bQ X own caps scope s H fp C) cR Lp)
  (lN:∀ env x,foldedSetIterable sG env x=pure x:=by intro _ _;rfl) (hs:∀ x,foldedSetIterable iter X.env x=pure x:=by intro _;rfl):PE X (.ListComp elt [⟨tg,iter,ifs,0⟩,⟨VB,sG,cR,0⟩] scope pos) (Sw own.length caps wi g tc Se g2 Lp te):=by
 intro ai s σ H Q I h;rw [eval_ListComp];refine wpAny_comprehension_free (use:=none) (cl:=dR scope.names X.env []) rfl hs (cD λy hy e=>I.ok.has y.1 (S.fr y hy e)) S.kind S.loc
  (wpAny_mono (hi ai s σ H _ I h) (λv s1 h1=>aR h1 λVg s2 h2=>?_) λ_ _ e=>e)
 obtain ⟨it,fp,tn,J,H2,e,I2,T,Lx,f2,W,⟨m0,w0⟩,turn⟩:=h2;subst e;refine wpAny_newObj_type (wpAny_newFunctionEnv S.kY (by intro y hy;simp at hy) (λbK bT bF=>?_) S.kind);dsimp only at bT bF ⊢;generalize u0:s2.heap.push { cls:=.type "list", dict:=none,data:=.seq ([]:List Value).toArray }=G at bT bF ⊢;have hG:G.objs.size=s2.heap.objs.size + 1:=by rw [<-u0,Heap.size_push]
 have pO:s2.heap.objs.size≠G.objs.size:=by rw [hG];exact zW (xR _)
 have lR:s2.heap.objs.size<=G.objs.size:=by rw [hG];exact xY _
 have below:∀ b,b < s2.heap.objs.size->b≠G.objs.size:=λb hb=>by rw [hG];exact zW (yp hb)
 have old:∀ b o,s2.heap.get? b=some o->bK.get? b=some o:=λb o e=>bF.extBut b o (below b (Heap.lt_size e)) (Heap.get?_push_of_some _ (u0 ▸ Heap.get?_push_of_some _ e));have lQ:bK.get? s2.heap.objs.size=some { cls:=.type "list", dict:=none,data:=.seq ([]:List Value).toArray }:=bF.extBut _ _ pO (Heap.get?_push_of_some _ (u0 ▸ Heap.get?_push_size _ rfl));have fl:∀ b∈fp,b < s2.heap.objs.size:=λb hb=>let ⟨o,e,_⟩:=T.obj _ _ Lx b hb;Heap.lt_size e;have fu:bK.Ns G.objs.size λ_=>none:=bT;have I4:=lI (tk:=s2.toks + ([]:List (Str×Value)).length) I2 S f2 fl (zI _) lR pO old fu lQ (λv z=>nomatch z);have uh:tn 0 bK:=T.keep _ _ _ Lx λb _ o e=>old b o e;generalize Uc:({ s2 with heap:=bK,toks:=s2.toks + ([]:List (Str×Value)).length }:Shared)=s4 at I4 ⊢;have e4:s4.heap=bK:=by rw [<-Uc]
 rw [<-e4] at uh
 -- pX loop
 have loop:codeAny (model X.prog X.w) X.A (.compLoop (.ListComp elt [⟨tg,iter,ifs,0⟩,⟨VB,sG,cR,0⟩] scope pos) 0 (.ref it) (.ref s2.heap.objs.size) (compEnvC scope (dR scope.names X.env []) G.objs.size X.env))
   (compPost (model X.prog X.w) X.A X.xe none (EP X ai σ Q) (.ref s2.heap.objs.size) G.objs.size) s4:=by
  let Y:=bQ X own caps scope s2 H2 fp G.objs.size
  have eV:∀ {H':Hp}{aA:List Value}{n:Nat},(∀ b∈fp,H' b=none)->∀ b∈fp,iE Y [(s2.heap.objs.size,({ cls:=.type "list", data:=.seq aA.toArray n }:Obj))] H' b:=λ{H' aA n} hn b hb=>by
   refine ⟨hn b hb,below b (fl b hb),λz=>?_,.inl hb,λx c e=>(f2 b hb).2.2.2.2.1 x c (wf e),λp hp=>?_⟩
   ·rcases zJ.mp (I2.dN b z) with e | e
    ·exact (f2 b hb).2.1 e
    ·exact (f2 b hb).2.2.1 e
   ·have e:p=(s2.heap.objs.size,({ cls:=.type "list", data:=.seq aA.toArray n }:Obj)):=by simpa using (show p∈[]++[_] from hp)
    subst e;exact yS (fl b hb)
  refine uO (λn s'=>∃ i τ acc aA k H',Inv Y [(s2.heap.objs.size,({ cls:=.type "list", data:=.seq aA.toArray k }:Obj))] τ H' s'/\tn i s'.heap/\(∀ b∈fp,H' b=none)/\Vals acc aA/\W i n τ acc H') (lN _) ?_ m0
   ⟨0,_,[],[],0,H2,I4,uh,λb hb=>(f2 b hb).1,.nil,w0⟩
  rintro n s5 ⟨i,τ,acc,aA,k,H5,I5,ug,Mj,pM,w5⟩;rcases turn i n τ acc H5 w5 with ⟨stop,hz,q⟩ | ⟨go,step⟩
  ·refine aR (T.done Y rfl rfl rfl hc i _ s5 τ H5 (λ_ _=>False) I5 (eV Mj) ug stop) λr s6 ⟨hr,I6⟩=>?_;subst hr;obtain ⟨eD,nD,_,_,_⟩:=I6.pin _ (zE _ (zK.mpr rfl));obtain ⟨m6,Uh,_⟩:=I6.loc;refine ⟨m6,Uh,λh' uV=>?_⟩;have QX:H5 G.objs.size=none:=I6.free;have eD':h'.get? s2.heap.objs.size=some { cls:=.type "list", data:=.seq aA.toArray k }:=uV.extBut _ _ pO eD;have uW:gY X.prog X.w H5 h':=λb u e=>(I6.bq b u e).fP (λc v hcv qv=>uV.extBut c v (by
     rcases hcv with z | z
     ·subst z;exact xk e QX
     ·exact xk z QX) qv) (λ_ q=>q) λ_ _ q=>q
   refine ⟨.ref s2.heap.objs.size,_,?_,rfl,q _ nD⟩;have ub:=I6.base;refine I2.Lb (ch:=fp) (s':={ s6 with heap:=h' }) I6.os ⟨λb o e n' hb hx=>uV.extBut b o (below b (Heap.lt_size e)) (ub.keep b o e n' hb hx),λb o e n' hb hx=>?_,λb o e n' hx=>?_,λb o e hx=>?_,λb xs e=>?_,λb o u e=>?_,λb ps e=>?_⟩
    (uW.vN nD ⟨hz,aA,k,pM,eD'⟩) I6.bare λb hb=>⟨(f2 b hb).2.2.2.1,(f2 b hb).2.1,(f2 b hb).2.2.2.2.1,(f2 b hb).2.2.2.2.2⟩
   ·obtain ⟨sl,e'⟩:=ub.slot b o e n' hb hx;exact ⟨sl,uV.extBut b _ (below b (Heap.lt_size e)) e'⟩
   ·rw [xt (zW (Heap.lt_size e))];exact ub.free b o e n' hx
   ·obtain ⟨o',e'⟩:=ub.there b o e hx;exact ⟨o',uV.extBut b _ (below b (Heap.lt_size e)) e'⟩
   ·have z:=ub.aZ b xs e;rw [xt (xk z nD)];exact z
   ·have z:=ub.jz b o u e;rw [xt (xk z nD)];exact z
   ·obtain ⟨more,z⟩:=ub.jT b ps e;exact ⟨more,by rw [xt (xk z nD)];exact z⟩
  ·refine aR (T.item Y rfl rfl rfl hc i _ s5 τ H5 (λ_ _=>False) I5 (eV Mj) ug go) λr s6 ⟨u,hr,h6⟩=>?_;subst hr;refine aR h6 λ_ s7 ⟨x,H7,I7,r7,y7,rz,Ux⟩=>?_;have UY:=I7.pinned (eV Ux) (T.obj _ _ rz);refine aR (hg s2 H2 fp G.objs.size _ s7 τ H7 x u _ UY r7 (step x H7 y7)) λ_ s8 ⟨mj,H8,I8,q8⟩=>?_;refine aR (ht s2 H2 fp G.objs.size _ s8 mj H8 _ I8 q8) λok s9 ⟨H9,I9,q9⟩=>?_
   -- pX fk state behind pX turn
   have back:∀ {s':Shared}{vK:St}{H':Hp},Inv Y ([(s2.heap.objs.size,({ cls:=.type "list", data:=.seq aA.toArray k }:Obj))]++b8 fp s7.heap) vK H' s'->(tn (i + 1) s'.heap/\∀ b∈fp,H' b=none):=λ{s' vK H'} Ib=>
    ⟨T.keep _ _ _ rz λb hb o e=>(Ib.pin (b,o) (zE _ (zE _ (wa hb e)))).1,λb hb=>by
     obtain ⟨o,e,d⟩:=T.obj _ _ rz b hb;exact (Ib.pin (b,o) (zE _ (zE _ (wa hb e)))).2.1⟩
   cases ok with
   | false=>
    obtain ⟨m',lO,w'⟩:=q9;obtain ⟨sb,fb⟩:=back I9;exact ⟨m',lO,i + 1,mj,acc,aA,k,H9,I9.bN,sb,fb,pM,w'⟩
   | true=>
    -- pX inner clause
    refine aR (jW s2 H2 fp G.objs.size _ s9 mj H9 _ I9 q9) λxv iK h10=>aR h10 λagW MB h11=>?_;obtain ⟨Vh,mP,tn2,J2,jQ,e2,I11,T2,VJ,f11,W2,⟨m2,w2⟩,VA⟩:=h11;subst e2;have Ng:∀ {H':Hp}{its':List Value}{n':Nat},(∀ b∈mP,H' b=none)->∀ b∈mP,iE Y ([(s2.heap.objs.size,({ cls:=.type "list", data:=.seq its'.toArray n' }:Obj))]++b8 fp s7.heap) H' b:=λ{H' its' n'} hn b hb=>by
     obtain ⟨_,a2,a3,a4,a5,a6⟩:=f11 b hb;refine ⟨hn b hb,a2,a3,a4,a5,λp hp=>?_⟩;rcases zV.mp hp with z | z
     ·exact a6 p (yD _ z)
     ·rcases zV.mp z with z | z
      ·rw [zK.mp z];exact (show s2.heap.objs.size≠b from a6 (s2.heap.objs.size,({ cls:=.type "list", data:=.seq aA.toArray k }:Obj)) (zE _ (yD _ (zK.mpr rfl))))
      ·exact a6 p (zE _ (zE _ z))
    have Ry:codeAny (model X.prog X.w) X.A (.compLoop (.ListComp elt [⟨tg,iter,ifs,0⟩,⟨VB,sG,cR,0⟩] scope pos) 1 (.ref Vh) (.ref s2.heap.objs.size) (compEnvC scope (dR scope.names X.env []) G.objs.size X.env))
      (λr Nd=>(∃ f,r=.ok f)/\∃ m,m < n/\∃ i τ acc aA k H',Inv Y [(s2.heap.objs.size,({ cls:=.type "list", data:=.seq aA.toArray k }:Obj))] τ H' Nd/\tn i Nd.heap/\(∀ b∈fp,H' b=none)/\Vals acc aA/\W i m τ acc H') MB:=by
     refine uN (λn' s'=>∃ j τ acc aA k H',Inv Y ([(s2.heap.objs.size,({ cls:=.type "list", data:=.seq aA.toArray k }:Obj))]++b8 fp s7.heap) τ H' s'/\tn2 j s'.heap/\(∀ b∈mP,H' b=none)/\Vals acc aA/\W2 j n' τ acc H') ?_ m2
      ⟨0,mj,acc,aA,k,jQ,I11,VJ,λb hb=>(f11 b hb).1,pM,w2⟩
     rintro n' kK ⟨j,MQ,tU,lG,MF,mE,I12,VI,XI,Qn,w12⟩;rcases VA j n' MQ tU mE w12 with ⟨VG,m',lO,w'⟩ | ⟨go2,uT,VH⟩
     ·refine aR (T2.done Y rfl rfl rfl hc j _ kK MQ mE (λ_ _=>False) I12 (Ng XI) VI VG) λr kJ ⟨hr,I13⟩=>?_;subst hr;have sb:tn (i + 1) kJ.heap:=T.keep _ _ _ rz λb hb o e=>(I13.pin (b,o) (zE _ (zE _ (wa hb e)))).1;have fb:∀ b∈fp,mE b=none:=λb hb=>by
       obtain ⟨o,e,d⟩:=T.obj _ _ rz b hb;exact (I13.pin (b,o) (zE _ (zE _ (wa hb e)))).2.1
      exact ⟨⟨_,rfl⟩,m',lO,i + 1,MQ,tU,lG,MF,mE,I13.bN,sb,fb,Qn,w'⟩
     ·refine aR (T2.item Y rfl rfl rfl hc j _ kK MQ mE (λ_ _=>False) I12 (Ng XI) VI go2) λr kJ ⟨u2,hr,h13⟩=>?_;subst hr;refine aR h13 λ_ rF ⟨y2,Vv,I14,r14,Sa,Sy,acP⟩=>?_;have adl:=I14.pinned (Ng acP) (T2.obj _ _ Sy);refine aR (hg2 s2 H2 fp G.objs.size _ rF MQ Vv y2 u2 _ adl r14 (VH y2 Vv Sa)) λ_ mZ ⟨MP,Ze,I15,q15⟩=>?_;refine aR (Po s2 H2 fp G.objs.size _ mZ MP Ze _ I15 q15) λok2 Rt ⟨Yb,I16,Yy⟩=>?_;have RZ:∀ {s':Shared}{vK:St}{H':Hp},Inv Y (([(s2.heap.objs.size,({ cls:=.type "list", data:=.seq lG.toArray MF }:Obj))]++b8 fp s7.heap)++b8 mP rF.heap) vK H' s'->(tn2 (j + 1) s'.heap/\∀ b∈mP,H' b=none):=λ{s' vK H'} Ib=>
       ⟨T2.keep _ _ _ Sy λb hb o e=>(Ib.pin (b,o) (zE _ (zE _ (wa hb e)))).1,λb hb=>by
        obtain ⟨o,e,d⟩:=T2.obj _ _ Sy b hb;exact (Ib.pin (b,o) (zE _ (zE _ (wa hb e)))).2.1⟩
      cases ok2 with
      | false=>
       obtain ⟨m',lO,w'⟩:=Yy;obtain ⟨sb,fb⟩:=RZ I16;exact ⟨m',lO,j + 1,MP,tU,lG,MF,Yb,I16.bN,sb,fb,Qn,w'⟩
      | true=>
       refine aR (he s2 H2 fp G.objs.size _ Rt MP Yb _ I16 Yy) λy uy ⟨yv,Vu,Zc,r17,q17⟩=>?_;obtain ⟨m',lO,w'⟩:=q17;obtain ⟨sb,fb⟩:=RZ Zc;obtain ⟨eD,nD,LV,Tu,_⟩:=Zc.pin (s2.heap.objs.size,_) (zE _ (yD _ (yD _ (zK.mpr rfl))));have hl:tU.length=lG.length:=Qn.length;refine call_meets F.slot_list_append ⟨_,eD,rfl⟩ F.entry_list_append (F.args_list_append_2 _ _) (xN s2.heap.objs.size lG.toArray MF y (by rw [zT];omega)) ⟨eD,?_⟩;have q:=PySem.IsL.update eD (λa:Array Value=>a.push y);have Iu:Inv Y [] MP Vu uy:=Zc.cA λp hp=>nomatch hp;have oth:∀ b o,b≠s2.heap.objs.size->uy.heap.get? b=some o->(uy.heap.update s2.heap.objs.size (Obj.mapSeq (λa:Array Value=>a.push y))).get? b=some o:=λb o hb e=>(Heap.get?_update_other uy.heap _ (Ne.symm hb)).trans e;have It:=Iu.turned (t':=uy.toks) (it:=s2.heap.objs.size) (h':=uy.heap.update s2.heap.objs.size (Obj.mapSeq (λa:Array Value=>a.push y))) oth nD LV (.inr (zI _))
        (λx c e z=>by
         obtain ⟨v,ob,mO,_⟩:=I2.cell x c (wf e);exact absurd (Heap.lt_size mO) (by rw [z];exact yH _)) (λp hp=>nomatch hp)
       have NY:∀ b∈fp,b≠s2.heap.objs.size:=λb hb=>zW (fl b hb);have aa7:∀ b∈mP,b≠s2.heap.objs.size:=λb hb z=>(f11 b hb).2.2.2.2.2 (s2.heap.objs.size,({ cls:=.type "list", data:=.seq aA.toArray k }:Obj)) (zE _ (yD _ (zK.mpr rfl))) z.symm;have UX:=It.cA (m5:=[(s2.heap.objs.size,({ cls:=.type "list", data:=.seq (lG++[y]).toArray (MF + 1) }:Obj))]++b8 fp s7.heap) λp hp=>by
        rcases zV.mp hp with hp | hp
        ·have e:p=_:=zK.mp hp;subst e;exact ⟨by simpa using q,nD,LV,Tu,λv z=>nomatch z⟩
        ·obtain ⟨e1,e2,e3,e4,e5⟩:=Zc.pin p (zE _ (yD _ (zE _ hp)));exact ⟨oth _ _ (NY _ (nk hp).1) e1,e2,e3,e4,e5⟩
       exact ⟨m',lO,j + 1,MP,tU++[yv],lG++[y],_,Vu,UX,T2.keep _ _ _ sb λb hb o e=>oth b o (aa7 b hb) e,fb,Qn.append (.cons r17 .nil),w'⟩
    exact gP Ry (T2.self _ 0 MB _ _ VJ Ry)
 exact codeAny_compStart_list loop (T.self _ 0 s4 _ _ uh loop)
end
section
variable {K:PySem.W.Frag}{a b:Addr}{xs ys:List V}{n:Nat}{caps:List Nat} {g g2:TG} {tc Lp:TT} {Se:TI}{te:TE} {σ U1:St}{H:Hp} {Mw:List V}{Qf:Addr->Hp->List V->Prop}{C:St->List V->Hp->Prop}
def Zb (J2:It)(g2:TG)(Lp:TT)(te:TE)(U1:St)(Mw:List V)(H0:Hp)(C:St->List V->Hp->Prop):Prop:=
 ∃ W2:Nat->Nat->St->List V->Hp->Prop,(∃ m2,W2 0 m2 U1 Mw H0)/\∀ j m2 τ acc H,W2 j m2 τ acc H ->
  (J2.stop j H/\C τ acc H) \/
  (J2.go j H/\acc.length < sizeLine/\∀ y H',J2.mF j H y H'->g2 y τ H' fun nS H5=>Lp nS H5 λb H6=>if b=true then te nS H6 λz H7=>∃ m',m' < m2/\W2 (j + 1) m' nS (acc++[z]) H7 else ∃ m',m' < m2/\W2 (j + 1) m' nS acc H6)
theorem in_of {J2:It}(Pw:Nat->St->List V->Hp->Prop)(len:Nat)(h0:Pw 0 U1 Mw H)(hl:∀ j τ acc H,Pw j τ acc H->acc.length < sizeLine)
  (hgo:∀ j τ acc H,j < len->Pw j τ acc H->J2.go j H) (Oj:∀ τ acc H,Pw len τ acc H->J2.stop len H)
  (hs:∀ j τ acc H (D:St->List V->Hp->Prop),j < len->Pw j τ acc H->(∀ τ acc H,Pw (j + 1) τ acc H->D τ acc H)->∀ y H',J2.mF j H y H'->g2 y τ H' fun nS H5=>Lp nS H5 λb H6=>if b=true then te nS H6 λz H7=>D nS (acc++[z]) H7 else D nS acc H6)
  (hd:∀ τ acc H,Pw len τ acc H->C τ acc H):Zb J2 g2 Lp te U1 Mw H C:=by
 refine ⟨λj m τ acc H=>m=len - j/\j<=len/\Pw j τ acc H,⟨len,by simp,zo _,h0⟩,?_⟩;rintro j m τ acc H ⟨rfl,hj,p⟩;by_cases dB:j < len
 ·exact .inr ⟨hgo j τ acc H dB p,hl j τ acc H p,λy H' z=>hs j τ acc H (fun τ acc H=>∃ m',m' < len - j/\m'=len - (j + 1)/\j + 1<=len/\Pw (j + 1) τ acc H) dB p (fun τ acc H p'=>⟨len - (j + 1),by omega,rfl,dB,p'⟩) y H' z⟩
 ·have e:j=len:=by omega
  subst e;exact .inl ⟨Oj τ acc H p,hd τ acc H p⟩
theorem QO (el:xs.length=ys.length)(Pw:Nat->St->List V->Hp->Prop)(h0:Pw 0 U1 Mw H)(hl:∀ j τ acc H,Pw j τ acc H->acc.length < sizeLine/\aB K H a xs/\aW K H b ys)
  (hs:∀ j x y q τ acc H (D:St->List V->Hp->Prop),xs[j]?=some x->ys[j]?=some y->H q=none->Pw j τ acc H->(∀ τ acc H,Pw (j + 1) τ acc H->D τ acc H)->g2 (.ref q) τ (upd H q (.tup [x,y])) fun nS H5=>Lp nS H5 λb H6=>if b=true then te nS H6 λz H7=>D nS (acc++[z]) H7 else D nS acc H6)
  (hd:∀ τ acc H,Pw xs.length τ acc H->C τ acc H):Zb (UW K a b) g2 Lp te U1 Mw H C:=
 in_of Pw xs.length h0 (λj τ acc H p=>(hl j τ acc H p).1) (λj τ acc H hj p=>⟨xs,ys,xs[j],ys[j]'(by omega),(hl j τ acc H p).2.1,(hl j τ acc H p).2.2,el,by simp [hj],by simp [<-el,hj]⟩) (fun τ acc H p=>⟨xs,ys,(hl _ τ acc H p).2.1,(hl _ τ acc H p).2.2,el,rfl⟩)
  (λj τ acc H D hj p c x H' y=>by obtain ⟨q,x',y',hq,e1,e2,y⟩:=y;subst e1;subst e2;exact hs j x' y' q τ acc _ D (y xs ys (hl j τ acc _ p).2.1 (hl j τ acc _ p).2.2).1 (y xs ys (hl j τ acc _ p).2.1 (hl j τ acc _ p).2.2).2 hq p c) hd
theorem vn (Pv:Nat->St->List V->Hp->Prop)(h0:Pv 0 (dw n caps σ) [] H)(hl:∀ i τ acc H,Pv i τ acc H->acc.length<=sizeLine/\aB K H a xs)
  (hs:∀ i x τ acc H (D:St->List V->Hp->Prop),xs[i]?=some x->Pv i τ acc H->(∀ τ acc H,Pv (i + 1) τ acc H->D τ acc H)->g x τ H fun bC H2=>tc bC H2 λb H3=>if b=true then Se bC H3 λJ2 H4=>Zb J2 g2 Lp te bC acc H4 D else D bC acc H3)
  (hd:∀ τ acc H,Pv xs.length τ acc H->∀ p,H p=none->Qf p H acc) :
  ∃ W:Nat->Nat->St->List V->Hp->Prop,(∃ m,W 0 m (dw n caps σ) [] H)/\∀ i m τ acc H,W i m τ acc H ->
   ((MO K a).stop i H/\acc.length<=sizeLine/\∀ p,H p=none->Qf p H acc) \/
   ((MO K a).go i H/\∀ x H',(MO K a).mF i H x H'->g x τ H' fun bC H2=>tc bC H2 λb H3=>if b=true then Se bC H3 λJ2 H4=>Zb J2 g2 Lp te bC acc H4 (fun τ acc H=>∃ m',m' < m/\W (i + 1) m' τ acc H) else ∃ m',m' < m/\W (i + 1) m' bC acc H3):=by
 refine ⟨λi m τ acc H=>m=xs.length - i/\i<=xs.length/\Pv i τ acc H,⟨xs.length,by simp,zo _,h0⟩,?_⟩;rintro i m τ acc H ⟨rfl,hi,p⟩;have q:=hl i τ acc H p;by_cases dB:i < xs.length
 ·refine .inr ⟨⟨xs,xs[i],q.2,by simp [dB]⟩,λx H' y=>?_⟩;obtain ⟨e,y⟩:=y;subst e;exact hs i x τ acc _ (fun τ acc H=>∃ m',m' < xs.length - i/\m'=xs.length - (i + 1)/\i + 1<=xs.length/\Pv (i + 1) τ acc H) (y xs q.2) p fun τ acc H p'=>⟨xs.length - (i + 1),by omega,rfl,dB,p'⟩
 ·have e:i=xs.length:=by omega
  subst e;exact .inl ⟨⟨xs,q.2,zI _⟩,q.1,hd τ acc H p⟩
end
end L2
namespace Sm
open PySem L2
def DT (H:Hp):Nat->V->Prop
 | 0,v=>∃ t,je H v=some t
 | n + 1,v=>(∃ p xs,v=.ref p/\H p=some (.lst xs)/\∀ x∈xs,DT H n x)\/(∃ p xs,v=.ref p/\H p=some (.tup xs)/\∀ x∈xs,DT H n x)\/∃ t,je H v=some t/\t ≠ "list" /\ t ≠ "tuple"
theorem DT.ty {H:Hp}{n:Nat}{v:V}(h:DT H n v):∃ t,je H v=some t:=by
 cases n with
 | zero=>exact h
 | succ n=>
  rcases h with ⟨p,xs,rfl,k,_⟩ | ⟨p,xs,rfl,k,_⟩ | ⟨t,k,_⟩
  ·exact ⟨_,cy k⟩
  ·exact ⟨_,qO k⟩
  ·exact ⟨t,k⟩
theorem DT.same {H H':Hp}(s:au H H'):∀ {n:Nat}{v:V},DT H n v->DT H' n v
 | 0,_,⟨t,h⟩=>⟨t,cX s h⟩
 | n + 1,_,h=>by
  rcases h with ⟨p,xs,rfl,k,e⟩ | ⟨p,xs,rfl,k,e⟩ | ⟨t,k,e⟩
  ·exact .inl ⟨p,xs,rfl,s _ _ k,λx hx=>DT.same s (e x hx)⟩
  ·exact .inr (.inl ⟨p,xs,rfl,s _ _ k,λx hx=>DT.same s (e x hx)⟩)
  ·exact .inr (.inr ⟨t,cX s k,e⟩)
theorem DT.le {H:Hp}:∀ {n:Nat}{v:V},DT H (n + 1) v->DT H n v
 | 0,_,h=>h.ty
 | n + 1,_,h=>by
  rcases h with ⟨p,xs,rfl,k,e⟩ | ⟨p,xs,rfl,k,e⟩ | ⟨t,k,e⟩
  ·exact .inl ⟨p,xs,rfl,k,λx hx=>DT.le (e x hx)⟩
  ·exact .inr (.inl ⟨p,xs,rfl,k,λx hx=>DT.le (e x hx)⟩)
  ·exact .inr (.inr ⟨t,k,e⟩)
theorem PL {xs:List V}(h:xs.length=3):∃ x y z,xs=[x,y,z]:=by rcases xs with _ | ⟨a,_ | ⟨b,_ | ⟨c,_ | ⟨d,xs⟩⟩⟩⟩ <;> first | exact ⟨_,_,_,rfl⟩ | (simp only [zk,yf] at h;omega)
def sI:V->Bool
 | .bl _=>true
 | _=>false
def bE (H:Hp)(n:Nat)(v:V):Bool:=match v with
 | .ref p=>match H p with
  | some (.lst xs)=>decide (xs.length=n) && xs.all sI
  | _=>false
 | _=>false
def bX (H:Hp)(n:Nat)(v:V):Bool:=match v with
 | .ref p=>match H p with
  | some (.lst xs)=>decide (xs.length=n) && xs.all (KY 0 3)
  | _=>false
 | _=>false
def jJ (H:Hp)(m n:Nat)(v:V):Bool:=match v with
 | .ref p=>match H p with
  | some (.lst xs)=>decide (xs.length=m) && xs.all (bX H n)
  | _=>false
 | _=>false
def eB (H:Hp)(nl nw m n:Nat)(v:V):Bool:=match v with
 | .ref p=>match H p with
  | some (.tup [a,b,c])=>bE H nl a && bE H nw b && jJ H m n c
  | _=>false
 | _=>false
theorem cT {H:Hp}{n:Nat}{p:Addr}{xs:List V}(h:H p=some (.lst xs)):bE H n (.ref p)=(decide (xs.length=n) && xs.all sI):=by simp only [bE,h]
theorem fW {H:Hp}{n:Nat}{p:Addr}{xs:List V}(h:H p=some (.lst xs)):bX H n (.ref p)=(decide (xs.length=n) && xs.all (KY 0 3)):=by simp only [bX,h]
theorem Ky {H:Hp}{m n:Nat}{p:Addr}{xs:List V}(h:H p=some (.lst xs)):jJ H m n (.ref p)=(decide (xs.length=m) && xs.all (bX H n)):=by simp only [jJ,h]
theorem qZ {H:Hp}{v:V}{t:String}(h:je H v=some t)(ne:t ≠ "list")(n m:Nat):bE H n v=false/\bX H n v=false/\jJ H m n v=false:=by
 have key:∀ p xs,v=.ref p->H p=some (.lst xs)->False:=λp xs e k=>by subst e;rw [cy k] at h;exact ne (Option.some.inj h).symm
 refine ⟨?_,?_,?_⟩
 ·unfold bE;split
  ·split
   ·exact (key _ _ rfl (by assumption)).elim
   ·rfl
  ·rfl
 ·unfold bX;split
  ·split
   ·exact (key _ _ rfl (by assumption)).elim
   ·rfl
  ·rfl
 ·unfold jJ;split
  ·split
   ·exact (key _ _ rfl (by assumption)).elim
   ·rfl
  ·rfl
theorem NX {H:Hp}{v:V}{t:String}(h:je H v=some t)(ne:t ≠ "tuple")(a b m n:Nat):eB H a b m n v=false:=by
 unfold eB;split
 ·split
  ·rename_i k;rw [qO k] at h;exact (ne (Option.some.inj h).symm).elim
  ·rfl
 ·rfl
theorem OG {H:Hp}{p:Addr}{xs:List V}(h:H p=some (.tup xs))(ne:xs.length≠3)(a b m n:Nat):eB H a b m n (.ref p)=false:=by
 unfold eB;simp only [h];split
 ·rename_i k;injection (Option.some.inj k) with k;subst k;exact (ne rfl).elim
 ·rfl
theorem OH {H:Hp}{p:Addr}{x y z:V}(h:H p=some (.tup [x,y,z]))(a b m n:Nat):eB H a b m n (.ref p)=(bE H a x && bE H b y && jJ H m n z):=by simp only [eB,h]
theorem uL {H H':Hp}(s:au H H'){n:Nat}{v:V}(h:DT H 1 v):bX H' n v=bX H n v:=by
 rcases h with ⟨p,xs,rfl,k,e⟩ | ⟨p,xs,rfl,k,e⟩ | ⟨t,k,e,_⟩
 ·rw [fW k,fW (s _ _ k)]
 ·rw [(qZ (qO k) (by decide) n 0).2.1,(qZ (qO (s _ _ k)) (by decide) n 0).2.1]
 ·rw [(qZ k e n 0).2.1,(qZ (cX s k) e n 0).2.1]
theorem pV {H H':Hp}(s:au H H'){n:Nat}{v:V}(h:DT H 1 v):bE H' n v=bE H n v:=by
 rcases h with ⟨p,xs,rfl,k,e⟩ | ⟨p,xs,rfl,k,e⟩ | ⟨t,k,e,_⟩
 ·rw [cT k,cT (s _ _ k)]
 ·rw [(qZ (qO k) (by decide) n 0).1,(qZ (qO (s _ _ k)) (by decide) n 0).1]
 ·rw [(qZ k e n 0).1,(qZ (cX s k) e n 0).1]
theorem QM {H:Hp}{v:V}{t:String}(h:je H v=some t):sH t "bool" = sI v:=by
 cases v with
 | bl b=>injection h with h;subst h;rfl
 | cK=>injection h with h;subst h;rfl
 | int b=>injection h with h;subst h;rfl
 | str b=>injection h with h;subst h;rfl
 | ref a=>rcases dD h with rfl | rfl | rfl | rfl | rfl | rfl | rfl <;> first | rfl | (simp only [je] at h;split at h <;> simp at h)
 | _=>cases h
def Nj:Sp:=λvs H Q _=>∃ v,∃ n:Nat,vs=[v,.int n]/\DT H 1 v/\n<=1000/\∀ H',au H H'->Q (.bl (bE H n v)) H'
def LC:Sp:=λvs H Q _=>∃ v,∃ n:Nat,vs=[v,.int n]/\DT H 1 v/\n<=1000/\∀ H',au H H'->Q (.bl (bX H n v)) H'
def LD:Sp:=λvs H Q _=>∃ b ll lw v af tr tm ps ls ws,vs=[.ref b,.ref ll,.ref lw,v]/\aY H b af tr tm ps/\aD H ll ls/\aD H lw ws/\ls.length<=100/\ws.length<=100/\af.length<=100/\ps.length<=100/\DT H 3 v/\∀ H',au H H'->Q (.bl (eB H ls.length ws.length (ps.length + 1) af.length v)) H'
structure eK (H:Hp) (c lg lt lm:Addr) (gs ts:List Bool) (ms:List (Addr×List Int)):Prop where
 c:H c=some (.tup [.ref lg,.ref lt,.ref lm])
 g:H lg=some (.lst (gs.map V.bl))
 t:H lt=some (.lst (ts.map V.bl))
 m:H lm=some (.lst (ms.map λa=>V.ref a.1))
 rows:∀ a∈ms,H a.1=some (.lst (a.2.map V.int))
def aO (m:Int):Bool:=decide (2<=m)
def bA (m:Int):Bool:=decide (m=1) || decide (m=3)
def SE:Sp:=λvs H Q _=>∃ m,vs=[.int m]/\Q (.bl (aO m)) H
def aal:Sp:=λvs H Q _=>∃ m,vs=[.int m]/\∀ H',au H H'->Q (.bl (bA m)) H'
def dh (r:List Int)(w:Int):Int:=r.getD w.toNat 0
theorem cJ {r:List Int}{w:Int}(h0:0<=w)(h1:w < r.length):dU (r.map V.int) w=some (.int (dh r w)):=by
 obtain ⟨k,rfl⟩:=zn h0;refine wP ?_;have hk:k < r.length:=by omega
 rw [zF,zC hk];show some (V.int r[k])=some (V.int (r.getD ((k:Int)).toNat 0));rw [zx,zG,zC hk];rfl
theorem OS {ms:List (Addr×List Int)}{c:Nat}:jX (ms.map λa=>V.ref a.1) (some (c:Int)) none=(ms.drop c).map λa=>V.ref a.1:=by rw [OT,List.map_drop]
theorem Mq {ms:List (Addr×List Int)}{c:Nat}(h:c < ms.length):jX (ms.map λa=>V.ref a.1) (some 1) (some ((c:Int) + 1))=((ms.drop 1).take c).map λa=>V.ref a.1:=by rw [Q9 _ _ (by rw [zA];exact h),List.map_take,List.map_drop]
def kT (ms:List M4)(rows:List (List Int))(l:S3)(g:Bool):Bool:=!(g && !((rows.drop (cnt ms l.t)).all λr=>aO (dh r l.w)))
def fR (ms:List M4)(ls:List S3)(gs:List Bool)(rows:List (List Int)):Bool:=(ls.zip gs).all λp=>kT ms rows p.1 p.2
theorem uH {ms:List M4}{l:S3}{ls:List S3}{g:Bool}{gs:List Bool}{rows:List (List Int)}:fR ms (l::ls) (g::gs) rows=(kT ms rows l g && fR ms ls gs rows):=rfl
def fZ (a b:List Int):Bool:=(a.zip b).all λp=>!(aO p.1 && !bA p.2)
def K2 (rows:List (List Int))(k:Nat):Bool:=fZ (rows.getD k []) (rows.getD (k + 1) [])
def jL (n:Nat)(rows:List (List Int)):Bool:=(List.range n).all (K2 rows)
theorem u9 {x y:Int}{a b:List Int}:fZ (x::a) (y::b)=(!(aO x && !bA y) && fZ a b):=rfl
theorem lT {rows:List (List Int)}{k:Nat}{a b:List Int}(h1:rows[k]?=some a)(h2:rows[k + 1]?=some b):K2 rows k=fZ a b:=by unfold K2;rw [zG,zG,h1,h2];rfl
def lX (ms:List M4)(rows:List (List Int))(w:S3)(t:Bool):Bool:=!(!t && (((rows.take (cnt ms w.t + 1)).drop 1).any λr=>bA (dh r w.w)))
def f7 (ms:List M4)(ws:List S3)(ts:List Bool)(rows:List (List Int)):Bool:=(ws.zip ts).all λp=>lX ms rows p.1 p.2
theorem vp {ms:List M4}{w:S3}{ws:List S3}{t:Bool}{ts:List Bool}{rows:List (List Int)}:f7 ms (w::ws) (t::ts) rows=(lX ms rows w t && f7 ms ws ts rows):=rfl
def fT (l:S3)(g:Bool)(ws:List S3)(ts:List Bool):Bool:=(ws.zip ts).all λq=>!(g && (!q.2 && b7 l q.1))
def fS (ls ws:List S3)(gs ts:List Bool):Bool:=(ls.zip gs).all λp=>fT p.1 p.2 ws ts
theorem uJ {l w:S3}{g t:Bool}{ws:List S3}{ts:List Bool}:fT l g (w::ws) (t::ts)=(!(g && (!t && b7 l w)) && fT l g ws ts):=rfl
theorem uI {l:S3}{g:Bool}{ls ws:List S3}{gs ts:List Bool}:fS (l::ls) ws (g::gs) ts=(fT l g ws ts && fS ls ws gs ts):=rfl
def oN (ls:List S3)(gs:List Bool):Int:=(((ls.zip gs).filter λp=>!p.2).map (·.1.m)).sum
def vP (ws:List S3)(ts:List Bool):Int:=(((ws.zip ts).filter λp=>p.2).map (·.1.m)).sum
def eW (af r:List Int):List Int:=((r.zip af).filter λp=>decide (p.1=1)).map (·.2)
def dJ (af:List Int)(rows:List (List Int)):List Int:=rows.flatMap (eW af)
theorem uA (af r:List Int):(eW af r).length<=af.length:=by unfold eW;rw [zA];exact zj (yN _ _) (by rw [yg];exact Nat.min_le_right _ _)
theorem iA {af r:List Int}{rs:List (List Int)}{i:Nat}(h:rs[i]?=some r):dJ af (rs.take (i + 1))=dJ af (rs.take i)++eW af r:=by unfold dJ;rw [wK h,List.flatMap_append];simp
theorem nQ {af:List Int}:∀ (rs:List (List Int)),(dJ af rs).length<=rs.length * af.length
 | []=>by simp [dJ]
 | r::rs=>by
  have:=nQ (af:=af) rs;have h:=uA af r;unfold dJ at this ⊢;rw [List.flatMap_cons,zO,zk,Nat.succ_mul];omega
def Qh:Sp:=λvs H Q _=>∃ b lm af tr tm ps,∃ ms:List (Addr×List Int),vs=[.ref b,.ref lm]/\aY H b af tr tm ps/\H lm=some (.lst (ms.map λa=>V.ref a.1))/\(∀ a∈ms,H a.1=some (.lst (a.2.map V.int))/\a.2.length=af.length)/\ms.length<=70/\af.length<=12/\∀ H',au H H'->Q (.int (dJ af (ms.map (·.2))).sum) H'
structure gi (H:Hp) (b ll lw:Addr) (af:List Int) (tr tm:Addr) (ps:List (Addr×M4)) (ls ws:List (Addr×S3)) (lg lt lm:Addr) (gs ts:List Bool) (ms:List (Addr×List Int)):Prop where
 b:aY H b af tr tm ps
 l:aD H ll ls
 w:aD H lw ws
 g:H lg=some (.lst (gs.map V.bl))
 t:H lt=some (.lst (ts.map V.bl))
 m:H lm=some (.lst (ms.map λa=>V.ref a.1))
 rows:∀ a∈ms,H a.1=some (.lst (a.2.map V.int))
theorem gi.same {H H':Hp}{b ll lw:Addr}{af:List Int}{tr tm:Addr}{ps:List (Addr×M4)}{ls ws:List (Addr×S3)}{lg lt lm:Addr}{gs ts:List Bool}{ms:List (Addr×List Int)}(h:gi H b ll lw af tr tm ps ls ws lg lt lm gs ts ms)(s:au H H'):gi H' b ll lw af tr tm ps ls ws lg lt lm gs ts ms:=
 ⟨h.b.same s,h.l.same s,h.w.same s,s _ _ h.g,s _ _ h.t,s _ _ h.m,λa ha=>s _ _ (h.rows a ha)⟩
structure gZ (nr nm:Nat) (ls ws:List (Addr×S3)) (gs ts:List Bool) (ms:List (Addr×List Int)):Prop where
 mC:nr<=12
 pN:nm<=60
 l:ls.length<=100
 w:ws.length<=100
 lg:gs.length=ls.length
 lt:ts.length=ws.length
 lm:ms.length=nm + 1
 rows:∀ a∈ms,a.2.length=nr
 lw:∀ a∈ls,0<=a.2.w/\a.2.w < nr
 ww:∀ a∈ws,0<=a.2.w/\a.2.w < nr
def Qc:Sp:=λvs H Q _=>∃ b ll lw af tr tm ps ls ws lg lt lm gs ts ms,vs=[.ref b,.ref ll,.ref lg,.ref lm]/\gi H b ll lw af tr tm ps ls ws lg lt lm gs ts ms/\gZ af.length ps.length ls ws gs ts ms/\∀ H',au H H'->Q (.bl (fR (ps.map (·.2)) (ls.map (·.2)) gs (ms.map (·.2)))) H'
def SH:Sp:=λvs H Q _=>∃ b ll lw af tr tm ps ls ws lg lt lm gs ts ms,vs=[.ref b,.ref lm]/\gi H b ll lw af tr tm ps ls ws lg lt lm gs ts ms/\gZ af.length ps.length ls ws gs ts ms/\∀ H',au H H'->Q (.bl (jL ps.length (ms.map (·.2)))) H'
def Nt:Sp:=λvs H Q _=>∃ b ll lw af tr tm ps ls ws lg lt lm gs ts ms,vs=[.ref b,.ref lw,.ref lt,.ref lm]/\gi H b ll lw af tr tm ps ls ws lg lt lm gs ts ms/\gZ af.length ps.length ls ws gs ts ms/\∀ H',au H H'->Q (.bl (f7 (ps.map (·.2)) (ws.map (·.2)) ts (ms.map (·.2)))) H'
def Np:Sp:=λvs H Q _=>∃ b ll lw af tr tm ps ls ws lg lt lm gs ts ms,vs=[.ref ll,.ref lw,.ref lg,.ref lt]/\gi H b ll lw af tr tm ps ls ws lg lt lm gs ts ms/\gZ af.length ps.length ls ws gs ts ms/\∀ H',au H H'->Q (.bl (fS (ls.map (·.2)) (ws.map (·.2)) gs ts)) H'
theorem O4 {α:Type}{l:List α}{p:α->Bool}{i:Nat}{x:α}(h:l[i]?=some x):(l.drop i).all p=(p x && (l.drop (i + 1)).all p):=by rw [qq h,yr]
def iy (ms:List M4)(rows:List (List Int))(x:W4):Int:=if aO (dh (rows.getD x.n []) x.w.g) && !bA (dh (rows.getD (x.n + 1) []) x.w.o) then (ms.map (·.m)).getD x.n 0 else 0
def KP (ms:List M4)(rows:List (List Int)):Int:=((gQ ms ms.length).map (iy ms rows)).sum
theorem getD_at {α:Type}{l:List α}{i:Nat}{x d:α}(h:l[i]?=some x):l.getD i d=x:=by rw [zG,h];rfl
theorem UD {lo hi:Int}{n g o:Nat}(a1:0<=lo)(a2:lo < hi)(a3:hi < (n:Int))(e:(lo.toNat=g/\hi.toNat=o)\/(lo.toNat=o/\hi.toNat=g)):g < n/\o < n:=by omega
def Qd:Sp:=λvs H Q _=>∃ b ll lw af tr tm ps ls ws lg lt lm gs ts ms,vs=[.ref b,.ref lm]/\gi H b ll lw af tr tm ps ls ws lg lt lm gs ts ms/\gZ af.length ps.length ls ws gs ts ms/\Good af.length (ps.map (·.2))/\∀ H',au H H'->Q (.int (KP (ps.map (·.2)) (ms.map (·.2)))) H'
theorem eG:∀ {xs:List V},xs.all sI=true->∃ bs:List Bool,xs=bs.map V.bl
 | [],_=>⟨[],rfl⟩
 | x::xs,h=>by
  rw [yr,zb] at h;obtain ⟨bs,rfl⟩:=eG h.2;cases x with
  | bl b=>exact ⟨b::bs,rfl⟩
  | _=>cases h.1
theorem sd:∀ {xs:List V},xs.all (KY 0 3)=true->∃ ns:List Int,xs=ns.map V.int/\∀ n∈ns,0<=n/\n<=3
 | [],_=>⟨[],rfl,nofun⟩
 | x::xs,h=>by
  rw [yr,zb] at h;obtain ⟨ns,rfl,hn⟩:=sd h.2;cases x with
  | int b=>
   have:=h.1;simp only [KY,zb,decide_eq_true_eq] at this;refine ⟨b::ns,rfl,λn hm=>?_⟩;rcases zJ.mp hm with rfl | hm
   ·exact this
   ·exact hn n hm
  | _=>cases h.1
theorem iJ {H:Hp}{n:Nat}{v:V}(h:bE H n v=true):∃ p,∃ bs:List Bool,v=.ref p/\H p=some (.lst (bs.map V.bl))/\bs.length=n:=by
 cases v with
 | ref p=>
  simp only [bE] at h;split at h
  ·rename_i xs k;rw [zb] at h;obtain ⟨bs,rfl⟩:=eG h.2;exact ⟨_,bs,rfl,k,by have:=of_decide_eq_true h.1;rwa [zA] at this⟩
  ·cases h
 | _=>cases h
theorem se {H:Hp}{n:Nat}{v:V}(h:bX H n v=true):∃ p,∃ ns:List Int,v=.ref p/\H p=some (.lst (ns.map V.int))/\ns.length=n/\∀ m∈ns,0<=m/\m<=3:=by
 cases v with
 | ref p=>
  simp only [bX] at h;split at h
  ·rename_i xs k;rw [zb] at h;obtain ⟨bs,rfl,hb⟩:=sd h.2;exact ⟨_,bs,rfl,k,by have:=of_decide_eq_true h.1;rwa [zA] at this,hb⟩
  ·cases h
 | _=>cases h
theorem Kw {H:Hp}{n:Nat}:∀ {xs:List V},xs.all (bX H n)=true->∃ ms:List (Addr×List Int),xs=ms.map (λa=>V.ref a.1)/\∀ a∈ms,H a.1=some (.lst (a.2.map V.int))/\a.2.length=n/\∀ m∈a.2,0<=m/\m<=3
 | [],_=>⟨[],rfl,nofun⟩
 | x::xs,h=>by
  rw [yr,zb] at h;obtain ⟨ms,rfl,hm⟩:=Kw h.2;obtain ⟨p,ns,rfl,k,l,e⟩:=se h.1;refine ⟨(p,ns)::ms,rfl,λa ha=>?_⟩;rcases zJ.mp ha with rfl | ha
  ·exact ⟨k,l,e⟩
  ·exact hm a ha
theorem uz {H:Hp}{m n:Nat}{v:V}(h:jJ H m n v=true):∃ p,∃ ms:List (Addr×List Int),v=.ref p/\H p=some (.lst (ms.map λa:Addr×List Int=>V.ref a.1))/\ms.length=m/\∀ a∈ms,H a.1=some (.lst (a.2.map V.int))/\a.2.length=n/\∀ m∈a.2,0<=m/\m<=3:=by
 cases v with
 | ref p=>
  simp only [jJ] at h;split at h
  ·rename_i xs k;rw [zb] at h;obtain ⟨bs,rfl,hb⟩:=Kw h.2;exact ⟨_,bs,rfl,k,by have:=of_decide_eq_true h.1;rwa [zA] at this,hb⟩
  ·cases h
 | _=>cases h
theorem ve {H:Hp}{a b m n:Nat}{v:V}(h:eB H a b m n v=true):∃ c lg lt lm,∃ gs ts:List Bool,∃ ms:List (Addr×List Int),v=.ref c/\H c=some (.tup [.ref lg,.ref lt,.ref lm])/\H lg=some (.lst (gs.map V.bl))/\gs.length=a/\H lt=some (.lst (ts.map V.bl))/\ts.length=b/\H lm=some (.lst (ms.map λa=>V.ref a.1))/\ms.length=m/\∀ a∈ms,H a.1=some (.lst (a.2.map V.int))/\a.2.length=n/\∀ m∈a.2,0<=m/\m<=3:=by
 cases v with
 | ref p=>
  simp only [eB] at h;split at h
  ·rename_i k;rw [zb,zb] at h;obtain ⟨⟨h1,h2⟩,h3⟩:=h;obtain ⟨p1,gs,rfl,k1,l1⟩:=iJ h1;obtain ⟨p2,ts,rfl,k2,l2⟩:=iJ h2;obtain ⟨p3,ms,rfl,k3,l3,e3⟩:=uz h3;exact ⟨_,p1,p2,p3,gs,ts,ms,rfl,k,k1,l1,k2,l2,k3,l3,e3⟩
  ·cases h
 | _=>cases h
def fq (ms:List M4)(ls ws:List S3)(gs ts:List Bool)(rows:List (List Int)):Bool:=fR ms ls gs rows && (jL ms.length rows && (f7 ms ws ts rows && fS ls ws gs ts))
def nV (af:List Int)(ms:List M4)(ls ws:List S3)(gs ts:List Bool)(rows:List (List Int)):Int:=oN ls gs + vP ws ts + (dJ af rows).sum + KP ms rows
def SI:Sp:=λvs H Q _=>∃ b ll lw v af tr tm ps ls ws,vs=[.ref b,.ref ll,.ref lw,v]/\aY H b af tr tm ps/\Good af.length (ps.map (·.2))/\af.length<=12/\aD H ll ls/\aD H lw ws/\ls.length<=100/\ws.length<=100/\(∀ a∈ls,0<=a.2.w/\a.2.w < af.length)/\(∀ a∈ws,0<=a.2.w/\a.2.w < af.length)/\DT H 3 v /\
 (eB H ls.length ws.length (ps.length + 1) af.length v=false->∀ H',au H H'->Q .cK H') /\
 (∀ c lg lt lm gs ts ms,v=.ref c->H c=some (.tup [.ref lg,.ref lt,.ref lm])->gi H b ll lw af tr tm ps ls ws lg lt lm gs ts ms->gZ af.length ps.length ls ws gs ts ms->(∀ a∈ms,∀ m∈a.2,(0:Int)<=m/\m<=3) ->
  ∀ H',au H H'->Q (if fq (ps.map (·.2)) (ls.map (·.2)) (ws.map (·.2)) gs ts (ms.map (·.2)) then .int (nV af (ps.map (·.2)) (ls.map (·.2)) (ws.map (·.2)) gs ts (ms.map (·.2))) else .cK) H')
def rW (m:Int):Bool:=decide (m % 2=1)
def cS (ms:List M4)(rows:List (List Int))(w:S3):Bool:=((rows.drop 1).take (cnt ms w.t)).any λr=>rW (dh r w.w)
theorem iP {m:Int}(h0:0<=m)(h3:m<=3):rW m=bA m:=by
 unfold rW bA;have:m=0\/m=1\/m=2\/m=3:=by omega
 rcases this with rfl | rfl | rfl | rfl <;> decide
theorem Q8 {m:Int}:decide (V.int (m % 2)=V.int 1)=rW m:=by
 unfold rW;by_cases h:m % 2=1
 ·rw [decide_eq_true h,decide_eq_true (by rw [h])]
 ·rw [decide_eq_false h,decide_eq_false (λz=>h (V.int.inj z))]
theorem UH {α:Type}{l:List α}{c i:Nat}(h:i < c):((l.drop 1).take c)[i]?=l[1 + i]?:=by rw [List.getElem?_take_of_lt h,yx]
def uq:Sp:=λvs H Q _=>∃ b z lm af tr tm ps,∃ w:S3,∃ ms:List (Addr×List Int),vs=[.ref b,.ref z,.ref lm]/\aY H b af tr tm ps/\ps.length<=60/\H z=some (.tup [.int w.w,.int w.t,.int w.m])/\0<=w.w/\w.w < af.length/\H lm=some (.lst (ms.map λa=>V.ref a.1))/\(∀ a∈ms,H a.1=some (.lst (a.2.map V.int))/\a.2.length=af.length)/\ms.length=ps.length + 1/\∀ H',au H H'->Q (.bl (cS (ps.map (·.2)) (ms.map (·.2)) w)) H'
def aH (rs:List (List Int))(k w:Nat):Int:=(rs.getD k []).getD w 0
def setM (rs:List (List Int))(k w:Nat)(v:Int):List (List Int):=rs.set k ((rs.getD k []).set w v)
structure bG (n nr:Nat) (rs:List (List Int)):Prop where
 len:rs.length=n
 rows:∀ r∈rs,r.length=nr/\∀ m∈r,(0:Int)<=m/\m<=3
section
variable {n nr k w k' w':Nat}{rs:List (List Int)}{v:Int}
theorem bG.row (d:bG n nr rs)(h:k < n):(rs.getD k []).length=nr/\∀ m∈rs.getD k [],(0:Int)<=m/\m<=3:=by
 have hk:k < rs.length:=by rw [d.len];exact h
 rw [zG,zC hk];exact d.rows _ (z4 hk)
theorem bG.Wr (d:bG n nr rs)(h:k < n)(hw:w < nr):0<=aH rs k w/\aH rs k w<=3:=by
 obtain ⟨l,e⟩:=d.row h;have QS:w < (rs.getD k []).length:=by rw [l];exact hw
 unfold aH;rw [zG (i:=w),zC QS];exact e _ (z4 QS)
theorem lz (d:bG n nr rs)(h:k < n)(hw:w < nr):aH (setM rs k w v) k' w'=if k'=k/\w'=w then v else aH rs k' w':=by
 obtain ⟨l,_⟩:=d.row h;have hk:k < rs.length:=by rw [d.len];exact h
 unfold aH setM;by_cases ek:k'=k
 ·subst ek;rw [getD_at (l:=rs.set k' _) (i:=k') (yY hk)];by_cases ew:w'=w
  ·subst ew;rw [getD_at (yY (by rw [l];exact hw)),if_pos ⟨rfl,rfl⟩]
  ·rw [if_neg (λz=>ew z.2),zG,yW (Ne.symm ew),<- zG]
 ·rw [if_neg (λz=>ek z.1),zG (i:=k'),yW (Ne.symm ek),<- zG]
theorem bG.set (d:bG n nr rs)(h:k < n)(v0:0<=v)(v3:v<=3):bG n nr (setM rs k w v):=by
 obtain ⟨l,e⟩:=d.row h;refine ⟨by unfold setM;rw [zt,d.len],λr hr=>?_⟩;rcases yP hr with hr | rfl
 ·exact d.rows r hr
 ·refine ⟨by rw [zt,l],λm hm=>?_⟩;rcases yP hm with hm | rfl
  ·exact e m hm
  ·exact ⟨v0,v3⟩
def tV (rs aK:List (List Int)):Prop:=∀ k w,2<=aH rs k w->2<=aH aK k w
theorem tV.trans {a b c:List (List Int)}(h:tV a b)(g:tV b c):tV a c:=λk w z=>g k w (h k w z)
theorem pT (d:bG n nr rs)(h:k < n)(hw:w < nr)(le:aH rs k w<=v):tV rs (setM rs k w v):=λk' w' z=>by
 rw [lz d h hw];split
 ·rename_i e;rw [e.1,e.2] at z;omega
 ·exact z
end
structure MC (p:Addr) (H0:Hp) (lg lt lm:Addr) (as:List Addr) (n nr:Nat) (gs ts:List Bool) (rs:List (List Int)) (H:Hp):Prop where
 go:Go p H0 H
 g:H lg=some (.lst (gs.map V.bl))
 t:H lt=some (.lst (ts.map V.bl))
 m:H lm=some (.lst (as.map V.ref))
 each:∀ (k:Nat) a,as[k]?=some a->H a=some (.lst ((rs.getD k []).map V.int))
 d:bG n nr rs
 al:as.length=n
 nd:as.Nodup
 nw:∀ a∈as,H0 a=none/\a≠p/\a≠lg/\a≠lt/\a≠lm
 tn:H0 lt=none/\lt≠p/\lt≠lg/\lt≠lm
section
variable {p lg lt lm a:Addr} {H0 H H':Hp}{as:List Addr}{n nr k w i:Nat}{gs ts:List Bool}{rs:List (List Int)}{v:Int}
theorem MC.same (c:MC p H0 lg lt lm as n nr gs ts rs H)(s:au H H'):MC p H0 lg lt lm as n nr gs ts rs H':=
 ⟨c.go.same s,s _ _ c.g,s _ _ c.t,s _ _ c.m,λk a h=>s _ _ (c.each k a h),c.d,c.al,c.nd,c.nw,c.tn⟩
theorem sU (g:Go p H0 H)(fa:H0 a=none)(na:a≠p)(b:jY a H H'):Go p H0 H':=by refine ⟨λc u nc e=>b _ _ (xk e fa) (g.1 c u nc e),?_⟩;obtain ⟨x,y,z,e⟩:=g.2;exact ⟨x,y,z,b _ _ (Ne.symm na) e⟩
theorem Wj {xs:List Addr}(nd:xs.Nodup){i j:Nat}{c:Addr}(h1:xs[i]?=some c)(h2:xs[j]?=some c):i=j:=by
 obtain ⟨l1,e1⟩:=zH.mp h1;obtain ⟨l2,e2⟩:=zH.mp h2;have pw:=List.pairwise_iff_getElem.mp nd;rcases Nat.lt_trichotomy i j with z | z | z
 ·exact absurd (e1.trans e2.symm) (pw i j l1 l2 z)
 ·exact z
 ·exact absurd (e2.trans e1.symm) (pw j i l2 l1 z)
theorem MC.set (c:MC p H0 lg lt lm as n nr gs ts rs H)(ha:as[k]?=some a)(v0:0<=v)(v3:v<=3)(b:jY a H H')(e:H' a=some (.lst (((rs.getD k []).set w v).map V.int))):MC p H0 lg lt lm as n nr gs ts (setM rs k w v) H':=by
 have hk:k < n:=by have:=(zH.mp ha).1;rw [c.al] at this;exact this
 obtain ⟨f,np,n1,n2,n3⟩:=c.nw a (zB ha);refine ⟨sU c.go f np b,b _ _ n1.symm c.g,b _ _ n2.symm c.t,b _ _ n3.symm c.m,λj x hx=>?_,c.d.set hk v0 v3,c.al,c.nd,c.nw,c.tn⟩;have MK:k < rs.length:=by rw [c.d.len];exact hk
 unfold setM;by_cases ej:j=k
 ·subst ej;rw [hx] at ha;cases ha;rw [getD_at (l:=rs.set j _) (i:=j) (yY MK)];exact e
 ·rw [zG,yW (Ne.symm ej),<- zG];exact b _ _ (λz=>ej (Wj c.nd (by rw [<-z];exact hx) ha)) (c.each j x hx)
theorem MC.put (c:MC p H0 lg lt lm as n nr gs ts rs H)(b:jY lt H H'){U6:List Bool}(e:H' lt=some (.lst (U6.map V.bl))):MC p H0 lg lt lm as n nr gs U6 rs H':=by obtain ⟨f,np,n1,n2⟩:=c.tn;refine ⟨sU c.go f np b,b _ _ n1.symm c.g,e,b _ _ n2.symm c.m,λj x hx=>?_,c.d,c.al,c.nd,c.nw,c.tn⟩;exact b _ _ (c.nw x (zB hx)).2.2.2.1 (c.each j x hx)
theorem MC.row (c:MC p H0 lg lt lm as n nr gs ts rs H)(h:k < n):∃ a,as[k]?=some a/\H a=some (.lst ((rs.getD k []).map V.int)):=by obtain ⟨a,ha⟩:∃ a,as[k]?=some a:=⟨_,zC (by rw [c.al];exact h)⟩;exact ⟨a,ha,c.each k a ha⟩
theorem MC.zip (c:MC p H0 lg lt lm as n nr gs ts rs H):(as.zip rs).map (·.1)=as/\(as.zip rs).map (·.2)=rs/\H lm=some (.lst ((as.zip rs).map λx=>V.ref x.1))/\∀ x∈as.zip rs,H x.1=some (.lst (x.2.map V.int))/\x.2.length=nr/\(∀ m∈x.2,(0:Int)<=m/\m<=3)/\x.1≠p:=by
 have l:as.length=rs.length:=by rw [c.al,c.d.len]
 refine ⟨List.map_fst_zip (by omega),List.map_snd_zip (by omega),?_,λx hx=>?_⟩
 ·rw [c.m];have:(as.zip rs).map (λx=>V.ref x.1)=((as.zip rs).map Prod.fst).map V.ref:=by rw [zp];rfl
  rw [this,List.map_fst_zip (by omega)]
 ·obtain ⟨i,hi⟩:=yA hx;obtain ⟨h1,h2⟩:=zz.mp hi;have e:=c.each i x.1 h1;rw [getD_at h2] at e;have d:=c.d.rows x.2 (zB h2);exact ⟨e,d.1,d.2,(c.nw x.1 (zB h1)).2.1⟩
end
structure RC (p:Addr) (H0:Hp) (as:List Addr) (n nr:Nat) (rs:List (List Int)) (H:Hp):Prop where
 go:Go p H0 H
 each:∀ (k:Nat) a,as[k]?=some a->H a=some (.lst ((rs.getD k []).map V.int))
 d:bG n nr rs
 al:as.length=n
 nd:as.Nodup
 nw:∀ a∈as,H0 a=none/\a≠p
section
variable {p lg lt lm a:Addr} {H00 H0 H H' H1:Hp}{as:List Addr}{n nr:Nat}{gs ts:List Bool}{rs:List (List Int)}{r:List Int}
theorem RC.init (hp:aN H p):RC p H [] 0 nr [] H:=⟨Go.refl hp,nofun,⟨rfl,nofun⟩,rfl,.nil,nofun⟩
theorem RC.to (c:RC p H0 as n nr rs H)(g:Go p H H1):RC p H0 as n nr rs H1:=⟨c.go.trans g,λk a h=>g.1 _ _ (c.nw a (zB h)).2 (c.each k a h),c.d,c.al,c.nd,c.nw⟩
theorem RC.new (c:RC p H0 as n nr rs H)(g:Go p H H1)(ha:H1 a=none)(lr:r.length=nr)(hr:∀ m∈r,(0:Int)<=m/\m<=3):RC p H0 (as++[a]) (n + 1) nr (rs++[r]) (upd H1 a (.lst (r.map V.int))):=by
 have c1:=c.to g;have np:=g.2.ne ha;have fa:H0 a=none:=c1.go.free ha np;have na:a ∉ as:=λh=>by
  obtain ⟨k,hk⟩:=yA h;rw [c1.each k a hk] at ha;cases ha
 refine ⟨c1.go.new ha,λk x hx=>?_,⟨by rw [zO,c.d.len];rfl,λq hq=>?_⟩,by rw [zO,c.al];rfl,?_,λx hx=>?_⟩
 ·by_cases h:k < as.length
  ·rw [yJ h] at hx;have hk:k < rs.length:=by rw [c.d.len,<- c.al];exact h
   rw [zG,yJ hk,<- zG];have e:=c1.each k x hx;rw [xt (xk e ha)];exact e
  ·have hk:=(zH.mp hx).1;rw [zO] at hk;have ek:k=as.length:=by have:[a].length=1:=rfl;omega
   subst ek;rw [yC (zI _),Nat.sub_self] at hx;cases hx;rw [zG,yC (by rw [c.d.len,c.al];exact zI _),c.d.len,c.al,Nat.sub_self];exact xj
 ·rcases zV.mp hq with hq | hq
  ·exact c.d.rows q hq
  ·cases zK.mp hq;exact ⟨lr,hr⟩
 ·rw [List.nodup_append];exact ⟨c.nd,by simp,λx hx y hy e=>by cases zK.mp hy;exact na (e ▸ hx)⟩
 ·rcases zV.mp hx with hx | hx
  ·exact c.nw x hx
  ·cases zK.mp hx;exact ⟨fa,np⟩
theorem RC.mc (c:RC p H0 as n nr rs H)(g:Go p H00 H0)(We:lg≠p)(kg:H0 lg=some (.lst (gs.map V.bl)))(Wd:lt≠p)(kt:H0 lt=some (.lst (ts.map V.bl)))(ft:H00 lt=none)(ne:lt≠lg)(hm:H lm=none):MC p H00 lg lt lm as n nr gs ts rs (upd H lm (.lst (as.map V.ref))):=by
 have k1:=c.go.1 _ _ We kg;have k2:=c.go.1 _ _ Wd kt;refine ⟨(g.trans c.go).new hm,by rw [xt (xk k1 hm)];exact k1,by rw [xt (xk k2 hm)];exact k2,xj,λk x hx=>?_,c.d,c.al,c.nd,λx hx=>⟨g.free (c.nw x hx).1 (c.nw x hx).2,(c.nw x hx).2,λe=>?_,λe=>?_,λe=>?_⟩,ft,Wd,ne,xk k2 hm⟩
 ·have e:=c.each k x hx;rw [xt (xk e hm)];exact e
 ·have:=(c.nw x hx).1;rw [e,kg] at this;cases this
 ·have:=(c.nw x hx).1;rw [e,kt] at this;cases this
 ·obtain ⟨k,hk⟩:=yA hx;have e2:=c.each k x hk;rw [e,hm] at e2;cases e2
end
def gf (ms:List M4)(ls:List S3)(gs:List Bool)(rs:List (List Int))(n i:Nat):Prop:=∀ (j:Nat),j < i->∀ l:S3,ls[j]?=some l->gs[j]?=some true->∀ k,cnt ms l.t<=k->k < n->2<=aH rs k l.w.toNat
def pL (rs:List (List Int))(nr k:Nat):Prop:=∀ k' < k,∀ w < nr,2<=aH rs k' w->aH rs (k' + 1) w % 2=1
def Rj (rs:List (List Int))(k i:Nat):Prop:=∀ w < i,2<=aH rs k w->aH rs (k + 1) w % 2=1
def mh (ms:List M4)(ls ws:List S3)(gs ts:List Bool)(rs:List (List Int))(i:Nat):Prop:=∀ (j:Nat),j < i->∀ w:S3,ws[j]?=some w->ts[j]?=some false->cS ms rs w=false/\∀ (m:Nat) (l:S3),ls[m]?=some l->gs[m]?=some true->b7 l w=false
section
variable {ms:List M4}{ls ws:List S3}{gs ts:List Bool}{rs aK:List (List Int)}{n nr i k w:Nat}{v:Int}
theorem gf.up (h:gf ms ls gs rs n i)(u:tV rs aK):gf ms ls gs aK n i:=λj hj l hl hg k h1 h2=>u _ _ (h j hj l hl hg k h1 h2)
theorem sS (d:bG n nr rs)(hk:k + 1 < n)(hw:w < nr)(g:pL rs nr k)(gw:Rj rs k w)(ev:aH rs (k + 1) w % 2=0):pL (setM rs (k + 1) w (aH rs (k + 1) w + 1)) nr k/\Rj (setM rs (k + 1) w (aH rs (k + 1) w + 1)) k (w + 1)/\tV rs (setM rs (k + 1) w (aH rs (k + 1) w + 1))/\0<=aH rs (k + 1) w + 1/\aH rs (k + 1) w + 1<=3:=by
 have m3:=d.Wr hk hw;have st:=λk' w'=>lz (v:=aH rs (k + 1) w + 1) (k':=k') (w':=w') d hk hw;refine ⟨λk' MK w' QS h=>?_,λw' QS h=>?_,pT d hk hw (by omega),by omega,by omega⟩
 ·rw [st,if_neg (by omega)] at h;rw [st,if_neg (by omega)];exact g k' MK w' QS h
 ·rw [st,if_neg (by omega)] at h;rw [st];by_cases e:w'=w
  ·subst e;rw [if_pos ⟨rfl,rfl⟩];omega
  ·rw [if_neg (λz=>e z.2)];exact gw w' (by omega) h
theorem tQ {α:Type}{l:List α}{f g:α->Bool}(h:∀ x∈l,f x=g x):l.any f=l.any g:=by
 induction l with
 | nil=>rfl
 | cons x l ih=>rw [List.any_cons,List.any_cons,h x (za ..),ih λy hy=>h y (zU _ hy)]
theorem dI {r:List Int}{k:Nat}{rs:List (List Int)}(h:rs[k]?=some r)(w:Nat):r.getD w 0=aH rs k w:=by unfold aH;rw [getD_at h]
theorem rS (lg:gs.length=ls.length)(d:bG n nr rs)(h:gf ms ls gs rs n ls.length):fR ms ls gs rs=true:=by
 unfold fR;rw [zc];intro x hx;obtain ⟨j,hj⟩:=yA hx;obtain ⟨h1,h2⟩:=zz.mp hj;unfold kT;cases e:x.2 with
 | false=>rfl
 | true=>
  rw [e] at h2;rw [zZ,Bool.not_not,zc];intro r hr;obtain ⟨i,hi⟩:=yA hr;rw [yx] at hi;have gE:=(zH.mp hi).1;have z:=h j (zH.mp h1).1 x.1 h1 h2 (cnt ms x.1.t + i) (by omega) (by rw [<-d.len];exact gE);rw [<-dI hi] at z;exact decide_eq_true z
theorem sR (d:bG (n + 1) nr rs)(h:pL rs nr n):jL n rs=true:=by
 unfold jL;rw [zc];intro k hk;have hk:=yG.mp hk;obtain ⟨a,ha⟩:∃ a,rs[k]?=some a:=⟨_,zC (by rw [d.len];omega)⟩;obtain ⟨b,hb⟩:∃ a,rs[k + 1]?=some a:=⟨_,zC (by rw [d.len];omega)⟩;rw [lT ha hb];unfold fZ;rw [zc];intro x hx;obtain ⟨w,hw⟩:=yA hx;obtain ⟨h1,h2⟩:=zz.mp hw;have lw:w < nr:=by rw [<-(d.rows a (zB ha)).1];exact (zH.mp h1).1
 have z:=h k hk w lw;rw [<-dI ha,<- dI hb,getD_at h1,getD_at h2] at z;cases e:aO x.1 with
 | false=>rfl
 | true=>
  have o:=(d.rows b (zB hb)).2 x.2 (zB h2);rw [<-iP o.1 o.2,show rW x.2=true from decide_eq_true (z (of_decide_eq_true e))];rfl
theorem O3 (d:bG n nr rs){r:List Int}(hr:r∈rs)(w:Int):0<=dh r w/\dh r w<=3:=by
 unfold dh;rw [zG];cases e:r[w.toNat]? with
 | none=>exact ⟨by decide,by decide⟩
 | some x=>exact (d.rows r hr).2 x (zB e)
theorem gW (d:bG n nr rs)(w:S3):lX ms rs w false=!cS ms rs w:=by unfold lX cS;rw [yy,zZ,List.drop_take,Nat.add_sub_cancel];congr 1;refine tQ ?_;intro r hr;have mr:=xE (List.mem_of_mem_take hr);exact (iP (O3 d mr _).1 (O3 d mr _).2).symm
theorem tu (lt:ts.length=ws.length)(d:bG n nr rs)(h:mh ms ls ws gs ts rs ws.length):f7 ms ws ts rs=true:=by
 unfold f7;rw [zc];intro x hx;obtain ⟨j,hj⟩:=yA hx;obtain ⟨h1,h2⟩:=zz.mp hj;cases e:x.2 with
 | true=>rfl
 | false=>
  rw [e] at h2;rw [gW d,(h j (zH.mp h1).1 x.1 h1 h2).1];rfl
theorem rV (lt:ts.length=ws.length)(h:mh ms ls ws gs ts rs ws.length):fS ls ws gs ts=true:=by
 unfold fS fT;rw [zc];intro x hx;obtain ⟨i,hi⟩:=yA hx;obtain ⟨g1,g2⟩:=zz.mp hi;rw [zc];intro y hy;obtain ⟨j,hj⟩:=yA hy;obtain ⟨h1,h2⟩:=zz.mp hj;cases e:x.2 with
 | false=>rfl
 | true=>
  cases e2:y.2 with
  | true=>rfl
  | false=>
   rw [e] at g2;rw [e2] at h2;rw [(h j (zH.mp h1).1 y.1 h1 h2).2 i x.1 g1 g2];rfl
theorem pY (h:mh ms ls ws gs ts rs i):mh ms ls ws gs (ts.set i true) rs (i + 1):=λj hj w hw ht=>by
 by_cases e:j=i
 ·subst e;rw [List.getElem?_set] at ht;rw [if_pos rfl] at ht;split at ht <;> cases ht
 ·rw [yW (Ne.symm e)] at ht;exact h j (by omega) w hw ht
theorem Lo (h:mh ms ls ws gs ts rs i){w:S3}(hw:ws[i]?=some w)(hb:cS ms rs w=false)(hn:∀ (m:Nat) (l:S3),ls[m]?=some l->gs[m]?=some true->b7 l w=false):mh ms ls ws gs ts rs (i + 1):=λj hj w' QS ht=>by
 by_cases e:j=i
 ·subst e;rw [hw] at QS;cases QS;exact ⟨hb,hn⟩
 ·exact h j (by omega) w' QS ht
theorem uK {ps:List (Addr×S3)}{w:S3}(e:(ps.zip gs).filter (λq=>q.2 && b7 q.1.2 w)=[])(m:Nat)(l:S3)(hl:(ps.map (·.2))[m]?=some l)(hg:gs[m]?=some true):b7 l w=false:=by rw [zF] at hl;obtain ⟨x,hx,rfl⟩:=Option.map_eq_some_iff.mp hl;have z:=List.filter_eq_nil_iff.mp e (x,true) (zB (qe hx hg));rw [zZ,Bool.not_eq_true] at z;exact z
theorem oU (lg:gs.length=ls.length)(lt:ts.length=ws.length)(d:bG (ms.length + 1) nr rs)(h1:gf ms ls gs rs (ms.length + 1) ls.length)(h2:pL rs nr ms.length)(h3:mh ms ls ws gs ts rs ws.length):fq ms ls ws gs ts rs=true:=by unfold fq;rw [rS lg d h1,sR d h2,tu lt d h3,rV lt h3];rfl
end
section
variable {ms:List M4}{ls ws:List S3}{gs ts:List Bool}{rs aK:List (List Int)}{n nr i k w:Nat}{v:Int}
theorem uG (d:bG n nr rs)(h:fR ms ls gs rs=true):gf ms ls gs rs n ls.length:=λj hj l hl hg k h1 h2=>by
 unfold fR at h;have z:=zc.mp h (l,true) (zB (qe hl hg));unfold kT at z;rw [zZ,Bool.not_not,zc] at z;obtain ⟨r,hr⟩:∃ r,rs[k]?=some r:=⟨_,zC (by rw [d.len];exact h2)⟩;have y:=z r (zB (i:=k - cnt ms l.t) (by rw [yx,show cnt ms l.t + (k - cnt ms l.t)=k by omega];exact hr));rw [<-dI hr];exact of_decide_eq_true y
theorem u7 (d:bG (n + 1) nr rs)(h:jL n rs=true):pL rs nr n:=λk hk w hw h2=>by
 unfold jL at h;have z:=zc.mp h k (yG.mpr hk);obtain ⟨a,ha⟩:∃ a,rs[k]?=some a:=⟨_,zC (by rw [d.len];omega)⟩;obtain ⟨b,hb⟩:∃ a,rs[k + 1]?=some a:=⟨_,zC (by rw [d.len];omega)⟩;obtain ⟨la,_⟩:=d.rows a (zB ha);obtain ⟨lb,eb⟩:=d.rows b (zB hb);obtain ⟨x,hx⟩:∃ x,a[w]?=some x:=⟨_,zC (by omega)⟩;obtain ⟨y,hy⟩:∃ x,b[w]?=some x:=⟨_,zC (by omega)⟩;rw [lT ha hb] at z;unfold fZ at z;have z:=zc.mp z (x,y) (zB (qe hx hy));rw [<-dI ha,getD_at hx] at h2;rw [<-dI hb,getD_at hy];have o:=eb y (zB hy);rw [show aO x=true from decide_eq_true h2,zZ,Bool.not_not,<- iP o.1 o.2] at z;exact of_decide_eq_true z
theorem M6 (d:bG n nr rs)(h1:f7 ms ws ts rs=true)(h2:fS ls ws gs ts=true):mh ms ls ws gs ts rs ws.length:=λj hj w hw ht=>by
 have m:=zB (qe hw ht);unfold f7 at h1;have z:=zc.mp h1 (w,false) m;rw [gW d] at z;refine ⟨by rwa [Bool.not_eq_true'] at z,λi l hl hg=>?_⟩;unfold fS at h2;have y:=zc.mp h2 (l,true) (zB (qe hl hg));unfold fT at y;have y:=zc.mp y (w,false) m;rw [zZ,yy,zZ,Bool.not_eq_true'] at y;exact y
theorem sN (d:bG (ms.length + 1) nr rs)(h:fq ms ls ws gs ts rs=true):gf ms ls gs rs (ms.length + 1) ls.length/\pL rs nr ms.length/\mh ms ls ws gs ts rs ws.length:=by unfold fq at h;rw [zb,zb,zb] at h;exact ⟨uG d h.1,u7 d h.2.1,M6 d h.2.2.1 h.2.2.2⟩
theorem tK {w:S3}:cS ms rs w=true↔∃ k,k < cnt ms w.t/\k + 1 < rs.length/\aH rs (k + 1) w.w.toNat % 2=1:=by
 unfold cS;rw [List.any_eq_true];constructor
 ·rintro ⟨r,hr,e⟩;obtain ⟨k,hk⟩:=yA hr;rw [List.getElem?_take] at hk;split at hk
  ·rename_i h;rw [yx,Nat.add_comm] at hk;refine ⟨k,h,(zH.mp hk).1,?_⟩;rw [<-dI hk];exact of_decide_eq_true e
  ·cases hk
 ·rintro ⟨k,h1,h2,h3⟩;obtain ⟨r,hr⟩:∃ r,rs[k + 1]?=some r:=⟨_,zC h2⟩;refine ⟨r,zB (i:=k) (by rw [List.getElem?_take,if_pos h1,yx,Nat.add_comm];exact hr),?_⟩;rw [<-dI hr] at h3;exact decide_eq_true h3
def jn (rs:List (List Int))(k lo hi:Nat):Bool:=(aO (aH rs k lo) && !bA (aH rs (k + 1) hi)) || (aO (aH rs k hi) && !bA (aH rs (k + 1) lo))
def lC (ms:List M4)(rs:List (List Int))(i:Nat):Int:=((gQ ms i).map (iy ms rs)).sum
theorem r9 {m:M4}(hm:ms[k]?=some m)(g1:aO (aH rs k m.lo.toNat)=true->bA (aH rs (k + 1) m.lo.toNat)=true)(g2:aO (aH rs k m.hi.toNat)=true->bA (aH rs (k + 1) m.hi.toNat)=true):lC ms rs (k + 1)=lC ms rs k + if jn rs k m.lo.toNat m.hi.toNat then m.m else 0:=by
 have e:(ms.map (·.m)).getD k 0=m.m:=getD_at (by rw [zF,hm];rfl);have c:∀ (g o:Nat) (t:Int),iy ms rs ⟨k,⟨g,o,t⟩⟩=if aO (aH rs k g) && !bA (aH rs (k + 1) o) then m.m else 0:=λg o t=>by
  unfold iy;rw [e];rfl
 unfold lC;rw [kj hm,zD,zu,zY,zY,yn,c,c];unfold jn;cases h1:aO (aH rs k m.lo.toNat) <;> cases h2:aO (aH rs k m.hi.toNat) <;> cases h3:bA (aH rs (k + 1) m.lo.toNat) <;> cases h4:bA (aH rs (k + 1) m.hi.toNat) <;> simp_all
end
theorem gZ.dim {nr nm:Nat}{ls ws:List (Addr×S3)}{gs ts:List Bool}{ms:List (Addr×List Int)}(h:gZ nr nm ls ws gs ts ms)(hm:∀ a∈ms,∀ m∈a.2,(0:Int)<=m/\m<=3):bG (nm + 1) nr (ms.map (·.2)):=⟨by rw [zA,h.lm],λr hr=>by
 obtain ⟨x,hx,rfl⟩:=zd.mp hr;exact ⟨h.rows x hx,hm x hx⟩⟩
theorem aD.vc {p l:Addr}{H H':Hp}{ps:List (Addr×S3)}(h:aD H l ps)(g:Go p H H')(hp:aN H p):aD H' l ps:=by
 refine ⟨g.1 _ _ (λe=>?_) h.l,λa ha=>g.aZ hp _ _ (h.each a ha)⟩;obtain ⟨x,y,z,k⟩:=hp;rw [<-e,h.l] at k
 match ps,k with
 | [],k=>cases k
 | a::ps,k=>cases k
def Qe:Sp:=λvs H Q _=>∃ p b ll lw af tr tm ps ls ws,vs=[.ref p,.ref b,.ref ll,.ref lw]/\aY H b af tr tm ps/\Good af.length (ps.map (·.2))/\aD H ll ls/\aD H lw ws/\ls.length<=100/\ws.length<=100/\(∀ a∈ls,0<=a.2.w/\a.2.w < af.length)/\(∀ a∈ws,0<=a.2.w/\a.2.w < af.length)/\af.length<=12/\aN H p /\
 ∀ c lg lt lm gs ts ms H',Go p H H'->H' c=some (.tup [.ref lg,.ref lt,.ref lm])->gi H' b ll lw af tr tm ps ls ws lg lt lm gs ts ms->gZ af.length ps.length ls ws gs ts ms->(∀ a∈ms,(∀ m∈a.2,(0:Int)<=m/\m<=3)/\a.1≠p)->fq (ps.map (·.2)) (ls.map (·.2)) (ws.map (·.2)) gs ts (ms.map (·.2))=true->Q (.ref c) H'
theorem DT.flat {H:Hp}{v:V}{t:String}(h:je H v=some t)(n1:t ≠ "list")(n2:t ≠ "tuple"):∀ n,DT H n v
 | 0=>⟨t,h⟩
 | _ + 1=>.inr (.inr ⟨t,h,n1,n2⟩)
theorem DT.bl {H:Hp}(n:Nat)(b:Bool):DT H n (.bl b):=DT.flat (t := "bool") rfl (by decide) (by decide) n
theorem DT.int {H:Hp}(n:Nat)(b:Int):DT H n (.int b):=DT.flat (t := "int") rfl (by decide) (by decide) n
theorem DT.lst {H:Hp}{n:Nat}{p:Addr}{xs:List V}(h:H p=some (.lst xs))(e:∀ x∈xs,DT H n x):DT H (n + 1) (.ref p):=.inl ⟨p,xs,rfl,h,e⟩
theorem DT.tup {H:Hp}{n:Nat}{p:Addr}{xs:List V}(h:H p=some (.tup xs))(e:∀ x∈xs,DT H n x):DT H (n + 1) (.ref p):=.inr (.inl ⟨p,xs,rfl,h,e⟩)
theorem DT.bools {H:Hp}(n:Nat){gs:List Bool}:∀ x∈gs.map V.bl,DT H n x:=λx hx=>by
 obtain ⟨b,_,rfl⟩:=zd.mp hx;exact DT.bl n b
theorem DT.ints {H:Hp}(n:Nat){r:List Int}:∀ x∈r.map V.int,DT H n x:=λx hx=>by
 obtain ⟨b,_,rfl⟩:=zd.mp hx;exact DT.int n b
theorem DT.three {H:Hp}{n:Nat}{x y z:V}(a:DT H n x)(b:DT H n y)(c:DT H n z):∀ v∈[x,y,z],DT H n v:=λv hv=>by
 simp only [zJ,zN,or_false] at hv;rcases hv with rfl | rfl | rfl <;> assumption
section
variable {H:Hp}{c lg lt lm:Addr}{gs ts:List Bool}{ms:List (Addr×List Int)}
theorem eK.dg (h:eK H c lg lt lm gs ts ms):DT H 2 (.ref lg):=DT.lst h.g (DT.bools 1)
theorem eK.dt (h:eK H c lg lt lm gs ts ms):DT H 2 (.ref lt):=DT.lst h.t (DT.bools 1)
theorem eK.dr (h:eK H c lg lt lm gs ts ms):∀ x∈ms.map λa=>V.ref a.1,DT H 1 x:=λx hx=>by
 obtain ⟨a,ha,rfl⟩:=zd.mp hx;exact DT.lst (h.rows a ha) (DT.ints 0)
theorem eK.dm (h:eK H c lg lt lm gs ts ms):DT H 2 (.ref lm):=DT.lst h.m h.dr
end
theorem tH {bs:List Bool}:(bs.map V.bl).all sI=true:=by
 induction bs with
 | nil=>rfl
 | cons b bs ih=>rw [zY,yr,ih];rfl
theorem nA:∀ {r:List Int},(∀ m∈r,(0:Int)<=m/\m<=3)->(r.map V.int).all (KY 0 3)=true
 | [],_=>rfl
 | m::r,h=>by
  rw [zY,yr,nA λx hx=>h x (zU _ hx)];have:=h m (za ..);simp only [KY,Bool.and_true,zb,decide_eq_true_eq];exact this
theorem Mk {H:Hp}{c lg lt lm:Addr}{gs ts:List Bool}{ms:List (Addr×List Int)}{n:Nat}(h:eK H c lg lt lm gs ts ms)(hr:∀ a∈ms,a.2.length=n/\∀ m∈a.2,(0:Int)<=m/\m<=3):eB H gs.length ts.length ms.length n (.ref c)=true:=by rw [OH h.c,cT h.g,cT h.t,Ky h.m,tH,tH,zA,zA,zA,decide_eq_true rfl,decide_eq_true rfl,decide_eq_true rfl,zZ,zZ,zZ,zZ,zc];intro x hx;obtain ⟨a,ha,rfl⟩:=zd.mp hx;rw [fW (h.rows a ha),zA,(hr a ha).1,decide_eq_true rfl,zZ];exact nA (hr a ha).2
theorem lY:∀ {a b:List Bool},a.map V.bl=b.map V.bl->a=b
 | [],[],_=>rfl
 | [],_::_,h=>by cases h
 | _::_,[],h=>by cases h
 | x::a,y::b,h=>by
  injection h with h1 h2
  injection h1 with h1
  rw [h1,lY h2]
theorem lJ:∀ {a b:List Int},a.map V.int=b.map V.int->a=b
 | [],[],_=>rfl
 | [],_::_,h=>by cases h
 | _::_,[],h=>by cases h
 | x::a,y::b,h=>by
  injection h with h1 h2
  injection h1 with h1
  rw [h1,lJ h2]
theorem kN {H:Hp}:∀ {a b:List (Addr×List Int)},a.map (λx=>V.ref x.1)=b.map (λx=>V.ref x.1)->(∀ x∈a,H x.1=some (.lst (x.2.map V.int)))->(∀ x∈b,H x.1=some (.lst (x.2.map V.int)))->a=b
 | [],[],_,_,_=>rfl
 | [],_::_,h,_,_=>by cases h
 | _::_,[],h,_,_=>by cases h
 | x::a,y::b,h,ha,hb=>by
  injection h with h1 h2
  injection h1 with h1
  have k1:=ha x (za ..);have k2:=hb y (za ..);rw [<-h1,k1] at k2;have e:x.2=y.2:=lJ (by injection (Option.some.inj k2));rw [show x=y from Prod.ext h1 e,kN h2 (λz hz=>ha z (zU _ hz)) λz hz=>hb z (zU _ hz)]
theorem eK.uniq {H:Hp}{c lg lt lm lg' lt' lm':Addr}{gs ts gs' U6:List Bool}{ms ms':List (Addr×List Int)}(h:eK H c lg lt lm gs ts ms)(h':eK H c lg' lt' lm' gs' U6 ms'):gs=gs'/\ts=U6/\ms=ms':=by
 have e:=h.c.symm.trans h'.c;injection (Option.some.inj e) with e
 injection e with e1 e
 injection e with e2 e
 injection e with e3 e
 injection e1 with e1
 injection e2 with e2
 injection e3 with e3
 subst e1 e2 e3;refine ⟨lY ?_,lY ?_,kN ?_ h.rows h'.rows⟩
 ·have:=h.g.symm.trans h'.g;injection (Option.some.inj this)
 ·have:=h.t.symm.trans h'.t;injection (Option.some.inj this)
 ·have:=h.m.symm.trans h'.m;injection (Option.some.inj this)
end Sm
namespace Sm
open PySem L2 bw
def flip (a:Nat):Nat:=if a % 2=0 then a + 1 else a - 1
structure XY where
 h:Nat
 t:Nat
 m:Int
def hd (ts:List XY)(a:Nat):Nat:=match ts[a / 2]? with
 | some x=>if a % 2=0 then x.t else x.h
 | none=>0
def tl (ts:List XY)(a:Nat):Nat:=hd ts (flip a)
def rq (L:L4)(M:M4):Prop:=L.a < M.t/\L.s≠L.w/\(M.lo=(L.s:Int)\/M.hi=(L.s:Int))/\(M.lo=(L.w:Int)\/M.hi=(L.w:Int))
instance (L:L4) (M:M4):Decidable (rq L M):=by unfold rq;infer_instance
section
variable {af:List Int}{ms:List M4}{ls:List (Addr×L4)}{d:R5}{m j:Nat}{s:RS}{M:M4}{L:Addr×L4}{o:Option (Nat×Int)}
end
end Sm
namespace L2
open PySem PySem.Spec PyProof.Rows
end L2
namespace Sm
open PySem L2 bw
def aaf (t:XY):List V:=[.int (t.h:Int),.int (t.t:Int),.int t.m]
section
variable {H H5 H6:Hp}{l:Addr}{n m:Nat}{rows:List (Addr×XY)}{p:Addr}
end
def ac1 (n s g:Nat):List V:=[.int (n:Int),.int (s:Int),.int (g:Int)]
structure S35 where
 x:Addr
 dx:Addr
 lA:Addr
 lE:Addr
 lS:Addr
 as:List Addr
 n:Nat
 lt:Addr
 rows:List (Addr×XY)
def S35.adg (H:Hp)(s:S35):Prop:=H s.lt=some (.lst (s.rows.map λr=>V.ref r.1))/\(∀ r∈s.rows,H r.1=some (.tup (aaf r.2))/\r.2.h < s.n/\r.2.t < s.n/\0<=r.2.m)/\s.rows.length<=60
structure W35 (M:List Addr) (le l1 l2:Addr) (tt:Nat->Addr) (f:Nat->S35) (ss gg:Nat->Nat) (H:Hp):Prop where
 hle:H le=some (.lst [.ref (tt 0),.ref (tt 1)])
 h1:H l1=some (.lst [.ref (f 0).x,.ref (f 1).x])
 h2:H l2=some (.lst [.ref (f 0).lt,.ref (f 1).lt])
 ht:∀ i,i < 2->H (tt i)=some (.tup (ac1 (f i).n (ss i) (gg i)))
 td:∀ i,i < 2->(f i).adg H
 ale:le ∉ M
 a1:l1 ∉ M
 a2:l2 ∉ M
 at_:∀ i,i < 2->tt i ∉ M
 alt:∀ i,i < 2->(f i).lt ∉ M/\∀ r∈(f i).rows,r.1 ∉ M
theorem vq:∀ {ms:List M4}{t:Int},(ms.Pairwise λa b=>a.t<=b.t)->∀ {j:Nat}{m:M4},ms[j]?=some m->(j < cnt ms t↔m.t<=t)
 | [],t,_,j,m,h=>by simp at h
 | a::ms,t,o,j,m,h=>by
  have o:=List.pairwise_cons.mp o;by_cases c:a.t<=t
  ·have e:cnt (a::ms) t=cnt ms t + 1:=by unfold cnt;rw [xT,if_pos (by simp [c])];rfl
   rw [e];cases j with
   | zero=>cases h;exact ⟨λ_=>c,λ_=>by omega⟩
   | succ j=>rw [<-vq (t:=t) o.2 (j:=j) h];omega
  ·have e:cnt (a::ms) t=0:=by
    unfold cnt;rw [xT,if_neg (by simp [c]),List.filter_eq_nil_iff.mpr (λm hm=>by have:=o.1 m hm;simp;omega)];rfl
   rw [e];have:a.t<=m.t:=by
    cases j with
    | zero=>cases h;exact yE _
    | succ j=>exact o.1 m (zB h)
   omega
section
variable {lo hi:Nat->Nat}{g:Nat->Option Nat} {a s0:Nat}
end
end Sm
namespace Sm
open PySem L2
def SS (n:Nat)(f:Nat->Int):Int:=((List.range n).map f).sum
theorem qr {n:Nat}{f:Nat->Int}:SS (n + 1) f=SS n f + f n:=by unfold SS;rw [xL,zD,zu];simp
theorem gM:∀ {n:Nat}{f:Nat->Int},SS (n + 1) f=f 0 + SS n λk=>f (k + 1)
 | 0,f=>by rw [qr];simp [SS]
 | n + 1,f=>by rw [qr,gM,qr,Int.add_assoc]
theorem fB {n:Nat}{f g:Nat->Int}:SS n (λk=>f k + g k)=SS n f + SS n g:=by
 induction n with
 | zero=>rfl
 | succ n ih=>rw [qr,qr,qr,ih];omega
theorem fF {n:Nat}{f g:Nat->Int}(h:∀ k,k < n->f k<=g k):SS n f<=SS n g:=by
 induction n with
 | zero=>exact yE _
 | succ n ih=>
  rw [qr,qr];have:=ih λk hk=>h k (by omega);have:=h n (by omega);omega
theorem fG {n:Nat}{f g:Nat->Int}(h:∀ k,k < n->f k=g k):SS n f=SS n g:=by
 have a:=fF (n:=n) (f:=f) (g:=g) λk hk=>by rw [h k hk];exact yE _
 have b:=fF (n:=n) (f:=g) (g:=f) λk hk=>by rw [h k hk];exact yE _
 omega
theorem gK (n:Nat):SS n (λ_=>0)=0:=by
 induction n with
 | zero=>rfl
 | succ n ih=>rw [qr,ih];rfl
theorem pI {n:Nat}{f:Nat->Int}(h:∀ k,k < n->0<=f k):0<=SS n f:=by have:=fF (n:=n) (f:=λ_=>0) (g:=f) h;rwa [gK] at this
theorem vH {n:Nat}{f:Nat->Int}{j:Nat}{x:Int}(h:j < n):SS n (λk=>if k=j then x else f k) + f j=SS n f + x:=by
 induction n with
 | zero=>omega
 | succ n ih=>
  rw [qr,qr];by_cases e:j=n
  ·subst e;rw [if_pos rfl,fG (f:=λk=>if k=j then x else f k) (g:=f) λk hk=>by rw [if_neg (by omega)]];omega
  ·have:=ih (by omega);rw [if_neg (by omega:¬ n=j)];omega
theorem UN {n:Nat}{f g:Nat->Int}{i j:Nat}(hi:i < n)(hj:j < n)(ne:i≠j)(h:∀ k,k < n->k≠i->k≠j->f k<=g k):SS n f + g i + g j<=SS n g + f i + f j:=by
 have a:=vH (n:=n) (f:=g) (x:=f i) hi;have b:=vH (n:=n) (f:=λk=>if k=i then f i else g k) (x:=f j) hj;rw [if_neg (Ne.symm ne)] at b;have c:=fF (n:=n) (f:=f) (g:=λk=>if k=j then f j else if k=i then f i else g k) λk hk=>by
  by_cases e1:k=j
  ·rw [if_pos e1,e1];exact yE _
  ·rw [if_neg e1];by_cases e2:k=i
   ·rw [if_pos e2,e2];exact yE _
   ·rw [if_neg e2];exact h k hk e2 e1
 omega
theorem UO {n:Nat}{j:Nat}{x:Int}(h:j < n):SS n (λk=>if k=j then x else 0)=x:=by have:=vH (n:=n) (f:=λ_=>0) (x:=x) h;rw [gK] at this;omega
theorem pJ {n:Nat}{α:Type}(f:α->Nat->Int):∀ (xs:List α),SS n (λk=>(xs.map λx=>f x k).sum)=(xs.map λx=>SS n (f x)).sum
 | []=>gK n
 | x::xs=>by
  rw [zY,yB,<- pJ f xs,<- fB];exact fG λk _=>by rw [zY,yB]
def nX (ss:List S3)(k:Nat):Int:=(ss.map (·.w)).getD k 0
theorem oJ:∀ {ss:List S3}{ns:List Int}{w:Int},ns.length=ss.length->bI ss ns w=SS ss.length λk=>if nX ss k=w then aF ns k else 0
 | [],[],_,_=>rfl
 | s::ss,x::ns,w,h=>by
  have ih:=oJ (ss:=ss) (ns:=ns) (w:=w) (by simpa using h);rw [zk,gM];unfold bI at ih ⊢;rw [ym];show _=(if s.w=w then x else 0) + SS ss.length λk=>if nX ss k=w then aF ns k else 0;by_cases e:s.w=w
  ·rw [yV (by rw [decide_eq_true e]),zY,yB,ih,if_pos e]
  ·rw [yU (by rw [decide_eq_false e];decide),ih,if_neg e,zq]
def aG (gs:List Bool)(b:Bool)(f:Nat->Int)(k:Nat):Int:=if gs.getD k (!b)=b then f k else 0
theorem sf:∀ {ls:List S3}{gs:List Bool},gs.length=ls.length->oN ls gs=SS ls.length (aG gs false (aF (ls.map (·.m))))
 | [],[],_=>rfl
 | s::ss,x::ns,h=>by
  have ih:=sf (ls:=ss) (gs:=ns) (by simpa using h);rw [zk,gM];unfold oN at ih ⊢;rw [ym];show _=(if x=false then s.m else 0) + SS ss.length (aG ns false (aF (ss.map (·.m))));cases x with
  | false=>rw [yV (by rfl),zY,yB,ih,if_pos rfl]
  | true=>rw [yU (by exact zQ),ih,if_neg (by decide),zq]
theorem vO:∀ {ls:List S3}{gs:List Bool},gs.length=ls.length->vP ls gs=SS ls.length (aG gs true (aF (ls.map (·.m))))
 | [],[],_=>rfl
 | s::ss,x::ns,h=>by
  have ih:=vO (ls:=ss) (gs:=ns) (by simpa using h);rw [zk,gM];unfold vP at ih ⊢;rw [ym];show _=(if x=true then s.m else 0) + SS ss.length (aG ns true (aF (ss.map (·.m))));cases x with
  | true=>rw [yV (by rfl),zY,yB,ih,if_pos rfl]
  | false=>rw [yU (by exact zQ),ih,if_neg (by decide),zq]
theorem ir {gs:List Bool}{b:Bool}{f g:Nat->Int}{k:Nat}:aG gs b (λk=>f k + g k) k=aG gs b f k + aG gs b g k:=by
 unfold aG;by_cases h:gs.getD k (!b)=b
 ·rw [if_pos h,if_pos h,if_pos h]
 ·rw [if_neg h,if_neg h,if_neg h];rfl
theorem uF {gs:List Bool}{f:Nat->Int}{k:Nat}(h:k < gs.length):f k=aG gs true f k + aG gs false f k:=by unfold aG;rw [zG,zG,zC h];show f k=(if gs[k]=true then f k else 0) + (if gs[k]=false then f k else 0);cases gs[k] <;> simp
theorem ng {gs:List Bool}{b:Bool}{f g:Nat->Int}{k:Nat}(h:f k<=g k):aG gs b f k<=aG gs b g k:=by unfold aG;split <;> omega
theorem gA {gs:List Bool}{b:Bool}{f:Nat->Int}{k:Nat}(h:gs[k]?=some b):aG gs b f k=f k:=by unfold aG;rw [getD_at h,if_pos rfl]
theorem ig {gs:List Bool}{b:Bool}{f:Nat->Int}{k:Nat}(h:gs[k]?=some (!b)):aG gs b f k=0:=by unfold aG;rw [getD_at h,if_neg (by cases b <;> decide)]
theorem jk:∀ {af r:List Int},r.length=af.length->(eW af r).sum=SS af.length λw=>if r.getD w 0=1 then af.getD w 0 else 0
 | [],[],_=>rfl
 | x::af,y::r,h=>by
  have ih:=jk (af:=af) (r:=r) (by simpa using h);rw [zk,gM];unfold eW at ih ⊢;rw [ym];show _=(if y=1 then x else 0) + SS af.length λw=>if r.getD w 0=1 then af.getD w 0 else 0;by_cases e:y=1
  ·rw [yV (by rw [decide_eq_true e]),zY,yB,ih,if_pos e]
  ·rw [yU (by rw [decide_eq_false e];decide),ih,if_neg e,zq]
section
variable {af:List Int}{ms:List M4}{ls ws:List S3}{gs ts:List Bool}{rs:List (List Int)}
structure tY (af:List Int) (ms:List M4) (ls ws:List S3) (gs ts:List Bool) (rs:List (List Int)):Prop where
 d:bG (ms.length + 1) af.length rs
 op:gf ms ls gs rs (ms.length + 1) ls.length
 go:pL rs af.length ms.length
 td:mh ms ls ws gs ts rs ws.length
 lg:gs.length=ls.length
 lt:ts.length=ws.length
 gd:Good af.length ms
 r0:∀ y∈af,(0:Int)<=y
 lw:∀ l∈ls,0<=l.w
 ww:∀ l∈ws,0<=l.w
def kB (rs:List (List Int))(nr i:Nat)(bs:List Int):Int:=SS nr λw=>if bA (aH rs i w) then 0 else aF bs w
def nZ (rs:List (List Int))(nr i:Nat)(bs:List Int):Int:=SS nr λw=>if aO (aH rs i w) then 0 else aF bs w
theorem NR (c:tY af ms ls ws gs ts rs){i:Nat}(hi:i < ms.length + 1){bs:List Int}(b0:∀ w,0<=aF bs w)(br:∀ w,w < af.length->aF bs w<=aF af w):nZ rs af.length i bs<=kB rs af.length i bs + (eW af (rs.getD i [])).sum:=by
 rw [jk (c.d.row hi).1];unfold nZ kB;rw [<-fB];refine fF λw hw=>?_;have m3:=c.d.Wr hi hw;have h0:=b0 w;have h1:=br w hw;have r0:0<=aF af w:=c.r0 _ (qP hw);show (if aO (aH rs i w) then 0 else aF bs w)<=(if bA (aH rs i w) then 0 else aF bs w) + (if aH rs i w=1 then aF af w else 0);have:aH rs i w=0\/aH rs i w=1\/aH rs i w=2\/aH rs i w=3:=by omega
 unfold aO bA;rcases this with e | e | e | e <;> rw [e] <;> simp <;> omega
theorem nW {ss:List S3}{k:Nat}{s:S3}(h:ss[k]?=some s):nX ss k=s.w:=by unfold nX;exact getD_at (by rw [zF,h];rfl)
theorem N4 {r:M4}{bad:S3->Bool}{ss:List S3}{ns:List Int}(h:(ss.zip ns).all (d9 r bad)=true){k:Nat}{s:S3}(hs:ss[k]?=some s)(l:ns.length=ss.length)(pos:0 < aF ns k):(s.w=r.lo\/s.w=r.hi)/\bad s=false:=by have hk:=(zH.mp hs).1;have z:=zc.mp h (s,aF ns k) (zB (qe hs (qF (by omega))));unfold d9 at z;rw [decide_eq_true (show aF ns k > 0 from pos),zZ,Bool.not_eq_true',Bool.or_eq_false_iff,Bool.not_eq_false',Bool.or_eq_true,decide_eq_true_eq,decide_eq_true_eq] at z;exact z
theorem Oe {m:Int}(h:bA m=true):m % 2=1:=by unfold bA at h;rw [Bool.or_eq_true,decide_eq_true_eq,decide_eq_true_eq] at h;rcases h with rfl | rfl <;> decide
theorem eX {gs:List Bool}{b:Bool}{f:Nat->Int}{k:Nat}(h:0<=f k):0<=aG gs b f k:=by unfold aG;split <;> omega
theorem Sx (c:tY af ms ls ws gs ts rs){i:Nat}{r:M4}(hi:ms[i]?=some r){x:R4}(ok:x.ok ls.length ws.length)(hw:bH r ls ws x=true){bs cs:List Int}(hb:bJ bs r ls ws x=some cs)(lb:bs.length=af.length)(b0:∀ w,0<=aF bs w) :
  cs.length=af.length/\(∀ w,0<=aF cs w)/\SS ws.length (aG ts false (aF x.cm)) + kB rs af.length (i + 1) cs<=nZ rs af.length i bs + SS ls.length (aG gs false (aF x.bg)) + if jn rs i r.lo.toNat r.hi.toNat then r.m else 0:=by
 have il:=(zH.mp hi).1;obtain ⟨a1,a2,a3,_⟩:=c.gd.each r (zB hi);have ord:ms.Pairwise λa b=>a.t<=b.t:=c.gd.order.imp λh=>by rcases h with h | h <;> omega
 unfold bH at hw;rw [zb,zb,decide_eq_true_eq] at hw;obtain ⟨⟨hl,RK⟩,hm⟩:=hw;have bg0:∀ k,0<=aF x.bg k:=λk=>by
  by_cases h:k < x.bg.length
  ·exact ok.b0 _ (qP h)
  ·unfold aF;rw [zG,yR (by omega)];exact yE _
 have cm0:∀ k,0<=aF x.cm k:=λk=>by
  by_cases h:k < x.cm.length
  ·exact ok.c0 _ (qP h)
  ·unfold aF;rw [zG,yR (by omega)];exact yE _
 obtain ⟨LF,hLF⟩:∃ LF:Int->Int,LF=λa=>SS ls.length λk=>if nX ls k=a then aG gs false (aF x.bg) k else 0:=⟨_,rfl⟩;obtain ⟨WF,hWF⟩:∃ WF:Int->Int,WF=λa=>SS ws.length λk=>if nX ws k=a then aG ts false (aF x.cm) k else 0:=⟨_,rfl⟩;have p1:LF r.lo + LF r.hi<=SS ls.length (aG gs false (aF x.bg)):=by
  rw [hLF];dsimp only;rw [<-fB];refine fF λk hk=>?_;have:=eX (gs:=gs) (b:=false) (bg0 k);by_cases e1:nX ls k=r.lo
  ·rw [if_pos e1,if_neg (by omega)];omega
  ·rw [if_neg e1];split <;> omega
 have p2:∀ a,aO (aH rs i a.toNat)=false->bI ls x.bg a<=LF a:=λa ha=>by
  rw [oJ ok.bl,hLF];refine fF λk hk=>?_;by_cases e:nX ls k=a
  ·rw [if_pos e,if_pos e];obtain ⟨l,t7⟩:∃ l,ls[k]?=some l:=⟨_,zC hk⟩;obtain ⟨g,hg⟩:∃ g,gs[k]?=some g:=⟨_,zC (by rw [c.lg];exact hk)⟩;cases g with
   | false=>rw [gA hg];exact yE _
   | true=>
    rw [ig hg];refine Int.not_lt.mp λpos=>?_;obtain ⟨_,t1⟩:=N4 hl t7 ok.bl pos;have t1:¬ r.t<=l.t:=of_decide_eq_false t1;have z:=c.op k hk l t7 hg i (Nat.not_lt.mp λh=>t1 ((vq ord hi).mp h)) (by omega);rw [nW t7] at e;rw [e] at z;unfold aO at ha;rw [decide_eq_true z] at ha;cases ha
  ·rw [if_neg e,if_neg e];exact yE _
 have p3:SS ws.length (aG ts false (aF x.cm))<=WF r.lo + WF r.hi:=by
  rw [hWF];dsimp only;rw [<-fB];refine fF λk hk=>?_;have q:=eX (gs:=ts) (b:=false) (cm0 k);obtain ⟨l,t7⟩:∃ l,ws[k]?=some l:=⟨_,zC hk⟩;by_cases pos:0 < aF x.cm k
  ·obtain ⟨e,_⟩:=N4 RK t7 ok.cl pos;rw [nW t7];rcases e with e | e
   ·rw [if_pos e];split <;> omega
   ·rw [if_pos e];split <;> omega
  ·have:aG ts false (aF x.cm) k<=0:=by unfold aG;split <;> omega
   split <;> split <;> omega
 have p4:∀ a,WF a<=bI ws x.cm a:=λa=>by
  rw [oJ ok.cl,hWF];refine fF λk hk=>?_;have:=cm0 k;have:aG ts false (aF x.cm) k<=aF x.cm k:=by unfold aG;split <;> omega
  split <;> omega
 have p5:∀ a,bA (aH rs (i + 1) a.toNat)=true->WF a<=0:=λa ha=>by
  rw [hWF];refine Int.le_trans (fF (g:=λ_=>0) λk hk=>?_) (Int.le_of_eq (gK ws.length));by_cases e:nX ws k=a
  ·rw [if_pos e];obtain ⟨l,t7⟩:∃ l,ws[k]?=some l:=⟨_,zC hk⟩;obtain ⟨g,hg⟩:∃ g,ts[k]?=some g:=⟨_,zC (by rw [c.lt];exact hk)⟩;cases g with
   | true=>rw [ig hg];exact yE _
   | false=>
    rw [gA hg];refine Int.not_lt.mp λpos=>?_;obtain ⟨_,t1⟩:=N4 RK t7 ok.cl pos;have t1:¬ l.t < r.t:=of_decide_eq_false t1;have z:=(c.td k hk l t7 hg).1;rw [nW t7] at e;have y:=(tK (ms:=ms) (rs:=rs) (w:=l)).mpr ⟨i,(vq ord hi).mpr (by omega),by rw [c.d.len];omega,by rw [e];exact Oe ha⟩;rw [z] at y;cases y
  ·rw [if_neg e];exact yE _
 have q2l:=p2 r.lo;have q2h:=p2 r.hi;have q4l:=p4 r.lo;have q4h:=p4 r.hi;have q5l:=p5 r.lo;have q5h:=p5 r.hi;have ofp:∀ a,0<=bI ls x.bg a:=λa=>by
  rw [oJ ok.bl];exact pI λk _=>by have:=bg0 k;split <;> omega
 have q6l:=ofp r.lo;have q6h:=ofp r.hi;have lfp:∀ a,0<=LF a:=λa=>by
  rw [hLF];exact pI λk _=>by have:=eX (gs:=gs) (b:=false) (bg0 k);split <;> omega
 have q7l:=lfp r.lo;have q7h:=lfp r.hi;clear p2 p4 p5 ofp lfp;have Vp:∀ w,w < af.length->aO (aH rs i w)=true->bA (aH rs (i + 1) w)=true:=λw hw h=>by
  have m3:=c.d.Wr (k:=i + 1) (w:=w) (by omega) hw;rw [<-iP m3.1 m3.2];exact decide_eq_true (c.go i il w hw (of_decide_eq_true h))
 unfold bJ at hb;split at hb
 case isFalse=>cases hb
 rename_i hg;rw [zb] at hg;obtain ⟨h1,h2⟩:=hg;unfold bO at h1 h2;simp only [zb,decide_eq_true_eq] at h1 h2;have e1:aT bs r.lo=aF bs r.lo.toNat:=rfl;have e2:aT bs r.hi=aF bs r.hi.toNat:=rfl;rw [e1] at h1 hb;rw [e2] at h2 hb;cases hb;generalize bI ls x.bg r.lo=Ll at *;generalize bI ls x.bg r.hi=Lh at *;generalize bI ws x.cm r.lo=Wl at *;generalize bI ws x.cm r.hi=Wh at *;have nlh:r.lo.toNat≠r.hi.toNat:=by omega
 have ll:r.lo.toNat < af.length:=by omega
 have lh:r.hi.toNat < af.length:=by omega
 have vl:aF ((bs.set r.lo.toNat (aF bs r.lo.toNat + (x.bk - Wl - (x.th - Ll)))).set r.hi.toNat (aF bs r.hi.toNat + (x.th - Wh - (x.bk - Lh)))) r.lo.toNat=aF bs r.lo.toNat + (x.bk - Wl - (x.th - Ll)):=by
  rw [cH nlh.symm,gF (by omega)]
 have vh:aF ((bs.set r.lo.toNat (aF bs r.lo.toNat + (x.bk - Wl - (x.th - Ll)))).set r.hi.toNat (aF bs r.hi.toNat + (x.th - Wh - (x.bk - Lh)))) r.hi.toNat=aF bs r.hi.toNat + (x.th - Wh - (x.bk - Lh)):=by
  rw [gF (by rw [zt];omega)]
 have vo:∀ w,w≠r.lo.toNat->w≠r.hi.toNat->aF ((bs.set r.lo.toNat (aF bs r.lo.toNat + (x.bk - Wl - (x.th - Ll)))).set r.hi.toNat (aF bs r.hi.toNat + (x.th - Wh - (x.bk - Lh)))) w=aF bs w:=λw h1 h2=>by
  rw [cH h2.symm,cH h1.symm]
 have lc:((bs.set r.lo.toNat (aF bs r.lo.toNat + (x.bk - Wl - (x.th - Ll)))).set r.hi.toNat (aF bs r.hi.toNat + (x.th - Wh - (x.bk - Lh)))).length=af.length:=by rw [zt,zt,lb]
 generalize (bs.set r.lo.toNat (aF bs r.lo.toNat + (x.bk - Wl - (x.th - Ll)))).set r.hi.toNat (aF bs r.hi.toNat + (x.th - Wh - (x.bk - Lh)))=cs at *;have bl:=b0 r.lo.toNat;have bh:=b0 r.hi.toNat;refine ⟨lc,λw=>?_,?_⟩
 ·by_cases e1:w=r.lo.toNat
  ·rw [e1,vl];omega
  ·by_cases e2:w=r.hi.toNat
   ·rw [e2,vh];omega
   ·rw [vo w e1 e2];exact b0 w
 have t:=UN (n:=af.length) (f:=λw=>if bA (aH rs (i + 1) w) then 0 else aF cs w) (g:=λw=>if aO (aH rs i w) then 0 else aF bs w) ll lh nlh λw hw h1 h2=>by
  have z:=b0 w;cases e:bA (aH rs (i + 1) w) with
  | true=>show (0:Int)<=_;split <;> omega
  | false=>
   have:aO (aH rs i w)=false:=Bool.eq_false_iff.mpr λh=>by rw [Vp w hw h] at e;cases e
   rw [this,vo w h1 h2];exact yE _
 have gl:=Vp _ ll;have gh:=Vp _ lh;unfold kB nZ jn;generalize SS af.length (λw=>if bA (aH rs (i + 1) w) then 0 else aF cs w)=TI at *;generalize SS af.length (λw=>if aO (aH rs i w) then 0 else aF bs w)=TO at *;rw [vl,vh] at t;generalize WF r.lo=wl at *;generalize WF r.hi=wh at *;generalize LF r.lo=fl at *;generalize LF r.hi=fh at *;have q2l:aO (aH rs i r.lo.toNat)=true\/Ll<=fl:=by
  cases h:aO (aH rs i r.lo.toNat) with
  | true=>exact .inl rfl
  | false=>exact .inr (q2l h)
 have q2h:aO (aH rs i r.hi.toNat)=true\/Lh<=fh:=by
  cases h:aO (aH rs i r.hi.toNat) with
  | true=>exact .inl rfl
  | false=>exact .inr (q2h h)
 have q5l:bA (aH rs (i + 1) r.lo.toNat)=false\/wl<=0:=by
  cases h:bA (aH rs (i + 1) r.lo.toNat) with
  | false=>exact .inl rfl
  | true=>exact .inr (q5l h)
 have q5h:bA (aH rs (i + 1) r.hi.toNat)=false\/wh<=0:=by
  cases h:bA (aH rs (i + 1) r.hi.toNat) with
  | false=>exact .inl rfl
  | true=>exact .inr (q5h h)
 have gl:aO (aH rs i r.lo.toNat)=false\/bA (aH rs (i + 1) r.lo.toNat)=true:=by
  cases h:aO (aH rs i r.lo.toNat) with
  | false=>exact .inl rfl
  | true=>exact .inr (gl h)
 have gh:aO (aH rs i r.hi.toNat)=false\/bA (aH rs (i + 1) r.hi.toNat)=true:=by
  cases h:aO (aH rs i r.hi.toNat) with
  | false=>exact .inl rfl
  | true=>exact .inr (gh h)
 cases i1:bA (aH rs (i + 1) r.lo.toNat) <;> cases i2:bA (aH rs (i + 1) r.hi.toNat) <;> cases o1:aO (aH rs i r.lo.toNat) <;> cases o2:aO (aH rs i r.hi.toNat) <;> simp only [i1,i2,o1,o2,↓reduceIte,xW,yy,Bool.and_true,xP,zZ,yo,Bool.or_false,Bool.or_true,Bool.false_or,Bool.true_or,zg,Bool.true_eq_false,or_true,true_or,false_or,or_false] at q2l q2h q5l q5h gl gh t ⊢ <;> omega
def f9 (af:List Int)(ms:List M4)(rs:List (List Int))(i:Nat):Int:=(eW af (rs.getD i [])).sum + match ms[i]? with
 | some r=>if jn rs i r.lo.toNat r.hi.toNat then r.m else 0
 | none=>0
theorem OL (c:tY af ms ls ws gs ts rs):∀ (zs:List (M4×R4)) (i:Nat) (bs:List Int),(∀ (j:Nat) z,zs[j]?=some z->ms[i + j]?=some z.1)->(∀ z∈zs,z.2.ok ls.length ws.length)->dH af ls ws zs bs=true->bs.length=af.length->(∀ w,0<=aF bs w)->(∀ w,w < af.length->aF bs w<=aF af w) ->
  (zs.map λz=>SS ws.length (aG ts false (aF z.2.cm))).sum<=kB rs af.length i bs + (zs.map λz=>SS ls.length (aG gs false (aF z.2.bg))).sum + SS zs.length λj=>f9 af ms rs (i + j)
 | [],i,bs,_,_,_,_,b0,_=>by
  have:0<=kB rs af.length i bs:=pI λw _=>by have:=b0 w;split <;> omega
  show (0:Int)<=_ + 0 + 0;omega
 | (r,x)::zs,i,bs,hm,ok,kp,lb,b0,br=>by
  have hi:=hm 0 (r,x) rfl;rw [Nat.add_zero] at hi;unfold dH at kp;rw [zb] at kp;obtain ⟨hw,kp⟩:=kp;cases hb:bJ bs r ls ws x with
  | none=>rw [hb] at kp;cases kp
  | some cs=>
   rw [hb] at kp;dsimp only at kp;rw [zb] at kp;obtain ⟨le,kp⟩:=kp;have ok0:x.ok ls.length ws.length:=ok (r,x) (za ..);obtain ⟨lc,c0,st⟩:=Sx c (r:=r) (x:=x) hi ok0 hw hb lb b0;have il:=(zH.mp hi).1;have oi:=NR c (i:=i) (by omega) b0 br;have ih:=OL c zs (i + 1) cs (λj z hz=>by
    have:=hm (j + 1) z (by rw [yq];exact hz);rwa [show i + 1 + j=i + (j + 1) by omega]) (λz hz=>ok z (zU _ hz)) kp lc c0 λw hw=>by
     have:=zc.mp le (aF cs w,aF af w) (zB (qe (qF (by omega)) (qF hw)));exact of_decide_eq_true this
   have cp:f9 af ms rs i=(eW af (rs.getD i [])).sum + if jn rs i r.lo.toNat r.hi.toNat then r.m else 0:=by unfold f9;rw [hi]
   have hd:SS (zs.length + 1) (λj=>f9 af ms rs (i + j))=f9 af ms rs i + SS zs.length (λj=>f9 af ms rs (i + 1 + j)):=by
    rw [gM];exact congrArg (f9 af ms rs i + ·) (fG λk _=>by rw [show i + (k + 1)=i + 1 + k by omega])
   rw [zY,yB,zY,yB,zk,hd,cp];show SS ws.length (aG ts false (aF x.cm)) + _<=_ + (SS ls.length (aG gs false (aF x.bg)) + _) + _;omega
theorem OV (c:tY af ms ls ws gs ts rs):∀ n,n<=ms.length->SS n (f9 af ms rs)=(dJ af (rs.take n)).sum + lC ms rs n
 | 0,_=>by rw [List.take_zero];rfl
 | n + 1,h=>by
  obtain ⟨r,hr⟩:∃ r,ms[n]?=some r:=⟨_,zC (by omega)⟩;obtain ⟨q,hq⟩:∃ q,rs[n]?=some q:=⟨_,zC (by rw [c.d.len];omega)⟩;obtain ⟨a1,a2,a3,_⟩:=c.gd.each r (zB hr);have Vp:∀ w,w < af.length->aO (aH rs n w)=true->bA (aH rs (n + 1) w)=true:=λw hw h=>by
   have m3:=c.d.Wr (k:=n + 1) (w:=w) (by omega) hw;rw [<-iP m3.1 m3.2];exact decide_eq_true (c.go n (by omega) w hw (of_decide_eq_true h))
  rw [qr,OV c n (by omega),iA hq,zu,r9 hr (Vp _ (by omega)) (Vp _ (by omega))];unfold f9;rw [hr,getD_at hq];dsimp only;omega
theorem ie {gs:List Bool}{b:Bool}{α:Type}{f:α->Nat->Int}{k:Nat}:∀ xs:List α,aG gs b (λk=>(xs.map λx=>f x k).sum) k=(xs.map λx=>aG gs b (f x) k).sum
 | []=>by unfold aG;split <;> rfl
 | x::xs=>by
  rw [zY,yB,<- ie xs];unfold aG;split
  ·show ((x::xs).map λx=>f x k).sum=f x k + (xs.map λx=>f x k).sum;rw [zY,yB]
  ·rfl
theorem kE {α:Type}{f g:α->Int}:∀ {xs:List α},(∀ x∈xs,f x<=g x)->(xs.map f).sum<=(xs.map g).sum
 | [],_=>yE _
 | x::xs,h=>by
  rw [zY,yB,zY,yB];have:=h x (za ..);have:=kE (xs:=xs) λy hy=>h y (zU _ hy);omega
theorem oq {f:T3->Int}{t:T3}{us:List T3}{k:Nat}:aL f (t::us) k=(if (f t).toNat=k/\0<=f t then t.m else 0) + aL f us k:=by
 unfold aL;by_cases e:f t=(k:Int)
 ·rw [yV (by rw [decide_eq_true e]),zY,yB,if_pos (by omega)]
 ·rw [yU (by rw [decide_eq_false e];decide),if_neg (by omega),zq]
theorem pG {bs:List Bool}{f:T3->Int}{n:Nat}:∀ {us:List T3},(∀ t∈us,0<=f t/\f t < n)->SS n (aG bs false (aL f us))=(us.map λt=>aG bs false (λ_=>t.m) (f t).toNat).sum
 | [],_=>by
  refine (fG λk _=>?_).trans (gK n);unfold aG;split <;> rfl
 | t::us,h=>by
  have ih:=pG (bs:=bs) (us:=us) λu hu=>h u (zU _ hu);obtain ⟨t0,t1⟩:=h t (za ..);rw [zY,yB,<- ih,<- UO (n:=n) (j:=(f t).toNat) (x:=aG bs false (λ_=>t.m) (f t).toNat) (by omega),<- fB];refine fG λk _=>?_;rw [show aG bs false (aL f (t::us)) k=aG bs false (λk=>(if (f t).toNat=k/\0<=f t then t.m else 0) + aL f us k) k by unfold aG;rw [oq],ir];congr 1;by_cases e:k=(f t).toNat
  ·rw [if_pos e];show (if bs.getD k (!false)=false then (if (f t).toNat=k/\0<=f t then t.m else 0) else 0)=(if bs.getD (f t).toNat (!false)=false then t.m else 0);rw [if_pos (⟨e.symm,t0⟩:(f t).toNat=k/\0<=f t),e]
  ·rw [if_neg e];show (if bs.getD k (!false)=false then (if (f t).toNat=k/\0<=f t then t.m else 0) else 0)=0;rw [if_neg (c:=(f t).toNat=k/\0<=f t) (λz=>e z.1.symm)];split <;> rfl
theorem UE (c:tY af ms ls ws gs ts rs){xs:List R4}{tt:List T3}{fj:List Int}(pg:dj af ms ls ws xs tt fj)(lx:xs.length=ms.length)(ok:∀ x∈xs,x.ok ls.length ws.length):(ws.map (·.m)).sum - fj.sum<=nV af ms ls ws gs ts rs:=by
 have e1:(ws.map (·.m)).sum=SS ws.length (aF (ws.map (·.m))):=dX (zA _) λ_ _=>rfl;have e2:fj.sum=SS ws.length (aF fj):=dX pg.kl λ_ _=>rfl;have e3:SS ws.length (aF (ws.map (·.m)))=SS ws.length (λk=>((xs.map λx=>aF x.cm k).sum + aL (·.j) tt k) + aF fj k):=fG λk hk=>by have:=pg.Rb k hk;omega
 rw [fB] at e3;have k0:∀ k,k < ws.length->0<=aF fj k:=λk hk=>pg.k0 _ (qP (by rw [pg.kl];exact hk));have e4:SS ws.length (λk=>(xs.map λx=>aF x.cm k).sum + aL (·.j) tt k)=SS ws.length (aG ts true λk=>(xs.map λx=>aF x.cm k).sum + aL (·.j) tt k) + SS ws.length (aG ts false λk=>(xs.map λx=>aF x.cm k).sum + aL (·.j) tt k):=by
  rw [<-fB];exact fG λk hk=>uF (gs:=ts) (f:=λk=>(xs.map λx=>aF x.cm k).sum + aL (·.j) tt k) (by rw [c.lt];exact hk)
 have e5:SS ws.length (aG ts true λk=>(xs.map λx=>aF x.cm k).sum + aL (·.j) tt k)<=vP ws ts:=by
  rw [vO c.lt];exact fF λk hk=>ng (by have:=pg.Rb k hk;have:=k0 k hk;omega)
 have e6:SS ws.length (aG ts false λk=>(xs.map λx=>aF x.cm k).sum + aL (·.j) tt k)=SS ws.length (aG ts false λk=>(xs.map λx=>aF x.cm k).sum) + SS ws.length (aG ts false (aL (·.j) tt)):=by
  rw [<-fB];exact fG λk _=>ir
 have e7:SS ws.length (aG ts false λk=>(xs.map λx=>aF x.cm k).sum)=(xs.map λx=>SS ws.length (aG ts false (aF x.cm))).sum:=by
  rw [<-pJ];exact fG λk _=>ie xs
 have e8:SS ls.length (aG gs false λk=>(xs.map λx=>aF x.bg k).sum)=(xs.map λx=>SS ls.length (aG gs false (aF x.bg))).sum:=by
  rw [<-pJ];exact fG λk _=>ie xs
 have zm:∀ F:R4->Int,((ms.zip xs).map λz=>F z.2).sum=(xs.map F).sum:=λF=>by
  have:(ms.zip xs).map (λz=>F z.2)=((ms.zip xs).map Prod.snd).map F:=by rw [zp];rfl
  rw [this,List.map_snd_zip (by omega)]
 have zl:(ms.zip xs).length=ms.length:=by rw [yg,lx];exact xU _
 have rep:∀ w,aF (List.replicate af.length (0:Int)) w=0:=λw=>by
  unfold aF;rw [zG,yT];split <;> rfl
 have fl:=OL c (ms.zip xs) 0 (List.replicate af.length 0) (λj z hz=>by rw [Nat.zero_add];exact (zz.mp hz).1) (λz hz=>ok z.2 (List.of_mem_zip hz).2) pg.kept (yb) (λw=>by rw [rep];exact yE _) (λw hw=>by rw [rep];exact c.r0 _ (qP hw));rw [zm λx=>SS ws.length (aG ts false (aF x.cm)),zm λx=>SS ls.length (aG gs false (aF x.bg)),zl] at fl;have t0:kB rs af.length 0 (List.replicate af.length 0)=0:=by
  refine (fG λw _=>?_).trans (gK af.length);rw [rep];split <;> rfl
 have cp:SS ms.length (λj=>f9 af ms rs (0 + j))=SS ms.length (f9 af ms rs):=fG λk _=>by rw [Nat.zero_add]
 rw [t0,cp,OV c ms.length (zI _)] at fl;have e9:SS ws.length (aG ts false (aL (·.j) tt))<=SS ls.length (aG gs false (aL (·.k) tt)):=by
  rw [pG λt ht=>(pg.ones t ht).j,pG λt ht=>(pg.ones t ht).k];refine kE λt ht=>?_;obtain ⟨⟨k1,k2⟩,⟨j1,j2⟩,m0⟩:=pg.ones t ht;obtain ⟨l,hl⟩:∃ l,ls[t.k.toNat]?=some l:=⟨_,zC (by omega)⟩;obtain ⟨w,hw⟩:∃ w,ws[t.j.toNat]?=some w:=⟨_,zC (by omega)⟩;obtain ⟨g,hg⟩:∃ g,gs[t.k.toNat]?=some g:=⟨_,zC (by rw [c.lg];omega)⟩;obtain ⟨h,hh⟩:∃ h,ts[t.j.toNat]?=some h:=⟨_,zC (by rw [c.lt];omega)⟩;have sb:=pg.str t ht;rw [ou hl hw] at sb;cases h with
  | true=>rw [ig hh];exact eX (Int.le_of_lt m0)
  | false=>
   cases g with
   | false=>rw [gA hh,gA hg];exact yE _
   | true=>
    have:=(c.td t.j.toNat (by omega) w hw hh).2 t.k.toNat l hl hg;rw [sb] at this;cases this
 have e10:SS ls.length (aG gs false λk=>(xs.map λx=>aF x.bg k).sum) + SS ls.length (aG gs false (aL (·.k) tt))<=oN ls gs:=by
  rw [sf c.lg,<- fB];refine fF λk hk=>?_;have:=ir (gs:=gs) (b:=false) (f:=λk=>(xs.map λx=>aF x.bg k).sum) (g:=aL (·.k) tt) (k:=k);rw [<-this];exact ng (pg.left k hk)
 have e11:(dJ af (rs.take ms.length)).sum<=(dJ af rs).sum:=by
  obtain ⟨q,hq⟩:∃ q,rs[ms.length]?=some q:=⟨_,zC (by rw [c.d.len];omega)⟩;have b:=iA (af:=af) hq;have lr:=c.d.len;rw [List.take_of_length_le (by omega)] at b;rw [b,zu,jk (c.d.rows q (zB hq)).1];have:=pI (n:=af.length) (f:=λw=>if q.getD w 0=1 then af.getD w 0 else 0) λw hw=>by
   have:0<=af.getD w 0:=c.r0 _ (qP hw);split <;> omega
  omega
 have e12:KP ms rs=lC ms rs ms.length:=rfl;unfold nV;omega
end
end Sm
namespace L2
open PySem
set_option genInjectivity false
set_option genSizeOf false
structure Bk (X:Cx) (b:List Stmt) where
 t:TS
 ps:pQ X b t
theorem bS {X:Cx}{b:List Stmt}{R:TS->Prop}(h:let Y:=X;∃ t,pQ Y b t/\R t):∃ t,pQ X b t/\R t:=h
theorem Bk.bl {X:Cx}{a:Stmt}{rest:List Stmt}(B:Bk X (a::rest)):tW X (a::rest) B.t:=OY B.ps
abbrev IV:=Nat->St->Hp->Prop
abbrev IC:=Nat->St->List V->Hp->Prop
def stP:Stmt:=.Pass ⟨0,0,0,0⟩
def nb (l:List Stmt)(i:Nat):List Stmt:=match l.getD i stP with
 | .If _ a _ _=>a
 | .For _ _ a _ _=>a
 | .While _ a _ _=>a
 | _=>[]
def ne (l:List Stmt)(i:Nat):List Stmt:=match l.getD i stP with
 | .If _ _ a _=>a
 | _=>[]
end L2
namespace Sm
open PySem L2
theorem aU:1002<=sizeLine:=by rw [sizeLine_eq];decide
end Sm


namespace L2
open PySem PySem.Spec PyProof.Rows
theorem aX {N P:List Str}{sc:Scope}(a:sc.kind=.function:=by rfl)(b:sc.isCoroutine=false:=by rfl)(c:sc.isGenerator=false:=by rfl)(d:N.Nodup:=by decide +kernel)(e:N.take P.length=P:=by rfl)(f:∀ x∈P,sc.names.lookup x=some .local∨sc.names.lookup x=some .cell:=by decide +kernel)(g:∀ y∈sc.names,y.2≠.free:=by decide +kernel):aC N P sc:=⟨a,b,c,d,e,f,g⟩
theorem bR {o:List Str}{c:List Nat}{N:List Str}{s p:Scope}(k:p.kind=.function:=by rfl)(a:∀ y∈p.names,y.2≠.cell:=by decide +kernel)(l:∀ y∈p.names,y.2=.local->p.names.lookup y.1=some .local:=by decide +kernel)(f:∀ y∈p.names,y.2=.free->s.names.lookup y.1=some .cell∨s.names.lookup y.1=some .free:=by decide +kernel)(g:∀ i∈c,i < N.length∧p.names.lookup ((N[i]?).getD Str.empty)=some .free:=by decide +kernel):ay o c N s p:=⟨k,a,l,f,g⟩
end L2
namespace Sm
open PySem L2
def top (i:Nat):Stmt:=PySem.Challenge.pw_satchelmeet_k39_whole_no_plan_beats_a_cu.main.body.getD i (.Pass ⟨0,0,0,0⟩)
abbrev qj:Stmt:=top 35
abbrev qw:Stmt:=top 36
abbrev DL:Stmt:=top 37
abbrev qk:Stmt:=top 38
abbrev qx:Stmt:=top 39
abbrev wJ:Stmt:=top 40
abbrev C3:Stmt:=top 41
abbrev qI:Stmt:=top 42
abbrev DK:Stmt:=top 43
abbrev EY:Stmt:=top 1
abbrev Ed:Stmt:=top 2
abbrev EZ:Stmt:=top 3
abbrev Dc:Stmt:=top 4
abbrev qQ:Stmt:=top 11
abbrev w6:Stmt:=top 12
abbrev wu:Stmt:=top 10
abbrev Du:Stmt:=top 14
abbrev wk:Stmt:=top 13
abbrev wS:Stmt:=top 16
abbrev Dq:Stmt:=top 18
abbrev qB:Stmt:=top 17
abbrev wd:Stmt:=top 15
abbrev Ec:Stmt:=top 19
abbrev ql:Stmt:=top 20
abbrev wo:Stmt:=top 9
abbrev wz:Stmt:=top 44
abbrev qJ:Stmt:=top 45
abbrev qg:Stmt:=top 46
abbrev wM:Stmt:=top 47
abbrev wQ:Stmt:=top 48
abbrev w4:Stmt:=top 49
abbrev Ey:Stmt:=top 6
abbrev FQ:Stmt:=top 7
abbrev Db:Stmt:=top 24
abbrev Dr:Stmt:=top 25
abbrev qE:Stmt:=top 23
abbrev FR:Stmt:=top 26
abbrev HX:Stmt:=top 27
abbrev qR:Stmt:=top 28
abbrev jA:Stmt:=top 29
abbrev qG:Stmt:=top 30
abbrev qh:Stmt:=top 31
abbrev Da:Stmt:=top 32
abbrev qS:Stmt:=top 33
abbrev qC:Stmt:=top 22
abbrev Ez:Stmt:=top 50
abbrev qm:Stmt:=top 51
abbrev wR:Stmt:=top 52
abbrev D5:Stmt:=top 53
set_option genInjectivity false
set_option genSizeOf false
structure Ad where
 Bf:Addr
 Ch:FuncData
 Br:Addr
 Cu:FuncData
 BM:Addr
 CT:FuncData
 Be:Addr
 Cg:FuncData
 Bs:Addr
 Cv:FuncData
 Aw:Addr
 AY:FuncData
 Bw:Addr
 CB:FuncData
 Bq:Addr
 Ct:FuncData
 Bc:Addr
 Ce:FuncData
 BJ:Addr
 CP:FuncData
 Bn:Addr
 Cq:FuncData
 BK:Addr
 CQ:FuncData
 Bb:Addr
 Cd:FuncData
 AB:Addr
 Bi:FuncData
 Ag:Addr
 Aq:FuncData
 Ar:Addr
 AU:FuncData
 AK:Addr
 BH:FuncData
 Aj:Addr
 AE:FuncData
 Af:Addr
 Ap:FuncData
 Bm:Addr
 Cp:FuncData
 AL:Addr
 BI:FuncData
 Au:Addr
 AW:FuncData
 C4:Addr
 DH:FuncData
 Al:Addr
 AN:FuncData
 AZ:Addr
 BZ:FuncData
 Bt:Addr
 Cw:FuncData
 Bd:Addr
 Cf:FuncData
 Bv:Addr
 Cz:FuncData
 BL:Addr
 CS:FuncData
 Av:Addr
 AX:FuncData
 Bu:Addr
 Cy:FuncData
 CD:Addr
 De:FuncData
 Ex:Addr
 Gf:FuncData
 Ba:Addr
 Cc:FuncData
 Bp:Addr
 Cs:FuncData
 AC:Addr
 Bj:FuncData
 CC:Addr
 Dd:FuncData
 Ds:Addr
 EA:FuncData
 Am:Addr
 AO:FuncData
 A8:Addr
 Ca:FuncData
 As:Addr
 AV:FuncData
 AD:Addr
 Bl:FuncData
 A9:Addr
 Cb:FuncData
 Ak:Addr
 AM:FuncData
 Bo:Addr
 Cr:FuncData
 CF:Addr
 Df:FuncData
 An:Addr
 AQ:FuncData
 BN:Addr
 CU:FuncData
 FJ:Addr
 HW:FuncData
structure Tx (K:PySem.W.Frag) (mg:Str->Option Value) (a:Ad):Prop where
 BG:aV K "_law_purse" "_law_purse" qj a.Bf a.Ch
 CJ:Binds K a.Ch ["_law_script", "_law_k"] []
 CG:mg "_law_purse" = some (.ref a.Bf)
 CI:zM K (.ref a.Bf)=true
 BT:aV K "_law_take" "_law_take" qw a.Br a.Cu
 Ae:Binds K a.Cu ["_law_purse_here", "_law_many"] []
 Ab:mg "_law_take" = some (.ref a.Br)
 Ac:zM K (.ref a.Br)=true
 Cn:aV K "_law_far" "_law_far" DL a.BM a.CT
 JV:Binds K a.CT ["_law_purse_here"] []
 JP:mg "_law_far" = some (.ref a.BM)
 JS:zM K (.ref a.BM)=true
 BF:aV K "_law_rooms" "_law_rooms" qk a.Be a.Cg
 IB:Binds K a.Cg ["_law_purse_here", "_law_walkers"] []
 Io:mg "_law_rooms" = some (.ref a.Be)
 Iw:zM K (.ref a.Be)=true
 BU:aV K "_law_step" "_law_step" qx a.Bs a.Cv
 Jr:Binds K a.Cv ["_law_purse_here"] []
 Jb:mg "_law_step" = some (.ref a.Bs)
 Jj:zM K (.ref a.Bs)=true
 AJ:aV K "_law_meetings" "_law_meetings" wJ a.Aw a.AY
 GV:Binds K a.AY ["_law_purse_here", "_law_walkers", "_law_most"] []
 GN:mg "_law_meetings" = some (.ref a.Aw)
 GR:zM K (.ref a.Aw)=true
 BY:aV K "_law_book" "_law_book" C3 a.Bw a.CB
 Ju:Binds K a.CB ["_law_purse_here", "_law_most_walkers", "_law_most_meetings"] []
 Je:mg "_law_book" = some (.ref a.Bw)
 Jm:zM K (.ref a.Bw)=true
 BS:aV K "_law_time" "_law_time" qI a.Bq a.Ct
 Jq:Binds K a.Ct ["_law_purse_here", "_law_book_here", "_law_later"] []
 Ja:mg "_law_time" = some (.ref a.Bq)
 Ji:zM K (.ref a.Bq)=true
 BD:aV K "_law_whole" "_law_whole" DK a.Bc a.Ce
 FG:Binds K a.Ce ["_law_thing"] []
 Fw:mg "_law_whole" = some (.ref a.Bc)
 FB:zM K (.ref a.Bc)=true
 Ck:aV K "is_whole" "is_whole" EY a.BJ a.CP
 Hl:Binds K a.CP ["thing"] []
 Hc:mg "is_whole" = some (.ref a.BJ)
 Hh:zM K (.ref a.BJ)=true
 BP:aV K "is_within" "is_within" Ed a.Bn a.Cq
 Ek:Binds K a.Cq ["thing", "least", "most"] []
 Ei:mg "is_within" = some (.ref a.Bn)
 Ej:zM K (.ref a.Bn)=true
 Cl:aV K "is_count" "is_count" EZ a.BK a.CQ
 DO:Binds K a.CQ ["thing"] []
 DM:mg "is_count" = some (.ref a.BK)
 DN:zM K (.ref a.BK)=true
 BC:aV K "are_counts" "are_counts" Dc a.Bb a.Cd
 FF:Binds K a.Cd ["thing", "size"] []
 Fv:mg "are_counts" = some (.ref a.Bb)
 FA:zM K (.ref a.Bb)=true
 AR:aV K "has_row_form" "has_row_form" qQ a.AB a.Bi
 Hm:Binds K a.Bi ["loads", "wants", "thing"] []
 Hd:mg "has_row_form" = some (.ref a.AB)
 Hi:zM K (.ref a.AB)=true
 Ai:aV K "has_straight_form" "has_straight_form" w6 a.Ag a.Aq
 EG:Binds K a.Aq ["loads", "wants", "thing"] []
 EC:mg "has_straight_form" = some (.ref a.Ag)
 EE:zM K (.ref a.Ag)=true
 AF:aV K "has_plan_form" "has_plan_form" wu a.Ar a.AU
 GS:Binds K a.AU ["book", "loads", "wants", "thing"] []
 GK:mg "has_plan_form" = some (.ref a.Ar)
 GO:zM K (.ref a.Ar)=true
 Bg:aV K "is_straight" "is_straight" Du a.AK a.BH
 EX:Binds K a.BH ["load", "want"] []
 EV:mg "is_straight" = some (.ref a.AK)
 EW:zM K (.ref a.AK)=true
 Ao:aV K "may_be_straight" "may_be_straight" wk a.Aj a.AE
 FD:Binds K a.AE ["loads", "wants", "straight"] []
 Ft:mg "may_be_straight" = some (.ref a.Aj)
 Fy:zM K (.ref a.Aj)=true
 Ah:aV K "is_within_meeting" "is_within_meeting" wS a.Af a.Ap
 EF:Binds K a.Ap ["meeting", "loads", "wants", "row"] []
 EB:mg "is_within_meeting" = some (.ref a.Af)
 ED:zM K (.ref a.Af)=true
 BO:aV K "of_walker" "of_walker" Dq a.Bm a.Cp
 GC:Binds K a.Cp ["parts", "numbers", "walker"] []
 Gy:mg "of_walker" = some (.ref a.Bm)
 GA:zM K (.ref a.Bm)=true
 Bh:aV K "bags_behind" "bags_behind" qB a.AL a.BI
 HJ:Binds K a.BI ["bags", "meeting", "loads", "wants", "row"] []
 HH:mg "bags_behind" = some (.ref a.AL)
 HI:zM K (.ref a.AL)=true
 AH:aV K "are_rows_kept" "are_rows_kept" wd a.Au a.AW
 GU:Binds K a.AW ["book", "loads", "wants", "rows"] []
 GM:mg "are_rows_kept" = some (.ref a.Au)
 GQ:zM K (.ref a.Au)=true
 Dk:aV K "totals" "totals" Ec a.C4 a.DH
 Jn:Binds K a.DH ["size", "rows", "straight"] []
 IY:mg "totals" = some (.ref a.C4)
 Jf:zM K (.ref a.C4)=true
 Ay:aV K "are_upto_manys" "are_upto_manys" ql a.Al a.AN
 DG:Binds K a.AN ["sums", "parts"] []
 DE:mg "are_upto_manys" = some (.ref a.Al)
 DF:zM K (.ref a.Al)=true
 By:aV K "plan_worth" "plan_worth" wo a.AZ a.BZ
 Ix:Binds K a.BZ ["book", "loads", "wants", "thing"] []
 Ij:mg "plan_worth" = some (.ref a.AZ)
 Ip:zM K (.ref a.AZ)=true
 BV:aV K "_law_sack" "_law_sack" wz a.Bt a.Cw
 Js:Binds K a.Cw ["_law_purse_here", "_law_book_here", "_law_walkers", "_law_later"] []
 Jc:mg "_law_sack" = some (.ref a.Bt)
 Jk:zM K (.ref a.Bt)=true
 BE:aV K "_law_sacks" "_law_sacks" qJ a.Bd a.Cf
 FH:Binds K a.Cf ["_law_script", "_law_book_here", "_law_head", "_law_first", "_law_later"] []
 Fx:mg "_law_sacks" = some (.ref a.Bd)
 FC:zM K (.ref a.Bd)=true
 BX:aV K "_law_goes" "_law_goes" qg a.Bv a.Cz
 GD:Binds K a.Cz ["_law_sacks_here", "_law_rests", "_law_walker", "_law_when", "_law_later"] []
 Gz:mg "_law_goes" = some (.ref a.Bv)
 GB:zM K (.ref a.Bv)=true
 Cm:aV K "_law_row" "_law_row" wM a.BL a.CS
 JU:Binds K a.CS ["_law_purse_here", "_law_rooms_here", "_law_meeting", "_law_loads", "_law_wants", "_law_state"] []
 JO:mg "_law_row" = some (.ref a.BL)
 JR:zM K (.ref a.BL)=true
 AI:aV K "_law_straight" "_law_straight" wQ a.Av a.AX
 D8:Binds K a.AX ["_law_purse_here", "_law_loads", "_law_wants", "_law_state"] []
 D6:mg "_law_straight" = some (.ref a.Av)
 D7:zM K (.ref a.Av)=true
 BW:aV K "_law_plan" "_law_plan" w4 a.Bu a.Cy
 Jt:Binds K a.Cy ["_law_script", "_law_head", "_law_book_here", "_law_loads", "_law_wants", "_law_first"] []
 Jd:mg "_law_plan" = some (.ref a.Bu)
 Jl:zM K (.ref a.Bu)=true
 CY:aV K "by_time" "by_time" Ey a.CD a.De
 HU:Binds K a.De ["book", "time"] []
 HP:mg "by_time" = some (.ref a.CD)
 HR:zM K (.ref a.CD)=true
 Fa:aV K "ways" "ways" FQ a.Ex a.Gf
 Kk:Binds K a.Gf ["book"] []
 Ki:mg "ways" = some (.ref a.Ex)
 Kj:zM K (.ref a.Ex)=true
 BB:aV K "are_truths" "are_truths" Db a.Ba a.Cc
 FE:Binds K a.Cc ["thing", "size"] []
 Fu:mg "are_truths" = some (.ref a.Ba)
 Fz:zM K (.ref a.Ba)=true
 BR:aV K "are_marks" "are_marks" Dr a.Bp a.Cs
 Jp:Binds K a.Cs ["thing", "size"] []
 I0:mg "are_marks" = some (.ref a.Bp)
 Jh:zM K (.ref a.Bp)=true
 AS:aV K "has_cut_form" "has_cut_form" qE a.AC a.Bj
 Hn:Binds K a.Bj ["book", "loads", "wants", "thing"] []
 He:mg "has_cut_form" = some (.ref a.AC)
 Hj:zM K (.ref a.AC)=true
 CW:aV K "is_open" "is_open" FR a.CC a.Dd
 F9:Binds K a.Dd ["mark"] []
 FY:mg "is_open" = some (.ref a.CC)
 F4:zM K (.ref a.CC)=true
 DZ:aV K "is_in" "is_in" HX a.Ds a.EA
 Iy:Binds K a.EA ["mark"] []
 Ik:mg "is_in" = some (.ref a.Ds)
 Iq:zM K (.ref a.Ds)=true
 Az:aV K "are_loads_open" "are_loads_open" qR a.Am a.AO
 Ga:Binds K a.AO ["book", "loads", "begun", "marks"] []
 FZ:mg "are_loads_open" = some (.ref a.Am)
 F5:zM K (.ref a.Am)=true
 Bz:aV K "goes_on_in" "goes_on_in" jA a.A8 a.Ca
 Iz:Binds K a.Ca ["book", "marks"] []
 Il:mg "goes_on_in" = some (.ref a.A8)
 Ir:zM K (.ref a.A8)=true
 AG:aV K "come_where_in" "come_where_in" qG a.As a.AV
 GT:Binds K a.AV ["book", "wants", "come", "marks"] []
 GL:mg "come_where_in" = some (.ref a.As)
 GP:zM K (.ref a.As)=true
 AT:aV K "come_at_once" "come_at_once" qh a.AD a.Bl
 Ho:Binds K a.Bl ["loads", "wants", "begun", "come"] []
 Hg:mg "come_at_once" = some (.ref a.AD)
 Hk:zM K (.ref a.AD)=true
 BA:aV K "bags_worth" "bags_worth" Da a.A9 a.Cb
 IA:Binds K a.Cb ["book", "marks"] []
 Im:mg "bags_worth" = some (.ref a.A9)
 Iv:zM K (.ref a.A9)=true
 Ax:aV K "meetings_worth" "meetings_worth" qS a.Ak a.AM
 F8:Binds K a.AM ["book", "marks"] []
 FX:mg "meetings_worth" = some (.ref a.Ak)
 F3:zM K (.ref a.Ak)=true
 BQ:aV K "cut_worth" "cut_worth" qC a.Bo a.Cr
 Jo:Binds K a.Cr ["book", "loads", "wants", "thing"] []
 IZ:mg "cut_worth" = some (.ref a.Bo)
 Jg:zM K (.ref a.Bo)=true
 CZ:aV K "_law_by" "_law_by" Ez a.CF a.Df
 HV:Binds K a.Df ["_law_book_here", "_law_time_here"] []
 HQ:mg "_law_by" = some (.ref a.CF)
 HS:zM K (.ref a.CF)=true
 AA:aV K "_law_in_behind" "_law_in_behind" qm a.An a.AQ
 Gb:Binds K a.AQ ["_law_book_here", "_law_want", "_law_marks"] []
 F1:mg "_law_in_behind" = some (.ref a.An)
 F6:zM K (.ref a.An)=true
 Co:aV K "_law_cut" "_law_cut" wR a.BN a.CU
 JW:Binds K a.CU ["_law_purse_here", "_law_book_here", "_law_loads", "_law_wants"] []
 JQ:mg "_law_cut" = some (.ref a.BN)
 JT:zM K (.ref a.BN)=true
 GG:aV K "law" "law" D5 a.FJ a.HW
 Kq:Binds K a.HW ["_law_script"] []
 Ko:mg "law" = some (.ref a.FJ)
 aes:zM K (.ref a.FJ)=true
 gX:mg "all" = none
 R1:mg "any" = none
 vD:mg "bool" = none
 tN:mg "enumerate" = none
 tM:mg "int" = none
 aI:mg "isinstance" = none
 aM:mg "len" = none
 iB:mg "list" = none
 R0:mg "max" = none
 nR:mg "min" = none
 bf:mg "range" = none
 XW:mg "set" = none
 O1:mg "sorted" = none
 l6:mg "sum" = none
 gH:mg "tuple" = none
 cN:mg "zip" = none
section
variable (P:Program) (w:World) {K:PySem.W.Frag}{mg:Str->Option Value} (base:Heap) {a:Ad}
theorem EU:aC ["_law_script", "_law_k", "_law_cell", "_law_left"] ["_law_script", "_law_k"] (ak qj):=L2.aX
theorem Dv (T:Tx K mg a):aQ P w K mg base ck 1 a.Bf a.Ch ["_law_script", "_law_k"] (Qa K):=by
 refine T.BG.ok EU (λvs H Q E h=>?_) (λbL A outer s H vs Q E hr h=>?_)
 ·obtain ⟨a,ns,k,rfl,_⟩:=h;rfl
 ·have nd:=EU.nd;have hu:=hr.units;obtain ⟨sa,ns,k,rfl,hS,hk,q⟩:=h;refine bS ?_;intro Y
  let B0:Bk Y ((aj qj).drop 5):=⟨_,(xi (wG (wB (wX (xf (xg (pv 3) (xg (wC dP (wC wO (wC wO (wC cY (pv 2) xh) (wC cY (pv 1) xh)) xh) xh) (xg xh xp rfl) rfl) rfl))))))⟩
  let B1:Bk Y ((aj qj).drop 3):=⟨_,(xi (wA (wN (wD gS (pv 2) xh (az _)) (xi (wG (xy (i:=3) nd rfl rfl (wC qY (KH nY xh) (pv 2))))) wE) (wA (wN (wD nj (pv 2) (wC jq xh xh) (az _)) (xi (wG (xy (i:=3) nd rfl rfl (pv 2)))) wE) B0.bl)))⟩
  let B2:Bk Y ((aj qj).drop 1):=⟨_,(xi (wA (wN (wD gS (pv 1) (xr (xw rfl) (by rfl) T.aM PySem.boot_len (xf (xg (pv 0) xp rfl))) (az _)) (xi (wG (xy (i:=2) nd rfl rfl (xx (xu rfl) (pv 0) (pv 1) (λ_ _=>rfl))))) wE) (wA (xy (i:=3) nd rfl rfl xh) B1.bl)))⟩
  refine ⟨_,(xi (wA (xy (i:=2) nd rfl rfl xh) B2.bl)),?_⟩;have c18:Pc 10 18:=⟨by decide,by decide,by decide⟩;have s3:3<=sizeLine:=by rw [sizeLine_eq];decide
  have fin:∀ (x y:Int) p,H p=none->Q (.ref p) (upd H p (.lst [.int x,.int y,.int 0])):=λx y p hp=>q p _ hp ⟨x,y,0,xj⟩ (xl hp);have c69:∀ x:Int,My x 69:=λx=>.inr ⟨by decide,by decide⟩;have ac7:∀ x:Int,My x 40503:=λx=>.inr ⟨by decide,by decide⟩;refine (zr rfl (zr rfl ⟨sa,zr rfl ⟨.inl hS,aJ rfl rfl (zr rfl (jv (fun σ H1=>∃ c:Int,σ=[some (.ref sa),some (.int k),some (.int c),none]/\H=H1) ?_ (λc k0=>?_) (λc=>⟨0,rfl,rfl⟩)))⟩⟩))
  ·rintro σ H1 ⟨c,rfl,rfl⟩;refine (zr rfl (aJ rfl rfl (zr rfl (jv (fun σ H1=>∃ d:Int,σ=[some (.ref sa),some (.int k),some (.int c),some (.int d)]/\H=H1) ?_ (λz k0=>?_) (λz=>⟨0,rfl,rfl⟩)))))
   ·rintro σ H1 ⟨d,rfl,rfl⟩;refine (zr rfl (aJ rfl rfl ⟨c18,aJ rfl rfl (zr rfl (jv (fun σ H1=>∃ d:Int,σ=[some (.ref sa),some (.int k),some (.int c),some (.int d)]/\H=H1) ?_ (λz k0=>(zr rfl (k0 _ _ ⟨c,rfl,rfl⟩))) (λz=>⟨d,rfl,rfl⟩)))⟩));rintro σ H1 ⟨d,rfl,rfl⟩;exact (zr rfl (zr rfl (aJ rfl rfl ⟨c69 _,zr rfl (aJ rfl rfl ⟨ac7 _,aJ rfl rfl (aJ rfl rfl (aJ rfl rfl ⟨(by show (0:Int) < 2147483647;decide),s3,fin _ _⟩))⟩)⟩)))
   ·exact (zr rfl (zr rfl (aJ rfl rfl (k0 _ _ (zr rfl rfl)))))
  ·have Xp:k < ns.length:=by
    have:=of_decide_eq_true c;rw [zA] at this;omega
   exact (zr rfl (zr rfl ⟨sa,_,aJ rfl rfl ⟨hS,wP (v:=V.int ns[k]) (by simp [Xp]),k0 _ _ (zr rfl rfl)⟩⟩))
theorem Fg:aC ["_law_purse_here", "_law_many", "_law_digit", "_law_mixed"] ["_law_purse_here", "_law_many"] (ak qw):=L2.aX
theorem we (T:Tx K mg a):aQ P w K mg base ck 1 a.Br a.Cu ["_law_purse_here", "_law_many"] (SA):=by
 refine T.BT.ok Fg (λvs H Q E h=>?_) (λbL A outer s H vs Q E hr h=>?_)
 ·obtain ⟨p,n,rfl,_⟩:=h;rfl
 ·have nd:=Fg.nd;have hu:=hr.units;obtain ⟨p,n,rfl,n0,n1,⟨x,y,z,hp⟩,q⟩:=h;refine bS ?_;intro Y
  let B0:Bk Y ((aj qw).drop 3):=⟨_,(xi (wA (xy (i:=3) nd rfl rfl (wC dP (wC wO (wC wO (wC cY (pv 3) (pv 3)) (wC cY (xx (xu rfl) (pv 0) xh (λ_ _=>rfl)) xh)) (xx (xu rfl) (pv 0) xh (λ_ _=>rfl))) xh)) (wG (wB (wC dP (wC cF (wC dP (wC cY (pv 3) xh) xh) xh) (pv 1))))))⟩
  let B1:Bk Y ((aj qw).drop 2):=⟨_,(xi (wA (xy (i:=3) nd rfl rfl (wC dP (wC cY (wC wO (xx (xu rfl) (pv 0) xh (λ_ _=>rfl)) (wC cY (xx (xu rfl) (pv 0) xh (λ_ _=>rfl)) xh)) xh) xh)) B0.bl))⟩
  let B2:Bk Y (nb (aj qw) 0):=⟨_,(xi (wA (xy (i:=2) nd rfl rfl (wC dP (xx (xu rfl) (pv 0) xh (λ_ _=>rfl)) (pv 1))) (wA (wg (wC cF (xx (xu rfl) (pv 0) xh (λ_ _=>rfl)) (pv 1)) (qu (pv 0) xh wv)) (wG (wB (pv 2))))))⟩
  refine ⟨_,(xi (wA (wN (wD fE (xx (xu rfl) (pv 0) xh (λ_ _=>rfl)) xh (az _)) B2.ps wE) (wA (oG (pv 0) xh (lU rfl) xh lH wv) B1.bl))),?_⟩;have hS:aB K H p _:=aB.of hp;have cm:∀ x c:Int,-(2 ^ 64) < c->c < 2 ^ 64->My x c:=λx c h h'=>.inr ⟨h,h'⟩;refine (zr rfl ⟨p,_,aJ rfl rfl ⟨hS,rfl,aJ rfl rfl (zr rfl (oR (λh1=>?_) λh1=>?_))⟩⟩)
  ·refine (zr rfl ⟨p,_,aJ rfl rfl ⟨hS,rfl,zr rfl (aJ rfl rfl ⟨n0,?_⟩)⟩⟩);refine (zr rfl ⟨p,_,aJ rfl rfl ⟨hS,rfl,zr rfl (aJ rfl rfl ⟨⟨n0,n1⟩,zr rfl ⟨p,_,_,0,rfl,rfl,hp,rfl,?_⟩⟩)⟩⟩);exact (zr rfl (q _ _ (xK _ (by omega)) (yw _ n0) ⟨jY.set,_,_,_,xj⟩))
  ·refine (zr rfl ⟨p,_,aJ rfl rfl ⟨hS,rfl,aJ rfl rfl ⟨p,_,_,2,rfl,rfl,hp,rfl,?_⟩⟩⟩);have h2:(upd H p (HO.lst ([V.int x,V.int y,V.int z].set 2 (.int (z + 1))))) p=some (.lst [V.int x,V.int y,V.int (z + 1)]):=xj;have b2:jY p H (upd H p (HO.lst ([V.int x,V.int y,V.int z].set 2 (.int (z + 1))))):=jY.set;generalize upd H p (HO.lst ([V.int x,V.int y,V.int z].set 2 (.int (z + 1))))=H2 at h2 b2 ⊢;have Y0:aB K H2 p _:=aB.of h2;have big:(2147483647:Int) < 2 ^ 64:=by decide
   have low:-(2:Int) ^ 64 < 0:=by decide
   have pos:(0:Int) < 2147483647:=by decide
   refine (zr rfl ⟨p,_,aJ rfl rfl ⟨Y0,rfl,zr rfl ⟨p,_,aJ rfl rfl ⟨Y0,rfl,aJ rfl rfl ⟨cm _ _ (by decide) (by decide),aJ rfl rfl (aJ rfl rfl ⟨cm _ _ (by decide) (by decide),aJ rfl rfl ⟨(by show (0:Int) < 2147483647;decide),?_⟩⟩)⟩⟩⟩⟩⟩);have m0:=xK ((y + (z + 1) * 362437) * 48271) (show (2147483647:Int)≠0 by decide);have m1:=yw ((y + (z + 1) * 362437) * 48271) pos;refine (zr rfl (zr rfl (aJ rfl rfl ⟨.inl ⟨Int.lt_of_lt_of_le low m0,Int.lt_trans m1 big⟩,zr rfl ⟨p,_,aJ rfl rfl ⟨Y0,rfl,aJ rfl rfl ⟨cm _ _ (by decide) (by decide),aJ rfl rfl (zr rfl ⟨p,_,aJ rfl rfl ⟨Y0,rfl,aJ rfl rfl (aJ rfl rfl ⟨(by show (0:Int) < 2147483629;decide),?_⟩)⟩⟩)⟩⟩⟩⟩)));refine (zr rfl (aJ rfl rfl ⟨cm _ _ (by decide) (by decide),aJ rfl rfl ⟨(by show (0:Int) < 2147483563;decide),aJ rfl rfl ⟨⟨by decide,by decide⟩,zr rfl (aJ rfl rfl ⟨n0,?_⟩)⟩⟩⟩));exact q _ _ (xK _ (by omega)) (yw _ n0) ⟨b2,_,_,_,h2⟩
theorem Gv:aC ["_law_purse_here", "_law_high"] ["_law_purse_here"] (ak DL):=L2.aX
theorem IU (T:Tx K mg a):aQ P w K mg base ck 2 a.BM a.CT ["_law_purse_here"] (VM):=by
 have Aa:=we P w base T;refine T.Cn.ok Gv (λvs H Q E h=>?_) (λbL A outer s H vs Q E hr h=>?_)
 ·obtain ⟨p,rfl,_⟩:=h;rfl
 ·have nd:=Gv.nd;have hu:=hr.units;obtain ⟨p,rfl,hp,q⟩:=h;refine bS ?_;intro Y
  let B0:Bk Y ((aj DL).drop 1):=⟨_,(xi (wG (wB (wC dP (wC wO (wC cY (pv 1) xh) (xq Aa (hr.mono (by decide)) rfl T.Ab T.Ac T.Ae .nil aq (xf (xg (pv 0) (xg xh xp rfl) rfl)))) (wC wO (wC jq xh xh) xh)))))⟩
  refine ⟨_,(xi (wA (xy (i:=1) nd rfl rfl (xq Aa (hr.mono (by decide)) rfl T.Ab T.Ac T.Ae .nil aq (xf (xg (pv 0) (xg xh xp rfl) rfl)))) B0.bl)),?_⟩;refine (zr rfl ⟨p,zr rfl ⟨by decide,by decide,hp,λd H1 d0 d1 g1=>(zr rfl (aJ rfl rfl ⟨.inr ⟨by decide,by decide⟩,zr rfl ⟨p,zr rfl ⟨by decide,by decide,g1.2,λe H2 e0 e1 g2=>(aJ rfl rfl (aJ rfl rfl ⟨⟨by decide,by decide,by decide⟩,aJ rfl rfl (aJ rfl rfl ⟨(by show (0:Int) < 10 ^ Int.toNat 9 + 1;decide),?_⟩)⟩))⟩⟩⟩))⟩⟩);have e9:(10:Int) ^ Int.toNat 9 + 1=1000000001:=by decide
  rw [e9];exact q _ _ (xK _ (by decide)) (Int.lt_add_one_iff.mp (yw _ (by decide))) (g1.trans g2)
theorem ET:aC ["_law_purse_here", "_law_walkers", "_law_rooms_here", "_law_walker", "_law_room"] ["_law_purse_here", "_law_walkers"] (ak qk):=L2.aX
theorem HG (T:Tx K mg a):aQ P w K mg base ck 2 a.Be a.Cg ["_law_purse_here", "_law_walkers"] (P9):=by
 have Aa:=we P w base T;refine T.BF.ok ET (λvs H Q E h=>?_) (λbL A outer s H vs Q E hr h=>?_)
 ·obtain ⟨p,n,rfl,_⟩:=h;rfl
 ·have nd:=ET.nd;have hu:=hr.units;obtain ⟨p,n,rfl,hn,hp,q⟩:=h;refine bS ?_;intro Y
  let B0:Bk Y ((nb (aj qk) 1).drop 1):=⟨_,(xi (wA (wN (wD qT (pv 4) xh (az _)) (xi (wG (xy (i:=4) nd rfl rfl (xq Aa (hr.mono (by decide)) rfl T.Ab T.Ac T.Ae .nil aq (xf (xg (pv 0) (xg xh xp rfl) rfl)))))) wE) (wG (gu (ni yi yd ye cV (pv 2) (xf (xg (pv 4) xp rfl)))))))⟩
  let B1:Bk Y (nb (aj qk) 1):=⟨_,(xi (wA (xy (i:=4) nd rfl rfl (wC cF (xq Aa (hr.mono (by decide)) rfl T.Ab T.Ac T.Ae .nil aq (xf (xg (pv 0) (xg xh xp rfl) rfl))) xh)) B0.bl))⟩
  let B2:Bk Y ((aj qk).drop 1):=⟨_,(xi (wA (wy PassesOwn.never rfl (wq rfl T.bf (xf (xg (pv 1) xp rfl))) (xm (i:=3) nd rfl rfl) B1.ps) (wG (wB (b9 (gU) (by rfl) T.gH yj (xf (xg (pv 2) xp rfl)))))))⟩
  refine ⟨_,(xi (wA (xy (i:=2) nd rfl rfl (wX qo)) B2.bl)),?_⟩;have line:1001<=sizeLine:=by rw [sizeLine_eq];decide
  refine ⟨zo _,λl hl=>?_⟩;have npl:=hp.ne hl;refine (zr rfl (zr rfl ⟨by omega,by omega,?_⟩));refine (let W1:IV:=λi σ H2=>∃ v3 v4 rs,σ=[some (.ref p),some (.int n),some (.ref l),v3,v4]/\H2 l=some (.lst (List.map V.int rs))/\rs.length=i/\(∀ r∈rs,(0:Int)<=r/\r<=99)/\Go p H H2;qD (lo:=0) (n:=n) W1)
   ⟨_,_,[],rfl,xj,rfl,(λ_ z=>nomatch z),(Go.refl hp).new hl⟩ ?_ ?_
  ·rintro i σ H2 hi ⟨v3,v4,rs,rfl,h2,hlen,hr,go⟩;refine (zr rfl ⟨p,zr rfl ⟨by decide,by decide,go.2,λd H3 d0 d1 g3=>(aJ rfl rfl ⟨⟨by decide,by decide⟩,?_⟩)⟩⟩);refine (zr rfl ⟨rfl,zr rfl (jv (fun σ H4=>∃ x:Int,σ=[some (.ref p),some (.int n),some (.ref l),some (.int (0 + (i:Int))),some (.int x)]/\0<=x/\x<=99/\Go p H2 H4) ?_ (λc k0=>(zr rfl ⟨p,zr rfl ⟨by decide,by decide,g3.2,λe H4 e0 e1 g4=>k0 _ _ ⟨e,rfl,e0,by omega,g3.trans g4⟩⟩⟩)) (λc=>(zr rfl ⟨by omega,by omega,g3⟩)))⟩);rintro σ H4 ⟨x,rfl,x0,x1,g4⟩;have h4:=g4.1 l _ npl h2;refine (zr rfl ⟨.inl ⟨rfl,_,aB.of h4⟩,zr rfl ⟨l,aJ rfl rfl ⟨h4,by rw [zA];omega,_,_,rs++[x],rfl,by rw [xj,zD];rfl,by simp [hlen],λr Xk=>?_,?_⟩⟩⟩)
   ·rcases zV.mp Xk with h | h
    ·exact hr r h
    ·cases zK.mp h;exact ⟨x0,x1⟩
   ·have g2:=go.trans g4;refine ⟨λb u nb e=>?_,?_⟩
    ·rw [xt (xk e hl)];exact g2.1 b u nb e
    ·obtain ⟨a,b,c,e⟩:=g2.2;exact ⟨a,b,c,by rw [xt npl.symm];exact e⟩
  ·rintro σ H2 ⟨v3,v4,rs,rfl,h2,hlen,hr,go⟩;exact (zr rfl ⟨l,zr rfl (.inl ⟨aB.of h2,λt ht=>q t rs _ (go.new ht) xj hlen hr⟩)⟩)
theorem Fh:aC ["_law_purse_here", "_law_way"] ["_law_purse_here"] (ak qx):=L2.aX
theorem Id (T:Tx K mg a):aQ P w K mg base ck 2 a.Bs a.Cv ["_law_purse_here"] (SD):=by
 have Aa:=we P w base T;refine T.BU.ok Fh (λvs H Q E h=>?_) (λbL A outer s H vs Q E hr h=>?_)
 ·obtain ⟨p,rfl,_⟩:=h;rfl
 ·have nd:=Fh.nd;have hu:=hr.units;obtain ⟨p,rfl,hp,q⟩:=h;refine bS ?_;intro Y
  let B0:Bk Y ((aj qx).drop 3):=⟨_,(xi (wG (wB (wC wO xh (xq Aa (hr.mono (by decide)) rfl T.Ab T.Ac T.Ae .nil aq (xf (xg (pv 0) (xg (wC cY xh (wC jq xh xh)) xp rfl) rfl)))))))⟩
  let B1:Bk Y ((aj qx).drop 2):=⟨_,(xi (wA (wN (wD qT (pv 1) xh (az _)) (xi (wG (wB (wC wO xh (xq Aa (hr.mono (by decide)) rfl T.Ab T.Ac T.Ae .nil aq (xf (xg (pv 0) (xg xh xp rfl) rfl))))))) wE) B0.bl))⟩
  let B2:Bk Y ((aj qx).drop 1):=⟨_,(xi (wA (wN (wD gS (pv 1) xh (az _)) (xi (wG (wB (xx (xu rfl) (wX (xf (xg xh (xg xh (xg xh xp rfl) rfl) rfl))) (pv 1) (λ_ _=>rfl))))) wE) B1.bl))⟩
  refine ⟨_,(xi (wA (xy (i:=1) nd rfl rfl (xq Aa (hr.mono (by decide)) rfl T.Ab T.Ac T.Ae .nil aq (xf (xg (pv 0) (xg xh xp rfl) rfl)))) B2.bl)),?_⟩;have s3:3<=sizeLine:=by rw [sizeLine_eq];decide
  refine (zr rfl ⟨p,zr rfl ⟨by decide,by decide,hp,λd H1 d0 d1 g1=>(zr rfl (aJ rfl rfl (zr rfl (oR (λh1=>?_) λh1=>?_))))⟩⟩)
  ·obtain ⟨v,hv,v0,v1⟩:∃ v:Int,dU [V.int 0,V.int 1,V.int 1] d=some (V.int v)/\0<=v/\v<=1:=by
    obtain rfl | rfl | rfl:d=0\/d=1\/d=2:=by omega
    ·exact ⟨0,rfl,by decide,by decide⟩
    ·exact ⟨1,rfl,by decide,by decide⟩
    ·exact ⟨1,rfl,by decide,by decide⟩
   exact ⟨s3,λl hl=>(zr rfl (bV xj hv (q _ _ v0 (by omega) (g1.new hl))))⟩
  ·refine (zr rfl ⟨rfl,zr rfl (oR (λh2=>?_) λh2=>?_)⟩)
   ·exact (zr rfl ⟨p,zr rfl ⟨by decide,by decide,g1.2,λe H2 e0 e1 g2=>(aJ rfl rfl (q _ _ (by omega) (by omega) (g1.trans g2)))⟩⟩)
   ·have e16:(16:Int) * 10 ^ Int.toNat 6=16000000:=by decide
    refine (zr rfl (aJ rfl rfl ⟨⟨by decide,by decide,by decide⟩,aJ rfl rfl ⟨.inl ⟨by decide,by decide⟩,p,zr rfl ⟨by decide,by decide,g1.2,λe H2 e0 e1 g2=>(aJ rfl rfl (q _ _ (by omega) (by rw [e16] at e1;omega) (g1.trans g2)))⟩⟩⟩))
theorem DD:aC ["_law_purse_here", "_law_walkers", "_law_most", "_law_found", "_law_when", "_law_busy", "_law_k", "_law_one", "_law_other", "_law_gap", "_law_passed", "_law_late"] ["_law_purse_here", "_law_walkers", "_law_most"] (ak wJ):=L2.aX
theorem FW (T:Tx K mg a):aQ P w K mg base ck 3 a.Aw a.AY ["_law_purse_here", "_law_walkers", "_law_most"] (uo):=by
 have Aa:=we P w base T;have JK:=Id P w base T;refine T.AJ.ok DD (λvs H Q E h=>?_) (λbL A outer s H vs Q E hr h=>?_)
 ·obtain ⟨p,w,n,rfl,_⟩:=h;rfl
 ·have nd:=DD.nd;have hu:=hr.units;obtain ⟨p,w,n,rfl,hn,w9,hw,hp,q⟩:=h;refine bS ?_;intro Y
  let B0:Bk Y ((aj wJ).drop 6):=⟨_,(xi (wG (wB (b9 (gU) (by rfl) T.gH yj (xf (xg (wc (own:=["_law_then", "_law_low", "_law_high", "_law_room"]) (caps:=[11]) rfl (show ay ["_law_then", "_law_low", "_law_high", "_law_room"] [11] ["_law_purse_here", "_law_walkers", "_law_most", "_law_found", "_law_when", "_law_busy", "_law_k", "_law_one", "_law_other", "_law_gap", "_law_passed", "_law_late"] (ak wJ) _ from L2.bR) (wZ rfl (xr (vz) (by rfl) T.O1 PyProof.Rows.boot_sorted (xf (xg (pv 3) xp rfl)))) (λ_ _ _ _=>(wI (n:=4) rfl rfl (xo (xm (i:=0) (show List.Nodup (["_law_then", "_law_low", "_law_high", "_law_room", "_law_late"]:List Str) from by decide +kernel) rfl rfl) (xo (xm (i:=1) (show List.Nodup (["_law_then", "_law_low", "_law_high", "_law_room", "_law_late"]:List Str) from by decide +kernel) rfl rfl) (xo (xm (i:=2) (show List.Nodup (["_law_then", "_law_low", "_law_high", "_law_room", "_law_late"]:List Str) from by decide +kernel) rfl rfl) (xo (xm (i:=3) (show List.Nodup (["_law_then", "_law_low", "_law_high", "_law_room", "_law_late"]:List Str) from by decide +kernel) rfl rfl) wH)))))) (λ_ _ _ _=>wT) (λ_ _ _ _=>(qA (xf (xg (pv 1) (xg (pv 2) (xg (wC wO (pv 0) (pv 4)) (xg (pv 3) xp rfl) rfl) rfl) rfl))))) xp rfl))))))⟩
  let B1:Bk Y ((aj wJ).drop 5):=⟨_,(xi (wA (wN (@PW.pt _ _ _ (qW (wD qT (xq Aa (hr.mono (by decide)) rfl T.Ab T.Ac T.Ae .nil aq (xf (xg (pv 0) (xg xh xp rfl) rfl))) xh (az _)) (qV (wD (kU hu) (pv 3) (wX qo) (az _))))) (xi (wG (xy (i:=11) nd rfl rfl (wC qY (wC jq xh xh) (pv 4))))) wE) B0.bl))⟩
  let B2:Bk Y ((nb (aj wJ) 3).drop 9):=⟨_,(xi (wG (gu (ni yi yd ye cV (pv 3) (xf (xg (qA (xf (xg (pv 4) (xg (xr (cW rfl) (by rfl) T.nR yl (xf (xg (pv 7) (xg (pv 8) xp rfl) rfl))) (xg (xr (nK rfl) (by rfl) T.R0 PyProof.Rows.boot_max (xf (xg (pv 7) (xg (pv 8) xp rfl) rfl))) (xg (pv 10) xp rfl) rfl) rfl) rfl))) xp rfl))))))⟩
  let B3:Bk Y (nb (nb (aj wJ) 3) 8):=⟨_,(xi (wG (xy (i:=10) nd rfl rfl (wC wO xh (xq Aa (hr.mono (by decide)) rfl T.Ab T.Ac T.Ae .nil aq (xf (xg (pv 0) (xg xh xp rfl) rfl)))))))⟩
  let B4:Bk Y ((nb (aj wJ) 3).drop 8):=⟨_,(xi (wA (wN (wD qT (xq Aa (hr.mono (by decide)) rfl T.Ab T.Ac T.Ae .nil aq (xf (xg (pv 0) (xg xh xp rfl) rfl))) xh (az _)) B3.ps wE) B2.bl))⟩
  let B5:Bk Y ((nb (aj wJ) 3).drop 7):=⟨_,(xi (wA (xy (i:=10) nd rfl rfl (wC wO xh (wC cF (xq Aa (hr.mono (by decide)) rfl T.Ab T.Ac T.Ae .nil aq (xf (xg (pv 0) (xg xh xp rfl) rfl))) xh))) B4.bl))⟩
  let B6:Bk Y ((nb (aj wJ) 3).drop 4):=⟨_,(xi (wA (wN (wD fE (pv 9) xh (az _)) (xi (wG (xy (i:=5) nd rfl rfl (wX qo)))) wE) (wA (xy (i:=4) nd rfl rfl (wC wO (pv 4) (pv 9))) (wA (xy (i:=5) nd rfl rfl (wC jr (pv 5) (wX (xf (xg (pv 7) (xg (pv 8) xp rfl) rfl))))) B5.bl))))⟩
  let B7:Bk Y ((nb (aj wJ) 3).drop 3):=⟨_,(xi (wA (wN (@PW.pt _ _ _ (qa (wD (eY rfl) (pv 7) (pv 5) rfl) (qK (wD (eY rfl) (pv 8) (pv 5) rfl)))) (xi (wG (xy (i:=9) nd rfl rfl (xr (nK rfl) (by rfl) T.R0 PyProof.Rows.boot_max (xf (xg xh (xg (pv 9) xp rfl) rfl)))))) wE) B6.bl))⟩
  let B8:Bk Y ((nb (aj wJ) 3).drop 1):=⟨_,(xi (wA (xy (i:=8) nd rfl rfl (wC dP (wC wO (wC wO (pv 7) xh) (xq Aa (hr.mono (by decide)) rfl T.Ab T.Ac T.Ae .nil aq (xf (xg (pv 0) (xg (wC qY (pv 1) xh) xp rfl) rfl)))) (pv 1))) (wA (xy (i:=9) nd rfl rfl (xq JK (hr.mono (by decide)) rfl T.Jb T.Jj T.Jr .nil aq (xf (xg (pv 0) xp rfl)))) B7.bl)))⟩
  let B9:Bk Y (nb (aj wJ) 3):=⟨_,(xi (wA (xy (i:=7) nd rfl rfl (xq Aa (hr.mono (by decide)) rfl T.Ab T.Ac T.Ae .nil aq (xf (xg (pv 0) (xg (pv 1) xp rfl) rfl)))) B8.bl))⟩
  let Yd:Bk Y ((aj wJ).drop 2):=⟨_,(xi (wA (xy (i:=5) nd rfl rfl (wX qo)) (wA (wy PassesOwn.never rfl (wq rfl T.bf (xf (xg (pv 2) xp rfl))) (xm (i:=6) nd rfl rfl) B9.ps) (wA (xy (i:=11) nd rfl rfl xh) B1.bl))))⟩
  let Yc:Bk Y ((aj wJ).drop 1):=⟨_,(xi (wA (xy (i:=4) nd rfl rfl (wC wO xh (wC cY (wC cF (xq Aa (hr.mono (by decide)) rfl T.Ab T.Ac T.Ae .nil aq (xf (xg (pv 0) (xg xh xp rfl) rfl))) xh) (xq Aa (hr.mono (by decide)) rfl T.Ab T.Ac T.Ae .nil aq (xf (xg (pv 0) (xg (wC jq xh xh) xp rfl) rfl)))))) Yd.bl))⟩
  refine ⟨_,(xi (wA (xy (i:=3) nd rfl rfl (wX qo)) Yc.bl)),?_⟩;have line:1001<=sizeLine:=by rw [sizeLine_eq];decide
  have c7:Pc 10 7:=⟨by decide,by decide,by decide⟩;have e7:(10:Int) ^ Int.toNat 7=10000000:=by decide
  have e64:(2:Int) ^ 64 > 1000:=by decide
  have mQ:(2:Int) ^ 200 > 1000:=by decide
  refine ⟨zo _,λlf Oq=>?_⟩;have Ph:=hp.ne Oq;have hp1:aN (upd H lf (.lst [])) p:=hp.new Oq;refine (zr rfl ⟨p,zr rfl ⟨by decide,by decide,hp1,λd H1 d0 d1 g1=>(aJ rfl rfl ⟨⟨by decide,by decide⟩,zr rfl (aJ rfl rfl ⟨c7,?_⟩)⟩)⟩⟩);refine ⟨p,zr rfl ⟨by decide,by decide,g1.2,λd2 H2 d20 d21 g2=>(aJ rfl rfl ⟨.inl ⟨by omega,by omega⟩,aJ rfl rfl ?_⟩)⟩⟩;rw [e7] at d21;refine ⟨zo _,λlb nF=>?_⟩;have fr2:=g1.trans g2;have Uj:H2 lf=some (.lst []):=fr2.1 lf _ Ph xj;have go0:Go p H H2:=((Go.refl hp).new Oq).trans fr2;refine (zr rfl (zr rfl ⟨by omega,by omega,?_⟩));have wh0:1<=1 + d / 2 * d2/\1 + d / 2 * d2<=10000000:=by
   obtain h | h:d / 2=0\/d / 2=1:=by omega
   ·rw [h];omega
   ·rw [h];omega
  refine qD (lo:=0) (n:=n) (Y9 p lf w n H)
   ⟨_,_,_,_,_,_,lb,[],[],rfl,by rw [xt (xk Uj nF)];exact Uj,xj,(xk Uj nF).symm,go0.2.ne nF,(λ_ z=>nomatch z),⟨(λ_ z=>nomatch z),.nil,(λ_ z=>nomatch z)⟩,rfl,by simp,wh0.1,(by have:=wh0.2;simpa using this),go0.new nF⟩ ?_ ?_
  ·rintro i σ H3 hi ⟨v6,v7,v8,v9,v10,wh,lb,bs,fs,rfl,Uu,h3b,nbf,Wm,Y3,F,N9,TF,Ye,Z8,go⟩;have w2:2<=w:=by omega
   refine (zr rfl (zr rfl ⟨p,w,rfl,by omega,by omega,go.2,λone H4 o0 o1 g4=>?_⟩));refine (zr rfl (aJ rfl rfl (zr rfl (zr rfl (aJ rfl rfl ⟨p,zr rfl ⟨by omega,by omega,g4.2,λx H5 x0 x1 g5=>(aJ rfl rfl (zr rfl (aJ rfl rfl ⟨by omega,?_⟩)))⟩⟩)))));have ot:=Th o0 o1 x0 x1;refine (zr rfl ⟨p,rfl,g5.2,λgap H6 ahK ahJ g6=>?_⟩);have XG:=g4.trans (g5.trans g6);have Pq:=XG.1 lb _ Wm h3b;have hf6:=XG.1 lf _ Ph Uu;refine (zr rfl (zr rfl ⟨lb,zr rfl ⟨.inl (aB.of Pq),rfl,nH bs,zr rfl (abK (fun σ H7=>∃ gp:Int,σ=[some (.ref p),some (.int w),some (.int n),some (.ref lf),some (.int wh),some (.ref lb),some (.int (0 + (i:Int))),some (.int one),some (.int ((one + 1 + x) % w)),some (.int gp),v10,none]/\H6=H7/\0<=gp/\gp<=16000000/\(gp=0->one ∉ bs/\(one + 1 + x) % w ∉ bs)) ?_ (λc1 k0=>?_) (λc1 k0=>(zr rfl (zr rfl ⟨lb,zr rfl ⟨.inl (aB.of Pq),rfl,nH bs,zr rfl (uS (λc2=>?_) (λc2=>?_))⟩⟩))))⟩⟩))
   rotate_left
   ·exact (zr rfl (mq rfl (k0 _ _ (zr rfl ⟨rfl,by split <;> omega,by split <;> omega,λz=>by split at z <;> omega⟩))))
   ·exact (zr rfl (mq rfl (k0 _ _ (zr rfl ⟨rfl,by split <;> omega,by split <;> omega,λz=>by split at z <;> omega⟩))))
   ·have c1':one ∉ bs:=of_decide_eq_false (lM.symm.trans c1);have c2':(one + 1 + x) % w ∉ bs:=of_decide_eq_false (lM.symm.trans c2);exact k0 _ _ ⟨gap,rfl,rfl,by omega,by omega,λ_=>⟨c1',c2'⟩⟩
   rintro σ H7 ⟨gp,rfl,rfl,gp0,gp1,hg⟩;refine (zr rfl (aJ rfl rfl (zr rfl (jv (fun σ H7=>∃ ly bz,σ=[some (.ref p),some (.int w),some (.int n),some (.ref lf),some (.int wh),some (.ref ly),some (.int (0 + (i:Int))),some (.int one),some (.int ((one + 1 + x) % w)),some (.int gp),v10,none]/\Go p H3 H7/\H7 ly=some (.lst (List.map V.int bz))/\ly≠p/\bz.length<=2 * i/\∀ z∈bs,gp=0->z∈bz) ?_ (λc3 k0=>⟨zo _,λln hln=>k0 _ _ ⟨ln,[],rfl,XG.new hln,xj,XG.2.ne hln,zo _,λ_ _ z=>by have:=of_decide_eq_true c3;omega⟩⟩) (λc3=>⟨lb,bs,rfl,XG,Pq,Wm,TF,λ_ z _=>z⟩)))));rintro σ H7 ⟨ly,bz,rfl,gy,hyb,nyp,agE,hb0⟩;have ahB:=gy.1 lf _ Ph Uu;refine (zr rfl (zr rfl (aJ rfl rfl ?_)));refine (zr rfl (zr rfl (zr rfl ⟨by show 2<=sizeLine;omega,λl2 MJ=>?_⟩)));have Y4:=gy.new (o:=HO.lst [V.int one,V.int ((one + 1 + x) % w)]) MJ;have Xe:=xl (o:=HO.lst [V.int one,V.int ((one + 1 + x) % w)]) MJ _ _ hyb;have h22:(upd H7 l2 (HO.lst [V.int one,V.int ((one + 1 + x) % w)])) l2=some (.lst [V.int one,V.int ((one + 1 + x) % w)]):=xj;generalize upd H7 l2 (HO.lst [V.int one,V.int ((one + 1 + x) % w)])=H8 at Y4 Xe h22 ⊢;refine ⟨ly,l2,aJ rfl rfl ⟨Xe,h22,(by simp only [zA,zk,yf];omega),λl3 YU=>?_⟩⟩;have n3p:l3≠p:=Y4.2.ne YU;have n3f:l3≠lf:=(xk (Y4.1 lf _ Ph Uu) YU).symm;have g3':=Y4.new (o:=HO.lst (List.map V.int bz++[V.int one,V.int ((one + 1 + x) % w)])) YU;have XE:(upd H8 l3 (HO.lst (List.map V.int bz++[V.int one,V.int ((one + 1 + x) % w)]))) l3=some (.lst (List.map V.int (bz++[one,(one + 1 + x) % w]))):=by rw [xj,zD];rfl
   generalize upd H8 l3 (HO.lst (List.map V.int bz++[V.int one,V.int ((one + 1 + x) % w)]))=H9 at g3' XE ⊢;refine (zr rfl ⟨p,zr rfl ⟨by decide,by decide,g3'.2,λd4 gO d40 d41 jy=>(aJ rfl rfl ⟨⟨by decide,by decide⟩,aJ rfl rfl ?_⟩)⟩⟩);refine (zr rfl ⟨p,zr rfl ⟨by decide,by decide,jy.2,λd5 jQ d50 d51 pP=>⟨rfl,zr rfl (jv (fun σ mE=>∃ mm:Int,σ=[some (.ref p),some (.int w),some (.int n),some (.ref lf),some (.int (wh + gp)),some (.ref l3),some (.int (0 + (i:Int))),some (.int one),some (.int ((one + 1 + x) % w)),some (.int gp),some (.int mm),none]/\1<=mm/\mm<=99/\Go p H9 mE) ?_ (λc5 k0=>(zr rfl ⟨p,zr rfl ⟨by decide,by decide,pP.2,λd6 mE d60 d61 Y5=>(aJ rfl rfl (k0 _ _ (zr rfl ⟨by omega,by omega,(jy.trans pP).trans Y5⟩)))⟩⟩)) (λc5=>(zr rfl ⟨by omega,by omega,jy.trans pP⟩)))⟩⟩⟩);rintro σ mE ⟨mm,rfl,mm0,mm1,Y5⟩;have Uv:=g3'.trans Y5;have hz:=Uv.1 lf _ Ph Uu;refine (zr rfl ⟨.inl ⟨rfl,_,aB.of hz⟩,zr rfl (zr rfl (zr rfl (mq rfl (zr rfl (zr rfl (mq rfl (zr rfl ⟨by show 4<=sizeLine;omega,λt ht=>⟨lf,aJ rfl rfl ⟨(by rw [xt (xk hz ht)];exact hz),(by rw [zA];omega),?_⟩⟩⟩)))))))⟩);exact Y9.step Ph Oq F N9 (bs':=bz++[one,(one + 1 + x) % w]) (by simp only [zO,zk,yf];omega) Ye Z8 hz (Y5.1 l3 _ n3p XE) n3f n3p (λa ha=>Uv.aZ go.2 _ _ (Y3 a ha)) (go.trans Uv) ht gp0 gp1 o0 o1 ot.1 ot.2.1 ot.2.2 mm0 mm1 hg (λz jx uT=>yD _ (hb0 z jx uT)) (by simp) (by simp)
  ·rintro σ H3 ⟨v6,v7,v8,v9,v10,wh,lb,bs,fs,rfl,Uu,h3b,nbf,Wm,Y3,F,N9,TF,Ye,Z8,go⟩;have c9:Pc 10 9:=⟨by decide,by decide,by decide⟩;have e9:(10:Int) ^ Int.toNat 9=1000000000:=by decide
   refine (zr rfl ⟨p,zr rfl ⟨by decide,by decide,go.2,λd8 H4 _ _ g4=>⟨rfl,zr rfl (T4 (fun σ H5=>∃ iT:Int,(∃ v6 v7 v8 v9 v10,σ=[some (.ref p),some (.int w),some (.int n),some (.ref lf),some (.int wh),some (.ref lb),v6,v7,v8,v9,v10,some (.int iT)])/\Go p H3 H5/\0<=iT/\(fs≠[]->wh + iT<=1000000000)) ?_ (λc k0=>?_) (λc=>⟨0,⟨_,_,_,_,_,rfl⟩,g4,yE _,λ_=>by omega⟩))⟩⟩⟩)
   rotate_left
   ·have h4f:=g4.1 lf _ Ph Uu;refine (zr rfl ⟨zo _,λl4 Ot=>⟨lf,l4,zr rfl ⟨rfl,aB.of (by rw [xt (xk h4f Ot)];exact h4f),aB.of xj,zr rfl (uS (λc2=>?_) (λc2=>?_))⟩⟩⟩)
    ·exact (aJ rfl rfl ⟨c9,zr rfl (aJ rfl rfl (k0 _ _ ⟨_,⟨_,_,_,_,_,rfl⟩,g4.new Ot,by rw [e9];omega,λ_=>by rw [e9];omega⟩))⟩)
    ·exact k0 _ _ ⟨0,⟨_,_,_,_,_,rfl⟩,g4.new Ot,yE _,λ_=>by omega⟩
   rintro σ Hz ⟨iT,⟨v6',v7',v8',v9',afI,rfl⟩,gz,L0,L1⟩;have hz:=gz.1 lf _ Ph Uu;refine (zr rfl ⟨lf,fs.map (λa=>(a.1,a.2.row)),rfl,?_,(by rw [zA];omega),(λa ha=>?_),λD qs hD pq sq=>?_⟩)
   ·rw [zp];exact aB.of hz
   ·obtain ⟨b,hb,rfl⟩:=zd.mp ha;exact ⟨gz.aZ go.2 _ _ (Y3 b hb),by intro z;cases z⟩
   obtain ⟨rs,prs,srs,rfl⟩:=LL pq sq;refine ⟨D,rfl,⟨_,aB.of xj⟩,?_⟩;have lrs:rs.length=n:=by rw [prs.length_eq,N9]
   have hDl:(upd Hz D (HO.lst (List.map (λa=>V.ref a.1) (List.map (λa:Addr×M4=>(a.1,a.2.row)) rs)))) D=some (.lst (rs.map λa=>V.ref a.1)):=by rw [xj,zp];rfl
   have rD:=λa (ha:a∈rs)=>(bY.new (o:=HO.lst (List.map (λa=>V.ref a.1) (List.map (λa:Addr×M4=>(a.1,a.2.row)) rs))) hD) _ _ (gz.aZ go.2 _ _ (Y3 a (prs.mem_iff.mp ha)));have gD:=(go.trans gz).new (o:=HO.lst (List.map (λa=>V.ref a.1) (List.map (λa:Addr×M4=>(a.1,a.2.row)) rs))) hD;refine (let W2:IC:=λi τ acc H5=>∃ ps:List (Addr×M4),(∃ t0 t1 t2 t3,τ=[t0,t1,t2,t3,some (.int iT)])/\acc=(ps.map λa=>V.ref a.1)/\(ps.map (·.2))=((rs.take i).map λa=>a.2.iT iT)/\jF H5 ps/\au (upd Hz D (HO.lst (List.map (λa=>V.ref a.1) (List.map (λa:Addr×M4=>(a.1,a.2.row)) rs)))) H5;wV (K:=K) (a:=D) (xs:=rs.map λa=>V.ref a.1) W2)
    ?_ (by rw [zA];omega) ?_ ?_ ?_
   ·exact ⟨[],⟨_,_,_,_,rfl⟩,rfl,rfl,(λ_ z=>nomatch z),au.refl _⟩
   ·rintro i τ acc H6 ⟨ps,⟨t0,t1,t2,t3,rfl⟩,rfl,Vs,rws,sm⟩;have:=congrArg List.length Vs;rw [zA,zA,zR] at this;exact ⟨by rw [zA];omega,sm.seq (aB.of hDl)⟩
   ·rintro i x τ acc H5 C hx ⟨ps,⟨t0,t1,t2,t3,rfl⟩,rfl,Vs,rws,sm⟩ hC;obtain ⟨r,hr,rfl⟩:=wF hx;have jV:=sm _ _ (rD r (zB hr));refine (U5 jV (zr rfl (zr rfl (zr rfl (zr rfl (aJ rfl rfl (zr rfl ⟨by show 4<=sizeLine;omega,λt ht=>hC _ _ _ ?_⟩)))))));refine ⟨ps++[(t,r.2.iT iT)],⟨_,_,_,_,rfl⟩,by rw [zD];rfl,by rw [zD,wK hr,zD,Vs];rfl,λa ha=>?_,sm.trans (xl ht)⟩;rcases zV.mp ha with h | h
    ·exact xl ht _ _ (rws a h)
    ·cases zK.mp h;exact xj
   ·rintro τ acc H6 ⟨ps,⟨t0,t1,t2,t3,rfl⟩,rfl,Vs,rws,sm⟩ lt dB;refine ⟨lt,zr rfl (.inl ⟨aB.of xj,λt ht=>q t ps _ (((gD.same sm).new dB).new ht) xj ((rws.aZ (bY.new dB)).aZ (bY.new ht)) ?_ ?_⟩)⟩
    ·rw [Vs,zA,zS];exact F.good (by omega) L0 L1 prs srs
    ·have:=congrArg List.length Vs;rw [zA,zA,zA,zS] at this;omega
theorem Fl:aC ["_law_purse_here", "_law_most_walkers", "_law_most_meetings", "_law_walkers", "_law_most"] ["_law_purse_here", "_law_most_walkers", "_law_most_meetings"] (ak C3):=L2.aX
theorem Ii (T:Tx K mg a):aQ P w K mg base ck 4 a.Bw a.CB ["_law_purse_here", "_law_most_walkers", "_law_most_meetings"] (SJ):=by
 have Aa:=we P w base T;have IR:=HG P w base T;have G4:=FW P w base T;refine T.BY.ok Fl (λvs H Q E h=>?_) (λbL A outer s H vs Q E hr h=>?_)
 ·obtain ⟨p,a,n,rfl,_⟩:=h;rfl
 ·have nd:=Fl.nd;have hu:=hr.units;obtain ⟨p,aw,n,rfl,a1,a2,hn,hp,q⟩:=h;refine bS ?_;intro Y
  let B0:Bk Y ((aj C3).drop 3):=⟨_,(xi (wG (wB (qA (xf (xg (xq IR (hr.mono (by decide)) rfl T.Io T.Iw T.IB .nil aq (xf (xg (pv 0) (xg (pv 3) xp rfl) rfl))) (xg (xq G4 (hr.mono (by decide)) rfl T.GN T.GR T.GV .nil aq (xf (xg (pv 0) (xg (pv 3) (xg (pv 4) xp rfl) rfl) rfl))) xp rfl) rfl))))))⟩
  let B1:Bk Y ((aj C3).drop 1):=⟨_,(xi (wA (xy (i:=4) nd rfl rfl (xr (cW rfl) (by rfl) T.nR yl (xf (xg (pv 2) (xg (xq Aa (hr.mono (by decide)) rfl T.Ab T.Ac T.Ae .nil aq (xf (xg (pv 0) (xg (wC wO (pv 2) xh) xp rfl) rfl))) xp rfl) rfl)))) (wA (wN (wD qT (pv 3) xh (az _)) (xi (wG (xy (i:=4) nd rfl rfl xh))) wE) B0.bl)))⟩
  refine ⟨_,(xi (wA (xy (i:=3) nd rfl rfl (wC wO xh (xq Aa (hr.mono (by decide)) rfl T.Ab T.Ac T.Ae .nil aq (xf (xg (pv 0) (xg (pv 1) xp rfl) rfl))))) B1.bl)),?_⟩;have line:1001<=sizeLine:=by rw [sizeLine_eq];decide
  have mQ:(2:Int) ^ 200 > 1000:=by decide
  refine (zr rfl (zr rfl ⟨p,aw,rfl,by omega,by omega,hp,λd H1 d0 d1 g1=>(aJ rfl rfl ?_)⟩));obtain ⟨k,rfl⟩:=zn d0;refine (zr rfl (zr rfl (zr rfl (aJ rfl rfl ⟨p,zr rfl ⟨by omega,by omega,g1.2,λe H2 e0 e1 g2=>(mq rfl ?_)⟩⟩))));obtain ⟨m,em,hm⟩:∃ m:Nat,(if e < (n:Int) then e else (n:Int))=m/\m<=n:=by
   refine ⟨(if e < (n:Int) then e else (n:Int)).toNat,?_,?_⟩ <;> split <;> omega
  refine ⟨_,rfl,rfl,_,rfl,jv (fun σ H3=>∃ m:Nat,σ=[some (.ref p),some (.int aw),some (.int n),some (.int (1 + (k:Int))),some (.int m)]/\m<=n/\(m=0\/1<=k)/\Go p H H3) ?_ (λc k0=>k0 _ _ ⟨0,rfl,zo _,.inl rfl,g1.trans g2⟩) (λc=>⟨m,by rw [<-em];rfl,hm,.inr (by
    by_cases hk:k=0
    ·subst hk;exact absurd c (by simp)
    ·omega),g1.trans g2⟩)⟩
  rintro σ H2 ⟨m,rfl,hm,hk,g2⟩;refine (zr rfl (zr rfl ⟨p,1 + k,by simp,by omega,g2.2,λtr af H3 g3 h3 l3 r3=>(zr rfl (zr rfl (zr rfl ⟨p,_,m,rfl,by omega,by omega,by omega,g3.2,λtm ps H4 g4 h4 r4 gd l4=>⟨by show 2<=sizeLine;omega,λb hb=>?_⟩⟩)))⟩));have h3':=g4.aZ g3.2 _ _ h3;have tn:=bY.new (o:=HO.tup [V.ref tr,V.ref tm]) hb;refine q b af tr tm ps _ ((g2.trans (g3.trans g4)).new hb) ⟨xj,tn _ _ h3',tn _ _ h4,r4.aZ tn⟩ (by omega) (by omega) r3 ?_ (by omega);rw [l3];simpa using gd
theorem Ff:aC ["_law_purse_here", "_law_book_here", "_law_later", "_law_way", "_law_at"] ["_law_purse_here", "_law_book_here", "_law_later"] (ak qI):=L2.aX
theorem Ic (T:Tx K mg a):aQ P w K mg base ck 3 a.Bq a.Ct ["_law_purse_here", "_law_book_here", "_law_later"] (Nl):=by
 have Aa:=we P w base T;have J5:=IU P w base T;refine T.BS.ok Ff (λvs H Q E h=>?_) (λbL A outer s H vs Q E hr h=>?_)
 ·obtain ⟨p,b,j,_,_,_,_,rfl,_⟩:=h;rfl
 ·have nd:=Ff.nd;have hu:=hr.units;obtain ⟨p,b,j,af,tr,tm,ps,rfl,hj,hb,gd,hp,q⟩:=h;refine bS ?_;intro Y
  let B0:Bk Y ((aj qI).drop 6):=⟨_,(xi (wG (wB (wC qY (xx (xz rfl) (xx (xz rfl) (xx (xz rfl) (pv 1) xh (λ_ _=>rfl)) (pv 4) (λ_ _=>rfl)) xh (λ_ _=>rfl)) (xx (xu rfl) (wX (xf (xg xh (xg xh xp rfl) rfl))) (wC Tj (wC cF (xq Aa (hr.mono (by decide)) rfl T.Ab T.Ac T.Ae .nil aq (xf (xg (pv 0) (xg xh xp rfl) rfl))) xh) (pv 2)) (λ_ _=>rfl))))))⟩
  let B1:Bk Y (nb (aj qI) 5):=⟨_,(xi (wG (xy (i:=4) nd rfl rfl (xx (xu rfl) (wX (xf (xg (wC cF (pv 4) xh) (xg (wC cF (wC wO (pv 4) (xr (xw rfl) (by rfl) T.aM PySem.boot_len (xf (xg (xx (xz rfl) (pv 1) xh (λ_ _=>rfl)) xp rfl)))) xh) xp rfl) rfl))) (pv 2) (λ_ _=>rfl)))))⟩
  let B2:Bk Y ((aj qI).drop 4):=⟨_,(xi (wA (xy (i:=4) nd rfl rfl (xq Aa (hr.mono (by decide)) rfl T.Ab T.Ac T.Ae .nil aq (xf (xg (pv 0) (xg (xr (xw rfl) (by rfl) T.aM PySem.boot_len (xf (xg (xx (xz rfl) (pv 1) xh (λ_ _=>rfl)) xp rfl))) xp rfl) rfl)))) (wA (wN (wD fE (pv 3) xh (az _)) B1.ps wE) B0.bl)))⟩
  let B3:Bk Y ((aj qI).drop 3):=⟨_,(xi (wA (wN (wD (LS hu) (xx (xz rfl) (pv 1) xh (λ_ _=>rfl)) (qA qo) (az _)) (xi (wG (wB (xq Aa (hr.mono (by decide)) rfl T.Ab T.Ac T.Ae .nil aq (xf (xg (pv 0) (xg xh xp rfl) rfl)))))) wE) B2.bl))⟩
  let B4:Bk Y ((aj qI).drop 2):=⟨_,(xi (wA (wN (wD qT (pv 3) xh (az _)) (xi (wG (wB (xq J5 (hr.mono (by decide)) rfl T.JP T.JS T.JV .nil aq (xf (xg (pv 0) xp rfl)))))) wE) B3.bl))⟩
  let B5:Bk Y ((aj qI).drop 1):=⟨_,(xi (wA (wN (wD qT (pv 3) xh (az _)) (xi (wG (wB (xx (xu rfl) (wX (xf (xg xh (xg (wC jq xh xh) xp rfl) rfl))) (pv 2) (λ_ _=>rfl))))) wE) B4.bl))⟩
  refine ⟨_,(xi (wA (xy (i:=3) nd rfl rfl (xq Aa (hr.mono (by decide)) rfl T.Ab T.Ac T.Ae .nil aq (xf (xg (pv 0) (xg xh xp rfl) rfl)))) B5.bl)),?_⟩;have line:=aU;have mQ:(2:Int) ^ 200 > 10000:=by decide
  have c9:Pc 10 9:=⟨by decide,by decide,by decide⟩;have e9:(10:Int) ^ Int.toNat 9=1000000000:=by decide
  have WC:=gd.len;refine (zr rfl ⟨p,zr rfl ⟨by decide,by decide,hp,λway H1 w0 w1 g1=>?_⟩⟩);refine (zr rfl ⟨rfl,zr rfl (oR (λc=>?_) (λc=>(zr rfl ⟨rfl,zr rfl (oR (λc=>?_) (λc=>?_))⟩)))⟩)
  ·refine (aJ rfl rfl ⟨c9,by show 2<=sizeLine;omega,λl hl=>(zr rfl ?_)⟩);rcases hj with rfl | rfl
   ·exact (bV xj rfl (q _ _ (by omega) (by omega) (g1.new hl)))
   ·exact (bV xj rfl (q _ _ (by rw [e9];decide) (by rw [e9];decide) (g1.new hl)))
  ·exact (zr rfl ⟨p,rfl,g1.2,λd H2 d0 d1 g2=>q _ _ d0 d1 (g1.trans g2)⟩)
  have Mg:=hb.aZ (g1.aZ hp);refine (zr rfl (bP Mg.book rfl ⟨zo _,λu Vi=>?_⟩));have ML:=Mg.aZ (bY.new (o:=HO.tup []) Vi);have g2:=g1.new (o:=HO.tup []) Vi;refine ⟨tm,u,zr rfl ⟨rfl,aW.of ML.meets,aW.of xj,zr rfl (uS (λc2=>?_) (λc2=>?_))⟩⟩
  ·exact (zr rfl ⟨p,zr rfl ⟨by decide,by decide,g2.2,λd H3 d0 d1 g3=>q _ _ d0 (by omega) (g2.trans g3)⟩⟩)
  have lps:1<=ps.length:=by
   cases ps with
   | nil=>cases c2
   | cons _ _=>simp
  refine (zr rfl (zr rfl (bP ML.book rfl ⟨tm,zr rfl ⟨.inr (aW.of ML.meets),p,zr rfl ⟨by rw [zA];omega,by rw [zA];omega,g2.2,λd H3 d0 d1 g3=>?_⟩⟩⟩)));rw [zA] at d1;have Uq:=ML.aZ (g3.aZ g2.2);have gg3:=g2.trans g3;refine (zr rfl (aJ rfl rfl (zr rfl (oR (λc3=>?_) (λc3=>?_)))))
  ·refine (zr rfl (aJ rfl rfl ⟨⟨by decide,by decide⟩,zr rfl (zr rfl (bP Uq.book rfl ⟨tm,zr rfl ⟨.inr (aW.of Uq.meets),aJ rfl rfl (aJ rfl rfl ⟨⟨by decide,by decide⟩,by show 2<=sizeLine;omega,λl hl=>(zr rfl ?_)⟩)⟩⟩))⟩));have gx:=gg3.new (o:=HO.lst [V.int (d / 2),V.int ((d + ((ps.map λa=>V.ref a.1).length:Int)) / 2)]) hl;have hx:=Uq.aZ (bY.new (o:=HO.lst [V.int (d / 2),V.int ((d + ((ps.map λa=>V.ref a.1).length:Int)) / 2)]) hl);obtain ⟨k,ek,hk⟩:∃ k:Nat,dU [V.int (d / 2),V.int ((d + ((ps.map λa=>V.ref a.1).length:Int)) / 2)] j=some (V.int (k:Int))/\k < ps.length:=by
    rcases hj with rfl | rfl
    ·obtain ⟨k,hk⟩:=zn (show 0<=d / 2 by omega);exact ⟨k,by rw [<-hk];rfl,by omega⟩
    ·obtain ⟨k,hk⟩:=zn (show 0<=(d + ((ps.map λa=>V.ref a.1).length:Int)) / 2 by omega);refine ⟨k,by rw [<-hk];rfl,?_⟩;rw [zA] at hk;omega
   refine (bV xj ek ?_);refine (zr rfl (bP hx.book rfl (zr rfl (bP hx.meets (wP (v:=V.ref ps[k].1) (by simp [hk])) (bP (hx.rows _ (z4 hk)) rfl ⟨by show 2<=sizeLine;omega,λl9 QW=>?_⟩)))));have g9:=gx.new (o:=HO.lst [V.int 1,V.int 0]) QW;refine (zr rfl ⟨p,zr rfl ⟨by decide,by decide,g9.2,λe H9 e0 e1 jy=>(aJ rfl rfl ⟨⟨by decide,by decide⟩,zr rfl (aJ rfl rfl ?_)⟩)⟩⟩);have h9:=jy.1 l9 _ (gx.2.ne QW) xj;have tb:=gd.at (z4 hk);have bx:(e / 3=0\/e / 3=1):=by omega
   rcases hj with rfl | rfl <;> rcases bx with bx | bx <;> rw [bx]
   ·exact (bV h9 (by decide:dU [V.int 1,V.int 0] (Builtin.bitXor 0 0)=some (V.int 1)) (aJ rfl rfl (q _ _ (by omega) (by omega) (g9.trans jy))))
   ·exact (bV h9 (by decide:dU [V.int 1,V.int 0] (Builtin.bitXor 1 0)=some (V.int 0)) (aJ rfl rfl (q _ _ (by omega) (by omega) (g9.trans jy))))
   ·exact (bV h9 (by decide:dU [V.int 1,V.int 0] (Builtin.bitXor 0 1)=some (V.int 0)) (aJ rfl rfl (q _ _ (by omega) (by omega) (g9.trans jy))))
   ·exact (bV h9 (by decide:dU [V.int 1,V.int 0] (Builtin.bitXor 1 1)=some (V.int 1)) (aJ rfl rfl (q _ _ (by omega) (by omega) (g9.trans jy))))
  ·have gx:=gg3;have hx:=Uq;obtain ⟨k,rfl⟩:=zn d0;have hk:k < ps.length:=by omega
   refine (zr rfl (bP hx.book rfl (zr rfl (bP hx.meets (wP (v:=V.ref ps[k].1) (by simp [hk])) (bP (hx.rows _ (z4 hk)) rfl ⟨by show 2<=sizeLine;omega,λl9 QW=>?_⟩)))));have g9:=gx.new (o:=HO.lst [V.int 1,V.int 0]) QW;refine (zr rfl ⟨p,zr rfl ⟨by decide,by decide,g9.2,λe H9 e0 e1 jy=>(aJ rfl rfl ⟨⟨by decide,by decide⟩,zr rfl (aJ rfl rfl ?_)⟩)⟩⟩);have h9:=jy.1 l9 _ (gx.2.ne QW) xj;have tb:=gd.at (z4 hk);have bx:(e / 3=0\/e / 3=1):=by omega
   rcases hj with rfl | rfl <;> rcases bx with bx | bx <;> rw [bx]
   ·exact (bV h9 (by decide:dU [V.int 1,V.int 0] (Builtin.bitXor 0 0)=some (V.int 1)) (aJ rfl rfl (q _ _ (by omega) (by omega) (g9.trans jy))))
   ·exact (bV h9 (by decide:dU [V.int 1,V.int 0] (Builtin.bitXor 1 0)=some (V.int 0)) (aJ rfl rfl (q _ _ (by omega) (by omega) (g9.trans jy))))
   ·exact (bV h9 (by decide:dU [V.int 1,V.int 0] (Builtin.bitXor 0 1)=some (V.int 0)) (aJ rfl rfl (q _ _ (by omega) (by omega) (g9.trans jy))))
   ·exact (bV h9 (by decide:dU [V.int 1,V.int 0] (Builtin.bitXor 1 1)=some (V.int 1)) (aJ rfl rfl (q _ _ (by omega) (by omega) (g9.trans jy))))
theorem ER:aC ["_law_thing"] ["_law_thing"] (ak DK):=L2.aX
theorem HE (T:Tx K mg a):aQ P w K mg base ck 1 a.Bc a.Ce ["_law_thing"] (vW):=by
 refine T.BD.ok ER (λvs H Q E h=>?_) (λbL A outer s H vs Q E hr h=>?_)
 ·obtain ⟨x,t,rfl,_⟩:=h;rfl
 ·have nd:=ER.nd;have hu:=hr.units;obtain ⟨x,t,rfl,ht,k⟩:=h;refine ⟨_,(xi (wG (wB (cg (xr (wY) (by rfl) T.aI zX (xf (xg (pv 0) (xg (qU (v:=V.ty "int") rfl T.tM xB rfl) xp rfl) rfl))) (dO (NO (xr (wY) (by rfl) T.aI zX (xf (xg (pv 0) (xg (qU (v:=V.ty "bool") rfl T.vD PyProof.Rows.boot_bool rfl) xp rfl) rfl))))))))),?_⟩;refine (zr rfl ⟨x,t, "int", rfl,ht,.inl rfl,zr rfl ?_⟩);rcases dD ht with rfl | rfl | rfl | rfl | rfl | rfl | rfl <;> first | exact av rfl k | exact aE rfl ⟨_,rfl,x,_, "bool", rfl,ht,.inr (.inl rfl),_,rfl,k⟩
theorem Gr:aC ["thing"] ["thing"] (ak EY):=L2.aX
theorem Gx (T:Tx K mg a):aQ P w K mg base ck 1 a.BJ a.CP ["thing"] (vW):=by
 refine T.Ck.ok Gr (λvs H Q E h=>?_) (λbL A outer s H vs Q E hr h=>?_)
 ·obtain ⟨x,t,rfl,_⟩:=h;rfl
 ·have nd:=Gr.nd;have hu:=hr.units;obtain ⟨x,t,rfl,ht,k⟩:=h;refine ⟨_,(xi (wG (wB (cg (xr (wY) (by rfl) T.aI zX (xf (xg (pv 0) (xg (qU (v:=V.ty "int") rfl T.tM xB rfl) xp rfl) rfl))) (dO (NO (xr (wY) (by rfl) T.aI zX (xf (xg (pv 0) (xg (qU (v:=V.ty "bool") rfl T.vD PyProof.Rows.boot_bool rfl) xp rfl) rfl))))))))),?_⟩;simp only [OF,K4,Q2,PR,Yk,j4,Q0,vU,YM,rU,NC,NB,Kz,Na,uf,PZ,PV,Sv,VC,MD,rI,M8,tC,iW,vS,VF,p8,Nb,vV,Su,vQ,kC,p6,tB,PX,P0,Yj,vR,Yx,Yw,Nv,VQ,Yp,Yq,kD,PU,PY,Yi,jZ,p7,pA,L2.start,zY,yn,zk,yf,Nat.reduceAdd,Nat.reduceSub,List.replicate,yt,List.nil_append,yK,List.getElem?_cons_zero,yq,Option.some.injEq,exists_eq_left',exists_eq_left,exists_and_left,and_assoc,V.int.injEq,V.ty.injEq,V.str.injEq,V.bl.injEq,V.ref.injEq,List.cons.injEq,and_true,true_and,List.set_cons_zero,List.set_cons_succ];simp only [V.ty.injEq,ht,Option.some.injEq,exists_eq_left',exists_and_left,true_or,or_true,true_and];rcases dD ht with rfl | rfl | rfl | rfl | rfl | rfl | rfl <;> simpa [sH] using k
theorem Fc:aC ["thing", "least", "most"] ["thing", "least", "most"] (ak Ed):=L2.aX
theorem Fo (T:Tx K mg a):aQ P w K mg base ck 2 a.Bn a.Cq ["thing", "least", "most"] (Ni):=by
 have E9:=Gx P w base T;refine T.BP.ok Fc (λvs H Q E h=>?_) (λbL A outer s H vs Q E hr h=>?_)
 ·obtain ⟨x,t,lo,hi,rfl,_⟩:=h;rfl
 ·have nd:=Fc.nd;have hu:=hr.units;obtain ⟨x,t,lo,hi,rfl,ht,k⟩:=h;refine ⟨_,(xi (wG (wB (cg (xq E9 (hr.mono (by decide)) rfl T.Hc T.Hh T.Hl .nil aq (xf (xg (pv 0) xp rfl))) (dO (NQ fD fD (pv 1) (pv 0) (pv 2))))))),?_⟩;simp only [OF,K4,Q2,PR,Yk,j4,Q0,vU,YM,rU,NC,NB,Kz,Na,uf,PZ,PV,Sv,VC,MD,rI,M8,tC,iW,vS,VF,p8,Nb,vV,Su,vQ,kC,p6,tB,PX,P0,Yj,vR,Yx,Yw,Nv,VQ,Yp,Yq,kD,PU,PY,Yi,jZ,p7,pA,L2.start,zY,yn,zk,yf,Nat.reduceAdd,Nat.reduceSub,List.replicate,yt,List.nil_append,yK,List.getElem?_cons_zero,yq,Option.some.injEq,exists_eq_left',exists_eq_left,exists_and_left,and_assoc,V.int.injEq,V.ty.injEq,V.str.injEq,V.bl.injEq,V.ref.injEq,List.cons.injEq,and_true,true_and,List.set_cons_zero,List.set_cons_succ];refine ⟨x,t,rfl,ht,zr rfl ?_⟩;by_cases h:t = "int"
  ·subst h;obtain ⟨i,rfl⟩:=vM ht;simp only [OF,K4,Q2,PR,Yk,j4,Q0,vU,YM,rU,NC,NB,Kz,Na,uf,PZ,PV,Sv,VC,MD,rI,M8,tC,iW,vS,VF,p8,Nb,vV,Su,vQ,kC,p6,tB,PX,P0,Yj,vR,Yx,Yw,Nv,VQ,Yp,Yq,kD,PU,PY,Yi,jZ,p7,pA,L2.start,zY,yn,zk,yf,Nat.reduceAdd,Nat.reduceSub,List.replicate,yt,List.nil_append,yK,List.getElem?_cons_zero,yq,Option.some.injEq,exists_eq_left',exists_eq_left,exists_and_left,and_assoc,V.int.injEq,V.ty.injEq,V.str.injEq,V.bl.injEq,V.ref.injEq,List.cons.injEq,and_true,true_and,List.set_cons_zero,List.set_cons_succ];by_cases h1:lo<=i
   ·simpa [h1,KY] using k
   ·simpa [h1,KY] using k
  ·rw [T6 ht h] at k;simpa [h] using k
theorem Gs:aC ["thing"] ["thing"] (ak EZ):=L2.aX
theorem Eg (T:Tx K mg a):aQ P w K mg base ck 2 a.BK a.CQ ["thing"] (Qg):=by
 have E9:=Gx P w base T;refine T.Cl.ok Gs (λvs H Q E h=>?_) (λbL A outer s H vs Q E hr h=>?_)
 ·obtain ⟨x,t,rfl,_⟩:=h;rfl
 ·have nd:=Gs.nd;have hu:=hr.units;obtain ⟨x,t,rfl,ht,k⟩:=h;refine ⟨_,(xi (wG (wB (cg (xq E9 (hr.mono (by decide)) rfl T.Hc T.Hh T.Hl .nil aq (xf (xg (pv 0) xp rfl))) (dO (wx nj (pv 0) xh (az _))))))),?_⟩;refine (zr rfl ⟨x,t,rfl,ht,zr rfl ?_⟩);by_cases h:t = "int"
  ·subst h;obtain ⟨i,rfl⟩:=vM ht;exact aE rfl (zr rfl (aJ rfl rfl k))
  ·refine av (by simpa using h) ?_;have e:Ms x=false:=by
    cases x <;> first | rfl | exact absurd (Option.some.inj ht).symm h
   rwa [e] at k
theorem EQ:aC ["thing", "size"] ["thing", "size"] (ak Dc):=L2.aX
theorem HD (T:Tx K mg a):aQ P w K mg base ck 3 a.Bb a.Cd ["thing", "size"] (Nr):=by
 have CV:=Eg P w base T;refine T.BC.ok EQ (λvs H Q E h=>?_) (λbL A outer s H vs Q E hr h=>?_)
 ·obtain ⟨_,_,_,rfl,_⟩:=h;rfl
 ·have nd:=EQ.nd;have hu:=hr.units;obtain ⟨l,ns,n,rfl,hl,hn,Tv,pos,q⟩:=h;refine ⟨_,(xi (wG (wB (cg (xr (wY) (by rfl) T.aI zX (xf (xg (pv 0) (xg (qU (v:=V.ty "list") rfl T.iB yZ rfl) xp rfl) rfl))) (cg (wx qT (xr (xw rfl) (by rfl) T.aM PySem.boot_len (xf (xg (pv 0) xp rfl))) (pv 1) (az _)) (dO (xr (qp rfl rfl) (by rfl) T.gX yI (xf (xg (wc (own:=["number"]) (caps:=[]) rfl (show ay ["number"] [] ["thing", "size"] (ak Dc) _ from L2.bR) (wZ rfl (pv 0)) (λ_ _ _ _=>(xm (i:=0) (show List.Nodup (["number"]:List Str) from by decide +kernel) rfl rfl)) (λ_ _ _ _=>wT) (λ_ _ _ _=>(xq CV (hr.mono (by decide)) rfl T.DM T.DN T.DO .nil aq (xf (xg (pv 0) xp rfl))))) xp rfl))))))))),?_⟩;have line:=aU;refine (zr rfl ⟨_, "list", "list", rfl,cy hl,.inr (.inr (.inl rfl)),zr rfl (aE rfl (zr rfl ⟨l,zr rfl ⟨.inl (aB.of hl),zr rfl ⟨rfl,zr rfl (aE (decide_eq_true (by rw [zA,hn])) ?_)⟩⟩⟩))⟩);refine (zr rfl ⟨l,rfl,⟨_,aB.of hl⟩,?_⟩);refine (let W3:IC:=λi τ acc H5=>(∃ t0,τ=[t0])/\acc=(List.replicate i true).map V.bl/\au H H5;wV (K:=K) (a:=l) (xs:=List.map V.int ns) W3 ⟨⟨_,rfl⟩,rfl,au.refl _⟩ (by rw [zA];omega) ?_ ?_ ?_)
  ·rintro i τ acc H5 ⟨_,rfl,sm⟩;exact ⟨by simp,aB.of (sm _ _ hl)⟩
  ·rintro i v τ acc H5 C hv ⟨⟨t0,rfl⟩,rfl,sm⟩ hC;obtain ⟨x,hx,rfl⟩:=wF hv;refine (zr rfl ⟨_, "int", rfl,rfl,hC _ _ _ ⟨⟨_,rfl⟩,?_,sm⟩⟩);rw [show Ms (.int x)=true from decide_eq_true (pos x (zB hx)),List.replicate_succ',zD];rfl
  ·rintro τ acc H5 ⟨⟨t0,rfl⟩,rfl,sm⟩ lc fH;refine ⟨lc,zr rfl ⟨aB.of xj,?_⟩⟩;rw [show ((List.replicate (List.map V.int ns).length true).all id)=true by rw [zc];intro x hx;exact (List.mem_replicate.mp hx).2];exact q _ (sm.trans (xl fH))
theorem D1:aC ["loads", "wants", "thing", "there", "back", "begun", "come"] ["loads", "wants", "thing"] (ak qQ):=L2.aX
theorem GH (T:Tx K mg a):aQ P w K mg base ck 4 a.AB a.Bi ["loads", "wants", "thing"] (LB):=by
 have CV:=Eg P w base T;have FN:=HD P w base T;refine T.AR.ok D1 (λvs H Q E h=>?_) (λbL A outer s H vs Q E hr h=>?_)
 ·obtain ⟨_,_,_,_,_,rfl,_⟩:=h;rfl
 ·have nd:=D1.nd;have hu:=hr.units;obtain ⟨ll,lw,ls,ws,x,rfl,hl,hw,fY,iG,hx,ok,q⟩:=h;refine bS ?_;intro Y
  let B0:Bk Y ((aj qQ).drop 3):=⟨_,(xi (wG (wB (cg (xq FN (hr.mono (by decide)) rfl T.Fv T.FA T.FF .nil aq (xf (xg (pv 5) (xg (xr (xw rfl) (by rfl) T.aM PySem.boot_len (xf (xg (pv 0) xp rfl))) xp rfl) rfl))) (dO (xq FN (hr.mono (by decide)) rfl T.Fv T.FA T.FF .nil aq (xf (xg (pv 6) (xg (xr (xw rfl) (by rfl) T.aM PySem.boot_len (xf (xg (pv 1) xp rfl))) xp rfl) rfl))))))))⟩
  let B1:Bk Y ((aj qQ).drop 2):=⟨_,(xi (wA (wN (@PW.pt _ _ _ (qa (wU (wL (xq CV (hr.mono (by decide)) rfl T.DM T.DN T.DO .nil aq (xf (xg (pv 3) xp rfl))))) (qK (wU (wL (xq CV (hr.mono (by decide)) rfl T.DM T.DN T.DO .nil aq (xf (xg (pv 4) xp rfl)))))))) (xi (wG (wB qM))) wE) B0.bl))⟩
  let B2:Bk Y ((aj qQ).drop 1):=⟨_,(xi (wA (wg (pv 2) (wI (n:=4) rfl rfl (xo (xm (i:=3) nd rfl rfl) (xo (xm (i:=4) nd rfl rfl) (xo (xm (i:=5) nd rfl rfl) (xo (xm (i:=6) nd rfl rfl) wH)))))) B1.bl))⟩
  refine ⟨_,(xi (wA (wN (@PW.pt _ _ _ (qa (wU (wL (xr (wY) (by rfl) T.aI zX (xf (xg (pv 2) (xg (qU (v:=V.ty "tuple") rfl T.gH yj rfl) xp rfl) rfl))))) (qK (wD kW (xr (xw rfl) (by rfl) T.aM PySem.boot_len (xf (xg (pv 2) xp rfl))) xh (az _))))) (xi (wG (wB qM))) wE) B2.bl)),?_⟩;have line:=aU;refine (zr rfl ⟨_, "tuple", "tuple", rfl,qO hx.a,.inr (.inr (.inr rfl)),zr rfl (av rfl (zr rfl ⟨x.a,zr rfl ⟨.inr (aW.of hx.a),rfl,zr rfl (av rfl ?_)⟩⟩))⟩);refine (zr rfl (U5 hx.a ?_));have e1:Ms (.int x.r.th)=true:=decide_eq_true ok.th;have e2:Ms (.int x.r.bk)=true:=decide_eq_true ok.bk;refine (zr rfl ⟨_, "int", rfl,rfl,zr rfl (av (by rw [e1];rfl) (zr rfl ⟨_, "int", rfl,rfl,zr rfl (av (by rw [e2];rfl) ?_)⟩))⟩);refine (zr rfl (zr rfl ⟨ll,zr rfl ⟨.inl (aB.of hl.l),x.b,x.r.bg,zr rfl ⟨hx.b,by rw [ok.bl,zA],by rw [zA];exact fY,ok.b0,λH1 s1=>(zr rfl (aE rfl ?_))⟩⟩⟩));exact (zr rfl (zr rfl ⟨lw,zr rfl ⟨.inl (aB.of (s1 _ _ hw.l)),x.c,x.r.cm,zr rfl ⟨s1 _ _ hx.c,by rw [ok.cl,zA],by rw [zA];exact iG,ok.c0,λH2 s2=>q _ (s1.trans s2)⟩⟩⟩))
theorem C1:aC ["loads", "wants", "thing", "load", "want", "many"] ["loads", "wants", "thing"] (ak w6):=L2.aX
theorem Eh (T:Tx K mg a):aQ P w K mg base ck 3 a.Ag a.Aq ["loads", "wants", "thing"] (Lz):=by
 have Dt:=Fo P w base T;have CV:=Eg P w base T;refine T.Ai.ok C1 (λvs H Q E h=>?_) (λbL A outer s H vs Q E hr h=>?_)
 ·obtain ⟨_,_,_,_,_,_,rfl,_⟩:=h;rfl
 ·have nd:=C1.nd;have hu:=hr.units;obtain ⟨ll,lw,ls,ws,a,t,rfl,hl,hw,ha,ok,q⟩:=h;refine bS ?_;intro Y
  let B0:Bk Y ((aj w6).drop 3):=⟨_,(xi (wG (wB (cg (xq CV (hr.mono (by decide)) rfl T.DM T.DN T.DO .nil aq (xf (xg (pv 5) xp rfl))) (dO (wx fE (pv 5) xh (az _)))))))⟩
  let B1:Bk Y ((aj w6).drop 2):=⟨_,(xi (wA (wN (@PW.pt _ _ _ (qa (wU (wL (xq Dt (hr.mono (by decide)) rfl T.Ei T.Ej T.Ek .nil aq (xf (xg (pv 3) (xg xh (xg (wC qY (xr (xw rfl) (by rfl) T.aM PySem.boot_len (xf (xg (pv 0) xp rfl))) xh) xp rfl) rfl) rfl))))) (qK (wU (wL (xq Dt (hr.mono (by decide)) rfl T.Ei T.Ej T.Ek .nil aq (xf (xg (pv 4) (xg xh (xg (wC qY (xr (xw rfl) (by rfl) T.aM PySem.boot_len (xf (xg (pv 1) xp rfl))) xh) xp rfl) rfl) rfl)))))))) (xi (wG (wB qM))) wE) B0.bl))⟩
  refine ⟨_,(xi (wA (wN (@PW.pt _ _ _ (qa (wU (wL (xr (wY) (by rfl) T.aI zX (xf (xg (pv 2) (xg (qU (v:=V.ty "tuple") rfl T.gH yj rfl) xp rfl) rfl))))) (qK (wD kW (xr (xw rfl) (by rfl) T.aM PySem.boot_len (xf (xg (pv 2) xp rfl))) xh (az _))))) (xi (wG (wB qM))) wE) (wA (wg (pv 2) (wI (n:=3) rfl rfl (xo (xm (i:=3) nd rfl rfl) (xo (xm (i:=4) nd rfl rfl) (xo (xm (i:=5) nd rfl rfl) wH))))) B1.bl))),?_⟩;have line:=aU;refine (zr rfl ⟨_, "tuple", "tuple", rfl,qO ha,.inr (.inr (.inr rfl)),zr rfl (av rfl (zr rfl ⟨a,zr rfl ⟨.inr (aW.of ha),rfl,zr rfl (av rfl ?_)⟩⟩))⟩);refine (zr rfl (MZ ha ?_));have ek:=ok.k;have ej:=ok.j;refine (zr rfl (zr rfl ⟨ll,zr rfl ⟨.inl (aB.of hl.l),aJ rfl rfl ⟨_, "int", aJ rfl rfl (zr rfl (av (by rw [zA];simp [KY];omega) ?_))⟩⟩⟩));refine (zr rfl (zr rfl ⟨lw,zr rfl ⟨.inl (aB.of hw.l),aJ rfl rfl ⟨_, "int", aJ rfl rfl (zr rfl (av (by rw [zA];simp [KY];omega) ?_))⟩⟩⟩));have e1:Ms (.int t.m)=true:=decide_eq_true (by have:=ok.m;omega);refine (zr rfl ⟨_, "int", rfl,rfl,zr rfl (aE e1 (zr rfl (aJ rfl rfl ?_)))⟩);show Q (V.bl (decide (0 < t.m))) H;rw [decide_eq_true ok.m];exact q _ (au.refl _)
theorem Dz:aC ["book", "loads", "wants", "thing", "rows", "straight"] ["book", "loads", "wants", "thing"] (ak wu):=L2.aX
theorem FS (T:Tx K mg a):aQ P w K mg base ck 5 a.Ar a.AU ["book", "loads", "wants", "thing"] (um):=by
 have Hu:=GH P w base T;have EK:=Eh P w base T;refine T.AF.ok Dz (λvs H Q E h=>?_) (λbL A outer s H vs Q E hr h=>?_)
 ·obtain ⟨_,_,_,_,_,_,_,_,_,_,_,_,_,_,rfl,_⟩:=h;rfl
 ·have nd:=Dz.nd;have hu:=hr.units;obtain ⟨b,ll,lw,p,af,tr,tm,ps,ls,ws,lr,lt,xs,ts,rfl,hb,hl,hw,hp,ok,q⟩:=h;refine bS ?_;intro Y
  let B0:Bk Y ((aj wu).drop 4):=⟨_,(xi (wG (wB (xr (qp rfl rfl) (by rfl) T.gX yI (xf (xg (wc (own:=["part"]) (caps:=[1,2]) rfl (show ay ["part"] [1,2] ["book", "loads", "wants", "thing", "rows", "straight"] (ak wu) _ from L2.bR) (wZ rfl (pv 5)) (λ_ _ _ _=>(xm (i:=0) (show List.Nodup (["part", "loads", "wants"]:List Str) from by decide +kernel) rfl rfl)) (λ_ _ _ _=>wT) (λ_ _ _ _=>(xq EK (hr.mono (by decide)) rfl T.EC T.EE T.EG .nil aq (xf (xg (pv 1) (xg (pv 2) (xg (pv 0) xp rfl) rfl) rfl))))) xp rfl))))))⟩
  let B1:Bk Y ((aj wu).drop 3):=⟨_,(xi (wA (wN (wU (wL (xr (qp rfl rfl) (by rfl) T.gX yI (xf (xg (wc (own:=["row"]) (caps:=[1,2]) rfl (show ay ["row"] [1,2] ["book", "loads", "wants", "thing", "rows", "straight"] (ak wu) _ from L2.bR) (wZ rfl (pv 4)) (λ_ _ _ _=>(xm (i:=0) (show List.Nodup (["row", "loads", "wants"]:List Str) from by decide +kernel) rfl rfl)) (λ_ _ _ _=>wT) (λ_ _ _ _=>(xq Hu (hr.mono (by decide)) rfl T.Hd T.Hi T.Hm .nil aq (xf (xg (pv 1) (xg (pv 2) (xg (pv 0) xp rfl) rfl) rfl))))) xp rfl))))) (xi (wG (wB qM))) wE) B0.bl))⟩
  let B2:Bk Y ((aj wu).drop 2):=⟨_,(xi (wA (wN (@PW.pt _ _ _ (qa (wU (wL (xr (wY) (by rfl) T.aI zX (xf (xg (pv 4) (xg (qU (v:=V.ty "list") rfl T.iB yZ rfl) xp rfl) rfl))))) (qa (wD kW (xr (xw rfl) (by rfl) T.aM PySem.boot_len (xf (xg (pv 4) xp rfl))) (xr (xw rfl) (by rfl) T.aM PySem.boot_len (xf (xg (xx (xz rfl) (pv 0) xh (λ_ _=>rfl)) xp rfl))) (az _)) (qK (wU (wL (xr (wY) (by rfl) T.aI zX (xf (xg (pv 5) (xg (qU (v:=V.ty "list") rfl T.iB yZ rfl) xp rfl) rfl))))))))) (xi (wG (wB qM))) wE) B1.bl))⟩
  refine ⟨_,(xi (wA (wN (@PW.pt _ _ _ (qa (wU (wL (xr (wY) (by rfl) T.aI zX (xf (xg (pv 3) (xg (qU (v:=V.ty "tuple") rfl T.gH yj rfl) xp rfl) rfl))))) (qK (wD kW (xr (xw rfl) (by rfl) T.aM PySem.boot_len (xf (xg (pv 3) xp rfl))) xh (az _))))) (xi (wG (wB qM))) wE) (wA (wg (pv 3) (wI (n:=2) rfl rfl (xo (xm (i:=4) nd rfl rfl) (xo (xm (i:=5) nd rfl rfl) wH)))) B2.bl))),?_⟩;have line:=aU;have pN:=ok.pN;have P4:=ok.t;have ln:=ok.n;refine (zr rfl ⟨_, "tuple", "tuple", rfl,qO hp.p,.inr (.inr (.inr rfl)),zr rfl (av rfl (zr rfl ⟨p,zr rfl ⟨.inr (aW.of hp.p),rfl,zr rfl (av rfl ?_)⟩⟩))⟩);refine (zr rfl (pU hp.p ?_));refine (zr rfl ⟨_, "list", "list", rfl,cy hp.lr,.inr (.inr (.inl rfl)),zr rfl (av rfl (zr rfl ⟨lr,zr rfl ⟨.inl (aB.of hp.lr),zr rfl (bP hb.book rfl ⟨tm,zr rfl ⟨.inr (aW.of hb.meets),rfl,zr rfl (av (by rw [zA,zA,ln];simp) (zr rfl ⟨_, "list", "list", rfl,cy hp.ls,.inr (.inr (.inl rfl)),zr rfl (av rfl ?_)⟩))⟩⟩)⟩⟩))⟩);refine (zr rfl ⟨lr,rfl,⟨_,aB.of hp.lr⟩,?_⟩);refine (let W4:IC:=λi τ acc H5=>(∃ t0,τ=[t0,some (.ref ll),some (.ref lw)])/\acc=(List.replicate i true).map V.bl/\au H H5;wV (K:=K) (a:=lr) (xs:=xs.map λx=>V.ref x.a) W4 ⟨⟨_,rfl⟩,rfl,au.refl _⟩ (by rw [zA];omega) ?_ ?_ ?_)
  ·rintro i τ acc H5 ⟨_,rfl,sm⟩;exact ⟨by simp,aB.of (sm _ _ hp.lr)⟩
  ·rintro i v τ acc H5 C hv ⟨⟨t0,rfl⟩,rfl,sm⟩ hC;obtain ⟨x,hx,rfl⟩:=wF hv;have mx:=zB hx;refine (zr rfl (zr rfl (zr rfl ⟨ll,lw,ls,ws,x,rfl,hl.same sm,hw.same sm,ok.l,ok.w,(hp.rows x mx).same sm,ok.rows x mx,λH6 s6=>hC _ _ _ ⟨⟨_,rfl⟩,?_,sm.trans s6⟩⟩)));rw [List.replicate_succ',zD];rfl
  ·rintro τ acc H5 ⟨⟨t0,rfl⟩,rfl,sm⟩ lc fH;refine ⟨lc,zr rfl ⟨aB.of xj,zr rfl (av ?_ ?_)⟩⟩
   ·rw [show ((List.replicate (List.map (λx:RA=>V.ref x.a) xs).length true).all id)=true by rw [zc];intro x hx;exact (List.mem_replicate.mp hx).2];rfl
   have s1:=sm.trans (xl (o:=HO.lst ((List.replicate (List.map (λx:RA=>V.ref x.a) xs).length true).map V.bl)) fH);generalize upd H5 lc _=H6 at s1 ⊢;refine (zr rfl ⟨lt,rfl,⟨_,aB.of (s1 _ _ hp.ls)⟩,?_⟩);refine (let W5:IC:=λi τ acc H5=>(∃ t0,τ=[t0,some (.ref ll),some (.ref lw)])/\acc=(List.replicate i true).map V.bl/\au H H5;wV (K:=K) (a:=lt) (xs:=ts.map λx=>V.ref x.1) W5 ⟨⟨_,rfl⟩,rfl,s1⟩ (by rw [zA];omega) ?_ ?_ ?_)
   ·rintro i τ acc H5 ⟨_,rfl,sm⟩;exact ⟨by simp,aB.of (sm _ _ hp.ls)⟩
   ·rintro i v τ acc H5 C hv ⟨⟨t0,rfl⟩,rfl,sm⟩ hC;obtain ⟨x,hx,rfl⟩:=wF hv;have mx:=zB hx;refine (zr rfl (zr rfl (zr rfl ⟨ll,lw,ls,ws,x.1,x.2,rfl,hl.same sm,hw.same sm,sm _ _ (hp.ones x mx),ok.ones x mx,λH6 s6=>hC _ _ _ ⟨⟨_,rfl⟩,?_,sm.trans s6⟩⟩)));rw [List.replicate_succ',zD];rfl
   ·rintro τ acc H5 ⟨⟨t0,rfl⟩,rfl,sm⟩ lc fH;refine ⟨lc,zr rfl ⟨aB.of xj,?_⟩⟩;rw [show ((List.replicate (List.map (λx:Addr×T3=>V.ref x.1) ts).length true).all id)=true by rw [zc];intro x hx;exact (List.mem_replicate.mp hx).2];exact q _ (sm.trans (xl fH))
theorem Ea:aC ["load", "want"] ["load", "want"] (ak Du):=L2.aX
theorem Ef (T:Tx K mg a):aQ P w K mg base ck 1 a.AK a.BH ["load", "want"] (rA):=by
 refine T.Bg.ok Ea (λvs H Q E h=>?_) (λbL A outer s H vs Q E hr h=>?_)
 ·obtain ⟨_,_,_,_,rfl,_⟩:=h;rfl
 ·have nd:=Ea.nd;have hu:=hr.units;obtain ⟨a,b,l,w,rfl,ha,hb,q⟩:=h;refine ⟨_,(xi (wG (wB (cg (wx qT (xx (xz rfl) (pv 0) xh (λ_ _=>rfl)) (xx (xz rfl) (pv 1) xh (λ_ _=>rfl)) (az _)) (dO (wx fD (xx (xz rfl) (pv 0) xh (λ_ _=>rfl)) (xx (xz rfl) (pv 1) xh (λ_ _=>rfl)) (az _))))))),?_⟩;refine (zr rfl (bP ha rfl (zr rfl (bP hb rfl ⟨rfl,zr rfl ?_⟩))));by_cases c:l.w=w.w
  ·refine aE (decide_eq_true (by rw [c])) (zr rfl (bP ha rfl (zr rfl (bP hb rfl (aJ rfl rfl ?_)))));rwa [show b7 l w=decide (l.t<=w.t) by unfold b7;rw [decide_eq_true c];rfl] at q
  ·refine av (decide_eq_false (λz=>c (V.int.inj z))) ?_;rwa [show b7 l w=false by unfold b7;rw [decide_eq_false c];rfl] at q
theorem Dg:aC ["loads", "wants", "straight", "pairs"] ["loads", "wants", "straight"] (ak wk):=L2.aX
theorem E1 (T:Tx K mg a):aQ P w K mg base ck 2 a.Aj a.AE ["loads", "wants", "straight"] (VL):=by
 have Dy:=Ef P w base T;refine T.Ao.ok Dg (λvs H Q E h=>?_) (λbL A outer s H vs Q E hr h=>?_)
 ·obtain ⟨_,_,_,_,_,_,rfl,_⟩:=h;rfl
 ·have nd:=Dg.nd;have hu:=hr.units;obtain ⟨ll,lw,lt,ls,ws,ts,rfl,hl,hw,ht,he,P4,ok,Wk,q⟩:=h;refine bS ?_;intro Y
  let B0:Bk Y ((aj wk).drop 2):=⟨_,(xi (wG (wB (xr (qp rfl rfl) (by rfl) T.gX yI (xf (xg (wc (own:=["load", "want"]) (caps:=[0,1]) rfl (show ay ["load", "want"] [0,1] ["loads", "wants", "straight", "pairs"] (ak wk) _ from L2.bR) (wZ rfl (pv 3)) (λ_ _ _ _=>(wI (n:=2) rfl rfl (xo (xm (i:=0) (show List.Nodup (["load", "want", "loads", "wants"]:List Str) from by decide +kernel) rfl rfl) (xo (xm (i:=1) (show List.Nodup (["load", "want", "loads", "wants"]:List Str) from by decide +kernel) rfl rfl) wH)))) (λ_ _ _ _=>wT) (λ_ _ _ _=>(xq Dy (hr.mono (by decide)) rfl T.EV T.EW T.EX .nil aq (xf (xg (xx (xu rfl) (pv 2) (pv 0) (λ_ _=>rfl)) (xg (xx (xu rfl) (pv 3) (pv 1) (λ_ _=>rfl)) xp rfl) rfl))))) xp rfl))))))⟩
  let B1:Bk Y ((aj wk).drop 1):=⟨_,(xi (wA (wN (wD kW (xr (Mt) (by rfl) T.aM PySem.boot_len (xf (xg (b9 (vA rfl hu) (by rfl) T.XW PyProof.Rows.boot_set (xf (xg (pv 3) xp rfl))) xp rfl))) (xr (xw rfl) (by rfl) T.aM PySem.boot_len (xf (xg (pv 3) xp rfl))) (az _)) (xi (wG (wB qM))) wE) B0.bl))⟩
  refine ⟨_,(xi (wA (qb (ix:=3) nd rfl rfl (own:=["load", "want", "many"]) (caps:=[]) rfl (show ay ["load", "want", "many"] [] ["loads", "wants", "straight", "pairs"] (ak wk) _ from L2.bR) (wZ rfl (pv 2)) (λ_ _ _ _=>(wI (n:=3) rfl rfl (xo (xm (i:=0) (show List.Nodup (["load", "want", "many"]:List Str) from by decide +kernel) rfl rfl) (xo (xm (i:=1) (show List.Nodup (["load", "want", "many"]:List Str) from by decide +kernel) rfl rfl) (xo (xm (i:=2) (show List.Nodup (["load", "want", "many"]:List Str) from by decide +kernel) rfl rfl) wH))))) (λ_ _ _ _=>wT) (λ_ _ _ _=>(qA (xf (xg (pv 0) (xg (pv 1) xp rfl) rfl))))) B1.bl)),?_⟩;have line:=aU;refine (zr rfl ⟨lt,rfl,⟨_,aB.of ht⟩,?_⟩);refine (let W6:IC:=λi τ acc H5=>∃ qs:List (Addr×List Int),(∃ t0 t1 t2,τ=[t0,t1,t2])/\acc=qs.map (λx=>V.ref x.1)/\(∀ x∈qs,H5 x.1=some (.tup (x.2.map V.int)))/\qs.map (·.2)=(ts.take i).map (λx=>[x.2.k,x.2.j])/\au H H5;wV (K:=K) (a:=lt) (xs:=ts.map λx=>V.ref x.1) W6 ⟨[],⟨_,_,_,rfl⟩,rfl,nofun,rfl,au.refl _⟩ (by rw [zA];omega) ?_ ?_ ?_)
  ·rintro i τ acc H5 ⟨qs,_,rfl,_,eq,sm⟩;refine ⟨?_,aB.of (sm _ _ ht)⟩;have:=congrArg List.length eq;rw [zA,zA,zR] at this;rw [zA];omega
  ·rintro i v τ acc H5 C hv ⟨qs,⟨t0,t1,t2,rfl⟩,rfl,kq,eq,sm⟩ hC;obtain ⟨x,hx,rfl⟩:=wF hv;refine (MZ (sm _ _ (he x (zB hx))) ?_);refine (zr rfl (zr rfl ⟨by show 2<=_;omega,λu hu=>?_⟩));have su:=xl (o:=HO.tup [V.int x.2.k,V.int x.2.j]) hu;refine hC _ _ _ ⟨qs++[(u,[x.2.k,x.2.j])],⟨_,_,_,rfl⟩,by rw [zD];rfl,λy hy=>?_,?_,sm.trans su⟩
   ·rcases zV.mp hy with h | h
    ·exact su _ _ (kq y h)
    ·rw [zK.mp h];exact xj
   ·rw [zD,eq,wK hx,zD];rfl
  ·rintro τ acc H5 ⟨qs,⟨t0,t1,t2,rfl⟩,rfl,kq,eq,sm⟩ lp Ui;rw [zA,zS] at eq;have s1:=xl (o:=HO.lst (qs.map λx=>V.ref x.1)) Ui;have Pf:=sm.trans s1;have kp:upd H5 lp (HO.lst (qs.map λx=>V.ref x.1)) lp=some (.lst (qs.map λx=>V.ref x.1)):=xj;have kq1:∀ x∈qs,upd H5 lp (HO.lst (qs.map λx=>V.ref x.1)) x.1=some (.tup (x.2.map V.int)):=λx hx=>s1 _ _ (kq x hx);generalize upd H5 lp (HO.lst (qs.map λx=>V.ref x.1))=H6 at kp kq1 Pf ⊢;have lq:qs.length=ts.length:=by have:=congrArg List.length eq;rwa [zA,zA] at this
   refine (zr rfl ⟨lp,qs,rfl,kp,kq1,by omega,by rw [eq];exact Wk,λz hz=>?_⟩);have s2:∀ o,au H6 (upd H6 z o):=λo=>xl hz;refine ⟨z,qs,rfl,xj,zr rfl ⟨lp,zr rfl ⟨.inl (aB.of (s2 _ _ _ kp)),rfl,zr rfl (av (by rw [zA];simp) ?_)⟩⟩⟩;refine (zr rfl ⟨lp,rfl,⟨_,aB.of (s2 _ _ _ kp)⟩,?_⟩);refine (let W7:IC:=λi τ acc H5=>(∃ t0 t1,τ=[t0,t1,some (.ref ll),some (.ref lw)])/\acc=(((ts.map (·.2)).take i).map (Lu (ls.map (·.2)) (ws.map (·.2)))).map V.bl/\au H6 H5;wV (K:=K) (a:=lp) (xs:=qs.map λx=>V.ref x.1) W7 ⟨⟨_,_,rfl⟩,rfl,s2 _⟩ (by rw [zA];omega) ?_ ?_ ?_)
   ·rintro i τ acc H5 ⟨_,rfl,sm⟩;exact ⟨by rw [zA,zA,zR];omega,aB.of (sm _ _ kp)⟩
   ·rintro i v τ acc H5 C hv ⟨⟨t0,t1,rfl⟩,rfl,sm⟩ hC;obtain ⟨y,hy,rfl⟩:=wF hv;have jK:(qs.map (·.2))[i]?=some y.2:=wW hy;rw [eq] at jK;obtain ⟨x,hx,ex⟩:∃ x,ts[i]?=some x/\[x.2.k,x.2.j]=y.2:=by
     rw [zF] at jK;cases z:ts[i]? with
     | none=>rw [z] at jK;cases jK
     | some x=>rw [z] at jK;exact ⟨x,rfl,Option.some.inj jK⟩
    have mx:=ok x (zB hx);have hk:=mx.k;have hj:=mx.j;have ky:=sm _ _ (kq1 y (zB hy));rw [<-ex] at ky;obtain ⟨k,ek⟩:=zn hk.1;obtain ⟨j,ej⟩:=zn hj.1;have kl:k < ls.length:=by omega
    have jl:j < ws.length:=by omega
    have Y8:dU (ls.map λa=>V.ref a.1) x.2.k=some (V.ref ls[k].1):=by rw [ek];exact wP (by rw [zF,zC kl];rfl)
    have at2:dU (ws.map λa=>V.ref a.1) x.2.j=some (V.ref ws[j].1):=by rw [ej];exact wP (by rw [zF,zC jl];rfl)
    have LH:=Pf.trans sm;refine (pU ky ?_);refine (zr rfl (zr rfl (bV (LH _ _ hl.l) Y8 (zr rfl (zr rfl (bV (LH _ _ hw.l) at2 ?_))))));refine ⟨ls[k].1,ws[j].1,ls[k].2,ws[j].2,rfl,LH _ _ (hl.each _ (z4 kl)),LH _ _ (hw.each _ (z4 jl)),hC _ _ _ ⟨⟨_,_,rfl⟩,?_,sm⟩⟩;rw [wK (wW hx),zD,zD,<- ou (t:=x.2) (ls:=ls.map (·.2)) (ws:=ws.map (·.2)) (l:=ls[k].2) (w:=ws[j].2) (by rw [ek,zx,zF,zC kl];rfl) (by rw [ej,zx,zF,zC jl];rfl)];rfl
   ·rintro τ acc H5 ⟨⟨t0,t1,rfl⟩,rfl,sm⟩ lc fH;refine ⟨lc,zr rfl ⟨aB.of xj,?_⟩⟩;rw [zA,lq,show ts.length=(ts.map (·.2)).length by rw [zA],zS,xV];exact q _ (Pf.trans (sm.trans (xl fH)))
theorem C0:aC ["meeting", "loads", "wants", "row", "one", "other", "when", "many", "there", "back", "begun", "come", "walker", "since", "most", "number", "last"] ["meeting", "loads", "wants", "row"] (ak wS):=L2.aX
theorem Ee (T:Tx K mg a):aQ P w K mg base ck 1 a.Af a.Ap ["meeting", "loads", "wants", "row"] (Ly):=by
 refine T.Ah.ok C0 (λvs H Q E h=>?_) (λbL A outer s H vs Q E hr h=>?_)
 ·obtain ⟨_,_,_,_,_,_,_,rfl,_⟩:=h;rfl
 ·have nd:=C0.nd;have hu:=hr.units;obtain ⟨m,r,ll,lw,ls,ws,x,rfl,hm,hl,hw,fY,iG,hx,eb,ec,q⟩:=h;refine bS ?_;intro Y
  let B0:Bk Y (nb (aj wS) 3):=⟨_,(xi (wG (wN (@PW.pt _ _ _ (qW (wD fE (pv 15) xh (az _)) (qV (@PW.pt _ _ _ (qa (wD iO (pv 12) (qA (xf (xg (pv 4) (xg (pv 5) xp rfl) rfl))) rfl) (qK (wD gS (pv 16) (pv 6) (az _)))))))) (xi (wG (wB qM))) wE)))⟩
  let B1:Bk Y ((aj wS).drop 3):=⟨_,(xi (wA (wy PassesOwn.never rfl (qi rfl rfl T.cN (xf (xg (pv 2) (xg (pv 11) xp rfl) rfl))) (wI (n:=2) rfl rfl (xo (wI (n:=3) rfl rfl (xo (xm (i:=12) nd rfl rfl) (xo (xm (i:=16) nd rfl rfl) (xo (xm (i:=14) nd rfl rfl) wH)))) (xo (xm (i:=15) nd rfl rfl) wH))) B0.ps) (wG (wB (wx fD (wC wO (pv 8) (pv 9)) (pv 7) (az _))))))⟩
  let B2:Bk Y (nb (aj wS) 2):=⟨_,(xi (wG (wN (@PW.pt _ _ _ (qW (wD fE (pv 15) xh (az _)) (qV (@PW.pt _ _ _ (qa (wD iO (pv 12) (qA (xf (xg (pv 4) (xg (pv 5) xp rfl) rfl))) rfl) (qK (wD nj (pv 13) (pv 6) (az _)))))))) (xi (wG (wB qM))) wE)))⟩
  let B3:Bk Y ((aj wS).drop 2):=⟨_,(xi (wA (wy PassesOwn.never rfl (qi rfl rfl T.cN (xf (xg (pv 1) (xg (pv 10) xp rfl) rfl))) (wI (n:=2) rfl rfl (xo (wI (n:=3) rfl rfl (xo (xm (i:=12) nd rfl rfl) (xo (xm (i:=13) nd rfl rfl) (xo (xm (i:=14) nd rfl rfl) wH)))) (xo (xm (i:=15) nd rfl rfl) wH))) B2.ps) B1.bl))⟩
  let B4:Bk Y ((aj wS).drop 1):=⟨_,(xi (wA (wg (pv 3) (wI (n:=4) rfl rfl (xo (xm (i:=8) nd rfl rfl) (xo (xm (i:=9) nd rfl rfl) (xo (xm (i:=10) nd rfl rfl) (xo (xm (i:=11) nd rfl rfl) wH)))))) B3.bl))⟩
  refine ⟨_,(xi (wA (wg (pv 0) (wI (n:=4) rfl rfl (xo (xm (i:=4) nd rfl rfl) (xo (xm (i:=5) nd rfl rfl) (xo (xm (i:=6) nd rfl rfl) (xo (xm (i:=7) nd rfl rfl) wH)))))) B4.bl)),?_⟩;have line:=aU;have s0:=au.refl H;refine (zr rfl (U5 hm ?_));refine (zr rfl (U5 hx.a ?_));refine (zr rfl (zr rfl ⟨ll,x.b,rfl,⟨_,aB.of (s0 _ _ hl.l)⟩,⟨_,aB.of (s0 _ _ hx.b)⟩,?_⟩));refine cI (K:=K) (a:=ll) (b:=x.b) (xs:=ls.map λa=>V.ref a.1) (ys:=x.r.bg.map V.int) (by rw [zA,zA,eb]) (λi σ H5=>(∃ jg jS MX MW Mz,σ=[some (.ref m),some (.ref ll),some (.ref lw),some (.ref x.a),some (.int r.lo),some (.int r.hi),some (.int r.t),some (.int r.m),some (.int x.r.th),some (.int x.r.bk),some (.ref x.b),some (.ref x.c),jg,jS,MX,MW,Mz])/\(((ls.map (·.2)).zip x.r.bg).take i).all (d9 r (λs=>decide (s.t ≥ r.t)))=true/\au H H5) ⟨⟨_,_,_,_,_,rfl⟩,rfl,s0⟩ ?_ ?_ ?_
  ·rintro i σ H5 _ ⟨_,_,sm⟩;exact ⟨aB.of (sm _ _ hl.l),aB.of (sm _ _ hx.b)⟩
  ·rintro i x1 y1 z σ H5 Mb oS hz ⟨⟨jg,jS,MX,MW,Mz,rfl⟩,al,sm⟩;obtain ⟨s1,MH,rfl⟩:=wF Mb;obtain ⟨n,hn1,rfl⟩:=wF oS;have gR:=sm.trans (xl (o:=HO.tup [V.ref s1.1,V.int n]) hz);have zi:=qe (wW MH) hn1;refine ⟨z,zr rfl ⟨aW.of xj,rfl,mq rfl (MZ (gR _ _ (hl.each s1 (zB MH))) (aJ rfl rfl ?_))⟩⟩;generalize upd H5 z (HO.tup [V.ref s1.1,V.int n])=H6 at gR ⊢;refine (zr rfl (aJ rfl rfl (zr rfl ?_)));have Wa:∀ H7,au H6 H7->d9 r (λs=>decide (s.t ≥ r.t)) (s1.2,n)=true->((∃ Sb y13 Sa y15 Z6,[some (.ref m),some (.ref ll),some (.ref lw),some (.ref x.a),some (.int r.lo),some (.int r.hi),some (.int r.t),some (.int r.m),some (.int x.r.th),some (.int x.r.bk),some (.ref x.b),some (.ref x.c),some (.int s1.2.w),some (.int s1.2.t),some (.int s1.2.m),some (.int n),Mz]=[some (V.ref m),some (.ref ll),some (.ref lw),some (.ref x.a),some (.int r.lo),some (.int r.hi),some (.int r.t),some (.int r.m),some (.int x.r.th),some (.int x.r.bk),some (.ref x.b),some (.ref x.c),Sb,y13,Sa,y15,Z6])/\(((ls.map (·.2)).zip x.r.bg).take (i + 1)).all (d9 r (λs=>decide (s.t ≥ r.t)))=true/\au H H7):=λH7 s7 e=>⟨⟨_,_,_,_,_,rfl⟩,by rw [tS zi,al,e];rfl,gR.trans s7⟩;have bad:∀ H7,au H6 H7->d9 r (λs=>decide (s.t ≥ r.t)) (s1.2,n)=false->Q (.bl false) H7:=λH7 s7 e=>by
    have:=q _ (gR.trans s7);rwa [show bH r (ls.map (·.2)) (ws.map (·.2)) x.r=false by unfold bH;rw [tR zi e];rfl] at this
   by_cases c1:n > 0
   ·refine aE (decide_eq_true c1) (zr rfl (zr rfl (zr rfl ⟨by show 2<=_;omega,λu hu=>⟨u,zr rfl ⟨.inr (aW.of xj),rfl,rfl,zr rfl ?_⟩⟩⟩)));have su:=xl (o:=HO.tup [V.int r.lo,V.int r.hi]) hu;have ei:T5 (V.int s1.2.w) [V.int r.lo,V.int r.hi]=(decide (s1.2.w=r.lo) || decide (s1.2.w=r.hi)):=jw;rw [ei];have em:d9 r (λs=>decide (s.t ≥ r.t)) (s1.2,n)=!(!(decide (s1.2.w=r.lo) || decide (s1.2.w=r.hi)) || decide (s1.2.t ≥ r.t)):=by unfold d9;simp only [c1,decide_true,zZ]
    cases c2:(decide (s1.2.w=r.lo) || decide (s1.2.w=r.hi)) with
    | false=>exact aE rfl (aE rfl (bad _ su (by rw [em,c2];rfl)))
    | true=>
     refine av rfl (zr rfl (zr rfl (aJ rfl rfl (zr rfl ?_))));by_cases c3:s1.2.t ≥ r.t
     ·exact aE (decide_eq_true c3) (bad _ su (by rw [em,c2,decide_eq_true c3];rfl))
     ·exact av (decide_eq_false c3) (Wa _ su (by rw [em,c2,decide_eq_false c3];rfl))
   ·exact av (decide_eq_false c1) (av rfl (Wa _ (au.refl _) (by unfold d9;rw [decide_eq_false c1];rfl)))
  rintro σ H5 ⟨⟨jg,jS,MX,MW,Mz,rfl⟩,al1,s0⟩;have e:(ls.map λa=>V.ref a.1).length=((ls.map (·.2)).zip x.r.bg).length:=by rw [zA,gj (by rw [eb,zA]),zA]
  rw [e,zS] at al1;refine (zr rfl (zr rfl ⟨lw,x.c,rfl,⟨_,aB.of (s0 _ _ hw.l)⟩,⟨_,aB.of (s0 _ _ hx.c)⟩,?_⟩));refine cI (K:=K) (a:=lw) (b:=x.c) (xs:=ws.map λa=>V.ref a.1) (ys:=x.r.cm.map V.int) (by rw [zA,zA,ec]) (λi σ H5=>(∃ jg jS MX MW Mz,σ=[some (.ref m),some (.ref ll),some (.ref lw),some (.ref x.a),some (.int r.lo),some (.int r.hi),some (.int r.t),some (.int r.m),some (.int x.r.th),some (.int x.r.bk),some (.ref x.b),some (.ref x.c),jg,jS,MX,MW,Mz])/\(((ws.map (·.2)).zip x.r.cm).take i).all (d9 r (λs=>decide (s.t < r.t)))=true/\au H H5) ⟨⟨_,_,_,_,_,rfl⟩,rfl,s0⟩ ?_ ?_ ?_
  ·rintro i σ H5 _ ⟨_,_,sm⟩;exact ⟨aB.of (sm _ _ hw.l),aB.of (sm _ _ hx.c)⟩
  ·rintro i x1 y1 z σ H5 Mb oS hz ⟨⟨jg,jS,MX,MW,Mz,rfl⟩,al,sm⟩;obtain ⟨s1,MH,rfl⟩:=wF Mb;obtain ⟨n,hn1,rfl⟩:=wF oS;have gR:=sm.trans (xl (o:=HO.tup [V.ref s1.1,V.int n]) hz);have zi:=qe (wW MH) hn1;refine ⟨z,zr rfl ⟨aW.of xj,rfl,mq rfl (MZ (gR _ _ (hw.each s1 (zB MH))) (aJ rfl rfl ?_))⟩⟩;generalize upd H5 z (HO.tup [V.ref s1.1,V.int n])=H6 at gR ⊢;refine (zr rfl (aJ rfl rfl (zr rfl ?_)));have Wa:∀ H7,au H6 H7->d9 r (λs=>decide (s.t < r.t)) (s1.2,n)=true->((∃ Sb y13 Sa y15 Z6,[some (.ref m),some (.ref ll),some (.ref lw),some (.ref x.a),some (.int r.lo),some (.int r.hi),some (.int r.t),some (.int r.m),some (.int x.r.th),some (.int x.r.bk),some (.ref x.b),some (.ref x.c),some (.int s1.2.w),jS,some (.int s1.2.m),some (.int n),some (.int s1.2.t)]=[some (V.ref m),some (.ref ll),some (.ref lw),some (.ref x.a),some (.int r.lo),some (.int r.hi),some (.int r.t),some (.int r.m),some (.int x.r.th),some (.int x.r.bk),some (.ref x.b),some (.ref x.c),Sb,y13,Sa,y15,Z6])/\(((ws.map (·.2)).zip x.r.cm).take (i + 1)).all (d9 r (λs=>decide (s.t < r.t)))=true/\au H H7):=λH7 s7 e=>⟨⟨_,_,_,_,_,rfl⟩,by rw [tS zi,al,e];rfl,gR.trans s7⟩;have bad:∀ H7,au H6 H7->d9 r (λs=>decide (s.t < r.t)) (s1.2,n)=false->Q (.bl false) H7:=λH7 s7 e=>by
    have:=q _ (gR.trans s7);rwa [show bH r (ls.map (·.2)) (ws.map (·.2)) x.r=false by unfold bH;rw [tR zi e];simp] at this
   by_cases c1:n > 0
   ·refine aE (decide_eq_true c1) (zr rfl (zr rfl (zr rfl ⟨by show 2<=_;omega,λu hu=>⟨u,zr rfl ⟨.inr (aW.of xj),rfl,rfl,zr rfl ?_⟩⟩⟩)));have su:=xl (o:=HO.tup [V.int r.lo,V.int r.hi]) hu;have ei:T5 (V.int s1.2.w) [V.int r.lo,V.int r.hi]=(decide (s1.2.w=r.lo) || decide (s1.2.w=r.hi)):=jw;rw [ei];have em:d9 r (λs=>decide (s.t < r.t)) (s1.2,n)=!(!(decide (s1.2.w=r.lo) || decide (s1.2.w=r.hi)) || decide (s1.2.t < r.t)):=by unfold d9;simp only [c1,decide_true,zZ]
    cases c2:(decide (s1.2.w=r.lo) || decide (s1.2.w=r.hi)) with
    | false=>exact aE rfl (aE rfl (bad _ su (by rw [em,c2];rfl)))
    | true=>
     refine av rfl (zr rfl (zr rfl (aJ rfl rfl (zr rfl ?_))));by_cases c3:s1.2.t < r.t
     ·exact aE (decide_eq_true c3) (bad _ su (by rw [em,c2,decide_eq_true c3];rfl))
     ·exact av (decide_eq_false c3) (Wa _ su (by rw [em,c2,decide_eq_false c3];rfl))
   ·exact av (decide_eq_false c1) (av rfl (Wa _ (au.refl _) (by unfold d9;rw [decide_eq_false c1];rfl)))
  rintro σ H5 ⟨⟨jg,jS,MX,MW,Mz,rfl⟩,al2,s0⟩;have e:(ws.map λa=>V.ref a.1).length=((ws.map (·.2)).zip x.r.cm).length:=by rw [zA,gj (by rw [ec,zA]),zA]
  rw [e,zS] at al2;refine (zr rfl (zr rfl (aJ rfl rfl (zr rfl (aJ rfl rfl ?_)))));have:=q _ s0;rwa [show bH r (ls.map (·.2)) (ws.map (·.2)) x.r=decide (x.r.th + x.r.bk<=r.m) by unfold bH;rw [al1,al2];rfl] at this
theorem Fb:aC ["parts", "numbers", "walker"] ["parts", "numbers", "walker"] (ak Dq):=L2.aX
theorem HY (T:Tx K mg a):aQ P w K mg base ck 1 a.Bm a.Cp ["parts", "numbers", "walker"] (aak):=by
 refine T.BO.ok Fb (λvs H Q E h=>?_) (λbL A outer s H vs Q E hr h=>?_)
 ·obtain ⟨_,_,_,_,_,rfl,_⟩:=h;rfl
 ·have nd:=Fb.nd;have hu:=hr.units;obtain ⟨l,n,ps,ns,w,rfl,hl,hn,en,fY,q⟩:=h;refine ⟨_,(xi (wG (wB (xr (cj rfl) (by rfl) T.l6 yc (xf (xg (wc (own:=["part", "number"]) (caps:=[2]) rfl (show ay ["part", "number"] [2] ["parts", "numbers", "walker"] (ak Dq) _ from L2.bR) (qi rfl rfl T.cN (xf (xg (pv 0) (xg (pv 1) xp rfl) rfl))) (λ_ _ _ _=>(wI (n:=2) rfl rfl (xo (xm (i:=0) (show List.Nodup (["part", "number", "walker"]:List Str) from by decide +kernel) rfl rfl) (xo (xm (i:=1) (show List.Nodup (["part", "number", "walker"]:List Str) from by decide +kernel) rfl rfl) wH)))) (λ_ _ _ _=>dF (wD qT (xx (xz rfl) (pv 0) xh (λ_ _=>rfl)) (pv 2) (az _))) (λ_ _ _ _=>(pv 1))) xp rfl)))))),?_⟩;have line:=aU;refine (zr rfl (zr rfl ⟨l,n,rfl,⟨_,aB.of hl.l⟩,⟨_,aB.of hn⟩,?_⟩));refine eE (K:=K) (a:=l) (b:=n) (xs:=ps.map λa=>V.ref a.1) (ys:=List.map V.int ns) (by rw [zA,zA,en]) (λi τ acc H5=>(∃ t0 t1,τ=[t0,t1,some (.int w)])/\acc=(((((ps.map (·.2)).zip ns).take i).filter λp=>decide (p.1.w=w)).map (·.2)).map V.int/\au H H5) ⟨⟨_,_,rfl⟩,rfl,au.refl _⟩ (by rw [zA];omega) ?_ ?_ ?_
  ·rintro i τ acc H5 ⟨_,rfl,sm⟩;refine ⟨?_,aB.of (sm _ _ hl.l),aB.of (sm _ _ hn)⟩;rw [zA,zA];exact zj (yN _ _) (by rw [zR];omega)
  ·rintro i x y z τ acc H5 C hx hy hz ⟨⟨t0,t1,rfl⟩,rfl,sm⟩ hC;obtain ⟨r,hr,rfl⟩:=wF hx;obtain ⟨y2,jK,rfl⟩:=wF hy;have gR:=sm.trans (xl (o:=HO.tup [V.ref r.1,V.int y2]) hz);have st:=NT (w:=w) (wW hr) jK;refine (pU xj ?_);refine (zr rfl (bP (gR _ _ (hl.each r (zB hr))) rfl (zr rfl ⟨rfl,zr rfl ?_⟩)));by_cases c:r.2.w=w
   ·rw [if_pos c] at st;exact aE (decide_eq_true (by rw [c])) (zr rfl (hC _ _ _ ⟨⟨_,_,rfl⟩,by rw [st,zD];rfl,gR⟩))
   ·rw [if_neg c,yK] at st;exact av (decide_eq_false (λz=>c (V.int.inj z))) (hC _ _ _ ⟨⟨_,_,rfl⟩,by rw [st],gR⟩)
  ·rintro τ acc H5 ⟨⟨t0,t1,rfl⟩,rfl,sm⟩ lc fH;refine ⟨lc,zr rfl ⟨aB.of xj,?_⟩⟩;have e:(ps.map λa=>V.ref a.1).length=((ps.map (·.2)).zip ns).length:=by rw [zA,gj (by rw [en,zA]),zA]
   rw [e,zS];exact q _ (sm.trans (xl fH))
theorem Eb:aC ["bags", "meeting", "loads", "wants", "row", "one", "other", "when", "many", "there", "back", "begun", "come", "behind", "walker", "given", "taken", "out", "into"] ["bags", "meeting", "loads", "wants", "row"] (ak qB):=L2.aX
theorem Ha (T:Tx K mg a):aQ P w K mg base ck 2 a.AL a.BI ["bags", "meeting", "loads", "wants", "row"] (LG):=by
 have GE:=HY P w base T;refine T.Bh.ok Eb (λvs H Q E h=>?_) (λbL A outer s H vs Q E hr h=>?_)
 ·obtain ⟨_,_,_,_,_,_,_,_,_,rfl,_⟩:=h;rfl
 ·have nd:=Eb.nd;have hu:=hr.units;obtain ⟨lb,bs,m,r,ll,lw,ls,ws,x,rfl,nF,⟨b0,b1,b2⟩,aic,hm,hl,hw,fY,iG,hx,eb,ec,q0,q⟩:=h;refine bS ?_;intro Y
  let B0:Bk Y ((nb (aj qB) 3).drop 2):=⟨_,(xi (wA (wN (@PW.pt _ _ _ (qa (wU (NG fD fD xh (pv 17) (xx (xu rfl) (pv 0) (pv 14) (λ_ _=>rfl)))) (qK (wD gS (pv 18) xh (az _))))) (xi (wG (wB iu))) wE) (wG (oG (pv 13) (pv 14) (lU rfl) (wC qY (pv 18) (pv 17)) lH wv))))⟩
  let B1:Bk Y ((nb (aj qB) 3).drop 1):=⟨_,(xi (wA (xy (i:=18) nd rfl rfl (wC qY (pv 16) (xq GE (hr.mono (by decide)) rfl T.Gy T.GA T.GC .nil aq (xf (xg (pv 3) (xg (pv 12) (xg (pv 14) xp rfl) rfl) rfl))))) B0.bl))⟩
  let B2:Bk Y (nb (aj qB) 3):=⟨_,(xi (wA (xy (i:=17) nd rfl rfl (wC qY (pv 15) (xq GE (hr.mono (by decide)) rfl T.Gy T.GA T.GC .nil aq (xf (xg (pv 2) (xg (pv 11) (xg (pv 14) xp rfl) rfl) rfl))))) B1.bl))⟩
  let B3:Bk Y ((aj qB).drop 3):=⟨_,(xi (wA (wy PassesOwn.never rfl (fQ rfl (qA (xf (xg (qA (xf (xg (pv 5) (xg (pv 9) (xg (pv 10) xp rfl) rfl) rfl))) (xg (qA (xf (xg (pv 6) (xg (pv 10) (xg (pv 9) xp rfl) rfl) rfl))) xp rfl) rfl)))) (wI (n:=3) rfl rfl (xo (xm (i:=14) nd rfl rfl) (xo (xm (i:=15) nd rfl rfl) (xo (xm (i:=16) nd rfl rfl) wH)))) B2.ps) (wG (wB (pv 13)))))⟩
  let B4:Bk Y ((aj qB).drop 1):=⟨_,(xi (wA (wg (pv 4) (wI (n:=4) rfl rfl (xo (xm (i:=9) nd rfl rfl) (xo (xm (i:=10) nd rfl rfl) (xo (xm (i:=11) nd rfl rfl) (xo (xm (i:=12) nd rfl rfl) wH)))))) (wA (xy (i:=13) nd rfl rfl (b9 (mT rfl) (by rfl) T.iB yZ (xf (xg (pv 0) xp rfl)))) B3.bl)))⟩
  refine ⟨_,(xi (wA (wg (pv 1) (wI (n:=4) rfl rfl (xo (xm (i:=5) nd rfl rfl) (xo (xm (i:=6) nd rfl rfl) (xo (xm (i:=7) nd rfl rfl) (xo (xm (i:=8) nd rfl rfl) wH)))))) B4.bl)),?_⟩;have line:=aU;refine ⟨_,rfl,m,_,rfl,aW.of hm,rfl,_,_,rfl,_,_,rfl,_,_,rfl,_,_,rfl,rfl,?_⟩;refine ⟨_,rfl,x.a,_,rfl,aW.of hx.a,rfl,_,_,rfl,_,_,rfl,_,_,rfl,_,_,rfl,rfl,?_⟩;refine ⟨_,rfl,lb,_,rfl,.inl (aB.of nF),λl Oq=>?_⟩;have s1:=xl (o:=HO.lst (List.map V.int bs)) Oq;have kl:upd H l (HO.lst (List.map V.int bs)) l=some (.lst (List.map V.int bs)):=xj;generalize upd H l (HO.lst (List.map V.int bs))=H1 at s1 kl ⊢;have en:∀ (a b c:V),[a,b,c].length<=sizeLine:=λ_ _ _=>by show 3<=_;omega
  refine ⟨_,rfl,_,rfl,_,rfl,en _ _ _,λu1 Xh=>?_⟩;have k1:upd H1 u1 (HO.tup [V.int r.lo,V.int x.r.th,V.int x.r.bk]) u1=some (.tup [.int r.lo,.int x.r.th,.int x.r.bk]):=xj;have s2:=xl (o:=HO.tup [V.int r.lo,V.int x.r.th,V.int x.r.bk]) Xh;generalize upd H1 u1 (HO.tup [V.int r.lo,V.int x.r.th,V.int x.r.bk])=H2 at s2 k1 ⊢;refine ⟨_,rfl,_,rfl,_,rfl,en _ _ _,λu2 Vi=>?_⟩;have k2:upd H2 u2 (HO.tup [V.int r.hi,V.int x.r.bk,V.int x.r.th]) u2=some (.tup [.int r.hi,.int x.r.bk,.int x.r.th]):=xj;have s3:=xl (o:=HO.tup [V.int r.hi,V.int x.r.bk,V.int x.r.th]) Vi;generalize upd H2 u2 (HO.tup [V.int r.hi,V.int x.r.bk,V.int x.r.th])=H3 at s3 k2 ⊢;refine ⟨by show 2<=_;omega,λu3 hu3=>?_⟩;have k3:upd H3 u3 (HO.tup [V.ref u1,V.ref u2]) u3=some (.tup [.ref u1,.ref u2]):=xj;have s4:=xl (o:=HO.tup [V.ref u1,V.ref u2]) hu3;generalize upd H3 u3 (HO.tup [V.ref u1,V.ref u2])=H4 at s4 k3 ⊢;have Pk:=s4 _ _ (s3 _ _ (s2 _ _ kl));have k1:=s4 _ _ (s3 _ _ k1);have k2:=s4 _ _ k2;have sm4:=s1.trans (s2.trans (s3.trans s4));refine ⟨u3,rfl,⟨_,aW.of k3⟩,?_⟩;refine (let W8:IV:=λi σ H5=>∃ cs,(∃ MX MW Mz Pd Sj,σ=[some (.ref lb),some (.ref m),some (.ref ll),some (.ref lw),some (.ref x.a),some (.int r.lo),some (.int r.hi),some (.int r.t),some (.int r.m),some (.int x.r.th),some (.int x.r.bk),some (.ref x.b),some (.ref x.c),some (.ref l),MX,MW,Mz,Pd,Sj])/\Vz bs r (ls.map (·.2)) (ws.map (·.2)) x.r i cs/\cs.length=bs.length/\H5 l=some (.lst (cs.map V.int))/\au H H5/\bY H4 H5;Q3 (K:=K) (a:=u3) (xs:=[V.ref u1,V.ref u2]) W8 ⟨bs,⟨_,_,_,_,_,rfl⟩,rfl,rfl,Pk,sm4,bY.refl _⟩ ?_ ?_ ?_)
  ·rintro i σ H5 _ ⟨cs,_,_,_,_,_,tp⟩;exact aW.of (tp _ _ k3)
  ·rintro i v σ H5 hv ⟨cs,⟨MX,MW,Mz,Pd,Sj,rfl⟩,tI,lc,YK,LH,tp⟩
   match i,hv,tI with
   | 0,hv,tI=>
    obtain rfl:=Option.some.inj hv;have tI:bs=cs:=(tI:_=_).symm;subst tI;refine ⟨u1,_,rfl,aW.of (tp _ _ k1),rfl,_,_,rfl,_,_,rfl,_,_,rfl,rfl,?_⟩;refine ⟨_,rfl,_,rfl,_,rfl,_,rfl,ll,x.b,ls,x.r.bg,r.lo,rfl,hl.same LH,LH _ _ hx.b,eb,fY,λH6 s6=>⟨_,_,rfl,rfl,?_⟩⟩;have gR:=LH.trans s6;refine ⟨_,rfl,_,rfl,_,rfl,_,rfl,lw,x.c,ws,x.r.cm,r.lo,rfl,hw.same gR,gR _ _ hx.c,ec,iG,λH7 s7=>⟨_,_,rfl,rfl,?_⟩⟩;have SM:=gR.trans s7;refine ⟨_,rfl,_,_,rfl,rfl,_,rfl,?_⟩;have none:bO bs r.lo (x.r.th - bI (ls.map (·.2)) x.r.bg r.lo) (x.r.bk - bI (ws.map (·.2)) x.r.cm r.lo)=false->Q .cK H7:=λe=>q0 (by unfold bJ;rw [e,yo];rfl) _ SM;have bat:=mU (bs:=bs) (w:=r.lo) (by omega) (by omega);by_cases c1:0<=x.r.th - bI (ls.map (·.2)) x.r.bg r.lo
    ·refine aE (decide_eq_true c1) ⟨_,rfl,_,rfl,lb,_,_,_,rfl,rfl,aB.of (SM _ _ nF),bat,_,_,rfl,rfl,_,rfl,?_⟩;by_cases c2:x.r.th - bI (ls.map (·.2)) x.r.bg r.lo<=aT bs r.lo
     ·refine av (by rw [decide_eq_true c2];rfl) ⟨_,rfl,_,_,rfl,rfl,_,rfl,?_⟩;by_cases c3:x.r.bk - bI (ws.map (·.2)) x.r.cm r.lo < 0
      ·exact aE (decide_eq_true c3) (none (by unfold bO;rw [decide_eq_false (show ¬ 0<=x.r.bk - bI (ws.map (·.2)) x.r.cm r.lo by omega)];simp))
      ·refine av (decide_eq_false c3) ?_;have ok:bO bs r.lo (x.r.th - bI (ls.map (·.2)) x.r.bg r.lo) (x.r.bk - bI (ws.map (·.2)) x.r.cm r.lo)=true:=by unfold bO;rw [decide_eq_true c1,decide_eq_true c2,decide_eq_true (show 0<=x.r.bk - bI (ws.map (·.2)) x.r.cm r.lo by omega)];rfl
       have TM:=s7 _ _ (s6 _ _ YK);have cat:=XU (bs:=bs) (w:=r.lo) (by omega) (by omega);refine ⟨_,rfl,_,rfl,l,_,_,_,rfl,congrArg V.int (xH (by omega)).symm,aB.of TM,cat,_,rfl,_,rfl,_,_,rfl,rfl,_,_,rfl,rfl,l,_,_,r.lo.toNat,rfl,rfl,TM,uR (by omega) (by rw [zA];omega),?_⟩;exact ⟨_,⟨_,_,_,_,_,rfl⟩,⟨ok,rfl⟩,by rw [zt],by rw [xj,yQ],au.put Oq SM,(tp.trans (bY.same (s6.trans s7))).trans (bY.set TM)⟩
     ·refine aE (by rw [decide_eq_false c2];rfl) (none (by unfold bO;rw [decide_eq_false c2];simp))
    ·refine av (decide_eq_false c1) ⟨_,rfl,aE rfl (none (by unfold bO;rw [decide_eq_false c1];rfl))⟩
   | 1,hv,tI=>
    obtain rfl:=Option.some.inj hv;obtain ⟨g1,ecs⟩:bO bs r.lo _ _=true/\cs=_:=tI;refine ⟨u2,_,rfl,aW.of (tp _ _ k2),rfl,_,_,rfl,_,_,rfl,_,_,rfl,rfl,?_⟩;refine ⟨_,rfl,_,rfl,_,rfl,_,rfl,ll,x.b,ls,x.r.bg,r.hi,rfl,hl.same LH,LH _ _ hx.b,eb,fY,λH6 s6=>⟨_,_,rfl,rfl,?_⟩⟩;have gR:=LH.trans s6;refine ⟨_,rfl,_,rfl,_,rfl,_,rfl,lw,x.c,ws,x.r.cm,r.hi,rfl,hw.same gR,gR _ _ hx.c,ec,iG,λH7 s7=>⟨_,_,rfl,rfl,?_⟩⟩;have SM:=gR.trans s7;refine ⟨_,rfl,_,_,rfl,rfl,_,rfl,?_⟩;have none:bO bs r.hi (x.r.bk - bI (ls.map (·.2)) x.r.bg r.hi) (x.r.th - bI (ws.map (·.2)) x.r.cm r.hi)=false->Q .cK H7:=λe=>q0 (by unfold bJ;rw [e,xP];rfl) _ SM;have bat:=mU (bs:=bs) (w:=r.hi) (by omega) (by omega);by_cases c1:0<=x.r.bk - bI (ls.map (·.2)) x.r.bg r.hi
    ·refine aE (decide_eq_true c1) ⟨_,rfl,_,rfl,lb,_,_,_,rfl,rfl,aB.of (SM _ _ nF),bat,_,_,rfl,rfl,_,rfl,?_⟩;by_cases c2:x.r.bk - bI (ls.map (·.2)) x.r.bg r.hi<=aT bs r.hi
     ·refine av (by rw [decide_eq_true c2];rfl) ⟨_,rfl,_,_,rfl,rfl,_,rfl,?_⟩;by_cases c3:x.r.th - bI (ws.map (·.2)) x.r.cm r.hi < 0
      ·exact aE (decide_eq_true c3) (none (by unfold bO;rw [decide_eq_false (show ¬ 0<=x.r.th - bI (ws.map (·.2)) x.r.cm r.hi by omega)];simp))
      ·refine av (decide_eq_false c3) ?_;have ok:bO bs r.hi (x.r.bk - bI (ls.map (·.2)) x.r.bg r.hi) (x.r.th - bI (ws.map (·.2)) x.r.cm r.hi)=true:=by unfold bO;rw [decide_eq_true c1,decide_eq_true c2,decide_eq_true (show 0<=x.r.th - bI (ws.map (·.2)) x.r.cm r.hi by omega)];rfl
       have TM:=s7 _ _ (s6 _ _ YK);have cat:=XU (bs:=cs) (w:=r.hi) (by omega) (by omega);refine ⟨_,rfl,_,rfl,l,_,_,_,rfl,congrArg V.int (xH (by omega)).symm,aB.of TM,cat,_,rfl,_,rfl,_,_,rfl,rfl,_,_,rfl,rfl,l,_,_,r.hi.toNat,rfl,rfl,TM,uR (by omega) (by rw [zA];omega),?_⟩;exact ⟨cs.set r.hi.toNat (aT cs r.hi + ((x.r.th - bI (ws.map (·.2)) x.r.cm r.hi) - (x.r.bk - bI (ls.map (·.2)) x.r.bg r.hi))),⟨_,_,_,_,_,rfl⟩,⟨g1,ok,by rw [ecs,Rf b0 (by omega) (by omega)]⟩,by rw [zt];exact lc,by rw [xj,yQ],au.put Oq SM,(tp.trans (bY.same (s6.trans s7))).trans (bY.set TM)⟩
     ·refine aE (by rw [decide_eq_false c2];rfl) (none (by unfold bO;rw [decide_eq_false c2];simp))
    ·refine av (decide_eq_false c1) ⟨_,rfl,aE rfl (none (by unfold bO;rw [decide_eq_false c1];rfl))⟩
   | n + 2,hv,_=>exact absurd hv (by simp)
  ·rintro σ H5 ⟨cs,⟨MX,MW,Mz,Pd,Sj,rfl⟩,⟨g1,g2,ecs⟩,lc,YK,LH,tp⟩;exact ⟨_,rfl,q cs (by unfold bJ;rw [g1,g2,ecs];rfl) l _ Oq LH YK⟩
theorem DB:aC ["book", "loads", "wants", "rows", "bags", "meeting", "row"] ["book", "loads", "wants", "rows"] (ak wd):=L2.aX
theorem FU (T:Tx K mg a):aQ P w K mg base ck 3 a.Au a.AW ["book", "loads", "wants", "rows"] (SG):=by
 have EJ:=Ee P w base T;have HM:=Ha P w base T;refine T.AH.ok DB (λvs H Q E h=>?_) (λbL A outer s H vs Q E hr h=>?_)
 ·obtain ⟨_,_,_,_,_,_,_,_,_,_,_,rfl,_⟩:=h;rfl
 ·have nd:=DB.nd;have hu:=hr.units;obtain ⟨b,ll,lw,lr,af,tr,tm,ps,ls,ws,xs,rfl,hb,gd,S7,hl,hw,fY,iG,MI,hx,lx,fx,q⟩:=h;refine bS ?_;intro Y
  let B0:Bk Y ((nb (aj wd) 1).drop 2):=⟨_,(xi (wG (wN (@PW.pt _ _ _ (qa (Tc (Tg (pv 4))) (qK (wU (wL (xr (qp rfl rfl) (by rfl) T.gX yI (xf (xg (wc (own:=["bag", "room"]) (caps:=[]) rfl (show ay ["bag", "room"] [] ["book", "loads", "wants", "rows", "bags", "meeting", "row"] (ak wd) _ from L2.bR) (KG rfl rfl T.cN (xf (xg (pv 4) (xg (xx (xz rfl) (pv 0) xh (λ_ _=>rfl)) xp rfl) rfl))) (λ_ _ _ _=>(wI (n:=2) rfl rfl (xo (xm (i:=0) (show List.Nodup (["bag", "room"]:List Str) from by decide +kernel) rfl rfl) (xo (xm (i:=1) (show List.Nodup (["bag", "room"]:List Str) from by decide +kernel) rfl rfl) wH)))) (λ_ _ _ _=>wT) (λ_ _ _ _=>(wx fD (pv 0) (pv 1) (az _)))) xp rfl)))))))) (xi (wG (wB qM))) wE)))⟩
  let B1:Bk Y ((nb (aj wd) 1).drop 1):=⟨_,(xi (wA (xy (i:=4) nd rfl rfl (xq HM (hr.mono (by decide)) rfl T.HH T.HI T.HJ .nil aq (xf (xg (pv 4) (xg (pv 5) (xg (pv 1) (xg (pv 2) (xg (pv 6) xp rfl) rfl) rfl) rfl) rfl)))) B0.bl))⟩
  let B2:Bk Y (nb (aj wd) 1):=⟨_,(xi (wA (wN (wU (wL (xq EJ (hr.mono (by decide)) rfl T.EB T.ED T.EF .nil aq (xf (xg (pv 5) (xg (pv 1) (xg (pv 2) (xg (pv 6) xp rfl) rfl) rfl) rfl))))) (xi (wG (wB qM))) wE) B1.bl))⟩
  let B3:Bk Y ((aj wd).drop 1):=⟨_,(xi (wA (wy PassesOwn.never rfl (Qx rfl rfl T.cN (xf (xg (xx (xz rfl) (pv 0) xh (λ_ _=>rfl)) (xg (pv 3) xp rfl) rfl))) (wI (n:=2) rfl rfl (xo (xm (i:=5) nd rfl rfl) (xo (xm (i:=6) nd rfl rfl) wH))) B2.ps) (wG (wB qM))))⟩
  refine ⟨_,(xi (wA (qb (ix:=4) nd rfl rfl (own:=["room"]) (caps:=[]) rfl (show ay ["room"] [] ["book", "loads", "wants", "rows", "bags", "meeting", "row"] (ak wd) _ from L2.bR) (fQ rfl (xx (xz rfl) (pv 0) xh (λ_ _=>rfl))) (λ_ _ _ _=>(xm (i:=0) (show List.Nodup (["room"]:List Str) from by decide +kernel) rfl rfl)) (λ_ _ _ _=>wT) (λ_ _ _ _=>xh)) B3.bl)),?_⟩;have line:=aU;have pN:=gd.len;refine (zr rfl (bP hb.book rfl ⟨tr,rfl,⟨_,aW.of hb.af⟩,?_⟩));refine (let W9:IC:=λi τ acc H5=>(∃ t0,τ=[t0])/\acc=(List.replicate i (0:Int)).map V.int/\H5=H;i8 (K:=K) (a:=tr) (xs:=af.map V.int) W9 ⟨⟨_,rfl⟩,rfl,rfl⟩ (by rw [zA];omega) ?_ ?_ ?_)
  ·rintro i τ acc H5 ⟨_,rfl,rfl⟩;exact ⟨by simp,aW.of hb.af⟩
  ·rintro i v τ acc H5 C hv ⟨⟨t0,rfl⟩,rfl,rfl⟩ hC;refine hC _ _ _ ⟨⟨_,rfl⟩,?_,rfl⟩;rw [List.replicate_succ',zD];rfl
  rintro τ acc H5 ⟨⟨t0,rfl⟩,rfl,rfl⟩ l0 Ov;rw [zA];have s1:=xl (o:=HO.lst ((List.replicate af.length (0:Int)).map V.int)) Ov;have k0:upd H5 l0 (HO.lst ((List.replicate af.length (0:Int)).map V.int)) l0=some (.lst ((List.replicate af.length (0:Int)).map V.int)):=xj;generalize upd H5 l0 (HO.lst ((List.replicate af.length (0:Int)).map V.int))=H1 at s1 k0 ⊢;have Mg:=hb.same s1;refine (zr rfl (bP Mg.book rfl (zr rfl ⟨tm,lr,rfl,⟨_,aW.of Mg.meets⟩,⟨_,aB.of (s1 _ _ MI)⟩,?_⟩)));refine OI (K:=K) (a:=tm) (b:=lr) (xs:=ps.map λa=>V.ref a.1) (ys:=xs.map λx=>V.ref x.a) (by rw [zA,zA,lx]) (λi σ H6=>∃ lb cs,(∃ v5 v6,σ=[some (.ref b),some (.ref ll),some (.ref lw),some (.ref lr),some (.ref lb),v5,v6])/\H6 lb=some (.lst (cs.map V.int))/\cs.length=af.length/\dH af (ls.map (·.2)) (ws.map (·.2)) ((ps.map (·.2)).zip (xs.map (·.r))) (List.replicate af.length 0)=dH af (ls.map (·.2)) (ws.map (·.2)) (((ps.map (·.2)).zip (xs.map (·.r))).drop i) cs/\au H5 H6) ⟨l0,_,⟨_,_,rfl⟩,k0,by rw [yb],rfl,s1⟩ ?_ ?_ ?_
  ·rintro i σ H6 _ ⟨lb,cs,_,_,_,_,sm⟩;exact ⟨aW.of (sm _ _ hb.meets),aB.of (sm _ _ MI)⟩
  ·rintro i x1 y1 z σ H6 Mb oS hz ⟨lb,cs,⟨v5,v6,rfl⟩,kb,lcs,bW,sm⟩;obtain ⟨r,hr,rfl⟩:=wF Mb;obtain ⟨x,RJ,rfl⟩:=wF oS;have mr:=zB hr;have mx:=zB RJ;have zi:((ps.map (·.2)).zip (xs.map (·.r)))[i]?=some (r.2,x.r):=qe (wW hr) (by rw [zF,RJ];rfl);rw [qq zi,lF] at bW;have s6:=xl (o:=HO.tup [V.ref r.1,V.ref x.a]) hz;refine (pU xj ?_);have kb:=s6 _ _ kb;have sm:=sm.trans s6;generalize upd H6 z (HO.tup [V.ref r.1,V.ref x.a])=H7 at sm kb ⊢;obtain ⟨f1,f2⟩:=fx x mx;refine (zr rfl (zr rfl (zr rfl (zr rfl ⟨r.1,r.2,ll,lw,ls,ws,x,rfl,sm _ _ (hb.rows r mr),hl.same sm,hw.same sm,fY,iG,(hx x mx).same sm,f1,f2,λH8 s8=>(zr rfl ?_)⟩))));have SK:=sm.trans s8;cases cw:bH r.2 (ls.map (·.2)) (ws.map (·.2)) x.r with
   | false=>
    rw [cw,yo] at bW;rw [bW] at q;exact aE rfl (q _ SK)
   | true=>
    rw [cw,zZ] at bW;obtain ⟨a1,a2,a3,_⟩:=gd.at mr;refine av rfl (zr rfl (zr rfl (zr rfl (zr rfl (zr rfl ⟨lb,cs,r.1,r.2,ll,lw,ls,ws,x,rfl,s8 _ _ kb,⟨a1,a2,by omega⟩,by omega,SK _ _ (hb.rows r mr),hl.same SK,hw.same SK,fY,iG,(hx x mx).same SK,f1,f2,λe H9 s9=>?_,λds e pl H9 Ue s9 Ve=>?_⟩)))))
    ·rw [e] at bW;rw [bW] at q;exact (zr rfl (zr rfl (aE rfl (aE rfl (q _ (SK.trans s9))))))
    ·rw [e] at bW;have lds:=tL e;have sm9:=SK.trans s9;have hb9:=hb.same sm9;refine (zr rfl (zr rfl (av rfl (zr rfl (zr rfl (bP hb9.book rfl ⟨pl,tr,rfl,⟨_,aB.of Ve⟩,⟨_,aW.of hb9.af⟩,?_⟩))))));refine Mr (K:=K) (a:=pl) (b:=tr) (xs:=ds.map V.int) (ys:=af.map V.int) (by rw [zA,zA];omega) (λi τ acc H5=>(∃ t0 t1,τ=[t0,t1])/\acc=((((ds.zip af).take i).map λp=>decide (p.1<=p.2))).map V.bl/\au H9 H5) ⟨⟨_,_,rfl⟩,rfl,au.refl _⟩ (by rw [zA];omega) ?_ ?_ ?_
     ·rintro i τ acc H5 ⟨_,rfl,sm⟩;refine ⟨?_,aB.of (sm _ _ Ve),aW.of (sm _ _ hb9.af)⟩;rw [zA,zA,zR];omega
     ·rintro i x y z τ acc H5 C hx hy hz ⟨⟨t0,t1,rfl⟩,rfl,sm⟩ hC;obtain ⟨x2,Ua,rfl⟩:=wF hx;obtain ⟨y2,jK,rfl⟩:=wF hy;refine (pU xj ?_);refine (zr rfl (zr rfl (aJ rfl rfl (hC _ _ _ ⟨⟨_,_,rfl⟩,?_,sm.trans (xl hz)⟩))));rw [wK (qe Ua jK),zD,zD];rfl
     ·rintro τ acc gO ⟨⟨t0,t1,rfl⟩,rfl,VO⟩ lc fH;have e2:(ds.map V.int).length=(ds.zip af).length:=by rw [zA,gj (by omega)]
      rw [e2,zS];have MB:=xl (o:=HO.lst (((ds.zip af).map λp=>decide (p.1<=p.2)).map V.bl)) fH;refine ⟨lc,zr rfl ⟨aB.of xj,zr rfl ?_⟩⟩;rw [xV];have Ve:=MB _ _ (VO _ _ Ve);have SN:=sm9.trans (VO.trans MB);generalize upd gO lc _=jQ at Ve SN ⊢;cases ca:(ds.zip af).all λp=>decide (p.1<=p.2) with
      | false=>
       have bW:_=(((ds.zip af).all λp=>decide (p.1<=p.2)) && _):=bW;rw [ca,yo] at bW;rw [bW] at q;exact aE (by show (!((ds.zip af).all λp=>decide (p.1<=p.2)))=true;rw [ca];rfl) (q _ SN)
      | true=>
       have bW:_=(((ds.zip af).all λp=>decide (p.1<=p.2)) && _):=bW;rw [ca,zZ] at bW;exact av (by show (!((ds.zip af).all λp=>decide (p.1<=p.2)))=false;rw [ca];rfl) ⟨pl,ds,⟨_,_,rfl⟩,Ve,by omega,bW,SN⟩
  ·rintro σ H6 ⟨lb,cs,⟨v5,v6,rfl⟩,kb,lcs,bW,sm⟩;have e2:(ps.map λa=>V.ref a.1).length=((ps.map (·.2)).zip (xs.map (·.r))).length:=by rw [zA,gj (by rw [zA,zA,lx]),zA]
   rw [e2,xJ] at bW;rw [bW] at q;exact q _ sm
theorem HN:aC ["size", "rows", "straight", "sums", "place", "many"] ["size", "rows", "straight"] (ak Ec):=L2.aX
theorem J8 (T:Tx K mg a):aQ P w K mg base ck 1 a.C4 a.DH ["size", "rows", "straight"] (Nk):=by
 refine T.Dk.ok HN (λvs H Q E h=>?_) (λbL A outer s H vs Q E hr h=>?_)
 ·obtain ⟨_,_,_,_,_,rfl,_⟩:=h;rfl
 ·have nd:=HN.nd;have hu:=hr.units;obtain ⟨n,lr,ls,rs,ts,rfl,Tv,MI,hx,x60,MH,ht,P4,q⟩:=h;refine bS ?_;intro Y
  let B0:Bk Y ((aj Ec).drop 1):=⟨_,(xi (wA (wy PassesOwn.never rfl (wZ rfl (pv 2)) (wI (n:=2) rfl rfl (xo (xm (i:=4) nd rfl rfl) (xo (xm (i:=5) nd rfl rfl) wH))) (xi (wG (oG (pv 3) (pv 4) (lU rfl) (pv 5) lH wv)))) (wG (wB (pv 3)))))⟩
  refine ⟨_,(xi (wA (rL (ix:=3) nd rfl rfl (own:=["place"]) (caps:=[1]) rfl (show iF ["place"] [1] ["size", "rows", "straight", "sums", "place", "many"] (ak Ec) _ from ⟨rfl,by decide +kernel,by decide +kernel,by decide +kernel,by decide +kernel⟩) (wq rfl T.bf (xf (xg (pv 0) xp rfl))) (λ_ _ _ _=>(xm (i:=0) (show List.Nodup (["place", "rows"]:List Str) from by decide +kernel) rfl rfl)) (λ_ _ _ _=>wT) (λ_ _ _ _=>(xr (vv rfl rfl) (by rfl) T.l6 yc (xf (xg (wc (own:=["row"]) (caps:=[0]) rfl (show ay ["row"] [0] ["place", "rows"] (relabel _ _) _ from ay.inn rfl (by decide +kernel) (by decide +kernel) (by decide +kernel) (by decide +kernel)) (wZ rfl (pv 1)) (λ_ _ _ _=>(xm (i:=0) (show List.Nodup (["row", "place"]:List Str) from by decide +kernel) rfl rfl)) (λ_ _ _ _=>wT) (λ_ _ _ _=>(xx (xu rfl) (pv 0) (pv 1) (λ_ _=>rfl)))) xp rfl))))) B0.bl)),?_⟩;have line:=aU;refine (zr rfl (zr rfl ⟨by omega,by omega,?_⟩));refine (let W10:IC:=λi τ acc H5=>(∃ t0,τ=[t0,some (.ref lr)])/\acc=((dM n (rs.map (·.2)) []).take i).map V.int/\au H H5;cZ (lo:=0) (m:=n) W10 ⟨⟨_,rfl⟩,rfl,au.refl _⟩ (by omega) ?_ ?_ ?_)
  ·rintro i τ acc H5 ⟨_,rfl,sm⟩;rw [zA,zR];omega
  ·rintro i τ acc H5 C hi ⟨⟨t0,rfl⟩,rfl,sm⟩ hC;refine (zr rfl ⟨lr,rfl,⟨_,aB.of (sm _ _ MI)⟩,?_⟩);refine (let W11:IC:=λj τ acc H6=>(∃ t0,τ=[t0,some (.int (0 + (i:Int)))])/\acc=(((rs.map (·.2)).take j).map λr=>r.getD i 0).map V.int/\au H5 H6;wV (K:=K) (a:=lr) (xs:=rs.map λx=>V.ref x.1) W11 ⟨⟨_,rfl⟩,rfl,au.refl _⟩ (by rw [zA];omega) ?_ ?_ ?_)
   ·rintro j τ acc H6 ⟨_,rfl,s6⟩;exact ⟨by rw [zA,zA,zR];omega,aB.of (s6 _ _ (sm _ _ MI))⟩
   ·rintro j v τ acc H6 C2 hv ⟨⟨t1,rfl⟩,rfl,s6⟩ hC2;obtain ⟨x,RJ,rfl⟩:=wF hv;obtain ⟨kx,lx⟩:=hx x (zB RJ);refine (zr rfl (zr rfl (bV (s6 _ _ (sm _ _ kx)) (by rw [zq];exact wP (v:=V.int (x.2.getD i 0)) (by rw [zF,zG,zC (by omega)];rfl)) (hC2 _ _ _ ⟨⟨_,rfl⟩,?_,s6⟩))));rw [wK (wW RJ),zD,zD];rfl
   ·rintro bC aid H6 ⟨⟨t1,rfl⟩,rfl,s6⟩ lc fH;have e:(rs.map λx=>V.ref x.1).length=(rs.map (·.2)).length:=by rw [zA,zA]
    rw [e,zS];refine ⟨lc,zr rfl ⟨aB.of xj,hC _ _ _ ⟨⟨_,rfl⟩,?_,sm.trans (s6.trans (xl fH))⟩⟩⟩;rw [wK (gq hi),zD];simp
  rintro τ acc H5 ⟨⟨t0,rfl⟩,rfl,sm⟩ l hl;rw [show List.take n (dM n (rs.map (·.2)) [])=dM n (rs.map (·.2)) [] from List.take_of_length_le (by rw [qX];exact zI _)];have Pf:=sm.trans (xl (o:=HO.lst ((dM n (rs.map (·.2)) []).map V.int)) hl);have kl:upd H5 l (HO.lst ((dM n (rs.map (·.2)) []).map V.int)) l=some (.lst ((dM n (rs.map (·.2)) []).map V.int)):=xj;have nl:H l=none:=by
   cases z:H l with
   | none=>rfl
   | some u=>rw [sm _ _ z] at hl;cases hl
  generalize upd H5 l (HO.lst ((dM n (rs.map (·.2)) []).map V.int))=H1 at Pf kl ⊢;refine (zr rfl ⟨ls,rfl,⟨_,aB.of (Pf _ _ MH)⟩,?_⟩);refine (let W12:IV:=λi σ H6=>(∃ v4 v5,σ=[some (.int n),some (.ref lr),some (.ref ls),some (.ref l),v4,v5])/\H6 l=some (.lst ((dM n (rs.map (·.2)) ((ts.map (·.2)).take i)).map V.int))/\au H H6;sW (K:=K) (a:=ls) (xs:=ts.map λx=>V.ref x.1) W12 ⟨⟨_,_,rfl⟩,kl,Pf⟩ ?_ ?_ ?_)
  ·rintro i σ H6 _ ⟨_,_,s6⟩;exact aB.of (s6 _ _ MH)
  ·rintro i v σ H6 hv ⟨⟨v4,v5,rfl⟩,k6,s6⟩;obtain ⟨x,RJ,rfl⟩:=wF hv;obtain ⟨kx,x0,x1⟩:=ht x (zB RJ);obtain ⟨k,ek⟩:=zn x0;have hk:k < n:=by omega
   have RU:=gq (rows:=rs.map (·.2)) (ps:=(ts.map (·.2)).take i) hk;refine (pU (s6 _ _ kx) ?_);refine (zr rfl (zr rfl ⟨l,_,_,k,rfl,congrArg V.int ek,aB.of k6,by rw [zF,RU];rfl,zr rfl (aJ rfl rfl ⟨l,_,_,k,rfl,rfl,k6,by rw [ek];exact qz (by rw [zA,qX];exact hk),⟨_,_,rfl⟩,?_,au.put nl s6⟩)⟩));rw [xj,wK (wW RJ),show x.2=((k:Int),x.2.2) by rw [<-ek],Ln hk RU,yQ]
  ·rintro σ H6 ⟨⟨v4,v5,rfl⟩,k6,s6⟩;have e:(ts.map λx=>V.ref x.1).length=(ts.map (·.2)).length:=by rw [zA,zA]
   rw [e,zS] at k6;exact (zr rfl (q l H6 nl s6 k6))
theorem Dm:aC ["sums", "parts"] ["sums", "parts"] (ak ql):=L2.aX
theorem Fp (T:Tx K mg a):aQ P w K mg base ck 1 a.Al a.AN ["sums", "parts"] (P6):=by
 refine T.Ay.ok Dm (λvs H Q E h=>?_) (λbL A outer s H vs Q E hr h=>?_)
 ·obtain ⟨_,_,_,_,rfl,_⟩:=h;rfl
 ·have nd:=Dm.nd;have hu:=hr.units;obtain ⟨l,a,ns,ps,rfl,hl,ha,en,fY,q⟩:=h;refine ⟨_,(xi (wG (wB (xr (qp rfl rfl) (by rfl) T.gX yI (xf (xg (wc (own:=["total", "part"]) (caps:=[]) rfl (show ay ["total", "part"] [] ["sums", "parts"] (ak ql) _ from L2.bR) (qi rfl rfl T.cN (xf (xg (pv 0) (xg (pv 1) xp rfl) rfl))) (λ_ _ _ _=>(wI (n:=2) rfl rfl (xo (xm (i:=0) (show List.Nodup (["total", "part"]:List Str) from by decide +kernel) rfl rfl) (xo (xm (i:=1) (show List.Nodup (["total", "part"]:List Str) from by decide +kernel) rfl rfl) wH)))) (λ_ _ _ _=>wT) (λ_ _ _ _=>(wx fD (pv 0) (xx (xz rfl) (pv 1) xh (λ_ _=>rfl)) (az _)))) xp rfl)))))),?_⟩;have line:=aU;refine (zr rfl (zr rfl ⟨l,a,rfl,⟨_,aB.of hl⟩,⟨_,aB.of ha.l⟩,?_⟩));refine eE (K:=K) (a:=l) (b:=a) (xs:=List.map V.int ns) (ys:=ps.map λa=>V.ref a.1) (by rw [zA,zA,en]) (λi τ acc H5=>(∃ t0 t1,τ=[t0,t1])/\acc=((((ns.zip (ps.map (·.2))).take i).map λp=>decide (p.1<=p.2.m))).map V.bl/\au H H5) ⟨⟨_,_,rfl⟩,rfl,au.refl _⟩ (by rw [zA];omega) ?_ ?_ ?_
  ·rintro i τ acc H5 ⟨_,rfl,sm⟩;refine ⟨?_,aB.of (sm _ _ hl),aB.of (sm _ _ ha.l)⟩;rw [zA,zA,zR];omega
  ·rintro i x y z τ acc H5 C hx hy hz ⟨⟨t0,t1,rfl⟩,rfl,sm⟩ hC;obtain ⟨x2,Ua,rfl⟩:=wF hx;obtain ⟨r,hr,rfl⟩:=wF hy;have gR:=sm.trans (xl (o:=HO.tup [V.int x2,V.ref r.1]) hz);refine (pU xj ?_);refine (zr rfl (zr rfl (bP (gR _ _ (ha.each r (zB hr))) rfl (aJ rfl rfl (hC _ _ _ ⟨⟨_,_,rfl⟩,?_,gR⟩)))));rw [wK (qe Ua (wW hr)),zD,zD];rfl
  ·rintro τ acc H5 ⟨⟨t0,t1,rfl⟩,rfl,sm⟩ lc fH;refine ⟨lc,zr rfl ⟨aB.of xj,?_⟩⟩;have e:(List.map V.int ns).length=(ns.zip (ps.map (·.2))).length:=by rw [zA,gj (by rw [zA,en])]
   rw [e,zS,xV];exact q _ (sm.trans (xl fH))
theorem EL:aC ["book", "loads", "wants", "thing", "rows", "straight", "left", "came"] ["book", "loads", "wants", "thing"] (ak wo):=L2.aX
theorem Hy (T:Tx K mg a):aQ P w K mg base ck 6 a.AZ a.BZ ["book", "loads", "wants", "thing"] (P5):=by
 have G1:=FS P w base T;have FK:=E1 P w base T;have G3:=FU P w base T;have JG:=J8 P w base T;have DJ:=Fp P w base T;refine T.By.ok EL (λvs H Q E h=>?_) (λbL A outer s H vs Q E hr h=>?_)
 ·obtain ⟨_,_,_,_,_,_,_,_,_,_,_,_,_,_,rfl,_⟩:=h;rfl
 ·have nd:=EL.nd;have hu:=hr.units;obtain ⟨b,ll,lw,p,af,tr,tm,ps,ls,ws,lr,lt,xs,ts,rfl,hb,gd,S7,hl,hw,hp,ok,Wk,q⟩:=h;refine bS ?_;intro Y
  let B0:Bk Y ((aj wo).drop 5):=⟨_,(xi (wA (wN (@PW.pt _ _ _ (qa (wU (wL (xq DJ (hr.mono (by decide)) rfl T.DE T.DF T.DG .nil aq (xf (xg (pv 6) (xg (pv 1) xp rfl) rfl))))) (qK (wU (wL (xq DJ (hr.mono (by decide)) rfl T.DE T.DF T.DG .nil aq (xf (xg (pv 7) (xg (pv 2) xp rfl) rfl)))))))) (xi (wG (wB iu))) wE) (wG (wB (xr (cj rfl) (by rfl) T.l6 yc (xf (xg (pv 7) xp rfl)))))))⟩
  let B1:Bk Y ((aj wo).drop 4):=⟨_,(xi (wA (xy (i:=7) nd rfl rfl (xq JG (hr.mono (by decide)) rfl T.IY T.Jf T.Jn .nil aq (xf (xg (xr (xw rfl) (by rfl) T.aM PySem.boot_len (xf (xg (pv 2) xp rfl))) (xg (wc (own:=["row"]) (caps:=[]) rfl (show ay ["row"] [] ["book", "loads", "wants", "thing", "rows", "straight", "left", "came"] (ak wo) _ from L2.bR) (wZ rfl (pv 4)) (λ_ _ _ _=>(xm (i:=0) (show List.Nodup (["row"]:List Str) from by decide +kernel) rfl rfl)) (λ_ _ _ _=>wT) (λ_ _ _ _=>(xx (xz rfl) (pv 0) xh (λ_ _=>rfl)))) (xg (wc (own:=["load", "want", "many"]) (caps:=[]) rfl (show ay ["load", "want", "many"] [] ["book", "loads", "wants", "thing", "rows", "straight", "left", "came"] (ak wo) _ from L2.bR) (wZ rfl (pv 5)) (λ_ _ _ _=>(wI (n:=3) rfl rfl (xo (xm (i:=0) (show List.Nodup (["load", "want", "many"]:List Str) from by decide +kernel) rfl rfl) (xo (xm (i:=1) (show List.Nodup (["load", "want", "many"]:List Str) from by decide +kernel) rfl rfl) (xo (xm (i:=2) (show List.Nodup (["load", "want", "many"]:List Str) from by decide +kernel) rfl rfl) wH))))) (λ_ _ _ _=>wT) (λ_ _ _ _=>(qA (xf (xg (pv 1) (xg (pv 2) xp rfl) rfl))))) xp rfl) rfl) rfl)))) B0.bl))⟩
  let B2:Bk Y ((aj wo).drop 3):=⟨_,(xi (wA (xy (i:=6) nd rfl rfl (xq JG (hr.mono (by decide)) rfl T.IY T.Jf T.Jn .nil aq (xf (xg (xr (xw rfl) (by rfl) T.aM PySem.boot_len (xf (xg (pv 1) xp rfl))) (xg (wc (own:=["row"]) (caps:=[]) rfl (show ay ["row"] [] ["book", "loads", "wants", "thing", "rows", "straight", "left", "came"] (ak wo) _ from L2.bR) (wZ rfl (pv 4)) (λ_ _ _ _=>(xm (i:=0) (show List.Nodup (["row"]:List Str) from by decide +kernel) rfl rfl)) (λ_ _ _ _=>wT) (λ_ _ _ _=>(xx (xz rfl) (pv 0) xh (λ_ _=>rfl)))) (xg (wc (own:=["load", "want", "many"]) (caps:=[]) rfl (show ay ["load", "want", "many"] [] ["book", "loads", "wants", "thing", "rows", "straight", "left", "came"] (ak wo) _ from L2.bR) (wZ rfl (pv 5)) (λ_ _ _ _=>(wI (n:=3) rfl rfl (xo (xm (i:=0) (show List.Nodup (["load", "want", "many"]:List Str) from by decide +kernel) rfl rfl) (xo (xm (i:=1) (show List.Nodup (["load", "want", "many"]:List Str) from by decide +kernel) rfl rfl) (xo (xm (i:=2) (show List.Nodup (["load", "want", "many"]:List Str) from by decide +kernel) rfl rfl) wH))))) (λ_ _ _ _=>wT) (λ_ _ _ _=>(qA (xf (xg (pv 0) (xg (pv 2) xp rfl) rfl))))) xp rfl) rfl) rfl)))) B1.bl))⟩
  let B3:Bk Y ((aj wo).drop 2):=⟨_,(xi (wA (wN (@PW.pt _ _ _ (qa (wU (wL (xq FK (hr.mono (by decide)) rfl T.Ft T.Fy T.FD .nil aq (xf (xg (pv 1) (xg (pv 2) (xg (pv 5) xp rfl) rfl) rfl))))) (qK (wU (wL (xq G3 (hr.mono (by decide)) rfl T.GM T.GQ T.GU .nil aq (xf (xg (pv 0) (xg (pv 1) (xg (pv 2) (xg (pv 4) xp rfl) rfl) rfl) rfl)))))))) (xi (wG (wB iu))) wE) B2.bl))⟩
  refine ⟨_,(xi (wA (wN (wU (wL (xq G1 (hr.mono (by decide)) rfl T.GK T.GO T.GS .nil aq (xf (xg (pv 0) (xg (pv 1) (xg (pv 2) (xg (pv 3) xp rfl) rfl) rfl) rfl))))) (xi (wG (wB iu))) wE) (wA (wg (pv 3) (wI (n:=2) rfl rfl (xo (xm (i:=4) nd rfl rfl) (xo (xm (i:=5) nd rfl rfl) wH)))) B3.bl))),?_⟩;have line:=aU;have pN:=ok.pN;have P4:=ok.t;have ln:=ok.n;have okl:=ok.l;have okw:=ok.w;refine (zr rfl (zr rfl (zr rfl (zr rfl (XN b ll lw p af tr tm ps ls ws lr lt xs ts ⟨rfl,hb,hl,hw,hp,ok,λH1 s1=>(zr rfl (av rfl ?_))⟩)))));refine (zr rfl (pU (s1 _ _ hp.p) ?_));refine (zr rfl (zr rfl (zr rfl ⟨ll,lw,lt,ls,ws,ts,rfl,hl.same s1,hw.same s1,s1 _ _ hp.ls,λx hx=>s1 _ _ (hp.ones x hx),P4,ok.ones,Wk,λH2 s2=>(zr rfl ?_)⟩)));have LK:=s1.trans s2;cases c1:dY (ls.map (·.2)) (ws.map (·.2)) (ts.map (·.2)) with
  | false=>
   have:=q _ LK;rw [show b6 af (ps.map (·.2)) (ls.map (·.2)) (ws.map (·.2)) (xs.map (·.r)) (ts.map (·.2))=none by unfold b6;rw [c1];rfl] at this;exact aE rfl (aE rfl this)
  | true=>
  refine av rfl (zr rfl (zr rfl (zr rfl (zr rfl (acV b ll lw lr af tr tm ps ls ws xs ⟨rfl,hb.same LK,gd,S7,hl.same LK,hw.same LK,okl,okw,LK _ _ hp.lr,λx hx=>(hp.rows x hx).same LK,ln,λx hx=>⟨(ok.rows x hx).bl,(ok.rows x hx).cl⟩,λH3 s3=>(zr rfl ?_)⟩)))));have LJ:=LK.trans s3;cases c2:dH af (ls.map (·.2)) (ws.map (·.2)) ((ps.map (·.2)).zip (xs.map (·.r))) (List.replicate af.length 0) with
  | false=>
   have:=q _ LJ;rw [show b6 af (ps.map (·.2)) (ls.map (·.2)) (ws.map (·.2)) (xs.map (·.r)) (ts.map (·.2))=none by unfold b6;rw [c1,c2];rfl] at this;exact aE rfl this
  | true=>
  refine av rfl ?_;refine (zr rfl ⟨ll,zr rfl ⟨.inl (aB.of (LJ _ _ hl.l)),?_⟩⟩);refine (zr rfl ⟨lr,rfl,⟨_,aB.of (LJ _ _ hp.lr)⟩,?_⟩);refine (let W13:IC:=λi τ acc H5=>(∃ t0,τ=[t0])/\acc=(xs.take i).map (λx=>V.ref x.b)/\H3=H5;wV (K:=K) (a:=lr) (xs:=xs.map λx=>V.ref x.a) W13 ⟨⟨_,rfl⟩,rfl,rfl⟩ (by rw [zA];omega) ?_ ?_ ?_)
  ·rintro i τ acc H5 ⟨_,rfl,rfl⟩;exact ⟨by rw [zA,zR];omega,aB.of (LJ _ _ hp.lr)⟩
  ·rintro i v τ acc H5 C hv ⟨⟨t0,rfl⟩,rfl,rfl⟩ hC;obtain ⟨x,hx,rfl⟩:=wF hv;refine (zr rfl (bP (LJ _ _ (hp.rows x (zB hx)).a) rfl (hC _ _ _ ⟨⟨_,rfl⟩,?_,rfl⟩)));rw [wK hx,zD];rfl
  rintro τ acc H5 ⟨⟨t0,rfl⟩,rfl,rfl⟩ lq hlq;rw [zA,zS];have sK:=xl (o:=HO.lst (xs.map λx=>V.ref x.b)) hlq;have WL:upd H3 lq (HO.lst (xs.map λx=>V.ref x.b)) lq=some (.lst (xs.map λx=>V.ref x.b)):=xj;have Kr:=LJ.trans sK;generalize upd H3 lq (HO.lst (xs.map λx=>V.ref x.b))=H4 at sK WL Kr ⊢;refine (zr rfl ⟨lt,rfl,⟨_,aB.of (Kr _ _ hp.ls)⟩,?_⟩);refine (let W14:IC:=λi τ acc H5=>∃ qs:List (Addr×Int×Int),(∃ t0 t1 t2,τ=[t0,t1,t2])/\acc=qs.map (λx=>V.ref x.1)/\(∀ x∈qs,H5 x.1=some (.tup [.int x.2.1,.int x.2.2])/\0<=x.2.1/\x.2.1 < (ls.length:Int))/\qs.map (·.2)=(ts.take i).map (λx=>(x.2.k,x.2.m))/\au H4 H5;wV (K:=K) (a:=lt) (xs:=ts.map λx=>V.ref x.1) W14 ⟨[],⟨_,_,_,rfl⟩,rfl,nofun,rfl,au.refl _⟩ (by rw [zA];omega) ?_ ?_ ?_)
  ·rintro i τ acc H5 ⟨qs,_,rfl,_,eq,sm⟩;refine ⟨?_,aB.of (sm _ _ (Kr _ _ hp.ls))⟩;have:=congrArg List.length eq;rw [zA,zA,zR] at this;rw [zA];omega
  ·rintro i v τ acc H5 C hv ⟨qs,⟨t0,t1,t2,rfl⟩,rfl,kq,eq,sm⟩ hC;obtain ⟨x,hx,rfl⟩:=wF hv;have mx:=zB hx;refine (MZ (sm _ _ (Kr _ _ (hp.ones x mx))) ?_);refine (zr rfl (zr rfl ⟨by show 2<=_;omega,λu hu=>?_⟩));have su:=xl (o:=HO.tup [V.int x.2.k,V.int x.2.m]) hu;refine hC _ _ _ ⟨qs++[(u,x.2.k,x.2.m)],⟨_,_,_,rfl⟩,by rw [zD];rfl,λy hy=>?_,?_,sm.trans su⟩
   ·rcases zV.mp hy with h | h
    ·exact ⟨su _ _ (kq y h).1,(kq y h).2⟩
    ·rw [zK.mp h];exact ⟨xj,(ok.ones x mx).k⟩
   ·rw [zD,eq,wK hx,zD];rfl
  rintro τ acc H5 ⟨qs,⟨t0,t1,t2,rfl⟩,rfl,kq,eq,sm⟩ lp Ui;rw [zA,zS] at eq;have sP:=sm.trans (xl (o:=HO.lst (qs.map λx=>V.ref x.1)) Ui);have kp:upd H5 lp (HO.lst (qs.map λx=>V.ref x.1)) lp=some (.lst (qs.map λx=>V.ref x.1)):=xj;have WM:∀ x∈qs,upd H5 lp (HO.lst (qs.map λx=>V.ref x.1)) x.1=some (.tup [.int x.2.1,.int x.2.2])/\0<=x.2.1/\x.2.1 < (ls.length:Int):=λx hx=>⟨xl Ui _ _ (kq x hx).1,(kq x hx).2⟩;have s06:=Kr.trans sP;generalize upd H5 lp (HO.lst (qs.map λx=>V.ref x.1))=H6 at sP kp WM s06 ⊢;refine ⟨ls.length,lq,lp,xs.map (λx=>(x.b,x.r.bg)),qs,by rw [zA];rfl,okl,by rw [zp];exact sP _ _ WL,λy hy=>?_,by rw [zA];omega,kp,WM,by have:=congrArg List.length eq;rw [zA,zA] at this;omega,λl1 H7 Ou sD k1=>?_⟩
  ·obtain ⟨x,hx,rfl⟩:=zd.mp hy;exact ⟨s06 _ _ (hp.rows x hx).b,(ok.rows x hx).bl⟩
  rw [zp,eq] at k1;have eF:dM ls.length (List.map ((λx:Addr×List Int=>x.2) ∘ λx:RA=>(x.b,x.r.bg)) xs) (ts.map λx=>(x.2.k,x.2.m))=gT ls.length (xs.map (·.r)) (ts.map (·.2)):=by unfold gT;rw [zp,zp];rfl
  rw [eF] at k1;have VT:=s06.trans sD;refine (zr rfl ⟨lw,zr rfl ⟨.inl (aB.of (VT _ _ hw.l)),?_⟩⟩);refine (zr rfl ⟨lr,rfl,⟨_,aB.of (VT _ _ hp.lr)⟩,?_⟩);refine (let W15:IC:=λi τ acc H5=>(∃ t0,τ=[t0])/\acc=(xs.take i).map (λx=>V.ref x.c)/\H7=H5;wV (K:=K) (a:=lr) (xs:=xs.map λx=>V.ref x.a) W15 ⟨⟨_,rfl⟩,rfl,rfl⟩ (by rw [zA];omega) ?_ ?_ ?_)
  ·rintro i τ acc H5 ⟨_,rfl,rfl⟩;exact ⟨by rw [zA,zR];omega,aB.of (VT _ _ hp.lr)⟩
  ·rintro i v τ acc H5 C hv ⟨⟨t0,rfl⟩,rfl,rfl⟩ hC;obtain ⟨x,hx,rfl⟩:=wF hv;refine (zr rfl (bP (VT _ _ (hp.rows x (zB hx)).a) rfl (hC _ _ _ ⟨⟨_,rfl⟩,?_,rfl⟩)));rw [wK hx,zD];rfl
  rintro τ acc H5 ⟨⟨t0,rfl⟩,rfl,rfl⟩ lq hlq;rw [zA,zS];have sK:=xl (o:=HO.lst (xs.map λx=>V.ref x.c)) hlq;have WL:upd H7 lq (HO.lst (xs.map λx=>V.ref x.c)) lq=some (.lst (xs.map λx=>V.ref x.c)):=xj;have VS:=VT.trans sK;generalize upd H7 lq (HO.lst (xs.map λx=>V.ref x.c))=H8 at sK WL VS ⊢;refine (zr rfl ⟨lt,rfl,⟨_,aB.of (VS _ _ hp.ls)⟩,?_⟩);refine (let W16:IC:=λi τ acc H5=>∃ qs:List (Addr×Int×Int),(∃ t0 t1 t2,τ=[t0,t1,t2])/\acc=qs.map (λx=>V.ref x.1)/\(∀ x∈qs,H5 x.1=some (.tup [.int x.2.1,.int x.2.2])/\0<=x.2.1/\x.2.1 < (ws.length:Int))/\qs.map (·.2)=(ts.take i).map (λx=>(x.2.j,x.2.m))/\au H8 H5;wV (K:=K) (a:=lt) (xs:=ts.map λx=>V.ref x.1) W16 ⟨[],⟨_,_,_,rfl⟩,rfl,nofun,rfl,au.refl _⟩ (by rw [zA];omega) ?_ ?_ ?_)
  ·rintro i τ acc H5 ⟨qs,_,rfl,_,eq,sm⟩;refine ⟨?_,aB.of (sm _ _ (VS _ _ hp.ls))⟩;have:=congrArg List.length eq;rw [zA,zA,zR] at this;rw [zA];omega
  ·rintro i v τ acc H5 C hv ⟨qs,⟨t0,t1,t2,rfl⟩,rfl,kq,eq,sm⟩ hC;obtain ⟨x,hx,rfl⟩:=wF hv;have mx:=zB hx;refine (MZ (sm _ _ (VS _ _ (hp.ones x mx))) ?_);refine (zr rfl (zr rfl ⟨by show 2<=_;omega,λu hu=>?_⟩));have su:=xl (o:=HO.tup [V.int x.2.j,V.int x.2.m]) hu;refine hC _ _ _ ⟨qs++[(u,x.2.j,x.2.m)],⟨_,_,_,rfl⟩,by rw [zD];rfl,λy hy=>?_,?_,sm.trans su⟩
   ·rcases zV.mp hy with h | h
    ·exact ⟨su _ _ (kq y h).1,(kq y h).2⟩
    ·rw [zK.mp h];exact ⟨xj,(ok.ones x mx).j⟩
   ·rw [zD,eq,wK hx,zD];rfl
  rintro τ acc H5 ⟨qs,⟨t0,t1,t2,rfl⟩,rfl,kq,eq,sm⟩ lp Ui;rw [zA,zS] at eq;have sP:=sm.trans (xl (o:=HO.lst (qs.map λx=>V.ref x.1)) Ui);have kp:upd H5 lp (HO.lst (qs.map λx=>V.ref x.1)) lp=some (.lst (qs.map λx=>V.ref x.1)):=xj;have WM:∀ x∈qs,upd H5 lp (HO.lst (qs.map λx=>V.ref x.1)) x.1=some (.tup [.int x.2.1,.int x.2.2])/\0<=x.2.1/\x.2.1 < (ws.length:Int):=λx hx=>⟨xl Ui _ _ (kq x hx).1,(kq x hx).2⟩;have s09:=VS.trans sP;generalize upd H5 lp (HO.lst (qs.map λx=>V.ref x.1))=H9 at sP kp WM s09 ⊢;refine ⟨ws.length,lq,lp,xs.map (λx=>(x.c,x.r.cm)),qs,by rw [zA];rfl,okw,by rw [zp];exact sP _ _ WL,λy hy=>?_,by rw [zA];omega,kp,WM,by have:=congrArg List.length eq;rw [zA,zA] at this;omega,λl2 gO MJ sD k2=>?_⟩
  ·obtain ⟨x,hx,rfl⟩:=zd.mp hy;exact ⟨s09 _ _ (hp.rows x hx).c,(ok.rows x hx).cl⟩
  rw [zp,eq] at k2;have eF:dM ws.length (List.map ((λx:Addr×List Int=>x.2) ∘ λx:RA=>(x.c,x.r.cm)) xs) (ts.map λx=>(x.2.j,x.2.m))=dc ws.length (xs.map (·.r)) (ts.map (·.2)):=by unfold dc;rw [zp,zp];rfl
  rw [eF] at k2;have iK:=s09.trans sD;have k17:=k1;have sA:au H7 gO:=(sK.trans sP).trans sD;have k1:=sA _ _ k1;refine (zr rfl (zr rfl ⟨l1,ll,gT ls.length (xs.map (·.r)) (ts.map (·.2)),ls,rfl,k1,hl.same iK,qX,okl,λjQ MB=>(zr rfl ?_)⟩));have SV:=iK.trans MB;cases c3:iI (gT ls.length (xs.map (·.r)) (ts.map (·.2))) (ls.map (·.2)) with
  | false=>
   have:=q _ SV;rw [show b6 af (ps.map (·.2)) (ls.map (·.2)) (ws.map (·.2)) (xs.map (·.r)) (ts.map (·.2))=none by unfold b6;rw [zA,c3];simp] at this;exact aE rfl (aE rfl this)
  | true=>
  refine av rfl (zr rfl (zr rfl ⟨l2,lw,dc ws.length (xs.map (·.r)) (ts.map (·.2)),ws,rfl,MB _ _ k2,hw.same SV,qX,okw,λmE kK=>(zr rfl ?_)⟩));have VU:=SV.trans kK;cases c4:iI (dc ws.length (xs.map (·.r)) (ts.map (·.2))) (ws.map (·.2)) with
  | false=>
   have:=q _ VU;rw [show b6 af (ps.map (·.2)) (ls.map (·.2)) (ws.map (·.2)) (xs.map (·.r)) (ts.map (·.2))=none by unfold b6;rw [zA,zA,c4];simp] at this;exact aE rfl this
  | true=>
  have:=q _ VU;rw [show b6 af (ps.map (·.2)) (ls.map (·.2)) (ws.map (·.2)) (xs.map (·.r)) (ts.map (·.2))=some (dc ws.length (xs.map (·.r)) (ts.map (·.2))).sum by unfold b6;rw [zA,zA,c1,c2,c3,c4];rfl] at this;exact av rfl (zr rfl ⟨l2,zr rfl ⟨aB.of (kK _ _ (MB _ _ k2)),this⟩⟩)
theorem Fi:aC ["_law_purse_here", "_law_book_here", "_law_walkers", "_law_later", "_law_walker", "_law_many", "_law_mine", "_law_at"] ["_law_purse_here", "_law_book_here", "_law_walkers", "_law_later"] (ak wz):=L2.aX
theorem Ie (T:Tx K mg a):aQ P w K mg base ck 4 a.Bt a.Cw ["_law_purse_here", "_law_book_here", "_law_walkers", "_law_later"] (Nm):=by
 have Aa:=we P w base T;have JJ:=Ic P w base T;refine T.BV.ok Fi (λvs H Q E h=>?_) (λbL A outer s H vs Q E hr h=>?_)
 ·obtain ⟨_,_,_,_,_,_,_,_,rfl,_⟩:=h;rfl
 ·have nd:=Fi.nd;have hu:=hr.units;obtain ⟨p,b,j,af,tr,tm,ps,n,rfl,hj,hb,gd,n1,n2,hp,q⟩:=h;refine bS ?_;intro Y
  let B0:Bk Y (nb (aj wz) 5):=⟨_,(xi (wG (xy (i:=7) nd rfl rfl (wC qY (xx (xu rfl) (pv 6) (xq Aa (hr.mono (by decide)) rfl T.Ab T.Ac T.Ae .nil aq (xf (xg (pv 0) (xg (xr (xw rfl) (by rfl) T.aM PySem.boot_len (xf (xg (pv 6) xp rfl))) xp rfl) rfl))) (λ_ _=>rfl)) (xq Aa (hr.mono (by decide)) rfl T.Ab T.Ac T.Ae .nil aq (xf (xg (pv 0) (xg xh xp rfl) rfl)))))))⟩
  let B1:Bk Y ((aj wz).drop 5):=⟨_,(xi (wA (wN (@PW.pt _ _ _ (qW (wD (kU hu) (pv 6) (wX qo) (az _)) (qV (wD qT (xq Aa (hr.mono (by decide)) rfl T.Ab T.Ac T.Ae .nil aq (xf (xg (pv 0) (xg xh xp rfl) rfl))) xh (az _))))) B0.ps wE) (wG (wB (qA (xf (xg (pv 4) (xg (pv 7) (xg (pv 5) xp rfl) rfl) rfl)))))))⟩
  let B2:Bk Y ((aj wz).drop 4):=⟨_,(xi (wA (xy (i:=7) nd rfl rfl (xq JJ (hr.mono (by decide)) rfl T.Ja T.Ji T.Jq .nil aq (xf (xg (pv 0) (xg (pv 1) (xg (pv 3) xp rfl) rfl) rfl)))) B1.bl))⟩
  let B3:Bk Y ((aj wz).drop 3):=⟨_,(xi (wA (qb (ix:=6) nd rfl rfl (own:=["_law_meeting"]) (caps:=[4]) rfl (show ay ["_law_meeting"] [4] ["_law_purse_here", "_law_book_here", "_law_walkers", "_law_later", "_law_walker", "_law_many", "_law_mine", "_law_at"] (ak wz) _ from L2.bR) (fQ rfl (xx (xz rfl) (pv 1) xh (λ_ _=>rfl))) (λ_ _ _ _=>(xm (i:=0) (show List.Nodup (["_law_meeting", "_law_walker"]:List Str) from by decide +kernel) rfl rfl)) (λ_ _ _ _=>dF (wD (eY rfl) (pv 1) (kQ (Qj rfl) (pv 0) KA (iN xh)) rfl)) (λ_ _ _ _=>(xx (xz rfl) (pv 0) xh (λ_ _=>rfl)))) B2.bl))⟩
  let B4:Bk Y (nb (aj wz) 2):=⟨_,(xi (wG (xy (i:=5) nd rfl rfl (wC wO xh (xq Aa (hr.mono (by decide)) rfl T.Ab T.Ac T.Ae .nil aq (xf (xg (pv 0) (xg xh xp rfl) rfl)))))))⟩
  let B5:Bk Y ((aj wz).drop 2):=⟨_,(xi (wA (wN (wD qT (xq Aa (hr.mono (by decide)) rfl T.Ab T.Ac T.Ae .nil aq (xf (xg (pv 0) (xg xh xp rfl) rfl))) xh (az _)) B4.ps wE) B3.bl))⟩
  let B6:Bk Y ((aj wz).drop 1):=⟨_,(xi (wA (xy (i:=5) nd rfl rfl (wC wO xh (xq Aa (hr.mono (by decide)) rfl T.Ab T.Ac T.Ae .nil aq (xf (xg (pv 0) (xg xh xp rfl) rfl))))) B5.bl))⟩
  refine ⟨_,(xi (wA (xy (i:=4) nd rfl rfl (xq Aa (hr.mono (by decide)) rfl T.Ab T.Ac T.Ae .nil aq (xf (xg (pv 0) (xg (pv 2) xp rfl) rfl)))) B6.bl)),?_⟩;have line:=aU;have mQ:(2:Int) ^ 200 > 10000:=by decide
  have WC:=gd.len;refine (zr rfl (zr rfl ⟨p,zr rfl ⟨by omega,by omega,hp,λw0 H1 w00 w01 g1=>?_⟩⟩));refine (zr rfl ⟨p,zr rfl ⟨by decide,by decide,g1.2,λd H2 d0 d1 g2=>(aJ rfl rfl ?_)⟩⟩);have g02:=g1.trans g2;refine (zr rfl ⟨p,zr rfl ⟨by decide,by decide,g2.2,λe H3 e0 e1 g3=>⟨rfl,zr rfl ?_⟩⟩⟩);have XH:=g02.trans g3;refine jv (fun σ H'=>∃ m,σ=[some (.ref p),some (.ref b),some (.int n),some (.int j),some (.int w0),some (.int m),none,none]/\1<=m/\m<=99/\Go p H H') ?_ (λc k=>?_) (λc=>(zr rfl ⟨by omega,by omega,XH⟩))
  rotate_left
  ·exact (zr rfl ⟨p,zr rfl ⟨by decide,by decide,g3.2,λf H4 f0 f1 g4=>(aJ rfl rfl (k _ _ (zr rfl ⟨by omega,by omega,XH.trans g4⟩)))⟩⟩)
  rintro σ H4 ⟨m,rfl,m1,m99,g4⟩;have Mf:=hb.aZ (g4.aZ hp);refine (zr rfl (bP Mf.book rfl ⟨tm,rfl,⟨_,aW.of Mf.meets⟩,?_⟩));refine (let W17:IC:=λi τ acc H5=>∃ ts:List Int,(∃ t0,τ=[t0,some (.int w0)])/\acc=ts.map V.int/\ts.length<=i/\au H4 H5;i8 (K:=K) (a:=tm) (xs:=ps.map λa=>V.ref a.1) W17 ⟨[],⟨_,rfl⟩,rfl,zI _,au.refl _⟩ (by rw [zA];omega) ?_ ?_ ?_)
  ·rintro i τ acc H5 ⟨ts,_,rfl,lt,sm⟩;exact ⟨by rw [zA];exact lt,aW.of (sm _ _ Mf.meets)⟩
  ·rintro i v τ acc H5 C hv ⟨ts,⟨t0,rfl⟩,rfl,lt,sm⟩ hC;obtain ⟨r,hr,rfl⟩:=wF hv;have jV:=sm _ _ (Mf.rows r (zB hr));refine (zr rfl (zr rfl ⟨2,rfl,r.1,zr rfl ⟨aW.of jV,(by show ¬ (HT.cz 4 0 none=0/\HT.cz 4 4 (some 2)=4);decide),λp2 hp2=>?_⟩⟩));have s2:=xl (o:=HO.tup [V.int r.2.lo,V.int r.2.hi]) hp2;refine ⟨p2,[.int r.2.lo,.int r.2.hi],rfl,.inr (aW.of xj),rfl,rfl,zr rfl (uS (λc=>?_) λc=>hC _ _ _ ⟨ts,⟨_,rfl⟩,rfl,by omega,sm.trans s2⟩)⟩;exact (zr rfl (bP (s2 _ _ jV) rfl (hC _ _ _ ⟨ts++[r.2.t],⟨_,rfl⟩,by rw [zD];rfl,by rw [zO];show ts.length + 1<=_;omega,sm.trans s2⟩)))
  rintro τ acc H5 ⟨ts,⟨t0,rfl⟩,rfl,lt,sm⟩ lm YS;rw [zA] at lt;have s5:=sm.trans (xl (o:=HO.lst (ts.map V.int)) YS);have k5:upd H5 lm (HO.lst (ts.map V.int)) lm=some (.lst (ts.map V.int)):=xj;have g5:=g4.same s5;have nlm:lm≠p:=(g4.same sm).2.ne YS;generalize upd H5 lm (HO.lst (ts.map V.int))=H6 at s5 k5 g5 ⊢;have Pq:=Mf.same s5;refine (zr rfl (zr rfl (zr rfl (ex7 p b j af tr tm ps ⟨rfl,hj,Pq,gd,g5.2,λat' H7 a0 a1 g7=>?_⟩))));have g07:=g5.trans g7;have k7:=g7.1 lm _ nlm k5;refine (zr rfl ⟨zo _,λl0 Ov=>⟨lm,l0,zr rfl ⟨rfl,aB.of (xl Ov _ _ k7),aB.of xj,zr rfl ?_⟩⟩⟩);have Uw:=g07.new (o:=HO.lst []) Ov;have k8:=xl (o:=HO.lst []) Ov _ _ k7;generalize upd H7 l0 (HO.lst [])=H8 at Uw k8 ⊢;refine T4 (fun σ H'=>∃ x,σ=[some (.ref p),some (.ref b),some (.int n),some (.int j),some (.int w0),some (.int m),some (.ref lm),some (.int x)]/\Go p H H') ?_ (λc k=>?_) (λc=>(zr rfl Uw))
  ·rintro σ H9 ⟨x,rfl,g9⟩;exact (zr rfl (zr rfl (zr rfl ⟨by show 3<=_;omega,λt ht=>q t ⟨w0,x,m⟩ _ (g9.new ht) xj w00 w01 m1 m99⟩)))
  refine (zr rfl ⟨p,zr rfl ⟨by decide,by decide,Uw.2,λd2 H9 d20 d21 g9=>⟨rfl,zr rfl (jv _ k (λc2 k2=>?_) (λc2=>(zr rfl (Uw.trans g9))))⟩⟩⟩);have k9:=g9.1 lm _ nlm k8;have lts:1<=ts.length:=by
   cases ts with
   | nil=>cases c
   | cons _ _=>simp
  refine (zr rfl (zr rfl (zr rfl ⟨lm,zr rfl ⟨.inl (aB.of k9),p,zr rfl ⟨by rw [zA];omega,by rw [zA];omega,g9.2,λd3 gO d30 d31 jy=>?_⟩⟩⟩)));rw [zA] at d31;obtain ⟨z,rfl⟩:=zn d30;have hz:z < ts.length:=by omega
  refine (bV (jy.1 lm _ nlm k9) (wP (v:=V.int ts[z]) (by simp [hz])) (zr rfl ⟨p,zr rfl ⟨by decide,by decide,jy.2,λd4 jQ d40 d41 pP=>(aJ rfl rfl (k2 _ _ (zr rfl (Uw.trans (g9.trans (jy.trans pP))))))⟩⟩))
theorem ES:aC ["_law_script", "_law_book_here", "_law_head", "_law_first", "_law_later", "_law_many", "_law_walkers", "_law_some"] ["_law_script", "_law_book_here", "_law_head", "_law_first", "_law_later"] (ak qJ):=L2.aX
theorem HF (T:Tx K mg a):aQ P w K mg base ck 5 a.Bd a.Cf ["_law_script", "_law_book_here", "_law_head", "_law_first", "_law_later"] (LA K):=by
 have Bx:=Dv P w base T;have Aa:=we P w base T;have JL:=Ie P w base T;refine T.BE.ok ES (λvs H Q E h=>?_) (λbL A outer s H vs Q E hr h=>?_)
 ·obtain ⟨_,_,_,_,_,_,_,_,_,_,_,rfl,_⟩:=h;rfl
 ·have nd:=ES.nd;have hu:=hr.units;obtain ⟨sa,b,hd,j,af,tr,tm,ps,ns,n,H0,rfl,hsa,Wn,h0,sm0,Tv,hj,hb,gd,r1,mC,hp,q⟩:=h;refine bS ?_;intro Y
  let B0:Bk Y ((aj qJ).drop 4):=⟨_,(xi (wA (wN (@PW.pt _ _ _ (qW (wD fE (pv 5) xh (az _)) (qV (wD qT (xq Aa (hr.mono (by decide)) rfl T.Ab T.Ac T.Ae .nil aq (xf (xg (pv 2) (xg xh xp rfl) rfl))) xh (az _))))) (xi (wG (wg (xx (xu rfl) (pv 7) xh (λ_ _=>rfl)) (qu (pv 7) xh wv)))) wE) (wG (wB (pv 7)))))⟩
  let B1:Bk Y ((aj qJ).drop 3):=⟨_,(xi (wA (qb (ix:=7) nd rfl rfl (own:=["_law_k"]) (caps:=[1,6,4,0,3]) rfl (show ay ["_law_k"] [1,6,4,0,3] ["_law_script", "_law_book_here", "_law_head", "_law_first", "_law_later", "_law_many", "_law_walkers", "_law_some"] (ak qJ) _ from L2.bR) (wq rfl T.bf (xf (xg (pv 5) xp rfl))) (λ_ _ _ _=>(xm (i:=0) (show List.Nodup (["_law_k", "_law_book_here", "_law_walkers", "_law_later", "_law_script", "_law_first"]:List Str) from by decide +kernel) rfl rfl)) (λ_ _ _ _=>wT) (λ_ _ _ _=>(xq JL (hr.mono (by decide)) rfl T.Jc T.Jk T.Js .nil aq (xf (xg (xq Bx (hr.mono (by decide)) rfl T.CG T.CI T.CJ .nil aq (xf (xg (pv 4) (xg (wC wO (pv 5) (wC cY xh (pv 0))) xp rfl) rfl))) (xg (pv 1) (xg (pv 2) (xg (pv 3) xp rfl) rfl) rfl) rfl))))) B0.bl))⟩
  let B2:Bk Y ((aj qJ).drop 2):=⟨_,(xi (wA (xy (i:=6) nd rfl rfl (xx (xu rfl) (wX (xf (xg (xr (xw rfl) (by rfl) T.aM PySem.boot_len (xf (xg (xx (xz rfl) (pv 1) xh (λ_ _=>rfl)) xp rfl))) (xg (xr (cW rfl) (by rfl) T.nR yl (xf (xg xh (xg (xr (xw rfl) (by rfl) T.aM PySem.boot_len (xf (xg (xx (xz rfl) (pv 1) xh (λ_ _=>rfl)) xp rfl))) xp rfl) rfl))) xp rfl) rfl))) (xq Aa (hr.mono (by decide)) rfl T.Ab T.Ac T.Ae .nil aq (xf (xg (pv 2) (xg xh xp rfl) rfl))) (λ_ _=>rfl))) B1.bl))⟩
  let B3:Bk Y ((aj qJ).drop 1):=⟨_,(xi (wA (wN (wD qT (xq Aa (hr.mono (by decide)) rfl T.Ab T.Ac T.Ae .nil aq (xf (xg (pv 2) (xg xh xp rfl) rfl))) xh (az _)) (xi (wG (xy (i:=5) nd rfl rfl xh))) wE) B2.bl))⟩
  refine ⟨_,(xi (wA (xy (i:=5) nd rfl rfl (xq Aa (hr.mono (by decide)) rfl T.Ab T.Ac T.Ae .nil aq (xf (xg (pv 2) (xg xh xp rfl) rfl)))) B3.bl)),?_⟩;have line:=aU;have mQ:(2:Int) ^ 200 > 10000:=by decide
  refine (zr rfl ⟨hd,zr rfl ⟨by decide,by decide,hp,λd H1 d0 d1 g1=>?_⟩⟩);refine (zr rfl ⟨hd,zr rfl ⟨by decide,by decide,g1.2,λe H3 e0 e1 g3=>⟨rfl,zr rfl ?_⟩⟩⟩);have XH:=g1.trans g3;refine jv (fun σ H'=>∃ m:Nat,σ=[some (.ref sa),some (.ref b),some (.ref hd),some (.int n),some (.int j),some (.int m),none,none]/\m<=8/\Go hd H H') ?_ (λc k=>k _ _ ⟨8,rfl,by omega,XH⟩) (λc=>by obtain ⟨m,rfl⟩:=zn d0;exact ⟨m,rfl,by omega,XH⟩);rintro σ H4 ⟨m,rfl,m8,g4⟩;have Mf:=hb.aZ (g4.aZ hp);have rl:(af.map V.int).length=af.length:=zA _;refine (zr rfl (bP Mf.book rfl ⟨tr,zr rfl ⟨.inr (aW.of Mf.af),zr rfl (bP Mf.book rfl ⟨tr,zr rfl ⟨.inr (aW.of Mf.af),mq rfl ⟨by show 2<=_;omega,λu hu=>(zr rfl ⟨hd,zr rfl ⟨by decide,by decide,(g4.new hu).2,λd2 H6 d20 d21 g6=>?_⟩⟩)⟩⟩⟩)⟩⟩));have Vq:=(g4.new (o:=HO.lst [V.int (((af.map V.int).length:Nat):Int),V.int (if (((af.map V.int).length:Nat):Int) < 2 then (((af.map V.int).length:Nat):Int) else 2)]) hu).trans g6;have nu:u≠hd:=g4.2.ne hu;have ku:=g6.1 u _ nu xj;obtain ⟨nw,hw1,hw2,RU⟩:∃ nw:Nat,1<=nw/\nw<=af.length/\dU [V.int (((af.map V.int).length:Nat):Int),V.int (if (((af.map V.int).length:Nat):Int) < 2 then (((af.map V.int).length:Nat):Int) else 2)] d2=some (V.int nw):=by
   rw [rl];obtain rfl | rfl:d2=0\/d2=1:=by omega
   ·exact ⟨af.length,r1,zI _,rfl⟩
   ·refine ⟨min af.length 2,by omega,by omega,?_⟩;show some (V.int _)=some (V.int _);congr 2;split <;> omega
  refine (bV ku RU ?_);have Pq:=hb.aZ (Vq.aZ hp);have pu6:=Vq.2;refine (zr rfl (zr rfl ⟨by omega,by omega,?_⟩));refine (let W18:IC:=λi τ acc H5=>∃ ss:List (Addr×S3),(∃ t0,τ=[t0,some (.ref b),some (.int nw),some (.int j),some (.ref sa),some (.int n)])/\acc=ss.map (λa=>V.ref a.1)/\ss.length=i/\(∀ a∈ss,H5 a.1=some (.tup [.int a.2.w,.int a.2.t,.int a.2.m]))/\(∀ a∈ss,0<=a.2.w/\a.2.w < af.length/\1<=a.2.m/\a.2.m<=99)/\au H6 H5;cZ (lo:=0) (m:=m) W18 ⟨[],⟨_,rfl⟩,rfl,rfl,nofun,nofun,au.refl _⟩ (by omega) ?_ ?_ ?_)
  ·rintro i τ acc H5 ⟨ss,_,rfl,ls,_⟩;rw [zA,ls];exact zI _
  ·rintro i τ acc H5 C hi ⟨ss,⟨t0,rfl⟩,rfl,ls,ks,bs,sm⟩ hC;have ab3:aB K H5 sa (List.map V.int ns):=aB.but hsa h0 λb u nb e=>sm _ _ (Vq.1 _ _ nb (sm0 _ _ e));refine (zr rfl (zr rfl (zr rfl (aJ rfl rfl ⟨.inl ⟨by decide,by decide⟩,aJ rfl rfl ⟨sa,ns,n + 2 * i,?_,ab3,by omega,λpz H7 hpz pu s7=>?_⟩⟩))))
   ·show [V.ref sa,V.int ((n:Int) + 2 * (0 + (i:Int)))]=_;rw [show ((n:Int) + 2 * (0 + (i:Int)))=((n + 2 * i:Nat):Int) by omega]
   refine (zr rfl (zr rfl (zr rfl (ex8 pz b j af tr tm ps nw ⟨rfl,hj,(Pq.same sm).same s7,gd,hw1,by omega,pu,λt s1 H8 g8 kt w0 w1 m1 m9=>?_⟩))));have s8:=cU hpz s7 g8.1;refine hC _ _ _ ⟨ss++[(t,s1)],⟨_,rfl⟩,by rw [zD];rfl,by rw [zO,ls];rfl,λa ha=>?_,λa ha=>?_,sm.trans s8⟩
   ·rcases zV.mp ha with h | h
    ·exact s8 _ _ (ks a h)
    ·rw [zK.mp h];exact kt
   ·rcases zV.mp ha with h | h
    ·exact bs a h
    ·rw [zK.mp h];exact ⟨w0,by show s1.w < _;omega,m1,m9⟩
  rintro τ acc H5 ⟨ss,⟨t0,rfl⟩,rfl,ls,ks,bs,sm⟩ l hl;have s5:=sm.trans (xl (o:=HO.lst (ss.map λa=>V.ref a.1)) hl);have kl:upd H5 l (HO.lst (ss.map λa=>V.ref a.1)) l=some (.lst (ss.map λa=>V.ref a.1)):=xj;have ks5:∀ a∈ss,upd H5 l (HO.lst (ss.map λa=>V.ref a.1)) a.1=some (.tup [.int a.2.w,.int a.2.t,.int a.2.m]):=λa ha=>xl hl _ _ (ks a ha);have g5:=Vq.same s5;have nl:l≠hd:=(Vq.same sm).2.ne hl;have Ov:H l=none:=by
   cases z:H l with
   | none=>rfl
   | some o=>rw [sm _ _ (Vq.1 _ _ nl z)] at hl;cases hl
  generalize upd H5 l (HO.lst (ss.map λa=>V.ref a.1))=H7 at s5 kl ks5 g5 ⊢;refine (zr rfl (aJ rfl rfl (zr rfl ?_)));refine T4 (fun σ H'=>∃ ss:List (Addr×S3),(∃ v6,σ=[some (.ref sa),some (.ref b),some (.ref hd),some (.int n),some (.int j),some (.int m),v6,some (.ref l)])/\aD H' l ss/\ss.length<=8/\(∀ a∈ss,0<=a.2.w/\a.2.w < af.length/\1<=a.2.m/\a.2.m<=99)/\Go hd H H') ?_ (λc k=>?_) (λc=>⟨ss,⟨_,rfl⟩,⟨kl,ks5⟩,by omega,bs,g5⟩)
  ·rintro σ H9 ⟨ss,⟨v6,rfl⟩,hs,l8,bs,g9⟩;exact (zr rfl (q l ss H9 Ov g9 hs l8 bs))
  refine (zr rfl ⟨hd,zr rfl ⟨by decide,by decide,g5.2,λd3 H8 d30 d31 g8=>⟨rfl,zr rfl ?_⟩⟩⟩);have YJ:=g8.1 l _ nl kl;have ks8:∀ a∈ss,H8 a.1=some (.tup [.int a.2.w,.int a.2.t,.int a.2.m]):=λa ha=>g8.aZ g5.2 _ _ (ks5 a ha);refine jv _ k (λc2 k2=>?_) (λc2=>⟨ss,⟨_,rfl⟩,⟨YJ,ks8⟩,by omega,bs,g5.trans g8⟩);have m1:1 < m:=by have:=of_decide_eq_true c;omega
  have a0:(ss.map λa=>V.ref a.1)[0]?=some (V.ref (ss[0]'(by omega)).1):=by rw [zF,zC (by omega)];rfl
  refine (zr rfl (bV YJ (wP (j:=0) a0) (zr rfl ⟨l,_,_,1,rfl,rfl,YJ,qz (k:=1) (by rw [zA];omega),k2 _ _ ⟨ss.set 1 (ss[0]'(by omega)),⟨_,rfl⟩,⟨by rw [xj,yQ],λa ha=>?_⟩,by rw [zt];omega,λa ha=>?_,(g5.trans g8).aaO Ov nl⟩⟩)))
  ·have Ur:a∈ss:=by rcases yP ha with h | h;exact h;rw [h];exact z4 _
   rw [xt (qy (ks8 a Ur) YJ (by intro z;cases z))];exact ks8 a Ur
  ·have Ur:a∈ss:=by rcases yP ha with h | h;exact h;rw [h];exact z4 _
   exact bs a Ur
theorem Fk:aC ["_law_sacks_here", "_law_rests", "_law_walker", "_law_when", "_law_later", "_law_found", "_law_k", "_law_at", "_law_time_here", "_law_many", "_law_fits"] ["_law_sacks_here", "_law_rests", "_law_walker", "_law_when", "_law_later"] (ak qg):=L2.aX
theorem Ih (T:Tx K mg a):aQ P w K mg base ck 1 a.Bv a.Cz ["_law_sacks_here", "_law_rests", "_law_walker", "_law_when", "_law_later"] (Nq):=by
 refine T.BX.ok Fk (λvs H Q E h=>?_) (λbL A outer s H vs Q E hr h=>?_)
 ·obtain ⟨_,_,_,_,_,_,_,rfl,_⟩:=h;rfl
 ·have nd:=Fk.nd;have hu:=hr.units;obtain ⟨ls,lr,w0,t0,j,ps,rs,rfl,hs,MI,lrs,fY,hj,q⟩:=h;refine bS ?_;intro Y
  let B0:Bk Y ((nb (aj qg) 1).drop 2):=⟨_,(xi (wG (wN (@PW.pt _ _ _ (qW (wD qT (pv 7) (pv 2) (az _)) (qW (wL (pv 10)) (qV (wD fE (xx (xu rfl) (pv 1) (pv 6) (λ_ _=>rfl)) xh (az _)))))) (xi (wG (gu (ni yi yd ye cV (pv 5) (xf (xg (pv 6) xp rfl)))))) wE)))⟩
  let B1:Bk Y ((nb (aj qg) 1).drop 1):=⟨_,(xi (wA (xy (i:=10) nd rfl rfl (xx (xu rfl) (wX (xf (xg (wx gS (pv 8) (pv 3) (az _)) (xg (wx nj (pv 8) (pv 3) (az _)) xp rfl) rfl))) (pv 4) (λ_ _=>rfl))) B0.bl))⟩
  let B2:Bk Y (nb (aj qg) 1):=⟨_,(xi (wA (wg (xx (xu rfl) (pv 0) (pv 6) (λ_ _=>rfl)) (wI (n:=3) rfl rfl (xo (xm (i:=7) nd rfl rfl) (xo (xm (i:=8) nd rfl rfl) (xo (xm (i:=9) nd rfl rfl) wH))))) B1.bl))⟩
  let B3:Bk Y ((aj qg).drop 1):=⟨_,(xi (wA (wy PassesOwn.never rfl (wq rfl T.bf (xf (xg (xr (xw rfl) (by rfl) T.aM PySem.boot_len (xf (xg (pv 0) xp rfl))) xp rfl))) (xm (i:=6) nd rfl rfl) B2.ps) (wG (wB (pv 5)))))⟩
  refine ⟨_,(xi (wA (xy (i:=5) nd rfl rfl (wX qo)) B3.bl)),?_⟩;have line:=aU;refine ⟨zo _,λl hl=>?_⟩;have s1:=xl (o:=HO.lst []) hl;have k1:upd H l (HO.lst []) l=some (.lst []):=xj;generalize upd H l (HO.lst [])=H1 at s1 k1 ⊢;refine (zr rfl ⟨ls,zr rfl ⟨.inl (aB.of (s1 _ _ hs.l)),zr rfl ⟨by rw [zA];omega,by rw [zA];omega,?_⟩⟩⟩);rw [zA];refine (let W19:IV:=λi σ H2=>∃ ks:List Nat,(∃ v6 v7 v8 v9 v10,σ=[some (.ref ls),some (.ref lr),some (.int w0),some (.int t0),some (.int j),some (.ref l),v6,v7,v8,v9,v10])/\H2 l=some (.lst (ks.map λk:Nat=>V.int (k:Int)))/\ks.length<=i/\(∀ k∈ks,∃ s r,(ps.map (·.2))[k]?=some s/\rs[k]?=some r/\s.w=w0/\vf j s t0=true/\0 < r)/\au H H2;qD (lo:=0) (n:=ps.length) W19 ⟨[],⟨_,_,_,_,_,rfl⟩,k1,zI _,nofun,s1⟩ ?_ ?_)
  ·rintro i σ H2 hi ⟨ks,⟨v6,v7,v8,v9,v10,rfl⟩,k2,lk,ek,sm⟩;have RU:(ps.map λa=>V.ref a.1)[i]?=some (V.ref ps[i].1):=by simp [hi]
   have hir:i < rs.length:=by omega
   have mi:=z4 hi;have nx:∀ (H5:Hp) (x y z u v:Option V),au H2 H5->∃ ks:List Nat,(∃ v6 v7 v8 v9 v10,[some (V.ref ls),some (.ref lr),some (.int w0),some (.int t0),some (.int j),some (.ref l),x,y,z,u,v]=[some (V.ref ls),some (.ref lr),some (.int w0),some (.int t0),some (.int j),some (.ref l),v6,v7,v8,v9,v10])/\H5 l=some (.lst (ks.map λk:Nat=>V.int (k:Int)))/\ks.length<=i + 1/\(∀ k∈ks,∃ s r,(ps.map (·.2))[k]?=some s/\rs[k]?=some r/\s.w=w0/\vf j s t0=true/\0 < r)/\au H H5:=λH5 x y z u v s5=>⟨ks,⟨_,_,_,_,_,rfl⟩,s5 _ _ k2,by omega,ek,sm.trans s5⟩;refine (zr rfl (zr rfl (bV (sm _ _ hs.l) (by rw [zq];exact wP RU) (MZ (sm _ _ (hs.each _ mi)) ?_))));refine (zr rfl (zr rfl (aJ rfl rfl (zr rfl (zr rfl (aJ rfl rfl ⟨by show 2<=_;omega,λu hu=>?_⟩))))));have s3:=xl (o:=HO.lst [V.bl (decide (ps[i].2.t < t0)),V.bl (decide (ps[i].2.t ≥ t0))]) hu;have Um:dU [V.bl (decide (ps[i].2.t < t0)),V.bl (decide (ps[i].2.t ≥ t0))] j=some (V.bl (vf j ps[i].2 t0)):=by
    rcases hj with rfl | rfl
    ·rfl
    ·rfl
   refine (zr rfl (bV xj Um ?_));have sm3:=sm.trans s3;have k3:=s3 _ _ k2;generalize upd H2 u (HO.lst [V.bl (decide (ps[i].2.t < t0)),V.bl (decide (ps[i].2.t ≥ t0))])=H3 at s3 sm3 k3 ⊢;refine (zr rfl (zr rfl ⟨rfl,zr rfl ?_⟩));by_cases c1:ps[i].2.w=w0
   ·refine aE (decide_eq_true (by rw [c1])) (zr rfl (zr rfl ?_));cases c2:vf j ps[i].2 t0 with
    | false=>exact av rfl (av rfl (nx _ _ _ _ _ _ s3))
    | true=>
     refine aE rfl (zr rfl (zr rfl (bV (sm3 _ _ MI) (by rw [zq];exact wP (v:=V.int rs[i]) (by rw [zF,zC hir];rfl)) (aJ rfl rfl (zr rfl ?_)))));by_cases c3:rs[i] > 0
     ·refine aE (decide_eq_true c3) (zr rfl ⟨.inl ⟨rfl,_,aB.of k3⟩,zr rfl ⟨l,aJ rfl rfl ⟨k3,by rw [zA];omega,ks++[i],⟨_,_,_,_,_,rfl⟩,?_,by rw [zO];show ks.length + 1<=_;omega,λk hk=>?_,au.put hl sm3⟩⟩⟩)
      ·rw [xj,zD,zq];rfl
      ·rcases zV.mp hk with h | h
       ·exact ek k h
       ·cases zK.mp h;exact ⟨ps[i].2,rs[i],by rw [zF,zC hi];rfl,zC hir,c1,c2,c3⟩
     ·exact av (decide_eq_false c3) (nx _ _ _ _ _ _ s3)
   ·exact av (decide_eq_false λz=>c1 (V.int.inj z)) (av rfl (nx _ _ _ _ _ _ s3))
  ·rintro σ H2 ⟨ks,⟨v6,v7,v8,v9,v10,rfl⟩,k2,lk,ek,sm⟩;exact (zr rfl (q l ks H2 hl sm k2 ek lk))
theorem Gu:aC ["_law_purse_here", "_law_rooms_here", "_law_meeting", "_law_loads", "_law_wants", "_law_state", "_law_one", "_law_other", "_law_when", "_law_many", "_law_bags", "_law_rests", "_law_lacks", "_law_given", "_law_begun", "_law_come", "_law_ahead", "_law_turn", "_law_way", "_law_giver", "_law_taker", "_law_from", "_law_to", "_law_most", "_law_load", "_law_want", "_law_some"] ["_law_purse_here", "_law_rooms_here", "_law_meeting", "_law_loads", "_law_wants", "_law_state"] (ak wM):=L2.aX
theorem IT (T:Tx K mg a):aQ P w K mg base ck 2 a.BL a.CS ["_law_purse_here", "_law_rooms_here", "_law_meeting", "_law_loads", "_law_wants", "_law_state"] (P8):=by
 have Aa:=we P w base T;have GF:=Ih P w base T;refine T.Cm.ok Gu (λvs H Q E h=>?_) (λbL A outer s H vs Q E hr h=>?_)
 ·obtain ⟨_,_,_,_,_,_,_,_,_,_,_,_,_,_,_,_,rfl,_⟩:=h;rfl
 ·have nd:=Gu.nd;have hu:=hr.units;obtain ⟨p,tr,m,ll,lw,st,lb,lr,lk,af,r,ls,ws,bs,rs,ks,rfl,hp,htr,hm,hl,hW,uU,⟨nF,uX,uY⟩,⟨n01,n02,Wo,n0p,Vc,Vb⟩,⟨⟨nl0,nl1,Wi,nl3⟩,nw0,U9,U8,Wb⟩,⟨r0,r1,r2,rm1,rm9⟩,⟨eb,mC,er,ek,l8,w8⟩,Yt,ks0,bs0,bsr,q⟩:=h;refine bS ?_;intro Y
  let B0:Bk Y ((aj wM).drop 7):=⟨_,(xi (wG (wB (qA (xf (xg (xx (xu rfl) (pv 13) xh (λ_ _=>rfl)) (xg (xx (xu rfl) (pv 13) xh (λ_ _=>rfl)) (xg (pv 14) (xg (pv 15) xp rfl) rfl) rfl) rfl))))))⟩
  let B1:Bk Y (ne (nb (aj wM) 6) 14):=⟨_,(xi (wA (wg (wC qY (xx (xu rfl) (pv 12) (pv 25) (λ_ _=>rfl)) (pv 26)) (qu (pv 12) (pv 25) wv)) (wG (wg (wC wO (xx (xu rfl) (pv 15) (pv 25) (λ_ _=>rfl)) (pv 26)) (qu (pv 15) (pv 25) wv)))))⟩
  let B2:Bk Y (nb (nb (aj wM) 6) 13):=⟨_,(xi (wA (wg (wC qY (xx (xu rfl) (pv 16) (pv 18) (λ_ _=>rfl)) (pv 26)) (qu (pv 16) (pv 18) wv)) (wG (wg (wC qY (xx (xu rfl) (pv 10) (pv 19) (λ_ _=>rfl)) (pv 26)) (qu (pv 10) (pv 19) wv)))))⟩
  let B3:Bk Y (ne (nb (aj wM) 6) 13):=⟨_,(xi (wA (wg (wC qY (xx (xu rfl) (pv 11) (pv 24) (λ_ _=>rfl)) (pv 26)) (qu (pv 11) (pv 24) wv)) (wG (wg (wC wO (xx (xu rfl) (pv 14) (pv 24) (λ_ _=>rfl)) (pv 26)) (qu (pv 14) (pv 24) wv)))))⟩
  let B4:Bk Y ((nb (aj wM) 6).drop 13):=⟨_,(xi (wA (wN (wD gS (pv 24) xh (az _)) B2.ps B3.ps) (wG (wN (wD gS (pv 25) xh (az _)) (xi (wG (wg (wC wO (xx (xu rfl) (pv 10) (pv 20) (λ_ _=>rfl)) (pv 26)) (qu (pv 10) (pv 20) wv)))) B1.ps))))⟩
  let B5:Bk Y ((nb (aj wM) 6).drop 11):=⟨_,(xi (wA (xy (i:=26) nd rfl rfl (wC wO xh (xq Aa (hr.mono (by decide)) rfl T.Ab T.Ac T.Ae .nil aq (xf (xg (pv 0) (xg (pv 23) xp rfl) rfl))))) (wA (wg (wC wO (xx (xu rfl) (pv 13) (pv 18) (λ_ _=>rfl)) (pv 26)) (qu (pv 13) (pv 18) wv)) B4.bl)))⟩
  let B6:Bk Y ((nb (aj wM) 6).drop 10):=⟨_,(xi (wA (xy (i:=23) nd rfl rfl (xr (cW rfl) (by rfl) T.nR yl (xf (xg (pv 23) (xg (xx (xu rfl) (wC jr (pv 12) (wX (xf (xg (wC qY (xx (xz rfl) (pv 1) (pv 20) (λ_ _=>rfl)) (xx (xu rfl) (pv 10) (pv 20) (λ_ _=>rfl))) xp rfl)))) (pv 25) (λ_ _=>rfl)) xp rfl) rfl)))) B5.bl))⟩
  let B7:Bk Y ((nb (aj wM) 6).drop 9):=⟨_,(xi (wA (xy (i:=23) nd rfl rfl (xr (cW rfl) (by rfl) T.nR yl (xf (xg (pv 23) (xg (xx (xu rfl) (wC jr (pv 11) (wX (xf (xg (xx (xu rfl) (pv 16) (pv 18) (λ_ _=>rfl)) xp rfl)))) (pv 24) (λ_ _=>rfl)) xp rfl) rfl)))) B6.bl))⟩
  let B8:Bk Y ((nb (aj wM) 6).drop 8):=⟨_,(xi (wA (xy (i:=25) nd rfl rfl (xx (xu rfl) (pv 22) (xq Aa (hr.mono (by decide)) rfl T.Ab T.Ac T.Ae .nil aq (xf (xg (pv 0) (xg (xr (xw rfl) (by rfl) T.aM PySem.boot_len (xf (xg (pv 22) xp rfl))) xp rfl) rfl))) (λ_ _=>rfl))) B7.bl))⟩
  let B9:Bk Y ((nb (aj wM) 6).drop 7):=⟨_,(xi (wA (xy (i:=24) nd rfl rfl (xx (xu rfl) (pv 21) (xq Aa (hr.mono (by decide)) rfl T.Ab T.Ac T.Ae .nil aq (xf (xg (pv 0) (xg (xr (xw rfl) (by rfl) T.aM PySem.boot_len (xf (xg (pv 21) xp rfl))) xp rfl) rfl))) (λ_ _=>rfl))) B8.bl))⟩
  let Yd:Bk Y ((nb (aj wM) 6).drop 6):=⟨_,(xi (wA (wN (@PW.pt _ _ _ (qa (wD (rT hu) (pv 21) (wX qo) (az _)) (qa (wD (rT hu) (pv 22) (wX qo) (az _)) (qK (wD qT (pv 23) xh (az _)))))) (xi (wG rM)) wE) B9.bl))⟩
  let Yc:Bk Y ((nb (aj wM) 6).drop 4):=⟨_,(xi (wA (xy (i:=22) nd rfl rfl (wC jr (pv 22) (wC jo (wX (xf (xg (KH nY xh) xp rfl))) (b9 (jC) (by rfl) T.tM xB (xf (xg (wx gS (xx (xu rfl) (pv 10) (pv 20) (λ_ _=>rfl)) (xx (xz rfl) (pv 1) (pv 20) (λ_ _=>rfl)) (az _)) xp rfl)))))) (wA (xy (i:=23) nd rfl rfl (wC qY (pv 9) (xr (cj rfl) (by rfl) T.l6 yc (xf (xg (pv 13) xp rfl))))) Yd.bl)))⟩
  let B12:Bk Y ((nb (aj wM) 6).drop 3):=⟨_,(xi (wA (xy (i:=22) nd rfl rfl (xq GF (hr.mono (by decide)) rfl T.Gz T.GB T.GD .nil aq (xf (xg (pv 4) (xg (pv 12) (xg (pv 20) (xg (pv 8) (xg xh xp rfl) rfl) rfl) rfl) rfl)))) Yc.bl))⟩
  let B13:Bk Y ((nb (aj wM) 6).drop 2):=⟨_,(xi (wA (xy (i:=21) nd rfl rfl (wC jr (xq GF (hr.mono (by decide)) rfl T.Gz T.GB T.GD .nil aq (xf (xg (pv 3) (xg (pv 11) (xg (pv 19) (xg (pv 8) (xg xh xp rfl) rfl) rfl) rfl) rfl))) (wC jo (wX (xf (xg (KH nY xh) xp rfl))) (b9 (jC) (by rfl) T.tM xB (xf (xg (wx fE (xx (xu rfl) (pv 16) (pv 18) (λ_ _=>rfl)) xh (az _)) xp rfl)))))) B12.bl))⟩
  let B14:Bk Y ((nb (aj wM) 6).drop 1):=⟨_,(xi (wA (wg (xx (xu rfl) (wX (xf (xg (qA (xf (xg (pv 6) (xg (pv 7) xp rfl) rfl))) (xg (qA (xf (xg (pv 7) (xg (pv 6) xp rfl) rfl))) xp rfl) rfl))) (pv 18) (λ_ _=>rfl)) (wI (n:=2) rfl rfl (xo (xm (i:=19) nd rfl rfl) (xo (xm (i:=20) nd rfl rfl) wH)))) B13.bl))⟩
  let B15:Bk Y (nb (aj wM) 6):=⟨_,(xi (wA (xy (i:=18) nd rfl rfl (xq Aa (hr.mono (by decide)) rfl T.Ab T.Ac T.Ae .nil aq (xf (xg (pv 0) (xg xh xp rfl) rfl)))) B14.bl))⟩
  let B16:Bk Y ((aj wM).drop 6):=⟨_,(xi (wA (wy PassesOwn.never rfl (wq rfl T.bf (xf (xg (xq Aa (hr.mono (by decide)) rfl T.Ab T.Ac T.Ae .nil aq (xf (xg (pv 0) (xg xh xp rfl) rfl))) xp rfl))) (xm (i:=17) nd rfl rfl) B15.ps) B0.bl))⟩
  let B17:Bk Y ((aj wM).drop 4):=⟨_,(xi (wA (xy (i:=15) nd rfl rfl (wC jo (wX (xf (xg xh xp rfl))) (xr (xw rfl) (by rfl) T.aM PySem.boot_len (xf (xg (pv 4) xp rfl))))) (wA (xy (i:=16) nd rfl rfl (wX (xf (xg (xx (xu rfl) (pv 10) (pv 6) (λ_ _=>rfl)) (xg (xx (xu rfl) (pv 10) (pv 7) (λ_ _=>rfl)) xp rfl) rfl)))) B16.bl)))⟩
  let B18:Bk Y ((aj wM).drop 2):=⟨_,(xi (wA (xy (i:=13) nd rfl rfl (wX (xf (xg xh (xg xh xp rfl) rfl)))) (wA (xy (i:=14) nd rfl rfl (wC jo (wX (xf (xg xh xp rfl))) (xr (xw rfl) (by rfl) T.aM PySem.boot_len (xf (xg (pv 3) xp rfl))))) B17.bl)))⟩
  refine ⟨_,(xi (wA (wg (pv 2) (wI (n:=4) rfl rfl (xo (xm (i:=6) nd rfl rfl) (xo (xm (i:=7) nd rfl rfl) (xo (xm (i:=8) nd rfl rfl) (xo (xm (i:=9) nd rfl rfl) wH)))))) (wA (wg (pv 5) (wI (n:=3) rfl rfl (xo (xm (i:=10) nd rfl rfl) (xo (xm (i:=11) nd rfl rfl) (xo (xm (i:=12) nd rfl rfl) wH))))) B18.bl))),?_⟩;have line:=aU;have mQ:(2:Int) ^ 200 > 10000:=by decide
  have Vd:(ls.map (·.2)).length=ls.length:=zA _;have U3:(ws.map (·.2)).length=ws.length:=zA _;refine ⟨_,rfl,m,_,rfl,aW.of hm,rfl,_,_,rfl,_,_,rfl,_,_,rfl,_,_,rfl,rfl,?_⟩;refine ⟨_,rfl,st,_,rfl,aW.of uU,rfl,_,_,rfl,_,_,rfl,_,_,rfl,rfl,?_⟩;refine Wc [some (V.ref p),some (.ref tr),some (.ref m),some (.ref ll),some (.ref lw),some (.ref st),some (.int r.lo),some (.int r.hi),some (.int r.t),some (.int r.m),some (.ref lb),some (.ref lr),some (.ref lk),none,none,none,none,none,none,none,none,none,none,none,none,none,none] rfl ?_;refine ⟨by show 2<=_;omega,λgv Vm=>?_⟩;have s1:=xl (o:=HO.lst [V.int 0,V.int 0]) Vm;have WS:upd H gv (HO.lst [V.int 0,V.int 0]) gv=some (.lst ([(0:Int),0].map V.int)):=xj;generalize upd H gv (HO.lst [V.int 0,V.int 0])=H1 at s1 WS ⊢;have rep:∀ n:Nat,(List.replicate ((n:Int)).toNat [V.int 0]).flatten=(List.replicate n (0:Int)).map V.int:=λn=>by rw [zx];exact sY n
  have UK:∀ n:Nat,n<=100->-(2:Int) ^ 63<=(n:Int)/\(n:Int) < 2 ^ 63:=λn h=>⟨by omega,by omega⟩;refine ⟨by show 1<=_;omega,λz1 jx=>⟨_,rfl,ll,_,rfl,.inl (aB.of (xl jx _ _ (s1 _ _ hl.l))),z1,_,_,rfl,rfl,xj,(UK _ (by rw [zA];omega)).1,(UK _ (by rw [zA];omega)).2,by rw [zA,zx];show 1 * _<=_;omega,λbg hbg=>?_⟩⟩;rw [zA,rep];have s2:=(xl (o:=HO.lst [V.int 0]) jx).trans (xl (o:=HO.lst ((List.replicate ls.length (0:Int)).map V.int)) hbg);have kb2:upd (upd H1 z1 (HO.lst [V.int 0])) bg (HO.lst ((List.replicate ls.length (0:Int)).map V.int)) bg=some (.lst ((List.replicate ls.length (0:Int)).map V.int)):=xj;have fbg:H1 bg=none:=none_of (xl jx) hbg;generalize upd (upd H1 z1 (HO.lst [V.int 0])) bg (HO.lst ((List.replicate ls.length (0:Int)).map V.int))=H2 at s2 kb2 ⊢;refine ⟨by show 1<=_;omega,λz2 uT=>⟨_,rfl,lw,_,rfl,.inl (aB.of (xl uT _ _ (s2 _ _ (s1 _ _ hW.l)))),z2,_,_,rfl,rfl,xj,(UK _ (by rw [zA];omega)).1,(UK _ (by rw [zA];omega)).2,by rw [zA,zx];show 1 * _<=_;omega,λcm hcm=>?_⟩⟩;rw [zA,rep];have s3:=(xl (o:=HO.lst [V.int 0]) uT).trans (xl (o:=HO.lst ((List.replicate ws.length (0:Int)).map V.int)) hcm);have kc3:upd (upd H2 z2 (HO.lst [V.int 0])) cm (HO.lst ((List.replicate ws.length (0:Int)).map V.int)) cm=some (.lst ((List.replicate ws.length (0:Int)).map V.int)):=xj;have fcm:H2 cm=none:=none_of (xl uT) hcm;generalize upd (upd H2 z2 (HO.lst [V.int 0])) cm (HO.lst ((List.replicate ws.length (0:Int)).map V.int))=H3 at s3 kc3 ⊢;have LJ:=s1.trans (s2.trans s3);refine oK [some (V.ref p),some (.ref tr),some (.ref m),some (.ref ll),some (.ref lw),some (.ref st),some (.int r.lo),some (.int r.hi),some (.int r.t),some (.int r.m),some (.ref lb),some (.ref lr),some (.ref lk),some (.ref gv),some (.ref bg),some (.ref cm),none,none,none,none,none,none,none,none,none,none,none] rfl ?_;refine ⟨_,rfl,_,rfl,lb,_,_,_,rfl,rfl,aB.of (LJ _ _ nF),mU r0 (by omega),_,rfl,_,rfl,lb,_,_,_,rfl,rfl,aB.of (LJ _ _ nF),mU (by omega) (by omega),by show 2<=_;omega,λah Xz=>?_⟩;have s4:=xl (o:=HO.lst [V.int (aT bs r.lo),V.int (aT bs r.hi)]) Xz;have ka4:upd H3 ah (HO.lst [V.int (aT bs r.lo),V.int (aT bs r.hi)]) ah=some (.lst ([aT bs r.lo,aT bs r.hi].map V.int)):=xj;generalize upd H3 ah (HO.lst [V.int (aT bs r.lo),V.int (aT bs r.hi)])=H4 at s4 ka4 ⊢;have Kr:=LJ.trans s4;have Mm:H cm=none:=none_of (s1.trans s2) fcm;have Mn:H bg=none:=none_of s1 fbg;have OM:H ah=none:=none_of LJ Xz;have kgH:=s4 _ _ (s3 _ _ (s2 _ _ WS));have kbH:=s4 _ _ (s3 _ _ kb2);have kcH:=s4 _ _ kc3;have nn:∀ {c d:Addr}{Hx:Hp}{u:HO},Hx c=some u->Hx d=none->c≠d:=λh1 h2=>xk h1 h2;have ra:jG H p (A7 lb lr lk gv bg cm ah):=by
   refine jG.mk7 ?_ ?_ Vm Mn Mm OM
   ·have q1:=nn nF Vm;have q2:=nn uX Vm;have q3:=nn uY Vm;have q4:=nn nF Mn;have q5:=nn uX Mn;have q6:=nn uY Mn;have q7:=nn WS fbg;have q8:=nn nF Mm;have q9:=nn uX Mm;have S8:=nn uY Mm;have q11:=nn (s2 _ _ WS) fcm;have q12:=nn kb2 fcm;have q13:=nn nF OM;have q14:=nn uX OM;have q15:=nn uY OM;have Yy:=nn (s3 _ _ (s2 _ _ WS)) Xz;have q17:=nn (s3 _ _ kb2) Xz;have q18:=nn kc3 Xz;simp only [xX,zJ,zN,or_false,not_or,List.nodup_nil,and_true];exact ⟨⟨n01,n02,q1,q4,q8,q13⟩,⟨Wo,q2,q5,q9,q14⟩,⟨q3,q6,S8,q15⟩,⟨q7,q11,Yy⟩,⟨q12,q17⟩,q18,not_false⟩
   ·intro x hx;simp only [zJ,zN,or_false] at hx;rcases hx with rfl | rfl | rfl | rfl | rfl | rfl | rfl
    ·exact n0p
    ·exact Vc
    ·exact Vb
    ·exact hp.ne Vm
    ·exact hp.ne Mn
    ·exact hp.ne Mm
    ·exact hp.ne OM
  have WD:∀ i,i < 3->∃ xs,H (A7 lb lr lk gv bg cm ah i)=some (.lst xs):=λi hi=>by
   rcases i with _ | _ | _ | i
   ·exact ⟨_,nF⟩
   ·exact ⟨_,uX⟩
   ·exact ⟨_,uY⟩
   ·omega
  have rh4:bB H p (A7 lb lr lk gv bg cm ah) (F7 bs rs ks [0,0] (List.replicate ls.length 0) (List.replicate ws.length 0) [aT bs r.lo,aT bs r.hi]) H4:=by
   refine ⟨by obtain ⟨x,y,z,e⟩:=hp;exact ⟨x,y,z,Kr _ _ e⟩,λi hi=>?_,λc u _ _ _ _ e=>Kr _ _ e⟩;rcases i with _ | _ | _ | _ | _ | _ | _ | i
   ·exact Kr _ _ nF
   ·exact Kr _ _ uX
   ·exact Kr _ _ uY
   ·exact kgH
   ·exact kbH
   ·exact kcH
   ·exact ka4
   ·omega
  have ri4:RI r (ls.map (·.2)) (ws.map (·.2)) af bs rs ks 0 0 (aT bs r.lo) (aT bs r.hi) (List.replicate ls.length 0) (List.replicate ws.length 0) bs rs ks:=by
   have:=RI.start (r:=r) (ls:=ls.map (·.2)) (ws:=ws.map (·.2)) (af:=af) (bs:=bs) (by rw [Vd];exact er) (by rw [U3];exact ek) Yt ks0 (by omega) bs0 bsr;rwa [Vd,U3] at this
  have Xj:0<=r.lo/\r.lo < bs.length/\0<=r.hi/\r.hi < bs.length/\r.lo≠r.hi:=⟨r0,by omega,by omega,by omega,by omega⟩;generalize hA:A7 lb lr lk gv bg cm ah=A at ra WD rh4;have A0:A 0=lb:=by rw [<-hA];rfl
  have A1:A 1=lr:=by rw [<-hA];rfl
  have A2:A 2=lk:=by rw [<-hA];rfl
  have A3:A 3=gv:=by rw [<-hA];rfl
  have A4:A 4=bg:=by rw [<-hA];rfl
  have A5:A 5=cm:=by rw [<-hA];rfl
  have A6:A 6=ah:=by rw [<-hA];rfl
  refine ⟨_,rfl,p,_,rfl,by decide,by decide,rh4.pu,λdn H7 d0 d1 g7=>⟨_,rfl,by omega,by omega,?_⟩⟩;have rh7:=rh4.go ra g7;obtain ⟨nd1,rfl⟩:=zn d0;refine qD (lo:=0) (n:=((nd1:Int)).toNat) (λi σ H8=>∃ g0 g1 a0 a1 vC vt bs' aK aS,(∃ Pd Sj v19 v20 Si Rn PD Sh Rm MV,σ=[some (.ref p),some (.ref tr),some (.ref m),some (.ref ll),some (.ref lw),some (.ref st),some (.int r.lo),some (.int r.hi),some (.int r.t),some (.int r.m),some (.ref lb),some (.ref lr),some (.ref lk),some (.ref gv),some (.ref bg),some (.ref cm),some (.ref ah),Pd,Sj,v19,v20,Si,Rn,PD,Sh,Rm,MV])/\RI r (ls.map (·.2)) (ws.map (·.2)) af bs rs ks g0 g1 a0 a1 vC vt bs' aK aS/\bB H p A (F7 bs' aK aS [g0,g1] vC vt [a0,a1]) H8) ⟨_,_,_,_,_,_,_,_,_,⟨_,_,_,_,_,_,_,_,_,_,rfl⟩,ri4,rh7⟩ ?_ ?_
  ·rintro i σ H8 hi ⟨g0,g1,a0,a1,vC,vt,bs',aK,aS,⟨Pd,Sj,v19,v20,Si,Rn,PD,Sh,Rm,MV,rfl⟩,ri,rh⟩;have k8:=rh.ls;refine ⟨_,rfl,p,_,rfl,by decide,by decide,rh.pu,λway H9 w0 w1 g9=>?_⟩;have hw:way=0\/way=1:=by omega
   have rh9:=rh.go ra g9;refine ⟨_,rfl,_,rfl,M1,λu1 Xh=>?_⟩;have t1:=xl (o:=HO.tup [V.int r.lo,V.int r.hi]) Xh;have ku1:upd H9 u1 (HO.tup [V.int r.lo,V.int r.hi]) u1=some (.tup [V.int r.lo,V.int r.hi]):=xj;generalize upd H9 u1 (HO.tup [V.int r.lo,V.int r.hi])=gO at t1 ku1 ⊢;refine ⟨_,rfl,_,rfl,M1,λu2 Vi=>?_⟩;have t2:=xl (o:=HO.tup [V.int r.hi,V.int r.lo]) Vi;have ku2:upd gO u2 (HO.tup [V.int r.hi,V.int r.lo]) u2=some (.tup [V.int r.hi,V.int r.lo]):=xj;generalize upd gO u2 (HO.tup [V.int r.hi,V.int r.lo])=jQ at t2 ku2 ⊢;refine ⟨M1,λu3 hu3=>?_⟩;have t3:=xl (o:=HO.lst [V.ref u1,V.ref u2]) hu3;have ku3:upd jQ u3 (HO.lst [V.ref u1,V.ref u2]) u3=some (.lst [V.ref u1,V.ref u2]):=xj;generalize upd jQ u3 (HO.lst [V.ref u1,V.ref u2])=mE at t3 ku3 ⊢;have S5:=rh9.same (t1.trans (t2.trans t3));have abr:mE (sel way u1 u2)=some (.tup [V.int (sel way r.lo r.hi),V.int (sel way r.hi r.lo)]):=by
    rcases hw with rfl | rfl
    ·exact t3 _ _ (t2 _ _ ku1)
    ·exact t3 _ _ ku2
   have ab0:dU [V.ref u1,V.ref u2] way=some (V.ref (sel way u1 u2)):=by rcases hw with rfl | rfl <;> rfl
   refine ⟨_,rfl,u3,_,_,_,rfl,rfl,aB.of ku3,ab0,sel way u1 u2,_,rfl,aW.of abr,rfl,_,_,rfl,_,_,rfl,rfl,?_⟩;refine Wc [some (V.ref p),some (.ref tr),some (.ref m),some (.ref ll),some (.ref lw),some (.ref st),some (.int r.lo),some (.int r.hi),some (.int r.t),some (.int r.m),some (.ref lb),some (.ref lr),some (.ref lk),some (.ref gv),some (.ref bg),some (.ref cm),some (.ref ah),some (.int (0 + (i:Int))),some (.int way),some (.int (sel way r.lo r.hi)),some (.int (sel way r.hi r.lo)),Si,Rn,PD,Sh,Rm,MV] rfl ?_;have hG:0<=sel way r.lo r.hi/\sel way r.lo r.hi < bs.length:=kI (P:=λx:Int=>0<=x/\x < bs.length) ⟨r0,by omega⟩ ⟨by omega,by omega⟩;have hT:0<=sel way r.hi r.lo/\sel way r.hi r.lo < bs.length:=kI (P:=λx:Int=>0<=x/\x < bs.length) ⟨by omega,by omega⟩ ⟨r0,by omega⟩;have step:=λ(o1 o2:Option Nat) (s:Int)=>ri.step (s:=s) (way:=way) (o1:=o1) (o2:=o2) hw Xj eb;have ahv:0<=sel way a0 a1:=kI (P:=λx:Int=>0<=x) ri.p0 ri.p1;have Wz:aK.length=ls.length:=by have:=ri.L.Nx;rwa [Vd] at this
   have WB:aS.length=ws.length:=by have:=ri.W.Nx;rwa [U3] at this
   have Ob:=ri.bl;have r8:aK.length<=8:=by rw [Wz];exact l8
   have k8':aS.length<=8:=by rw [WB];exact w8
   generalize hGe:sel way r.lo r.hi=G at *;generalize hTe:sel way r.hi r.lo=T at *;have at3:=λ(Hx:Hp) (h:bB H p A (F7 bs' aK aS [g0,g1] vC vt [a0,a1]) Hx)=>h.ls;have acm:=S5.Rr hp WD hl nl0 (by rw [A0];exact nl1) (by rw [A1];exact Wi) (by rw [A2];exact nl3);have oO:mE lr=some (.lst (aK.map V.int)):=by have:=S5.ls 1 (by decide);rwa [A1] at this
   refine ⟨_,rfl,_,rfl,_,rfl,_,rfl,ll,lr,G,r.t,0,ls,aK,rfl,acm,oO,Wz,zj l8 (by decide),.inl rfl,λl1 sr Px Ou kJ WR abd abn=>?_⟩;have aaE:=S5.same kJ;refine ⟨_,rfl,KJ,λy1 oS=>?_⟩;have rF:=xl (o:=HO.lst [V.int (-1)]) oS;have ky1:upd Px y1 (HO.lst [V.int (-1)]) y1=some (.lst [V.int (-1)]):=xj;generalize upd Px y1 (HO.lst [V.int (-1)])=Vv at rF ky1 ⊢;have S4:=aaE.same rF;have Vf:Vv ah=some (.lst ([a0,a1].map V.int)):=by have:=S4.ls 6 (by decide);rwa [A6] at this
   have Pu:=UM (V.int (-1));have RB:sr.length<=8:=zj abn l8;refine ⟨_,rfl,_,rfl,ah,_,_,_,rfl,rfl,aB.of Vf,j3 hw,_,_,rfl,rfl,.inr ⟨_,rfl,y1,_,_,rfl,rfl,ky1,(Pu _).1,(Pu _).2.1,(Pu _).2.2,λy2 jK=>?_⟩⟩;refine ⟨l1,y2,_,_,rfl,rfl,xl jK _ _ (rF _ _ WR),xj,N8 _ RB,λl2 MJ=>?_⟩;rw [kR] at MJ ⊢;rw [rQ];have mZ:=au.trans (xl jK) (xl (o:=HO.lst ((opts sr (decide (0 < sel way a0 a1))).map V.int)) MJ);have Wi:l2≠p:=(S4.same (xl jK)).pu.ne MJ;have RG:=xj (H:=upd Vv y2 (HO.lst ((if decide (0 < sel way a0 a1)=true then [(-1:Int)] else []).map V.int))) (a:=l2) (o:=HO.lst ((opts sr (decide (0 < sel way a0 a1))).map V.int));generalize upd (upd Vv y2 (HO.lst ((if decide (0 < sel way a0 a1)=true then [(-1:Int)] else []).map V.int))) l2 (HO.lst ((opts sr (decide (0 < sel way a0 a1))).map V.int))=Ze at mZ RG ⊢;refine oK [some (V.ref p),some (.ref tr),some (.ref m),some (.ref ll),some (.ref lw),some (.ref st),some (.int r.lo),some (.int r.hi),some (.int r.t),some (.int r.m),some (.ref lb),some (.ref lr),some (.ref lk),some (.ref gv),some (.ref bg),some (.ref cm),some (.ref ah),some (.int (0 + (i:Int))),some (.int way),some (.int G),some (.int T),some (.ref l2),Rn,PD,Sh,Rm,MV] rfl ?_;have S0:=S4.same mZ;have abT:=S0.Rr hp WD hW nw0 (by rw [A0];exact U9) (by rw [A1];exact U8) (by rw [A2];exact Wb);have oQ:Ze lk=some (.lst (aS.map V.int)):=by have:=S0.ls 2 (by decide);rwa [A2] at this
   refine ⟨_,rfl,_,rfl,_,rfl,_,rfl,lw,lk,T,r.t,1,ws,aS,rfl,abT,oQ,WB,zj w8 (by decide),.inr rfl,λl3 fj Yb YU Rt Pn abc abm=>?_⟩;have aaD:=S0.same Rt;have Rz:fj.length<=8:=zj abm w8;refine ⟨_,rfl,_,rfl,KJ,λy3 MG=>?_⟩;have uy:=xl (o:=HO.lst [V.int (-1)]) MG;have ky3:upd Yb y3 (HO.lst [V.int (-1)]) y3=some (.lst [V.int (-1)]):=xj;generalize upd Yb y3 (HO.lst [V.int (-1)])=Vu at uy ky3 ⊢;have Qt:=aaD.same uy;have WQ:Vu lb=some (.lst (bs'.map V.int)):=by have:=Qt.ls 0 (by decide);rwa [A0] at this
   have WI:=Qt.tup hp WD htr;refine ⟨_,rfl,_,rfl,lb,_,_,_,rfl,rfl,aB.of WQ,mU hT.1 (by rw [Ob];exact hT.2),_,rfl,_,rfl,tr,_,_,_,rfl,rfl,aW.of WI,mU hT.1 (by rw [<-eb];exact hT.2),_,_,rfl,rfl,.inr ⟨_,rfl,y3,_,_,rfl,rfl,ky3,(Pu _).1,(Pu _).2.1,(Pu _).2.2,λy4 hy4=>?_⟩⟩;refine ⟨l3,y4,_,_,rfl,rfl,xl hy4 _ _ (uy _ _ Pn),xj,N8 _ Rz,λl4 Ot=>?_⟩;rw [kR] at Ot ⊢;rw [rQ];have s18:=au.trans (xl hy4) (xl (o:=HO.lst ((opts fj (decide (aT bs' T < aT af T))).map V.int)) Ot);have nl4:l4≠p:=(Qt.same (xl hy4)).pu.ne Ot;have Pk:=xj (H:=upd Vu y4 (HO.lst ((if decide (aT bs' T < aT af T)=true then [(-1:Int)] else []).map V.int))) (a:=l4) (o:=HO.lst ((opts fj (decide (aT bs' T < aT af T))).map V.int));generalize upd (upd Vu y4 (HO.lst ((if decide (aT bs' T < aT af T)=true then [(-1:Int)] else []).map V.int))) l4 (HO.lst ((opts fj (decide (aT bs' T < aT af T))).map V.int))=H18 at s18 Pk ⊢;refine oK [some (V.ref p),some (.ref tr),some (.ref m),some (.ref ll),some (.ref lw),some (.ref st),some (.int r.lo),some (.int r.hi),some (.int r.t),some (.int r.m),some (.ref lb),some (.ref lr),some (.ref lk),some (.ref gv),some (.ref bg),some (.ref cm),some (.ref ah),some (.int (0 + (i:Int))),some (.int way),some (.int G),some (.int T),some (.ref l2),some (.ref l4),PD,Sh,Rm,MV] rfl ?_;have V2:=Qt.same s18;have RG:=s18 _ _ (uy _ _ (Rt _ _ RG));have YL:H18 gv=some (.lst ([g0,g1].map V.int)):=by have:=V2.ls 3 (by decide);rwa [A3] at this
   refine ⟨_,rfl,_,rfl,gv,_,rfl,aB.of YL,_,_,rfl,rfl,?_⟩;refine oK [some (V.ref p),some (.ref tr),some (.ref m),some (.ref ll),some (.ref lw),some (.ref st),some (.int r.lo),some (.int r.hi),some (.int r.t),some (.int r.m),some (.ref lb),some (.ref lr),some (.ref lk),some (.ref gv),some (.ref bg),some (.ref cm),some (.ref ah),some (.int (0 + (i:Int))),some (.int way),some (.int G),some (.int T),some (.ref l2),some (.ref l4),some (.int (r.m - ([g0,g1]:List Int).sum)),Sh,Rm,MV] rfl ?_;refine ⟨_,rfl,zo _,λe1 he1=>?_⟩;have VR:=xl (o:=HO.lst []) he1;have ke1:upd H18 e1 (HO.lst []) e1=some (.lst []):=xj;generalize upd H18 e1 (HO.lst [])=H19 at VR ke1 ⊢;have V1:=V2.same VR;refine ⟨l2,e1,_,rfl,rfl,aB.of (VR _ _ RG),aB.of ke1,_,rfl,uS (λc=>aE rfl ⟨g0,g1,a0,a1,vC,vt,bs',aK,aS,⟨_,_,_,_,_,_,_,_,_,_,rfl⟩,ri,V1⟩) (λc1=>?_)⟩;refine ⟨_,rfl,zo _,λe2 he2=>?_⟩;have Ys:=xl (o:=HO.lst []) he2;have ke2:upd H19 e2 (HO.lst []) e2=some (.lst []):=xj;generalize upd H19 e2 (HO.lst [])=H20 at Ys ke2 ⊢;have Qs:=V1.same Ys;have RG:=Ys _ _ (VR _ _ RG);have Pk:=Ys _ _ (VR _ _ Pk);refine ⟨l4,e2,_,rfl,rfl,aB.of Pk,aB.of ke2,_,rfl,uS (λc=>aE rfl ⟨g0,g1,a0,a1,vC,vt,bs',aK,aS,⟨_,_,_,_,_,_,_,_,_,_,rfl⟩,ri,Qs⟩) (λc2=>⟨_,rfl,rfl,_,rfl,uS (λc=>⟨g0,g1,a0,a1,vC,vt,bs',aK,aS,⟨_,_,_,_,_,_,_,_,_,_,rfl⟩,ri,Qs⟩) (λc3=>?_)⟩)⟩;have c3:r.m - ([g0,g1]:List Int).sum≠0:=λz=>of_decide_eq_false c3 (congrArg V.int z);have sm2:([g0,g1]:List Int).sum=g0 + g1:=by simp
   rw [sm2] at c3 ⊢;have c1:=rP c1;have c2:=rP c2;have tk1:=M7 c1 (rR RB);have tk2:=M7 c2 (rR Rz);refine ⟨_,rfl,_,rfl,_,rfl,l2,_,rfl,.inl (aB.of RG),p,_,rfl,tk1.1,tk1.2,Qs.pu,λd5 H21 d50 d51 g21=>?_⟩;obtain ⟨i5,rfl⟩:=zn d50;have V0:=Qs.go ra g21;obtain ⟨x5,hx5⟩:=vY d51;obtain ⟨o1,rfl,ob1,om1⟩:=KI hx5;refine ⟨l2,_,_,_,rfl,rfl,aB.of (g21.1 _ _ Wi RG),wP (by rw [zF,hx5];rfl),?_⟩;refine oK [some (V.ref p),some (.ref tr),some (.ref m),some (.ref ll),some (.ref lw),some (.ref st),some (.int r.lo),some (.int r.hi),some (.int r.t),some (.int r.m),some (.ref lb),some (.ref lr),some (.ref lk),some (.ref gv),some (.ref bg),some (.ref cm),some (.ref ah),some (.int (0 + (i:Int))),some (.int way),some (.int G),some (.int T),some (.ref l2),some (.ref l4),some (.int (r.m - (g0 + g1))),some (.int (oI o1)),Rm,MV] rfl ?_;have Pk:=g21.1 _ _ nl4 Pk;refine ⟨_,rfl,_,rfl,_,rfl,l4,_,rfl,.inl (aB.of Pk),p,_,rfl,tk2.1,tk2.2,V0.pu,λd6 H22 d60 d61 g22=>?_⟩;obtain ⟨i6,rfl⟩:=zn d60;have SY:=V0.go ra g22;obtain ⟨x6,hx6⟩:=vY d61;obtain ⟨o2,rfl,ob2,om2⟩:=KI hx6;refine ⟨l4,_,_,_,rfl,rfl,aB.of (g22.1 _ _ nl4 Pk),wP (by rw [zF,hx6];rfl),?_⟩;refine oK [some (V.ref p),some (.ref tr),some (.ref m),some (.ref ll),some (.ref lw),some (.ref st),some (.int r.lo),some (.int r.hi),some (.int r.t),some (.int r.m),some (.ref lb),some (.ref lr),some (.ref lk),some (.ref gv),some (.ref bg),some (.ref cm),some (.ref ah),some (.int (0 + (i:Int))),some (.int way),some (.int G),some (.int T),some (.ref l2),some (.ref l4),some (.int (r.m - (g0 + g1))),some (.int (oI o1)),some (.int (oI o2)),MV] rfl ?_;obtain ⟨p1,x1,abf⟩:=rO abd ob1 om1 of_decide_eq_true;obtain ⟨p2,x2,abe⟩:=rO (a:=aT af T - aT bs' T) abc ob2 om2 λh=>Int.sub_pos.mpr (of_decide_eq_true h);have Vf:H22 ah=some (.lst ([a0,a1].map V.int)):=by have:=SY.ls 6 (by decide);rwa [A6] at this
   have oO:H22 lr=some (.lst (aK.map V.int)):=by have:=SY.ls 1 (by decide);rwa [A1] at this
   refine ⟨_,rfl,_,rfl,_,rfl,_,rfl,ah,_,_,_,rfl,rfl,aB.of Vf,j3 hw,KJ,λy5 hy5=>?_⟩;refine ⟨lr,y5,_,_,rfl,rfl,xl hy5 _ _ oO,xj,RY r8,λy6 hy6=>?_⟩;have s23:=au.trans (xl hy5) (xl (o:=HO.lst (aK.map V.int++[V.int (sel way a0 a1)])) hy6);refine ⟨_,rfl,y6,_,_,_,rfl,rfl,aB.of xj,KD p1,_,_,rfl,?_⟩;generalize upd (upd H22 y5 (HO.lst [V.int (sel way a0 a1)])) y6 (HO.lst (aK.map V.int++[V.int (sel way a0 a1)]))=H23 at s23 ⊢;have Qq:=SY.same s23;refine oK [some (V.ref p),some (.ref tr),some (.ref m),some (.ref ll),some (.ref lw),some (.ref st),some (.int r.lo),some (.int r.hi),some (.int r.t),some (.int r.m),some (.ref lb),some (.ref lr),some (.ref lk),some (.ref gv),some (.ref bg),some (.ref cm),some (.ref ah),some (.int (0 + (i:Int))),some (.int way),some (.int G),some (.int T),some (.ref l2),some (.ref l4),some (.int (if pk aK (sel way a0 a1) o1 < r.m - (g0 + g1) then pk aK (sel way a0 a1) o1 else r.m - (g0 + g1))),some (.int (oI o1)),some (.int (oI o2)),MV] rfl ?_;have TL:H23 lb=some (.lst (bs'.map V.int)):=by have:=Qq.ls 0 (by decide);rwa [A0] at this
   have oQ:H23 lk=some (.lst (aS.map V.int)):=by have:=Qq.ls 2 (by decide);rwa [A2] at this
   have ktr:=Qq.tup hp WD htr;refine ⟨_,rfl,_,rfl,_,rfl,_,rfl,tr,_,_,_,rfl,rfl,aW.of ktr,mU hT.1 (by rw [<-eb];exact hT.2),_,rfl,_,rfl,lb,_,_,_,rfl,rfl,aB.of TL,mU hT.1 (by rw [Ob];exact hT.2),_,_,rfl,rfl,KJ,λy7 hy7=>?_⟩;refine ⟨lk,y7,_,_,rfl,rfl,xl hy7 _ _ oQ,xj,RY k8',λy8 hy8=>?_⟩;have s24:=au.trans (xl hy7) (xl (o:=HO.lst (aS.map V.int++[V.int (aT af T - aT bs' T)])) hy8);refine ⟨_,rfl,y8,_,_,_,rfl,rfl,aB.of xj,KD p2,_,_,rfl,?_⟩;generalize upd (upd H23 y7 (HO.lst [V.int (aT af T - aT bs' T)])) y8 (HO.lst (aS.map V.int++[V.int (aT af T - aT bs' T)]))=H24 at s24 ⊢;have VZ:=Qq.same s24;have M0:0 < r.m - (g0 + g1):=Wv ri.gm c3;have M9:r.m - (g0 + g1)<=99:=Wu ri.z0 ri.z1 rm9;obtain ⟨M,eM,m0,abg,m1,m2,m3⟩:=QE (r.m - (g0 + g1)) (pk aK (sel way a0 a1) o1) (pk aS (aT af T - aT bs' T) o2) M0 M9 x1 x2;rw [eM];clear eM;refine oK [some (V.ref p),some (.ref tr),some (.ref m),some (.ref ll),some (.ref lw),some (.ref st),some (.int r.lo),some (.int r.hi),some (.int r.t),some (.int r.m),some (.ref lb),some (.ref lr),some (.ref lk),some (.ref gv),some (.ref bg),some (.ref cm),some (.ref ah),some (.int (0 + (i:Int))),some (.int way),some (.int G),some (.int T),some (.ref l2),some (.ref l4),some (.int M),some (.int (oI o1)),some (.int (oI o2)),MV] rfl ?_;refine ⟨_,rfl,_,rfl,p,_,rfl,m0,abg,VZ.pu,λd7 H25 d70 d71 g25=>⟨_,_,rfl,rfl,?_⟩⟩;have VY:=VZ.go ra g25;obtain ⟨s,es⟩:∃ s:Int,s=1 + d7:=⟨_,rfl⟩;have sM:s<=M:=s36 es d71;have s1M:1<=s:=aax es d70;have ri2:=step o1 o2 s s1M (Int.le_trans sM m1) (abf s (Int.le_trans sM m2) _ λx h=>of_decide_eq_true h) (abe s (Int.le_trans sM m3) _ λx h=>of_decide_eq_true h);subst es;refine oK [some (V.ref p),some (.ref tr),some (.ref m),some (.ref ll),some (.ref lw),some (.ref st),some (.int r.lo),some (.int r.hi),some (.int r.t),some (.int r.m),some (.ref lb),some (.ref lr),some (.ref lk),some (.ref gv),some (.ref bg),some (.ref cm),some (.ref ah),some (.int (0 + (i:Int))),some (.int way),some (.int G),some (.int T),some (.ref l2),some (.ref l4),some (.int M),some (.int (oI o1)),some (.int (oI o2)),some (.int (1 + d7))] rfl ?_;have YL:H25 gv=some (.lst ([g0,g1].map V.int)):=by have:=VY.ls 3 (by decide);rwa [A3] at this
   refine ⟨_,rfl,_,rfl,gv,_,_,_,rfl,rfl,aB.of YL,j3 hw,_,rfl,_,_,rfl,rfl,_,rfl,_,rfl,gv,_,_,way.toNat,rfl,rfl,YL,uR w0 w1,?_⟩;have LM:=VY.aat ra (y:=[sel way (g0 + (1 + d7)) g0,sel way g1 (g1 + (1 + d7))]) (ys:=([g0,g1].map V.int).set way.toNat (V.int (sel way g0 g1 + (1 + d7)))) (by rw [vZ hw];rcases hw with rfl | rfl <;> rfl);rw [A3] at LM;generalize upd H25 gv _=Zd at LM ⊢;refine ⟨_,rfl,_,_,rfl,rfl,_,rfl,?_⟩;refine abL (fun σ H'=>(∃ Pd Si Rn PD,σ=[some (.ref p),some (.ref tr),some (.ref m),some (.ref ll),some (.ref lw),some (.ref st),some (.int r.lo),some (.int r.hi),some (.int r.t),some (.int r.m),some (.ref lb),some (.ref lr),some (.ref lk),some (.ref gv),some (.ref bg),some (.ref cm),some (.ref ah),Pd,some (.int way),some (.int G),some (.int T),Si,Rn,PD,some (.int (oI o1)),some (.int (oI o2)),some (.int (1 + d7))])/\bB H p A (F7 (j8 bs' G o1 (-(1 + d7))) (mL aK o1 (1 + d7)) aS [sel way (g0 + (1 + d7)) g0,sel way g1 (g1 + (1 + d7))] (iz vC o1 (1 + d7)) vt [sel way (a0 - ((1 + d7) - eN o1 (1 + d7))) a0,sel way a1 (a1 - ((1 + d7) - eN o1 (1 + d7)))]) H') ?_ (λc k=>?_) (λc k=>?_)
   ·rintro σ UZ ⟨⟨Pd,Si,Rn,PD,rfl⟩,iM⟩;have lB:(j8 bs' G o1 (-(1 + d7))).length=bs.length:=by rw [j6,Ob]
    refine ⟨_,rfl,_,_,rfl,rfl,_,rfl,?_⟩;cases o2 with
    | none=>
     refine aE (by decide) ?_;have TL:UZ lb=some (.lst ((j8 bs' G o1 (-(1 + d7))).map V.int)):=by have:=iM.ls 0 (by decide);rwa [A0] at this
     refine ⟨_,rfl,_,rfl,lb,_,_,_,rfl,rfl,aB.of TL,mU hT.1 (by rw [lB];exact hT.2),_,rfl,_,_,rfl,rfl,_,rfl,_,rfl,lb,_,_,T.toNat,rfl,rfl,TL,uR hT.1 (by rw [zA,lB];exact hT.2),?_⟩;have jm:=iM.VP ra (y:=(j8 (j8 bs' G o1 (-(1 + d7))) T none (1 + d7))) (ys:=((j8 bs' G o1 (-(1 + d7))).map V.int).set T.toNat (V.int (aT (j8 bs' G o1 (-(1 + d7))) T + (1 + d7)))) (by rw [<-yQ];rfl);rw [A0] at jm;exact ⟨_,_,_,_,_,_,_,_,_,⟨_,_,_,_,_,_,_,_,_,_,rfl⟩,ri2,jm⟩
    | some k2=>
     have Xp:=p2 k2 rfl;refine av (by show decide (((k2:Nat):Int) < 0)=false;exact decide_eq_false (Int.not_lt.mpr (yz _))) ?_;have oQ:UZ lk=some (.lst (aS.map V.int)):=by have:=iM.ls 2 (by decide);rwa [A2] at this
     refine ⟨_,rfl,_,rfl,lk,_,_,_,rfl,rfl,aB.of oQ,wP (by rw [zF,qF Xp];rfl),_,rfl,_,_,rfl,rfl,_,rfl,_,rfl,lk,_,_,k2,rfl,rfl,oQ,qz (by rw [zA];exact Xp),?_⟩;have jm:=iM.aau ra (y:=(mL aS (some k2) (1 + d7))) (ys:=(aS.map V.int).set k2 (V.int (aF aS k2 - (1 + d7)))) (by rw [<-yQ];rfl);rw [A2] at jm;generalize upd UZ lk _=H28 at jm ⊢;have lcm:k2 < vt.length:=by rw [ri.W.bl,<- ri.W.Nx];exact Xp
     have kcm:H28 cm=some (.lst (vt.map V.int)):=by have:=jm.ls 5 (by decide);rwa [A5] at this
     refine ⟨_,rfl,_,rfl,cm,_,_,_,rfl,rfl,aB.of kcm,wP (by rw [zF,qF lcm];rfl),_,rfl,_,_,rfl,rfl,_,rfl,_,rfl,cm,_,_,k2,rfl,rfl,kcm,qz (by rw [zA];exact lcm),?_⟩;have VX:=jm.aar ra (y:=(iz vt (some k2) (1 + d7))) (ys:=(vt.map V.int).set k2 (V.int (aF vt k2 + (1 + d7)))) (by rw [<-yQ];rfl);rw [A5] at VX;exact ⟨_,_,_,_,_,_,_,_,_,⟨_,_,_,_,_,_,_,_,_,_,rfl⟩,ri2,VX⟩
   ·cases o1 with
    | some k1=>exact absurd (of_decide_eq_true c) (Int.not_lt.mpr (yz _))
    | none=>
     have Vf:Zd ah=some (.lst ([a0,a1].map V.int)):=by have:=LM.ls 6 (by decide);rwa [A6] at this
     refine ⟨_,rfl,_,rfl,ah,_,_,_,rfl,rfl,aB.of Vf,j3 hw,_,rfl,_,_,rfl,rfl,_,rfl,_,rfl,ah,_,_,way.toNat,rfl,rfl,Vf,uR w0 w1,?_⟩;have iM:=LM.aaq ra (y:=[sel way (a0 - ((1 + d7) - eN none (1 + d7))) a0,sel way a1 (a1 - ((1 + d7) - eN none (1 + d7)))]) (ys:=([a0,a1].map V.int).set way.toNat (V.int (sel way a0 a1 - (1 + d7)))) (by rw [vZ hw];show _=[V.int (sel way (a0 - ((1 + d7) - 0)) a0),V.int (sel way a1 (a1 - ((1 + d7) - 0)))];rw [Int.sub_zero];rcases hw with rfl | rfl <;> rfl);rw [A6] at iM;generalize upd Zd ah _=UZ at iM ⊢;have TL:UZ lb=some (.lst (bs'.map V.int)):=by have:=iM.ls 0 (by decide);rwa [A0] at this
     refine ⟨_,rfl,_,rfl,lb,_,_,_,rfl,rfl,aB.of TL,mU hG.1 (by rw [Ob];exact hG.2),_,rfl,_,_,rfl,rfl,_,rfl,_,rfl,lb,_,_,G.toNat,rfl,rfl,TL,uR hG.1 (by rw [zA,Ob];exact hG.2),k _ _ ⟨⟨_,_,_,_,rfl⟩,?_⟩⟩;have jm:=iM.VP ra (y:=(j8 bs' G none (-(1 + d7)))) (ys:=(bs'.map V.int).set G.toNat (V.int (aT bs' G - (1 + d7)))) (by rw [<-yQ];rfl);rw [A0] at jm;exact jm
   ·cases o1 with
    | none=>exact absurd c (by decide)
    | some k1=>
     have YV:=p1 k1 rfl;have oO:Zd lr=some (.lst (aK.map V.int)):=by have:=LM.ls 1 (by decide);rwa [A1] at this
     refine ⟨_,rfl,_,rfl,lr,_,_,_,rfl,rfl,aB.of oO,wP (by rw [zF,qF YV];rfl),_,rfl,_,_,rfl,rfl,_,rfl,_,rfl,lr,_,_,k1,rfl,rfl,oO,qz (by rw [zA];exact YV),?_⟩;have iM:=LM.aav ra (y:=(mL aK (some k1) (1 + d7))) (ys:=(aK.map V.int).set k1 (V.int (aF aK k1 - (1 + d7)))) (by rw [<-yQ];rfl);rw [A1] at iM;generalize upd Zd lr _=UZ at iM ⊢;have lbg:k1 < vC.length:=by rw [ri.L.bl,<- ri.L.Nx];exact YV
     have kbg:UZ bg=some (.lst (vC.map V.int)):=by have:=iM.ls 4 (by decide);rwa [A4] at this
     refine ⟨_,rfl,_,rfl,bg,_,_,_,rfl,rfl,aB.of kbg,wP (by rw [zF,qF lbg];rfl),_,rfl,_,_,rfl,rfl,_,rfl,_,rfl,bg,_,_,k1,rfl,rfl,kbg,qz (by rw [zA];exact lbg),k _ _ ⟨⟨_,_,_,_,rfl⟩,?_⟩⟩;have jm:=iM.aas ra (y:=(iz vC (some k1) (1 + d7))) (ys:=(vC.map V.int).set k1 (V.int (aF vC k1 + (1 + d7)))) (by rw [<-yQ];rfl);rw [A4] at jm;have e6:([sel way (a0 - ((1 + d7) - eN (some k1) (1 + d7))) a0,sel way a1 (a1 - ((1 + d7) - eN (some k1) (1 + d7)))]:List Int)=[a0,a1]:=by
      show [sel way (a0 - ((1 + d7) - (1 + d7))) a0,sel way a1 (a1 - ((1 + d7) - (1 + d7)))]=_;rw [Int.sub_self,Int.sub_zero,Int.sub_zero];rcases hw with rfl | rfl <;> rfl
     rw [e6];exact jm
  ·rintro σ H8 ⟨g0,g1,a0,a1,vC,vt,bs',aK,aS,⟨Pd,Sj,v19,v20,Si,Rn,PD,Sh,Rm,MV,rfl⟩,ri,rh⟩;have k3:=rh.ls 3 (by decide);rw [A3] at k3;refine ⟨_,rfl,gv,_,_,_,rfl,rfl,aB.of k3,rfl,_,rfl,gv,_,_,_,rfl,rfl,aB.of k3,rfl,_,rfl,_,rfl,Uy,λx hx=>?_⟩;have sx:=xl (o:=HO.tup [V.int g0,V.int g1,V.ref bg,V.ref cm]) hx;have SX:=rh.same sx;have fx:H x=none:=rh.fresh hx;refine q ⟨x,bg,cm,⟨g0,g1,vC,vt⟩⟩ bs' aK aS _ (λc u m0 m1 m2 m3 e=>SX.kp c u m0 (by rw [A0];exact m1) (by rw [A1];exact m2) (by rw [A2];exact m3) e) SX.pu (by have:=SX.ls 0 (by decide);rwa [A0] at this) (by have:=SX.ls 1 (by decide);rwa [A1] at this) (by have:=SX.ls 2 (by decide);rwa [A2] at this) ⟨xj,by have:=SX.ls 4 (by decide);rwa [A4] at this,by have:=SX.ls 5 (by decide);rwa [A5] at this⟩ ⟨fx,Mn,Mm⟩ (ri.done Xj bs0)
theorem DC:aC ["_law_purse_here", "_law_loads", "_law_wants", "_law_state", "_law_found", "_law_k", "_law_j", "_law_most", "_law_some"] ["_law_purse_here", "_law_loads", "_law_wants", "_law_state"] (ak wQ):=L2.aX
theorem FV (T:Tx K mg a):aQ P w K mg base ck 2 a.Av a.AX ["_law_purse_here", "_law_loads", "_law_wants", "_law_state"] (P7):=by
 have Aa:=we P w base T;refine T.AI.ok DC (λvs H Q E h=>?_) (λbL A outer s H vs Q E hr h=>?_)
 ·obtain ⟨_,_,_,_,_,_,_,_,_,_,_,rfl,_⟩:=h;rfl
 ·have nd:=DC.nd;have hu:=hr.units;obtain ⟨p,ll,lw,st,lb,lr,lk,ls,ws,rs,ks,rfl,hp,hl,hW,uU,⟨uX,uY⟩,⟨Wo,Vc,Vb⟩,⟨⟨nl0,nl1,Wi⟩,nw0,U9,U8⟩,⟨er,ek,l8,w8⟩,Yt,ks0,q⟩:=h;refine bS ?_;intro Y
  let B0:Bk Y ((aj wQ).drop 2):=⟨_,(xi (wG (wB (xx (xu rfl) (wX (xf (xg (pv 4) (xg (QA rfl (pv 4)) xp rfl) rfl))) (xq Aa (hr.mono (by decide)) rfl T.Ab T.Ac T.Ae .nil aq (xf (xg (pv 0) (xg xh xp rfl) rfl))) (λ_ _=>rfl)))))⟩
  let B1:Bk Y ((nb (nb (nb (aj wQ) 1) 0) 1).drop 3):=⟨_,(xi (wG (xy (i:=4) nd rfl rfl (wC jr (pv 4) (wC jo (wX (xf (xg (qA (xf (xg (pv 5) (xg (pv 6) (xg (pv 8) xp rfl) rfl) rfl))) xp rfl))) (b9 (jC) (by rfl) T.tM xB (xf (xg (wx fE (pv 8) xh (az _)) xp rfl))))))))⟩
  let B2:Bk Y ((nb (nb (nb (aj wQ) 1) 0) 1).drop 2):=⟨_,(xi (wA (wg (wC qY (xx (xu rfl) (xx (xz rfl) (pv 3) xh (λ_ _=>rfl)) (pv 6) (λ_ _=>rfl)) (pv 8)) (qu (xx (xz rfl) (pv 3) xh (λ_ _=>rfl)) (pv 6) wv)) B1.bl))⟩
  let B3:Bk Y ((nb (nb (nb (aj wQ) 1) 0) 1).drop 1):=⟨_,(xi (wA (wg (wC qY (xx (xu rfl) (xx (xz rfl) (pv 3) xh (λ_ _=>rfl)) (pv 5) (λ_ _=>rfl)) (pv 8)) (qu (xx (xz rfl) (pv 3) xh (λ_ _=>rfl)) (pv 5) wv)) B2.bl))⟩
  let B4:Bk Y (nb (nb (nb (aj wQ) 1) 0) 1):=⟨_,(xi (wA (xy (i:=8) nd rfl rfl (xq Aa (hr.mono (by decide)) rfl T.Ab T.Ac T.Ae .nil aq (xf (xg (pv 0) (xg (wC wO (pv 7) xh) xp rfl) rfl)))) B3.bl))⟩
  let B5:Bk Y ((nb (nb (aj wQ) 1) 0).drop 1):=⟨_,(xi (wG (wN (@PW.pt _ _ _ (qW (wD qT (xx (xz rfl) (xx (xu rfl) (pv 1) (pv 5) (λ_ _=>rfl)) xh (λ_ _=>rfl)) (xx (xz rfl) (xx (xu rfl) (pv 2) (pv 6) (λ_ _=>rfl)) xh (λ_ _=>rfl)) (az _)) (qW (wD fD (xx (xz rfl) (xx (xu rfl) (pv 1) (pv 5) (λ_ _=>rfl)) xh (λ_ _=>rfl)) (xx (xz rfl) (xx (xu rfl) (pv 2) (pv 6) (λ_ _=>rfl)) xh (λ_ _=>rfl)) (az _)) (qV (wD fE (pv 7) xh (az _)))))) B4.ps wE)))⟩
  let B6:Bk Y (nb (nb (aj wQ) 1) 0):=⟨_,(xi (wA (xy (i:=7) nd rfl rfl (xr (cW rfl) (by rfl) T.nR yl (xf (xg (xx (xu rfl) (xx (xz rfl) (pv 3) xh (λ_ _=>rfl)) (pv 5) (λ_ _=>rfl)) (xg (xx (xu rfl) (xx (xz rfl) (pv 3) xh (λ_ _=>rfl)) (pv 6) (λ_ _=>rfl)) xp rfl) rfl)))) B5.bl))⟩
  let B7:Bk Y (nb (aj wQ) 1):=⟨_,(xi (wG (wy PassesOwn.never rfl (wq rfl T.bf (xf (xg (xr (xw rfl) (by rfl) T.aM PySem.boot_len (xf (xg (pv 2) xp rfl))) xp rfl))) (xm (i:=6) nd rfl rfl) B6.ps)))⟩
  let B8:Bk Y ((aj wQ).drop 1):=⟨_,(xi (wA (wy PassesOwn.never rfl (wq rfl T.bf (xf (xg (xr (xw rfl) (by rfl) T.aM PySem.boot_len (xf (xg (pv 1) xp rfl))) xp rfl))) (xm (i:=5) nd rfl rfl) B7.ps) B0.bl))⟩
  refine ⟨_,(xi (wA (xy (i:=4) nd rfl rfl (wX qo)) B8.bl)),?_⟩;have line:=aU;have mQ:(2:Int) ^ 200 > 10000:=by decide
  have Vd:(ls.map (·.2)).length=ls.length:=zA _;have U3:(ws.map (·.2)).length=ws.length:=zA _;have st0:eH (ls.map (·.2)) (ws.map (·.2)) rs ks [] rs ks:=⟨nofun,nofun,List.nodup_nil,by rw [Vd];exact er,by rw [U3];exact ek,λy hy=>(Yt y hy).1,ks0,λk _=>by show _=_ - (0:Int);omega,λk _=>by show _=_ - (0:Int);omega⟩;have keep:∀ {Hx:Hp}{c:Addr}{xs:List V},(∀ c u,c≠p->c≠lr->c≠lk->H c=some u->Hx c=some u)->H c=some (.tup xs)->Hx c=some (.tup xs):=λ{Hx c xs} k e=>k c _ (hp.tup e) (qy e uX (by intro z;cases z)) (qy e uY (by intro z;cases z)) e;have sk:∀ {Hx:Hp},(∀ c u,c≠p->c≠lr->c≠lk->H c=some u->Hx c=some u)->aD Hx ll ls/\aD Hx lw ws/\Hx st=some (.tup [.ref lb,.ref lr,.ref lk]):=λ{Hx} k=>⟨⟨k _ _ nl0 nl1 Wi hl.l,λa ha=>keep k (hl.each a ha)⟩,⟨k _ _ nw0 U9 U8 hW.l,λa ha=>keep k (hW.each a ha)⟩,keep k uU⟩;refine ⟨zo _,λf0 YW=>?_⟩;have s1:=xl (o:=HO.lst []) YW;have kf1:upd H f0 (HO.lst []) f0=some (.lst []):=xj;have ge1:∀ c u,c≠p->c≠lr->c≠lk->H c=some u->upd H f0 (HO.lst []) c=some u:=λc u _ _ _ e=>s1 _ _ e;have Yz:aN (upd H f0 (HO.lst [])) p:=hp.new YW;generalize upd H f0 (HO.lst [])=H1 at s1 kf1 ge1 Yz ⊢;refine (zr rfl ⟨ll,zr rfl ⟨.inl (aB.of (s1 _ _ hl.l)),zr rfl ⟨by rw [zA];omega,by rw [zA];omega,?_⟩⟩⟩);rw [zA]
  let Fr:Nat->Nat->Hp->V->Prop:=λk j H' v=>∃ (f:Addr) (ts:List (Addr×T3)) (aK aS:List Int),v=V.ref f/\(∀ c u,c≠p->c≠lr->c≠lk->H c=some u->H' c=some u)/\aN H' p/\H' lr=some (.lst (aK.map V.int))/\H' lk=some (.lst (aS.map V.int))/\H f=none/\f≠p/\H' f=some (.lst (ts.map λx=>V.ref x.1))/\(∀ x∈ts,H' x.1=some (.tup [.int x.2.k,.int x.2.j,.int x.2.m]))/\ts.length<=8 * k + j/\eH (ls.map (·.2)) (ws.map (·.2)) rs ks (ts.map (·.2)) aK aS/\R7 (ts.map (·.2)) k j/\(∀ y∈aK,y<=99)
  refine (let W20:IV:=λk σ H8=>∃ v,(∃ v5 v6 v7 v8,σ=[some (.ref p),some (.ref ll),some (.ref lw),some (.ref st),some v,v5,v6,v7,v8])/\Fr k 0 H8 v;qD (lo:=0) (n:=ls.length) W20 ⟨_,⟨_,_,_,_,rfl⟩,f0,[],rs,ks,rfl,ge1,Yz,s1 _ _ uX,s1 _ _ uY,YW,hp.ne YW,kf1,nofun,by simp,st0,nofun,λy hy=>(Yt y hy).2⟩ ?_ ?_)
  ·rintro k σ H8 hk ⟨_,⟨v5,v6,v7,v8,rfl⟩,f,ts,aK,aS,rfl,ge,pu,oO,oQ,hf,NY,kf,kt,lt,so,ah,Pg⟩;obtain ⟨Uk,RL,abX⟩:=sk ge;refine (zr rfl ⟨lw,zr rfl ⟨.inl (aB.of RL.l),zr rfl ⟨by rw [zA];omega,by rw [zA];omega,?_⟩⟩⟩);rw [zA];refine (let W21:IV:=λj σ H9=>∃ v,(∃ v6 v7 v8,σ=[some (.ref p),some (.ref ll),some (.ref lw),some (.ref st),some v,some (.int (0 + (k:Int))),v6,v7,v8])/\Fr k j H9 v;qD (lo:=0) (n:=ws.length) W21 ⟨_,⟨_,_,_,rfl⟩,f,ts,aK,aS,rfl,ge,pu,oO,oQ,hf,NY,kf,kt,lt,so,ah,Pg⟩ ?_ ?_)
   ·clear Uk RL abX Pg ah so lt kt kf NY hf oQ oO pu ge ts aK aS f;rintro j σ H9 hj ⟨_,⟨v6,v7,v8,rfl⟩,f,ts,aK,aS,rfl,ge,pu,oO,oQ,hf,NY,kf,kt,lt,so,ah,Pg⟩;obtain ⟨QW,hw9,QT⟩:=sk ge;have lrs:aK.length=ls.length:=by rw [so.rl,Vd]
    have lks:aS.length=ws.length:=by rw [so.kl,U3]
    have atr:dU (aK.map V.int) (0 + (k:Int))=some (V.int (aF aK k)):=by rw [zq];exact wP (by rw [zF,qF (by omega)];rfl)
    have atk:dU (aS.map V.int) (0 + (j:Int))=some (V.int (aF aS j)):=by rw [zq];exact wP (by rw [zF,qF (by omega)];rfl)
    have atl:dU (ls.map λa=>V.ref a.1) (0 + (k:Int))=some (V.ref ls[k].1):=by rw [zq];exact wP (by rw [zF,zC hk];rfl)
    have atw:dU (ws.map λa=>V.ref a.1) (0 + (j:Int))=some (V.ref ws[j].1):=by rw [zq];exact wP (by rw [zF,zC hj];rfl)
    have tl:=QW.each _ (z4 hk);have tw:=hw9.each _ (z4 hj);have b1:=so.r0 _ (qP (show k < aK.length by omega));have b2:=Pg _ (qP (show k < aK.length by omega));have b3:=so.k0 _ (qP (show j < aS.length by omega));refine (zr rfl (bP QT rfl (zr rfl (bV oO atr (zr rfl (bP QT rfl (zr rfl (bV oQ atk (mq rfl ?_)))))))));obtain ⟨M,eM,m1,m2⟩:∃ M:Int,(if aF aS j < aF aK k then aF aS j else aF aK k)=M/\M<=aF aK k/\M<=aF aS j:=⟨_,rfl,by split <;> omega,by split <;> omega⟩;rw [eM];have nx:∀ (x y:Option V),(∃ v,(∃ v6 v7 v8,[some (V.ref p),some (.ref ll),some (.ref lw),some (.ref st),some (V.ref f),some (.int (0 + (k:Int))),some (V.int (0 + (j:Int))),x,y]=[some (V.ref p),some (.ref ll),some (.ref lw),some (.ref st),some v,some (.int (0 + (k:Int))),v6,v7,v8])/\Fr k (j + 1) H9 v):=λx y=>⟨_,⟨_,_,_,rfl⟩,f,ts,aK,aS,rfl,ge,pu,oO,oQ,hf,NY,kf,kt,by omega,so,λt ht=>by rcases ah t ht with q | ⟨q1,q2⟩;exact .inl q;exact .inr ⟨q1,by omega⟩,Pg⟩;refine (zr rfl (zr rfl (bV QW.l atl (bP tl rfl (zr rfl (zr rfl (bV hw9.l atw (bP tw rfl ⟨rfl,zr rfl ?_⟩))))))));by_cases c1:ls[k].2.w=ws[j].2.w
    rotate_left
    ·exact av (decide_eq_false λz=>c1 (V.int.inj z)) (av rfl (nx _ _))
    refine aE (decide_eq_true (by rw [c1])) ?_;refine (zr rfl (zr rfl (bV QW.l atl (bP tl rfl (zr rfl (zr rfl (bV hw9.l atw (bP tw rfl (aJ rfl rfl (zr rfl ?_))))))))));by_cases c2:ls[k].2.t<=ws[j].2.t
    rotate_left
    ·exact av (decide_eq_false c2) (av rfl (nx _ _))
    refine aE (decide_eq_true c2) (zr rfl (aJ rfl rfl (zr rfl ?_)));by_cases c3:M > 0
    rotate_left
    ·exact av (decide_eq_false c3) (nx _ _)
    refine aE (decide_eq_true c3) ?_;refine (zr rfl (zr rfl (aJ rfl rfl ⟨p,zr rfl ⟨by omega,by omega,pu,λd gO d0 d1 jy=>?_⟩⟩)));have K0:=jy.1 _ _ (pu.tup QT) QT;have KR:=jy.1 _ _ Vc oO;have WO:=jy.1 _ _ Vb oQ;have abE:=jy.1 _ _ NY kf;have WJ:∀ x∈ts,gO x.1=some (.tup [.int x.2.k,.int x.2.j,.int x.2.m]):=λx hx=>jy.aZ pu _ _ (kt x hx);have ge10:∀ c u,c≠p->c≠lr->c≠lk->H c=some u->gO c=some u:=λc u m0 m1 m2 e=>jy.1 _ _ m0 (ge c u m0 m1 m2 e);have aa8:f≠lr:=λz=>by rw [z,uX] at hf;cases hf
    have aa9:f≠lk:=λz=>by rw [z,uY] at hf;cases hf
    have ixr:KW (aK.map V.int).length (0 + (k:Int))=some k:=by rw [zq];exact qz (by rw [zA];omega)
    have ixk:KW (aS.map V.int).length (0 + (j:Int))=some j:=by rw [zq];exact qz (by rw [zA];omega)
    refine (zr rfl (bP K0 rfl (zr rfl (bV KR atr (zr rfl (aJ rfl rfl (zr rfl (bP K0 rfl (zr rfl ⟨lr,_,_,k,rfl,rfl,KR,ixr,?_⟩)))))))));have su:∀ {c:Addr}{u:HO}{x:HO},c≠lr->gO c=some u->upd gO lr x c=some u:=λn e=>by rw [xt n];exact e
    have RE:upd gO lr (HO.lst ((aK.map V.int).set k (V.int (aF aK k - d)))) lr=some (.lst ((aK.set k (aF aK k - d)).map V.int)):=by rw [xj,yQ]
    have Ol:=su (x:=HO.lst ((aK.map V.int).set k (V.int (aF aK k - d)))) (qy K0 KR (by intro z;cases z)) K0;have KS:=su (x:=HO.lst ((aK.map V.int).set k (V.int (aF aK k - d)))) Wo.symm WO;have WU:=su (x:=HO.lst ((aK.map V.int).set k (V.int (aF aK k - d)))) aa8 abE;have LY:∀ x∈ts,upd gO lr (HO.lst ((aK.map V.int).set k (V.int (aF aK k - d)))) x.1=some (.tup [.int x.2.k,.int x.2.j,.int x.2.m]):=λx hx=>su (qy (WJ x hx) KR (by intro z;cases z)) (WJ x hx);have XF:∀ c u,c≠p->c≠lr->c≠lk->H c=some u->upd gO lr (HO.lst ((aK.map V.int).set k (V.int (aF aK k - d)))) c=some u:=λc u m0 m1 m2 e=>su m1 (ge10 c u m0 m1 m2 e);have S9:aN (upd gO lr (HO.lst ((aK.map V.int).set k (V.int (aF aK k - d))))) p:=by obtain ⟨a,b,c,e⟩:=jy.2;exact ⟨a,b,c,su Vc.symm e⟩
    clear su;generalize upd gO lr (HO.lst ((aK.map V.int).set k (V.int (aF aK k - d))))=jQ at RE Ol KS WU LY XF S9 ⊢;refine (zr rfl (bP Ol rfl (zr rfl (bV KS atk (zr rfl (aJ rfl rfl (zr rfl (bP Ol rfl (zr rfl ⟨lk,_,_,j,rfl,rfl,KS,ixk,?_⟩)))))))));have su:∀ {c:Addr}{u:HO}{x:HO},c≠lk->jQ c=some u->upd jQ lk x c=some u:=λn e=>by rw [xt n];exact e
    have sC:upd jQ lk (HO.lst ((aS.map V.int).set j (V.int (aF aS j - d)))) lk=some (.lst ((aS.set j (aF aS j - d)).map V.int)):=by rw [xj,yQ]
    have sy:=su (x:=HO.lst ((aS.map V.int).set j (V.int (aF aS j - d)))) Wo RE;have WT:=su (x:=HO.lst ((aS.map V.int).set j (V.int (aF aS j - d)))) aa9 WU;have TJ:∀ x∈ts,upd jQ lk (HO.lst ((aS.map V.int).set j (V.int (aF aS j - d)))) x.1=some (.tup [.int x.2.k,.int x.2.j,.int x.2.m]):=λx hx=>su (qy (LY x hx) KS (by intro z;cases z)) (LY x hx);have QZ:∀ c u,c≠p->c≠lr->c≠lk->H c=some u->upd jQ lk (HO.lst ((aS.map V.int).set j (V.int (aF aS j - d)))) c=some u:=λc u m0 m1 m2 e=>su m2 (XF c u m0 m1 m2 e);have Qv:aN (upd jQ lk (HO.lst ((aS.map V.int).set j (V.int (aF aS j - d))))) p:=by obtain ⟨a,b,c,e⟩:=S9;exact ⟨a,b,c,su Vb.symm e⟩
    clear su;generalize upd jQ lk (HO.lst ((aS.map V.int).set j (V.int (aF aS j - d))))=mE at sC sy WT TJ QZ Qv ⊢;refine (zr rfl (zr rfl (zr rfl (zr rfl ⟨by show 3<=_;omega,λu hu=>⟨by show 1<=_;omega,λy1 oS=>?_⟩⟩))));have kJ:=au.trans (xl (o:=HO.tup [V.int (0 + (k:Int)),V.int (0 + (j:Int)),V.int d]) hu) (xl (o:=HO.lst [V.ref u]) oS);have WH:upd (upd mE u (HO.tup [V.int (0 + (k:Int)),V.int (0 + (j:Int)),V.int d])) y1 (HO.lst [V.ref u]) u=some (.tup [.int (k:Int),.int (j:Int),.int d]):=by rw [xt (λz=>by rw [z,xj] at oS;cases oS),xj,zq,zq]
    have WE:upd (upd mE u (HO.tup [V.int (0 + (k:Int)),V.int (0 + (j:Int)),V.int d])) y1 (HO.lst [V.ref u]) y1=some (.lst [V.ref u]):=xj;generalize upd (upd mE u (HO.tup [V.int (0 + (k:Int)),V.int (0 + (j:Int)),V.int d])) y1 (HO.lst [V.ref u])=Px at kJ WH WE ⊢;have Pu:∀ b:Bool,-(2:Int) ^ 63<=(if b=true then 1 else 0)/\(if b=true then (1:Int) else 0) < 2 ^ 63/\([V.ref u]:List V).length * Int.toNat (if b=true then 1 else 0)<=sizeLine:=λb=>by
     cases b
     ·exact ⟨by decide,by decide,by show 1 * 0<=_;omega⟩
     ·exact ⟨by decide,by decide,by show 1 * 1<=_;omega⟩
    have k7:k<=7:=by omega
    have j7:j<=7:=by omega
    refine (zr rfl (aJ rfl rfl (.inr (zr rfl ⟨y1,aJ rfl rfl ⟨WE,(Pu _).1,(Pu _).2.1,(Pu _).2.2,λy2 jK=>⟨f,y2,aJ rfl rfl ⟨xl jK _ _ (kJ _ _ WT),xj,?_,λy3 MG=>?_⟩⟩⟩⟩))))
    ·rw [zA];split <;> simp only [Int.toNat_one,Int.toNat_zero,List.replicate,xD,List.flatten_nil,yK,zk,yf] <;> omega
    have mZ:=kJ.trans (au.trans (xl jK) (xl (o:=HO.lst ((ts.map λx=>V.ref x.1)++(List.replicate (Int.toNat (if decide (0 < d)=true then 1 else 0)) [V.ref u]).flatten)) MG));have TH:=xj (H:=upd Px y2 (HO.lst (List.replicate (Int.toNat (if decide (0 < d)=true then 1 else 0)) [V.ref u]).flatten)) (a:=y3) (o:=HO.lst ((ts.map λx=>V.ref x.1)++(List.replicate (Int.toNat (if decide (0 < d)=true then 1 else 0)) [V.ref u]).flatten));have WG:=(au.trans (xl jK) (xl (o:=HO.lst ((ts.map λx=>V.ref x.1)++(List.replicate (Int.toNat (if decide (0 < d)=true then 1 else 0)) [V.ref u]).flatten)) MG)) _ _ WH;have acM:∀ c uu,c≠p->c≠lr->c≠lk->H c=some uu->upd Px y2 (HO.lst (List.replicate (Int.toNat (if decide (0 < d)=true then 1 else 0)) [V.ref u]).flatten) c=some uu:=λc uu m0 m1 m2 e=>xl jK _ _ (kJ _ _ (QZ c uu m0 m1 m2 e));have V6:aN (upd Px y2 (HO.lst (List.replicate (Int.toNat (if decide (0 < d)=true then 1 else 0)) [V.ref u]).flatten)) p:=by obtain ⟨a,b,c,e⟩:=Qv;exact ⟨a,b,c,xl jK _ _ (kJ _ _ e)⟩
    have Xf:H y3=none:=by
     cases z:H y3 with
     | none=>rfl
     | some uu=>
      have:=acM y3 uu (V6.ne MG) (λz2=>by rw [z2,xl jK _ _ (kJ _ _ sy)] at MG;cases MG) (λz2=>by rw [z2,xl jK _ _ (kJ _ _ sC)] at MG;cases MG) z;rw [this] at MG;cases MG
    have ny3:y3≠p:=V6.ne MG;generalize upd (upd Px y2 (HO.lst (List.replicate (Int.toNat (if decide (0 < d)=true then 1 else 0)) [V.ref u]).flatten)) y3 (HO.lst ((ts.map λx=>V.ref x.1)++(List.replicate (Int.toNat (if decide (0 < d)=true then 1 else 0)) [V.ref u]).flatten))=Ze at mZ TH WG ⊢;by_cases c5:0 < d
    ·refine ⟨_,⟨_,_,_,rfl⟩,y3,ts++[(u,⟨k,j,d⟩)],aK.set k (aF aK k - d),aS.set j (aF aS j - d),rfl,λc uu m0 m1 m2 e=>mZ _ _ (QZ c uu m0 m1 m2 e),by obtain ⟨a,b,c,e⟩:=Qv;exact ⟨a,b,c,mZ _ _ e⟩,mZ _ _ sy,mZ _ _ sC,Xf,ny3,?_,λx hx=>?_,by rw [zO];show ts.length + 1<=_;omega,?_,λt ht=>?_,jt (P:=λy=>y<=99) Pg (by omega)⟩
     ·rw [TH,if_pos (decide_eq_true c5),zD];rfl
     ·rcases zV.mp hx with h | h
      ·exact mZ _ _ (TJ x h)
      ·rw [zK.mp h];exact WG
     ·have:=so.step (k:=k) (j:=j) (s:=d) (l:=ls[k].2) (w:=ws[j].2) ah (by rw [zF,zC hk];rfl) (by rw [zF,zC hj];rfl) (by unfold b7;rw [decide_eq_true c1,decide_eq_true c2];rfl) c5 (by omega) (by omega);rw [zD];exact this
     ·rw [zD] at ht;rcases zV.mp ht with h | h
      ·rcases ah t h with q | ⟨q1,q2⟩
       ·exact .inl q
       ·exact .inr ⟨q1,by omega⟩
      ·rw [zK.mp h];exact .inr ⟨rfl,by show (j:Int) < ((j + 1:Nat):Int);omega⟩
    ·have d00:d=0:=by omega
     subst d00;rw [ux (by omega)] at sy sC;refine ⟨_,⟨_,_,_,rfl⟩,y3,ts,aK,aS,rfl,λc uu m0 m1 m2 e=>mZ _ _ (QZ c uu m0 m1 m2 e),by obtain ⟨a,b,c,e⟩:=Qv;exact ⟨a,b,c,mZ _ _ e⟩,mZ _ _ sy,mZ _ _ sC,Xf,ny3,?_,λx hx=>mZ _ _ (TJ x hx),by omega,so,λt ht=>?_,Pg⟩
     ·rw [TH];show some (HO.lst (_++[]))=_;rw [yK]
     ·rcases ah t ht with q | ⟨q1,q2⟩
      ·exact .inl q
      ·exact .inr ⟨q1,by omega⟩
   ·rintro σ H9 ⟨_,⟨v6,v7,v8,rfl⟩,f,ts,aK,aS,rfl,ge,pu,oO,oQ,hf,NY,kf,kt,lt,so,ah,Pg⟩;exact ⟨_,⟨_,_,_,_,rfl⟩,f,ts,aK,aS,rfl,ge,pu,oO,oQ,hf,NY,kf,kt,by omega,so,λt ht=>by rcases ah t ht with q | ⟨q1,q2⟩;exact .inl (by omega);exact .inl (by omega),Pg⟩
  ·rintro σ H8 ⟨_,⟨v5,v6,v7,v8,rfl⟩,f,ts,aK,aS,rfl,ge,pu,oO,oQ,hf,NY,kf,kt,lt,so,ah,Pg⟩;have kl0:ls.length<=8:=l8;refine (zr rfl (zr rfl ⟨f,zr rfl ⟨aB.of kf,λf2 RP=>?_⟩⟩));have s9:=xl (o:=HO.lst (ts.map λx=>V.ref x.1).reverse) RP;have kf2:upd H8 f2 (HO.lst (ts.map λx=>V.ref x.1).reverse) f2=some (.lst (ts.reverse.map λx=>V.ref x.1)):=by rw [xj,List.map_reverse]
   have nf2:f2≠p:=pu.ne RP;have acv:H f2=none:=by
    cases z:H f2 with
    | none=>rfl
    | some uu=>
     have:=ge f2 uu nf2 (λz2=>by rw [z2,oO] at RP;cases RP) (λz2=>by rw [z2,oQ] at RP;cases RP) z;rw [this] at RP;cases RP
   generalize upd H8 f2 (HO.lst (ts.map λx=>V.ref x.1).reverse)=H9 at s9 kf2 ⊢;refine ⟨by show 2<=_;omega,λf3 hf3=>?_⟩;have iK:=xl (o:=HO.lst [V.ref f,V.ref f2]) hf3;have kf3:upd H9 f3 (HO.lst [V.ref f,V.ref f2]) f3=some (.lst [V.ref f,V.ref f2]):=xj;have oF:=s9.trans iK;have uB:aN (upd H9 f3 (HO.lst [V.ref f,V.ref f2])) p:=by obtain ⟨a,b,c,e⟩:=pu;exact ⟨a,b,c,oF _ _ e⟩
   have nf3:f3≠p:=by obtain ⟨a,b,c,e⟩:=pu;exact (xk (s9 _ _ e) hf3).symm
   generalize upd H9 f3 (HO.lst [V.ref f,V.ref f2])=gO at iK kf3 oF uB ⊢;refine (zr rfl ⟨p,zr rfl ⟨by decide,by decide,uB,λd jQ d0 d1 pP=>?_⟩⟩);have gx:∀ c u,c≠p->c≠lr->c≠lk->H c=some u->jQ c=some u:=λc u m0 m1 m2 e=>pP.1 _ _ m0 (oF _ _ (ge c u m0 m1 m2 e));have LY:∀ x∈ts,jQ x.1=some (.tup [.int x.2.k,.int x.2.j,.int x.2.m]):=λx hx=>pP.aZ uB _ _ (oF _ _ (kt x hx));obtain rfl | rfl:d=0\/d=1:=by omega
   ·exact (bV (pP.1 _ _ nf3 kf3) rfl (q f ts aK aS jQ gx pP.2 (pP.1 _ _ Vc (oF _ _ oO)) (pP.1 _ _ Vb (oF _ _ oQ)) hf (pP.1 _ _ NY (oF _ _ kf)) LY (by omega) so))
   ·exact (bV (pP.1 _ _ nf3 kf3) rfl (q f2 ts.reverse aK aS jQ gx pP.2 (pP.1 _ _ Vc (oF _ _ oO)) (pP.1 _ _ Vb (oF _ _ oQ)) acv (pP.1 _ _ nf2 (iK _ _ kf2)) (λx hx=>LY x (List.mem_reverse.mp hx)) (by rw [List.length_reverse];omega) (by rw [List.map_reverse];exact so.perm (List.reverse_perm _))))
theorem Fj:aC ["_law_script", "_law_head", "_law_book_here", "_law_loads", "_law_wants", "_law_first", "_law_state", "_law_early", "_law_at_once", "_law_rows", "_law_k"] ["_law_script", "_law_head", "_law_book_here", "_law_loads", "_law_wants", "_law_first"] (ak w4):=L2.aX
theorem Ig (T:Tx K mg a):aQ P w K mg base ck 3 a.Bu a.Cy ["_law_script", "_law_head", "_law_book_here", "_law_loads", "_law_wants", "_law_first"] (Nn K):=by
 have Bx:=Dv P w base T;have Aa:=we P w base T;have J4:=IT P w base T;have D9:=FV P w base T;refine T.BW.ok Fj (λvs H Q E h=>?_) (λbL A outer s H vs Q E hr h=>?_)
 ·obtain ⟨_,_,_,_,_,_,_,_,_,_,_,_,_,_,rfl,_⟩:=h;rfl
 ·have nd:=Fj.nd;have hu:=hr.units;obtain ⟨sa,hd,b,ll,lw,af,tr,tm,ps,ls,ws,ns,n,H0,rfl,hsa,Wn,h0,sm0,Tv,hb,gd,r1,mC,Yv,hp,hl,hW,⟨Tt,Va⟩,l8,w8,lm,wm,q⟩:=h;refine bS ?_;intro Y
  let B0:Bk Y (nb (aj w4) 6):=⟨_,(xi (wG (xy (i:=8) nd rfl rfl (xq D9 (hr.mono (by decide)) rfl T.D6 T.D7 T.D8 .nil aq (xf (xg (pv 1) (xg (pv 3) (xg (pv 4) (xg (pv 6) xp rfl) rfl) rfl) rfl))))))⟩
  let B1:Bk Y ((aj w4).drop 6):=⟨_,(xi (wA (wN (wU (wL (pv 7))) B0.ps wE) (wG (wB (qA (xf (xg (qA (xf (xg (pv 9) (xg (pv 8) xp rfl) rfl))) (xg (xx (xz rfl) (pv 6) xh (λ_ _=>rfl)) xp rfl) rfl)))))))⟩
  let B2:Bk Y (nb (aj w4) 5):=⟨_,(xi (wG (gu (ni yi yd ye cV (pv 9) (xf (xg (xq J4 (hr.mono (by decide)) rfl T.JO T.JR T.JU .nil aq (xf (xg (xq Bx (hr.mono (by decide)) rfl T.CG T.CI T.CJ .nil aq (xf (xg (pv 0) (xg (wC wO (pv 5) (pv 10)) xp rfl) rfl))) (xg (xx (xz rfl) (pv 2) xh (λ_ _=>rfl)) (xg (xx (xz rfl) (xx (xz rfl) (pv 2) xh (λ_ _=>rfl)) (pv 10) (λ_ _=>rfl)) (xg (pv 3) (xg (pv 4) (xg (pv 6) xp rfl) rfl) rfl) rfl) rfl) rfl))) xp rfl))))))⟩
  let B3:Bk Y ((aj w4).drop 5):=⟨_,(xi (wA (wy PassesOwn.never rfl (wq rfl T.bf (xf (xg (xr (xw rfl) (by rfl) T.aM PySem.boot_len (xf (xg (xx (xz rfl) (pv 2) xh (λ_ _=>rfl)) xp rfl))) xp rfl))) (xm (i:=10) nd rfl rfl) B2.ps) B1.bl))⟩
  let B4:Bk Y (nb (aj w4) 3):=⟨_,(xi (wG (xy (i:=8) nd rfl rfl (xq D9 (hr.mono (by decide)) rfl T.D6 T.D7 T.D8 .nil aq (xf (xg (pv 1) (xg (pv 3) (xg (pv 4) (xg (pv 6) xp rfl) rfl) rfl) rfl))))))⟩
  let B5:Bk Y ((aj w4).drop 1):=⟨_,(xi (wA (xy (i:=7) nd rfl rfl (wx qT (xq Aa (hr.mono (by decide)) rfl T.Ab T.Ac T.Ae .nil aq (xf (xg (pv 1) (xg xh xp rfl) rfl))) xh (az _))) (wA (xy (i:=8) nd rfl rfl (wX qo)) (wA (wN (wL (pv 7)) B4.ps wE) (wA (xy (i:=9) nd rfl rfl (wX qo)) B3.bl)))))⟩
  refine ⟨_,(xi (wA (xy (i:=6) nd rfl rfl (qA (xf (xg (wC jo (wX (xf (xg xh xp rfl))) (xr (xw rfl) (by rfl) T.aM PySem.boot_len (xf (xg (xx (xz rfl) (pv 2) xh (λ_ _=>rfl)) xp rfl)))) (xg (wc (own:=["_law_load"]) (caps:=[]) rfl (show ay ["_law_load"] [] ["_law_script", "_law_head", "_law_book_here", "_law_loads", "_law_wants", "_law_first", "_law_state", "_law_early", "_law_at_once", "_law_rows", "_law_k"] (ak w4) _ from L2.bR) (wZ rfl (pv 3)) (λ_ _ _ _=>(xm (i:=0) (show List.Nodup (["_law_load"]:List Str) from by decide +kernel) rfl rfl)) (λ_ _ _ _=>wT) (λ_ _ _ _=>(xx (xz rfl) (pv 0) xh (λ_ _=>rfl)))) (xg (wc (own:=["_law_want"]) (caps:=[]) rfl (show ay ["_law_want"] [] ["_law_script", "_law_head", "_law_book_here", "_law_loads", "_law_wants", "_law_first", "_law_state", "_law_early", "_law_at_once", "_law_rows", "_law_k"] (ak w4) _ from L2.bR) (wZ rfl (pv 4)) (λ_ _ _ _=>(xm (i:=0) (show List.Nodup (["_law_want"]:List Str) from by decide +kernel) rfl rfl)) (λ_ _ _ _=>wT) (λ_ _ _ _=>(xx (xz rfl) (pv 0) xh (λ_ _=>rfl)))) xp rfl) rfl) rfl)))) B5.bl)),?_⟩;have line:=aU;have mQ:(2:Int) ^ 200 > 10000:=by decide
  have WC:=gd.len;have rl:(af.map V.int).length=af.length:=zA _;have UK:∀ n:Nat,n<=100->-(2:Int) ^ 63<=(n:Int)/\(n:Int) < 2 ^ 63:=λn h=>⟨by omega,by omega⟩;refine ⟨by show 1<=_;omega,λz1 jx=>(zr rfl (bP ((hb.same (xl jx)).book) rfl ⟨tr,zr rfl ⟨.inr (aW.of (hb.same (xl jx)).af),z1,aJ rfl rfl ⟨xj,by rw [rl];exact (UK _ (by omega)).1,by rw [rl];exact (UK _ (by omega)).2,by rw [rl,zx];show 1 * _<=_;omega,λlb nF=>?_⟩⟩⟩))⟩;rw [rl,zx,sY];have s1:=(xl (o:=HO.lst [V.int 0]) jx).trans (xl (o:=HO.lst ((List.replicate af.length (0:Int)).map V.int)) nF);have kb1:upd (upd H z1 (HO.lst [V.int 0])) lb (HO.lst ((List.replicate af.length (0:Int)).map V.int)) lb=some (.lst ((List.replicate af.length (0:Int)).map V.int)):=xj;have flb:H lb=none:=none_of (xl jx) nF;generalize upd (upd H z1 (HO.lst [V.int 0])) lb (HO.lst ((List.replicate af.length (0:Int)).map V.int))=H1 at s1 kb1 ⊢;refine (zr rfl ⟨ll,rfl,⟨_,aB.of (s1 _ _ hl.l)⟩,?_⟩);refine (let W22:IC:=λi τ acc H5=>(∃ t0,τ=[t0])/\acc=((ls.take i).map λa=>a.2.m).map V.int/\H1=H5;wV (K:=K) (a:=ll) (xs:=ls.map λa=>V.ref a.1) W22 ⟨⟨_,rfl⟩,rfl,rfl⟩ (by rw [zA];omega) ?_ ?_ ?_)
  ·rintro i τ acc H5 ⟨_,rfl,rfl⟩;exact ⟨by rw [zA,zA,zR];omega,aB.of (s1 _ _ hl.l)⟩
  ·rintro i v τ acc H5 C hv ⟨⟨t0,rfl⟩,rfl,rfl⟩ hC;obtain ⟨x,hx,rfl⟩:=wF hv;refine (zr rfl (bP (s1 _ _ (hl.each x (zB hx))) rfl (hC _ _ _ ⟨⟨_,rfl⟩,?_,rfl⟩)));rw [wK hx,zD,zD];rfl
  rintro τ acc H5 ⟨⟨t0,rfl⟩,rfl,rfl⟩ lr uX;rw [zA,zS];have s2:=xl (o:=HO.lst ((ls.map λa=>a.2.m).map V.int)) uX;have kr2:upd H1 lr (HO.lst ((ls.map λa=>a.2.m).map V.int)) lr=some (.lst ((ls.map λa=>a.2.m).map V.int)):=xj;have nbr:lb≠lr:=xk kb1 uX;have Q5:H lr=none:=none_of s1 uX;generalize upd H1 lr (HO.lst ((ls.map λa=>a.2.m).map V.int))=H2 at s2 kr2 ⊢;have LK:=s1.trans s2;refine (zr rfl ⟨lw,rfl,⟨_,aB.of (LK _ _ hW.l)⟩,?_⟩);refine (let W23:IC:=λi τ acc H5=>(∃ t0,τ=[t0])/\acc=((ws.take i).map λa=>a.2.m).map V.int/\H2=H5;wV (K:=K) (a:=lw) (xs:=ws.map λa=>V.ref a.1) W23 ⟨⟨_,rfl⟩,rfl,rfl⟩ (by rw [zA];omega) ?_ ?_ ?_)
  ·rintro i τ acc H5 ⟨_,rfl,rfl⟩;exact ⟨by rw [zA,zA,zR];omega,aB.of (LK _ _ hW.l)⟩
  ·rintro i v τ acc H5 C hv ⟨⟨t0,rfl⟩,rfl,rfl⟩ hC;obtain ⟨x,hx,rfl⟩:=wF hv;refine (zr rfl (bP (LK _ _ (hW.each x (zB hx))) rfl (hC _ _ _ ⟨⟨_,rfl⟩,?_,rfl⟩)));rw [wK hx,zD,zD];rfl
  rintro τ acc H5 ⟨⟨t1,rfl⟩,rfl,rfl⟩ lk uY;rw [zA,zS];have s3:=xl (o:=HO.lst ((ws.map λa=>a.2.m).map V.int)) uY;have kk3:upd H2 lk (HO.lst ((ws.map λa=>a.2.m).map V.int)) lk=some (.lst ((ws.map λa=>a.2.m).map V.int)):=xj;have nbk:lb≠lk:=xk (s2 _ _ kb1) uY;have nrk:lr≠lk:=xk kr2 uY;have Q6:H lk=none:=none_of LK uY;generalize upd H2 lk (HO.lst ((ws.map λa=>a.2.m).map V.int))=H3 at s3 kk3 ⊢;have LJ:=LK.trans s3;refine ⟨by show 3<=_;omega,λst uU=>?_⟩;have s4:=xl (o:=HO.tup [V.ref lb,V.ref lr,V.ref lk]) uU;have YI:upd H3 st (HO.tup [V.ref lb,V.ref lr,V.ref lk]) st=some (.tup [.ref lb,.ref lr,.ref lk]):=xj;generalize upd H3 st (HO.tup [V.ref lb,V.ref lr,V.ref lk])=H4 at s4 YI ⊢;have Kr:=LJ.trans s4;have pn:PN H hd lb lr lk:=⟨flb,Q5,Q6,nbr,nbk,nrk,hp.ne flb,hp.ne Q5,hp.ne Q6⟩;have Rv:PF H hd lb lr lk st (List.replicate af.length 0) (ls.map λa=>a.2.m) (ws.map λa=>a.2.m) H4:=⟨by obtain ⟨a,b,c,e⟩:=hp;exact ⟨a,b,c,Kr _ _ e⟩,λc u _ e=>Kr _ _ e,s4 _ _ (s3 _ _ (s2 _ _ kb1)),s4 _ _ (s3 _ _ kr2),s4 _ _ kk3,YI⟩;have tk:∀ {H9:Hp}{bs rs ks:List Int},PF H hd lb lr lk st bs rs ks H9->aD H9 ll ls/\aD H9 lw ws/\aY H9 b af tr tm ps:=λ{H9 bs rs ks} f=>
   ⟨⟨f.kp _ _ Tt hl.l,λa ha=>f.kp _ _ (hp.tup (hl.each a ha)) (hl.each a ha)⟩,⟨f.kp _ _ Va hW.l,λa ha=>f.kp _ _ (hp.tup (hW.each a ha)) (hW.each a ha)⟩,hb.aZ λc xs e=>f.kp c _ (hp.tup e) e⟩
  refine (zr rfl ⟨hd,zr rfl ⟨by decide,by decide,Rv.pu,λd H5 d0 d1 g5=>⟨rfl,?_⟩⟩⟩);have YA:PF H hd lb lr lk st (List.replicate af.length 0) (ls.map λa=>a.2.m) (ws.map λa=>a.2.m) H5:=⟨g5.2,λc u n e=>g5.1 _ _ n (Rv.kp c u n e),g5.1 _ _ pn.bp Rv.kb,g5.1 _ _ pn.rp Rv.kr,g5.1 _ _ pn.kp Rv.kk,g5.1 _ _ (Rv.pu.tup Rv.ks) Rv.ks⟩;obtain ⟨er,her⟩:∃ er:Bool,decide (V.int d=V.int 1)=er:=⟨_,rfl⟩;rw [her];refine ⟨zo _,λa0 XA=>?_⟩;have s6:=xl (o:=HO.lst []) XA;have ka6:upd H5 a0 (HO.lst []) a0=some (.lst []):=xj;have NL:=YA.same s6;have na0:a0≠hd/\a0≠lb/\a0≠lr/\a0≠lk:=⟨g5.2.ne XA,(xk YA.kb XA).symm,(xk YA.kr XA).symm,(xk YA.kk XA).symm⟩;generalize upd H5 a0 (HO.lst [])=H6 at s6 ka6 NL ⊢;have emp:∀ rs ks:List Int,rs.length=ls.length->ks.length=ws.length->(∀ y∈rs,(0:Int)<=y)->(∀ y∈ks,(0:Int)<=y)->eH (ls.map (·.2)) (ws.map (·.2)) rs ks [] rs ks:=λrs ks h1 h2 h3 h4=>⟨nofun,nofun,List.nodup_nil,by rw [zA];exact h1,by rw [zA];exact h2,h3,h4,λk _=>by show _=_ - (0:Int);omega,λk _=>by show _=_ - (0:Int);omega⟩;have lm0:∀ y∈ls.map (λa=>a.2.m),(0:Int)<=y/\y<=99:=λy hy=>by obtain ⟨a,ha,rfl⟩:=zd.mp hy;have:=lm a ha;omega
  have wm0:∀ y∈ws.map (λa=>a.2.m),(0:Int)<=y/\y<=99:=λy hy=>by obtain ⟨a,ha,rfl⟩:=zd.mp hy;have:=wm a ha;omega
  refine (zr rfl (zr rfl ?_));refine jv (fun σ H'=>∃ la ts Kv sr,σ=[some (.ref sa),some (.ref hd),some (.ref b),some (.ref ll),some (.ref lw),some (.int n),some (.ref st),some (.bl er),some (.ref la),none,none]/\PF H hd lb lr lk st (List.replicate af.length 0) Kv sr H'/\pK H' la ts/\(la≠hd/\la≠lb/\la≠lr/\la≠lk)/\ts.length<=64/\eH (ls.map (·.2)) (ws.map (·.2)) (ls.map λa=>a.2.m) (ws.map λa=>a.2.m) (ts.map (·.2)) Kv sr/\(er=false->ts=[]/\Kv=(ls.map λa=>a.2.m)/\sr=(ws.map λa=>a.2.m))) ?_ (λc k=>?_) (λc=>⟨a0,[],mq rfl ⟨NL,⟨ka6,nofun⟩,na0,by show 0<=_;omega,emp _ _ (zA _) (zA _) (λy hy=>(lm0 y hy).1) (λy hy=>(wm0 y hy).1),λ_=>⟨rfl,rfl,rfl⟩⟩⟩)
  rotate_left
  ·obtain ⟨t1,t2,_⟩:=tk NL;refine (zr rfl (zr rfl (zr rfl (zr rfl ⟨hd,ll,lw,st,lb,lr,lk,ls,ws,mq rfl ⟨NL.pu,t1,t2,NL.ks,⟨NL.kr,NL.kk⟩,⟨pn.rk,pn.rp,pn.kp⟩,⟨⟨Tt,xk hl.l Q5,xk hl.l Q6⟩,Va,xk hW.l Q5,xk hW.l Q6⟩,⟨zA _,zA _,l8,w8⟩,lm0,λy hy=>(wm0 y hy).1,λla ts Kv sr H7 kp7 pu7 kr7 kk7 hla kla kts Ym so=>?_⟩⟩))));exact k _ _ ⟨la,ts,Kv,sr,rfl,NL.str pn kp7 pu7 kr7 kk7,⟨kla,kts⟩,⟨Qu pu7 kla,λz=>absurd hla (by rw [z,NL.kb];simp),λz=>absurd hla (by rw [z,NL.kr];simp),λz=>absurd hla (by rw [z,NL.kk];simp)⟩,Ym,so,λe=>by rw [e] at c;cases c⟩
  rintro σ H7 ⟨la,ts,Kv,sr,rfl,U7,on7,⟨na1,na2,na3,na4⟩,Ym,so,noe⟩;refine ⟨zo _,λiR sQ=>?_⟩;have s8:=xl (o:=HO.lst []) sQ;have kw8:upd H7 iR (HO.lst []) iR=some (.lst []):=xj;have pf8:=U7.same s8;have on8:pK (upd H7 iR (HO.lst [])) la ts:=⟨s8 _ _ on7.l,λx hx=>s8 _ _ (on7.e x hx)⟩;have nw:iR≠hd/\iR≠lb/\iR≠lr/\iR≠lk/\iR≠la:=⟨U7.pu.ne sQ,(xk U7.kb sQ).symm,(xk U7.kr sQ).symm,(xk U7.kk sQ).symm,(xk on7.l sQ).symm⟩;have flw:H iR=none:=by
   cases z:H iR with
   | none=>rfl
   | some u=>rw [U7.kp _ _ nw.1 z] at sQ;cases sQ
  generalize upd H7 iR (HO.lst [])=H8 at s8 kw8 pf8 on8 ⊢;obtain ⟨U9,U8,Wb,nw4,nw5⟩:=nw;obtain ⟨_,_,YZ⟩:=tk pf8;have r0:iC af (ls.map (·.2)) (ws.map (·.2)) [] [] (List.replicate af.length 0) Kv sr (List.replicate af.length 0) Kv sr:=by
   have z:∀ w:Int,aT (List.replicate af.length (0:Int)) w=0:=λw=>by unfold aT;rw [zG,yT];split <;> rfl
   exact ⟨rfl,nofun,λ_=>rfl,yb ..,λw=>by rw [z];exact yE _,λw w0 w1=>by rw [z];exact Yv _ (qP (show w.toNat < af.length by omega)),so.rl,so.kl,so.r0,so.k0,λk _=>by show _=_ - (0:Int);omega,λk _=>by show _=_ - (0:Int);omega⟩
  refine (zr rfl (bP YZ.book rfl ⟨tm,zr rfl ⟨.inr (aW.of YZ.meets),zr rfl ⟨by rw [zA];omega,by rw [zA];omega,?_⟩⟩⟩));rw [zA];refine (let W24:IV:=λi σ H9=>∃ xs OX Qp fj,(∃ v10,σ=[some (.ref sa),some (.ref hd),some (.ref b),some (.ref ll),some (.ref lw),some (.int n),some (.ref st),some (.bl er),some (.ref la),some (.ref iR),v10])/\PF H hd lb lr lk st OX Qp fj H9/\pK H9 la ts/\H9 iR=some (.lst (xs.map λx:RA=>V.ref x.a))/\(∀ x∈xs,RA.At H9 x/\(x.b≠hd/\x.b≠lb/\x.b≠lr/\x.b≠lk/\x.b≠iR)/\x.c≠hd/\x.c≠lb/\x.c≠lr/\x.c≠lk/\x.c≠iR)/\iC af (ls.map (·.2)) (ws.map (·.2)) ((ps.map (·.2)).take i) (xs.map (·.r)) (List.replicate af.length 0) Kv sr OX Qp fj;qD (lo:=0) (n:=ps.length) W24 ⟨[],_,_,_,⟨_,rfl⟩,pf8,on8,kw8,nofun,r0⟩ ?_ ?_)
  ·rintro i σ H9 hi ⟨xs,OX,Qp,fj,⟨v10,rfl⟩,pf,on,kw,ax,ro⟩;have ab1:aB K H9 sa (List.map V.int ns):=aB.but hsa h0 λc u m e=>pf.kp c u m (sm0 _ _ e);have lxs:xs.length=i:=by have:=ro.len;rw [zA,zR,zA] at this;omega
   refine (zr rfl ⟨.inl ⟨rfl,_,aB.of kw⟩,zr rfl (zr rfl (zr rfl (aJ rfl rfl ⟨sa,ns,n + i,?_,ab1,by omega,λpz gO hpz pu iK=>?_⟩)))⟩)
   ·show [V.ref sa,V.int ((n:Int) + (0 + (i:Int)))]=_;rw [show ((n:Int) + (0 + (i:Int)))=((n + i:Nat):Int) by omega]
   have NN:=pf.same iK;obtain ⟨t1,t2,OB⟩:=tk NN;have RU:(ps.map λa=>V.ref a.1)[i]?=some (V.ref ps[i].1):=by simp [hi]
   have mi:=z4 hi;obtain ⟨a1,a2,a3,_,_,a6,a7⟩:=gd.each ps[i].2 (zd.mpr ⟨_,mi,rfl⟩);have nz:∀ {c:Addr}{u:HO},H9 c=some u->c≠pz:=λe=>xk e hpz;refine (zr rfl (bP OB.book rfl (zr rfl (bP OB.book rfl (zr rfl (bP OB.meets (by rw [zq];exact wP RU) (zr rfl (zr rfl (zr rfl ?_)))))))));refine ⟨pz,tr,ps[i].1,ll,lw,st,lb,lr,lk,af,ps[i].2,ls,ws,OX,Qp,fj,rfl,pu,OB.af,OB.rows _ mi,t1,t2,NN.ks,⟨NN.kb,NN.kr,NN.kk⟩,⟨pn.br,pn.bk,pn.rk,nz pf.kb,nz pf.kr,nz pf.kk⟩,⟨⟨nz (tk pf).1.l,xk hl.l flb,xk hl.l Q5,xk hl.l Q6⟩,nz (tk pf).2.1.l,xk hW.l flb,xk hW.l Q5,xk hW.l Q6⟩,⟨a1,a2,a3,a6,a7⟩,⟨ro.bl,mC,by have:=ro.rl;rwa [zA] at this,by have:=ro.kl;rwa [zA] at this,l8,w8⟩,ro.r0,ro.k0,ro.b0,ro.br,?_⟩;rintro x bs3 rs3 RD jQ abz S9 abH abx abB Z7 ⟨xa,xb,xc⟩ rok;have k11:∀ c u,c≠lb->c≠lr->c≠lk->H9 c=some u->jQ c=some u:=λc u m1 m2 m3 e=>abz c u (nz e) m1 m2 m3 (iK _ _ e);have abp:=k11 _ _ U8 Wb nw4 kw;have MF:∀ c u,c≠lb->c≠lr->c≠lk->c≠iR->H9 c=some u->upd jQ iR (HO.lst (xs.map (λx:RA=>V.ref x.a)++[V.ref x.a])) c=some u:=λc u m1 m2 m3 m4 e=>by rw [xt m4];exact k11 c u m1 m2 m3 e
   have tl:∀ {c:Addr}{us vs:List V},H9 c=some (.tup us)->H9 iR=some (.lst vs)->c≠iR:=λe1 e2=>qy e1 e2 (by intro z;cases z);have M5:∀ {c:Addr}{us:List V},H9 c=some (.tup us)->upd jQ iR (HO.lst (xs.map (λx:RA=>V.ref x.a)++[V.ref x.a])) c=some (.tup us):=λ{c us} e=>MF c _ (qy e pf.kb (by intro z;cases z)) (qy e pf.kr (by intro z;cases z)) (qy e pf.kk (by intro z;cases z)) (tl e kw) e;have nx:∀ {c d:Addr}{u:HO},H9 d=some u->gO c=none->c≠d:=λ{c d u} e f z=>by rw [z,iK _ _ e] at f;cases f
   have hdx:∃ u,H9 hd=some u:=by obtain ⟨a,b,c,e⟩:=pf.pu;exact ⟨_,e⟩
   obtain ⟨hu,Ox⟩:=hdx;refine ⟨iR,aJ rfl rfl ⟨abp,by rw [zA];omega,xs++[x],bs3,rs3,RD,⟨_,rfl⟩,⟨?_,λc u m e=>?_,?_,?_,?_,M5 pf.ks⟩,⟨MF _ _ na2 na3 na4 nw5.symm on.l,λy hy=>M5 (on.e y hy)⟩,by rw [xj,zD];rfl,λy hy=>?_,?_⟩⟩
   ·obtain ⟨a,b,c,e⟩:=pf.pu;exact ⟨a,b,c,MF _ _ pn.bp.symm pn.rp.symm pn.kp.symm U9.symm e⟩
   ·exact MF c u (xk e flb) (xk e Q5) (xk e Q6) (xk e flw) (pf.kp c u m e)
   ·rw [xt U8.symm];exact abH
   ·rw [xt Wb.symm];exact abx
   ·rw [xt nw4.symm];exact abB
   ·rcases zV.mp hy with h | h
    ·obtain ⟨e,⟨b1,b2,b3,b4,b5⟩,c1,c2,c3,c4,c5⟩:=ax y h;exact ⟨⟨M5 e.a,MF _ _ b2 b3 b4 b5 e.b,MF _ _ c2 c3 c4 c5 e.c⟩,⟨b1,b2,b3,b4,b5⟩,c1,c2,c3,c4,c5⟩
    ·rw [zK.mp h];refine ⟨⟨?_,?_,?_⟩,⟨nx Ox xb,nx pf.kb xb,nx pf.kr xb,nx pf.kk xb,nx kw xb⟩,nx Ox xc,nx pf.kb xc,nx pf.kr xc,nx pf.kk xc,nx kw xc⟩
     ·rw [xt (nx kw xa)];exact Z7.a
     ·rw [xt (nx kw xb)];exact Z7.b
     ·rw [xt (nx kw xc)];exact Z7.c
   ·rw [wK (wW (show ps[i]?=some ps[i] by simp [hi])),zD];exact ro.step rok
  ·rintro σ H9 ⟨xs,OX,Qp,fj,⟨v10,rfl⟩,pf,on,kw,ax,ro⟩;rw [show (ps.map (·.2)).take ps.length=ps.map (·.2) from List.take_of_length_le (by rw [zA];exact zI _)] at ro;have lxs:xs.length=ps.length:=by have:=ro.len;rwa [zA,zA] at this
   refine (zr rfl (zr rfl ?_));refine jv (fun σ H'=>∃ la ts RD,(∃ v10,σ=[some (.ref sa),some (.ref hd),some (.ref b),some (.ref ll),some (.ref lw),some (.int n),some (.ref st),some (.bl er),some (.ref la),some (.ref iR),v10])/\(aN H' hd/\(∀ c u,c≠hd->H c=some u->H' c=some u)/\H' lk=some (.lst (List.map V.int RD))/\H' st=some (.tup [.ref lb,.ref lr,.ref lk]))/\pK H' la ts/\ts.length<=64/\H' iR=some (.lst (xs.map λx:RA=>V.ref x.a))/\(∀ x∈xs,RA.At H' x)/\dj af (ps.map (·.2)) (ls.map (·.2)) (ws.map (·.2)) (xs.map (·.r)) (ts.map (·.2)) RD/\(ts.map λx:Addr×T3=>[x.2.k,x.2.j]).Nodup) ?_ (λc k=>?_) (λc=>?_)
   ·rintro σ mE ⟨la,ts,RD,⟨v10,rfl⟩,⟨pu,kp,kk,YI⟩,on,Ym,kw,ax,pg,nd3⟩;refine (zr rfl (zr rfl ⟨by show 2<=_;omega,λp hpn=>?_⟩));have kJ:=xl (o:=HO.tup [V.ref iR,V.ref la]) hpn;have WN:upd mE p (HO.tup [V.ref iR,V.ref la]) p=some (.tup [.ref iR,.ref la]):=xj;have V7:aN (upd mE p (HO.tup [V.ref iR,V.ref la])) hd:=pu.new hpn;generalize upd mE p (HO.tup [V.ref iR,V.ref la])=Px at kJ WN V7 ⊢;refine (zr rfl (bP (kJ _ _ YI) rfl ⟨by show 2<=_;omega,λt ht=>?_⟩));have rF:=kJ.trans (xl (o:=HO.tup [V.ref p,V.ref lk]) ht);refine q t p iR la xs ts lk RD _ ⟨λc u m e=>rF _ _ (kp c u m e),V7.new ht⟩ xj ⟨xl ht _ _ WN,rF _ _ kw,rF _ _ on.l,λx hx=>(ax x hx).same rF,λx hx=>rF _ _ (on.e x hx)⟩ ⟨lxs,WC,by omega,by omega,by omega,λx hx=>by have:=ro.ok x.r (zd.mpr ⟨x,hx,rfl⟩);rwa [zA,zA] at this,λx hx=>by have:=pg.ones x.2 (zd.mpr ⟨x,hx,rfl⟩);rwa [zA,zA] at this⟩ nd3 (rF _ _ kk) pg
   ·have c:er=false:=by cases er;rfl;cases c
    obtain ⟨rfl,rfl,rfl⟩:=noe c;obtain ⟨t1,t2,_⟩:=tk pf;refine (zr rfl (zr rfl (zr rfl (zr rfl ⟨hd,ll,lw,st,lb,lr,lk,ls,ws,Qp,fj,rfl,pf.pu,t1,t2,pf.ks,⟨pf.kr,pf.kk⟩,⟨pn.rk,pn.rp,pn.kp⟩,⟨⟨Tt,xk hl.l Q5,xk hl.l Q6⟩,Va,xk hW.l Q5,xk hW.l Q6⟩,⟨by have:=ro.rl;rwa [zA] at this,by have:=ro.kl;rwa [zA] at this,l8,w8⟩,λy hy=>⟨ro.r0 y hy,?_⟩,ro.k0,λYH ts2 rs3 RD gO LZ uB WK TN ahh abA abq aaj Yo=>k _ _ ⟨YH,ts2,RD,⟨_,rfl⟩,⟨uB,(pf.str pn LZ uB WK TN).kp,TN,(pf.str pn LZ uB WK TN).ks⟩,⟨abA,abq⟩,aaj,LZ _ _ U9 Wb nw4 kw,λx hx=>?_,?_,?_⟩⟩))))
    ·obtain ⟨k1,YV,rfl⟩:=QF hy;have WR:k1 < ls.length:=by have:=ro.rl;rw [zA] at this;omega
     have e1:=ro.re k1 (by rw [zA];exact WR);have e2:=(lm0 _ (qP (show k1 < (ls.map λa=>a.2.m).length by rw [zA];exact WR))).2;have e3:0<=((xs.map (·.r)).map λx=>aF x.bg k1).sum:=Lq λz hz=>by
      obtain ⟨x,hx,rfl⟩:=zd.mp hz;have ok:=ro.ok x hx;exact ok.b0 _ (qP (show k1 < x.bg.length by rw [ok.bl,zA];exact WR))
     omega
    ·obtain ⟨e,⟨b1,b2,b3,b4,b5⟩,c1,c2,c3,c4,c5⟩:=ax x hx;exact ⟨LZ _ _ (pf.pu.tup e.a) (qy e.a pf.kr (by intro z;cases z)) (qy e.a pf.kk (by intro z;cases z)) e.a,LZ _ _ b1 b3 b4 e.b,LZ _ _ c1 c3 c4 e.c⟩
    ·rw [<-gB,<- gB] at ro;exact Mh ro Yo
    ·have:=Yo.nd;rwa [zp] at this
   ·refine ⟨la,ts,fj,⟨_,rfl⟩,⟨pf.pu,pf.kp,pf.kk,pf.ks⟩,on,Ym,kw,λx hx=>(ax x hx).1,?_,by have:=so.nd;rwa [zp] at this⟩;rw [<-gB,<- gB] at so;exact u6 so ro
theorem G6:aC ["book", "time"] ["book", "time"] (ak Ey):=L2.aX
theorem G9 (T:Tx K mg a):aQ P w K mg base ck 1 a.CD a.De ["book", "time"] (rB):=by
 refine T.CY.ok G6 (λvs H Q E h=>?_) (λbL A outer s H vs Q E hr h=>?_)
 ·obtain ⟨b,t,_,_,_,_,rfl,_⟩:=h;rfl
 ·have nd:=G6.nd;have hu:=hr.units;obtain ⟨b,t,af,tr,tm,ps,rfl,hb,hn,q⟩:=h;refine ⟨_,(xi (wG (wB (xr (xw rfl) (by rfl) T.aM PySem.boot_len (xf (xg (wc (own:=["meeting"]) (caps:=[1]) rfl (show ay ["meeting"] [1] ["book", "time"] (ak Ey) _ from L2.bR) (fQ rfl (xx (xz rfl) (pv 0) xh (λ_ _=>rfl))) (λ_ _ _ _=>(xm (i:=0) (show List.Nodup (["meeting", "time"]:List Str) from by decide +kernel) rfl rfl)) (λ_ _ _ _=>dF (wD fD (xx (xz rfl) (pv 0) xh (λ_ _=>rfl)) (pv 1) (az _))) (λ_ _ _ _=>(pv 0))) xp rfl)))))),?_⟩;refine (zr rfl (bP hb.book rfl ⟨tm,rfl,⟨_,aW.of hb.meets⟩,?_⟩));refine (let W25:IC:=λi τ acc H5=>(∃ t0,τ=[t0,some (.int t)])/\acc.length=cnt ((ps.map (·.2)).take i) t/\acc.length<=i/\au H H5;i8 (K:=K) (a:=tm) (xs:=ps.map λa=>V.ref a.1) W25)
   ?_ (by rw [zA];omega) ?_ ?_ ?_
  ·exact ⟨⟨_,rfl⟩,rfl,zI _,au.refl _⟩
  ·rintro i τ acc H5 ⟨⟨t0,rfl⟩,_,le,sm⟩;exact ⟨le,aW.of (sm _ _ hb.meets)⟩
  ·rintro i x τ acc H5 C hx ⟨⟨t0,rfl⟩,ec,le,sm⟩ hC;obtain ⟨r,hr,rfl⟩:=wF hx;have jV:=sm _ _ (hb.rows r (zB hr));have hm:(ps.map (·.2))[i]?=some r.2:=by rw [zF,hr];rfl
   refine (zr rfl (bP jV rfl (zr rfl (aJ rfl rfl (zr rfl (oR (λc=>(zr rfl (hC _ _ _ ?_))) (λc=>hC _ _ _ ?_)))))))
   ·exact ⟨⟨_,rfl⟩,by rw [ja hm,if_pos c,zO,ec];rfl,by rw [zO];exact Nat.succ_le_succ le,sm⟩
   ·exact ⟨⟨_,rfl⟩,by rw [ja hm,if_neg c,ec];rfl,by omega,sm⟩
  ·rintro τ acc H5 ⟨⟨t0,rfl⟩,ec,le,sm⟩ l hl;have e:(ps.map λa=>V.ref a.1).length=(ps.map (·.2)).length:=by simp
   rw [e,zS] at ec;refine ⟨l,zr rfl ⟨.inl (aB.of xj),?_⟩⟩;rw [ec];exact q _ (sm.trans (xl hl))
theorem J7:aC ["book", "told", "number", "one", "other", "when", "many"] ["book"] (ak FQ):=L2.aX
theorem Ke (T:Tx K mg a):aQ P w K mg base ck 1 a.Ex a.Gf ["book"] (Sz):=by
 refine T.Fa.ok J7 (λvs H Q E h=>?_) (λbL A outer s H vs Q E hr h=>?_)
 ·obtain ⟨b,_,_,_,_,rfl,_⟩:=h;rfl
 ·have nd:=J7.nd;have hu:=hr.units;obtain ⟨b,af,tr,tm,ps,rfl,hb,gd,q⟩:=h;refine bS ?_;intro Y
  let B0:Bk Y ((nb (aj FQ) 1).drop 1):=⟨_,(xi (wG (gu (ni yi yd ye cV (pv 1) (xf (xg (qA (xf (xg (pv 2) (xg (pv 4) (xg (pv 3) (xg (pv 5) xp rfl) rfl) rfl) rfl))) xp rfl))))))⟩
  let B1:Bk Y (nb (aj FQ) 1):=⟨_,(xi (wA (gu (ni yi yd ye cV (pv 1) (xf (xg (qA (xf (xg (pv 2) (xg (pv 3) (xg (pv 4) (xg (pv 5) xp rfl) rfl) rfl) rfl))) xp rfl)))) B0.bl))⟩
  let B2:Bk Y ((aj FQ).drop 1):=⟨_,(xi (wA (wy PassesOwn.never rfl (NK rfl rfl T.tN (xf (xg (xx (xz rfl) (pv 0) xh (λ_ _=>rfl)) xp rfl))) (wI (n:=2) rfl rfl (xo (xm (i:=2) nd rfl rfl) (xo (wI (n:=4) rfl rfl (xo (xm (i:=3) nd rfl rfl) (xo (xm (i:=4) nd rfl rfl) (xo (xm (i:=5) nd rfl rfl) (xo (xm (i:=6) nd rfl rfl) wH))))) wH))) B1.ps) (wG (wB (pv 1)))))⟩
  refine ⟨_,(xi (wA (xy (i:=1) nd rfl rfl (wX qo)) B2.bl)),?_⟩;have line:=aU;have WC:=gd.len;refine ⟨zo _,λl hl=>?_⟩;have Mg:=hb.same (xl (o:=HO.lst []) hl);refine (zr rfl (bP Mg.book rfl ⟨tm,rfl,⟨_,aW.of Mg.meets⟩,?_⟩));refine (let W26:IV:=λi σ H4=>(∃ v2 v3 v4 v5 v6,σ=[some (.ref b),some (.ref l),v2,v3,v4,v5,v6])/\au H H4/\∃ ws:List (Addr×W4),H4 l=some (.lst (ws.map λa=>V.ref a.1))/\(∀ a∈ws,H4 a.1=some (.tup a.2.vs))/\ws.map (·.2)=gQ (ps.map (·.2)) i/\ws.length=2 * i;Ml (K:=K) (a:=tm) (xs:=ps.map λa=>V.ref a.1) W26)
   ⟨⟨_,_,_,_,_,rfl⟩,xl hl,[],xj,(λ_ z=>nomatch z),rfl,rfl⟩ (λi σ H4 _ h4=>aW.of ((hb.same h4.2.1).meets)) ?_ ?_
  ·rintro i x q' σ H4 hx hq ⟨⟨v2,v3,v4,v5,v6,rfl⟩,sm,ws,h4,hr,ew,lw⟩;obtain ⟨r,MI,rfl⟩:=wF hx;have hi:i < ps.length:=(zH.mp MI).1;have hm:(ps.map (·.2))[i]?=some r.2:=by rw [zF,MI];rfl
   obtain ⟨a1,a2,a3,a4,a5,_⟩:=gd.at (zB MI);have Pf:=sm.trans (xl (o:=HO.tup [.int i,.ref r.1]) hq);have jV:=(hb.same Pf).rows r (zB MI);have h5:=(xl (o:=HO.tup [.int i,.ref r.1]) hq) _ _ h4;refine ⟨q',zr rfl ⟨aW.of xj,rfl,mq rfl (mq rfl (U5 jV ⟨rfl,?_⟩))⟩⟩;refine (zr rfl ⟨.inl ⟨rfl,_,aB.of h5⟩,zr rfl (zr rfl (zr rfl (zr rfl ⟨by show 4<=sizeLine;omega,λt1 YO=>⟨l,aJ rfl rfl ⟨xl YO _ _ h5,by rw [zA];omega,?_⟩⟩⟩)))⟩);have n1:t1≠l:=(xk h5 YO).symm;refine (zr rfl ⟨.inl ⟨rfl,_,aB.of xj⟩,zr rfl (zr rfl (zr rfl (zr rfl ⟨by show 4<=sizeLine;omega,λt2 Po=>⟨l,aJ rfl rfl ⟨xl Po _ _ xj,by rw [zO,zA];show ws.length + 1 < sizeLine;omega,?_⟩⟩⟩)))⟩);have n2:t2≠l:=λz=>by rw [z,xj] at Po;cases Po
   have Wo:t1≠t2:=λz=>by rw [<-z,xt n1,xj] at Po;cases Po
   have e1:(r.2.lo.toNat:Int)=r.2.lo:=xH a1;have e2:(r.2.hi.toNat:Int)=r.2.hi:=xH (by omega);have sm2:au H (upd (upd (upd (upd (upd H4 q' (.tup [.int i,.ref r.1])) t1 (.tup [.int i,.int r.2.lo,.int r.2.hi,.int r.2.t])) l (.lst ((ws.map λa=>V.ref a.1)++[.ref t1]))) t2 (.tup [.int i,.int r.2.hi,.int r.2.lo,.int r.2.t])) l (.lst ((ws.map λa=>V.ref a.1)++[.ref t1]++[.ref t2]))):=
    au.put hl ((au.put hl (Pf.trans (xl YO))).trans (xl Po))
   refine ⟨⟨_,_,_,_,_,rfl⟩,sm2,ws++[(t1,⟨i,⟨r.2.lo.toNat,r.2.hi.toNat,r.2.t⟩⟩),(t2,⟨i,⟨r.2.hi.toNat,r.2.lo.toNat,r.2.t⟩⟩)],?_,λa ha=>?_,?_,?_⟩
   ·rw [xj,zD,xM];rfl
   ·rcases zV.mp ha with h | h
    ·have:=hr a h;have na:a.1≠l:=qy this h4 (by intro z;cases z);have b1:=xl (o:=HO.tup [.int i,.ref r.1]) hq _ _ this;have b2:=xl (o:=HO.tup [.int i,.int r.2.lo,.int r.2.hi,.int r.2.t]) YO _ _ b1;rw [xt na];exact xl Po _ _ (by rw [xt na];exact b2)
    ·simp only [zJ,zN,or_false] at h;rcases h with rfl | rfl
     ·rw [xt n1];refine xl Po _ _ ?_;rw [xt n1,xj];show _=some (HO.tup [.int i,.int (r.2.lo.toNat:Int),.int (r.2.hi.toNat:Int),.int r.2.t]);rw [e1,e2]
     ·rw [xt n2,xj];show _=some (HO.tup [.int i,.int (r.2.hi.toNat:Int),.int (r.2.lo.toNat:Int),.int r.2.t]);rw [e1,e2]
   ·rw [zD,ew,kj hm];rfl
   ·rw [zO,lw];show 2 * i + 2=_;omega
  ·rintro σ H4 ⟨⟨v2,v3,v4,v5,v6,rfl⟩,sm,ws,h4,hr,ew,lw⟩;rw [zA] at ew;exact (zr rfl (q l ws _ hl sm h4 hr ew))
theorem EO:aC ["thing", "size"] ["thing", "size"] (ak Db):=L2.aX
theorem HC (T:Tx K mg a):aQ P w K mg base ck 1 a.Ba a.Cc ["thing", "size"] (Nj):=by
 refine T.BB.ok EO (λvs H Q E h=>?_) (λbL A outer s H vs Q E hr h=>?_)
 ·obtain ⟨_,_,rfl,_⟩:=h;rfl
 ·have nd:=EO.nd;have hu:=hr.units;obtain ⟨v,n,rfl,dt,Wq,q⟩:=h;refine ⟨_,(xi (wG (wB (cg (xr (wY) (by rfl) T.aI zX (xf (xg (pv 0) (xg (qU (v:=V.ty "list") rfl T.iB yZ rfl) xp rfl) rfl))) (cg (wx qT (xr (xw rfl) (by rfl) T.aM PySem.boot_len (xf (xg (pv 0) xp rfl))) (pv 1) (az _)) (dO (xr (qp rfl rfl) (by rfl) T.gX yI (xf (xg (wc (own:=["part"]) (caps:=[]) rfl (show ay ["part"] [] ["thing", "size"] (ak Db) _ from L2.bR) (wZ rfl (pv 0)) (λ_ _ _ _=>(xm (i:=0) (show List.Nodup (["part"]:List Str) from by decide +kernel) rfl rfl)) (λ_ _ _ _=>wT) (λ_ _ _ _=>(xr (wY) (by rfl) T.aI zX (xf (xg (pv 0) (xg (qU (v:=V.ty "bool") rfl T.vD PyProof.Rows.boot_bool rfl) xp rfl) rfl))))) xp rfl))))))))),?_⟩;have line:=aU;rcases dt with ⟨l,xs,rfl,kl,ex⟩ | ⟨l,xs,rfl,kl,ex⟩ | ⟨t,ht,n1,n2⟩
  ·refine (zr rfl ⟨_, "list", "list", rfl,cy kl,.inr (.inr (.inl rfl)),zr rfl (aE rfl (zr rfl ⟨l,zr rfl ⟨.inl (aB.of kl),zr rfl ⟨rfl,zr rfl ?_⟩⟩⟩))⟩);by_cases e:xs.length=n
   ·refine aE (decide_eq_true (by rw [e])) ?_;refine (zr rfl ⟨l,rfl,⟨_,aB.of kl⟩,?_⟩);refine (let W27:IC:=λi τ acc H5=>(∃ t0,τ=[t0])/\acc=((xs.take i).map sI).map V.bl/\au H H5;wV (K:=K) (a:=l) (xs:=xs) W27 ⟨⟨_,rfl⟩,rfl,au.refl _⟩ (by omega) ?_ ?_ ?_)
    ·rintro i τ acc H5 ⟨_,rfl,sm⟩;refine ⟨?_,aB.of (sm _ _ kl)⟩;rw [zA,zA,zR];omega
    ·rintro i v τ acc H5 C hv ⟨⟨t0,rfl⟩,rfl,sm⟩ hC;obtain ⟨ty,Vj⟩:=(ex v (zB hv)).ty;refine (zr rfl ⟨v,ty, "bool", rfl,cX sm Vj,.inr (.inl rfl),?_⟩);rw [show sH ty "bool" = sI v from QM Vj];refine hC _ _ _ ⟨⟨_,rfl⟩,?_,sm⟩;rw [wK hv,zD,zD];rfl
    ·rintro τ acc H5 ⟨⟨t0,rfl⟩,rfl,sm⟩ lc fH;refine ⟨lc,zr rfl ⟨aB.of xj,?_⟩⟩;have z:=q _ (sm.trans (xl (o:=HO.lst (((xs.take xs.length).map sI).map V.bl)) fH));rw [cT kl,decide_eq_true e,zZ] at z;rw [zS,xV] at *;exact z
   ·refine av (decide_eq_false (λz=>e (Int.ofNat.inj (V.int.inj z)))) ?_;have z:=q _ (au.refl _);rwa [cT kl,decide_eq_false e,yo] at z
  ·refine (zr rfl ⟨_, "tuple", "list", rfl,qO kl,.inr (.inr (.inl rfl)),zr rfl (av rfl ?_)⟩);have z:=q _ (au.refl _);rwa [(qZ (qO kl) (by decide) n 0).1] at z
  ·refine (zr rfl ⟨_,t, "list", rfl,ht,.inr (.inr (.inl rfl)),zr rfl (av ?_ ?_)⟩)
   ·rcases dD ht with rfl | rfl | rfl | rfl | rfl | rfl | rfl <;> first | rfl | exact absurd rfl n1
   have z:=q _ (au.refl _);rwa [(qZ ht n1 n 0).1] at z
theorem Fe:aC ["thing", "size"] ["thing", "size"] (ak Dr):=L2.aX
theorem Ia (T:Tx K mg a):aQ P w K mg base ck 3 a.Bp a.Cs ["thing", "size"] (LC):=by
 have Dt:=Fo P w base T;refine T.BR.ok Fe (λvs H Q E h=>?_) (λbL A outer s H vs Q E hr h=>?_)
 ·obtain ⟨_,_,rfl,_⟩:=h;rfl
 ·have nd:=Fe.nd;have hu:=hr.units;obtain ⟨v,n,rfl,dt,Wq,q⟩:=h;refine ⟨_,(xi (wG (wB (cg (xr (wY) (by rfl) T.aI zX (xf (xg (pv 0) (xg (qU (v:=V.ty "list") rfl T.iB yZ rfl) xp rfl) rfl))) (cg (wx qT (xr (xw rfl) (by rfl) T.aM PySem.boot_len (xf (xg (pv 0) xp rfl))) (pv 1) (az _)) (dO (xr (qp rfl rfl) (by rfl) T.gX yI (xf (xg (wc (own:=["mark"]) (caps:=[]) rfl (show ay ["mark"] [] ["thing", "size"] (ak Dr) _ from L2.bR) (wZ rfl (pv 0)) (λ_ _ _ _=>(xm (i:=0) (show List.Nodup (["mark"]:List Str) from by decide +kernel) rfl rfl)) (λ_ _ _ _=>wT) (λ_ _ _ _=>(xq Dt (hr.mono (by decide)) rfl T.Ei T.Ej T.Ek .nil aq (xf (xg (pv 0) (xg xh (xg xh xp rfl) rfl) rfl))))) xp rfl))))))))),?_⟩;have line:=aU;rcases dt with ⟨l,xs,rfl,kl,ex⟩ | ⟨l,xs,rfl,kl,ex⟩ | ⟨t,ht,n1,n2⟩
  ·refine (zr rfl ⟨_, "list", "list", rfl,cy kl,.inr (.inr (.inl rfl)),zr rfl (aE rfl (zr rfl ⟨l,zr rfl ⟨.inl (aB.of kl),zr rfl ⟨rfl,zr rfl ?_⟩⟩⟩))⟩);by_cases e:xs.length=n
   ·refine aE (decide_eq_true (by rw [e])) ?_;refine (zr rfl ⟨l,rfl,⟨_,aB.of kl⟩,?_⟩);refine (let W28:IC:=λi τ acc H5=>(∃ t0,τ=[t0])/\acc=((xs.take i).map (KY 0 3)).map V.bl/\au H H5;wV (K:=K) (a:=l) (xs:=xs) W28 ⟨⟨_,rfl⟩,rfl,au.refl _⟩ (by omega) ?_ ?_ ?_)
    ·rintro i τ acc H5 ⟨_,rfl,sm⟩;refine ⟨?_,aB.of (sm _ _ kl)⟩;rw [zA,zA,zR];omega
    ·rintro i v τ acc H5 C hv ⟨⟨t0,rfl⟩,rfl,sm⟩ hC;obtain ⟨ty,Vj⟩:=(ex v (zB hv)).ty;refine (zr rfl ⟨v,ty,mq rfl ⟨cX sm Vj,?_⟩⟩);refine hC _ _ _ ⟨⟨_,rfl⟩,?_,sm⟩;rw [wK hv,zD,zD];rfl
    ·rintro τ acc H5 ⟨⟨t0,rfl⟩,rfl,sm⟩ lc fH;refine ⟨lc,zr rfl ⟨aB.of xj,?_⟩⟩;have z:=q _ (sm.trans (xl (o:=HO.lst (((xs.take xs.length).map (KY 0 3)).map V.bl)) fH));rw [fW kl,decide_eq_true e,zZ] at z;rw [zS,xV] at *;exact z
   ·refine av (decide_eq_false (λz=>e (Int.ofNat.inj (V.int.inj z)))) ?_;have z:=q _ (au.refl _);rwa [fW kl,decide_eq_false e,yo] at z
  ·refine (zr rfl ⟨_, "tuple", "list", rfl,qO kl,.inr (.inr (.inl rfl)),zr rfl (av rfl ?_)⟩);have z:=q _ (au.refl _);rwa [(qZ (qO kl) (by decide) n 0).2.1] at z
  ·refine (zr rfl ⟨_,t, "list", rfl,ht,.inr (.inr (.inl rfl)),zr rfl (av ?_ ?_)⟩)
   ·rcases dD ht with rfl | rfl | rfl | rfl | rfl | rfl | rfl <;> first | rfl | exact absurd rfl n1
   have z:=q _ (au.refl _);rwa [(qZ ht n1 n 0).2.1] at z
theorem D3:aC ["book", "loads", "wants", "thing", "begun", "come", "marks"] ["book", "loads", "wants", "thing"] (ak qE):=L2.aX
theorem GI (T:Tx K mg a):aQ P w K mg base ck 4 a.AC a.Bj ["book", "loads", "wants", "thing"] (LD):=by
 have FM:=HC P w base T;have JI:=Ia P w base T;refine T.AS.ok D3 (λvs H Q E h=>?_) (λbL A outer s H vs Q E hr h=>?_)
 ·obtain ⟨_,_,_,_,_,_,_,_,_,_,rfl,_⟩:=h;rfl
 ·have nd:=D3.nd;have hu:=hr.units;obtain ⟨b,ll,lw,v,af,tr,tm,ps,ls,ws,rfl,hb,hl,hw,fY,iG,S7,af7,dt,q⟩:=h;refine bS ?_;intro Y
  let B0:Bk Y ((aj qE).drop 4):=⟨_,(xi (wG (wB (xr (qp rfl rfl) (by rfl) T.gX yI (xf (xg (wc (own:=["row"]) (caps:=[0]) rfl (show ay ["row"] [0] ["book", "loads", "wants", "thing", "begun", "come", "marks"] (ak qE) _ from L2.bR) (wZ rfl (pv 6)) (λ_ _ _ _=>(xm (i:=0) (show List.Nodup (["row", "book"]:List Str) from by decide +kernel) rfl rfl)) (λ_ _ _ _=>wT) (λ_ _ _ _=>(xq JI (hr.mono (by decide)) rfl T.I0 T.Jh T.Jp .nil aq (xf (xg (pv 0) (xg (xr (xw rfl) (by rfl) T.aM PySem.boot_len (xf (xg (xx (xz rfl) (pv 1) xh (λ_ _=>rfl)) xp rfl))) xp rfl) rfl))))) xp rfl))))))⟩
  let B1:Bk Y ((aj qE).drop 3):=⟨_,(xi (wA (wN (@PW.pt _ _ _ (qa (wU (wL (xr (wY) (by rfl) T.aI zX (xf (xg (pv 6) (xg (qU (v:=V.ty "list") rfl T.iB yZ rfl) xp rfl) rfl))))) (qK (wD kW (xr (xw rfl) (by rfl) T.aM PySem.boot_len (xf (xg (pv 6) xp rfl))) (wC wO (xr (xw rfl) (by rfl) T.aM PySem.boot_len (xf (xg (xx (xz rfl) (pv 0) xh (λ_ _=>rfl)) xp rfl))) xh) (az _))))) (xi (wG (wB qM))) wE) B0.bl))⟩
  let B2:Bk Y ((aj qE).drop 2):=⟨_,(xi (wA (wN (@PW.pt _ _ _ (qa (wU (wL (xq FM (hr.mono (by decide)) rfl T.Fu T.Fz T.FE .nil aq (xf (xg (pv 4) (xg (xr (xw rfl) (by rfl) T.aM PySem.boot_len (xf (xg (pv 1) xp rfl))) xp rfl) rfl))))) (qK (wU (wL (xq FM (hr.mono (by decide)) rfl T.Fu T.Fz T.FE .nil aq (xf (xg (pv 5) (xg (xr (xw rfl) (by rfl) T.aM PySem.boot_len (xf (xg (pv 2) xp rfl))) xp rfl) rfl)))))))) (xi (wG (wB qM))) wE) B1.bl))⟩
  refine ⟨_,(xi (wA (wN (@PW.pt _ _ _ (qa (wU (wL (xr (wY) (by rfl) T.aI zX (xf (xg (pv 3) (xg (qU (v:=V.ty "tuple") rfl T.gH yj rfl) xp rfl) rfl))))) (qK (wD kW (xr (xw rfl) (by rfl) T.aM PySem.boot_len (xf (xg (pv 3) xp rfl))) xh (az _))))) (xi (wG (wB qM))) wE) (wA (wg (pv 3) (wI (n:=3) rfl rfl (xo (xm (i:=4) nd rfl rfl) (xo (xm (i:=5) nd rfl rfl) (xo (xm (i:=6) nd rfl rfl) wH))))) B2.bl))),?_⟩;have line:=aU;have nq:∀ {H'},eB H ls.length ws.length (ps.length + 1) af.length v=false->au H H'->Q (.bl false) H':=λ{H'} e s=>by have z:=q H' s;rwa [e] at z
  rcases dt with ⟨a,xs,rfl,kl,ex⟩ | ⟨a,xs,rfl,kl,ex⟩ | ⟨t,ht,n1,n2⟩
  ·refine (zr rfl ⟨_, "list", "tuple", rfl,cy kl,.inr (.inr (.inr rfl)),zr rfl (aE rfl ?_)⟩);exact nq (NX (cy kl) (by decide) _ _ _ _) (au.refl _)
  rotate_left
  ·refine (zr rfl ⟨_,t, "tuple", rfl,ht,.inr (.inr (.inr rfl)),zr rfl (aE ?_ ?_)⟩)
   ·rcases dD ht with rfl | rfl | rfl | rfl | rfl | rfl | rfl <;> first | rfl | exact absurd rfl n2
   exact nq (NX ht n2 _ _ _ _) (au.refl _)
  refine (zr rfl ⟨_, "tuple", "tuple", rfl,qO kl,.inr (.inr (.inr rfl)),zr rfl (av rfl (zr rfl ⟨a,zr rfl ⟨.inr (aW.of kl),rfl,zr rfl ?_⟩⟩))⟩);by_cases e3:xs.length=3
  rotate_left
  ·refine aE ?_ (nq (OG kl e3 _ _ _ _) (au.refl _));simp;omega
  obtain ⟨x,y,z,rfl⟩:=PL e3;have ef:=OH kl ls.length ws.length (ps.length + 1) af.length;refine av rfl (zr rfl (MZ kl ?_));have dx:=ex x (by simp);have dy:=ex y (by simp);have dz:=ex z (by simp);refine (zr rfl (zr rfl ⟨ll,zr rfl ⟨.inl (aB.of hl.l),x,ls.length,by rw [zA];rfl,dx.le,by omega,λH1 s1=>?_⟩⟩));by_cases c1:bE H ls.length x=true
  rotate_left
  ·rw [Bool.not_eq_true] at c1;refine (zr rfl (aE (by rw [c1];rfl) (nq (by rw [ef,c1];rfl) s1)))
  refine (zr rfl (av (by rw [c1];rfl) ?_));refine (zr rfl (zr rfl ⟨lw,zr rfl ⟨.inl (aB.of (s1 _ _ hw.l)),y,ws.length,by rw [zA];rfl,(dy.le).same s1,by omega,λH2 s2=>?_⟩⟩));rw [pV s1 dy.le];have kK:=s1.trans s2;by_cases c2:bE H ws.length y=true
  rotate_left
  ·rw [Bool.not_eq_true] at c2;refine (zr rfl (aE (by rw [c2];rfl) (nq (by rw [ef,c1,c2];rfl) kK)))
  refine (zr rfl (av (by rw [c2];rfl) ?_));rw [c1,c2,zZ,zZ] at ef;have kz:=dz;rcases kz with ⟨l,zs,rfl,Pn,ez⟩ | ⟨l,zs,rfl,Pn,ez⟩ | ⟨t,ht,n1,n2⟩
  rotate_left
  ·refine (zr rfl ⟨_, "tuple", "list", rfl,qO (kK _ _ Pn),.inr (.inr (.inl rfl)),zr rfl (aE rfl ?_)⟩);exact nq (by rw [ef,(qZ (qO Pn) (by decide) _ _).2.2]) kK
  ·refine (zr rfl ⟨_,t, "list", rfl,cX kK ht,.inr (.inr (.inl rfl)),zr rfl (aE ?_ ?_)⟩)
   ·rcases dD ht with rfl | rfl | rfl | rfl | rfl | rfl | rfl <;> first | rfl | exact absurd rfl n1
   exact nq (by rw [ef,(qZ ht n1 _ _).2.2]) kK
  have ML:=hb.same kK;refine (zr rfl ⟨_, "list", "list", rfl,cy (kK _ _ Pn),.inr (.inr (.inl rfl)),zr rfl (av rfl (zr rfl ⟨l,zr rfl ⟨.inl (aB.of (kK _ _ Pn)),zr rfl (bP ML.book rfl ⟨tm,zr rfl ⟨.inr (aW.of ML.meets),aJ rfl rfl ⟨rfl,zr rfl ?_⟩⟩⟩)⟩⟩))⟩);rw [Ky Pn] at ef;by_cases c3:zs.length=ps.length + 1
  rotate_left
  ·refine aE ?_ (nq (by rw [ef,decide_eq_false c3];rfl) kK);rw [zA];simp;omega
  refine av (by rw [zA];simp;omega) ?_;rw [decide_eq_true c3,zZ] at ef;refine (zr rfl ⟨l,rfl,⟨_,aB.of (kK _ _ Pn)⟩,?_⟩);refine (let W29:IC:=λi τ acc H5=>(∃ t0,τ=[t0,some (.ref b)])/\acc=((zs.take i).map (bX H af.length)).map V.bl/\au H H5;wV (K:=K) (a:=l) (xs:=zs) W29 ⟨⟨_,rfl⟩,rfl,kK⟩ (by omega) ?_ ?_ ?_)
  ·rintro i τ acc H5 ⟨_,rfl,sm⟩;refine ⟨?_,aB.of (sm _ _ Pn)⟩;rw [zA,zA,zR];omega
  ·rintro i v τ acc H5 C hv ⟨⟨t0,rfl⟩,rfl,sm⟩ hC;have dv:=ez v (zB hv);have RT:=hb.same sm;refine (zr rfl (zr rfl (bP RT.book rfl ⟨tr,zr rfl ⟨.inr (aW.of RT.af),v,af.length,by rw [zA];rfl,dv.same sm,by omega,λH6 s6=>?_⟩⟩)));rw [uL sm dv];refine hC _ _ _ ⟨⟨_,rfl⟩,?_,sm.trans s6⟩;rw [wK hv,zD,zD];rfl
  ·rintro τ acc H5 ⟨⟨t0,rfl⟩,rfl,sm⟩ lc fH;refine ⟨lc,zr rfl ⟨aB.of xj,?_⟩⟩;have z:=q _ (sm.trans (xl (o:=HO.lst (((zs.take zs.length).map (bX H af.length)).map V.bl)) fH));rw [ef] at z;rw [zS,xV] at *;exact z
theorem G5:aC ["mark"] ["mark"] (ak FR):=L2.aX
theorem E3 (T:Tx K mg a):aQ P w K mg base ck 1 a.CC a.Dd ["mark"] (SE):=by
 refine T.CW.ok G5 (λvs H Q E h=>?_) (λbL A outer s H vs Q E hr h=>?_)
 ·obtain ⟨_,rfl,_⟩:=h;rfl
 ·have nd:=G5.nd;have hu:=hr.units;obtain ⟨m,rfl,q⟩:=h;refine ⟨_,(xi (wG (wB (wx nj (pv 0) xh (az _))))),?_⟩;refine (zr rfl (aJ rfl rfl ?_));exact q
theorem IS:aC ["mark"] ["mark"] (ak HX):=L2.aX
theorem G8 (T:Tx K mg a):aQ P w K mg base ck 1 a.Ds a.EA ["mark"] (aal):=by
 refine T.DZ.ok IS (λvs H Q E h=>?_) (λbL A outer s H vs Q E hr h=>?_)
 ·obtain ⟨_,rfl,_⟩:=h;rfl
 ·have nd:=IS.nd;have hu:=hr.units;obtain ⟨m,rfl,q⟩:=h;refine ⟨_,(xi (wG (wB (wx (eY rfl) (pv 0) (qA (xf (xg xh (xg xh xp rfl) rfl))) rfl)))),?_⟩;have line:=aU;refine (zr rfl ⟨by show 2<=_;omega,λu hu=>⟨u,zr rfl ⟨.inr (aW.of xj),rfl,rfl,?_⟩⟩⟩);rw [if_neg (by decide),jw];exact q _ (xl hu)
theorem Do:aC ["book", "loads", "begun", "marks", "walker", "since", "many", "truth"] ["book", "loads", "begun", "marks"] (ak qR):=L2.aX
theorem Fq (T:Tx K mg a):aQ P w K mg base ck 2 a.Am a.AO ["book", "loads", "begun", "marks"] (Qc):=by
 have Gm:=G9 P w base T;have DI:=E3 P w base T;refine T.Az.ok Do (λvs H Q E h=>?_) (λbL A outer s H vs Q E hr h=>?_)
 ·obtain ⟨_,_,_,_,_,_,_,_,_,_,_,_,_,_,_,rfl,_⟩:=h;rfl
 ·have nd:=Do.nd;have hu:=hr.units;obtain ⟨b,ll,lw,af,tr,tm,ps,ls,ws,lg,lt,lm,gs,ts,ms,rfl,co,ok,q⟩:=h;refine bS ?_;intro Y
  let B0:Bk Y (nb (aj qR) 0):=⟨_,(xi (wG (wN (@PW.pt _ _ _ (qW (wL (pv 7)) (qV (wU (wL (xr (qp rfl rfl) (by rfl) T.gX yI (xf (xg (wc (own:=["row"]) (caps:=[4]) rfl (show ay ["row"] [4] ["book", "loads", "begun", "marks", "walker", "since", "many", "truth"] (ak qR) _ from L2.bR) (wZ rfl (kQ (rE rfl) (pv 3) (iN (xq Gm (hr.mono (by decide)) rfl T.HP T.HR T.HU .nil aq (xf (xg (pv 0) (xg (pv 5) xp rfl) rfl)))) KA)) (λ_ _ _ _=>(xm (i:=0) (show List.Nodup (["row", "walker"]:List Str) from by decide +kernel) rfl rfl)) (λ_ _ _ _=>wT) (λ_ _ _ _=>(xq DI (hr.mono (by decide)) rfl T.FY T.F4 T.F9 .nil aq (xf (xg (xx (xu rfl) (pv 0) (pv 1) (λ_ _=>rfl)) xp rfl))))) xp rfl)))))))) (xi (wG (wB qM))) wE)))⟩
  refine ⟨_,(xi (wA (wy PassesOwn.never rfl (qi rfl rfl T.cN (xf (xg (pv 1) (xg (pv 2) xp rfl) rfl))) (wI (n:=2) rfl rfl (xo (wI (n:=3) rfl rfl (xo (xm (i:=4) nd rfl rfl) (xo (xm (i:=5) nd rfl rfl) (xo (xm (i:=6) nd rfl rfl) wH)))) (xo (xm (i:=7) nd rfl rfl) wH))) B0.ps) (wG (wB qM)))),?_⟩;have line:=aU;have o1:=ok.mC;have o2:=ok.pN;have o3:=ok.l;have o4:=ok.w;have o5:=ok.lg;have o6:=ok.lt;have o7:=ok.lm;refine (zr rfl (zr rfl ⟨ll,lg,rfl,⟨_,aB.of co.l.l⟩,⟨_,aB.of co.g⟩,?_⟩));refine cI (K:=K) (a:=ll) (b:=lg) (xs:=ls.map λa=>V.ref a.1) (ys:=gs.map V.bl) (by rw [zA,zA,o5]) (λi σ H6=>(∃ v4 v5 v6 v7,σ=[some (.ref b),some (.ref ll),some (.ref lg),some (.ref lm),v4,v5,v6,v7])/\fR (ps.map (·.2)) ((ls.map (·.2)).drop i) (gs.drop i) (ms.map (·.2))=fR (ps.map (·.2)) (ls.map (·.2)) gs (ms.map (·.2))/\au H H6) ⟨⟨_,_,_,_,rfl⟩,rfl,au.refl _⟩ ?_ ?_ ?_
  ·rintro i σ H6 _ ⟨_,_,sm⟩;exact ⟨aB.of (sm _ _ co.l.l),aB.of (sm _ _ co.g)⟩
  ·rintro i x1 y1 z σ H6 Mb oS hz ⟨⟨v4,v5,v6,v7,rfl⟩,bW,sm⟩;obtain ⟨r,hr,rfl⟩:=wF Mb;obtain ⟨g,hg,rfl⟩:=wF oS;have s6:=sm.trans (xl (o:=HO.tup [V.ref r.1,V.bl g]) hz);rw [qq (wW hr),qq hg,uH] at bW;have mr:=zB hr;obtain ⟨w0,w1⟩:=ok.lw r mr;refine ⟨z,zr rfl ⟨aW.of xj,rfl,mq rfl (MZ (s6 _ _ (co.l.each r mr)) (aJ rfl rfl ?_))⟩⟩;generalize upd H6 z (HO.tup [V.ref r.1,V.bl g])=H7 at s6 ⊢;have c7:=co.same s6;cases g with
   | false=>
    refine (zr rfl (zr rfl (av rfl (av rfl ⟨⟨_,_,_,_,rfl⟩,?_,s6⟩))));rw [show kT (ps.map (·.2)) (ms.map (·.2)) r.2 false=true from rfl,zZ] at bW;exact bW
   | true=>
    refine (zr rfl (zr rfl (aE rfl ?_)));refine (zr rfl (zr rfl (zr rfl (Y6 b r.2.t af tr tm ps ⟨rfl,c7.b,by omega,λH8 s8=>(zr rfl ?_)⟩))));have c8:=c7.same s8;refine ⟨lm,zr rfl ⟨aB.of c8.m,λp hp=>?_⟩⟩;rw [OS];have s9:=xl (o:=HO.lst ((ms.drop (cnt (ps.map (·.2)) r.2.t)).map λa=>V.ref a.1)) hp;have kp:upd H8 p (HO.lst ((ms.drop (cnt (ps.map (·.2)) r.2.t)).map λa=>V.ref a.1)) p=some (.lst ((ms.drop (cnt (ps.map (·.2)) r.2.t)).map λa=>V.ref a.1)):=xj;generalize upd H8 p (HO.lst ((ms.drop (cnt (ps.map (·.2)) r.2.t)).map λa=>V.ref a.1))=H9 at s9 kp ⊢;have c9:=c8.same s9;have Yr:=(s6.trans s8).trans s9;generalize hc:cnt (ps.map (·.2)) r.2.t=c at kp bW;refine ⟨p,rfl,⟨_,aB.of kp⟩,?_⟩;refine (let W30:IC:=λj τ acc H5=>(∃ t0,τ=[t0,some (.int r.2.w)])/\acc=((((ms.drop c).map (·.2)).take j).map λx=>aO (dh x r.2.w)).map V.bl/\au H9 H5;wV (K:=K) (a:=p) (xs:=(ms.drop c).map λa=>V.ref a.1) W30 ⟨⟨_,rfl⟩,rfl,au.refl _⟩ (by rw [zA,yh];omega) ?_ ?_ ?_)
    ·rintro j τ acc H5 ⟨_,rfl,s5⟩;refine ⟨?_,aB.of (s5 _ _ kp)⟩;rw [zA,zA,zR];omega
    ·rintro j v τ acc H5 C hv ⟨⟨t0,rfl⟩,rfl,s5⟩ hC;obtain ⟨x,hx,rfl⟩:=wF hv;have mx:=xE (zB hx);refine (zr rfl (zr rfl (bV (s5 _ _ (c9.rows x mx)) (cJ w0 (by rw [ok.rows x mx];exact w1)) (zr rfl (hC _ _ _ ⟨⟨_,rfl⟩,?_,s5⟩)))));rw [wK (wW hx),zD,zD];rfl
    ·rintro τ acc H5 ⟨⟨t0,rfl⟩,rfl,s5⟩ lc fH;have e:((ms.drop c).map λa=>V.ref a.1).length=((ms.drop c).map (·.2)).length:=by rw [zA,zA]
     refine ⟨lc,zr rfl ⟨aB.of xj,zr rfl ?_⟩⟩;rw [e,zS,xV];have s0:=Yr.trans (s5.trans (xl (o:=HO.lst (((((ms.drop c).map (·.2)).map λx=>aO (dh x r.2.w))).map V.bl)) fH));have ho:kT (ps.map (·.2)) (ms.map (·.2)) r.2 true=((ms.drop c).map (·.2)).all (id ∘ λx=>aO (dh x r.2.w)):=by unfold kT;rw [hc,<- List.map_drop];simp
     rw [ho] at bW;cases e2:((ms.drop c).map (·.2)).all (id ∘ λx=>aO (dh x r.2.w)) with
     | true=>exact av rfl ⟨⟨_,_,_,_,rfl⟩,by rw [e2,zZ] at bW;exact bW,s0⟩
     | false=>
      refine aE rfl ?_;have z:=q _ s0;rw [e2] at bW;rw [<-bW] at z;exact z
  ·rintro σ H6 ⟨⟨v4,v5,v6,v7,rfl⟩,bW,sm⟩;have e:(ls.map λa=>V.ref a.1).length=(ls.map (·.2)).length:=by rw [zA,zA]
   rw [e,xJ] at bW;have z:=q _ sm;rwa [<-bW] at z
theorem EM:aC ["book", "marks", "stretch", "mark", "following"] ["book", "marks"] (ak jA):=L2.aX
theorem HA (T:Tx K mg a):aQ P w K mg base ck 2 a.A8 a.Ca ["book", "marks"] (SH):=by
 have DI:=E3 P w base T;have FL:=G8 P w base T;refine T.Bz.ok EM (λvs H Q E h=>?_) (λbL A outer s H vs Q E hr h=>?_)
 ·obtain ⟨_,_,_,_,_,_,_,_,_,_,_,_,_,_,_,rfl,_⟩:=h;rfl
 ·have nd:=EM.nd;have hu:=hr.units;obtain ⟨b,ll,lw,af,tr,tm,ps,ls,ws,lg,lt,lm,gs,ts,ms,rfl,co,ok,q⟩:=h;refine bS ?_;intro Y
  let B0:Bk Y (nb (nb (aj jA) 0) 0):=⟨_,(xi (wG (wN (@PW.pt _ _ _ (qW (wL (xq DI (hr.mono (by decide)) rfl T.FY T.F4 T.F9 .nil aq (xf (xg (pv 3) xp rfl)))) (qV (wU (wL (xq FL (hr.mono (by decide)) rfl T.Ik T.Iq T.Iy .nil aq (xf (xg (pv 4) xp rfl)))))))) (xi (wG (wB qM))) wE)))⟩
  let B1:Bk Y (nb (aj jA) 0):=⟨_,(xi (wG (wy PassesOwn.never rfl (qi rfl rfl T.cN (xf (xg (xx (xu rfl) (pv 1) (pv 2) (λ_ _=>rfl)) (xg (xx (xu rfl) (pv 1) (wC wO (pv 2) xh) (λ_ _=>rfl)) xp rfl) rfl))) (wI (n:=2) rfl rfl (xo (xm (i:=3) nd rfl rfl) (xo (xm (i:=4) nd rfl rfl) wH))) B0.ps)))⟩
  refine ⟨_,(xi (wA (wy PassesOwn.never rfl (wq rfl T.bf (xf (xg (xr (xw rfl) (by rfl) T.aM PySem.boot_len (xf (xg (xx (xz rfl) (pv 0) xh (λ_ _=>rfl)) xp rfl))) xp rfl))) (xm (i:=2) nd rfl rfl) B1.ps) (wG (wB qM)))),?_⟩;have line:=aU;have o1:=ok.mC;have o2:=ok.pN;have o3:=ok.l;have o4:=ok.w;have o5:=ok.lg;have o6:=ok.lt;have o7:=ok.lm;refine (zr rfl (bP co.b.book rfl ⟨tm,zr rfl ⟨.inr (aW.of co.b.meets),?_⟩⟩));rw [zA];refine (zr rfl ⟨by omega,by omega,?_⟩);refine (let W31:IV:=λi σ H6=>(∃ v2 v3 v4,σ=[some (.ref b),some (.ref lm),v2,v3,v4])/\((List.range ps.length).drop i).all (K2 (ms.map (·.2)))=jL ps.length (ms.map (·.2))/\au H H6;qD (lo:=0) (n:=ps.length) W31 ⟨⟨_,_,_,rfl⟩,rfl,au.refl _⟩ ?_ ?_)
  ·rintro i σ H6 hi ⟨⟨v2,v3,v4,rfl⟩,bW,sm⟩;rw [O4 (l:=List.range ps.length) (x:=i) (by rw [List.getElem?_range hi])] at bW;obtain ⟨r,hr⟩:∃ r,ms[i]?=some r:=⟨_,zC (by omega)⟩;obtain ⟨r2,QU⟩:∃ r,ms[i + 1]?=some r:=⟨_,zC (by omega)⟩;rw [lT (wW hr) (wW QU)] at bW;have c6:=co.same sm;have k1:=c6.rows r (zB hr);have k2:=c6.rows r2 (zB QU);have l1:=ok.rows r (zB hr);have l2:=ok.rows r2 (zB QU);refine (zr rfl (zr rfl (bV c6.m (by rw [zq];exact wP (v:=V.ref r.1) (by rw [zF,hr];rfl)) (zr rfl (zr rfl (aJ rfl rfl (bV c6.m (by rw [zq];exact wP (j:=i + 1) (v:=V.ref r2.1) (by rw [zF,QU];rfl)) ⟨r.1,r2.1,rfl,⟨_,aB.of k1⟩,⟨_,aB.of k2⟩,?_⟩)))))));refine cI (K:=K) (a:=r.1) (b:=r2.1) (xs:=r.2.map V.int) (ys:=r2.2.map V.int) (by rw [zA,zA,l1,l2]) (λj σ H8=>(∃ v3 v4,σ=[some (.ref b),some (.ref lm),some (.int (0 + (i:Int))),v3,v4])/\fZ (r.2.drop j) (r2.2.drop j)=fZ r.2 r2.2/\au H H8) ⟨⟨_,_,rfl⟩,rfl,sm⟩ ?_ ?_ ?_
   ·rintro j σ H8 _ ⟨_,_,s8⟩;exact ⟨aB.of (s8 _ _ (co.rows r (zB hr))),aB.of (s8 _ _ (co.rows r2 (zB QU)))⟩
   ·rintro j x2 y2 u σ H8 Ua jK hu ⟨⟨v3,v4,rfl⟩,eq2,s8⟩;obtain ⟨x,hx,rfl⟩:=wF Ua;obtain ⟨y,hy,rfl⟩:=wF jK;have s9:=s8.trans (xl (o:=HO.tup [V.int x,V.int y]) hu);rw [qq hx,qq hy,u9] at eq2;refine (pU xj ?_);generalize upd H8 u (HO.tup [V.int x,V.int y])=H9 at s9 ⊢;have nx:(!(aO x && !bA y))=true->fZ (r.2.drop (j + 1)) (r2.2.drop (j + 1))=fZ r.2 r2.2:=λe=>by rw [e,zZ] at eq2;exact eq2
    refine (zr rfl ⟨x,rfl,zr rfl ?_⟩);cases e1:aO x with
    | false=>exact av rfl (av rfl ⟨⟨_,_,rfl⟩,nx (by rw [e1];rfl),s9⟩)
    | true=>
     refine aE rfl (zr rfl ⟨y,rfl,λH5 s5=>(zr rfl ?_)⟩);cases e2:bA y with
     | true=>exact av rfl ⟨⟨_,_,rfl⟩,nx (by rw [e1,e2];rfl),s9.trans s5⟩
     | false=>
      refine aE rfl ?_;have z:=q _ (s9.trans s5);rw [e1,e2] at eq2;rw [<-bW,<- eq2] at z;exact z
   ·rintro σ H8 ⟨⟨v3,v4,rfl⟩,eq2,s8⟩;have e:(r.2.map V.int).length=r.2.length:=zA _;rw [e,xJ] at eq2;have e1:fZ r.2 r2.2=true:=eq2.symm;rw [e1,zZ] at bW;exact ⟨⟨_,_,_,rfl⟩,bW,s8⟩
  ·rintro σ H6 ⟨⟨v2,v3,v4,rfl⟩,bW,sm⟩;have e:(List.range ps.length).drop ps.length=[]:=List.drop_eq_nil_of_le (by rw [xO];exact zI _);rw [e] at bW;have z:=q _ sm;rwa [<-bW] at z
theorem DA:aC ["book", "wants", "come", "marks", "walker", "last", "many", "truth", "behind"] ["book", "wants", "come", "marks"] (ak qG):=L2.aX
theorem FT (T:Tx K mg a):aQ P w K mg base ck 2 a.As a.AV ["book", "wants", "come", "marks"] (Nt):=by
 have Gm:=G9 P w base T;have FL:=G8 P w base T;refine T.AG.ok DA (λvs H Q E h=>?_) (λbL A outer s H vs Q E hr h=>?_)
 ·obtain ⟨_,_,_,_,_,_,_,_,_,_,_,_,_,_,_,rfl,_⟩:=h;rfl
 ·have nd:=DA.nd;have hu:=hr.units;obtain ⟨b,ll,lw,af,tr,tm,ps,ls,ws,lg,lt,lm,gs,ts,ms,rfl,co,ok,q⟩:=h;refine bS ?_;intro Y
  let B0:Bk Y ((nb (aj qG) 0).drop 1):=⟨_,(xi (wG (wN (@PW.pt _ _ _ (qW (wU (wL (pv 7))) (qV (wL (xr (tG rfl rfl) (by rfl) T.R1 PyProof.Rows.boot_any (xf (xg (wc (own:=["row"]) (caps:=[4]) rfl (show ay ["row"] [4] ["book", "wants", "come", "marks", "walker", "last", "many", "truth", "behind"] (ak qG) _ from L2.bR) (wZ rfl (pv 8)) (λ_ _ _ _=>(xm (i:=0) (show List.Nodup (["row", "walker"]:List Str) from by decide +kernel) rfl rfl)) (λ_ _ _ _=>wT) (λ_ _ _ _=>(xq FL (hr.mono (by decide)) rfl T.Ik T.Iq T.Iy .nil aq (xf (xg (xx (xu rfl) (pv 0) (pv 1) (λ_ _=>rfl)) xp rfl))))) xp rfl))))))) (xi (wG (wB qM))) wE)))⟩
  let B1:Bk Y (nb (aj qG) 0):=⟨_,(xi (wA (xy (i:=8) nd rfl rfl (kQ (rE rfl) (pv 3) (iN xh) (iN (wC wO (xq Gm (hr.mono (by decide)) rfl T.HP T.HR T.HU .nil aq (xf (xg (pv 0) (xg (pv 5) xp rfl) rfl))) xh)))) B0.bl))⟩
  refine ⟨_,(xi (wA (wy PassesOwn.never rfl (qi rfl rfl T.cN (xf (xg (pv 1) (xg (pv 2) xp rfl) rfl))) (wI (n:=2) rfl rfl (xo (wI (n:=3) rfl rfl (xo (xm (i:=4) nd rfl rfl) (xo (xm (i:=5) nd rfl rfl) (xo (xm (i:=6) nd rfl rfl) wH)))) (xo (xm (i:=7) nd rfl rfl) wH))) B1.ps) (wG (wB qM)))),?_⟩;have line:=aU;have o1:=ok.mC;have o2:=ok.pN;have o3:=ok.l;have o4:=ok.w;have o5:=ok.lg;have o6:=ok.lt;have o7:=ok.lm;refine (zr rfl (zr rfl ⟨lw,lt,rfl,⟨_,aB.of co.w.l⟩,⟨_,aB.of co.t⟩,?_⟩));refine cI (K:=K) (a:=lw) (b:=lt) (xs:=ws.map λa=>V.ref a.1) (ys:=ts.map V.bl) (by rw [zA,zA,o6]) (λi σ H6=>(∃ v4 v5 v6 v7 v8,σ=[some (.ref b),some (.ref lw),some (.ref lt),some (.ref lm),v4,v5,v6,v7,v8])/\f7 (ps.map (·.2)) ((ws.map (·.2)).drop i) (ts.drop i) (ms.map (·.2))=f7 (ps.map (·.2)) (ws.map (·.2)) ts (ms.map (·.2))/\au H H6) ⟨⟨_,_,_,_,_,rfl⟩,rfl,au.refl _⟩ ?_ ?_ ?_
  ·rintro i σ H6 _ ⟨_,_,sm⟩;exact ⟨aB.of (sm _ _ co.w.l),aB.of (sm _ _ co.t)⟩
  ·rintro i x1 y1 z σ H6 Mb oS hz ⟨⟨v4,v5,v6,v7,v8,rfl⟩,bW,sm⟩;obtain ⟨r,hr,rfl⟩:=wF Mb;obtain ⟨g,hg,rfl⟩:=wF oS;have s6:=sm.trans (xl (o:=HO.tup [V.ref r.1,V.bl g]) hz);rw [qq (wW hr),qq hg,vp] at bW;have mr:=zB hr;obtain ⟨w0,w1⟩:=ok.ww r mr;refine ⟨z,zr rfl ⟨aW.of xj,rfl,mq rfl (MZ (s6 _ _ (co.w.each r mr)) (aJ rfl rfl ?_))⟩⟩;generalize upd H6 z (HO.tup [V.ref r.1,V.bl g])=H7 at s6 ⊢;have c7:=co.same s6;refine (zr rfl (zr rfl (zr rfl (zr rfl (Y6 b r.2.t af tr tm ps ⟨rfl,c7.b,by omega,λH8 s8=>(aJ rfl rfl (zr rfl ?_))⟩)))));have c8:=c7.same s8;have cl:cnt (ps.map (·.2)) r.2.t < ms.length:=by
    have:=yN (λx:M4=>decide (x.t<=r.2.t)) (ps.map (·.2));rw [zA] at this;unfold cnt;omega
   refine ⟨lm,zr rfl ⟨aB.of c8.m,λp hp=>?_⟩⟩;rw [Mq cl];generalize hc:cnt (ps.map (·.2)) r.2.t=c at cl ⊢;have s9:=xl (o:=HO.lst (((ms.drop 1).take c).map λa=>V.ref a.1)) hp;have kp:upd H8 p (HO.lst (((ms.drop 1).take c).map λa=>V.ref a.1)) p=some (.lst (((ms.drop 1).take c).map λa=>V.ref a.1)):=xj;generalize upd H8 p (HO.lst (((ms.drop 1).take c).map λa=>V.ref a.1))=H9 at s9 kp ⊢;have c9:=c8.same s9;have Yr:=(s6.trans s8).trans s9;cases g with
   | true=>
    rw [show lX (ps.map (·.2)) (ms.map (·.2)) r.2 true=true from rfl,zZ] at bW;exact (zr rfl (zr rfl (av rfl (av rfl ⟨⟨_,_,_,_,_,rfl⟩,bW,Yr⟩))))
   | false=>
    refine (zr rfl (zr rfl (aE rfl (zr rfl ⟨p,rfl,⟨_,aB.of kp⟩,?_⟩))));refine wV (K:=K) (a:=p) (xs:=((ms.drop 1).take c).map λa=>V.ref a.1) (λj τ acc H5=>(∃ t0,τ=[t0,some (.int r.2.w)])/\acc=(((((ms.drop 1).take c).map (·.2)).take j).map λx=>bA (dh x r.2.w)).map V.bl/\au H9 H5) ⟨⟨_,rfl⟩,rfl,au.refl _⟩ (by rw [zA,zR,yh];omega) ?_ ?_ ?_
    ·rintro j τ acc H5 ⟨_,rfl,s5⟩;refine ⟨?_,aB.of (s5 _ _ kp)⟩;rw [zA,zA,zR];omega
    ·rintro j v τ acc H5 C hv ⟨⟨t0,rfl⟩,rfl,s5⟩ hC;obtain ⟨x,hx,rfl⟩:=wF hv;have mx:=xE (List.mem_of_mem_take (zB hx));refine (zr rfl (zr rfl (bV (s5 _ _ (c9.rows x mx)) (cJ w0 (by rw [ok.rows x mx];exact w1)) (zr rfl (λH6 s6=>hC _ _ _ ⟨⟨_,rfl⟩,?_,s5.trans s6⟩)))));rw [wK (wW hx),zD,zD];rfl
    ·rintro τ acc H5 ⟨⟨t0,rfl⟩,rfl,s5⟩ lc fH;have e:(((ms.drop 1).take c).map λa=>V.ref a.1).length=(((ms.drop 1).take c).map (·.2)).length:=by rw [zA,zA]
     refine ⟨lc,zr rfl ⟨aB.of xj,zr rfl ?_⟩⟩;rw [e,zS,List.any_map];have s0:=Yr.trans (s5.trans (xl (o:=HO.lst ((((((ms.drop 1).take c).map (·.2)).map λx=>bA (dh x r.2.w))).map V.bl)) fH));have ho:lX (ps.map (·.2)) (ms.map (·.2)) r.2 false=!(((ms.drop 1).take c).map (·.2)).any (id ∘ λx=>bA (dh x r.2.w)):=by
      unfold lX;rw [hc,List.drop_take,Nat.add_sub_cancel,<- List.map_drop,<- List.map_take];simp
     rw [ho] at bW;cases e2:(((ms.drop 1).take c).map (·.2)).any (id ∘ λx=>bA (dh x r.2.w)) with
     | false=>exact av rfl ⟨⟨_,_,_,_,_,rfl⟩,by rw [e2,yy,zZ] at bW;exact bW,s0⟩
     | true=>
      refine aE rfl ?_;have z:=q _ s0;rw [e2] at bW;rw [<-bW] at z;exact z
  ·rintro σ H6 ⟨⟨v4,v5,v6,v7,v8,rfl⟩,bW,sm⟩;have e:(ws.map λa=>V.ref a.1).length=(ws.map (·.2)).length:=by rw [zA,zA]
   rw [e,xJ] at bW;have z:=q _ sm;rwa [<-bW] at z
theorem D4:aC ["loads", "wants", "begun", "come", "load", "left", "want", "came"] ["loads", "wants", "begun", "come"] (ak qh):=L2.aX
theorem GJ (T:Tx K mg a):aQ P w K mg base ck 2 a.AD a.Bl ["loads", "wants", "begun", "come"] (Np):=by
 have Dy:=Ef P w base T;refine T.AT.ok D4 (λvs H Q E h=>?_) (λbL A outer s H vs Q E hr h=>?_)
 ·obtain ⟨_,_,_,_,_,_,_,_,_,_,_,_,_,_,_,rfl,_⟩:=h;rfl
 ·have nd:=D4.nd;have hu:=hr.units;obtain ⟨b,ll,lw,af,tr,tm,ps,ls,ws,lg,lt,lm,gs,ts,ms,rfl,co,ok,q⟩:=h;refine bS ?_;intro Y
  let B0:Bk Y (nb (nb (aj qh) 0) 0):=⟨_,(xi (wG (wN (@PW.pt _ _ _ (qW (wL (pv 5)) (qW (wU (wL (pv 7))) (qV (wL (xq Dy (hr.mono (by decide)) rfl T.EV T.EW T.EX .nil aq (xf (xg (pv 4) (xg (pv 6) xp rfl) rfl)))))))) (xi (wG (wB qM))) wE)))⟩
  let B1:Bk Y (nb (aj qh) 0):=⟨_,(xi (wG (wy PassesOwn.never rfl (qi rfl rfl T.cN (xf (xg (pv 1) (xg (pv 3) xp rfl) rfl))) (wI (n:=2) rfl rfl (xo (xm (i:=6) nd rfl rfl) (xo (xm (i:=7) nd rfl rfl) wH))) B0.ps)))⟩
  refine ⟨_,(xi (wA (wy PassesOwn.never rfl (qi rfl rfl T.cN (xf (xg (pv 0) (xg (pv 2) xp rfl) rfl))) (wI (n:=2) rfl rfl (xo (xm (i:=4) nd rfl rfl) (xo (xm (i:=5) nd rfl rfl) wH))) B1.ps) (wG (wB qM)))),?_⟩;have line:=aU;have o1:=ok.mC;have o2:=ok.pN;have o3:=ok.l;have o4:=ok.w;have o5:=ok.lg;have o6:=ok.lt;have o7:=ok.lm;refine (zr rfl (zr rfl ⟨ll,lg,rfl,⟨_,aB.of co.l.l⟩,⟨_,aB.of co.g⟩,?_⟩));refine cI (K:=K) (a:=ll) (b:=lg) (xs:=ls.map λa=>V.ref a.1) (ys:=gs.map V.bl) (by rw [zA,zA,o5]) (λi σ H6=>(∃ v4 v5 v6 v7,σ=[some (.ref ll),some (.ref lw),some (.ref lg),some (.ref lt),v4,v5,v6,v7])/\fS ((ls.map (·.2)).drop i) (ws.map (·.2)) (gs.drop i) ts=fS (ls.map (·.2)) (ws.map (·.2)) gs ts/\au H H6) ⟨⟨_,_,_,_,rfl⟩,rfl,au.refl _⟩ ?_ ?_ ?_
  ·rintro i σ H6 _ ⟨_,_,sm⟩;exact ⟨aB.of (sm _ _ co.l.l),aB.of (sm _ _ co.g)⟩
  ·rintro i x1 y1 z σ H6 Mb oS hz ⟨⟨v4,v5,v6,v7,rfl⟩,bW,sm⟩;obtain ⟨r,hr,rfl⟩:=wF Mb;obtain ⟨g,hg,rfl⟩:=wF oS;have s6:=sm.trans (xl (o:=HO.tup [V.ref r.1,V.bl g]) hz);rw [qq (wW hr),qq hg,uI] at bW;refine (pU xj ?_);generalize upd H6 z (HO.tup [V.ref r.1,V.bl g])=H7 at s6 ⊢;have c7:=co.same s6;refine (zr rfl (zr rfl ⟨lw,lt,rfl,⟨_,aB.of c7.w.l⟩,⟨_,aB.of c7.t⟩,?_⟩));refine cI (K:=K) (a:=lw) (b:=lt) (xs:=ws.map λa=>V.ref a.1) (ys:=ts.map V.bl) (by rw [zA,zA,o6]) (λj σ H8=>(∃ v6 v7,σ=[some (.ref ll),some (.ref lw),some (.ref lg),some (.ref lt),some (.ref r.1),some (.bl g),v6,v7])/\fT r.2 g ((ws.map (·.2)).drop j) (ts.drop j)=fT r.2 g (ws.map (·.2)) ts/\au H H8) ⟨⟨_,_,rfl⟩,rfl,s6⟩ ?_ ?_ ?_
   ·rintro j σ H8 _ ⟨_,_,s8⟩;exact ⟨aB.of (s8 _ _ co.w.l),aB.of (s8 _ _ co.t)⟩
   ·rintro j x2 y2 u σ H8 Ua jK hu ⟨⟨v6,v7,rfl⟩,eq2,s8⟩;obtain ⟨w,hw,rfl⟩:=wF Ua;obtain ⟨t,ht,rfl⟩:=wF jK;have s9:=s8.trans (xl (o:=HO.tup [V.ref w.1,V.bl t]) hu);rw [qq (wW hw),qq ht,uJ] at eq2;refine (pU xj ?_);generalize upd H8 u (HO.tup [V.ref w.1,V.bl t])=H9 at s9 ⊢;have c9:=co.same s9;have nx:(!(g && (!t && b7 r.2 w.2)))=true->fT r.2 g ((ws.map (·.2)).drop (j + 1)) (ts.drop (j + 1))=fT r.2 g (ws.map (·.2)) ts:=λe=>by rw [e,zZ] at eq2;exact eq2
    cases g with
    | false=>exact (zr rfl (zr rfl (av rfl (av rfl ⟨⟨_,_,rfl⟩,nx rfl,s9⟩))))
    | true=>
     refine (zr rfl (zr rfl (aE rfl ?_)));cases t with
     | true=>exact (zr rfl (zr rfl (av rfl (av rfl ⟨⟨_,_,rfl⟩,nx rfl,s9⟩))))
     | false=>
      refine (zr rfl (zr rfl (aE rfl (zr rfl (zr rfl ⟨r.1,w.1,r.2,w.2,rfl,c9.l.each r (zB hr),c9.w.each w (zB hw),zr rfl ?_⟩)))));cases e:b7 r.2 w.2 with
      | false=>exact av rfl ⟨⟨_,_,rfl⟩,nx (by rw [e];rfl),s9⟩
      | true=>
       refine aE rfl ?_;have z:=q _ s9;rw [e] at eq2;rw [<-bW,<- eq2] at z;exact z
   ·rintro σ H8 ⟨⟨v6,v7,rfl⟩,eq2,s8⟩;have e:(ws.map λa=>V.ref a.1).length=(ws.map (·.2)).length:=by rw [zA,zA]
    rw [e,xJ] at eq2;have e1:fT r.2 g (ws.map (·.2)) ts=true:=eq2.symm;rw [e1,zZ] at bW;exact ⟨⟨_,_,_,_,rfl⟩,bW,s8⟩
  ·rintro σ H6 ⟨⟨v4,v5,v6,v7,rfl⟩,bW,sm⟩;have e:(ls.map λa=>V.ref a.1).length=(ls.map (·.2)).length:=by rw [zA,zA]
   rw [e,xJ] at bW;have z:=q _ sm;rwa [<-bW] at z
theorem EN:aC ["book", "marks"] ["book", "marks"] (ak Da):=L2.aX
theorem HB (T:Tx K mg a):aQ P w K mg base ck 1 a.A9 a.Cb ["book", "marks"] (Qh):=by
 refine T.BA.ok EN (λvs H Q E h=>?_) (λbL A outer s H vs Q E hr h=>?_)
 ·obtain ⟨_,_,_,_,_,_,_,rfl,_⟩:=h;rfl
 ·have nd:=EN.nd;have hu:=hr.units;obtain ⟨b,lm,af,tr,tm,ps,ms,rfl,hb,hm,hr,m70,mC,q⟩:=h;refine ⟨_,(xi (wG (wB (xr (cj rfl) (by rfl) T.l6 yc (xf (xg (NP (own:=["row", "mark", "room"]) (caps:=[0]) rfl (show ay ["row", "mark", "room"] [0] ["book", "marks"] (ak Da) _ from L2.bR) (wZ rfl (pv 1)) (λ_ _ _ _=>(xm (i:=0) (show List.Nodup (["row", "mark", "room", "book"]:List Str) from by decide +kernel) rfl rfl)) (λ_ _ _ _=>wT) (λ_ _ _ _=>(pv 2)) (λ_ _ _ _=>(KG rfl rfl T.cN (xf (xg (pv 0) (xg (xx (xz rfl) (pv 3) xh (λ_ _=>rfl)) xp rfl) rfl)))) (λ_ _ _ _=>(wI (n:=2) rfl rfl (xo (xm (i:=1) (show List.Nodup (["row", "mark", "room", "book"]:List Str) from by decide +kernel) rfl rfl) (xo (xm (i:=2) (show List.Nodup (["row", "mark", "room", "book"]:List Str) from by decide +kernel) rfl rfl) wH)))) (λ_ _ _ _=>dF (wD qT (pv 1) xh (az _)))) xp rfl)))))),?_⟩;have line:=aU;refine (zr rfl ⟨lm,rfl,⟨_,aB.of hm⟩,?_⟩);have bl:∀ i,(dJ af ((ms.map (·.2)).take i)).length<=840:=λi=>zj (nQ _) (by
   have:((ms.map (·.2)).take i).length<=70:=by rw [zR,zA];omega
   exact zj (Nat.mul_le_mul this mC) (by decide))
  refine vn (K:=K) (a:=lm) (xs:=ms.map λa=>V.ref a.1) (λi τ acc H5=>(∃ t0 t1 t2,τ=[t0,t1,t2,some (.ref b)])/\acc=(dJ af ((ms.map (·.2)).take i)).map V.int/\au H H5) ⟨⟨_,_,_,rfl⟩,rfl,au.refl _⟩ ?_ ?_ ?_
  ·rintro i τ acc H5 ⟨_,rfl,sm⟩;exact ⟨by rw [zA];have:=bl i;omega,aB.of (sm _ _ hm)⟩
  ·rintro i v τ acc H5 D hv ⟨⟨t0,t1,t2,rfl⟩,rfl,sm⟩ hD;obtain ⟨r,Xj,rfl⟩:=wF hv;obtain ⟨kr,lr⟩:=hr r (zB Xj);have kr5:=sm _ _ kr;have RT:=hb.same sm;refine (zr rfl (zr rfl (bP RT.book rfl ⟨r.1,tr,rfl,⟨_,aB.of kr5⟩,⟨_,aW.of RT.af⟩,?_⟩)));have bi:=bl i;refine QO (K:=K) (a:=r.1) (b:=tr) (xs:=r.2.map V.int) (ys:=af.map V.int) (by rw [zA,zA,lr]) (λj τ acc H6=>(∃ t1 t2,τ=[some (.ref r.1),t1,t2,some (.ref b)])/\acc=(dJ af ((ms.map (·.2)).take i)++(((r.2.zip af).take j).filter λp=>decide (p.1=1)).map (·.2)).map V.int/\au H H6) ⟨⟨_,_,rfl⟩,by rw [List.take_zero,List.filter_nil,yn,yK],sm⟩ ?_ ?_ ?_
   ·rintro j τ acc H6 ⟨_,rfl,s6⟩;refine ⟨?_,aB.of (s6 _ _ kr),aW.of (s6 _ _ hb.af)⟩;rw [zA,zO,zA];have z:=yN (λp:Int×Int=>decide (p.1=1)) ((r.2.zip af).take j);have z2:((r.2.zip af).take j).length<=12:=zj (List.length_take_le' _ _) (by rw [yg];omega);omega
   ·rintro j x y u τ acc H6 D2 hx hy hu ⟨⟨t1,t2,rfl⟩,rfl,s6⟩ hD2;obtain ⟨a,ha,rfl⟩:=wF hx;obtain ⟨c,hc,rfl⟩:=wF hy;have s7:=s6.trans (xl (o:=HO.tup [V.int a,V.int c]) hu);have st:=wK (qe ha hc);refine (pU xj (zr rfl ⟨rfl,zr rfl ?_⟩));by_cases e:a=1
    ·refine aE (decide_eq_true (by rw [e])) (zr rfl (hD2 _ _ _ ⟨⟨_,_,rfl⟩,?_,s7⟩));rw [st,yF];simp [e]
    ·refine av (decide_eq_false (λz=>e (V.int.inj z))) (hD2 _ _ _ ⟨⟨_,_,rfl⟩,?_,s7⟩);rw [st,yF];simp [e]
   ·rintro τ acc H6 ⟨⟨t1,t2,rfl⟩,rfl,s6⟩;refine hD _ _ _ ⟨⟨_,_,_,rfl⟩,?_,s6⟩;have e:(List.map V.int r.2).length=(r.2.zip af).length:=by rw [zA,yg];omega
    rw [e,zS,iA (wW Xj)];rfl
  ·rintro τ acc H5 ⟨⟨t0,t1,t2,rfl⟩,rfl,sm⟩ lc fH;have e:(ms.map λa=>V.ref a.1).length=(ms.map (·.2)).length:=by rw [zA,zA]
   refine ⟨lc,zr rfl ⟨aB.of xj,?_⟩⟩;rw [e,zS];exact q _ (sm.trans (xl fH))
theorem Dl:aC ["book", "marks", "worth", "number", "giver", "other", "when"] ["book", "marks"] (ak qS):=L2.aX
theorem Fm (T:Tx K mg a):aQ P w K mg base ck 2 a.Ak a.AM ["book", "marks"] (Qd):=by
 have Km:=Ke P w base T;have DI:=E3 P w base T;have FL:=G8 P w base T;refine T.Ax.ok Dl (λvs H Q E h=>?_) (λbL A outer s H vs Q E hr h=>?_)
 ·obtain ⟨_,_,_,_,_,_,_,_,_,_,_,_,_,_,_,rfl,_⟩:=h;rfl
 ·have nd:=Dl.nd;have hu:=hr.units;obtain ⟨b,ll,lw,af,tr,tm,ps,ls,ws,lg,lt,lm,gs,ts,ms,rfl,co,ok,gd,q⟩:=h;refine bS ?_;intro Y
  let B0:Bk Y (nb (aj qS) 1):=⟨_,(xi (wG (wN (@PW.pt _ _ _ (qW (wL (xq DI (hr.mono (by decide)) rfl T.FY T.F4 T.F9 .nil aq (xf (xg (xx (xu rfl) (xx (xu rfl) (pv 1) (pv 3) (λ_ _=>rfl)) (pv 4) (λ_ _=>rfl)) xp rfl)))) (qV (wU (wL (xq FL (hr.mono (by decide)) rfl T.Ik T.Iq T.Iy .nil aq (xf (xg (xx (xu rfl) (xx (xu rfl) (pv 1) (wC wO (pv 3) xh) (λ_ _=>rfl)) (pv 5) (λ_ _=>rfl)) xp rfl)))))))) (xi (wG (NI (i:=2) nd rfl rfl (xx (xz rfl) (xx (xz rfl) (xx (xz rfl) (pv 0) xh (λ_ _=>rfl)) (pv 3) (λ_ _=>rfl)) xh (λ_ _=>rfl)) lH))) wE)))⟩
  let B1:Bk Y ((aj qS).drop 1):=⟨_,(xi (wA (wy PassesOwn.never rfl (wZ rfl (xq Km (hr.mono (by decide)) rfl T.Ki T.Kj T.Kk .nil aq (xf (xg (pv 0) xp rfl)))) (wI (n:=4) rfl rfl (xo (xm (i:=3) nd rfl rfl) (xo (xm (i:=4) nd rfl rfl) (xo (xm (i:=5) nd rfl rfl) (xo (xm (i:=6) nd rfl rfl) wH))))) B0.ps) (wG (wB (pv 2)))))⟩
  refine ⟨_,(xi (wA (xy (i:=2) nd rfl rfl xh) B1.bl)),?_⟩;have line:=aU;have o1:=ok.mC;have o2:=ok.pN;have o3:=ok.l;have o4:=ok.w;have o5:=ok.lg;have o6:=ok.lt;have o7:=ok.lm;refine (zr rfl (ex5 b af tr tm ps ⟨rfl,co.b,gd,λl W H1 hl s1 kl kw ew=>⟨l,rfl,⟨_,aB.of kl⟩,?_⟩⟩));have c1:=co.same s1;refine (let W32:IV:=λi σ H6=>(∃ y v3 v4 v5 v6,σ=[some (.ref b),some (.ref lm),some (.int y),v3,v4,v5,v6]/\y=(((W.map (·.2)).take i).map (iy (ps.map (·.2)) (ms.map (·.2)))).sum)/\au H1 H6;sW (K:=K) (a:=l) (xs:=W.map λa=>V.ref a.1) W32 ⟨⟨_,_,_,mq rfl rfl⟩,au.refl _⟩ ?_ ?_ ?_)
  ·rintro i σ H6 _ ⟨_,s6⟩;exact aB.of (s6 _ _ kl)
  ·rintro i v σ H6 hv ⟨⟨y,v3,v4,v5,v6,rfl,ey⟩,s6⟩;obtain ⟨z,hz,rfl⟩:=wF hv;have mz:=zB hz;have c6:=c1.same s6;have lk:=ko (x:=z.2) (i:=ps.length) (by rw [<-ew];exact List.mem_map_of_mem mz);refine (U5 (s6 _ _ (kw z mz)) ?_);obtain ⟨m,hm,_,e2⟩:=lk;rw [zF] at hm;obtain ⟨x,hx,rfl⟩:=Option.map_eq_some_iff.mp hm;have hm:=wW hx;obtain ⟨a1,a2,a3,_⟩:=gd.at (zB hx);have hn:=(zH.mp hx).1;obtain ⟨r,hr⟩:∃ r,ms[z.2.n]?=some r:=⟨_,zC (by omega)⟩;obtain ⟨r2,QU⟩:∃ r,ms[z.2.n + 1]?=some r:=⟨_,zC (by omega)⟩;have mr:=zB hr;have mr2:=zB QU;have g0:z.2.w.g < af.length/\z.2.w.o < af.length:=UD a1 a2 a3 e2;have cv:iy (ps.map (·.2)) (ms.map (·.2)) z.2=if aO (dh r.2 z.2.w.g) && !bA (dh r2.2 z.2.w.o) then x.2.m else 0:=by
    unfold iy;rw [getD_at (wW hr),getD_at (wW QU),getD_at (l:=(ps.map (·.2)).map (·.m)) (x:=x.2.m) (by rw [zF,hm];rfl)]
   have st:=wK (wW hz);refine (zr rfl (zr rfl (bV c6.m (wP (v:=V.ref r.1) (by rw [zF,hr];rfl)) (zr rfl (bV (c6.rows r mr) (cJ (yz _) (by rw [ok.rows r mr];omega)) (zr rfl (zr rfl ?_)))))));cases e3:aO (dh r.2 z.2.w.g) with
   | false=>
    refine av rfl (av rfl ⟨⟨_,_,_,mq rfl ?_⟩,s6⟩);rw [st,zD,zY,yn,zu,cv,e3,<- ey];simp
   | true=>
    refine aE rfl (zr rfl (zr rfl (aJ rfl rfl (bV c6.m (wP (j:=z.2.n + 1) (v:=V.ref r2.1) (by rw [zF,QU];rfl)) (zr rfl (bV (c6.rows r2 mr2) (cJ (yz _) (by rw [ok.rows r2 mr2];omega)) (zr rfl (λH7 s7=>(zr rfl ?_)))))))));have c7:=c6.same s7;cases e4:bA (dh r2.2 z.2.w.o) with
    | true=>
     refine av rfl ⟨⟨_,_,_,mq rfl ?_⟩,s6.trans s7⟩;rw [st,zD,zY,yn,zu,cv,e3,e4,<- ey];simp
    | false=>
     refine aE rfl ?_;refine (zr rfl (zr rfl (bP c7.b.book rfl (zr rfl (bP c7.b.meets (wP (v:=V.ref x.1) (by rw [zF,hx];rfl)) (bP (c7.b.rows x (zB hx)) rfl (aJ rfl rfl ⟨⟨_,_,_,mq rfl ?_⟩,s6.trans s7⟩)))))));rw [st,zD,zY,yn,zu,cv,e3,e4,<- ey];simp
  ·rintro σ H6 ⟨⟨y,v3,v4,v5,v6,rfl,rfl⟩,s6⟩;have e:(W.map λa=>V.ref a.1).length=(W.map (·.2)).length:=by rw [zA,zA]
   rw [e,zS,ew];have z:=q _ (s1.trans s6);unfold KP at z;rw [zA] at z;exact (zr rfl z)
theorem Fd:aC ["book", "loads", "wants", "thing", "begun", "come", "marks", "worth"] ["book", "loads", "wants", "thing"] (ak qC):=L2.aX
theorem HZ (T:Tx K mg a):aQ P w K mg base ck 5 a.Bo a.Cr ["book", "loads", "wants", "thing"] (SI):=by
 have Hv:=GI P w base T;have Gn:=Fq P w base T;have IO:=HA P w base T;have G2:=FT P w base T;have Hw:=GJ P w base T;have IQ:=HB P w base T;have Gk:=Fm P w base T;refine T.BQ.ok Fd (λvs H Q E h=>?_) (λbL A outer s H vs Q E hr h=>?_)
 ·obtain ⟨_,_,_,_,_,_,_,_,_,_,rfl,_⟩:=h;rfl
 ·have nd:=Fd.nd;have hu:=hr.units;obtain ⟨b,ll,lw,v,af,tr,tm,ps,ls,ws,rfl,hb,gd,mC,hl,hw,fY,iG,lr,wr,dt,q0,q1⟩:=h;refine bS ?_;intro Y
  let B0:Bk Y ((aj qC).drop 6):=⟨_,(xi (wG (wB (wC wO (wC wO (pv 7) (xq IQ (hr.mono (by decide)) rfl T.Im T.Iv T.IA .nil aq (xf (xg (pv 0) (xg (pv 6) xp rfl) rfl)))) (xq Gk (hr.mono (by decide)) rfl T.FX T.F3 T.F8 .nil aq (xf (xg (pv 0) (xg (pv 6) xp rfl) rfl)))))))⟩
  let B1:Bk Y ((aj qC).drop 5):=⟨_,(xi (wA (NI (i:=7) nd rfl rfl (xr (cj rfl) (by rfl) T.l6 yc (xf (xg (wc (own:=["want", "truth"]) (caps:=[]) rfl (show ay ["want", "truth"] [] ["book", "loads", "wants", "thing", "begun", "come", "marks", "worth"] (ak qC) _ from L2.bR) (qi rfl rfl T.cN (xf (xg (pv 2) (xg (pv 5) xp rfl) rfl))) (λ_ _ _ _=>(wI (n:=2) rfl rfl (xo (xm (i:=0) (show List.Nodup (["want", "truth"]:List Str) from by decide +kernel) rfl rfl) (xo (xm (i:=1) (show List.Nodup (["want", "truth"]:List Str) from by decide +kernel) rfl rfl) wH)))) (λ_ _ _ _=>dF (wL (pv 1))) (λ_ _ _ _=>(xx (xz rfl) (pv 0) xh (λ_ _=>rfl)))) xp rfl))) lH) B0.bl))⟩
  let B2:Bk Y ((aj qC).drop 4):=⟨_,(xi (wA (xy (i:=7) nd rfl rfl (xr (cj rfl) (by rfl) T.l6 yc (xf (xg (wc (own:=["load", "truth"]) (caps:=[]) rfl (show ay ["load", "truth"] [] ["book", "loads", "wants", "thing", "begun", "come", "marks", "worth"] (ak qC) _ from L2.bR) (qi rfl rfl T.cN (xf (xg (pv 1) (xg (pv 4) xp rfl) rfl))) (λ_ _ _ _=>(wI (n:=2) rfl rfl (xo (xm (i:=0) (show List.Nodup (["load", "truth"]:List Str) from by decide +kernel) rfl rfl) (xo (xm (i:=1) (show List.Nodup (["load", "truth"]:List Str) from by decide +kernel) rfl rfl) wH)))) (λ_ _ _ _=>dF (wU (wL (pv 1)))) (λ_ _ _ _=>(xx (xz rfl) (pv 0) xh (λ_ _=>rfl)))) xp rfl)))) B1.bl))⟩
  let B3:Bk Y ((aj qC).drop 3):=⟨_,(xi (wA (wN (@PW.pt _ _ _ (qa (wU (wL (xq G2 (hr.mono (by decide)) rfl T.GL T.GP T.GT .nil aq (xf (xg (pv 0) (xg (pv 2) (xg (pv 5) (xg (pv 6) xp rfl) rfl) rfl) rfl))))) (qK (wU (wL (xq Hw (hr.mono (by decide)) rfl T.Hg T.Hk T.Ho .nil aq (xf (xg (pv 1) (xg (pv 2) (xg (pv 4) (xg (pv 5) xp rfl) rfl) rfl) rfl)))))))) (xi (wG (wB iu))) wE) B2.bl))⟩
  let B4:Bk Y ((aj qC).drop 2):=⟨_,(xi (wA (wN (@PW.pt _ _ _ (qa (wU (wL (xq Gn (hr.mono (by decide)) rfl T.FZ T.F5 T.Ga .nil aq (xf (xg (pv 0) (xg (pv 1) (xg (pv 4) (xg (pv 6) xp rfl) rfl) rfl) rfl))))) (qK (wU (wL (xq IO (hr.mono (by decide)) rfl T.Il T.Ir T.Iz .nil aq (xf (xg (pv 0) (xg (pv 6) xp rfl) rfl)))))))) (xi (wG (wB iu))) wE) B3.bl))⟩
  refine ⟨_,(xi (wA (wN (wU (wL (xq Hv (hr.mono (by decide)) rfl T.He T.Hj T.Hn .nil aq (xf (xg (pv 0) (xg (pv 1) (xg (pv 2) (xg (pv 3) xp rfl) rfl) rfl) rfl))))) (xi (wG (wB iu))) wE) (wA (wg (pv 3) (wI (n:=3) rfl rfl (xo (xm (i:=4) nd rfl rfl) (xo (xm (i:=5) nd rfl rfl) (xo (xm (i:=6) nd rfl rfl) wH))))) B4.bl))),?_⟩;have line:=aU;have pN:=gd.jB;rw [zA] at pN;refine (zr rfl (zr rfl (zr rfl (zr rfl (Uz b ll lw v af tr tm ps ls ws ⟨rfl,hb,hl,hw,fY,iG,by omega,by omega,dt,λH1 s1=>(zr rfl ?_)⟩)))));cases ef:eB H ls.length ws.length (ps.length + 1) af.length v with
  | false=>exact aE rfl (q0 ef _ s1)
  | true=>
  obtain ⟨c,lg,lt,lm,gs,ts,ms,rfl,kc,kg,eg,kt,et,km,em,er⟩:=ve ef;have co:gi H b ll lw af tr tm ps ls ws lg lt lm gs ts ms:=⟨hb,hl,hw,kg,kt,km,λa ha=>(er a ha).1⟩;have ok:gZ af.length ps.length ls ws gs ts ms:=⟨mC,pN,fY,iG,eg,et,em,λa ha=>(er a ha).2.1,lr,wr⟩;have q:=q1 c lg lt lm gs ts ms rfl kc co ok λa ha=>(er a ha).2.2;refine av rfl (zr rfl (MZ (s1 _ _ kc) ?_));have nq:fq (ps.map (·.2)) (ls.map (·.2)) (ws.map (·.2)) gs ts (ms.map (·.2))=false->∀ H',au H H'->Q .cK H':=λe H' s=>by have z:=q H' s;rwa [e] at z
  unfold fq at nq;rw [zA] at nq;refine (zr rfl (zr rfl (zr rfl (zr rfl (ON b ll lw af tr tm ps ls ws lg lt lm gs ts ms ⟨rfl,co.same s1,ok,λH2 s2=>?_⟩)))));have kK:=s1.trans s2;cases o1:fR (ps.map (·.2)) (ls.map (·.2)) gs (ms.map (·.2)) with
  | false=>exact (zr rfl (aE rfl (nq (by rw [o1];rfl) _ kK)))
  | true=>
  refine (zr rfl (av rfl (zr rfl (zr rfl (ON b ll lw af tr tm ps ls ws lg lt lm gs ts ms ⟨rfl,co.same kK,ok,λH3 s3=>?_⟩)))));have kJ:=kK.trans s3;cases o2:jL ps.length (ms.map (·.2)) with
  | false=>exact (zr rfl (aE rfl (nq (by rw [o1,o2];rfl) _ kJ)))
  | true=>
  refine (zr rfl (av rfl (zr rfl (zr rfl (zr rfl (zr rfl (ON b ll lw af tr tm ps ls ws lg lt lm gs ts ms ⟨rfl,co.same kJ,ok,λH4 s4=>?_⟩)))))));have rF:=kJ.trans s4;cases o3:f7 (ps.map (·.2)) (ws.map (·.2)) ts (ms.map (·.2)) with
  | false=>exact (zr rfl (aE rfl (nq (by rw [o1,o2,o3];rfl) _ rF)))
  | true=>
  refine (zr rfl (av rfl (zr rfl (zr rfl (zr rfl (zr rfl (ON b ll lw af tr tm ps ls ws lg lt lm gs ts ms ⟨rfl,co.same rF,ok,λH5 s5=>?_⟩)))))));have mZ:=rF.trans s5;cases o4:fS (ls.map (·.2)) (ws.map (·.2)) gs ts with
  | false=>exact (zr rfl (aE rfl (nq (by rw [o1,o2,o3,o4];rfl) _ mZ)))
  | true=>
  have q:∀ H',au H H'->Q (.int (nV af (ps.map (·.2)) (ls.map (·.2)) (ws.map (·.2)) gs ts (ms.map (·.2)))) H':=λH' s=>by
   have z:=q H' s;rwa [if_pos (by unfold fq;rw [zA,o1,o2,o3,o4];rfl)] at z
  have c5:=co.same mZ;refine (zr rfl (av rfl (zr rfl (zr rfl ⟨ll,lg,rfl,⟨_,aB.of c5.l.l⟩,⟨_,aB.of c5.g⟩,?_⟩))));refine eE (K:=K) (a:=ll) (b:=lg) (xs:=ls.map λa=>V.ref a.1) (ys:=gs.map V.bl) (by rw [zA,zA,eg]) (λi τ acc H6=>(∃ t0 t1,τ=[t0,t1])/\acc=(((((ls.map (·.2)).zip gs).take i).filter λp=>!p.2).map (·.1.m)).map V.int/\au H5 H6) ⟨⟨_,_,rfl⟩,rfl,au.refl _⟩ (by rw [zA];omega) ?_ ?_ ?_
  ·rintro i τ acc H6 ⟨_,rfl,sm⟩;refine ⟨?_,aB.of (sm _ _ c5.l.l),aB.of (sm _ _ c5.g)⟩;rw [zA,zA];exact zj (yN _ _) (by rw [zR];omega)
  ·rintro i x y z τ acc H6 C hx hy hz ⟨⟨t0,t1,rfl⟩,rfl,sm⟩ hC;obtain ⟨r,hr,rfl⟩:=wF hx;obtain ⟨g,hg,rfl⟩:=wF hy;have gR:=sm.trans (xl (o:=HO.tup [V.ref r.1,V.bl g]) hz);have st:=wK (qe (wW hr) hg);refine (pU xj (zr rfl (zr rfl ?_)));cases g with
   | false=>exact aE rfl (zr rfl (bP (gR _ _ (c5.l.each r (zB hr))) rfl (hC _ _ _ ⟨⟨_,_,rfl⟩,by rw [st,yF,zD,zD];rfl,gR⟩)))
   | true=>exact av rfl (hC _ _ _ ⟨⟨_,_,rfl⟩,by rw [st,yF,zD,zD];exact (yK _).symm,gR⟩)
  rintro τ acc H6 ⟨⟨t0,t1,rfl⟩,rfl,s6⟩ lc fH;have e1:(ls.map λa=>V.ref a.1).length=((ls.map (·.2)).zip gs).length:=by rw [zA,yg,zA,eg];exact (xU _).symm
  rw [e1,zS];refine ⟨lc,zr rfl ⟨aB.of xj,?_⟩⟩;have Rt:=mZ.trans (s6.trans (xl (o:=HO.lst ((((((ls.map (·.2)).zip gs).filter λp=>!p.2).map (·.1.m)).map V.int))) fH));generalize upd H6 lc _=H7 at Rt ⊢;have c7:=co.same Rt;refine (zr rfl (zr rfl (zr rfl ⟨lw,lt,rfl,⟨_,aB.of c7.w.l⟩,⟨_,aB.of c7.t⟩,?_⟩)));refine eE (K:=K) (a:=lw) (b:=lt) (xs:=ws.map λa=>V.ref a.1) (ys:=ts.map V.bl) (by rw [zA,zA,et]) (λi τ acc H6=>(∃ t0 t1,τ=[t0,t1])/\acc=(((((ws.map (·.2)).zip ts).take i).filter λp=>p.2).map (·.1.m)).map V.int/\au H7 H6) ⟨⟨_,_,rfl⟩,rfl,au.refl _⟩ (by rw [zA];omega) ?_ ?_ ?_
  ·rintro i τ acc H6 ⟨_,rfl,sm⟩;refine ⟨?_,aB.of (sm _ _ c7.w.l),aB.of (sm _ _ c7.t)⟩;rw [zA,zA];exact zj (yN _ _) (by rw [zR];omega)
  ·rintro i x y z τ acc H6 C hx hy hz ⟨⟨t0,t1,rfl⟩,rfl,sm⟩ hC;obtain ⟨r,hr,rfl⟩:=wF hx;obtain ⟨g,hg,rfl⟩:=wF hy;have gR:=sm.trans (xl (o:=HO.tup [V.ref r.1,V.bl g]) hz);have st:=wK (qe (wW hr) hg);refine (pU xj (zr rfl (zr rfl ?_)));cases g with
   | true=>exact aE rfl (zr rfl (bP (gR _ _ (c7.w.each r (zB hr))) rfl (hC _ _ _ ⟨⟨_,_,rfl⟩,by rw [st,yF,zD,zD];rfl,gR⟩)))
   | false=>exact av rfl (hC _ _ _ ⟨⟨_,_,rfl⟩,by rw [st,yF,zD,zD];exact (yK _).symm,gR⟩)
  rintro τ acc H6 ⟨⟨t0,t1,rfl⟩,rfl,s6⟩ lc fH;have e2:(ws.map λa=>V.ref a.1).length=((ws.map (·.2)).zip ts).length:=by rw [zA,yg,zA,et];exact (xU _).symm
  rw [e2,zS];refine ⟨lc,zr rfl ⟨aB.of xj,?_⟩⟩;have uy:=Rt.trans (s6.trans (xl (o:=HO.lst ((((((ws.map (·.2)).zip ts).filter λp=>p.2).map (·.1.m)).map V.int))) fH));generalize upd H6 lc _=H8 at uy ⊢;have c8:=co.same uy;refine (aJ rfl rfl (zr rfl (zr rfl (zr rfl (ex7 b lm af tr tm ps ms ⟨rfl,c8.b,c8.m,λa ha=>⟨c8.rows a ha,ok.rows a ha⟩,by omega,mC,λH9 s9=>(aJ rfl rfl ?_)⟩)))));have c9:=c8.same s9;refine (zr rfl (zr rfl (ON b ll lw af tr tm ps ls ws lg lt lm gs ts ms ⟨rfl,c9,ok,gd,λH0 s0=>(aJ rfl rfl ?_)⟩)));exact q _ ((uy.trans s9).trans s0)
theorem G7:aC ["_law_book_here", "_law_time_here"] ["_law_book_here", "_law_time_here"] (ak Ez):=L2.aX
theorem Hb (T:Tx K mg a):aQ P w K mg base ck 1 a.CF a.Df ["_law_book_here", "_law_time_here"] (rB):=by
 refine T.CZ.ok G7 (λvs H Q E h=>?_) (λbL A outer s H vs Q E hr h=>?_)
 ·obtain ⟨b,t,_,_,_,_,rfl,_⟩:=h;rfl
 ·have nd:=G7.nd;have hu:=hr.units;obtain ⟨b,t,af,tr,tm,ps,rfl,hb,hn,q⟩:=h;refine ⟨_,(xi (wG (wB (xr (xw rfl) (by rfl) T.aM PySem.boot_len (xf (xg (wc (own:=["_law_meeting"]) (caps:=[1]) rfl (show ay ["_law_meeting"] [1] ["_law_book_here", "_law_time_here"] (ak Ez) _ from L2.bR) (fQ rfl (xx (xz rfl) (pv 0) xh (λ_ _=>rfl))) (λ_ _ _ _=>(xm (i:=0) (show List.Nodup (["_law_meeting", "_law_time_here"]:List Str) from by decide +kernel) rfl rfl)) (λ_ _ _ _=>dF (wD fD (xx (xz rfl) (pv 0) xh (λ_ _=>rfl)) (pv 1) (az _))) (λ_ _ _ _=>(pv 0))) xp rfl)))))),?_⟩;refine (zr rfl (bP hb.book rfl ⟨tm,rfl,⟨_,aW.of hb.meets⟩,?_⟩));refine (let W33:IC:=λi τ acc H5=>(∃ t0,τ=[t0,some (.int t)])/\acc.length=cnt ((ps.map (·.2)).take i) t/\acc.length<=i/\au H H5;i8 (K:=K) (a:=tm) (xs:=ps.map λa=>V.ref a.1) W33)
   ?_ (by rw [zA];omega) ?_ ?_ ?_
  ·exact ⟨⟨_,rfl⟩,rfl,zI _,au.refl _⟩
  ·rintro i τ acc H5 ⟨⟨t0,rfl⟩,_,le,sm⟩;exact ⟨le,aW.of (sm _ _ hb.meets)⟩
  ·rintro i x τ acc H5 C hx ⟨⟨t0,rfl⟩,ec,le,sm⟩ hC;obtain ⟨r,hr,rfl⟩:=wF hx;have jV:=sm _ _ (hb.rows r (zB hr));have hm:(ps.map (·.2))[i]?=some r.2:=by rw [zF,hr];rfl
   refine (zr rfl (bP jV rfl (zr rfl (aJ rfl rfl (zr rfl (oR (λc=>(zr rfl (hC _ _ _ ?_))) (λc=>hC _ _ _ ?_)))))))
   ·exact ⟨⟨_,rfl⟩,by rw [ja hm,if_pos c,zO,ec];rfl,by rw [zO];exact Nat.succ_le_succ le,sm⟩
   ·exact ⟨⟨_,rfl⟩,by rw [ja hm,if_neg c,ec];rfl,by omega,sm⟩
  ·rintro τ acc H5 ⟨⟨t0,rfl⟩,ec,le,sm⟩ l hl;have e:(ps.map λa=>V.ref a.1).length=(ps.map (·.2)).length:=by simp
   rw [e,zS] at ec;refine ⟨l,zr rfl ⟨.inl (aB.of xj),?_⟩⟩;rw [ec];exact q _ (sm.trans (xl hl))
theorem Dp:aC ["_law_book_here", "_law_want", "_law_marks"] ["_law_book_here", "_law_want", "_law_marks"] (ak qm):=L2.aX
theorem Fs (T:Tx K mg a):aQ P w K mg base ck 2 a.An a.AQ ["_law_book_here", "_law_want", "_law_marks"] (uq):=by
 have Gq:=Hb P w base T;refine T.AA.ok Dp (λvs H Q E h=>?_) (λbL A outer s H vs Q E hr h=>?_)
 ·obtain ⟨_,_,_,_,_,_,_,_,_,rfl,_⟩:=h;rfl
 ·have nd:=Dp.nd;have hu:=hr.units;obtain ⟨b,z,lm,af,tr,tm,ps,wt,ms,rfl,hb,p60,hz,w0,w1,hm,hrw,lm1,q⟩:=h;refine ⟨_,(xi (wG (wB (xr (tG rfl rfl) (by rfl) T.R1 PyProof.Rows.boot_any (xf (xg (wc (own:=["_law_k"]) (caps:=[2,1]) rfl (show ay ["_law_k"] [2,1] ["_law_book_here", "_law_want", "_law_marks"] (ak qm) _ from L2.bR) (nh rfl T.bf (xf (xg xh (xg (wC wO xh (xq Gq (hr.mono (by decide)) rfl T.HQ T.HS T.HV .nil aq (xf (xg (pv 0) (xg (xx (xz rfl) (pv 1) xh (λ_ _=>rfl)) xp rfl) rfl)))) xp rfl) rfl))) (λ_ _ _ _=>(xm (i:=0) (show List.Nodup (["_law_k", "_law_marks", "_law_want"]:List Str) from by decide +kernel) rfl rfl)) (λ_ _ _ _=>wT) (λ_ _ _ _=>(wx qT (wC dP (xx (xu rfl) (xx (xu rfl) (pv 1) (pv 0) (λ_ _=>rfl)) (xx (xz rfl) (pv 2) xh (λ_ _=>rfl)) (λ_ _=>rfl)) xh) xh (az _)))) xp rfl)))))),?_⟩;have line:=aU;refine (zr rfl (zr rfl (bP hz rfl (Y6 b wt.t af tr tm ps ⟨rfl,hb,by omega,λH1 s1=>(aJ rfl rfl ?_)⟩))));have cl:cnt (ps.map (·.2)) wt.t<=ps.length:=by
   have:=yN (λx:M4=>decide (x.t<=wt.t)) (ps.map (·.2));rwa [zA] at this
  refine (mq rfl ⟨⟨by decide,by decide,by omega,by omega⟩,?_⟩);rw [show ((1:Int) + ((cnt (ps.map (·.2)) wt.t:Nat):Int) - 1).toNat=cnt (ps.map (·.2)) wt.t by omega];unfold cS at q;generalize cnt (ps.map (·.2)) wt.t=c at cl q ⊢;refine (let W34:IC:=λi τ acc H5=>(∃ t0,τ=[t0,some (.ref lm),some (.ref z)])/\acc=(((((ms.map (·.2)).drop 1).take c).take i).map λr=>rW (dh r wt.w)).map V.bl/\au H1 H5;cZ (lo:=1) (m:=c) W34 ⟨⟨_,rfl⟩,rfl,au.refl _⟩ (by omega) ?_ ?_ ?_)
  ·rintro i τ acc H5 ⟨_,rfl,sm⟩;rw [zA,zA,zR];omega
  ·rintro i τ acc H5 C hi ⟨⟨t0,rfl⟩,rfl,sm⟩ hC;obtain ⟨r,h1⟩:∃ r,ms[1 + i]?=some r:=⟨_,zC (by omega)⟩;obtain ⟨kr,lr⟩:=hrw r (zB h1);have s5:=s1.trans sm;have e:=UH (l:=ms.map (·.2)) hi;rw [wW h1] at e;refine (zr rfl (zr rfl (bV (s5 _ _ hm) (wP (j:=1 + i) (v:=V.ref r.1) (by rw [zF,h1];rfl)) (zr rfl (bP (s5 _ _ hz) rfl (bV (s5 _ _ kr) (cJ w0 (by rw [lr];exact w1)) (aJ rfl rfl ⟨(by show (0:Int) < 2;decide),rfl,hC _ _ _ ⟨⟨_,rfl⟩,?_,sm⟩⟩)))))));rw [wK e,zD,zD,Q8];rfl
  ·rintro τ acc H5 ⟨⟨t0,rfl⟩,rfl,sm⟩ lc fH;refine ⟨lc,zr rfl ⟨aB.of xj,?_⟩⟩;have z:=q _ (s1.trans (sm.trans (xl (o:=HO.lst (((((((ms.map (·.2)).drop 1).take c).take c).map λr=>rW (dh r wt.w))).map V.bl)) fH)));rw [List.take_take,xU,List.any_map] at *;exact z
theorem Gw:aC ["_law_purse_here", "_law_book_here", "_law_loads", "_law_wants", "_law_walkers", "_law_many", "_law_given", "_law_taken", "_law_marks", "_law_load", "_law_truth", "_law_k", "_law_walker", "_law_near"] ["_law_purse_here", "_law_book_here", "_law_loads", "_law_wants"] (ak wR):=L2.aX
theorem IW (T:Tx K mg a):aQ P w K mg base ck 3 a.BN a.CU ["_law_purse_here", "_law_book_here", "_law_loads", "_law_wants"] (Qe):=by
 have Aa:=we P w base T;have Gq:=Hb P w base T;have Gp:=Fs P w base T;refine T.Co.ok Gw (λvs H Q E h=>?_) (λbL A outer s H vs Q E hr h=>?_)
 ·obtain ⟨_,_,_,_,_,_,_,_,_,_,rfl,_⟩:=h;rfl
 ·have nd:=Gw.nd;have hu:=hr.units;obtain ⟨p,b,ll,lw,af,tr,tm,ps,ls,ws,rfl,hb,gd,hl,hw,fY,iG,lr,wr,mC,hp,q⟩:=h;refine bS ?_;intro Y
  let B0:Bk Y ((nb (aj wR) 7).drop 1):=⟨_,(xi (wG (wN (@PW.pt _ _ _ (qa (wD (kU hu) (pv 13) (wX qo) (az _)) (qK (wL (xq Gp (hr.mono (by decide)) rfl T.F1 T.F6 T.Gb .nil aq (xf (xg (pv 1) (xg (xx (xu rfl) (pv 3) (pv 11) (λ_ _=>rfl)) (xg (pv 8) xp rfl) rfl) rfl))))))) (xi (wG (wg qM (qu (pv 7) (pv 11) wv)))) wE)))⟩
  let B1:Bk Y (nb (aj wR) 7):=⟨_,(xi (wA (qb (ix:=13) nd rfl rfl (own:=["_law_load", "_law_truth"]) (caps:=[3,11]) rfl (show ay ["_law_load", "_law_truth"] [3,11] ["_law_purse_here", "_law_book_here", "_law_loads", "_law_wants", "_law_walkers", "_law_many", "_law_given", "_law_taken", "_law_marks", "_law_load", "_law_truth", "_law_k", "_law_walker", "_law_near"] (ak wR) _ from L2.bR) (qi rfl rfl T.cN (xf (xg (pv 2) (xg (pv 6) xp rfl) rfl))) (λ_ _ _ _=>(wI (n:=2) rfl rfl (xo (xm (i:=0) (show List.Nodup (["_law_load", "_law_truth", "_law_wants", "_law_k"]:List Str) from by decide +kernel) rfl rfl) (xo (xm (i:=1) (show List.Nodup (["_law_load", "_law_truth", "_law_wants", "_law_k"]:List Str) from by decide +kernel) rfl rfl) wH)))) (λ_ _ _ _=>dF (@PW.pt _ _ _ (qW (wL (pv 1)) (qW (wD qT (xx (xz rfl) (pv 0) xh (λ_ _=>rfl)) (xx (xz rfl) (xx (xu rfl) (pv 2) (pv 3) (λ_ _=>rfl)) xh (λ_ _=>rfl)) (az _)) (qV (wD fD (xx (xz rfl) (pv 0) xh (λ_ _=>rfl)) (xx (xz rfl) (xx (xu rfl) (pv 2) (pv 3) (λ_ _=>rfl)) xh (λ_ _=>rfl)) (az _))))))) (λ_ _ _ _=>(pv 0))) B0.bl))⟩
  let B2:Bk Y ((aj wR).drop 7):=⟨_,(xi (wA (wy PassesOwn.never rfl (wq rfl T.bf (xf (xg (xr (xw rfl) (by rfl) T.aM PySem.boot_len (xf (xg (pv 3) xp rfl))) xp rfl))) (xm (i:=11) nd rfl rfl) B1.ps) (wG (wB (qA (xf (xg (pv 6) (xg (pv 7) (xg (pv 8) xp rfl) rfl) rfl)))))))⟩
  let B3:Bk Y (nb (nb (nb (aj wR) 6) 0) 0):=⟨_,(xi (wG (wg (wC wO (xx (xu rfl) (xx (xu rfl) (pv 8) (wC wO (pv 11) xh) (λ_ _=>rfl)) (pv 12) (λ_ _=>rfl)) xh) (qu (xx (xu rfl) (pv 8) (wC wO (pv 11) xh) (λ_ _=>rfl)) (pv 12) wv))))⟩
  let B4:Bk Y (nb (nb (aj wR) 6) 0):=⟨_,(xi (wG (wN (@PW.pt _ _ _ (qW (wD nj (xx (xu rfl) (xx (xu rfl) (pv 8) (pv 11) (λ_ _=>rfl)) (pv 12) (λ_ _=>rfl)) xh (az _)) (qV (wD qT (wC dP (xx (xu rfl) (xx (xu rfl) (pv 8) (wC wO (pv 11) xh) (λ_ _=>rfl)) (pv 12) (λ_ _=>rfl)) xh) xh (az _))))) B3.ps wE)))⟩
  let B5:Bk Y ((aj wR).drop 6):=⟨_,(xi (wA (wy PassesOwn.never rfl (wq rfl T.bf (xf (xg (pv 5) xp rfl))) (xm (i:=11) nd rfl rfl) (xi (wG (wy PassesOwn.never rfl (wq rfl T.bf (xf (xg (pv 4) xp rfl))) (xm (i:=12) nd rfl rfl) B4.ps)))) B2.bl))⟩
  let B6:Bk Y (nb (nb (nb (aj wR) 5) 0) 0):=⟨_,(xi (wG (wg (wC wO (xx (xu rfl) (xx (xu rfl) (pv 8) (pv 11) (λ_ _=>rfl)) (xx (xz rfl) (pv 9) xh (λ_ _=>rfl)) (λ_ _=>rfl)) xh) (qu (xx (xu rfl) (pv 8) (pv 11) (λ_ _=>rfl)) (xx (xz rfl) (pv 9) xh (λ_ _=>rfl)) wv))))⟩
  let B7:Bk Y (nb (nb (aj wR) 5) 0):=⟨_,(xi (wG (wN (@PW.pt _ _ _ (qW (wL (pv 10)) (qV (wD gS (xx (xu rfl) (xx (xu rfl) (pv 8) (pv 11) (λ_ _=>rfl)) (xx (xz rfl) (pv 9) xh (λ_ _=>rfl)) (λ_ _=>rfl)) xh (az _))))) B6.ps wE)))⟩
  let B8:Bk Y (nb (aj wR) 5):=⟨_,(xi (wG (wy PassesOwn.never rfl (nh rfl T.bf (xf (xg (xq Gq (hr.mono (by decide)) rfl T.HQ T.HS T.HV .nil aq (xf (xg (pv 1) (xg (xx (xz rfl) (pv 9) xh (λ_ _=>rfl)) xp rfl) rfl))) (xg (wC wO (pv 5) xh) xp rfl) rfl))) (xm (i:=11) nd rfl rfl) B7.ps)))⟩
  let B9:Bk Y ((aj wR).drop 5):=⟨_,(xi (wA (wy PassesOwn.never rfl (qi rfl rfl T.cN (xf (xg (pv 2) (xg (pv 6) xp rfl) rfl))) (wI (n:=2) rfl rfl (xo (xm (i:=9) nd rfl rfl) (xo (xm (i:=10) nd rfl rfl) wH))) B8.ps) B5.bl))⟩
  let Yd:Bk Y ((aj wR).drop 4):=⟨_,(xi (wA (qb (ix:=8) nd rfl rfl (own:=["_law_k"]) (caps:=[0,4]) rfl (show ay ["_law_k"] [0,4] ["_law_purse_here", "_law_book_here", "_law_loads", "_law_wants", "_law_walkers", "_law_many", "_law_given", "_law_taken", "_law_marks", "_law_load", "_law_truth", "_law_k", "_law_walker", "_law_near"] (ak wR) _ from L2.bR) (wq rfl T.bf (xf (xg (wC wO (pv 5) xh) xp rfl))) (λ_ _ _ _=>(xm (i:=0) (show List.Nodup (["_law_k", "_law_purse_here", "_law_walkers"]:List Str) from by decide +kernel) rfl rfl)) (λ_ _ _ _=>wT) (λ_ _ _ _=>(wc (own:=["_law_walker"]) (caps:=[1]) rfl (show ay ["_law_walker"] [1] ["_law_k", "_law_purse_here", "_law_walkers"] (relabel _ _) _ from ay.inn rfl (by decide +kernel) (by decide +kernel) (by decide +kernel) (by decide +kernel)) (wq rfl T.bf (xf (xg (pv 2) xp rfl))) (λ_ _ _ _=>(xm (i:=0) (show List.Nodup (["_law_walker", "_law_purse_here"]:List Str) from by decide +kernel) rfl rfl)) (λ_ _ _ _=>wT) (λ_ _ _ _=>(xx (xu rfl) (wX (xf (xg xh (xg xh (xg xh (xg xh (xg xh xp rfl) rfl) rfl) rfl) rfl))) (xq Aa (hr.mono (by decide)) rfl T.Ab T.Ac T.Ae .nil aq (xf (xg (pv 1) (xg xh xp rfl) rfl))) (λ_ _=>rfl)))))) B9.bl))⟩
  let Yc:Bk Y ((aj wR).drop 3):=⟨_,(xi (wA (qb (ix:=7) nd rfl rfl (own:=["_law_want"]) (caps:=[0]) rfl (show ay ["_law_want"] [0] ["_law_purse_here", "_law_book_here", "_law_loads", "_law_wants", "_law_walkers", "_law_many", "_law_given", "_law_taken", "_law_marks", "_law_load", "_law_truth", "_law_k", "_law_walker", "_law_near"] (ak wR) _ from L2.bR) (wZ rfl (pv 3)) (λ_ _ _ _=>(xm (i:=0) (show List.Nodup (["_law_want", "_law_purse_here"]:List Str) from by decide +kernel) rfl rfl)) (λ_ _ _ _=>wT) (λ_ _ _ _=>(wx qT (xq Aa (hr.mono (by decide)) rfl T.Ab T.Ac T.Ae .nil aq (xf (xg (pv 1) (xg xh xp rfl) rfl))) xh (az _)))) Yd.bl))⟩
  let B12:Bk Y ((aj wR).drop 2):=⟨_,(xi (wA (qb (ix:=6) nd rfl rfl (own:=["_law_load"]) (caps:=[0]) rfl (show ay ["_law_load"] [0] ["_law_purse_here", "_law_book_here", "_law_loads", "_law_wants", "_law_walkers", "_law_many", "_law_given", "_law_taken", "_law_marks", "_law_load", "_law_truth", "_law_k", "_law_walker", "_law_near"] (ak wR) _ from L2.bR) (wZ rfl (pv 2)) (λ_ _ _ _=>(xm (i:=0) (show List.Nodup (["_law_load", "_law_purse_here"]:List Str) from by decide +kernel) rfl rfl)) (λ_ _ _ _=>wT) (λ_ _ _ _=>(wx qT (xq Aa (hr.mono (by decide)) rfl T.Ab T.Ac T.Ae .nil aq (xf (xg (pv 1) (xg xh xp rfl) rfl))) xh (az _)))) Yc.bl))⟩
  refine ⟨_,(xi (wA (xy (i:=4) nd rfl rfl (xr (xw rfl) (by rfl) T.aM PySem.boot_len (xf (xg (xx (xz rfl) (pv 1) xh (λ_ _=>rfl)) xp rfl)))) (wA (xy (i:=5) nd rfl rfl (xr (xw rfl) (by rfl) T.aM PySem.boot_len (xf (xg (xx (xz rfl) (pv 1) xh (λ_ _=>rfl)) xp rfl)))) B12.bl))),?_⟩;have line:=aU;have pN:=gd.jB;rw [zA] at pN;have bl:∀ d:Int,∃ bb,(decide (V.int d=V.int 1):Bool)=bb:=λd=>⟨_,rfl⟩;refine (zr rfl (bP hb.book rfl ⟨tr,zr rfl ⟨.inr (aW.of hb.af),?_⟩⟩));refine (zr rfl (bP hb.book rfl ⟨tm,zr rfl ⟨.inr (aW.of hb.meets),?_⟩⟩));refine (zr rfl ⟨ll,rfl,⟨_,aB.of hl.l⟩,?_⟩);refine (let W35:IC:=λi τ acc H5=>(∃ t0,τ=[t0,some (.ref p)])/\(∃ gs:List Bool,gs.length=i/\acc=gs.map V.bl)/\Go p H H5;wV (K:=K) (a:=ll) (xs:=ls.map λa=>V.ref a.1) W35 ⟨⟨_,rfl⟩,⟨[],rfl,rfl⟩,Go.refl hp⟩ (by rw [zA];omega) ?_ ?_ ?_)
  ·rintro i τ acc H5 ⟨_,⟨gs,e,rfl⟩,go⟩;exact ⟨by rw [zA];omega,aB.of (hl.vc go hp).l⟩
  ·rintro i v τ acc H5 C hv ⟨⟨t0,rfl⟩,⟨gs,e,rfl⟩,go⟩ hC;exact (zr rfl ⟨p,zr rfl ⟨by decide,by decide,go.2,λd H6 d0 d1 g6=>⟨rfl,hC _ _ _ ⟨⟨_,rfl⟩,⟨gs++[decide (V.int d=V.int 1)],by rw [zO,e];rfl,by rw [zD];rfl⟩,go.trans g6⟩⟩⟩⟩)
  rintro τ acc H5 ⟨⟨t0,rfl⟩,⟨gs,eg,rfl⟩,g5⟩ lg hlg;rw [zA] at eg;have We:=g5.2.ne hlg;have g6:=g5.new (o:=HO.lst (gs.map V.bl)) hlg;have kg:upd H5 lg (HO.lst (gs.map V.bl)) lg=some (.lst (gs.map V.bl)):=xj;generalize upd H5 lg (HO.lst (gs.map V.bl))=H6 at g6 kg ⊢;refine (zr rfl ⟨lw,rfl,⟨_,aB.of (hw.vc g6 hp).l⟩,?_⟩);refine (let W36:IC:=λi τ acc H5=>(∃ t0,τ=[t0,some (.ref p)])/\(∃ gs:List Bool,gs.length=i/\acc=gs.map V.bl)/\Go p H6 H5;wV (K:=K) (a:=lw) (xs:=ws.map λa=>V.ref a.1) W36 ⟨⟨_,rfl⟩,⟨[],rfl,rfl⟩,Go.refl g6.2⟩ (by rw [zA];omega) ?_ ?_ ?_)
  ·rintro i τ acc H5 ⟨_,⟨gs,e,rfl⟩,go⟩;exact ⟨by rw [zA];omega,aB.of (hw.vc (g6.trans go) hp).l⟩
  ·rintro i v τ acc H5 C hv ⟨⟨t0,rfl⟩,⟨gs,e,rfl⟩,go⟩ hC;exact (zr rfl ⟨p,zr rfl ⟨by decide,by decide,go.2,λd H6 d0 d1 g6=>⟨rfl,hC _ _ _ ⟨⟨_,rfl⟩,⟨gs++[decide (V.int d=V.int 1)],by rw [zO,e];rfl,by rw [zD];rfl⟩,go.trans g6⟩⟩⟩⟩)
  rintro τ acc H7 ⟨⟨t0,rfl⟩,⟨ts,et,rfl⟩,g7⟩ lt dB;rw [zA] at et;have Wd:=g7.2.ne dB;have ngt:lt≠lg:=(xk (g7.1 _ _ We kg) dB).symm;have Q4:H lt=none:=(g6.trans g7).free dB Wd;have g8:=g7.new (o:=HO.lst (ts.map V.bl)) dB;have kt:upd H7 lt (HO.lst (ts.map V.bl)) lt=some (.lst (ts.map V.bl)):=xj;generalize upd H7 lt (HO.lst (ts.map V.bl))=H8 at g8 kt ⊢;have Uw:=g6.trans g8;have kg8:=g8.1 _ _ We kg;rw [zA,zA];refine (zr rfl (aJ rfl rfl (zr rfl ⟨by omega,by omega,?_⟩)));refine (let W37:IC:=λi τ acc H5=>(∃ t0,τ=[t0,some (.ref p),some (.int af.length)])/\∃ as rs,acc=as.map V.ref/\RC p H8 as i af.length rs H5;cZ (lo:=0) (m:=ps.length + 1) W37 ⟨⟨_,rfl⟩,[],[],rfl,RC.init g8.2⟩ (by omega) ?_ ?_ ?_)
  ·rintro i τ acc H5 ⟨_,as,rs,rfl,c⟩;rw [zA,c.al];exact zI _
  ·rintro i τ acc H5 C hi ⟨⟨t0,rfl⟩,as,rs,rfl,c⟩ hC;refine (zr rfl (zr rfl ⟨by omega,by omega,?_⟩));refine (let W38:IC:=λj τ acc H6=>(∃ t0,τ=[t0,some (.ref p)])/\∃ r:List Int,acc=r.map V.int/\r.length=j/\(∀ m∈r,(0:Int)<=m/\m<=3)/\Go p H5 H6;cZ (lo:=0) (m:=af.length) W38 ⟨⟨_,rfl⟩,[],rfl,rfl,nofun,Go.refl c.go.2⟩ (by omega) ?_ ?_ ?_)
   ·rintro j τ acc H6 ⟨_,r,rfl,e,_⟩;rw [zA,e];exact zI _
   ·rintro j τ acc H6 D hj ⟨⟨t1,rfl⟩,r,rfl,e,hr,g⟩ hD;have fin:∀ (v:Int) H',0<=v->v<=3->Go p H6 H'->D [some (V.int (0 + (j:Int))),some (.ref p)] (List.map V.int r++[V.int v]) H':=λv H' v0 v3 g'=>hD _ _ _ ⟨⟨_,rfl⟩,r++[v],by rw [zD];rfl,by rw [zO,e];rfl,λm hm=>(zV.mp hm).elim (hr m) λhm=>by cases zK.mp hm;exact ⟨v0,v3⟩,g.trans g'⟩;refine ⟨by show 5<=sizeLine;omega,λl hl=>?_⟩;refine (zr rfl ⟨p,zr rfl ⟨by decide,by decide,g.2.new hl,λd H7 d0 d1 g7=>?_⟩⟩);have nl:=g.2.ne hl;have kl:=g7.1 _ _ nl xj;have gz:=(Go.refl g.2).new (o:=HO.lst [V.int 0,V.int 0,V.int 1,V.int 2,V.int 3]) hl |>.trans g7;obtain rfl | rfl | rfl | rfl | rfl:d=0\/d=1\/d=2\/d=3\/d=4:=by omega
    ·exact (bV kl rfl (fin 0 _ (by decide) (by decide) gz))
    ·exact (bV kl rfl (fin 0 _ (by decide) (by decide) gz))
    ·exact (bV kl rfl (fin 1 _ (by decide) (by decide) gz))
    ·exact (bV kl rfl (fin 2 _ (by decide) (by decide) gz))
    ·exact (bV kl rfl (fin 3 _ (by decide) (by decide) gz))
   ·rintro τ acc H6 ⟨⟨t1,rfl⟩,r,rfl,e,hr,g⟩ lc fH;refine hC _ _ _ ⟨⟨_,rfl⟩,as++[lc],rs++[r],by rw [zD];rfl,c.new g fH e hr⟩
  rintro τ acc H9 ⟨⟨t0,rfl⟩,as,rs,rfl,c⟩ lm YS;have mc:=c.mc Uw We kg8 Wd kt Q4 ngt YS;generalize upd H9 lm (HO.lst (as.map V.ref))=gO at mc ⊢;have Vl:∀ {H':Hp},Go p H H'->aD H' ll ls:=λg=>hl.vc g hp;have hbs:∀ {H':Hp},Go p H H'->aY H' b af tr tm ps:=λg=>hb.aZ (g.aZ hp);refine (zr rfl (zr rfl ⟨ll,lg,rfl,⟨_,aB.of (Vl mc.go).l⟩,⟨_,aB.of mc.g⟩,?_⟩));refine cI (K:=K) (a:=ll) (b:=lg) (xs:=ls.map λa=>V.ref a.1) (ys:=gs.map V.bl) (by rw [zA,zA,eg]) (λi σ H6=>(∃ v9 v10 v11 jg jS,σ=[some (.ref p),some (.ref b),some (.ref ll),some (.ref lw),some (.int af.length),some (.int ps.length),some (.ref lg),some (.ref lt),some (.ref lm),v9,v10,v11,jg,jS])/\∃ rs,MC p H lg lt lm as (ps.length + 1) af.length gs ts rs H6/\gf (ps.map (·.2)) (ls.map (·.2)) gs rs (ps.length + 1) i) ⟨⟨_,_,_,_,_,rfl⟩,rs,mc,λj hj=>absurd hj (yO _)⟩ ?_ ?_ ?_
  ·rintro i σ H6 _ ⟨_,rs,mc,_⟩;exact ⟨aB.of (Vl mc.go).l,aB.of mc.g⟩
  ·rintro i x1 y1 z σ H6 Mb oS hz ⟨⟨v9,v10,v11,jg,jS,rfl⟩,rs,mc,op⟩;obtain ⟨r,hr,rfl⟩:=wF Mb;obtain ⟨g,hg',rfl⟩:=wF oS;have YG:=mc.same (xl (o:=HO.tup [V.ref r.1,V.bl g]) hz);have mr:=zB hr;obtain ⟨w0,w1⟩:=lr r mr;refine (pU xj ?_);generalize upd H6 z (HO.tup [V.ref r.1,V.bl g])=H7 at YG ⊢;have kr:=(Vl YG.go).each r mr;refine (zr rfl (zr rfl (bP kr rfl (Y6 b r.2.t af tr tm ps ⟨rfl,hbs YG.go,by omega,λH8 s8=>?_⟩))));have mc8:=YG.same s8;have cl:cnt (ps.map (·.2)) r.2.t<=ps.length:=by
    have:=yN (λx:M4=>decide (x.t<=r.2.t)) (ps.map (·.2));rwa [zA] at this
   refine (zr rfl (aJ rfl rfl (mq rfl ⟨⟨by omega,by omega,by omega,by omega⟩,?_⟩)));rw [show ((ps.length:Int) + 1 - ((cnt (ps.map (·.2)) r.2.t:Nat):Int)).toNat=ps.length + 1 - cnt (ps.map (·.2)) r.2.t by omega];generalize hc:cnt (ps.map (·.2)) r.2.t=c at cl ⊢;refine (let W39:IV:=λj σ H6=>(∃ v11 jg jS,σ=[some (.ref p),some (.ref b),some (.ref ll),some (.ref lw),some (.int af.length),some (.int ps.length),some (.ref lg),some (.ref lt),some (.ref lm),some (.ref r.1),some (.bl g),v11,jg,jS])/\∃ aK,MC p H lg lt lm as (ps.length + 1) af.length gs ts aK H6/\tV rs aK/\∀ k,g=true->c<=k->k < c + j->2<=aH aK k r.2.w.toNat;qD (lo:=c) (n:=ps.length + 1 - c) W39 ⟨⟨_,_,_,rfl⟩,rs,mc8,λ_ _ h=>h,λk _ h1 h2=>by omega⟩ ?_ ?_)
   ·rintro j σ H9 hj ⟨⟨v11,jg,jS,rfl⟩,aK,KQ,up,h2⟩;obtain ⟨a,ha,ka⟩:=KQ.row (k:=c + j) (by omega);have la:=(KQ.d.row (k:=c + j) (by omega)).1;have kr:=(Vl KQ.go).each r mr;have am:dU ((aK.getD (c + j) []).map V.int) r.2.w=some (.int (aH aK (c + j) r.2.w.toNat)):=cJ w0 (by rw [la];exact w1);have aa:dU (as.map V.ref) ((c:Int) + (j:Int))=some (V.ref a):=wP (j:=c + j) (by rw [zF,ha];rfl);have nx:(g=true->2<=aH aK (c + j) r.2.w.toNat)->∀ k,g=true->c<=k->k < c + (j + 1)->2<=aH aK k r.2.w.toNat:=λh k g1 h3 h4=>by
     by_cases e:k=c + j
     ·rw [e];exact h g1
     ·exact h2 k g1 h3 (by omega)
    cases g with
    | false=>exact (zr rfl (zr rfl (av rfl (av rfl ⟨⟨_,_,_,rfl⟩,aK,KQ,up,nx nofun⟩))))
    | true=>
    refine (zr rfl (zr rfl (aE rfl (zr rfl (zr rfl (bV KQ.m aa (zr rfl (bP kr rfl (bV ka am (aJ rfl rfl (zr rfl (oR (λh3=>?_) λh3=>⟨⟨_,_,_,rfl⟩,aK,KQ,up,nx λ_=>by omega⟩))))))))))));refine (zr rfl (zr rfl (bV KQ.m aa (zr rfl (bP kr rfl (bV ka am (aJ rfl rfl ?_)))))));have wn:r.2.w.toNat < af.length:=by omega
    refine (zr rfl (zr rfl (bV KQ.m aa (zr rfl (bP kr rfl ⟨a,_,_,r.2.w.toNat,rfl,rfl,ka,uR w0 (by rw [zA,la];exact w1),?_⟩)))));have m3:=KQ.d.Wr (k:=c + j) (by omega) wn;have us:=pT (v:=aH aK (c + j) r.2.w.toNat + 2) KQ.d (k:=c + j) (by omega) wn (by omega);refine ⟨⟨_,_,_,rfl⟩,setM aK (c + j) r.2.w.toNat (aH aK (c + j) r.2.w.toNat + 2),KQ.set ha (by omega) (by omega) jY.set (by rw [xj,yQ]),up.trans us,λk g1 h5 h6=>?_⟩;by_cases e:k=c + j
    ·rw [e,lz KQ.d (by omega) wn,if_pos ⟨rfl,rfl⟩];omega
    ·exact us _ _ (h2 k g1 h5 (by omega))
   ·rintro σ H9 ⟨⟨v11,jg,jS,rfl⟩,aK,KQ,up,h2⟩;refine ⟨⟨_,_,_,_,_,rfl⟩,aK,KQ,λj hj l hl hg k h3 h4=>?_⟩;by_cases e:j=i
    ·subst e;rw [wW hr] at hl;cases hl;rw [hg'] at hg;cases hg;exact h2 k rfl (by rw [<-hc];exact h3) (by omega)
    ·exact up _ _ (op j (by omega) l hl hg k h3 h4)
  rintro σ H6 ⟨⟨v9,v10,v11,jg,jS,rfl⟩,Kv,mc1,op⟩;clear mc c;rw [show (ls.map λa=>V.ref a.1).length=(ls.map (·.2)).length by rw [zA,zA]] at op;refine (zr rfl (zr rfl ⟨by omega,by omega,?_⟩));refine (let W40:IV:=λi σ H6=>(∃ v9 v10 v11 jg jS,σ=[some (.ref p),some (.ref b),some (.ref ll),some (.ref lw),some (.int af.length),some (.int ps.length),some (.ref lg),some (.ref lt),some (.ref lm),v9,v10,v11,jg,jS])/\∃ rs,MC p H lg lt lm as (ps.length + 1) af.length gs ts rs H6/\gf (ps.map (·.2)) (ls.map (·.2)) gs rs (ps.length + 1) (ls.map (·.2)).length/\pL rs af.length i;qD (lo:=0) (n:=ps.length) W40 ⟨⟨_,_,_,_,_,rfl⟩,Kv,mc1,op,nofun⟩ ?_ ?_)
  ·rintro i σ H6 hi ⟨⟨v9,v10,v11,jg,jS,rfl⟩,rs,mc,op,QY⟩;refine (zr rfl (zr rfl ⟨by omega,by omega,?_⟩));refine (let W41:IV:=λj σ H6=>(∃ jg,σ=[some (.ref p),some (.ref b),some (.ref ll),some (.ref lw),some (.int af.length),some (.int ps.length),some (.ref lg),some (.ref lt),some (.ref lm),v9,v10,some (.int (0 + (i:Int))),jg,jS])/\∃ rs,MC p H lg lt lm as (ps.length + 1) af.length gs ts rs H6/\gf (ps.map (·.2)) (ls.map (·.2)) gs rs (ps.length + 1) (ls.map (·.2)).length/\pL rs af.length i/\Rj rs i j;qD (lo:=0) (n:=af.length) W41 ⟨⟨_,rfl⟩,rs,mc,op,QY,nofun⟩ ?_ ?_)
   ·rintro j σ H7 hj ⟨⟨jg,rfl⟩,rs,mc,op,QY,gw⟩;obtain ⟨a,ha,ka⟩:=mc.row (k:=i) (by omega);obtain ⟨a2,Ur,ka2⟩:=mc.row (k:=i + 1) (by omega);have la:=(mc.d.row (k:=i) (by omega)).1;have YH:=(mc.d.row (k:=i + 1) (by omega)).1;have aa:dU (as.map V.ref) (0 + (i:Int))=some (V.ref a):=by rw [zq];exact wP (by rw [zF,ha];rfl)
    have aa2:dU (as.map V.ref) (0 + (i:Int) + 1)=some (V.ref a2):=by rw [zq];exact wP (j:=i + 1) (by rw [zF,Ur];rfl)
    have am:dU ((rs.getD i []).map V.int) (0 + (j:Int))=some (.int (aH rs i j)):=by rw [zq];exact cJ (yz _) (by rw [la];omega)
    have am2:dU ((rs.getD (i + 1) []).map V.int) (0 + (j:Int))=some (.int (aH rs (i + 1) j)):=by rw [zq];exact cJ (yz _) (by rw [YH];omega)
    have keep:(2<=aH rs i j->aH rs (i + 1) j % 2=1)->Rj rs i (j + 1):=λh w hw h2=>by
     by_cases e:w=j
     ·rw [e] at h2 ⊢;exact h h2
     ·exact gw w (by omega) h2
    refine (zr rfl (zr rfl (bV mc.m aa (zr rfl (bV ka am (aJ rfl rfl (zr rfl ?_)))))));by_cases h1:2<=aH rs i j
    rotate_left
    ·exact av (decide_eq_false h1) (av rfl ⟨⟨_,rfl⟩,rs,mc,op,QY,keep λh=>absurd h h1⟩)
    refine aE (decide_eq_true h1) (zr rfl (zr rfl (aJ rfl rfl (bV mc.m aa2 (zr rfl (bV ka2 am2 (aJ rfl rfl ⟨(by show (0:Int) < 2;decide),rfl,zr rfl ?_⟩)))))));by_cases h2:aH rs (i + 1) j % 2=0
    rotate_left
    ·exact av (decide_eq_false λz=>h2 (V.int.inj z)) ⟨⟨_,rfl⟩,rs,mc,op,QY,keep λ_=>by omega⟩
    obtain ⟨y1,y2,y3,y4,y5⟩:=sS mc.d (by omega) (by omega) QY gw h2;refine aE (decide_eq_true (congrArg V.int h2)) (zr rfl (zr rfl (aJ rfl rfl (bV mc.m aa2 (zr rfl (bV ka2 am2 (aJ rfl rfl ?_)))))));refine (zr rfl (zr rfl (aJ rfl rfl (bV mc.m aa2 (zr rfl ⟨a2,_,_,j,rfl,rfl,ka2,by rw [zq];exact qz (by rw [zA,YH];exact hj),?_⟩)))));exact ⟨⟨_,rfl⟩,_,mc.set Ur y4 y5 jY.set (by rw [xj,yQ]),op.up y3,y1,y2⟩
   ·rintro σ H7 ⟨⟨jg,rfl⟩,rs,mc,op,QY,gw⟩;refine ⟨⟨_,_,_,_,_,rfl⟩,rs,mc,op,λk hk w hw h=>?_⟩;by_cases e:k=i
    ·rw [e] at h ⊢;exact gw w hw h
    ·exact QY k (by omega) w hw h
  rintro σ H7 ⟨⟨v9,v10,v11,jg,jS,rfl⟩,rs,mc,op,QY⟩;clear mc1;obtain ⟨zf,zs,zm,zw0⟩:=mc.zip;have lws:(ws.map λa=>V.ref a.1).length=ws.length:=zA _;have RK:∀ {H':Hp},Go p H H'->aD H' lw ws:=λg=>hw.vc g hp;refine (zr rfl ⟨lw,zr rfl ⟨.inl (aB.of (RK mc.go).l),zr rfl ⟨by omega,by omega,?_⟩⟩⟩);rw [lws];refine (let W42:IV:=λi σ H6=>(∃ v9 v10 v11 jg jS,σ=[some (.ref p),some (.ref b),some (.ref ll),some (.ref lw),some (.int af.length),some (.int ps.length),some (.ref lg),some (.ref lt),some (.ref lm),v9,v10,v11,jg,jS])/\∃ ts,ts.length=ws.length/\MC p H lg lt lm as (ps.length + 1) af.length gs ts rs H6/\mh (ps.map (·.2)) (ls.map (·.2)) (ws.map (·.2)) gs ts rs i;qD (lo:=0) (n:=ws.length) W42 ⟨⟨_,_,_,_,_,rfl⟩,ts,et,mc,λj hj=>absurd hj (yO _)⟩ ?_ ?_)
  ·rintro i σ H8 hi ⟨⟨v9,v10,v11,jg,jS,rfl⟩,ts,et,mc,td⟩;obtain ⟨wt,hwt⟩:∃ r,ws[i]?=some r:=⟨_,zC hi⟩;have mw:=zB hwt;obtain ⟨w0,w1⟩:=wr wt mw;have aw:dU (ws.map λa=>V.ref a.1) (0 + (i:Int))=some (V.ref wt.1):=by rw [zq];exact wP (by rw [zF,hwt];rfl)
   have Uk:=Vl mc.go;have RL:=RK mc.go;have kw:=RL.each wt mw;refine (zr rfl (zr rfl ⟨ll,lg,rfl,⟨_,aB.of Uk.l⟩,⟨_,aB.of mc.g⟩,?_⟩));refine eE (K:=K) (a:=ll) (b:=lg) (xs:=ls.map λa=>V.ref a.1) (ys:=gs.map V.bl) (by rw [zA,zA,eg]) (λj τ acc H6=>(∃ t0 t1,τ=[t0,t1,some (.ref lw),some (.int (0 + (i:Int)))])/\acc=(((ls.zip gs).take j).filter λq=>q.2 && b7 q.1.2 wt.2).map (λq=>V.ref q.1.1)/\au H8 H6) ⟨⟨_,_,rfl⟩,rfl,au.refl _⟩ (by rw [zA];omega) ?_ ?_ ?_
   ·rintro j τ acc H6 ⟨_,rfl,sm⟩;refine ⟨?_,aB.of (sm _ _ Uk.l),aB.of (sm _ _ mc.g)⟩;rw [zA];exact zj (yN _ _) (by rw [zR];omega)
   ·rintro j x y z τ acc H6 C hx hy hz ⟨⟨t0,t1,rfl⟩,rfl,sm⟩ hC;obtain ⟨r,hr,rfl⟩:=wF hx;obtain ⟨g,hg,rfl⟩:=wF hy;have s6:=sm.trans (xl (o:=HO.tup [V.ref r.1,V.bl g]) hz);have st:=wK (qe hr hg);have kr:=s6 _ _ (Uk.each r (zB hr));have out:(g && b7 r.2 wt.2)=false->C [some (V.ref r.1),some (V.bl g),some (.ref lw),some (.int (0 + (i:Int)))] ((((ls.zip gs).take j).filter λq=>q.2 && b7 q.1.2 wt.2).map (λq=>V.ref q.1.1)) (upd H6 z (HO.tup [V.ref r.1,V.bl g])):=λe=>hC _ _ _ ⟨⟨_,_,rfl⟩,by rw [st,yF,zD,yU (by rw [e];decide)];exact (yK _).symm,s6⟩;refine (pU xj (zr rfl (zr rfl ?_)));cases g with
    | false=>exact av rfl (av rfl (out rfl))
    | true=>
    refine aE rfl (zr rfl (bP kr rfl (zr rfl (zr rfl (bV (s6 _ _ RL.l) aw (bP (s6 _ _ kw) rfl ⟨rfl,zr rfl ?_⟩))))));by_cases e1:r.2.w=wt.2.w
    rotate_left
    ·exact av (decide_eq_false λz=>e1 (V.int.inj z)) (av rfl (out (by unfold b7;rw [decide_eq_false e1];rfl)))
    refine aE (decide_eq_true (by rw [e1])) (zr rfl (bP kr rfl (zr rfl (zr rfl (bV (s6 _ _ RL.l) aw (bP (s6 _ _ kw) rfl (aJ rfl rfl (zr rfl ?_))))))));by_cases e2:r.2.t<=wt.2.t
    rotate_left
    ·exact av (decide_eq_false e2) (out (by unfold b7;rw [decide_eq_false e2,xP];rfl))
    refine aE (decide_eq_true e2) (zr rfl (hC _ _ _ ⟨⟨_,_,rfl⟩,?_,s6⟩));rw [st,yF,zD,yV (by unfold b7;rw [decide_eq_true e1,decide_eq_true e2];rfl)];rfl
   rintro τ acc H9 ⟨⟨t0,t1,rfl⟩,rfl,sm⟩ lc fH;rw [show (ls.map λa=>V.ref a.1).length=(ls.zip gs).length by rw [zA,yg,eg];exact (xU _).symm,zS] at *;have s9:=sm.trans (xl (o:=HO.lst (((ls.zip gs).filter λq=>q.2 && b7 q.1.2 wt.2).map λq=>V.ref q.1.1)) fH);have kc:upd H9 lc (HO.lst (((ls.zip gs).filter λq=>q.2 && b7 q.1.2 wt.2).map λq=>V.ref q.1.1)) lc=some (.lst (((ls.zip gs).filter λq=>q.2 && b7 q.1.2 wt.2).map λq=>V.ref q.1.1)):=xj;generalize upd H9 lc _=gO at s9 kc ⊢;refine (zr rfl ⟨zo _,λl0 Ov=>⟨lc,l0,zr rfl ⟨rfl,aB.of (xl Ov _ _ kc),aB.of xj,zr rfl ?_⟩⟩⟩);have MB:=s9.trans (xl (o:=HO.lst []) Ov);generalize upd gO l0 (HO.lst [])=jQ at MB ⊢;have oM:=mc.same MB;cases e5:(((ls.zip gs).filter λq=>q.2 && b7 q.1.2 wt.2).map λq=>V.ref q.1.1).isEmpty with
   | false=>
    refine aE (by rw [yy]) (aE rfl (zr rfl (zr rfl ⟨lt,_,_,i,rfl,rfl,oM.t,by rw [zq];exact qz (by rw [zA,et];exact hi),?_⟩)));exact ⟨⟨_,_,_,_,_,rfl⟩,ts.set i true,by rw [zt,et],oM.put jY.set (by rw [xj,yQ]),pY td⟩
   | true=>
    obtain ⟨_,zs,zm,zw⟩:=oM.zip;refine av (by rw [xW]) (zr rfl (zr rfl (zr rfl (bV ((RK oM.go).l) aw (zr rfl (ex9 b wt.1 lm af tr tm ps wt.2 (as.zip rs) ⟨rfl,hbs oM.go,pN,(RK oM.go).each wt mw,w0,w1,zm,λx hx=>⟨(zw x hx).1,(zw x hx).2.1⟩,by rw [yg,oM.al,oM.d.len];exact xU _,λmE kK=>(zr rfl ?_)⟩))))));have Tw:=oM.same kK;rw [zs];cases e6:cS (ps.map (·.2)) rs wt.2 with
    | true=>
     refine aE rfl (zr rfl (zr rfl ⟨lt,_,_,i,rfl,rfl,Tw.t,by rw [zq];exact qz (by rw [zA,et];exact hi),?_⟩));exact ⟨⟨_,_,_,_,_,rfl⟩,ts.set i true,by rw [zt,et],Tw.put jY.set (by rw [xj,yQ]),pY td⟩
    | false=>
     refine av rfl ⟨⟨_,_,_,_,_,rfl⟩,ts,et,Tw,Lo td (wW hwt) e6 (uK (List.map_eq_nil_iff.mp (List.isEmpty_iff.mp e5)))⟩
  rintro σ H8 ⟨⟨v9,v10,v11,jg,jS,rfl⟩,ts,et,mc,td⟩;obtain ⟨_,zs,zm,zw⟩:=mc.zip;refine (zr rfl (zr rfl (zr rfl ⟨by show 3<=sizeLine;omega,λc hc=>?_⟩)));have sn:=xl (o:=HO.tup [V.ref lg,V.ref lt,V.ref lm]) hc;have Pj:=mc.same sn;obtain ⟨_,zs,zm,zw⟩:=Pj.zip;refine q c lg lt lm gs ts (as.zip rs) _ Pj.go xj ⟨hbs Pj.go,Vl Pj.go,RK Pj.go,Pj.g,Pj.t,zm,λx hx=>(zw x hx).1⟩ ⟨mC,pN,fY,iG,eg,et,by rw [yg,Pj.al,Pj.d.len];exact xU _,λx hx=>(zw x hx).2.1,lr,wr⟩ (λx hx=>(zw x hx).2.2) ?_;rw [zs];exact oU (nr:=af.length) (by rw [zA,eg]) (by rw [zA,et]) (by rw [zA];exact Pj.d) (by rw [zA];exact op) (by rw [zA];exact QY) (by rw [zA];exact td)
theorem Kc:aC ["_law_script", "_law_book_here", "_law_head", "_law_loads", "_law_wants", "_law_plan_here", "_law_lacks", "_law_told", "_law_purse_here", "_law_turn", "_law_cut_here", "_law_most"] ["_law_script"] (ak D5):=L2.aX
theorem Kh (T:Tx K mg a):aQ P w K mg base ck 7 a.FJ a.HW ["_law_script"] (vX K):=by
 have Bx:=Dv P w base T;have JN:=Ii P w base T;have FO:=HE P w base T;have IN:=Hy P w base T;have FP:=HF P w base T;have JM:=Ig P w base T;have JH:=HZ P w base T;have J6:=IW P w base T;refine T.GG.ok Kc (λvs H Q E h=>?_) (λbL A outer s H vs Q E hr h=>?_)
 ·obtain ⟨_,_,rfl,_⟩:=h;rfl
 ·have nd:=Kc.nd;have hu:=hr.units;obtain ⟨sa,ns,rfl,hS,Wn,q⟩:=h;refine bS ?_;intro Y
  let B0:Bk Y ((nb (aj D5) 8).drop 2):=⟨_,(xi (wG (wN (@PW.pt _ _ _ (qa (wU (wL (xq FO (hr.mono (by decide)) rfl T.Fw T.FB T.FG .nil aq (xf (xg (pv 11) xp rfl))))) (qK (wD fE (pv 7) (pv 11) (az _))))) (xi (wG (wB qM))) wE)))⟩
  let B1:Bk Y ((nb (aj D5) 8).drop 1):=⟨_,(xi (wA (xy (i:=11) nd rfl rfl (xq JH (hr.mono (by decide)) rfl T.IZ T.Jg T.Jo .nil aq (xf (xg (pv 1) (xg (pv 3) (xg (pv 4) (xg (pv 10) xp rfl) rfl) rfl) rfl)))) B0.bl))⟩
  let B2:Bk Y (nb (aj D5) 8):=⟨_,(xi (wA (xy (i:=10) nd rfl rfl (xq J6 (hr.mono (by decide)) rfl T.JQ T.JT T.JW .nil aq (xf (xg (pv 8) (xg (pv 1) (xg (pv 3) (xg (pv 4) xp rfl) rfl) rfl) rfl)))) B1.bl))⟩
  let B3:Bk Y ((aj D5).drop 7):=⟨_,(xi (wA (xy (i:=8) nd rfl rfl (xq Bx (hr.mono (by decide)) rfl T.CG T.CI T.CJ .nil aq (xf (xg (pv 0) (xg xh xp rfl) rfl)))) (wA (wy PassesOwn.never rfl (wq rfl T.bf (xf (xg xh xp rfl))) (xm (i:=9) nd rfl rfl) B2.ps) (wG (wB qM)))))⟩
  let B4:Bk Y ((aj D5).drop 6):=⟨_,(xi (wA (wN (wU (wL (xq FO (hr.mono (by decide)) rfl T.Fw T.FB T.FG .nil aq (xf (xg (pv 7) xp rfl))))) (xi (wG (wB qM))) wE) B3.bl))⟩
  let B5:Bk Y ((aj D5).drop 5):=⟨_,(xi (wA (xy (i:=7) nd rfl rfl (xq IN (hr.mono (by decide)) rfl T.Ij T.Ip T.Ix .nil aq (xf (xg (pv 1) (xg (pv 3) (xg (pv 4) (xg (pv 5) xp rfl) rfl) rfl) rfl)))) B4.bl))⟩
  let B6:Bk Y ((aj D5).drop 4):=⟨_,(xi (wA (wg (xq JM (hr.mono (by decide)) rfl T.Jd T.Jl T.Jt .nil aq (xf (xg (pv 0) (xg (pv 2) (xg (pv 1) (xg (pv 3) (xg (pv 4) (xg xh xp rfl) rfl) rfl) rfl) rfl) rfl))) (wI (n:=2) rfl rfl (xo (xm (i:=5) nd rfl rfl) (xo (xm (i:=6) nd rfl rfl) wH)))) B5.bl))⟩
  let B7:Bk Y ((aj D5).drop 3):=⟨_,(xi (wA (xy (i:=4) nd rfl rfl (xq FP (hr.mono (by decide)) rfl T.Fx T.FC T.FH .nil aq (xf (xg (pv 0) (xg (pv 1) (xg (pv 2) (xg xh (xg xh xp rfl) rfl) rfl) rfl) rfl)))) B6.bl))⟩
  let B8:Bk Y ((aj D5).drop 2):=⟨_,(xi (wA (xy (i:=3) nd rfl rfl (xq FP (hr.mono (by decide)) rfl T.Fx T.FC T.FH .nil aq (xf (xg (pv 0) (xg (pv 1) (xg (pv 2) (xg xh (xg xh xp rfl) rfl) rfl) rfl) rfl)))) B7.bl))⟩
  refine ⟨_,(xi (wA (xy (i:=1) nd rfl rfl (xq JN (hr.mono (by decide)) rfl T.Je T.Jm T.Ju .nil aq (xf (xg (xq Bx (hr.mono (by decide)) rfl T.CG T.CI T.CJ .nil aq (xf (xg (pv 0) (xg xh xp rfl) rfl))) (xg xh (xg xh xp rfl) rfl) rfl)))) (wA (xy (i:=2) nd rfl rfl (xq Bx (hr.mono (by decide)) rfl T.CG T.CI T.CJ .nil aq (xf (xg (pv 0) (xg xh xp rfl) rfl)))) B8.bl))),?_⟩;have line:=aU;refine (zr rfl ⟨sa,ns,0,rfl,hS,by decide,λp H1 hp Yz s1=>?_⟩);refine ⟨p,6,14,rfl,by decide,by decide,by decide,Yz,λb af tr tm ps H2 g2 hb r1 r6 rm gd l14=>?_⟩;have s2:=cU hp s1 g2.1;have Om:aB K H2 sa (List.map V.int ns):=aB.but hS hp λc u _ e=>s2 _ _ e;refine (zr rfl ⟨sa,ns,1,rfl,Om,by decide,λhd H3 Ox pu3 s3=>?_⟩);have mC:af.length<=12:=by omega
  have Uq:=hb.same s3;have Yv:∀ y∈af,(0:Int)<=y:=λy hy=>(rm y hy).1;refine (zr rfl (zr rfl (zr rfl ⟨sa,b,hd,ex8 0 af tr tm ps ns 3 H2 ⟨rfl,Om,Wn,Ox,s3,by decide,.inl rfl,Uq,gd,r1,mC,pu3,λll ls H4 hll g4 Ot l8 lb=>?_⟩⟩)));have s4:=cU Ox s3 g4.1;have Mf:=hb.same s4;have Tt:ll≠hd:=pu3.ne hll;refine (zr rfl (zr rfl (zr rfl ⟨sa,b,hd,ex8 1 af tr tm ps ns 4 H2 ⟨rfl,Om,Wn,Ox,s4,by decide,.inr rfl,Mf,gd,r1,mC,g4.2,λlw ws H5 hlw g5 YN w8 wb=>?_⟩⟩)));have s5:=cU Ox s3 (g4.1.trans g5.1);have RT:=hb.same s5;have Va:lw≠hd:=g4.2.ne hlw;have YT:aD H5 ll ls:=⟨g5.1 _ _ Tt Ot.l,λa ha=>g5.aZ g4.2 _ _ (Ot.each a ha)⟩;refine (zr rfl (zr rfl (zr rfl (zr rfl (zr rfl ⟨sa,hd,acU b ll lw af tr tm ps ls ws ns 19 H2 ⟨rfl,Om,Wn,Ox,s5,by decide,RT,gd,r1,mC,Yv,g5.2,YT,YN,⟨Tt,Va⟩,l8,w8,λa ha=>(lb a ha).2.2,λa ha=>(wb a ha).2.2,λt p lr lt xs ts lk fj H6 g6 kt pa pok Wk kk pg=>?_⟩⟩)))));have Pq:=hb.same (cU Ox s3 ((g4.1.trans g5.1).trans g6.1));have hl6:aD H6 ll ls:=⟨g6.1 _ _ Tt YT.l,λa ha=>g6.aZ g5.2 _ _ (YT.each a ha)⟩;have hw6:aD H6 lw ws:=⟨g6.1 _ _ Va YN.l,λa ha=>g6.aZ g5.2 _ _ (YN.each a ha)⟩;have s26:=cU Ox s3 ((g4.1.trans g5.1).trans g6.1);refine (pU kt ?_);clear g6 g5 g4 YT YN Ot RT Mf Uq;have v1:=pg.worth (ts.map (·.2)) (.inl rfl);rw [Int.sub_self,Int.sub_zero,gB] at v1;refine (zr rfl (zr rfl (zr rfl (zr rfl (XN b ll lw p af tr tm ps ls ws lr lt xs ts ⟨rfl,Pq,gd,by omega,hl6,hw6,pa,pok,Wk,λH7 s7=>?_⟩)))));rw [v1];refine (zr rfl ⟨_, "int", rfl,rfl,zr rfl (av rfl ?_)⟩);have ab2:aB K H7 sa (List.map V.int ns):=aB.but Om Ox λc u _ e=>s7 _ _ (s26 _ _ e);refine (zr rfl ⟨sa,ns,2,rfl,ab2,by decide,λpp H8 hpp pu8 s8=>?_⟩);have WC:=gd.len;have lbr:∀ a∈ls,0<=a.2.w/\a.2.w < af.length:=λa ha=>⟨(lb a ha).1,(lb a ha).2.1⟩;have Z9:∀ a∈ws,0<=a.2.w/\a.2.w < af.length:=λa ha=>⟨(wb a ha).1,(wb a ha).2.1⟩;have s68:=s7.trans s8;have YZ:=Pq.same s68;have Uk:=hl6.same s68;have RL:=hw6.same s68;have W0:∃ W,W=(ws.map λa=>a.2.m).sum - fj.sum:=⟨_,rfl⟩;obtain ⟨W,hW⟩:=W0;rw [<-hW];refine (zr rfl ⟨by decide,by decide,?_⟩);refine qD (lo:=0) (n:=3) (λi σ H'=>(∃ v9 v10 v11,σ=[some (.ref sa),some (.ref b),some (.ref hd),some (.ref ll),some (.ref lw),some (.ref p),some (.ref lk),some (.int W),some (.ref pp),v9,v10,v11])/\Go pp H8 H') ⟨⟨_,_,_,rfl⟩,Go.refl pu8⟩ ?_ ?_
  ·rintro i σ H' hi ⟨⟨v9,v10,v11,rfl⟩,g⟩;refine (zr rfl (zr rfl (zr rfl (zr rfl (Uz pp b ll lw af tr tm ps ls ws ⟨rfl,YZ.aZ (g.aZ pu8),gd,Uk.vc g pu8,RL.vc g pu8,by omega,by omega,lbr,Z9,mC,g.2,λc lg lt lm gs ts2 ms H9 g9 kc co ok hm hh=>?_⟩)))));have cu:eK H9 c lg lt lm gs ts2 ms:=⟨kc,co.g,co.t,co.m,co.rows⟩;refine (zr rfl (zr rfl (zr rfl (zr rfl (Uz b ll lw (.ref c) af tr tm ps ls ws ⟨rfl,co.b,gd,mC,co.l,co.w,by omega,by omega,lbr,Z9,DT.tup cu.c (DT.three cu.dg cu.dt cu.dm),λef' Px kJ=>?_,λc' lg' lt' lm' gs' U6 ms' UA kc' Y7 ok' lO Px kJ=>?_⟩)))))
   ·exfalso;have z:=Mk (n:=af.length) cu λa ha=>⟨ok.rows a ha,(hm a ha).1⟩;rw [ok.lg,ok.lt,ok.lm,ef'] at z;cases z
   injection UA with UA
   subst UA;obtain ⟨rfl,rfl,rfl⟩:=cu.uniq ⟨kc',Y7.g,Y7.t,Y7.m,Y7.rows⟩;rw [if_pos hh];have d:bG ((ps.map (·.2)).length + 1) af.length (ms.map (·.2)):=by rw [zA];exact ok.dim lO
   obtain ⟨i1,i2,i3⟩:=sN d hh;have mw:∀ {qs:List (Addr×S3)},(∀ a∈qs,0<=a.2.w/\a.2.w < af.length)->∀ l∈qs.map (·.2),0<=l.w:=λh l hl=>by
    obtain ⟨x,hx,rfl⟩:=zd.mp hl;exact (h x hx).1
   have du:=UE ⟨d,i1,i2,i3,by rw [ok.lg,zA],by rw [ok.lt,zA],gd,Yv,mw lbr,mw Z9⟩ pg (by rw [zA,zA];exact pok.n) λx hx=>by
    obtain ⟨y,hy,rfl⟩:=zd.mp hx;rw [zA,zA];exact pok.rows y hy
   rw [gB,<- hW] at du;exact (zr rfl ⟨_, "int", rfl,rfl,zr rfl (av rfl (zr rfl (zr rfl (aJ rfl rfl (zr rfl (av (decide_eq_false (Int.not_lt.mpr du)) ⟨⟨_,_,_,rfl⟩,(g.trans g9).same kJ⟩))))))⟩)
  rintro σ H' _;exact q _
end
theorem all_mk {l:PySem.W.OpenLaw}{w:World}{K:PySem.W.Frag}{h:Heap}{mg:Str->Option Value}{fa DY Er E7 DX Es C9 Ew Ep DV E4 Em E5 DU Dh Cj C5 Dw CK Ci El Dx C7 Hq CM DP Et DW Ev E6 C8 Eu Gd JX DS Eo Di Gc ID CN DQ C6 Dj DR CL En Ge CO E8 Kg:Addr}(X:K.In h)(G:h.Ns mainGlobals mg)(hfa:mg "law" = some (.ref fa))
  {Ch Cu CT Cg Cv AY CB Ct Ce CP Cq CQ Cd Bi Aq AU BH AE Ap Cp BI AW DH AN BZ Cw Cf Cz CS AX Cy De Gf Cc Cs Bj Dd EA AO Ca AV Bl Cb AM Cr Df AQ CU HW:FuncData}
  (Bf:zL K mainGlobals "_law_purse" = some (some (.ref DY))) (BG:aV K "_law_purse" "_law_purse" qj DY Ch)
  (Br:zL K mainGlobals "_law_take" = some (some (.ref Er))) (BT:aV K "_law_take" "_law_take" qw Er Cu)
  (BM:zL K mainGlobals "_law_far" = some (some (.ref E7))) (Cn:aV K "_law_far" "_law_far" DL E7 CT)
  (Be:zL K mainGlobals "_law_rooms" = some (some (.ref DX))) (BF:aV K "_law_rooms" "_law_rooms" qk DX Cg)
  (Bs:zL K mainGlobals "_law_step" = some (some (.ref Es))) (BU:aV K "_law_step" "_law_step" qx Es Cv)
  (Aw:zL K mainGlobals "_law_meetings" = some (some (.ref C9))) (AJ:aV K "_law_meetings" "_law_meetings" wJ C9 AY)
  (Bw:zL K mainGlobals "_law_book" = some (some (.ref Ew))) (BY:aV K "_law_book" "_law_book" C3 Ew CB)
  (Bq:zL K mainGlobals "_law_time" = some (some (.ref Ep))) (BS:aV K "_law_time" "_law_time" qI Ep Ct)
  (Bc:zL K mainGlobals "_law_whole" = some (some (.ref DV))) (BD:aV K "_law_whole" "_law_whole" DK DV Ce)
  (BJ:zL K mainGlobals "is_whole" = some (some (.ref E4))) (Ck:aV K "is_whole" "is_whole" EY E4 CP)
  (Bn:zL K mainGlobals "is_within" = some (some (.ref Em))) (BP:aV K "is_within" "is_within" Ed Em Cq)
  (BK:zL K mainGlobals "is_count" = some (some (.ref E5))) (Cl:aV K "is_count" "is_count" EZ E5 CQ)
  (Bb:zL K mainGlobals "are_counts" = some (some (.ref DU))) (BC:aV K "are_counts" "are_counts" Dc DU Cd)
  (AB:zL K mainGlobals "has_row_form" = some (some (.ref Dh))) (AR:aV K "has_row_form" "has_row_form" qQ Dh Bi)
  (Ag:zL K mainGlobals "has_straight_form" = some (some (.ref Cj))) (Ai:aV K "has_straight_form" "has_straight_form" w6 Cj Aq)
  (Ar:zL K mainGlobals "has_plan_form" = some (some (.ref C5))) (AF:aV K "has_plan_form" "has_plan_form" wu C5 AU)
  (AK:zL K mainGlobals "is_straight" = some (some (.ref Dw))) (Bg:aV K "is_straight" "is_straight" Du Dw BH)
  (Aj:zL K mainGlobals "may_be_straight" = some (some (.ref CK))) (Ao:aV K "may_be_straight" "may_be_straight" wk CK AE)
  (Af:zL K mainGlobals "is_within_meeting" = some (some (.ref Ci))) (Ah:aV K "is_within_meeting" "is_within_meeting" wS Ci Ap)
  (Bm:zL K mainGlobals "of_walker" = some (some (.ref El))) (BO:aV K "of_walker" "of_walker" Dq El Cp)
  (AL:zL K mainGlobals "bags_behind" = some (some (.ref Dx))) (Bh:aV K "bags_behind" "bags_behind" qB Dx BI)
  (Au:zL K mainGlobals "are_rows_kept" = some (some (.ref C7))) (AH:aV K "are_rows_kept" "are_rows_kept" wd C7 AW)
  (C4:zL K mainGlobals "totals" = some (some (.ref Hq))) (Dk:aV K "totals" "totals" Ec Hq DH)
  (Al:zL K mainGlobals "are_upto_manys" = some (some (.ref CM))) (Ay:aV K "are_upto_manys" "are_upto_manys" ql CM AN)
  (AZ:zL K mainGlobals "plan_worth" = some (some (.ref DP))) (By:aV K "plan_worth" "plan_worth" wo DP BZ)
  (Bt:zL K mainGlobals "_law_sack" = some (some (.ref Et))) (BV:aV K "_law_sack" "_law_sack" wz Et Cw)
  (Bd:zL K mainGlobals "_law_sacks" = some (some (.ref DW))) (BE:aV K "_law_sacks" "_law_sacks" qJ DW Cf)
  (Bv:zL K mainGlobals "_law_goes" = some (some (.ref Ev))) (BX:aV K "_law_goes" "_law_goes" qg Ev Cz)
  (BL:zL K mainGlobals "_law_row" = some (some (.ref E6))) (Cm:aV K "_law_row" "_law_row" wM E6 CS)
  (Av:zL K mainGlobals "_law_straight" = some (some (.ref C8))) (AI:aV K "_law_straight" "_law_straight" wQ C8 AX)
  (Bu:zL K mainGlobals "_law_plan" = some (some (.ref Eu))) (BW:aV K "_law_plan" "_law_plan" w4 Eu Cy)
  (CD:zL K mainGlobals "by_time" = some (some (.ref Gd))) (CY:aV K "by_time" "by_time" Ey Gd De)
  (Ex:zL K mainGlobals "ways" = some (some (.ref JX))) (Fa:aV K "ways" "ways" FQ JX Gf)
  (Ba:zL K mainGlobals "are_truths" = some (some (.ref DS))) (BB:aV K "are_truths" "are_truths" Db DS Cc)
  (Bp:zL K mainGlobals "are_marks" = some (some (.ref Eo))) (BR:aV K "are_marks" "are_marks" Dr Eo Cs)
  (AC:zL K mainGlobals "has_cut_form" = some (some (.ref Di))) (AS:aV K "has_cut_form" "has_cut_form" qE Di Bj)
  (CC:zL K mainGlobals "is_open" = some (some (.ref Gc))) (CW:aV K "is_open" "is_open" FR Gc Dd)
  (Ds:zL K mainGlobals "is_in" = some (some (.ref ID))) (DZ:aV K "is_in" "is_in" HX ID EA)
  (Am:zL K mainGlobals "are_loads_open" = some (some (.ref CN))) (Az:aV K "are_loads_open" "are_loads_open" qR CN AO)
  (A8:zL K mainGlobals "goes_on_in" = some (some (.ref DQ))) (Bz:aV K "goes_on_in" "goes_on_in" jA DQ Ca)
  (As:zL K mainGlobals "come_where_in" = some (some (.ref C6))) (AG:aV K "come_where_in" "come_where_in" qG C6 AV)
  (AD:zL K mainGlobals "come_at_once" = some (some (.ref Dj))) (AT:aV K "come_at_once" "come_at_once" qh Dj Bl)
  (A9:zL K mainGlobals "bags_worth" = some (some (.ref DR))) (BA:aV K "bags_worth" "bags_worth" Da DR Cb)
  (Ak:zL K mainGlobals "meetings_worth" = some (some (.ref CL))) (Ax:aV K "meetings_worth" "meetings_worth" qS CL AM)
  (Bo:zL K mainGlobals "cut_worth" = some (some (.ref En))) (BQ:aV K "cut_worth" "cut_worth" qC En Cr)
  (CF:zL K mainGlobals "_law_by" = some (some (.ref Ge))) (CZ:aV K "_law_by" "_law_by" Ez Ge Df)
  (An:zL K mainGlobals "_law_in_behind" = some (some (.ref CO))) (AA:aV K "_law_in_behind" "_law_in_behind" qm CO AQ)
  (BN:zL K mainGlobals "_law_cut" = some (some (.ref E8))) (Co:aV K "_law_cut" "_law_cut" wR E8 CU)
  (FJ:zL K mainGlobals "law" = some (some (.ref Kg))) (GG:aV K "law" "law" D5 Kg HW)
  (z_all:zL K mainGlobals "all" = some none)
  (z_any:zL K mainGlobals "any" = some none)
  (z_bool:zL K mainGlobals "bool" = some none)
  (z_enumerate:zL K mainGlobals "enumerate" = some none)
  (z_int:zL K mainGlobals "int" = some none)
  (z_isinstance:zL K mainGlobals "isinstance" = some none)
  (z_len:zL K mainGlobals "len" = some none)
  (z_list:zL K mainGlobals "list" = some none)
  (z_max:zL K mainGlobals "max" = some none)
  (z_min:zL K mainGlobals "min" = some none)
  (z_range:zL K mainGlobals "range" = some none)
  (z_set:zL K mainGlobals "set" = some none)
  (z_sorted:zL K mainGlobals "sorted" = some none)
  (z_sum:zL K mainGlobals "sum" = some none)
  (z_tuple:zL K mainGlobals "tuple" = some none)
  (z_zip:zL K mainGlobals "zip" = some none) :
  ∃ fd:FuncData,(∀ (s:Shared) (v:Value),BindsTo s fd ⟨[v],[]⟩ [("_law_script", v)])/\∀ base:Heap,K.In base->base.Ns mainGlobals mg->aQ l.prog w K mg base ck 7 fa fd ["_law_script"] (vX K):=by
 have e:=hfa.symm.trans (zP X G FJ);cases e;have IM:=BG.binds (ps:=["_law_script", "_law_k"]) λ_ _ _ _ _ _ us hl=>Lf hl λ_ _=>rfl;have JA:=BT.binds (ps:=["_law_purse_here", "_law_many"]) λ_ _ _ _ _ _ us hl=>Lf hl λ_ _=>rfl;have J1:=Cn.binds (ps:=["_law_purse_here"]) λ_ _ _ _ _ _ us hl=>PJ hl λ_=>rfl;have IL:=BF.binds (ps:=["_law_purse_here", "_law_walkers"]) λ_ _ _ _ _ _ us hl=>Lf hl λ_ _=>rfl;have JB:=BU.binds (ps:=["_law_purse_here"]) λ_ _ _ _ _ _ us hl=>PJ hl λ_=>rfl;have G0:=AJ.binds (ps:=["_law_purse_here", "_law_walkers", "_law_most"]) λ_ _ _ _ _ _ us hl=>Pe hl λ_ _ _=>rfl;have JF:=BY.binds (ps:=["_law_purse_here", "_law_most_walkers", "_law_most_meetings"]) λ_ _ _ _ _ _ us hl=>Pe hl λ_ _ _=>rfl;have Jz:=BS.binds (ps:=["_law_purse_here", "_law_book_here", "_law_later"]) λ_ _ _ _ _ _ us hl=>Pe hl λ_ _ _=>rfl;have IJ:=BD.binds (ps:=["_law_thing"]) λ_ _ _ _ _ _ us hl=>PJ hl λ_=>rfl;have JY:=Ck.binds (ps:=["thing"]) λ_ _ _ _ _ _ us hl=>PJ hl λ_=>rfl;have Jw:=BP.binds (ps:=["thing", "least", "most"]) λ_ _ _ _ _ _ us hl=>Pe hl λ_ _ _=>rfl;have JZ:=Cl.binds (ps:=["thing"]) λ_ _ _ _ _ _ us hl=>PJ hl λ_=>rfl;have II:=BC.binds (ps:=["thing", "size"]) λ_ _ _ _ _ _ us hl=>Lf hl λ_ _=>rfl;have Hr:=AR.binds (ps:=["loads", "wants", "thing"]) λ_ _ _ _ _ _ us hl=>Pe hl λ_ _ _=>rfl;have EI:=Ai.binds (ps:=["loads", "wants", "thing"]) λ_ _ _ _ _ _ us hl=>Pe hl λ_ _ _=>rfl;have GW:=AF.binds (ps:=["book", "loads", "wants", "thing"]) λ_ _ _ _ _ _ us hl=>MA hl λ_ _ _ _=>rfl;have HK:=Bg.binds (ps:=["load", "want"]) λ_ _ _ _ _ _ us hl=>Lf hl λ_ _=>rfl;have FI:=Ao.binds (ps:=["loads", "wants", "straight"]) λ_ _ _ _ _ _ us hl=>Pe hl λ_ _ _=>rfl;have EH:=Ah.binds (ps:=["meeting", "loads", "wants", "row"]) λ_ _ _ _ _ _ us hl=>MA hl λ_ _ _ _=>rfl;have Jv:=BO.binds (ps:=["parts", "numbers", "walker"]) λ_ _ _ _ _ _ us hl=>Pe hl λ_ _ _=>rfl;have HL:=Bh.binds (ps:=["bags", "meeting", "loads", "wants", "row"]) λ_ _ _ _ _ _ us hl=>us5 hl λ_ _ _ _ _=>rfl;have GY:=AH.binds (ps:=["book", "loads", "wants", "rows"]) λ_ _ _ _ _ _ us hl=>MA hl λ_ _ _ _=>rfl;have Kd:=Dk.binds (ps:=["size", "rows", "straight"]) λ_ _ _ _ _ _ us hl=>Pe hl λ_ _ _=>rfl;have Gh:=Ay.binds (ps:=["sums", "parts"]) λ_ _ _ _ _ _ us hl=>Lf hl λ_ _=>rfl;have IE:=By.binds (ps:=["book", "loads", "wants", "thing"]) λ_ _ _ _ _ _ us hl=>MA hl λ_ _ _ _=>rfl;have JC:=BV.binds (ps:=["_law_purse_here", "_law_book_here", "_law_walkers", "_law_later"]) λ_ _ _ _ _ _ us hl=>MA hl λ_ _ _ _=>rfl;have IK:=BE.binds (ps:=["_law_script", "_law_book_here", "_law_head", "_law_first", "_law_later"]) λ_ _ _ _ _ _ us hl=>us5 hl λ_ _ _ _ _=>rfl;have JE:=BX.binds (ps:=["_law_sacks_here", "_law_rests", "_law_walker", "_law_when", "_law_later"]) λ_ _ _ _ _ _ us hl=>us5 hl λ_ _ _ _ _=>rfl;have J0:=Cm.binds (ps:=["_law_purse_here", "_law_rooms_here", "_law_meeting", "_law_loads", "_law_wants", "_law_state"]) λ_ _ _ _ _ _ us hl=>us6 hl λ_ _ _ _ _ _=>rfl;have GZ:=AI.binds (ps:=["_law_purse_here", "_law_loads", "_law_wants", "_law_state"]) λ_ _ _ _ _ _ us hl=>MA hl λ_ _ _ _=>rfl;have JD:=BW.binds (ps:=["_law_script", "_law_head", "_law_book_here", "_law_loads", "_law_wants", "_law_first"]) λ_ _ _ _ _ _ us hl=>us6 hl λ_ _ _ _ _ _=>rfl;have Ka:=CY.binds (ps:=["book", "time"]) λ_ _ _ _ _ _ us hl=>Lf hl λ_ _=>rfl;have Kl:=Fa.binds (ps:=["book"]) λ_ _ _ _ _ _ us hl=>PJ hl λ_=>rfl;have IH:=BB.binds (ps:=["thing", "size"]) λ_ _ _ _ _ _ us hl=>Lf hl λ_ _=>rfl;have Jy:=BR.binds (ps:=["thing", "size"]) λ_ _ _ _ _ _ us hl=>Lf hl λ_ _=>rfl;have Hs:=AS.binds (ps:=["book", "loads", "wants", "thing"]) λ_ _ _ _ _ _ us hl=>MA hl λ_ _ _ _=>rfl;have J9:=CW.binds (ps:=["mark"]) λ_ _ _ _ _ _ us hl=>PJ hl λ_=>rfl;have Kf:=DZ.binds (ps:=["mark"]) λ_ _ _ _ _ _ us hl=>PJ hl λ_=>rfl;have Gi:=Az.binds (ps:=["book", "loads", "begun", "marks"]) λ_ _ _ _ _ _ us hl=>MA hl λ_ _ _ _=>rfl;have IF:=Bz.binds (ps:=["book", "marks"]) λ_ _ _ _ _ _ us hl=>Lf hl λ_ _=>rfl;have GX:=AG.binds (ps:=["book", "wants", "come", "marks"]) λ_ _ _ _ _ _ us hl=>MA hl λ_ _ _ _=>rfl;have Ht:=AT.binds (ps:=["loads", "wants", "begun", "come"]) λ_ _ _ _ _ _ us hl=>MA hl λ_ _ _ _=>rfl;have IG:=BA.binds (ps:=["book", "marks"]) λ_ _ _ _ _ _ us hl=>Lf hl λ_ _=>rfl;have Gg:=Ax.binds (ps:=["book", "marks"]) λ_ _ _ _ _ _ us hl=>Lf hl λ_ _=>rfl;have Jx:=BQ.binds (ps:=["book", "loads", "wants", "thing"]) λ_ _ _ _ _ _ us hl=>MA hl λ_ _ _ _=>rfl;have Kb:=CZ.binds (ps:=["_law_book_here", "_law_time_here"]) λ_ _ _ _ _ _ us hl=>Lf hl λ_ _=>rfl;have Gj:=AA.binds (ps:=["_law_book_here", "_law_want", "_law_marks"]) λ_ _ _ _ _ _ us hl=>Pe hl λ_ _ _=>rfl;have J3:=Co.binds (ps:=["_law_purse_here", "_law_book_here", "_law_loads", "_law_wants"]) λ_ _ _ _ _ _ us hl=>MA hl λ_ _ _ _=>rfl;have Kn:=GG.binds (ps:=["_law_script"]) λ_ _ _ _ _ _ us hl=>PJ hl λ_=>rfl;have T:Tx K mg ⟨DY,Ch,Er,Cu,E7,CT,DX,Cg,Es,Cv,C9,AY,Ew,CB,Ep,Ct,DV,Ce,E4,CP,Em,Cq,E5,CQ,DU,Cd,Dh,Bi,Cj,Aq,C5,AU,Dw,BH,CK,AE,Ci,Ap,El,Cp,Dx,BI,C7,AW,Hq,DH,CM,AN,DP,BZ,Et,Cw,DW,Cf,Ev,Cz,E6,CS,C8,AX,Eu,Cy,Gd,De,JX,Gf,DS,Cc,Eo,Cs,Di,Bj,Gc,Dd,ID,EA,CN,AO,DQ,Ca,C6,AV,Dj,Bl,DR,Cb,CL,AM,En,Cr,Ge,Df,CO,AQ,E8,CU,fa,HW⟩:=⟨BG,IM,zP X G Bf,BG.kp,BT,JA,zP X G Br,BT.kp,Cn,J1,zP X G BM,Cn.kp,BF,IL,zP X G Be,BF.kp,BU,JB,zP X G Bs,BU.kp,AJ,G0,zP X G Aw,AJ.kp,BY,JF,zP X G Bw,BY.kp,BS,Jz,zP X G Bq,BS.kp,BD,IJ,zP X G Bc,BD.kp,Ck,JY,zP X G BJ,Ck.kp,BP,Jw,zP X G Bn,BP.kp,Cl,JZ,zP X G BK,Cl.kp,BC,II,zP X G Bb,BC.kp,AR,Hr,zP X G AB,AR.kp,Ai,EI,zP X G Ag,Ai.kp,AF,GW,zP X G Ar,AF.kp,Bg,HK,zP X G AK,Bg.kp,Ao,FI,zP X G Aj,Ao.kp,Ah,EH,zP X G Af,Ah.kp,BO,Jv,zP X G Bm,BO.kp,Bh,HL,zP X G AL,Bh.kp,AH,GY,zP X G Au,AH.kp,Dk,Kd,zP X G C4,Dk.kp,Ay,Gh,zP X G Al,Ay.kp,By,IE,zP X G AZ,By.kp,BV,JC,zP X G Bt,BV.kp,BE,IK,zP X G Bd,BE.kp,BX,JE,zP X G Bv,BX.kp,Cm,J0,zP X G BL,Cm.kp,AI,GZ,zP X G Av,AI.kp,BW,JD,zP X G Bu,BW.kp,CY,Ka,zP X G CD,CY.kp,Fa,Kl,zP X G Ex,Fa.kp,BB,IH,zP X G Ba,BB.kp,BR,Jy,zP X G Bp,BR.kp,AS,Hs,zP X G AC,AS.kp,CW,J9,zP X G CC,CW.kp,DZ,Kf,zP X G Ds,DZ.kp,Az,Gi,zP X G Am,Az.kp,Bz,IF,zP X G A8,Bz.kp,AG,GX,zP X G As,AG.kp,AT,Ht,zP X G AD,AT.kp,BA,IG,zP X G A9,BA.kp,Ax,Gg,zP X G Ak,Ax.kp,BQ,Jx,zP X G Bo,BQ.kp,CZ,Kb,zP X G CF,CZ.kp,AA,Gj,zP X G An,AA.kp,Co,J3,zP X G BN,Co.kp,GG,Kn,zP X G FJ,GG.kp,zy X G z_all,zy X G z_any,zy X G z_bool,zy X G z_enumerate,zy X G z_int,zy X G z_isinstance,zy X G z_len,zy X G z_list,zy X G z_max,zy X G z_min,zy X G z_range,zy X G z_set,zy X G z_sorted,zy X G z_sum,zy X G z_tuple,zy X G z_zip⟩;obtain ⟨_,_,_,_,_,_,_,_,_,rfl,_,_⟩:=GG.ex;exact ⟨_,λs v=>.of_eq rfl,λbase _ _=>Kh _ _ base T⟩
theorem walk {l:PySem.W.OpenLaw}{q:Program}{loose:List Str}{XP:(Str->Option Value)->Heap->Prop}{YP:World->Heap->Prop}{d:DefRec}{K:Params->PySem.W.Frag}(hn:l.most=some 63)(Xu:d.params.defaults=[])
  (hY:∀ (w:World) (h:Heap),YP w h->(K w.params).In h)
  (F:∀ (w:World) (mg:Str->Option Value) (fa:Addr) (h:Heap),(K w.params).In h->h.Ns mainGlobals mg->mg d.name=some (.ref fa) ->
   ∃ fd:FuncData,(∀ (s:Shared) (u:Value),BindsTo s fd ⟨[u],[]⟩ [("_law_script", u)])/\∀ base:Heap,(K w.params).In base->base.Ns mainGlobals mg->aQ l.prog w (K w.params) mg base ck 7 fa fd ["_law_script"] (vX (K w.params))) :
  PySem.W.WalkO q loose XP YP l.row.toRowW d [] (λf vs=>PySem.call f vs):=
 L2.Pz (n:=63) (k:=7) (x := "_law_script") (CX:=λ_=>ck) (sp:=λw=>vX (K w.params)) hn (by decide) Xu ⟨rfl,by decide,by decide,rfl⟩ hY F (λ_ _ a ns hl _ hS=>⟨a,ns,rfl,hS,hl,λ_=>rfl⟩) λ_ _ _ _ _ z=>z
end Sm
namespace PySem.W.Fast
def tw2800335229373210255:Nat:=0
def tw18058546921927184663:Nat:=0
def tw6915797976889443658:Nat:=0
def tw3407041204782041791:Nat:=0
def tw2354719929385083146:Nat:=0
def tw7168417564206998716:Nat:=0
def tw2175729819805690404:Nat:=0
def tw10446382258788269903:Nat:=0
def tw15514551764258813593:Nat:=0
def tw15161353199637592886:Nat:=0
def tw7643311811522184270:Nat:=0
def tw398135484063555083:Nat:=0
def tw9938397925912241115:Nat:=0
def tw13774265916161554767:Nat:=0
def tw4482889773419468206:Nat:=0
def tw1245137341325590864:Nat:=0
def tw2883402850905457875:Nat:=0
def tw14790314111421852628:Nat:=0
def tw12660563691125589545:Nat:=0
def tw12422370275360120229:Nat:=0
def tw13104764546589691655:Nat:=0
def tw8219083776471436035:Nat:=0
def tw9601006400276948878:Nat:=0
def tw12213368084694481757:Nat:=0
def tw7678558979080347317:Nat:=0
def tw11649435140603277274:Nat:=0
def tw114909099773352643:Nat:=0
def tw3952613953725593489:Nat:=0
def tw6340110235817732683:Nat:=0
def tw6910938980497684640:Nat:=0
def tw17507557560767547743:Nat:=0
def tw17285940860559379109:Nat:=0
def tw8876251221527407508:Nat:=0
def tw18175582588700827104:Nat:=0
def tw5981323493162035677:Nat:=0
def tw796868791066903491:Nat:=0
def tw14636199388984815657:Nat:=0
def tw16710056674654835315:Nat:=0
def tw1790624468878315894:Nat:=0
def tw17863271928392667814:Nat:=0
def tw4024838620978356366:Nat:=0
def tw7481918979576175188:Nat:=0
def tw9654297783713827160:Nat:=0
def tw17123547509175321721:Nat:=0
def tw2587754784821555224:Nat:=0
def tw16251975733824709143:Nat:=0
def tw5777484502243475573:Nat:=0
def tw1150490214092328239:Nat:=0
def tw9270344056319298663:Nat:=0
def tw15207695352071127718:Nat:=0
def tw17271572606523016892:Nat:=0
def tw9323353293281705722:Nat:=0
def tw3406488742207572161:Nat:=0
def tw16324757772503267679:Nat:=0
def tw8835962321572491795:Nat:=0
def tw9857963992263308116:Nat:=0
def tw10751090090124111668:Nat:=0
def tw7077379075724271996:Nat:=0
def tw6500869194016252556:Nat:=0
def tw14718949228768715899:Nat:=0
def tw12726391973508731923:Nat:=0
def tw6360931734423978211:Nat:=0
def tw15954948860272677945:Nat:=0
def tw7280322505750838120:Nat:=0
def tw10511002042123322719:Nat:=0
def tw15805570365328639864:Nat:=0
def tw11574636669768051554:Nat:=0
def tw17222175103254353210:Nat:=0
def tw13084865715809062188:Nat:=0
def tw3521894094966587914:Nat:=0
def tw16842522591458888099:Nat:=0
def tw8031232395072745344:Nat:=0
def tw13750330980646699483:Nat:=0
def tw7145271761450108340:Nat:=0
def tw6655370244806791201:Nat:=0
def tw5637573404451566590:Nat:=0
def tw17210578754244005756:Nat:=0
def tw10367214527130450586:Nat:=0
def tw1958992969563995866:Nat:=0
def tw39882174479878021:Nat:=0
def tw5316806701854195727:Nat:=0
def tw11684166163980421374:Nat:=0
def tw17266328188111805689:Nat:=0
def tw15599440257947485725:Nat:=0
def tw6036230164526165563:Nat:=0
def tw10080274102338298901:Nat:=0
def tw6224296626572767994:Nat:=0
def tw13432659591561026594:Nat:=0
def tw10510528926826982812:Nat:=0
def tw7571480412844203314:Nat:=0
def tw8892059641509979479:Nat:=0
def tw12232033970565085417:Nat:=0
def tw13272744957665699034:Nat:=0
def tw14776609391224465880:Nat:=0
def tw13880590146420793062:Nat:=0
def tw18299775621960947691:Nat:=0
def tw14773042211807285780:Nat:=0
def tw17057821201291255379:Nat:=0
def tw8831881143633026489:Nat:=0
def tw12149390380759299331:Nat:=0
def tw7792745607977691618:Nat:=0
def tw8189635918325520020:Nat:=0
def tw7015423156616952594:Nat:=0
def tw509122595953591376:Nat:=0
def tw3312764909272911112:Nat:=0
def tw9320365010118815725:Nat:=0
def tw3060916650724683127:Nat:=0
def tw8003866504446385035:Nat:=0
def tw11151133854927094292:Nat:=0
def tw3854134052242260602:Nat:=0
def tw18094288223546310265:Nat:=0
def tw2964114016124211237:Nat:=0
def tw10123964895479088219:Nat:=0
def tw3128628618961893202:Nat:=0
def tw3127090458075059086:Nat:=0
def tw17624712628010318673:Nat:=0
def tw12415372339515157352:Nat:=0
def tw6023054414537771425:Nat:=0
def tw1116090972732351223:Nat:=0
def tw13540913365370959354:Nat:=0
def tw4392173971646729906:Nat:=0
def tw14201708000891846489:Nat:=0
def tw7993204024405103386:Nat:=0
def tw18119479491759168171:Nat:=0
def tw5307681864812086904:Nat:=0
def tw4129143355831264820:Nat:=0
def tw14608131241662663123:Nat:=0
def tw9240679490202379311:Nat:=0
def tw5089290048993337568:Nat:=0
def tw14306813741072215016:Nat:=0
def tw11780923238369419559:Nat:=0
end PySem.W.Fast
open PySem PySem.W PyProof.Rows
set_option maxRecDepth 100000 in
set_option maxHeartbeats 0 in
theorem PySem.Challenge.cw_satchelmeet_k39_whole_no_plan_beats_a_cu_holds : PySem.Challenge.rw_satchelmeet_k39_whole_no_plan_beats_a_cu.Holds := by
 w_on;o_law;k_head;(case hw=>w_witness2)
 k_fill
 refine Sm.walk (l:=PySem.Challenge.rw_satchelmeet_k39_whole_no_plan_beats_a_cu) rfl rfl (λw h Y=>PySem.W.kIn_of Y) ?F
 case F=>
  intro w mg fa h KX G hmg
  refine' Sm.all_mk KX G hmg ?Bf ?BG ?Br ?BT ?BM ?Cn ?Be ?BF ?Bs ?BU ?Aw ?AJ ?Bw ?BY ?Bq ?BS ?Bc ?BD ?BJ ?Ck ?Bn ?BP ?BK ?Cl ?Bb ?BC ?AB ?AR ?Ag ?Ai ?Ar ?AF ?AK ?Bg ?Aj ?Ao ?Af ?Ah ?Bm ?BO ?AL ?Bh ?Au ?AH ?C4 ?Dk ?Al ?Ay ?AZ ?By ?Bt ?BV ?Bd ?BE ?Bv ?BX ?BL ?Cm ?Av ?AI ?Bu ?BW ?CD ?CY ?Ex ?Fa ?Ba ?BB ?Bp ?BR ?AC ?AS ?CC ?CW ?Ds ?DZ ?Am ?Az ?A8 ?Bz ?As ?AG ?AD ?AT ?A9 ?BA ?Ak ?Ax ?Bo ?BQ ?CF ?CZ ?An ?AA ?BN ?Co ?FJ ?GG ?z_all ?z_any ?z_bool ?z_enumerate ?z_int ?z_isinstance ?z_len ?z_list ?z_max ?z_min ?z_range ?z_set ?z_sorted ?z_sum ?z_tuple ?z_zip
  (case Bf=>k_is)
  (case BG=>refine' L2.fun_mk ?x1 ?y1 ?z1;(case x1=>k_is);(case y1=>k_is);(case z1=>k_is))
  (case Br=>k_is)
  (case BT=>refine' L2.fun_mk ?x3 ?y3 ?z3;(case x3=>k_is);(case y3=>k_is);(case z3=>k_is))
  (case BM=>k_is)
  (case Cn=>refine' L2.fun_mk ?x5 ?y5 ?z5;(case x5=>k_is);(case y5=>k_is);(case z5=>k_is))
  (case Be=>k_is)
  (case BF=>refine' L2.fun_mk ?x7 ?y7 ?z7;(case x7=>k_is);(case y7=>k_is);(case z7=>k_is))
  (case Bs=>k_is)
  (case BU=>refine' L2.fun_mk ?x9 ?y9 ?z9;(case x9=>k_is);(case y9=>k_is);(case z9=>k_is))
  (case Aw=>k_is)
  (case AJ=>refine' L2.fun_mk ?x11 ?y11 ?z11;(case x11=>k_is);(case y11=>k_is);(case z11=>k_is))
  (case Bw=>k_is)
  (case BY=>refine' L2.fun_mk ?x13 ?y13 ?z13;(case x13=>k_is);(case y13=>k_is);(case z13=>k_is))
  (case Bq=>k_is)
  (case BS=>refine' L2.fun_mk ?x15 ?y15 ?z15;(case x15=>k_is);(case y15=>k_is);(case z15=>k_is))
  (case Bc=>k_is)
  (case BD=>refine' L2.fun_mk ?x17 ?y17 ?z17;(case x17=>k_is);(case y17=>k_is);(case z17=>k_is))
  (case BJ=>k_is)
  (case Ck=>refine' L2.fun_mk ?x19 ?y19 ?z19;(case x19=>k_is);(case y19=>k_is);(case z19=>k_is))
  (case Bn=>k_is)
  (case BP=>refine' L2.fun_mk ?x21 ?y21 ?z21;(case x21=>k_is);(case y21=>k_is);(case z21=>k_is))
  (case BK=>k_is)
  (case Cl=>refine' L2.fun_mk ?x23 ?y23 ?z23;(case x23=>k_is);(case y23=>k_is);(case z23=>k_is))
  (case Bb=>k_is)
  (case BC=>refine' L2.fun_mk ?x25 ?y25 ?z25;(case x25=>k_is);(case y25=>k_is);(case z25=>k_is))
  (case AB=>k_is)
  (case AR=>refine' L2.fun_mk ?x27 ?y27 ?z27;(case x27=>k_is);(case y27=>k_is);(case z27=>k_is))
  (case Ag=>k_is)
  (case Ai=>refine' L2.fun_mk ?x29 ?y29 ?z29;(case x29=>k_is);(case y29=>k_is);(case z29=>k_is))
  (case Ar=>k_is)
  (case AF=>refine' L2.fun_mk ?x31 ?y31 ?z31;(case x31=>k_is);(case y31=>k_is);(case z31=>k_is))
  (case AK=>k_is)
  (case Bg=>refine' L2.fun_mk ?x33 ?y33 ?z33;(case x33=>k_is);(case y33=>k_is);(case z33=>k_is))
  (case Aj=>k_is)
  (case Ao=>refine' L2.fun_mk ?x35 ?y35 ?z35;(case x35=>k_is);(case y35=>k_is);(case z35=>k_is))
  (case Af=>k_is)
  (case Ah=>refine' L2.fun_mk ?x37 ?y37 ?z37;(case x37=>k_is);(case y37=>k_is);(case z37=>k_is))
  (case Bm=>k_is)
  (case BO=>refine' L2.fun_mk ?x39 ?y39 ?z39;(case x39=>k_is);(case y39=>k_is);(case z39=>k_is))
  (case AL=>k_is)
  (case Bh=>refine' L2.fun_mk ?x41 ?y41 ?z41;(case x41=>k_is);(case y41=>k_is);(case z41=>k_is))
  (case Au=>k_is)
  (case AH=>refine' L2.fun_mk ?x43 ?y43 ?z43;(case x43=>k_is);(case y43=>k_is);(case z43=>k_is))
  (case C4=>k_is)
  (case Dk=>refine' L2.fun_mk ?x45 ?y45 ?z45;(case x45=>k_is);(case y45=>k_is);(case z45=>k_is))
  (case Al=>k_is)
  (case Ay=>refine' L2.fun_mk ?x47 ?y47 ?z47;(case x47=>k_is);(case y47=>k_is);(case z47=>k_is))
  (case AZ=>k_is)
  (case By=>refine' L2.fun_mk ?x49 ?y49 ?z49;(case x49=>k_is);(case y49=>k_is);(case z49=>k_is))
  (case Bt=>k_is)
  (case BV=>refine' L2.fun_mk ?x51 ?y51 ?z51;(case x51=>k_is);(case y51=>k_is);(case z51=>k_is))
  (case Bd=>k_is)
  (case BE=>refine' L2.fun_mk ?x53 ?y53 ?z53;(case x53=>k_is);(case y53=>k_is);(case z53=>k_is))
  (case Bv=>k_is)
  (case BX=>refine' L2.fun_mk ?x55 ?y55 ?z55;(case x55=>k_is);(case y55=>k_is);(case z55=>k_is))
  (case BL=>k_is)
  (case Cm=>refine' L2.fun_mk ?x57 ?y57 ?z57;(case x57=>k_is);(case y57=>k_is);(case z57=>k_is))
  (case Av=>k_is)
  (case AI=>refine' L2.fun_mk ?x59 ?y59 ?z59;(case x59=>k_is);(case y59=>k_is);(case z59=>k_is))
  (case Bu=>k_is)
  (case BW=>refine' L2.fun_mk ?x61 ?y61 ?z61;(case x61=>k_is);(case y61=>k_is);(case z61=>k_is))
  (case CD=>k_is)
  (case CY=>refine' L2.fun_mk ?x63 ?y63 ?z63;(case x63=>k_is);(case y63=>k_is);(case z63=>k_is))
  (case Ex=>k_is)
  (case Fa=>refine' L2.fun_mk ?x65 ?y65 ?z65;(case x65=>k_is);(case y65=>k_is);(case z65=>k_is))
  (case Ba=>k_is)
  (case BB=>refine' L2.fun_mk ?x67 ?y67 ?z67;(case x67=>k_is);(case y67=>k_is);(case z67=>k_is))
  (case Bp=>k_is)
  (case BR=>refine' L2.fun_mk ?x69 ?y69 ?z69;(case x69=>k_is);(case y69=>k_is);(case z69=>k_is))
  (case AC=>k_is)
  (case AS=>refine' L2.fun_mk ?x71 ?y71 ?z71;(case x71=>k_is);(case y71=>k_is);(case z71=>k_is))
  (case CC=>k_is)
  (case CW=>refine' L2.fun_mk ?x73 ?y73 ?z73;(case x73=>k_is);(case y73=>k_is);(case z73=>k_is))
  (case Ds=>k_is)
  (case DZ=>refine' L2.fun_mk ?x75 ?y75 ?z75;(case x75=>k_is);(case y75=>k_is);(case z75=>k_is))
  (case Am=>k_is)
  (case Az=>refine' L2.fun_mk ?x77 ?y77 ?z77;(case x77=>k_is);(case y77=>k_is);(case z77=>k_is))
  (case A8=>k_is)
  (case Bz=>refine' L2.fun_mk ?x79 ?y79 ?z79;(case x79=>k_is);(case y79=>k_is);(case z79=>k_is))
  (case As=>k_is)
  (case AG=>refine' L2.fun_mk ?x81 ?y81 ?z81;(case x81=>k_is);(case y81=>k_is);(case z81=>k_is))
  (case AD=>k_is)
  (case AT=>refine' L2.fun_mk ?x83 ?y83 ?z83;(case x83=>k_is);(case y83=>k_is);(case z83=>k_is))
  (case A9=>k_is)
  (case BA=>refine' L2.fun_mk ?x85 ?y85 ?z85;(case x85=>k_is);(case y85=>k_is);(case z85=>k_is))
  (case Ak=>k_is)
  (case Ax=>refine' L2.fun_mk ?x87 ?y87 ?z87;(case x87=>k_is);(case y87=>k_is);(case z87=>k_is))
  (case Bo=>k_is)
  (case BQ=>refine' L2.fun_mk ?x89 ?y89 ?z89;(case x89=>k_is);(case y89=>k_is);(case z89=>k_is))
  (case CF=>k_is)
  (case CZ=>refine' L2.fun_mk ?x91 ?y91 ?z91;(case x91=>k_is);(case y91=>k_is);(case z91=>k_is))
  (case An=>k_is)
  (case AA=>refine' L2.fun_mk ?x93 ?y93 ?z93;(case x93=>k_is);(case y93=>k_is);(case z93=>k_is))
  (case BN=>k_is)
  (case Co=>refine' L2.fun_mk ?x95 ?y95 ?z95;(case x95=>k_is);(case y95=>k_is);(case z95=>k_is))
  (case FJ=>k_is)
  (case GG=>refine' L2.fun_mk ?x97 ?y97 ?z97;(case x97=>k_is);(case y97=>k_is);(case z97=>k_is))
  (case z_all=>k_is)
  (case z_any=>k_is)
  (case z_bool=>k_is)
  (case z_enumerate=>k_is)
  (case z_int=>k_is)
  (case z_isinstance=>k_is)
  (case z_len=>k_is)
  (case z_list=>k_is)
  (case z_max=>k_is)
  (case z_min=>k_is)
  (case z_range=>k_is)
  (case z_set=>k_is)
  (case z_sorted=>k_is)
  (case z_sum=>k_is)
  (case z_tuple=>k_is)
  (case z_zip=>k_is)

