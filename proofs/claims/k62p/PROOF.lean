import PyProof.Rows.All
import Wide.All
import OpenK.AllK
import Wide.FinOn
import Lean
import PyProof.EqAt
import PyProof.EqKinds
import PyProof.TupleCall
import KE.KRevIter
import KE.KDictOf
import PyProof.AttrMissHeap
import PyProof.StrWalks
import PyProof.StrBlockI
import PyProof.FString5
import PyProof.SetRoads
import PyProof.SetNew
import PyProof.TupleKey
import PyProof.InstEq
import PySem.SetOps
import PyProof.Rows.SetFrom
import KE.KTryMore
import PyProof.NsDelKeeps
import KE.KIsAll
import KE.KItemsList
import KE.KSortTup
import KE.KDictSum
import KE.KLam
import KE.KNestM
import KE.KSortTup
import PySem.Challenge.RW_satchelmeet_k62_too_many_to_spread
open List renaming length_map → zA,mem_of_getElem? → zC,getElem?_eq_some_iff → zD,mem_append_right → zE,map_append → zH,getElem?_map → zI,getElem?_eq_getElem → zJ,mem_singleton → zK,length_append → zN,mem_cons → zO,size_toArray → zQ,mem_map → zS,mem_append_left → zT,length_cons → zW,mem_append → zX,length_take → zY,getElem?_append_right → zZ,getD_eq_getElem?_getD → zb,map_cons → zd,getElem?_append_left → zi,mem_range → zm,length_singleton → zq,take_length → zv,not_mem_nil → zw,mem_cons_of_mem → yA,mem_iff_getElem? → yB,getElem_mem → yC,pairwise_iff_getElem → yE,map_nil → yF,length_nil → yJ,lookup_cons → yK,mem_map_of_mem → yM,getElem?_cons_succ → yN,sum_append → yO,length_drop → yR,all_eq_true → yS,length_reverse → yU,length_replicate → yW,getElem?_eq_none → yX,map_map → yY,mem_cons_self → yZ,mem_reverse → ya,getElem?_cons_zero → yb,take_of_length_le → yc,replicate_succ → yd,mem_filterMap → yh,append_nil → yk,nodup_cons → yl,set_cons_zero → yu,set_cons_succ → yw,reverse_cons → yz,length_range → xA,filterMap_cons → xB,cons_append → xD,mem_flatMap → xF,of_mem_zip → xH,find?_cons → xI,nil_append → xJ,range_succ → xL,any_cons → xM,sum_cons → xN,flatten_cons → xO,pairwise_map → xP,sum_nil → xU,all_map → xW
open Nat renaming le_refl → zF,lt_of_lt_of_le → zU,ne_of_lt → zV,zero_le → za,not_lt_zero → zf,testBit_or → zx,le_trans → z4,lt_irrefl → z6,testBit_two_pow → z8,eq_of_testBit_eq → yD,lt_of_le_of_lt → yG,zero_testBit → yL,testBit_and → yP,ne_of_gt → yQ,le_succ → yV,lt_succ_iff → yf,lt_succ_of_lt → yi,two_pow_pos → ym,lt_succ_self → xE,le_of_lt → xG,le_of_not_lt → xQ,sub_self → xS,lt_or_ge → xV,mod_eq_of_lt → xX,succ_le_succ → xY
open PySem.W renaming nsIn → zG,kitOne → zR,mg_none_of → zo,mg_of → zp,kia_one → yI,findIn → yq,fnOf → yy,keepIn → xC,mroIn → xa
open PyProof.Rows renaming boot_isinstance → zL,callWith_type1 → zy,boot_tuple → yj,boot_list → yn,boot_all → yx
open Bool renaming false_ne_true → zM,and_eq_true → zc,false_eq_true → zn,false_and → yH,or_eq_true → yg,true_and → yo,and_false → yt,eq_iff_iff → xZ
open PySem.F renaming plainAttrs_list → ze,slot_list_append → zg,type_list_append → zh,plain_min_loop → yT
open Int renaming eq_ofNat_of_zero_le → zj,le_refl → zl,toNat_natCast → zu,emod_lt_of_pos → yr,emod_nonneg → xK,le_trans → xT
open PySem renaming mem_of_lookup → zk
open Option renaming map_some → ye,getD_some → xR
set_option Elab.async false
set_option linter.all false
set_option maxRecDepth 100000
set_option maxHeartbeats 4000000
namespace L2
open PySem PySem.Spec PyProof.Rows
abbrev Key:=Sum Int Str
def pB:Key->Value->Bool
 | .inl k,v=>Value.isInt k v
 | .inr x,v=>Value.isStrOf x v
def aaR (w:World):Key->Int
 | .inl k=>hashInt k
 | .inr x=>hashStr w x
theorem we:∀ {k:Key}{v:Value},pB k v=true->(∃ i t,k=Sum.inl i/\v=Value.int i t)\/(∃ x t,k=Sum.inr x/\v=Value.str x t)
 | .inl i,v,h=>by
  obtain ⟨t,e⟩:=Value.isInt_shape (k:=i) (v:=v) h;exact .inl ⟨i,t,rfl,e⟩
 | .inr x,v,h=>by
  obtain ⟨t,e⟩:=Value.isStrOf_shape (x:=x) (v:=v) h;exact .inr ⟨x,t,rfl,e⟩
theorem MA (i:Int)(t:Tok):pB (.inl i) (.int i t)=true:=by simp [pB,Value.isInt]
theorem Mz (x:Str)(t:Tok):pB (.inr x) (.str x t)=true:=by simp [pB,Value.isStrOf]
theorem UD (a b:Int):decide ((Sum.inl a:Key)=Sum.inl b)=(a == b):=by
 by_cases e:a=b
 ·subst e;simp
 ·have h:¬ (Sum.inl a:Key)=Sum.inl b:=λq=>e (Sum.inl.inj q);rw [decide_eq_false h];exact (beq_eq_false_iff_ne.mpr e).symm
theorem UA (a b:Str):decide ((Sum.inr a:Key)=Sum.inr b)=decide (a=b):=by
 by_cases e:a=b
 ·subst e;simp
 ·have h:¬ (Sum.inr a:Key)=Sum.inr b:=λq=>e (Sum.inr.inj q);rw [decide_eq_false h,decide_eq_false e]
theorem UC (a:Int)(b:Str):decide ((Sum.inl a:Key)=Sum.inr b)=false:=decide_eq_false (λq=>nomatch q)
theorem UB (a:Str)(b:Int):decide ((Sum.inr a:Key)=Sum.inl b)=false:=decide_eq_false (λq=>nomatch q)
def bQ (prog:Program)(w:World):PySem.KeyKind prog w Key where
 is:=pB
 hash:=aaR w
 inj:=λv a b ha hb=>by
  rcases we ha with ⟨i,t,rfl,rfl⟩ | ⟨x,t,rfl,rfl⟩
  ·rcases we hb with ⟨j,u,rfl,e⟩ | ⟨y,u,rfl,e⟩
   ·injection e with e1 _;rw [e1]
   ·exact nomatch e
  ·rcases we hb with ⟨j,u,rfl,e⟩ | ⟨y,u,rfl,e⟩
   ·exact nomatch e
   ·injection e with e1 _;rw [e1]
 byValue:=λk v h=>by
  rcases we h with ⟨i,t,rfl,rfl⟩ | ⟨x,t,rfl,rfl⟩ <;> rfl
 pyHash:=λhv h=>by
  rcases we hv with ⟨i,t,rfl,rfl⟩ | ⟨x,t,rfl,rfl⟩
  ·exact wpAny_pyHash_int h
  ·exact wpAny_pyHash_str h
 eqBool:=λhu hv h=>by
  rcases we hu with ⟨i,t,rfl,rfl⟩ | ⟨x,t,rfl,rfl⟩
  ·rcases we hv with ⟨j,u,rfl,rfl⟩ | ⟨y,u,rfl,rfl⟩
   ·rw [UD] at h;exact wpAny_eqBool_int h
   ·rw [UC] at h;exact SeqAt.EqAt.int_str i t y u _ _ _ _ h
  ·rcases we hv with ⟨j,u,rfl,rfl⟩ | ⟨y,u,rfl,rfl⟩
   ·rw [UB] at h;exact SeqAt.EqAt.str_int x t j u _ _ _ _ h
   ·rw [UA] at h;exact wpAny_eqBool_str h
 «strs»:=λk x t v h=>by
  rcases we h with ⟨i,u,rfl,e⟩ | ⟨y,u,rfl,e⟩
  ·exact nomatch e
  ·injection e with e1 _
   subst e1;cases v <;> rfl
theorem tH (prog:Program)(w:World)(i:Int)(t:Tok):(bQ prog w).is (.inl i) (.int i t)=true:=MA i t
theorem tF (prog:Program)(w:World)(x:Str)(t:Tok):(bQ prog w).is (.inr x) (.str x t)=true:=Mz x t
inductive V where
 | bZ | bl (b:Bool) | int (i:Int) | str (x:Str) | Lo (b:Array UInt8) | Vd (b:UInt64) | ref (a:Addr) | ty (n:String)
 deriving DecidableEq
def RelV:V->Value->Prop
 | .bZ,u=>u=Value.none
 | .bl b,u=>u=Value.bool b
 | .int i,u=>∃ t,u=Value.int i t
 | .str x,u=>∃ t,u=Value.str x t
 | .Lo b,u=>∃ t,u=Value.bytes b t
 | .Vd b,u=>∃ t,u=Value.float b t
 | .ref a,u=>u=Value.ref a
 | .ty n,u=>u=Value.type n
abbrev Vals:List V->List Value->Prop:=Paired RelV
theorem Vals.length {xs:List V}{us:List Value}(r:Vals xs us):xs.length=us.length:=Paired.length r
theorem Vals.get:∀ {xs:List V}{us:List Value}{i:Nat}{x:V},Vals xs us->xs[i]?=some x->∃ u,us[i]?=some u/\RelV x u
 | _,_,_,_,.nil,e=>by simp at e
 | _,_,0,_,.cons r _,e=>by simp at e;subst e;exact ⟨_,rfl,r⟩
 | _,_,i + 1,x,.cons _ t,e=>by
  obtain ⟨u,h1,h2⟩:=Vals.get (i:=i) (x:=x) t (by simpa using e);exact ⟨u,by simpa using h1,h2⟩
theorem Vals.set {x:V}{u:Value}(r:RelV x u):∀ {xs:List V}{us:List Value} (i:Nat),Vals xs us->Vals (xs.set i x) (us.set i u)
 | _,_,_,.nil=>.nil
 | _,_,0,.cons _ t=>.cons r t
 | _,_,i + 1,.cons q t=>.cons q (Vals.set r i t)
theorem Vals.append:∀ {xs ys:List V}{us ws:List Value},Vals xs us->Vals ys ws->Vals (xs++ys) (us++ws)
 | _,_,_,_,.nil,s=>s
 | _,_,_,_,.cons r t,s=>.cons r (Vals.append t s)
theorem Vals.take:∀ {xs:List V}{us:List Value} (n:Nat),Vals xs us->Vals (xs.take n) (us.take n)
 | _,_,0,_=>.nil
 | _,_,_ + 1,.nil=>.nil
 | _,_,n + 1,.cons r t=>.cons r (Vals.take n t)
theorem Vals.drop:∀ {xs:List V}{us:List Value} (n:Nat),Vals xs us->Vals (xs.drop n) (us.drop n)
 | _,_,0,r=>r
 | _,_,_ + 1,.nil=>.nil
 | _,_,n + 1,.cons _ t=>Vals.drop n t
def nN:Option V->Option Value->Prop
 | some v,some u=>RelV v u
 | none,none=>True
 | _,_=>False
def KV {κ:Type}:List (κ×V)->List (κ×Value)->Prop:=Paired λ(p:κ×V) (q:κ×Value)=>p.1=q.1/\RelV p.2 q.2
def kV:Key->V
 | .inl i=>.int i
 | .inr x=>.str x
inductive HO where
  | lst (xs:List V)
  | tup (xs:List V)
  | dK (aJ:List (Key×V)) | dT (aJ:List (List Key×V))
  | set (S:Int->Bool) (n:Nat)
  | ins (C dx:Addr) (fs:List (Str×V))
  | own (x:Addr)
  | xd (fs:List (Str×V))
  | met (f x:Addr)
  | WH (lo hi:Int)
  | nW (o:Obj) (u:HO)
  | jM (ps:Array Value)
  | ext (φ:Heap->Prop)
abbrev Hp:=Addr->Option HO
def upd (H:Hp)(a:Addr)(o:HO):Hp:=λb=>if b=a then some o else H b
theorem xg {H:Hp}{a:Addr}{o:HO}:upd H a o a=some o:=by unfold upd;rw [if_pos rfl]
theorem xq {H:Hp}{a b:Addr}{o:HO}(h:b≠a):upd H a o b=H b:=by unfold upd;rw [if_neg h]
theorem cH {H:Hp}{a b:Addr}{o u:HO}(h:H a=some o)(h':H b=some u)(d:o≠u):a≠b:=by intro e;subst e;rw [h] at h';exact d (Option.some.inj h')
theorem xj {H:Hp}{a b:Addr}{o:HO}(h:H a=some o)(h':H b=none):a≠b:=by intro e;subst e;rw [h] at h';cases h'
theorem mK {h:Heap}{o:Obj}(hf:o.isFreed=false:=by rfl)(hd:o.dict=none:=by rfl):∀ ob,(h.push o).get? h.objs.size=some ob->ob.dict=none:=λob e=>by
 rw [Heap.get?_push_size h hf] at e;cases e;exact hd
section
variable (P:Program) (w:World)
def bq (H:Hp)(h:Heap)(a:Addr):HO->Prop
 | .lst xs=>xs.length<=sizeLine/\∃ (ay:List Value) (n:Nat),Vals xs ay/\h.get? a=some { cls:=.type "list", data:=.seq ay.toArray n }
 | .tup xs=>(xs.length<=sizeLine/\∀ ob,h.get? a=some ob->ob.dict=none)/\∃ ay:List Value,Vals xs ay/\IsTup h a ay.toArray
 | .dK aJ=>aJ.length<=sizeLine/\(a == sysModules)=false/\∃ vs,KV aJ vs/\h.DictOf (bQ P w) a vs
 | .dT aJ=>aJ.length<=sizeLine/\(a == sysModules)=false/\∃ xs:List (List Key×Addr×Value),
   Paired (λ(p:List Key×V) (q:List Key×Addr×Value)=>p.1=q.1/\H q.2.1=some (.tup (p.1.map kV))/\RelV p.2 q.2.2) aJ xs /\
   ∃ o es ep,h.get? a=some o/\o.ExactDict/\o.data=.dict es ep/\es.toList=xs.map (entryOfKey (tupleKind (bQ P w)))/\(xs.map (·.1)).Nodup
 | .set S n=>h.SetOf (intKind P w) a S n
 | .ins C dx fs=>H dx=some (.own a)/\fs.length<=1000/\dx≠a/\h.get? a=some (PySem.W.instObj C dx) /\
   ∃ mA,h.Ns1 dx mA/\(∀ f,nN (fs.lookup f) (mA f))/\PySem.Within mA (fs.map (·.1))
 | .own _=>∃ o,h.get? a=some o
 | .xd fs=>∃ mA,h.Ns1 a mA/\∀ f,nN (fs.lookup f) (mA f)
 | .WH lo hi=>∃ t u v,h.get? a=some { cls:=.type "range", data:=.fields #[.int lo t,.int hi u,.int 1 v] }
 | .nW o u=>h.get? a=some o/\bq H h a u
 | .jM ps=>h.get? a=some { cls:=.none,data:=.fields ps }
 | .met f x=>h.get? a=some (PySem.W.methodObj (.ref f) (.ref x))
 | .ext φ=>φ h/\(∃ o,h.get? a=some o)/\∀ h1 h2:Heap,φ h1->(∀ o,h1.get? a=some o->h2.get? a=some o)->φ h2
def fW (H:Hp)(h:Heap):Prop:=∀ a o,H a=some o->bq P w H h a o
end
section
variable {P:Program}{w:World}{H H':Hp}{h h':Heap}{a:Addr}{o:HO}
theorem bq.lt (x:bq P w H h a o):a < h.objs.size:=by
 cases o with
 | lst xs=>obtain ⟨_,_,_,_,e⟩:=x;exact Heap.lt_size e
 | tup xs=>obtain ⟨_,_,_,p⟩:=x;exact p.lt
 | dK aJ=>obtain ⟨_,_,_,_,o,_,_,e,_⟩:=x;exact Heap.lt_size e
 | dT aJ=>obtain ⟨_,_,_,_,o,_,_,e,_⟩:=x;exact Heap.lt_size e
 | set S n=>obtain ⟨o,_,_,_,e,_⟩:=x;exact Heap.lt_size e
 | ins C dx fs=>obtain ⟨_,_,_,e,_⟩:=x;exact Heap.lt_size e
 | own y=>obtain ⟨_,e⟩:=x;exact Heap.lt_size e
 | xd fs=>obtain ⟨_,⟨_,_,_,e,_⟩,_⟩:=x;exact Heap.lt_size e
 | WH lo hi=>obtain ⟨_,_,_,e⟩:=x;exact Heap.lt_size e
 | nW ob u=>obtain ⟨e,_⟩:=x;exact Heap.lt_size e
 | jM ps=>exact Heap.lt_size (show h.get? a=some _ from x)
 | met f y=>exact Heap.lt_size (show h.get? a=some _ from x)
 | ext φ=>obtain ⟨_,⟨_,e⟩,_⟩:=x;exact Heap.lt_size e
theorem Paired.Uv {α β:Type}{F G:α->β->Prop}:∀ {Xe:List α}{Xd:List β},Paired F Xe Xd->(∀ a b,F a b->G a b)->Paired G Xe Xd
 | _,_,.nil,_=>.nil
 | _,_,.cons r t,f=>.cons (f _ _ r) (Paired.Uv t f)
theorem bq.dh (x:bq P w H h a o)(k:∀ b u,(b=a\/H b=some (.own a))->h.get? b=some u->h'.get? b=some u)
  (ho:∀ b,H b=some (.own a)->H' b=some (.own a)) (ht:∀ b xs,H b=some (.tup xs)->H' b=some (.tup xs)):bq P w H' h' a o:=by
 induction o with
 | lst xs=>obtain ⟨z,ay,n,r,e⟩:=x;exact ⟨z,ay,n,r,k _ _ (.inl rfl) e⟩
 | tup xs=>obtain ⟨z,ay,r,ob,e,c⟩:=x;exact ⟨⟨z.1,λob' e'=>by rw [k _ _ (.inl rfl) e] at e';cases e';exact z.2 _ e⟩,ay,r,ob,k _ _ (.inl rfl) e,c⟩
 | dK aJ=>obtain ⟨z,y,vs,r,ob,es,ep,e,c⟩:=x;exact ⟨z,y,vs,r,ob,es,ep,k _ _ (.inl rfl) e,c⟩
 | dT aJ=>
  obtain ⟨z,y,xs,r,ob,es,ep,e,c⟩:=x;exact ⟨z,y,xs,Paired.Uv r λp q z=>⟨z.1,ht _ _ z.2.1,z.2.2⟩,ob,es,ep,k _ _ (.inl rfl) e,c⟩
 | set S n=>obtain ⟨ob,es,ep,t,e,c⟩:=x;exact ⟨ob,es,ep,t,k _ _ (.inl rfl) e,c⟩
 | ins C dx fs=>
  obtain ⟨d,z,ne,e,mA,⟨od,es,ep,e2,c⟩,r⟩:=x;exact ⟨ho _ d,z,ne,k _ _ (.inl rfl) e,mA,⟨od,es,ep,k _ _ (.inr d) e2,c⟩,r⟩
 | own y=>obtain ⟨ob,e⟩:=x;exact ⟨ob,k _ _ (.inl rfl) e⟩
 | xd fs=>obtain ⟨mA,⟨od,es,ep,e,c⟩,r⟩:=x;exact ⟨mA,⟨od,es,ep,k _ _ (.inl rfl) e,c⟩,r⟩
 | WH lo hi=>obtain ⟨t,u,v,e⟩:=x;exact ⟨t,u,v,k _ _ (.inl rfl) e⟩
 | nW ob u ih=>obtain ⟨e,q⟩:=x;exact ⟨k _ _ (.inl rfl) e,ih q⟩
 | jM ps=>
  have e:h.get? a=some { cls:=.none,data:=.fields ps }:=x;show h'.get? a=some { cls:=.none,data:=.fields ps };exact k a _ (.inl rfl) e
 | met f y=>
  have e:h.get? a=some (PySem.W.methodObj (.ref f) (.ref y)):=x;show h'.get? a=some (PySem.W.methodObj (.ref f) (.ref y));exact k a _ (.inl rfl) e
 | ext φ=>obtain ⟨p,⟨o,e⟩,st⟩:=x;exact ⟨st _ _ p λo q=>k _ _ (.inl rfl) q,⟨o,k _ _ (.inl rfl) e⟩,st⟩
theorem fW.lt (x:fW P w H h)(e:H a=some o):a < h.objs.size:=(x a o e).lt
theorem fW.fresh (x:fW P w H h)(e:h.objs.size<=a):H a=none:=by
 cases q:H a with
 | none=>rfl
 | some u=>exact absurd (zU (x.lt q) e) (z6 _)
theorem fW.kept (x:fW P w H h)(k:∀ b u,h.get? b=some u->h'.get? b=some u):fW P w H h':=λa o e=>
 (x a o e).dh (λb u _ q=>k b u q) (λ_ q=>q) λ_ _ q=>q
theorem fW.laid (x:fW P w H h)(k:∀ b u,h.get? b=some u->h'.get? b=some u)(hp:h.objs.size<=a)(new:bq P w (upd H a o) h' a o):fW P w (upd H a o) h':=λb u e=>by
 have hn:=x.fresh hp;by_cases hb:b=a
 ·subst hb;rw [xg] at e;cases e;exact new
 ·rw [xq hb] at e;exact (x b u e).dh (λc v _ q=>k c v q) (λc q=>by rw [xq (xj q hn)];exact q) λc xs q=>by rw [xq (xj q hn)];exact q
end
def Rd (H:Hp)(a:Addr)(u:HO):Prop:=H a=some u\/∃ o,H a=some (.nW o u)
theorem Rd.ok {P:Program}{w:World}{H:Hp}{h:Heap}{a:Addr}{u:HO}(r:Rd H a u)(x:fW P w H h):bq P w H h a u:=by
 rcases r with r | ⟨o,r⟩
 ·exact x a u r
 ·obtain ⟨_,q⟩:=x a _ r;exact q
def Yj:Option HO->Prop
 | some (.lst _)=>True
 | some (.dK _)=>True
 | some (.dT _)=>True
 | some (.set _ _)=>True
 | some (.ins _ _ _)=>True
 | some (.ext _)=>True
 | _=>False
section
variable {P:Program}{w:World}{H:Hp}{h h':Heap}{x e:Addr}{o':HO}
theorem fW.write (ok:fW P w H h)(mu:Yj (H x))(he:e=x\/H e=some (.own x))(k:∀ b u,b≠e->h.get? b=some u->h'.get? b=some u)(V0:∃ u,h'.get? e=some u)
  (new:bq P w (upd H x o') h' x o'):fW P w (upd H x o') h':=λb u q=>by
 have WU:∀ c y,H c=some (.own y)->c≠x:=λc y r z=>by subst z;rw [r] at mu;exact mu
 have aaF:∀ c xs,H c=some (.tup xs)->c≠x:=λc xs r z=>by subst z;rw [r] at mu;exact mu
 by_cases hb:b=x
 ·subst hb;rw [xg] at q;cases q;exact new
 ·rw [xq hb] at q;by_cases UY:b=e
  ·have q':H b=some (.own x):=by
    rcases he with z | z
    ·exact absurd (UY.trans z) hb
    ·rw [UY];exact z
   rw [q] at q';cases q';obtain ⟨v,hv⟩:=V0;exact ⟨v,by rw [UY];exact hv⟩
  ·refine (ok b u q).dh (λc v hc r=>k c v ?_ r) (λc r=>by rw [xq (WU c b r)];exact r) λc xs r=>by rw [xq (aaF c xs r)];exact r
   rcases hc with rfl | hc
   ·exact UY
   ·rintro rfl;rcases he with z | z
    ·exact WU c b hc z
    ·rw [hc] at z;cases z;exact hb rfl
end
structure Un (fs ex:List Addr) (H H':Hp) (h h':Heap):Prop where
 keep:∀ b o,h.get? b=some o->H b=none->b ∉ fs->b ∉ ex->h'.get? b=some o
 slot:∀ b o,h.get? b=some o->H b=none->b∈fs->b ∉ ex->∃ sl,h'.get? b=some { o with slots:=sl }
 free:∀ b o,h.get? b=some o->H b=none->b ∉ ex->H' b=none
 there:∀ b o,h.get? b=some o->b ∉ ex->∃ o',h'.get? b=some o'
 aS:∀ b xs,H b=some (.tup xs)->H' b=some (.tup xs)
 dZ:∀ b o u,H b=some (.nW o u)->H' b=some (.nW o u)
 dX:∀ b ps,H b=some (.jM ps)->∃ more,H' b=some (.jM (ps++more))
section
variable {fs fs' ex ex':List Addr} {H H1 H2:Hp} {h h1 h2 h':Heap}{a x e:Addr}{o:HO}
theorem Un.any (u:Un fs ex H H1 h h1){b:Addr}{ob:Obj}(q:h.get? b=some ob)(n:H b=none)(hx:b ∉ ex):∃ sl,h1.get? b=some { ob with slots:=sl }:=by
 by_cases hb:b∈fs
 ·exact u.slot b ob q n hb hx
 ·exact ⟨ob.slots,u.keep b ob q n hb hx⟩
theorem Un.kept (k:∀ b u,h.get? b=some u->h'.get? b=some u):Un fs ex H H h h':=
 ⟨λb ob q _ _ _=>k b ob q,λb ob q _ _ _=>⟨ob.slots,k b ob q⟩,λ_ _ _ n _=>n,λb ob q _=>⟨ob,k b ob q⟩,λ_ _ q=>q,λ_ _ _ q=>q,λ_ ps q=>⟨#[],by rw [q];simp⟩⟩
theorem Un.refl:Un fs ex H H h h:=Un.kept λ_ _ q=>q
theorem Un.laid (k:∀ b u,h.get? b=some u->h'.get? b=some u)(hp:h.objs.size<=a)(hn:H a=none):Un fs ex H (upd H a o) h h' where
 keep:=λb u q _ _ _=>k b u q
 slot:=λb u q _ _ _=>⟨u.slots,k b u q⟩
 free:=λb u q n _=>by rw [xq (zV (zU (Heap.lt_size q) hp))];exact n
 there:=λb u q _=>⟨u,k b u q⟩
 aS:=λb xs q=>by rw [xq (xj q hn)];exact q
 dZ:=λb u xs q=>by rw [xq (xj q hn)];exact q
 dX:=λb ps q=>⟨#[],by rw [xq (xj q hn),q];simp⟩
theorem Un.write (mu:Yj (H x))(he:e=x\/H e=some (.own x))(k:∀ b u,b≠e->h.get? b=some u->h'.get? b=some u)(V0:∃ u,h'.get? e=some u):Un fs ex H (upd H x o) h h':=by
 have hx:∀ b,H b=none->b≠x:=λb n z=>by subst z;rw [n] at mu;exact mu
 have hb:∀ b,H b=none->b≠e:=λb n z=>by
  subst z;rcases he with r | r
  ·exact hx b n r
  ·rw [n] at r;cases r
 have hm:∀ b u,H b=some u->¬ Yj (some u)->b≠x:=λb u q nm z=>by subst z;rw [q] at mu;exact nm mu
 refine ⟨λb u q n _ _=>k b u (hb b n) q,λb u q n _ _=>⟨u.slots,k b u (hb b n) q⟩,λb u q n _=>by rw [xq (hx b n)];exact n,λb u q _=>?_,
  λb xs q=>by rw [xq (hm b _ q λz=>z)];exact q,λb u xs q=>by rw [xq (hm b _ q λz=>z)];exact q,λb ps q=>⟨#[],by rw [xq (hm b _ q λz=>z),q];simp⟩⟩
 by_cases UY:b=e
 ·subst UY;exact V0
 ·exact ⟨u,k b u UY q⟩
end
def Yu (h:Heap)(H:Hp):List Addr:=(List.range h.objs.size).filter λa=>(H a).isSome
def oh (h:Heap)(H:Hp):Heap:=PySem.W.hideAll h (Yu h H)
theorem MI (h:Heap)(H:Hp):(oh h H).objs.size=h.objs.size:=PySem.W.hideAll_size _ _
theorem Pa {h:Heap}{H:Hp}{b:Addr}{o:Obj}(e:h.get? b=some o)(n:H b=none):(oh h H).get? b=some o:=
 PySem.W.hideAll_get _ e λhm=>by
  have q:(H b).isSome=true:=(List.mem_filter.mp hm).2;rw [n] at q;simp at q
theorem RB {h:Heap}{H:Hp}{b:Addr}{o:Obj}(e:(oh h H).get? b=some o):h.get? b=some o/\H b=none:=by
 have e':h.get? b=some o:=PySem.W.of_hideAll (Yu h H) e;refine ⟨e',?_⟩;cases q:H b with
 | none=>rfl
 | some x=>
  have hm:b∈Yu h H:=List.mem_filter.mpr ⟨zm.mpr (Heap.lt_size e'),by simp [q]⟩;have z:(oh h H).get? b=none:=PySem.W.hideAll_none (Yu h H) hm;rw [z] at e;cases e
def fT (g h:Heap)(L:Addr):List (Addr×Obj):=(List.range h.objs.size).filterMap λa=>if a=L\/(g.get? a).isSome=true then none else (h.get? a).map λo=>(a,o)
theorem eS {g h:Heap}{L a:Addr}{o:Obj}(h1:a≠L)(h2:g.get? a=none)(h3:h.get? a=some o):(a,o)∈fT g h L:=
 yh.mpr ⟨a,zm.mpr (Heap.lt_size h3),by simp [h1,h2,h3]⟩
theorem mE {g h:Heap}{L:Addr}{p:Addr×Obj}(hp:p∈fT g h L):p.1≠L/\g.get? p.1=none/\h.get? p.1=some p.2:=by
 obtain ⟨b,_,e⟩:=yh.mp hp;split at e
 ·cases e
 ·rename_i hn;cases q:h.get? b with
  | none=>rw [q] at e;simp at e
  | some u=>
   rw [q] at e;simp only [ye,Option.some.injEq] at e;subst e;refine ⟨λz=>hn (.inl z),?_,q⟩;show g.get? b=none;cases r:g.get? b with
   | none=>rfl
   | some v=>exact (hn (.inr (by simp [r]))).elim
def rest (g h:Heap)(L d:Addr):List (Addr×Obj):=(fT g h L).filter λp=>decide (p.1≠d)
theorem mJ {g h:Heap}{L:Addr}:News g L h (fT g h L):=λp hp=>let ⟨a,b,c⟩:=mE hp;⟨c,a,b⟩
structure Mod (K:PySem.W.Frag) (mg:Str->Option Value) (base:Heap):Prop where
 VS:K.In base
 glob:base.Ns mainGlobals mg
 blt:∃ mb,base.Ns builtinsNs mb/\∀ x:Str,x ≠ "__name__" -> mb x=bootBuiltins x
 nolimit:base.NoLimit
structure Cx where
 prog:Program
 w:World
 K:PySem.W.Frag
 mg:Str->Option Value
 base:Heap
 A:Around
 N:List Str
 cC:Shared
 uE:Hp
 env:Env
 outer:List Env
 stack:List Env
 ex:List Addr
 fn:Str->Bool
 calm:Bool
 pn:List (Addr×Obj)
 xe:Value->Shared->Prop
def mZ (l:List Env):List Addr:=l.filterMap (·.frame)
abbrev Cx.fs (X:Cx):List Addr:=mZ X.outer
def Zb (sc:Scope)(x:Str):Prop:=sc.names.lookup x=some .local\/sc.names.lookup x=some .cell\/sc.names.lookup x=some .free
def Loc (sc:Scope)(x:Str):Prop:=sc.names.lookup x=some .local\/sc.names.lookup x=some .cell
def Look (env:Env)(h:Heap)(m:Str->Option Value)(x:Str)(u:Value):Prop:=
 (env.kindOf x=some .local/\m x=some u)\/((env.kindOf x=some .cell\/env.kindOf x=some .free)/\∃ c,env.cells.lookup x=some c/\h.IsCell c (some u))
structure Cx.Ok (X:Cx):Prop where
 mod:Mod X.K X.mg X.base
 kind:X.env.scope.kind=.function
 glob:X.env.globals=mainGlobals
 blt:X.env.builtins=builtinsNs
 above:X.cC.heap.objs.size<=X.env.locals
 inj:∀ x y c,X.env.cells.lookup x=some c->X.env.cells.lookup y=some c->x=y
 has:∀ x,(X.env.kindOf x=some .cell\/X.env.kindOf x=some .free)->∃ c,X.env.cells.lookup x=some c
 V8:∀ x c,X.fn x=true->X.env.cells.lookup x=some c->X.cC.heap.objs.size<=c
 hd:X.calm=true->X.A.handled=none
 frames:X.A.frames=some X.stack
 Qn:X.stack=X.outer\/(X.stack=X.env::X.outer/\X.env.frame=some X.env.locals)
 exf:∀ b∈X.ex,b≠X.env.locals/\∀ x c,X.env.cells.lookup x=some c->c≠b
 bs:∀ b o,X.base.get? b=some o->X.cC.heap.get? b=some o/\X.uE b=none
 M9:X.base.objs.size<=X.cC.heap.objs.size
 Mn:∀ b o,X.base.get? b=some o->b ∉ X.ex
 Pu:∀ b∈X.ex,b ∉ X.fs
 gP:X.cC.heap.FunFrames X.base X.outer
 QC:∀ b∈X.fs,X.uE b=none
structure Inv (X:Cx) (ah:List (Addr×Obj)) (σ:List (Option V)) (H:Hp) (s:Shared):Prop where
 ok:X.Ok
 os:s.os=X.cC.os
 bare:AllBare s.gens
 base:Un X.fs X.ex X.uE H X.cC.heap s.heap
 loc:∃ m,s.heap.Ns X.env.locals m/\∀ (i:Nat) (x:Str) (v:V),X.N[i]?=some x->σ[i]?=some (some v)->Zb X.env.scope x->∃ u,RelV v u/\Look X.env s.heap m x u
 cell:∀ x c,X.env.cells.lookup x=some c->∃ v,s.heap.IsCell c v
 free:H X.env.locals=none
 eU:∀ x c,X.env.cells.lookup x=some c->H c=none
 pin:∀ p∈X.pn++ah,s.heap.get? p.1=some p.2/\H p.1=none/\p.1≠X.env.locals/\p.1 ∉ X.fs/\∀ v,p.2.data≠.cell v
 aT:fW X.prog X.w H s.heap
 len:σ.length=X.N.length
section
variable {X:Cx}{ah:List (Addr×Obj)}{σ:List (Option V)}{H H':Hp}{s:Shared}{h':Heap}
theorem Cx.Ok.aaG (ok:X.Ok){b:Addr}{o:Obj}(e:X.base.get? b=some o):b ∉ X.fs:=λhb=>by
 have:=(ok.gP.mem hb).1;rw [e] at this;cases this
theorem Inv.bs (I:Inv X ah σ H s):∀ b o,X.base.get? b=some o->s.heap.get? b=some o/\H b=none:=λb o e=>
 ⟨I.base.keep b o (I.ok.bs b o e).1 (I.ok.bs b o e).2 (I.ok.aaG e) (I.ok.Mn b o e),I.base.free b o (I.ok.bs b o e).1 (I.ok.bs b o e).2 (I.ok.Mn b o e)⟩
theorem Inv.bk (I:Inv X ah σ H s):∀ b o,X.base.get? b=some o->s.heap.get? b=some o:=λb o e=>(I.bs b o e).1
theorem Inv.mod (I:Inv X ah σ H s):Mod X.K X.mg X.base:=I.ok.mod
theorem Inv.kY (I:Inv X ah σ H s):X.K.In s.heap:=I.ok.mod.VS.keeps I.bk
theorem Inv.nolimit (I:Inv X ah σ H s):s.heap.NoLimit:=I.ok.mod.nolimit.keeps I.bk
theorem Inv.fr (I:Inv X ah σ H s):∃ m,Fr X.base X.env.locals s.heap m:=
 let ⟨m,hn,_⟩:=I.loc
 ⟨m,hn,I.bk,z4 I.ok.M9 I.ok.above⟩
theorem Inv.lt (I:Inv X ah σ H s):X.env.locals < s.heap.objs.size:=let ⟨_,hn,_⟩:=I.loc;hn.lt
theorem Inv.sz (I:Inv X ah σ H s):X.cC.heap.objs.size<=s.heap.objs.size:=z4 I.ok.above (xG I.lt)
theorem Inv.WV (I:Inv X ah σ H s){a:Addr}(h:s.heap.objs.size<=a):a ∉ X.fs:=λhb=>by
 obtain ⟨_,o,ho,_⟩:=I.ok.gP.mem hb;exact absurd (zU (Heap.lt_size ho) (z4 I.sz h)) (z6 _)
theorem Inv.PY (I:Inv X ah σ H s):∀ x c,X.env.cells.lookup x=some c->c≠X.env.locals:=λx c e z=>by
 obtain ⟨v,o,ho,hd⟩:=I.cell x c e;obtain ⟨m,⟨o',es,ep,vR,R4,_⟩,_⟩:=I.loc;rw [z,vR] at ho;cases ho;rw [R4] at hd;cases hd
theorem Inv.gP (I:Inv X ah σ H s):s.heap.FunFrames X.base X.outer:=by
 have all:∀ (l:List Env),(∀ b∈mZ l,b∈X.fs)->X.cC.heap.FunFrames X.base l->s.heap.FunFrames X.base l:=by
  intro l;induction l with
  | nil=>intro _ _;trivial
  | cons env r ih=>
   intro hs hl;obtain ⟨hk,⟨L,o,hf,hn,ho,hd⟩,hr⟩:=hl;have hL:L∈X.fs:=hs L (by unfold mZ;rw [xB,hf];exact yZ);obtain ⟨sl,e⟩:=I.base.slot L o ho (I.ok.QC L hL) hL λz=>I.ok.Pu L z hL;exact ⟨hk,⟨L,_,hf,hn,e,hd⟩,ih (λb hb=>hs b (by unfold mZ;rw [xB,hf];exact yA _ hb)) hr⟩
 exact all X.outer (λ_ hb=>hb) I.ok.gP
theorem Inv.stack (I:Inv X ah σ H s):s.heap.FunFrames X.base X.stack:=by
 rcases I.ok.Qn with e | ⟨e,hf⟩
 ·rw [e];exact I.gP
 ·rw [e];obtain ⟨m,hn,_⟩:=I.loc;refine .cons (by rw [I.ok.kind];decide) hf hn ?_ I.gP;exact Heap.get?_none_of_le (z4 I.ok.M9 I.ok.above)
theorem Inv.gq (I:Inv X ah σ H s):∀ b∈mZ X.stack,b∈X.env.locals::X.fs:=λb hb=>by
 rcases I.ok.Qn with e | ⟨e,hf⟩
 ·rw [e] at hb;exact yA _ hb
 ·rw [e] at hb;unfold mZ at hb;rw [xB,hf] at hb;exact hb
theorem Inv.lF (I:Inv X ah σ H s):∀ b∈mZ X.stack,H b=none:=λb hb=>by
 rcases zO.mp (I.gq b hb) with e | hb
 ·rw [e];exact I.free
 ·obtain ⟨_,o,ho,_⟩:=I.ok.gP.mem hb;exact I.base.free b o ho (I.ok.QC b hb) λz=>I.ok.Pu b z hb
theorem Inv.step {g':Array GenState}{t':Nat}{d':Drawn}{ch:List Addr}(I:Inv X ah σ H s)
  (Qz:∀ b∈ch,(b∈X.ex\/X.cC.heap.objs.size<=b)/\b≠X.env.locals/\(∀ x c,X.env.cells.lookup x=some c->c≠b)/\∀ p∈X.pn++ah,p.1≠b)
  (keep:∀ b o,b≠X.env.locals->b ∉ X.fs->b ∉ ch->s.heap.get? b=some o->H b=none->h'.get? b=some o)
  (slot:∀ b o,b≠X.env.locals->b∈X.fs->b ∉ ch->s.heap.get? b=some o->H b=none->∃ sl,h'.get? b=some { o with slots:=sl }) (free:∀ b o,b ∉ ch->s.heap.get? b=some o->H b=none->H' b=none)
  (there:∀ b o,b ∉ ch->s.heap.get? b=some o->∃ o',h'.get? b=some o')
  (aS:∀ b xs,H b=some (.tup xs)->H' b=some (.tup xs)) (dZ:∀ b o u,H b=some (.nW o u)->H' b=some (.nW o u)) (dX:∀ b ps,H b=some (.jM ps)->∃ more,H' b=some (.jM (ps++more)))
  (ns:∀ m,s.heap.Ns X.env.locals m->h'.Ns X.env.locals m) (aT:fW X.prog X.w H' h') (hg:AllBare g') :
  Inv X ah σ H' { s with heap:=h',gens:=g',drawn:=d',toks:=t' }:=by
 have neL:∀ b o,X.cC.heap.get? b=some o->b≠X.env.locals:=λb o e=>zV (zU (Heap.lt_size e) I.ok.above);have OP:∀ b o,X.cC.heap.get? b=some o->b ∉ X.ex->b ∉ ch:=λb o e hx hb=>by
  rcases (Qz b hb).1 with z | z
  ·exact hx z
  ·exact absurd (zU (Heap.lt_size e) z) (z6 _)
 have cellK:∀ x c,X.env.cells.lookup x=some c->∀ v,s.heap.IsCell c v->h'.IsCell c v:=λx c e v ⟨o,ho,hd⟩=>by
  have qx:c ∉ ch:=λz=>(Qz c z).2.2.1 x c e rfl;by_cases hc:c∈X.fs
  ·obtain ⟨sl,q⟩:=slot c o (I.PY x c e) hc qx ho (I.eU x c e);exact ⟨_,q,hd⟩
  ·exact ⟨o,keep c o (I.PY x c e) hc qx ho (I.eU x c e),hd⟩
 refine ⟨I.ok,I.os,hg,⟨λb o e n hb hx=>?_,λb o e n hb hx=>?_,λb o e n hx=>?_,λb o e hx=>?_,λb xs e=>aS b xs (I.base.aS b xs e),λb o xs e=>dZ b o xs (I.base.dZ b o xs e),λb ps e=>?_⟩,?_,λx c e=>?_,?_,λx c e=>?_,λp hp=>?_,aT,I.len⟩
 ·exact keep b o (neL b o e) hb (OP b o e hx) (I.base.keep b o e n hb hx) (I.base.free b o e n hx)
 ·obtain ⟨sl,e1⟩:=I.base.slot b o e n hb hx;obtain ⟨sl',e2⟩:=slot b _ (neL b o e) hb (OP b o e hx) e1 (I.base.free b o e n hx);exact ⟨sl',e2⟩
 ·obtain ⟨o',e1⟩:=I.base.there b o e hx;exact free b o' (OP b o e hx) e1 (I.base.free b o e n hx)
 ·obtain ⟨o',e1⟩:=I.base.there b o e hx;exact there b o' (OP b o e hx) e1
 ·obtain ⟨m1,e1⟩:=I.base.dX b ps e;obtain ⟨m2,e2⟩:=dX b _ e1;exact ⟨m1++m2,by rw [e2,Array.append_assoc]⟩
 ·obtain ⟨m,hn,hl⟩:=I.loc;refine ⟨m,ns m hn,λi x v e1 e2 e3=>?_⟩;obtain ⟨u,r,l⟩:=hl i x v e1 e2 e3;refine ⟨u,r,?_⟩;rcases l with l | ⟨k,c,e,z⟩
  ·exact .inl l
  ·exact .inr ⟨k,c,e,cellK x c e _ z⟩
 ·obtain ⟨v,z⟩:=I.cell x c e;exact ⟨v,cellK x c e v z⟩
 ·obtain ⟨m,⟨o,_,_,ho,_⟩,_⟩:=I.loc;exact free _ o (λz=>(Qz _ z).2.1 rfl) ho I.free
 ·obtain ⟨v,o,ho,hd⟩:=I.cell x c e;exact free c o (λz=>(Qz c z).2.2.1 x c e rfl) ho (I.eU x c e)
 ·obtain ⟨e,n,ne,nf,d⟩:=I.pin p hp;have qx:p.1 ∉ ch:=λz=>(Qz p.1 z).2.2.2 p hp rfl;exact ⟨keep p.1 p.2 ne nf qx e n,free p.1 p.2 qx e n,ne,nf,d⟩
theorem Inv.un {t':Nat}(I:Inv X ah σ H s)(u:Un X.fs [] H H' s.heap h')(aT:fW X.prog X.w H' h'):Inv X ah σ H' { s with heap:=h',toks:=t' }:=by
 obtain ⟨m,⟨o,es,ep,ho,r⟩,_⟩:=id I.loc;obtain ⟨sl,hL⟩:=u.any ho I.free (by simp);exact I.step (g':=s.gens) (d':=s.drawn) (ch:=[]) (λ_ z=>nomatch z) (λb o _ hb _ e n=>u.keep b o e n hb (by simp)) (λb o _ hb _ e n=>u.slot b o e n hb (by simp)) (λb o _ e n=>u.free b o e n (by simp)) (λb o _ e=>u.there b o e (by simp)) u.aS u.dZ u.dX (λm' hm=>by
  obtain ⟨o',lE,Vj,vR,r'⟩:=hm;rw [ho] at vR;cases vR;exact ⟨_,lE,Vj,hL,r'⟩) aT I.bare
theorem Inv.call {g':Array GenState}{t':Nat}{d':Drawn}{ch:List Addr}(I:Inv X ah σ H s)(u:Un (mZ X.stack) ch H H' s.heap h')(aT:fW X.prog X.w H' h')(hg:AllBare g')
  (Qz:∀ b∈ch,(b∈X.ex\/X.cC.heap.objs.size<=b)/\b≠X.env.locals/\(∀ x c,X.env.cells.lookup x=some c->c≠b)/\∀ p∈X.pn++ah,p.1≠b) :
  Inv X ah σ H' { s with heap:=h',gens:=g',drawn:=d',toks:=t' }:=by
 obtain ⟨m,⟨o,es,ep,ho,r⟩,_⟩:=id I.loc;obtain ⟨sl,hL⟩:=u.any ho I.free λz=>(Qz _ z).2.1 rfl;exact I.step (ch:=ch) Qz (λb o hL hb hc e n=>u.keep b o e n (λz=>(zO.mp (I.gq b z)).elim hL hb) hc) (λb o _ _ hc e n=>u.any e n hc) (λb o hc e n=>u.free b o e n hc) (λb o hc e=>u.there b o e hc) u.aS u.dZ u.dX (λm' hm=>by
  obtain ⟨o',lE,Vj,vR,r'⟩:=hm;rw [ho] at vR;cases vR;exact ⟨_,lE,Vj,hL,r'⟩) aT hg
theorem Inv.turned {t':Nat}{it:Addr}(I:Inv X ah σ H s)(k:∀ b o,b≠it->s.heap.get? b=some o->h'.get? b=some o)(hn:H it=none)(hL:it≠X.env.locals)
  (h1:it∈X.ex\/X.cC.heap.objs.size<=it) (h2:∀ x c,X.env.cells.lookup x=some c->c≠it) (h3:∀ p∈X.pn++ah,p.1≠it):Inv X ah σ H { s with heap:=h',toks:=t' }:=by
 have nit:∀ b u,H b=some u->b≠it:=λb u e z=>by rw [z,hn] at e;cases e
 refine I.step (g':=s.gens) (d':=s.drawn) (ch:=[it]) (λb hb=>?_) (λb o _ _ hc e _=>k b o (λz=>hc (by simp [z])) e) (λb o _ _ hc e _=>⟨o.slots,k b o (λz=>hc (by simp [z])) e⟩) (λ_ _ _ _ n=>n)
  (λb o hc e=>⟨o,k b o (λz=>hc (by simp [z])) e⟩) (λ_ _ e=>e) (λ_ _ _ e=>e) (λb ps e=>⟨#[],by rw [e];simp⟩) (λm hm=>?_) (λb u e=>?_) I.bare
 ·have e:b=it:=by simpa using hb
  subst e;exact ⟨h1,hL,h2,h3⟩
 ·obtain ⟨o,es,ep,ho,r⟩:=hm;exact ⟨o,es,ep,k _ o (Ne.symm hL) ho,r⟩
 ·refine (I.aT b u e).dh (λc v hc q=>k c v ?_ q) (λ_ q=>q) λ_ _ q=>q;rcases hc with z | z
  ·rw [z];exact nit b u e
  ·exact nit c _ z
theorem Inv.tok (I:Inv X ah σ H s)(t:Nat):Inv X ah σ H { s with toks:=t }:=I.un (h':=s.heap) (t':=t) Un.refl I.aT
theorem Inv.kept {t':Nat}(I:Inv X ah σ H s)(k:∀ b u,s.heap.get? b=some u->h'.get? b=some u):Inv X ah σ H { s with heap:=h',toks:=t' }:=I.un (Un.kept k) (I.aT.kept k)
theorem Inv.laid {a:Addr}{o:HO}{t':Nat}(I:Inv X ah σ H s)(k:∀ b u,s.heap.get? b=some u->h'.get? b=some u)(hp:s.heap.objs.size<=a)(new:bq X.prog X.w (upd H a o) h' a o) :
  Inv X ah σ (upd H a o) { s with heap:=h',toks:=t' }:=I.un (Un.laid k hp (I.aT.fresh hp)) (I.aT.laid k hp new)
theorem Inv.write {x e:Addr}{o:HO}{t':Nat}(I:Inv X ah σ H s)(mu:Yj (H x))(he:e=x\/H e=some (.own x))(k:∀ b u,b≠e->s.heap.get? b=some u->h'.get? b=some u)(V0:∃ u,h'.get? e=some u)
  (new:bq X.prog X.w (upd H x o) h' x o):Inv X ah σ (upd H x o) { s with heap:=h',toks:=t' }:=I.un (Un.write mu he k V0) (I.aT.write mu he k V0 new)
theorem Inv.bP {eO:List (Addr×Obj)}(I:Inv X ah σ H s)(h:∀ p∈eO,s.heap.get? p.1=some p.2/\H p.1=none/\p.1≠X.env.locals/\p.1 ∉ X.fs/\∀ v,p.2.data≠.cell v):Inv X eO σ H s:=
 ⟨I.ok,I.os,I.bare,I.base,I.loc,I.cell,I.free,I.eU,λp hp=>(zX.mp hp).elim (λz=>I.pin p (zT _ z)) (h p),I.aT,I.len⟩
theorem mH {N:List Str}(hN:N.Nodup){i j:Nat}{x:Str}(a:N[i]?=some x)(b:N[j]?=some x):i=j:=by obtain ⟨h1,e1⟩:=zD.mp a;obtain ⟨h2,e2⟩:=zD.mp b;exact (List.getElem_inj hN).mp (e1.trans e2.symm)
def Mv (sc:Scope)(x:Str):Bool:=match sc.names.lookup x with | some .local=>true | some .cell=>true | _=>false
theorem lK {sc:Scope}{x:Str}(h:Mv sc x=true):Loc sc x:=by
 unfold Mv at h;unfold Loc
 revert h
 cases sc.names.lookup x with
 | none=>intro h;cases h
 | some k=>cases k <;> intro h <;> first | exact .inl rfl | exact .inr rfl | cases h
def iK (X:Cx)(x:Str):Bool:=X.fn x || (match X.env.scope.names.lookup x with | some .local=>true | _=>false)
theorem Po {X:Cx}{x:Str}(h:iK X x=true):X.fn x=true\/X.env.scope.names.lookup x=some .local:=by
 unfold iK at h;cases e:X.fn x with
 | true=>exact .inl rfl
 | false=>
  rw [e,Bool.false_or] at h
  revert h
  cases X.env.scope.names.lookup x with
  | none=>intro h;cases h
  | some k=>cases k <;> intro h <;> first | exact .inr rfl | cases h
theorem Pp {X:Cx}{x:Str}(h:X.env.scope.names.lookup x=some .local):iK X x=true:=by unfold iK;rw [h,Bool.or_true]
def To (sc:Scope)(x:Str):Bool:=match sc.names.lookup x with | some .local=>true | some .cell=>true | some .free=>true | _=>false
theorem QJ {sc:Scope}{x:Str}(h:To sc x=true):Zb sc x:=by
 unfold To at h;unfold Zb
 revert h
 cases sc.names.lookup x with
 | none=>intro h;cases h
 | some k=>cases k <;> intro h <;> first | exact .inl rfl | exact .inr (.inl rfl) | exact .inr (.inr rfl) | cases h
theorem LR {M:Model}{A:Around}{E:Value->Shared->Prop}{i:Nat}{x:Str}{v:V}{u:Value}{Q:Unit->Shared->Prop}(I:Inv X ah σ H s)(hN:X.N.Nodup)(hi:X.N[i]?=some x)(hx:Loc X.env.scope x)(r:RelV v u)
  (h:∀ s',Inv X ah (σ.set i (some v)) H s'->(∃ a,Heap.SameBut a s.heap s'.heap/\(a=X.env.locals\/X.env.cells.lookup x=some a))->Q () s') (hf:iK X x=true:=by rfl):wpAny M A (storeName X.env x u) Q E s:=by
 have hf:=Po hf;obtain ⟨m,hn,hl⟩:=id I.loc;have UX:(X.env.scope.kind == .class || (X.env.scope.kind == .module && X.env.locals != X.env.globals))=false:=by rw [I.ok.kind];rfl
 have XJ:i < σ.length:=by rw [I.len];exact (zD.mp hi).1
 have PY:=I.PY;have tracked:∀ {a:Addr}{h':Heap},(∃ o,s.heap.get? a=some o/\H a=none)->Heap.SameBut a s.heap h'->fW X.prog X.w H h':=λ{a h'} ha hs b ob e=>by
  obtain ⟨_,_,t7⟩:=ha;refine (I.aT b ob e).dh (λc w' hc q=>(hs.2 c ?_).trans q) (λ_ q=>q) λ_ _ q=>q;rintro rfl;rcases hc with rfl | hc
  ·rw [t7] at e;cases e
  ·rw [t7] at hc;cases hc
 rcases hx with hk | hk
 ·refine wpAny_storeName_local hk hn (λh' YQ hs=>?_) UX;obtain ⟨oL,_,_,hoL,_⟩:=id hn;refine h _ ⟨I.ok,I.os,I.bare,⟨λb o e n hb hx=>?_,λb o e n hb hx=>?_,I.base.free,λb o e hx=>?_,I.base.aS,I.base.dZ,I.base.dX⟩,⟨_,YQ,λj y v' e1 e2 e3=>?_⟩,λy c e=>?_,I.free,I.eU,λp hp=>?_,tracked ⟨oL,hoL,I.free⟩ hs,by simpa using I.len⟩ ⟨_,hs,.inl rfl⟩
  ·exact (hs.2 b (zV (zU (Heap.lt_size e) I.ok.above))).trans (I.base.keep b o e n hb hx)
  ·obtain ⟨sl,e1⟩:=I.base.slot b o e n hb hx;exact ⟨sl,(hs.2 b (zV (zU (Heap.lt_size e) I.ok.above))).trans e1⟩
  ·obtain ⟨o',e1⟩:=I.base.there b o e hx;exact ⟨o',(hs.2 b (zV (zU (Heap.lt_size e) I.ok.above))).trans e1⟩
  ·by_cases hj:j=i
   ·subst hj;rw [hi] at e1;cases e1;rw [List.getElem?_set_self XJ] at e2;cases e2;exact ⟨u,r,.inl ⟨hk,by simp⟩⟩
   ·rw [List.getElem?_set_ne (Ne.symm hj)] at e2;obtain ⟨u',r',q⟩:=hl j y v' e1 e2 e3;refine ⟨u',r',?_⟩;rcases q with ⟨k,e⟩ | ⟨k,c,e,z⟩
    ·refine .inl ⟨k,?_⟩;have:y≠x:=λe=>hj (mH hN e1 (e ▸ hi));simp [this,e]
    ·exact .inr ⟨k,c,e,z.sameBut hs (PY y c e)⟩
  ·obtain ⟨w',z⟩:=I.cell y c e;exact ⟨w',z.sameBut hs (PY y c e)⟩
  ·obtain ⟨e,n,ne,nf,d⟩:=I.pin p hp;exact ⟨(hs.2 p.1 ne).trans e,n,ne,nf,d⟩
 ·have hfn:X.fn x=true:=by
   rcases hf with z | z
   ·exact z
   ·rw [z] at hk;cases hk
  obtain ⟨c,hc⟩:=I.ok.has x (.inl hk);obtain ⟨w',z⟩:=I.cell x c hc;refine wpAny_storeName_cell I.ok.kind hk hc z (λh' XQ hs=>?_);obtain ⟨oc,UP,abd⟩:=id z;refine h { s with heap:=h' } ⟨I.ok,I.os,I.bare,⟨λb o e n hb hx=>?_,λb o e n hb hx=>?_,I.base.free,λb o e hx=>?_,I.base.aS,I.base.dZ,I.base.dX⟩,⟨m,hn.sameBut hs (Ne.symm (PY x c hc)),λj y v' e1 e2 e3=>?_⟩,λy c' e=>?_,I.free,I.eU,λp hp=>?_,tracked ⟨oc,UP,I.eU x c hc⟩ hs,by simpa using I.len⟩ ⟨c,hs,.inr hc⟩
  ·exact (hs.2 b (zV (zU (Heap.lt_size e) (I.ok.V8 x c hfn hc)))).trans (I.base.keep b o e n hb hx)
  ·obtain ⟨sl,e1⟩:=I.base.slot b o e n hb hx;exact ⟨sl,(hs.2 b (zV (zU (Heap.lt_size e) (I.ok.V8 x c hfn hc)))).trans e1⟩
  ·obtain ⟨o',e1⟩:=I.base.there b o e hx;exact ⟨o',(hs.2 b (zV (zU (Heap.lt_size e) (I.ok.V8 x c hfn hc)))).trans e1⟩
  ·by_cases hj:j=i
   ·subst hj;rw [hi] at e1;cases e1;rw [List.getElem?_set_self XJ] at e2;cases e2;exact ⟨u,r,.inr ⟨.inl hk,c,hc,XQ⟩⟩
   ·rw [List.getElem?_set_ne (Ne.symm hj)] at e2;obtain ⟨u',r',q⟩:=hl j y v' e1 e2 e3;refine ⟨u',r',?_⟩;rcases q with q | ⟨k,c',e,z'⟩
    ·exact .inl q
    ·refine .inr ⟨k,c',e,z'.sameBut hs ?_⟩;rintro rfl;exact hj (mH hN e1 (I.ok.inj _ _ _ e hc ▸ hi))
  ·by_cases hcc:c'=c
   ·subst hcc;exact ⟨_,XQ⟩
   ·obtain ⟨w2,z2⟩:=I.cell y c' e;exact ⟨w2,z2.sameBut hs hcc⟩
  ·obtain ⟨e,n,ne,nf,d⟩:=I.pin p hp;refine ⟨(hs.2 p.1 ?_).trans e,n,ne,nf,d⟩;intro q;rw [q,UP] at e;have q':oc=p.2:=Option.some.inj e;exact d w' (by rw [<-q'];exact abd)
theorem gj {M:Model}{A:Around}{E:Value->Shared->Prop}{i:Nat}{x:Str}{v:V}{u:Value}{Q:Unit->Shared->Prop}(I:Inv X ah σ H s)(hN:X.N.Nodup)(hi:X.N[i]?=some x)(hx:Loc X.env.scope x)(r:RelV v u)
  (h:∀ s',Inv X ah (σ.set i (some v)) H s'->Q () s') (hf:iK X x=true:=by rfl):wpAny M A (storeName X.env x u) Q E s:=
 LR I hN hi hx r (λs' I' _=>h s' I') hf
theorem Inv.ur {s':Shared}{ch:List Addr}(I:Inv X ah σ H s)(ho:s'.os=s.os)(u:Un (mZ X.stack) ch H H' s.heap s'.heap)(aT:fW X.prog X.w H' s'.heap)(hg:AllBare s'.gens)
  (Qz:∀ b∈ch,(b∈X.ex\/X.cC.heap.objs.size<=b)/\b≠X.env.locals/\(∀ x c,X.env.cells.lookup x=some c->c≠b)/\∀ p∈X.pn++ah,p.1≠b):Inv X ah σ H' s':=by
 obtain ⟨h',g',d',t',o'⟩:=s';have e:o'=s.os:=ho;subst e;exact I.call (g':=g') (t':=t') (d':=d') u aT hg Qz
end
abbrev XK:=Value->Option Addr->Hp->Prop
abbrev St:=List (Option V)
abbrev VK:=V->Hp->Prop
abbrev TE:=St->Hp->VK->Prop
abbrev TT:=St->Hp->(Bool->Hp->Prop)->Prop
abbrev TA:=St->Hp->(List V->Hp->Prop)->Prop
structure Ends where
 nx:St->Hp->Prop
 rt:VK
 bk:St->Hp->Prop:=λ_ _=>False
 ct:St->Hp->Prop:=λ_ _=>False
abbrev Ends.go (D:Ends)(n:St->Hp->Prop):Ends:={ D with nx:=n }
abbrev Ends.lp (D:Ends)(n:St->Hp->Prop):Ends:={ D with nx:=n,ct:=n,bk:=D.nx }
abbrev TS:=Ends->St->Hp->Prop
def EP (X:Cx)(ah:List (Addr×Obj))(σ:St)(Q:VK)(u:Value)(s':Shared):Prop:=∃ v H',Inv X ah σ H' s'/\RelV v u/\Q v H'
def TP (X:Cx)(ah:List (Addr×Obj))(σ:St)(Q:Bool->Hp->Prop)(b:Bool)(s':Shared):Prop:=∃ H',Inv X ah σ H' s'/\Q b H'
def AP (X:Cx)(ah:List (Addr×Obj))(σ:St)(Q:List V->Hp->Prop)(us:List Value)(s':Shared):Prop:=∃ vs H',Inv X ah σ H' s'/\Vals vs us/\Q vs H'
def SP (X:Cx)(ah:List (Addr×Obj))(D:Ends)(f:Flow)(s':Shared):Prop:=
 match f with
 | .next=>∃ bu H',Inv X ah bu H' s'/\D.nx bu H'
 | .brk=>∃ bu H',Inv X ah bu H' s'/\D.bk bu H'
 | .cont=>∃ bu H',Inv X ah bu H' s'/\D.ct bu H'
 | .ret u=>∃ v bu H',Inv X ah bu H' s'/\RelV v u/\D.rt v H'
def PE (X:Cx)(e:Expr)(t:TE):Prop:=
 ∀ (ah:List (Addr×Obj)) (s:Shared) (σ:St) (H:Hp) (Q:VK),Inv X ah σ H s->t σ H Q->wpAny (model X.prog X.w) X.A (eval e X.env) (EP X ah σ Q) X.xe s
def PT (X:Cx)(e:Expr)(t:TT):Prop:=
 ∀ (ah:List (Addr×Obj)) (s:Shared) (σ:St) (H:Hp) (Q:Bool->Hp->Prop),Inv X ah σ H s->t σ H Q->wpAny (model X.prog X.w) X.A (isTrue e X.env (eval e X.env)) (TP X ah σ Q) X.xe s
def PW (X:Cx)(e:Expr)(t:TT):Prop:=
 ∀ (whole:Sem Value) (ah:List (Addr×Obj)) (s:Shared) (σ:St) (H:Hp) (Q:Bool->Hp->Prop),Inv X ah σ H s->t σ H Q->wpAny (model X.prog X.w) X.A (isTrue e X.env whole) (TP X ah σ Q) X.xe s
theorem PW.pt {X:Cx}{e:Expr}{t:TT}(h:PW X e t):PT X e t:=h _
def PA (X:Cx)(es:List Expr)(t:TA):Prop:=
 ∀ (pos:Pos) (ah:List (Addr×Obj)) (s:Shared) (σ:St) (H:Hp) (Q:List V->Hp->Prop),Inv X ah σ H s->t σ H Q->wpAny (model X.prog X.w) X.A (spliced (backTo pos (starEach es X.env))) (AP X ah σ Q) X.xe s
def PS (X:Cx)(st:Stmt)(t:TS):Prop:=
 ∀ (ah:List (Addr×Obj)) (s:Shared) (σ:St) (H:Hp) (D:Ends),Inv X ah σ H s->t D σ H->wpAny (model X.prog X.w) X.A (exec st X.env) (SP X ah D) X.xe s
def lO (X:Cx)(st:List Stmt)(t:TS):Prop:=
 ∀ (ah:List (Addr×Obj)) (s:Shared) (σ:St) (H:Hp) (D:Ends),Inv X ah σ H s->t D σ H->wpAny (model X.prog X.w) X.A (execs st X.env) (SP X ah D) X.xe s
theorem aV {α:Type}{t:Sem α}{Q Q':α->Shared->Prop}{M:Model}{A:Around}{E:Value->Shared->Prop}{s:Shared}(h:wpAny M A t Q E s)(hQ:∀ a s,Q a s->Q' a s):wpAny M A t Q' E s:=wpAny_mono h hQ λ_ _ x=>x
section
variable {X:Cx}
def lV (i:Nat):TE:=fun σ H Q=>∃ v,σ[i]?=some (some v)/\Q v H
def tC (v:V):TE:=λ_ H Q=>Q v H
theorem Uh {i:Nat}{x:Str}{pos:Pos}(hN:X.N[i]?=some x)(hv:Zb X.env.scope x)(hd:(x == ("__debug__" : Str))=false:=by decide)(mV:(x == ("__classdict__" : Str))=false:=by decide):PE X (.Name x pos) (lV i):=by
 intro ah s σ H Q I h;obtain ⟨v,e,h⟩:=h;obtain ⟨m,hn,hl⟩:=I.loc;obtain ⟨u,r,l⟩:=hl i x v hN e hv;have fin:EP X ah σ Q u s:=⟨v,H,I,r,h⟩;rcases l with ⟨hk,hm⟩ | ⟨hk,c,hc,SW⟩
 ·exact wpAny_Name (wpAny_loadName_local I.ok.kind hk hn hm fin) hd
 ·rcases hk with hk | hk
  ·exact wpAny_Name (wpAny_loadName_cell I.ok.kind hk hc SW fin) hd
  ·exact wpAny_Name (wpAny_loadName_free I.ok.kind hk hc SW fin mV) hd
theorem xi {i j pos}:PE X (.Constant (.int i) j pos) (tC (.int i)):=λ_ _ _ H _ I h=>wpAny_Constant_int ⟨.int i,H,I.tok _,⟨_,rfl⟩,h⟩
theorem qV {b j pos}:PE X (.Constant (.bool b) j pos) (tC (.bl b)):=λ_ _ _ H _ I h=>Constant_bool ⟨.bl b,H,I,rfl,h⟩
theorem qW {j pos}:PE X (.Constant .none j pos) (tC .bZ):=λ_ _ _ H _ I h=>Constant_none ⟨.bZ,H,I,rfl,h⟩
theorem jZ {x j pos}:PE X (.Constant (.str x) j pos) (tC (.str x)):=λ_ _ _ H _ I h=>Calls.Constant_str ⟨.str x,H,I.tok _,⟨_,rfl⟩,h⟩
def Gl (X:Cx)(x:Str):Prop:=X.env.kindOf x=some .globalImplicit
theorem ie {E:Value->Shared->Prop}{ah:List (Addr×Obj)}{s:Shared}{σ:St}{H:Hp}{x:Str}{u:Value}{pos:Pos}{Q:Value->Shared->Prop}(I:Inv X ah σ H s)(hg:Gl X x)(hm:X.mg x=some u)(h:Q u s)
  (hd:(x == ("__debug__" : Str))=false:=by decide):wpAny (model X.prog X.w) X.A (eval (.Name x pos) X.env) Q E s:=
 Calls.Name_function_global I.ok.kind hg (Calls.loadGlobal_global (by rw [I.ok.glob];exact I.mod.glob.keeps I.bk) hm h) hd
theorem dP {E:Value->Shared->Prop}{ah:List (Addr×Obj)}{s:Shared}{σ:St}{H:Hp}{x:Str}{u:Value}{pos:Pos}{Q:Value->Shared->Prop}(I:Inv X ah σ H s)(hg:Gl X x)(hm:X.mg x=none)(hv:bootBuiltins x=some u)(h:Q u s)
  (hn:x ≠ "__name__" := by decide) (hd:(x == ("__debug__" : Str))=false:=by decide):wpAny (model X.prog X.w) X.A (eval (.Name x pos) X.env) Q E s:=by
 obtain ⟨mb,h1,h2⟩:=I.mod.blt;exact Calls.Name_function_global I.ok.kind hg (Calls.loadGlobal_builtin (by rw [I.ok.glob];exact I.mod.glob.keeps I.bk) hm (by rw [I.ok.blt];exact h1.keeps I.bk) ((h2 x hn).trans hv) h) hd
theorem wV {x:Str}{v:V}{u:Value}{pos:Pos}(hg:Gl X x)(hm:X.mg x=some u)(r:RelV v u)(hd:(x == ("__debug__" : Str))=false:=by decide):PE X (.Name x pos) (tC v):=
 λ_ _ _ H _ I h=>ie I hg hm ⟨v,H,I,r,h⟩ hd
theorem cO {x:Str}{v:V}{u:Value}{pos:Pos}(hg:Gl X x)(hm:X.mg x=none)(hv:bootBuiltins x=some u)(r:RelV v u)(hn:x ≠ "__name__" := by decide)(hd:(x == ("__debug__" : Str))=false:=by decide):PE X (.Name x pos) (tC v):=
 λ_ _ _ H _ I h=>dP I hg hm hv ⟨v,H,I,r,h⟩ hn hd
variable {a b:Expr}{ta tb:TE}{pos:Pos}
def PC (X:Cx)(op:CmpOp)(a b:Expr)(t:TE):Prop:=
 ∀ (ah:List (Addr×Obj)) (s:Shared) (σ:St) (H:Hp) (Q:VK),Inv X ah σ H s->t σ H Q ->
  wpAny (model X.prog X.w) X.A (eval a X.env) (λv aN=>wpAny (model X.prog X.w) X.A (eval b X.env) (λu gh=>wpAny (model X.prog X.w) X.A (compareOp op v u) (EP X ah σ Q) X.xe gh) X.xe aN) X.xe s
def aaj (ta:TE):TE:=fun σ H Q=>ta σ H λx H1=>Q (.bl (decide (x=.bZ))) H1
def Wn (ta:TE):TE:=fun σ H Q=>ta σ H λx H1=>Q (.bl (!decide (x=.bZ))) H1
theorem RelV.tE {x:V}{v:Value}(r:RelV x v):(v == Value.none)=decide (x=.bZ):=by
 cases x with
 | bZ=>cases r;rfl
 | bl _=>cases r;rfl
 | int _=>obtain ⟨t,rfl⟩:=r;rfl
 | str _=>obtain ⟨t,rfl⟩:=r;rfl
 | Lo _=>obtain ⟨t,rfl⟩:=r;rfl
 | Vd _=>obtain ⟨t,rfl⟩:=r;rfl
 | ref _=>cases r;rfl
 | ty _=>cases r;rfl
theorem mD {j pos'}(ha:PE X a ta):PC X .Is a (.Constant .none j pos') (aaj ta):=by intro ah s σ H Q I h;refine aV (ha ah s σ H _ I h) λv s1 Z8=>?_;obtain ⟨x,H1,I1,r1,q1⟩:=Z8;exact Constant_none (is_none_gen ⟨.bl _,H1,I1,by rw [r1.tE];rfl,q1⟩)
theorem qu {j pos'}(ha:PE X a ta):PC X .IsNot a (.Constant .none j pos') (Wn ta):=by intro ah s σ H Q I h;refine aV (ha ah s σ H _ I h) λv s1 Z7=>?_;obtain ⟨x,H1,I1,r1,q1⟩:=Z7;exact Constant_none (isnot_none_gen ⟨.bl _,H1,I1,by rw [r1.tE];rfl,q1⟩)
def tB (t:TE):TT:=fun σ H Q=>t σ H λx H1=>∃ c,x=.bl c/\Q c H1
theorem vt {op:CmpOp}{t:TE}(h:PC X op a b t)(h1:behindInMarks op b=false:=by rfl):PE X (.Compare a [op] [b] pos) t:=λah s σ H Q I hw=>wpAny_Compare1 (h ah s σ H Q I hw) h1
theorem mq {op:CmpOp}{t:TE}(h:PC X op a b t)(h1:behindInMarks op b=false:=by rfl):PT X (.Compare a [op] [b] pos) (tB t):=by intro ah s σ H Q I hw;refine wpAny_isTrue_Compare1 (aV (h ah s σ H _ I hw) λv s1 h1=>aV h1 λu s2 h2=>aV h2 λc s3 Z6=>?_) h1;obtain ⟨x,H1,I1,r1,q1⟩:=Z6;obtain ⟨d,rfl,q⟩:=q1;cases r1;exact wpAny_truthy_bool ⟨H1,I1,q⟩
theorem wR {e:Expr}{t:TE}(h:PE X e t)(he:∀ whole,isTrue e X.env whole=(do let v <- whole;standAt e.pos;holding [v] (truthy v)):=by intro _;rfl):PT X e (tB t):=by intro ah s σ H Q I hw;refine isTrue_plain (aV (h ah s σ H _ I hw) λv s1 Z5=>?_) (he _);obtain ⟨x,H1,I1,r1,q1⟩:=Z5;obtain ⟨d,rfl,q⟩:=q1;cases r1;exact wpAny_truthy_bool ⟨H1,I1,q⟩
variable {tA Yw:TT}{rest:List Expr}
def LQ (t u:TT):TT:=fun σ H Q=>t σ H λc H1=>if c=true then u σ H1 Q else Q false H1
def VG (t u:TT):TT:=fun σ H Q=>t σ H λc H1=>if c=true then Q true H1 else u σ H1 Q
def LP (t:TT):TT:=fun σ H Q=>t σ H λc H1=>Q (!c) H1
theorem di (ha:PT X a tA):PW X (.BoolOp .And [a] pos) tA:=by
 intro wh ah s σ H Q I h;refine isTrue_and (aV (ha ah s σ H Q I h) λc s1 e=>?_);cases c with
 | true=>exact isTrue_and_nil e
 | false=>exact e
theorem dJ (ha:PT X a tA):PW X (.BoolOp .Or [a] pos) tA:=by
 intro wh ah s σ H Q I h;refine isTrue_or (aV (ha ah s σ H Q I h) λc s1 e=>?_);cases c with
 | false=>exact isTrue_or_nil e
 | true=>exact e
theorem dM (ha:PT X a tA)(hb:PW X (.BoolOp .And (b::rest) pos) Yw):PW X (.BoolOp .And (a::b::rest) pos) (LQ tA Yw):=by
 intro wh ah s σ H Q I h;refine isTrue_and (aV (ha ah s σ H _ I h) λc s1 Z4=>?_);obtain ⟨H1,I1,q1⟩:=Z4;cases c with
 | true=>exact hb wh ah s1 σ H1 Q I1 q1
 | false=>exact ⟨H1,I1,q1⟩
theorem gu (ha:PT X a tA)(hb:PW X (.BoolOp .Or (b::rest) pos) Yw):PW X (.BoolOp .Or (a::b::rest) pos) (VG tA Yw):=by
 intro wh ah s σ H Q I h;refine isTrue_or (aV (ha ah s σ H _ I h) λc s1 Z3=>?_);obtain ⟨H1,I1,q1⟩:=Z3;cases c with
 | true=>exact ⟨H1,I1,q1⟩
 | false=>exact hb wh ah s1 σ H1 Q I1 q1
theorem wb (ha:PT X a tA):PT X (.UnaryOp .Not a pos) (LP tA):=by intro ah s σ H Q I h;exact isTrue_not (ha ah s σ H (λc H1=>Q (!c) H1) I h)
def oU (ta tb:TE):TE:=fun σ H Q=>ta σ H λx H1=>∃ c,x=.bl c/\if c=true then tb σ H1 Q else Q (.bl false) H1
def uU (ta tb:TE):TE:=fun σ H Q=>ta σ H λx H1=>∃ c,x=.bl c/\if c=true then Q (.bl true) H1 else tb σ H1 Q
def oQ (ta:TE):TE:=fun σ H Q=>ta σ H λx H1=>∃ c,x=.bl c/\Q (.bl (!c)) H1
theorem c6 {op}{t:TE}(h:PE X a t):PE X (.BoolOp op [a] pos) t:=λah s σ H Q I hw=>BoolOp_one (h ah s σ H Q I hw)
theorem qM (ha:PE X a ta)(hb:PE X (.BoolOp .And (b::rest) pos) tb):PE X (.BoolOp .And (a::b::rest) pos) (oU ta tb):=by
 intro ah s σ H Q I h;refine BoolOp_and (aV (ha ah s σ H _ I h) λv s1 Z2=>?_);obtain ⟨x,H1,I1,r1,q1⟩:=Z2;obtain ⟨c,rfl,q1⟩:=q1;cases r1;refine wpAny_truthy_bool ?_;cases c with
 | true=>exact hb ah s1 σ H1 Q I1 q1
 | false=>exact ⟨.bl false,H1,I1,rfl,q1⟩
theorem WO (ha:PE X a ta)(hb:PE X (.BoolOp .Or (b::rest) pos) tb):PE X (.BoolOp .Or (a::b::rest) pos) (uU ta tb):=by
 intro ah s σ H Q I h;refine BoolOp_or (aV (ha ah s σ H _ I h) λv s1 Z1=>?_);obtain ⟨x,H1,I1,r1,q1⟩:=Z1;obtain ⟨c,rfl,q1⟩:=q1;cases r1;refine wpAny_truthy_bool ?_;cases c with
 | false=>exact hb ah s1 σ H1 Q I1 q1
 | true=>exact ⟨.bl true,H1,I1,rfl,q1⟩
theorem Ui (ha:PE X a ta):PE X (.UnaryOp .Not a pos) (oQ ta):=by intro ah s σ H Q I h;refine UnaryOp_ (aV (ha ah s σ H _ I h) λv s1 Z0=>?_);obtain ⟨x,H1,I1,r1,q1⟩:=Z0;obtain ⟨c,rfl,q1⟩:=q1;cases r1;exact not_of (wpAny_truthy_bool ⟨.bl (!c),H1,I1,rfl,q1⟩)
def tIf (t:TT)(ta tb:TE):TE:=fun σ H Q=>t σ H λc H1=>if c=true then ta σ H1 Q else tb σ H1 Q
theorem jh {c:Expr}(hc:PT X c tA)(ha:PE X a ta)(hb:PE X b tb):PE X (.IfExp c a b pos) (tIf tA ta tb):=by
 intro ah s σ H Q I h;refine wpAny_IfExp (aV (hc ah s σ H _ I h) λd s1 ZZ=>?_);obtain ⟨H1,I1,q1⟩:=ZZ;cases d with
 | true=>exact ha ah s1 σ H1 Q I1 q1
 | false=>exact hb ah s1 σ H1 Q I1 q1
end
def aH (K:PySem.W.Frag)(H:Hp)(a:Addr)(xs:List V):Prop:=
 Rd H a (.lst xs) \/
  ∃ (o:Obj) (ay:Array Value) (n:Nat),K.lookup a=some o/\o.cls=.type "list" /\ o.dict=none/\o.data=.seq ay n/\ay.size<=sizeLine/\Vals xs ay.toList
def bC (K:PySem.W.Frag)(H:Hp)(a:Addr)(xs:List V):Prop:=
 Rd H a (.tup xs) \/
  ∃ (o:Obj) (ay:Array Value) (n:Nat),K.lookup a=some o/\o.cls=.type "tuple" /\ o.data=.seq ay n/\ay.size<=sizeLine/\Vals xs ay.toList
def ace:Value->Option V
 | .none=>some .bZ
 | .bool b=>some (.bl b)
 | .int i _=>some (.int i)
 | .str x _=>some (.str x)
 | .bytes b _=>some (.Lo b)
 | .float b _=>some (.Vd b)
 | .ref a=>some (.ref a)
 | .type n=>some (.ty n)
 | _=>none
theorem RelV.abs {x:V}{u:Value}(r:RelV x u):ace u=some x:=by
 cases x with
 | bZ=>cases r;rfl
 | bl _=>cases r;rfl
 | int _=>obtain ⟨t,rfl⟩:=r;rfl
 | str _=>obtain ⟨t,rfl⟩:=r;rfl
 | Lo _=>obtain ⟨t,rfl⟩:=r;rfl
 | Vd _=>obtain ⟨t,rfl⟩:=r;rfl
 | ref _=>cases r;rfl
 | ty _=>cases r;rfl
theorem RelV.inj {x y:V}{u:Value}(r:RelV x u)(q:RelV y u):x=y:=Option.some.inj (r.abs.symm.trans q.abs)
theorem Vals.inj:∀ {xs ys:List V}{us:List Value},Vals xs us->Vals ys us->xs=ys
 | _,_,_,.nil,.nil=>rfl
 | _,_,_,.cons r t,.cons r' t'=>by rw [r.inj r',Vals.inj t t']
section
variable {X:Cx}{ah:List (Addr×Obj)}{σ:St}{H:Hp}{s:Shared}{a:Addr}{xs ys:List V}
theorem aH.of {K:PySem.W.Frag}(h:H a=some (.lst xs)):aH K H a xs:=.inl (.inl h)
theorem bC.of {K:PySem.W.Frag}(h:H a=some (.tup xs)):bC K H a xs:=.inl (.inl h)
theorem Inv.list (I:Inv X ah σ H s)(h:aH X.K H a xs):∃ ay:List Value,Vals xs ay/\PlainL s.heap a ay.toArray/\xs.length<=sizeLine:=by
 rcases h with h | ⟨o,ay,n,hk,hc,hd,hs,hz,r⟩
 ·obtain ⟨z,ay,n,r,e⟩:=h.ok I.aT;exact ⟨ay,r,⟨_,n,e,rfl,rfl,rfl⟩,z⟩
 ·refine ⟨ay.toList,r,⟨o,n,I.kY a o hk,hc,hd,by simpa using hs⟩,?_⟩;have e:=r.length;simp only [Array.length_toList] at e;omega
theorem Inv.tuple (I:Inv X ah σ H s)(h:bC X.K H a xs):∃ ay:List Value,Vals xs ay/\IsTup s.heap a ay.toArray/\xs.length<=sizeLine:=by
 rcases h with h | ⟨o,ay,n,hk,hc,hs,hz,r⟩
 ·obtain ⟨z,ay,r,p⟩:=h.ok I.aT;exact ⟨ay,r,p,z.1⟩
 ·refine ⟨ay.toList,r,⟨o,I.kY a o hk,hc,n,by simpa using hs⟩,?_⟩;have e:=r.length;simp only [Array.length_toList] at e;omega
theorem Inv.jm (I:Inv X ah σ H s)(h:aH X.K H a xs)(h':aH X.K H a ys):xs=ys:=by
 obtain ⟨ay,r,⟨o,n,e,_,_,d⟩,_⟩:=I.list h;obtain ⟨its',r',⟨o',n',e',_,_,d'⟩,_⟩:=I.list h';rw [e] at e';cases e';rw [d] at d';injection d' with d1 _
 have:ay=its':=by simpa using congrArg Array.toList d1
 subst this;exact r.inj r'
theorem Inv.oM (I:Inv X ah σ H s)(h:bC X.K H a xs)(h':bC X.K H a ys):xs=ys:=by
 obtain ⟨ay,r,⟨o,e,_,n,d⟩,_⟩:=I.tuple h;obtain ⟨its',r',⟨o',e',_,n',d'⟩,_⟩:=I.tuple h';rw [e] at e';cases e';rw [d] at d';injection d' with d1 _
 have:ay=its':=by simpa using congrArg Array.toList d1
 subst this;exact r.inj r'
end
abbrev Cx.iS (X:Cx)(E:Value->Shared->Prop):Cx:={ X with xe:=E }
abbrev Cx.o9 (X:Cx):Cx:=X.iS λ_ _=>False
theorem Cx.Ok.iS {X:Cx}(ok:X.Ok)(E:Value->Shared->Prop):(X.iS E).Ok:=
 ⟨ok.mod,ok.kind,ok.glob,ok.blt,ok.above,ok.inj,ok.has,ok.V8,ok.hd,ok.frames,ok.Qn,ok.exf,ok.bs,ok.M9,ok.Mn,ok.Pu,ok.gP,ok.QC⟩
theorem Cx.Ok.cg {X:Cx}{E:Value->Shared->Prop}(ok:(X.iS E).Ok):X.Ok:=
 ⟨ok.mod,ok.kind,ok.glob,ok.blt,ok.above,ok.inj,ok.has,ok.V8,ok.hd,ok.frames,ok.Qn,ok.exf,ok.bs,ok.M9,ok.Mn,ok.Pu,ok.gP,ok.QC⟩
section
variable {X:Cx}{ah:List (Addr×Obj)}{σ:St}{H:Hp}{s:Shared}{E:Value->Shared->Prop}
theorem Inv.iS (I:Inv X ah σ H s)(E:Value->Shared->Prop):Inv (X.iS E) ah σ H s:=⟨I.ok.iS E,I.os,I.bare,I.base,I.loc,I.cell,I.free,I.eU,I.pin,I.aT,I.len⟩
theorem Inv.cg (I:Inv (X.iS E) ah σ H s):Inv X ah σ H s:=⟨I.ok.cg,I.os,I.bare,I.base,I.loc,I.cell,I.free,I.eU,I.pin,I.aT,I.len⟩
theorem SP.cg {D:Ends}{f:Flow}{s':Shared}(h:SP (X.iS E) ah D f s'):SP X ah D f s':=by
 cases f with
 | next=>obtain ⟨bu,H',I,q⟩:=h;exact ⟨bu,H',I.cg,q⟩
 | brk=>obtain ⟨bu,H',I,q⟩:=h;exact ⟨bu,H',I.cg,q⟩
 | cont=>obtain ⟨bu,H',I,q⟩:=h;exact ⟨bu,H',I.cg,q⟩
 | ret u=>obtain ⟨v,bu,H',I,r,q⟩:=h;exact ⟨v,bu,H',I.cg,r,q⟩
theorem PE.o9 {e:Expr}{t:TE}(h:PE X.o9 e t):PE X e t:=λah s σ H Q I hw=>
 wpAny_mono (h ah s σ H Q (I.iS _) hw) (λ_ _ ⟨v,H',I',r,q⟩=>⟨v,H',I'.cg,r,q⟩) λ_ _ z=>False.elim z
theorem lO.o9 {st:List Stmt}{t:TS}(h:lO X.o9 st t):lO X st t:=λah s σ H D I hw=>
 wpAny_mono (h ah s σ H D (I.iS _) hw) (λ_ _ q=>q.cg) λ_ _ z=>False.elim z
end
section
variable {X:Cx}{st:Stmt}{rest:List Stmt}{t u:TS}{e:Expr}{te:TE}{pos:Pos}
def gg:TS:=λD σ H=>D.nx σ H
def nX (t u:TS):TS:=λD σ H=>t (D.go (u D)) σ H
theorem wC:lO X [] gg:=λ_ _ σ H _ I h=>wpAny_execs_nil ⟨σ,H,I,h⟩
theorem Om (h1:PS X st t)(h2:lO X rest u):lO X (st::rest) (nX t u):=by
 intro ah s σ H D I h;refine wpAny_execs_cons (aV (h1 ah s σ H (D.go (u D)) I h) λf s1 q=>?_);cases f with
 | next=>
  obtain ⟨bu,H',I',q⟩:=q;exact h2 ah s1 bu H' D I' q
 | ret v=>exact q
 | brk=>exact q
 | cont=>exact q
theorem Rl (h1:PS X st t):lO X [st] t:=by
 intro ah s σ H D I h;refine wpAny_execs_cons (aV (h1 ah s σ H D I h) λf s1 q=>?_);cases f with
 | next=>exact wpAny_execs_nil q
 | ret v=>exact q
 | brk=>exact q
 | cont=>exact q
def Ws:TS:=λD σ H=>D.ct σ H
theorem kK:PS X (.Continue pos) Ws:=λ_ _ σ H _ I h=>wpAny_Continue ⟨σ,H,I,h⟩
theorem Inv.quiet {ah:List (Addr×Obj)}{σ:St}{H:Hp}{s:Shared}(I:Inv X ah σ H s):interactive X.env=false:=by simp [interactive,I.ok.kind]
def oR (te:TE):TS:=λD σ H=>te σ H λ_ H1=>D.nx σ H1
theorem qH (he:PE X e te)(hs:swapsWith e none pos.line X.env=pure false:=by rfl):PS X (.Expr e pos) (oR te):=by intro ah s σ H D I h;exact wpAny_Expr_any (aV (he ah s σ H _ I h) λv s1 ⟨x,H1,I1,r1,q1⟩=>⟨σ,H1,I1,q1⟩) I.quiet hs
def LO (te:TE):TS:=λD σ H=>te σ H D.rt
theorem xu (he:PE X e te):PS X (.Return (some e) pos) (LO te):=by intro ah s σ H D I h;exact wpAny_Return_some (aV (he ah s σ H _ I h) λv s1 ⟨x,H1,I1,r1,q1⟩=>⟨x,σ,H1,I1,r1,q1⟩)
def sH (c:TT)(t u:TS):TS:=λD σ H=>c σ H λb H1=>if b=true then t D σ H1 else u D σ H1
theorem wK {c:Expr}{a b:List Stmt}{tc:TT}(hc:PT X c tc)(ha:lO X a t)(hb:lO X b u):PS X (.If c a b pos) (sH tc t u):=by
 intro ah s σ H D I h;refine wpAny_If (aV (hc ah s σ H _ I h) λd s1 ZY=>?_);obtain ⟨H1,I1,q1⟩:=ZY;cases d with
 | true=>exact ha ah s1 σ H1 D I1 q1
 | false=>exact hb ah s1 σ H1 D I1 q1
end
abbrev TG:=V->St->Hp->(St->Hp->Prop)->Prop
abbrev QF:=List V->St->Hp->(St->Hp->Prop)->Prop
def PG (X:Cx)(target:Expr)(t:TG):Prop:=
 ∀ (ah:List (Addr×Obj)) (s:Shared) (σ:St) (H:Hp) (v:V) (u:Value) (Q:St->Hp->Prop),Inv X ah σ H s->RelV v u->t v σ H Q ->
  wpAny (model X.prog X.w) X.A (assign target X.env u) (λ_ s'=>∃ bu H',Inv X ah bu H' s'/\Q bu H') X.xe s
def Wc (X:Cx)(ts:List Expr)(t:QF):Prop:=
 ∀ (ah:List (Addr×Obj)) (s:Shared) (σ:St) (H:Hp) (vs:List V) (us:List Value) (Q:St->Hp->Prop),Inv X ah σ H s->Vals vs us->t vs σ H Q ->
  wpAny (model X.prog X.w) X.A (assignInOrder ((assignEach ts X.env).map (·.2)) us) (λ_ s'=>∃ bu H',Inv X ah bu H' s'/\Q bu H') X.xe s
abbrev Qa:=V->V->V->Hp->(Hp->Prop)->Prop
def Vw (X:Cx)(t:Qa):Prop:=
 ∀ (ah:List (Addr×Obj)) (s:Shared) (σ:St) (H:Hp) (o i v:V) (ov iv u:Value) (Q:Hp->Prop),Inv X ah σ H s->RelV o ov->RelV i iv->RelV v u->t o i v H Q ->
  wpAny (model X.prog X.w) X.A (setItem ov iv u) (λ_ s'=>∃ H',Inv X ah σ H' s'/\Q H') X.xe s
abbrev Zc:=V->V->Hp->VK->Prop
def PIp (X:Cx)(op:Operator)(t:Zc):Prop:=
 ∀ (ah:List (Addr×Obj)) (s:Shared) (σ:St) (H:Hp) (x y:V) (v u:Value) (Q:VK),Inv X ah σ H s->RelV x v->RelV y u->t x y H Q ->
  wpAny (model X.prog X.w) X.A (inplaceOp op v u) (EP X ah σ Q) X.xe s
section
variable {X:Cx}{pos:Pos}
def iJ (i:Nat):TG:=λv σ H Q=>Q (σ.set i (some v)) H
theorem xp {i:Nat}{x:Str}(hN:X.N.Nodup)(hi:X.N[i]?=some x)(hx:Mv X.env.scope x=true)(hf:iK X x=true:=by rfl):PG X (.Name x pos) (iJ i):=by have hx:=lK hx;intro ah s σ H v u Q I r h;exact wpAny_assign_Name (gj I hN hi hx r (λs' I'=>⟨_,H,I',h⟩) hf)
def MP:QF:=λvs σ H Q=>vs=[]/\Q σ H
def pJ (t:TG)(u:QF):QF:=λvs σ H Q=>∃ v r,vs=v::r/\t v σ H fun bu H'=>u r bu H' Q
theorem wH:Wc X [] MP:=by intro ah s σ H vs us Q I r h;obtain ⟨e,h⟩:=h;subst e;cases r;exact assignInOrder_nil ⟨σ,H,I,h⟩
theorem xo {e:Expr}{es:List Expr}{t:TG}{u:QF}(h1:PG X e t)(h2:Wc X es u)
  (hs:(assignEach (e::es) X.env).map (·.2)=assign e X.env::(assignEach es X.env).map (·.2):=by rfl):Wc X (e::es) (pJ t u):=by
 intro ah s σ H vs us Q I r h;obtain ⟨v,vr,e1,h⟩:=h;subst e1;cases r with
 | cons r rr=>
  rw [hs];refine assignInOrder_cons (aV (h1 ah s σ H _ _ _ I r h) λ_ s1 ZX=>?_);obtain ⟨VE,H1,I1,q1⟩:=ZX;exact h2 ah s1 VE H1 _ _ Q I1 rr q1
def vW (K:PySem.W.Frag)(n:Nat)(t:QF):TG:=λv σ H Q=>∃ a xs,v=.ref a/\bC K H a xs/\xs.length=n/\t xs σ H Q
theorem Ug {es:List Expr}{k:Nat}{t:QF}{n:Nat}(hc:X.calm=true)(h:Wc X es t)
  (hn:(assignEach es X.env).length=n:=by rfl) (vN:(assignEach es X.env).findIdx? (·.1)=none:=by rfl):PG X (.Tuple es k pos) (vW X.K n t):=by
 intro ah s σ H v u Q I r hw;obtain ⟨a,xs,e1,hq,hl,hw⟩:=hw;subst e1;cases r;obtain ⟨ay,rv,ht,hz⟩:=I.tuple hq;refine assign_Tuple_tuple (I.ok.hd hc) ht (by simp [hn,<- hl,rv.length]) vN λh' hx=>?_;have I1:Inv X ah σ H { s with heap:=h' }:=I.kept (t':=s.toks) λb o e=>hx b o (zV (Heap.lt_size e)) e;exact h ah _ σ H xs _ Q I1 (by simpa using rv) hw
def MO (to ti:TE)(t:Qa):TG:=λv σ H Q=>to σ H λo H1=>ti σ H1 λi H2=>t o i v H2 λH3=>Q σ H3
theorem qp {o i:Expr}{to ti:TE}{t:Qa}(ho:PE X o to)(hi:PE X i ti)(hs:Vw X t)
  (ha:∀ v,assign (.Subscript o i pos) X.env v=(do
   let ov <- holding [v] (eval o X.env)
   let iv <- holding [v,ov] (eval i X.env)
   standAt pos
   holding [v,ov,iv] (setItem ov iv v)
   release [v,ov,iv] []):=by intro _;rfl):PG X (.Subscript o i pos) (MO to ti t):=by
 intro ah s σ H v u Q I r h;rw [ha];refine wpAny_bind (wpAny_holding (aV (ho ah s σ H _ I h) λov s1 ZW=>?_));obtain ⟨x,H1,I1,r1,q1⟩:=ZW;refine wpAny_bind (wpAny_holding (aV (hi ah s1 σ H1 _ I1 q1) λiv s2 ZV=>?_));obtain ⟨y,H2,I2,r2,q2⟩:=ZV;refine wpAny_bind (wpAny_standAt (wpAny_bind (wpAny_holding (aV (hs ah s2 σ H2 x y v ov iv u _ I2 r1 r2 r q2) λ_ s3 ZU=>?_))));obtain ⟨H3,I3,q3⟩:=ZU;exact wpAny_release ⟨σ,H3,I3,q3⟩
def p7 (te:TE)(g:TG):TS:=λD σ H=>te σ H λx H1=>g x σ H1 D.nx
theorem qN {tg e:Expr}{te:TE}{g:TG}(he:PE X e te)(hg:PG X tg g)(hs:swapsWithSole [tg] e pos.line X.env=pure false:=by rfl)(hw:swappedStores [tg] e X.env=pure none:=by rfl)
  (h1:(assignEach [tg] X.env).map (·.2)=[assign tg X.env]:=by rfl):PS X (.Assign [tg] e pos) (p7 te g):=by
 intro ah s σ H D I h;refine wpAny_Assign_stores (aV (he ah s σ H _ I h) λv s1 ZT=>?_) hs hw;obtain ⟨x,H1,I1,r1,q1⟩:=ZT;rw [h1];exact aV (hg ah s1 σ H1 x v _ I1 r1 q1) λ_ s2 q=>q
theorem xt {i:Nat}{x:Str}{e:Expr}{te:TE}{pos':Pos}(hN:X.N.Nodup)(hi:X.N[i]?=some x)(hx:Mv X.env.scope x=true)(he:PE X e te)(hs:swapsWith e (some (.Name x pos')) pos.line X.env=pure false:=by rfl)(hf:iK X x=true:=by rfl) :
  PS X (.Assign [.Name x pos'] e pos) (p7 te (iJ i)):=by
 have hx:=lK hx;intro ah s σ H D I h;refine wpAny_Assign_Name (aV (he ah s σ H _ I h) λv s1 ZS=>?_) hs;obtain ⟨y,H1,I1,r1,q1⟩:=ZS;exact gj I1 hN hi hx r1 (λs2 I2=>⟨_,H1,I2,q1⟩) hf
def oS (to ti te:TE)(QS:V->V->Hp->VK->Prop)(Yv:Zc)(QO:Qa):TS:=λD σ H=>to σ H λo H1=>ti σ H1 λi H2=>QS o i H2 λx H3=>te σ H3 λy H4=>Yv x y H4 λz H5=>QO o i z H5 λH6=>D.nx σ H6
def Yh (X:Cx)(t:V->V->Hp->VK->Prop):Prop:=
 ∀ (ah:List (Addr×Obj)) (s:Shared) (σ:St) (H:Hp) (o i:V) (ov iv:Value) (Q:VK),Inv X ah σ H s->RelV o ov->RelV i iv->t o i H Q ->
  wpAny (model X.prog X.w) X.A (getItem ov iv) (EP X ah σ Q) X.xe s
theorem Rn {o i e:Expr}{to ti te:TE}{QS:V->V->Hp->VK->Prop}{Yv:Zc}{QO:Qa}{op:Operator}{Tz:Pos}(ho:PE X o to)(hi:PE X i ti)(hg:Yh X QS)(he:PE X e te)(hp:PIp X op Yv)(hs:Vw X QO)
  (ha:∀ ov iv new,augStore i ov iv new=(do holding [new,ov,iv] (setItem ov iv new);release [new,ov,iv] [];pure .next):=by intros;rfl):PS X (.AugAssign (.Subscript o i Tz) op e pos) (oS to ti te QS Yv QO):=by
 intro ah s σ H D I h;refine wpAny_AugAssign_SubscriptAny (aV (ho ah s σ H _ I h) λov s1 ZR=>?_) ha;obtain ⟨x1,H1,I1,r1,q1⟩:=ZR;refine aV (hi ah s1 σ H1 _ I1 q1) λiv s2 ZQ=>?_;obtain ⟨x2,H2,I2,r2,q2⟩:=ZQ;refine aV (hg ah s2 σ H2 x1 x2 ov iv _ I2 r1 r2 q2) λold s3 ZP=>?_;obtain ⟨x3,H3,I3,r3,q3⟩:=ZP;refine aV (he ah s3 σ H3 _ I3 q3) λv s4 ZO=>?_;obtain ⟨x4,H4,I4,r4,q4⟩:=ZO;refine aV (hp ah s4 σ H4 x3 x4 old v _ I4 r3 r4 q4) λnew s5 ZN=>?_;obtain ⟨x5,H5,I5,r5,q5⟩:=ZN;exact aV (hs ah s5 σ H5 x1 x2 x5 ov iv new _ I5 r1 r2 r5 q5) λ_ s6 ⟨H6,I6,q6⟩=>⟨σ,H6,I6,q6⟩
def VU (f:Int->Int->Int):Zc:=λx y H Q=>∃ i j,x=.int i/\y=.int j/\Q (.int (f i j)) H
theorem UH:PIp X .Add (VU λi j=>i + j):=by intro ah s σ H x y v u Q I r1 r2 h;obtain ⟨i,j,e1,e2,q⟩:=h;subst e1;subst e2;obtain ⟨t,rfl⟩:=r1;obtain ⟨t',rfl⟩:=r2;exact iadd_int ⟨.int _,H,I.tok _,⟨_,rfl⟩,q⟩
end
section
variable {X:Cx}{pos:Pos}
def lU (c:TT)(tb:TS):TS:=λD σ H=>∃ W:Nat->St->Hp->Prop,(∃ m,W m σ H)/\∀ m σ H,W m σ H ->
 c σ H λb H1=>if b=true then ∃ N:St->Hp->Prop,(∀ bu H',N bu H'->∃ m',m' < m/\W m' bu H')/\tb (D.lp N) σ H1 else D.nx σ H1
theorem mw {c:Expr}{body:List Stmt}{tc:TT}{tb:TS}(hp:PassesOwn (model X.prog X.w) X.A X.env X.xe)(hc:PT X c tc)(hb:lO X body tb):PS X (.While c body [] pos) (lU tc tb):=by
 intro ah s σ H D I h;obtain ⟨W,⟨m0,w0⟩,turn⟩:=h;refine wpAny_While (codeAny_whileLoop (λn s'=>∃ bu H',Inv X ah bu H' s'/\W n bu H') ?_ m0 ⟨σ,H,I,w0⟩);rintro n s1 ⟨VE,H1,I1,w1⟩;refine wpAny_passesOwn hp (aV (hc ah s1 VE H1 _ I1 (turn n VE H1 w1)) λb s2 ZM=>?_);obtain ⟨H2,I2,q2⟩:=ZM;cases b with
 | true=>
  obtain ⟨N,hN,q2⟩:=q2;rw [if_pos rfl];refine wpAny_passesOwn hp (aV (hb ah s2 VE H2 _ I2 q2) λf s3 q3=>?_);cases f with
  | next=>
   obtain ⟨NC,H3,I3,n3⟩:=q3;obtain ⟨m',hm,w3⟩:=hN NC H3 n3;exact ⟨m',hm,NC,H3,I3,w3⟩
  | cont=>
   obtain ⟨NC,H3,I3,n3⟩:=q3;obtain ⟨m',hm,w3⟩:=hN NC H3 n3;exact ⟨m',hm,NC,H3,I3,w3⟩
  | brk=>exact q3
  | ret v=>exact q3
 | false=>
  rw [if_neg zM];exact wpAny_execs_nil ⟨VE,H2,I2,q2⟩
end
structure It where
 go:Nat->Hp->Prop
 nV:Nat->Hp->V->Hp->Prop
 stop:Nat->Hp->Prop
def gU (X:Cx)(ah:List (Addr×Obj))(H:Hp)(b:Addr):Prop:=
 H b=none/\b≠X.env.locals/\b ∉ X.fs/\(b∈X.ex\/X.cC.heap.objs.size<=b)/\(∀ x c,X.env.cells.lookup x=some c->c≠b)/\∀ p∈X.pn++ah,p.1≠b
theorem Inv.oi {X:Cx}{ah:List (Addr×Obj)}{σ:St}{H H':Hp}{s:Shared}{b:Addr}(I:Inv X ah σ H s)(hb:s.heap.objs.size<=b)(hn:H' b=none):gU X ah H' b:=by
 refine ⟨hn,yQ (zU I.lt hb),I.WV hb,.inr (z4 I.sz hb),λx c e z=>?_,λp hp z=>?_⟩
 ·obtain ⟨v,q⟩:=I.cell x c e;exact absurd (zU q.lt (by rw [z];exact hb)) (z6 _)
 ·exact absurd (zU (Heap.lt_size (I.pin p hp).1) (by rw [z];exact hb)) (z6 _)
structure Turn (P:Program) (w:World) (K:PySem.W.Frag) (tg:Expr) (J:It) (fp:List Addr) (it:Addr) (tn:Nat->Heap->Prop):Prop where
 mem:it∈fp
 obj:∀ i h,tn i h->∀ b∈fp,∃ o,h.get? b=some o/\∀ v,o.data≠.cell v
 keep:∀ i h h',tn i h->(∀ b∈fp,∀ o,h.get? b=some o->h'.get? b=some o)->tn i h'
 item:∀ (X:Cx),X.prog=P->X.w=w->X.K=K->X.calm=true->∀ (i:Nat) (ah:List (Addr×Obj)) (s:Shared) (σ:St) (H:Hp) (E:Value->Shared->Prop),Inv X ah σ H s->(∀ b∈fp,gU X ah H b)->tn i s.heap->J.go i H ->
  wpAny (model P w) X.A (pyNext (.ref it)) (λr s1=>∃ u,r=some u /\
   wpAny (model P w) X.A (letOwnedTupleGo tg (.ref it) u) (λ_ s2=>∃ x H',Inv X ah σ H' s2/\RelV x u/\J.nV i H x H'/\tn (i + 1) s2.heap/\∀ b∈fp,H' b=none) E s1) E s
 done:∀ (X:Cx),X.prog=P->X.w=w->X.K=K->X.calm=true->∀ (i:Nat) (ah:List (Addr×Obj)) (s:Shared) (σ:St) (H:Hp) (E:Value->Shared->Prop),Inv X ah σ H s->(∀ b∈fp,gU X ah H b)->tn i s.heap->J.stop i H ->
  wpAny (model P w) X.A (pyNext (.ref it)) (λr s1=>r=none/\Inv X ah σ H s1) E s
 self:∀ (A:Around) (i:Nat) (s:Shared) (Q:Value->Shared->Prop) (E:Value->Shared->Prop),tn i s.heap->Q (.ref it) s->wpAny (model P w) A (pyIter (.ref it)) Q E s
abbrev TI:=St->Hp->(It->Hp->Prop)->Prop
def PIE (X:Cx)(ah:List (Addr×Obj))(σ:St)(tg:Expr)(R:It->Hp->Prop)(Xk:Value)(s2:Shared):Prop:=
 ∃ (it:Addr) (fp:List Addr) (tn:Nat->Heap->Prop) (J:It) (H':Hp),Xk=.ref it/\Inv X ah σ H' s2/\Turn X.prog X.w X.K tg J fp it tn/\tn 0 s2.heap/\(∀ b∈fp,gU X ah H' b)/\R J H'
def PI (X:Cx)(tg iter:Expr)(wi:TI):Prop:=
 ∀ (ah:List (Addr×Obj)) (s:Shared) (σ:St) (H:Hp) (R:It->Hp->Prop),Inv X ah σ H s->wi σ H R ->
  wpAny (model X.prog X.w) X.A (eval iter X.env) (λv s1=>wpAny (model X.prog X.w) X.A (pyIter v) (PIE X ah σ tg R) X.xe s1) X.xe s
theorem K9 {M:Model}{A:Around}{E:Value->Shared->Prop}{s:Shared}{tg:Expr}{it:Addr}{u:Value}{o:Obj}{n:String}{vs:Array Value}{Q:Unit->Shared->Prop}(ho:s.heap.get? it=some o)(hc:o.cls=.type n)(hd:o.data=.fields vs)
    (hn:["enumerate", "zip", "dict_itemiterator", "dict_reverseitemiterator", "odict_iterator", "itertools.zip_longest", "itertools.pairwise"].contains n=false) (hQ:Q () s):wpAny M A (letOwnedTupleGo tg (.ref it) u) Q E s:=by
  unfold letOwnedTupleGo;cases tg <;> first
    | exact wpAny_pure hQ
    | (cases u <;> first
        | exact wpAny_pure hQ
        | (refine wpAny_bind (wpAny_load ho ?_)
           rw [hc,hd];show wpAny M A (if (["enumerate", "zip", "dict_itemiterator", "dict_reverseitemiterator", "odict_iterator", "itertools.zip_longest", "itertools.pairwise"].contains n && vs[0]? == some (rawInt _))=true then _ else _) Q E s;rw [if_neg (by intro h;rw [hn,yH] at h;cases h)];exact wpAny_pure hQ))
def Nf (K:PySem.W.Frag)(a:Addr):It:=
 ⟨λi H=>∃ xs x,aH K H a xs/\xs[i]?=some x,λi H x H'=>H'=H/\∀ xs,aH K H a xs->xs[i]?=some x,λi H=>∃ xs,aH K H a xs/\xs.length<=i⟩
def Wd (K:PySem.W.Frag)(a:Addr):It:=
 ⟨λi H=>∃ xs x,bC K H a xs/\xs[i]?=some x,λi H x H'=>H'=H/\∀ xs,bC K H a xs->xs[i]?=some x,λi H=>∃ xs,bC K H a xs/\xs.length<=i⟩
def Qi (lo:Int)(n:Nat):It:=⟨λi _=>i < n,λi H x H'=>H'=H/\x=.int (lo + i),λi _=>n<=i⟩
theorem LH {P:Program}{w:World}{K:PySem.W.Frag}{tg:Expr}(a it:Addr):Turn P w K tg (Nf K a) [it] it (λi h=>h.IsListIter it a i) where
 mem:=by simp
 obj:=λi h st b hb=>by
  have e:b=it:=by simpa using hb
  subst e;obtain ⟨o,e,c,d⟩:=st;exact ⟨o,e,λv z=>by rw [d] at z;cases z⟩
 keep:=λi h h' st k=>st.at λo e=>k it (by simp) o e
 item:=by
  intro X hP hw hK hc i ah s σ H E I hf st hg;subst hP hw hK;obtain ⟨xs,x,hq,hx⟩:=hg;obtain ⟨ay,rv,p,hz⟩:=I.list hq;obtain ⟨u,hu,ru⟩:=rv.get hx;obtain ⟨f0,f1,f2,f3,f4,f5⟩:=hf it (by simp);refine wpAny_pyNext_list_item st p.isList (x:=u) (by simpa using hu) λh' uX sb=>?_;have I1:Inv X ah σ H { s with heap:=h' }:=I.turned (t':=s.toks) (λb o hb e=>(sb.2 b hb).trans e) f0 f1 f3 f4 f5;obtain ⟨o,e,c,d⟩:=id uX;exact ⟨u,rfl,K9 (s:={ s with heap:=h' }) e c d (by decide) ⟨x,H,I1,ru,⟨rfl,λys hy=>by rw [I.jm hy hq];exact hx⟩,uX,λb hb=>(hf b hb).1⟩⟩
 done:=by
  intro X hP hw hK hc i ah s σ H E I hf st hg;subst hP hw hK;obtain ⟨xs,hq,hx⟩:=hg;obtain ⟨ay,rv,p,hz⟩:=I.list hq;obtain ⟨f0,f1,f2,f3,f4,f5⟩:=hf it (by simp);have hl:=rv.length;exact wpAny_pyNext_list_end (I.ok.hd hc) st p.isList (by simp;omega) λh' eb=>⟨rfl,I.turned (t':=s.toks) (λb o hb e=>eb b o hb e) f0 f1 f3 f4 f5⟩
 self:=λ_ _ _ _ _ st h=>wpAny_pyIter_listiter st h
theorem uO {P:Program}{w:World}{K:PySem.W.Frag}{tg:Expr}(a it:Addr):Turn P w K tg (Wd K a) [it] it (λi h=>h.IsTupleIter it a i) where
 mem:=by simp
 obj:=λi h st b hb=>by
  have e:b=it:=by simpa using hb
  subst e;obtain ⟨o,e,c,d⟩:=st;exact ⟨o,e,λv z=>by rw [d] at z;cases z⟩
 keep:=λi h h' st k=>st.at λo e=>k it (by simp) o e
 item:=by
  intro X hP hw hK hc i ah s σ H E I hf st hg;subst hP hw hK;obtain ⟨xs,x,hq,hx⟩:=hg;obtain ⟨ay,rv,p,hz⟩:=I.tuple hq;obtain ⟨u,hu,ru⟩:=rv.get hx;obtain ⟨f0,f1,f2,f3,f4,f5⟩:=hf it (by simp);refine wpAny_pyNext_tuple_item st (show s.heap.IsTuple a ay.toArray from p) (x:=u) (by simpa using hu) λh' uX sb=>?_;have I1:Inv X ah σ H { s with heap:=h' }:=I.turned (t':=s.toks) (λb o hb e=>(sb.2 b hb).trans e) f0 f1 f3 f4 f5;obtain ⟨o,e,c,d⟩:=id uX;exact ⟨u,rfl,K9 (s:={ s with heap:=h' }) e c d (by decide) ⟨x,H,I1,ru,⟨rfl,λys hy=>by rw [I.oM hy hq];exact hx⟩,uX,λb hb=>(hf b hb).1⟩⟩
 done:=by
  intro X hP hw hK hc i ah s σ H E I hf st hg;subst hP hw hK;obtain ⟨xs,hq,hx⟩:=hg;obtain ⟨ay,rv,p,hz⟩:=I.tuple hq;obtain ⟨f0,f1,f2,f3,f4,f5⟩:=hf it (by simp);have hl:=rv.length;exact wpAny_pyNext_tuple_end (I.ok.hd hc) st (show s.heap.IsTuple a ay.toArray from p) (by simp;omega) λh' eb=>⟨rfl,I.turned (t':=s.toks) (λb o hb e=>eb b o hb e) f0 f1 f3 f4 f5⟩
 self:=λ_ _ _ _ _ st h=>wpAny_pyIter_tupleiter st h
theorem uP {P:Program}{w:World}{K:PySem.W.Frag}{tg:Expr}(it:Addr)(lo:Int)(n:Nat):Turn P w K tg (Qi lo n) [it] it (λi h=>IsRangeIter h it (lo + (i:Nat) * 1) ((n:Int) - (i:Nat)) 1) where
 mem:=by simp
 obj:=λi h st b hb=>by
  have e:b=it:=by simpa using hb
  subst e;exact ⟨_,st,λv z=>by
   have z':Data.fields _=Data.cell v:=z;cases z'⟩
 keep:=λi h h' st k=>k it (by simp) _ st
 item:=by
  intro X hP hw hK hc i ah s σ H E I hf st hg;subst hP hw hK;obtain ⟨f0,f1,f2,f3,f4,f5⟩:=hf it (by simp);have W:=Walks.range (prog:=X.prog) (w:=X.w) (I.ok.hd hc) it lo 1 n;refine W.item i s _ _ hg st λv h' tk hv uX kk=>?_;obtain ⟨t,rfl⟩:=hv;have I1:Inv X ah σ H { s with heap:=h',toks:=tk }:=I.turned (λb o hb e=>kk b o (by simpa using hb) e) f0 f1 f3 f4 f5;refine ⟨_,rfl,K9 (s:={ s with heap:=h',toks:=tk }) (n := "range_iterator") uX rfl rfl (by decide) ⟨.int (lo + i),H,I1,⟨t,?_⟩,⟨rfl,rfl⟩,uX,λb hb=>(hf b hb).1⟩⟩;rw [Int.mul_one]
 done:=by
  intro X hP hw hK hc i ah s σ H E I hf st hg;subst hP hw hK;obtain ⟨f0,f1,f2,f3,f4,f5⟩:=hf it (by simp);exact wpAny_pyNext_range_end (I.ok.hd hc) st (by have:n<=i:=hg;omega) λh' eb=>⟨rfl,I.turned (t':=s.toks) (λb o hb e=>eb b o hb e) f0 f1 f3 f4 f5⟩
 self:=λ_ _ _ _ _ st h=>wpAny_pyIter_rangeiter st h
section
variable {X:Cx}{tg:Expr}
def SM (K:PySem.W.Frag)(tl:TE):TI:=fun σ H R=>tl σ H λx H1=>∃ a,x=.ref a/\(∃ xs,aH K H1 a xs)/\R (Nf K a) H1
def Xo (K:PySem.W.Frag)(tl:TE):TI:=fun σ H R=>tl σ H λx H1=>∃ a,x=.ref a/\(∃ xs,bC K H1 a xs)/\R (Wd K a) H1
theorem Rp {l:Expr}{tl:TE}(hl:PE X l tl):PI X tg l (SM X.K tl):=by
 intro ah s σ H R I h;refine aV (hl ah s σ H _ I h) λv s1 ZL=>?_;obtain ⟨x,H1,I1,r1,q1⟩:=ZL;obtain ⟨a,e,⟨xs,hq⟩,q⟩:=q1;subst e;cases r1;obtain ⟨ay,rv,p,hz⟩:=I1.list hq;refine wpAny_pyIter_list p.isList ?_;refine ⟨s1.heap.objs.size,[s1.heap.objs.size],_,_,H1,rfl,I1.kept (t':=s1.toks) λb o e=>Heap.get?_push_of_some _ e,LH a _,⟨_,Heap.get?_push_size _ rfl,rfl,rfl⟩,λb hb=>?_,q⟩;have e:b=s1.heap.objs.size:=by simpa using hb
 subst e;exact I1.oi (zF _) (I1.aT.fresh (zF _))
theorem Ue {l:Expr}{tl:TE}(hl:PE X l tl):PI X tg l (Xo X.K tl):=by
 intro ah s σ H R I h;refine aV (hl ah s σ H _ I h) λv s1 ZK=>?_;obtain ⟨x,H1,I1,r1,q1⟩:=ZK;obtain ⟨a,e,⟨xs,hq⟩,q⟩:=q1;subst e;cases r1;obtain ⟨ay,rv,p,hz⟩:=I1.tuple hq;refine wpAny_pyIter_tuple (show s1.heap.IsTuple a ay.toArray from p) ?_;refine ⟨s1.heap.objs.size,[s1.heap.objs.size],_,_,H1,rfl,I1.kept (t':=s1.toks) λb o e=>Heap.get?_push_of_some _ e,uO a _,⟨_,Heap.get?_push_size _ rfl,rfl,rfl⟩,λb hb=>?_,q⟩;have e:b=s1.heap.objs.size:=by simpa using hb
 subst e;exact I1.oi (zF _) (I1.aT.fresh (zF _))
theorem sR {ah:List (Addr×Obj)}{σ:St}{H:Hp}{s:Shared}{R:It->Hp->Prop}{E:Value->Shared->Prop}{lo hi:Int}{t u v:Tok}{tk:Nat}(I:Inv X ah σ H s)(h1:-(2 ^ 62)<=lo)(h2:lo < 2 ^ 62)(h3:-(2 ^ 62)<=hi)(h4:hi < 2 ^ 62)
  (q:R (Qi lo (hi - lo).toNat) H):wpAny (model X.prog X.w) X.A (pyIter (.ref s.heap.objs.size)) (PIE X ah σ tg R) E { s with heap:=s.heap.push { cls:=.type "range", data:=.fields #[.int lo t,.int hi u,.int 1 v] },toks:=tk }:=by
 refine wpAny_pyIter_range (IsRange.new ..) (small_one h1 h2 h3 h4) ?_;have I1:Inv X ah σ H { s with heap:=s.heap.push { cls:=.type "range", data:=.fields #[.int lo t,.int hi u,.int 1 v] },toks:=tk }:=I.kept λb o e=>Heap.get?_push_of_some _ e;refine ⟨(s.heap.push { cls:=.type "range", data:=.fields #[.int lo t,.int hi u,.int 1 v] }).objs.size,[(s.heap.push { cls:=.type "range", data:=.fields #[.int lo t,.int hi u,.int 1 v] }).objs.size],_,_,H,rfl,
  I1.kept (t':=tk) λb o e=>Heap.get?_push_of_some _ e,uP _ lo (hi - lo).toNat,?_,λb hb=>?_,q⟩
 ·have e1:lo + ((0:Nat):Int) * 1=lo:=by simp
  have e2:(((hi - lo).toNat:Nat):Int) - ((0:Nat):Int)=Builtin.Range.rangeSize lo hi 1:=by rw [rangeSize_one];split <;> omega
  show IsRangeIter _ _ (lo + ((0:Nat):Int) * 1) ((((hi - lo).toNat:Nat):Int) - ((0:Nat):Int)) 1;rw [e1,e2];exact Heap.get?_push_size _ rfl
 ·have e:b=(s.heap.push { cls:=.type "range", data:=.fields #[.int lo t,.int hi u,.int 1 v] }).objs.size:=by simpa using hb
  subst e;exact I1.oi (zF _) (I1.aT.fresh (zF _))
def Xq (ta:TA):TI:=fun σ H R=>ta σ H λvs H1=>∃ j:Int,vs=[.int j]/\-(2 ^ 62)<=j/\j < 2 ^ 62/\R (Qi 0 j.toNat) H1
def Xp (ta:TA):TI:=fun σ H R=>ta σ H λvs H1=>∃ i j:Int,vs=[.int i,.int j]/\(-(2 ^ 62)<=i/\i < 2 ^ 62/\-(2 ^ 62)<=j/\j < 2 ^ 62)/\R (Qi i (j - i).toNat) H1
theorem qT {a:Expr}{ta:TA}{p pos:Pos}(hg:Gl X "range")(hm:X.mg "range" = none)(ha:PA X [a] ta)(hs:starEach [a] X.env=[(false,eval a X.env)]:=by rfl):PI X tg (.Call (.Name "range" p) [a] [] pos) (Xq ta):=by
 intro ah s σ H R I h;refine Call_ (dP I hg hm boot_range (zy (aV (ha pos ah s σ H _ I h) λus s1 ZJ=>?_) hs rfl));obtain ⟨vs,H1,I1,r1,q1⟩:=ZJ;obtain ⟨j,e,q1,q2,q⟩:=q1;subst e;cases r1 with
 | cons r rr=>
  cases rr;obtain ⟨t,rfl⟩:=r;exact call_range_1 (sR I1 (by omega) (by omega) q1 q2 (by simpa using q))
theorem Mi {a b:Expr}{ta:TA}{p pos:Pos}(hg:Gl X "range")(hm:X.mg "range" = none)(ha:PA X [a,b] ta)(hs:starEach [a,b] X.env=[(false,eval a X.env),(false,eval b X.env)]:=by rfl)(rY:starEach [b] X.env=[(false,eval b X.env)]:=by rfl) :
  PI X tg (.Call (.Name "range" p) [a,b] [] pos) (Xp ta):=by
 intro ah s σ H R I h;refine Call_ (dP I hg hm boot_range (zy (aV (ha pos ah s σ H _ I h) λus s1 ZI=>?_) (by rw [hs,rY]) (by rw [rY];rfl)));obtain ⟨vs,H1,I1,r1,q1⟩:=ZI;obtain ⟨i,j,e,⟨q1,q2,q3,q4⟩,q⟩:=q1;subst e;cases r1 with
 | cons r rr=>
  cases rr with
  | cons r' rr=>
   cases rr;obtain ⟨t,rfl⟩:=r;obtain ⟨t',rfl⟩:=r';exact call_range_2 (sR I1 q1 q2 q3 q4 q)
def aak (wi:TI)(g:TG)(tb:TS):TS:=λD σ H=>wi σ H λJ H1=>∃ W:Nat->Nat->St->Hp->Prop,(∃ m,W 0 m σ H1)/\∀ i m σ H,W i m σ H ->
 (J.stop i H/\D.nx σ H)\/(J.go i H/\∃ N:St->Hp->Prop,(∀ bu H',N bu H'->∃ m',m' < m/\W (i + 1) m' bu H')/\∀ x H',J.nV i H x H'->g x σ H' fun i8 H2=>tb (D.lp N) i8 H2)
def cZ (fp:List Addr)(h:Heap):List (Addr×Obj):=fp.filterMap λb=>(h.get? b).map λo=>(b,o)
theorem wT {fp:List Addr}{h:Heap}{b:Addr}{o:Obj}(hb:b∈fp)(e:h.get? b=some o):(b,o)∈cZ fp h:=yh.mpr ⟨b,hb,by rw [e];rfl⟩
theorem o8 {fp:List Addr}{h:Heap}{p:Addr×Obj}(hp:p∈cZ fp h):p.1∈fp/\h.get? p.1=some p.2:=by
 obtain ⟨b,hb,e⟩:=yh.mp hp;cases q:h.get? b with
 | none=>rw [q] at e;cases e
 | some o=>
  rw [q] at e;have e':(b,o)=p:=Option.some.inj e;subst e';exact ⟨hb,q⟩
theorem Inv.pinned {ah:List (Addr×Obj)}{σ:St}{H:Hp}{s:Shared}{fp:List Addr}(I:Inv X ah σ H s)(hf:∀ b∈fp,gU X ah H b)(ho:∀ b∈fp,∃ o,s.heap.get? b=some o/\∀ v,o.data≠.cell v):Inv X (ah++cZ fp s.heap) σ H s:=
 I.bP λp hp=>(zX.mp hp).elim (λz=>I.pin p (zE _ z)) λz=>by
  obtain ⟨hb,e⟩:=o8 z;obtain ⟨f0,f1,f2,_⟩:=hf p.1 hb;obtain ⟨o,e',d⟩:=ho p.1 hb;rw [e] at e';cases e';exact ⟨e,f0,f1,f2,d⟩
theorem Inv.cB {ah pl:List (Addr×Obj)}{σ:St}{H:Hp}{s:Shared}(I:Inv X (ah++pl) σ H s):Inv X ah σ H s:=I.bP λp hp=>I.pin p (zE _ (zT _ hp))
theorem wl {iter:Expr}{body:List Stmt}{wi:TI}{g:TG}{tb:TS}{pos:Pos}(hp:PassesOwn (model X.prog X.w) X.A X.env X.xe)(hc:X.calm=true)(hi:PI X tg iter wi)(hg:PG X tg g)(hb:lO X body tb)
  (hs:∀ x,foldedSetIterable iter X.env x=pure x:=by intro _;rfl):PS X (.For tg iter body [] pos) (aak wi g tb):=by
 intro ah s σ H D I h;refine wpAny_For (aV (hi ah s σ H _ I h) λv s1 h1=>aV h1 λXk s2 h2=>?_) hs;obtain ⟨it,fp,tn,J,H2,e,I2,T,Qo,f2,W,⟨m0,w0⟩,turn⟩:=h2;subst e
 -- aef stays true of LK iX objects through LK loop
 have iT:∀ {H':Hp},(∀ b∈fp,H' b=none)->∀ b∈fp,gU X ah H' b:=λhn b hb=>⟨hn b hb,(f2 b hb).2⟩;refine codeAny_forLoop_any (λn s'=>∃ i bu H',Inv X ah bu H' s'/\tn i s'.heap/\(∀ b∈fp,H' b=none)/\W i n bu H') ?_ m0 ⟨0,σ,H2,I2,Qo,λb hb=>(f2 b hb).1,w0⟩;rintro n s3 ⟨i,NC,H3,I3,st3,fr3,w3⟩;rcases turn i n NC H3 w3 with ⟨stop,qn⟩ | ⟨go,N,hN,step⟩
 ·refine wpAny_passesOwn hp (aV (T.done X rfl rfl rfl hc i ah s3 NC H3 X.xe I3 (iT fr3) st3 stop) λr s4 ⟨hr,I4⟩=>?_);subst hr;exact wpAny_execs_nil ⟨NC,H3,I4,qn⟩
 ·refine wpAny_passesOwn hp (aV (T.item X rfl rfl rfl hc i ah s3 NC H3 X.xe I3 (iT fr3) st3 go) λr s4 ⟨u,hr,h4⟩=>?_);subst hr;refine wpAny_passesOwn hp (aV h4 λ_ s5 ZH=>?_);obtain ⟨x,H5,I5,r5,y5,Nj,QD⟩:=ZH;have I5':=I5.pinned (iT QD) (T.obj _ _ Nj);refine wpAny_passesOwn hp (aV (hg _ s5 NC H5 x u _ I5' r5 (step x H5 y5)) λ_ s6 ZG=>?_);obtain ⟨σ6,H6,I6,q6⟩:=ZG;refine wpAny_passesOwn hp (aV (hb _ s6 σ6 H6 _ I6 q6) λf s7 q7=>?_);have again:∀ {NB:St} {H7:Hp},Inv X (ah++cZ fp s5.heap) NB H7 s7->N NB H7->∃ m,m < n/\∃ i bu H',Inv X ah bu H' s7/\tn i s7.heap/\(∀ b∈fp,H' b=none)/\W i m bu H':=λ{NB H7} I7 n7=>by
   obtain ⟨m',hm,w7⟩:=hN NB H7 n7;refine ⟨m',hm,i + 1,NB,H7,I7.cB,T.keep _ _ _ Nj λb hb o e=>(I7.pin (b,o) (zE _ (zE _ (wT hb e)))).1,λb hb=>?_,w7⟩;obtain ⟨o,e,d⟩:=T.obj _ _ Nj b hb;exact (I7.pin (b,o) (zE _ (zE _ (wT hb e)))).2.1
  cases f with
  | next=>obtain ⟨NB,H7,I7,n7⟩:=q7;exact again I7 n7
  | cont=>obtain ⟨NB,H7,I7,n7⟩:=q7;exact again I7 n7
  | brk=>obtain ⟨NB,H7,I7,q7⟩:=q7;exact ⟨NB,H7,I7.cB,q7⟩
  | ret v=>obtain ⟨x7,NB,H7,I7,r7,q7⟩:=q7;exact ⟨x7,NB,H7,I7.cB,r7,q7⟩
end
theorem cV {K:PySem.W.Frag}{a:Addr}{xs:List V}{g:TG}{tb:TS}{D:Ends}{σ:St}{H:Hp}(Pv:Nat->St->Hp->Prop)(h0:Pv 0 σ H)(hl:∀ i σ H,i<=xs.length->Pv i σ H->aH K H a xs)
  (hs:∀ i x σ H,xs[i]?=some x->Pv i σ H->g x σ H fun i8 H2=>tb (D.lp (Pv (i + 1))) i8 H2) (hd:∀ σ H,Pv xs.length σ H->D.nx σ H) :
  ∃ W:Nat->Nat->St->Hp->Prop,(∃ m,W 0 m σ H)/\∀ i m σ H,W i m σ H ->
   ((Nf K a).stop i H/\D.nx σ H)\/((Nf K a).go i H/\∃ N:St->Hp->Prop,(∀ bu H',N bu H'->∃ m',m' < m/\W (i + 1) m' bu H')/\∀ x H',(Nf K a).nV i H x H'->g x σ H' fun i8 H2=>tb (D.lp N) i8 H2):=by
 refine ⟨λi m σ H=>m=xs.length - i/\i<=xs.length/\Pv i σ H,⟨xs.length,by simp,za _,h0⟩,?_⟩;rintro i m σ H ⟨rfl,hi,p⟩;have q:=hl i σ H hi p;by_cases cA:i < xs.length
 ·refine .inr ⟨⟨xs,xs[i],q,by simp [cA]⟩,Pv (i + 1),fun bu H' p'=>⟨xs.length - (i + 1),by omega,rfl,cA,p'⟩,λx H' y=>?_⟩;obtain ⟨e,y⟩:=y;subst e;exact hs i x σ _ (y xs q) p
 ·have e:i=xs.length:=by omega
  subst e;exact .inl ⟨⟨xs,q,zF _⟩,hd σ H p⟩
theorem ir {lo:Int}{n:Nat}{g:TG}{tb:TS}{D:Ends}{σ:St}{H:Hp}(Pv:Nat->St->Hp->Prop)(h0:Pv 0 σ H)
  (hs:∀ i σ H,i < n->Pv i σ H->g (.int (lo + i)) σ H fun i8 H2=>tb (D.lp (Pv (i + 1))) i8 H2) (hd:∀ σ H,Pv n σ H->D.nx σ H) :
  ∃ W:Nat->Nat->St->Hp->Prop,(∃ m,W 0 m σ H)/\∀ i m σ H,W i m σ H ->
   ((Qi lo n).stop i H/\D.nx σ H)\/((Qi lo n).go i H/\∃ N:St->Hp->Prop,(∀ bu H',N bu H'->∃ m',m' < m/\W (i + 1) m' bu H')/\∀ x H',(Qi lo n).nV i H x H'->g x σ H' fun i8 H2=>tb (D.lp N) i8 H2):=by
 refine ⟨λi m σ H=>m=n - i/\i<=n/\Pv i σ H,⟨n,by simp,za _,h0⟩,?_⟩;rintro i m σ H ⟨rfl,hi,p⟩;by_cases cA:i < n
 ·refine .inr ⟨cA,Pv (i + 1),fun bu H' p'=>⟨n - (i + 1),by omega,rfl,cA,p'⟩,λx H' y=>?_⟩;obtain ⟨e,y⟩:=y;subst e y;exact hs i σ _ cA p
 ·have e:i=n:=by omega
  subst e;exact .inl ⟨zF _,hd σ H p⟩
theorem se {c:TT}{tb:TS}{D:Ends}{σ:St}{H:Hp}(Pv:St->Hp->Prop)(μ:St->Hp->Nat)(h0:Pv σ H)
  (hs:∀ σ H,Pv σ H->c σ H λb H1=>if b=true then tb (D.lp fun bu H'=>Pv bu H'/\μ bu H' < μ σ H) σ H1 else D.nx σ H1)
  (mono:∀ σ H Q Q',(∀ b H1,Q b H1->Q' b H1)->c σ H Q->c σ H Q'):lU c tb D σ H:=by
 refine ⟨λm σ H=>m=μ σ H/\Pv σ H,⟨_,rfl,h0⟩,?_⟩;rintro m σ H ⟨rfl,p⟩;refine mono σ H _ _ (λb H1 q=>?_) (hs σ H p);cases b with
 | true=>exact ⟨_,fun bu H' ⟨p',l⟩=>⟨_,l,rfl,p'⟩,q⟩
 | false=>exact q
abbrev R2:=V->V->Hp->VK->Prop
def iB (X:Cx)(f:Value->Value->Sem Value)(r:R2):Prop:=
 ∀ (ah:List (Addr×Obj)) (s:Shared) (σ:St) (H:Hp) (x y:V) (v u:Value) (Q:VK),Inv X ah σ H s->RelV x v->RelV y u->r x y H Q ->
  wpAny (model X.prog X.w) X.A (f v u) (EP X ah σ Q) X.xe s
def UnR (X:Cx)(f:Value->Sem Value)(r:V->Hp->VK->Prop):Prop:=
 ∀ (ah:List (Addr×Obj)) (s:Shared) (σ:St) (H:Hp) (x:V) (v:Value) (Q:VK),Inv X ah σ H s->RelV x v->r x H Q ->
  wpAny (model X.prog X.w) X.A (f v) (EP X ah σ Q) X.xe s
def dU (X:Cx)(f:Value)(r:List V->Hp->VK->Prop):Prop:=
 ∀ (ah:List (Addr×Obj)) (s:Shared) (σ:St) (H:Hp) (xs:List V) (us:List Value) (Q:VK),Inv X ah σ H s->Vals xs us->r xs H Q ->
  wpAny (model X.prog X.w) X.A (call f us) (EP X ah σ Q) X.xe s
def acg (X:Cx)(r:V->Hp->(Bool->Hp->Prop)->Prop):Prop:=
 ∀ (ah:List (Addr×Obj)) (s:Shared) (σ:St) (H:Hp) (x:V) (v:Value) (Q:Bool->Hp->Prop),Inv X ah σ H s->RelV x v->r x H Q ->
  wpAny (model X.prog X.w) X.A (truthy v) (TP X ah σ Q) X.xe s
def uV (r:R2)(ta tb:TE):TE:=fun σ H Q=>ta σ H λx H1=>tb σ H1 λy H2=>r x y H2 Q
def Sl (r:V->Hp->VK->Prop)(ta:TE):TE:=fun σ H Q=>ta σ H λx H1=>r x H1 Q
def rI (C:Int->Int->Prop)(g:Int->Int->V):R2:=λx y H Q=>∃ i j,x=.int i/\y=.int j/\C i j/\Q (g i j) H
def sU (g:Int->Int->V):R2:=λx y H Q=>∃ i j,x=.int i/\y=.int j/\Q (g i j) H
def rU (g:Int->V):V->Hp->VK->Prop:=λx H Q=>∃ i,x=.int i/\Q (g i) H
section
variable {X:Cx}{a b c:Expr}{ta tb tc:TE}{pos:Pos}
theorem Vq (ha:PE X a ta)(hb:PE X b tb){ah:List (Addr×Obj)}{s:Shared}{σ:St}{H:Hp}{R:V->V->Hp->Prop}(I:Inv X ah σ H s)
  (h:ta σ H λx H1=>tb σ H1 λy H2=>R x y H2) {Q:Value->Shared->Prop}{f:Value->Value->Sem Value}
  (hf:∀ v u s2 x y H2,Inv X ah σ H2 s2->RelV x v->RelV y u->R x y H2->wpAny (model X.prog X.w) X.A (f v u) Q X.xe s2) :
  wpAny (model X.prog X.w) X.A (eval a X.env) (λv aN=>wpAny (model X.prog X.w) X.A (eval b X.env) (λu gh=>wpAny (model X.prog X.w) X.A (f v u) Q X.xe gh) X.xe aN) X.xe s:=by
 refine aV (ha ah s σ H _ I h) λv s1 ZF=>?_;obtain ⟨x,H1,I1,r1,q1⟩:=ZF;refine aV (hb ah s1 σ H1 _ I1 q1) λu s2 ZE=>?_;obtain ⟨y,H2,I2,r2,q2⟩:=ZE;exact hf v u s2 x y H2 I2 r1 r2 q2
theorem wA {op:Operator}{r:R2}(ho:iB X (binaryOp op) r)(ha:PE X a ta)(hb:PE X b tb):PE X (.BinOp a op b pos) (uV r ta tb):=by intro ah s σ H Q I h;exact wpAny_BinOp (Vq ha hb I h λv u s2 x y H2 I2 rx ry q=>ho ah s2 σ H2 x y v u Q I2 rx ry q)
theorem sZ {op:UnaryOp}{r:V->Hp->VK->Prop}(ho:UnR X (unaryOp op) r)(ha:PE X a ta):PE X (.UnaryOp op a pos) (Sl r ta):=by intro ah s σ H Q I h;exact UnaryOp_ (aV (ha ah s σ H _ I h) λv s1 ⟨x,H1,I1,r1,q1⟩=>ho ah s1 σ H1 x v Q I1 r1 q1)
theorem WQ {f:Value->Value->Sem Value}{C:Int->Int->Prop}{g:Int->Int->Int}
  (rule:∀ (i j:Int) (t u:Tok) (s:Shared) (Q:Value->Shared->Prop) (E:Value->Shared->Prop),C i j->Q (.int (g i j) s.toks) { s with toks:=s.toks + 1 }->wpAny (model X.prog X.w) X.A (f (.int i t) (.int j u)) Q E s) :
  iB X f (rI C λi j=>.int (g i j)):=by
 intro ah s σ H x y v u Q I rx ry h;obtain ⟨i,j,rfl,rfl,hc,q⟩:=h;obtain ⟨t,rfl⟩:=rx;obtain ⟨t',rfl⟩:=ry;exact rule i j t t' s _ _ hc ⟨.int (g i j),H,I.tok _,⟨_,rfl⟩,q⟩
theorem Rz {f:Value->Value->Sem Value}{g:Int->Int->Int}
  (rule:∀ (i j:Int) (t u:Tok) (s:Shared) (Q:Value->Shared->Prop) (E:Value->Shared->Prop),Q (.int (g i j) s.toks) { s with toks:=s.toks + 1 }->wpAny (model X.prog X.w) X.A (f (.int i t) (.int j u)) Q E s) :
  iB X f (sU λi j=>.int (g i j)):=by
 intro ah s σ H x y v u Q I rx ry h;obtain ⟨i,j,rfl,rfl,q⟩:=h;obtain ⟨t,rfl⟩:=rx;obtain ⟨t',rfl⟩:=ry;exact rule i j t t' s _ _ ⟨.int (g i j),H,I.tok _,⟨_,rfl⟩,q⟩
theorem RA {f:Value->Value->Sem Value}{g:Int->Int->Bool}
  (rule:∀ (i j:Int) (t u:Tok) (s:Shared) (Q:Value->Shared->Prop) (E:Value->Shared->Prop),Q (.bool (g i j)) s->wpAny (model X.prog X.w) X.A (f (.int i t) (.int j u)) Q E s) :
  iB X f (sU λi j=>.bl (g i j)):=by
 intro ah s σ H x y v u Q I rx ry h;obtain ⟨i,j,rfl,rfl,q⟩:=h;obtain ⟨t,rfl⟩:=rx;obtain ⟨t',rfl⟩:=ry;exact rule i j t t' s _ _ ⟨.bl (g i j),H,I,rfl,q⟩
def KJ (i j:Int):Prop:=0<=j/\j<=1000000/\i.natAbs < 2 ^ 64
def Nh (i j:Int):Prop:=(-(2 ^ 64) < i/\i < 2 ^ 64)\/(-(2 ^ 64) < j/\j < 2 ^ 64)
theorem Nh.ok {i j:Int}(h:Nh i j):IntMulOk i j:=by
 rcases h with ⟨h1,h2⟩ | ⟨h1,h2⟩
 ·exact .of_left (intBits_le_64 h1 h2)
 ·exact .of_right (intBits_le_64 h1 h2)
theorem wJ:iB X (binaryOp .Add) (sU λi j=>.int (i + j)):=Rz λ_ _ _ _ _ _ _ q=>add_int q
theorem fO:iB X (binaryOp .Sub) (sU λi j=>.int (i - j)):=Rz λ_ _ _ _ _ _ _ q=>sub_int q
theorem dO:iB X (binaryOp .Mult) (rI Nh λi j=>.int (i * j)):=WQ λ_ _ _ _ _ _ _ hc q=>mul_int q hc.ok
theorem gw:iB X (binaryOp .Mod) (rI (λ_ j=>0 < j) λi j=>.int (i % j)):=WQ λi j _ _ _ _ _ hc q=>by
 have h1:(0:Int) < j:=hc;exact mod_int' (by omega) (by rw [Int.fmod_eq_emod_of_nonneg i (by omega)];exact q)
theorem iW:iB X (binaryOp .Pow) (rI KJ λi j=>.int (i ^ j.toNat)):=WQ λ_ _ _ _ _ _ _ hc q=>pow_int_small hc.1 hc.2.1 hc.2.2 q
theorem OE:iB X (binaryOp .LShift) (rI KJ λi j=>.int (i * 2 ^ j.toNat)):=WQ λ_ _ _ _ _ _ _ hc q=>lshift_int_small hc.1 hc.2.1 hc.2.2 q
theorem OH:iB X (binaryOp .BitAnd) (sU λi j=>.int (Builtin.bitAnd i j)):=Rz λ_ _ _ _ _ _ _ q=>and_int q
theorem Ul:iB X (binaryOp .BitXor) (sU λi j=>.int (Builtin.bitXor i j)):=Rz λ_ _ _ _ _ _ _ q=>xor_int q
theorem unI {f:Value->Sem Value}{g:Int->Int}
  (rule:∀ (i:Int) (t:Tok) (s:Shared) (Q:Value->Shared->Prop) (E:Value->Shared->Prop),Q (.int (g i) s.toks) { s with toks:=s.toks + 1 }->wpAny (model X.prog X.w) X.A (f (.int i t)) Q E s) :
  UnR X f (rU λi=>.int (g i)):=by
 intro ah s σ H x v Q I rx h;obtain ⟨i,rfl,q⟩:=h;obtain ⟨t,rfl⟩:=rx;exact rule i t s _ _ ⟨.int (g i),H,I.tok _,⟨_,rfl⟩,q⟩
theorem lS:UnR X (unaryOp .USub) (rU λi=>.int (-i)):=unI λ_ _ _ _ _ q=>neg_int q
end
def T9:V->Bool
 | .bZ=>true | .int _=>true | .bl _=>true | .str _=>true | _=>false
def VI:V->Bool
 | .bZ=>true | .int _=>true | .str _=>true | _=>false
def VJ:V->Bool
 | .bZ=>true | .bl _=>true | .str _=>true | _=>false
def scY:V->Bool
 | .Lo _=>true | _=>false
def vj:V->V->Bool
 | .bZ,y=>T9 y | .int _,y=>VI y | .bl _,y=>VJ y | .str _,y=>T9 y | .Lo _,y=>scY y | _,_=>false
def VO:R2:=λx y H Q=>vj x y=true/\Q (.bl (decide (x=y))) H
def VN:R2:=λx y H Q=>vj x y=true/\Q (.bl (!decide (x=y))) H
theorem Li {i j:Int}:decide (V.int i=V.int j)=(i == j):=by rw [xZ];simp
theorem PM {i j:Bool}:decide (V.bl i=V.bl j)=(i == j):=by rw [xZ];simp
theorem Lh {i j:Str}:decide (V.str i=V.str j)=(i == j):=by rw [xZ];simp
theorem Lj {i j:Array UInt8}:decide (V.Lo i=V.Lo j)=(i.toList == j.toList):=by rw [xZ];cases i;cases j;simp
section
variable {X:Cx}{a b c:Expr}{ta tb tc:TE}{pos:Pos}
theorem wQ {ah:List (Addr×Obj)}{σ:St}{H:Hp}{s:Shared}{Q:VK}{k k':Bool}(I:Inv X ah σ H s)(q:Q (.bl k) H)(e:k=k'):EP X ah σ Q (.bool k') s:=by subst e;exact ⟨.bl k,H,I,rfl,q⟩
theorem qL:iB X (compareOp .Eq) VO:=by
 intro ah s σ H x y v u Q I rx ry h;obtain ⟨hs,q⟩:=h;cases x with
 | bZ=>
  cases rx;cases y with
  | bZ=>cases ry;exact PySem.EqNone.eq_none_none (wQ I q (by simp))
  | bl j=>cases ry;exact PySem.EqNone.eq_none_bool (wQ I q (by simp))
  | int j=>obtain ⟨t',rfl⟩:=ry;exact PySem.EqNone.eq_none_int (wQ I q (by simp))
  | str j=>obtain ⟨t',rfl⟩:=ry;exact PySem.EqNone.eq_none_str (wQ I q (by simp))
  | _=>exact absurd (show false=true from hs) zM
 | bl i=>
  cases rx;cases y with
  | bZ=>cases ry;exact PySem.EqNone.eq_bool_none (wQ I q (by simp))
  | bl j=>cases ry;exact eq_bool (wQ I q PM)
  | str j=>obtain ⟨t',rfl⟩:=ry;exact PySem.EqMixed.eq_bool_str (wQ I q (by simp))
  | _=>exact absurd (show false=true from hs) zM
 | int i=>
  obtain ⟨t,rfl⟩:=rx;cases y with
  | bZ=>cases ry;exact PySem.EqNone.eq_int_none (wQ I q (by simp))
  | int j=>obtain ⟨t',rfl⟩:=ry;exact eq_int (wQ I q Li)
  | str j=>obtain ⟨t',rfl⟩:=ry;exact PySem.EqMixed.eq_int_str (wQ I q (by simp))
  | _=>exact absurd (show false=true from hs) zM
 | str i=>
  obtain ⟨t,rfl⟩:=rx;cases y with
  | bZ=>cases ry;exact PySem.EqNone.eq_str_none (wQ I q (by simp))
  | bl j=>cases ry;exact PySem.EqMixed.eq_str_bool (wQ I q (by simp))
  | int j=>obtain ⟨t',rfl⟩:=ry;exact PySem.EqMixed.eq_str_int (wQ I q (by simp))
  | str j=>obtain ⟨t',rfl⟩:=ry;exact eq_str (wQ I q Lh)
  | _=>exact absurd (show false=true from hs) zM
 | Lo i=>
  obtain ⟨t,rfl⟩:=rx;cases y with
  | Lo j=>obtain ⟨t',rfl⟩:=ry;exact PySem.W.eq_bytes (wQ I q Lj)
  | _=>exact absurd (show false=true from hs) zM
 | _=>cases y <;> exact absurd (show false=true from hs) zM
theorem iG:iB X (compareOp .NotEq) VN:=by
 intro ah s σ H x y v u Q I rx ry h;obtain ⟨hs,q⟩:=h;cases x with
 | bZ=>
  cases rx;cases y with
  | bZ=>cases ry;exact PySem.EqNone.ne_none_none (wQ I q (by simp))
  | bl j=>cases ry;exact PySem.EqNone.ne_none_bool (wQ I q (by simp))
  | int j=>obtain ⟨t',rfl⟩:=ry;exact PySem.EqNone.ne_none_int (wQ I q (by simp))
  | str j=>obtain ⟨t',rfl⟩:=ry;exact PySem.EqNone.ne_none_str (wQ I q (by simp))
  | _=>exact absurd (show false=true from hs) zM
 | bl i=>
  cases rx;cases y with
  | bZ=>cases ry;exact PySem.EqNone.ne_bool_none (wQ I q (by simp))
  | bl j=>cases ry;exact ne_bool (wQ I q (congrArg not PM))
  | str j=>obtain ⟨t',rfl⟩:=ry;exact PySem.EqMixed.ne_bool_str (wQ I q (by simp))
  | _=>exact absurd (show false=true from hs) zM
 | int i=>
  obtain ⟨t,rfl⟩:=rx;cases y with
  | bZ=>cases ry;exact PySem.EqNone.ne_int_none (wQ I q (by simp))
  | int j=>obtain ⟨t',rfl⟩:=ry;exact ne_int (wQ I q (congrArg not Li))
  | str j=>obtain ⟨t',rfl⟩:=ry;exact PySem.EqMixed.ne_int_str (wQ I q (by simp))
  | _=>exact absurd (show false=true from hs) zM
 | str i=>
  obtain ⟨t,rfl⟩:=rx;cases y with
  | bZ=>cases ry;exact PySem.EqNone.ne_str_none (wQ I q (by simp))
  | bl j=>cases ry;exact PySem.EqMixed.ne_str_bool (wQ I q (by simp))
  | int j=>obtain ⟨t',rfl⟩:=ry;exact PySem.EqMixed.ne_str_int (wQ I q (by simp))
  | str j=>obtain ⟨t',rfl⟩:=ry;exact ne_str (wQ I q (congrArg not Lh))
  | _=>exact absurd (show false=true from hs) zM
 | Lo i=>
  obtain ⟨t,rfl⟩:=rx;cases y with
  | Lo j=>obtain ⟨t',rfl⟩:=ry;exact PySem.W.ne_bytes (wQ I q (congrArg not Lj))
  | _=>exact absurd (show false=true from hs) zM
 | _=>cases y <;> exact absurd (show false=true from hs) zM
theorem KY:iB X (compareOp .Lt) (sU λi j=>.bl (decide (i < j))):=RA λ_ _ _ _ _ _ _ q=>lt_int q
theorem o7:iB X (compareOp .LtE) (sU λi j=>.bl (decide (i<=j))):=RA λ_ _ _ _ _ _ _ q=>le_int q
theorem iH:iB X (compareOp .Gt) (sU λi j=>.bl (decide (j < i))):=RA λ_ _ _ _ _ _ _ q=>gt_int q
theorem SG:iB X (compareOp .GtE) (sU λi j=>.bl (decide (j<=i))):=RA λ_ _ _ _ _ _ _ q=>ge_int q
theorem aB (b:Expr){op:CmpOp}(h:op≠.In:=by decide)(h2:op≠.NotIn:=by decide):behindInMarks op b=false:=by
 have e1:(op == CmpOp.In)=false:=by cases op <;> first | rfl | exact absurd rfl h
 have e2:(op == CmpOp.NotIn)=false:=by cases op <;> first | rfl | exact absurd rfl h2
 cases b <;> simp [behindInMarks,e1,e2]
theorem wv {op:CmpOp}{r:R2}(ho:iB X (compareOp op) r)(ha:PE X a ta)(hb:PE X b tb)(hm:behindInMarks op b=false):PE X (.Compare a [op] [b] pos) (uV r ta tb):=by intro ah s σ H Q I h;exact wpAny_Compare1 (Vq ha hb I h λv u s2 x y H2 I2 rx ry q=>ho ah s2 σ H2 x y v u Q I2 rx ry q) hm
def oO (t:TE):TT:=fun σ H Q=>t σ H λx H'=>∃ k,x=.bl k/\Q k H'
theorem wD {op:CmpOp}{r:R2}(ho:iB X (compareOp op) r)(ha:PE X a ta)(hb:PE X b tb)(hm:behindInMarks op b=false):PT X (.Compare a [op] [b] pos) (oO (uV r ta tb)):=by intro ah s σ H Q I h;refine wpAny_isTrue_Compare1 (aV (ha ah s σ H _ I h) λv s1 ZD=>?_) hm;obtain ⟨x,H1,I1,r1,q1⟩:=ZD;refine aV (hb ah s1 σ H1 _ I1 q1) λu s2 ZC=>?_;obtain ⟨y,H2,I2,r2,q2⟩:=ZC;refine aV (ho ah s2 σ H2 x y v u _ I2 r1 r2 q2) λc s3 ZA=>?_;obtain ⟨z,H3,I3,r3,k,e,q3⟩:=ZA;subst e;cases r3;exact wpAny_truthy_bool ⟨H3,I3,q3⟩
def jS (r r':R2)(ta tb tc:TE):TE:=fun σ H Q=>ta σ H λx H1=>tb σ H1 λy H2=>r x y H2 λz H3=>∃ k,z=.bl k /\
 (if k=true then tc σ H3 λw' H4=>r' y w' H4 Q else Q (.bl false) H3)
theorem Oz {op op':CmpOp}{r r':R2}(ho:iB X (compareOp op) r)(vR:iB X (compareOp op') r')(ha:PE X a ta)(hb:PE X b tb)(hc:PE X c tc)
  (hm:lastMarks [op,op'] [b,c]=false:=by with_unfolding_all rfl):PE X (.Compare a [op,op'] [b,c] pos) (jS r r' ta tb tc):=by
 intro ah s σ H Q I h;refine Compare_chain (aV (ha ah s σ H _ I h) λv s1 Zz=>?_) hm;obtain ⟨x,H1,I1,r1,q1⟩:=Zz;refine chain_link (aV (hb ah s1 σ H1 _ I1 q1) λu s2 Zy=>?_);obtain ⟨y,H2,I2,r2,q2⟩:=Zy;refine aV (ho ah s2 σ H2 x y v u _ I2 r1 r2 q2) λd s3 Zx=>?_;obtain ⟨z,H3,I3,r3,k,e,q3⟩:=Zx;subst e;cases r3;refine wpAny_truthy_bool ?_;cases k with
 | false=>exact ite_ff ⟨.bl false,H3,I3,rfl,q3⟩
 | true=>exact ite_tt (chain_last (aV (hc ah s3 σ H3 _ I3 q3) λw' s4 ⟨z',H4,I4,r4,q4⟩=>vR ah s4 σ H4 y z' u w' Q I4 r2 r4 q4))
def Yd (K:PySem.W.Frag)(x:V)(H:Hp)(k:Bool):Prop:=
 match x with
 | .bZ=>k=false
 | .bl b=>k=b
 | .int i=>k=(i != 0)
 | .str y=>y.length<=sizeLine/\k=((y.length:Int) != 0)
 | .Lo y=>y.size<=sizeLine/\k=((y.size:Int) != 0)
 | .ref p=>(∃ xs,aH K H p xs/\k=!xs.isEmpty)\/(∃ xs,bC K H p xs/\k=!xs.isEmpty)\/∃ aJ,H p=some (.dK aJ)/\k=!aJ.isEmpty
 | _=>False
theorem vK {κ:Type}{aJ:List (κ×V)}{vs:List (κ×Value)}(r:KV aJ vs):(!vs.isEmpty)=!aJ.isEmpty:=by cases r <;> rfl
theorem mS {xs:List V}{ay:List Value}(r:Vals xs ay):(!ay.toArray.isEmpty)=!xs.isEmpty:=by cases r <;> simp
theorem j4:(sizeLine:Nat) < 2 ^ 63:=by rw [sizeLine_eq];decide
theorem Tv:acg X (λx H Q=>∃ k,Yd X.K x H k/\Q k H):=by
 intro ah s σ H x v Q I rx h;obtain ⟨k,e,q⟩:=h;have hl:=j4;have hs:sizeLine=16777216:=sizeLine_eq;cases x with
 | bZ=>
  cases rx;have e':k=false:=e;subst e';exact truthy_none ⟨H,I,q⟩
 | bl b=>
  cases rx;have e':k=b:=e;subst e';exact wpAny_truthy_bool ⟨H,I,q⟩
 | int i=>
  obtain ⟨t,rfl⟩:=rx;have e':k=(i != 0):=e;subst e';exact PySem.P.truthy_int ⟨H,I,q⟩
 | str y=>
  obtain ⟨t,rfl⟩:=rx;obtain ⟨hy,e'⟩:y.length<=sizeLine/\k=((y.length:Int) != 0):=e;subst e';exact PySem.P.truthy_str (by omega) ⟨H,I.tok _,q⟩
 | Lo y=>
  obtain ⟨t,rfl⟩:=rx;obtain ⟨hy,e'⟩:y.size<=sizeLine/\k=((y.size:Int) != 0):=e;subst e';exact PySem.W.truthy_bytes (by omega) ⟨H,I.tok _,q⟩
 | ref p=>
  cases rx;have e':(∃ xs,aH X.K H p xs/\k=!xs.isEmpty)\/(∃ xs,bC X.K H p xs/\k=!xs.isEmpty)\/∃ aJ,H p=some (.dK aJ)/\k=!aJ.isEmpty:=e;rcases e' with ⟨xs,hx,e'⟩ | ⟨xs,hx,e'⟩ | ⟨aJ,hx,e'⟩
  ·subst e';obtain ⟨ay,r,pl,hz⟩:=I.list hx;have hlen:=r.length;exact wpAny_truthy_list pl.isList (by simp only [zQ];omega) ⟨H,I.tok _,by rw [mS r];exact q⟩
  ·subst e';obtain ⟨ay,r,pl,hz⟩:=I.tuple hx;have hlen:=r.length;exact truthy_tuple pl (by simp only [zQ];omega) ⟨H,I.tok _,by rw [mS r];exact q⟩
  ·subst e';obtain ⟨hz,hS,vs,r,m⟩:aJ.length<=sizeLine/\(p == sysModules)=false/\∃ vs,KV aJ vs/\s.heap.DictOf (bQ X.prog X.w) p vs:=I.aT p _ hx;have hlen:aJ.length=vs.length:=Paired.length r;exact wpAny_truthy_dict hS m (by omega) ⟨H,I.tok _,by rw [vK r];exact q⟩
 | _=>exact (show False from e).elim
theorem sW (ha:PE X a ta)(he:∀ whole,isTrue a X.env whole=(do let v <- whole;standAt a.pos;holding [v] (truthy v))) :
  PT X a (fun σ H Q=>ta σ H λx H'=>∃ k,Yd X.K x H' k/\Q k H'):=by
 intro ah s σ H Q I h;exact isTrue_plain (aV (ha ah s σ H _ I h) λv s1 ⟨x,H1,I1,r1,q1⟩=>Tv ah s1 σ H1 x v Q I1 r1 q1) (he _)
theorem vals1 {x:V}{us:List Value}(r:Vals [x] us):∃ u,us=[u]/\RelV x u:=by
 cases r with
 | cons r1 r2=>cases r2;exact ⟨_,rfl,r1⟩
theorem vals2 {x y:V}{us:List Value}(r:Vals [x,y] us):∃ u w',us=[u,w']/\RelV x u/\RelV y w':=by
 cases r with
 | cons r1 r2=>
  cases r2 with
  | cons r3 r4=>cases r4;exact ⟨_,_,rfl,r1,r3⟩
theorem ki (hc:X.calm=true):dU X (.builtin "max") (λxs H Q=>∃ i j,xs=[.int i,.int j]/\Q (.int (if j > i then j else i)) H):=by
 intro ah s σ H xs us Q I r h;obtain ⟨i,j,rfl,q⟩:=h;obtain ⟨u,w',rfl,⟨t,rfl⟩,⟨t',rfl⟩⟩:=vals2 r;refine max_two_ints (I.ok.hd hc) λh' tk k=>⟨_,H,I.kept k,?_,q⟩;by_cases hj:j > i
 ·rw [if_pos hj,if_pos hj];exact ⟨_,rfl⟩
 ·rw [if_neg hj,if_neg hj];exact ⟨_,rfl⟩
theorem pR (hc:X.calm=true):dU X (.builtin "min") (λxs H Q=>∃ i j,xs=[.int i,.int j]/\Q (.int (if j < i then j else i)) H):=by
 intro ah s σ H xs us Q I r h;obtain ⟨i,j,rfl,q⟩:=h;obtain ⟨u,w',rfl,⟨t,rfl⟩,⟨t',rfl⟩⟩:=vals2 r;refine min_two_ints (I.ok.hd hc) λh' tk k=>⟨_,H,I.kept k,?_,q⟩;by_cases hj:j < i
 ·rw [if_pos hj,if_pos hj];exact ⟨_,rfl⟩
 ·rw [if_neg hj,if_neg hj];exact ⟨_,rfl⟩
end
structure Vy (h:Heap) (x dx C:Addr) (mA:Str->Option Value):Prop where
 obj:h.get? x=some (PySem.W.instObj C dx)
 ns:h.Ns1 dx mA
 ne:dx≠x
theorem Mu {h:Heap}{dx:Addr}{mA:Str->Option Value}(n:h.Ns1 dx mA):∃ od,h.get? dx=some od/\∀ name,PySem.W.lookIn name od=some (mA name):=by
 obtain ⟨o,es,ep,ho,hd,hk,_,hm⟩:=n;refine ⟨o,ho,λname=>?_⟩;have e:=hm name;unfold nsFind findBy at e;rw [<-Array.find?_toList] at e;unfold PySem.W.lookIn;rw [hd];dsimp only;split
 ·rename_i y q;rw [q] at e;exact congrArg some e
 ·rename_i q;rw [q] at e;have a:es.toList.any (·.refKey)=false:=by
   rw [List.any_eq_false];intro y hy;obtain ⟨z,t,abo⟩:=hk y (Array.mem_toList_iff.mp hy);simp [DictEntry.refKey,abo]
  have a':¬ es.toList.any (·.refKey)=true:=by rw [a];exact zM
  rw [if_neg a'];exact congrArg some e
theorem Vy.look {h:Heap}{x dx C:Addr}{mA:Str->Option Value}(I:Vy h x dx C mA):∃ od,PySem.W.InstAt h x (PySem.W.instObj C dx) C (some od)/\∀ name,PySem.W.lookIn name od=some (mA name):=
 let ⟨od,ho,hl⟩:=Mu I.ns
 ⟨od,⟨I.obj,rfl,rfl,ho⟩,hl⟩
section
variable {prog:Program}{w:World}{A:Around}{E:Value->Shared->Prop}{s:Shared}{K:PySem.W.Frag}{x dx C f:Addr}{mA:Str->Option Value}{name:Str}{v:Value}
end
theorem nN.some_of {v:V}{o:Option Value}(r:nN (some v) o):∃ u,o=some u/\RelV v u:=by
 cases o with
 | none=>exact (show False from r).elim
 | some u=>exact ⟨u,rfl,r⟩
section
variable {P:Program}{w:World}{H H':Hp}{h h':Heap}{a C dx:Addr}{fs fs':List (Str×V)}
theorem RT (aT:fW P w H h)(e:H a=some (.ins C dx fs)):∃ mA,Vy h a dx C mA/\(∀ f,nN (fs.lookup f) (mA f))/\PySem.Within mA (fs.map (·.1))/\fs.length<=1000/\H dx=some (.own a):=by obtain ⟨d,z,ne,ob,mA,n,r,q⟩:=(show bq P w H h a (.ins C dx fs) from aT a _ e);exact ⟨mA,⟨ob,n,ne⟩,r,q,z,d⟩
end
structure Cls (K:PySem.W.Frag) (C:Addr):Prop where
 pg:PySem.W.plainGet K C Str.empty=true
 hd:PySem.W.hasDictIn K C=true
 po:PySem.W.plainOver K C=true
 sa:yq K (.ref C) "__setattr__" = some (some (.builtin "object.__setattr__"))
theorem Cls.get {K:PySem.W.Frag}{C:Addr}(c:Cls K C)(f:Str):PySem.W.plainGet K C f=true:=c.pg
section
variable {X:Cx}{ah:List (Addr×Obj)}{σ:St}{H:Hp}{s:Shared}{a C dx:Addr}{fs:List (Str×V)}{f:Str}{v:V}{A:Around}{E:Value->Shared->Prop}
end
section
variable {X:Cx}{o e value:Expr}{f:Str}{pos pos' Tz:Pos}{ta tv:TE}
end
section
variable {X:Cx}{ah:List (Addr×Obj)}{σ:St}{H:Hp}{s:Shared}{A:Around}{E:Value->Shared->Prop}{Q:Value->Shared->Prop}{c:Value}{b:Bool}
inductive kE (K:PySem.W.Frag) (H:Hp):V->Value->Prop where
 | bZ:kE K H .bZ (.type "NoneType")
 | bl (x:Bool):kE K H (.bl x) (.type "bool")
 | int (i:Int):kE K H (.int i) (.type "int")
 | str (x:Str):kE K H (.str x) (.type "str")
 | Vd (x:UInt64):kE K H (.Vd x) (.type "float")
 | lst {a:Addr}{xs:List V} (e:H a=some (.lst xs)):kE K H (.ref a) (.type "list")
 | nW {a:Addr}{o:Obj}{xs:List V} (e:H a=some (.nW o (.lst xs))):kE K H (.ref a) (.type "list")
 | tup {a:Addr}{xs:List V} (e:H a=some (.tup xs)):kE K H (.ref a) (.type "tuple")
 | dK {a:Addr}{aJ:List (Key×V)} (e:H a=some (.dK aJ)):kE K H (.ref a) (.type "dict")
 | dT {a:Addr}{aJ:List (List Key×V)} (e:H a=some (.dT aJ)):kE K H (.ref a) (.type "dict")
 | ins {a C dx:Addr}{fs:List (Str×V)} (e:H a=some (.ins C dx fs)) (cl:Cls K C) (ha:yq K (.ref C) "__class__" = some (some (.builtin "object.__class__")))
   (hn:PySem.W.specialIn K (.builtin "object.__class__") "__get__" = some (some (.builtin "getset_descriptor.__get__"))) (YN:PySem.W.takesIn K (.builtin "object.__class__")=some true)
   (hm:xa K C (.type "object")=some true):kE K H (.ref a) (.ref C)
theorem MD {x:V}{u t:Value}(I:Inv X ah σ H s)(rx:RelV x u)(ty:kE X.K H x t)(e:zR X.K t c=some b)(h:∀ tk,Q (.bool b) { s with toks:=tk }) :
  wpAny (model X.prog X.w) A (call (.builtin "isinstance") [u,c]) Q E s:=by
 cases ty with
 | bZ=>cases (show u=Value.none from rx);exact yI PySem.W.kitx_none I.kY True.intro e (λz=>nomatch z) h
 | bl y=>cases (show u=Value.bool y from rx);exact yI PySem.W.kitx_bool I.kY True.intro e (λz=>nomatch z) h
 | int i=>obtain ⟨t,q⟩:=(show ∃ t,u=Value.int i t from rx);cases q;exact yI PySem.W.kitx_int I.kY True.intro e (λz=>nomatch z) h
 | str y=>obtain ⟨t,q⟩:=(show ∃ t,u=Value.str y t from rx);cases q;exact yI PySem.W.kitx_str I.kY True.intro e (λz=>nomatch z) h
 | Vd y=>obtain ⟨t,q⟩:=(show ∃ t,u=Value.float y t from rx);cases q;exact yI PySem.W.kitx_float I.kY True.intro e (λz=>nomatch z) h
 | @lst a xs ea=>
  cases (show u=Value.ref a from rx);obtain ⟨_,_,n,_,h1⟩:=(show bq X.prog X.w H s.heap a (.lst xs) from I.aT a _ ea);exact yI PySem.W.kitx_list I.kY ⟨_,h1,rfl⟩ e (λz=>nomatch z) h
 | @nW a ob xs ea=>
  cases (show u=Value.ref a from rx);obtain ⟨_,_,_,n,_,h1⟩:=(show bq X.prog X.w H s.heap a (.nW ob (.lst xs)) from I.aT a _ ea);exact yI PySem.W.kitx_list I.kY ⟨_,h1,rfl⟩ e (λz=>nomatch z) h
 | @tup a xs ea=>
  cases (show u=Value.ref a from rx);obtain ⟨_,_,_,p⟩:=(show bq X.prog X.w H s.heap a (.tup xs) from I.aT a _ ea);obtain ⟨o,h1,h2,_⟩:=p;exact yI PySem.W.kitx_tuple I.kY ⟨o,h1,h2⟩ e (λz=>nomatch z) h
 | @dK a aJ ea=>
  cases (show u=Value.ref a from rx);obtain ⟨_,_,vs,_,p⟩:=(show bq X.prog X.w H s.heap a (.dK aJ) from I.aT a _ ea);obtain ⟨o,es,ep,h1,h2,_⟩:=p;exact yI PySem.W.kitx_dict I.kY ⟨o,h1,h2.1⟩ e (λz=>nomatch z) h
 | @dT a aJ ea=>
  cases (show u=Value.ref a from rx);obtain ⟨_,_,xs,_,o,es,ep,h1,h2,_⟩:=(show bq X.prog X.w H s.heap a (.dT aJ) from I.aT a _ ea);exact yI PySem.W.kitx_dict I.kY ⟨o,h1,h2.1⟩ e (λz=>nomatch z) h
 | @ins a C dx fs ea cl ha hn YN hm=>
  cases (show u=Value.ref a from rx);obtain ⟨mA,O,_⟩:=RT I.aT ea;obtain ⟨od,J,_⟩:=O.look;exact yI (PySem.W.kitx_own (cl.get _) cl.hd ha hn YN hm) I.kY J e (λz=>nomatch z) h
end
structure cz (k:Nat) (A:Around):Prop where
 hd:A.handled=none
 dp:A.depth + 3 * k + 5 < recursionLimit
 un:A.units + 16 * k + 200 < cLine
 gd:A.guards=some []
theorem cz.mono {j k:Nat}{A:Around}(r:cz k A)(h:j<=k):cz j A:=⟨r.hd,by have:=r.dp;omega,by have:=r.un;omega,r.gd⟩
theorem cz.deeper {k:Nat}{A:Around}(r:cz (k + 1) A)(env:Env):cz k (A.deeper env):=
 ⟨r.hd,by have:=r.dp;show A.depth + 1 + 3 * k + 5 < _;omega,by have:=r.un;show A.units + 3 + 16 * k + 200 < _;omega,r.gd⟩
theorem cz.in1 {k:Nat}{A:Around}(r:cz (k + 1) A):cz k A.in1:=
 ⟨r.hd,by have:=r.dp;show A.depth + 3 * k + 5 < _;omega,by have:=r.un;show A.units + 1 + 16 * k + 200 < _;omega,r.gd⟩
theorem cz.depth {k:Nat}{A:Around}(r:cz k A):A.depth < recursionLimit:=by have:=r.dp;omega
theorem cz.units {k:Nat}{A:Around}(r:cz k A):A.units + 64 < cLine:=by have:=r.un;omega
def nY:TA:=λ_ H Q=>Q [] H
def iE (ta:TE)(tr:TA):TA:=fun σ H Q=>ta σ H λx H1=>tr σ H1 λxs H2=>Q (x::xs) H2
section
variable {X:Cx}{e:Expr}{es:List Expr}{te:TE}{t:TA}{pos:Pos}
theorem qX:PA X [] nY:=λ_ _ _ _ H Q I h=>Calls.spliced_nil ⟨[],H,I,.nil,h⟩
theorem Rv (ha:PE X e te)(hr:PA X es t)(hs:starEach (e::es) X.env=(false,eval e X.env)::starEach es X.env:=by rfl):PA X (e::es) (iE te t):=by intro pos ah s σ H Q I h;rw [hs];show wpAny _ _ (spliced ((false,eval e X.env)::backTo pos (starEach es X.env))) _ _ s;refine Calls.spliced_cons (aV (ha ah s σ H _ I h) λu s1 Zw=>?_);obtain ⟨x,H1,I1,r1,q1⟩:=Zw;exact aV (hr pos ah s1 σ H1 _ I1 q1) λus s2 ⟨xs,H2,I2,r2,q2⟩=>⟨x::xs,H2,I2,.cons r1 r2,q2⟩
def LN (t:TA):TE:=fun σ H Q=>t σ H λxs H1=>xs.length<=sizeLine/\∀ p,H1 p=none->Q (.ref p) (upd H1 p (.tup xs))
def uW (t:TA):TE:=fun σ H Q=>t σ H λxs H1=>xs.length<=sizeLine/\∀ p,H1 p=none->Q (.ref p) (upd H1 p (.lst xs))
theorem wZ {x1}(h:PA X es t):PE X (.Tuple es x1 pos) (LN t):=by intro ah s σ H Q I hq;refine wpAny_Tuple_spliced (aV (h pos ah s σ H _ I hq) λus s1 Zv=>?_);obtain ⟨xs,H1,I1,r,z,q⟩:=Zv;refine ⟨by rw [<-r.length];exact z,?_⟩;have hf:H1 s1.heap.objs.size=none:=I1.aT.fresh (zF _);refine ⟨.ref s1.heap.objs.size,upd H1 s1.heap.objs.size (.tup xs),I1.laid (t':=s1.toks) (λb u e=>Heap.get?_push_of_some _ e) (zF _) ?_,rfl,q _ hf⟩;exact ⟨⟨z,mK⟩,us,r,⟨_,Heap.get?_push_size _ rfl,rfl,_,rfl⟩⟩
theorem wM (h:PA X es t):PE X (.List es pos) (uW t):=by intro ah s σ H Q I hq;refine wpAny_List_spliced (aV (h pos ah s σ H _ I hq) λus s1 Zu=>?_);obtain ⟨xs,H1,I1,r,z,q⟩:=Zu;refine ⟨by rw [<-r.length];exact z,?_⟩;have hf:H1 s1.heap.objs.size=none:=I1.aT.fresh (zF _);refine ⟨.ref s1.heap.objs.size,upd H1 s1.heap.objs.size (.lst xs),I1.laid (t':=s1.toks) (λb u e=>Heap.get?_push_of_some _ e) (zF _) ?_,rfl,q _ hf⟩;exact ⟨z,us,0,r,Heap.get?_push_size _ rfl⟩
end
abbrev Sp:=List V->Hp->VK->XK->Prop
abbrev uI:=List Env->Hp->Shared->XK->Value->Shared->Prop
structure rW (P:Program) (w:World) (K:PySem.W.Frag) (mg:Str->Option Value) (base:Heap) (A:Around) (outer:List Env) (s:Shared) (H:Hp):Prop where
 frames:A.frames=some outer
 mod:Mod K mg base
 bs:∀ b o,base.get? b=some o->s.heap.get? b=some o/\H b=none
 M9:base.objs.size<=s.heap.objs.size
 gP:s.heap.FunFrames base outer
 QC:∀ b∈mZ outer,H b=none
 aT:fW P w H s.heap
 bare:AllBare s.gens
def CE (outer:List Env)(P:Program)(w:World)(H:Hp)(s:Shared)(Q:VK)(u:Value)(s':Shared):Prop:=
 ∃ v H',s'.os=s.os/\AllBare s'.gens/\Un (mZ outer) [] H H' s.heap s'.heap/\fW P w H' s'.heap/\RelV v u/\Q v H'
def CR (CX:uI)(outer:List Env)(P:Program)(w:World)(H:Hp)(s:Shared)(Q:VK)(E:XK)(r:Result)(s':Shared):Prop:=
 match r with
 | .ok (.ret u)=>CE outer P w H s Q u s'
 | .ok _=>False
 | .error e=>CX outer H s E e s'
structure iC (P:Program) (w:World) (K:PySem.W.Frag) (mg:Str->Option Value) (base:Heap) (CX:uI) (k:Nat) (f:Addr) (fd:FuncData) (ps:List Str) (sp:Sp):Prop where
 len:∀ vs H Q E,sp vs H Q E->vs.length=ps.length
 run:∀ (A:Around) (outer:List Env) (s:Shared) (H:Hp) (args:Args) (us:List Value) (vs:List V) (Q:VK) (E:XK),cz k A->rW P w K mg base A outer s H->BindsTo s fd args (ps.zip us)->Vals vs us->sp vs H Q E ->
  codeAny (model P w) A (.call (.ref f) args) (CR CX outer P w H s Q E) s
theorem rW.in1 {P:Program}{w:World}{K:PySem.W.Frag}{mg:Str->Option Value}{base:Heap}{A:Around}{outer:List Env}{s:Shared}{H:Hp}(e:rW P w K mg base A outer s H) :
  rW P w K mg base A.in1 outer s H:=⟨e.frames,e.mod,e.bs,e.M9,e.gP,e.QC,e.aT,e.bare⟩
section
variable {X:Cx}{ah:List (Addr×Obj)}{σ:St}{H:Hp}{s s':Shared}
theorem Inv.R8 (I:Inv X ah σ H s):rW X.prog X.w X.K X.mg X.base X.A X.stack s H:=
 ⟨I.ok.frames,I.ok.mod,I.bs,z4 I.ok.M9 I.sz,I.stack,I.lF,I.aT,I.bare⟩
theorem Inv.after {Q:VK}{u:Value}(I:Inv X ah σ H s)(h:CE X.stack X.prog X.w H s Q u s'):EP X ah σ Q u s':=by obtain ⟨v,H',os,bare,un,aT,r,q⟩:=h;obtain ⟨hh,g,d,t,os'⟩:=s';obtain rfl:os'=s.os:=os;exact ⟨v,H',I.call (h':=hh) (g':=g) (d':=d) (t':=t) (ch:=[]) un aT bare (λb z=>absurd z (by simp)),r,q⟩
end
def iF (sp:Sp)(lN:List V)(E:XK)(t:TA):TE:=fun σ H Q=>t σ H λvs H1=>sp (vs++lN) H1 Q E
def Binds (K:PySem.W.Frag)(fd:FuncData)(ps:List Str)(ds:List Value):Prop:=
 ∀ (s:Shared) (us:List Value),K.In s.heap->(us++ds).length=ps.length->BindsTo s fd ⟨us,[]⟩ (ps.zip (us++ds))
theorem Binds.all {K:PySem.W.Frag}{fd:FuncData}{ps:List Str}(h:∀ us:List Value,us.length=ps.length->bindArgs fd ⟨us,[]⟩=pure (ps.zip us)):Binds K fd ps []:=λs us _ hl=>by
 rw [yk] at hl ⊢;exact .of_eq (h us hl)
def Passes (CX:uI)(X:Cx)(E:XK):Prop:=∀ (ah:List (Addr×Obj)) (σ:St) (H:Hp) (s:Shared) (e:Value) (s':Shared),Inv X ah σ H s->CX X.stack H s E e s'->X.xe e s'
section
variable {X:Cx}{CX:uI}{k:Nat}{f C:Addr}{fd:FuncData}{ps:List Str}{sp:Sp}{lN:List V}{ds:List Value}{E:XK}{x m:Str}{p pos apos:Pos}{e o:Expr}{es:List Expr}{ta:TE}{t:TA}
theorem Uc {ah:List (Addr×Obj)}{σ:St}{H:Hp}{s:Shared}{Q:VK}{us:List Value}{vs:List V}(F:iC X.prog X.w X.K X.mg X.base CX k f fd ps sp)(hr:cz k X.A)(hb:Binds X.K fd ps ds)(hd:Vals lN ds)(hx:Passes CX X E)
  (I:Inv X ah σ H s) (r:Vals vs us) (h:sp (vs++lN) H Q E):wpAny (model X.prog X.w) X.A (call (.ref f) us) (EP X ah σ Q) X.xe s:=by
 have r2:Vals (vs++lN) (us++ds):=r.append hd;have hl:(us++ds).length=ps.length:=by rw [<-r2.length];exact F.len _ _ _ _ h
 refine wpAny_call (codeAny_mono (F.run X.A X.stack s H ⟨us,[]⟩ (us++ds) (vs++lN) Q E hr I.R8 (hb s us I.kY hl) r2 h) λr s' hq=>?_);cases r with
 | error e=>exact hx ah σ H s e s' I hq
 | ok fl=>
  cases fl with
  | ret u=>exact I.after hq
  | next=>exact False.elim hq
  | brk=>exact False.elim hq
  | cont=>exact False.elim hq
theorem Ru (F:iC X.prog X.w X.K X.mg X.base CX k f fd ps sp)(hr:cz k X.A)(hg:Gl X x)(hm:X.mg x=some (.ref f))(hk:xC X.K (.ref f)=true)(hb:Binds X.K fd ps ds)(hd:Vals lN ds)(hx:Passes CX X E)
  (ha:PA X (e::es) t) (t8:(x == ("__debug__" : Str))=false:=by decide) (he:starEach (e::es) X.env=(false,eval e X.env)::starEach es X.env:=by rfl) (vP:(backTo pos (starEach es X.env)).any (·.1)=false:=by rfl) :
  PE X (.Call (.Name x p) (e::es) [] pos) (iF sp lN E t):=by
 intro ah s σ H Q I h;refine wpAny_Call_Name_kw (ie I hg hm ?_ t8);refine PySem.W.callWith_K (h₀:=X.base) I.ok.mod.VS hk (aV (ha pos ah s σ H _ I h) λus s1 Tf=>?_) he vP;obtain ⟨vs,H1,I1,r,q⟩:=Tf;refine ⟨I1.kY,?_⟩;exact Uc F hr hb hd hx I1 r q
end
section
variable {X:Cx}{CX:uI}{k:Nat}{f C:Addr}{fd:FuncData}{ps ks:List Str}{sp:Sp}{E:XK}{x m:Str}{p pos apos afC:Pos}{e o:Expr}{es:List Expr}{kws:List Keyword}{te ta:TE}{t tk:TA}{nm:Option Str}
variable {g:List Value->List Value->List Value}{gV:List V->List V->List V}
end
structure av (N P:List Str) (sc:Scope):Prop where
 kind:sc.kind=.function
 co:sc.isCoroutine=false
 gen:sc.isGenerator=false
 nd:N.Nodup
 pre:N.take P.length=P
 par:∀ x∈P,sc.names.lookup x=some .local\/sc.names.lookup x=some .cell
 OL:∀ y∈sc.names,y.2≠.free
theorem pU {kindOf:Str->Option NameKind}{x:Str}:∀ {binds:List (Str×Value)}{m:Str->Option Value},(∀ v,(x,v) ∉ binds)->bindL kindOf binds m x=m x
 | [],_,_=>rfl
 | (n,v)::r,m,h=>by
  unfold bindL;rw [pU λw hw=>h w (yA _ hw)];split
  ·have:x≠n:=by rintro rfl;exact h v yZ
   simp [this]
  ·rfl
theorem pV {kindOf:Str->Option NameKind}{x:Str}:∀ {binds:List (Str×Value)}{m:Str->Option Value},(∀ v,(x,v) ∉ binds)->bindC kindOf binds m x=m x
 | [],_,_=>rfl
 | (n,v)::r,m,h=>by
  unfold bindC;rw [pV λw hw=>h w (yA _ hw)];split
  ·rfl
  ·have:x≠n:=by rintro rfl;exact h v yZ
   simp [this]
theorem ko {kindOf:Str->Option NameKind}{x:Str}{v:Value}:∀ {P:List Str}{vs:List Value}{i:Nat}{m:Str->Option Value},P.Nodup->P[i]?=some x->vs[i]?=some v->kindOf x=some .local ->
  bindL kindOf (P.zip vs) m x=some v
 | [],_,_,_,_,h,_,_=>by simp at h
 | _::_,[],_,_,_,_,h,_=>by simp at h
 | p::P,w::vs,0,m,nd,h1,h2,hk=>by
  simp at h1 h2;subst h1;subst h2;show bindL kindOf ((p,w)::P.zip vs) m p=_;unfold bindL;rw [pU λv hv=>(yl.mp nd).1 (xH hv).1,if_pos hk];simp
 | p::P,w::vs,i + 1,m,nd,h1,h2,hk=>by
  show bindL kindOf ((p,w)::P.zip vs) m x=_;unfold bindL;exact ko (i:=i) (yl.mp nd).2 (by simpa using h1) (by simpa using h2) hk
theorem ku {kindOf:Str->Option NameKind}{x:Str}{v:Value}:∀ {P:List Str}{vs:List Value}{i:Nat}{m:Str->Option Value},P.Nodup->P[i]?=some x->vs[i]?=some v->kindOf x≠some .local ->
  bindC kindOf (P.zip vs) m x=some v
 | [],_,_,_,_,h,_,_=>by simp at h
 | _::_,[],_,_,_,_,h,_=>by simp at h
 | p::P,w::vs,0,m,nd,h1,h2,hk=>by
  simp at h1 h2;subst h1;subst h2;show bindC kindOf ((p,w)::P.zip vs) m p=_;unfold bindC;rw [pV λv hv=>(yl.mp nd).1 (xH hv).1,if_neg hk];simp
 | p::P,w::vs,i + 1,m,nd,h1,h2,hk=>by
  show bindC kindOf ((p,w)::P.zip vs) m x=_;unfold bindC;exact ku (i:=i) (yl.mp nd).2 (by simpa using h1) (by simpa using h2) hk
def start (N:List Str)(vs:List V):St:=vs.map some++List.replicate (N.length - vs.length) none
def kc (CX:uI)(P:Program)(w:World)(K:PySem.W.Frag)(mg:Str->Option Value)(base:Heap)(N:List Str)(qual:Str)(scope:Scope)(f:Addr)(cd:Value)(A:Around)(outer:List Env)(s:Shared)(H:Hp)(E:XK):Cx where
 prog:=P
 w:=w
 K:=K
 mg:=mg
 base:=base
 A:=A.deeper (envOfC qual scope s.heap.objs.size f cd)
 N:=N
 cC:=s
 uE:=H
 env:=envOfC qual scope s.heap.objs.size f cd
 outer:=outer
 stack:=envOfC qual scope s.heap.objs.size f cd::outer
 ex:=[]
 calm:=true
 fn:=λ_=>true
 pn:=[]
 xe:=λe s'=>wpAny (model P w) (A.deeper (envOfC qual scope s.heap.objs.size f cd)) (leaving (envOfC qual scope s.heap.objs.size f cd) e) (λ_ kI=>CX outer H s E e kI) (λe' kI=>CX outer H s E e' kI) s'
theorem jB {sc:Scope}{n:Nat}{x:Str}(h:sc.names.lookup x=some .cell):∃ c,(cellsFrom n sc.names []).lookup x=some c:=by have q:=PySem.W.cellsFrom_some sc.names n [] (.inl h);exact Option.isSome_iff_exists.mp q
theorem MF {CX:uI}{P:Program}{w:World}{K:PySem.W.Frag}{mg:Str->Option Value}{base:Heap}{N ps:List Str}{qual:Str}{scope:Scope}{f:Addr}{cd:Value}{A:Around}{outer:List Env}{s s1:Shared}{H:Hp}{E:XK}{us:List Value}{vs:List V}
  (S:av N ps scope) (hd:A.handled=none) (e0:rW P w K mg base A outer s H) (hl:vs.length=ps.length) (r:Vals vs us)
  (x:InCallC s s.heap.objs.size (bindL (envOfC qual scope s.heap.objs.size f cd).kindOf (ps.zip us) λ_=>none) (cellsFrom (s.heap.objs.size + 1) scope.names []) (bindC (envOfC qual scope s.heap.objs.size f cd).kindOf (ps.zip us) λ_=>none) s1) :
  Inv (kc CX P w K mg base N qual scope f cd A outer s H E) [] (start N vs) H s1:=by
 have vP:ps.length<=N.length:=by have:=congrArg List.length S.pre;rw [zY] at this;omega
 obtain ⟨h1,tk,rfl,hk⟩:=x.done;have Ur:∀ b:Addr,b ∉ (kc CX P w K mg base N qual scope f cd A outer s H E).ex:=λb z=>absurd (show b∈([]:List Addr) from z) (by simp);refine ⟨⟨e0.mod,S.kind,rfl,rfl,zF _,λy z c h1 h2=>?_,λy hy=>?_,λy c _ h=>?_,λ_=>hd,Around.frames_deeper e0.frames,.inr ⟨rfl,rfl⟩,λb z=>absurd z (Ur b),e0.bs,e0.M9,λb _ _=>Ur b,λb z=>absurd z (Ur b),e0.gP,e0.QC⟩,
  rfl,e0.bare,Un.kept hk,⟨_,x.toInCall.ns,λi y v h1 h2 h3=>?_⟩,λy c h=>⟨_,x.cell y c h⟩,e0.aT.fresh (zF _),λy c h=>?_,λp hp=>absurd (show p∈([]:List (Addr×Obj)) from hp) (by simp),e0.aT.kept hk,?_⟩
 ·exact name_of_addr x.apart (zk h1) (zk h2)
 ·have hy:scope.names.lookup y=some .cell\/scope.names.lookup y=some .free:=hy;rcases hy with hy | hy
  ·exact jB hy
  ·exact absurd rfl (S.OL _ (zk hy))
 ·exact xG (x.above y c (zk h))
 ·have hi:i < vs.length:=by
   unfold start at h2;by_cases hi:i < vs.length
   ·exact hi
   ·rw [zZ (by simpa using hi)] at h2;rw [List.getElem?_replicate] at h2;split at h2 <;> cases h2
  have ha:vs[i]?=some v:=by
   unfold start at h2;rw [zi (by simpa using hi),zI] at h2;cases e:vs[i]? with
   | none=>rw [e] at h2;cases h2
   | some a=>rw [e] at h2;cases h2;rfl
  obtain ⟨u,hu,rv⟩:=r.get ha;have hp:ps[i]?=some y:=by
   rw [<-S.pre,List.getElem?_take_of_lt (by omega)];exact h1
  have WY:ps.Nodup:=by rw [<-S.pre];exact S.nd.sublist (List.take_sublist _ _)
  refine ⟨u,rv,?_⟩;rcases S.par y (zC hp) with k | k
  ·exact .inl ⟨k,ko WY hp hu k⟩
  ·obtain ⟨c,e⟩:=jB (n:=s.heap.objs.size + 1) k;refine .inr ⟨.inl k,c,e,?_⟩;have q:=x.cell y c e;rw [ku WY hp hu (by show scope.names.lookup y≠_;rw [k];decide)] at q;exact q
 ·exact e0.aT.fresh (xG (x.above y c (zk h)))
 ·unfold start;show _=N.length;rw [zN,zA,yW];omega
theorem Pn {CX:uI}{P:Program}{w:World}{K:PySem.W.Frag}{mg:Str->Option Value}{base:Heap}{k:Nat}{f:Addr}{name qual:Str}{params:Arguments}{body:List Stmt}{scope:Scope}{dV kV doc pm br ct oc:Value}{an od:Option Addr}
  {Mk:Array (Option Value)}{N ps:List Str}{sp:Sp} (lk:K.lookup f=some ⟨oc,od,.func (yy name qual params body scope dV kV doc pm an br ct),Mk⟩) (mV:PySem.W.codeIn K br qual=true) (S:av N ps scope)
  (len:∀ vs H Q E,sp vs H Q E->vs.length=ps.length)
  (dR:∀ (A:Around) (outer:List Env) (s:Shared) (H:Hp) (vs:List V) (Q:VK) (E:XK),cz k (A.deeper (envOfC qual scope s.heap.objs.size f br))->sp vs H Q E ->
   ∃ t,lO (kc CX P w K mg base N qual scope f br A outer s H E) body t/\t { nx:=λ_ H'=>Q .bZ H',rt:=Q } (start N vs) H) :
  iC P w K mg base CX (k + 1) f (yy name qual params body scope dV kV doc pm an br ct) ps sp:=by
 refine ⟨len,λA outer s H args us vs Q E hr e0 hb r tY=>?_⟩;have hl:=len _ _ _ _ tY;have KX:K.In s.heap:=e0.mod.VS.keeps λb o e=>(e0.bs b o e).1;have lim:s.heap.NoLimit:=e0.mod.nolimit.keeps λb o e=>(e0.bs b o e).1;have O9:∀ y∈ps.zip us,scope.names.lookup y.1=some .local\/(scope.names.lookup y.1=some .cell/\((cellsFrom (s.heap.objs.size + 1) scope.names []).lookup y.1).isSome=true):=λ⟨n,v⟩ hy=>by
  rcases S.par n (xH hy).1 with q | q
  ·exact .inl q
  ·exact .inr ⟨q,PySem.W.cellsFrom_some _ _ _ (.inl q)⟩
 refine codeAny_call_function hr.depth (KX _ _ lk) rfl S.co S.gen rfl (PySem.W.codeRec_of KX mV) (hb _ _ _ _ ?_);refine wpAny_newFunctionEnv_cells S.kind O9 λenv he s1 x=>?_;subst he;refine ⟨lim.keeps x.toInCall.keep,codeAny_func ?_⟩;obtain ⟨t,ht,hq⟩:=dR A outer s H vs Q E (hr.deeper _) tY;have I:Inv (kc CX P w K mg base N qual scope f br A outer s H E) [] (start N vs) H s1:=MF S hr.hd e0 hl r x;refine wpAny_mono (ht [] s1 (start N vs) H _ I hq) (λfl s' hs=>?_) λe s' hs=>hs;have fin:∀ {bu:St}{H':Hp}{v:V}{u:Value},Inv (kc CX P w K mg base N qual scope f br A outer s H E) [] bu H' s'->RelV v u->Q v H'->CE outer P w H s Q u s':=
  λ{bu H' v u} J rv q=>⟨v,H',J.os,J.bare,J.base,J.aT,rv,q⟩
 cases fl with
 | ret u=>
  obtain ⟨v,bu,H',J,rv,q⟩:=hs;exact fin J rv q
 | next=>
  obtain ⟨bu,H',J,q⟩:=hs;exact fin (v:=V.bZ) (u:=Value.none) J rfl q
 | brk=>
  obtain ⟨_,_,_,q⟩:=hs;exact False.elim q
 | cont=>
  obtain ⟨_,_,_,q⟩:=hs;exact False.elim q
section
variable {X:Cx}{x:Str}{p pos:Pos}{e:Expr}{es:List Expr}{t:TA}{id T:String}{r:List V->Hp->VK->Prop}
def QT (r:List V->Hp->VK->Prop)(t:TA):TE:=fun σ H Q=>t σ H λvs H1=>r vs H1 Q
theorem xr (hc:dU X (.builtin id) r)(hg:Gl X x)(hm:X.mg x=none)(hv:bootBuiltins x=some (.builtin id))(ha:PA X (e::es) t)(hn:x ≠ "__name__" := by decide)(t8:(x == ("__debug__" : Str))=false:=by decide)
  (he:starEach (e::es) X.env=(false,eval e X.env)::starEach es X.env:=by rfl) (vP:(backTo pos (starEach es X.env)).any (·.1)=false:=by rfl):PE X (.Call (.Name x p) (e::es) [] pos) (QT r t):=by
 intro ah s σ H Q I h;refine wpAny_Call_Name_kw (dP I hg hm hv ?_ hn t8);exact PyProof.Rows.callWith_builtin1 (aV (ha pos ah s σ H _ I h) λus s1 ⟨vs,H1,I1,r1,q1⟩=>hc ah s1 σ H1 vs us Q I1 r1 q1) he vP
theorem j3 (hc:dU X (.type T) r)(hg:Gl X x)(hm:X.mg x=none)(hv:bootBuiltins x=some (.type T))(ha:PA X (e::es) t)(hn:x ≠ "__name__" := by decide)(t8:(x == ("__debug__" : Str))=false:=by decide)
  (he:starEach (e::es) X.env=(false,eval e X.env)::starEach es X.env:=by rfl) (vP:(backTo pos (starEach es X.env)).any (·.1)=false:=by rfl):PE X (.Call (.Name x p) (e::es) [] pos) (QT r t):=by
 intro ah s σ H Q I h;refine wpAny_Call_Name_kw (dP I hg hm hv ?_ hn t8);exact zy (aV (ha pos ah s σ H _ I h) λus s1 ⟨vs,H1,I1,r1,q1⟩=>hc ah s1 σ H1 vs us Q I1 r1 q1) he vP
end
section
variable {κ:Type} [DecidableEq κ]
def dG (aJ:List (κ×V))(k:κ):Option V:=(aJ.find? λkv=>decide (kv.1=k)).map (·.2)
def putK (aJ:List (κ×V))(k:κ)(v:V):List (κ×V):=
 if (aJ.any λkv=>decide (kv.1=k))=true then aJ.map (λkv=>if kv.1=k then (kv.1,v) else kv) else aJ++[(k,v)]
theorem qD {p:κ×V}{r:List (κ×V)}{k:κ}(e:p.1=k):dG (p::r) k=some p.2:=by simp [dG,xI,e]
theorem qE {p:κ×V}{r:List (κ×V)}{k:κ}(e:¬ p.1=k):dG (p::r) k=dG r k:=by simp [dG,xI,e]
theorem gf (k:κ):∀ aJ:List (κ×V),(aJ.any λkv=>decide (kv.1=k))=(dG aJ k).isSome
 | []=>rfl
 | p::r=>by
  rw [xM];by_cases e:p.1=k
  ·simp only [qD e,decide_eq_true e,Bool.true_or,Option.isSome_some]
  ·rw [qE e,decide_eq_false e,Bool.false_or];exact gf k r
theorem sy (k j:κ)(y:V):∀ aJ:List (κ×V),dG (aJ.map λkv=>if kv.1=k then (kv.1,y) else kv) j=(dG aJ j).map λx=>if j=k then y else x
 | []=>rfl
 | p::r=>by
  have ih:=sy k j y r;rw [zd];by_cases h:p.1=k
  ·rw [if_pos h];by_cases e:p.1=j
   ·rw [qD (p:=(p.1,y)) e,qD e,ye,if_pos (e.symm.trans h)]
   ·rw [qE (p:=(p.1,y)) e,qE e,ih]
  ·rw [if_neg h];by_cases e:p.1=j
   ·rw [qD (p:=p) e,qD e,ye,if_neg (λz=>h (e.trans z))]
   ·rw [qE (p:=p) e,qE e,ih]
theorem oK (k j:κ)(y:V):∀ aJ:List (κ×V),dG aJ k=none->dG (aJ++[(k,y)]) j=if j=k then some y else dG aJ j
 | [],_=>by
  by_cases e:k=j
  ·rw [if_pos e.symm];exact qD (p:=(k,y)) e
  ·rw [if_neg (λz=>e z.symm)];exact qE (p:=(k,y)) e
 | p::r,hn=>by
  rw [xD];have hk:¬ p.1=k:=λz=>by rw [qD z] at hn;cases hn
  rw [qE hk] at hn;have ih:=oK k j y r hn;by_cases e:p.1=j
  ·rw [qD e,qD e,if_neg (λz=>hk (e.trans z))]
  ·rw [qE e,qE e,ih]
theorem su (aJ:List (κ×V))(k j:κ)(y:V):dG (putK aJ k y) j=if j=k then some y else dG aJ j:=by
 unfold putK;by_cases a:(aJ.any λkv=>decide (kv.1=k))=true
 ·rw [if_pos a,sy];rw [gf] at a;by_cases e:j=k
  ·obtain ⟨x,hx⟩:=Option.isSome_iff_exists.mp a;rw [if_pos e,e,hx,ye,if_pos rfl]
  ·rw [if_neg e];cases dG aJ j with
   | none=>rfl
   | some x=>rw [ye,if_neg e]
 ·rw [if_neg a];refine oK k j y aJ ?_;rw [gf] at a;cases q:dG aJ k with
  | none=>rfl
  | some x=>rw [q] at a;exact (a rfl).elim
theorem gK (aJ:List (κ×V))(k:κ)(v:V):(putK aJ k v).length<=aJ.length + 1:=by
 unfold putK;split
 ·rw [zA];omega
 ·rw [zN,zW,yJ];omega
theorem nN.ME {o:Option V}{u:Option Value}(r:nN o u):o.isSome=u.isSome:=by
 cases o with
 | none=>cases u with
  | none=>rfl
  | some _=>exact (show False from r).elim
 | some _=>cases u with
  | none=>exact (show False from r).elim
  | some _=>rfl
theorem KV.val {aJ:List (κ×V)}{vs:List (κ×Value)}(r:KV aJ vs)(k:κ):nN (dG aJ k) (valueAt vs k):=by
 unfold KV at r;induction r with
 | nil=>exact True.intro
 | @cons p q ps qs h t ih=>
  obtain ⟨h1,h2⟩:=h;by_cases e:p.1=k
  ·have e':q.1=k:=h1.symm.trans e;have b:valueAt (q::qs) k=some q.2:=by simp [valueAt,xI,e']
   rw [qD e,b];exact h2
  ·have e':¬ q.1=k:=λz=>e (h1.trans z);have b:valueAt (q::qs) k=valueAt qs k:=by simp [valueAt,xI,e']
   rw [qE e,b];exact ih
theorem KV.any {aJ:List (κ×V)}{vs:List (κ×Value)}(r:KV aJ vs)(k:κ):(aJ.any λkv=>decide (kv.1=k))=vs.any λkv=>decide (kv.1=k):=by
 unfold KV at r;induction r with
 | nil=>rfl
 | cons h t ih=>rw [xM,xM,ih,h.1]
theorem KV.Ud {aJ:List (κ×V)}{vs:List (κ×Value)}(r:KV aJ vs)(k:κ){y:V}{u:Value}(ry:RelV y u) :
  KV (aJ.map λkv=>if kv.1=k then (kv.1,y) else kv) (vs.map λkv=>if kv.1=k then (kv.1,u) else kv):=by
 unfold KV at r ⊢;induction r with
 | nil=>exact .nil
 | @cons p q ps qs h t ih=>
  rw [zd,zd];refine .cons ?_ ih;obtain ⟨h1,h2⟩:=h;by_cases e:p.1=k
  ·rw [if_pos e,if_pos (h1.symm.trans e)];exact ⟨h1,ry⟩
  ·rw [if_neg e,if_neg (λz=>e (h1.trans z))];exact ⟨h1,h2⟩
theorem KV.put {aJ:List (κ×V)}{vs:List (κ×Value)}(r:KV aJ vs)(k:κ){y:V}{u:Value}(ry:RelV y u):KV (putK aJ k y) (stored vs k u):=by
 unfold putK stored;rw [r.any k];by_cases e:(vs.any λkv=>decide (kv.1=k))=true
 ·rw [if_pos e,if_pos e];exact r.Ud k ry
 ·rw [if_neg e,if_neg e];exact Paired.snoc r ⟨rfl,ry⟩
theorem KV.length {aJ:List (κ×V)}{vs:List (κ×Value)}(r:KV aJ vs):aJ.length=vs.length:=Paired.length r
end
theorem OZ {P:Program}{w:World}{k:Key}{u:Value}(r:RelV (kV k) u):(bQ P w).is k u=true:=by
 cases k with
 | inl i=>obtain ⟨t,e⟩:=(show ∃ t,u=Value.int i t from r);subst e;exact tH P w i t
 | inr x=>obtain ⟨t,e⟩:=(show ∃ t,u=Value.str x t from r);subst e;exact tF P w x t
theorem pF {P:Program}{w:World}:∀ {ks:List Key}{us:List Value},Vals (ks.map kV) us->ItemsAre (bQ P w) ks us
 | [],_,r=>by rw [yF] at r;cases r;exact .nil
 | k::ks,_,r=>by
  rw [zd] at r;cases r with
  | cons h t=>exact .cons (OZ h) (pF t)
abbrev KT (H:Hp):List (List Key×V)->List (List Key×Addr×Value)->Prop:=Paired λp q=>p.1=q.1/\H q.2.1=some (.tup (p.1.map kV))/\RelV p.2 q.2.2
theorem KT.val {H:Hp}{aJ:List (List Key×V)}{xs:List (List Key×Addr×Value)}(r:KT H aJ xs)(k:List Key):nN (dG aJ k) ((atKey xs k).map (·.2)):=by
 induction r with
 | nil=>exact True.intro
 | @cons p q ps qs h t ih=>
  obtain ⟨h1,_,h2⟩:=h;by_cases e:p.1=k
  ·have e':q.1=k:=h1.symm.trans e;have b:atKey (q::qs) k=some q.2:=by simp [atKey,xI,e']
   rw [qD e,b];exact h2
  ·have e':¬ q.1=k:=λz=>e (h1.trans z);have b:atKey (q::qs) k=atKey qs k:=by simp [atKey,xI,e']
   rw [qE e,b];exact ih
theorem KT.Ud {H:Hp}{aJ:List (List Key×V)}{xs:List (List Key×Addr×Value)}(r:KT H aJ xs)(k:List Key){y:V}{u:Value}(ry:RelV y u) :
  KT H (aJ.map λkv=>if kv.1=k then (kv.1,y) else kv) (xs.map (putAt k u)):=by
 induction r with
 | nil=>exact .nil
 | @cons p q ps qs h t ih=>
  rw [zd,zd];refine .cons ?_ ih;obtain ⟨h1,h2,h3⟩:=h;unfold putAt;by_cases e:p.1=k
  ·rw [if_pos e,if_pos (h1.symm.trans e)];exact ⟨h1,h2,ry⟩
  ·rw [if_neg e,if_neg (λz=>e (h1.trans z))];exact ⟨h1,h2,h3⟩
theorem KT.put {H:Hp}{aJ:List (List Key×V)}{xs:List (List Key×Addr×Value)}(r:KT H aJ xs)(k:List Key){b:Addr}{y:V}{u:Value}(hb:H b=some (.tup (k.map kV)))(ry:RelV y u) :
  KT H (putK aJ k y) (storedH xs k b u):=by
 have e:(aJ.any λkv=>decide (kv.1=k))=(atKey xs k).isSome:=by
  rw [gf,(r.val k).ME,Option.isSome_map]
 unfold putK storedH;rw [e];by_cases q:(atKey xs k).isSome=true
 ·rw [if_pos q,if_pos q];exact r.Ud k ry
 ·rw [if_neg q,if_neg q];exact Paired.snoc r ⟨rfl,hb,ry⟩
theorem KT.keeps {H H':Hp}{aJ:List (List Key×V)}{xs:List (List Key×Addr×Value)}(r:KT H aJ xs)(ht:∀ b ys,H b=some (.tup ys)->H' b=some (.tup ys)):KT H' aJ xs:=
 Paired.Uv r λ_ _ z=>⟨z.1,ht _ _ z.2.1,z.2.2⟩
section
variable {P:Program}{w:World}{H:Hp}{h:Heap}{a:Addr}
theorem Sz {u:HO}(ok:fW P w H h)(e:Rd H a u):bq P w H h a u:=e.ok ok
theorem PJ {aJ:List (Key×V)}(ok:fW P w H h)(e:Rd H a (.dK aJ)):aJ.length<=sizeLine/\(a == sysModules)=false/\∃ vs,KV aJ vs/\h.DictOf (bQ P w) a vs:=
 show bq P w H h a (.dK aJ) from Sz ok e
theorem X6 {aJ:List (Key×V)}(ok:fW P w H h)(e:H a=some (.dK aJ)):aJ.length<=sizeLine/\(a == sysModules)=false/\∃ vs,KV aJ vs/\h.DictOf (bQ P w) a vs:=PJ ok (.inl e)
theorem vI {ks:List Key}(ok:fW P w H h)(e:H a=some (.tup (ks.map kV))):(tupleKind (bQ P w)).is h ks a:=by obtain ⟨_,ay,r,o,h1,h2,n,h3⟩:=(show bq P w H h a (.tup (ks.map kV)) from ok a _ e);exact ⟨o,ay.toArray,n,h1,h2,h3,by simpa using pF r⟩
theorem PF {aJ:List (List Key×V)}(ok:fW P w H h)(e:Rd H a (.dT aJ)):aJ.length<=sizeLine/\(a == sysModules)=false /\
  ∃ xs,KT H aJ xs/\h.DictOfH (tupleKind (bQ P w)) a xs:=by
 obtain ⟨z,y,xs,r,o,es,ep,h1,h2,h3,h4,h5⟩:=(show bq P w H h a (.dT aJ) from Sz ok e);refine ⟨z,y,xs,r,o,es,ep,h1,h2,h3,h4,λx hx=>?_,h5⟩;have all:∀ {l:List (List Key×V)}{m:List (List Key×Addr×Value)},KT H l m->∀ x∈m,(tupleKind (bQ P w)).is h x.1 x.2.1:=by
  intro l m q;induction q with
  | nil=>intro x hx;exact nomatch hx
  | @cons p q ps qs hq t ih=>
   intro x hx;rcases zO.mp hx with e | hx
   ·subst e;exact vI ok (by rw [<-hq.1];exact hq.2.1)
   ·exact ih x hx
 exact all r x hx
theorem X5 {aJ:List (List Key×V)}(ok:fW P w H h)(e:H a=some (.dT aJ)):aJ.length<=sizeLine/\(a == sysModules)=false /\
  ∃ xs,KT H aJ xs/\h.DictOfH (tupleKind (bQ P w)) a xs:=PF ok (.inl e)
end
def KI (H:Hp)(a:Addr)(y:V)(r:Option V):Prop:=
 (∃ aJ k,Rd H a (.dK aJ)/\y=kV k/\r=dG aJ k)\/∃ aJ k b,Rd H a (.dT aJ)/\y=.ref b/\H b=some (.tup (k.map kV))/\r=dG aJ k
def Qm (H:Hp)(a:Addr)(y v:V)(H':Hp):Prop:=
 (∃ aJ k,H a=some (.dK aJ)/\y=kV k/\aJ.length < sizeLine/\H'=upd H a (.dK (putK aJ k v))) \/
 ∃ aJ k b,H a=some (.dT aJ)/\y=.ref b/\H b=some (.tup (k.map kV))/\aJ.length < sizeLine/\H'=upd H a (.dT (putK aJ k v))
theorem KI.k {H:Hp}{a:Addr}{aJ:List (Key×V)}{k:Key}(e:H a=some (.dK aJ)):KI H a (kV k) (dG aJ k):=.inl ⟨aJ,k,.inl e,rfl,rfl⟩
theorem Qm.k {H:Hp}{a:Addr}{aJ:List (Key×V)}{k:Key}{v:V}(e:H a=some (.dK aJ))(hl:aJ.length < sizeLine):Qm H a (kV k) v (upd H a (.dK (putK aJ k v))):=.inl ⟨aJ,k,e,rfl,hl,rfl⟩
section
variable {X:Cx}{ah:List (Addr×Obj)}{σ:St}{H:Hp}{s:Shared}{a:Addr}{y v:V}{u r:Value}{o:Option V}{A:Around}{E:Value->Shared->Prop}
theorem Inv.big (I:Inv X ah σ H s):sysModules < s.heap.objs.size:=by have h:mainGlobals < s.heap.objs.size:=(I.mod.glob.keeps I.bk).lt;exact Nat.lt_trans (by decide) h
theorem MY {Q:Value->Shared->Prop}(hu:A.units + 1 < cLine)(I:Inv X ah σ H s)(g:KI H a y (some v))(ry:RelV y u)(h:∀ w' s',Inv X ah σ H s'->RelV v w'->Q w' s') :
  wpAny (model X.prog X.w) A (getItem (.ref a) u) Q E s:=by
 rcases g with ⟨aJ,k,e,ey,l⟩ | ⟨aJ,k,b,e,ey,eb,l⟩
 ·subst ey;obtain ⟨z,hd,vs,rel,dd⟩:=PJ I.aT e;obtain ⟨w',hw,Mc⟩:=nN.some_of (v:=v) (o:=valueAt vs k) (by rw [l];exact rel.val k);exact wpAny_getItem_of (OZ ry) dd.mapOf hw (h w' _ (I.tok _) Mc)
 ·subst ey;cases (show u=Value.ref b from ry);obtain ⟨z,hd,xs,rel,dd⟩:=PF I.aT e;obtain ⟨w',hw,Mc⟩:=nN.some_of (v:=v) (o:=(atKey xs k).map (·.2)) (by rw [l];exact rel.val k);obtain ⟨p,hp,RZ⟩:=Option.map_eq_some_iff.mp hw;refine wpAny_getItem_heap (tupleKind_room_in1 hu) (vI I.aT eb) dd hp ?_;rw [RZ];exact h w' _ (I.tok _) Mc
theorem Lk {h':Heap}{t':Nat}{ob:HO}(I:Inv X ah σ H s)(mu:Yj (H a))(hs:Heap.SameBut a s.heap h')(he:∃ q,h'.get? a=some q)(new:bq X.prog X.w (upd H a ob) h' a ob) :
  Inv X ah σ (upd H a ob) { s with heap:=h',toks:=t' }:=
 I.write (x:=a) (e:=a) mu (.inl rfl) (λb q hb z=>(hs.2 b hb).trans z) he new
theorem Vm {P:Program}{w:World}{H':Hp}{h':Heap}{aJ:List (Key×V)}{vs:List (Key×Value)}(z:aJ.length<=sizeLine)(hd:(a == sysModules)=false)(rel:KV aJ vs)(dd:h'.DictOf (bQ P w) a vs) :
  bq P w H' h' a (.dK aJ):=⟨z,hd,vs,rel,dd⟩
theorem MX {H':Hp}{Q:Unit->Shared->Prop}(hu:A.units + 1 < cLine)(I:Inv X ah σ H s)(g:Qm H a y v H')(ry:RelV y u)(rv:RelV v r)(h:∀ s',Inv X ah σ H' s'->Q () s') :
  wpAny (model X.prog X.w) A (setItem (.ref a) u r) Q E s:=by
 rcases g with ⟨aJ,k,e,ey,l,eH⟩ | ⟨aJ,k,b,e,ey,eb,l,eH⟩
 ·subst ey eH;obtain ⟨z,hd,vs,rel,dd⟩:=X6 I.aT e;have hz:vs.length<=sizeLine:=by rw [<-rel.length];exact z
  have hl:(putK aJ k v).length<=sizeLine:=by have:=gK aJ k v;omega
  refine wpAny_setItem_pairs (hsz:=hz) (OZ ry) dd λh' Y9 hs=>h _ ?_;have he:∃ q,h'.get? a=some q:=let ⟨q,_,_,hq,_⟩:=Y9;⟨q,hq⟩;exact Lk I (by rw [e];exact True.intro) hs he (Vm hl hd (rel.put k rv) Y9)
 ·subst ey eH;cases (show u=Value.ref b from ry);obtain ⟨z,hd,xs,rel,dd⟩:=X5 I.aT e;have hz:xs.length<=sizeLine:=by rw [<-Paired.length rel];exact z
  have hl:(putK aJ k v).length<=sizeLine:=by have:=gK aJ k v;omega
  refine wpAny_setItem_heap (hsz:=hz) (tupleKind_room_in1 hu) (vI I.aT eb) dd λh' Y9 hs=>h _ ?_;obtain ⟨q,es,ep,hq,h2,h3,h4,_,h5⟩:=Y9;refine Lk I (by rw [e];exact True.intro) hs ⟨q,hq⟩ ⟨hl,hd,_,(rel.put k eb rv).keeps λc ys ec=>?_,q,es,ep,hq,h2,h3,h4,h5⟩;rw [xq (cH ec e (λz=>nomatch z))];exact ec
end
section
variable {X:Cx}{ah:List (Addr×Obj)}{σ:St}{H:Hp}{s:Shared}{a:Addr}{aJ:List (Key×V)}{k:Key}{u:Value}{A:Around}{E:Value->Shared->Prop}
end
def Yi (i:Expr):Prop:=∀ ov iv,subscripted i false ov iv=operate [ov,iv] (getItem ov iv)
theorem QU {prog:Program}{w:World}{A:Around}{E:Value->Shared->Prop}{s:Shared}{env:Env}{value slice:Expr}{pos:Pos}{T id:String}{Q:Value->Shared->Prop}
  (hl:typeLookup (.type T) "__getitem__" = pure (some (.builtin id))) (hs:Yi slice)
  (h:wpAny (model prog w) A (eval value env) (λo aN=>wpAny (model prog w) A (eval slice env) (λi gh=>gh.TypeIs o T/\wpAny (model prog w) A (getItem o i) Q E gh) E aN) E s) :
  wpAny (model prog w) A (eval (.Subscript value slice pos) env) Q E s:=by
 refine Subscript_ (wpAny_mono h (λo aN ck=>wpAny_mono ck (λi gh rj=>?_) λ_ _ x=>x) λ_ _ x=>x);obtain ⟨hT,rj⟩:=rj;unfold subscriptTail;refine wpAny_bind ?_;rw [getitemInPython_of_ne hT.not_modules];refine wpAny_bind (wpAny_specialOf hT hl ?_);have fin:wpAny (model prog w) A (subscripted slice false o i) (λr jc=>wpAny (model prog w) A (letTemporaryGo value o r >>= λ_=>pure r) Q E jc) E gh:=by
  rw [hs o i];exact wpAny_operating (wpAny_mono rj (λr jc n8=>wpAny_bind (wpAny_letTemporaryGo (wpAny_pure n8))) λ_ _ x=>x)
 first
  | exact wpAny_pure (wpAny_bind fin)
  | exact wpAny_bind (wpAny_pure (wpAny_bind fin))
  | exact wpAny_bind fin
theorem ue {X:Cx}{ah:List (Addr×Obj)}{σ:St}{H:Hp}{s:Shared}{a:Addr}{y:V}{o:Option V}(I:Inv X ah σ H s)(g:KI H a y o):s.TypeIs (.ref a) "dict" := by
 rcases g with ⟨aJ,k,e,_,_⟩ | ⟨aJ,k,b,e,_,_,_⟩
 ·obtain ⟨_,_,vs,_,dd⟩:=PJ I.aT e;exact dd.typeIs
 ·obtain ⟨_,_,xs,_,dd⟩:=PF I.aT e;exact dd.typeIs
def Wr (td ty:TE):TE:=fun σ H Q=>td σ H λx H1=>ty σ H1 λy H2=>∃ a v,x=.ref a/\KI H2 a y (some v)/\Q v H2
def WE (td ty tv:TE):TS:=λD σ H=>tv σ H λv H1=>td σ H1 λx H2=>ty σ H2 λy H3=>∃ a H4,x=.ref a/\Qm H3 a y v H4/\D.nx σ H4
section
variable {X:Cx}{o i e value:Expr}{pos pos' Tz:Pos}{td ty tv:TE}
theorem Rt (hu:X.A.units + 1 < cLine)(ho:PE X o td)(hi:PE X i ty)(hs:Yi i):PE X (.Subscript o i pos) (Wr td ty):=by intro ah s σ H Q I h;refine QU PySem.F.slot_dict_getitem.lookup hs (aV (ho ah s σ H _ I h) λu s1 Zt=>?_);obtain ⟨x,H1,I1,rx,q1⟩:=Zt;refine aV (hi ah s1 σ H1 _ I1 q1) λiv s2 Zs=>?_;obtain ⟨y,H2,I2,ry,a,v,ex,g,q2⟩:=Zs;subst ex;obtain rfl:u=Value.ref a:=rx;exact ⟨ue I2 g,MY hu I2 g ry λw' s3 I3 Mc=>⟨v,H2,I3,Mc,q2⟩⟩
theorem Rm (hu:X.A.units + 1 < cLine)(ho:PE X o td)(hi:PE X i ty)(hv:PE X value tv)(hs:swapsWith value (some (.Subscript o i pos')) pos.line X.env=pure false) :
  PS X (.Assign [.Subscript o i pos'] value pos) (WE td ty tv):=by
 intro ah s σ H D I h;refine wpAny_Assign_Subscript (aV (hv ah s σ H _ I h) λr s1 Zr=>?_) hs;obtain ⟨v,H1,I1,rv,q1⟩:=Zr;refine aV (ho ah s1 σ H1 _ I1 q1) λu s2 Zq=>?_;obtain ⟨x,H2,I2,rx,q2⟩:=Zq;refine aV (hi ah s2 σ H2 _ I2 q2) λiv s3 Zp=>?_;obtain ⟨y,H3,I3,ry,a,H4,ex,g,q3⟩:=Zp;subst ex;obtain rfl:u=Value.ref a:=rx;exact MX hu I3 g ry rv λs4 I4=>⟨σ,H4,I4,q3⟩
end
theorem PK {P:Program}{w:World}{H:Hp}(h:Heap)(hb:sysModules < h.objs.size):bq P w H (h.push { cls:=.type "dict", data:=.dict #[] }) h.objs.size (.dK []):=
 ⟨za _,beq_eq_false_iff_ne.mpr (Ne.symm (zV hb)),[],.nil,Heap.DictOf.new h⟩
def TM:TE:=λ_ H Q=>∀ p,H p=none->Q (.ref p) (upd H p (.dK []))
section
variable {X:Cx}{pos:Pos}
theorem Ow:PE X (.Dict [] [] pos) TM:=λah s σ H Q I h=>
 wpAny_Dict_empty ⟨.ref s.heap.objs.size,_,I.laid (a:=s.heap.objs.size) (o:=.dK []) (t':=s.toks) (λ_ _ q=>Heap.get?_push_of_some _ q) (zF _) (PK s.heap I.big),rfl,h _ (I.aT.fresh (zF _))⟩
end
section
variable {X:Cx}{ah:List (Addr×Obj)}{σ:St}{H:Hp}{s:Shared}{a:Addr}{y d:V}{u r:Value}{o:Option V}{A:Around}{E:Value->Shared->Prop}
end
section
variable {X:Cx}{o e f:Expr}{apos fD:Pos}{td ty tx:TE}
end
section
variable {X:Cx}{ah:List (Addr×Obj)}{σ:St}{H:Hp}{s:Shared}{a:Addr}{aJ:List (Key×V)}{A:Around}{E:Value->Shared->Prop}
end
section
variable {X:Cx}{ah:List (Addr×Obj)}{σ:St}{H:Hp}{s:Shared}{a:Addr}{y:V}{u:Value}{A:Around}{E:Value->Shared->Prop}
end
end L2
namespace HT
open PySem PyProof.Rows
section
open PySem.SeqAt
open PySem.AutoSeq1 (wpAny_loadPart')
open PySem.MeetsSeq PySem.MeetsSeq2 PySem.MeetsSeq3
end
section
variable {prog:Program}{w:World}{A:Around}{E:Value->Shared->Prop}{s:Shared}
def cE (n d:Nat):Option Int->Nat
 | none=>d
 | some v=>if v < 0 then (v + (n:Int)).toNat else min v.toNat n
theorem lI (n d k:Nat):cE n d (some (k:Int))=min k n:=by show (if (k:Int) < 0 then ((k:Int) + (n:Int)).toNat else min (k:Int).toNat n)=min k n;rw [if_neg (by omega),zu]
theorem Ua (n d:Nat)(hd:d<=n)(o:Option Int):cE n d o<=n:=by
 cases o with
 | none=>exact hd
 | some v=>
  show (if v < 0 then (v + (n:Int)).toNat else min v.toNat n)<=n;by_cases hv:v < 0
  ·rw [if_pos hv];omega
  ·rw [if_neg hv];exact Nat.min_le_right _ _
theorem Ln (v:Int)(n d:Nat):(if v < 0 then max (v + (n:Int)) 0 else min v (n:Int))=((cE n d (some v):Nat):Int):=by
 show (if v < 0 then max (v + (n:Int)) 0 else min v (n:Int))=(((if v < 0 then (v + (n:Int)).toNat else min v.toNat n):Nat):Int);by_cases hv:v < 0
 ·simp only [if_pos hv];omega
 ·simp only [if_neg hv];omega
theorem KG (lo hi:Option Int)(n:Nat):Builtin.Slice.sliceAdjust lo hi 1 (n:Int)=(((cE n 0 lo:Nat):Int),((cE n n hi:Nat):Int)):=by
 have h1:¬ ((1:Int) < 0):=by omega
 unfold Builtin.Slice.sliceAdjust;simp only [h1,if_false];refine Prod.ext ?_ ?_
 ·cases lo with
  | none=>rfl
  | some v=>exact Ln v n 0
 ·cases hi with
  | none=>rfl
  | some v=>exact Ln v n n
theorem vo (i j:Nat):Builtin.Slice.slicePlaces (i:Int) (j:Int) 1=j - i:=by
 unfold Builtin.Slice.slicePlaces;have h1:(1:Int) > 0:=by omega
 simp only [h1,if_true,Int.ediv_one];split <;> omega
theorem lX {v:Value}{o:Option Int}{Q:Option Int->Shared->Prop}(p:IsPart v o)(h:Q o s):wpAny (model prog w) A (Builtin.Slice.slicePartIndex v) Q E s:=by
 cases p with
 | none=>exact slicePart_none h
 | int i t=>exact slicePart_int h
theorem jV {sl:Addr}{vl vu:Value}{lo hi:Option Int}{n:Nat}{Q:Int×Int×Nat->Shared->Prop}(hs:s.heap.IsSliceOf sl vl vu .none)(pl:IsPart vl lo)(pu:IsPart vu hi)
  (h:Q (((cE n 0 lo:Nat):Int),1,cE n n hi - cE n 0 lo) s):wpAny (model prog w) A (Builtin.Slice.sliceApplied (.ref sl) (pure (n:Int))) Q E s:=by
 obtain ⟨os,XC,hcs,YS⟩:=id hs;unfold Builtin.Slice.sliceApplied Builtin.Slice.sliceFields;refine wpAny_bind (wpAny_bind (wpAny_field XC YS (x:=vl) rfl (wpAny_bind (wpAny_field XC YS (x:=vu) rfl (wpAny_bind (wpAny_field XC YS (x:=.none) rfl (wpAny_pure ?_)))))));refine wpAny_bind (slicePart_none ?_);show wpAny _ _ (if ((1:Int) == 0)=true then _ else _) _ _ s;rw [if_neg (by decide)];refine wpAny_bind (lX pl (wpAny_bind (lX pu (wpAny_bind (wpAny_pure ?_)))));show wpAny _ _ (match Builtin.Slice.sliceAdjust lo hi 1 (n:Int) with | (lo,hi)=>pure (lo,(1:Int),Builtin.Slice.slicePlaces lo hi 1)) _ _ s;rw [KG lo hi n];show wpAny _ _ (pure (((cE n 0 lo:Nat):Int),(1:Int),Builtin.Slice.slicePlaces ((cE n 0 lo:Nat):Int) ((cE n n hi:Nat):Int) 1)) _ _ s;rw [vo];exact wpAny_pure h
theorem Ot (xs:Array Value)(i k:Nat):((List.range k).filterMap λ(m:Nat)=>xs[((i:Int) + (m:Int) * 1).toNat]?).toArray=((xs.toList.drop i).take k).toArray:=by
 have e:(λ(m:Nat)=>xs[((i:Int) + (m:Int) * 1).toNat]?)=λm=>xs[i + m]?:=by
  funext m;have:((i:Int) + (m:Int) * 1).toNat=i + m:=by omega
  rw [this]
 rw [e];have:=pick_run xs i k;rw [List.filterMap_map] at this;have e2:((λx=>xs[x]?) ∘ λx=>i + x)=λm=>xs[i + m]?:=rfl;rw [e2] at this;rw [this]
theorem jt {t sl:Addr}{items:Array Value}{vl vu:Value}{lo hi:Option Int}{Q:Value->Shared->Prop}(ht:IsTup s.heap t items)(hs:s.heap.IsSliceOf sl vl vu .none)(pl:IsPart vl lo)(pu:IsPart vu hi)
  (hw:¬ (cE items.size 0 lo=0/\cE items.size items.size hi=items.size))
  (h:Q (.ref s.heap.objs.size) { s with heap:=s.heap.push { cls:=.type "tuple", data:=.seq ((items.toList.drop (cE items.size 0 lo)).take (cE items.size items.size hi - cE items.size 0 lo)).toArray } })
  (hsz:items.size<=sizeLine):wpAny (model prog w) A (getItem (.ref t) (.ref sl)) Q E s:=by
 have K6:sizeOk (.seq ((items.toList.drop (cE items.size 0 lo)).take (cE items.size items.size hi - cE items.size 0 lo)).toArray):=by
  show ((items.toList.drop (cE items.size 0 lo)).take (cE items.size items.size hi - cE items.size 0 lo)).toArray.size<=sizeLine;rw [zQ,zY,yR,Array.length_toList];omega
 have hj:cE items.size items.size hi<=items.size:=Ua _ _ (zF _) hi;obtain ⟨os,XC,hcs,YS⟩:=id hs;have hTs:s.TypeIs (.ref sl) "slice" := ⟨os,XC,hcs⟩;unfold getItem;try with_reducible refine wpAny_holding ?_
 first | refine wpAny_bind (wpAny_pure ?_) | skip
 refine wpAny_bind (wpAny_sequenceKey ht.typeIs (by decide) ?_);refine wpAny_bind (wpAny_callSpecial?_slot (name:=Str.ofString "__getitem__") ht.typeIs PyProof.Rows.slot_tuple_getitem
  (wpAny_call_entry PyProof.Rows.slot_tuple_getitem ht.typeIs entry_tuple_getitem ?_ (args_tuple_getitem _ _)))
 show wpAny _ _ (Builtin.Tuple.tupleItemsOf (.ref t) >>= _) _ _ s;refine wpAny_bind (tupleItemsOf_ ht ?_);refine wpAny_bind (wpAny_typeOf hTs ?_);rw [if_pos (by decide)];refine wpAny_bind (jV hs pl pu ?_);have hno:¬ ((((cE items.size 0 lo:Nat):Int) == 0 && (1:Int) == 1 && (cE items.size items.size hi - cE items.size 0 lo) == items.size)=true):=by
  intro q;rw [zc,zc] at q;have q1:((cE items.size 0 lo:Nat):Int)=0:=eq_of_beq q.1.1;have q2:cE items.size items.size hi - cE items.size 0 lo=items.size:=eq_of_beq q.2;exact hw ⟨by omega,by omega⟩
 show wpAny _ _ (if (((cE items.size 0 lo:Nat):Int) == 0 && (1:Int) == 1 && (cE items.size items.size hi - cE items.size 0 lo) == items.size)=true then _ else _) _ _ s;rw [if_neg hno,Ot]
 first
  | exact wpAny_bind (m:=Builtin.Tuple.tupleExact _) (wpAny_newObj_type (wpAny_pure ⟨_,rfl,wpAny_pure h⟩) K6)
  | exact wpAny_bind (m:=Builtin.Tuple.tupleExact _) (wpAny_newObj_type (wpAny_bind (wpAny_pure (wpAny_pure ⟨_,rfl,wpAny_pure h⟩))) K6)
  | exact wpAny_bind (wpAny_bind (m:=Builtin.Tuple.tupleExact _) (wpAny_newObj_type (wpAny_pure (wpAny_pure ⟨_,rfl,wpAny_pure h⟩)) K6))
  | exact wpAny_bind (wpAny_bind (m:=Builtin.Tuple.tupleExact _) (wpAny_newObj_type (wpAny_pure ⟨_,rfl,wpAny_pure h⟩) K6))
end
end HT
namespace L2
open PySem PySem.Spec PyProof.Rows
abbrev TO:=St->Hp->(Option Int->Hp->Prop)->Prop
def PO (X:Cx)(e:Option Expr)(t:TO):Prop:=
 ∀ (ah:List (Addr×Obj)) (s:Shared) (σ:St) (H:Hp) (Q:Option Int->Hp->Prop),Inv X ah σ H s->t σ H Q ->
  wpAny (model X.prog X.w) X.A (evalPart e X.env) (λu s'=>∃ o H',Inv X ah σ H' s'/\IsPart u o/\Q o H') X.xe s
def gY:TO:=λ_ H Q=>Q none H
def lW (t:TE):TO:=fun σ H Q=>t σ H λx H1=>∃ i,x=.int i/\Q (some i) H1
section
variable {X:Cx}{e:Expr}{te:TE}{lo hi:Option Expr}{tl th:TO} {pos p2:Pos}
theorem ia:PO X none gY:=by intro ah s σ H Q I h;rw [evalPart_none];exact wpAny_pure ⟨none,H,I,.none,h⟩
theorem dm (h:PE X e te):PO X (some e) (lW te):=by intro ah s σ H Q I hw;rw [evalPart_some];refine aV (h ah s σ H _ I hw) λu s1 Zo=>?_;obtain ⟨x,H1,I1,r1,q1⟩:=Zo;obtain ⟨i,rfl,q⟩:=q1;obtain ⟨t,rfl⟩:=r1;exact ⟨some i,H1,I1,.int i t,q⟩
def Ye (X:Cx)(r:V->Option Int->Option Int->Hp->VK->Prop):Prop:=
 ∀ (ah:List (Addr×Obj)) (s:Shared) (σ:St) (H:Hp) (x:V) (v vl vu:Value) (lo hi:Option Int) (sl:Addr) (Q:VK),Inv X ah σ H s->RelV x v->s.heap.IsSliceOf sl vl vu .none->IsPart vl lo->IsPart vu hi->r x lo hi H Q ->
  ∃ T id,typeLookup (.type T) "__getitem__" = pure (some (.builtin id))/\s.TypeIs v T/\wpAny (model X.prog X.w) X.A (getItem v (.ref sl)) (EP X ah σ Q) X.xe s
def VF (r:V->Option Int->Option Int->Hp->VK->Prop)(te:TE)(tl th:TO):TE:=fun σ H Q=>te σ H λx H1=>tl σ H1 λl H2=>th σ H2 λu H3=>r x l u H3 Q
theorem dN {r:V->Option Int->Option Int->Hp->VK->Prop}(hr:Ye X r)(he:PE X e te)(hl:PO X lo tl)(hu:PO X hi th):PE X (.Subscript e (.Slice lo hi none p2) pos) (VF r te tl th):=by intro ah s σ H Q I h;refine Subscript_ (aV (he ah s σ H _ I h) λv s1 Zn=>?_);obtain ⟨x,H1,I1,r1,q1⟩:=Zn;refine wpAny_Slice (aV (hl ah s1 σ H1 _ I1 q1) λvl s2 Zm=>?_);obtain ⟨l,H2,I2,pl,q2⟩:=Zm;refine aV (hu ah s2 σ H2 _ I2 q2) λvu s3 Zl=>?_;obtain ⟨u,H3,I3,pu,q3⟩:=Zl;rw [evalPart_none];refine wpAny_pure ?_;have I4:Inv X ah σ H3 { s3 with heap:=s3.heap.push { cls:=.type "slice", data:=.fields #[vl,vu,.none] } }:=I3.kept (t':=s3.toks) λb ob q=>Heap.get?_push_of_some _ q;obtain ⟨T,id,hT,ht,hg⟩:=hr ah { s3 with heap:=s3.heap.push { cls:=.type "slice", data:=.fields #[vl,vu,.none] } } σ H3 x v vl vu l u s3.heap.objs.size Q I4 r1 (Heap.IsSliceOf.new ..) pl pu q3;show wpAny (model X.prog X.w) X.A (subscriptTail e (.Slice lo hi none p2) v (.ref s3.heap.objs.size)) (EP X ah σ Q) X.xe { s3 with heap:=s3.heap.push { cls:=.type "slice", data:=.fields #[vl,vu,.none] } };exact tail_any (ops:=[.ref s3.heap.objs.size,v]) ht hT hg (by with_unfolding_all rfl)
def i0 (xs:List V)(lo hi:Option Int):List V:=(xs.drop (HT.cE xs.length 0 lo)).take (HT.cE xs.length xs.length hi - HT.cE xs.length 0 lo)
theorem kP (xs:List V)(lo hi:Option Int):(i0 xs lo hi).length<=xs.length:=by unfold i0;rw [zY,yR];omega
def WJ (K:PySem.W.Frag):V->Option Int->Option Int->Hp->VK->Prop:=λx lo hi H Q=>∃ a xs,x=.ref a/\bC K H a xs /\
 ¬ (HT.cE xs.length 0 lo=0/\HT.cE xs.length xs.length hi=xs.length)/\∀ p,H p=none->Q (.ref p) (upd H p (.tup (i0 xs lo hi)))
theorem T8:Ye X (WJ X.K):=by
 intro ah s σ H x v vl vu lo hi sl Q I rx hs pl pu h;obtain ⟨a,xs,rfl,hx,hw,q⟩:=h;cases rx;obtain ⟨ay,r,ht,hz⟩:=I.tuple hx;have hlen:ay.toArray.size=xs.length:=by rw [zQ];exact r.length.symm
 refine ⟨"tuple", _,PyProof.Rows.slot_tuple_getitem.lookup,ht.typeIs,?_⟩;refine HT.jt ht hs pl pu (by rw [hlen];exact hw) ?_ (by rw [hlen];exact hz);rw [hlen];refine ⟨.ref s.heap.objs.size,_,I.laid (t':=s.toks) (o:=.tup (i0 xs lo hi)) (λb ob q=>Heap.get?_push_of_some _ q) (zF _) ?_,rfl,q _ (I.aT.fresh (zF _))⟩;exact ⟨⟨z4 (kP xs lo hi) hz,mK⟩,_,(r.drop (HT.cE xs.length 0 lo)).take (HT.cE xs.length xs.length hi - HT.cE xs.length 0 lo),IsTup.new _ _⟩
end
def MC (n:Nat)(i:Int):Option Nat:=if 0<=i then (if i < n then some i.toNat else none) else if -(n:Int)<=i then some (i + n).toNat else none
def i7 {α:Type}(xs:List α)(i:Int):Option α:=(MC xs.length i).bind λj=>xs[j]?
theorem K5 {n:Nat}{i:Int}{j:Nat}(h:MC n i=some j):seqIndex? i n=some j/\j < n/\-(n:Int)<=i/\i < n:=by
 unfold MC at h;by_cases h0:0<=i
 ·rw [if_pos h0] at h;by_cases h1:i < n
  ·rw [if_pos h1] at h;have e:i.toNat=j:=Option.some.inj h;exact ⟨by rw [seqIndex_of h0 h1,e],by omega,by omega,h1⟩
  ·rw [if_neg h1] at h;cases h
 ·rw [if_neg h0] at h;by_cases h1:-(n:Int)<=i
  ·rw [if_pos h1] at h;have e:(i + n).toNat=j:=Option.some.inj h;exact ⟨by rw [seqIndex_neg (by omega) h1,e],by omega,h1,by omega⟩
  ·rw [if_neg h1] at h;cases h
theorem Lu {α:Type}{xs:List α}{i:Int}{v:α}(h:i7 xs i=some v):∃ j,seqIndex? i xs.length=some j/\xs[j]?=some v/\j < xs.length/\-(xs.length:Int)<=i/\i < xs.length:=by
 unfold i7 at h;cases e:MC xs.length i with
 | none=>rw [e] at h;cases h
 | some j=>
  rw [e] at h;obtain ⟨h1,h2,h3,h4⟩:=K5 e;exact ⟨j,h1,h,h2,h3,h4⟩
theorem wF {α:Type}{xs:List α}{j:Nat}{v:α}(h:xs[j]?=some v):i7 xs (j:Int)=some v:=by
 have hj:j < xs.length:=(zD.mp h).1;have e:MC xs.length (j:Int)=some j:=by
  unfold MC;rw [if_pos (by omega),if_pos (by omega)];simp
 unfold i7;rw [e];exact h
theorem nG {α:Type}(xs:List α)(v:α):i7 (xs++[v]) (-1)=some v:=by
 have hl:(xs++[v]).length=xs.length + 1:=by simp
 have e:MC (xs++[v]).length (-1)=some xs.length:=by
  unfold MC;rw [hl,if_neg (by decide),if_pos (by omega)];congr 1;omega
 unfold i7;rw [e];show (xs++[v])[xs.length]?=some v;simp
def Sh (b:Expr):Prop:=∀ o i,subscripted b false o i=operate [o,i] (getItem o i)
def Yl (X:Cx)(r:R2):Prop:=
 ∀ (value slice:Expr) (ah:List (Addr×Obj)) (s:Shared) (σ:St) (H:Hp) (x y:V) (v u:Value) (Q:VK),Inv X ah σ H s->RelV x v->RelV y u->r x y H Q ->
  subscripted slice false v u=operate [v,u] (getItem v u)->wpAny (model X.prog X.w) X.A (subscriptTail value slice v u) (EP X ah σ Q) X.xe s
def MtR (X:Cx)(id:String)(r:V->List V->Hp->VK->Prop):Prop:=
 ∀ (ah:List (Addr×Obj)) (s:Shared) (σ:St) (H:Hp) (x:V) (xs:List V) (v:Value) (us:List Value) (Q:VK),Inv X ah σ H s->RelV x v->Vals xs us->r x xs H Q ->
  wpAny (model X.prog X.w) X.A (call (.builtin id) (v::us)) (EP X ah σ Q) X.xe s
section
variable {X:Cx}{a b:Expr}{ta tb:TE}{pos:Pos}
theorem xz {r:R2}(hr:Yl X r)(ha:PE X a ta)(hb:PE X b tb)(hs:Sh b):PE X (.Subscript a b pos) (uV r ta tb):=by intro ah s σ H Q I h;exact Subscript_ (Vq ha hb I h λv u s2 x y H2 I2 rx ry q=>hr a b ah s2 σ H2 x y v u Q I2 rx ry q (hs _ _))
def sS (K:PySem.W.Frag):R2:=λx y H Q=>∃ p xs i v,x=.ref p/\y=.int i/\aH K H p xs/\i7 xs i=some v/\Q v H
def ql (K:PySem.W.Frag):R2:=λx y H Q=>∃ p xs i v,x=.ref p/\y=.int i/\bC K H p xs/\i7 xs i=some v/\Q v H
theorem RP:Yl X (sS X.K):=by
 intro value slice ah s σ H x y v u Q I rx ry h hs;obtain ⟨p,xs,i,z,rfl,rfl,hq,he,q⟩:=h;cases rx;obtain ⟨t,rfl⟩:=ry;obtain ⟨ay,r,pl,hz⟩:=I.list hq;obtain ⟨j,h1,h2,h3,h4,h5⟩:=Lu he;obtain ⟨w,ew,Mc⟩:=r.get h2;have hl:=r.length;have hn:=j4;have fin:EP X ah σ Q w s:=⟨z,H,I,Mc,q⟩;by_cases h0:0<=i
 ·have hj:i.toNat=j:=by
   rw [seqIndex_of h0 h5] at h1;exact Option.some.inj h1
  exact item_listR pl.isList h0 (by omega) (by rw [hj];simpa using ew) fin hs
 ·have hj:(i + (ay.toArray.size:Int)).toNat=j:=by
   rw [seqIndex_neg (by omega) h4] at h1;rw [zQ,<- hl];exact Option.some.inj h1
  exact subscriptTail_builtinR (x:=w) pl.isList.typeIs slot_list_getitem.lookup
   (wpAny_getItem_list_neg (Q:=λr s'=>r=w/\EP X ah σ Q r s') pl.isList (by omega) (by rw [zQ] <;> omega) (by omega) (by rw [hj];simpa using ew) ⟨rfl,fin⟩) hs
theorem UE:Yl X (ql X.K):=by
 intro value slice ah s σ H x y v u Q I rx ry h hs;obtain ⟨p,xs,i,z,rfl,rfl,hq,he,q⟩:=h;cases rx;obtain ⟨t,rfl⟩:=ry;obtain ⟨ay,r,pl,hz⟩:=I.tuple hq;obtain ⟨j,h1,h2,h3,h4,h5⟩:=Lu he;obtain ⟨w,ew,Mc⟩:=r.get h2;have hl:=r.length;have hn:=j4;have fin:EP X ah σ Q w s:=⟨z,H,I,Mc,q⟩;exact subscriptTail_builtinR (x:=w) pl.typeIs slot_tuple_getitem.lookup
  (getItem_tuple (j:=j) (Q:=λr s'=>r=w/\EP X ah σ Q r s') pl (by omega) (by omega) (by rw [zQ,<- hl];exact h1) (by simpa using ew) ⟨rfl,fin⟩) hs
theorem vC (ay:List Value)(n j:Nat)(u:Value):Obj.mapSeq (·.setIfInBounds j u) { cls:=.type "list", data:=.seq ay.toArray n }={ cls:=.type "list", data:=.seq (ay.set j u).toArray n }:=by simp [Obj.mapSeq]
theorem Inv.lst {ah:List (Addr×Obj)}{σ:St}{H:Hp}{s:Shared}{p:Addr}{xs:List V}(I:Inv X ah σ H s)(h:H p=some (.lst xs)) :
  ∃ (ay:List Value) (n:Nat),Vals xs ay/\s.heap.get? p=some { cls:=.type "list", data:=.seq ay.toArray n }/\xs.length<=sizeLine:=by
 obtain ⟨z,ay,n,r,e⟩:=I.aT p _ h;exact ⟨ay,n,r,e,z⟩
theorem Inv.Ux {ah:List (Addr×Obj)}{σ:St}{H:Hp}{s:Shared}{p:Addr}{xs ys:List V}{ay its':List Value}{n n':Nat}{f:Obj->Obj}(I:Inv X ah σ H s)(h:H p=some (.lst xs))
  (ho:s.heap.get? p=some { cls:=.type "list", data:=.seq ay.toArray n }) (hf:f { cls:=.type "list", data:=.seq ay.toArray n }={ cls:=.type "list", data:=.seq its'.toArray n' }) (r:Vals ys its') (hz:ys.length<=sizeLine) (t:Nat) :
  Inv X ah σ (upd H p (.lst ys)) { s with heap:=s.heap.update p f,toks:=t }:=by
 have e:(s.heap.update p f).get? p=some { cls:=.type "list", data:=.seq its'.toArray n' }:=by
  rw [Heap.get?_update_self f ho (by rw [hf] <;> rfl),hf]
 refine I.write (x:=p) (e:=p) (by rw [h];trivial) (.inl rfl) (λb u hb q=>(Heap.get?_update_other _ _ (Ne.symm hb)).trans q) ⟨_,e⟩ ?_;exact ⟨hz,its',n',r,e⟩
def oZ:V->V->V->Hp->(Hp->Prop)->Prop:=λo i v H Q=>∃ p xs k j,o=.ref p/\i=.int k/\H p=some (.lst xs)/\MC xs.length k=some j/\Q (upd H p (.lst (xs.set j v)))
theorem set_list:Vw X oZ:=by
 intro ah s σ H o i v ov iv u Q I ro ri rv h;obtain ⟨p,xs,k,j,rfl,rfl,hp,hj,q⟩:=h;cases ro;obtain ⟨t,rfl⟩:=ri;obtain ⟨ay,n,r,ho,hz⟩:=I.lst hp;obtain ⟨h1,h2,h3,h4⟩:=K5 hj;have hl:=r.length;have hn:=j4;have I':Inv X ah σ (upd H p (.lst (xs.set j v))) { s with heap:=s.heap.update p (Obj.mapSeq (·.setIfInBounds j u)) }:=
  I.Ux hp ho (vC ay n j u) (r.set rv j) (by rw [List.length_set];exact hz) s.toks
 by_cases h0:0<=k
 ·have hk:k.toNat=j:=by
   rw [seqIndex_of h0 h4] at h1;exact Option.some.inj h1
  exact PySem.W.ki_setAt ho h0 (by omega) (by rw [zQ,<- hl];exact h4) (by rw [hk];exact ⟨_,I',q⟩)
 ·have hk:(k + (ay.toArray.size:Int)).toNat=j:=by
   rw [seqIndex_neg (by omega) h3] at h1;rw [zQ,<- hl];exact Option.some.inj h1
  exact PySem.W.ki_setBack ho (by omega) (by rw [zQ,<- hl];exact h3) (by omega) (by rw [hk];exact ⟨_,I',q⟩)
theorem qi (lo hi:Option Int)(n:Nat):(sliceBounds lo hi none n).1=((HT.cE n 0 lo:Nat):Int)/\(sliceBounds lo hi none n).2.1=((HT.cE n n hi:Nat):Int)/\(sliceBounds lo hi none n).2.2=1:=by
 refine ⟨?_,?_,rfl⟩
 ·cases lo with
  | none=>simp [sliceBounds,HT.cE]
  | some i=>
   simp only [sliceBounds,HT.cE,Option.getD_none,show (1:Int) > 0 by decide,if_true];by_cases h:i < 0
   ·simp only [h,if_true] <;> omega
   ·simp only [h,if_false] <;> omega
 ·cases hi with
  | none=>simp [sliceBounds,HT.cE]
  | some i=>
   simp only [sliceBounds,HT.cE,Option.getD_none,show (1:Int) > 0 by decide,if_true];by_cases h:i < 0
   ·simp only [h,if_true] <;> omega
   ·simp only [h,if_false] <;> omega
theorem n6 (ay:List Value)(lo hi:Option Int):slicePick ay.toArray lo hi none=((ay.drop (HT.cE ay.length 0 lo)).take (HT.cE ay.length ay.length hi - HT.cE ay.length 0 lo)).toArray:=by obtain ⟨h1,h2,h3⟩:=qi lo hi ay.toArray.size;unfold slicePick;rw [h1,h2,h3];simp only [sliceRange_one,pick_run,zQ] <;> rfl
def WK (K:PySem.W.Frag):V->Option Int->Option Int->Hp->VK->Prop:=λx lo hi H Q=>∃ a xs,x=.ref a/\aH K H a xs/\∀ p,H p=none->Q (.ref p) (upd H p (.lst (i0 xs lo hi)))
theorem Rc:Ye X (WK X.K):=by intro ah s σ H x v vl vu lo hi sl Q I rx hs pl pu h;obtain ⟨a,xs,rfl,hx,q⟩:=h;cases rx;obtain ⟨ay,r,ht,hz⟩:=I.list hx;have hlen:=r.length;refine ⟨"list", _,slot_list_getitem.lookup,ht.isList.typeIs,?_⟩;refine wpAny_getItem_list_slice ht.isList hs pl pu .none (by simp) ?_ (by rw [zQ] <;> omega);rw [n6,<- hlen];refine ⟨.ref s.heap.objs.size,_,I.laid (t':=s.toks) (o:=.lst (i0 xs lo hi)) (λb ob q=>Heap.get?_push_of_some _ q) (zF _) ?_,rfl,q _ (I.aT.fresh (zF _))⟩;exact ⟨z4 (kP xs lo hi) hz,_,0,(r.drop (HT.cE xs.length 0 lo)).take (HT.cE xs.length xs.length hi - HT.cE xs.length 0 lo),Heap.get?_push_size _ rfl⟩
def b9:V->Bool
 | .bZ=>true
 | .bl _=>true
 | .int _=>true
 | .str _=>true
 | _=>false
def r9:V->V->Bool
 | .bZ,.bZ=>true
 | .bl a,.bl b=>a == b
 | .bl a,.int b=>(if a then 1 else 0) == b
 | .int a,.bl b=>a == (if b then 1 else 0)
 | .int a,.int b=>a == b
 | .str a,.str b=>a == b
 | _,_=>false
theorem Ko {A:Around}{s:Shared}{y x:V}{u v:Value}(ry:RelV y u)(rx:RelV x v)(fy:b9 y=true)(fx:b9 x=true):SeqAt.EqAt A s u v (r9 y x):=by
 cases y with
 | bZ=>
  cases ry;cases x with
  | bZ=>cases rx;exact SeqAt.EqAt.same _
  | bl b=>cases rx;exact SeqAt.EqAt.none_bool b
  | int b=>obtain ⟨t,rfl⟩:=rx;exact SeqAt.EqAt.none_int b t
  | str b=>obtain ⟨t,rfl⟩:=rx;exact SeqAt.EqAt.none_str b t
  | _=>exact absurd (show false=true from fx) zM
 | bl a=>
  cases ry;cases x with
  | bZ=>cases rx;exact SeqAt.EqAt.bool_none a
  | bl b=>cases rx;exact SeqAt.EqAt.bool_bool a b
  | int b=>obtain ⟨t,rfl⟩:=rx;exact SeqAt.EqAt.bool_int a b t
  | str b=>obtain ⟨t,rfl⟩:=rx;exact SeqAt.EqAt.bool_str a b t
  | _=>exact absurd (show false=true from fx) zM
 | int a=>
  obtain ⟨t',rfl⟩:=ry;cases x with
  | bZ=>cases rx;exact SeqAt.EqAt.int_none a t'
  | bl b=>cases rx;exact SeqAt.EqAt.int_bool a t' b
  | int b=>obtain ⟨t,rfl⟩:=rx;exact SeqAt.EqAt.int_int a t' b t
  | str b=>obtain ⟨t,rfl⟩:=rx;exact SeqAt.EqAt.int_str a t' b t
  | _=>exact absurd (show false=true from fx) zM
 | str a=>
  obtain ⟨t',rfl⟩:=ry;cases x with
  | bZ=>cases rx;exact SeqAt.EqAt.str_none a t'
  | bl b=>cases rx;exact SeqAt.EqAt.str_bool a t' b
  | int b=>obtain ⟨t,rfl⟩:=rx;exact SeqAt.EqAt.str_int a t' b t
  | str b=>obtain ⟨t,rfl⟩:=rx;exact SeqAt.EqAt.str_str a t' b t
  | _=>exact absurd (show false=true from fx) zM
 | _=>exact absurd (show false=true from fy) zM
def Kn (x:V)(u:Value):Bool:=match u with
 | .none=>r9 .bZ x
 | .bool b=>r9 (.bl b) x
 | .int i _=>r9 (.int i) x
 | .str z _=>r9 (.str z) x
 | _=>false
theorem PB {x y:V}{u:Value}(r:RelV y u)(f:b9 y=true):Kn x u=r9 y x:=by
 cases y with
 | bZ=>cases r;rfl
 | bl b=>cases r;rfl
 | int i=>obtain ⟨t,rfl⟩:=r;rfl
 | str z=>obtain ⟨t,rfl⟩:=r;rfl
 | _=>exact absurd (show false=true from f) zM
theorem jD {x:V}:∀ {xs:List V}{us:List Value},Vals xs us->xs.all b9=true->us.any (Kn x)=xs.any λy=>r9 y x
 | _,_,.nil,_=>rfl
 | y::xs,u::us,.cons r t,f=>by
  rw [List.all_cons,zc] at f;rw [xM,xM,PB r f.1,jD t f.2]
theorem gG {A:Around}{s:Shared}{x:V}{v:Value}(rx:RelV x v)(fx:b9 x=true):∀ {xs:List V}{us:List Value},Vals xs us->xs.all b9=true->∀ u∈us,SeqAt.EqAt A s u v (Kn x u)
 | _,_,.nil,_=>λu hu=>by cases hu
 | y::xs,u::us,.cons r t,f=>λu' hu=>by
  rw [List.all_cons,zc] at f;rcases zO.mp hu with rfl | hu
  ·rw [PB r f.1];exact Ko r rx f.1 fx
  ·exact gG rx fx t f.2 u' hu
def RV (x:V)(xs:List V):Bool:=xs.any λy=>r9 y x
def rIn (K:PySem.W.Frag)(neg:Bool):R2:=λx y H Q=>∃ p xs,y=.ref p/\(aH K H p xs\/bC K H p xs)/\b9 x=true/\xs.all b9=true/\Q (.bl (if neg then !RV x xs else RV x xs)) H
theorem Ml:iB X (compareOp .In) (rIn X.K false):=by
 intro ah s σ H x y v u Q I rx ry h;obtain ⟨p,xs,rfl,hq,fx,fs,q⟩:=h;cases ry;rcases hq with hq | hq
 ·obtain ⟨ay,r,pl,hz⟩:=I.list hq;refine SeqAt.in_listAt (Kn x) pl.isList (λw hw=>gG rx fx r fs w (by simpa using hw)) ⟨.bl _,H,I,rfl,?_⟩;rw [show ay.toArray.any (Kn x)=ay.any (Kn x) by simp,jD r fs];exact q
 ·obtain ⟨ay,r,pl,hz⟩:=I.tuple hq;refine SeqAt.in_tupleAt (Kn x) pl (λw hw=>gG rx fx r fs w (by simpa using hw)) ⟨.bl _,H,I,rfl,?_⟩;rw [show ay.toArray.any (Kn x)=ay.any (Kn x) by simp,jD r fs];exact q
theorem qw:iB X (compareOp .NotIn) (rIn X.K true):=by
 intro ah s σ H x y v u Q I rx ry h;obtain ⟨p,xs,rfl,hq,fx,fs,q⟩:=h;cases ry;rcases hq with hq | hq
 ·obtain ⟨ay,r,pl,hz⟩:=I.list hq;refine SeqAt.notIn_listAt (Kn x) pl.isList (λw hw=>gG rx fx r fs w (by simpa using hw)) ⟨.bl _,H,I,rfl,?_⟩;rw [show ay.toArray.any (Kn x)=ay.any (Kn x) by simp,jD r fs];exact q
 ·obtain ⟨ay,r,pl,hz⟩:=I.tuple hq;refine SeqAt.notIn_tupleAt (Kn x) pl (λw hw=>gG rx fx r fs w (by simpa using hw)) ⟨.bl _,H,I,rfl,?_⟩;rw [show ay.toArray.any (Kn x)=ay.any (Kn x) by simp,jD r fs];exact q
theorem rM:dU X (.builtin "len") (λxs H Q=>∃ p ys,xs=[.ref p]/\(aH X.K H p ys\/bC X.K H p ys)/\Q (.int ys.length) H):=by
 intro ah s σ H xs us Q I r h;obtain ⟨p,ys,rfl,hq,q⟩:=h;obtain ⟨u,rfl,rx⟩:=vals1 r;cases rx;have hn:=j4;rcases hq with hq | hq
 ·obtain ⟨ay,r',pl,hz⟩:=I.list hq;have hlen:=r'.length;exact Calls.call_len_list pl.isList (by simp only [zQ] <;> omega) ⟨.int ys.length,H,I.tok _,⟨s.toks + 1,by rw [zQ,hlen]⟩,q⟩
 ·obtain ⟨ay,r',pl,hz⟩:=I.tuple hq;have hlen:=r'.length;exact len_tuple pl (by simp only [zQ] <;> omega) ⟨.int ys.length,H,I.tok _,⟨s.toks + 1,by rw [zQ,hlen]⟩,q⟩
theorem rL:dU X (.type "list") (λxs H Q=>∃ p ys,xs=[.ref p]/\(aH X.K H p ys\/bC X.K H p ys)/\∀ l,H l=none->Q (.ref l) (upd H l (.lst ys))):=by
 intro ah s σ H xs us Q I r h;obtain ⟨p,ys,rfl,hq,q⟩:=h;obtain ⟨u,rfl,rx⟩:=vals1 r;cases rx;have fin:∀ (ay:List Value),Vals ys ay->ys.length<=sizeLine->∀ (h':Heap) (c':Nat),(∀ b o',s.heap.get? b=some o'->h'.get? b=some o') ->
   h'.get? s.heap.objs.size=some { cls:=.type "list", dict:=none,data:=.seq ay.toArray c',slots:=#[] }->EP X ah σ Q (.ref s.heap.objs.size) { s with heap:=h' }:=λay r' hz h' c' kp e=>
  ⟨.ref s.heap.objs.size,_,I.laid (t':=s.toks) kp (zF _) (show bq X.prog X.w _ h' _ (.lst ys) from ⟨hz,ay,c',r',e⟩),rfl,q _ (I.aT.fresh (zF _))⟩
 rcases hq with hq | hq
 ·obtain ⟨ay,r',pl,hz⟩:=I.list hq;have hlen:=r'.length;obtain ⟨o,ho,hc,n,hd⟩:=pl.isList;exact call_list_seq p (.inl rfl) ho hc hd (λh' c' kp e=>fin ay r' hz h' c' kp e) (by simp only [zQ] <;> omega)
 ·obtain ⟨ay,r',pl,hz⟩:=I.tuple hq;have hlen:=r'.length;obtain ⟨o,ho,hc,n,hd⟩:=pl;exact call_list_seq p (.inr rfl) ho hc hd (λh' c' kp e=>fin ay r' hz h' c' kp e) (by simp only [zQ] <;> omega)
theorem iM:dU X (.type "tuple") (λxs H Q=>∃ p ys,xs=[.ref p]/\((aH X.K H p ys/\∀ l,H l=none->Q (.ref l) (upd H l (.tup ys)))\/(bC X.K H p ys/\Q (.ref p) H))):=by
 intro ah s σ H xs us Q I r h;obtain ⟨p,ys,rfl,h⟩:=h;obtain ⟨u,rfl,rx⟩:=vals1 r;cases rx;rcases h with ⟨hq,q⟩ | ⟨hq,q⟩
 ·obtain ⟨ay,r',pl,hz⟩:=I.list hq;have hlen:=r'.length;refine call_tuple_list pl.isList (λh' kp=>?_) (by simp only [zQ] <;> omega);have I1:Inv X ah σ H { s with heap:=h' }:=I.kept (t':=s.toks) kp;have I2:Inv X ah σ (upd H h'.objs.size (.tup ys)) { s with heap:=h'.push { cls:=.type "tuple", data:=.seq ay.toArray } }:=
   I1.laid (t':=s.toks) (λb o e=>Heap.get?_push_of_some _ e) (zF _) (show bq X.prog X.w _ _ _ (.tup ys) from ⟨⟨hz,mK⟩,ay,r',IsTup.new _ _⟩)
  exact ⟨.ref h'.objs.size,_,I2,rfl,q _ (I1.aT.fresh (zF _))⟩
 ·obtain ⟨ay,r',pl,hz⟩:=I.tuple hq;exact call_tuple_same pl ⟨.ref p,H,I,rfl,q⟩
def tyV (K:PySem.W.Frag)(T:String)(x:V)(H:Hp):Prop:=match x with
 | .str _=>T = "str"
 | .int _=>T = "int"
 | .ref p=>(T = "list" /\ ∃ xs,aH K H p xs)\/(T = "tuple" /\ ((∃ o,K.lookup p=some o/\o.cls=.type "tuple" /\ o.dict=none)\/∃ xs,H p=some (.tup xs))) \/
   (T = "dict" /\ ((∃ aJ,H p=some (.dK aJ))\/∃ aJ,H p=some (.dT aJ)))\/(T = "set" /\ ∃ S n,H p=some (.set S n))
 | _=>False
theorem NN {ah:List (Addr×Obj)}{σ:St}{H:Hp}{s:Shared}{T:String}{x:V}{v:Value}(I:Inv X ah σ H s)(r:RelV x v)(ty:tyV X.K T x H) :
  s.TypeIs v T/\∀ a,v=.ref a->∃ ob,s.heap.get? a=some ob/\ob.dict=none:=by
 cases x with
 | str z=>
  obtain ⟨t,rfl⟩:=r;cases (show T = "str" from ty);exact ⟨typeIs_str s z t,λ_ e=>nomatch e⟩
 | int i=>
  obtain ⟨t,rfl⟩:=r;cases (show T = "int" from ty);exact ⟨typeIs_int s i t,λ_ e=>nomatch e⟩
 | ref p=>
  cases r;rcases ty with ⟨rfl,xs,hq⟩ | ⟨rfl,⟨o,hk,hc,hd⟩ | ⟨xs,hk⟩⟩ | ⟨rfl,hk⟩ | ⟨rfl,S,n,hk⟩
  ·obtain ⟨ay,_,pl,_⟩:=I.list hq;refine ⟨pl.isList.typeIs,λa e=>?_⟩;cases e;obtain ⟨o,n,e,c,hd,_⟩:=pl;exact ⟨o,e,hd⟩
  ·refine ⟨⟨o,I.kY p o hk,hc⟩,λa e=>?_⟩;cases e;exact ⟨o,I.kY _ o hk,hd⟩
  ·obtain ⟨nb,_,_,o,e,c,_⟩:=I.aT p _ hk;exact ⟨⟨o,e,c⟩,λa z=>by cases z;exact ⟨o,e,nb.2 o e⟩⟩
  ·have z:∃ o,s.heap.get? p=some o/\o.ExactDict:=by
    rcases hk with ⟨aJ,hk⟩ | ⟨aJ,hk⟩
    ·obtain ⟨_,_,_,_,o,_,_,e,ex,_⟩:=I.aT p _ hk;exact ⟨o,e,ex⟩
    ·obtain ⟨_,_,_,_,o,_,_,e,ex,_⟩:=I.aT p _ hk;exact ⟨o,e,ex⟩
   obtain ⟨o,e,ex⟩:=z;refine ⟨⟨o,e,ex.1⟩,λa e2=>?_⟩;cases e2;exact ⟨o,e,ex.2.1⟩
  ·obtain ⟨o,_,_,_,e,ex,_⟩:=I.aT p _ hk;refine ⟨⟨o,e,ex.1⟩,λa e2=>?_⟩;cases e2;exact ⟨o,e,ex.2.1⟩
 | _=>exact False.elim ty
def aal (K:PySem.W.Frag)(T:String)(r:V->List V->Hp->VK->Prop)(to:TE):TE:=fun σ H Q=>to σ H λx H1=>tyV K T x H1/\r x [] H1 Q
def VH (K:PySem.W.Frag)(T:String)(r:V->List V->Hp->VK->Prop)(to:TE)(t:TA):TE:=fun σ H Q=>to σ H λx H1=>tyV K T x H1/\t σ H1 λxs H2=>r x xs H2 Q
variable {o e:Expr}{es:List Expr}{to:TE}{t:TA}{name:Str}{apos fD:Pos}{T id:String}{r:V->List V->Hp->VK->Prop}
theorem Uj (pa:PlainAttrs T)(slot:Slot T name id)(SN:typeOf (.builtin id)=pure (.type "method_descriptor"))(hm:MtR X id r)(ho:PE X o to)
  (Pc:attributeBase o name X.env (eval o X.env)=eval o X.env:=by rfl) (O7:(apos.endLine == fD.line)=true:=by rfl):PE X (.Call (.Attribute o name apos) [] [] fD) (aal X.K T r to):=by
 intro ah s σ H Q I h;refine wpAny_Call_method0_late Pc O7 (aV (ho ah s σ H _ I h) λv s1 Zk=>?_);obtain ⟨x,H1,I1,r1,ty,q1⟩:=Zk;obtain ⟨h1,h2⟩:=NN I1 r1 ty;exact ⟨T,id,pa,slot,SN,h1,h2,Calls.callWith_builtin rfl (PySem.evalArgs_none (hm ah s1 σ H1 x [] v [] Q I1 r1 .nil q1))⟩
theorem fu (pa:PlainAttrs T)(slot:Slot T name id)(SN:typeOf (.builtin id)=pure (.type "method_descriptor"))(hm:MtR X id r)(ho:PE X o to)(ha:PA X (e::es) t)
  (Pc:attributeBase o name X.env (eval o X.env)=eval o X.env:=by rfl)
  (abx:((backTo fD (starEach (e::es) X.env)).all (λx=>!x.1) && (backToKw fD (keywordEach [] X.env)).all (λx=>x.1.isSome)
   && decide ((e::es).length + ([]:List Keyword).length + (if ([]:List Keyword).isEmpty then 0 else 1) < 30))=true:=by rfl)
  (O7:(apos.endLine == fD.line)=true:=by rfl) (hs:starEach (e::es) X.env=(false,eval e X.env)::starEach es X.env:=by rfl) (UN:(backTo fD (starEach es X.env)).any (·.1)=false:=by rfl) :
  PE X (.Call (.Attribute o name apos) (e::es) [] fD) (VH X.K T r to t):=by
 intro ah s σ H Q I h;refine wpAny_Call_method_late Pc abx O7 rfl (aV (ho ah s σ H _ I h) λv s1 Zj=>?_);obtain ⟨x,H1,I1,r1,ty,q1⟩:=Zj;obtain ⟨h1,h2⟩:=NN I1 r1 ty;refine ⟨T,id,pa,slot,SN,h1,h2,?_⟩;have hA:=ha fD ah s1 σ H1 _ I1 q1;rw [hs] at hA ⊢;refine Calls.callWith_builtin (by show (false || (backTo fD (starEach es X.env)).any (·.1))=false;rw [UN] <;> rfl) (Calls.evalArgs_plain ?_);exact aV hA λus s2 ⟨vs,H2,I2,r2,q2⟩=>hm ah s2 σ H2 x vs v us Q I2 r1 r2 q2
/- xs.append(e),list.index on a Xa tuple .. are MtR facts of 06m -/
end
def MtM (X:Cx)(id:String)(r:V->List V->Hp->VK->Prop):Prop:=
 ∀ (ah:List (Addr×Obj)) (s:Shared) (σ:St) (H:Hp) (x:V) (xs:List V) (v:Value) (us:List Value) (Q:VK),Inv X ah σ H s->RelV x v->Vals xs us->r x xs H Q ->
  wpAny (model X.prog X.w) X.A (call (.builtin id) (v::us)) (EP X ah σ Q) X.xe s
theorem Vals.one:∀ {x:V}{us:List Value},Vals [x] us->∃ u,us=[u]/\RelV x u
 | _,_,.cons r .nil=>⟨_,rfl,r⟩
theorem Vals.zero:∀ {us:List Value},Vals [] us->us=[]
 | _,.nil=>rfl
theorem Vals.dropLast {xs:List V}{us:List Value}(h:Vals xs us):Vals xs.dropLast us.dropLast:=by
 induction h with
 | nil=>exact .nil
 | cons r t ih=>
  cases t with
  | nil=>exact .nil
  | cons q t'=>exact .cons r ih
theorem Vals.reverse {xs:List V}{us:List Value}(h:Vals xs us):Vals xs.reverse us.reverse:=by
 induction h with
 | nil=>exact .nil
 | cons r t ih=>rw [yz,yz];exact Vals.append ih (.cons r .nil)
theorem Vals.rep {xs:List V}{us:List Value}(h:Vals xs us):∀ k:Nat,Vals (List.replicate k xs).flatten (List.replicate k us).flatten
 | 0=>.nil
 | k + 1=>by
  rw [yd,yd,xO,xO];exact Vals.append h (Vals.rep h k)
theorem Km {α:Type}(l:List α):l.eraseIdx (l.length - 1)=l.dropLast:=by
 induction l with
 | nil=>rfl
 | cons a r ih=>
  cases r with
  | nil=>rfl
  | cons b r=>
   have e:(a::b::r).length - 1=((b::r).length - 1) + 1:=by
    have h1:(a::b::r).length=r.length + 2:=rfl;have h2:(b::r).length=r.length + 1:=rfl;omega
   rw [e,List.eraseIdx_cons_succ,ih];all_goals rfl
theorem foldl_rep (ay:List Value):∀ (k:Nat) (acc:List Value),
  List.foldl (λx1 x2=>x1++x2) acc.toArray (List.replicate k ay.toArray)=(acc++(List.replicate k ay).flatten).toArray
 | 0,acc=>by simp
 | k + 1,acc=>by
  have e:acc.toArray++ay.toArray=(acc++ay).toArray:=by simp
  have e2:(acc++ay)++(List.replicate k ay).flatten=acc++(List.replicate (k + 1) ay).flatten:=by
   rw [yd,xO,List.append_assoc]
  rw [<-e2,<- foldl_rep ay k (acc++ay),<- e,yd,List.foldl_cons]
section
variable {X:Cx}{ah:List (Addr×Obj)}{σ:St}{H:Hp}{s:Shared}{l b:Addr}{xs ys zs:List V}
theorem Inv.Xf {ay its':List Value}{n:Nat}{f:Array Value->Array Value}{t':Nat}(I:Inv X ah σ H s)(hH:H l=some (.lst xs))
  (e:s.heap.get? l=some { cls:=.type "list", data:=.seq ay.toArray n }) (hf:f ay.toArray=its'.toArray) (hv:Vals ys its') (hz:ys.length<=sizeLine) :
  Inv X ah σ (upd H l (.lst ys)) { s with heap:=s.heap.update l (Obj.mapSeq f),toks:=t' }:=by
 have q:=PySem.IsL.update e f;rw [hf] at q;refine I.write (x:=l) (e:=l) (by rw [hH];exact trivial) (.inl rfl) (λb' u hb hu=>(Heap.get?_update_other s.heap (Obj.mapSeq f) (Ne.symm hb)).trans hu) ⟨_,q⟩ ?_;exact ⟨hz,its',_,hv,q⟩
theorem Inv.Xg {ay:List Value}{t':Nat}(I:Inv X ah σ H s)(hv:Vals ys ay)(hz:ys.length<=sizeLine) :
  Inv X ah σ (upd H s.heap.objs.size (.lst ys)) { s with heap:=s.heap.push { cls:=.type "list", data:=.seq ay.toArray },toks:=t' }:=
 I.laid (λ_ _ q=>Heap.get?_push_of_some _ q) (zF _) ⟨hz,ay,0,hv,Heap.get?_push_size _ rfl⟩
theorem Inv.fresh (I:Inv X ah σ H s):H s.heap.objs.size=none:=I.aT.fresh (zF _)
theorem Inv.Mt (I:Inv X ah σ H s)(hH:H l=some (.lst xs)):xs.length<=sizeLine/\∃ (ay:List Value) (n:Nat),Vals xs ay/\xs.length=ay.length/\s.heap.get? l=some { cls:=.type "list", data:=.seq ay.toArray n }:=by obtain ⟨z,ay,n,r,e⟩:=I.aT l _ hH;exact ⟨z,ay,n,r,r.length,e⟩
theorem OJ {n:Nat}(h:n<=sizeLine):Builtin.List.listTooLong n=false:=by unfold Builtin.List.listTooLong;exact decide_eq_false (by omega)
end
section
variable {X:Cx}
def gZ:V->List V->Hp->VK->Prop:=λx vs H Q=>∃ l xs y,x=.ref l/\vs=[y]/\H l=some (.lst xs)/\xs.length < sizeLine/\Q .bZ (upd H l (.lst (xs++[y])))
theorem wY:MtM X "list.append" gZ:=by intro ah s σ H x vs v us Q I rx rv h;obtain ⟨l,xs,y,rfl,rfl,hH,hz,q⟩:=h;cases rx;obtain ⟨u,rfl,ru⟩:=rv.one;obtain ⟨z,ay,n,r,hl,e⟩:=I.Mt hH;refine call_meets F.slot_list_append ⟨_,e,rfl⟩ F.entry_list_append (F.args_list_append_2 _ _) (PySem.list_append l ay.toArray n u (by rw [zQ];omega)) ⟨e,?_⟩;refine ⟨.bZ,_,I.Xf (its':=ay++[u]) hH e (by simp) (r.append (.cons ru .nil)) ?_,rfl,q⟩;rw [zN,zq];omega
def aav:V->List V->Hp->VK->Prop:=λx vs H Q=>∃ l xs y,x=.ref l/\vs=[]/\H l=some (.lst xs)/\xs[xs.length - 1]?=some y/\Q y (upd H l (.lst xs.dropLast))
theorem Ut:MtM X "list.pop" aav:=by
 intro ah s σ H x vs v us Q I rx rv h;obtain ⟨l,xs,y,rfl,rfl,hH,hy,q⟩:=h;cases rx;have hus:=rv.zero;subst hus;obtain ⟨z,ay,n,r,hl,e⟩:=I.Mt hH;obtain ⟨u,hu,ru⟩:=r.get hy;have hy':ay.toArray[ay.toArray.size - 1]?=some u:=by
  show ay.toArray[ay.length - 1]?=some u;rw [<-Array.getElem?_toList,<- hl];exact hu
 refine call_meets F.slot_list_pop ⟨_,e,rfl⟩ F.entry_list_pop (F.args_list_pop_1 _) (MeetsSeq.list_pop_last l ay.toArray n u hy' (by rw [zQ];omega)) ⟨e,?_⟩;refine ⟨y,_,I.Xf (its':=ay.dropLast) hH e ?_ r.dropLast ?_,ru,q⟩
 ·show ay.toArray.eraseIdxIfInBounds (ay.toArray.size - 1)=ay.dropLast.toArray;rw [zQ,List.eraseIdxIfInBounds_toArray,Km]
 ·rw [List.length_dropLast];omega
def WL:R2:=λx y H Q=>∃ l b xs zs,x=.ref l/\y=.ref b/\H l=some (.lst xs)/\H b=some (.lst zs)/\xs.length + zs.length<=sizeLine/\∀ p,H p=none->Q (.ref p) (upd H p (.lst (xs++zs)))
theorem gE:iB X (binaryOp .Add) WL:=by
 intro ah s σ H x y v u Q I rx ry h;obtain ⟨l,b,xs,zs,rfl,rfl,hH,hB,hz,q⟩:=h;cases rx;cases ry;obtain ⟨z,ay,n,r,hl,e⟩:=I.Mt hH;obtain ⟨z2,eZ,n2,r2,rZ,e2⟩:=I.Mt hB;refine PySem.P.add_list e e2 ?_ (by rw [zQ,zQ];omega);have ea:ay.toArray++eZ.toArray=(ay++eZ).toArray:=by simp
 rw [ea];exact ⟨.ref _,_,I.Xg (t':=s.toks) (r.append r2) (by rw [zN];omega),rfl,q _ I.fresh⟩
def aau:R2:=λx y H Q=>∃ l k xs,x=.ref l/\y=.int k/\H l=some (.lst xs)/\-(2 ^ 63)<=k/\k < 2 ^ 63/\xs.length * k.toNat<=sizeLine /\
 ∀ p,H p=none->Q (.ref p) (upd H p (.lst (List.replicate k.toNat xs).flatten))
theorem len_rep {α:Type}(xs:List α)(k:Nat):(List.replicate k xs).flatten.length=k * xs.length:=by
 induction k with
 | zero=>simp
 | succ k ih=>rw [yd,xO,zN,ih,Nat.succ_mul,Nat.add_comm]
theorem Um:iB X (binaryOp .Mult) aau:=by
 intro ah s σ H x y v u Q I rx ry h;obtain ⟨l,k,xs,rfl,rfl,hH,h1,h2,hz,q⟩:=h;cases rx;obtain ⟨t,rfl⟩:=ry;obtain ⟨z,ay,n,r,hl,e⟩:=I.Mt hH;have hlen:ay.toArray.size * k.toNat<=sizeLine:=by rw [zQ,<- hl];exact hz
 have abD:¬ ay.toArray.size * k.toNat > (2 ^ 63 - 1) / 8:=by
  have:(sizeLine:Nat)<=(2 ^ 63 - 1) / 8:=by decide
  omega
 have abw:¬ (!Builtin.List.listFitsIndex k)=true:=by
  rw [fitsIndex_both h1 h2];exact zM
 have XF:¬ Builtin.List.listTooLong (ay.toArray.size * k.toNat)=true:=by
  rw [OJ hlen];exact zM
 have abf:List.foldl (λx1 x2=>x1++x2) #[] (List.replicate (if ay.toArray.isEmpty=true then 0 else k.toNat) ay.toArray)=(List.replicate k.toNat ay).flatten.toArray:=by
  have f0:∀ m:Nat,List.foldl (λx1 x2=>x1++x2) #[] (List.replicate m ay.toArray)=(List.replicate m ay).flatten.toArray:=λm=>by
   have:=foldl_rep ay m [];rw [xJ] at this;exact this
  rw [f0];cases ay with
  | nil=>simp
  | cons a r'=>rw [if_neg (by simp)]
 refine wpAny_binaryOp_repeat_ref (T := "list") (U := "int") (by decide) ⟨_,e,rfl⟩ (λs'=>typeIs_int s' k t) noFill_list_mul F.fills_int_mul F.slot_int_rmul repeat_list F.slot_int_index.lookup
  (call_meets F.slot_int_rmul (typeIs_int s k t) F.entry_int_rmul (F.args_int_rmul_2 _ _) (int___rmul___int_list k t l ay.toArray n)
   ⟨e,rfl,⟨_,e,rfl⟩,call_meets F.slot_list_mul ⟨_,e,rfl⟩ F.entry_list_mul (F.args_list_mul_2 _ _) (AutoListH.list___mul___list_int_3 l ay.toArray n k t abw abD XF) ⟨e,?_⟩⟩)
 rw [abf];exact ⟨.ref _,_,I.Xg (t':=s.toks) (r.rep k.toNat) (by rw [len_rep,Nat.mul_comm];exact hz),rfl,q _ I.fresh⟩
end
section
variable {prog:Program}{w:World}{A:Around}{E:Value->Shared->Prop}{s:Shared}
set_option maxRecDepth 100000 in
end
section
variable {X:Cx}
end
end L2
namespace Att
open PySem PySem.W PySem.Calls PyProof.Rows
theorem lu {P:Params}{h:Heap}:∀ (ns:List Int) (vs:List Value),WellAll P h vs (ns.map WData.int)->IntsAre vs ns:=by
 intro ns;induction ns with
 | nil=>
  intro vs w;rw [yF] at w;cases w;exact .nil
 | cons n ns ih=>
  intro vs w;rw [zd] at w;cases w with
  | cons a b=>
   cases a;exact .cons _ _ (ih _ b)
theorem Mb {l:OpenLaw}{n:Nat}(hn:l.most=some n){P:Params}{h:Heap}{args:List WData}{vals:List Value}
  (RY:l.row.toRowW.claim.pre args=true) (hwl:WellAll P h vals args) :
  ∃ a vs ns,vals=[Value.ref a]/\args=[WData.list (ns.map WData.int)]/\h.get? a=some { cls:=.type "list", data:=.seq vs.toArray }/\IntsAre vs ns/\ns.length<=n:=by
 have hsh:WShape.hasAll [] args [.list .int]=true:=(pre_splitW RY).1;have hc:l.pre.holds [] { args:=args }=true:=(pre_splitW RY).2;obtain ⟨d,r,rfl,h1,h2⟩:=hasAllW_cons hsh;obtain rfl:=hasAllW_nil h2;obtain ⟨xs,rfl,h3⟩:=hasW_list h1;obtain ⟨ns,rfl⟩:=items_int h3;have hlen:ns.length<=n:=by
  unfold OpenLaw.pre at hc;have h4:(WTm.not (.lt (.lit (.int (n:Int))) (.len (.arg 0)))).holds [] { args:=[.list (ns.map .int)] }=true:=by
   have h4:=(holds_andW hc).1;rw [hn] at h4;exact h4
  have h5:=condW_of h4 (w_not (w_lt w_lit (w_len_list (w_arg rfl))));rw [zA] at h5;refine xQ λq=>?_;have q':(n:Int) < ((ns.length:Nat):Int):=by omega
  first
   | (rw [decide_eq_true q'] at h5;exact absurd h5 (by decide))
   | (simp at h5;omega)
 cases hwl with
 | cons w1 w2=>
  cases w2;cases w1 with
  | list ho lC=>exact ⟨_,_,ns,rfl,rfl,ho,lu ns _ lC,hlen⟩
theorem Mh (l:OpenLaw)(args:List WData):l.row.toRowW.claim.post args (.bool true) args=true:=
 postW_of (r:=l.row.toRowW) (X:=(true == true))
  (show WShape.has [] (.bool true) .bool=true by first | rfl | decide | simp [WShape.has,WShape.arms,WShape.armsAll])
  (show (WTm.eq .res (.lit (.bool true))).value [] { args:=args,res:=some (.bool true),after:=args }=some (.bool (true == true)) from w_eq_bool (w_res rfl) w_lit) rfl
theorem uy {l:OpenLaw}{n:Nat}{q:Program}{loose:List Str}{XP:(Str->Option Value)->Heap->Prop}{YP:World->Heap->Prop}{d:DefRec}
  (hn:l.most=some n) (XN:d.params.defaults=[])
  (call:∀ (w:World) (cC aN:Shared) (mg mb:Str->Option Value) (fa:Addr) (o:Obj) (pm cd doc:Value) (a:Addr) (vs:List Value) (ns:List Int),
   Ground q loose [] XP w cC mg mb aN.heap->YP w aN.heap ->
   aN.heap.get? fa=some o->o.data=.func (docDef d.name d.params d.body d.scope pm cd doc)->aN.heap.CodeRec cd d.name->mg d.name=some (.ref fa) ->
   aN.heap.get? a=some { cls:=.type "list", data:=.seq vs.toArray }->IntsAre vs ns->ns.length<=n->aN.gens=#[] ->
   codeAny (model l.prog w) callerA (.call (.ref fa) ⟨[.ref a],[]⟩) (λr s'=>r=.ok (.ret (.bool true))/\OldK aN.heap s'.heap/\s'.os=aN.os/\AllBare s'.gens) aN) :
  WalkO q loose XP YP l.row.toRowW d [] (λf vs=>PySem.call f vs):=by
 intro w cC aN mg mb G Y fa o pm cd doc dV kV ho hd mV hD hmg hg args vals as RY af7 hrd hwl hlo;obtain rfl:dV=.none:=Dflts.none hD XN;obtain rfl:kV=.none:=Dflts.noKw hD;obtain ⟨a,vs,ns,rfl,rfl,UQ,hints,hlen⟩:=Mb hn RY hwl;refine enter_call (codeAny_mono (call w cC aN mg mb fa o pm cd doc a vs ns G Y ho (fd_plain hd) mV hmg UQ hints hlen hg) λr s' hq=>?_);obtain ⟨rfl,h2,h3,h4⟩:=hq;exact ⟨.inl ⟨.bool true,.bool true,[],rfl,λ_=>rfl,.bool true,Mh l _,λ_=>⟨List.Pairwise.nil,λ_ hm=>(nomatch hm)⟩⟩,h2,h3,h4⟩
section
variable {prog:Program}{w:World}{A:Around}{E:Value->Shared->Prop}{s:Shared}{K:Frag}
def ledger (h:Heap)(L d:Addr):List (Addr×Obj):=(List.range h.objs.size).filterMap λa=>if a=L\/a=d then none else (h.get? a).map λo=>(a,o)
end
end Att
namespace L2
open PySem PySem.Spec PyProof.Rows
theorem oJ:∀ {vs:List Value}{ns:List Int},IntsAre vs ns->Vals (ns.map V.int) vs
 | _,_,.nil=>.nil
 | _,_,.cons n t h=>.cons ⟨t,rfl⟩ (oJ h)
def jy (s:Stmt):Arguments:=match s with
 | .FunctionDef _ a _ _ _ _ _ _ _ _=>a
 | _=>{ posonlyargs:=[],args:=[],vararg:=none,kwonlyargs:=[],kw_defaults:=[],kwarg:=none,defaults:=[] }
def ak (s:Stmt):List Stmt:=match s with
 | .FunctionDef _ _ b _ _ _ _ _ _ _=>b
 | _=>[]
def aj (s:Stmt):Scope:=match s with
 | .FunctionDef _ _ _ _ _ _ sc _ _ _=>sc
 | _=>{ kind:=.function,names:=[],isGenerator:=false,isCoroutine:=false }
abbrev Ng:uI:=λ_ _ _ _ _ _=>False
abbrev E0:XK:=λ_ _ _=>False
theorem SD {X:Cx}:Passes Ng X E0:=λ_ _ _ _ _ _ _ h=>h.elim
structure bV (K:PySem.W.Frag) (x qual:Str) (st:Stmt) (f:Addr) (fd:FuncData):Prop where
 ex:∃ (oc:Value) (od:Option Addr) (kV doc pm:Value) (an:Option Addr) (br ct:Value) (Mk:Array (Option Value)),
  fd=yy x qual (jy st) (ak st) (aj st) .none kV doc pm an br ct/\K.lookup f=some ⟨oc,od,.func fd,Mk⟩/\PySem.W.codeIn K br qual=true
 kp:xC K (.ref f)=true
section
variable {P:Program}{w:World}{K:PySem.W.Frag}{mg:Str->Option Value}{base:Heap}
theorem bV.ok {x qual:Str}{st:Stmt}{f:Addr}{fd:FuncData}{N ps:List Str}{k:Nat}{sp:Sp}(F:bV K x qual st f fd)(S:av N ps (aj st))(len:∀ vs H Q E,sp vs H Q E->vs.length=ps.length)
  (dR:∀ (br:Value) (A:Around) (outer:List Env) (s:Shared) (H:Hp) (vs:List V) (Q:VK) (E:XK),cz k (A.deeper (envOfC qual (aj st) s.heap.objs.size f br))->sp vs H Q E ->
   ∃ t,lO (kc Ng P w K mg base N qual (aj st) f br A outer s H E).o9 (ak st) t/\t { nx:=λ_ H'=>Q .bZ H',rt:=Q } (start N vs) H):iC P w K mg base Ng (k + 1) f fd ps sp:=by
 obtain ⟨oc,od,kV,doc,pm,an,br,ct,Mk,rfl,lk,mV⟩:=F.ex;refine Pn lk mV S len λA outer s H vs Q E hr tY=>?_;obtain ⟨t,h,q⟩:=dR br A outer s H vs Q E hr tY;exact ⟨t,h.o9,q⟩
theorem bV.binds {x qual:Str}{st:Stmt}{f:Addr}{fd:FuncData}{ps:List Str}(F:bV K x qual st f fd)
  (h:∀ (kV doc pm:Value) (an:Option Addr) (br ct:Value) (us:List Value),us.length=ps.length->bindArgs (yy x qual (jy st) (ak st) (aj st) .none kV doc pm an br ct) ⟨us,[]⟩=pure (ps.zip us)):Binds K fd ps []:=by
 obtain ⟨oc,od,kV,doc,pm,an,br,ct,Mk,rfl,lk,mV⟩:=F.ex;exact .all (h kV doc pm an br ct)
theorem fun_mk {x qual:Str}{st:Stmt}{f:Addr}{oc:Value}{od an:Option Addr}{Mk:Array (Option Value)}{kV doc pm br ct:Value}(l:K.lookup f=some ⟨oc,od,.func (yy x qual (jy st) (ak st) (aj st) .none kV doc pm an br ct),Mk⟩)
  (c:PySem.W.codeIn K br qual=true) (k:xC K (.ref f)=true):bV K x qual st f (yy x qual (jy st) (ak st) (aj st) .none kV doc pm an br ct):=⟨⟨oc,od,kV,doc,pm,an,br,ct,Mk,rfl,l,c⟩,k⟩
end
section
variable {X:Cx}
theorem pv (i:Nat){x:Str}{pos:Pos}(hN:X.N[i]?=some x:=by rfl)(hv:To X.env.scope x=true:=by rfl)(hd:(x == ("__debug__" : Str))=false:=by decide)
  (mV:(x == ("__classdict__" : Str))=false:=by decide):PE X (.Name x pos) (lV i):=Uh hN (QJ hv) hd mV
end
theorem aaU {A B:Prop}(h:B):if false=true then A else B:=by rw [if_neg zM];exact h
theorem Xm {c A B:Prop}[Decidable c](hc:c)(h:B):if (!decide c)=true then A else B:=by rw [decide_eq_true hc];exact aaU h
def au (H H':Hp):Prop:=∀ b o,H b=some o->H' b=some o
theorem au.refl (H:Hp):au H H:=λ_ _ h=>h
theorem au.trans {H H1 H2:Hp}(a:au H H1)(b:au H1 H2):au H H2:=λc o h=>b c o (a c o h)
theorem au.free {H H':Hp}(e:au H H'){l:Addr}(h:H' l=Option.none):H l=Option.none:=by
 cases q:H l with
 | none=>rfl
 | some o=>
  rw [e l o q] at h;cases h
theorem au.seq {K:PySem.W.Frag}{H H':Hp}{a:Addr}{xs:List V}(e:au H H')(h:aH K H a xs):aH K H' a xs:=by
 rcases h with (h | ⟨o,h⟩) | h
 ·exact .inl (.inl (e _ _ h))
 ·exact .inl (.inr ⟨o,e _ _ h⟩)
 ·exact .inr h
theorem pe {prog:Program}{w:World}{A:Around}{R:Result->Shared->Prop}{s:Shared}{elt target iter:Expr}{ifs:List Expr}{scope:Scope}{pos:Pos}{it acc:Value}{env:Env}(I:Nat->Shared->Prop)
  (turn:∀ n s,I n s->wpAny (model prog w) A (pyNext it) (λr aN=>match r with
   | none=>R (.ok .next) aN
   | some v=>wpAny (model prog w) A (letOwnedTupleGo target it v) (λ_ kH=>wpAny (model prog w) A (assign target env v) (λ_ gh=>
     wpAny (model prog w) A (forIn ifs true λc r=>if r=true then do let ok <- isTrue c env (eval c env);pure (ForInStep.yield ok) else pure (ForInStep.yield r)) (λok jc=>
      if ok=true then wpAny (model prog w) A (eval elt env) (λx sJ=>
       wpAny (model prog w) A (call (.builtin "list.append") [acc,x]) (λ_ sI=>∃ m,m < n/\I m sI) (λ_ _=>False) sJ) (λ_ _=>False) jc
      else ∃ m,m < n/\I m jc) (λ_ _=>False) gh) (λ_ _=>False) kH) (λ_ _=>False) aN) (λ_ _=>False) s)
  (n:Nat) (h:I n s) :
  codeAny (model prog w) A (.compLoop (.ListComp elt [⟨target,iter,ifs,0⟩] scope pos) 0 it acc env) R s:=by
 refine codeAny_loop rfl I (λn s hI=>?_) n h;show wpAny _ A ((compTurn (.ListComp elt [⟨target,iter,ifs,0⟩] scope pos) 0 it acc env).onRaise (λx=>do noteFrame x env;theTreesLotGoes x)) _ _ s;refine wpAny_noted ?_;rw [compTurn_list];refine wpAny_bind (wpAny_standAt (wpAny_bind (wpAny_mono (turn n s hI) (λr aN ck=>?_) λ_ _ h'=>h'.elim)));cases r with
 | none=>exact wpAny_pure ck
 | some v=>
  refine wpAny_bind (wpAny_mono ck (λ_ kH tW=>?_) λ_ _ h'=>h'.elim);refine wpAny_bind (wpAny_mono tW (λ_ gh rj=>wpAny_bind (wpAny_mono rj (λok jc n8=>?_) λ_ _ h'=>h'.elim)) λ_ _ h'=>h'.elim);cases ok with
  | false=>exact wpAny_pure ⟨rfl,n8⟩
  | true=>
   exact wpAny_bind (wpAny_bind (wpAny_mono n8 (λx sJ O4=>wpAny_bind (wpAny_mono O4 (λ_ sI O3=>wpAny_pure (wpAny_pure ⟨rfl,O3⟩)) λ_ _ h'=>h'.elim)) λ_ _ h'=>h'.elim))
def c8 (names:List (Str×NameKind))(env:Env)(cs:List (Str×Addr)):List (Str×Addr):=
 names.foldl (λcs p=>if p.2=.free then (match env.cells.lookup p.1 with | some c=>(p.1,c)::cs | none=>cs) else cs) cs
theorem jA {env:Env}:∀ (names:List (Str×NameKind)) (cs:List (Str×Addr)),(∀ y∈names,y.2=.free->∃ c,env.cells.lookup y.1=some c) ->
  (forIn names cs λx r=>(if (x.2 == NameKind.free)=true then do let a <- cellOf env x.1;pure (ForInStep.yield ((x.1,a)::r)) else pure (ForInStep.yield r):Sem _))=pure (c8 names env cs)
 | [],cs,_=>by simp [c8]
 | (n,k)::r,cs,h=>by
  have ih:=λcs=>jA r cs λy hy=>h y (yA _ hy);simp only [List.forIn_cons];by_cases hk:k=.free
  ·subst hk;obtain ⟨c,e⟩:=h (n,.free) yZ rfl;have e':env.cells.lookup n=some c:=e;have ec:cellOf env n=pure c:=by unfold cellOf;rw [e']
   simp only [beq_self_eq_true,if_true,ec,pure_bind];rw [ih];simp [c8,e']
  ·have hb:(k == NameKind.free)=false:=by simpa using hk
   simp only [hb,zn,if_false,pure_bind];rw [ih];simp [c8,hk]
theorem cP {scope:Scope}{env:Env}(h:∀ y∈scope.names,y.2=.free->∃ c,env.cells.lookup y.1=some c):closureFor scope env=pure (c8 scope.names env []):=by unfold closureFor;have:=jA scope.names [] h;simp only [bind_pure];exact this
theorem uo {env:Env}:∀ (names:List (Str×NameKind)) (cs:List (Str×Addr)) (x:Str) (c:Addr),(x,c)∈c8 names env cs->(x,c)∈cs\/env.cells.lookup x=some c
 | [],cs,x,c,h=>.inl h
 | (n,k)::r,cs,x,c,h=>by
  have h':(x,c)∈c8 r env (if k=.free then (match env.cells.lookup n with | some c=>(n,c)::cs | none=>cs) else cs):=h;rcases uo r _ x c h' with q | q
  ·split at q
   ·cases e:env.cells.lookup n with
    | none=>rw [e] at q;exact .inl q
    | some d=>
     rw [e] at q;rcases zO.mp q with z | z
     ·cases z;exact .inr e
     ·exact .inl z
   ·exact .inl q
  ·exact .inr q
theorem pQ {env:Env}:∀ (names:List (Str×NameKind)) (cs:List (Str×Addr)) (x:Str),(∃ c,(x,c)∈cs)->∃ c,(x,c)∈c8 names env cs
 | [],cs,x,h=>h
 | (n,k)::r,cs,x,⟨c,h⟩=>by
  refine pQ r _ x ?_;dsimp only;split
  ·split
   ·exact ⟨c,yA _ h⟩
   ·exact ⟨c,h⟩
  ·exact ⟨c,h⟩
theorem uq {env:Env}:∀ (names:List (Str×NameKind)) (cs:List (Str×Addr)) (x:Str),(x,NameKind.free)∈names->(∃ c,env.cells.lookup x=some c)->∃ c,(x,c)∈c8 names env cs
 | [],_,_,h,_=>by simp at h
 | (n,k)::r,cs,x,h,⟨c,e⟩=>by
  rcases zO.mp h with z | z
  ·have e1:x=n:=congrArg Prod.fst z;have e2:NameKind.free=k:=congrArg Prod.snd z;subst e1 e2;refine pQ r _ x ⟨c,?_⟩;dsimp only;rw [if_pos rfl,e];exact yZ
  ·exact uq r _ x z ⟨c,e⟩
theorem iI {β:Type}:∀ (l:List (Str×β)) (x:Str) (c:β),(x,c)∈l->∃ d,l.lookup x=some d
 | (n,d)::r,x,c,h=>by
  cases hx:x == n with
  | true=>exact ⟨d,by simp [yK,hx]⟩
  | false=>
   simp only [yK,hx];rcases zO.mp h with z | z
   ·cases z;simp at hx
   ·exact iI r x c z
theorem wL {names:List (Str×NameKind)}{env:Env}{x:Str}{c:Addr}(h:(c8 names env []).lookup x=some c):env.cells.lookup x=some c:=by
 rcases uo names [] x c (zk h) with q | q
 ·simp at q
 ·exact q
theorem iu {names:List (Str×NameKind)}{env:Env}{x:Str}{c:Addr}(h:(x,NameKind.free)∈names)(e:env.cells.lookup x=some c):(c8 names env []).lookup x=some c:=by obtain ⟨d,hd⟩:=uq names [] x h ⟨c,e⟩;obtain ⟨d',R4⟩:=iI _ _ _ hd;have:=wL R4;rw [e] at this;cases this;exact R4
theorem qO {env:Env}:∀ {names:List (Str×NameKind)}{x:Str},names.lookup x=some .free ->
  (names.map λ(n,k)=>if (k == NameKind.free && env.scope.kind == .function && env.kindOf n == some .cell) then (n,NameKind.cell) else (n,k)).lookup x=some .cell \/
  (names.map λ(n,k)=>if (k == NameKind.free && env.scope.kind == .function && env.kindOf n == some .cell) then (n,NameKind.cell) else (n,k)).lookup x=some .free
 | [],_,h=>by simp at h
 | (n,k)::r,x,h=>by
  have ih:=@qO env r x;show List.lookup x ((if (k == NameKind.free && env.scope.kind == .function && env.kindOf n == some .cell)=true then (n,NameKind.cell) else (n,k))::_)=_\/List.lookup x ((if (k == NameKind.free && env.scope.kind == .function && env.kindOf n == some .cell)=true then (n,NameKind.cell) else (n,k))::_)=_;by_cases hc:(k == NameKind.free && env.scope.kind == .function && env.kindOf n == some .cell)=true
  ·rw [if_pos hc];cases hx:x == n with
   | true=>left;simp [yK,hx]
   | false=>
    simp only [yK,hx] at h ⊢;exact ih h
  ·rw [if_neg hc];cases hx:x == n with
   | true=>
    simp only [yK,hx] at h;cases h;right;simp [yK,hx]
   | false=>
    simp only [yK,hx] at h ⊢;exact ih h
structure aK (own:List Str) (caps:List Nat) (N:List Str) (sc scope:Scope):Prop where
 kind:scope.kind=.function
 gF:∀ y∈scope.names,y.2≠.cell
 loc:∀ y∈scope.names,y.2=.local->scope.names.lookup y.1=some .local
 fr:∀ y∈scope.names,y.2=.free->sc.names.lookup y.1=some .cell\/sc.names.lookup y.1=some .free
 cap:∀ i∈caps,i < N.length/\scope.names.lookup ((N[i]?).getD Str.empty)=some .free
def bW (X:Cx)(own:List Str)(caps:List Nat)(scope:Scope)(s:Shared)(H:Hp)(fp:List Addr)(C:Addr):Cx:=
 { X with N:=own++caps.map (λi=>(X.N[i]?).getD Str.empty),cC:=s,uE:=H,env:=compEnvC scope (c8 scope.names X.env []) C X.env,outer:=X.stack,ex:=fp,fn:=λ_=>false,pn:=[],xe:=λ_ _=>False }
def fK (n:Nat)(caps:List Nat)(σ:St):St:=List.replicate n none++caps.map λi=>(σ[i]?).join
section
variable {X:Cx}{ah:List (Addr×Obj)}{σ:St}{H:Hp}{s:Shared}
theorem jv {scope:Scope}{env:Env}(nc:∀ y∈scope.names,y.2≠.cell){x:Str}{k:NameKind}(hk:k=.cell\/k=.free)(h:(relabel scope env).names.lookup x=some k):(x,NameKind.free)∈scope.names:=by
 have hm:=zk h;obtain ⟨⟨n,k0⟩,hy,e⟩:=zS.mp hm;dsimp only at e;split at e
 ·rename_i hc;simp only [zc,beq_iff_eq] at hc;have e1:n=x:=congrArg Prod.fst e;subst e1;rw [hc.1.1] at hy;exact hy
 ·cases e;rcases hk with z | z
  ·subst z;exact absurd rfl (nc _ hy)
  ·subst z;exact hy
theorem mT {own:List Str}{caps:List Nat}{scope:Scope}{fp:List Addr}{D C:Addr}{o:Obj}{h1:Heap}{tk:Nat}(I:Inv X ah σ H s)(S:aK own caps X.N X.env.scope scope)
  (f:∀ b∈fp,gU X ah H b) (fl:∀ b∈fp,b < s.heap.objs.size) (hD:s.heap.objs.size<=D) (hC:s.heap.objs.size<=C) (MM:D≠C) (keep:∀ b o,s.heap.get? b=some o->h1.get? b=some o)
  (R0:h1.Ns C λ_=>none) (vS:h1.get? D=some o) (ho:∀ v,o.data≠.cell v) :
  Inv (bW X own caps scope s H fp C) [(D,o)] (fK own.length caps σ) H { s with heap:=h1,toks:=tk }:=by
 have sub:∀ b∈mZ X.stack,b < s.heap.objs.size:=λb hb=>by
  rcases zO.mp (I.gq b hb) with e | hb
  ·rw [e];exact I.lt
  ·by_cases q:b < s.heap.objs.size
   ·exact q
   ·exact absurd hb (I.WV (xQ q))
 refine ⟨⟨I.ok.mod,S.kind,I.ok.glob,I.ok.blt,hC,λx y c h1 h2=>I.ok.inj x y c (wL h1) (wL h2),λx hx=>?_,λx c z _=>absurd (show false=true from z) zM,I.ok.hd,I.ok.frames,.inl rfl,
   λb hb=>⟨zV (zU (fl b hb) hC),λx c e=>(f b hb).2.2.2.2.1 x c (wL e)⟩,I.bs,z4 I.ok.M9 I.sz,λb ob e hb=>?_,λb hb hs=>?_,I.stack,I.lF⟩,
  rfl,I.bare,Un.kept keep,⟨_,R0,λi x v e1 e2 e3=>?_⟩,λx c e=>?_,I.aT.fresh hC,λx c e=>I.eU x c (wL e),λp hp=>?_,I.aT.kept keep,?_⟩
 ·have hm:(x,NameKind.free)∈scope.names:=by
   rcases hx with hx | hx
   ·exact jv S.gF (.inl rfl) hx
   ·exact jv S.gF (.inr rfl) hx
  obtain ⟨c,hc⟩:=I.ok.has x (S.fr _ hm rfl);exact ⟨c,iu hm hc⟩
 ·rcases (f b hb).2.2.2.1 with z | z
  ·exact I.ok.Mn b ob e z
  ·exact absurd (zU (Heap.lt_size e) (z4 I.ok.M9 z)) (z6 _)
 ·rcases zO.mp (I.gq b hs) with e | e
  ·exact (f b hb).2.1 e
  ·exact (f b hb).2.2.1 e
 ·have Lf:(List.replicate own.length (none:Option V)++caps.map λi=>(σ[i]?).join)[i]?=some (some v):=e2;have Lg:(own++caps.map (λi=>(X.N[i]?).getD Str.empty))[i]?=some x:=e1;have hi:own.length<=i:=by
   by_cases q:i < own.length
   ·rw [zi (by simpa using q),List.getElem?_replicate,if_pos q] at Lf;cases Lf
   ·exact xQ q
  rw [zZ (by simpa using hi),yW,zI] at Lf;rw [zZ hi,zI] at Lg;cases ek:caps[i - own.length]? with
  | none=>rw [ek] at Lg;cases Lg
  | some k=>
   rw [ek] at Lg Lf;have ex:(X.N[k]?).getD Str.empty=x:=Option.some.inj Lg;have ev:(σ[k]?).join=some v:=Option.some.inj Lf;have ev':σ[k]?=some (some v):=by
    cases q:σ[k]? with
    | none=>rw [q] at ev;cases ev
    | some y=>rw [q] at ev;exact congrArg some ev
   obtain ⟨hl,hf⟩:=S.cap k (zC ek);have eN:X.N[k]?=some x:=by
    rw [zJ hl] at ex ⊢;exact congrArg some ex
   rw [ex] at hf;have hm:=zk hf;have Qy:=S.fr _ hm rfl;obtain ⟨m,_,O8⟩:=I.loc;obtain ⟨u,ru,lk⟩:=O8 k x v eN ev' (.inr Qy);refine ⟨u,ru,.inr ⟨qO hf,?_⟩⟩;rcases lk with ⟨kl,_⟩ | ⟨_,c,hc,ob,MH,hd⟩
   ·have RN:X.env.scope.names.lookup x=some .local:=kl;rcases Qy with z | z
    ·have z':X.env.scope.names.lookup x=some .cell:=z;rw [z'] at RN;cases RN
    ·have z':X.env.scope.names.lookup x=some .free:=z;rw [z'] at RN;cases RN
   ·exact ⟨c,iu hm hc,ob,keep c ob MH,hd⟩
 ·obtain ⟨v,ob,MH,hd⟩:=I.cell x c (wL e);exact ⟨v,ob,keep c ob MH,hd⟩
 ·have e:p=(D,o):=by simpa using (show p∈[]++[(D,o)] from hp)
  subst e;refine ⟨vS,I.aT.fresh hD,MM,λz=>?_,ho⟩;exact absurd (zU (sub D z) hD) (z6 _)
 ·show (fK own.length caps σ).length=(own++caps.map (λi=>(X.N[i]?).getD Str.empty)).length;simp [fK]
def Wb (X:Cx)(ifs:List Expr)(t:TT):Prop:=
 ∀ (ah:List (Addr×Obj)) (s:Shared) (σ:St) (H:Hp) (Q:Bool->Hp->Prop),Inv X ah σ H s->t σ H Q ->
  wpAny (model X.prog X.w) X.A (forIn ifs true λc r=>if r=true then do let ok <- isTrue c X.env (eval c X.env);pure (ForInStep.yield ok) else pure (ForInStep.yield r)) (TP X ah σ Q) X.xe s
def LM:TT:=λ_ H Q=>Q true H
theorem ww:Wb X [] LM:=λ_ s σ H Q I h=>wpAny_tests_nil ⟨H,I,h⟩
theorem qm {c:Expr}{t:TT}(h:PT X c t):Wb X [c] t:=λah s σ H Q I q=>wpAny_tests_one (h ah s σ H Q I q)
def Sn (n:Nat)(caps:List Nat)(wi:TI)(g:TG)(tc:TT)(te:TE):TE:=fun σ H Q=>wi σ H λJ H1=>∃ W:Nat->Nat->St->List V->Hp->Prop,(∃ m,W 0 m (fK n caps σ) [] H1)/\∀ i m τ acc H,W i m τ acc H ->
 (J.stop i H/\acc.length<=sizeLine/\∀ p,H p=none->Q (.ref p) (upd H p (.lst acc))) \/
 (J.go i H/\acc.length < sizeLine/\∀ x H',J.nV i H x H'->g x τ H' fun bH H2=>tc bH H2 λb H3=>if b=true then te bH H3 λy H4=>∃ m',m' < m/\W (i + 1) m' bH (acc++[y]) H4 else ∃ m',m' < m/\W (i + 1) m' bH acc H3)
theorem fW.NR {P:Program}{w:World}{H:Hp}{h:Heap}{a:Addr}{o:HO}(x:fW P w H h)(hn:H a=none)(new:bq P w (upd H a o) h a o):fW P w (upd H a o) h:=λb u e=>by
 by_cases hb:b=a
 ·subst hb;rw [xg] at e;cases e;exact new
 ·rw [xq hb] at e;exact (x b u e).dh (λc v _ q=>q) (λc q=>by rw [xq (xj q hn)];exact q) λc xs q=>by rw [xq (xj q hn)];exact q
theorem wx {own:List Str}{caps:List Nat}{elt tg iter:Expr}{ifs:List Expr}{scope:Scope}{pos:Pos}{wi:TI}{g:TG}{tc:TT}{te:TE}(hc:X.calm=true)(S:aK own caps X.N X.env.scope scope)(hi:PI X tg iter wi)
  (hg:∀ s H fp C,PG (bW X own caps scope s H fp C) tg g) (ht:∀ s H fp C,Wb (bW X own caps scope s H fp C) ifs tc) (he:∀ s H fp C,PE (bW X own caps scope s H fp C) elt te)
  (hs:∀ x,foldedSetIterable iter X.env x=pure x:=by intro _;rfl):PE X (.ListComp elt [⟨tg,iter,ifs,0⟩] scope pos) (Sn own.length caps wi g tc te):=by
 intro ah s σ H Q I h;rw [eval_ListComp];refine wpAny_comprehension_free (use:=none) (cl:=c8 scope.names X.env []) rfl hs (cP λy hy e=>I.ok.has y.1 (S.fr y hy e)) S.kind S.loc
  (wpAny_mono (hi ah s σ H _ I h) (λv s1 h1=>aV h1 λXk s2 h2=>?_) λ_ _ e=>e)
 obtain ⟨it,fp,tn,J,H2,e,I2,T,Qo,f2,W,⟨m0,w0⟩,turn⟩:=h2;subst e;refine wpAny_newObj_type (wpAny_newFunctionEnv S.gF (by intro y hy;simp at hy) (λck dQ cD=>?_) S.kind);dsimp only at dQ cD ⊢;generalize Pf:s2.heap.push { cls:=.type "list", dict:=none,data:=.seq ([]:List Value).toArray }=G at dQ cD ⊢;have hG:G.objs.size=s2.heap.objs.size + 1:=by rw [<-Pf,Heap.size_push]
 have MM:s2.heap.objs.size≠G.objs.size:=by rw [hG];exact zV (xE _)
 have MN:s2.heap.objs.size<=G.objs.size:=by rw [hG];exact yV _
 have below:∀ b,b < s2.heap.objs.size->b≠G.objs.size:=λb hb=>by rw [hG];exact zV (yi hb)
 have old:∀ b o,s2.heap.get? b=some o->ck.get? b=some o:=λb o e=>cD.extBut b o (below b (Heap.lt_size e)) (Heap.get?_push_of_some _ (Pf ▸ Heap.get?_push_of_some _ e));have vS:ck.get? s2.heap.objs.size=some { cls:=.type "list", dict:=none,data:=.seq ([]:List Value).toArray }:=cD.extBut _ _ MM (Heap.get?_push_of_some _ (Pf ▸ Heap.get?_push_size _ rfl));have fl:∀ b∈fp,b < s2.heap.objs.size:=λb hb=>let ⟨o,e,_⟩:=T.obj _ _ Qo b hb;Heap.lt_size e;have jr:ck.Ns G.objs.size λ_=>none:=dQ;have I4:=mT (tk:=s2.toks + ([]:List (Str×Value)).length) I2 S f2 fl (zF _) MN MM old jr vS (λv z=>nomatch z);have NU:tn 0 ck:=T.keep _ _ _ Qo λb _ o e=>old b o e;generalize Xx:({ s2 with heap:=ck,toks:=s2.toks + ([]:List (Str×Value)).length }:Shared)=s4 at I4 ⊢;have e4:s4.heap=ck:=by rw [<-Xx]
 rw [<-e4] at NU
 -- LK loop
 have loop:codeAny (model X.prog X.w) X.A (.compLoop (.ListComp elt [⟨tg,iter,ifs,0⟩] scope pos) 0 (.ref it) (.ref s2.heap.objs.size) (compEnvC scope (c8 scope.names X.env []) G.objs.size X.env))
   (compPost (model X.prog X.w) X.A X.xe none (EP X ah σ Q) (.ref s2.heap.objs.size) G.objs.size) s4:=by
  let Y:=bW X own caps scope s2 H2 fp G.objs.size
  have iT:∀ {H':Hp}{ay:List Value}{n:Nat},(∀ b∈fp,H' b=none)->∀ b∈fp,gU Y [(s2.heap.objs.size,({ cls:=.type "list", data:=.seq ay.toArray n }:Obj))] H' b:=λ{H' ay n} hn b hb=>by
   refine ⟨hn b hb,below b (fl b hb),λz=>?_,.inl hb,λx c e=>(f2 b hb).2.2.2.2.1 x c (wL e),λp hp=>?_⟩
   ·rcases zO.mp (I2.gq b z) with e | e
    ·exact (f2 b hb).2.1 e
    ·exact (f2 b hb).2.2.1 e
   ·have e:p=(s2.heap.objs.size,({ cls:=.type "list", data:=.seq ay.toArray n }:Obj)):=by simpa using (show p∈[]++[_] from hp)
    subst e;exact yQ (fl b hb)
  refine pe (λn s'=>∃ i τ acc ay k H',Inv Y [(s2.heap.objs.size,({ cls:=.type "list", data:=.seq ay.toArray k }:Obj))] τ H' s'/\tn i s'.heap/\(∀ b∈fp,H' b=none)/\Vals acc ay/\W i n τ acc H') ?_ m0
   ⟨0,_,[],[],0,H2,I4,NU,λb hb=>(f2 b hb).1,.nil,w0⟩
  rintro n s5 ⟨i,τ,acc,ay,k,H5,I5,Nj,QD,Me,w5⟩;rcases turn i n τ acc H5 w5 with ⟨stop,hz,q⟩ | ⟨go,hz,step⟩
  ·refine aV (T.done Y rfl rfl rfl hc i _ s5 τ H5 (λ_ _=>False) I5 (iT QD) Nj stop) λr s6 ⟨hr,I6⟩=>?_;subst hr;obtain ⟨eD,nD,_,_,_⟩:=I6.pin _ (zE _ (zK.mpr rfl));obtain ⟨m6,XE,_⟩:=I6.loc;refine ⟨m6,XE,λh' rX=>?_⟩;have U4:H5 G.objs.size=none:=I6.free;have eD':h'.get? s2.heap.objs.size=some { cls:=.type "list", data:=.seq ay.toArray k }:=rX.extBut _ _ MM eD;have O6:fW X.prog X.w H5 h':=λb u e=>(I6.aT b u e).dh (λc v hcv qv=>rX.extBut c v (by
     rcases hcv with z | z
     ·subst z;exact xj e U4
     ·exact xj z U4) qv) (λ_ q=>q) λ_ _ q=>q
   refine ⟨.ref s2.heap.objs.size,_,?_,rfl,q _ nD⟩;have ub:=I6.base;refine I2.ur (ch:=fp) (s':={ s6 with heap:=h' }) I6.os ⟨λb o e n' hb hx=>rX.extBut b o (below b (Heap.lt_size e)) (ub.keep b o e n' hb hx),λb o e n' hb hx=>?_,λb o e n' hx=>?_,λb o e hx=>?_,λb xs e=>?_,λb o u e=>?_,λb ps e=>?_⟩
    (O6.NR nD ⟨hz,ay,k,Me,eD'⟩) I6.bare λb hb=>⟨(f2 b hb).2.2.2.1,(f2 b hb).2.1,(f2 b hb).2.2.2.2.1,(f2 b hb).2.2.2.2.2⟩
   ·obtain ⟨sl,e'⟩:=ub.slot b o e n' hb hx;exact ⟨sl,rX.extBut b _ (below b (Heap.lt_size e)) e'⟩
   ·rw [xq (zV (Heap.lt_size e))];exact ub.free b o e n' hx
   ·obtain ⟨o',e'⟩:=ub.there b o e hx;exact ⟨o',rX.extBut b _ (below b (Heap.lt_size e)) e'⟩
   ·have z:=ub.aS b xs e;rw [xq (xj z nD)];exact z
   ·have z:=ub.dZ b o u e;rw [xq (xj z nD)];exact z
   ·obtain ⟨more,z⟩:=ub.dX b ps e;exact ⟨more,by rw [xq (xj z nD)];exact z⟩
  ·refine aV (T.item Y rfl rfl rfl hc i _ s5 τ H5 (λ_ _=>False) I5 (iT QD) Nj go) λr s6 ⟨u,hr,h6⟩=>?_;subst hr;refine aV h6 λ_ s7 ⟨x,H7,I7,r7,y7,LS,X3⟩=>?_;have Yo:=I7.pinned (iT X3) (T.obj _ _ LS);refine aV (hg s2 H2 fp G.objs.size _ s7 τ H7 x u _ Yo r7 (step x H7 y7)) λ_ s8 ⟨uJ,H8,I8,q8⟩=>?_;refine aV (ht s2 H2 fp G.objs.size _ s8 uJ H8 _ I8 q8) λok s9 ⟨H9,I9,q9⟩=>?_
   -- LK iX state behind LK turn
   have back:∀ {s':Shared}{Nz:St}{H':Hp},Inv Y ([(s2.heap.objs.size,({ cls:=.type "list", data:=.seq ay.toArray k }:Obj))]++cZ fp s7.heap) Nz H' s'->(tn (i + 1) s'.heap/\∀ b∈fp,H' b=none):=λ{s' Nz H'} Ib=>
    ⟨T.keep _ _ _ LS λb hb o e=>(Ib.pin (b,o) (zE _ (zE _ (wT hb e)))).1,λb hb=>by
     obtain ⟨o,e,d⟩:=T.obj _ _ LS b hb;exact (Ib.pin (b,o) (zE _ (zE _ (wT hb e)))).2.1⟩
   cases ok with
   | false=>
    obtain ⟨m',ig,w'⟩:=q9;obtain ⟨sb,fb⟩:=back I9;exact ⟨m',ig,i + 1,uJ,acc,ay,k,H9,I9.cB,sb,fb,Me,w'⟩
   | true=>
    refine aV (he s2 H2 fp G.objs.size _ s9 uJ H9 _ I9 q9) λy iV ⟨yv,rT,Vz,r10,q10⟩=>?_;obtain ⟨m',ig,w'⟩:=q10;obtain ⟨sb,fb⟩:=back Vz;obtain ⟨eD,nD,Qt,WW,_⟩:=Vz.pin (s2.heap.objs.size,_) (zE _ (zT _ (zK.mpr rfl)));have hl:acc.length=ay.length:=Me.length;refine call_meets F.slot_list_append ⟨_,eD,rfl⟩ F.entry_list_append (F.args_list_append_2 _ _) (PySem.list_append s2.heap.objs.size ay.toArray k y (by rw [zQ];omega)) ⟨eD,?_⟩;have q:=PySem.IsL.update eD (λa:Array Value=>a.push y);have Iu:Inv Y [] uJ rT iV:=Vz.bP λp hp=>nomatch hp;have It:=Iu.turned (t':=iV.toks) (it:=s2.heap.objs.size) (h':=iV.heap.update s2.heap.objs.size (Obj.mapSeq (λa:Array Value=>a.push y))) (λb o hb e=>(Heap.get?_update_other iV.heap _ (Ne.symm hb)).trans e) nD Qt (.inr (zF _))
     (λx c e z=>by
      obtain ⟨v,ob,MH,_⟩:=I2.cell x c (wL e);exact absurd (Heap.lt_size MH) (by rw [z];exact z6 _)) (λp hp=>nomatch hp)
    have Yn:=It.bP (eO:=[(s2.heap.objs.size,({ cls:=.type "list", data:=.seq (ay++[y]).toArray (k + 1) }:Obj))]) λp hp=>by
     have e:p=_:=zK.mp hp;subst e;exact ⟨by simpa using q,nD,Qt,WW,λv z=>nomatch z⟩
    refine ⟨m',ig,i + 1,uJ,acc++[yv],ay++[y],_,rT,Yn,T.keep _ _ _ sb λb hb o e=>(Heap.get?_update_other iV.heap _ (yQ (fl b hb))).trans e,fb,Me.append (.cons r10 .nil),w'⟩
 exact codeAny_compStart_list loop (T.self _ 0 s4 _ _ NU loop)
end
open AutoSeq1 (wpAny_loadPart')
section
variable {prog:Program}{w:World}{A:Around}{E:Value->Shared->Prop}{s:Shared}
theorem Uq {it t:Addr}{i:Nat}{items}{x:Value}{Q:Value->Shared->Prop}(hit:s.heap.IsTupleIter it t i)(ht:s.heap.IsTuple t items)(hx:items[i]?=some x)
  (hQ:∀ h',h'.IsTupleIter it t (i + 1)->Heap.SameBut it s.heap h'->Q x { s with heap:=h' }):wpAny (model prog w) A (Builtin.SmallTypes.nextOf (.ref it)) Q E s:=by
 have ty:=hit.typeIs (s:=s);obtain ⟨o,ho,hc,hd⟩:=hit;obtain ⟨ot,hot,_,n,hdt⟩:=ht;have new:=hQ _ ⟨_,Heap.get?_update_self (Obj.mapFields (·.set! 1 (rawInt (i + 1)))) ho (Obj.isFreed_of_fields (Obj.data_mapFields hd _)),(Obj.cls_mapFields ..).trans hc,by rw [Obj.data_mapFields hd];simp [rawInt]⟩ (Heap.SameBut.update ..);unfold Builtin.SmallTypes.nextOf;refine wpAny_bind (wpAny_callSpecial?_slot ty F.slot_tuple_iterator_next (wpAny_call_entry F.slot_tuple_iterator_next ty F.entry_tuple_iterator_next ?_ (F.args_tuple_iterator_next_1 _)));unfold Builtin.«tuple_iterator.__next__»;wp_walk using wpAny_field ho hd (x:=.ref t) rfl,wpAny_field ho hd (x:=.int i 0) rfl,wpAny_seqItems hot hdt;simp only [zu,hx];wp_walk using wpAny_setField ho hd (by simp);exact ⟨x,rfl,wpAny_pure new⟩
theorem K1 {it t:Addr}{i:Nat}{items}{Q:Value->Shared->Prop}(hh:A.handled=none)(hit:s.heap.IsTupleIter it t i)(ht:s.heap.IsTuple t items)(hx:items[i]?=none)
  (hE:∀ h' e,Heap.ExtBut it s.heap h'->(∃ o,h'.get? e=some o/\o.cls=.type "StopIteration")->E (.ref e) { s with heap:=h' }):wpAny (model prog w) A (Builtin.SmallTypes.nextOf (.ref it)) Q E s:=by
 have ty:=hit.typeIs (s:=s);obtain ⟨o,ho,hc,hd⟩:=hit;obtain ⟨ot,hot,_,n,hdt⟩:=ht;have hh1:A.in1.handled=none:=hh;unfold Builtin.SmallTypes.nextOf;refine wpAny_bind (wpAny_callSpecial?_slot ty F.slot_tuple_iterator_next (wpAny_call_entry F.slot_tuple_iterator_next ty F.entry_tuple_iterator_next ?_ (F.args_tuple_iterator_next_1 _)));unfold Builtin.«tuple_iterator.__next__»;wp_walk using wpAny_field ho hd (x:=.ref t) rfl,wpAny_field ho hd (x:=.int i 0) rfl,wpAny_seqItems hot hdt;simp only [zu,hx];wp_walk using wpAny_setField ho hd (by simp);simp only [raiseNew];refine wpAny_bind (wpAny_handled ?_);rw [hh1];exact wpAny_bind (wpAny_pure (wpAny_throw (hE _ _ (((Heap.SameBut.update ..).extBut.push _).push _) ⟨_,Heap.get?_push_size _ rfl,rfl⟩)))
end
theorem Vk {prog:Program}{w:World}{A:Around}(hh:A.handled=none)(it t:Addr)(n9:t≠it)(items:Array Value) :
  Draws prog w A it [it,t] items.size (λi v=>items[i]?=some v) (λi h=>h.IsTupleIter it t i/\h.IsTuple t items) where
 live:=λ_ _ st=>let ⟨⟨o,ho,_⟩,_⟩:=st;⟨o,ho⟩
 frame:=λ_ _ _ st hk=>let ⟨⟨o,ho,r⟩,o',vR,r'⟩:=st;⟨⟨o,hk it (by simp) o ho,r⟩,o',hk t (by simp) o' vR,r'⟩
 item:=λi s Q E hi st hQ=>Uq st.1 st.2 (Array.getElem?_eq_getElem hi) λh' a b=>hQ _ h' s.toks (Array.getElem?_eq_getElem hi) ⟨a,st.2.extBut b.extBut n9⟩ b
 done:=λs Q E st hE=>K1 hh st.1 st.2 (Array.getElem?_eq_none (zF _)) hE
theorem Vl {prog:Program}{w:World}{A:Around}(hh:A.handled=none)(it t:Addr)(items:Array Value) :
  Draws prog w A it [it,t] 0 (λ_ _=>False) (λ_ h=>∃ j,h.IsTupleIter it t j/\h.IsTuple t items/\items[j]?=none) where
 live:=λ_ _ st=>let ⟨_,⟨o,ho,_⟩,_⟩:=st;⟨o,ho⟩
 frame:=λ_ _ _ st hk=>let ⟨j,⟨o,ho,r⟩,⟨o',vR,r'⟩,z⟩:=st;⟨j,⟨o,hk it (by simp) o ho,r⟩,⟨o',hk t (by simp) o' vR,r'⟩,z⟩
 item:=λi s Q E hi _ _=>absurd hi (zf _)
 done:=λs Q E st hE=>let ⟨_,a,b,c⟩:=st;K1 hh a b c hE
section
variable {prog:Program}{w:World}{A:Around}{E:Value->Shared->Prop}{s:Shared}
theorem MW (l:Addr)(items:Array Value)(o:Obj) :
  Meets (Builtin.«enumerate.__new__» ⟨[.type "enumerate", .ref l],[]⟩) (λ_ R s=>(s.heap.get? l=some o/\s.heap.IsTuple l items) /\
   R (.ok (.ret (.ref (s.heap.push { cls:=.type "tuple_iterator", data:=.fields #[.ref l,.int 0 0] }).objs.size)))
    { s with heap:=(s.heap.push { cls:=.type "tuple_iterator", data:=.fields #[.ref l,.int 0 0] }).push { cls:=.type "enumerate", data:=.fields #[.none,.bool false,.ref s.heap.objs.size,rawInt 0,.none,.none] } }):=
 .of_wp λprog w A R s ⟨⟨hl,hL⟩,h⟩=>by
  obtain ⟨hp,g,d,tk,os⟩:=s;have afW:=sub_enumerate;wp_walk using wpAny_loadPart' hl;refine wpAny_stack_any λst=>wpAny_pure ?_;split
  ·rename_i c _ _ _ _ _;cases (c == Value.type "enumerate") <;> (wp_walk using wpAny_loadPart' hl,wpAny_pyIter_tuple hL) <;> exact ⟨_,rfl,h⟩
  ·wp_walk using wpAny_loadPart' hl,wpAny_pyIter_tuple hL;exact ⟨_,rfl,h⟩
theorem Kw {l:Addr}{items:Array Value}{Q:Value->Shared->Prop}(hL:s.heap.IsTuple l items)
  (h:∀ h',IsEnum h' (s.heap.objs.size + 1) s.heap.objs.size 0 .none->h'.IsTupleIter s.heap.objs.size l 0 ->
   (∀ b o,s.heap.get? b=some o->h'.get? b=some o)->Q (.ref (s.heap.objs.size + 1)) { s with heap:=h' }) :
  wpAny (model prog w) A (call (.type "enumerate") [.ref l]) Q E s:=by
 obtain ⟨o,hl,_⟩:=id hL;refine callType_new F.called_enumerate (by decide) (F.typeCall_enumerate_1 _) (F.newCall_enumerate_1 _) (λobj=>F.args_object_init_2 obj _) F.entry_enumerate_new (MW l items o) ⟨⟨hl,hL⟩,?_⟩;generalize hG:s.heap.push { cls:=.type "tuple_iterator", data:=.fields #[.ref l,.int 0 0] }=G;have hz:G.objs.size=s.heap.objs.size + 1:=by rw [<-hG,Heap.size_push]
 have hi:G.get? s.heap.objs.size=some { cls:=.type "tuple_iterator", data:=.fields #[.ref l,.int 0 0] }:=by rw [<-hG];exact Heap.get?_push_size _ rfl
 have he:=Heap.get?_push_size G (o:={ cls:=.type "enumerate", data:=.fields #[.none,.bool false,.ref s.heap.objs.size,rawInt 0,.none,.none] }) rfl;rw [hz] at he;show _/\_;rw [hz];exact ⟨⟨_,he,rfl⟩,h _ he ⟨_,Heap.get?_push_of_some _ hi,rfl,rfl⟩ λb o x=>Heap.get?_push_of_some _ (by rw [<-hG];exact Heap.get?_push_of_some _ x)⟩
end
def Qj (K:PySem.W.Frag)(a:Addr):It:=
 ⟨λi H=>∃ xs x,bC K H a xs/\xs[i]?=some x,λi H y H'=>∃ p x,H p=none/\y=.ref p/\H'=upd H p (.tup [.int i,x])/\∀ xs,bC K H a xs->xs[i]?=some x,λi H=>∃ xs,bC K H a xs/\xs.length<=i⟩
theorem uQ {P:Program}{w:World}{K:PySem.W.Frag}{es:List Expr}{k:Nat}{pos:Pos}(a e it:Addr)(n9:e≠it) :
  Turn P w K (.Tuple es k pos) (Qj K a) [e,it] e (λi h=>(∃ old,IsEnum h e it i old)/\h.IsTupleIter it a i) where
 mem:=by simp
 obj:=λi h st b hb=>by
  obtain ⟨⟨old,he⟩,o,hi,c,d⟩:=st;rcases zO.mp hb with z | z
  ·subst z;exact ⟨_,he,λv q=>nomatch q⟩
  ·have z':b=it:=by simpa using z
   subst z';exact ⟨o,hi,λv q=>by rw [d] at q;cases q⟩
 keep:=λi h h' st q=>by
  obtain ⟨⟨old,he⟩,o,hi,r⟩:=st;exact ⟨⟨old,q e (by simp) _ he⟩,o,q it (by simp) o hi,r⟩
 item:=by
  intro X hP hw hK hc i ah s σ H E I hf st hg;subst hP hw hK;obtain ⟨xs,x,hq,hx⟩:=hg;obtain ⟨ay,rv,p,hz⟩:=I.tuple hq;obtain ⟨u,hu,ru⟩:=rv.get hx;obtain ⟨⟨old,he⟩,hi⟩:=st;obtain ⟨e0,e1,e2,e3,e4,e5⟩:=hf e (by simp);obtain ⟨f0,f1,f2,f3,f4,f5⟩:=hf it (by simp);have el:e < s.heap.objs.size:=Heap.lt_size he;have il:it < s.heap.objs.size:=let ⟨_,z,_⟩:=hi;Heap.lt_size z;have ht:s.heap.IsTuple a ay.toArray:=p;have hal:a < s.heap.objs.size:=let ⟨_,z,_⟩:=ht;Heap.lt_size z;have hai:a≠it:=λz=>by
   obtain ⟨o1,z1,c1,_⟩:=ht;obtain ⟨o2,z2,c2,_⟩:=hi;rw [z,z2] at z1;cases z1;rw [c2] at c1;exact absurd (Value.type.inj c1) (by decide)
  have hae:e ∉ [it,a]:=λz=>by
   rcases zO.mp z with z | z
   ·exact n9 z
   ·have z':e=a:=by simpa using z
    obtain ⟨o1,z1,c1,_⟩:=ht;rw [<-z',he] at z1;cases z1;exact absurd (Value.type.inj c1) (by decide)
  refine wpAny_pyNext_enum_itemD (Vk (A:=X.A.in1) (I.ok.hd hc) it a hai ay.toArray) he ⟨hi,ht⟩ (by simpa using (zD.mp hu).1) n9 hae λu1 h1 tk YM ho aa4 hT hsz hk=>?_;have eu:u=u1:=by
   have q:ay.toArray[i]?=some u:=by simpa using hu
   have Xw:ay.toArray[i]?=some u1:=YM;rw [q] at Xw;exact Option.some.inj Xw
  subst eu;have Qx:=aa4.1;refine ⟨_,rfl,?_⟩;refine wpAny_letOwnedTupleGo_enum ho λh2 XM rY=>?_;have j7:Heap.SameBut e h1 h2:=rY;have dw:∀ b o,b≠e->b≠it->s.heap.get? b=some o->h2.get? b=some o:=λb o hb iZ q=>j7.extBut b o hb (hk b o hb iZ q);have S1:h2.get? s.heap.objs.size=some { cls:=.type "tuple", data:=.seq #[.int i tk,u] }:=j7.extBut _ _ (yQ el) hT;have nT:H s.heap.objs.size=none:=I.aT.fresh (zF _);refine ⟨.ref s.heap.objs.size,upd H s.heap.objs.size (.tup [.int i,x]),?_,rfl,⟨_,x,nT,rfl,rfl,λys hy=>by rw [I.oM hy hq];exact hx⟩,⟨⟨u,by simpa using XM⟩,?_⟩,λb hb=>?_⟩
  ·have qx:∀ b,b ∉ [e,it]->b≠e/\b≠it:=λb hb=>⟨λz=>hb (by simp [z]),λz=>hb (by simp [z])⟩;refine Inv.step (s:=s) (h':=h2) (g':=s.gens) (d':=s.drawn) (t':=tk + 1) (ch:=[e,it]) I (λb hb=>?_) (λb o _ _ hb q _=>dw b o (qx b hb).1 (qx b hb).2 q) (λb o _ _ hb q _=>⟨o.slots,dw b o (qx b hb).1 (qx b hb).2 q⟩)
    (λb o _ q n=>by rw [xq (zV (Heap.lt_size q))];exact n) (λb o hb q=>⟨o,dw b o (qx b hb).1 (qx b hb).2 q⟩)
    (λb ys q=>by rw [xq (xj q nT)];exact q) (λb o v q=>by rw [xq (xj q nT)];exact q) (λb ps q=>⟨#[],by rw [xq (xj q nT),q];simp⟩)
    (λm hm=>by
     obtain ⟨o,lE,ep,q,r⟩:=hm;exact ⟨o,lE,ep,dw _ o (Ne.symm e1) (Ne.symm f1) q,r⟩) (λb v q=>?_) I.bare
   ·rcases zO.mp hb with z | z
    ·subst z;exact ⟨e3,e1,e4,e5⟩
    ·have z':b=it:=by simpa using z
     subst z';exact ⟨f3,f1,f4,f5⟩
   ·by_cases hb:b=s.heap.objs.size
    ·subst hb;rw [xg] at q;cases q;exact ⟨⟨by show 2<=sizeLine;rw [sizeLine_eq];decide,λob e=>by rw [S1] at e;cases e;rfl⟩,[.int i tk,u],.cons ⟨_,rfl⟩ (.cons ru .nil),⟨_,S1,rfl,_,rfl⟩⟩
    ·rw [xq hb] at q;refine (I.aT b v q).dh (λc ob hc qc=>dw c ob ?_ ?_ qc) (λc qc=>by rw [xq (xj qc nT)];exact qc) λc ys qc=>by rw [xq (xj qc nT)];exact qc
     ·rcases hc with z | z
      ·subst z;exact xj q e0
      ·exact xj z e0
     ·rcases hc with z | z
      ·subst z;exact xj q f0
      ·exact xj z f0
  ·obtain ⟨o,q,r⟩:=Qx;exact ⟨o,j7.extBut it o (Ne.symm n9) q,r⟩
  ·rcases zO.mp hb with z | z
   ·subst z;rw [xq (zV el)];exact e0
   ·have z':b=it:=by simpa using z
    subst z';rw [xq (zV il)];exact f0
 done:=by
  intro X hP hw hK hc i ah s σ H E I hf st hg;subst hP hw hK;obtain ⟨xs,hq,hx⟩:=hg;obtain ⟨ay,rv,p,hz⟩:=I.tuple hq;obtain ⟨⟨old,he⟩,hi⟩:=st;obtain ⟨f0,f1,f2,f3,f4,f5⟩:=hf it (by simp);have hl:=rv.length;have ht:s.heap.IsTuple a ay.toArray:=p;have hai:a≠it:=λz=>by
   obtain ⟨o1,z1,c1,_⟩:=ht;obtain ⟨o2,z2,c2,_⟩:=hi;rw [z,z2] at z1;cases z1;rw [c2] at c1;exact absurd (Value.type.inj c1) (by decide)
  exact wpAny_pyNext_enum_endD (Vl (A:=X.A.in1) (I.ok.hd hc) it a ay.toArray) he ⟨i,hi,ht,by simp;omega⟩ λh' eb=>⟨rfl,I.turned (t':=s.toks) (λb o hb e=>eb b o hb e) f0 f1 f3 f4 f5⟩
 self:=λ_ _ _ _ _ st h=>let ⟨⟨_,he⟩,_⟩:=st;wpAny_pyIter_enum he h
def UI (K:PySem.W.Frag)(ta:TA):TI:=fun σ H R=>ta σ H λvs H1=>∃ a,vs=[.ref a]/\(∃ xs,bC K H1 a xs)/\R (Qj K a) H1
theorem Ov {X:Cx}{a:Expr}{ta:TA}{p pos mz:Pos}{es:List Expr}{k:Nat}{K:PySem.W.Frag}(hK:X.K=K)(hg:Gl X "enumerate")(hm:X.mg "enumerate" = none)(ha:PA X [a] ta)(hs:starEach [a] X.env=[(false,eval a X.env)]:=by rfl) :
  PI X (.Tuple es k mz) (.Call (.Name "enumerate" p) [a] [] pos) (UI K ta):=by
 subst hK;intro ah s σ H R I h;refine Call_ (dP I hg hm boot_enumerate (zy (aV (ha pos ah s σ H _ I h) λus s1 ⟨vs,H1,I1,r1,q1⟩=>?_) hs rfl));obtain ⟨l,e,⟨xs,hq⟩,q⟩:=q1;subst e;cases r1 with
 | cons r rr=>
  cases rr;cases r;obtain ⟨ay,rv,p,hz⟩:=I1.tuple hq;refine Kw (show s1.heap.IsTuple l ay.toArray from p) λh' he hi hk=>?_;refine wpAny_pyIter_enum he ?_;have I2:Inv X ah σ H1 { s1 with heap:=h' }:=I1.kept (t':=s1.toks) hk;refine ⟨s1.heap.objs.size + 1,[s1.heap.objs.size + 1,s1.heap.objs.size],_,_,H1,rfl,I2,uQ l _ _ (Nat.succ_ne_self _),⟨⟨_,he⟩,hi⟩,λb hb=>?_,q⟩;have iZ:s1.heap.objs.size<=b:=by
   rcases zO.mp hb with z | z
   ·subst z;exact yV _
   ·have z':b=s1.heap.objs.size:=by simpa using z
    subst z';exact zF _
  exact I1.oi iZ (I1.aT.fresh iZ)
def rS (K:PySem.W.Frag)(a:Addr):It:=
 ⟨λi H=>∃ xs x,aH K H a xs/\xs[i]?=some x,λi H y H'=>∃ p x,H p=none/\y=.ref p/\H'=upd H p (.tup [.int i,x])/\∀ xs,aH K H a xs->xs[i]?=some x,λi H=>∃ xs,aH K H a xs/\xs.length<=i⟩
theorem uR {P:Program}{w:World}{K:PySem.W.Frag}{es:List Expr}{k:Nat}{pos:Pos}(a e it:Addr)(n9:e≠it) :
  Turn P w K (.Tuple es k pos) (rS K a) [e,it] e (λi h=>(∃ old,IsEnum h e it i old)/\h.IsListIter it a i) where
 mem:=by simp
 obj:=λi h st b hb=>by
  obtain ⟨⟨old,he⟩,o,hi,c,d⟩:=st;rcases zO.mp hb with z | z
  ·subst z;exact ⟨_,he,λv q=>nomatch q⟩
  ·have z':b=it:=by simpa using z
   subst z';exact ⟨o,hi,λv q=>by rw [d] at q;cases q⟩
 keep:=λi h h' st q=>by
  obtain ⟨⟨old,he⟩,o,hi,r⟩:=st;exact ⟨⟨old,q e (by simp) _ he⟩,o,q it (by simp) o hi,r⟩
 item:=by
  intro X hP hw hK hc i ah s σ H E I hf st hg;subst hP hw hK;obtain ⟨xs,x,hq,hx⟩:=hg;obtain ⟨ay,rv,p,hz⟩:=I.list hq;obtain ⟨u,hu,ru⟩:=rv.get hx;obtain ⟨⟨old,he⟩,hi⟩:=st;obtain ⟨e0,e1,e2,e3,e4,e5⟩:=hf e (by simp);obtain ⟨f0,f1,f2,f3,f4,f5⟩:=hf it (by simp);have el:e < s.heap.objs.size:=Heap.lt_size he;have il:it < s.heap.objs.size:=let ⟨_,z,_⟩:=hi;Heap.lt_size z;refine wpAny_pyNext_enum_item he hi p.isList (x:=u) (by simpa using hu) n9 λh1 ho Qx hT hsz hk=>?_;obtain ⟨tk,YN⟩:∃ tk,tk=s.toks:=⟨_,rfl⟩;rw [<-YN] at hT ⊢;refine ⟨_,rfl,?_⟩;refine wpAny_letOwnedTupleGo_enum ho λh2 XM rY=>?_;have j7:Heap.SameBut e h1 h2:=rY;have dw:∀ b o,b≠e->b≠it->s.heap.get? b=some o->h2.get? b=some o:=λb o hb iZ q=>j7.extBut b o hb (hk b o hb iZ q);have S1:h2.get? s.heap.objs.size=some { cls:=.type "tuple", data:=.seq #[.int i tk,u] }:=j7.extBut _ _ (yQ el) hT;have nT:H s.heap.objs.size=none:=I.aT.fresh (zF _);refine ⟨.ref s.heap.objs.size,upd H s.heap.objs.size (.tup [.int i,x]),?_,rfl,⟨_,x,nT,rfl,rfl,λys hy=>by rw [I.jm hy hq];exact hx⟩,⟨⟨u,by simpa using XM⟩,?_⟩,λb hb=>?_⟩
  ·have qx:∀ b,b ∉ [e,it]->b≠e/\b≠it:=λb hb=>⟨λz=>hb (by simp [z]),λz=>hb (by simp [z])⟩;refine Inv.step (s:=s) (h':=h2) (g':=s.gens) (d':=s.drawn) (t':=tk + 1) (ch:=[e,it]) I (λb hb=>?_) (λb o _ _ hb q _=>dw b o (qx b hb).1 (qx b hb).2 q) (λb o _ _ hb q _=>⟨o.slots,dw b o (qx b hb).1 (qx b hb).2 q⟩)
    (λb o _ q n=>by rw [xq (zV (Heap.lt_size q))];exact n) (λb o hb q=>⟨o,dw b o (qx b hb).1 (qx b hb).2 q⟩)
    (λb ys q=>by rw [xq (xj q nT)];exact q) (λb o v q=>by rw [xq (xj q nT)];exact q) (λb ps q=>⟨#[],by rw [xq (xj q nT),q];simp⟩)
    (λm hm=>by
     obtain ⟨o,lE,ep,q,r⟩:=hm;exact ⟨o,lE,ep,dw _ o (Ne.symm e1) (Ne.symm f1) q,r⟩) (λb v q=>?_) I.bare
   ·rcases zO.mp hb with z | z
    ·subst z;exact ⟨e3,e1,e4,e5⟩
    ·have z':b=it:=by simpa using z
     subst z';exact ⟨f3,f1,f4,f5⟩
   ·by_cases hb:b=s.heap.objs.size
    ·subst hb;rw [xg] at q;cases q;exact ⟨⟨by show 2<=sizeLine;rw [sizeLine_eq];decide,λob e=>by rw [S1] at e;cases e;rfl⟩,[.int i tk,u],.cons ⟨_,rfl⟩ (.cons ru .nil),⟨_,S1,rfl,_,rfl⟩⟩
    ·rw [xq hb] at q;refine (I.aT b v q).dh (λc ob hc qc=>dw c ob ?_ ?_ qc) (λc qc=>by rw [xq (xj qc nT)];exact qc) λc ys qc=>by rw [xq (xj qc nT)];exact qc
     ·rcases hc with z | z
      ·subst z;exact xj q e0
      ·exact xj z e0
     ·rcases hc with z | z
      ·subst z;exact xj q f0
      ·exact xj z f0
  ·obtain ⟨o,q,r⟩:=Qx;exact ⟨o,j7.extBut it o (Ne.symm n9) q,r⟩
  ·rcases zO.mp hb with z | z
   ·subst z;rw [xq (zV el)];exact e0
   ·have z':b=it:=by simpa using z
    subst z';rw [xq (zV il)];exact f0
 done:=by
  intro X hP hw hK hc i ah s σ H E I hf st hg;subst hP hw hK;obtain ⟨xs,hq,hx⟩:=hg;obtain ⟨ay,rv,p,hz⟩:=I.list hq;obtain ⟨⟨old,he⟩,hi⟩:=st;obtain ⟨f0,f1,f2,f3,f4,f5⟩:=hf it (by simp);have hl:=rv.length;exact wpAny_pyNext_enum_end (I.ok.hd hc) he hi p.isList (by simp;omega) λh' eb=>⟨rfl,I.turned (t':=s.toks) (λb o hb e=>eb b o hb e) f0 f1 f3 f4 f5⟩
 self:=λ_ _ _ _ _ st h=>let ⟨⟨_,he⟩,_⟩:=st;wpAny_pyIter_enum he h
def UJ (K:PySem.W.Frag)(ta:TA):TI:=fun σ H R=>ta σ H λvs H1=>∃ a,vs=[.ref a]/\(∃ xs,aH K H1 a xs)/\R (rS K a) H1
theorem fm {X:Cx}{a:Expr}{ta:TA}{p pos mz:Pos}{es:List Expr}{k:Nat}{K:PySem.W.Frag}(hK:X.K=K)(hg:Gl X "enumerate")(hm:X.mg "enumerate" = none)(ha:PA X [a] ta)(hs:starEach [a] X.env=[(false,eval a X.env)]:=by rfl) :
  PI X (.Tuple es k mz) (.Call (.Name "enumerate" p) [a] [] pos) (UJ K ta):=by
 subst hK;intro ah s σ H R I h;refine Call_ (dP I hg hm boot_enumerate (zy (aV (ha pos ah s σ H _ I h) λus s1 ⟨vs,H1,I1,r1,q1⟩=>?_) hs rfl));obtain ⟨l,e,⟨xs,hq⟩,q⟩:=q1;subst e;cases r1 with
 | cons r rr=>
  cases rr;cases r;obtain ⟨ay,rv,p,hz⟩:=I1.list hq;refine call_enumerate_list p.isList λh' he hi hsz hk=>?_;refine wpAny_pyIter_enum he ?_;have I2:Inv X ah σ H1 { s1 with heap:=h' }:=I1.kept (t':=s1.toks) hk;refine ⟨s1.heap.objs.size + 1,[s1.heap.objs.size + 1,s1.heap.objs.size],_,_,H1,rfl,I2,uR l _ _ (Nat.succ_ne_self _),⟨⟨_,he⟩,hi⟩,λb hb=>?_,q⟩;have iZ:s1.heap.objs.size<=b:=by
   rcases zO.mp hb with z | z
   ·subst z;exact yV _
   ·have z':b=s1.heap.objs.size:=by simpa using z
    subst z';exact zF _
  exact I1.oi iZ (I1.aT.fresh iZ)
def gX (H:Hp):V->Option String
 | .bZ=>some "NoneType"
 | .bl _=>some "bool"
 | .int _=>some "int"
 | .str _=>some "str"
 | .ref a=>match H a with
  | some (.lst _)=>some "list"
  | some (.nW _ (.lst _))=>some "list"
  | some (.tup _)=>some "tuple"
  | some (.dK _)=>some "dict"
  | _=>none
 | _=>none
theorem Tq {K:PySem.W.Frag}{H:Hp}{x:V}{t:String}(h:gX H x=some t):kE K H x (.type t):=by
 cases x with
 | bZ=>cases h;exact .bZ
 | bl b=>cases h;exact .bl b
 | int i=>cases h;exact .int i
 | str x=>cases h;exact .str x
 | ref a=>
  unfold gX at h;dsimp only at h;split at h
  ·rename_i e;cases h;exact .lst e
  ·rename_i e;cases h;exact .nW e
  ·rename_i e;cases h;exact .tup e
  ·rename_i e;cases h;exact .dK e
  ·cases h
 | _=>cases h
theorem fH {H:Hp}{x:V}{t:String}(h:gX H x=some t):t = "NoneType" \/ t = "bool" \/ t = "int" \/ t = "str" \/ t = "list" \/ t = "tuple" \/ t = "dict" := by
 cases x with
 | ref a=>
  unfold gX at h;dsimp only at h;split at h <;> cases h <;> simp
 | _=>cases h <;> simp
def tR (t T:String):Bool:=t == T || (t == "bool" && T == "int")
theorem Uz {K:PySem.W.Frag}{t T:String}(h:t = "NoneType" \/ t = "bool" \/ t = "int" \/ t = "str" \/ t = "list" \/ t = "tuple" \/ t = "dict")(hT:T = "int" \/ T = "bool" \/ T = "list" \/ T = "tuple"):zR K (.type t) (.type T)=some (tR t T):=by rcases h with rfl | rfl | rfl | rfl | rfl | rfl | rfl <;> rcases hT with rfl | rfl | rfl | rfl <;> first | rfl | decide +kernel
section
variable {X:Cx}
theorem wf:dU X (.builtin "isinstance") (λxs H Q=>∃ x t T,xs=[x,.ty T]/\gX H x=some t/\(T = "int" \/ T = "bool" \/ T = "list" \/ T = "tuple")/\Q (.bl (tR t T)) H):=by intro ah s σ H xs us Q I r h;obtain ⟨x,t,T,rfl,ht,hT,q⟩:=h;obtain ⟨u,w',rfl,r1,r2⟩:=vals2 r;cases r2;exact MD I r1 (Tq ht) (Uz (fH ht) hT) λtk=>⟨.bl _,H,I.tok tk,rfl,q⟩
theorem cS:iB X (binaryOp .FloorDiv) (rI (λ_ j=>0 < j/\j < 2 ^ 200) λi j=>.int (i / j)):=WQ λi j _ _ _ _ _ hc q=>by
 have e:i.fdiv j=i / j:=Int.fdiv_eq_ediv_of_nonneg _ (by omega);rw [<-e] at q;refine floordiv_int (by omega) q (.inl (PyProof.noPylong_of_log2 ?_));have h0:j.natAbs≠0:=by omega
 have h1:j.natAbs < 2 ^ 200:=by omega
 have:=(Nat.log2_lt h0).mpr h1;omega
theorem OF (hu:X.A.units + 64 < cLine):iB X (compareOp .NotEq) (λx y H Q=>∃ a b xs,x=.ref a/\y=.ref b/\aH X.K H a xs/\aH X.K H b []/\Q (.bl (!xs.isEmpty)) H):=by
 intro ah s σ H x y v u Q I rx ry h;obtain ⟨a,b,xs,rfl,rfl,ha,hb,q⟩:=h;cases rx;cases ry;obtain ⟨ay,r,p,_⟩:=I.list ha;obtain ⟨eZ,r2,p2,_⟩:=I.list hb;cases r2;cases r with
 | nil=>exact SeqAt.RcNeAt.lists (e:=λ_=>true) p.isList p2.isList rfl (by omega) (λj h1=>absurd h1 (zf _)) _ _ _ _ ⟨.bl _,H,I,rfl,q⟩
 | cons r1 rr=>exact SeqAt.RcNeAt.lists_lengths p.isList p2.isList (by simp) (by omega) _ _ _ _ ⟨.bl _,H,I,rfl,q⟩
theorem Mm (hu:X.A.units + 64 < cLine):iB X (compareOp .Eq) (λx y H Q=>∃ a b xs,x=.ref a/\y=.ref b/\bC X.K H a xs/\bC X.K H b []/\Q (.bl xs.isEmpty) H):=by
 intro ah s σ H x y v u Q I rx ry h;obtain ⟨a,b,xs,rfl,rfl,ha,hb,q⟩:=h;cases rx;cases ry;obtain ⟨ay,r,p,_⟩:=I.tuple ha;obtain ⟨eZ,r2,p2,_⟩:=I.tuple hb;cases r2;have q':Q (.bl ((List.range (min ay.toArray.size ([]:List Value).toArray.size)).all (λ_=>true) && ay.toArray.size == ([]:List Value).toArray.size)) H:=by
  cases r with
  | nil=>simpa using q
  | cons r1 rr=>simpa using q
 exact SeqAt.RcAt.tuples (e:=λ_=>true) p p2 (by omega) (λj h1 h2=>absurd h2 (zf _)) _ _ _ _ ⟨.bl _,H,I,rfl,q'⟩
variable {K:PySem.W.Frag}
theorem wI {es:List Expr}{k:Nat}{t:QF}{n:Nat}{pos:Pos}(hK:X.K=K)(hc:X.calm=true)(h:Wc X es t)
  (hn:(assignEach es X.env).length=n:=by rfl) (vN:(assignEach es X.env).findIdx? (·.1)=none:=by rfl):PG X (.Tuple es k pos) (vW K n t):=by subst hK;exact Ug hc h hn vN
theorem wU {tg l:Expr}{tl:TE}(hK:X.K=K)(hl:PE X l tl):PI X tg l (SM K tl):=by subst hK;exact Rp hl
theorem sY {tg l:Expr}{tl:TE}(hK:X.K=K)(hl:PE X l tl):PI X tg l (Xo K tl):=by subst hK;exact Ue hl
theorem xx (hK:X.K=K):Yl X (sS K):=by subst hK;exact RP
theorem wE (hK:X.K=K):Yl X (ql K):=by subst hK;exact UE
theorem jd (hK:X.K=K):Ye X (WK K):=by subst hK;exact Rc
theorem qj (hK:X.K=K):Ye X (WJ K):=by subst hK;exact T8
theorem fP (hK:X.K=K):iB X (compareOp .In) (rIn K false):=by subst hK;exact Ml
theorem xw (hK:X.K=K):dU X (.builtin "len") (λxs H Q=>∃ p ys,xs=[.ref p]/\(aH K H p ys\/bC K H p ys)/\Q (.int ys.length) H):=by subst hK;exact rM
theorem oz (hK:X.K=K):dU X (.type "list") (λxs H Q=>∃ p ys,xs=[.ref p]/\(aH K H p ys\/bC K H p ys)/\∀ l,H l=none->Q (.ref l) (upd H l (.lst ys))):=by subst hK;exact rL
end
theorem Pg {X:Cx}{K:PySem.W.Frag}(hK:X.K=K):Yh X (λo i H Q=>∃ p xs v,∃ k:Nat,o=.ref p/\i=.int k/\aH K H p xs/\xs[k]?=some v/\Q v H):=by subst hK;intro ah s σ H o i ov iv Q I ro ri h;obtain ⟨p,xs,v,k,rfl,rfl,hq,hv,q⟩:=h;cases ro;obtain ⟨t,rfl⟩:=ri;obtain ⟨ay,r,pl,hz⟩:=I.list hq;obtain ⟨w,ew,Mc⟩:=r.get hv;have hk:k < xs.length:=(zD.mp hv).1;have hn:=j4;exact wpAny_getItem_list pl.isList (by omega) (by omega) (by simpa using ew) ⟨v,H,I,Mc,q⟩
end L2
namespace aQ
open PySem PySem.W PyProof.Rows
def gb {α:Type}(n:Nat)(c:Nat->Nat->Bool):KasT α->(α->Prop)->Prop
 | .ret a,P=>P a
 | .ask i j k,P=>i < n/\j < n/\gb n c (k (c i j)) P
theorem gb.bind {α β:Type}{n:Nat}{c:Nat->Nat->Bool}{f:α->KasT β}{P:β->Prop}:∀ (t:KasT α),gb n c t (λa=>gb n c (f a) P)->gb n c (t.bind f) P
 | .ret a,h=>h
 | .ask i j k,h=>⟨h.1,h.2.1,gb.bind (k (c i j)) h.2.2⟩
theorem gb.mono {α:Type}{n:Nat}{c:Nat->Nat->Bool}{P P':α->Prop}(hp:∀ a,P a->P' a):∀ (t:KasT α),gb n c t P->gb n c t P'
 | .ret a,h=>hp a h
 | .ask i j k,h=>⟨h.1,h.2.1,gb.mono hp (k (c i j)) h.2.2⟩
theorem gb.wp {α:Type}{n:Nat}{c:Nat->Nat->Bool}{P:α->Prop}{Q:α->Shared->Prop}{cmp:Nat->Nat->(Bool->Shared->Prop)->Shared->Prop}{s:Shared}
  (hc:∀ i j C,i < n->j < n->C (c i j) s->cmp i j C s) (hq:∀ a,P a->Q a s):∀ (t:KasT α),gb n c t P->t.kasWp cmp Q s
 | .ret a,h=>hq a h
 | .ask i j k,h=>hc i j _ h.1 h.2.1 (gb.wp hc hq (k (c i j)) h.2.2)
section
variable {n:Nat}{f:Nat->Int}
def at' (p:Array Nat)(i:Nat):Nat:=(p[i]?).getD 0
theorem getD_at (p:Array Nat)(i:Nat):p.getD i 0=at' p i:=by unfold at';simp
def g (f:Nat->Int)(p:Array Nat)(i:Nat):Int:=f (at' p i)
def Pm (n:Nat)(p:Array Nat):Prop:=p.Perm (List.toArray (List.range n))
theorem Pm.size {p:Array Nat}(h:Pm n p):p.size=n:=by rw [Array.Perm.size_eq h];simp
theorem Pm.lt {p:Array Nat}(h:Pm n p){i:Nat}(hi:i < n):at' p i < n:=by
 have hs:=h.size;have e:at' p i=p[i]'(by omega):=by unfold at';simp [hs,hi]
 have hm:p[i]'(by omega)∈p:=Array.getElem_mem _;have ig:=(Array.Perm.mem_iff h).mp hm;rw [e];simpa using ig
theorem Pm.rev {p:Array Nat}(h:Pm n p)(i j:Nat):Pm n (kas_rev p i j):=(mirror_perm p i j _).trans h
theorem Pm.bub {p:Array Nat}(h:Pm n p)(k d:Nat):Pm n (bubble p k d):=(bubble_perm p k d).trans h
theorem Lb {p:Array Nat}{i j:Nat}(hj:j<=p.size)(k:Nat):g f (kas_rev p i j) k=if i<=k/\k < j then g f p (i + j - 1 - k) else g f p k:=by unfold g at' kas_rev;rw [getElem?_mirror_all hj k];split <;> rfl
theorem S4 {p:Array Nat}{src d:Nat}(hs:src < p.size)(hd:d<=src)(k:Nat):g f (bubble p src d) k=if k=src - d then g f p src else if src - d < k/\k<=src then g f p (k - 1) else g f p k:=by
 unfold g at';rw [getElem?_bubble hs d hd k];split
 ·rfl
 ·split <;> rfl
def Up (f:Nat->Int)(p:Array Nat)(k:Nat):Prop:=∀ i j,i<=j->j < k->g f p i<=g f p j
def Dn (f:Nat->Int)(p:Array Nat)(k:Nat):Prop:=∀ i j,i<=j->j < k->g f p j<=g f p i
def cf (f:Nat->Int)(i j:Nat):Bool:=decide (f i < f j)
theorem Kz {p:Array Nat}(hp:Pm n p):∀ (q m:Nat),1<=m->m + q<=n->Up f p m->gb n (cf f) (kas_asc p q m) (λm'=>m<=m'/\m'<=m + q/\Up f p m'/\(m' < m + q->g f p m' < g f p (m' - 1)))
 | 0,m,_,_,hu=>⟨zF _,zF _,hu,λh=>absurd h (z6 _)⟩
 | q + 1,m,h1,h2,hu=>by
  unfold kas_asc;refine ⟨by rw [getD_at];exact hp.lt (by omega),by rw [getD_at];exact hp.lt (by omega),?_⟩;rw [getD_at,getD_at];by_cases hc:g f p m < g f p (m - 1)
  ·have e:cf f (at' p m) (at' p (m - 1))=true:=decide_eq_true hc;rw [e];dsimp only;rw [if_pos rfl];exact ⟨zF _,by omega,hu,λ_=>hc⟩
  ·have e:cf f (at' p m) (at' p (m - 1))=false:=decide_eq_false hc;rw [e];dsimp only;rw [if_neg zM];refine gb.mono (λm' h=>⟨by omega,by omega,h.2.2.1,λz=>h.2.2.2 (by omega)⟩) _ (Kz hp q (m + 1) (by omega) (by omega) λi j t6 hj=>?_);by_cases UU:j < m
   ·exact hu i j t6 UU
   ·have ej:j=m:=by omega
    subst ej;by_cases hi:i=j
    ·subst hi;omega
    ·have:=hu i (j - 1) (by omega) (by omega);omega
def Zi (f:Nat->Int)(p:Array Nat)(m q:Nat):Prop:=∀ i,m<=i + (q + 1)->i < m->g f p i=g f p (m - 1)
theorem mj {p:Array Nat}(hp:Pm n p){m q:Nat}(hm:m<=n)(hq:q + 1<=m)(hb:Zi f p m q)(k:Nat):g f (kas_rev p (m - (q + 1)) m) k=g f p k:=by
 rw [Lb (by rw [hp.size];exact hm)];split
 ·rename_i h;rw [hb _ (by omega) (by omega),hb k (by omega) (by omega)]
 ·rfl
theorem rH:∀ (t:Nat) (p:Array Nat) (m q:Nat),Pm n p->1<=m->m + t<=n->q + 1<=m->Dn f p m->Zi f p m q ->
  gb n (cf f) (kas_desc t p m q) (λr=>Pm n r.1/\m<=r.2.1/\r.2.1<=n/\r.2.2 + 1<=r.2.1/\Dn f r.1 r.2.1/\Zi f r.1 r.2.1 r.2.2)
 | 0,p,m,q,hp,h1,h2,h3,hd,hb=>⟨hp,zF _,by simpa using h2,h3,hd,hb⟩
 | t + 1,p,m,q,hp,h1,h2,h3,hd,hb=>by
  unfold kas_desc;refine ⟨by rw [getD_at];exact hp.lt (by omega),by rw [getD_at];exact hp.lt (by omega),?_⟩;rw [getD_at,getD_at];by_cases hc:g f p m < g f p (m - 1)
  ·have e:cf f (at' p m) (at' p (m - 1))=true:=decide_eq_true hc;rw [e];dsimp only;rw [if_pos rfl];have step:∀ p':Array Nat,Pm n p'->(∀ k,g f p' k=g f p k)->gb n (cf f) (kas_desc t p' (m + 1) 0) (λr=>Pm n r.1/\m<=r.2.1/\r.2.1<=n/\r.2.2 + 1<=r.2.1/\Dn f r.1 r.2.1/\Zi f r.1 r.2.1 r.2.2):=λp' VX hg=>by
    refine gb.mono (λr h=>⟨h.1,by omega,h.2.2⟩) _ (rH t p' (m + 1) 0 VX (by omega) (by omega) (by omega) (λi j t6 hj=>?_) λi hi f9=>?_)
    ·rw [hg,hg];by_cases UU:j < m
     ·exact hd i j t6 UU
     ·have ej:j=m:=by omega
      subst ej;by_cases hi:i=j
      ·subst hi;omega
      ·have:=hd i (j - 1) (by omega) (by omega);omega
    ·have:i=m + 1 - 1:=by omega
     rw [this]
   split
   ·exact step _ (hp.rev _ _) (mj hp (by omega) h3 hb)
   ·exact step _ hp λ_=>rfl
  ·have e:cf f (at' p m) (at' p (m - 1))=false:=decide_eq_false hc;rw [e];dsimp only;rw [if_neg zM];refine ⟨hp.lt (by omega),hp.lt (by omega),?_⟩;by_cases SX:g f p (m - 1) < g f p m
   ·have e2:cf f (at' p (m - 1)) (at' p m)=true:=decide_eq_true SX;rw [e2];dsimp only;rw [if_pos rfl];exact ⟨hp,zF _,by show m<=n;omega,h3,hd,hb⟩
   ·have e2:cf f (at' p (m - 1)) (at' p m)=false:=decide_eq_false SX;rw [e2];dsimp only;rw [if_neg zM];have eq:g f p m=g f p (m - 1):=by omega
    refine gb.mono (λr h=>⟨h.1,by omega,h.2.2⟩) _ (rH t p (m + 1) (q + 1) hp (by omega) (by omega) (by omega) (λi j t6 hj=>?_) λi hi f9=>?_)
    ·by_cases UU:j < m
     ·exact hd i j t6 UU
     ·have ej:j=m:=by omega
      subst ej;by_cases hi:i=j
      ·subst hi;omega
      ·have:=hd i (j - 1) (by omega) (by omega);omega
    ·rw [show m + 1 - 1=m from rfl];by_cases MJ:i=m
     ·rw [MJ]
     ·rw [hb i (by omega) (by omega),eq]
theorem sF {p:Array Nat}{m:Nat}(hp:Pm n p)(h1:1<=m)(hm:m<=n)(hd:Dn f p m):gb n (cf f) (kas_tail3 m n p) (λr=>Pm n r.2/\r.1<=n/\1<=r.1/\Up f r.2 r.1):=by unfold kas_tail3;have VX:=hp.rev 0 m;refine gb.bind _ (gb.mono (λm' h=>⟨VX,by omega,by omega,h.2.2.1⟩) _ (Kz VX (n - m) m h1 (by omega) λi j t6 hj=>?_));rw [Lb (by rw [hp.size];exact hm),Lb (by rw [hp.size];exact hm),if_pos ⟨by omega,by omega⟩,if_pos ⟨by omega,by omega⟩];exact hd _ _ (by omega) (by omega)
theorem kO {p:Array Nat}{m:Nat}(hp:Pm n p)(h1:1<=m)(hm:m < n)(hd:Dn f p (m + 1)):gb n (cf f) (kas_descPart m n p) (λr=>Pm n r.2/\r.1<=n/\1<=r.1/\Up f r.2 r.1):=by
 unfold kas_descPart;refine gb.bind _ (gb.mono (λr h=>?_) _ (rH (n - (m + 1)) p (m + 1) 0 hp (by omega) (by omega) (by omega) hd λi hi f9=>by rw [show i=m + 1 - 1 by omega]));obtain ⟨a1,a2,a3,a4,a5,a6⟩:=h;split
 ·exact sF (a1.rev _ _) (by omega) a3 λi j t6 hj=>by
   rw [mj a1 a3 a4 a6,mj a1 a3 a4 a6];exact a5 i j t6 hj
 ·exact sF a1 (by omega) a3 a5
theorem PV {p:Array Nat}(hn:1<=n)(hp:Pm n p):gb n (cf f) (kas_count n p) (λr=>Pm n r.2/\r.1<=n/\1<=r.1/\Up f r.2 r.1):=by
 unfold kas_count;refine gb.bind _ (gb.mono (λm h=>?_) _ (Kz hp (n - 1) 1 (zF _) (by omega) λi j t6 hj=>by rw [show i=j by omega];omega));obtain ⟨a1,a2,a3,a4⟩:=h;split
 ·exact ⟨hp,by omega,a1,a3⟩
 ·rename_i n9;have cA:m < n:=by
   have:¬ m=n:=by simpa using n9
   omega
  have a4':=a4 (by omega);split
  ·rename_i hm1;refine ⟨by rw [getD_at];exact hp.lt (by omega),by rw [getD_at];exact hp.lt (by omega),?_⟩;rw [getD_at,getD_at];by_cases hc:g f p 0 < g f p (m - 1)
   ·have e:cf f (at' p 0) (at' p (m - 1))=true:=decide_eq_true hc;rw [e];dsimp only;rw [if_pos rfl];exact ⟨hp,by omega,a1,a3⟩
   ·have e:cf f (at' p 0) (at' p (m - 1))=false:=decide_eq_false hc;rw [e];dsimp only;rw [if_neg zM];have all:∀ k,k < m->g f p k=g f p 0:=λk hk=>by
     have:=a3 0 k (by omega) hk;have:=a3 k (m - 1) (by omega) (by omega);omega
    have gr:∀ k,g f (kas_rev p 0 m) k=g f p k:=λk=>by
     rw [Lb (by rw [hp.size];omega)];split
     ·rw [all _ (by omega),all k (by omega)]
     ·rfl
    refine kO (hp.rev _ _) a1 cA λi j t6 hj=>?_;rw [gr,gr];by_cases UU:j < m
    ·rw [all i (by omega),all j UU];omega
    ·have ej:j=m:=by omega
     subst ej;by_cases hi:i=j
     ·subst hi;omega
     ·have:=all i (by omega);have:=all (j - 1) (by omega);omega
  ·refine kO hp a1 cA λi j t6 hj=>?_;have em:m=1:=by omega
   subst em;by_cases hi:i=j
   ·subst hi;omega
   ·have e1:i=0:=by omega
    have e2:j=1:=by omega
    subst e1 e2;have:g f p 1 < g f p 0:=a4';omega
theorem mC {p:Array Nat}{k:Nat}(hp:Pm n p)(hk:k < n)(hu:Up f p k):∀ (t l r:Nat),l<=r->r<=k->r<=l + t->(∀ i,i < l->g f p i<=g f p k)->(∀ i,r<=i->i < k->g f p k < g f p i) ->
  gb n (cf f) (kas_place p k t l r) (λl'=>l'<=k/\(∀ i,i < l'->g f p i<=g f p k)/\∀ i,l'<=i->i < k->g f p k < g f p i)
 | 0,l,r,h1,h2,h3,ha,hb=>⟨by omega,ha,λi hi f9=>hb i (by omega) f9⟩
 | t + 1,l,r,h1,h2,h3,ha,hb=>by
  unfold kas_place;split
  ·exact ⟨by omega,ha,λi hi f9=>hb i (by omega) f9⟩
  ·rename_i Nt;refine ⟨by rw [getD_at];exact hp.lt hk,by rw [getD_at];exact hp.lt (by omega),?_⟩;rw [getD_at,getD_at];by_cases hc:g f p k < g f p ((l + r) / 2)
   ·have e:cf f (at' p k) (at' p ((l + r) / 2))=true:=decide_eq_true hc;rw [e];dsimp only;rw [if_pos rfl];refine mC hp hk hu t l ((l + r) / 2) (by omega) (by omega) (by omega) ha λi hi f9=>?_;have:=hu ((l + r) / 2) i (by omega) f9;omega
   ·have e:cf f (at' p k) (at' p ((l + r) / 2))=false:=decide_eq_false hc;rw [e];dsimp only;rw [if_neg zM];refine mC hp hk hu t ((l + r) / 2 + 1) r (by omega) (by omega) (by omega) (λi hi=>?_) hb;have:=hu i ((l + r) / 2) (by omega) (by omega);omega
theorem P0:∀ (t:Nat) (p:Array Nat) (k:Nat),Pm n p->k + t=n->Up f p k->gb n (cf f) (kas_bin t p k) (λp'=>Pm n p'/\Up f p' n)
 | 0,p,k,hp,hk,hu=>⟨hp,by rw [<-hk];exact hu⟩
 | t + 1,p,k,hp,hk,hu=>by
  unfold kas_bin;refine gb.bind _ (gb.mono (λl h=>?_) _ (mC hp (by omega) hu k 0 k (by omega) (by omega) (by omega) (λi hi=>absurd hi (zf _)) λi hi f9=>absurd f9 (by omega)));obtain ⟨a1,a2,a3⟩:=h;refine P0 t _ (k + 1) (hp.bub _ _) (by omega) λi j t6 hj=>?_;have hs:k < p.size:=by rw [hp.size];omega
  rw [S4 hs (by omega),S4 hs (by omega)];have el:k - (k - l)=l:=by omega
  rw [el];by_cases hil:i=l
  ·rw [if_pos hil];by_cases XI:j=l
   ·rw [if_pos XI];omega
   ·rw [if_neg XI,if_pos ⟨by omega,by omega⟩];have:=a3 (j - 1) (by omega) (by omega);omega
  ·rw [if_neg hil];by_cases MJ:l < i/\i<=k
   ·rw [if_pos MJ];rw [if_neg (by omega),if_pos ⟨by omega,by omega⟩];exact hu _ _ (by omega) (by omega)
   ·rw [if_neg MJ];have hi3:i < l:=by omega
    by_cases XI:j=l
    ·rw [if_pos XI];exact a2 i hi3
    ·rw [if_neg XI];by_cases hj2:l < j/\j<=k
     ·rw [if_pos hj2];exact hu _ _ (by omega) (by omega)
     ·rw [if_neg hj2];exact hu _ _ t6 (by omega)
theorem Rb (hn:1<=n):gb n (cf f) (kas_sort n) (λp=>Pm n p/\Up f p n):=by
 unfold kas_sort;refine gb.bind _ (gb.mono (λr h=>?_) _ (PV hn (show Pm n (List.toArray (List.range n)) from Array.Perm.refl _)));obtain ⟨a1,a2,a3,a4⟩:=h;split
 ·have e:max r.1 1=r.1:=by omega
  rw [e];exact P0 _ _ _ a1 (by omega) a4
 ·have e:r.1=n:=by omega
  exact ⟨a1,by rw [<-e];exact a4⟩
end
end aQ
namespace aQ
def lx:List Int->List Int->Bool
 | [],[]=>false
 | [],_::_=>true
 | _::_,[]=>false
 | x::xs,y::ys=>if x=y then lx xs ys else decide (x < y)
theorem OR:∀ r:List Int,lx r r=false
 | []=>rfl
 | x::xs=>by unfold lx;rw [if_pos rfl];exact OR xs
theorem OQ:∀ {a b c:List Int},lx a b=true->lx b c=true->lx a c=true
 | [],[],_,h,_=>by cases h
 | [],_::_,[],_,h=>by cases h
 | [],_::_,_::_,_,_=>rfl
 | _::_,[],_,h,_=>by cases h
 | _::_,_::_,[],_,h=>by cases h
 | x::xs,y::ys,z::zs,h,h'=>by
  unfold lx at h h' ⊢;split at h
  ·split at h'
   ·rename_i e1 e2;rw [if_pos (e1.trans e2)];exact OQ h h'
   ·rename_i e1 e2;simp only [decide_eq_true_eq] at h';rw [if_neg (by omega)];simp only [decide_eq_true_eq];omega
  ·simp only [decide_eq_true_eq] at h;split at h'
   ·rename_i e1 e2;rw [if_neg (by omega)];simp only [decide_eq_true_eq];omega
   ·simp only [decide_eq_true_eq] at h';rw [if_neg (by omega)];simp only [decide_eq_true_eq];omega
theorem vD:∀ {a b:List Int},lx a b=false->lx b a=false->a=b
 | [],[],_,_=>rfl
 | [],_::_,h,_=>by cases h
 | _::_,[],_,h=>by cases h
 | x::xs,y::ys,h,h'=>by
  unfold lx at h h';split at h
  ·rename_i e;subst e;rw [if_pos rfl] at h';rw [vD h h']
  ·rename_i e;rw [if_neg λz=>e z.symm] at h';simp only [decide_eq_false_iff_not] at h h';omega
def rk (rs:List (List Int))(r:List Int):Int:=((rs.countP λx=>lx x r:Nat):Int)
theorem kh {α:Type}{p q:α->Bool}{a:α}:∀ {l:List α},(∀ x,p x=true->q x=true)->a∈l->p a=false->q a=true->l.countP p < l.countP q
 | [],_,h,_,_=>by cases h
 | x::l,hpq,h,h1,h2=>by
  have hm:l.countP p<=l.countP q:=List.countP_mono_left λx _=>hpq x;rcases zO.mp h with rfl | h
  ·rw [List.countP_cons_of_neg (by rw [h1];exact zM),List.countP_cons_of_pos h2];omega
  ·have:=kh hpq h h1 h2;rw [List.countP_cons,List.countP_cons];cases e:p x with
   | true=>rw [hpq x e];simp;omega
   | false=>cases e2:q x <;> simp <;> omega
theorem KS {rs:List (List Int)}{a b:List Int}(ha:a∈rs):decide (rk rs a < rk rs b)=lx a b:=by
 unfold rk;cases h:lx a b with
 | true=>
  have:=kh (p:=λx=>lx x a) (q:=λx=>lx x b) (λx hx=>OQ hx h) ha (OR a) h;simp only [decide_eq_true_eq];omega
 | false=>
  have hm:rs.countP (λx=>lx x b)<=rs.countP (λx=>lx x a):=List.countP_mono_left λx _ hx=>by
   cases h':lx b a with
   | true=>exact OQ hx h'
   | false=>rw [vD h h'];exact hx
  simp only [decide_eq_false_iff_not];omega
end aQ
namespace L2
open PySem PySem.Spec PyProof.Rows PySem.W aQ
theorem bq.at {P:Program}{w:World}{H:Hp}{h:Heap}{a:Addr}{o:HO}(x:bq P w H h a o):∃ ob,h.get? a=some ob:=by
 cases o with
 | lst xs=>obtain ⟨_,_,_,_,e⟩:=x;exact ⟨_,e⟩
 | tup xs=>obtain ⟨_,_,_,ob,e,_⟩:=x;exact ⟨_,e⟩
 | dK aJ=>obtain ⟨_,_,_,_,o,_,_,e,_⟩:=x;exact ⟨_,e⟩
 | dT aJ=>obtain ⟨_,_,_,_,o,_,_,e,_⟩:=x;exact ⟨_,e⟩
 | set S n=>obtain ⟨o,_,_,_,e,_⟩:=x;exact ⟨_,e⟩
 | ins C dx fs=>obtain ⟨_,_,_,e,_⟩:=x;exact ⟨_,e⟩
 | own y=>obtain ⟨_,e⟩:=x;exact ⟨_,e⟩
 | xd fs=>obtain ⟨_,⟨_,_,_,e,_⟩,_⟩:=x;exact ⟨_,e⟩
 | WH lo hi=>obtain ⟨_,_,_,e⟩:=x;exact ⟨_,e⟩
 | nW ob u=>obtain ⟨e,_⟩:=x;exact ⟨_,e⟩
 | jM ps=>exact ⟨_,(show h.get? a=some _ from x)⟩
 | met f y=>exact ⟨_,(show h.get? a=some _ from x)⟩
 | ext φ=>obtain ⟨_,⟨_,e⟩,_⟩:=x;exact ⟨_,e⟩
section
variable {X:Cx}{ah:List (Addr×Obj)}{σ:St}{H:Hp}{s:Shared}
theorem Inv.Oc {m:Str->Option Value}{h':Heap}{D:Addr}{ay:List Value}{c:Nat}{xs:List V}(I:Inv X ah σ H s)(F0:Fr X.base X.env.locals s.heap m)(F:Fr X.base X.env.locals h' m)
  (N:News X.base X.env.locals h' ((D,listOf ay.toArray c)::fT X.base s.heap X.env.locals)) (lt:∀ q∈fT X.base s.heap X.env.locals,q.1 < D) (hv:Vals xs ay) (hz:xs.length<=sizeLine) :
  Inv X ah σ (upd H D (.lst xs)) { s with heap:=h' }/\H D=none:=by
 obtain ⟨eD,nL,nb⟩:=N (D,listOf ay.toArray c) (.head _);have WR:s.heap.get? D=none:=by
  cases q:s.heap.get? D with
  | none=>rfl
  | some o=>exact absurd (lt (D,o) (eS nL nb q)) (z6 _)
 have hD:H D=none:=by
  cases q:H D with
  | none=>rfl
  | some u=>
   obtain ⟨ob,e⟩:=(I.aT D u q).at;rw [WR] at e;cases e
 have keep:∀ b o,b≠X.env.locals->s.heap.get? b=some o->h'.get? b=some o:=λb o hb e=>by
  cases q:X.base.get? b with
  | some u=>
   have:=I.bk b u q;rw [e] at this;cases this;exact F.keep b _ q
  | none=>exact (N (b,o) (.tail _ (eS hb q e))).1
 have Qt:∀ b o,s.heap.get? b=some o->b≠D:=λb o e z=>by rw [z,WR] at e;cases e
 have neT:∀ b u,H b=some u->b≠D:=λb u e z=>by rw [z,hD] at e;cases e
 refine ⟨I.step (g':=s.gens) (t':=s.toks) (d':=s.drawn) (ch:=[]) (λ_ z=>nomatch z) (λb o hb _ _ e _=>keep b o hb e) (λb o hb _ _ e _=>⟨o.slots,keep b o hb e⟩) (λb o _ e n=>by rw [xq (Qt b o e)];exact n) (λb o _ e=>?_)
  (λb ys e=>by rw [xq (neT b _ e)];exact e) (λb o u e=>by rw [xq (neT b _ e)];exact e) (λb ps e=>⟨#[],by rw [xq (neT b _ e),e,Array.append_empty]⟩) (λm' hm=>?_) (λb u e=>?_) I.bare,hD⟩
 ·by_cases hb:b=X.env.locals
  ·obtain ⟨o',_,_,q,_⟩:=F.ns;exact ⟨o',by rw [hb];exact q⟩
  ·exact ⟨o,keep b o hb e⟩
 ·obtain ⟨o1,S5,ep1,e1,d1,k1,f1⟩:=hm;obtain ⟨o2,es2,ep2,e2,d2,k2,f2⟩:=F0.ns;rw [e1] at e2;cases e2;rw [d1] at d2;cases d2;obtain ⟨o3,es3,ep3,e3,d3,k3,f3⟩:=F.ns;exact ⟨o3,es3,ep3,e3,d3,k3,λname=>(f3 name).trans ((f2 name).symm.trans (f1 name))⟩
 ·by_cases hb:b=D
  ·subst hb;rw [xg] at e;cases e;exact ⟨hz,ay,c,hv,eD⟩
  ·rw [xq hb] at e;refine (I.aT b u e).dh (λc v hc q=>keep c v (λz=>?_) q) (λc q=>by rw [xq (neT c _ q)];exact q) λc ys q=>by rw [xq (neT c _ q)];exact q
   rcases hc with rfl | hc
   ·rw [z,I.free] at e;cases e
   ·rw [z,I.free] at hc;cases hc
end
section
variable {prog:Program}{w:World}{A:Around}{E:Value->Shared->Prop}{s:Shared}
theorem vf {ay:List Value}(kM:ay.length < 2):(ay.toArray.zip ay.toArray).map (·.2)=ay.toArray:=by
 rcases ay with _ | ⟨x,_ | ⟨y,r⟩⟩
 ·simp
 ·simp
 ·exact absurd kM (by simp)
theorem ve {a:Addr}{ay:List Value}{k:Nat}{P:PySem.Fin->Shared->Prop}(hx:s.heap.get? a=some (seqObj "list" ay.toArray k))(kM:ay.length < 2)
  (done:P (.done (.ret .none)) { s with heap:=sortedHeap s.heap a ay ay.toArray }):wpAny (model prog w) A (Builtin.«list.sort» ⟨[.ref a],[]⟩) P E s:=by
 have here:a < s.heap.objs.size:=Heap.lt_size hx;have line:ay.length<=sizeLine:=by rw [sizeLine_eq];omega
 rw [list_sort_plain];obtain ⟨e1,Za⟩:∃ e1,(s.heap.update a (Obj.mapSeq λ_=>(#[]:Array Value))).get? a=some (seqObj "list" #[] e1):=⟨_,get?_update_seq hx (λ_=>#[])⟩;refine wpAny_bind (listItems_at hx rfl (wpAny_bind (listUpdate_at hx rfl (wpAny_bind (seqEpoch_at Za rfl (wpAny_bind (wpAny_newTuple (wpAny_bind (wpAny_newList (wpAny_holding ?_) (za _))) line))))
  (by rw [zQ];exact line) (za _))))
 have at2:(((s.heap.update a (Obj.mapSeq λ_=>(#[]:Array Value))).push (seqObj "tuple" ay.toArray 0)).push (seqObj "list" #[] 0)).get? a=some (seqObj "list" #[] e1):=
  Heap.get?_push_of_some _ (Heap.get?_push_of_some _ Za)
 show wpAny (model prog w) A _ P E { s with heap:=((s.heap.update a (Obj.mapSeq λ_=>(#[]:Array Value))).push (seqObj "tuple" ay.toArray 0)).push (seqObj "list" #[] 0) };have less:ay.toArray.size < 2:=by rw [zQ];exact kM
 have WA:(arrOf (SortSt.mk' general' (ay.toArray.zip ay.toArray) #[] 7 none)).map (·.2)=ay.toArray:=by
  show (ay.toArray.zip ay.toArray).map (·.2)=ay.toArray;exact vf kM
 dsimp only;rw [if_pos less,if_pos less];refine wpAny_bind (wpAny_pure ?_);rw [StateT.run_pure];refine wpAny_bind (wpAny_pure ?_);dsimp only;refine wpAny_bind (seqEpoch_at at2 rfl (wpAny_bind (listUpdate_at at2 rfl ?_ (za _) (by rw [WA,zQ];omega))));simp only [bne_self_eq_false,zn,if_false];rw [WA];exact wpAny_pure done
theorem qh {l:Addr}{ay:List Value}{Q:Value->Shared->Prop}(hl:s.heap.IsList l ay.toArray)(kM:ay.length < 2)
  (done:Q (.ref (s.heap.objs.size + 1)) { s with heap:=sortedAll s.heap ay ay.toArray }):wpAny (model prog w) A (call (.builtin "sorted") [.ref l]) Q E s:=by
 have line:ay.length<=sizeLine:=by rw [sizeLine_eq];omega
 refine Calls.call_function_entry kind_sorted plain_sorted entry_sorted (args_sorted1 _) ?_;unfold Builtin.«sorted»;refine wpAny_bind (m:=checkCount "sorted" 1 1 _) (wpAny_pure (wpAny_bind (collect_list hl (wpAny_bind (wpAny_newList ?_ line)) line)));have sz:((s.heap.push (seqObj "list" #[] 0)).update s.heap.objs.size (Obj.mapSeq (·++ay.toArray))).objs.size=s.heap.objs.size + 1:=by rw [Heap.size_update,size_push']
 have atL:(((s.heap.push (seqObj "list" #[] 0)).update s.heap.objs.size (Obj.mapSeq (·++ay.toArray))).push (seqObj "list" ay.toArray 0)).get? (s.heap.objs.size + 1)=some (seqObj "list" ay.toArray 0):=by
  rw [<-sz];exact Heap.get?_push_size _ rfl
 show wpAny _ _ _ _ _ { s with heap:=((s.heap.push (seqObj "list" #[] 0)).update s.heap.objs.size (Obj.mapSeq (·++ay.toArray))).push (seqObj "list" ay.toArray 0) };rw [sz];exact wpAny_bind (wpAny_holding (wpAny_call_entry slot_list_sort ⟨_,atL,rfl⟩ entry_list_sort (ve atL kM ⟨_,rfl,wpAny_pure ⟨_,rfl,done⟩⟩) (args_list_sort _)))
end
section
variable {X:Cx}
theorem oH:∀ {ps:List (Addr×List Int)}{us:List Value},Vals (ps.map λa=>V.ref a.1) us->us=ps.map λa=>Value.ref a.1
 | [],us,r=>by cases r;rfl
 | a::ps,us,r=>by
  cases r with
  | cons x y=>rw [oH y];cases x;rfl
def S7 (h:Heap)(a:Addr)(r:List Int):Prop:=∃ o items n,h.get? a=some o/\o.cls=.type "tuple" /\ o.data=.seq items n/\Vals (r.map V.int) items.toList
theorem sr {prog:Program}{w:World}{A:Around}{s:Shared}{b fin:Bool}{Q:Bool->Shared->Prop}:∀ {r r':List Int}{us Tp:List Value}{i:Nat},Vals (r.map V.int) us->Vals (r'.map V.int) Tp->fin=decide (us.length < Tp.length)->Q (lx r r') s ->
  KatLex prog w A b fin Q (us.zip Tp) i s
 | [],[],us,Tp,i,ru,Og,hf,q=>by cases ru;cases Og;exact kat_nil (by rw [hf];exact q)
 | [],_::_,us,Tp,i,ru,Og,hf,q=>by
  cases ru;cases Og with
  | cons _ _=>exact kat_nil (by rw [hf];simpa [lx] using q)
 | _::_,[],us,Tp,i,ru,Og,hf,q=>by
  cases Og;cases ru with
  | cons _ _=>exact kat_nil (by rw [hf];simpa [lx] using q)
 | x::r,y::r',us,Tp,i,ru,Og,hf,q=>by
  cases ru with
  | cons rx ru=>
  cases Og with
  | cons ry Og=>
  obtain ⟨t,rfl⟩:=rx;obtain ⟨t',rfl⟩:=ry;refine kat_cons (wpAny_eqBool_int ?_);unfold lx at q;by_cases e:x=y
  ·subst e;rw [if_pos rfl] at q;rw [show (x == x)=true from by simp];exact kat_yes (sr ru Og (by rw [hf];simp) q)
  ·rw [if_neg e] at q;rw [show (x == y)=false from by simpa using e];refine kat_no ?_;cases (b && i == 0) with
   | true=>exact oneLt_int q
   | false=>exact kat_one _ _ (lt_int q)
theorem tN {h:Heap}:∀ {ps:List (Addr×List Int)},(∀ a∈ps,S7 h a.1 a.2/\a.2≠[])->∃ fs,KatTups h (ps.map λa=>Value.ref a.1) fs/\fs.length=ps.length/\∀ v∈fs,∃ i t,v=Value.int i t
 | [],_=>⟨[],KatTups.nil,rfl,λ_ z=>nomatch z⟩
 | (a,r)::ps,hp=>by
  obtain ⟨fs,k,l,f⟩:=tN λa ha=>hp a (.tail _ ha);obtain ⟨⟨o,items,n,ho,hc,hd,hv⟩,hn⟩:=hp (a,r) (.head _)
  match r,hn,hv with
  | x::r,_,hv=>
   obtain ⟨u,hu,t,e⟩:=Vals.get (i:=0) hv rfl;refine ⟨u::fs,KatTups.cons ho hc hd (by rw [<-hu];simp) k,by simp [l],λv hv=>?_⟩;rcases zO.mp hv with rfl | hv
   ·exact ⟨x,t,e⟩
   ·exact f v hv
theorem Mg {α:Type}(d:α)(l:List α):(List.range l.length).map (λi=>l.getD i d)=l:=by
 apply List.ext_getElem
 ·simp
 ·intro i h1 h2;simp [List.getD,h2]
theorem ja:∀ (ps:List (Addr×List Int)),Vals (ps.map λa=>V.ref a.1) (ps.map λa=>Value.ref a.1)
 | []=>.nil
 | _::ps=>.cons rfl (ja ps)
theorem nq:dU X (.builtin "sorted") (λxs H Q=>∃ p,∃ ps:List (Addr×List Int),xs=[.ref p]/\aH X.K H p (ps.map λa=>V.ref a.1)/\ps.length < 64/\(∀ a∈ps,H a.1=some (.tup (a.2.map V.int))/\a.2≠[]) /\
  ∀ l qs,H l=none->List.Perm qs ps->qs.Pairwise (λa b=>lx b.2 a.2=false)->Q (.ref l) (upd H l (.lst (qs.map λa=>V.ref a.1)))):=by
 intro ah s σ H xs us Q I r h;obtain ⟨p,ps,rfl,hq,h64,dY,q⟩:=h;obtain ⟨u,rfl,rx⟩:=vals1 r;cases rx;obtain ⟨ay,r',pl,hz⟩:=I.list hq;have ei:=oH r';subst ei;have hlen:(ps.map λa=>Value.ref a.1).length=ps.length:=by simp
 by_cases h2:ps.length < 2
 ·refine qh pl.isList (by omega) ?_;have sz:((s.heap.push (seqObj "list" #[] 0)).update s.heap.objs.size (Obj.mapSeq (·++(ps.map λa=>Value.ref a.1).toArray))).objs.size=s.heap.objs.size + 1:=by rw [Heap.size_update,size_push']
  have kp:∀ b o,s.heap.get? b=some o->(sortedAll s.heap (ps.map λa=>Value.ref a.1) (ps.map λa=>Value.ref a.1).toArray).get? b=some o:=λb o e=>by
   have lb:b < s.heap.objs.size:=Heap.lt_size e;unfold sortedAll sortedHeap;rw [Heap.get?_update_ne _ _ _ _ (zV (yi lb))];refine Heap.get?_push_of_some _ (Heap.get?_push_of_some _ ?_);rw [Heap.get?_update_ne _ _ _ _ (zV (yi lb))];refine Heap.get?_push_of_some _ ?_;rw [Heap.get?_update_ne _ _ _ _ (zV lb)];exact Heap.get?_push_of_some _ e
  obtain ⟨c,ec⟩:∃ c,(sortedAll s.heap (ps.map λa=>Value.ref a.1) (ps.map λa=>Value.ref a.1).toArray).get? (s.heap.objs.size + 1)=some (seqObj "list" (ps.map λa=>Value.ref a.1).toArray c):=by
   have e0:=Heap.get?_push_size ((s.heap.push (seqObj "list" #[] 0)).update s.heap.objs.size (Obj.mapSeq (·++(ps.map λa=>Value.ref a.1).toArray))) (o:=seqObj "list" (ps.map λa=>Value.ref a.1).toArray 0) rfl;rw [sz] at e0;unfold sortedAll sortedHeap;have e1:=get?_update_seq e0 (λ_=>(#[]:Array Value));exact ⟨_,get?_update_seq (Heap.get?_push_of_some _ (Heap.get?_push_of_some _ e1)) _⟩
  refine ⟨.ref (s.heap.objs.size + 1),_,I.laid (t':=s.toks) kp (yV _) (show bq X.prog X.w _ _ _ (.lst (ps.map λa=>V.ref a.1)) from ⟨hz,_,c,r',ec⟩),rfl,q _ ps (I.aT.fresh (yV _)) (List.Perm.refl _) ?_⟩
  match ps,h2 with
  | [],_=>exact .nil
  | [_],_=>exact List.pairwise_singleton _ _
 ·obtain ⟨m,F⟩:=I.fr;refine kat_sorted F (mJ (g:=X.base) (h:=s.heap)) pl.isList (by omega) (by omega) λD e1 h' F' N' lt=>?_;have keep:∀ b o,b≠X.env.locals->s.heap.get? b=some o->h'.get? b=some o:=λb o hb e=>by
   cases q:X.base.get? b with
   | some u=>
    have:=I.bk b u q;rw [e] at this;cases this;exact F'.keep b _ q
   | none=>exact (N' (b,o) (.tail _ (eS hb q e))).1
  have rowAt:∀ a∈ps,S7 h' a.1 a.2/\a.2≠[]:=λa ha=>by
   obtain ⟨ht,hn⟩:=dY a ha;obtain ⟨_,ay,rv,o,e,c,n,d⟩:=I.aT a.1 _ ht;refine ⟨⟨o,_,n,keep a.1 o (λz=>?_) e,c,d,rv⟩,hn⟩;rw [z,I.free] at ht;cases ht
  obtain ⟨fs,kt,lf,hf⟩:=tN rowAt;refine kat_kind (T:=.type "int") kt (by omega) (λv hv=>?_) (by decide) ?_
  ·obtain ⟨i,t,rfl⟩:=hf v hv;exact Looks.now
  have n1:1<=(ps.map λa=>Value.ref a.1).length:=by omega
  refine gb.wp (c:=cf λi=>rk (ps.map (·.2)) ((ps.map (·.2)).getD i [])) (λi j C hi hj hC=>?_) (λpp hp=>?_) _ (Rb (f:=λi=>rk (ps.map (·.2)) ((ps.map (·.2)).getD i [])) n1)
  ·have f9:i < ps.length:=by omega
   have j8:j < ps.length:=by omega
   obtain ⟨⟨o,items,n,ho,hc,hd,hv⟩,hn⟩:=rowAt ps[i] (yC f9);obtain ⟨⟨o',aaS,n',vR,XQ,R4,hv'⟩,YQ⟩:=rowAt ps[j] (yC j8);unfold kas_ask;have ei:(ps.map λa=>Value.ref a.1).getD i Value.none=.ref ps[i].1:=by simp [f9]
   have ej:(ps.map λa=>Value.ref a.1).getD j Value.none=.ref ps[j].1:=by simp [j8]
   rw [ei,ej];refine kat_lt ho hd vR R4 (sr hv hv' (by simp) ?_);have e:cf (λi=>rk (ps.map (·.2)) ((ps.map (·.2)).getD i [])) i j=lx ps[i].2 ps[j].2:=by
    unfold cf;have e1:(ps.map (·.2)).getD i []=ps[i].2:=by simp [f9]
    have e2:(ps.map (·.2)).getD j []=ps[j].2:=by simp [j8]
    simp only [e1,e2];exact KS (zS.mpr ⟨ps[i],yC f9,rfl⟩)
   rw [e] at hC;exact hC
  ·obtain ⟨pm,up⟩:=hp;refine KasFin.intro F' N' (UpdF.head λx hx=>zV (lt x hx)) λh2' c F2 N2=>?_;have pl:pp.toList.Perm (List.range ps.length):=by
    have:=pm.toList;rw [hlen] at this;simpa using this
   have eo:(pp.toList.map λi=>(ps.map λa=>Value.ref a.1).getD i Value.none)=(pp.toList.map λi=>ps.getD i (0,[])).map λa=>Value.ref a.1:=by
    rw [yY];refine List.map_congr_left λi hi=>?_;have f9:i < ps.length:=zm.mp (pl.mem_iff.mp hi);simp [f9]
   have perm:(pp.toList.map λi=>ps.getD i (0,[])).Perm ps:=by
    have:=pl.map λi=>ps.getD i (0,[]);rwa [Mg] at this
   rw [eo] at N2;have hzz:((pp.toList.map λi=>ps.getD i (0,[])).map λa=>V.ref a.1).length<=sizeLine:=by
    rw [zA,perm.length_eq,sizeLine_eq];omega
   obtain ⟨I2,hD⟩:=I.Oc F F2 N2 lt (ja _) hzz;refine ⟨.ref D,_,I2,rfl,q D _ hD perm ?_⟩;rw [yE];intro i j hi hj t6;simp only [zA,Array.length_toList] at hi hj;simp only [List.getElem_map,Array.getElem_toList];have hn:pp.size=ps.length:=by rw [pm.size];exact hlen
   have key:=up i j (xG t6) (by omega);have a1:pp[i] < ps.length:=zm.mp (pl.mem_iff.mp (by simp));have a2:pp[j] < ps.length:=zm.mp (pl.mem_iff.mp (by simp));unfold g at'  at key;simp only [hi,hj,getElem?_pos,xR] at key;have e1:(ps.map (·.2)).getD pp[i] []=ps[pp[i]].2:=by simp [a1]
   have e2:(ps.map (·.2)).getD pp[j] []=ps[pp[j]].2:=by simp [a2]
   rw [e1,e2] at key;have e3:ps.getD pp[i] (0,[])=ps[pp[i]]:=by simp [a1]
   have e4:ps.getD pp[j] (0,[])=ps[pp[j]]:=by simp [a2]
   rw [e3,e4];have:=KS (rs:=ps.map (·.2)) (a:=ps[pp[j]].2) (b:=ps[pp[i]].2) (zS.mpr ⟨_,yC a2,rfl⟩);rw [<-this];simp only [decide_eq_false_iff_not];omega
end
end L2
namespace L2
open PySem PySem.Spec PyProof.Rows
def notStar:Expr->Bool
 | .Starred _ _=>false
 | _=>true
theorem jT {e:Expr}{es:List Expr}{env:Env}(h:notStar e=true):starEach (e::es) env=(false,eval e env)::starEach es env:=by cases e <;> first | rfl | cases h
@[irreducible] def Vx (X:Cx) (es:List Expr) (t:TA):Prop:=PA X es t
theorem xb {X:Cx}{es:List Expr}{t:TA}(h:Vx X es t):PA X es t:=by unfold Vx at h;exact h
theorem SE {X:Cx}{es:List Expr}{t:TA}(h:PA X es t):Vx X es t:=by unfold Vx;exact h
theorem xl {X:Cx}:Vx X [] nY:=SE qX
theorem xf {X:Cx}{e:Expr}{es:List Expr}{te:TE}{t:TA}(ha:PE X e te)(hr:Vx X es t)(hn:notStar e=true):Vx X (e::es) (iE te t):=SE (Rv ha (xb hr) (jT hn))
@[irreducible] def uD (X:Cx) (es:List Stmt) (t:TS):Prop:=lO X es t
theorem xh {X:Cx}{es:List Stmt}{t:TS}(h:uD X es t):lO X es t:=by unfold uD at h;exact h
theorem PZ {X:Cx}{es:List Stmt}{t:TS}(h:lO X es t):uD X es t:=by unfold uD;exact h
theorem wB {X:Cx}{a:Stmt}{t:TS}(h:PS X a t):uD X [a] t:=PZ (Rl h)
theorem xy {X:Cx}{a b:Stmt}{rest:List Stmt}{t u:TS}(h:PS X a t)(hr:uD X (b::rest) u):uD X (a::b::rest) (nX t u):=PZ (Om h (xh hr))
section
variable {K:PySem.W.Frag}{a:Addr}{xs:List V}{n:Nat}{caps:List Nat}{g:TG}{tc:TT}{te:TE}{σ:St}{H:Hp}{Qf:Addr->Hp->List V->Prop}
theorem jz {J:It}(Pv:Nat->St->List V->Hp->Prop)(len:Nat)(h0:Pv 0 (fK n caps σ) [] H)(hn:len<=1000)(hl:∀ i τ acc H,Pv i τ acc H->acc.length<=i)
  (hgo:∀ i τ acc H,i < len->Pv i τ acc H->J.go i H) (O5:∀ τ acc H,Pv len τ acc H->J.stop len H)
  (hs:∀ i τ acc H (C:St->List V->Hp->Prop),i < len->Pv i τ acc H->(∀ τ acc H,Pv (i + 1) τ acc H->C τ acc H)->∀ x H',J.nV i H x H'->g x τ H' fun bH H2=>tc bH H2 λb H3=>if b=true then te bH H3 λy H4=>C bH (acc++[y]) H4 else C bH acc H3)
  (hd:∀ τ acc H,Pv len τ acc H->∀ p,H p=none->Qf p H acc) :
  ∃ W:Nat->Nat->St->List V->Hp->Prop,(∃ m,W 0 m (fK n caps σ) [] H)/\∀ i m τ acc H,W i m τ acc H ->
   (J.stop i H/\acc.length<=sizeLine/\∀ p,H p=none->Qf p H acc) \/
   (J.go i H/\acc.length < sizeLine/\∀ x H',J.nV i H x H'->g x τ H' fun bH H2=>tc bH H2 λb H3=>if b=true then te bH H3 λy H4=>∃ m',m' < m/\W (i + 1) m' bH (acc++[y]) H4 else ∃ m',m' < m/\W (i + 1) m' bH acc H3):=by
 have line:1001<=sizeLine:=by rw [sizeLine_eq];decide
 refine ⟨λi m τ acc H=>m=len - i/\i<=len/\Pv i τ acc H,⟨len,by simp,za _,h0⟩,?_⟩;rintro i m τ acc H ⟨rfl,hi,p⟩;have q:=hl i τ acc H p;by_cases cA:i < len
 ·exact .inr ⟨hgo i τ acc H cA p,by omega,λx H' y=>hs i τ acc H (fun τ acc H=>∃ m',m' < len - i/\m'=len - (i + 1)/\i + 1<=len/\Pv (i + 1) τ acc H) cA p (fun τ acc H p'=>⟨len - (i + 1),by omega,rfl,cA,p'⟩) x H' y⟩
 ·have e:i=len:=by omega
  subst e;exact .inl ⟨O5 τ acc H p,by omega,hd τ acc H p⟩
theorem ug (Pv:Nat->St->List V->Hp->Prop)(h0:Pv 0 (fK n caps σ) [] H)(hn:xs.length<=1000)(hl:∀ i τ acc H,Pv i τ acc H->acc.length<=i/\bC K H a xs)
  (hs:∀ i x τ acc H (C:St->List V->Hp->Prop),xs[i]?=some x->Pv i τ acc H->(∀ τ acc H,Pv (i + 1) τ acc H->C τ acc H)->g x τ H fun bH H2=>tc bH H2 λb H3=>if b=true then te bH H3 λy H4=>C bH (acc++[y]) H4 else C bH acc H3)
  (hd:∀ τ acc H,Pv xs.length τ acc H->∀ p,H p=none->Qf p H acc) :
  ∃ W:Nat->Nat->St->List V->Hp->Prop,(∃ m,W 0 m (fK n caps σ) [] H)/\∀ i m τ acc H,W i m τ acc H ->
   ((Wd K a).stop i H/\acc.length<=sizeLine/\∀ p,H p=none->Qf p H acc) \/
   ((Wd K a).go i H/\acc.length < sizeLine/\∀ x H',(Wd K a).nV i H x H'->g x τ H' fun bH H2=>tc bH H2 λb H3=>if b=true then te bH H3 λy H4=>∃ m',m' < m/\W (i + 1) m' bH (acc++[y]) H4 else ∃ m',m' < m/\W (i + 1) m' bH acc H3):=
 jz (J:=Wd K a) Pv xs.length h0 hn (λi τ acc H p=>(hl i τ acc H p).1) (λi τ acc H hi p=>⟨xs,xs[i],(hl i τ acc H p).2,by simp [hi]⟩) (fun τ acc H p=>⟨xs,(hl _ τ acc H p).2,zF _⟩)
  (λi τ acc H C hi p c x H' y=>by obtain ⟨e,y⟩:=y;subst e;exact hs i x τ acc _ C (y xs (hl i τ acc _ p).2) p c) hd
theorem cL (Pv:Nat->St->List V->Hp->Prop)(h0:Pv 0 (fK n caps σ) [] H)(hn:xs.length<=1000)(hl:∀ i τ acc H,Pv i τ acc H->acc.length<=i/\aH K H a xs)
  (hs:∀ i x τ acc H (C:St->List V->Hp->Prop),xs[i]?=some x->Pv i τ acc H->(∀ τ acc H,Pv (i + 1) τ acc H->C τ acc H)->g x τ H fun bH H2=>tc bH H2 λb H3=>if b=true then te bH H3 λy H4=>C bH (acc++[y]) H4 else C bH acc H3)
  (hd:∀ τ acc H,Pv xs.length τ acc H->∀ p,H p=none->Qf p H acc) :
  ∃ W:Nat->Nat->St->List V->Hp->Prop,(∃ m,W 0 m (fK n caps σ) [] H)/\∀ i m τ acc H,W i m τ acc H ->
   ((Nf K a).stop i H/\acc.length<=sizeLine/\∀ p,H p=none->Qf p H acc) \/
   ((Nf K a).go i H/\acc.length < sizeLine/\∀ x H',(Nf K a).nV i H x H'->g x τ H' fun bH H2=>tc bH H2 λb H3=>if b=true then te bH H3 λy H4=>∃ m',m' < m/\W (i + 1) m' bH (acc++[y]) H4 else ∃ m',m' < m/\W (i + 1) m' bH acc H3):=
 jz (J:=Nf K a) Pv xs.length h0 hn (λi τ acc H p=>(hl i τ acc H p).1) (λi τ acc H hi p=>⟨xs,xs[i],(hl i τ acc H p).2,by simp [hi]⟩) (fun τ acc H p=>⟨xs,(hl _ τ acc H p).2,zF _⟩)
  (λi τ acc H C hi p c x H' y=>by obtain ⟨e,y⟩:=y;subst e;exact hs i x τ acc _ C (y xs (hl i τ acc _ p).2) p c) hd
theorem MR {tb:TS}{D:Ends}(Pv:Nat->St->Hp->Prop)(h0:Pv 0 σ H)(hl:∀ i σ H,i<=xs.length->Pv i σ H->bC K H a xs)
  (hs:∀ i x q σ H,xs[i]?=some x->H q=none->Pv i σ H->g (.ref q) σ (upd H q (.tup [.int i,x])) fun i8 H2=>tb (D.lp (Pv (i + 1))) i8 H2) (hd:∀ σ H,Pv xs.length σ H->D.nx σ H) :
  ∃ W:Nat->Nat->St->Hp->Prop,(∃ m,W 0 m σ H)/\∀ i m σ H,W i m σ H ->
   ((Qj K a).stop i H/\D.nx σ H)\/((Qj K a).go i H/\∃ N:St->Hp->Prop,(∀ bu H',N bu H'->∃ m',m' < m/\W (i + 1) m' bu H')/\∀ x H',(Qj K a).nV i H x H'->g x σ H' fun i8 H2=>tb (D.lp N) i8 H2):=by
 refine ⟨λi m σ H=>m=xs.length - i/\i<=xs.length/\Pv i σ H,⟨xs.length,by simp,za _,h0⟩,?_⟩;rintro i m σ H ⟨rfl,hi,p⟩;have q:=hl i σ H hi p;by_cases cA:i < xs.length
 ·refine .inr ⟨⟨xs,xs[i],q,by simp [cA]⟩,Pv (i + 1),fun bu H' p'=>⟨xs.length - (i + 1),by omega,rfl,cA,p'⟩,λx H' y=>?_⟩;obtain ⟨q',x',hq,e1,e2,y⟩:=y;subst e1;subst e2;exact hs i x' q' σ _ (y xs q) hq p
 ·have e:i=xs.length:=by omega
  subst e;exact .inl ⟨⟨xs,q,zF _⟩,hd σ H p⟩
theorem fB {tb:TS}{D:Ends}(Pv:Nat->St->Hp->Prop)(h0:Pv 0 σ H)(hl:∀ i σ H,i<=xs.length->Pv i σ H->aH K H a xs)
  (hs:∀ i x q σ H,xs[i]?=some x->H q=none->Pv i σ H->g (.ref q) σ (upd H q (.tup [.int i,x])) fun i8 H2=>tb (D.lp (Pv (i + 1))) i8 H2) (hd:∀ σ H,Pv xs.length σ H->D.nx σ H) :
  ∃ W:Nat->Nat->St->Hp->Prop,(∃ m,W 0 m σ H)/\∀ i m σ H,W i m σ H ->
   ((rS K a).stop i H/\D.nx σ H)\/((rS K a).go i H/\∃ N:St->Hp->Prop,(∀ bu H',N bu H'->∃ m',m' < m/\W (i + 1) m' bu H')/\∀ x H',(rS K a).nV i H x H'->g x σ H' fun i8 H2=>tb (D.lp N) i8 H2):=by
 refine ⟨λi m σ H=>m=xs.length - i/\i<=xs.length/\Pv i σ H,⟨xs.length,by simp,za _,h0⟩,?_⟩;rintro i m σ H ⟨rfl,hi,p⟩;have q:=hl i σ H hi p;by_cases cA:i < xs.length
 ·refine .inr ⟨⟨xs,xs[i],q,by simp [cA]⟩,Pv (i + 1),fun bu H' p'=>⟨xs.length - (i + 1),by omega,rfl,cA,p'⟩,λx H' y=>?_⟩;obtain ⟨q',x',hq,e1,e2,y⟩:=y;subst e1;subst e2;exact hs i x' q' σ _ (y xs q) hq p
 ·have e:i=xs.length:=by omega
  subst e;exact .inl ⟨⟨xs,q,zF _⟩,hd σ H p⟩
end
end L2
namespace Sm
open PySem L2 aQ
def cX (p:Addr)(H H':Hp):Prop:=∀ b u,b≠p->H b=some u->H' b=some u
theorem cX.refl (p:Addr)(H:Hp):cX p H H:=λ_ _ _ h=>h
theorem cX.trans {p:Addr}{H H1 H2:Hp}(a:cX p H H1)(b:cX p H1 H2):cX p H H2:=λc u n h=>b c u n (a c u n h)
theorem cX.set {p:Addr}{H:Hp}{o:HO}:cX p H (upd H p o):=λb u n h=>by rw [xq n];exact h
theorem cX.new {p l:Addr}{H:Hp}{o:HO}(h:H l=none):cX p H (upd H l o):=λb u n e=>by rw [xq (xj e h)];exact e
def bN (H:Hp)(p:Addr):Prop:=∃ a b c:Int,H p=some (.lst [.int a,.int b,.int c])
def Go (p:Addr)(H H':Hp):Prop:=cX p H H'/\bN H' p
theorem Go.trans {p:Addr}{H H1 H2:Hp}(a:Go p H H1)(b:Go p H1 H2):Go p H H2:=⟨a.1.trans b.1,b.2⟩
theorem Go.refl {p:Addr}{H:Hp}(a:bN H p):Go p H H:=⟨cX.refl p H,a⟩
theorem bN.new {p l:Addr}{H:Hp}{o:HO}(a:bN H p)(h:H l=none):bN (upd H l o) p:=by obtain ⟨x,y,z,e⟩:=a;exact ⟨x,y,z,by rw [xq (xj e h)];exact e⟩
theorem bN.ne {p l:Addr}{H:Hp}(a:bN H p)(h:H l=none):l≠p:=by obtain ⟨x,y,z,e⟩:=a;exact (xj e h).symm
theorem Go.new {p l:Addr}{H H1:Hp}{o:HO}(a:Go p H H1)(h:H1 l=none):Go p H (upd H1 l o):=⟨a.1.trans (cX.new h),a.2.new h⟩
theorem bN.tup {p t:Addr}{H:Hp}{xs:List V}(a:bN H p)(h:H t=some (.tup xs)):t≠p:=by obtain ⟨x,y,z,e⟩:=a;exact cH h e (by intro z;cases z)
def bX (H H':Hp):Prop:=∀ b xs,H b=some (.tup xs)->H' b=some (.tup xs)
theorem bX.trans {H H1 H2:Hp}(a:bX H H1)(b:bX H1 H2):bX H H2:=λc u h=>b c u (a c u h)
theorem Go.aS {p:Addr}{H H':Hp}(a:Go p H H')(h:bN H p):bX H H':=λb xs e=>a.1 b _ (h.tup e) e
theorem bX.new {l:Addr}{H:Hp}{o:HO}(h:H l=none):bX H (upd H l o):=λb u e=>by rw [xq (xj e h)];exact e
theorem bX.set {l:Addr}{H:Hp}{xs:List V}{o:HO}(h:H l=some (.lst xs)):bX H (upd H l o):=λb u e=>by rw [xq (cH e h (by intro z;cases z))];exact e
theorem bX.same {H H':Hp}(h:au H H'):bX H H':=λb u e=>h b _ e
structure M4 where
 lo:Int
 hi:Int
 t:Int
 m:Int
def M4.vs (r:M4):List V:=[.int r.lo,.int r.hi,.int r.t,.int r.m]
def apart (a b:M4):Prop:=a.lo≠b.lo/\a.lo≠b.hi/\a.hi≠b.lo/\a.hi≠b.hi
structure Good (w:Int) (ms:List M4):Prop where
 kM:ms.length<=60
 each:∀ r∈ms,0<=r.lo/\r.lo < r.hi/\r.hi < w/\1<=r.t/\r.t<=1000000000/\1<=r.m/\r.m<=99
 order:ms.Pairwise λa b=>a.t < b.t\/(a.t=b.t/\a.lo < b.lo/\apart a b)
def kF (H:Hp)(ps:List (Addr×M4)):Prop:=∀ a∈ps,H a.1=some (.tup a.2.vs)
structure aL (H:Hp) (b:Addr) (aa:List Int) (tr tm:Addr) (ps:List (Addr×M4)):Prop where
 book:H b=some (.tup [.ref tr,.ref tm])
 aa:H tr=some (.tup (aa.map V.int))
 meets:H tm=some (.tup (ps.map λa=>V.ref a.1))
 rows:kF H ps
theorem kF.aS {H H':Hp}{ps:List (Addr×M4)}(a:kF H ps)(t:bX H H'):kF H' ps:=λx hx=>t _ _ (a x hx)
theorem aL.aS {H H':Hp}{b tr tm:Addr}{aa:List Int}{ps:List (Addr×M4)}(a:aL H b aa tr tm ps)(t:bX H H'):aL H' b aa tr tm ps:=
 ⟨t _ _ a.book,t _ _ a.aa,t _ _ a.meets,a.rows.aS t⟩
def Q3 (K:PySem.W.Frag):Sp:=λvs H Q _=>∃ (a:Addr) (ns:List Int) (k:Nat),vs=[.ref a,.int k]/\aH K H a (ns.map V.int)/\k < 1000/\∀ p H',H p=none->bN H' p->au H H'->Q (.ref p) H'
def TZ:Sp:=λvs H Q _=>∃ p n,vs=[.ref p,.int n]/\0 < n/\n < 2 ^ 200/\bN H p/\∀ d H',0<=d->d < n->Go p H H'->Q (.int d) H'
def Wz:Sp:=λvs H Q _=>∃ p,vs=[.ref p]/\bN H p/\∀ d H',0<=d->d<=1000000000->Go p H H'->Q (.int d) H'
def QZ:Sp:=λvs H Q _=>∃ p,∃ n:Nat,vs=[.ref p,.int n]/\n<=1000/\bN H p/\∀ (t:Addr) (aa:List Int) (H':Hp),Go p H H'->H' t=some (.tup (aa.map V.int))->aa.length=n->(∀ r∈aa,(0:Int)<=r/\r<=99)->Q (.ref t) H'
def T3:Sp:=λvs H Q _=>∃ p,vs=[.ref p]/\bN H p/\∀ d H',0<=d->d<=16000000->Go p H H'->Q (.int d) H'
def uZ:Sp:=λvs H Q _=>∃ p,∃ w:Int,∃ n:Nat,vs=[.ref p,.int w,.int n]/\n<=60/\w < 1000/\(n=0\/2<=w)/\bN H p /\
 ∀ (t:Addr) (ps:List (Addr×M4)) (H':Hp),Go p H H'->H' t=some (.tup (ps.map λa=>V.ref a.1))->kF H' ps->Good w (ps.map (·.2))->ps.length=n->Q (.ref t) H'
def T6:Sp:=λvs H Q _=>∃ p,∃ a:Int,∃ n:Nat,vs=[.ref p,.int a,.int n]/\1<=a/\a<=100/\n<=60/\bN H p /\
 ∀ (b:Addr) (aa:List Int) (tr tm:Addr) (ps:List (Addr×M4)) (H':Hp),Go p H H'->aL H' b aa tr tm ps->1<=aa.length->(aa.length:Int)<=a->(∀ r∈aa,(0:Int)<=r/\r<=99)->Good aa.length (ps.map (·.2))->ps.length<=n->Q (.ref b) H'
theorem j6 {c A B:Prop}[Decidable c](h1:c->A)(h2:¬ c->B):if decide c=true then A else B:=by
 by_cases h:c
 ·rw [if_pos (decide_eq_true h)];exact h1 h
 ·rw [if_neg (by simpa using h)];exact h2 h
theorem aF {c:Bool}{A B:Prop}(hc:c=false)(h:B):if c=true then A else B:=by rw [if_neg (by rw [hc];exact zM)];exact h
theorem aI {c:Bool}{A B:Prop}(hc:c=true)(h:A):if c=true then A else B:=by rw [if_pos hc];exact h
theorem kZ {c:Bool}{A B:Prop}(h1:c=true->A)(h2:c=false->B):if c=true then A else B:=by
 cases c with
 | true=>exact h1 rfl
 | false=>exact h2 rfl
theorem UG {c A B:Prop}[Decidable c](hc:c)(h:B):if (!decide c)=true then A else B:=Xm hc h
theorem xk {H:Hp}{p:Addr}{o:HO}(h:H p=none):au H (upd H p o):=λb u e=>by
 rw [xq (xj e h)];exact e
def M4.row (r:M4):List Int:=[r.t,r.lo,r.hi,r.m]
structure VC (w Sj:Int) (bs:List Int) (fs:List (Addr×M4)):Prop where
 each:∀ a∈fs,0<=a.2.lo/\a.2.lo < a.2.hi/\a.2.hi < w/\1<=a.2.t/\a.2.t<=Sj/\1<=a.2.m/\a.2.m<=99
 pw:fs.Pairwise λa b=>a.2.t=b.2.t->apart a.2 b.2
 bz:∀ a∈fs,a.2.t=Sj->a.2.lo∈bs/\a.2.hi∈bs
theorem VC.step {w wh gap one other m:Int}{bs bs':List Int}{fs:List (Addr×M4)}{a:Addr}(F:VC w wh bs fs)(h1:1<=wh)(g0:0<=gap)(o0:0<=one)(o1:one < w)(p0:0<=other)(p1:other < w)(ne:one≠other)
  (m0:1<=m) (m1:m<=99) (hg:gap=0->one ∉ bs/\other ∉ bs) (hb:∀ x∈bs,gap=0->x∈bs') (iY:one∈bs') (ML:other∈bs') :
  VC w (wh + gap) bs' (fs++[(a,⟨if other < one then other else one,if other > one then other else one,wh + gap,m⟩)]):=by
 refine ⟨λb hb=>?_,?_,λb hm e=>?_⟩
 ·rcases zX.mp hb with h | h
  ·obtain ⟨a1,a2,a3,a4,a5,a6,a7⟩:=F.each b h;exact ⟨a1,a2,a3,a4,by omega,a6,a7⟩
  ·cases zK.mp h;by_cases c:other < one
   ·rw [if_pos c,if_neg (by omega)];exact ⟨p0,c,o1,by show 1<=wh + gap;omega,zl _,m0,m1⟩
   ·rw [if_neg c,if_pos (by omega)];exact ⟨o0,by show one < other;omega,p1,by show 1<=wh + gap;omega,zl _,m0,m1⟩
 ·rw [List.pairwise_append];refine ⟨F.pw,List.pairwise_singleton _ _,λb hb c hc e=>?_⟩;cases zK.mp hc;have e':b.2.t=wh + gap:=e;obtain ⟨a1,a2,a3,a4,a5,a6,a7⟩:=F.each b hb;have g:gap=0:=by omega
  obtain ⟨x1,x2⟩:=F.bz b hb (by omega);obtain ⟨n1,n2⟩:=hg g;have q1:b.2.lo≠one:=λz=>n1 (z ▸ x1);have q2:b.2.lo≠other:=λz=>n2 (z ▸ x1);have q3:b.2.hi≠one:=λz=>n1 (z ▸ x2);have q4:b.2.hi≠other:=λz=>n2 (z ▸ x2);unfold apart;dsimp only;by_cases c:other < one
  ·rw [if_pos c,if_neg (by omega)];exact ⟨q2,q1,q4,q3⟩
  ·rw [if_neg c,if_pos (by omega)];exact ⟨q1,q2,q3,q4⟩
 ·rcases zX.mp hm with h | h
  ·obtain ⟨a1,a2,a3,a4,a5,a6,a7⟩:=F.each b h;obtain ⟨x1,x2⟩:=F.bz b h (by omega);exact ⟨hb _ x1 (by omega),hb _ x2 (by omega)⟩
  ·cases zK.mp h;by_cases c:other < one
   ·rw [if_pos c,if_neg (by omega)];exact ⟨ML,iY⟩
   ·rw [if_neg c,if_pos (by omega)];exact ⟨iY,ML⟩
def M4.jo (l:Int)(r:M4):M4:=⟨r.lo,r.hi,r.t + l,r.m⟩
theorem VC.good {w wh l:Int}{bs:List Int}{fs qs:List (Addr×M4)}(F:VC w wh bs fs)(n:fs.length<=60)(l0:0<=l)(l1:fs≠[]->wh + l<=1000000000)(p:qs.Perm fs)(s:qs.Pairwise λa b=>lx b.2.row a.2.row=false) :
  Good w (qs.map λa=>a.2.jo l):=by
 refine ⟨by rw [zA,p.length_eq];exact n,λr hr=>?_,?_⟩
 ·obtain ⟨a,ha,rfl⟩:=zS.mp hr;have hm:=p.mem_iff.mp ha;obtain ⟨a1,a2,a3,a4,a5,a6,a7⟩:=F.each a hm;have:=l1 (List.ne_nil_of_mem hm);unfold M4.jo;exact ⟨a1,a2,a3,by show 1<=a.2.t + l;omega,by show a.2.t + l<=1000000000;omega,a6,a7⟩
 ·rw [xP];have ap:qs.Pairwise λa b=>a.2.t=b.2.t->apart a.2 b.2:=(List.Perm.pairwise_iff (λ{x y} h e=>by
   obtain ⟨a1,a2,a3,a4⟩:=h e.symm;exact ⟨a1.symm,a3.symm,a2.symm,a4.symm⟩) p).mpr F.pw
  refine (s.and ap).imp λ{a b} ⟨h1,h2⟩=>?_;unfold M4.jo;dsimp only;unfold M4.row lx at h1;by_cases e:a.2.t=b.2.t
  ·have q:=h2 e;rw [if_pos e.symm] at h1;unfold lx at h1;rw [if_neg λz=>q.1 z.symm] at h1;simp only [decide_eq_false_iff_not] at h1;refine .inr ⟨by omega,?_,q⟩;have:=q.1;omega
  ·rw [if_neg λz=>e z.symm] at h1;simp only [decide_eq_false_iff_not] at h1;exact .inl (by omega)
def TH (r:List Int):M4:=⟨r.getD 1 0,r.getD 2 0,r.getD 0 0,r.getD 3 0⟩
theorem Mf {fs:List (Addr×M4)}{qs:List (Addr×List Int)}(p:qs.Perm (fs.map λa=>(a.1,a.2.row)))(s:qs.Pairwise λa b=>lx b.2 a.2=false) :
  ∃ rs:List (Addr×M4),rs.Perm fs/\(rs.Pairwise λa b=>lx b.2.row a.2.row=false)/\qs=rs.map λa=>(a.1,a.2.row):=by
 have e:qs=(qs.map λa=>(a.1,TH a.2)).map λa=>(a.1,a.2.row):=by
  rw [yY];refine (List.map_id qs).symm.trans (List.map_congr_left λx hx=>?_);obtain ⟨a,_,rfl⟩:=zS.mp (p.mem_iff.mp hx);rfl
 refine ⟨qs.map λa=>(a.1,TH a.2),?_,?_,e⟩
 ·have:=p.map λa=>(a.1,TH a.2);rw [yY] at this;refine this.trans (.of_eq ?_);refine (List.map_congr_left λx _=>?_).trans (List.map_id fs);rfl
 ·rw [e,xP] at s;exact s
theorem pM (bs:List Int):(bs.map V.int).all b9=true:=by rw [yS];intro x hx;obtain ⟨b,_,rfl⟩:=zS.mp hx;rfl
theorem tU {x:Int}{bs:List Int}:RV (.int x) (bs.map V.int)=decide (x∈bs):=by
 unfold RV;induction bs with
 | nil=>rfl
 | cons b bs ih=>
  rw [zd,xM,ih];by_cases h:x=b
  ·subst h;simp [r9]
  ·have h':¬ b=x:=λz=>h z.symm;simp [r9,h,h']
def Zd (p lf:Addr)(w:Int)(n:Nat)(H:Hp)(i:Nat)(σ:St)(H3:Hp):Prop:=
 ∃ v6 v7 v8 v9 v10 wh lb bs,∃ fs:List (Addr×M4),σ=[some (.ref p),some (.int w),some (.int n),some (.ref lf),some (.int wh),some (.ref lb),v6,v7,v8,v9,v10,none] /\
  H3 lf=some (.lst (fs.map λa=>V.ref a.1))/\H3 lb=some (.lst (List.map V.int bs))/\lb≠lf/\lb≠p/\(∀ a∈fs,H3 a.1=some (.tup (a.2.row.map V.int)))/\VC w wh bs fs/\fs.length=i/\bs.length<=2 * i/\1<=wh/\wh<=10000000 + 16000000 * i/\Go p H H3
theorem Zd.step {p lf lb t:Addr}{w wh gap one other m:Int}{n i:Nat}{H Hx:Hp}{bs bs':List Int}{fs:List (Addr×M4)}{v6 v7 v8 v9 v10:Option V}(Qq:lf≠p)(R1:H lf=none)
  (F:VC w wh bs fs) (OU:fs.length=i) (Uy:bs'.length<=2 * i + 2) (Yt:1<=wh) (wh2:wh<=10000000 + 16000000 * i) (hf:Hx lf=some (.lst (fs.map λa=>V.ref a.1))) (hb:Hx lb=some (.lst (List.map V.int bs'))) (nb:lb≠lf) (WZ:lb≠p)
  (rows:∀ a∈fs,Hx a.1=some (.tup (a.2.row.map V.int))) (go:Go p H Hx) (ht:Hx t=none)
  (g0:0<=gap) (g1:gap<=16000000) (o0:0<=one) (o1:one < w) (p0:0<=other) (p1:other < w) (ne:one≠other) (m0:1<=m) (m1:m<=99) (hg:gap=0->one ∉ bs/\other ∉ bs) (V2:∀ x∈bs,gap=0->x∈bs') (iY:one∈bs') (ML:other∈bs') :
  Zd p lf w n H (i + 1) [some (.ref p),some (.int w),some (.int n),some (.ref lf),some (.int (wh + gap)),some (.ref lb),v6,v7,v8,v9,v10,none]
   (upd (upd Hx t (.tup [.int (wh + gap),.int (if other < one then other else one),.int (if other > one then other else one),.int m])) lf (.lst ((fs.map λa=>V.ref a.1)++[.ref t]))):=by
 have ntf:t≠lf:=(xj hf ht).symm;refine ⟨v6,v7,v8,v9,v10,wh + gap,lb,bs',fs++[(t,⟨if other < one then other else one,if other > one then other else one,wh + gap,m⟩)],rfl,by rw [xg,zH];rfl,?_,nb,WZ,λa ha=>?_,F.step Yt g0 o0 o1 p0 p1 ne m0 m1 hg V2 iY ML,by rw [zN,OU];rfl,by omega,by omega,by omega,λb u nb e=>?_,?_⟩
 ·rw [xq nb,xq (xj hb ht)];exact hb
 ·rcases zX.mp ha with h | h
  ·have:=rows a h;rw [xq (cH this hf (by intro z;cases z)),xq (xj this ht)];exact this
  ·cases zK.mp h;rw [xq ntf,xg];rfl
 ·rw [xq (xj e R1),xq (xj (go.1 b u nb e) ht)];exact go.1 b u nb e
 ·have:=go.2.new (o:=.tup [.int (wh + gap),.int (if other < one then other else one),.int (if other > one then other else one),.int m]) ht;obtain ⟨x,y,z,e⟩:=this;exact ⟨x,y,z,by rw [xq Qq.symm];exact e⟩
theorem Uk {one x w:Int}(o0:0<=one)(o1:one < w)(x0:0<=x)(x1:x < w - 1):0<=(one + 1 + x) % w/\(one + 1 + x) % w < w/\one≠(one + 1 + x) % w:=by
 refine ⟨xK _ (by omega),yr _ (by omega),?_⟩;by_cases h:one + 1 + x < w
 ·rw [Int.emod_eq_of_lt (by omega) h];omega
 ·have e:(one + 1 + x) % w=(one + 1 + x - w) % w:=by
   have:one + 1 + x=(one + 1 + x - w) + w:=by omega
   rw [this,Int.add_emod_right];congr 1;omega
  rw [e,Int.emod_eq_of_lt (by omega) (by omega)];omega
theorem Go.same {p:Addr}{H H1 H2:Hp}(a:Go p H H1)(s:au H1 H2):Go p H H2:=⟨λb u n e=>s b u (a.1 b u n e),by obtain ⟨x,y,z,e⟩:=a.2;exact ⟨x,y,z,s _ _ e⟩⟩
theorem wO {α:Type}{f:α->V}{l:List α}{i:Nat}{x:V}(h:(l.map f)[i]?=some x):∃ r,l[i]?=some r/\x=f r:=by
 rw [zI] at h;cases e:l[i]? with
 | none=>rw [e] at h;cases h
 | some r=>rw [e] at h;exact ⟨r,rfl,(Option.some.inj h).symm⟩
theorem wP {α:Type}{l:List α}{i:Nat}{r:α}(h:l[i]?=some r):l.take (i + 1)=l.take i++[r]:=by rw [List.take_add_one,h];rfl
theorem au.put {l:Addr}{H H':Hp}{o:HO}(h:H l=none)(s:au H H'):au H (upd H' l o):=λb u e=>by rw [xq (xj e h)];exact s b u e
theorem aL.same {H H':Hp}{b tr tm:Addr}{aa:List Int}{ps:List (Addr×M4)}(a:aL H b aa tr tm ps)(t:au H H'):aL H' b aa tr tm ps:=a.aS (bX.same t)
theorem fJ {H:Hp}{l:Addr}{xs:List V}(h:H l=some (.lst xs)):gX H (.ref l)=some "list" := by simp only [gX,h]
theorem R6 {xs:List V}(h:xs.length=4):∃ a b c d,xs=[a,b,c,d]:=by rcases xs with _ | ⟨a,_ | ⟨b,_ | ⟨c,_ | ⟨d,_ | ⟨e,xs⟩⟩⟩⟩⟩ <;> first | exact ⟨_,_,_,_,rfl⟩ | (simp only [zW,yJ] at h;omega)
def QV:Sp:=λvs H Q _=>∃ x t,vs=[x]/\gX H x=some t/\Q (.bl (t == "int")) H
def jN (lo hi:Int):V->Bool
 | .int i=>decide (lo<=i) && decide (i<=hi)
 | _=>false
def NV:Sp:=λvs H Q _=>∃ x t lo hi,vs=[x,.int lo,.int hi]/\gX H x=some t/\Q (.bl (jN lo hi x)) H
def TY:Sp:=λvs H Q _=>∃ x t,vs=[x]/\gX H x=some t/\Q (.bl (jN 0 1000000000 x)) H
theorem KN {H:Hp}{x:V}(h:gX H x=some "int"):∃ i,x=.int i:=by
 cases x with
 | int i=>exact ⟨i,rfl⟩
 | ref a=>
  unfold gX at h;dsimp only at h;split at h <;> simp at h
 | _=>simp [gX] at h
theorem vM {H:Hp}{x:V}{t:String}{lo hi:Int}(h:gX H x=some t)(n:¬ t = "int"):jN lo hi x=false:=by
 cases x with
 | int i=>simp [gX] at h;exact absurd h.symm n
 | _=>rfl
def abI (w:Int)(r:M4):Bool:=decide (r.lo=w) || decide (r.hi=w)
def numsTo (ms:List M4)(w:Int):Nat->List Int
 | 0=>[]
 | i + 1=>numsTo ms w i++(if (ms[i]?).any (abI w)=true then [(i:Int)] else [])
theorem RU {w a b:Int}:RV (.int w) [.int a,.int b]=(decide (a=w) || decide (b=w)):=by simp only [RV,r9,xM,List.any_nil,Bool.or_false];rfl
def cnt (ms:List M4)(t:Int):Nat:=(ms.filter λr=>decide (r.t<=t)).length
theorem uh {ms:List M4}{t:Int}{i:Nat}{r:M4}(h:ms[i]?=some r):cnt (ms.take (i + 1)) t=cnt (ms.take i) t + (if r.t<=t then 1 else 0):=by unfold cnt;rw [wP h,List.filter_append,zN];congr 1;by_cases c:r.t<=t <;> simp [c]
def N9:Sp:=λvs H Q _=>∃ b t aa tr tm ps,vs=[.ref b,.int t]/\aL H b aa tr tm ps/\ps.length<=1000/\∀ H',au H H'->Q (.int (cnt (ps.map (·.2)) t)) H'
def NY:Sp:=λvs H Q _=>∃ p b j aa tr tm ps,vs=[.ref p,.ref b,.int j]/\(j=0\/j=1)/\aL H b aa tr tm ps/\Good aa.length (ps.map (·.2))/\bN H p/\∀ d H',0<=d->d<=1000000000->Go p H H'->Q (.int d) H'
theorem Good.len {w:Int}{ps:List (Addr×M4)}(g:Good w (ps.map (·.2))):ps.length<=60:=by simpa using g.kM
theorem Good.at {w:Int}{ps:List (Addr×M4)}(g:Good w (ps.map (·.2))){r:Addr×M4}(h:r∈ps):0<=r.2.lo/\r.2.lo < r.2.hi/\r.2.hi < w/\1<=r.2.t/\r.2.t<=1000000000/\1<=r.2.m/\r.2.m<=99:=g.each _ (zS.mpr ⟨r,h,rfl⟩)
end Sm
namespace L2
open PySem PySem.Spec PyProof.Rows
end L2
namespace fV
open PySem
theorem nE {xs:Array Nat}{j:Nat}(so:xs.toList.Pairwise (· < ·)):∀ (fuel lo hi:Nat),hi - lo<=fuel->lo<=hi->hi<=xs.size->(∀ i (h:i < xs.size),i < lo->xs[i] < j)->(∀ i (h:i < xs.size),hi<=i->j<=xs[i]) ->
  SetTable.below.go xs j fuel lo hi<=xs.size/\(∀ i (h:i < xs.size),i < SetTable.below.go xs j fuel lo hi->xs[i] < j)/\∀ i (h:i < xs.size),SetTable.below.go xs j fuel lo hi<=i->j<=xs[i]
 | 0,lo,hi,hf,h1,h2,hl,hh=>by
  have:lo=hi:=by omega
  subst this;unfold SetTable.below.go;exact ⟨h2,hl,hh⟩
 | fuel + 1,lo,hi,hf,h1,h2,hl,hh=>by
  unfold SetTable.below.go;have mono:∀ a b (ha:a < xs.size) (hb:b < xs.size),a < b->xs[a] < xs[b]:=λa b ha hb ab=>by
   have:=yE.mp so a b (by simpa using ha) (by simpa using hb) ab;simpa using this
  by_cases c:lo < hi
  ·rw [if_pos c];dsimp only;have hm:(lo + hi) / 2 < xs.size:=by omega
   have e:xs.getD ((lo + hi) / 2) j=xs[(lo + hi) / 2]:=by simp [Array.getD,hm]
   rw [e];by_cases d:xs[(lo + hi) / 2] < j
   ·rw [if_pos d];refine nE so fuel _ _ (by omega) (by omega) h2 (λi h f9=>?_) hh;by_cases q:i=(lo + hi) / 2
    ·subst q;exact d
    ·exact Nat.lt_trans (mono i ((lo + hi) / 2) h hm (by omega)) d
   ·rw [if_neg d];refine nE so fuel _ _ (by omega) (by omega) (by omega) hl (λi h f9=>?_);by_cases q:i=(lo + hi) / 2
    ·subst q;omega
    ·have:=mono ((lo + hi) / 2) i hm h (by omega);omega
  ·rw [if_neg c];have:lo=hi:=by omega
   subst this;exact ⟨h2,hl,hh⟩
theorem nC {xs:Array Nat}{j:Nat}(so:xs.toList.Pairwise (· < ·)):SetTable.below xs j<=xs.size/\(∀ i (h:i < xs.size),i < SetTable.below xs j->xs[i] < j)/\∀ i (h:i < xs.size),SetTable.below xs j<=i->j<=xs[i]:=
 nE so _ _ _ (by omega) (by omega) (zF _) (λ_ _ h=>absurd h (zf _)) (λi h hi=>absurd h (by omega))
theorem below_at {xs:Array Nat}{j i:Nat}(so:xs.toList.Pairwise (· < ·))(h:xs[i]?=some j):SetTable.below xs j=i:=by
 obtain ⟨hi,e⟩:=Array.getElem?_eq_some_iff.mp h;obtain ⟨b1,b2,b3⟩:=nC (j:=j) so;rcases Nat.lt_trichotomy (SetTable.below xs j) i with c | c | c
 ·have hb:SetTable.below xs j < xs.size:=by omega
  have:=b3 _ hb (zF _);have m:=yE.mp so (SetTable.below xs j) i (by simpa using hb) (by simpa using hi) c;simp only [Array.getElem_toList] at m;omega
 ·exact c
 ·have:=b2 i hi c;omega
theorem jU {t:SetTable}{j i:Nat}(so:t.place.toList.Pairwise (· < ·))(h:t.place[i]?=some j):t.slot j=.live i:=by unfold SetTable.slot;dsimp only;rw [below_at so h,h];simp
theorem vh {t:SetTable}{j:Nat}(nd:t.dummies=#[])(h:j ∉ t.place.toList):t.slot j=.empty:=by
 unfold SetTable.slot;dsimp only;rw [if_neg,if_neg]
 ·rw [nd];unfold SetTable.has;simp
 ·intro c;have:t.place[SetTable.below t.place j]?=some j:=by simpa using c
  exact h (by simpa using Array.mem_of_getElem? this)
def Nu (m:Nat)(p:SetTable.Probe):SetTable.Probe:=
 if p.more > 0 then { p with j:=p.j + 1,more:=p.more - 1 } else
 { p with j:=(SetTable.leap m p.i p.perturb).1,more:=SetTable.runEnd m (SetTable.leap m p.i p.perturb).1 - (SetTable.leap m p.i p.perturb).1,i:=(SetTable.leap m p.i p.perturb).1,perturb:=(SetTable.leap m p.i p.perturb).2 }
theorem nJ (t:SetTable)(p:SetTable.Probe):t.advance p=Nu t.mask p:=rfl
def run (m i u:Nat):SetTable.Probe:={ j:=i,more:=SetTable.runEnd m i - i,i,perturb:=u,dummy:=none }
def start (m:Nat)(h:Int):SetTable.Probe:=run m (SetTable.bits h % (m + 1)) (SetTable.bits h)
def ad (m:Nat):Nat->SetTable.Probe->SetTable.Probe
 | 0,p=>p
 | n + 1,p=>ad m n (Nu m p)
theorem jE (m n:Nat)(p:SetTable.Probe):ad m (n + 1) p=Nu m (ad m n p):=by
 induction n generalizing p with
 | zero=>rfl
 | succ n ih=>exact ih (Nu m p)
theorem P7 (m a b:Nat)(p:SetTable.Probe):ad m (a + b) p=ad m b (ad m a p):=by
 induction a generalizing p with
 | zero=>rw [Nat.zero_add];rfl
 | succ a ih=>rw [Nat.succ_add];exact ih (Nu m p)
theorem Nb {m:Nat}{p:SetTable.Probe}:(Nu m p).dummy=p.dummy:=by unfold Nu;split <;> rfl
theorem uA {m:Nat}:∀ {n:Nat}{p:SetTable.Probe},(ad m n p).dummy=p.dummy
 | 0,_=>rfl
 | n + 1,p=>(uA (n:=n)).trans Nb
def at' (m:Nat)(h:Int)(n:Nat):Nat:=(ad m n (start m h)).j
theorem iw {m i u:Nat}:∀ k,k<=SetTable.runEnd m i - i->ad m k (run m i u)={ j:=i + k,more:=SetTable.runEnd m i - i - k,i,perturb:=u,dummy:=none }
 | 0,_=>rfl
 | k + 1,h=>by
  rw [jE,iw k (by omega)];unfold Nu;dsimp only;rw [if_pos (by omega)];rfl
theorem kT {m i u:Nat}:ad m (SetTable.runEnd m i - i + 1) (run m i u)=run m ((i * 5 + 1 + u / 32) % (m + 1)) (u / 32):=by rw [jE,iw _ (zF _)];unfold Nu;dsimp only;rw [if_neg (by omega)];rfl
theorem fk {m i:Nat}:SetTable.runEnd m i - i<=9/\i<=SetTable.runEnd m i/\(i<=m->SetTable.runEnd m i<=m):=by unfold SetTable.runEnd;split <;> omega
def runs (m:Nat):Nat->Nat->Nat->Nat×Nat
 | 0,i,u=>(i,u)
 | r + 1,i,u=>runs m r ((i * 5 + 1 + u / 32) % (m + 1)) (u / 32)
theorem KR {m:Nat}:∀ (r i u:Nat),∃ c,c<=10 * r/\ad m c (run m i u)=run m (runs m r i u).1 (runs m r i u).2
 | 0,i,u=>⟨0,zF _,rfl⟩
 | r + 1,i,u=>by
  obtain ⟨c,hc,e⟩:=KR r ((i * 5 + 1 + u / 32) % (m + 1)) (u / 32);refine ⟨SetTable.runEnd m i - i + 1 + c,?_,?_⟩
  ·have:=(fk (m:=m) (i:=i)).1;omega
  ·rw [P7,kT,e];rfl
theorem sP {m:Nat}:∀ (a b i u:Nat),runs m (a + b) i u=runs m b (runs m a i u).1 (runs m a i u).2
 | 0,b,i,u=>by rw [Nat.zero_add];rfl
 | a + 1,b,i,u=>by rw [Nat.succ_add];exact sP a b _ _
theorem je {m:Nat}:∀ (r i u:Nat),(runs m r i u).2=u / 32 ^ r
 | 0,i,u=>by simp [runs]
 | r + 1,i,u=>by
  show (runs m r _ (u / 32)).2=_;rw [je r,Nat.div_div_eq_div_mul,Nat.pow_succ,Nat.mul_comm]
theorem lY {m:Nat}:∀ (r i u:Nat),i<=m->(runs m r i u).1<=m
 | 0,i,u,h=>h
 | r + 1,i,u,h=>lY r _ _ (yf.mp (Nat.mod_lt _ (by omega)))
def f5 (m:Nat):Nat->Nat->Nat
 | 0,i=>i
 | s + 1,i=>f5 m s ((i * 5 + 1) % (m + 1))
theorem KQ {m:Nat}:∀ (s i:Nat),(runs m s i 0).1=f5 m s i
 | 0,i=>rfl
 | s + 1,i=>by
  show (runs m s ((i * 5 + 1 + 0 / 32) % (m + 1)) (0 / 32)).1=f5 m s ((i * 5 + 1) % (m + 1));rw [Nat.zero_div,Nat.add_zero];exact KQ s _
theorem rF {m:Nat}:∀ (a b i:Nat),f5 m (a + b) i=f5 m b (f5 m a i)
 | 0,b,i=>by rw [Nat.zero_add];rfl
 | a + 1,b,i=>by rw [Nat.succ_add];exact rF a b _
def rN (m:Nat):Nat->Nat->Nat->Nat
 | 0,_,acc=>acc
 | s + 1,i,acc=>rN m s ((i * 5 + 1) % (m + 1)) (acc ||| (2 ^ i))
theorem kQ {m j:Nat}:∀ (s i acc:Nat),(rN m s i acc).testBit j=true->acc.testBit j=true\/∃ a,a < s/\f5 m a i=j
 | 0,i,acc,h=>.inl h
 | s + 1,i,acc,h=>by
  rcases kQ s _ _ h with h | ⟨a,ha,e⟩
  ·rw [zx,yg] at h;rcases h with h | h
   ·exact .inl h
   ·rw [z8] at h;exact .inr ⟨0,by omega,of_decide_eq_true h⟩
  ·exact .inr ⟨a + 1,by omega,e⟩
def Mask (m:Nat):Prop:=m=7\/m=31\/m=127\/m=511\/m=2047\/m=8191
theorem Vo {m:Nat}(hm:Mask m):f5 m (m + 1) 0=0/\∀ j,j<=m->∃ a,a<=m/\f5 m a 0=j:=by
 have key:f5 m (m + 1) 0=0/\rN m (m + 1) 0 0=2 ^ (m + 1) - 1:=by
  rcases hm with rfl | rfl | rfl | rfl | rfl | rfl <;> constructor <;> decide +kernel
 refine ⟨key.1,λj hj=>?_⟩;have:(rN m (m + 1) 0 0).testBit j=true:=by
  rw [key.2,Nat.testBit_two_pow_sub_one];exact decide_eq_true (by omega)
 rcases kQ _ _ _ this with h | ⟨a,ha,e⟩
 ·simp at h
 ·exact ⟨a,by omega,e⟩
theorem cover {m i j:Nat}(hm:Mask m)(hi:i<=m)(hj:j<=m):∃ s,s<=m/\f5 m s i=j:=by
 obtain ⟨z,all⟩:=Vo hm;obtain ⟨a,ha,rfl⟩:=all i hi;obtain ⟨b,hb,rfl⟩:=all j hj;by_cases c:a<=b
 ·exact ⟨b - a,by omega,by rw [<-rF];congr 1;omega⟩
 ·refine ⟨b + (m + 1) - a,by omega,?_⟩;rw [<-rF,show a + (b + (m + 1) - a)=(m + 1) + b from by omega,rF,z]
theorem reach {m i u j:Nat}(hm:Mask m)(hi:i<=m)(hu:u < 2 ^ 64)(hj:j<=m):∃ r,r<=m + 13/\(runs m r i u).1=j:=by
 have p0:(runs m 13 i u).2=0:=by
  rw [je];exact Nat.div_eq_of_lt (zU hu (by decide))
 obtain ⟨s,hs,e⟩:=cover hm (lY 13 i u hi) hj;refine ⟨13 + s,by omega,?_⟩;rw [sP,p0,KQ,e]
theorem Lp (h:Int):SetTable.bits h < 2 ^ 64:=by
 unfold SetTable.bits;have a:=xK h (show (2 ^ 64:Int)≠0 by decide);have b:=yr h (show (0:Int) < 2 ^ 64 by decide);have c:((h % 2 ^ 64).toNat:Int)=h % 2 ^ 64:=Int.toNat_of_nonneg a;have d:((2 ^ 64:Nat):Int)=(2:Int) ^ 64:=by decide
 omega
theorem Oj {m j:Nat}{h:Int}(hm:Mask m)(hj:j<=m):∃ n,n<=10 * (m + 13)/\at' m h n=j:=by obtain ⟨r,hr,e⟩:=reach (u:=SetTable.bits h) hm (yf.mp (Nat.mod_lt (SetTable.bits h) (show 0 < m + 1 by omega))) (Lp h) hj;obtain ⟨c,hc,e2⟩:=KR (m:=m) r (SetTable.bits h % (m + 1)) (SetTable.bits h);refine ⟨c,by omega,?_⟩;unfold at' start;rw [e2,e];rfl
theorem least {P:Nat->Prop}:∀ n,P n->∃ k,k<=n/\P k/\∀ i,i < k->¬ P i:=by
 intro n;induction n using Nat.strongRecOn with
 | _ n ih=>
  intro h;by_cases c:∃ i,i < n/\P i
  ·obtain ⟨i,hi,pi⟩:=c;obtain ⟨k,hk,pk,al⟩:=ih i hi pi;exact ⟨k,by omega,pk,al⟩
  ·exact ⟨n,zF _,h,λi hi pi=>c ⟨i,hi,pi⟩⟩
theorem vZ {m:Nat}{O:Nat->Prop}(h:Int)(hm:Mask m)(he:∃ j,j<=m/\¬ O j):∃ N,N<=10 * (m + 13)/\¬ O (at' m h N)/\∀ n,n < N->O (at' m h n):=by obtain ⟨j,hj,no⟩:=he;obtain ⟨n,hn,e⟩:=Oj (h:=h) hm hj;obtain ⟨k,hk,pk,al⟩:=least (P:=λn=>¬ O (at' m h n)) n (by rw [e];exact no);exact ⟨k,by omega,pk,λi hi=>Classical.byContradiction λc=>al i hi c⟩
theorem uz {m:Nat}{h:Int}:∀ n,at' m h n<=m:=by
 have key:∀ n,(ad m n (start m h)).j + (ad m n (start m h)).more<=m:=by
  have step:∀ p:SetTable.Probe,p.j + p.more<=m->(Nu m p).j + (Nu m p).more<=m:=λp hp=>by
   unfold Nu;split
   ·dsimp only;omega
   ·dsimp only;have l:(SetTable.leap m p.i p.perturb).1<=m:=yf.mp (Nat.mod_lt _ (by omega));have:=fk (m:=m) (i:=(SetTable.leap m p.i p.perturb).1);have:=this.2.2 l;omega
  intro n;induction n with
  | zero=>
   show SetTable.bits h % (m + 1) + (SetTable.runEnd m (SetTable.bits h % (m + 1)) - SetTable.bits h % (m + 1))<=m;have l:SetTable.bits h % (m + 1)<=m:=yf.mp (Nat.mod_lt _ (by omega));have:=fk (m:=m) (i:=SetTable.bits h % (m + 1));have:=this.2.2 l;omega
  | succ n ih=>rw [jE];exact step _ ih
 intro n;have:=key n;unfold at';omega
end fV
namespace fV
open PySem
structure Tab (t:SetTable) (es:Array (Int×Value)):Prop where
 mask:Mask t.mask
 nd:t.dummies=#[]
 so:t.place.toList.Pairwise (· < ·)
 sz:t.place.size=es.size
 small:∀ j∈t.place.toList,j<=t.mask
 pA:es.size * 5 < t.mask * 3
 way:∀ i (h:i < es.size),∃ n,t.place[i]?=some (at' t.mask es[i].1 n)/\∀ n',n' < n->at' t.mask es[i].1 n'∈t.place.toList
theorem Tab.room {t:SetTable}{es:Array (Int×Value)}(T:Tab t es):es.size<=t.mask:=by have:=T.pA;omega
theorem Tab.fits {t:SetTable}{es:Array (Int×Value)}(T:Tab t es):t.fits es.size=true:=by unfold SetTable.fits SetTable.fill;have:=T.room;rw [T.sz,T.nd];simp;exact this
theorem Tab.odd {t:SetTable}{es:Array (Int×Value)}(T:Tab t es):t.gaveWay=false:=by unfold SetTable.gaveWay;rcases T.mask with h | h | h | h | h | h <;> rw [h] <;> rfl
theorem rQ:∀ (n:Nat) (l:List Nat),(∀ j,j < n->j∈l)->n<=l.length
 | 0,_,_=>za _
 | n + 1,l,h=>by
  have:=rQ n (l.erase n) λj hj=>(List.mem_erase_of_ne (by omega)).mpr (h j (by omega));rw [List.length_erase_of_mem (h n (by omega))] at this;have:=List.length_pos_of_mem (h n (by omega));omega
theorem OV {l:List Nat}{m:Nat}(h:l.length<=m):∃ j,j<=m/\j ∉ l:=by refine Classical.byContradiction λc=>?_;have:=rQ (m + 1) l λj hj=>Classical.byContradiction λz=>c ⟨j,by omega,z⟩;omega
theorem Tab.left {t:SetTable}{es:Array (Int×Value)}(T:Tab t es):∃ j,j<=t.mask/\¬ j∈t.place.toList:=by have:=OV (l:=t.place.toList) (m:=t.mask) (by rw [Array.length_toList,T.sz];exact T.room);exact this
theorem Tab.first {t:SetTable}{es:Array (Int×Value)}(T:Tab t es)(h:Int):∃ N,N<=10 * (t.mask + 13)/\¬ at' t.mask h N∈t.place.toList/\∀ n,n < N->at' t.mask h n∈t.place.toList:=vZ h T.mask T.left
theorem P6 {t:SetTable}{j:Nat}(h:j∈t.place.toList):∃ i:Nat,t.place[i]?=some j:=by obtain ⟨i,hi,e⟩:=List.getElem_of_mem h;exact ⟨i,by rw [<-Array.getElem?_toList,zJ hi,e]⟩
theorem sX {t:SetTable}{es:Array (Int×Value)}(T:Tab t es){hashAt:Nat->Int}{h:Int}{N:Nat}(hN:¬ at' t.mask h N∈t.place.toList)(lC:∀ n,n < N->at' t.mask h n∈t.place.toList) :
  ∀ (d k fuel:Nat),N - k=d->k<=N->d < fuel ->
   (∃ n i,k<=n/\n < N/\t.place[i]?=some (at' t.mask h n)/\hashAt i=h/\(∀ n',k<=n'->n' < n->∀ i',t.place[i']?=some (at' t.mask h n')->hashAt i'≠h)/\SetTable.probe.go t hashAt h fuel (ad t.mask k (start t.mask h))=some (.candidate (at' t.mask h n) i (ad t.mask (n + 1) (start t.mask h)))) \/
   ((∀ n',k<=n'->n' < N->∀ i',t.place[i']?=some (at' t.mask h n')->hashAt i'≠h)/\SetTable.probe.go t hashAt h fuel (ad t.mask k (start t.mask h))=some (.empty (at' t.mask h N) none))
 | d,k,0,e,hk,hf=>absurd hf (zf _)
 | 0,k,fuel + 1,e,hk,hf=>by
  have:k=N:=by omega
  subst this;refine .inr ⟨λn' h1 h2=>absurd h1 (by omega),?_⟩;unfold SetTable.probe.go;rw [show (ad t.mask k (start t.mask h)).j=at' t.mask h k from rfl,vh T.nd hN];dsimp only;rw [uA];rfl
 | d + 1,k,fuel + 1,e,hk,hf=>by
  obtain ⟨i,hi⟩:=P6 (lC k (by omega));by_cases c:hashAt i=h
  ·refine .inl ⟨k,i,zF _,by omega,hi,c,λn' h1 h2=>absurd h1 (by omega),?_⟩;unfold SetTable.probe.go;rw [show (ad t.mask k (start t.mask h)).j=at' t.mask h k from rfl,jU T.so hi];dsimp only;rw [if_pos (by rw [c];simp),nJ,<- jE]
  ·have step:SetTable.probe.go t hashAt h (fuel + 1) (ad t.mask k (start t.mask h))=SetTable.probe.go t hashAt h fuel (ad t.mask (k + 1) (start t.mask h)):=by
    conv=>lhs;unfold SetTable.probe.go
    rw [show (ad t.mask k (start t.mask h)).j=at' t.mask h k from rfl,jU T.so hi];dsimp only;rw [if_neg (by simpa using c),nJ,<- jE]
   have here:∀ i',t.place[i']?=some (at' t.mask h k)->hashAt i'≠h:=λi' f9=>by
    have:=(below_at T.so f9).symm.trans (below_at T.so hi);rw [this];exact c
   rw [step];rcases sX T hN lC d (k + 1) fuel (by omega) (by omega) (by omega) with ⟨n,i2,a1,a2,a3,a4,a5,a6⟩ | ⟨a1,a2⟩
   ·refine .inl ⟨n,i2,by omega,a2,a3,a4,λn' h1 h2 i' f9=>?_,a6⟩;by_cases q:n'=k
    ·subst q;exact here i' f9
    ·exact a5 n' (by omega) h2 i' f9
   ·refine .inr ⟨λn' h1 h2 i' f9=>?_,a2⟩;by_cases q:n'=k
    ·subst q;exact here i' f9
    ·exact a1 n' (by omega) h2 i' f9
end fV
namespace fV
open PySem
section
variable {prog:Program}{w:World}{K:Type} [DecidableEq K] {knd:HeapKind prog w K}{A:Around}{E:Value->Shared->Prop}{s:Shared}{a:Addr}
def Yk (knd:HeapKind prog w K)(h:Heap)(es:Array (Int×Value))(ks:Nat->K):Prop:=∀ i (hi:i < es.size),∃ b,es[i]=(knd.hash (ks i),.ref b)/\knd.is h (ks i) b
def Calm (knd:HeapKind prog w K)(A:Around)(s:Shared):Prop:=∀ (k:K) (b:Addr),knd.is s.heap k b->∀ (E:Value->Shared->Prop) (Q:Bool->Shared->Prop),Q false s->wpAny (model prog w) A (ofAClassStatement 8 (.ref b)) Q E s
theorem OI {k:K}{c:Addr}(hk:knd.is s.heap k c)(cl:Calm knd A s):∀ (ys:List Value),(∀ y∈ys,∃ k b,y=.ref b/\knd.is s.heap k b)->∀ {Q:Bool->Shared->Prop},Q false s->wpAny (model prog w) A (searchCouldBeSeen (.ref c) ys) Q E s:=by
 intro ys hy Q q;unfold searchCouldBeSeen;refine wpAny_bind ?_;refine wpAny_forIn_list _ (λrest r s'=>r.1=none/\s'=s/\∀ y∈rest,∃ k b,y=.ref b/\knd.is s.heap k b) _ ?_ ?_ _ _ ⟨rfl,rfl,hy⟩
 ·rintro y rest r s' ⟨hr,rfl,lC⟩;obtain ⟨k2,b,rfl,hb⟩:=lC _ yZ;have next:∀ u∈rest,∃ k b,u=Value.ref b/\knd.is s'.heap k b:=λu hu=>lC u (yA _ hu);dsimp only;split
  ·exact wpAny_pure ⟨rfl,rfl,next⟩
  ·refine wpAny_bind (knd.quiet hk ?_);simp only [Bool.not_true,zn,if_false];refine wpAny_bind (knd.quiet hb ?_);simp only [Bool.not_true,zn,if_false];refine wpAny_bind (cl _ _ hk _ _ ?_);simp only [zn,if_false];refine wpAny_bind (cl _ _ hb _ _ ?_);simp only [zn,if_false];exact wpAny_pure ⟨rfl,rfl,next⟩
 ·rintro ⟨r1,r2⟩ s' ⟨hr,rfl,_⟩;simp only at hr;subst hr;exact wpAny_pure q
theorem search {o:Obj}{es:Array (Int×Value)}{ep:Nat}{t:SetTable}{ks:Nat->K}{kx:K}{c:Addr}{adding:Bool}{Q:SetFound->Shared->Prop}(hr:knd.room A)(ho:s.heap.get? a=some o)(hd:o.data=.set es ep t)(T:Tab t es)(ke:Yk knd s.heap es ks)(hx:knd.is s.heap kx c)(cl:Calm knd A s)
  (qt:∀ r:Option Nat,(r=none->adding=true)->(∃ i,i < es.size/\ks i=kx)->Q (.there r) s) {N:Nat} (hN:¬ at' t.mask (knd.hash kx) N∈t.place.toList) (lC:∀ n,n < N->at' t.mask (knd.hash kx) n∈t.place.toList) (hNb:N<=10 * (t.mask + 13))
  (qf:(∀ i,i < es.size->ks i≠kx)->Q (.free (at' t.mask (knd.hash kx) N) false) s) :
  ∀ (fuel k:Nat) (st:Option SetTable.Probe),N - k < fuel->k<=N->st.getD (t.probeStart (knd.hash kx))=ad t.mask k (start t.mask (knd.hash kx))->(∀ n',n' < k->∀ i',t.place[i']?=some (at' t.mask (knd.hash kx) n')->ks i'≠kx) ->
   wpAny (model prog w) A (setSearchFrom a (.ref c) (knd.hash kx) adding fuel st) Q E s
 | 0,k,st,hf,_,_,_=>absurd hf (zf _)
 | fuel + 1,k,st,hf,hk,vN,prev=>by
  unfold setSearchFrom;refine wpAny_bind (wpAny_setState_of ho hd T.fits ?_);dsimp only;rw [T.odd,vN];simp only [zn,if_false];unfold SetTable.probe;rcases sX T hN lC (hashAt:=λi=>((es[i]?).map (·.1)).getD 0) _ k (10 * SetTable.turns t.mask) rfl hk (by unfold SetTable.turns;omega) with ⟨n,i,a1,a2,a3,a4,a5,a6⟩ | ⟨a1,a2⟩
  ·generalize hp:SetTable.probe.go t _ (knd.hash kx) (10 * SetTable.turns t.mask) (ad t.mask k (start t.mask (knd.hash kx)))=pr;have e:=hp.symm.trans a6;subst e;have hi:i < es.size:=by
    have:=(Array.getElem?_eq_some_iff.mp a3).1;rw [T.sz] at this;exact this
   obtain ⟨b,eb,hb⟩:=ke i hi;have eg:es[i]?=some (knd.hash (ks i),.ref b):=by rw [<-eb];exact Array.getElem?_eq_getElem hi
   dsimp only;rw [eg];dsimp only;have sl:=jU T.so a3;have mem:t.sameMemory t.moves t.mask=some true:=by simp [SetTable.sameMemory]
   have again:=search (adding:=adding) hr ho hd T ke hx cl qt hN lC hNb qf fuel (n + 1) (some (ad t.mask (n + 1) (start t.mask (knd.hash kx)))) (by omega) (by omega) rfl;have more:ks i≠kx->∀ n',n' < n + 1->∀ i',t.place[i']?=some (at' t.mask (knd.hash kx) n')->ks i'≠kx:=λne n' hn i' f9=>by
    by_cases q:n' < k
    ·exact prev n' q i' f9
    by_cases q2:n'=n
    ·subst q2;have:=(below_at T.so f9).symm.trans (below_at T.so a3);rw [this];exact ne
    ·intro z;have hl:i' < es.size:=by
      have:=(Array.getElem?_eq_some_iff.mp f9).1;rw [T.sz] at this;exact this
     obtain ⟨b',eb',_⟩:=ke i' hl;exact a5 n' (by omega) (by omega) i' f9 (by simp [eb',hl,z])
   have stored:∀ y∈List.map (λx=>x.snd) (Array.filter (λx=>x.fst == knd.hash kx) es).toList,∃ k b,y=Value.ref b/\knd.is s.heap k b:=λy hy=>by
    obtain ⟨e,he,rfl⟩:=zS.mp hy;have he:e∈es:=by
     have:e∈es/\e.fst=knd.hash kx:=by simpa using he
     exact this.1
    obtain ⟨j,hj,rfl⟩:=Array.getElem_of_mem he;obtain ⟨b',eb',iZ⟩:=ke j hj;exact ⟨_,b',by rw [eb'],iZ⟩
   split
   ·refine wpAny_bind (OI hx cl _ stored ?_);simp only [zn,if_false];refine wpAny_bind (wpAny_holding (knd.eqBool hr hb hx ?_));refine wpAny_bind (wpAny_setState_of ho hd T.fits ?_);dsimp only;rw [mem];dsimp only;rw [if_pos (show (true=true) from rfl),sl];dsimp only;rw [eg];dsimp only;by_cases q:ks i=kx
    ·rw [decide_eq_true q];cases adding with
     | true=>exact wpAny_pure (qt _ (λ_=>rfl) ⟨i,hi,q⟩)
     | false=>
      simp only [yH,zn,if_false];refine wpAny_bind (wpAny_isSame_ref_self ?_);exact wpAny_pure (qt _ (λz=>by cases z) ⟨i,hi,q⟩)
    ·rw [decide_eq_false q];simp only [yt,zn,if_false];refine wpAny_bind (wpAny_isSame_ref_self ?_);exact again (more q)
   ·refine wpAny_bind (wpAny_holding (knd.eqBool hr hb hx ?_));refine wpAny_bind (wpAny_setState_of ho hd T.fits ?_);dsimp only;rw [mem];dsimp only;rw [if_pos (show (true=true) from rfl),sl];dsimp only;rw [eg];dsimp only;by_cases q:ks i=kx
    ·rw [decide_eq_true q];cases adding with
     | true=>exact wpAny_pure (qt _ (λ_=>rfl) ⟨i,hi,q⟩)
     | false=>
      simp only [yH,zn,if_false];refine wpAny_bind (wpAny_isSame_ref_self ?_);exact wpAny_pure (qt _ (λz=>by cases z) ⟨i,hi,q⟩)
    ·rw [decide_eq_false q];simp only [yt,zn,if_false];refine wpAny_bind (wpAny_isSame_ref_self ?_);exact again (more q)
  ·generalize hp:SetTable.probe.go t _ (knd.hash kx) (10 * SetTable.turns t.mask) (ad t.mask k (start t.mask (knd.hash kx)))=pr;have e:=hp.symm.trans a2;subst e;dsimp only;refine wpAny_pure (qf λi hi z=>?_);obtain ⟨m,hm,al⟩:=T.way i hi;obtain ⟨b,eb,_⟩:=ke i hi;rw [eb] at hm al;dsimp only at hm al;rw [z] at hm al;have mN:m < N:=Classical.byContradiction λc=>by
    by_cases q:N=m
    ·subst q;exact hN (by simpa using Array.mem_of_getElem? hm)
    ·exact hN (al N (by omega))
   by_cases q:m < k
   ·exact prev m q i hm z
   ·refine a1 m (by omega) mN i hm ?_;simp [eb,hi,z]
structure Yg (knd:HeapKind prog w K) (h:Heap) (a:Addr) (es:Array (Int×Value)) (ep:Nat) (t:SetTable) (ks:Nat->K):Prop where
 obj:h.get? a=some { cls:=.type "set", data:=.set es ep t }
 tab:Tab t es
 keys:Yk knd h es ks
end
end fV
namespace fV
open PySem
theorem mU {α:Type}{l:List α}{p:Nat}{x:α}(hp:p<=l.length)(i:Nat):(l.take p++x::l.drop p)[i]?=if i < p then l[i]? else if i=p then some x else l[i - 1]?:=by
 have lt:(l.take p).length=p:=by rw [zY];omega
 by_cases c:i < p
 ·rw [if_pos c,zi (by omega),List.getElem?_take_of_lt c]
 ·rw [if_neg c,zZ (by omega),lt];by_cases d:i=p
  ·rw [if_pos d,d,xS];rfl
  ·rw [if_neg d,show i - p=(i - p - 1) + 1 from by omega,yN,List.getElem?_drop];congr 1;omega
theorem Tab.put {t:SetTable}{es:Array (Int×Value)}(T:Tab t es){h:Int}{x:Value}{N:Nat}(hN:¬ at' t.mask h N∈t.place.toList)(lC:∀ n,n < N->at' t.mask h n∈t.place.toList)(pl:Bool) :
  (((es.size + 1) * 5 < t.mask * 3)->Tab { (t.put (at' t.mask h N)).1 with plain:=pl } (SetTable.insertAt es (t.put (at' t.mask h N)).2 (h,x)))/\(t.put (at' t.mask h N)).1.dummies=#[]/\(t.put (at' t.mask h N)).1.mask=t.mask/\(t.put (at' t.mask h N)).1.place.size=es.size + 1:=by
 have e1:(t.put (at' t.mask h N)).1={ t with place:=SetTable.insertAt t.place (SetTable.below t.place (at' t.mask h N)) (at' t.mask h N) }:=by
  unfold SetTable.put;dsimp only;rw [T.nd];unfold SetTable.has;simp
 have e2:(t.put (at' t.mask h N)).2=SetTable.below t.place (at' t.mask h N):=rfl;rw [e1,e2];generalize hj:at' t.mask h N=j at *;obtain ⟨b1,b2,b3⟩:=nC (j:=j) T.so;generalize hp:SetTable.below t.place j=p at *;have lp:(SetTable.insertAt t.place p j).toList=t.place.toList.take p++j::t.place.toList.drop p:=SetTable.toList_insertAt ..;have le:(SetTable.insertAt es p (h,x)).toList=es.toList.take p++(h,x)::es.toList.drop p:=SetTable.toList_insertAt ..;have p1:p<=t.place.toList.length:=by rw [Array.length_toList];exact b1
 have p2:p<=es.toList.length:=by rw [Array.length_toList,<- T.sz];exact b1
 have s1:(SetTable.insertAt t.place p j).size=es.size + 1:=by
  rw [<-Array.length_toList,lp,zN,zW,zY,yR,Array.length_toList,<- T.sz];omega
 have s2:(SetTable.insertAt es p (h,x)).size=es.size + 1:=by
  rw [<-Array.length_toList,le,zN,zW,zY,yR,Array.length_toList];have:=T.sz;omega
 have mem:∀ j',j'∈(SetTable.insertAt t.place p j).toList↔j'=j\/j'∈t.place.toList:=λj'=>by
  rw [lp,zX,zO];constructor
  ·rintro (h | h | h)
   ·exact .inr (List.mem_of_mem_take h)
   ·exact .inl h
   ·exact .inr (List.mem_of_mem_drop h)
  ·rintro (h | h)
   ·exact .inr (.inl h)
   ·rw [<-List.take_append_drop p t.place.toList,zX] at h;exact h.imp id .inr
 refine ⟨λpA=>⟨T.mask,T.nd,?_,by rw [s2];exact s1,λj' j8=>?_,by rw [s2];exact pA,λi hi=>?_⟩,T.nd,rfl,s1⟩
 ·show (SetTable.insertAt t.place p j).toList.Pairwise (· < ·);rw [lp,List.pairwise_append,List.pairwise_cons];refine ⟨T.so.sublist (List.take_sublist _ _),⟨λy hy=>?_,T.so.sublist (List.drop_sublist _ _)⟩,λy hy z hz=>?_⟩
  ·obtain ⟨i,hi,e⟩:=List.getElem_of_mem hy;rw [List.getElem_drop] at e;have hl:p + i < t.place.size:=by rw [yR,Array.length_toList] at hi;omega
   have q:=b3 (p + i) hl (by omega);rw [Array.getElem_toList] at e;rw [e] at q;have ne:y≠j:=λz=>hN (by rw [<-z];exact List.mem_of_mem_drop hy);omega
  ·obtain ⟨i,hi,e⟩:=List.getElem_of_mem hy;rw [List.getElem_take] at e;rw [zY,Array.length_toList] at hi;have hl:i < t.place.size:=by omega
   have q:=b2 i hl (by omega);rw [Array.getElem_toList] at e;rw [e] at q;rcases zO.mp hz with z1 | z1
   ·rw [z1];exact q
   ·obtain ⟨k,hk,ek⟩:=List.getElem_of_mem z1;rw [List.getElem_drop] at ek;have O8:p + k < t.place.size:=by rw [yR,Array.length_toList] at hk;omega
    have q2:=b3 (p + k) O8 (by omega);rw [Array.getElem_toList] at ek;rw [ek] at q2;omega
 ·have j8:j'∈(SetTable.insertAt t.place p j).toList:=j8;rcases (mem j').mp j8 with z | z
  ·rw [z,<- hj];exact uz N
  ·exact T.small j' z
 ·show ∃ n,(SetTable.insertAt t.place p j)[i]?=some (at' t.mask (SetTable.insertAt es p (h,x))[i].1 n)/\∀ n',n' < n->at' t.mask (SetTable.insertAt es p (h,x))[i].1 n'∈(SetTable.insertAt t.place p j).toList;have ge:(SetTable.insertAt es p (h,x))[i]?=some (SetTable.insertAt es p (h,x))[i]:=Array.getElem?_eq_getElem hi;generalize (SetTable.insertAt es p (h,x))[i]=e at ge ⊢;rw [<-Array.getElem?_toList,le,mU p2] at ge;rw [<-Array.getElem?_toList,lp,mU p1,<- lp];have old:∀ k,es.toList[k]?=some e->∃ n,t.place.toList[k]?=some (at' t.mask e.1 n)/\∀ n',n' < n->at' t.mask e.1 n'∈(SetTable.insertAt t.place p j).toList:=λk hk=>by
   rw [Array.getElem?_toList] at hk;obtain ⟨XH,ek⟩:=Array.getElem?_eq_some_iff.mp hk;obtain ⟨n,a1,a2⟩:=T.way k XH;rw [ek] at a1 a2;exact ⟨n,by rw [Array.getElem?_toList];exact a1,λn' hn=>(mem _).mpr (.inr (a2 n' hn))⟩
  by_cases c:i < p
  ·rw [if_pos c] at ge ⊢;exact old i ge
  ·rw [if_neg c] at ge ⊢;by_cases d:i=p
   ·rw [if_pos d] at ge ⊢;cases ge;exact ⟨N,by rw [hj],λn' hn=>(mem _).mpr (.inr (lC n' hn))⟩
   ·rw [if_neg d] at ge ⊢;exact old (i - 1) ge
def KZ (ow:Array (Option Nat))(j:Nat):Prop:=(ow.getD j (some 0)).isNone=false
theorem pK {m:Nat}{ow:Array (Option Nat)}:∀ (fuel i u:Nat),(∃ r,r < fuel/\¬ KZ ow (runs m r i u).1) ->
  ∃ n,SetTable.layClean.free m ow fuel i u=some (ad m n (run m i u)).j/\¬ KZ ow (ad m n (run m i u)).j/\∀ n',n' < n->KZ ow (ad m n' (run m i u)).j
 | 0,i,u,⟨r,h,_⟩=>absurd h (zf _)
 | fuel + 1,i,u,⟨r,h,no⟩=>by
  unfold SetTable.layClean.free;cases e:(List.range (SetTable.runEnd m i + 1 - i)).find? λk=>(ow.getD (i + k) (some 0)).isNone with
  | some k=>
   dsimp only;obtain ⟨hk,cA,before⟩:=List.find?_range_eq_some.mp e;have cA:k < SetTable.runEnd m i + 1 - i:=zm.mp cA;have inr:∀ k',k'<=k->(ad m k' (run m i u)).j=i + k':=λk' XH=>by rw [iw k' (by omega)]
   refine ⟨k,by rw [inr k (zF _)],?_,λn' hn=>?_⟩
   ·rw [inr k (zF _)];unfold KZ;rw [hk];simp
   ·rw [inr n' (by omega)];unfold KZ;have:=before n' hn;simpa using this
  | none=>
   dsimp only;have all:∀ k,k < SetTable.runEnd m i + 1 - i->KZ ow (i + k):=λk hk=>by
    have:=List.find?_eq_none.mp e k (zm.mpr hk);unfold KZ;cases q:(ow.getD (i + k) (some 0)).isNone with
    | false=>rfl
    | true=>exact absurd q this
   have r0:r≠0:=λz=>by
    subst z;refine no ?_;exact all 0 (by have:=(fk (m:=m) (i:=i)).2.1;omega)
   obtain ⟨r',rfl⟩:=Nat.exists_eq_succ_of_ne_zero r0;obtain ⟨n,a1,a2,a3⟩:=pK fuel ((i * 5 + 1 + u / 32) % (m + 1)) (u / 32) ⟨r',by omega,no⟩;have next:∀ n',ad m (SetTable.runEnd m i - i + 1 + n') (run m i u)=ad m n' (run m ((i * 5 + 1 + u / 32) % (m + 1)) (u / 32)):=λn'=>by rw [P7,kT]
   refine ⟨SetTable.runEnd m i - i + 1 + n,?_,?_,λn' hn=>?_⟩
   ·rw [next];exact a1
   ·rw [next];exact a2
   ·by_cases c:n' < SetTable.runEnd m i - i + 1
    ·rw [iw n' (by omega)];exact all n' (by have:=(fk (m:=m) (i:=i)).2.1;omega)
    ·rw [show n'=SetTable.runEnd m i - i + 1 + (n' - (SetTable.runEnd m i - i + 1)) from by omega,next];exact a3 _ (by omega)
structure Lay (m:Nat) (hs:List Int) (ow:Array (Option Nat)):Prop where
 sz:ow.size=m + 1
 each:∀ (k:Nat) (h:Int),hs[k]?=some h->∃ n,ow[at' m h n]?=some (some k)/\∀ n',n' < n->KZ ow (at' m h n')
 low:∀ (j k:Nat),ow[j]?=some (some k)->k < hs.length
 one:∀ (j j' k:Nat),ow[j]?=some (some k)->ow[j']?=some (some k)->j=j'
theorem ji {ow:Array (Option Nat)}{j:Nat}(h:j < ow.size):KZ ow j↔∃ k,ow[j]?=some (some k):=by unfold KZ;rw [show ow.getD j (some 0)=ow[j] from by simp [Array.getD,h],Array.getElem?_eq_getElem h];cases ow[j] <;> simp
theorem Lay.left {m:Nat}{hs:List Int}{ow:Array (Option Nat)}(L:Lay m hs ow)(kM:hs.length<=m):∃ j,j<=m/\¬ KZ ow j:=by
 refine Classical.byContradiction λc=>?_;have all:∀ j,j < m + 1->∃ k,ow[j]?=some (some k):=λj hj=>(ji (by rw [L.sz];exact hj)).mp (Classical.byContradiction λz=>c ⟨j,by omega,z⟩);have pick:∀ k,∃ j,k < hs.length->ow[j]?=some (some k):=λk=>by
  by_cases hk:k < hs.length
  ·obtain ⟨n,a,_⟩:=L.each k hs[k] (zJ hk);exact ⟨_,λ_=>a⟩
  ·exact ⟨0,λz=>absurd z hk⟩
 have:=rQ (m + 1) ((List.range hs.length).map λk=>(pick k).choose) λj hj=>by
  obtain ⟨k,hk⟩:=all j hj;have kl:=L.low j k hk;exact zS.mpr ⟨k,zm.mpr kl,L.one _ _ _ ((pick k).choose_spec kl) hk⟩
 rw [zA,xA] at this;omega
theorem Lay.step {m:Nat}{hs:List Int}{ow:Array (Option Nat)}(hm:Mask m)(L:Lay m hs ow)(kM:hs.length<=m)(h:Int) :
  ∃ j,SetTable.layClean.free m ow (SetTable.turns m) (SetTable.bits h % (m + 1)) (SetTable.bits h)=some j/\Lay m (hs++[h]) (ow.setIfInBounds j (some hs.length)):=by
 obtain ⟨j0,hj0,no⟩:=L.left kM;obtain ⟨r,hr,e⟩:=reach (u:=SetTable.bits h) hm (yf.mp (Nat.mod_lt (SetTable.bits h) (show 0 < m + 1 by omega))) (Lp h) hj0;obtain ⟨n,a1,a2,a3⟩:=pK (m:=m) (ow:=ow) (SetTable.turns m) (SetTable.bits h % (m + 1)) (SetTable.bits h) ⟨r,by unfold SetTable.turns;omega,by rw [e];exact no⟩;have ej:(ad m n (run m (SetTable.bits h % (m + 1)) (SetTable.bits h))).j=at' m h n:=rfl;rw [ej] at a1 a2;have a3:∀ n',n' < n->KZ ow (at' m h n'):=a3;have jl:at' m h n < ow.size:=by rw [L.sz];exact yf.mpr (uz n)
 have get:∀ j,(ow.setIfInBounds (at' m h n) (some hs.length))[j]?=if at' m h n=j then some (some hs.length) else ow[j]?:=λj=>by
  rw [Array.getElem?_setIfInBounds];by_cases c:at' m h n=j
  ·rw [if_pos c,if_pos c,if_pos jl]
  ·rw [if_neg c,if_neg c]
 have keep:∀ j,KZ ow j->j < ow.size->KZ (ow.setIfInBounds (at' m h n) (some hs.length)) j:=λj oj hj=>by
  rw [ji (by rw [Array.size_setIfInBounds];exact hj),get];by_cases c:at' m h n=j
  ·exact ⟨_,by rw [if_pos c]⟩
  ·rw [if_neg c];exact (ji hj).mp oj
 have free:∀ k,ow[at' m h n]?≠some (some k):=λk z=>a2 ((ji jl).mpr ⟨k,z⟩);refine ⟨_,a1,by rw [Array.size_setIfInBounds];exact L.sz,λk x hx=>?_,λj k hj=>?_,λj j' k h1 h2=>?_⟩
 ·by_cases c:k < hs.length
  ·rw [zi c] at hx;obtain ⟨n2,b1,b2⟩:=L.each k x hx;refine ⟨n2,?_,λn' hn=>keep _ (b2 n' hn) (by rw [L.sz];exact yf.mpr (uz n'))⟩;rw [get,if_neg λz=>free k (by rw [z];exact b1)];exact b1
  ·rw [zZ (by omega)] at hx;have:k - hs.length=0:=by
    have:=(zD.mp hx).1;simp at this;omega
   rw [this] at hx;cases hx;have:k=hs.length:=by omega
   subst this;exact ⟨n,by rw [get,if_pos rfl],λn' hn=>keep _ (a3 n' hn) (by rw [L.sz];exact yf.mpr (uz n'))⟩
 ·rw [get] at hj;rw [zN,zq];split at hj
  ·cases hj;omega
  ·have:=L.low j k hj;omega
 ·rw [get] at h1 h2;split at h1 <;> split at h2
  ·rename_i x y;rw [<-x,<- y]
  ·cases h1;have:=L.low _ _ h2;omega
  ·cases h2;have:=L.low _ _ h1;omega
  ·exact L.one _ _ _ h1 h2
theorem tM {m:Nat}(hm:Mask m):∀ (l hs:List Int) (ow:Array (Option Nat)),Lay m hs ow->hs.length + l.length<=m + 1 ->
  ∃ YB,l.foldl (λ(acc:Option (Array (Option Nat)×Nat)) h=>do
   let (owner,k) <- acc
   let j <- SetTable.layClean.free m owner (SetTable.turns m) (SetTable.bits h % (m + 1)) (SetTable.bits h)
   pure (owner.setIfInBounds j (some k),k + 1)) (some (ow,hs.length))=some (YB,hs.length + l.length)/\Lay m (hs++l) YB
 | [],hs,ow,L,_=>⟨ow,rfl,by rw [yk];exact L⟩
 | h::l,hs,ow,L,kM=>by
  obtain ⟨j,e,L'⟩:=L.step hm (by rw [zW] at kM;omega) h;have abV:(hs++[h]).length + l.length<=m + 1:=by rw [zN,zq];rw [zW] at kM;omega
  obtain ⟨YB,e2,L2⟩:=tM hm l (hs++[h]) _ L' abV;refine ⟨YB,?_,by rw [List.append_assoc] at L2;exact L2⟩;rw [List.foldl_cons];show l.foldl _ ((SetTable.layClean.free m ow (SetTable.turns m) (SetTable.bits h % (m + 1)) (SetTable.bits h)).bind λj=>some (ow.setIfInBounds j (some hs.length),hs.length + 1))=_;rw [e];rw [zN,zq] at e2;rw [zW];rw [show hs.length + (l.length + 1)=hs.length + 1 + l.length from by omega];exact e2
theorem Mx {m:Nat}(hm:Mask m){hashes:Array Int}(kM:hashes.size<=m + 1):∃ ow,SetTable.layClean m hashes=some ow/\Lay m hashes.toList ow:=by have L0:Lay m [] (Array.replicate (m + 1) none):=⟨by simp,λk h e=>(by cases e),(λj k e=>by rw [Array.getElem?_replicate] at e;split at e <;> cases e),(λj j' k e=>by rw [Array.getElem?_replicate] at e;split at e <;> cases e)⟩;obtain ⟨ow,e,L⟩:=tM hm hashes.toList [] _ L0 (by rw [yJ,Array.length_toList];omega);refine ⟨ow,?_,by simpa using L⟩;unfold SetTable.layClean;rw [<-Array.foldl_toList];have:=congrArg (Option.map (·.1)) e;exact this
theorem Rr {l l':List Nat}(h:l.Nodup)(h':l'.Nodup)(e:∀ x,x∈l↔x∈l'):l.Perm l':=by
 rw [List.perm_iff_count];intro a;rw [h.count,h'.count];by_cases c:a∈l
 ·rw [if_pos c,if_pos ((e a).mp c)]
 ·rw [if_neg c,if_neg λz=>c ((e a).mpr z)]
theorem rz {α β:Type}{f:α->Option β}{g:α->β}:∀ {l:List α},(∀ x∈l,f x=some (g x))->l.filterMap f=l.map g
 | [],_=>rfl
 | x::l,h=>by
  rw [List.filterMap_cons_some (h x yZ),zd,rz λy hy=>h y (yA _ hy)]
theorem rE {f:Nat->Option Nat}:∀ (l:List Nat),(l.filterMap λj=>(f j).map (j,·)).map (·.1)=l.filter λj=>(f j).isSome
 | []=>rfl
 | x::l=>by
  cases e:f x with
  | none=>rw [List.filterMap_cons_none (by rw [e];rfl),List.filter_cons_of_neg (by rw [e];simp),rE l]
  | some k=>rw [List.filterMap_cons_some (b:=(x,k)) (by rw [e];rfl),List.filter_cons_of_pos (by rw [e];rfl),zd,rE l]
theorem sQ {t:SetTable}{es:Array (Int×Value)}{wanted m:Nat}(hw:SetTable.sizeAbove wanted - 1=m)(hm:Mask m)(pA:es.size * 5 < m * 3) :
  ∃ t' order,t.relaid (es.map (·.1)) wanted=some (t',order)/\(order.filterMap (es[·]?)).toList.Perm es.toList/\Tab t' (order.filterMap (es[·]?)):=by
 obtain ⟨ow,e,L⟩:=Mx (hashes:=es.map (·.1)) hm (by rw [Array.size_map];omega);have lh:(es.map (·.1)).toList.length=es.size:=by rw [Array.length_toList,Array.size_map]
 have hh:∀ (k:Nat) (x:Int×Value),es[k]?=some x->(es.map (·.1)).toList[k]?=some x.1:=λk x hx=>by rw [Array.getElem?_toList,Array.getElem?_map,hx];rfl
 let lv:=(List.range (m + 1)).filterMap λj=>(ow.getD j none).map (j,·)
 have e2:t.relaid (es.map (·.1)) wanted=some ({ mask:=m,place:=(lv.map (·.1)).toArray,dummies:=#[],finger:=t.finger,led:=t.led,moves:=t.movedTo m,plain:=t.plain },(lv.map (·.2)).toArray):=by
  unfold SetTable.relaid SetTable.laid;rw [hw,e];rfl
 have f1:lv.map (·.1)=(List.range (m + 1)).filter λj=>(ow.getD j none).isSome:=rE _;have f2:∀ p∈lv,ow[p.1]?=some (some p.2)/\p.1<=m:=λp hp=>by
  obtain ⟨j,hj,q⟩:=yh.mp hp;have hj:j < m + 1:=zm.mp hj;have hs:j < ow.size:=by rw [L.sz];exact hj
  rw [show ow.getD j none=ow[j] from by simp [Array.getD,hs]] at q;cases eo:ow[j] with
  | none=>rw [eo] at q;cases q
  | some k=>rw [eo] at q;cases q;exact ⟨by rw [Array.getElem?_eq_getElem hs,eo],by show j<=m;omega⟩
 have f3:∀ j k,ow[j]?=some (some k)->(j,k)∈lv:=λj k h=>by
  obtain ⟨hs,eo⟩:=Array.getElem?_eq_some_iff.mp h;refine yh.mpr ⟨j,zm.mpr (by rw [L.sz] at hs;exact hs),?_⟩;rw [show ow.getD j none=ow[j] from by simp [Array.getD,hs],eo];rfl
 have so1:(lv.map (·.1)).Pairwise (· < ·):=by rw [f1];exact List.pairwise_lt_range.filter _
 have so2:lv.Pairwise λa b=>a.1 < b.1:=xP.mp so1;have nd:(lv.map (·.2)).Nodup:=by
  refine xP.mpr (so2.imp_of_mem λ{a b} ha hb h z=>?_);have:=L.one _ _ _ (f2 a ha).1 (by rw [z];exact (f2 b hb).1);omega
 have kl:∀ p∈lv,p.2 < es.size:=λp hp=>by have:=L.low _ _ (f2 p hp).1;rw [lh] at this;exact this
 have pm:(lv.map (·.2)).Perm (List.range es.size):=Rr nd List.nodup_range λk=>by
  constructor
  ·intro h;obtain ⟨p,hp,rfl⟩:=zS.mp h;exact zm.mpr (kl p hp)
  ·intro h;have hk:k < es.size:=zm.mp h;obtain ⟨n,a,_⟩:=L.each k es[k].1 (hh k _ (Array.getElem?_eq_getElem hk));exact zS.mpr ⟨_,f3 _ _ a,rfl⟩
 let g:Nat->Int×Value:=λk=>(es[k]?).getD (0,Value.none)
 have gk:∀ k,k < es.size->es[k]?=some (g k):=λk hk=>by show es[k]?=some ((es[k]?).getD _);rw [Array.getElem?_eq_getElem hk];rfl
 have e3:((lv.map (·.2)).toArray.filterMap (es[·]?)).toList=lv.map λp=>g p.2:=by
  rw [Array.toList_filterMap,List.filterMap_map];exact rz λp hp=>gk p.2 (kl p hp)
 have e4:es.toList=(List.range es.size).map g:=by
  have:=filterMap_getElem?_range es;rw [rz (g:=g) λk hk=>gk k (zm.mp hk)] at this;exact this.symm
 refine ⟨_,_,e2,?_,?_⟩
 ·rw [e3,e4,show (λp:Nat×Nat=>g p.2)=g ∘ (·.2) from rfl,<- yY];exact pm.map g
 ·have sz:((lv.map (·.2)).toArray.filterMap (es[·]?)).size=lv.length:=by rw [<-Array.length_toList,e3,zA]
  have ll:lv.length=es.size:=by have:=pm.length_eq;rw [zA,xA] at this;exact this
  refine ⟨hm,rfl,by simpa using so1,by rw [sz];simp,λj hj=>?_,by rw [sz,ll];exact pA,λi hi=>?_⟩
  ·have hj:j∈lv.map (·.1):=by simpa using hj
   obtain ⟨p,hp,rfl⟩:=zS.mp hj;exact (f2 p hp).2
  ·have ge:((lv.map (·.2)).toArray.filterMap (es[·]?))[i]?=some ((lv.map (·.2)).toArray.filterMap (es[·]?))[i]:=Array.getElem?_eq_getElem hi;generalize ((lv.map (·.2)).toArray.filterMap (es[·]?))[i]=x at ge ⊢;rw [<-Array.getElem?_toList,e3,zI] at ge;cases ep:lv[i]? with
   | none=>rw [ep] at ge;cases ge
   | some p=>
    rw [ep] at ge;have ge:g p.2=x:=Option.some.inj ge;have hp:=zC ep;have hx:=gk p.2 (kl p hp);rw [ge] at hx;obtain ⟨n,a1,a2⟩:=L.each p.2 x.1 (hh p.2 x hx);have ej:=L.one _ _ _ a1 (f2 p hp).1;refine ⟨n,?_,λn' hn=>?_⟩
    ·show ((lv.map (·.1)).toArray)[i]?=some (at' m x.1 n);rw [List.getElem?_toArray,zI,ep,ej];rfl
    ·show at' m x.1 n'∈((lv.map (·.1)).toArray).toList;obtain ⟨k,hk⟩:=(ji (by rw [L.sz];exact yf.mpr (uz n'))).mp (a2 n' hn);simpa using ⟨k,f3 _ _ hk⟩
end fV
namespace fV
open PySem
section
variable {prog:Program}{w:World}{K:Type} [DecidableEq K] {knd:HeapKind prog w K}{A:Around}{E:Value->Shared->Prop}{s:Shared}{a:Addr}
def Tc (knd:HeapKind prog w K):Prop:=∀ (A:Around) (s:Shared) (k:K) (b:Addr),knd.is s.heap k b->∀ (E:Value->Shared->Prop) (Q:Bool->Shared->Prop),(∀ v,Q v s)->wpAny (model prog w) A (hashByValue 8 (.ref b)) Q E s
def rR (es:Array (Int×Value))(ep:Nat)(t:SetTable):Obj:={ cls:=.type "set", data:=.set es ep t }
theorem store {es lE:Array (Int×Value)}{ep:Nat}{t t':SetTable}{Q:Unit->Shared->Prop}(ho:s.heap.get? a=some (rR es ep t))(hz:lE.size<=sizeLine)
  (h:∀ h',Heap.SameBut a s.heap h'->h'.get? a=some (rR lE (ep + 1) t')->Q () { s with heap:=h' }):wpAny (model prog w) A (storeSet a lE t') Q E s:=by
 refine wpAny_storeSet_of ho rfl (h _ (Heap.SameBut.update s.heap a (Obj.putSet lE t')) ?_) hz;have:=Heap.get?_update_self (Obj.putSet lE t') ho (by rw [putSet_of lE t' rfl];rfl);rw [putSet_of lE t' rfl] at this;exact this
theorem vU {n m:Nat}(hm:Mask m)(lt:(n - 1) * 5 < m * 3)(n1:1<=n)(full:n * 5 ≥ m * 3)(kM:n<=4000):Mask (SetTable.sizeAbove (SetTable.grown n) - 1)/\n * 5 < (SetTable.sizeAbove (SetTable.grown n) - 1) * 3/\SetTable.sizeAbove (SetTable.grown n)<=8192:=by
 rcases hm with rfl | rfl | rfl | rfl | rfl | rfl
 ·have:n=5:=by omega
  subst this;exact ⟨.inr (.inl (by decide +kernel)),by decide +kernel,by decide +kernel⟩
 ·have:n=19:=by omega
  subst this;exact ⟨.inr (.inr (.inl (by decide +kernel))),by decide +kernel,by decide +kernel⟩
 ·have:n=77:=by omega
  subst this;exact ⟨.inr (.inr (.inr (.inl (by decide +kernel)))),by decide +kernel,by decide +kernel⟩
 ·have:n=307:=by omega
  subst this;exact ⟨.inr (.inr (.inr (.inr (.inl (by decide +kernel))))),by decide +kernel,by decide +kernel⟩
 ·have:n=1229:=by omega
  subst this;exact ⟨.inr (.inr (.inr (.inr (.inr (by decide +kernel))))),by decide +kernel,by decide +kernel⟩
 ·omega
theorem add {es:Array (Int×Value)}{ep:Nat}{t:SetTable}{ks:Nat->K}{kx:K}{c:Addr}{Q:Bool->Shared->Prop}(hr:knd.room A)(S:Yg knd s.heap a es ep t ks)(hx:knd.is s.heap kx c)(cl:Calm knd A s)(hb:Tc knd)(kM:es.size < 4000)
  (qt:(∃ i,i < es.size/\ks i=kx)->Q false s)
  (qf:∀ (h':Heap) (lE:Array (Int×Value)) (Vj:Nat) (t':SetTable),(∀ i,i < es.size->ks i≠kx)->Heap.SameBut a s.heap h'->h'.get? a=some (rR lE Vj t')->Tab t' lE->lE.toList.Perm (es.toList++[(knd.hash kx,.ref c)])->Q true { s with heap:=h' }) :
  wpAny (model prog w) A (setAddHashed a (.ref c) (knd.hash kx)) Q E s:=by
 obtain ⟨N,n1,n2,n3⟩:=S.tab.first (knd.hash kx);have line:10000<=sizeLine:=by rw [sizeLine_eq];decide
 unfold setAddHashed setAddHashedIn;refine wpAny_holding (wpAny_bind (wpAny_setState_of S.obj rfl S.tab.fits ?_));dsimp only;rw [show byScan (.ref c) es=false from rfl];simp only [zn,if_false];refine wpAny_bind ?_;unfold setSearch;have lim:10 * (t.mask + 13) < 100000:=by
  rcases S.tab.mask with h | h | h | h | h | h <;> rw [h] <;> decide
 refine search hr S.obj rfl S.tab S.keys hx cl (λr h f=>?_) n2 n3 n1 (λnf=>?_) 100000 0 none (by omega) (za _) rfl (λn' h=>absurd h (zf _))
 ·exact wpAny_pure (qt f)
 ·dsimp only;refine wpAny_bind (wpAny_setState_of S.obj rfl S.tab.fits ?_);dsimp only;have m7:7<=t.mask:=by rcases S.tab.mask with h | h | h | h | h | h <;> omega
  have lt:=S.tab.pA;have PD:SetTable.tooFull=λt=>decide (t.fill * 5 ≥ t.mask * 3):=rfl;have tail:∀ tt,(∃ pl,tt={ (t.put (at' t.mask (knd.hash kx) N)).1 with plain:=pl })->wpAny (model prog w) A (do
    storeSet a (SetTable.insertAt es (t.put (at' t.mask (knd.hash kx) N)).2 (knd.hash kx,Value.ref c)) tt
    if (!false && tt.tooFull)=true then do
     setRelay a (SetTable.grown (es.size + 1))
     pure true
    else pure true) Q E s:=by
   rintro tt ⟨pl,rfl⟩;obtain ⟨pt,pd,pm,ps⟩:=S.tab.put (x:=Value.ref c) n2 n3 pl;have pp:=SetTable.insertAt_perm es (t.put (at' t.mask (knd.hash kx) N)).2 (knd.hash kx,Value.ref c);rw [Array.toList_push] at pp;have sz:(SetTable.insertAt es (t.put (at' t.mask (knd.hash kx) N)).2 (knd.hash kx,Value.ref c)).size=es.size + 1:=by
    have:=pp.length_eq;rw [Array.length_toList,zN,Array.length_toList,zq] at this;exact this
   generalize (t.put (at' t.mask (knd.hash kx) N)).1=T1 at pt pd pm ps ⊢;generalize SetTable.insertAt es (t.put (at' t.mask (knd.hash kx) N)).2 (knd.hash kx,Value.ref c)=S5 at pt pp sz ⊢;have fit:({ T1 with plain:=pl }:SetTable).fits S5.size=true:=by
    unfold SetTable.fits SetTable.fill;dsimp only;rw [ps,pd,sz,pm];simp;omega
   refine wpAny_bind (store S.obj (by omega) λh' sb go=>?_);have full:({ T1 with plain:=pl }:SetTable).tooFull=decide ((es.size + 1) * 5 ≥ t.mask * 3):=by
    unfold SetTable.tooFull SetTable.fill;dsimp only;rw [ps,pd,pm];rfl
   rw [full];by_cases c:(es.size + 1) * 5 ≥ t.mask * 3
   ·rw [decide_eq_true c];simp only [Bool.not_false,Bool.and_self,if_true];obtain ⟨gm,gl,gz⟩:=vU S.tab.mask (by rw [Nat.add_sub_cancel];exact lt) (by omega) c (by omega);obtain ⟨t2,order,er,pr,T2⟩:=sQ (t:={ T1 with plain:=pl }) (es:=S5) rfl gm (by rw [sz];exact gl);refine wpAny_bind ?_;unfold setRelay;refine wpAny_bind (wpAny_setState_of (s:={ s with heap:=h' }) go rfl fit ?_);dsimp only;rw [if_neg (by omega)];refine wpAny_bind ?_;rw [er];show wpAny (model prog w) A (if ((order.filterMap (S5[·]?)).size != S5.size)=true then _ else _) _ _ _;have s2:(order.filterMap (S5[·]?)).size=S5.size:=by have:=pr.length_eq;rw [Array.length_toList,Array.length_toList] at this;exact this
    rw [if_neg (by rw [s2];simp)];refine wpAny_pure ?_;dsimp only;refine store (s:={ s with heap:=h' }) go (by rw [s2];omega) λh2 sb2 go2=>?_;exact wpAny_pure (qf h2 _ _ _ nf (sb.trans sb2) go2 T2 (pr.trans pp))
   ·rw [decide_eq_false c];simp only [Bool.not_false,yt,zn,if_false];exact wpAny_pure (qf h' _ _ _ nf sb go (pt (by omega)) pp)
  split
  ·refine wpAny_bind (hb _ _ _ _ hx _ _ λv=>tail _ ?_);cases v with
   | true=>exact ⟨(t.put (at' t.mask (knd.hash kx) N)).1.plain,rfl⟩
   | false=>exact ⟨false,rfl⟩
  ·refine wpAny_bind (wpAny_pure (tail _ ⟨(t.put (at' t.mask (knd.hash kx) N)).1.plain,rfl⟩))
end
end fV
namespace fV
open PySem PySem.Spec
def Kp (h0 h:Heap):Prop:=∀ b o,h0.get? b=some o->h.get? b=some o
section
variable {prog:Program}{w:World}{K:Type} [DecidableEq K] [Inhabited K] {knd:HeapKind prog w K}
def Holds (knd:HeapKind prog w K)(h:Heap)(a:Addr)(xs:List (Addr×K)):Prop:=∃ es ep t,h.get? a=some (rR es ep t)/\Tab t es/\es.toList.Perm (xs.map λx=>(knd.hash x.2,Value.ref x.1))
theorem Holds.aap {h:Heap}{a:Addr}{xs:List (Addr×K)}(H:Holds knd h a xs)(hk:∀ x∈xs,knd.is h x.2 x.1):∃ es ep t ks,Yg knd h a es ep t ks/\es.toList.Perm (xs.map λx=>(knd.hash x.2,Value.ref x.1))/\es.size=xs.length/\∀ i,i < es.size->ks i∈xs.map (·.2):=by
 obtain ⟨es,ep,t,ho,T,pm⟩:=H;have ln:es.size=xs.length:=by have:=pm.length_eq;rw [Array.length_toList,zA] at this;exact this
 have pick:∀ i,∃ x:Addr×K,i < es.size->x∈xs/\es[i]?=some (knd.hash x.2,Value.ref x.1):=λi=>by
  by_cases hi:i < es.size
  ·have:=pm.mem_iff.mp (show es[i]∈es.toList from by simp);obtain ⟨x,hx,e⟩:=zS.mp this;exact ⟨x,λ_=>⟨hx,by rw [Array.getElem?_eq_getElem hi,<- e]⟩⟩
  ·exact ⟨(0,default),λz=>absurd z hi⟩
 refine ⟨es,ep,t,λi=>((pick i).choose).2,⟨ho,T,λi hi=>?_⟩,pm,ln,λi hi=>zS.mpr ⟨_,((pick i).choose_spec hi).1,rfl⟩⟩;obtain ⟨h1,h2⟩:=(pick i).choose_spec hi;exact ⟨_,Option.some.inj ((Array.getElem?_eq_getElem hi).symm.trans h2),hk _ h1⟩
theorem Holds.move {h h':Heap}{a:Addr}{xs:List (Addr×K)}(H:Holds knd h a xs)(k:∀ o,h.get? a=some o->h'.get? a=some o):Holds knd h' a xs:=by obtain ⟨es,ep,t,ho,T,pm⟩:=H;exact ⟨es,ep,t,k _ ho,T,pm⟩
section
variable {A:Around}{R:Result->Shared->Prop}{I:Addr}{fp wr:List Addr}{G:Array GenState->Array GenState->Prop}{n:Nat}{P:Nat->Value->Prop}{St:Nat->Shared->Prop} {h0:Heap}{xs:List (Addr×K)}
theorem loop (W:WalksS prog w A.in1 I fp wr G n P St)(S:Addr)(hSf:S ∉ fp)(hr:knd.room A.in1)(cl:∀ B (s':Shared),Calm knd B s')(hb:Tc knd)(f0:h0.get? S=none)(f1:∀ b∈wr,h0.get? b=none)(isK:∀ h h' k b,Kp h h'->knd.is h k b->knd.is h' k b)
  (hn:xs.length=n) (kM:n < 4000) (nd:(xs.map (·.2)).Nodup) (hx:∀ x∈xs,knd.is h0 x.2 x.1) (hv:∀ i v,P i v->∃ x,xs[i]?=some x/\v=.ref x.1) :
  ∀ (k i:Nat) (s:Shared),n - i=k->i<=n->St i s->Kp h0 s.heap->Holds knd s.heap S (xs.take i) ->
   (∀ s',Moved (S::wr) G s s'->Holds knd s'.heap S xs->R (.ok (.ret .none)) s')->codeAny (model prog w) A (.builtin "set.update.loop" ⟨[.ref S,.ref I],[]⟩) R s:=by
 have hSw:S ∉ wr:=λh=>hSf (W.sub _ h);have sub:∀ b∈wr,b∈S::wr:=λb hb=>yA _ hb;intro k;induction k with
 | zero=>
  intro i s hk hi vN kp hS hR;obtain rfl:i=n:=by omega
  refine codeAny_builtin PyProof.Rows.F.entry_set_update_loop ?_;rw [Around.under_plainId PyProof.Rows.F.plain_set_update_loop _];show wpAny _ A.in1 (pyNext (.ref I) >>= _) _ _ s;refine wpAny_bind (W.done s _ _ vN λs' hm=>?_);show wpAny _ A.in1 (ret Value.none) _ _ s';rw [<-hn,zv] at hS;exact wpAny_pure (hR s' (hm.mono sub) (hS.move λo e=>hm.heap S o hSw e))
 | succ k ih=>
  intro i s hk hi vN kp hS hR;have lt:i < n:=by omega
  refine codeAny_builtin PyProof.Rows.F.entry_set_update_loop ?_;rw [Around.under_plainId PyProof.Rows.F.plain_set_update_loop _];show wpAny _ A.in1 (pyNext (.ref I) >>= _) _ _ s;refine wpAny_bind (W.item i s _ _ lt vN λv s' hP aa5 hm=>?_);obtain ⟨x,hxi,rfl⟩:=hv i v hP;have kp':Kp h0 s'.heap:=λb o e=>hm.heap b o (λz=>by rw [f1 b z] at e;cases e) (kp b o e);have U3:Holds knd s'.heap S (xs.take i):=hS.move λo e=>hm.heap S o hSw e;have is':∀ y∈xs,knd.is s'.heap y.2 y.1:=λy hy=>isK _ _ _ _ kp' (hx y hy);obtain ⟨es,ep,t,ks,T,pm,ez,mem⟩:=U3.aap λy hy=>is' y (List.mem_of_mem_take hy);have VV:=zC hxi;show wpAny _ A.in1 (holding [Value.ref x.1] (setAdd S (.ref x.1)) >>= _) _ _ s';refine wpAny_bind (wpAny_holding ?_);unfold setAdd;refine wpAny_holding ?_;refine wpAny_bind (knd.pyHash hr (is' x VV) ?_);refine add (s:={ s' with toks:=s'.toks + knd.draws x.2 }) hr ⟨T.obj,T.tab,T.keys⟩ (is' x VV) (cl _ _) hb (by rw [ez,zY];omega) (λf=>?_) (λh' lE Vj t' nf sb go T' pm'=>?_)
  ·exfalso;obtain ⟨j,hj,e⟩:=f;have m1:=mem j hj;rw [e,List.map_take] at m1;obtain ⟨j',j8⟩:=List.getElem?_of_mem m1;rw [List.getElem?_take] at j8;split at j8
   ·rename_i lt';have e1:(xs.map (·.2))[i]?=some x.2:=by rw [zI,hxi];rfl
    have:=(List.getElem?_inj (zD.mp j8).1 nd).mp (j8.trans e1.symm);omega
   ·cases j8
  ·have kp2:Kp h0 h':=λb o e=>by rw [sb.2 b (λz=>by rw [z,f0] at e;cases e)];exact kp' b o e
   refine wpAny_pure ⟨plainId_quiet PyProof.Rows.F.plain_set_update_loop _,ih (i + 1) _ (by omega) lt (W.frame _ s' _ _ aa5 (Nat.le_add_right _ _) λb iZ o e=>?_) kp2 ⟨lE,Vj,t',go,T',?_⟩ λkI abh abL=>?_⟩
   ·rw [sb.2 b (λz=>hSf (by rw [<-z];exact iZ))];exact e
   ·rw [List.take_add_one,hxi,zH];exact pm'.trans (pm.append_right _)
   ·refine hR kI (Moved.trans W.gtrans ((hm.mono sub).then_heap (Nat.le_add_right _ _) λb o iZ e=>?_) abh) abL;rw [sb.2 b (λz=>iZ (by rw [z];exact yZ))];exact e
end
section
variable {A:Around}{E:Value->Shared->Prop}{s:Shared}{xs:List (Addr×K)}
end
end
end fV
namespace L2
open PySem PySem.Spec PyProof.Rows
section
variable {X:Cx}
theorem Ry:iB X (compareOp .IsNot) (λx y H Q=>∃ c d,x=.bl c/\y=.bl d/\Q (.bl (c != d)) H):=by intro ah s σ H x y v u Q I rx ry h;obtain ⟨c,d,rfl,rfl,q⟩:=h;cases rx;cases ry;exact isnot_bool ⟨.bl _,H,I,rfl,q⟩
def oV:Option Int->V
 | none=>.bZ
 | some i=>.int i
theorem K0 (o:Option Int):b9 (oV o)=true:=by cases o <;> rfl
theorem WS (a b:Option Int):r9 (oV a) (oV b)=decide (a=b):=by cases a <;> cases b <;> simp [oV,r9];rfl
theorem all_range {n:Nat}{e:Nat->Bool}{b:Bool}(h:(∀ j,j < n->e j=true)↔b=true):(List.range n).all e=b:=by
 cases b with
 | true=>rw [yS];intro j hj;exact h.mpr rfl j (zm.mp hj)
 | false=>
  cases c:(List.range n).all e with
  | false=>rfl
  | true=>exact absurd (h.mp λj hj=>yS.mp c j (zm.mpr hj)) (by simp)
theorem MV {A:Around}{s:Shared}{os ps:List (Option Int)}{us ws:List Value}(r:Vals (os.map oV) us)(r2:Vals (ps.map oV) ws)(hl:us.length=ws.length) :
  (∀ j (h1:j < us.toArray.size) (h2:j < ws.toArray.size),SeqAt.EqAt A s us.toArray[j] ws.toArray[j] (decide (os[j]?=ps[j]?)))/\(List.range us.toArray.size).all (λj=>decide (os[j]?=ps[j]?))=decide (os=ps):=by
 have l1:os.length=us.length:=by have:=r.length;simpa using this
 have l2:ps.length=ws.length:=by have:=r2.length;simpa using this
 refine ⟨λj h1 h2=>?_,all_range ?_⟩
 ·simp only [zQ] at h1 h2;have a1:j < os.length:=by omega
  have a2:j < ps.length:=by omega
  obtain ⟨u,eu,ru⟩:=r.get (i:=j) (x:=oV os[j]) (by simp [a1]);obtain ⟨w,ew,Mc⟩:=r2.get (i:=j) (x:=oV ps[j]) (by simp [a2]);have e1:us.toArray[j]=u:=by rw [List.getElem_toArray];exact Option.some.inj ((zJ h1).symm.trans eu)
  have e2:ws.toArray[j]=w:=by rw [List.getElem_toArray];exact Option.some.inj ((zJ h2).symm.trans ew)
  rw [e1,e2];have:=Ko (A:=A) (s:=s) ru Mc (K0 _) (K0 _);rw [WS] at this;simpa [a1,a2] using this
 ·simp only [zQ,decide_eq_true_eq];constructor
  ·intro h;apply List.ext_getElem?
   intro j;by_cases hj:j < us.length
   ·exact h j hj
   ·rw [yX (by omega),yX (by omega)]
  ·rintro rfl j _;rfl
theorem Uo (hu:X.A.units + 64 < cLine):iB X (compareOp .NotEq) (λx y H Q=>∃ (a b:Addr) (os ps:List (Option Int)),x=.ref a/\y=.ref b/\aH X.K H a (os.map oV)/\aH X.K H b (ps.map oV)/\Q (.bl (!decide (os=ps))) H):=by
 intro ah s σ H x y v u Q I rx ry h;obtain ⟨a,b,os,ps,rfl,rfl,ha,hb,q⟩:=h;cases rx;cases ry;obtain ⟨ay,r,p,_⟩:=I.list ha;obtain ⟨eZ,r2,p2,_⟩:=I.list hb;have l1:os.length=ay.length:=by have:=r.length;simpa using this
 have l2:ps.length=eZ.length:=by have:=r2.length;simpa using this
 by_cases hl:ay.length=eZ.length
 ·obtain ⟨e1,e2⟩:=MV (A:=X.A.in1) (s:=s) r r2 hl;exact SeqAt.RcNeAt.lists p.isList p2.isList (by simpa using hl) (by omega) e1 _ _ _ _ ⟨.bl _,H,I,by rw [e2];rfl,q⟩
 ·have e:decide (os=ps)=false:=by
   rw [decide_eq_false_iff_not];rintro rfl;omega
  rw [e] at q;exact SeqAt.RcNeAt.lists_lengths p.isList p2.isList (by simpa using hl) (by omega) _ _ _ _ ⟨.bl _,H,I,rfl,q⟩
end
end L2
namespace Sm
open PySem L2 aQ
def Th (H:Hp)(x:V)(r:Option (List V)):Prop:=
 (∃ t,gX H x=some t/\t ≠ "tuple" /\ r=none)\/(∃ a xs,x=.ref a/\H a=some (.tup xs)/\(∀ e∈xs,∃ t,gX H e=some t)/\r=some xs)
def isLet (w:Int):Option (List V)->Bool
 | some [a,b,c,d]=>jN 0 (w - 1) a && (jN 0 1000000000 b && (jN 0 (w - 1) c && jN 0 1000000000 d))
 | _=>false
def u7:Sp:=λvs H Q _=>∃ b x t aa tr tm ps,vs=[.ref b,x]/\aL H b aa tr tm ps/\gX H x=some t/\Q (.bl (jN 0 ((aa.length:Int) - 1) x)) H
def vc:Sp:=λvs H Q _=>∃ b x r aa tr tm ps,vs=[.ref b,x]/\aL H b aa tr tm ps/\Th H x r/\Q (.bl (isLet aa.length r)) H
theorem cN {H:Hp}{l:Addr}{xs:List V}(h:H l=some (.tup xs)):gX H (.ref l)=some "tuple" := by simp only [gX,h]
theorem dH {H H':Hp}{x:V}{t:String}(s:au H H')(h:gX H x=some t):gX H' x=some t:=by
 cases x with
 | ref a=>
  unfold gX at h ⊢;dsimp only at h ⊢;cases e:H a with
  | none=>rw [e] at h;simp at h
  | some o=>rw [e] at h;rw [s a o e];exact h
 | _=>exact h
theorem qz {n k:Nat}(h:k < n):MC n (k:Int)=some k:=by unfold MC;rw [if_pos (by omega),if_pos (by omega)];simp
end Sm
namespace L2
open PySem PySem.Spec PyProof.Rows
theorem KW {α:Type}(l:List α):∀ n,n<=l.length->(List.range n).filterMap (λk=>l[k]?)=l.take n
 | 0,_=>by simp
 | n + 1,h=>by
  have hn:n < l.length:=h;rw [xL,List.filterMap_append,KW l n (by omega),List.take_add_one];simp [hn]
theorem uc {α β:Type}{f g:α->Option β}:∀ {l:List α},(∀ x∈l,f x=g x)->l.filterMap f=l.filterMap g
 | [],_=>rfl
 | x::l,h=>by
  rw [xB,xB,h x (.head _),uc λy hy=>h y (.tail _ hy)]
theorem Oh {α:Type}(l:List α):((List.range l.length).map λk:Nat=>((l.length:Int) - 1 + -1 * (k:Int)).toNat).filterMap (λj=>l.toArray[j]?)=l.reverse:=by
 rw [List.filterMap_map];have h:=KW l.reverse l.length (by simp);rw [show l.reverse.take l.length=l.reverse from by rw [<-yU];exact zv] at h;rw [<-h];refine uc λk hk=>?_;have XH:=zm.mp hk;have e:((l.length:Int) - 1 + -1 * (k:Int)).toNat=l.length - 1 - k:=by omega
 show l.toArray[((l.length:Int) - 1 + -1 * (k:Int)).toNat]?=_;rw [e,List.getElem?_reverse XH];simp
theorem nZ (ay:List Value):slicePick ay.toArray none none (some (-1))=ay.reverse.toArray:=by
 unfold slicePick;have e:sliceBounds none none (some (-1)) ay.toArray.size=((ay.length:Int) - 1,-1,-1):=by
  unfold sliceBounds;simp
 rw [e];have r:sliceRange ((ay.length:Int) - 1) (-1) (-1)=(List.range ay.length).map λk:Nat=>((ay.length:Int) - 1 + -1 * (k:Int)).toNat:=by
  unfold sliceRange;have c:(if (-1:Int) > 0 then (if (ay.length:Int) - 1 < -1 then (-1 - ((ay.length:Int) - 1) + -1 - 1) / -1 else 0) else (if (ay.length:Int) - 1 > -1 then ((ay.length:Int) - 1 - -1 - -1 - 1) / (- -1) else 0))=(ay.length:Int):=by
   rw [if_neg (by decide)];have e1:(- -1:Int)=1:=by decide
   rw [e1,Int.ediv_one];split <;> omega
  simp only [c];simp
 rw [r];exact congrArg List.toArray (Oh ay)
section
variable {X:Cx}{e:Expr}{te:TE} {pos p2 p3 p4:Pos}{j:Nat}
def Wm (K:PySem.W.Frag)(te:TE):TE:=fun σ H Q=>te σ H λx H1=>∃ a xs,x=.ref a/\aH K H1 a xs/\∀ p,H1 p=none->Q (.ref p) (upd H1 p (.lst xs.reverse))
theorem lJ {K:PySem.W.Frag}(hK:X.K=K)(he:PE X e te):PE X (.Subscript e (.Slice none none (some (.UnaryOp .USub (.Constant (.int 1) j p4) p3)) p2) pos) (Wm K te):=by subst hK;intro ah s σ H Q I h;refine Subscript_ (aV (he ah s σ H _ I h) λv s1 ⟨x,H1,I1,r1,q1⟩=>?_);have st:PO X (some (.UnaryOp .USub (.Constant (.int 1) j p4) p3)) (lW (Sl (rU λi=>.int (-i)) (tC (.int 1)))):=dm (sZ lS xi);refine wpAny_Slice ?_;rw [evalPart_none];refine wpAny_pure (wpAny_pure ?_);refine aV (st ah s1 σ H1 (λo H'=>o=some (-1)/\H'=H1) I1 ⟨1,rfl,-1,rfl,rfl,rfl⟩) λvs s3 h3=>?_;obtain ⟨o,H',I3,ps,rfl,rfl⟩:=h3;have I4:Inv X ah σ H' { s3 with heap:=s3.heap.push { cls:=.type "slice", data:=.fields #[.none,.none,vs] } }:=I3.kept (t':=s3.toks) λb ob q=>Heap.get?_push_of_some _ q;obtain ⟨a,xs,rfl,hx,q⟩:=q1;cases r1;obtain ⟨ay,r,ht,hz⟩:=I4.list hx;have hlen:=r.length;show wpAny (model X.prog X.w) X.A (subscriptTail e (.Slice none none (some (.UnaryOp .USub (.Constant (.int 1) j p4) p3)) p2) (.ref a) (.ref s3.heap.objs.size)) (EP X ah σ Q) X.xe { s3 with heap:=s3.heap.push { cls:=.type "slice", data:=.fields #[.none,.none,vs] } };refine tail_any (ops:=[.ref a,.ref s3.heap.objs.size]) ht.isList.typeIs slot_list_getitem.lookup ?_ (by with_unfolding_all rfl);refine wpAny_getItem_list_slice ht.isList (Heap.IsSliceOf.new ..) .none .none ps (by simp) ?_ (by rw [zQ] <;> omega);rw [nZ];refine ⟨.ref _,_,I4.laid (t':=s3.toks) (o:=.lst xs.reverse) (λb ob q=>Heap.get?_push_of_some _ q) (zF _) ?_,rfl,q _ (I4.aT.fresh (zF _))⟩;exact ⟨by rw [yU];exact hz,_,0,r.reverse,Heap.get?_push_size _ rfl⟩
end
end L2
namespace Sm
open PySem L2 aQ
abbrev Fn:=Nat->Option Int
def put (f:Fn)(k:Nat)(x:Option Int):Fn:=λi=>if i=k then x else f i
theorem qF {f:Fn}{k:Nat}{x:Option Int}:put f k x k=x:=by unfold put;rw [if_pos rfl]
theorem qA {f:Fn}{k i:Nat}{x:Option Int}(h:i≠k):put f k x i=f i:=by unfold put;rw [if_neg h]
def aA (k:Nat)(x:Int):Fn:=λi=>if i=k then some x else none
def below (o:Option Int)(t:Int):Bool:=match o with
 | some y=>decide (y < t)
 | none=>false
theorem aY {o:Option Int}{t:Int}:below o t=true↔∃ y,o=some y/\y < t:=by cases o <;> simp [below]
def aW (o:Option Int)(t:Int):Bool:=match o with
 | some y=>decide (y<=t)
 | none=>false
theorem aE {o:Option Int}{t:Int}:aW o t=true↔∃ y,o=some y/\y<=t:=by cases o <;> simp [aW]
structure W3 where
 g:Nat
 o:Nat
 t:Int
def two (m:M4):List W3:=[⟨m.lo.toNat,m.hi.toNat,m.t⟩,⟨m.hi.toNat,m.lo.toNat,m.t⟩]
def aD (ms:List M4):List W3:=ms.flatMap two
def aO (st:Fn)(x:W3):Fn:=if st x.o=none/\below (st x.g) x.t=true then put st x.o (some x.t) else st
def fwd (ms:List M4)(st:Fn):Fn:=(aD ms).foldl aO st
theorem Ph (m:M4)(ms:List M4)(st:Fn):fwd (m::ms) st=fwd ms (aO (aO st ⟨m.lo.toNat,m.hi.toNat,m.t⟩) ⟨m.hi.toNat,m.lo.toNat,m.t⟩):=by unfold fwd aD;rw [List.flatMap_cons,List.foldl_append];rfl
theorem mY {st:Fn}{x:W3}{i:Nat}{y:Int}(h:st i=some y):aO st x i=some y:=by
 unfold aO;split
 ·rename_i c;by_cases e:i=x.o
  ·rw [e,c.1] at h;cases h
  ·rw [qA e];exact h
 ·exact h
theorem MQ {st:Fn}{x:W3}(hs:∀ i y,st i=some y->y<=x.t\/∀ j,st j≠none->j=i)(n9:x.g≠x.o):∀ i y,aO st x i=some y->y<=x.t\/∀ j,aO st x j≠none->j=i:=by
 unfold aO;split
 ·rename_i c;obtain ⟨z,hz,zt⟩:=aY.mp c.2;intro i y h;by_cases e:i=x.o
  ·rw [e,qF] at h;cases h;exact .inl (zl _)
  ·rw [qA e] at h;rcases hs i y h with q | q
   ·exact .inl q
   ·have:x.g=i:=q x.g (by rw [hz];simp);rw [<-this,hz] at h;cases h;exact .inl (by omega)
 ·exact hs
def Ord (t:Int)(ms:List M4):Prop:=(∀ m∈ms,t<=m.t/\m.lo.toNat≠m.hi.toNat)/\ms.Pairwise λa b=>a.t<=b.t
theorem Good.ord {w:Int}{ms:List M4}(g:Good w ms):Ord 1 ms:=by
 refine ⟨λm hm=>?_,g.order.imp λh=>?_⟩
 ·obtain ⟨a1,a2,a3,a4,_⟩:=g.each m hm;exact ⟨a4,by omega⟩
 ·rcases h with h | h
  ·omega
  ·omega
def rep (n:Nat)(f:Fn):List (Option Int):=(List.range n).map f
theorem fN (n:Nat)(f:Fn):(rep n f).length=n:=by simp [rep]
theorem jg {n k:Nat}{f:Fn}(h:k < n):(rep n f)[k]?=some (f k):=by simp [rep,h]
theorem eY {n k:Nat}{f:Fn}(h:k < n):((rep n f).map oV)[k]?=some (oV (f k)):=by rw [zI,jg h];rfl
theorem qk {n k:Nat}{f:Fn}{x:Option Int}(h:k < n):(rep n f).set k x=rep n (put f k x):=by
 apply List.ext_getElem?
 intro i;rw [List.getElem?_set];by_cases e:k=i
 ·subst e;rw [if_pos rfl,if_pos (by rw [fN];exact h),jg h,qF]
 ·rw [if_neg e];by_cases hi:i < n
  ·rw [jg hi,jg hi,qA λz=>e z.symm]
  ·rw [yX (by rw [fN];omega),yX (by rw [fN];omega)]
theorem Oi {n:Nat}{f g:Fn}:rep n f=rep n g↔∀ i,i < n->f i=g i:=by
 constructor
 ·intro h i hi;have:=congrArg (λl=>l[i]?) h;simp only [jg hi] at this;exact Option.some.inj this
 ·intro h;exact List.map_congr_left λi hi=>h i (zm.mp hi)
structure W4 where
 n:Nat
 w:W3
def W4.vs (x:W4):List V:=[.int x.n,.int x.w.g,.int x.w.o,.int x.w.t]
def cR (ms:List M4):Nat->List W4
 | 0=>[]
 | i + 1=>cR ms i++(match ms[i]? with
  | some m=>[⟨i,⟨m.lo.toNat,m.hi.toNat,m.t⟩⟩,⟨i,⟨m.hi.toNat,m.lo.toNat,m.t⟩⟩]
  | none=>[])
theorem lR {ms:List M4}{i:Nat}{m:M4}(h:ms[i]?=some m):cR ms (i + 1)=cR ms i++[⟨i,⟨m.lo.toNat,m.hi.toNat,m.t⟩⟩,⟨i,⟨m.hi.toNat,m.lo.toNat,m.t⟩⟩]:=by
 conv=>lhs;unfold cR
 rw [h]
theorem lQ (ms:List M4):∀ i,i<=ms.length->(cR ms i).map (·.w)=aD (ms.take i)
 | 0,_=>by simp [cR,aD]
 | i + 1,h=>by
  have hi:i < ms.length:=h;have e:ms[i]?=some ms[i]:=by simp [hi]
  rw [lR e,zH,lQ ms i (by omega),wP e];unfold aD;rw [List.flatMap_append];rfl
theorem jP (ms:List M4):(cR ms ms.length).map (·.w)=aD ms:=by rw [lQ ms _ (zF _),zv]
theorem jQ (ms:List M4):(aD ms).length=2 * ms.length:=by
 induction ms with
 | nil=>rfl
 | cons m ms ih=>
  have:aD (m::ms)=two m++aD ms:=by unfold aD;rw [List.flatMap_cons]
  rw [this,zN,ih,zW];show 2 + _=_;omega
theorem dD {w:Int}{ms:List M4}(g:Good w ms){x:W3}(h:x∈aD ms):(x.g:Int) < w/\(x.o:Int) < w/\1<=x.t/\x.t<=1000000000/\x.g≠x.o:=by
 unfold aD at h;obtain ⟨m,hm,hx⟩:=xF.mp h;obtain ⟨a1,a2,a3,a4,a5,_⟩:=g.each m hm;unfold two at hx;simp only [zO,zw,or_false] at hx;rcases hx with rfl | rfl
 ·exact ⟨by show (m.lo.toNat:Int) < w;omega,by show (m.hi.toNat:Int) < w;omega,a4,a5,by show m.lo.toNat≠m.hi.toNat;omega⟩
 ·exact ⟨by show (m.hi.toNat:Int) < w;omega,by show (m.lo.toNat:Int) < w;omega,a4,a5,by show m.hi.toNat≠m.lo.toNat;omega⟩
theorem vA {o:Option Int}:(oV o=.bZ)↔o=none:=by cases o <;> simp [oV]
def Q8:Sp:=λvs H Q _=>∃ o t,vs=[oV o,.int t]/\Q (.bl (below o t)) H
def TX:Sp:=λvs H Q _=>∃ o t,vs=[oV o,.int t]/\Q (.bl (aW o t)) H
def T5:Sp:=λvs H Q _=>∃ b,∃ k:Nat,∃ x aa tr tm ps,vs=[.ref b,.int k,.int x]/\aL H b aa tr tm ps/\aa.length<=1000/\∀ l H',H l=none->au H H'->H' l=some (.lst ((rep aa.length (aA k x)).map oV))->Q (.ref l) H'
def TV:Sp:=λvs H Q _=>∃ b aa tr tm ps,vs=[.ref b]/\aL H b aa tr tm ps/\Good aa.length (ps.map (·.2))/\∀ l (ws:List (Addr×W4)) H',H l=none->au H H'->H' l=some (.lst (ws.map λa=>V.ref a.1))->(∀ a∈ws,H' a.1=some (.tup a.2.vs))->ws.map (·.2)=cR (ps.map (·.2)) ps.length->Q (.ref l) H'
def QX:Sp:=λvs H Q _=>∃ b,∃ k:Nat,∃ x aa tr tm ps,vs=[.ref b,.int k,.int x]/\k < aa.length/\aL H b aa tr tm ps/\aa.length<=1000/\Good aa.length (ps.map (·.2))/\∀ l H',H l=none->au H H'->H' l=some (.lst ((rep aa.length (fwd (ps.map (·.2)) (aA k x))).map oV))->Q (.ref l) H'
end Sm
namespace L2
open PySem PySem.Spec PyProof.Rows
section
variable {n:Nat}{caps:List Nat}{g:TG}{tc:TT}{te:TE}{σ:St}{H:Hp}{Qf:Addr->Hp->List V->Prop}
theorem dS {lo:Int}{m:Nat}(Pv:Nat->St->List V->Hp->Prop)(h0:Pv 0 (fK n caps σ) [] H)(hn:m<=1000)(hl:∀ i τ acc H,Pv i τ acc H->acc.length<=i)
  (hs:∀ i τ acc H (C:St->List V->Hp->Prop),i < m->Pv i τ acc H->(∀ τ acc H,Pv (i + 1) τ acc H->C τ acc H)->g (.int (lo + i)) τ H fun bH H2=>tc bH H2 λb H3=>if b=true then te bH H3 λy H4=>C bH (acc++[y]) H4 else C bH acc H3)
  (hd:∀ τ acc H,Pv m τ acc H->∀ p,H p=none->Qf p H acc) :
  ∃ W:Nat->Nat->St->List V->Hp->Prop,(∃ m,W 0 m (fK n caps σ) [] H)/\∀ i m' τ acc H,W i m' τ acc H ->
   ((Qi lo m).stop i H/\acc.length<=sizeLine/\∀ p,H p=none->Qf p H acc) \/
   ((Qi lo m).go i H/\acc.length < sizeLine/\∀ x H',(Qi lo m).nV i H x H'->g x τ H' fun bH H2=>tc bH H2 λb H3=>if b=true then te bH H3 λy H4=>∃ Xc,Xc < m'/\W (i + 1) Xc bH (acc++[y]) H4 else ∃ Xc,Xc < m'/\W (i + 1) Xc bH acc H3):=
 jz (J:=Qi lo m) Pv m h0 hn hl (λi τ acc H hi p=>hi) (fun τ acc H p=>zF _)
  (λi τ acc H C hi p c x H' y=>by obtain ⟨e1,e2⟩:=y;subst e1;subst e2;exact hs i τ acc _ C hi p c) hd
end
end L2
namespace Sm
open PySem L2 aQ
def run (ws:List W3)(st:Fn):Fn:=ws.foldl aO st
theorem dI:∀ {ws:List W3}{st:Fn}{i:Nat}{y:Int},st i=some y->run ws st i=some y
 | [],_,_,_,h=>h
 | w::ws,st,i,y,h=>dI (ws:=ws) (mY h)
theorem jf:∀ {ws:List W3}{st:Fn}{i:Nat}{t:Int},run ws st i=some t->st i=none->∃ x∈ws,x.o=i/\x.t=t/\∃ y,run ws st x.g=some y/\y < t
 | [],st,i,t,h,h0=>by
  have:st i=some t:=h;rw [h0] at this;cases this
 | w::ws,st,i,t,h,h0=>by
  have h':run ws (aO st w) i=some t:=h;cases e:aO st w i with
  | none=>
   obtain ⟨x,hx,a,b,y,hy,lt⟩:=jf h' e;exact ⟨x,.tail _ hx,a,b,y,hy,lt⟩
  | some z=>
   have z':=dI (ws:=ws) e;rw [h'] at z';cases z';unfold aO at e;split at e
   ·rename_i c;by_cases io:i=w.o
    ·subst io;rw [qF] at e;cases e;obtain ⟨y,hy,lt⟩:=aY.mp c.2;exact ⟨w,.head _,rfl,rfl,y,dI (ws:=w::ws) hy,lt⟩
    ·rw [qA io,h0] at e;cases e
   ·rw [h0] at e;cases e
theorem lZ:∀ {ws:List W3}{st:Fn},(∀ x∈ws,x.g≠x.o)->ws.Pairwise (λa b=>a.t<=b.t)->(∀ x∈ws,∀ i y,st i=some y->y<=x.t\/∀ j,st j≠none->j=i) ->
  ∀ x∈ws,∀ y,run ws st x.g=some y->y < x.t->∃ e,run ws st x.o=some e/\e<=x.t
 | w::ws,st,ne,pw,hs,x,hx,y,hy,lt=>by
  obtain ⟨p1,p2⟩:=List.pairwise_cons.mp pw;rcases zO.mp hx with rfl | hx
  ·cases e:st x.g with
   | none=>
    obtain ⟨z,hz,a,b,_⟩:=jf (ws:=x::ws) hy e;rcases zO.mp hz with rfl | hz
    ·exact absurd a.symm (ne z (.head _))
    ·have:=p1 z hz;omega
   | some z=>
    have:=dI (ws:=x::ws) e;rw [hy] at this;cases this;cases eo:st x.o with
    | none=>
     refine ⟨x.t,?_,zl _⟩;show run ws (aO st x) x.o=some x.t;refine dI ?_;unfold aO;rw [if_pos ⟨eo,aY.mpr ⟨y,e,lt⟩⟩,qF]
    | some z=>
     refine ⟨z,dI (ws:=x::ws) eo,?_⟩;rcases hs x (.head _) _ _ eo with q | q
     ·exact q
     ·exact absurd (q x.g (by rw [e];simp)) (ne x (.head _))
  ·refine lZ (ws:=ws) (st:=aO st w) (λa ha=>ne a (.tail _ ha)) p2 (λa ha i z hz=>?_) x hx y hy lt;have base:∀ i y,st i=some y->y<=w.t\/∀ j,st j≠none->j=i:=hs w (.head _);rcases MQ (x:=w) base (ne w (.head _)) i z hz with q | q
   ·exact .inl (xT q (p1 a ha))
   ·exact .inr q
theorem sf:∀ {ms:List M4},ms.Pairwise (λa b=>a.t<=b.t)->(aD ms).Pairwise (λa b=>a.t<=b.t)
 | [],_=>.nil
 | m::ms,h=>by
  obtain ⟨h1,h2⟩:=List.pairwise_cons.mp h;have e:aD (m::ms)=two m++aD ms:=by unfold aD;rw [List.flatMap_cons]
  rw [e,List.pairwise_append];refine ⟨?_,sf h2,λa ha b hb=>?_⟩
  ·unfold two;refine .cons (λx hx=>?_) (List.pairwise_singleton _ _);cases zK.mp hx;exact zl _
  ·have ta:a.t=m.t:=by
    unfold two at ha;simp only [zO,zw,or_false] at ha;rcases ha with rfl | rfl <;> rfl
   unfold aD at hb;obtain ⟨r,hr,hx⟩:=xF.mp hb;have tb:b.t=r.t:=by
    unfold two at hx;simp only [zO,zw,or_false] at hx;rcases hx with rfl | rfl <;> rfl
   rw [ta,tb];exact h1 r hr
structure Yq (w:Nat) (ws:List W3) (s:Nat) (x:Int) (E:Fn):Prop where
 self:E s=some x
 aeT:∀ i t,i≠s->E i=some t->∃ a∈ws,a.o=i/\a.t=t/\∃ y,E a.g=some y/\y < t
 nj:∀ a∈ws,∀ y,E a.g=some y->y < a.t->∃ e,E a.o=some e/\e<=a.t
 inside:∀ a∈ws,a.g < w/\a.o < w
theorem pO {n s:Nat}{x:Int}{ms:List M4}(g:Good n ms):Yq n (aD ms) s x (fwd ms (aA s x)):=by
 refine ⟨?_,λi t ne h=>?_,?_,λa ha=>?_⟩
 ·exact dI (ws:=aD ms) (by simp [aA])
 ·exact jf (ws:=aD ms) h (by simp [aA,ne])
 ·refine lZ (λa ha=>(dD g ha).2.2.2.2) (sf g.ord.2) (λa ha i y h=>.inr λj hj=>?_);unfold aA at h hj;by_cases e:i=s
  ·by_cases e':j=s
   ·rw [e,e']
   ·rw [if_neg e'] at hj;exact absurd rfl hj
  ·rw [if_neg e] at h;cases h
 ·obtain ⟨a1,a2,_⟩:=dD g ha;omega
def oY (n:Nat)(E:Fn)(t:Int):Nat:=(List.range n).countP λj=>below (E j) t
end Sm
namespace L2
open PySem PySem.Spec PyProof.Rows
section
variable {X:Cx}{ah:List (Addr×Obj)}{σ:St}{H:Hp}{s:Shared}
theorem Inv.keptAll {m:Str->Option Value}{h':Heap}{tk:Nat}(I:Inv X ah σ H s)(F0:Fr X.base X.env.locals s.heap m)(F:Fr X.base X.env.locals h' m)
  (N:News X.base X.env.locals h' (fT X.base s.heap X.env.locals)):Inv X ah σ H { s with heap:=h',toks:=tk }:=by
 have keep:∀ b o,b≠X.env.locals->s.heap.get? b=some o->h'.get? b=some o:=λb o hb e=>by
  cases q:X.base.get? b with
  | some u=>
   have:=I.bk b u q;rw [e] at this;cases this;exact F.keep b _ q
  | none=>exact (N (b,o) (eS hb q e)).1
 refine I.step (g':=s.gens) (t':=tk) (d':=s.drawn) (ch:=[]) (λ_ z=>nomatch z) (λb o hb _ _ e _=>keep b o hb e) (λb o hb _ _ e _=>⟨o.slots,keep b o hb e⟩) (λb o _ e n=>n) (λb o _ e=>?_)
  (λb ys e=>e) (λb o u e=>e) (λb ps e=>⟨#[],by rw [e,Array.append_empty]⟩) (λm' hm=>?_) (λb u e=>?_) I.bare
 ·by_cases hb:b=X.env.locals
  ·obtain ⟨o',_,_,q,_⟩:=F.ns;exact ⟨o',by rw [hb];exact q⟩
  ·exact ⟨o,keep b o hb e⟩
 ·obtain ⟨o1,S5,ep1,e1,d1,k1,f1⟩:=hm;obtain ⟨o2,es2,ep2,e2,d2,k2,f2⟩:=F0.ns;rw [e1] at e2;cases e2;rw [d1] at d2;cases d2;obtain ⟨o3,es3,ep3,e3,d3,k3,f3⟩:=F.ns;exact ⟨o3,es3,ep3,e3,d3,k3,λname=>(f3 name).trans ((f2 name).symm.trans (f1 name))⟩
 ·refine (I.aT b u e).dh (λc v hc q=>keep c v (λz=>?_) q) (λc q=>q) λc ys q=>q;rcases hc with rfl | hc
  ·rw [z,I.free] at e;cases e
  ·rw [z,I.free] at hc;cases hc
theorem ny:∀ {bs:List Bool}{us:List Value},Vals (bs.map V.bl) us->LSm.BoolsAre us bs
 | [],us,r=>by cases r;exact .nil
 | b::bs,us,r=>by
  cases r with
  | cons x y=>
   cases x;exact .cons b (ny y)
theorem gQ {K:PySem.W.Frag}(hK:X.K=K)(hc:X.calm=true):dU X (.builtin "all") (λxs H Q=>∃ p,∃ bs:List Bool,xs=[.ref p]/\aH K H p (bs.map V.bl)/\Q (.bl (bs.all id)) H):=by subst hK;intro ah s σ H xs us Q I r h;obtain ⟨p,bs,rfl,hq,q⟩:=h;obtain ⟨u,rfl,rx⟩:=vals1 r;cases rx;obtain ⟨ay,r',pl,hz⟩:=I.list hq;obtain ⟨m,F⟩:=I.fr;exact LSm.all_bools F (mJ (g:=X.base) (h:=s.heap)) (I.ok.hd hc) pl.isList (ny r') λh' tk F' N'=>⟨.bl _,H,I.keptAll F F' N',rfl,q⟩
end
end L2
namespace Sm
open PySem L2 aQ
def bM (ms:List M4)(n g o:Nat)(t:Int):Prop:=∃ m,ms[n]?=some m/\m.t=t/\((m.lo.toNat=g/\m.hi.toNat=o)\/(m.lo.toNat=o/\m.hi.toNat=g))
theorem dF {ms:List M4}:∀ {i:Nat}{x:W4},x∈cR ms i->bM ms x.n x.w.g x.w.o x.w.t
 | 0,x,h=>by cases h
 | i + 1,x,h=>by
  unfold cR at h;rcases zX.mp h with h | h
  ·exact dF h
  ·cases e:ms[i]? with
   | none=>rw [e] at h;cases h
   | some m=>
    rw [e] at h;simp only [zO,zw,or_false] at h;rcases h with rfl | rfl
    ·exact ⟨m,e,rfl,.inl ⟨rfl,rfl⟩⟩
    ·exact ⟨m,e,rfl,.inr ⟨rfl,rfl⟩⟩
def oE (ms:List M4)(k:Nat)(f:Fn)(aJ:List (Key×V))(H:Hp):Prop:=
 ∀ o t,f o=some t->o=k\/∃ tt n g y,dG aJ (Sum.inl (o:Int))=some (.ref tt)/\H tt=some (.tup [.int ((n:Nat):Int),.int ((g:Nat):Int)])/\bM ms n g o t/\f g=some y/\y < t
theorem oE.aS {ms:List M4}{k:Nat}{f:Fn}{aJ:List (Key×V)}{H H':Hp}(c:oE ms k f aJ H)(t:bX H H'):oE ms k f aJ H':=λo x h=>by
 rcases c o x h with e | ⟨tt,n,g,y,a1,a2,a3,a4,a5⟩
 ·exact .inl e
 ·exact .inr ⟨tt,n,g,y,a1,t _ _ a2,a3,a4,a5⟩
theorem oE.step {ms:List M4}{k:Nat}{f:Fn}{aJ:List (Key×V)}{H:Hp}{tt:Addr}{x:W4}(c:oE ms k f aJ H)(ho:f x.w.o=none)(hb:below (f x.w.g) x.w.t=true)(hl:bM ms x.n x.w.g x.w.o x.w.t)
  (ht:H tt=some (.tup [.int (x.n:Int),.int (x.w.g:Int)])):oE ms k (put f x.w.o (some x.w.t)) (putK aJ (Sum.inl (x.w.o:Int)) (.ref tt)) H:=λo t h=>by
 have keep:∀ g y,f g=some y->put f x.w.o (some x.w.t) g=some y:=λg y e=>by rw [qA λz=>by rw [z,ho] at e;cases e];exact e
 by_cases e:o=x.w.o
 ·subst e;rw [qF] at h;cases h;obtain ⟨y,hy,lt⟩:=aY.mp hb;exact .inr ⟨tt,x.n,x.w.g,y,by rw [su,if_pos rfl],ht,hl,keep _ _ hy,lt⟩
 ·rw [qA e] at h;rcases c o t h with e' | ⟨t2,n,g,y,a1,a2,a3,a4,a5⟩
  ·exact .inl e'
  ·refine .inr ⟨t2,n,g,y,?_,a2,a3,keep _ _ a4,a5⟩;rw [su,if_neg λz=>e (by have:=Sum.inl.inj z;omega)];exact a1
def N8:Sp:=λvs H Q _=>∃ b,∃ k:Nat,∃ x aa tr tm ps,vs=[.ref b,.int k,.int x]/\aL H b aa tr tm ps/\aa.length<=1000/\Good aa.length (ps.map (·.2))/\∀ t l d aJ H',H l=none->au H H'->H' t=some (.tup [.ref l,.ref d])->H' l=some (.lst ((rep aa.length (fwd (ps.map (·.2)) (aA k x))).map oV))->H' d=some (.dK aJ)->oE (ps.map (·.2)) k (fwd (ps.map (·.2)) (aA k x)) aJ H'->Q (.ref t) H'
def cG (ms:List M4):Nat->Int->Int->List Int->Option (Nat×Int)
 | v,t,_,[]=>some (v,t)
 | v,t,a,n::ns=>match ms[n.toNat]? with
  | none=>none
  | some m=>if a < n/\0<=n/\(v=m.lo.toNat\/v=m.hi.toNat)/\t < m.t then cG ms (if v=m.lo.toNat then m.hi.toNat else m.lo.toNat) m.t n ns else none
theorem oG {ms:List M4}{n g o:Nat}{y t a:Int}{ns:List Int}(h:bM ms n g o t)(ne:g≠o)(lt:y < t)(ha:a < n):cG ms g y a ((n:Int)::ns)=cG ms o t n ns:=by
 obtain ⟨m,hm,rfl,h⟩:=h
 conv=>lhs;unfold cG
 rw [show ((n:Int)).toNat=n from by simp,hm];dsimp only;rcases h with ⟨rfl,rfl⟩ | ⟨rfl,rfl⟩
 ·rw [if_pos ⟨ha,by omega,.inl rfl,lt⟩,if_pos rfl]
 ·rw [if_pos ⟨ha,by omega,.inr rfl,lt⟩,if_neg λz=>ne z]
theorem bX.aaq {l:Addr}{H:Hp}{aJ:List (Key×V)}{o:HO}(h:H l=some (.dK aJ)):bX H (upd H l o):=λb u e=>by rw [xq (cH e h (by intro z;cases z))];exact e
theorem O2 {ms:List M4}(o:ms.Pairwise λa b=>a.t<=b.t){i j:Nat}{a b:M4}(hi:ms[i]?=some a)(hj:ms[j]?=some b)(lt:a.t < b.t):i < j:=by
 obtain ⟨h1,e1⟩:=zD.mp hi;obtain ⟨h2,e2⟩:=zD.mp hj;rcases Nat.lt_trichotomy i j with h | h | h
 ·exact h
 ·subst h;rw [e1] at e2;rw [e2] at lt;omega
 ·have:=yE.mp o j i h2 h1 h;rw [e1,e2] at this;omega
def mu (n:Nat)(E:Fn)(σ:St):Nat:=match σ[9]? with
 | some (some (V.int v))=>(match E v.toNat with
  | some e=>oY n E e
  | none=>0)
 | _=>0
theorem Ri {n:Nat}{E:Fn}{g:Nat}{y t:Int}(hg:g < n)(hy:E g=some y)(lt:y < t):oY n E y < oY n E t:=
 kh (λj hj=>by
  obtain ⟨z,hz,l⟩:=aY.mp hj;exact aY.mpr ⟨z,hz,by omega⟩) (zm.mpr hg) (by
   cases c:below (E g) y with
   | false=>rfl
   | true=>
    obtain ⟨z,hz,l⟩:=aY.mp c;rw [hy] at hz;cases hz;omega) (aY.mpr ⟨y,hy,lt⟩)
theorem Rj (n:Nat)(E:Fn)(t:Int):oY n E t<=n:=by unfold oY;have:=List.countP_le_length (p:=λj=>below (E j) t) (l:=List.range n);rw [xA] at this;exact this
theorem bM.inside {n g o w:Nat}{t:Int}{ms:List M4}(g0:Good w ms)(h:bM ms n g o t):g < w/\o < w/\g≠o:=by obtain ⟨m,hm,_,h⟩:=h;obtain ⟨a1,a2,a3,_⟩:=g0.each m (zC hm);rcases h with ⟨rfl,rfl⟩ | ⟨rfl,rfl⟩ <;> omega
def pW (H:Hp)(lt:Addr)(n s w:Nat)(a z:Int):Prop:=H lt=some (.tup [.int (s:Int),.int a,.int (w:Int),.int z])/\s < n/\w < n/\0<=a/\a<=1000000000/\0<=z/\z<=1000000000
theorem pW.th {H:Hp}{lt:Addr}{n s w:Nat}{a z:Int}(h:pW H lt n s w a z):Th H (.ref lt) (some [.int (s:Int),.int a,.int (w:Int),.int z]):=.inr ⟨lt,_,rfl,h.1,λe he=>by
 simp only [zO,zw,or_false] at he;rcases he with rfl | rfl | rfl | rfl <;> exact ⟨_,rfl⟩,rfl⟩
theorem pW.yes {H:Hp}{lt:Addr}{n s w:Nat}{a z:Int}(h:pW H lt n s w a z):isLet n (some [.int (s:Int),.int a,.int (w:Int),.int z])=true:=by obtain ⟨_,h1,h2,h3,h4,h5,h6⟩:=h;simp only [isLet,jN,zc,decide_eq_true_eq];omega
def vd:Sp:=λvs H Q _=>∃ b lt,∃ s w:Nat,∃ a z aa tr tm ps,vs=[.ref b,.ref lt]/\aL H b aa tr tm ps/\aa.length<=1000/\Good aa.length (ps.map (·.2))/\pW H lt aa.length s w a z /\
 (aW (fwd (ps.map (·.2)) (aA s a) w) z=false->∀ H',au H H'->Q .bZ H') /\
 (∀ e l ns H',fwd (ps.map (·.2)) (aA s a) w=some e->e<=z->H l=none->au H H'->H' l=some (.lst (List.map V.int ns))->ns.length<=1000->cG (ps.map (·.2)) s a (-1) ns=some (w,e)->Q (.ref l) H')
theorem LF {ms:List M4}{v:Nat}{t A n:Int}{ns:List Int}{r:Nat×Int}(h:cG ms v t A (n::ns)=some r):∃ m,ms[n.toNat]?=some m/\A < n/\0<=n/\(v=m.lo.toNat\/v=m.hi.toNat)/\t < m.t/\cG ms (if v=m.lo.toNat then m.hi.toNat else m.lo.toNat) m.t n ns=some r:=by
 unfold cG at h;cases e:ms[n.toNat]? with
 | none=>rw [e] at h;cases h
 | some m=>
  rw [e] at h;dsimp only at h;split at h
  ·rename_i c;exact ⟨m,rfl,c.1,c.2.1,c.2.2.1,c.2.2.2,h⟩
  ·cases h
theorem bN.same {H H':Hp}{p:Addr}(h:bN H p)(e:au H H'):bN H' p:=by obtain ⟨x,y,z,q⟩:=h;exact ⟨x,y,z,e _ _ q⟩
def Lm (ws:List W3)(f:Fn):Bool:=ws.all λx=>!(below (f x.g) x.t) || aW (f x.o) x.t
def LW:Sp:=λvs H Q _=>∃ b,∃ k:Nat,∃ v:Int,∃ aa tr tm ps,∃ m:M4,vs=[.ref b,.int k,.int v]/\aL H b aa tr tm ps/\(ps.map (·.2))[k]?=some m/\Q (.int (if v=m.lo then m.hi else m.lo)) H
def u9:Sp:=λvs H Q _=>∃ b x t aa tr tm ps,vs=[.ref b,x]/\aL H b aa tr tm ps/\gX H x=some t/\Q (.bl (jN 0 ((ps.length:Int) - 1) x)) H
theorem jx {n s:Nat}{x:Int}{ms:List M4}(g:Good n ms):Lm (aD ms) (fwd ms (aA s x))=true:=by
 refine yS.mpr λa ha=>?_;cases h:below (fwd ms (aA s x) a.g) a.t with
 | false=>rfl
 | true=>
  obtain ⟨y,hy,lt⟩:=aY.mp h;obtain ⟨e,he,le⟩:=(pO (s:=s) (x:=x) g).nj a ha y hy lt;rw [aE.mpr ⟨e,he,le⟩];rfl
end Sm
namespace L2
open PySem PySem.Spec PyProof.Rows
section
variable {X:Cx}
end
end L2
namespace Sm
open PySem L2 aQ
theorem nG {α:Type}{xs:List α}{v:α}(h:xs.getLast?=some v):i7 xs (-1)=some v:=by
 cases xs with
 | nil=>cases h
 | cons a b=>
  rw [List.getLast?_eq_getElem?] at h;unfold i7;have e:MC (a::b).length (-1)=some ((a::b).length - 1):=by
   unfold MC;simp only [zW];rw [if_neg (by omega)];simp;omega
  rw [e];exact h
end Sm
namespace L2
open PySem PySem.Spec PyProof.Rows
def Nv (K:PySem.W.Frag)(a b:Addr):It:=
 ⟨λi H=>∃ xs ys x y,aH K H a xs/\aH K H b ys/\xs[i]?=some x/\ys[i]?=some y,λi H v H'=>∃ p x y,H p=none/\v=.ref p/\H'=upd H p (.tup [x,y])/\∀ xs ys,aH K H a xs->aH K H b ys->xs[i]?=some x/\ys[i]?=some y,
  λi H=>∃ xs ys,aH K H a xs/\aH K H b ys/\(xs.length<=i\/ys.length<=i)⟩
theorem LG {P:Program}{w:World}{K:PySem.W.Frag}{es:List Expr}{k:Nat}{pos:Pos}(l1 l2 z TI TO i1 i2:Addr)(ap:ZipApart z TI TO i1 i2 l1 l2) :
  Turn P w K (.Tuple es k pos) (Nv K l1 l2) [z,TI,TO,i1,i2] z (λi h=>IsZip h z TI TO .none/\IsPair h TI (.ref i1) (.ref i2)/\(∃ a b,IsPair h TO a b)/\h.IsListIter i1 l1 i/\h.IsListIter i2 l2 i) where
 mem:=by simp
 obj:=λi h st b hb=>by
  obtain ⟨hz,Pe,⟨a,c,QB⟩,⟨o1,g1,c1,d1⟩,⟨o2,g2,c2,d2⟩⟩:=st;simp only [zO,zw,or_false] at hb;rcases hb with e | e | e | e | e <;> subst e
  ·exact ⟨_,hz,λv q=>nomatch q⟩
  ·exact ⟨_,Pe,λv q=>nomatch q⟩
  ·exact ⟨_,QB,λv q=>nomatch q⟩
  ·exact ⟨o1,g1,λv q=>by rw [d1] at q;cases q⟩
  ·exact ⟨o2,g2,λv q=>by rw [d2] at q;cases q⟩
 keep:=λi h h' st q=>by
  obtain ⟨hz,Pe,⟨a,c,QB⟩,⟨o1,g1,r1⟩,⟨o2,g2,r2⟩⟩:=st;exact ⟨q z (by simp) _ hz,q TI (by simp) _ Pe,⟨a,c,q TO (by simp) _ QB⟩,⟨o1,q i1 (by simp) o1 g1,r1⟩,⟨o2,q i2 (by simp) o2 g2,r2⟩⟩
 item:=by
  intro X hP hw hK hc i ah s σ H E I hf st hg;subst hP hw hK;obtain ⟨xs,ys,x,y,SO,Qv,hx,hy⟩:=hg;obtain ⟨Xl,Yx,p1,YL⟩:=I.list SO;obtain ⟨eZ,Sy,p2,Xs⟩:=I.list Qv;obtain ⟨u,hu,ru⟩:=Yx.get hx;obtain ⟨v,hv,rv⟩:=Sy.get hy;obtain ⟨hZ,Pe,⟨a0,c0,QB⟩,Qx,MJ⟩:=st;have fp:=λb hb=>hf b hb;have lt:∀ b,b∈[z,TI,TO,i1,i2]->b < s.heap.objs.size:=λb hb=>by
   simp only [zO,zw,or_false] at hb;rcases hb with e | e | e | e | e <;> subst e
   ·exact Heap.lt_size hZ
   ·exact Heap.lt_size Pe
   ·exact Heap.lt_size QB
   ·exact let ⟨_,z,_⟩:=Qx;Heap.lt_size z
   ·exact let ⟨_,z,_⟩:=MJ;Heap.lt_size z
  refine wpAny_pyNext_zip_item ap hZ Pe QB Qx MJ p1.isList p2.isList (x:=u) (y:=v) (by simpa using hu) (by simpa using hv) λh1 hZ1 abJ abr abq hT hsz hk=>?_;refine ⟨_,rfl,?_⟩;refine wpAny_letOwnedTupleGo_zip hZ1 λh2 hZ2 rY=>?_;have j7:Heap.SameBut z h1 h2:=rY;have dw:∀ b o,b ∉ [z,TO,i1,i2]->s.heap.get? b=some o->h2.get? b=some o:=λb o hb q=>by
   simp only [zO,zw,or_false,not_or] at hb;exact j7.extBut b o hb.1 (hk b o hb.1 hb.2.1 hb.2.2.1 hb.2.2.2 q)
  have S1:h2.get? s.heap.objs.size=some { cls:=.type "tuple", data:=.seq #[u,v] }:=j7.extBut _ _ (yQ (lt z (by simp))) hT;have nT:H s.heap.objs.size=none:=I.aT.fresh (zF _);have sub:∀ b,b∈[z,TO,i1,i2]->b∈[z,TI,TO,i1,i2]:=λb hb=>by
   simp only [zO,zw,or_false] at hb ⊢;rcases hb with e | e | e | e <;> simp [e]
  refine ⟨.ref s.heap.objs.size,upd H s.heap.objs.size (.tup [x,y]),?_,rfl,⟨_,x,y,nT,rfl,rfl,λys' zs' h1 h2=>by rw [I.jm h1 SO,I.jm h2 Qv];exact ⟨hx,hy⟩⟩,⟨hZ2,?_,⟨u,v,?_⟩,?_,?_⟩,λb hb=>?_⟩
  ·refine Inv.step (s:=s) (h':=h2) (g':=s.gens) (d':=s.drawn) (t':=s.toks) (ch:=[z,TO,i1,i2]) I (λb hb=>?_) (λb o _ _ hb q _=>dw b o hb q) (λb o _ _ hb q _=>⟨o.slots,dw b o hb q⟩)
    (λb o _ q n=>by rw [xq (zV (Heap.lt_size q))];exact n) (λb o hb q=>⟨o,dw b o hb q⟩)
    (λb ys q=>by rw [xq (xj q nT)];exact q) (λb o v q=>by rw [xq (xj q nT)];exact q) (λb ps q=>⟨#[],by rw [xq (xj q nT),q];simp⟩)
    (λm hm=>by
     obtain ⟨o,lE,ep,q,r⟩:=hm;exact ⟨o,lE,ep,dw _ o (λhb=>(fp _ (sub _ hb)).2.1 rfl) q,r⟩) (λb v' q=>?_) I.bare
   ·obtain ⟨e0,e1,e2,e3,e4,e5⟩:=fp b (sub b hb);exact ⟨e3,e1,e4,e5⟩
   ·by_cases hb:b=s.heap.objs.size
    ·subst hb;rw [xg] at q;cases q;exact ⟨⟨by show 2<=sizeLine;rw [sizeLine_eq];decide,λob e=>by rw [S1] at e;cases e;rfl⟩,[u,v],.cons ru (.cons rv .nil),⟨_,S1,rfl,_,rfl⟩⟩
    ·rw [xq hb] at q;refine (I.aT b v' q).dh (λc ob hc qc=>dw c ob (λhb=>?_) qc) (λc qc=>by rw [xq (xj qc nT)];exact qc) λc ys qc=>by rw [xq (xj qc nT)];exact qc
     have e0:=(fp c (sub c hb)).1;rcases hc with z | z
     ·subst z;exact xj q e0 rfl
     ·exact xj z e0 rfl
  ·exact dw _ _ (by simp only [zO,zw,or_false,not_or];exact ⟨ap.TIz,ap.TITO,ap.TIi1,ap.TIi2⟩) Pe
  ·exact j7.extBut _ _ ap.TOz abJ
  ·obtain ⟨o,q,r⟩:=abr;exact ⟨o,j7.extBut i1 o ap.i1z q,r⟩
  ·obtain ⟨o,q,r⟩:=abq;exact ⟨o,j7.extBut i2 o ap.i2z q,r⟩
  ·rw [xq (zV (lt b hb))];exact (fp b hb).1
 done:=by
  intro X hP hw hK hc i ah s σ H E I hf st hg;subst hP hw hK;obtain ⟨xs,ys,SO,Qv,hx⟩:=hg;obtain ⟨Xl,Yx,p1,YL⟩:=I.list SO;obtain ⟨eZ,Sy,p2,Xs⟩:=I.list Qv;obtain ⟨hZ,Pe,⟨a0,c0,QB⟩,Qx,MJ⟩:=st;have l1':=Yx.length;have YI:=Sy.length;have sub:∀ b,b∈[z,TO,i1,i2]->b∈[z,TI,TO,i1,i2]:=λb hb=>by
   simp only [zO,zw,or_false] at hb ⊢;rcases hb with e | e | e | e <;> simp [e]
  refine wpAny_pyNext_zip_end (I.ok.hd hc) ap hZ Pe QB Qx MJ p1.isList p2.isList (by
   rcases hx with h | h
   ·exact .inl (by simp;omega)
   ·exact .inr (by simp;omega)) λh' hk=>⟨rfl,?_⟩
  have dw:∀ b o,b ∉ [z,TO,i1,i2]->s.heap.get? b=some o->h'.get? b=some o:=λb o hb q=>by
   simp only [zO,zw,or_false,not_or] at hb;exact hk b o hb.1 hb.2.1 hb.2.2.1 hb.2.2.2 q
  refine Inv.step (s:=s) (h':=h') (g':=s.gens) (d':=s.drawn) (t':=s.toks) (ch:=[z,TO,i1,i2]) I (λb hb=>?_) (λb o _ _ hb q _=>dw b o hb q) (λb o _ _ hb q _=>⟨o.slots,dw b o hb q⟩)
    (λb o _ q n=>n) (λb o hb q=>⟨o,dw b o hb q⟩)
    (λb ys q=>q) (λb o v q=>q) (λb ps q=>⟨#[],by rw [q];simp⟩)
    (λm hm=>by
     obtain ⟨o,lE,ep,q,r⟩:=hm;exact ⟨o,lE,ep,dw _ o (λhb=>(hf _ (sub _ hb)).2.1 rfl) q,r⟩) (λb v' q=>?_) I.bare
  ·obtain ⟨e0,e1,e2,e3,e4,e5⟩:=hf b (sub b hb);exact ⟨e3,e1,e4,e5⟩
  ·refine (I.aT b v' q).dh (λc ob hc qc=>dw c ob (λhb=>?_) qc) (λc qc=>qc) λc ys qc=>qc;have e0:=(hf c (sub c hb)).1;rcases hc with z | z
   ·subst z;exact xj q e0 rfl
   ·exact xj z e0 rfl
 self:=λ_ _ _ _ _ st h=>wpAny_pyIter_zip st.1 h
def Xn (K:PySem.W.Frag)(ta:TA):TI:=fun σ H R=>ta σ H λvs H1=>∃ a b,vs=[.ref a,.ref b]/\(∃ xs,aH K H1 a xs)/\(∃ ys,aH K H1 b ys)/\R (Nv K a b) H1
theorem qo {X:Cx}{a b:Expr}{ta:TA}{p pos mz:Pos}{es:List Expr}{k:Nat}{K:PySem.W.Frag}(hK:X.K=K)(hg:Gl X "zip")(hm:X.mg "zip" = none)(ha:PA X [a,b] ta)
  (hs:starEach [a,b] X.env=(false,eval a X.env)::starEach [b] X.env:=by rfl) (rY:starEach [b] X.env=[(false,eval b X.env)]:=by rfl) :
  PI X (.Tuple es k mz) (.Call (.Name "zip" p) [a,b] [] pos) (Xn K ta):=by
 subst hK;intro ah s σ H R I h;refine Call_ (dP I hg hm boot_zip (zy (aV (ha pos ah s σ H _ I h) λus s1 ⟨vs,H1,I1,r1,q1⟩=>?_) (by rw [hs,rY]) (by rw [rY];rfl)));obtain ⟨l1,l2,e,⟨xs,SO⟩,⟨ys,Qv⟩,q⟩:=q1;subst e;cases r1 with
 | cons r rr=>
  cases rr with
  | cons r' rr=>
   cases rr;cases r;cases r';obtain ⟨Xl,Yx,p1,YL⟩:=I1.list SO;obtain ⟨eZ,Sy,p2,Xs⟩:=I1.list Qv;have lt1:l1 < s1.heap.objs.size:=let ⟨_,z,_⟩:=p1.isList;Heap.lt_size z;have lt2:l2 < s1.heap.objs.size:=let ⟨_,z,_⟩:=p2.isList;Heap.lt_size z;refine call_zip_2 p1.isList p2.isList λh' hZ Pe QB Qx MJ hsz hk=>?_;refine wpAny_pyIter_zip hZ ?_;have I2:Inv X ah σ H1 { s1 with heap:=h' }:=I1.kept (t':=s1.toks) hk;refine ⟨s1.heap.objs.size + 4,[s1.heap.objs.size + 4,s1.heap.objs.size + 2,s1.heap.objs.size + 3,s1.heap.objs.size,s1.heap.objs.size + 1],_,_,H1,rfl,I2,LG l1 l2 _ _ _ _ _ (zipApart_new lt1 lt2),⟨hZ,Pe,⟨_,_,QB⟩,Qx,MJ⟩,λb hb=>?_,q⟩;have iZ:s1.heap.objs.size<=b:=by
    simp only [zO,zw,or_false] at hb;rcases hb with e | e | e | e | e <;> rw [e] <;> first | exact zF _ | exact Nat.le_add_right _ _
   exact I1.oi iZ (I1.aT.fresh iZ)
theorem Pk {K:PySem.W.Frag}{a b:Addr}{xs ys:List V}{g:TG}{tb:TS}{D:Ends}{σ:St}{H:Hp}(el:xs.length=ys.length)(Pv:Nat->St->Hp->Prop)(h0:Pv 0 σ H)(hl:∀ i σ H,i<=xs.length->Pv i σ H->aH K H a xs/\aH K H b ys)
  (hs:∀ i x y q σ H,xs[i]?=some x->ys[i]?=some y->H q=none->Pv i σ H->g (.ref q) σ (upd H q (.tup [x,y])) fun i8 H2=>tb (D.lp (Pv (i + 1))) i8 H2) (hd:∀ σ H,Pv xs.length σ H->D.nx σ H) :
  ∃ W:Nat->Nat->St->Hp->Prop,(∃ m,W 0 m σ H)/\∀ i m σ H,W i m σ H ->
   ((Nv K a b).stop i H/\D.nx σ H)\/((Nv K a b).go i H/\∃ N:St->Hp->Prop,(∀ bu H',N bu H'->∃ m',m' < m/\W (i + 1) m' bu H')/\∀ x H',(Nv K a b).nV i H x H'->g x σ H' fun i8 H2=>tb (D.lp N) i8 H2):=by
 refine ⟨λi m σ H=>m=xs.length - i/\i<=xs.length/\Pv i σ H,⟨xs.length,by simp,za _,h0⟩,?_⟩;rintro i m σ H ⟨rfl,hi,p⟩;obtain ⟨q1,q2⟩:=hl i σ H hi p;by_cases cA:i < xs.length
 ·refine .inr ⟨⟨xs,ys,xs[i],ys[i]'(by omega),q1,q2,by simp [cA],by simp [<-el,cA]⟩,Pv (i + 1),fun bu H' p'=>⟨xs.length - (i + 1),by omega,rfl,cA,p'⟩,λx H' y=>?_⟩;obtain ⟨q',x',y',hq,e1,e2,y⟩:=y;subst e1;subst e2;exact hs i x' y' q' σ _ (y xs ys q1 q2).1 (y xs ys q1 q2).2 hq p
 ·have e:i=xs.length:=by omega
  subst e;exact .inl ⟨⟨xs,ys,q1,q2,.inl (zF _)⟩,hd σ H p⟩
end L2
namespace Sm
open PySem L2 aQ
theorem PU (xs:List V)(k:Nat):i0 xs (some (k:Int)) none=xs.drop k:=by
 unfold i0;rw [HT.lI];show (xs.drop (min k xs.length)).take (xs.length - min k xs.length)=xs.drop k;by_cases h:k<=xs.length
 ·rw [Nat.min_eq_left h,yc (by rw [yR];exact zF _)]
 ·rw [Nat.min_eq_right (by omega),List.drop_eq_nil_of_le (by omega),List.drop_eq_nil_of_le (by omega),List.take_nil]
theorem uf (xs:List V)(k:Nat):i0 xs none (some (k:Int))=xs.take k:=by
 unfold i0;rw [HT.lI];show (xs.drop 0).take (min k xs.length - 0)=xs.take k;rw [List.drop_zero,Nat.sub_zero];by_cases h:k<=xs.length
 ·rw [Nat.min_eq_left h]
 ·rw [Nat.min_eq_right (by omega),yc (zF _),yc (by omega)]
end Sm
namespace L2
open PySem
theorem tQ {c:Bool}{A:Prop}{D:Ends}{σ:St}{H:Hp}(Pre:St->Hp->Prop)(k:∀ σ H,Pre σ H->D.nx σ H)(h1:c=true->(∀ σ H,Pre σ H->D.nx σ H)->A)(h2:c=false->Pre σ H):if c=true then A else gg D σ H:=by
 cases c with
 | true=>exact h1 rfl k
 | false=>exact k _ _ (h2 rfl)
end L2
namespace Sm
open PySem L2 aQ
theorem jR {w:Nat}{ms:List M4}{f:Fn}(g:Good w ms)(cl:Lm (aD ms) f=true):∀ (ns:List Int) (v:Nat) (t A:Int),aW (f v) t=true->∀ v' t',cG ms v t A ns=some (v',t')->aW (f v') t'=true
 | [],v,t,A,h,v',t',e=>by
  have:=Option.some.inj e;obtain ⟨rfl,rfl⟩:=Prod.mk.inj this;exact h
 | n::ns,v,t,A,h,v',t',e=>by
  obtain ⟨m,hm,h1,h2,h3,h4,wk⟩:=LF e;refine jR g cl ns _ m.t n ?_ v' t' wk;obtain ⟨y,hy,ly⟩:=aE.mp h;have bl:below (f v) m.t=true:=aY.mpr ⟨y,hy,by omega⟩;have mem:∀ x∈two m,(!(below (f x.g) x.t) || aW (f x.o) x.t)=true:=λx hx=>yS.mp cl x (by
   unfold aD;exact xF.mpr ⟨m,zC hm,hx⟩)
  obtain ⟨a1,a2,_⟩:=g.each m (zC hm);rcases h3 with hv | hv
  ·rw [if_pos hv];have:=mem ⟨m.lo.toNat,m.hi.toNat,m.t⟩ (by unfold two;simp);dsimp only at this;rw [<-hv,bl] at this;simpa using this
  ·rw [if_neg (by omega)];have:=mem ⟨m.hi.toNat,m.lo.toNat,m.t⟩ (by unfold two;simp);dsimp only at this;rw [<-hv,bl] at this;simpa using this
def bU (row F:Fn)(x:W3):Fn:=if below (row x.g) x.t=true/\aW (F x.o) x.t=false then put F x.o (some x.t) else F
def vJ (ws:List W3)(row:Fn):Fn:=ws.foldl (bU row) row
theorem fh {o:Option Int}{a b:Int}(h:aW o a=true)(l:a<=b):aW o b=true:=by obtain ⟨y,e,ly⟩:=aE.mp h;exact aE.mpr ⟨y,e,by omega⟩
def Le (F G:Fn):Prop:=∀ i y,G i=some y->aW (F i) y=true
theorem Le.refl (F:Fn):Le F F:=λi y h=>aE.mpr ⟨y,h,zl _⟩
theorem Le.trans {F G K:Fn}(a:Le F G)(b:Le G K):Le F K:=λi y h=>by
 obtain ⟨z,e,l⟩:=aE.mp (b i y h);exact fh (a i z e) l
theorem O0 (row F:Fn)(x:W3):Le (bU row F x) F:=λi y h=>by
 unfold bU;split
 ·rename_i c;by_cases e:i=x.o
  ·subst e;rw [qF];have:=c.2;rw [h] at this;have:=of_decide_eq_false this;exact decide_eq_true (by omega)
  ·rw [qA e];exact aE.mpr ⟨y,h,zl _⟩
 ·exact aE.mpr ⟨y,h,zl _⟩
theorem mO (row:Fn):∀ (ws:List W3) (F:Fn),Le (ws.foldl (bU row) F) F
 | [],F=>Le.refl F
 | x::ws,F=>(mO row ws (bU row F x)).trans (O0 row F x)
theorem j5 (ws:List W3)(row:Fn):Le (vJ ws row) row:=mO row ws row
theorem pD (row:Fn):∀ (ws:List W3) (F:Fn) (x:W3),x∈ws->below (row x.g) x.t=true->aW (ws.foldl (bU row) F x.o) x.t=true
 | w::ws,F,x,hx,hb=>by
  rcases zO.mp hx with rfl | hx
  ·have:aW (bU row F x x.o) x.t=true:=by
    unfold bU;by_cases u:aW (F x.o) x.t=true
    ·rw [if_neg (by rw [u];simp)];exact u
    ·rw [if_pos ⟨hb,by simpa using u⟩,qF];exact decide_eq_true (zl _)
   obtain ⟨y,e,l⟩:=aE.mp this;exact fh (mO row ws (bU row F x) x.o y e) l
  ·exact pD row ws (bU row F w) x hx hb
theorem K4 {ws:List W3}{row:Fn}{x:W3}(hx:x∈ws)(hb:below (row x.g) x.t=true):aW (vJ ws row x.o) x.t=true:=pD row ws row x hx hb
theorem mP (row:Fn):∀ (ws:List W3) (F:Fn) (i:Nat) (y:Int),ws.foldl (bU row) F i=some y->F i=some y\/∃ x∈ws,x.o=i/\x.t=y/\below (row x.g) y=true
 | [],F,i,y,h=>.inl h
 | w::ws,F,i,y,h=>by
  rcases mP row ws (bU row F w) i y h with h | ⟨x,hx,r⟩
  ·unfold bU at h;split at h
   ·rename_i c;by_cases e:i=w.o
    ·subst e;rw [qF] at h;cases h;exact .inr ⟨w,.head _,rfl,rfl,c.1⟩
    ·rw [qA e] at h;exact .inl h
   ·exact .inl h
  ·exact .inr ⟨x,.tail _ hx,r⟩
theorem mQ {ws:List W3}{row:Fn}{i:Nat}{y:Int}(h:vJ ws row i=some y):row i=some y\/∃ x∈ws,x.o=i/\x.t=y/\below (row x.g) y=true:=mP row ws row i y h
def bg (ws:List W3)(row:Fn):Nat->Fn
 | 0=>row
 | k + 1=>vJ ws (bg ws row k)
def rk (ws:List W3):Option Int->Nat
 | none=>ws.length + 1
 | some y=>ws.countP λx=>decide (x.t < y)
theorem KS {ws:List W3}{x:W3}(hx:x∈ws){o:Option Int}(h:aW o x.t=false):rk ws (some x.t) < rk ws o:=by
 cases o with
 | none=>
  show ws.countP _ < ws.length + 1;exact Nat.lt_succ_of_le List.countP_le_length
 | some y=>
  have lt:x.t < y:=by have:=of_decide_eq_false h;omega
  show ws.countP (λw=>decide (w.t < x.t)) < ws.countP (λw=>decide (w.t < y));induction ws with
  | nil=>cases hx
  | cons w ws ih=>
   rw [List.countP_cons,List.countP_cons];have mono:ws.countP (λw=>decide (w.t < x.t))<=ws.countP (λw=>decide (w.t < y)):=List.countP_mono_left λw _ h=>decide_eq_true (by have:=of_decide_eq_true h;omega);rcases zO.mp hx with rfl | hx
   ·rw [if_neg (by simp),if_pos (decide_eq_true lt)];omega
   ·have:=ih hx;by_cases c:w.t < x.t
    ·rw [if_pos (decide_eq_true c),if_pos (decide_eq_true (by omega))];omega
    ·rw [if_neg (by simpa using c)];split <;> omega
theorem WI {ws:List W3}{o o':Option Int}(h:∀ y,o'=some y->aW o y=true):rk ws o<=rk ws o':=by
 cases o' with
 | none=>
  cases o with
  | none=>exact zF _
  | some y=>exact Nat.le_succ_of_le List.countP_le_length
 | some y=>
  obtain ⟨z,rfl,l⟩:=aE.mp (h y rfl);exact List.countP_mono_left λw _ h=>decide_eq_true (by have:=of_decide_eq_true h;omega)
def Mq (ws:List W3)(n:Nat)(F:Fn):Nat:=((List.range n).map λi=>rk ws (F i)).sum
theorem TQ {n:Nat}{f g:Nat->Nat}(le:∀ i,i < n->f i<=g i){k:Nat}(hk:k < n)(lt:f k < g k):((List.range n).map f).sum < ((List.range n).map g).sum:=by
 induction n with
 | zero=>omega
 | succ n ih=>
  rw [xL,zH,zH,yO,yO];have mono:((List.range n).map f).sum<=((List.range n).map g).sum:=by
   clear ih hk lt;induction n with
   | zero=>exact zF _
   | succ n ih2=>
    rw [xL,zH,zH,yO,yO];have:=ih2 λi hi=>le i (by omega);have:=le n (by omega);simp only [zd,yF,xN,xU];omega
  simp only [zd,yF,xN,xU];by_cases e:k=n
  ·subst e;omega
  ·have:=ih (λi hi=>le i (by omega)) (by omega);have:=le n (by omega);omega
theorem Us {ws:List W3}{n:Nat}{F:Fn}{k:Nat}(hk:k < n)(ne:vJ ws F k≠F k):Mq ws n (vJ ws F) < Mq ws n F:=by
 refine TQ (λi _=>WI λy h=>j5 ws F i y h) hk ?_;cases e:vJ ws F k with
 | none=>
  cases e2:F k with
  | none=>exact absurd (e.trans e2.symm) ne
  | some y=>have:=j5 ws F k y e2;rw [e] at this;cases this
 | some y=>
  rcases mQ e with h | ⟨x,hx,rfl,rfl,hb⟩
  ·exact absurd (e.trans h.symm) ne
  ·refine KS hx ?_;cases e2:F x.o with
   | none=>rfl
   | some z=>
    have:=j5 ws F x.o z e2;rw [e] at this;have le:x.t<=z:=of_decide_eq_true this;have:x.t≠z:=λh=>ne (by rw [e,e2,h]);exact decide_eq_false (by omega)
theorem RC (ws:List W3)(n:Nat)(F:Fn):Mq ws n F<=n * (ws.length + 1):=by
 unfold Mq;induction n with
 | zero=>simp
 | succ n ih=>
  rw [xL,zH,yO,Nat.succ_mul];simp only [zd,yF,xN,xU];have:rk ws (F n)<=ws.length + 1:=by
   cases F n with
   | none=>exact zF _
   | some y=>exact Nat.le_succ_of_le List.countP_le_length
  omega
def Ra:Sp:=λvs H Q _=>∃ b la aa tr tm ps,∃ f:Fn,vs=[.ref b,.ref la]/\aL H b aa tr tm ps/\aa.length<=1000/\Good aa.length (ps.map (·.2))/\H la=some (.lst ((rep aa.length f).map oV))/\∀ l H',H l=none->au H H'->H' l=some (.lst ((rep aa.length (vJ (aD (ps.map (·.2))) f)).map oV))->Q (.ref l) H'
structure Rows (H0 H:Hp) (ms:List M4) (n k:Nat) (x:Int) (as:List Addr):Prop where
 pos:as≠[]
 kM:as.length<=200000
 at':∀ (i:Nat) (a:Addr),as[i]?=some a->H0 a=none/\H a=some (.lst ((rep n (bg (aD ms) (aA k x) i)).map oV))
 ne:∀ i,i + 1 < as.length->rep n (bg (aD ms) (aA k x) (i + 1))≠rep n (bg (aD ms) (aA k x) i)
 last:rep n (bg (aD ms) (aA k x) as.length)=rep n (bg (aD ms) (aA k x) (as.length - 1))
def N3:Sp:=λvs H Q _=>∃ b,∃ k:Nat,∃ x aa tr tm ps,vs=[.ref b,.int k,.int x]/\aL H b aa tr tm ps/\aa.length<=1000/\Good aa.length (ps.map (·.2))/\∀ l as H',H l=none->au H H'->H' l=some (.lst (as.map V.ref))->Rows H H' (ps.map (·.2)) aa.length k x as->Q (.ref l) H'
end Sm
namespace L2
open PySem PySem.Spec PyProof.Rows
section
variable {K:PySem.W.Frag}{a:Addr}{xs:List V}{n:Nat}{caps:List Nat}{g:TG}{tc:TT}{te:TE}{σ:St}{H:Hp}{Qf:Addr->Hp->List V->Prop}
end
end L2
namespace Sm
open PySem L2 aQ
theorem RO {n:Nat}{ms:List M4}(g:Good n ms){row:Fn}{i:Nat}(hi:n<=i):vJ (aD ms) row i=row i:=by
 cases e:vJ (aD ms) row i with
 | none=>
  cases e2:row i with
  | none=>rfl
  | some y=>have:=j5 (aD ms) row i y e2;rw [e] at this;cases this
 | some y=>
  rcases mQ e with h | ⟨x,hx,rfl,_⟩
  ·exact h.symm
  ·obtain ⟨g1,g2,g3,g4,g5⟩:=dD g hx;omega
end Sm
namespace Sm
open PySem L2
end Sm
namespace Sm
open PySem L2 aQ
theorem mF:∀ (n:Nat) (vs:List Nat),vs.Nodup->(∀ v∈vs,v < n)->vs.length<=n
 | 0,vs,_,h=>by
  cases vs with
  | nil=>exact zF _
  | cons v vs=>exact absurd (h v (.head _)) (zf _)
 | n + 1,vs,nd,h=>by
  by_cases hn:n∈vs
  ·have ih:=mF n (vs.erase n) (nd.erase n) λv hv=>by
    have:=(List.Nodup.mem_erase_iff nd).mp hv;have:=h v this.2;omega
   rw [List.length_erase_of_mem hn] at ih;omega
  ·have:=mF n vs nd λv hv=>by
    have:=h v hv;have:v≠n:=λe=>hn (e ▸ hv);omega
   omega
def jI (ws:List W3)(r:Fn)(i v:Nat)(T:Int):Prop:=bg ws r i v=some T/\(i=0\/aW (bg ws r (i - 1) v) T=false)
theorem jI.back {ws:List W3}{r:Fn}{i v:Nat}{T:Int}(h:jI ws r (i + 1) v T):∃ x∈ws,x.o=v/\x.t=T/\∃ y,y < T/\jI ws r i x.g y:=by
 obtain ⟨h1,h2⟩:=h;have h2:aW (bg ws r i v) T=false:=h2.resolve_left (by omega);rcases mQ h1 with h | ⟨x,hx,rfl,rfl,hb⟩
 ·rw [h] at h2;exact absurd (of_decide_eq_false h2) (by omega)
 ·obtain ⟨y,hy,lt⟩:=aY.mp hb;refine ⟨x,hx,rfl,rfl,y,lt,hy,?_⟩;cases i with
  | zero=>exact .inl rfl
  | succ i=>
   refine .inr ?_;cases e:aW (bg ws r i x.g) y with
   | false=>exact e
   | true=>
    obtain ⟨z,hz,lz⟩:=aE.mp e;have:aW (vJ ws (bg ws r i) x.o) x.t=true:=K4 hx (aY.mpr ⟨z,hz,by omega⟩);exact absurd (h2.symm.trans this) (by decide)
theorem jI.kM {n:Nat}{ms:List M4}(g:Good n ms){r:Fn}:∀ {i v:Nat}{T:Int},v < n->jI (aD ms) r i v T->∃ vs:List Nat,vs.length=i + 1/\vs.Nodup/\∀ u∈vs,u < n/\aW (bg (aD ms) r i u) T=true
 | 0,v,T,hv,h=>⟨[v],rfl,by simp,λu hu=>by
   cases zK.mp hu;exact ⟨hv,aE.mpr ⟨T,h.1,zl _⟩⟩⟩
 | i + 1,v,T,hv,h=>by
  obtain ⟨x,hx,rfl,rfl,y,lt,hn⟩:=h.back;obtain ⟨g1,g2,_⟩:=dD g hx;obtain ⟨vs,l,nd,al⟩:=jI.kM g (by omega) hn;refine ⟨x.o::vs,by rw [zW,l],yl.mpr ⟨λhm=>?_,nd⟩,λu hu=>?_⟩
  ·have:=fh (al _ hm).2 (Int.le_of_lt lt);exact absurd ((h.2.resolve_left (by omega)).symm.trans this) (by decide)
  ·rcases zO.mp hu with rfl | hu
   ·exact ⟨hv,aE.mpr ⟨_,h.1,zl _⟩⟩
   ·obtain ⟨a1,a2⟩:=al u hu;obtain ⟨z,hz,lz⟩:=aE.mp a2;exact ⟨a1,fh (j5 (aD ms) _ u z hz) (by omega)⟩
theorem ON {ws:List W3}{r:Fn}{m w:Nat}{z:Int}(h:aW (bg ws r m w) z=true)(least:∀ i,i < m->aW (bg ws r i w) z=false):∃ T,T<=z/\jI ws r m w T:=by
 obtain ⟨T,hT,le⟩:=aE.mp h;refine ⟨T,le,hT,?_⟩;cases m with
 | zero=>exact .inl rfl
 | succ m=>
  refine .inr ?_;cases e:aW (bg ws r m w) T with
  | false=>exact e
  | true=>exact absurd ((least m (by omega)).symm.trans (fh e le)) (by decide)
theorem Ve {n m w:Nat}{z:Int}{ms:List M4}(g:Good n ms){r:Fn}(hw:w < n)(h:aW (bg (aD ms) r m w) z=true)(least:∀ i,i < m->aW (bg (aD ms) r i w) z=false):m < n:=by obtain ⟨T,_,hN⟩:=ON h least;obtain ⟨vs,l,nd,al⟩:=hN.kM g hw;have:=mF n vs nd λv hv=>(al v hv).1;omega
theorem MB {n k m:Nat}{x:Int}{ms:List M4}(g:Good n ms)(h:rep n (bg (aD ms) (aA k x) (m + 1))=rep n (bg (aD ms) (aA k x) m)):∀ i,m<=i->bg (aD ms) (aA k x) i=bg (aD ms) (aA k x) m:=by
 have fx:vJ (aD ms) (bg (aD ms) (aA k x) m)=bg (aD ms) (aA k x) m:=funext λi=>by
  by_cases hi:i < n
  ·exact Oi.mp h i hi
  ·exact RO g (xQ hi)
 intro i hi;induction i with
 | zero=>rw [show m=0 by omega]
 | succ i ih=>
  rcases xV i m with l | l
  ·rw [show m=i + 1 by omega]
  ·show vJ (aD ms) (bg (aD ms) (aA k x) i)=_;rw [ih l,fx]
def S9 (ms:List M4)(s:Nat)(a:Int)(w:Nat)(z:Int)(m:Nat):Prop:=aW (bg (aD ms) (aA s a) m w) z=true/\∀ i,i < m->aW (bg (aD ms) (aA s a) i w) z=false
theorem bM.turn {ms:List M4}{n g o:Nat}{t:Int}(h:bM ms n g o t):bM ms n o g t:=by obtain ⟨m,a,b,c⟩:=h;exact ⟨m,a,b,c.symm⟩
theorem NK {ms:List M4}{x:W3}(h:x∈aD ms):∃ n,bM ms n x.g x.o x.t:=by rw [<-jP] at h;obtain ⟨y,hy,rfl⟩:=zS.mp h;exact ⟨y.n,dF hy⟩
theorem oF {ms:List M4}{n:Nat}{m:M4}(hm:ms[n]?=some m):∀ i,n < i->(⟨n,⟨m.lo.toNat,m.hi.toNat,m.t⟩⟩:W4)∈cR ms i/\(⟨n,⟨m.hi.toNat,m.lo.toNat,m.t⟩⟩:W4)∈cR ms i
 | 0,h=>absurd h (zf _)
 | i + 1,h=>by
  unfold cR;rcases xV n i with l | l
  ·have:=oF hm i l;exact ⟨zT _ this.1,zT _ this.2⟩
  ·have e:n=i:=by omega
   subst e;rw [hm];exact ⟨zE _ (.head _),zE _ (.tail _ (.head _))⟩
theorem RK {ms:List M4}{n g o:Nat}{t:Int}(h:bM ms n g o t):(⟨n,⟨g,o,t⟩⟩:W4)∈cR ms ms.length:=by
 obtain ⟨m,hm,rfl,h⟩:=h;have:=oF hm ms.length (zD.mp hm).1;rcases h with ⟨rfl,rfl⟩ | ⟨rfl,rfl⟩
 ·exact this.1
 ·exact this.2
theorem bM.uniq {w:Int}{ms:List M4}(gd:Good w ms){n n' v g g':Nat}{t:Int}(h:bM ms n v g t)(h':bM ms n' v g' t):n=n':=by
 obtain ⟨m,hm,e,c⟩:=h;obtain ⟨m',ig,e',c'⟩:=h';have key:∀ (a b:M4),a∈ms->b∈ms->apart a b->(a.lo.toNat=v\/a.hi.toNat=v)->(b.lo.toNat=v\/b.hi.toNat=v)->False:=λa b ha hb ap ca cb=>by
  obtain ⟨a1,a2,_⟩:=gd.each a ha;obtain ⟨b1,b2,_⟩:=gd.each b hb;obtain ⟨p1,p2,p3,p4⟩:=ap;rcases ca with ca | ca <;> rcases cb with cb | cb <;> omega
 have cm:m.lo.toNat=v\/m.hi.toNat=v:=by rcases c with c | c;exact .inl c.1;exact .inr c.2
 have cm':m'.lo.toNat=v\/m'.hi.toNat=v:=by rcases c' with c | c;exact .inl c.1;exact .inr c.2
 obtain ⟨l,el⟩:=zD.mp hm;obtain ⟨l',el'⟩:=zD.mp ig;rcases Nat.lt_trichotomy n n' with lt | q | lt
 ·have:=yE.mp gd.order n n' l l' lt;rw [el,el'] at this;rcases this with h | ⟨_,_,ap⟩
  ·omega
  ·exact (key m m' (zC hm) (zC ig) ap cm cm').elim
 ·exact q
 ·have:=yE.mp gd.order n' n l' l lt;rw [el,el'] at this;rcases this with h | ⟨_,_,ap⟩
  ·omega
  ·exact (key m' m (zC ig) (zC hm) ap cm' cm).elim
theorem bM.other {w:Int}{ms:List M4}(gd:Good w ms){n v g:Nat}{t:Int}{m:M4}(h:bM ms n v g t)(hm:ms[n]?=some m):(if (v:Int)=m.lo then m.hi else m.lo)=(g:Int):=by
 obtain ⟨m',ig,_,c⟩:=h;rw [hm] at ig;cases ig;obtain ⟨a1,a2,_⟩:=gd.each m (zC hm);rcases c with ⟨c1,c2⟩ | ⟨c1,c2⟩
 ·rw [if_pos (by omega)];omega
 ·rw [if_neg (by omega)];omega
def N4:Sp:=λvs H Q _=>∃ b,∃ v n g:Nat,∃ t aa tr tm ps,vs=[.ref b,.int v,.int t]/\aL H b aa tr tm ps/\Good aa.length (ps.map (·.2))/\bM (ps.map (·.2)) n v g t/\∀ H',au H H'->Q (.int n) H'
def Ob:Sp:=λvs H Q _=>∃ b l,∃ w s m:Nat,∃ a t aa tr tm ps,∃ as:List Addr,vs=[.ref b,.ref l,.int w]/\aL H b aa tr tm ps/\Good aa.length (ps.map (·.2))/\w < aa.length/\m<=1000/\H l=some (.lst (as.map V.ref))/\as.length=m /\
 (∀ (i:Nat) (c:Addr),as[i]?=some c->H c=some (.lst ((rep aa.length (bg (aD (ps.map (·.2))) (aA s a) (i + 1))).map oV)))/\jI (aD (ps.map (·.2))) (aA s a) m w t /\
 ∀ lr cs H',H lr=none->au H H'->H' lr=some (.lst (List.map V.int cs))->cs.length=m->cG (ps.map (·.2)) s a (-1) cs=some (w,t)->Q (.ref lr) H'
def Q6:Sp:=λvs H Q _=>∃ b lt,∃ s w:Nat,∃ a z aa tr tm ps,vs=[.ref b,.ref lt]/\aL H b aa tr tm ps/\aa.length<=1000/\Good aa.length (ps.map (·.2))/\pW H lt aa.length s w a z /\
 ((∀ i,aW (bg (aD (ps.map (·.2))) (aA s a) i w) z=false)->∀ H',au H H'->Q .bZ H') /\
 ∀ m lr cs e H',S9 (ps.map (·.2)) s a w z m->H lr=none->au H H'->H' lr=some (.lst (List.map V.int cs))->cs.length=m->e<=z->cG (ps.map (·.2)) s a (-1) cs=some (w,e)->Q (.ref lr) H'
theorem Sd (xs:List V)(i:Nat)(h:i < xs.length):i0 xs (some 1) (some ((i:Int) + 1))=(xs.drop 1).take i:=by
 have e:((i:Int) + 1)=((i + 1:Nat):Int):=by omega
 rw [e,show (some (1:Int))=some ((1:Nat):Int) from rfl];unfold i0;rw [HT.lI,HT.lI];show (xs.drop (min 1 xs.length)).take (min (i + 1) xs.length - min 1 xs.length)=_;rw [Nat.min_eq_left (by omega),Nat.min_eq_left (by omega),Nat.add_sub_cancel]
def again (ms:List M4)(day first:Int):Nat->List M4
 | 0=>[]
 | r + 1=>again ms day first r++ms.map (M4.jo ((first + r) * day))
end Sm
namespace L2
open PySem PySem.Spec PyProof.Rows
def Ym (lo c:Int)(n:Nat):It:=⟨λi _=>i < n,λi H x H'=>H'=H/\x=.int (lo + i * c),λi _=>n<=i⟩
theorem sA {P:Program}{w:World}{K:PySem.W.Frag}{tg:Expr}(it:Addr)(lo c:Int)(n:Nat):Turn P w K tg (Ym lo c n) [it] it (λi h=>IsRangeIter h it (lo + (i:Nat) * c) ((n:Int) - (i:Nat)) c) where
 mem:=by simp
 obj:=λi h st b hb=>by
  have e:b=it:=by simpa using hb
  subst e;exact ⟨_,st,λv z=>by
   have z':Data.fields _=Data.cell v:=z;cases z'⟩
 keep:=λi h h' st k=>k it (by simp) _ st
 item:=by
  intro X hP hw hK hc i ah s σ H E I hf st hg;subst hP hw hK;obtain ⟨f0,f1,f2,f3,f4,f5⟩:=hf it (by simp);have W:=Walks.range (prog:=X.prog) (w:=X.w) (I.ok.hd hc) it lo c n;refine W.item i s _ _ hg st λv h' tk hv uX kk=>?_;obtain ⟨t,rfl⟩:=hv;have I1:Inv X ah σ H { s with heap:=h',toks:=tk }:=I.turned (λb o hb e=>kk b o (by simpa using hb) e) f0 f1 f3 f4 f5;exact ⟨_,rfl,K9 (s:={ s with heap:=h',toks:=tk }) (n := "range_iterator") uX rfl rfl (by decide) ⟨.int (lo + i * c),H,I1,⟨t,rfl⟩,⟨rfl,rfl⟩,uX,λb hb=>(hf b hb).1⟩⟩
 done:=by
  intro X hP hw hK hc i ah s σ H E I hf st hg;subst hP hw hK;obtain ⟨f0,f1,f2,f3,f4,f5⟩:=hf it (by simp);exact wpAny_pyNext_range_end (I.ok.hd hc) st (by have:n<=i:=hg;omega) λh' eb=>⟨rfl,I.turned (t':=s.toks) (λb o hb e=>eb b o hb e) f0 f1 f3 f4 f5⟩
 self:=λ_ _ _ _ _ st h=>wpAny_pyIter_rangeiter st h
section
variable {X:Cx}{tg:Expr}
theorem vY {lo c:Int}{n:Nat}{g:TG}{tb:TS}{D:Ends}{σ:St}{H:Hp}(Pv:Nat->St->Hp->Prop)(h0:Pv 0 σ H)
  (hs:∀ i σ H,i < n->Pv i σ H->g (.int (lo + i * c)) σ H fun i8 H2=>tb (D.lp (Pv (i + 1))) i8 H2) (hd:∀ σ H,Pv n σ H->D.nx σ H) :
  ∃ W:Nat->Nat->St->Hp->Prop,(∃ m,W 0 m σ H)/\∀ i m σ H,W i m σ H ->
   ((Ym lo c n).stop i H/\D.nx σ H)\/((Ym lo c n).go i H/\∃ N:St->Hp->Prop,(∀ bu H',N bu H'->∃ m',m' < m/\W (i + 1) m' bu H')/\∀ x H',(Ym lo c n).nV i H x H'->g x σ H' fun i8 H2=>tb (D.lp N) i8 H2):=by
 refine ⟨λi m σ H=>m=n - i/\i<=n/\Pv i σ H,⟨n,by simp,za _,h0⟩,?_⟩;rintro i m σ H ⟨rfl,hi,p⟩;by_cases cA:i < n
 ·refine .inr ⟨cA,Pv (i + 1),fun bu H' p'=>⟨n - (i + 1),by omega,rfl,cA,p'⟩,λx H' y=>?_⟩;obtain ⟨e,y⟩:=y;subst e;subst y;exact hs i σ _ cA p
 ·have e:i=n:=by omega
  subst e;exact .inl ⟨zF _,hd σ H p⟩
end
section
variable {X:Cx}
theorem nu {K:PySem.W.Frag}(hK:X.K=K)(hc:X.calm=true):dU X (.builtin "any") (λxs H Q=>∃ p,∃ bs:List Bool,xs=[.ref p]/\aH K H p (bs.map V.bl)/\Q (.bl (bs.any id)) H):=by subst hK;intro ah s σ H xs us Q I r h;obtain ⟨p,bs,rfl,hq,q⟩:=h;obtain ⟨u,rfl,rx⟩:=vals1 r;cases rx;obtain ⟨ay,r',pl,hz⟩:=I.list hq;obtain ⟨m,F⟩:=I.fr;exact LSm.any_bools F (mJ (g:=X.base) (h:=s.heap)) (I.ok.hd hc) pl.isList (ny r') λh' tk F' N'=>⟨.bl _,H,I.keptAll F F' N',rfl,q⟩
end
end L2
namespace HT
open PySem PySem.Spec PyProof.Rows
section
variable {prog:Program}{w:World}{A:Around}{E:Value->Shared->Prop}{s:Shared}
end
end HT
namespace L2
open PySem PySem.Spec PyProof.Rows
section
variable {X:Cx}
end
theorem ud {x:V}(h:b9 x=true):r9 x x=true:=by cases x <;> first | rfl | (simp [r9,b9] at *)
section
variable {X:Cx}{ah:List (Addr×Obj)}{σ:St}{H:Hp}{s:Shared}
theorem eL {xs:List V}{us:List Value}(r:Vals xs us){j:Nat}(h:j < us.toArray.size):∃ x,xs[j]?=some x/\RelV x us.toArray[j]:=by
 have hl:=r.length;simp only [zQ] at h;have a1:j < xs.length:=by omega
 obtain ⟨u,eu,ru⟩:=r.get (i:=j) (x:=xs[j]) (by simp [a1]);have e1:us.toArray[j]=u:=by rw [List.getElem_toArray];exact Option.some.inj ((zJ h).symm.trans eu)
 exact ⟨xs[j],by simp [a1],by rw [e1];exact ru⟩
end
def Eqv (K:PySem.W.Frag)(H:Hp):Nat->V->V->Bool->Prop
 | 0,x,y,b=>(x=y/\(∃ a,x=.ref a)/\b=true)\/(b9 x=true/\b9 y=true/\b=r9 x y)
 | n + 1,x,y,b=>(x=y/\(∃ a,x=.ref a)/\b=true)\/(b9 x=true/\b9 y=true/\b=r9 x y)\/∃ (a c:Addr) (xs ys:List V) (e:Nat->Bool),x=.ref a/\y=.ref c/\((aH K H a xs/\aH K H c ys)\/(bC K H a xs/\bC K H c ys))/\(a=c->b=true)/\b=(decide (xs.length=ys.length) && (List.range xs.length).all e)/\∀ (i:Nat) (x y:V),xs[i]?=some x->ys[i]?=some y->Eqv K H n x y (e i)
section
variable {X:Cx}{ah:List (Addr×Obj)}{σ:St}{H:Hp}{s:Shared}
theorem m8 {A:Around}{x y:V}{b:Bool}{u v:Value}(h:(x=y/\(∃ a,x=.ref a)/\b=true)\/(b9 x=true/\b9 y=true/\b=r9 x y))(ru:RelV x u)(rv:RelV y v):SeqAt.EqAt A s u v b:=by
 rcases h with ⟨rfl,⟨a,rfl⟩,rfl⟩ | ⟨h1,h2,rfl⟩
 ·cases ru;cases rv;exact SeqAt.EqAt.same _
 ·exact Ko (A:=A) (s:=s) ru rv h1 h2
theorem Pz (I:Inv X ah σ H s):∀ (n:Nat) {A:Around}{x y:V}{b:Bool}{u v:Value},A.units + n < cLine->Eqv X.K H n x y b->RelV x u->RelV y v->SeqAt.EqAt A s u v b:=by
 intro n;induction n with
 | zero=>intro A x y b u v hu h ru rv;exact m8 h ru rv
 | succ n ih=>
  intro A x y b u v hu h ru rv;rcases h with h | h | ⟨a,c,xs,ys,e,rfl,rfl,h,hs,hb,hi⟩
  ·exact m8 (.inl h) ru rv
  ·exact m8 (.inr h) ru rv
  ·cases ru;cases rv;by_cases ne:a=c
   ·rw [hs ne,ne];exact SeqAt.EqAt.same _
   refine SeqAt.EqAt.of_refs ne ?_;have Xv:(A.units + 1) + n < cLine:=by omega
   rcases h with ⟨h1,h2⟩ | ⟨h1,h2⟩
   ·obtain ⟨ay,r1,p1,_⟩:=I.list h1;obtain ⟨eZ,r2,p2,_⟩:=I.list h2;have l1:=r1.length;have l2:=r2.length;by_cases hl:xs.length=ys.length
    ·have:=SeqAt.RcAt.lists (A:=A) (e:=e) p1.isList p2.isList (by simp;omega) (by omega) λj h1 h2=>by
      obtain ⟨x,ex,rx⟩:=eL r1 h1;obtain ⟨y,ey,ry⟩:=eL r2 h2;exact ih Xv (hi j x y ex ey) rx ry
     rw [hb,decide_eq_true hl,yo,l1];simpa using this
    ·rw [hb,decide_eq_false hl,yH];exact SeqAt.RcAt.lists_lengths (A:=A) p1.isList p2.isList (by simp;omega) (by omega)
   ·obtain ⟨ay,r1,p1,_⟩:=I.tuple h1;obtain ⟨eZ,r2,p2,_⟩:=I.tuple h2;have l1:=r1.length;have l2:=r2.length;have:=SeqAt.RcAt.tuples (A:=A) (e:=e) p1 p2 (by omega) λj h1 h2=>by
     obtain ⟨x,ex,rx⟩:=eL r1 h1;obtain ⟨y,ey,ry⟩:=eL r2 h2;exact ih Xv (hi j x y ex ey) rx ry
    by_cases hl:xs.length=ys.length
    ·rw [hb,decide_eq_true hl,yo,l1];have e1:eZ.length=ay.length:=by omega
     simpa [e1] using this
    ·rw [hb,decide_eq_false hl,yH];have e1:¬ ay.length=eZ.length:=by omega
     have e2:(ay.toArray.size == eZ.toArray.size)=false:=by simp [e1]
     rw [e2,yt] at this;exact this
def aax (K:PySem.W.Frag)(neg:Bool):R2:=λx y H Q=>∃ (n:Nat) (a c:Addr) (xs ys:List V) (e:Nat->Bool) (b:Bool),n<=20/\x=.ref a/\y=.ref c/\((aH K H a xs/\aH K H c ys)\/(bC K H a xs/\bC K H c ys))/\b=(decide (xs.length=ys.length) && (List.range xs.length).all e)/\(∀ (i:Nat) (x y:V),xs[i]?=some x->ys[i]?=some y->Eqv K H n x y (e i))/\Q (.bl (if neg then !b else b)) H
theorem OG (hu:X.A.units + 64 < cLine):iB X (compareOp .Eq) (aax X.K false):=by
 intro ah s σ H x y v u Q I rx ry h;obtain ⟨n,a,c,xs,ys,e,b,hn,rfl,rfl,h,hb,hi,q⟩:=h;cases rx;cases ry;rw [if_neg (by decide),hb] at q;rcases h with ⟨h1,h2⟩ | ⟨h1,h2⟩
 ·obtain ⟨ay,r1,p1,_⟩:=I.list h1;obtain ⟨eZ,r2,p2,_⟩:=I.list h2;have l1:=r1.length;have l2:=r2.length;by_cases hl:xs.length=ys.length
  ·rw [decide_eq_true hl,yo,l1] at q;exact SeqAt.RcAt.lists (e:=e) p1.isList p2.isList (by simp;omega) (by omega) (λj h1 h2=>by
    obtain ⟨x,ex,rx⟩:=eL r1 h1;obtain ⟨y,ey,ry⟩:=eL r2 h2;exact Pz I n (by show X.A.units + 1 + n < cLine;omega) (hi j x y ex ey) rx ry) _ _ _ _ ⟨.bl _,H,I,rfl,by simpa using q⟩
  ·rw [decide_eq_false hl,yH] at q;exact SeqAt.RcAt.lists_lengths p1.isList p2.isList (by simp;omega) (by omega) _ _ _ _ ⟨.bl _,H,I,rfl,q⟩
 ·obtain ⟨ay,r1,p1,_⟩:=I.tuple h1;obtain ⟨eZ,r2,p2,_⟩:=I.tuple h2;have l1:=r1.length;have l2:=r2.length;have key:((List.range (min ay.toArray.size eZ.toArray.size)).all e && ay.toArray.size == eZ.toArray.size)=(decide (xs.length=ys.length) && (List.range xs.length).all e):=by
   by_cases hl:xs.length=ys.length
   ·have e1:eZ.length=ay.length:=by omega
    rw [decide_eq_true hl,yo,l1];simp [e1]
   ·have e1:¬ ay.length=eZ.length:=by omega
    rw [decide_eq_false hl,yH];simp [e1]
  rw [<-key] at q;exact SeqAt.RcAt.tuples (e:=e) p1 p2 (by omega) (λj h1 h2=>by
   obtain ⟨x,ex,rx⟩:=eL r1 h1;obtain ⟨y,ey,ry⟩:=eL r2 h2;exact Pz I n (by show X.A.units + 1 + n < cLine;omega) (hi j x y ex ey) rx ry) _ _ _ _ ⟨.bl _,H,I,rfl,q⟩
end
section
variable {X:Cx}
theorem pG:∀ {ns:List Int}{ay:List Value},Vals (ns.map V.int) ay->∃ xs:List (Int×Tok),ay=xs.map (λp=>Value.int p.1 p.2)/\xs.map (·.1)=ns
 | [],_,r=>by cases r;exact ⟨[],rfl,rfl⟩
 | n::ns,_,r=>by
  cases r with
  | cons r1 rr=>
   obtain ⟨t,rfl⟩:=r1;obtain ⟨xs,rfl,e⟩:=pG rr;exact ⟨(n,t)::xs,rfl,by rw [zd,e]⟩
end
end L2
namespace Sm
open PySem L2 aQ
def mx:Option Int->Option Int->Option Int
 | none,b=>b
 | some a,none=>some a
 | some a,some b=>some (if b > a then b else a)
theorem ahead {n:Nat}{ms:List M4}{m:M4}(g:Good n (ms++[m])){v:Nat}{x y:Int}{i:Nat}(hi:i≠v)(h:fwd ms (aA v x) i=some y):y<=m.t/\((i=m.lo.toNat\/i=m.hi.toNat)->y < m.t):=by
 obtain ⟨a,ha,ao,at',_⟩:=jf (ws:=aD ms) h (by simp [aA,hi]);unfold aD at ha;obtain ⟨c,hc,hx⟩:=xF.mp ha;have od:=(List.pairwise_append.mp g.order).2.2 c hc m (by simp);obtain ⟨c1,c2,c3,_⟩:=g.each c (by simp [hc]);obtain ⟨m1,m2,m3,_⟩:=g.each m (by simp);unfold two at hx;simp only [zO,zw,or_false] at hx;have ct:c.t=y:=by rcases hx with rfl | rfl <;> exact at'
 have ci:i=c.lo.toNat\/i=c.hi.toNat:=by
  rcases hx with rfl | rfl
  ·exact .inr ao.symm
  ·exact .inl ao.symm
 refine ⟨by rcases od with h | h <;> omega,λhm=>?_⟩;rcases od with h | ⟨h1,h2,h3,h4,h5,h6⟩
 ·omega
 ·exfalso;rcases ci with e | e <;> rcases hm with e' | e' <;> omega
end Sm
namespace L2
open PySem PySem.Spec PyProof.Rows
section
variable {X:Cx}{ah:List (Addr×Obj)}{σ:St}{H:Hp}{s:Shared}
theorem vn {ix:Nat}{xn:Str}{pos' Wy:Pos}{own:List Str}{caps:List Nat}{elt tg iter:Expr}{ifs:List Expr}{scope:Scope}{pos:Pos}{wi:TI}{g:TG}{tc:TT}{te:TE}(hN:X.N.Nodup)(hix:X.N[ix]?=some xn)(hxl:Mv X.env.scope xn=true)(hc:X.calm=true)(S:aK own caps X.N X.env.scope scope)(hi:PI X tg iter wi)
  (hg:∀ s H fp C,PG (bW X own caps scope s H fp C) tg g) (ht:∀ s H fp C,Wb (bW X own caps scope s H fp C) ifs tc) (he:∀ s H fp C,PE (bW X own caps scope s H fp C) elt te)
  (hs:∀ x,foldedSetIterable iter X.env x=pure x:=by intro _;rfl) (hsw:swapsWith (.ListComp elt [⟨tg,iter,ifs,0⟩] scope pos) (some (.Name xn pos')) Wy.line X.env=pure true:=by rfl)
  (hf:iK X xn=true:=by rfl) :
  PS X (.Assign [.Name xn pos'] (.ListComp elt [⟨tg,iter,ifs,0⟩] scope pos) Wy) (p7 (Sn own.length caps wi g tc te) (iJ ix)):=by
 have hxl:=lK hxl;intro ah s σ H D0 I h;rw [exec_Assign_Name_used _ _ _ _ hsw,arm_evalThenUse_ListComp]
 suffices main:wpAny (model X.prog X.w) X.A (comprehension (.ListComp elt [⟨tg,iter,ifs,0⟩] scope pos) scope X.env (firstIterPos [⟨tg,iter,ifs,0⟩] pos) (newList []) false (eval iter X.env) (some (assign (.Name xn pos') X.env))) (λ_ s1=>SP X ah D0 .next s1) X.xe s from
  wpAny_bind (wpAny_standAt (wpAny_bind (wpAny_bind (wpAny_mono main (λ_ s1 h=>wpAny_pure (wpAny_pure h)) λ_ _ e=>e))))
 refine wpAny_comprehension_free (use:=some _) (cl:=c8 scope.names X.env []) rfl hs (cP λy hy e=>I.ok.has y.1 (S.fr y hy e)) S.kind S.loc
  (wpAny_mono (hi ah s σ H _ I h) (λv s1 h1=>aV h1 λXk s2 h2=>?_) λ_ _ e=>e)
 obtain ⟨it,fp,tn,J,H2,e,I2,T,Qo,f2,W,⟨m0,w0⟩,turn⟩:=h2;subst e;refine wpAny_newObj_type (wpAny_newFunctionEnv S.gF (by intro y hy;simp at hy) (λck dQ cD=>?_) S.kind);dsimp only at dQ cD ⊢;generalize Pf:s2.heap.push { cls:=.type "list", dict:=none,data:=.seq ([]:List Value).toArray }=G at dQ cD ⊢;have hG:G.objs.size=s2.heap.objs.size + 1:=by rw [<-Pf,Heap.size_push]
 have MM:s2.heap.objs.size≠G.objs.size:=by rw [hG];exact zV (xE _)
 have MN:s2.heap.objs.size<=G.objs.size:=by rw [hG];exact yV _
 have below:∀ b,b < s2.heap.objs.size->b≠G.objs.size:=λb hb=>by rw [hG];exact zV (yi hb)
 have old:∀ b o,s2.heap.get? b=some o->ck.get? b=some o:=λb o e=>cD.extBut b o (below b (Heap.lt_size e)) (Heap.get?_push_of_some _ (Pf ▸ Heap.get?_push_of_some _ e));have vS:ck.get? s2.heap.objs.size=some { cls:=.type "list", dict:=none,data:=.seq ([]:List Value).toArray }:=cD.extBut _ _ MM (Heap.get?_push_of_some _ (Pf ▸ Heap.get?_push_size _ rfl));have fl:∀ b∈fp,b < s2.heap.objs.size:=λb hb=>let ⟨o,e,_⟩:=T.obj _ _ Qo b hb;Heap.lt_size e;have jr:ck.Ns G.objs.size λ_=>none:=dQ;have I4:=mT (tk:=s2.toks + ([]:List (Str×Value)).length) I2 S f2 fl (zF _) MN MM old jr vS (λv z=>nomatch z);have NU:tn 0 ck:=T.keep _ _ _ Qo λb _ o e=>old b o e;generalize Xx:({ s2 with heap:=ck,toks:=s2.toks + ([]:List (Str×Value)).length }:Shared)=s4 at I4 ⊢;have e4:s4.heap=ck:=by rw [<-Xx]
 rw [<-e4] at NU
 -- LK loop
 have loop:codeAny (model X.prog X.w) X.A (.compLoop (.ListComp elt [⟨tg,iter,ifs,0⟩] scope pos) 0 (.ref it) (.ref s2.heap.objs.size) (compEnvC scope (c8 scope.names X.env []) G.objs.size X.env))
   (compPost (model X.prog X.w) X.A X.xe (some (assign (.Name xn pos') X.env)) (λ_ s1=>SP X ah D0 .next s1) (.ref s2.heap.objs.size) G.objs.size) s4:=by
  let Y:=bW X own caps scope s2 H2 fp G.objs.size
  have iT:∀ {H':Hp}{ay:List Value}{n:Nat},(∀ b∈fp,H' b=none)->∀ b∈fp,gU Y [(s2.heap.objs.size,({ cls:=.type "list", data:=.seq ay.toArray n }:Obj))] H' b:=λ{H' ay n} hn b hb=>by
   refine ⟨hn b hb,below b (fl b hb),λz=>?_,.inl hb,λx c e=>(f2 b hb).2.2.2.2.1 x c (wL e),λp hp=>?_⟩
   ·rcases zO.mp (I2.gq b z) with e | e
    ·exact (f2 b hb).2.1 e
    ·exact (f2 b hb).2.2.1 e
   ·have e:p=(s2.heap.objs.size,({ cls:=.type "list", data:=.seq ay.toArray n }:Obj)):=by simpa using (show p∈[]++[_] from hp)
    subst e;exact yQ (fl b hb)
  refine pe (λn s'=>∃ i τ acc ay k H',Inv Y [(s2.heap.objs.size,({ cls:=.type "list", data:=.seq ay.toArray k }:Obj))] τ H' s'/\tn i s'.heap/\(∀ b∈fp,H' b=none)/\Vals acc ay/\W i n τ acc H') ?_ m0
   ⟨0,_,[],[],0,H2,I4,NU,λb hb=>(f2 b hb).1,.nil,w0⟩
  rintro n s5 ⟨i,τ,acc,ay,k,H5,I5,Nj,QD,Me,w5⟩;rcases turn i n τ acc H5 w5 with ⟨stop,hz,q⟩ | ⟨go,hz,step⟩
  ·refine aV (T.done Y rfl rfl rfl hc i _ s5 τ H5 (λ_ _=>False) I5 (iT QD) Nj stop) λr s6 ⟨hr,I6⟩=>?_;subst hr;obtain ⟨eD,nD,_,_,_⟩:=I6.pin _ (zE _ (zK.mpr rfl));obtain ⟨m6,XE,_⟩:=I6.loc;have U4:H5 G.objs.size=none:=I6.free;have O6:fW X.prog X.w H5 s6.heap:=I6.aT;have ub:=I6.base;have IX:Inv X ah σ (upd H5 s2.heap.objs.size (.lst acc)) s6:=by
    refine I2.ur (ch:=fp) (s':=s6) I6.os ⟨λb o e n' hb hx=>ub.keep b o e n' hb hx,λb o e n' hb hx=>?_,λb o e n' hx=>?_,λb o e hx=>?_,λb xs e=>?_,λb o u e=>?_,λb ps e=>?_⟩
     (O6.NR nD ⟨hz,ay,k,Me,eD⟩) I6.bare λb hb=>⟨(f2 b hb).2.2.2.1,(f2 b hb).2.1,(f2 b hb).2.2.2.2.1,(f2 b hb).2.2.2.2.2⟩
    ·exact ub.slot b o e n' hb hx
    ·rw [xq (zV (Heap.lt_size e))];exact ub.free b o e n' hx
    ·exact ub.there b o e hx
    ·have z:=ub.aS b xs e;rw [xq (xj z nD)];exact z
    ·have z:=ub.dZ b o u e;rw [xq (xj z nD)];exact z
    ·obtain ⟨more,z⟩:=ub.dX b ps e;exact ⟨more,by rw [xq (xj z nD)];exact z⟩
   have XU:(upd H5 s2.heap.objs.size (.lst acc)) G.objs.size=none:=by rw [xq (Ne.symm MM)];exact U4
   have fC:gU X ah (upd H5 s2.heap.objs.size (.lst acc)) G.objs.size:=I2.oi MN XU;obtain ⟨oC,esC,epC,gC,dC,rC⟩:=XE;have IP:=IX.pinned (fp:=[G.objs.size]) (λb hb=>by cases zK.mp hb;exact fC) (λb hb=>by cases zK.mp hb;exact ⟨oC,gC,λv z=>by rw [dC] at z;cases z⟩);refine wpAny_assign_Name (gj IP hN hix hxl (v:=.ref s2.heap.objs.size) rfl (λs7 I7=>?_) hf);have pC:=(I7.pin (G.objs.size,oC) (zE _ (zE _ (wT (zK.mpr rfl) gC)))).1;refine ⟨m6,⟨oC,esC,epC,pC,dC,rC⟩,λh' rX=>?_⟩;have I8:Inv X ah (σ.set ix (some (.ref s2.heap.objs.size))) (upd H5 s2.heap.objs.size (.lst acc)) { s7 with heap:=h' }:=I7.cB.turned (t':=s7.toks) (λb o hb e=>rX.extBut b o hb e) fC.1 fC.2.1 fC.2.2.2.1 fC.2.2.2.2.1 fC.2.2.2.2.2;exact ⟨_,_,I8,q _ nD⟩
  ·refine aV (T.item Y rfl rfl rfl hc i _ s5 τ H5 (λ_ _=>False) I5 (iT QD) Nj go) λr s6 ⟨u,hr,h6⟩=>?_;subst hr;refine aV h6 λ_ s7 ⟨x,H7,I7,r7,y7,LS,X3⟩=>?_;have Yo:=I7.pinned (iT X3) (T.obj _ _ LS);refine aV (hg s2 H2 fp G.objs.size _ s7 τ H7 x u _ Yo r7 (step x H7 y7)) λ_ s8 ⟨uJ,H8,I8,q8⟩=>?_;refine aV (ht s2 H2 fp G.objs.size _ s8 uJ H8 _ I8 q8) λok s9 ⟨H9,I9,q9⟩=>?_
   -- LK iX state behind LK turn
   have back:∀ {s':Shared}{Nz:St}{H':Hp},Inv Y ([(s2.heap.objs.size,({ cls:=.type "list", data:=.seq ay.toArray k }:Obj))]++cZ fp s7.heap) Nz H' s'->(tn (i + 1) s'.heap/\∀ b∈fp,H' b=none):=λ{s' Nz H'} Ib=>
    ⟨T.keep _ _ _ LS λb hb o e=>(Ib.pin (b,o) (zE _ (zE _ (wT hb e)))).1,λb hb=>by
     obtain ⟨o,e,d⟩:=T.obj _ _ LS b hb;exact (Ib.pin (b,o) (zE _ (zE _ (wT hb e)))).2.1⟩
   cases ok with
   | false=>
    obtain ⟨m',ig,w'⟩:=q9;obtain ⟨sb,fb⟩:=back I9;exact ⟨m',ig,i + 1,uJ,acc,ay,k,H9,I9.cB,sb,fb,Me,w'⟩
   | true=>
    refine aV (he s2 H2 fp G.objs.size _ s9 uJ H9 _ I9 q9) λy iV ⟨yv,rT,Vz,r10,q10⟩=>?_;obtain ⟨m',ig,w'⟩:=q10;obtain ⟨sb,fb⟩:=back Vz;obtain ⟨eD,nD,Qt,WW,_⟩:=Vz.pin (s2.heap.objs.size,_) (zE _ (zT _ (zK.mpr rfl)));have hl:acc.length=ay.length:=Me.length;refine call_meets F.slot_list_append ⟨_,eD,rfl⟩ F.entry_list_append (F.args_list_append_2 _ _) (PySem.list_append s2.heap.objs.size ay.toArray k y (by rw [zQ];omega)) ⟨eD,?_⟩;have q:=PySem.IsL.update eD (λa:Array Value=>a.push y);have Iu:Inv Y [] uJ rT iV:=Vz.bP λp hp=>nomatch hp;have It:=Iu.turned (t':=iV.toks) (it:=s2.heap.objs.size) (h':=iV.heap.update s2.heap.objs.size (Obj.mapSeq (λa:Array Value=>a.push y))) (λb o hb e=>(Heap.get?_update_other iV.heap _ (Ne.symm hb)).trans e) nD Qt (.inr (zF _))
     (λx c e z=>by
      obtain ⟨v,ob,MH,_⟩:=I2.cell x c (wL e);exact absurd (Heap.lt_size MH) (by rw [z];exact z6 _)) (λp hp=>nomatch hp)
    have Yn:=It.bP (eO:=[(s2.heap.objs.size,({ cls:=.type "list", data:=.seq (ay++[y]).toArray (k + 1) }:Obj))]) λp hp=>by
     have e:p=_:=zK.mp hp;subst e;exact ⟨by simpa using q,nD,Qt,WW,λv z=>nomatch z⟩
    refine ⟨m',ig,i + 1,uJ,acc++[yv],ay++[y],_,rT,Yn,T.keep _ _ _ sb λb hb o e=>(Heap.get?_update_other iV.heap _ (yQ (fl b hb))).trans e,fb,Me.append (.cons r10 .nil),w'⟩
 exact codeAny_compStart_list loop (T.self _ 0 s4 _ _ NU loop)
end
section
variable {n:Nat}{caps:List Nat}{σ:St}{H:Hp}{g:TG}{tc:TT}{te:TE}{Qf:Addr->Hp->List V->Prop}{K:PySem.W.Frag}{a b:Addr}{xs ys:List V}
theorem M5 (el:xs.length=ys.length)(Pv:Nat->St->List V->Hp->Prop)(h0:Pv 0 (fK n caps σ) [] H)(hn:xs.length<=1000)(hl:∀ i τ acc H,Pv i τ acc H->acc.length<=i/\aH K H a xs/\aH K H b ys)
  (hs:∀ i x y q τ acc H (C:St->List V->Hp->Prop),xs[i]?=some x->ys[i]?=some y->H q=none->Pv i τ acc H->(∀ τ acc H,Pv (i + 1) τ acc H->C τ acc H)->g (.ref q) τ (upd H q (.tup [x,y])) fun bH H2=>tc bH H2 λb H3=>if b=true then te bH H3 λy H4=>C bH (acc++[y]) H4 else C bH acc H3)
  (hd:∀ τ acc H,Pv xs.length τ acc H->∀ p,H p=none->Qf p H acc) :
  ∃ W:Nat->Nat->St->List V->Hp->Prop,(∃ m,W 0 m (fK n caps σ) [] H)/\∀ i m τ acc H,W i m τ acc H ->
   ((Nv K a b).stop i H/\acc.length<=sizeLine/\∀ p,H p=none->Qf p H acc) \/
   ((Nv K a b).go i H/\acc.length < sizeLine/\∀ x H',(Nv K a b).nV i H x H'->g x τ H' fun bH H2=>tc bH H2 λb H3=>if b=true then te bH H3 λy H4=>∃ m',m' < m/\W (i + 1) m' bH (acc++[y]) H4 else ∃ m',m' < m/\W (i + 1) m' bH acc H3):=
 jz (J:=Nv K a b) Pv xs.length h0 hn (λi τ acc H p=>(hl i τ acc H p).1) (λi τ acc H hi p=>⟨xs,ys,xs[i],ys[i]'(by omega),(hl i τ acc H p).2.1,(hl i τ acc H p).2.2,by simp [hi],by simp [<-el,hi]⟩) (fun τ acc H p=>⟨xs,ys,(hl _ τ acc H p).2.1,(hl _ τ acc H p).2.2,.inl (zF _)⟩)
  (λi τ acc H C hi p c x H' y=>by obtain ⟨q,x',y',hq,e1,e2,y⟩:=y;subst e1;subst e2;exact hs i x' y' q τ acc _ C (y xs ys (hl i τ acc _ p).2.1 (hl i τ acc _ p).2.2).1 (y xs ys (hl i τ acc _ p).2.1 (hl i τ acc _ p).2.2).2 hq p c) hd
end
section
variable {X:Cx}
theorem M8 (hc:X.calm=true):dU X (.builtin "min") (λxs H Q=>∃ p ns,xs=[.ref p]/\aH X.K H p (List.map V.int ns)/\0 < ns.length/\∀ M,M∈ns->(∀ a∈ns,M<=a)->Q (.int M) H):=by
 intro ah s σ H xs us Q I r h;obtain ⟨p,ns,rfl,hp,n0,q⟩:=h;obtain ⟨u,rfl,ru⟩:=vals1 r;cases ru;obtain ⟨ay,r,pl,_⟩:=I.list hp;obtain ⟨ys,rfl,e⟩:=pG r;have hl:ys.length=ns.length:=by rw [<-e,zA]
 have li:s.heap.IsList p (intItems ys.toArray):=by
  have:=pl.isList;unfold intItems;rw [List.map_toArray];exact this
 refine min_intList (I.ok.hd hc) li (by simp;omega) λv h' tk hv k=>?_;obtain ⟨t,rfl⟩:=intItems_at hv;obtain ⟨b1,b2⟩:=argBest_lt (numAt ys.toArray) (ys.toArray.size - 1);have W0:∀ j (h:j < ns.length),numAt ys.toArray j=ns[j]:=λj h=>by
  rw [numAt_eq];simp [e,h]
 have sz:ys.toArray.size=ns.length:=by simp [hl]
 rw [sz] at b1 b2 ⊢;refine ⟨.int _,H,I.kept k,⟨_,rfl⟩,q _ ?_ λa ha=>?_⟩
 ·rw [W0 _ (by omega)];exact yC _
 ·obtain ⟨j,hj,rfl⟩:=List.mem_iff_getElem.mp ha;have:=b2 j (by omega);rw [W0 j hj] at this;exact this
end
end L2
namespace Sm
open PySem L2 aQ
theorem aaT {c:Bool}{A B:Prop}{D:Ends}{σ:St}{H:Hp}(Pre:St->Hp->Prop)(k:∀ σ H,Pre σ H->D.nx σ H)(h1:c=true->(∀ σ H,Pre σ H->D.nx σ H)->A)(h2:c=false->(∀ σ H,Pre σ H->D.nx σ H)->B):if c=true then (if true=true then A else gg D σ H) else B:=by
 cases c with
 | true=>exact h1 rfl k
 | false=>exact h2 rfl k
theorem aaV {c:Bool}{T2 A:Prop}{D:Ends}{σ:St}{H:Hp}(Pre:St->Hp->Prop)(k:∀ σ H,Pre σ H->D.nx σ H)(h1:c=true->(∀ σ H,Pre σ H->D.nx σ H)->T2)(h2:c=false->Pre σ H):if c=true then T2 else (if false=true then A else gg D σ H):=by
 cases c with
 | true=>exact h1 rfl k
 | false=>exact k _ _ (h2 rfl)
end Sm
namespace L2
open PySem PySem.Spec PyProof.Rows PySem.W
def nh (c:Addr)(qual:Str):HO:=.ext λh=>h.CodeRec (.ref c) qual
def MT (P:Addr)(pos:Pos)(qual:Str)(H:Hp):Prop:=H P=some (.jM #[])\/∃ c,H P=some (.jM #[rawInt pos.line,rawInt pos.col,.ref c])/\H c=some (nh c qual)
def aR (mg:Str->Option Value)(base:Heap):Prop:=∃ bm o,mg "__builtins__" = some (.ref bm)/\bm≠builtinsNs/\bm≠mainGlobals/\base.get? bm=some o/\o.cls=.type "module" /\ o.dict=some builtinsNs/\o.data=.plain
section
variable {X:Cx}{ah:List (Addr×Obj)}{σ:St}{H:Hp}{s:Shared}
theorem Inv.abR (I:Inv X ah σ H s):∀ b∈X.fs,b < s.heap.objs.size:=λb hb=>by
 obtain ⟨_,o,ho,_⟩:=I.ok.gP.mem hb;exact zU (Heap.lt_size ho) I.sz
theorem PX {P:Program}{w:World}{H:Hp}{h:Heap}{c:Addr}{qual:Str}(r:h.CodeRec (.ref c) qual):bq P w H h c (nh c qual):=by obtain ⟨c2,oc,vs,t,e,ho,hd,hv⟩:=id r;cases e;exact ⟨r,⟨_,ho⟩,λh1 h2 ⟨c2,oc,vs,t,e,ho,hd,hv⟩ k=>by cases e;exact ⟨c,oc,vs,t,rfl,k _ ho,hd,hv⟩⟩
theorem OX {P c:Addr}{nj:List (Str×Addr)}{pos:Pos}{params:Arguments}{body:Expr}{scope:Scope}{Q:Value->Shared->Prop}(I:Inv X ah σ H s)(mt:MT P pos (X.env.qual ++ "<lambda>") H)(K8:X.env.code=.ref c)(hd:codeHdIn X.K c P=true)(bm:aR X.mg X.base)
  (UW:defaultsOf params X.env=([],[])) (V1:closureFor scope X.env=pure nj)
  (h:∀ f c' rK pm H' s',Inv X ((f,kla_obj "<lambda>" (X.env.qual ++ "<lambda>") params body scope nj pm c' rK)::ah) σ H' s'->H' c'=some (nh c' (X.env.qual ++ "<lambda>"))->Sm.cX P H H'->MT P pos (X.env.qual ++ "<lambda>") H'->Q (.ref f) s') :
  wpAny (model X.prog X.w) X.A (eval (.Lambda params body scope pos) X.env) Q X.xe s:=by
 refine kla_eval UW ?_;have glob:s.heap.Ns mainGlobals X.mg:=I.mod.glob.keeps I.bk;have C:CodeHd s.heap c P:=codeHd_of_K I.kY hd;have tr:∃ o,H P=some o:=by rcases mt with e | ⟨_,e,_⟩ <;> exact ⟨_,e⟩
 have jN:∀ b o,X.base.get? b=some o->b≠P:=λb o e z=>by
  have:=(I.bs b o e).2;obtain ⟨u,hu⟩:=tr;rw [z,hu] at this;cases this
 have hgP:mainGlobals≠P:=by
  obtain ⟨o,_,_,e,_⟩:=I.mod.glob;exact jN _ _ e
 have hB:s.heap.BuiltinsAt X.mg P:=by
  obtain ⟨b,o,e1,e2,e3,e4,e5,e6,e7⟩:=bm;exact ⟨b,o,e1,e2,e3,jN _ _ e4,I.bk _ _ e4,e5,e6,e7⟩
 have pin:∀ {h':Heap}{H':Hp}{ob:Obj}{tk:Nat},Inv X ah σ H' { s with heap:=h'.push ob,toks:=tk }->s.heap.objs.size<=h'.objs.size->H' h'.objs.size=none->(∀ v,ob.data≠.cell v)->ob.isFreed=false->Inv X ((h'.objs.size,ob)::ah) σ H' { s with heap:=h'.push ob,toks:=tk }:=λ{h' H' ob tk} J hs hn nc nf=>
  J.bP λp hp=>by
   rcases zO.mp hp with rfl | hp
   ·exact ⟨Heap.get?_push_size _ nf,hn,yQ (zU I.lt hs),λz=>z6 _ (zU (I.abR _ z) hs),nc⟩
   ·exact J.pin p (zE _ hp)
 rcases mt with mt | ⟨c1,mt,SY⟩
 ·have hP:s.heap.get? P=some (tabObj #[]):=I.aT P _ mt;refine kla_makeFunction V1 I.ok.glob glob K8 C hP trivial rfl hgP hB λc' rK h' tk hx hge cA rec hP'=>?_;have fr:H c'=none:=I.aT.fresh hge;have ncP:c'≠P:=λz=>by rw [z,mt] at fr;cases fr
  have aat:(h'.push (kla_obj "<lambda>" (X.env.qual ++ "<lambda>") params body scope nj ((X.mg "__name__").getD .none) c' rK)).CodeRec (.ref c') (X.env.qual ++ "<lambda>"):=by
   obtain ⟨c2,oc,vs,t,e,ho,hd,hv⟩:=rec;exact ⟨c2,oc,vs,t,e,Heap.get?_push_of_some _ ho,hd,hv⟩
  have kp:∀ b o,b≠P->s.heap.get? b=some o->(h'.push (kla_obj "<lambda>" (X.env.qual ++ "<lambda>") params body scope nj ((X.mg "__name__").getD .none) c' rK)).get? b=some o:=λb o hb e=>Heap.get?_push_of_some _ (hx b o hb e);have hP2:=Heap.get?_push_of_some (kla_obj "<lambda>" (X.env.qual ++ "<lambda>") params body scope nj ((X.mg "__name__").getD .none) c' rK) hP';have at_:∀ b,b≠P->b≠c'->upd (upd H P (.jM #[rawInt pos.line,rawInt pos.col,.ref c'])) c' (nh c' (X.env.qual ++ "<lambda>")) b=H b:=λb h1 h2=>by rw [xq h2,xq h1]
  have neT:∀ b u,H b=some u->u≠.jM #[]->b≠P:=λb u e n z=>by rw [z,mt] at e;cases e;exact n rfl
  have OP:∀ b u,H b=some u->b≠c':=λb u e z=>by rw [z,fr] at e;cases e
  have lt:∀ b o,s.heap.get? b=some o->b≠c':=λb o e=>zV (zU (Heap.lt_size e) hge);have aP:upd (upd H P (.jM #[rawInt pos.line,rawInt pos.col,.ref c'])) c' (nh c' (X.env.qual ++ "<lambda>")) P=some (.jM #[rawInt pos.line,rawInt pos.col,.ref c']):=by rw [xq ncP.symm,xg]
  have J:Inv X ah σ (upd (upd H P (.jM #[rawInt pos.line,rawInt pos.col,.ref c'])) c' (nh c' (X.env.qual ++ "<lambda>"))) { s with heap:=h'.push (kla_obj "<lambda>" (X.env.qual ++ "<lambda>") params body scope nj ((X.mg "__name__").getD .none) c' rK),toks:=tk }:=by
   refine I.un ⟨λb o e n _ _=>kp b o (λz=>by rw [z,mt] at n;cases n) e,λb o e n _ _=>⟨o.slots,kp b o (λz=>by rw [z,mt] at n;cases n) e⟩,λb o e n _=>?_,λb o e _=>?_,λb xs e=>?_,λb o u e=>?_,λb ps e=>?_⟩ λb u e=>?_
   ·rw [at_ b (λz=>by rw [z,mt] at n;cases n) (lt b o e)];exact n
   ·by_cases z:b=P
    ·exact ⟨_,by rw [z];exact hP2⟩
    ·exact ⟨o,kp b o z e⟩
   ·rw [at_ b (neT b _ e (by intro z;cases z)) (OP b _ e)];exact e
   ·rw [at_ b (neT b _ e (by intro z;cases z)) (OP b _ e)];exact e
   ·by_cases z:b=P
    ·rw [z,mt] at e;cases e;exact ⟨_,by rw [z,aP,Array.empty_append]⟩
    ·exact ⟨#[],by rw [at_ b z (OP b _ e),e,Array.append_empty]⟩
   ·by_cases z:b=c'
    ·subst z;rw [xg] at e;cases e;exact PX aat
    ·by_cases z2:b=P
     ·rw [z2,aP] at e;cases e;rw [z2];exact hP2
     ·rw [at_ b z2 z] at e;refine (I.aT b u e).dh (λb' v hb q=>kp b' v (λy=>?_) q) (λb' q=>by rw [at_ b' (neT b' _ q (by intro z;cases z)) (OP b' _ q)];exact q) λb' xs q=>by rw [at_ b' (neT b' _ q (by intro z;cases z)) (OP b' _ q)];exact q
      rcases hb with hb | hb
      ·exact z2 (hb.symm.trans y)
      ·rw [y,mt] at hb;cases hb
  have nf:upd (upd H P (.jM #[rawInt pos.line,rawInt pos.col,.ref c'])) c' (nh c' (X.env.qual ++ "<lambda>")) h'.objs.size=none:=by
   rw [at_ h'.objs.size (yQ (Heap.lt_size hP')) (yQ cA)];exact I.aT.fresh (by omega)
  refine h _ c' rK ((X.mg "__name__").getD .none) _ _ (pin J (by omega) nf (by intro v z;cases z) rfl) xg (λb u hb e=>?_) (.inr ⟨c',aP,xg⟩);rw [at_ b hb (OP b _ e)];exact e
 ·have hP:s.heap.get? P=some (tabObj #[rawInt pos.line,rawInt pos.col,.ref c1]):=I.aT P _ mt;refine kla_makeFunctionHit (cv:=.ref c1) V1 I.ok.glob glob K8 C hP ⟨⟩ ?_ hB λrK h' tk kp hs=>?_
  ·have:=codeAmong_snoc (pos:=pos) (c:=Value.ref c1) [] trivial rfl;exact this
  ·have J:Inv X ah σ H { s with heap:=h'.push (kla_obj "<lambda>" (X.env.qual ++ "<lambda>") params body scope nj ((X.mg "__name__").getD .none) c1 rK),toks:=tk }:=I.kept λb o e=>Heap.get?_push_of_some _ (kp b o e);refine h _ c1 rK ((X.mg "__name__").getD .none) H _ (pin J hs (I.aT.fresh hs) (by intro v z;cases z) rfl) SY (Sm.cX.refl P H) (.inr ⟨c1,mt,SY⟩)
end
end L2
namespace L2
open PySem PySem.Spec PyProof.Rows PySem.W aQ PySem.Calls
section
variable {X:Cx}{e body:Expr}{te:TE}{np kp tL pos:Pos}{params:Arguments}{scope:Scope}{P c:Addr}{N:List Str}{ok:List Int->Prop}{kf:List Int->List Int}{pn:Str}
theorem bV.okC {P:Program}{w:World}{K:PySem.W.Frag}{mg:Str->Option Value}{base:Heap}{x qual:Str}{st:Stmt}{f c:Addr}{fd:FuncData}{N ps:List Str}{k:Nat}{sp:Sp}(F:bV K x qual st f fd)(hc:fd.code=.ref c)(S:av N ps (aj st))(len:∀ vs H Q E,sp vs H Q E->vs.length=ps.length)
  (dR:∀ (A:Around) (outer:List Env) (s:Shared) (H:Hp) (vs:List V) (Q:VK) (E:XK),cz k (A.deeper (envOfC qual (aj st) s.heap.objs.size f (.ref c)))->sp vs H Q E ->
   ∃ t,lO (kc Ng P w K mg base N qual (aj st) f (.ref c) A outer s H E).o9 (ak st) t/\t { nx:=λ_ H'=>Q .bZ H',rt:=Q } (start N vs) H):iC P w K mg base Ng (k + 1) f fd ps sp:=by
 obtain ⟨oc,od,kV,doc,pm,an,br,ct,Mk,rfl,lk,mV⟩:=F.ex;have hc:br=.ref c:=hc;subst hc;refine Pn lk mV S len λA outer s H vs Q E hr tY=>?_;obtain ⟨t,h,q⟩:=dR A outer s H vs Q E hr tY;exact ⟨t,h.o9,q⟩
end
end L2
namespace L2
open PySem PySem.Spec PyProof.Rows PySem.W
theorem OM {K:PySem.W.Frag}{h:Heap}{P:Addr}(X:K.In h)(hP:h.get? P=some (tabObj #[]))(nt:noTabs K=true):K.lookup P=none:=by
 cases e:K.lookup P with
 | none=>rfl
 | some o=>
  have h1:=X P o e;rw [hP] at h1;cases h1;have h2:=yS.mp nt (P,_) (mem_of_lookupK e);exact absurd (show false=true from h2) zM
theorem My {P:Program}{w:World}{K:PySem.W.Frag}{mg mb:Str->Option Value}{CX:uI}{k:Nat}{fa a c T:Addr}{fd:FuncData}{x:Str}{sp:Sp}{aN:Shared}{vs:List Value}{ns:List Int}
  (KX:K.In aN.heap) (R0:aN.heap.Ns mainGlobals mg) (hb:aN.heap.Ns builtinsNs mb) (hbb:∀ x:Str,x ≠ "__name__" -> mb x=bootBuiltins x) (abj:aN.heap.NoLimit) (hg:aN.gens=#[])
  (hT:aN.heap.get? T=some (tabObj #[])) (hC:codeHdIn K c T=true) (nt:noTabs K=true) (hbm:∃ bm ob,mg "__builtins__" = some (.ref bm)/\bm≠builtinsNs/\aN.heap.get? bm=some ob/\ob.cls=.type "module" /\ ob.dict=some builtinsNs/\ob.data=.plain)
  (ha:aN.heap.get? a=some { cls:=.type "list", data:=.seq vs.toArray }) (hi:IntsAre vs ns) (hl:ns.length<=sizeLine) (hr:cz k callerA)
  (F:∀ base:Heap,K.In base->base.Ns mainGlobals mg->aR mg base->iC P w K mg base CX k fa fd [x] sp) (Pb:∀ (s:Shared) (u:Value),BindsTo s fd ⟨[u],[]⟩ [(x,u)])
  (tY:∀ H:Hp,H T=some (.jM #[])->aH K H a (ns.map V.int)->sp [.ref a] H (λv _=>v=.bl true) λ_ _ _=>False)
  (XU:∀ H e s',CX [] H aN (λ_ _ _=>False) e s'->False) :
  codeAny (model P w) callerA (.call (.ref fa) ⟨[.ref a],[]⟩) (λr s'=>r=.ok (.ret (.bool true))/\OldK aN.heap s'.heap/\s'.os=aN.os/\AllBare s'.gens) aN:=by
 have rv:=oJ hi;have aaM:=hi.length;have naT:a≠T:=λz=>by rw [z,hT] at ha;cases ha
 have lkT:=OM KX hT nt;have isT:=((codeHd_of_K KX hC).tab hT).isCodeTable;have core:∀ H:Hp,(∀ b,H b=none\/(b=a/\∃ o xs,H b=some (.nW o (.lst xs)))\/(b=T/\H b=some (.jM #[])))->H T=some (.jM #[])->aH K H a (ns.map V.int)->fW P w H aN.heap->(H a≠none->K.lookup a=none) ->
   codeAny (model P w) callerA (.call (.ref fa) ⟨[.ref a],[]⟩) (λr s'=>r=.ok (.ret (.bool true))/\OldK aN.heap s'.heap/\s'.os=aN.os/\AllBare s'.gens) aN:=by
  intro H hO hTH hS aT hK;have rO:∀ {b:Addr}{o:Obj},aN.heap.get? b=some o->H b=none->(oh aN.heap H).get? b=some o:=λe n=>Pa e n;have noH:∀ {b:Addr}{o:Obj},aN.heap.get? b=some o->(∀ i n,o.data≠.seq i n)->(∀ f,o.data≠.fields f)->H b=none:=λ{b o} e d1 d2=>by
   rcases hO b with q | ⟨rfl,_⟩ | ⟨rfl,_⟩
   ·exact q
   ·rw [ha] at e;cases e;exact absurd rfl (d1 _ _)
   ·rw [hT] at e;cases e;exact absurd rfl (d2 _)
  have YC:∀ {b:Addr}{m:Str->Option Value},aN.heap.Ns b m->(oh aN.heap H).Ns b m:=λ{b m} ⟨o,es,ep,e,d,r⟩=>⟨o,es,ep,rO e (noH e (λi n z=>by rw [d] at z;cases z) λf z=>by rw [d] at z;cases z),d,r⟩;have hKb:K.In (oh aN.heap H):=λb o e=>rO (KX b o e) (by
   rcases hO b with q | ⟨rfl,_,_,q⟩ | ⟨rfl,q⟩
   ·exact q
   ·rw [hK (by rw [q];simp)] at e;cases e
   ·rw [lkT] at e;cases e)
  have hM:Mod K mg (oh aN.heap H):=⟨hKb,YC R0,⟨mb,YC hb,hbb⟩,let ⟨mc,h1,h2⟩:=abj;⟨mc,YC h1,h2⟩⟩;have hB:aR mg (oh aN.heap H):=by
   obtain ⟨bm,ob,b1,b2,b3,b4,b5,b6⟩:=hbm;refine ⟨bm,ob,b1,b2,λz=>?_,rO b3 (noH b3 (λi n z=>by rw [b6] at z;cases z) λf z=>by rw [b6] at z;cases z),b4,b5,b6⟩;obtain ⟨o,es,ep,e,d,_⟩:=R0;rw [z,e] at b3;cases b3;rw [b6] at d;cases d
  have e0:rW P w K mg (oh aN.heap H) callerA [] aN H:=⟨rfl,hM,λb o e=>RB e,Nat.le_of_eq (MI _ _),trivial,λb hb=>absurd (show b∈([]:List Addr) from hb) (by simp),aT,.of_eq hg⟩;refine codeAny_mono ((F _ hKb (YC R0) hB).run callerA [] aN H ⟨[.ref a],[]⟩ [.ref a] [.ref a] _ _ hr e0 (Pb aN (.ref a)) (.cons rfl .nil) (tY H hTH hS)) λr s' h=>?_;cases r with
  | error e=>exact (XU H e s' h).elim
  | ok fl=>
   cases fl with
   | next=>exact False.elim h
   | brk=>exact False.elim h
   | cont=>exact False.elim h
   | ret u=>
    obtain ⟨v,H',os,bare,un,XD,r',q⟩:=h;have q':v=.bl true:=q;subst q';obtain rfl:u=Value.bool true:=r';have all:∀ b o,aN.heap.get? b=some o->s'.heap.get? b=some o\/(b=T/\∃ ps,s'.heap.get? T=some (tabObj ps)):=λb o e=>by
     rcases hO b with q | ⟨_,ob,xs,z⟩ | ⟨rfl,z⟩
     ·exact .inl (un.keep b o e q (by intro z;exact absurd (show b∈([]:List Addr) from z) (by simp)) (by simp))
     ·have z2:=un.dZ b ob _ z;obtain ⟨e1,_⟩:=aT b _ z;obtain ⟨e2,_⟩:=XD b _ z2;rw [e] at e1;cases e1;exact .inl e2
     ·obtain ⟨more,z2⟩:=un.dX b _ z;have e2:s'.heap.get? b=some _:=XD b _ z2;exact .inr ⟨rfl,_,e2⟩
    refine ⟨rfl,⟨λb o e=>?_,λb o e=>?_⟩,os,bare⟩
    ·rcases all b o e with q | ⟨rfl,ps,q⟩
     ·exact .inl q
     ·rw [hT] at e;cases e;exact .inr (.inl ⟨isT,rfl,#[],ps,rfl,by rw [Array.empty_append];exact q⟩)
    ·rcases all b o e with q | ⟨rfl,ps,q⟩
     ·exact ⟨_,q⟩
     ·exact ⟨_,q⟩
 cases hk:K.lookup a with
 | some o=>
  have e:=KX a o hk;rw [ha] at e;cases e;refine core (λb=>if b=T then some (.jM #[]) else none) (λb=>?_) (if_pos rfl) (.inr ⟨_,vs.toArray,_,hk,rfl,rfl,rfl,by rw [zQ,aaM];exact hl,by simpa using rv⟩) (λb u z=>?_) λz=>absurd (if_neg naT) z
  ·by_cases hb:b=T
   ·exact .inr (.inr ⟨hb,if_pos hb⟩)
   ·exact .inl (if_neg hb)
  ·by_cases hb:b=T
   ·have z':=(if_pos hb).symm.trans z;cases z';subst hb;exact hT
   ·have z':=(if_neg hb).symm.trans z;cases z'
 | none=>
  have Za:(λb=>if b=T then some (HO.jM #[]) else if b=a then some (.nW { cls:=.type "list", data:=.seq vs.toArray } (.lst (ns.map V.int))) else none) a=some (.nW { cls:=.type "list", data:=.seq vs.toArray } (.lst (ns.map V.int))):=(if_neg naT).trans (if_pos rfl);refine core (λb=>if b=T then some (.jM #[]) else if b=a then some (.nW { cls:=.type "list", data:=.seq vs.toArray } (.lst (ns.map V.int))) else none) (λb=>?_) (if_pos rfl) (.inl (.inr ⟨{ cls:=.type "list", data:=.seq vs.toArray },Za⟩)) (λb u z=>?_) λ_=>hk
  ·by_cases hb:b=T
   ·exact .inr (.inr ⟨hb,if_pos hb⟩)
   ·by_cases iZ:b=a
    ·exact .inr (.inl ⟨iZ,_,_,(if_neg hb).trans (if_pos iZ)⟩)
    ·exact .inl ((if_neg hb).trans (if_neg iZ))
  ·by_cases hb:b=T
   ·have z':=(if_pos hb).symm.trans z;cases z';subst hb;exact hT
   ·by_cases iZ:b=a
    ·have z':=((if_neg hb).trans (if_pos iZ)).symm.trans z;cases z';subst iZ;exact ⟨ha,by rw [zA];exact hl,vs,_,rv,ha⟩
    ·have z':=((if_neg hb).trans (if_neg iZ)).symm.trans z;cases z'
theorem NL {l:PySem.W.OpenLaw}{n k:Nat}{q:Program}{loose:List Str}{XP:(Str->Option Value)->Heap->Prop}{YP:World->Heap->Prop}{d:DefRec}{K:Params->PySem.W.Frag}{CX:World->uI}{sp:World->Sp}{x:Str}{T:Addr}
  (hn:l.most=some n) (hn2:n<=sizeLine) (XN:d.params.defaults=[]) (hr:cz k callerA)
  (hY:∀ (w:World) (h:Heap),YP w h->(K w.params).In h/\h.get? T=some (tabObj #[])) (nt:∀ w:World,noTabs (K w.params)=true)
  (F:∀ (w:World) (mg:Str->Option Value) (fa:Addr) (h:Heap),(K w.params).In h->h.Ns mainGlobals mg->mg d.name=some (.ref fa) ->
   ∃ fd:FuncData,(∃ c,codeHdIn (K w.params) c T=true)/\(∀ (s:Shared) (u:Value),BindsTo s fd ⟨[u],[]⟩ [(x,u)]) /\
    ∀ base:Heap,(K w.params).In base->base.Ns mainGlobals mg->aR mg base->iC l.prog w (K w.params) mg base (CX w) k fa fd [x] (sp w))
  (tY:∀ (w:World) (H:Hp) (a:Addr) (ns:List Int),ns.length<=n->H T=some (.jM #[])->aH (K w.params) H a (ns.map V.int)->sp w [.ref a] H (λv _=>v=.bl true) λ_ _ _=>False)
  (XU:∀ (w:World) (H:Hp) (s:Shared) (e:Value) (s':Shared),CX w [] H s (λ_ _ _=>False) e s'->False) :
  PySem.W.WalkO q loose XP YP l.row.toRowW d [] (λf vs=>PySem.call f vs):=by
 refine Att.uy hn XN λw cC aN mg mb fa o pm cd doc a vs ns G Y ho hd mV hmg UQ hints hlen hg=>?_;obtain ⟨KX,tX⟩:=hY w _ Y;obtain ⟨fd,⟨c,hC⟩,hb,hF⟩:=F w mg fa _ KX G.T.g hmg;exact My KX G.T.g G.T.b G.T.builtins G.T.nolimit hg tX hC (nt w) G.T.bmain UQ hints (z4 hlen hn2) hr hF hb (λH hO hS=>tY w H a ns hlen hO hS) λH e s'=>XU w H aN e s'
end L2
namespace Sm
open PySem L2 aQ
theorem dW {K:PySem.W.Frag}{H:Hp}{a:Addr}{xs:List V}{i:Int}{v:V}{Q:V->Prop}(h:H a=some (.tup xs))(hi:i7 xs i=some v)(q:Q v):∃ p Wg i' v',V.ref a=.ref p/\V.int i=.int i'/\bC K H p Wg/\i7 Wg i'=some v'/\Q v':=⟨a,xs,i,v,rfl,rfl,bC.of h,hi,q⟩
theorem cI {K:PySem.W.Frag}{H:Hp}{a:Addr}{xs:List V}{i:Int}{v:V}{Q:V->Prop}(h:H a=some (.lst xs))(hi:i7 xs i=some v)(q:Q v):∃ p Wg i' v',V.ref a=.ref p/\V.int i=.int i'/\aH K H p Wg/\i7 Wg i'=some v'/\Q v':=⟨a,xs,i,v,rfl,rfl,aH.of h,hi,q⟩
theorem uN {P:List Value->Prop}{us:List Value}{n:Nat}(h:us.length=n + 1)(q:∀ a r,r.length=n->P (a::r)):P us:=by
 cases us with
 | nil=>cases h
 | cons a r=>exact q a r (Nat.succ.inj h)
theorem Wj {P:List Value->Prop}{us:List Value}(h:us.length=0)(q:P []):P us:=by rw [List.eq_nil_of_length_eq_zero h];exact q
theorem us1 {fd:FuncData}{ps:List Str}{us:List Value}(h:us.length=1)(q:∀ a,bindArgs fd ⟨[a],[]⟩=pure (ps.zip [a])):bindArgs fd ⟨us,[]⟩=pure (ps.zip us):=uN (P:=λus=>bindArgs fd ⟨us,[]⟩=pure (ps.zip (us))) h λa us h=>Wj (P:=λus=>bindArgs fd ⟨a::us,[]⟩=pure (ps.zip (a::us))) h (q a)
theorem us2 {fd:FuncData}{ps:List Str}{us:List Value}(h:us.length=2)(q:∀ a b,bindArgs fd ⟨[a,b],[]⟩=pure (ps.zip [a,b])):bindArgs fd ⟨us,[]⟩=pure (ps.zip us):=uN (P:=λus=>bindArgs fd ⟨us,[]⟩=pure (ps.zip (us))) h λa us h=>uN (P:=λus=>bindArgs fd ⟨a::us,[]⟩=pure (ps.zip (a::us))) h λb us h=>Wj (P:=λus=>bindArgs fd ⟨a::b::us,[]⟩=pure (ps.zip (a::b::us))) h (q a b)
theorem us3 {fd:FuncData}{ps:List Str}{us:List Value}(h:us.length=3)(q:∀ a b c,bindArgs fd ⟨[a,b,c],[]⟩=pure (ps.zip [a,b,c])):bindArgs fd ⟨us,[]⟩=pure (ps.zip us):=uN (P:=λus=>bindArgs fd ⟨us,[]⟩=pure (ps.zip (us))) h λa us h=>uN (P:=λus=>bindArgs fd ⟨a::us,[]⟩=pure (ps.zip (a::us))) h λb us h=>uN (P:=λus=>bindArgs fd ⟨a::b::us,[]⟩=pure (ps.zip (a::b::us))) h λc us h=>Wj (P:=λus=>bindArgs fd ⟨a::b::c::us,[]⟩=pure (ps.zip (a::b::c::us))) h (q a b c)
theorem us4 {fd:FuncData}{ps:List Str}{us:List Value}(h:us.length=4)(q:∀ a b c d,bindArgs fd ⟨[a,b,c,d],[]⟩=pure (ps.zip [a,b,c,d])):bindArgs fd ⟨us,[]⟩=pure (ps.zip us):=uN (P:=λus=>bindArgs fd ⟨us,[]⟩=pure (ps.zip (us))) h λa us h=>uN (P:=λus=>bindArgs fd ⟨a::us,[]⟩=pure (ps.zip (a::us))) h λb us h=>uN (P:=λus=>bindArgs fd ⟨a::b::us,[]⟩=pure (ps.zip (a::b::us))) h λc us h=>uN (P:=λus=>bindArgs fd ⟨a::b::c::us,[]⟩=pure (ps.zip (a::b::c::us))) h λd us h=>Wj (P:=λus=>bindArgs fd ⟨a::b::c::d::us,[]⟩=pure (ps.zip (a::b::c::d::us))) h (q a b c d)
theorem us5 {fd:FuncData}{ps:List Str}{us:List Value}(h:us.length=5)(q:∀ a b c d e,bindArgs fd ⟨[a,b,c,d,e],[]⟩=pure (ps.zip [a,b,c,d,e])):bindArgs fd ⟨us,[]⟩=pure (ps.zip us):=uN (P:=λus=>bindArgs fd ⟨us,[]⟩=pure (ps.zip (us))) h λa us h=>uN (P:=λus=>bindArgs fd ⟨a::us,[]⟩=pure (ps.zip (a::us))) h λb us h=>uN (P:=λus=>bindArgs fd ⟨a::b::us,[]⟩=pure (ps.zip (a::b::us))) h λc us h=>uN (P:=λus=>bindArgs fd ⟨a::b::c::us,[]⟩=pure (ps.zip (a::b::c::us))) h λd us h=>uN (P:=λus=>bindArgs fd ⟨a::b::c::d::us,[]⟩=pure (ps.zip (a::b::c::d::us))) h λe us h=>Wj (P:=λus=>bindArgs fd ⟨a::b::c::d::e::us,[]⟩=pure (ps.zip (a::b::c::d::e::us))) h (q a b c d e)
theorem V5 {iR iQ iP iO iN:Type}{P:iR->iQ->iP->iO->iN->Prop}(x0:iR)(x1:iQ)(x2:iP)(x3:iO)(x4:iN)(h:P x0 x1 x2 x3 x4):∃ y0:iR,∃ y1:iQ,∃ y2:iP,∃ y3:iO,∃ y4:iN,P y0 y1 y2 y3 y4:=⟨x0,x1,x2,x3,x4,h⟩
theorem Y8 {iR iQ iP iO iN jO:Type}{P:iR->iQ->iP->iO->iN->jO->Prop}(x0:iR)(x1:iQ)(x2:iP)(x3:iO)(x4:iN)(x5:jO)(h:P x0 x1 x2 x3 x4 x5):∃ y0:iR,∃ y1:iQ,∃ y2:iP,∃ y3:iO,∃ y4:iN,∃ y5:jO,P y0 y1 y2 y3 y4 y5:=⟨x0,x1,x2,x3,x4,x5,h⟩
theorem rG {iR iQ iP iO iN jO lP:Type}{P:iR->iQ->iP->iO->iN->jO->lP->Prop}(x0:iR)(x1:iQ)(x2:iP)(x3:iO)(x4:iN)(x5:jO)(x6:lP)(h:P x0 x1 x2 x3 x4 x5 x6):∃ y0:iR,∃ y1:iQ,∃ y2:iP,∃ y3:iO,∃ y4:iN,∃ y5:jO,∃ y6:lP,P y0 y1 y2 y3 y4 y5 y6:=⟨x0,x1,x2,x3,x4,x5,x6,h⟩
theorem Vh {iR iQ iP iO iN jO lP pY:Type}{P:iR->iQ->iP->iO->iN->jO->lP->pY->Prop}(x0:iR)(x1:iQ)(x2:iP)(x3:iO)(x4:iN)(x5:jO)(x6:lP)(x7:pY)(h:P x0 x1 x2 x3 x4 x5 x6 x7):∃ y0:iR,∃ y1:iQ,∃ y2:iP,∃ y3:iO,∃ y4:iN,∃ y5:jO,∃ y6:lP,∃ y7:pY,P y0 y1 y2 y3 y4 y5 y6 y7:=⟨x0,x1,x2,x3,x4,x5,x6,x7,h⟩
theorem V4 {iR iQ iP iO iN jO lP pY uK:Type}{P:iR->iQ->iP->iO->iN->jO->lP->pY->uK->Prop}(x0:iR)(x1:iQ)(x2:iP)(x3:iO)(x4:iN)(x5:jO)(x6:lP)(x7:pY)(x8:uK)(h:P x0 x1 x2 x3 x4 x5 x6 x7 x8):∃ y0:iR,∃ y1:iQ,∃ y2:iP,∃ y3:iO,∃ y4:iN,∃ y5:jO,∃ y6:lP,∃ y7:pY,∃ y8:uK,P y0 y1 y2 y3 y4 y5 y6 y7 y8:=⟨x0,x1,x2,x3,x4,x5,x6,x7,x8,h⟩
theorem Py {iR iQ iP iO iN jO lP pY uK ND:Type}{P:iR->iQ->iP->iO->iN->jO->lP->pY->uK->ND->Prop}(x0:iR)(x1:iQ)(x2:iP)(x3:iO)(x4:iN)(x5:jO)(x6:lP)(x7:pY)(x8:uK)(x9:ND)(h:P x0 x1 x2 x3 x4 x5 x6 x7 x8 x9):∃ y0:iR,∃ y1:iQ,∃ y2:iP,∃ y3:iO,∃ y4:iN,∃ y5:jO,∃ y6:lP,∃ y7:pY,∃ y8:uK,∃ y9:ND,P y0 y1 y2 y3 y4 y5 y6 y7 y8 y9:=⟨x0,x1,x2,x3,x4,x5,x6,x7,x8,x9,h⟩
theorem Px {iR iQ iP iO iN jO lP pY uK ND uL:Type}{P:iR->iQ->iP->iO->iN->jO->lP->pY->uK->ND->uL->Prop}(x0:iR)(x1:iQ)(x2:iP)(x3:iO)(x4:iN)(x5:jO)(x6:lP)(x7:pY)(x8:uK)(x9:ND)(Wh:uL)(h:P x0 x1 x2 x3 x4 x5 x6 x7 x8 x9 Wh):∃ y0:iR,∃ y1:iQ,∃ y2:iP,∃ y3:iO,∃ y4:iN,∃ y5:jO,∃ y6:lP,∃ y7:pY,∃ y8:uK,∃ y9:ND,∃ Z9:uL,P y0 y1 y2 y3 y4 y5 y6 y7 y8 y9 Z9:=⟨x0,x1,x2,x3,x4,x5,x6,x7,x8,x9,Wh,h⟩
theorem ab0 {iR iQ iP iO iN jO lP pY uK ND uL Te:Type}{P:iR->iQ->iP->iO->iN->jO->lP->pY->uK->ND->uL->Te->Prop}(x0:iR)(x1:iQ)(x2:iP)(x3:iO)(x4:iN)(x5:jO)(x6:lP)(x7:pY)(x8:uK)(x9:ND)(Wh:uL)(x11:Te)(h:P x0 x1 x2 x3 x4 x5 x6 x7 x8 x9 Wh x11):∃ y0:iR,∃ y1:iQ,∃ y2:iP,∃ y3:iO,∃ y4:iN,∃ y5:jO,∃ y6:lP,∃ y7:pY,∃ y8:uK,∃ y9:ND,∃ Z9:uL,∃ y11:Te,P y0 y1 y2 y3 y4 y5 y6 y7 y8 y9 Z9 y11:=⟨x0,x1,x2,x3,x4,x5,x6,x7,x8,x9,Wh,x11,h⟩
theorem p6 {K:PySem.W.Frag}{H:Hp}{a:Addr}{v0 v1:V}{Q:V->V->Prop}(h:H a=some (.tup [v0,v1]))(q:Q v0 v1):∃ a' xs,V.ref a=.ref a'/\bC K H a' xs/\xs.length=2/\∃ w0 r0,xs=w0::r0/\∃ w1 r1,r0=w1::r1/\r1=[]/\Q w0 w1:=⟨a,_,rfl,bC.of h,rfl,_,_,rfl,_,_,rfl,rfl,q⟩
theorem un3 {K:PySem.W.Frag}{H:Hp}{a:Addr}{v0 v1 v2:V}{Q:V->V->V->Prop}(h:H a=some (.tup [v0,v1,v2]))(q:Q v0 v1 v2):∃ a' xs,V.ref a=.ref a'/\bC K H a' xs/\xs.length=3/\∃ w0 r0,xs=w0::r0/\∃ w1 r1,r0=w1::r1/\∃ w2 r2,r1=w2::r2/\r2=[]/\Q w0 w1 w2:=⟨a,_,rfl,bC.of h,rfl,_,_,rfl,_,_,rfl,_,_,rfl,rfl,q⟩
theorem Ni {K:PySem.W.Frag}{H:Hp}{a:Addr}{v0 v1 v2 v3:V}{Q:V->V->V->V->Prop}(h:H a=some (.tup [v0,v1,v2,v3]))(q:Q v0 v1 v2 v3):∃ a' xs,V.ref a=.ref a'/\bC K H a' xs/\xs.length=4/\∃ w0 r0,xs=w0::r0/\∃ w1 r1,r0=w1::r1/\∃ w2 r2,r1=w2::r2/\∃ w3 r3,r2=w3::r3/\r3=[]/\Q w0 w1 w2 w3:=⟨a,_,rfl,bC.of h,rfl,_,_,rfl,_,_,rfl,_,_,rfl,_,_,rfl,rfl,q⟩
theorem zr {α:Sort _}{A Q:α->Prop}{x:α}(a:A x)(q:Q x):∃ y,A y/\Q y:=⟨x,a,q⟩
theorem nU {α β:Sort _}{A Q:α->β->Prop}{x:α}{y:β}(a:A x y)(q:Q x y):∃ x y,A x y/\Q x y:=⟨x,y,a,q⟩
theorem aM {α β:Sort _}{A B Q:α->β->Prop}{x:α}{y:β}(a:A x y)(b:B x y)(q:Q x y):∃ x y,A x y/\B x y/\Q x y:=⟨x,y,a,b,q⟩
def Tj (ms:List M4)(j:Int):Int:=((ms[j.toNat]?).map (·.t)).getD 0
def acr (ms:List M4)(k:Nat):List Int:=(numsTo ms k ms.length).map (Tj ms)
section
variable {n k w:Nat}{ms:List M4}{day:Int}
end
def nextOf (ts:List (Int×Int))(b:Int)(k:Nat):Int:=match ts[k + 1]? with
 | some q=>q.1
 | none=>b
end Sm
namespace L2
open PySem
end L2
namespace Sm
open PySem L2 aQ
end Sm
namespace L2
open PySem
theorem MT.go {P p:Addr}{pos:Pos}{qual:Str}{H H':Hp}(m:MT P pos qual H)(pu:Sm.bN H p)(g:Sm.Go p H H'):MT P pos qual H':=by
 obtain ⟨x,y,z,e⟩:=pu;rcases m with m | ⟨c,m,m2⟩
 ·exact .inl (g.1 _ _ (cH m e (by intro z;cases z)) m)
 ·exact .inr ⟨c,g.1 _ _ (cH m e (by intro z;cases z)) m,g.1 _ _ (cH m2 e (by intro z;cases z)) m2⟩
theorem MT.put {P l:Addr}{pos:Pos}{qual:Str}{H:Hp}{xs:List V}{o:HO}(m:MT P pos qual H)(e:H l=some (.lst xs)):MT P pos qual (upd H l o):=by
 rcases m with m | ⟨c,m,m2⟩
 ·exact .inl (by rw [xq (cH m e (by intro z;cases z))];exact m)
 ·exact .inr ⟨c,by rw [xq (cH m e (by intro z;cases z))];exact m,by rw [xq (cH m2 e (by intro z;cases z))];exact m2⟩
end L2
namespace Sm
open PySem L2 aQ
theorem MT.NO {T:Addr}{lp:Pos}{q:Str}{H H':Hp}(m:MT T lp q H)(b:cX T H H'):bX H H':=λx u e=>b x _ (λz=>by
 rcases m with m | ⟨_,m,_⟩ <;> (rw [z,m] at e;cases e)) e
theorem MT.keep {T:Addr}{lp:Pos}{q:Str}{H H':Hp}(m:MT T lp q H)(b:cX T H H'){x:Addr}{u:HO}(e:H x=some u)(n:∀ ys,u≠.jM ys):H' x=some u:=b x u (λz=>by
 rcases m with m | ⟨_,m,_⟩ <;> (rw [z,m] at e;cases e;exact n _ rfl)) e
theorem MT.seq {T:Addr}{lp:Pos}{q:Str}{K:PySem.W.Frag}{H H':Hp}{a:Addr}{xs:List V}(m:MT T lp q H)(b:cX T H H')(h:aH K H a xs):aH K H' a xs:=by
 rcases h with (h | ⟨o,h⟩) | h
 ·exact .inl (.inl (MT.keep m b h (by intro ys z;cases z)))
 ·exact .inl (.inr ⟨o,MT.keep m b h (by intro ys z;cases z)⟩)
 ·exact .inr h
end Sm
namespace L2
open PySem PySem.Spec PyProof.Rows
section
variable {K:PySem.W.Frag}{a:Addr}{xs:List V}{n:Nat}{caps:List Nat}{g:TG}{tc:TT}{te:TE}{σ:St}{H:Hp}{Qf:Addr->Hp->List V->Prop}
theorem Ks (Pv:Nat->St->List V->Hp->Prop)(h0:Pv 0 (fK n caps σ) [] H)(hn:xs.length<=1000)(hl:∀ i τ acc H,Pv i τ acc H->acc.length<=i/\aH K H a xs)
  (hs:∀ i x q τ acc H (C:St->List V->Hp->Prop),xs[i]?=some x->H q=none->Pv i τ acc H->(∀ τ acc H,Pv (i + 1) τ acc H->C τ acc H)->g (.ref q) τ (upd H q (.tup [.int i,x])) fun bH H2=>tc bH H2 λb H3=>if b=true then te bH H3 λy H4=>C bH (acc++[y]) H4 else C bH acc H3)
  (hd:∀ τ acc H,Pv xs.length τ acc H->∀ p,H p=none->Qf p H acc) :
  ∃ W:Nat->Nat->St->List V->Hp->Prop,(∃ m,W 0 m (fK n caps σ) [] H)/\∀ i m τ acc H,W i m τ acc H ->
   ((rS K a).stop i H/\acc.length<=sizeLine/\∀ p,H p=none->Qf p H acc) \/
   ((rS K a).go i H/\acc.length < sizeLine/\∀ x H',(rS K a).nV i H x H'->g x τ H' fun bH H2=>tc bH H2 λb H3=>if b=true then te bH H3 λy H4=>∃ m',m' < m/\W (i + 1) m' bH (acc++[y]) H4 else ∃ m',m' < m/\W (i + 1) m' bH acc H3):=
 jz (J:=rS K a) Pv xs.length h0 hn (λi τ acc H p=>(hl i τ acc H p).1) (λi τ acc H hi p=>⟨xs,xs[i],(hl i τ acc H p).2,by simp [hi]⟩) (fun τ acc H p=>⟨xs,(hl _ τ acc H p).2,zF _⟩)
  (λi τ acc H C hi p c x H' y=>by obtain ⟨q,x',hq,e1,e2,y⟩:=y;subst e1;subst e2;exact hs i x' q τ acc _ C (y xs (hl i τ acc _ p).2) hq p c) hd
end
end L2
namespace Sm
open PySem L2 aQ
structure L4 where
 s:Nat
 w:Nat
 a:Int
 z:Int
end Sm
namespace L2
open PySem PySem.Spec PyProof.Rows
section
variable {P:Program}{w:World}{H H':Hp}{h:Heap}{a:Addr}{o:HO}
theorem bq.has (x:bq P w H h a o):∃ u,h.get? a=some u:=by
 cases o with
 | lst xs=>obtain ⟨_,_,_,_,e⟩:=x;exact ⟨_,e⟩
 | tup xs=>obtain ⟨_,_,_,u,e,_⟩:=x;exact ⟨u,e⟩
 | dK aJ=>obtain ⟨_,_,_,_,u,_,_,e,_⟩:=x;exact ⟨u,e⟩
 | dT aJ=>obtain ⟨_,_,_,_,u,_,_,e,_⟩:=x;exact ⟨u,e⟩
 | set S n=>obtain ⟨u,_,_,_,e,_⟩:=x;exact ⟨u,e⟩
 | ins C dx fs=>obtain ⟨_,_,_,e,_⟩:=x;exact ⟨_,e⟩
 | own y=>exact x
 | xd fs=>obtain ⟨_,⟨u,_,_,e,_⟩,_⟩:=x;exact ⟨u,e⟩
 | WH lo hi=>obtain ⟨_,_,_,e⟩:=x;exact ⟨_,e⟩
 | nW ob u=>obtain ⟨e,_⟩:=x;exact ⟨_,e⟩
 | jM ps=>exact ⟨_,(show h.get? a=some _ from x)⟩
 | met f y=>exact ⟨_,(show h.get? a=some _ from x)⟩
 | ext φ=>exact x.2.1
end
structure XL (P:Program) (w:World) (l:List Env) (H:Hp) (s:Shared) (H':Hp) (B:Heap) (s':Shared):Prop where
 os:s'.os=s.os
 bare:AllBare s'.gens
 K3:∀ b o,s.heap.get? b=some o->H b=none->b ∉ mZ l->B.get? b=some o
 allB:∀ b o,s.heap.get? b=some o->b ∉ mZ l->∃ o',B.get? b=some o'
 NP:∀ b u,H' b=some u->∃ o,B.get? b=some o
 X0:∀ b o,s.heap.get? b=some o->b∈mZ l->∃ sl,s'.heap.get? b=some { o with slots:=sl }
 free:∀ b o,s.heap.get? b=some o->H b=none->H' b=none
 aS:∀ b xs,H b=some (.tup xs)->H' b=some (.tup xs)
 dZ:∀ b o u,H b=some (.nW o u)->H' b=some (.nW o u)
 dX:∀ b ps,H b=some (.jM ps)->∃ more,H' b=some (.jM (ps++more))
 aT:fW P w H' s'.heap
 stays:B.StaysIn s'.heap
section
variable {P:Program}{w:World}{l:List Env}{H H':Hp}{s s':Shared}{B base:Heap}
theorem XL.un (x:XL P w l H s H' B s'):Un (mZ l) [] H H' s.heap s'.heap where
 keep:=λb o e n hb _=>x.stays _ _ (x.K3 b o e n hb)
 slot:=λb o e n hb _=>x.X0 b o e hb
 free:=λb o e n _=>x.free b o e n
 there:=λb o e _=>by
  by_cases hb:b∈mZ l
  ·obtain ⟨sl,q⟩:=x.X0 b o e hb;exact ⟨_,q⟩
  ·obtain ⟨o',q⟩:=x.allB b o e hb;exact ⟨o',x.stays _ _ q⟩
 aS:=x.aS
 dZ:=x.dZ
 dX:=x.dX
theorem XL.step {h2:Heap}(x:XL P w l H s H' B s')(ff:s.heap.FunFrames base l)(k:B.StaysIn h2)(u:s'.heap.UpToSlots h2):XL P w l H s H' B { s' with heap:=h2 } where
 os:=x.os
 bare:=x.bare
 K3:=x.K3
 allB:=x.allB
 NP:=x.NP
 X0:=λb o e hb=>by
  obtain ⟨sl,q⟩:=x.X0 b o e hb;obtain ⟨_,o1,e1,nf⟩:=ff.mem hb;rw [e] at e1;cases e1;obtain ⟨sl2,q2⟩:=u b _ q nf;exact ⟨sl2,q2⟩
 free:=x.free
 aS:=x.aS
 dZ:=x.dZ
 dX:=x.dX
 aT:=λa o e=>by
  have st:∀ b v,H' b=some v->∀ ob,s'.heap.get? b=some ob->h2.get? b=some ob:=λb v hv ob q=>by
   obtain ⟨o1,e1⟩:=x.NP b v hv;have z:=x.stays _ _ e1;rw [q] at z;cases z;exact k _ _ e1
  refine (x.aT a o e).dh (λb v hb q=>?_) (λ_ q=>q) λ_ _ q=>q;rcases hb with rfl | hb
  ·exact st _ _ e _ q
  ·exact st _ _ hb _ q
 stays:=k
end
def Sg (h B:Heap)(e:Addr)(cls fl:Value):Prop:=∃ oe vs T oT ts,h.get? e=some oe/\oe.cls=cls/\oe.dict=none/\oe.data=.fields vs/\vs[1]?=some (Value.ref T)/\B.get? T=none/\T≠e/\h.get? T=some oT/\oT.data=.fields ts/\ts[3]?=some fl
def MdD (h:Heap)(e:Addr)(cls:Value):Prop:=∃ oe vs,h.get? e=some oe/\oe.cls=cls/\oe.dict=none/\oe.data=.fields vs/\vs[1]?=some Value.none
def QG (P:Program)(w:World):uI:=λl H s E e s'=>∃ a cls H' B,e=Value.ref a/\XL P w l H s H' B s'/\B.get? a=none/\s'.heap.FunFrames B l/\Sg s'.heap B a cls Value.none/\E cls none H'
def VB (B:Heap)(env:Env)(outer:List Env)(a:Addr)(cls:Value)(h:Heap):Prop:=
 B.get? a=none/\h.FunFrames B (env::outer)/\(MdD h a cls\/Sg h B a cls Value.none\/∃ L,env.frame=some L/\Sg h B a cls (rawInt L))
def WX (X:Cx)(E:XK):Value->Shared->Prop:=λe s'=>(X.A.frames=some (X.env::X.outer)/\X.env.frame=some X.env.locals/\X.cC.heap.FunFrames X.base X.outer)/\∃ a cls H' B,e=Value.ref a/\XL X.prog X.w X.outer X.uE X.cC H' B s'/\VB B X.env X.outer a cls s'.heap/\E cls none H'
abbrev Cx.exc (X:Cx)(E:XK):Cx:=X.iS (WX X E)
theorem KU {h B:Heap}{T:Addr}{oT:Obj}{ts:Array Value}(hT:h.get? T=some oT)(K7:oT.data=.fields ts):∀ b o,h.get? b=some o->(∀ vs,o.data≠.fields vs)->b≠T:=λb o e nf z=>by
 subst z;rw [hT] at e;cases e;exact nf _ K7
theorem vH {g B:Heap}{e:Addr}{oe:Obj}{vs ts:Array Value}{fl:Value}(he:g.get? e=some oe)(MK:oe.dict=none)(hd:oe.data=.fields vs)(sz:1 < vs.size)(kb:B.StaysIn g)(h3:ts[3]?=some fl) :
  (∀ b o,b≠e->g.get? b=some o->((g.push { cls:=.type "traceback", dict:=none,data:=.fields ts }).update e (Obj.mapFields (·.setIfInBounds 1 (Value.ref g.objs.size)))).get? b=some o) /\
  Sg ((g.push { cls:=.type "traceback", dict:=none,data:=.fields ts }).update e (Obj.mapFields (·.setIfInBounds 1 (Value.ref g.objs.size)))) B e oe.cls fl:=by
 have XM:=Heap.get?_push_of_some (h:=g) { cls:=.type "traceback", dict:=none,data:=.fields ts } he;have ne:g.objs.size≠e:=λz=>absurd (Heap.lt_size he) (by rw [z];exact z6 _);have hd3:=Obj.data_mapFields hd (·.setIfInBounds 1 (Value.ref g.objs.size));refine ⟨λb o nb eb=>?_,_,_,g.objs.size,{ cls:=.type "traceback", dict:=none,data:=.fields ts },ts,Heap.get?_update_self _ XM (Obj.isFreed_of_fields hd3),Obj.cls_mapFields _ _,?_,hd3,by simp [sz],kb.fresh,ne,?_,rfl,h3⟩
 ·rw [Heap.get?_update_other _ _ (Ne.symm nb)];exact Heap.get?_push_of_some _ eb
 ·obtain ⟨c0,d0,dt0,sl0⟩:=oe;cases dt0 <;> first | exact MK | cases hd
 ·rw [Heap.get?_update_other _ _ (Ne.symm ne)];exact Heap.get?_push_size g rfl
section
variable {M:Model}{A:Around}{Ex:Value->Shared->Prop}{s:Shared}{B:Heap}{env:Env}{outer:List Env}{a L:Addr}{cls:Value}{Q:Unit->Shared->Prop}
theorem pN {oe:Obj}{vs:Array Value}{head:Value}{hn:Bool}(Qy:A.frames=some (env::outer))(hf:env.frame=some L)(hk:B.StaysIn s.heap)(hl:s.heap.FunFrames B (env::outer))(nb:B.get? a=none)(he:s.heap.get? a=some oe)(MK:oe.dict=none)(hd:oe.data=.fields vs)(sz:1 < vs.size)
  (q:∀ h',B.StaysIn h'->s.heap.UpToSlots h'->h'.FunFrames B (env::outer)->Sg h' B a oe.cls (rawInt L)->Q () { s with heap:=h' }) :
  wpAny M A (do let v <- frameOf env;let pl <- entryPlaceOf L hn;let b <- EntryCells.newEntry head v .none (rawInt L) .none pl;setField (.ref a) 1 b) Q Ex s:=by
 have nf:a ∉ (env::outer).filterMap (·.frame):=λhm=>by
  obtain ⟨_,o,ho,z⟩:=hl.mem hm;rw [he] at ho;cases ho;exact z vs hd
 refine wpAny_bind (wpAny_frameOf_fun Qy hl hf λg sl=>wpAny_bind (wpAny_entryPlaceOf λpl ip=>?_));unfold EntryCells.newEntry newFields;refine wpAny_bind (wpAny_newObj_type ?_ (ip.sizeOk5 _ _ _ _ _));have eg:g.get? a=some oe:=(sl.2.1 a nf).trans he;have kg:B.StaysIn g:=λb o e=>(sl.2.1 b λhm=>by rw [(hl.mem hm).1] at e;cases e).trans (hk b o e);refine wpAny_setField (Heap.get?_push_of_some _ eg) hd sz ?_;have y:=vH (B:=B) (fl:=rawInt L) (ts:=([head,Value.ref L,Value.none,rawInt L,Value.none]++(if pl.isEmpty then List.replicate 6 Value.none else pl)).toArray) eg MK hd sz kg (by first | (simp;done) | (rcases ip with rfl | ⟨_,_,_,_,_,_,_,rfl⟩ <;> simp));have Pr:=KU (B:=B) he hd;refine q _ (λb o e=>y.1 b o (λz=>by rw [z,nb] at e;cases e) (kg b o e)) (λb o e nf=>?_) (hl.of_keeps λb o e nf=>?_) y.2
 ·obtain ⟨s2,e2⟩:=sl.2.2 b o e;exact ⟨s2,y.1 b _ (Pr b o e nf) e2⟩
 ·obtain ⟨s2,e2⟩:=sl.2.2 b o e;exact ⟨_,y.1 b _ (Pr b o e nf) e2,rfl⟩
theorem oX {B:Heap}{h:Heap}{cls fl R7:Value}{oe oT:Obj}{vs ts:Array Value}{T:Addr}(he:h.get? a=some oe)(hc:oe.cls=cls)(MK:oe.dict=none)(hd:oe.data=.fields vs)(h1:vs[1]?=some (Value.ref T))(UR:B.get? T=none)(U0:T≠a)(hT:h.get? T=some oT)(K7:oT.data=.fields ts)(sz:3 < ts.size)(hk:B.StaysIn h)(hl:h.FunFrames B (env::outer)) :
  B.StaysIn (h.update T (Obj.mapFields (·.setIfInBounds 3 R7)))/\h.UpToSlots (h.update T (Obj.mapFields (·.setIfInBounds 3 R7)))/\(h.update T (Obj.mapFields (·.setIfInBounds 3 R7))).FunFrames B (env::outer)/\Sg (h.update T (Obj.mapFields (·.setIfInBounds 3 R7))) B a cls R7/\(h.update T (Obj.mapFields (·.setIfInBounds 3 R7))).get? a=some oe:=by
 have Pr:∀ b,b≠T->(h.update T (Obj.mapFields (·.setIfInBounds 3 R7))).get? b=h.get? b:=λb hb=>Heap.get?_update_other _ _ (Ne.symm hb);have WT:=KU (B:=B) hT K7;have ea:=(Pr a (Ne.symm U0)).trans he;exact ⟨λb o e=>(Pr b (λz=>by subst z;rw [UR] at e;cases e)).trans (hk _ _ e),λb o e nf=>⟨o.slots,(Pr b (WT b o e nf)).trans e⟩,hl.of_keeps λb o e nf=>⟨o,(Pr b (WT b o e nf)).trans e,rfl⟩,
  ⟨oe,vs,T,_,_,ea,hc,MK,hd,h1,UR,U0,Heap.get?_update_self _ hT (Obj.isFreed_of_fields (Obj.data_mapFields K7 _)),Obj.data_mapFields K7 _,by simp [sz]⟩,ea⟩
theorem tD (Qy:A.frames=some (env::outer))(hf:env.frame=some L)(hk:B.StaysIn s.heap)(x:VB B env outer a cls s.heap)
  (q:∀ h',B.StaysIn h'->s.heap.UpToSlots h'->h'.FunFrames B (env::outer)->Sg h' B a cls (rawInt L)->Q () { s with heap:=h' }):wpAny M A (noteFrame (.ref a) env) Q Ex s:=by
 obtain ⟨hn,hl,⟨oe,vs,he,hc,MK,hd,h1⟩ | ⟨oe,vs,T,oT,ts,he,hc,MK,hd,h1,UR,U0,hT,K7,h3⟩ | ⟨L',hL,ht⟩⟩:=x
 ·subst hc;unfold noteFrame;rw [hf];dsimp only;refine wpAny_bind (wpAny_field (x:=_) he hd h1 ?_);rw [if_neg (by decide)];exact pN Qy hf hk hl hn he MK hd (Array.getElem?_eq_some_iff.mp h1).1 q
 ·have sz:3 < ts.size:=(Array.getElem?_eq_some_iff.mp h3).1;obtain ⟨k2,u2,l2,_,e2⟩:=oX (fl:=Value.none) (R7:=Value.none) he hc MK hd h1 UR U0 hT K7 sz hk hl;unfold noteFrame;rw [hf];dsimp only;refine wpAny_bind (wpAny_field (x:=_) he hd h1 ?_);rw [if_pos (by simp)];refine wpAny_bind (wpAny_field (x:=_) hT K7 h3 ?_);rw [if_neg (by simp [rawInt])];refine wpAny_bind (wpAny_setField hT K7 sz ?_);subst hc;exact pN Qy hf k2 l2 hn e2 MK hd (Array.getElem?_eq_some_iff.mp h1).1 λh' y1 y2 y3 y4=>q h' y1 (u2.trans y2) y3 y4
 ·cases hL.symm.trans hf;obtain ⟨oe,vs,T,oT,ts,he,hc,MK,hd,h1,UR,U0,hT,K7,h3⟩:=id ht;unfold noteFrame;rw [hf];dsimp only;refine wpAny_bind (wpAny_field (x:=_) he hd h1 ?_);rw [if_pos (by simp)];refine wpAny_bind (wpAny_field (x:=_) hT K7 h3 ?_);rw [if_pos (by simp)];exact wpAny_pure (q s.heap hk (Heap.UpToSlots.refl _) hl ht)
theorem mL {fl:Value}{fo:Option Addr}(hk:B.StaysIn s.heap)(hl:s.heap.FunFrames B (env::outer))(ht:Sg s.heap B a cls fl)
  (q:∀ h',B.StaysIn h'->s.heap.UpToSlots h'->h'.FunFrames B (env::outer)->Sg h' B a cls (fo.elim Value.none λf=>rawInt f)->Q () { s with heap:=h' }):wpAny M A (setFlight (.ref a) fo) Q Ex s:=by
 obtain ⟨oe,vs,T,oT,ts,he,hc,MK,hd,h1,UR,U0,hT,K7,h3⟩:=ht;have sz:3 < ts.size:=(Array.getElem?_eq_some_iff.mp h3).1;obtain ⟨k2,u2,l2,t2,e2⟩:=oX (fl:=fl) (R7:=fo.elim Value.none λf=>rawInt f) he hc MK hd h1 UR U0 hT K7 sz hk hl;unfold setFlight;refine wpAny_bind (wpAny_field (x:=_) he hd h1 ?_);rw [if_pos (by simp)];exact wpAny_setField hT K7 sz (q _ k2 u2 l2 t2)
end
section
variable {X:Cx}{E:XK}
theorem LC {P:Program}{w:World}{A:Around}{env:Env}{outer:List Env}{H:Hp}{s s':Shared}{base:Heap}{L:Addr}{e:Value}{Ex:Value->Shared->Prop}(vN:A.frames=some (env::outer))(hf:env.frame=some L)(ff:s.heap.FunFrames base outer)
  (h:∃ a cls H' B,e=Value.ref a/\XL P w outer H s H' B s'/\VB B env outer a cls s'.heap/\E cls none H'):wpAny (model P w) A (leaving env e) (λ_ kI=>QG P w outer H s E e kI) Ex s':=by
 obtain ⟨a,cls,H',B,rfl,x,y,q⟩:=h;unfold leaving;refine wpAny_bind (tD vN hf x.stays y λh1 k1 u1 l1 t1=>?_);refine mL k1 l1 t1 λh2 k2 u2 l2 t2=>?_;exact ⟨a,cls,H',B,rfl,(x.step ff k1 u1).step ff k2 u2,y.1,l2.2.2,t2,q⟩
theorem Ol {ah:List (Addr×Obj)}{σ:St}{H:Hp}{s:Shared}{h':Heap}{e:Addr}{cls:Value}{args:List Value}(hs:X.stack=X.env::X.outer)(hf:X.env.frame=some X.env.locals)(hex:X.ex=[])(I:Inv X ah σ H s)(hx:Heap.MadeExcOf s.heap h' e cls args)(q:E cls none H):WX X E (.ref e) { s with heap:=h' }:=by
  have YD:∀ b,b ∉ X.ex:=λb hb=>by rw [hex] at hb;cases hb
  have nst:∀ b o,X.cC.heap.get? b=some o->b ∉ X.fs->b ∉ mZ X.stack:=λb o e nb hb=>by
    rcases zO.mp (I.gq b hb) with z | z
    · subst z;exact absurd (zU (Heap.lt_size e) I.ok.above) (z6 _)
    · exact nb z
  obtain ⟨t,he,hnt,ht⟩:=hx.there;have hin:∀ env∈X.stack,∀ b,env.frame=some b->b∈mZ X.stack:=λenv hm b hb=>yh.mpr ⟨env,hm,hb⟩;have fr:=(PySem.W.funFrames_hide I.stack hin).of_keeps (h':=h') λb o e _=>⟨o,hx.keeps b o e,rfl⟩;rw [hs] at fr;refine ⟨⟨by rw [<-hs];exact I.ok.frames,hf,I.ok.gP⟩,e,cls,H,PySem.W.hideAll s.heap (mZ X.stack),rfl,
    { os:=I.os
      bare:=I.bare
      K3:=λb o e n hb=>PySem.W.hideAll_get _ (I.base.keep b o e n hb (YD b)) (nst b o e hb)
      allB:=λb o e hb=>by
        obtain ⟨o1,e1⟩:=I.base.there b o e (YD b);exact ⟨o1,PySem.W.hideAll_get _ e1 (nst b o e hb)⟩
      NP:=λb u hu=>by
        obtain ⟨o1,e1⟩:=(I.aT b u hu).has;exact ⟨o1,PySem.W.hideAll_get _ e1 λhb=>by rw [I.lF b hb] at hu;cases hu⟩
      X0:=λb o e hb=>by
        obtain ⟨sl,e1⟩:=I.base.slot b o e (I.ok.QC b hb) hb (YD b);exact ⟨sl,hx.keeps _ _ e1⟩
      free:=λb o e n=>I.base.free b o e n (YD b)
      aS:=I.base.aS
      dZ:=I.base.dZ
      dX:=I.base.dX
      aT:=I.aT.kept hx.keeps
      stays:=λb o e=>hx.keeps _ _ (PySem.W.of_hideAll _ e) },⟨?_,by rw [<-hs];rw [hs];exact fr,.inl ⟨_,_,he,rfl,rfl,rfl,rfl⟩⟩,q⟩
  cases z:(PySem.W.hideAll s.heap (mZ X.stack)).get? e with
  | none=>rfl
  | some o=>have:=PySem.W.of_hideAll _ z;rw [hx.new] at this;cases this
end
abbrev veB:List Value:=[.type "ValueError", .type "Exception", .type "BaseException", .type "object"]
def NI (K:PySem.W.Frag)(C:Addr):Bool:=
 PySem.W.excIn K C veB "ValueError.__new__" && (yq K (.ref C) "__getattribute__" == some (some (.builtin "BaseException.__getattribute__"))) && (yq K (.ref C) "__getattr__" == some none) &&
 (yq K (.ref C) "__class__" == some (some (.builtin "object.__class__"))) && (xa K C (.type "object") == some true) && (xa K C (.type "BaseException") == some true) && (PySem.W.clsIn K C).isSome &&
 (PySem.W.specialIn K (.builtin "object.__class__") "__get__" == some (some (.builtin "getset_descriptor.__get__"))) && (PySem.W.takesIn K (.builtin "object.__class__") == some true)
structure oA (K:PySem.W.Frag) (C:Addr):Prop where
 exc:PySem.W.excIn K C veB "ValueError.__new__" = true
 ga:yq K (.ref C) "__getattribute__" = some (some (.builtin "BaseException.__getattribute__"))
 gn:yq K (.ref C) "__getattr__" = some none
 cl:yq K (.ref C) "__class__" = some (some (.builtin "object.__class__"))
 ob:xa K C (.type "object")=some true
 bx:xa K C (.type "BaseException")=some true
 ic:(PySem.W.clsIn K C).isSome=true
 sp:PySem.W.specialIn K (.builtin "object.__class__") "__get__" = some (some (.builtin "getset_descriptor.__get__"))
 tk:PySem.W.takesIn K (.builtin "object.__class__")=some true
theorem oA.of {K:PySem.W.Frag}{C:Addr}(h:NI K C=true):oA K C:=by simp only [NI,zc,beq_iff_eq] at h;obtain ⟨⟨⟨⟨⟨⟨⟨⟨h1,h2⟩,h3⟩,h4⟩,h5⟩,h6⟩,h7⟩,h8⟩,h9⟩:=h;exact ⟨h1,h2,h3,h4,h5,h6,h7,h8,h9⟩
theorem oA.find {K:PySem.W.Frag}{C:Addr}(c:oA K C):PySem.W.findObj K C none "__class__" = some (.bind (.builtin "getset_descriptor.__get__") (.builtin "object.__class__")):=by obtain ⟨cd,e⟩:=Option.isSome_iff_exists.mp c.ic;unfold PySem.W.findObj;rw [e,Option.bind_some,c.cl,Option.bind_some];simp [c.sp,c.tk]
section
open PySem.W
variable {prog:Program}{w:World}{A:Around}{E:Value->Shared->Prop}{s:Shared}{K:PySem.W.Frag}{x C:Addr}{ox:Obj}{Q:Option Value->Shared->Prop}
theorem MS (X:K.In s.heap)(I:PySem.W.InstAt s.heap x ox C none)(c:oA K C)(h:Q (some (.ref C)) { s with toks:=s.toks + 1 }):wpAny (model prog w) A (getAttr? (.ref x) "__class__") Q E s:=by
 obtain ⟨hh,g,d,t,os⟩:=s;have M0:=I.type (M:=model prog w);have M1:=looks_findIn (M:=model prog w) X c.ga;have M2:=looks_findIn (M:=model prog w) X c.gn;have M3:=looks_find (M:=model prog w) X I c.find;have M4:=looks_mroIn (M:=model prog w) X c.bx;have ne:(Value.builtin "BaseException.__getattribute__" == Value.builtin "object.__getattribute__")=false:=by decide +kernel
 unfold getAttr? getAttrBy? getAttrBy;refine wpAny_bind (wpAny_mkText (wpAny_bind (wpAny_attempt (wpAny_holding (wpAny_bind (M0.at (wpAny_bind (M1.at ?_))))))));dsimp only;rw [if_neg (by rw [ne,yt];exact zM)];unfold getAttrByItsOwn hookBefore;refine wpAny_bind (M2.at (wpAny_bind (wpAny_attempt (wpAny_holding ?_))));unfold callGetattribute;rw [if_neg (by simp [onTheHeap])];unfold boundAndCalled;refine wpAny_bind (wpAny_of_eq (PySem.F.excAttr_ValueError.ga.bind (.ref x)) ?_);refine wpAny_call (codeAny_call_builtin PySem.F.excAttr_ValueError.ga.plain PySem.F.entry_bexc_ga ?_);have kd:builtinKind "BaseException.__getattribute__" = some .slot:=by decide +kernel
 have sp:splitId "BaseException.__getattribute__" = some ("BaseException", "__getattribute__"):=by decide +kernel
 have ao:=PySem.F.args_bexc_ga (.ref x) (.str "__class__" t);have LI:Looks (model prog w) hh (isInstance (.ref x) (.type "BaseException")) true:=M0.andThen M4;simp only [checkBuiltinCall,kd,sp];refine wpAny_bind (LI.at ?_);rw [if_neg (by decide)];refine wpAny_of_eq (a:=()) ao ?_;unfold Builtin.«object.__getattribute__»;repeat (first | refine wpAny_bind (M0.at ?_) | refine wpAny_bind (M3.at ?_) | wp_step)
 refine class_get (ox:=ox) (od:=none) X I c.ob ?_;exact wpAny_pure (wpAny_pure (wpAny_pure h))
theorem OY (c:oA K C):KitX K (.ref x) (.ref C) (λh=>∃ ox,PySem.W.InstAt h x ox C none) where
 ty:=λ_ _ _ ⟨_,I⟩=>I.type
 it:=λ_ _ X _=>by
  have q:=c.ic;unfold clsIn at q;split at q
  ·rename_i lk;intro A' Q' E' s' kp qq;unfold isType loadHead;exact wpAny_bind (wpAny_loadPart (kp _ _ (X _ _ lk)) (wpAny_pure qq))
  ·cases q
 ne:=λh tp dd ay n sl X ht=>by
  have q:=c.ic;unfold clsIn at q;split at q
  ·rename_i lk;refine Bool.eq_false_iff.mpr λz=>?_;obtain rfl:C=tp:=Value.ref.inj (beq_iff_eq.mp z);cases (X _ _ lk).symm.trans ht
  ·cases q
 ca:=λX ⟨_,I⟩ k=>MS X I c k
end
def m5 (x C:Addr):HO:=.ext λh=>∃ ox,PySem.W.InstAt h x ox C none
def vv:V->Value
 | .ref a=>.ref a
 | .ty n=>.type n
 | _=>.none
def SK:V->Bool
 | .ref _=>true
 | .ty _=>true
 | _=>false
theorem Wi {x:V}{u:Value}(h:SK x=true)(r:RelV x u):u=vv x:=by cases x <;> first | exact r | cases h
section
variable {X:Cx}{K:PySem.W.Frag}
theorem Inv.excAt {ah:List (Addr×Obj)}{σ:St}{H:Hp}{s:Shared}{a C:Addr}(I:Inv X ah σ H s)(h:H a=some (m5 a C)):∃ ox,PySem.W.InstAt s.heap a ox C none:=(I.aT a _ h).1
theorem wS (hK:X.K=K):dU X (.builtin "isinstance") (λxs H Q=>∃ a C c b,xs=[.ref a,c]/\H a=some (m5 a C)/\oA K C/\SK c=true/\zR K (.ref C) (vv c)=some b/\Q (.bl b) H):=by subst hK;intro ah s σ H xs us Q I r h;obtain ⟨a,C,c,b,rfl,ha,xc,hc,hk,q⟩:=h;obtain ⟨u,w',rfl,r1,r2⟩:=vals2 r;cases r1;cases Wi hc r2;exact yI (OY xc) I.kY (I.excAt ha) hk (by intro z;cases z) λtk=>⟨.bl _,H,I.tok tk,rfl,q⟩
end
theorem Vg {K:PySem.W.Frag}{h:Heap}{C:Addr}{bmB:List Value}{ni:String}(X:K.In h)(q:PySem.W.excIn K C bmB ni=true):∃ bm N nm qn bs hd sn sub ab col dd k0 k1 k2 k3 k5 mN,
  h.get? C=some (excClassObj nm qn C N bs bm hd sn sub ab col dd k0 k1 k2 k3 k5 ni)/\h.Ns N mN/\mN "__init__" = none/\OwnTail h bmB bm:=by
 simp only [PySem.W.excIn] at q;split at q
 case h_2=>cases q
 case h_1 d0 c0 z0 lk=>
  split at q
  case h_2=>cases q
  case h_1 C0 bm p0 p1 p2 p3 n0 p5 em es=>
   simp only [zc,beq_iff_eq,Bool.not_eq_true'] at q;obtain ⟨⟨⟨⟨⟨e1,e2⟩,e3⟩,e4⟩,e5⟩,e6⟩:=q;subst e1 e2;have ez:z0=#[p0,p1,p2,p3,some (.builtin n0),p5]:=by rw [<-es]
   have kC:=X _ _ lk;rw [ez] at kC;rcases c0 with ⟨nm,bs,mro,ns,qn,hd,sn,sub,ab,col,del⟩;have em':mro=.ref C0::bm:=em;have e3':del=false:=e3;subst em' e3';exact ⟨bm,ns,nm,qn,bs,hd,sn,sub,ab,col,d0,p0,p1,p2,p3,p5,_,kC,.of_isNs (PySem.W.isNs_of_in X e5),PySem.W.nsMap_none_of_in X e5 e6,PySem.W.tail_of_in X e4⟩
section
variable {X:Cx}{E:XK}
theorem PS.o9 {st:Stmt}{t:TS}(h:PS X.o9 st t):PS X st t:=λah s σ H D I hw=>
 wpAny_mono (h ah s σ H D (I.iS _) hw) (λ_ _ q=>q.cg) λ_ _ z=>False.elim z
def TL (E:XK)(C:Addr):TS:=λ_ _ H=>E (.ref C) none H
theorem Oq {x:Str}{C:Addr}{np fD pos p1:Pos}{t:Str}{j}(hs:X.stack=X.env::X.outer)(hf:X.env.frame=some X.env.locals)(hex:X.ex=[])(hc:X.calm=true)(hg:Gl X x)(hm:X.mg x=some (.ref C))(xc:oA X.K C)(t8:(x == ("__debug__" : Str))=false:=by decide)
  (he:starEach [Expr.Constant (.str t) j p1] X.env=[(false,eval (.Constant (.str t) j p1) X.env)]:=by rfl) :
  PS (X.exc E) (.Raise (some (.Call (.Name x np) [.Constant (.str t) j p1] [] fD)) none pos) (TL E C):=by
 intro ah s σ H D I0 h;have I:=I0.cg;obtain ⟨bm,N,nm,qn,bs,hd,sn,sub,ab,col,dd,k0,k1,k2,k3,k5,mN,kC,kN,kn,kt⟩:=Vg I.kY xc.exc;refine wpAny_Raise_call_subT (env:=X.env) (C:=C) (nm:=nm) (q:=qn) (N:=N) (bs:=bs) (bm:=bm) (hdct:=hd) (sn:=sn) (sub:=sub) (ab:=ab) (col:=col) (dd:=dd) (k0:=k0) (k1:=k1) (k2:=k2) (k3:=k3) (k5:=k5)
  PySem.F.excBase_ValueError (mN:=mN) (kt.hasType PySem.F.excBase_ValueError.hasBase) (I.ok.hd hc) (by rw [he];rfl) kn (ie I0 hg hm ⟨rfl,?_⟩ t8)
 rw [he];refine Calls.evalArgs_plain (Calls.spliced_cons (Calls.Constant_str (pos:=p1) (k:=j) (Calls.spliced_nil ?_)));refine ⟨rfl,by show 1<=sizeLine;decide,kC,kN,kt,λh' e me=>?_⟩;exact Ol (s:={ s with toks:=s.toks + 1 }) hs hf hex (I.tok _) me h
end
section
variable {P:Program}{w:World}{K:PySem.W.Frag}{mg:Str->Option Value}{base:Heap}
theorem bV.okE {x qual:Str}{st:Stmt}{f:Addr}{fd:FuncData}{N ps:List Str}{k:Nat}{sp:Sp}(F:bV K x qual st f fd)(S:av N ps (aj st))(len:∀ vs H Q E,sp vs H Q E->vs.length=ps.length)
  (dR:∀ (br:Value) (A:Around) (outer:List Env) (s:Shared) (H:Hp) (vs:List V) (Q:VK) (E:XK),cz k (A.deeper (envOfC qual (aj st) s.heap.objs.size f br))->sp vs H Q E ->
   ∃ t,lO ((kc (QG P w) P w K mg base N qual (aj st) f br A outer s H E).exc E) (ak st) t/\t { nx:=λ_ H'=>Q .bZ H',rt:=Q } (start N vs) H):iC P w K mg base (QG P w) (k + 1) f fd ps sp:=by
 obtain ⟨oc,od,kV,doc,pm,an,br,ct,Mk,rfl,lk,mV⟩:=F.ex;refine Pn lk mV S len λA outer s H vs Q E hr tY=>?_;obtain ⟨t,h,q⟩:=dR br A outer s H vs Q E hr tY;refine ⟨t,λah s1 σ H1 D I hw=>?_,q⟩;exact wpAny_mono (h ah s1 σ H1 D (I.iS _) hw) (λ_ _ z=>z.cg) λe s2 z=>LC (base:=base) I.ok.frames rfl I.ok.gP z.2
end
section
variable {X:Cx}{ah:List (Addr×Obj)}{σ:St}{H:Hp}{s:Shared}
theorem lM {M:Model}{A:Around}{Ex:Value->Shared->Prop}{i:Nat}{x:Str}{pos:Pos}{Q:Unit->Shared->Prop}(I:Inv X ah σ H s)(hN:X.N.Nodup)(hi:X.N[i]?=some x)(hk:X.env.kindOf x=some .local)
  (h:∀ s',Inv X ah (σ.set i none) H s'->Q () s'):wpAny M A (do bindName X.env x .none;unbindBehindTheSuite X.env x pos) Q Ex s:=by
 obtain ⟨m,hn,hl⟩:=id I.loc;have UX:(X.env.scope.kind == .class || (X.env.scope.kind == .module && X.env.locals != X.env.globals))=false:=by rw [I.ok.kind];rfl
 have PY:=I.PY;refine wpAny_nameGoes_keeps hk hn UX λh' v YQ hs=>?_;obtain ⟨oL,_,_,hoL,_⟩:=id hn;have Pr:∀ b o,X.cC.heap.get? b=some o->b≠X.env.locals:=λb o e=>zV (zU (Heap.lt_size e) I.ok.above);refine h _ ⟨I.ok,I.os,I.bare,⟨λb o e n hb hx=>?_,λb o e n hb hx=>?_,I.base.free,λb o e hx=>?_,I.base.aS,I.base.dZ,I.base.dX⟩,⟨_,YQ,λj y v' e1 e2 e3=>?_⟩,λy c e=>?_,I.free,I.eU,λp hp=>?_,λb ob e=>?_,by simpa using I.len⟩
 ·exact (hs.2 b (Pr b o e)).trans (I.base.keep b o e n hb hx)
 ·obtain ⟨sl,e1⟩:=I.base.slot b o e n hb hx;exact ⟨sl,(hs.2 b (Pr b o e)).trans e1⟩
 ·obtain ⟨o',e1⟩:=I.base.there b o e hx;exact ⟨o',(hs.2 b (Pr b o e)).trans e1⟩
 ·by_cases hj:j=i
  ·subst hj;have j8:j < σ.length:=by
    by_cases z:j < σ.length
    ·exact z
    ·rw [yX (by rw [List.length_set];omega)] at e2;cases e2
   rw [List.getElem?_set_self j8] at e2;cases e2
  ·rw [List.getElem?_set_ne (Ne.symm hj)] at e2;obtain ⟨u',r',q⟩:=hl j y v' e1 e2 e3;refine ⟨u',r',?_⟩;rcases q with ⟨k,e⟩ | ⟨k,c,e,z⟩
   ·refine .inl ⟨k,?_⟩;have:y≠x:=λe=>hj (mH hN e1 (e ▸ hi));simp [this,e]
   ·exact .inr ⟨k,c,e,z.sameBut hs (PY y c e)⟩
 ·obtain ⟨w',z⟩:=I.cell y c e;exact ⟨w',z.sameBut hs (PY y c e)⟩
 ·obtain ⟨e,n,ne,nf,d⟩:=I.pin p hp;exact ⟨(hs.2 p.1 ne).trans e,n,ne,nf,d⟩
 ·have t7:=I.free;refine (I.aT b ob e).dh (λc w' hc q=>(hs.2 c ?_).trans q) (λ_ q=>q) λ_ _ q=>q;rintro rfl;rcases hc with rfl | hc
  ·rw [t7] at e;cases e
  ·rw [t7] at hc;cases hc
end
def Cx.hand (X:Cx)(e:Addr):Cx:={ X with A:=X.A.mark (some (.ref e)),calm:=false,xe:=λ_ _=>False }
section
variable {X:Cx}{ah:List (Addr×Obj)}{σ:St}{H:Hp}{s:Shared}{e:Addr}
theorem Inv.hand (I:Inv X ah σ H s)(e:Addr):Inv (X.hand e) ah σ H s:=
 ⟨⟨I.ok.mod,I.ok.kind,I.ok.glob,I.ok.blt,I.ok.above,I.ok.inj,I.ok.has,I.ok.V8,(λz=>by cases z),I.ok.frames,I.ok.Qn,I.ok.exf,I.ok.bs,I.ok.M9,I.ok.Mn,I.ok.Pu,I.ok.gP,I.ok.QC⟩,I.os,I.bare,I.base,I.loc,I.cell,I.free,I.eU,I.pin,I.aT,I.len⟩
theorem Inv.pZ (ok:X.Ok)(I:Inv (X.hand e) ah σ H s):Inv X ah σ H s:=⟨ok,I.os,I.bare,I.base,I.loc,I.cell,I.free,I.eU,I.pin,I.aT,I.len⟩
end
def PSx (X:Cx)(st:List Stmt)(t:XK->TS):Prop:=∀ (ah:List (Addr×Obj)) (s:Shared) (σ:St) (H:Hp) (D:Ends) (Eh:XK) (Z:Value->Shared->Prop),Inv X ah σ H s->t Eh D σ H ->
 (∀ H1 s1 e s',Inv X ah σ H1 s1->QG X.prog X.w X.stack H1 s1 Eh e s'->Z e s')->wpAny (model X.prog X.w) X.A (execs st X.env) (SP X ah D) Z s
section
variable {X:Cx}{k:Nat}{f:Addr}{fd:FuncData}{ps:List Str}{sp:Sp}{lN:List V}{ds:List Value}{x:Str}{p pos fD:Pos}{e:Expr}{es:List Expr}{t:TA}
theorem Rg {ah:List (Addr×Obj)}{σ:St}{H:Hp}{s:Shared}{Q:VK}{us:List Value}{vs:List V}{Eh:XK}{Z:Value->Shared->Prop}(F:iC X.prog X.w X.K X.mg X.base (QG X.prog X.w) k f fd ps sp)(hr:cz k X.A)(hb:Binds X.K fd ps ds)(hd:Vals lN ds)
  (hx:∀ e s',QG X.prog X.w X.stack H s Eh e s'->Z e s') (I:Inv X ah σ H s) (r:Vals vs us) (h:sp (vs++lN) H Q Eh):wpAny (model X.prog X.w) X.A (call (.ref f) us) (EP X ah σ Q) Z s:=by
 have r2:Vals (vs++lN) (us++ds):=r.append hd;have hl:(us++ds).length=ps.length:=by rw [<-r2.length];exact F.len _ _ _ _ h
 refine wpAny_call (codeAny_mono (F.run X.A X.stack s H ⟨us,[]⟩ (us++ds) (vs++lN) Q Eh hr I.R8 (hb s us I.kY hl) r2 h) λr s' hq=>?_);cases r with
 | error e=>exact hx e s' hq
 | ok fl=>
  cases fl with
  | ret u=>exact I.after hq
  | next=>exact False.elim hq
  | brk=>exact False.elim hq
  | cont=>exact False.elim hq
theorem X8 {ah:List (Addr×Obj)}{σ:St}{H:Hp}{s:Shared}{Q:VK}{Eh:XK}{Z:Value->Shared->Prop}(F:iC X.prog X.w X.K X.mg X.base (QG X.prog X.w) k f fd ps sp)(hr:cz k X.A)(hg:Gl X x)(hm:X.mg x=some (.ref f))(hk:xC X.K (.ref f)=true)(hb:Binds X.K fd ps ds)(hd:Vals lN ds)
  (ha:PA X.o9 (e::es) t) (I:Inv X ah σ H s) (h:iF sp lN Eh t σ H Q) (hx:∀ H1 s1 e s',Inv X ah σ H1 s1->QG X.prog X.w X.stack H1 s1 Eh e s'->Z e s') (t8:(x == ("__debug__" : Str))=false)
  (he:starEach (e::es) X.env=(false,eval e X.env)::starEach es X.env) (vP:(backTo fD (starEach es X.env)).any (·.1)=false) :
  wpAny (model X.prog X.w) X.A (eval (.Call (.Name x p) (e::es) [] fD) X.env) (EP X ah σ Q) Z s:=by
 refine wpAny_Call_Name_kw (ie I hg hm ?_ t8);refine PySem.W.callWith_K (h₀:=X.base) I.ok.mod.VS hk (wpAny_mono (ha fD ah s σ H _ (I.iS _) h) (λus s1 ⟨vs,H1,I1,r,q⟩=>⟨I1.cg.kY,?_⟩) λ_ _ z=>z.elim) he vP;exact Rg F hr hb hd (λe s' z=>hx H1 s1 e s' I1.cg z) I1.cg r q
theorem Rk {i:Nat}{y:Str}{yp:Pos}(F:iC X.prog X.w X.K X.mg X.base (QG X.prog X.w) k f fd ps sp)(hr:cz k X.A)(hg:Gl X x)(hm:X.mg x=some (.ref f))(hk:xC X.K (.ref f)=true)(hb:Binds X.K fd ps ds)(hd:Vals lN ds)
  (hN:X.N.Nodup) (hi:X.N[i]?=some y) (hy:Mv X.env.scope y=true) (ha:PA X.o9 (e::es) t) (t8:(x == ("__debug__" : Str))=false:=by decide) (he:starEach (e::es) X.env=(false,eval e X.env)::starEach es X.env:=by rfl) (vP:(backTo fD (starEach es X.env)).any (·.1)=false:=by rfl)
  (hs:swapsWith (.Call (.Name x p) (e::es) [] fD) (some (.Name y yp)) pos.line X.env=pure false:=by rfl) (hf:iK X y=true:=by rfl) :
  PSx X [.Assign [.Name y yp] (.Call (.Name x p) (e::es) [] fD) pos] (λEh=>p7 (iF sp lN Eh t) (iJ i)):=by
 have hy:=lK hy;intro ah s σ H D Eh Z I h hx;refine wpAny_execs_cons (wpAny_Assign_Name (aV (X8 F hr hg hm hk hb hd ha I h hx t8 he vP) λv s1 ⟨z,H1,I1,r1,q1⟩=>?_) hs);exact gj I1 hN hi hy r1 (λs2 I2=>wpAny_execs_nil ⟨_,H1,I2,q1⟩) hf
end
def aai (K:PySem.W.Frag)(cy:Value)(i:Nat)(tb:XK->TS)(th:TS):TS:=λD σ H=>
 tb (λcls _ H'=>PySem.W.exmOne K cls cy=some true/\∃ C,cls=Value.ref C/\∀ x,H' x=none ->
  th { nx:=fun bu H2=>D.nx (bu.set i none) H2,rt:=D.rt,bk:=fun bu H2=>D.bk (bu.set i none) H2,ct:=fun bu H2=>D.ct (bu.set i none) H2 } (σ.set i (some (.ref x))) (upd H' x (m5 x C))) D σ H
section
variable {X:Cx}{K:PySem.W.Frag}
theorem Oo {body:List Stmt}{tb:XK->TS}{Yb:Stmt}{So:List Stmt}{y n:Str}{np aa8 pos:Pos}{th:TS}{i:Nat}{cy:Value}(hK:X.K=K)(hb:PSx X body tb)(hs:X.stack=X.env::X.outer)(hf:X.env.frame=some X.env.locals)
    (hg:Gl X y) (hm:X.mg y=some cy) (hN:X.N.Nodup) (hi:X.N[i]?=some n) (hl:X.env.kindOf n=some .local) (hh:∀ e,lO (X.hand e) (Yb::So) th) (t8:(y == ("__debug__" : Str))=false:=by decide) :
    PS X (.Try body [.ExceptHandler (some (.Name y np)) (some n) (Yb::So) aa8] [] [] pos) (aai K cy i tb th):=by
  subst hK;intro ah s σ H D I h;refine wpAny_Try_except (aV (hb ah s σ H D _ _ I h ?_) λf s1 q=>?_)
  · intro H1 s1 e s' I1 ⟨a,cls,H',B,ee,x,nb,ff,ht,em,C,ec,q⟩;subst ee ec;have fr:X.A.frames=some (X.env::X.outer):=by rw [<-hs];exact I1.ok.frames
    have ff1:=I1.stack;rw [hs] at ff;refine tD (cls:=.ref C) fr hf x.stays ⟨nb,ff,.inr (.inl ht)⟩ λh2 k2 u2 l2 t2=>?_;refine mL (fo:=none) k2 l2 t2 λh3 k3 u3 l3 t3=>?_;have x3:=(x.step ff1 k2 u2).step ff1 k3 u3;have J3:Inv X ah σ H' { s' with heap:=h3 }:=I1.ur (ch:=[]) x3.os x3.un x3.aT x3.bare (λb z=>absurd z (by simp));obtain ⟨oe,vs,T,oT,ts,he,hc,_⟩:=id t3;refine wpAny_handleBy_cons (codeAny_handlers_test (ie (X:=X.hand a) (J3.hand a) hg hm ?_ t8)) (by intro z;cases z);have LT:PySem.W.Looks (model X.prog X.w) h3 (typeOf (.ref a)) (.ref C):=hc ▸ (PySem.W.Looks.ld he).andThen .now;refine (PySem.W.exm_one J3.kY LT em).here ?_;refine codeAny_handlers_suite_as (mL (fo:=none) k3 l3 t3 λh4 k4 u4 l4 t4=>?_);have x4:=x3.step ff1 k4 u4;obtain ⟨oe4,vs4,T4,oT4,ts4,he4,hc4,abB,YT,_⟩:=id t4;have na:H' a=none:=by
      cases z:H' a with
      | none=>rfl
      | some u=>obtain ⟨o,eo⟩:=x4.NP a u z;rw [nb] at eo;cases eo
    have nfr:a ∉ mZ X.stack:=λhm=>by
      rw [hs] at hm;obtain ⟨_,o,eo,nf⟩:=l4.mem hm;rw [he4] at eo;cases eo;exact nf _ YT
    have Ni:Un (mZ X.stack) [] H1 (upd H' a (m5 a C)) s1.heap h4:=
      { keep:=x4.un.keep
        slot:=x4.un.slot
        free:=λb o e n hx=>by
          have nea:b≠a:=λz=>by
            subst z;obtain ⟨o',eo⟩:=x4.allB b o e nfr;rw [nb] at eo;cases eo
          rw [xq nea];exact x4.un.free b o e n hx
        there:=x4.un.there
        aS:=λb xs e=>by have e2:=x4.aS b xs e;rw [xq (xj e2 na)];exact e2
        dZ:=λb o u e=>by have e2:=x4.dZ b o u e;rw [xq (xj e2 na)];exact e2
        dX:=λb ps e=>by obtain ⟨m,e2⟩:=x4.dX b ps e;exact ⟨m,by rw [xq (xj e2 na)];exact e2⟩ }
    have abc:fW X.prog X.w (upd H' a (m5 a C)) h4:=λb u e=>by
      by_cases z:b=a
      · subst z;rw [xg] at e;cases e;have mk:∀ h:Heap,h.get? b=some oe4->∃ ox,PySem.W.InstAt h b ox C none:=λh eh=>by
          obtain ⟨c0,d0,dt0,sl0⟩:=oe4;cases abB;cases YT;exact ⟨_,eh,hc4,rfl,trivial⟩
        refine ⟨mk h4 he4,⟨_,he4⟩,λg1 g2 ⟨ox,i1⟩ kk=>⟨ox,kk _ i1.at_,i1.cls,i1.no,?_⟩⟩;have:=i1.dict;cases zz:ox.dict with
        | none=>trivial
        | some d0=>rw [zz] at this;exact this.elim
      · rw [xq z] at e;exact (x4.aT b u e).dh (λ_ _ _ q=>q) (λc q=>by rw [xq (xj q na)];exact q) λc xs q=>by rw [xq (xj q na)];exact q
    have J4:Inv X ah σ (upd H' a (m5 a C)) { s' with heap:=h4 }:=I1.ur (ch:=[]) x4.os Ni abc x4.bare (λb z=>absurd z (by simp));refine gj (X:=X.hand a) (J4.hand a) hN hi (.inl hl) (v:=.ref a) rfl (λs5 I5=>?_) (Pp hl);refine wpAny_mono (hh a ah s5 _ _ _ I5 (q a na)) (λf s6 z=>?_) λ_ _ z=>z.elim;cases f with
    | next=>obtain ⟨bu,H2,I6,q6⟩:=z;exact lM (I6.pZ I.ok) hN hi hl λs7 I7=>⟨_,H2,I7,q6⟩
    | brk=>obtain ⟨bu,H2,I6,q6⟩:=z;exact lM (I6.pZ I.ok) hN hi hl λs7 I7=>⟨_,H2,I7,q6⟩
    | cont=>obtain ⟨bu,H2,I6,q6⟩:=z;exact lM (I6.pZ I.ok) hN hi hl λs7 I7=>⟨_,H2,I7,q6⟩
    | ret u=>obtain ⟨v,bu,H2,I6,r6,q6⟩:=z;exact lM (I6.pZ I.ok) hN hi hl λs7 I7=>⟨v,_,H2,I7,r6,q6⟩
  · cases f with
    | next=>exact wpAny_execs_nil q
    | brk=>exact q
    | cont=>exact q
    | ret u=>exact q
end
section
variable {X:Cx}{K:PySem.W.Frag}{e o:Expr}{es:List Expr}{to:TE}{t:TA}{T id:String}{name:Str}{apos fD:Pos}{r:V->List V->Hp->VK->Prop}
end
end L2
namespace Sm
open PySem L2 aQ
theorem O1 {K:PySem.W.Frag}{t:Value}:zR K t t=some true:=by unfold zR;rw [if_pos (beq_self_eq_true t)]
end Sm
namespace L2
open PySem PySem.Spec PyProof.Rows
end L2
namespace Sm
open PySem L2 aQ
def kvV (kv:List (Int×Int)):List (Key×V):=kv.map λp=>(Sum.inl p.1,V.int p.2)
theorem gf {kv:List (Int×Int)}{w:Int}:(dG (kvV kv) (Sum.inl w)).isSome=kv.any λp=>decide (p.1=w):=by
 unfold dG kvV;rw [xZ,Option.isSome_map,List.find?_isSome,List.any_eq_true];constructor
 ·rintro ⟨p,hp,e⟩;obtain ⟨q,hq,rfl⟩:=zS.mp hp;have e1:=of_decide_eq_true e;exact ⟨q,hq,decide_eq_true (Sum.inl.inj e1)⟩
 ·rintro ⟨q,hq,e⟩;exact ⟨_,zS.mpr ⟨q,hq,rfl⟩,decide_eq_true (congrArg Sum.inl (of_decide_eq_true e))⟩
theorem map_some {α β:Type}{f:α->β}{o o':Option α}{a:α}(e:o.map f=o'.map f)(h:o'=some a):∃ b,o=some b/\f b=f a:=by
 subst h;cases o with
 | none=>cases e
 | some b=>exact ⟨b,rfl,Option.some.inj e⟩
open Classical in
noncomputable def cut (M:Addr->Prop) (H:Hp):Hp:=λc=>if M c then none else H c
end Sm
namespace L2
open PySem PySem.Spec PyProof.Rows
section
variable {X:Cx}{pos:Pos}
def XY (K:PySem.W.Frag)(n:Nat)(t:QF):TG:=λv σ H Q=>∃ a xs,v=.ref a/\aH K H a xs/\xs.length=n/\t xs σ H Q
theorem Rq {es:List Expr}{k:Nat}{t:QF}{n:Nat}(hc:X.calm=true)(h:Wc X es t)
  (hn:(assignEach es X.env).length=n:=by rfl) (vN:(assignEach es X.env).findIdx? (·.1)=none:=by rfl):PG X (.Tuple es k pos) (XY X.K n t):=by
 intro ah s σ H v u Q I r hw;obtain ⟨a,xs,e1,hq,hl,hw⟩:=hw;subst e1;cases r;obtain ⟨ay,rv,⟨o,m,ho,V1,hd,hs⟩,hz⟩:=I.list hq;have O8:s.heap.IsList a ay.toArray:=⟨o,ho,V1,m,hs⟩;rw [assign_Tuple];refine wpAny_bind (wpAny_standAt ?_);unfold unpack;rw [vN,show (assignEach es X.env).length=ay.toArray.size by simp [hn,<- hl,rv.length]];refine wpAny_bind (wpAny_holding (PySem.W.kun_itemsOf (I.ok.hd hc) O8 λh' hx=>?_));have I1:Inv X ah σ H { s with heap:=h' }:=I.kept (t':=s.toks) λb o e=>hx b o (zV (Heap.lt_size e)) e;exact h ah _ σ H xs _ Q I1 (by simpa using rv) hw
end
end L2
namespace Sm
open PySem L2 aQ
section
variable {C:Addr} {H0 H:Hp}{t u:Tr}{aa:List Int}{tr tm:Addr}{ps:List (Addr×M4)} {n0 n1:Nat}
end
end Sm
namespace L2
open PySem PySem.Spec PyProof.Rows
section
variable {M:Model}{A:Around}{E:Value->Shared->Prop}{s:Shared}
end
section
variable {X:Cx}{ah:List (Addr×Obj)}{σ:St}{H:Hp}{s:Shared}
end
theorem dc {env:Env}:∀ {names:List (Str×NameKind)}{x:Str},names.lookup x=some .cell ->
  (names.map λ(n,k)=>if (k == NameKind.free && env.scope.kind == .function && env.kindOf n == some .cell) then (n,NameKind.cell) else (n,k)).lookup x=some .cell
 | [],_,h=>by simp at h
 | (n,k)::r,x,h=>by
  have ih:=@dc env r x;show List.lookup x ((if (k == NameKind.free && env.scope.kind == .function && env.kindOf n == some .cell)=true then (n,NameKind.cell) else (n,k))::_)=_;by_cases hc:(k == NameKind.free && env.scope.kind == .function && env.kindOf n == some .cell)=true
  ·rw [if_pos hc];cases hx:x == n with
   | true=>simp [yK,hx]
   | false=>
    simp only [yK,hx] at h ⊢;exact ih h
  ·rw [if_neg hc];cases hx:x == n with
   | true=>simp only [yK,hx] at h ⊢;exact h
   | false=>
    simp only [yK,hx] at h ⊢;exact ih h
theorem aK.YK {own:List Str}{caps:List Nat}{N:List Str}{so scope:Scope}{env:Env}(h1:scope.kind=.function)(h2:∀ y∈scope.names,y.2≠.cell)(h3:∀ y∈scope.names,y.2=.local->scope.names.lookup y.1=some .local)
  (h4:∀ y∈scope.names,y.2=.free->so.names.lookup y.1=some .cell\/so.names.lookup y.1=some .free) (h5:∀ i∈caps,i < N.length/\scope.names.lookup ((N[i]?).getD Str.empty)=some .free):aK own caps N (relabel so env) scope:=
 ⟨h1,h2,h3,λy hy e=>(h4 y hy e).elim (λz=>.inl (dc z)) λz=>qO z,h5⟩
end L2
namespace Sm
open PySem L2 aQ
def Pt (H:Hp)(x:V)(d:Option (Int×Int)):Prop:=
 (∃ t n g,x=.ref t/\H t=some (.tup [.int n,.int g])/\d=some (n,g)) \/
 (d=none/\((∃ t,gX H x=some t/\t ≠ "tuple" /\ (b9 x=true\/∃ a,x=.ref a)) \/
  (∃ t xs,x=.ref t/\H t=some (.tup xs)/\xs.length≠2) \/
  ∃ t u v tu tv,x=.ref t/\H t=some (.tup [u,v])/\gX H u=some tu/\gX H v=some tv/\(tu ≠ "int" \/ tv ≠ "int")))
theorem Pt.same {H H':Hp}{x:V}{d:Option (Int×Int)}(h:Pt H x d)(s:au H H'):Pt H' x d:=by
 rcases h with ⟨t,n,g,e,h,r⟩ | ⟨rfl,h | h | h⟩
 ·exact .inl ⟨t,n,g,e,s _ _ h,r⟩
 ·obtain ⟨t,h,r⟩:=h;exact .inr ⟨rfl,.inl ⟨t,dH s h,r⟩⟩
 ·obtain ⟨t,xs,e,h,r⟩:=h;exact .inr ⟨rfl,.inr (.inl ⟨t,xs,e,s _ _ h,r⟩)⟩
 ·obtain ⟨t,u,v,tu,tv,e,h,h1,h2,r⟩:=h;exact .inr ⟨rfl,.inr (.inr ⟨t,u,v,tu,tv,e,s _ _ h,dH s h1,dH s h2,r⟩)⟩
abbrev Ds:=List (V×Option (Int×Int))
def Tg (H:Hp)(x:V)(r:Option Ds):Prop:=
 (r=none/\((∃ a xs,x=.ref a/\H a=some (.tup xs))\/(∃ a,x=.ref a/\H a=some (.dK []))\/x=.bZ\/(∃ s,x=.str s)\/∃ i,x=.int i)) \/
 ∃ l ps,r=some ps/\x=.ref l/\H l=some (.lst (ps.map (·.1)))/\ps.length<=500/\∀ p∈ps,Pt H p.1 p.2
theorem Tg.ty {H:Hp}{x:V}{r:Option Ds}(h:Tg H x r):∃ t,gX H x=some t/\(t = "list" ↔ r≠none):=by
 rcases h with ⟨rfl,⟨a,xs,rfl,h⟩ | ⟨a,rfl,h⟩ | rfl | ⟨s,rfl⟩ | ⟨i,rfl⟩⟩ | ⟨l,ps,rfl,rfl,h,n,hp⟩
 ·exact ⟨"tuple", cN h,by simp⟩
 ·exact ⟨"dict", by simp only [gX,h],by simp⟩
 ·exact ⟨_,rfl,by simp⟩
 ·exact ⟨_,rfl,by simp⟩
 ·exact ⟨_,rfl,by simp⟩
 ·exact ⟨"list", fJ h,by simp⟩
def lD (ms:List M4)(d:Option (Int×Int)):Bool:=match d with
 | none=>false
 | some (k,g)=>decide (0<=k) && (decide (k < ms.length) && (match ms[k.toNat]? with | some m=>decide (g=m.lo) || decide (g=m.hi) | none=>false))
def sD (ms:List M4):Fn->Int->List (Option (Int×Int))->Option Fn
 | f,_,[]=>some f
 | _,_,none::_=>none
 | f,bh,some (k,g)::r=>match ms[k.toNat]? with
  | none=>none
  | some m=>if lD ms (some (k,g))=true/\bh < k/\below (f g.toNat) m.t=true then sD ms (aO f ⟨g.toNat,(if g=m.lo then m.hi else m.lo).toNat,m.t⟩) k r else none
def tt (ms:List M4)(s:Nat)(a:Int):Option Ds->Option Fn
 | none=>none
 | some ps=>sD ms (aA s a) (-1) (ps.map (·.2))
def N6:Sp:=λvs H Q _=>∃ b x d aa tr tm ps,vs=[.ref b,x]/\aL H b aa tr tm ps/\Good aa.length (ps.map (·.2))/\Pt H x d/\∀ H',au H H'->Q (.bl (lD (ps.map (·.2)) d)) H'
def QW:Sp:=λvs H Q _=>∃ b,∃ k:Nat,∃ a x r aa tr tm ps,vs=[.ref b,.int (k:Int),.int a,x]/\aL H b aa tr tm ps/\k < aa.length/\aa.length<=12/\Good aa.length (ps.map (·.2))/\Tg H x r /\
 (tt (ps.map (·.2)) k a r=none->∀ H',au H H'->Q .bZ H')/\(∀ f l H',tt (ps.map (·.2)) k a r=some f->au H H'->H' l=some (.lst ((rep aa.length f).map oV))->Q (.ref l) H')
def jF (H:Hp)(l:Addr)(n:Nat)(ws:List (Addr×Nat×Int)):Prop:=H l=some (.lst (ws.map λx=>V.ref x.1))/\∀ x∈ws,H x.1=some (.tup [.int (x.2.1:Int),.int x.2.2])/\x.2.1 < n
def TU (o:Option Fn)(ws:List (Addr×Nat×Int)):Bool:=match o with
 | none=>false
 | some f=>ws.all λx=>aW (f x.2.1) x.2.2
theorem jF.same {H H':Hp}{l:Addr}{n:Nat}{ws:List (Addr×Nat×Int)}(h:jF H l n ws)(s:au H H'):jF H' l n ws:=⟨s _ _ h.1,λx hx=>⟨s _ _ (h.2 x hx).1,(h.2 x hx).2⟩⟩
def N1:Sp:=λvs H Q _=>∃ b,∃ k:Nat,∃ a l ws x r aa tr tm ps,vs=[.ref b,.int (k:Int),.int a,.ref l,x]/\aL H b aa tr tm ps/\k < aa.length/\aa.length<=12/\Good aa.length (ps.map (·.2))/\Tg H x r/\jF H l aa.length ws/\ws.length<=20 /\
 ∀ H',au H H'->Q (.bl (TU (tt (ps.map (·.2)) k a r) ws)) H'
theorem Tt {ms:List M4}{f:Fn}{bh:Int}{d:Option (Int×Int)}{r:List (Option (Int×Int))}(h:lD ms d=false):sD ms f bh (d::r)=none:=by
 cases d with
 | none=>rfl
 | some x=>
  obtain ⟨k,g⟩:=x;unfold sD;cases ms[k.toNat]? with
  | none=>rfl
  | some m=>dsimp only;rw [if_neg (by rw [h];exact λz=>absurd z.1 zM)]
theorem R5 {ms:List M4}{d:Option (Int×Int)}(h:lD ms d=true):∃ (k:Nat) (g:Int) (m:M4),d=some ((k:Int),g)/\ms[k]?=some m/\(g=m.lo\/g=m.hi):=by
 cases d with
 | none=>cases h
 | some x=>
  obtain ⟨k,g⟩:=x;simp only [lD,zc,decide_eq_true_eq] at h;obtain ⟨h0,h1,h2⟩:=h;obtain ⟨k,rfl⟩:=zj h0;rw [zu] at h2;cases e:ms[k]? with
  | none=>rw [e] at h2;cases h2
  | some m=>
   rw [e] at h2;simp only [yg,decide_eq_true_eq] at h2;exact ⟨k,g,m,rfl,e,h2⟩
theorem sC {ms:List M4}{f:Fn}{bh:Int}{k:Nat}{g:Int}{m:M4}{r:List (Option (Int×Int))}(hm:ms[k]?=some m)(h:¬ (bh < k/\below (f g.toNat) m.t=true)):sD ms f bh (some ((k:Int),g)::r)=none:=by unfold sD;rw [zu,hm];dsimp only;rw [if_neg λz=>h z.2]
theorem Tu {ms:List M4}{f:Fn}{bh:Int}{k:Nat}{g:Int}{m:M4}{r:List (Option (Int×Int))}(hm:ms[k]?=some m)(hg:g=m.lo\/g=m.hi)(h1:bh < k)(h2:below (f g.toNat) m.t=true) :
  sD ms f bh (some ((k:Int),g)::r)=sD ms (aO f ⟨g.toNat,(if g=m.lo then m.hi else m.lo).toNat,m.t⟩) k r:=by
 have hk:k < ms.length:=(zD.mp hm).1
 conv=>lhs;unfold sD
 rw [zu,hm];dsimp only;have hv:lD ms (some ((k:Int),g))=true:=by
  simp only [lD,zu,hm,zc,decide_eq_true_eq,yg];exact ⟨by omega,by omega,hg⟩
 rw [if_pos ⟨hv,h1,h2⟩]
theorem Pt.some {H:Hp}{x:V}{k g:Int}(h:Pt H x (some (k,g))):∃ t,x=.ref t/\H t=some (.tup [.int k,.int g]):=by
 rcases h with ⟨t,n,g',e,h,r⟩ | ⟨z,_⟩
 ·cases r;exact ⟨t,e,h⟩
 ·cases z
theorem tS {g a b:Int}:RV (V.int g) [V.int a,V.int b]=(decide (g=a) || decide (g=b)):=by rw [RU];congr 1 <;> exact decide_eq_decide.mpr eq_comm
section
variable {K:PySem.W.Frag}{H:Hp}{σ:St}{lt p:Addr}{n g:Nat}{f:Fn}{t:Int}{Q:VK}
end
section
variable {K:PySem.W.Frag}{H:Hp}{a b:Addr}{xs ys:List V}{lo hi:Option Int}{Q:VK}
end
section
variable {K:PySem.W.Frag}{D:Ends}{σ:St}{HI H:Hp}{l la lb lf:Addr}{x:V}{ss A C:List (Addr×Int×Int)}{n:Nat}{o:Option (Int×Int)}
end
section
variable {K:PySem.W.Frag}{D:Ends} {HI H0:Hp}{l la lb lf lm:Addr}{ms:List V}{ss A C:List (Addr×Int×Int)}{n:Nat} {s0 s1 s2 s3 s4 s5 s6 s8:Option V}
end
section
variable {K:PySem.W.Frag}{σ:St}{H:Hp}
end
section
variable {K:PySem.W.Frag}{σ:St}{H:Hp}
end
end Sm
namespace L2
end L2
namespace Sm
open PySem L2
def Kv:V->Bool
 | .int i=>decide (0<=i)
 | _=>false
def Q7:Sp:=λvs H Q _=>∃ x t,vs=[x]/\gX H x=some t/\Q (.bl (Kv x)) H
theorem NF {α β:Type}{xs:List α}{ys:List β}{i:Nat}{x:α}{y:β}(hx:xs[i]?=some x)(hy:ys[i]?=some y):(xs.zip ys)[i]?=some (x,y):=by rw [List.getElem?_zip_eq_some];exact ⟨hx,hy⟩
theorem RG {α:Type}{ps:List (Addr×α)}{i:Nat}{r:Addr×α}(h:ps[i]?=some r):(ps.map (·.2))[i]?=some r.2:=by rw [zI,h];rfl
end Sm
namespace L2
open PySem PySem.Spec PyProof.Rows
theorem oq (elt t1 i1 t2 i2:Expr)(fQ dz:List Expr)(scope:Scope)(pos:Pos)(it acc:Value)(env:Env) :
  compTurn (.ListComp elt [⟨t1,i1,fQ,0⟩,⟨t2,i2,dz,0⟩] scope pos) 0 it acc env=(do
   standAt i1.pos
   match <- pyNext it with
   | none=>pure (.done .next)
   | some v=>
    letOwnedTupleGo t1 it v
    assign t1 env v
    let mut ok:=true
    for c in fQ do
     if ok then ok <- isTrue c env (eval c env)
    if ok then
     let x <- eval i2 env
     standAt i2.pos
     let x <- foldedSetIterable i2 env x
     let VT <- holding [x] (pyIter x)
     let _ <- runOwn (.compStart (.ListComp elt [⟨t1,i1,fQ,0⟩,⟨t2,i2,dz,0⟩] scope pos) 1 VT acc env) env
     again (.compLoop (.ListComp elt [⟨t1,i1,fQ,0⟩,⟨t2,i2,dz,0⟩] scope pos) 0 it acc env)
    else
     again (.compLoop (.ListComp elt [⟨t1,i1,fQ,0⟩,⟨t2,i2,dz,0⟩] scope pos) 0 it acc env)):=by rfl
theorem om (elt t1 i1 t2 i2:Expr)(fQ dz:List Expr)(scope:Scope)(pos:Pos)(it acc:Value)(env:Env) :
  compTurn (.ListComp elt [⟨t1,i1,fQ,0⟩,⟨t2,i2,dz,0⟩] scope pos) 1 it acc env=(do
   standAt i2.pos
   match <- pyNext it with
   | none=>pure (.done .next)
   | some v=>
    letOwnedTupleGo t2 it v
    assign t2 env v
    let mut ok:=true
    for c in dz do
     if ok then ok <- isTrue c env (eval c env)
    if ok then
     (do let _ <- call (.builtin "list.append") [acc,<- eval elt env])
    again (.compLoop (.ListComp elt [⟨t1,i1,fQ,0⟩,⟨t2,i2,dz,0⟩] scope pos) 1 it acc env)):=by rfl
section
variable {prog:Program}{w:World}{A:Around}{R:Result->Shared->Prop}{s:Shared} {elt t1 i1 t2 i2:Expr} {fQ dz:List Expr}{scope:Scope}{pos:Pos}{it acc:Value}{env:Env}
abbrev tests (ifs:List Expr)(env:Env):Sem Bool:=forIn ifs true λc r=>if r=true then do let ok <- isTrue c env (eval c env);pure (ForInStep.yield ok) else pure (ForInStep.yield r)
theorem vF (I:Nat->Shared->Prop)
  (turn:∀ n s,I n s->wpAny (model prog w) A (pyNext it) (λr aN=>match r with
   | none=>R (.ok .next) aN
   | some v=>wpAny (model prog w) A (letOwnedTupleGo t2 it v) (λ_ kH=>wpAny (model prog w) A (assign t2 env v) (λ_ gh=>
     wpAny (model prog w) A (tests dz env) (λok jc=>
      if ok=true then wpAny (model prog w) A (eval elt env) (λx sJ=>
       wpAny (model prog w) A (call (.builtin "list.append") [acc,x]) (λ_ sI=>∃ m,m < n/\I m sI) (λ_ _=>False) sJ) (λ_ _=>False) jc
      else ∃ m,m < n/\I m jc) (λ_ _=>False) gh) (λ_ _=>False) kH) (λ_ _=>False) aN) (λ_ _=>False) s)
  (n:Nat) (h:I n s) :
  codeAny (model prog w) A (.compLoop (.ListComp elt [⟨t1,i1,fQ,0⟩,⟨t2,i2,dz,0⟩] scope pos) 1 it acc env) R s:=by
 refine codeAny_loop rfl I (λn s hI=>?_) n h;show wpAny _ A ((compTurn (.ListComp elt [⟨t1,i1,fQ,0⟩,⟨t2,i2,dz,0⟩] scope pos) 1 it acc env).onRaise (λx=>do noteFrame x env;theTreesLotGoes x)) _ _ s;refine wpAny_noted ?_;rw [om];refine wpAny_bind (wpAny_standAt (wpAny_bind (wpAny_mono (turn n s hI) (λr aN ck=>?_) λ_ _ h'=>h'.elim)));cases r with
 | none=>exact wpAny_pure ck
 | some v=>
  refine wpAny_bind (wpAny_mono ck (λ_ kH tW=>?_) λ_ _ h'=>h'.elim);refine wpAny_bind (wpAny_mono tW (λ_ gh rj=>wpAny_bind (wpAny_mono rj (λok jc n8=>?_) λ_ _ h'=>h'.elim)) λ_ _ h'=>h'.elim);cases ok with
  | false=>exact wpAny_pure ⟨rfl,n8⟩
  | true=>
   exact wpAny_bind (wpAny_bind (wpAny_mono n8 (λx sJ O4=>wpAny_bind (wpAny_mono O4 (λ_ sI O3=>wpAny_pure (wpAny_pure ⟨rfl,O3⟩)) λ_ _ h'=>h'.elim)) λ_ _ h'=>h'.elim))
theorem vG (I:Nat->Shared->Prop)(rY:∀ x,foldedSetIterable i2 env x=pure x)
  (turn:∀ n s,I n s->wpAny (model prog w) A (pyNext it) (λr aN=>match r with
   | none=>R (.ok .next) aN
   | some v=>wpAny (model prog w) A (letOwnedTupleGo t1 it v) (λ_ kH=>wpAny (model prog w) A (assign t1 env v) (λ_ gh=>
     wpAny (model prog w) A (tests fQ env) (λok jc=>
      if ok=true then wpAny (model prog w) A (eval i2 env) (λx sJ=>wpAny (model prog w) A (pyIter x) (λVT sI=>
       codeAny (model prog w) A (.compStart (.ListComp elt [⟨t1,i1,fQ,0⟩,⟨t2,i2,dz,0⟩] scope pos) 1 VT acc env) (λr NS=>(∃ f,r=.ok f)/\∃ m,m < n/\I m NS) sI) (λ_ _=>False) sJ) (λ_ _=>False) jc
      else ∃ m,m < n/\I m jc) (λ_ _=>False) gh) (λ_ _=>False) kH) (λ_ _=>False) aN) (λ_ _=>False) s)
  (n:Nat) (h:I n s) :
  codeAny (model prog w) A (.compLoop (.ListComp elt [⟨t1,i1,fQ,0⟩,⟨t2,i2,dz,0⟩] scope pos) 0 it acc env) R s:=by
 refine codeAny_loop rfl I (λn s hI=>?_) n h;show wpAny _ A ((compTurn (.ListComp elt [⟨t1,i1,fQ,0⟩,⟨t2,i2,dz,0⟩] scope pos) 0 it acc env).onRaise (λx=>do noteFrame x env;theTreesLotGoes x)) _ _ s;refine wpAny_noted ?_;rw [oq];refine wpAny_bind (wpAny_standAt (wpAny_bind (wpAny_mono (turn n s hI) (λr aN ck=>?_) λ_ _ h'=>h'.elim)));cases r with
 | none=>exact wpAny_pure ck
 | some v=>
  refine wpAny_bind (wpAny_mono ck (λ_ kH tW=>?_) λ_ _ h'=>h'.elim);refine wpAny_bind (wpAny_mono tW (λ_ gh rj=>wpAny_bind (wpAny_mono rj (λok jc n8=>?_) λ_ _ h'=>h'.elim)) λ_ _ h'=>h'.elim);cases ok with
  | false=>exact wpAny_pure ⟨rfl,n8⟩
  | true=>
   refine wpAny_bind (wpAny_mono n8 (λx sJ O4=>wpAny_bind (wpAny_standAt (wpAny_bind (wpAny_of_eq (rY x) (wpAny_bind (wpAny_holding (wpAny_mono O4 (λVT sI O3=>?_) λ_ _ h'=>h'.elim))))))) λ_ _ h'=>h'.elim);refine wpAny_bind (wpAny_runOwn (codeAny_mono O3 λr NS UK=>?_));obtain ⟨⟨f,rfl⟩,UK⟩:=UK;exact wpAny_pure ⟨rfl,UK⟩
theorem iA
  (h0:codeAny (model prog w) A (.compLoop (.ListComp elt [⟨t1,i1,fQ,0⟩,⟨t2,i2,dz,0⟩] scope pos) 1 it acc env) R s)
  (h:wpAny (model prog w) A (pyIter it) (λit' s'=>codeAny (model prog w) A (.compLoop (.ListComp elt [⟨t1,i1,fQ,0⟩,⟨t2,i2,dz,0⟩] scope pos) 1 it' acc env) R s')
   (notedBy (model prog w) A env λx s'=>R (.error x) s') s) :
  codeAny (model prog w) A (.compStart (.ListComp elt [⟨t1,i1,fQ,0⟩,⟨t2,i2,dz,0⟩] scope pos) 1 it acc env) R s:=by
 refine codeAny_of_tree ?_;show wpAny _ _ ((compStart (.ListComp elt [⟨t1,i1,fQ,0⟩,⟨t2,i2,dz,0⟩] scope pos) 1 it acc env).onRaise (λx=>do noteFrame x env;standAt theWindowsPlace)) _ _ s;refine wpAny_notedAt ?_;unfold compStart;show wpAny _ _ (ask >>= _) _ _ s;refine wpAny_bind (wpAny_askSetting (wpAny_ite ?_));split
 ·first
   | exact wpAny_bind (wpAny_pure (wpAny_pure (And.intro rfl h0)))
   | exact wpAny_pure (And.intro rfl h0)
 ·first
   | exact wpAny_bind (wpAny_rule (wpAny_bind (wpAny_standAt (wpAny_bind (wpAny_mono h (λit' s' h'=>wpAny_pure (And.intro rfl h')) λ_ _ x=>x)))))
   | (refine wpAny_bind (wpAny_rule ?_);show wpAny _ _ (standAt i2.pos >>= _) _ _ s;exact wpAny_bind (wpAny_standAt (wpAny_bind (wpAny_mono h (λit' s' h'=>wpAny_pure (And.intro rfl h')) λ_ _ x=>x))))
end
def TN (n:Nat)(caps:List Nat)(wi:TI)(g:TG)(tc:TT)(Ti:TI)(g2:TG)(LL:TT)(te:TE):TE:=fun σ H Q=>wi σ H λJ H1=>∃ W:Nat->Nat->St->List V->Hp->Prop,(∃ m,W 0 m (fK n caps σ) [] H1)/\∀ i m τ acc H,W i m τ acc H ->
 (J.stop i H/\acc.length<=sizeLine/\∀ p,H p=none->Q (.ref p) (upd H p (.lst acc))) \/
 (J.go i H/\∀ x H',J.nV i H x H'->g x τ H' fun bH H2=>tc bH H2 λb H3=>if b=true then Ti bH H3 λJ2 H4=>∃ W2:Nat->Nat->St->List V->Hp->Prop,(∃ m2,W2 0 m2 bH acc H4)/\∀ j m2 τ acc H,W2 j m2 τ acc H ->
   (J2.stop j H/\∃ m',m' < m/\W (i + 1) m' τ acc H) \/
   (J2.go j H/\acc.length < sizeLine/\∀ y H',J2.nV j H y H'->g2 y τ H' fun pX H5=>LL pX H5 λb H6=>if b=true then te pX H6 λz H7=>∃ m',m' < m2/\W2 (j + 1) m' pX (acc++[z]) H7 else ∃ m',m' < m2/\W2 (j + 1) m' pX acc H6)
  else ∃ m',m' < m/\W (i + 1) m' bH acc H3)
section
variable {X:Cx}{ah:List (Addr×Obj)}{σ:St}{H:Hp}{s:Shared}
theorem Ox {own:List Str}{caps:List Nat}{elt tg iter Wl tO:Expr}{ifs dz:List Expr}{scope:Scope}{pos:Pos}{wi Ti:TI}{g g2:TG}{tc LL:TT}{te:TE}(hc:X.calm=true)(S:aK own caps X.N X.env.scope scope)(hi:PI X tg iter wi)
  (hg:∀ s H fp C,PG (bW X own caps scope s H fp C) tg g) (ht:∀ s H fp C,Wb (bW X own caps scope s H fp C) ifs tc) (he:∀ s H fp C,PE (bW X own caps scope s H fp C) elt te)
  (MJ:∀ s H fp C,PI (bW X own caps scope s H fp C) Wl tO Ti) (hg2:∀ s H fp C,PG (bW X own caps scope s H fp C) Wl g2) (Qu:∀ s H fp C,Wb (bW X own caps scope s H fp C) dz LL)
  (rY:∀ env x,foldedSetIterable tO env x=pure x:=by intro _ _;rfl) (hs:∀ x,foldedSetIterable iter X.env x=pure x:=by intro _;rfl):PE X (.ListComp elt [⟨tg,iter,ifs,0⟩,⟨Wl,tO,dz,0⟩] scope pos) (TN own.length caps wi g tc Ti g2 LL te):=by
 intro ah s σ H Q I h;rw [eval_ListComp];refine wpAny_comprehension_free (use:=none) (cl:=c8 scope.names X.env []) rfl hs (cP λy hy e=>I.ok.has y.1 (S.fr y hy e)) S.kind S.loc
  (wpAny_mono (hi ah s σ H _ I h) (λv s1 h1=>aV h1 λXk s2 h2=>?_) λ_ _ e=>e)
 obtain ⟨it,fp,tn,J,H2,e,I2,T,Qo,f2,W,⟨m0,w0⟩,turn⟩:=h2;subst e;refine wpAny_newObj_type (wpAny_newFunctionEnv S.gF (by intro y hy;simp at hy) (λck dQ cD=>?_) S.kind);dsimp only at dQ cD ⊢;generalize Pf:s2.heap.push { cls:=.type "list", dict:=none,data:=.seq ([]:List Value).toArray }=G at dQ cD ⊢;have hG:G.objs.size=s2.heap.objs.size + 1:=by rw [<-Pf,Heap.size_push]
 have MM:s2.heap.objs.size≠G.objs.size:=by rw [hG];exact zV (xE _)
 have MN:s2.heap.objs.size<=G.objs.size:=by rw [hG];exact yV _
 have below:∀ b,b < s2.heap.objs.size->b≠G.objs.size:=λb hb=>by rw [hG];exact zV (yi hb)
 have old:∀ b o,s2.heap.get? b=some o->ck.get? b=some o:=λb o e=>cD.extBut b o (below b (Heap.lt_size e)) (Heap.get?_push_of_some _ (Pf ▸ Heap.get?_push_of_some _ e));have vS:ck.get? s2.heap.objs.size=some { cls:=.type "list", dict:=none,data:=.seq ([]:List Value).toArray }:=cD.extBut _ _ MM (Heap.get?_push_of_some _ (Pf ▸ Heap.get?_push_size _ rfl));have fl:∀ b∈fp,b < s2.heap.objs.size:=λb hb=>let ⟨o,e,_⟩:=T.obj _ _ Qo b hb;Heap.lt_size e;have jr:ck.Ns G.objs.size λ_=>none:=dQ;have I4:=mT (tk:=s2.toks + ([]:List (Str×Value)).length) I2 S f2 fl (zF _) MN MM old jr vS (λv z=>nomatch z);have NU:tn 0 ck:=T.keep _ _ _ Qo λb _ o e=>old b o e;generalize Xx:({ s2 with heap:=ck,toks:=s2.toks + ([]:List (Str×Value)).length }:Shared)=s4 at I4 ⊢;have e4:s4.heap=ck:=by rw [<-Xx]
 rw [<-e4] at NU
 -- LK loop
 have loop:codeAny (model X.prog X.w) X.A (.compLoop (.ListComp elt [⟨tg,iter,ifs,0⟩,⟨Wl,tO,dz,0⟩] scope pos) 0 (.ref it) (.ref s2.heap.objs.size) (compEnvC scope (c8 scope.names X.env []) G.objs.size X.env))
   (compPost (model X.prog X.w) X.A X.xe none (EP X ah σ Q) (.ref s2.heap.objs.size) G.objs.size) s4:=by
  let Y:=bW X own caps scope s2 H2 fp G.objs.size
  have iT:∀ {H':Hp}{ay:List Value}{n:Nat},(∀ b∈fp,H' b=none)->∀ b∈fp,gU Y [(s2.heap.objs.size,({ cls:=.type "list", data:=.seq ay.toArray n }:Obj))] H' b:=λ{H' ay n} hn b hb=>by
   refine ⟨hn b hb,below b (fl b hb),λz=>?_,.inl hb,λx c e=>(f2 b hb).2.2.2.2.1 x c (wL e),λp hp=>?_⟩
   ·rcases zO.mp (I2.gq b z) with e | e
    ·exact (f2 b hb).2.1 e
    ·exact (f2 b hb).2.2.1 e
   ·have e:p=(s2.heap.objs.size,({ cls:=.type "list", data:=.seq ay.toArray n }:Obj)):=by simpa using (show p∈[]++[_] from hp)
    subst e;exact yQ (fl b hb)
  refine vG (λn s'=>∃ i τ acc ay k H',Inv Y [(s2.heap.objs.size,({ cls:=.type "list", data:=.seq ay.toArray k }:Obj))] τ H' s'/\tn i s'.heap/\(∀ b∈fp,H' b=none)/\Vals acc ay/\W i n τ acc H') (rY _) ?_ m0
   ⟨0,_,[],[],0,H2,I4,NU,λb hb=>(f2 b hb).1,.nil,w0⟩
  rintro n s5 ⟨i,τ,acc,ay,k,H5,I5,Nj,QD,Me,w5⟩;rcases turn i n τ acc H5 w5 with ⟨stop,hz,q⟩ | ⟨go,step⟩
  ·refine aV (T.done Y rfl rfl rfl hc i _ s5 τ H5 (λ_ _=>False) I5 (iT QD) Nj stop) λr s6 ⟨hr,I6⟩=>?_;subst hr;obtain ⟨eD,nD,_,_,_⟩:=I6.pin _ (zE _ (zK.mpr rfl));obtain ⟨m6,XE,_⟩:=I6.loc;refine ⟨m6,XE,λh' rX=>?_⟩;have U4:H5 G.objs.size=none:=I6.free;have eD':h'.get? s2.heap.objs.size=some { cls:=.type "list", data:=.seq ay.toArray k }:=rX.extBut _ _ MM eD;have O6:fW X.prog X.w H5 h':=λb u e=>(I6.aT b u e).dh (λc v hcv qv=>rX.extBut c v (by
     rcases hcv with z | z
     ·subst z;exact xj e U4
     ·exact xj z U4) qv) (λ_ q=>q) λ_ _ q=>q
   refine ⟨.ref s2.heap.objs.size,_,?_,rfl,q _ nD⟩;have ub:=I6.base;refine I2.ur (ch:=fp) (s':={ s6 with heap:=h' }) I6.os ⟨λb o e n' hb hx=>rX.extBut b o (below b (Heap.lt_size e)) (ub.keep b o e n' hb hx),λb o e n' hb hx=>?_,λb o e n' hx=>?_,λb o e hx=>?_,λb xs e=>?_,λb o u e=>?_,λb ps e=>?_⟩
    (O6.NR nD ⟨hz,ay,k,Me,eD'⟩) I6.bare λb hb=>⟨(f2 b hb).2.2.2.1,(f2 b hb).2.1,(f2 b hb).2.2.2.2.1,(f2 b hb).2.2.2.2.2⟩
   ·obtain ⟨sl,e'⟩:=ub.slot b o e n' hb hx;exact ⟨sl,rX.extBut b _ (below b (Heap.lt_size e)) e'⟩
   ·rw [xq (zV (Heap.lt_size e))];exact ub.free b o e n' hx
   ·obtain ⟨o',e'⟩:=ub.there b o e hx;exact ⟨o',rX.extBut b _ (below b (Heap.lt_size e)) e'⟩
   ·have z:=ub.aS b xs e;rw [xq (xj z nD)];exact z
   ·have z:=ub.dZ b o u e;rw [xq (xj z nD)];exact z
   ·obtain ⟨more,z⟩:=ub.dX b ps e;exact ⟨more,by rw [xq (xj z nD)];exact z⟩
  ·refine aV (T.item Y rfl rfl rfl hc i _ s5 τ H5 (λ_ _=>False) I5 (iT QD) Nj go) λr s6 ⟨u,hr,h6⟩=>?_;subst hr;refine aV h6 λ_ s7 ⟨x,H7,I7,r7,y7,LS,X3⟩=>?_;have Yo:=I7.pinned (iT X3) (T.obj _ _ LS);refine aV (hg s2 H2 fp G.objs.size _ s7 τ H7 x u _ Yo r7 (step x H7 y7)) λ_ s8 ⟨uJ,H8,I8,q8⟩=>?_;refine aV (ht s2 H2 fp G.objs.size _ s8 uJ H8 _ I8 q8) λok s9 ⟨H9,I9,q9⟩=>?_
   -- LK iX state behind LK turn
   have back:∀ {s':Shared}{Nz:St}{H':Hp},Inv Y ([(s2.heap.objs.size,({ cls:=.type "list", data:=.seq ay.toArray k }:Obj))]++cZ fp s7.heap) Nz H' s'->(tn (i + 1) s'.heap/\∀ b∈fp,H' b=none):=λ{s' Nz H'} Ib=>
    ⟨T.keep _ _ _ LS λb hb o e=>(Ib.pin (b,o) (zE _ (zE _ (wT hb e)))).1,λb hb=>by
     obtain ⟨o,e,d⟩:=T.obj _ _ LS b hb;exact (Ib.pin (b,o) (zE _ (zE _ (wT hb e)))).2.1⟩
   cases ok with
   | false=>
    obtain ⟨m',ig,w'⟩:=q9;obtain ⟨sb,fb⟩:=back I9;exact ⟨m',ig,i + 1,uJ,acc,ay,k,H9,I9.cB,sb,fb,Me,w'⟩
   | true=>
    -- LK inner clause
    refine aV (MJ s2 H2 fp G.objs.size _ s9 uJ H9 _ I9 q9) λxv iV h10=>aV h10 λafF Sx h11=>?_;obtain ⟨VT,V3,tn2,J2,Zh,e2,I11,T2,Wx,f11,W2,⟨m2,w2⟩,Wk⟩:=h11;subst e2;have NT:∀ {H':Hp}{its':List Value}{n':Nat},(∀ b∈V3,H' b=none)->∀ b∈V3,gU Y ([(s2.heap.objs.size,({ cls:=.type "list", data:=.seq its'.toArray n' }:Obj))]++cZ fp s7.heap) H' b:=λ{H' its' n'} hn b hb=>by
     obtain ⟨_,a2,a3,a4,a5,a6⟩:=f11 b hb;refine ⟨hn b hb,a2,a3,a4,a5,λp hp=>?_⟩;rcases zX.mp hp with z | z
     ·exact a6 p (zT _ z)
     ·rcases zX.mp z with z | z
      ·rw [zK.mp z];exact (show s2.heap.objs.size≠b from a6 (s2.heap.objs.size,({ cls:=.type "list", data:=.seq ay.toArray k }:Obj)) (zE _ (zT _ (zK.mpr rfl))))
      ·exact a6 p (zE _ (zE _ z))
    have SI:codeAny (model X.prog X.w) X.A (.compLoop (.ListComp elt [⟨tg,iter,ifs,0⟩,⟨Wl,tO,dz,0⟩] scope pos) 1 (.ref VT) (.ref s2.heap.objs.size) (compEnvC scope (c8 scope.names X.env []) G.objs.size X.env))
      (λr NS=>(∃ f,r=.ok f)/\∃ m,m < n/\∃ i τ acc ay k H',Inv Y [(s2.heap.objs.size,({ cls:=.type "list", data:=.seq ay.toArray k }:Obj))] τ H' NS/\tn i NS.heap/\(∀ b∈fp,H' b=none)/\Vals acc ay/\W i m τ acc H') Sx:=by
     refine vF (λn' s'=>∃ j τ acc ay k H',Inv Y ([(s2.heap.objs.size,({ cls:=.type "list", data:=.seq ay.toArray k }:Obj))]++cZ fp s7.heap) τ H' s'/\tn2 j s'.heap/\(∀ b∈V3,H' b=none)/\Vals acc ay/\W2 j n' τ acc H') ?_ m2
      ⟨0,uJ,acc,ay,k,Zh,I11,Wx,λb hb=>(f11 b hb).1,Me,w2⟩
     rintro n' Of ⟨j,Ny,uB,mR,Xj,oB,I12,Ww,X4,Rf,w12⟩;rcases Wk j n' Ny uB oB w12 with ⟨Wu,m',ig,w'⟩ | ⟨go2,Xs,Wv⟩
     ·refine aV (T2.done Y rfl rfl rfl hc j _ Of Ny oB (λ_ _=>False) I12 (NT X4) Ww Wu) λr Sw ⟨hr,I13⟩=>?_;subst hr;have sb:tn (i + 1) Sw.heap:=T.keep _ _ _ LS λb hb o e=>(I13.pin (b,o) (zE _ (zE _ (wT hb e)))).1;have fb:∀ b∈fp,oB b=none:=λb hb=>by
       obtain ⟨o,e,d⟩:=T.obj _ _ LS b hb;exact (I13.pin (b,o) (zE _ (zE _ (wT hb e)))).2.1
      exact ⟨⟨_,rfl⟩,m',ig,i + 1,Ny,uB,mR,Xj,oB,I13.cB,sb,fb,Rf,w'⟩
     ·refine aV (T2.item Y rfl rfl rfl hc j _ Of Ny oB (λ_ _=>False) I12 (NT X4) Ww go2) λr Sw ⟨u2,hr,h13⟩=>?_;subst hr;refine aV h13 λ_ Nq ⟨y2,Wf,I14,r14,y14,TR,abS⟩=>?_;have acm:=I14.pinned (NT abS) (T2.obj _ _ TR);refine aV (hg2 s2 H2 fp G.objs.size _ Nq Ny Wf y2 u2 _ acm r14 (Wv y2 Wf y14)) λ_ Sv ⟨Nx,Yp,I15,q15⟩=>?_;refine aV (Qu s2 H2 fp G.objs.size _ Sv Nx Yp _ I15 q15) λok2 Od ⟨We,I16,q16⟩=>?_;have S6:∀ {s':Shared}{Nz:St}{H':Hp},Inv Y (([(s2.heap.objs.size,({ cls:=.type "list", data:=.seq mR.toArray Xj }:Obj))]++cZ fp s7.heap)++cZ V3 Nq.heap) Nz H' s'->(tn2 (j + 1) s'.heap/\∀ b∈V3,H' b=none):=λ{s' Nz H'} Ib=>
       ⟨T2.keep _ _ _ TR λb hb o e=>(Ib.pin (b,o) (zE _ (zE _ (wT hb e)))).1,λb hb=>by
        obtain ⟨o,e,d⟩:=T2.obj _ _ TR b hb;exact (Ib.pin (b,o) (zE _ (zE _ (wT hb e)))).2.1⟩
      cases ok2 with
      | false=>
       obtain ⟨m',ig,w'⟩:=q16;obtain ⟨sb,fb⟩:=S6 I16;exact ⟨m',ig,j + 1,Nx,uB,mR,Xj,We,I16.cB,sb,fb,Rf,w'⟩
      | true=>
       refine aV (he s2 H2 fp G.objs.size _ Od Nx We _ I16 q16) λy Np ⟨yv,Qk,Zf,r17,q17⟩=>?_;obtain ⟨m',ig,w'⟩:=q17;obtain ⟨sb,fb⟩:=S6 Zf;obtain ⟨eD,nD,Qt,WW,_⟩:=Zf.pin (s2.heap.objs.size,_) (zE _ (zT _ (zT _ (zK.mpr rfl))));have hl:uB.length=mR.length:=Rf.length;refine call_meets F.slot_list_append ⟨_,eD,rfl⟩ F.entry_list_append (F.args_list_append_2 _ _) (PySem.list_append s2.heap.objs.size mR.toArray Xj y (by rw [zQ];omega)) ⟨eD,?_⟩;have q:=PySem.IsL.update eD (λa:Array Value=>a.push y);have Iu:Inv Y [] Nx Qk Np:=Zf.bP λp hp=>nomatch hp;have oth:∀ b o,b≠s2.heap.objs.size->Np.heap.get? b=some o->(Np.heap.update s2.heap.objs.size (Obj.mapSeq (λa:Array Value=>a.push y))).get? b=some o:=λb o hb e=>(Heap.get?_update_other Np.heap _ (Ne.symm hb)).trans e;have It:=Iu.turned (t':=Np.toks) (it:=s2.heap.objs.size) (h':=Np.heap.update s2.heap.objs.size (Obj.mapSeq (λa:Array Value=>a.push y))) oth nD Qt (.inr (zF _))
        (λx c e z=>by
         obtain ⟨v,ob,MH,_⟩:=I2.cell x c (wL e);exact absurd (Heap.lt_size MH) (by rw [z];exact z6 _)) (λp hp=>nomatch hp)
       have nfp:∀ b∈fp,b≠s2.heap.objs.size:=λb hb=>zV (fl b hb);have aaI:∀ b∈V3,b≠s2.heap.objs.size:=λb hb z=>(f11 b hb).2.2.2.2.2 (s2.heap.objs.size,({ cls:=.type "list", data:=.seq ay.toArray k }:Obj)) (zE _ (zT _ (zK.mpr rfl))) z.symm;have Yn:=It.bP (eO:=[(s2.heap.objs.size,({ cls:=.type "list", data:=.seq (mR++[y]).toArray (Xj + 1) }:Obj))]++cZ fp s7.heap) λp hp=>by
        rcases zX.mp hp with hp | hp
        ·have e:p=_:=zK.mp hp;subst e;exact ⟨by simpa using q,nD,Qt,WW,λv z=>nomatch z⟩
        ·obtain ⟨e1,e2,e3,e4,e5⟩:=Zf.pin p (zE _ (zT _ (zE _ hp)));exact ⟨oth _ _ (nfp _ (o8 hp).1) e1,e2,e3,e4,e5⟩
       exact ⟨m',ig,j + 1,Nx,uB++[yv],mR++[y],_,Qk,Yn,T2.keep _ _ _ sb λb hb o e=>oth b o (aaI b hb) e,fb,Rf.append (.cons r17 .nil),w'⟩
    exact iA SI (T2.self _ 0 Sx _ _ Wx SI)
 exact codeAny_compStart_list loop (T.self _ 0 s4 _ _ NU loop)
end
section
variable {K:PySem.W.Frag}{a b:Addr}{xs ys:List V}{n:Nat}{caps:List Nat} {g g2:TG} {tc LL:TT} {Ti:TI}{te:TE} {σ VD:St}{H:Hp} {Nc:List V}{Qf:Addr->Hp->List V->Prop}{C:St->List V->Hp->Prop}
def Ze (J2:It)(g2:TG)(LL:TT)(te:TE)(VD:St)(Nc:List V)(H0:Hp)(C:St->List V->Hp->Prop):Prop:=
 ∃ W2:Nat->Nat->St->List V->Hp->Prop,(∃ m2,W2 0 m2 VD Nc H0)/\∀ j m2 τ acc H,W2 j m2 τ acc H ->
  (J2.stop j H/\C τ acc H) \/
  (J2.go j H/\acc.length < sizeLine/\∀ y H',J2.nV j H y H'->g2 y τ H' fun pX H5=>LL pX H5 λb H6=>if b=true then te pX H6 λz H7=>∃ m',m' < m2/\W2 (j + 1) m' pX (acc++[z]) H7 else ∃ m',m' < m2/\W2 (j + 1) m' pX acc H6)
theorem in_of {J2:It}(Pw:Nat->St->List V->Hp->Prop)(len:Nat)(h0:Pw 0 VD Nc H)(hl:∀ j τ acc H,Pw j τ acc H->acc.length < sizeLine)
  (hgo:∀ j τ acc H,j < len->Pw j τ acc H->J2.go j H) (O5:∀ τ acc H,Pw len τ acc H->J2.stop len H)
  (hs:∀ j τ acc H (D:St->List V->Hp->Prop),j < len->Pw j τ acc H->(∀ τ acc H,Pw (j + 1) τ acc H->D τ acc H)->∀ y H',J2.nV j H y H'->g2 y τ H' fun pX H5=>LL pX H5 λb H6=>if b=true then te pX H6 λz H7=>D pX (acc++[z]) H7 else D pX acc H6)
  (hd:∀ τ acc H,Pw len τ acc H->C τ acc H):Ze J2 g2 LL te VD Nc H C:=by
 refine ⟨λj m τ acc H=>m=len - j/\j<=len/\Pw j τ acc H,⟨len,by simp,za _,h0⟩,?_⟩;rintro j m τ acc H ⟨rfl,hj,p⟩;by_cases cA:j < len
 ·exact .inr ⟨hgo j τ acc H cA p,hl j τ acc H p,λy H' z=>hs j τ acc H (fun τ acc H=>∃ m',m' < len - j/\m'=len - (j + 1)/\j + 1<=len/\Pw (j + 1) τ acc H) cA p (fun τ acc H p'=>⟨len - (j + 1),by omega,rfl,cA,p'⟩) y H' z⟩
 ·have e:j=len:=by omega
  subst e;exact .inl ⟨O5 τ acc H p,hd τ acc H p⟩
theorem in_list (Pw:Nat->St->List V->Hp->Prop)(h0:Pw 0 VD Nc H)(hl:∀ j τ acc H,Pw j τ acc H->acc.length < sizeLine/\aH K H a xs)
  (hs:∀ j x τ acc H (D:St->List V->Hp->Prop),xs[j]?=some x->Pw j τ acc H->(∀ τ acc H,Pw (j + 1) τ acc H->D τ acc H)->g2 x τ H fun pX H5=>LL pX H5 λb H6=>if b=true then te pX H6 λz H7=>D pX (acc++[z]) H7 else D pX acc H6)
  (hd:∀ τ acc H,Pw xs.length τ acc H->C τ acc H):Ze (Nf K a) g2 LL te VD Nc H C:=
 in_of Pw xs.length h0 (λj τ acc H p=>(hl j τ acc H p).1) (λj τ acc H hj p=>⟨xs,xs[j],(hl j τ acc H p).2,by simp [hj]⟩) (fun τ acc H p=>⟨xs,(hl _ τ acc H p).2,zF _⟩)
  (λj τ acc H D hj p c y H' z=>by obtain ⟨e,z⟩:=z;subst e;exact hs j y τ acc _ D (z xs (hl j τ acc _ p).2) p c) hd
theorem Ku (Pv:Nat->St->List V->Hp->Prop)(h0:Pv 0 (fK n caps σ) [] H)(hl:∀ i τ acc H,Pv i τ acc H->acc.length<=sizeLine/\aH K H a xs)
  (hs:∀ i x τ acc H (D:St->List V->Hp->Prop),xs[i]?=some x->Pv i τ acc H->(∀ τ acc H,Pv (i + 1) τ acc H->D τ acc H)->g x τ H fun bH H2=>tc bH H2 λb H3=>if b=true then Ti bH H3 λJ2 H4=>Ze J2 g2 LL te bH acc H4 D else D bH acc H3)
  (hd:∀ τ acc H,Pv xs.length τ acc H->∀ p,H p=none->Qf p H acc) :
  ∃ W:Nat->Nat->St->List V->Hp->Prop,(∃ m,W 0 m (fK n caps σ) [] H)/\∀ i m τ acc H,W i m τ acc H ->
   ((Nf K a).stop i H/\acc.length<=sizeLine/\∀ p,H p=none->Qf p H acc) \/
   ((Nf K a).go i H/\∀ x H',(Nf K a).nV i H x H'->g x τ H' fun bH H2=>tc bH H2 λb H3=>if b=true then Ti bH H3 λJ2 H4=>Ze J2 g2 LL te bH acc H4 (fun τ acc H=>∃ m',m' < m/\W (i + 1) m' τ acc H) else ∃ m',m' < m/\W (i + 1) m' bH acc H3):=by
 refine ⟨λi m τ acc H=>m=xs.length - i/\i<=xs.length/\Pv i τ acc H,⟨xs.length,by simp,za _,h0⟩,?_⟩;rintro i m τ acc H ⟨rfl,hi,p⟩;have q:=hl i τ acc H p;by_cases cA:i < xs.length
 ·refine .inr ⟨⟨xs,xs[i],q.2,by simp [cA]⟩,λx H' y=>?_⟩;obtain ⟨e,y⟩:=y;subst e;exact hs i x τ acc _ (fun τ acc H=>∃ m',m' < xs.length - i/\m'=xs.length - (i + 1)/\i + 1<=xs.length/\Pv (i + 1) τ acc H) (y xs q.2) p fun τ acc H p'=>⟨xs.length - (i + 1),by omega,rfl,cA,p'⟩
 ·have e:i=xs.length:=by omega
  subst e;exact .inl ⟨⟨xs,q.2,zF _⟩,q.1,hd τ acc H p⟩
end
end L2
namespace Sm
open PySem L2
def DT (H:Hp):Nat->V->Prop
 | 0,v=>∃ t,gX H v=some t
 | n + 1,v=>(∃ p xs,v=.ref p/\H p=some (.lst xs)/\∀ x∈xs,DT H n x)\/(∃ p xs,v=.ref p/\H p=some (.tup xs)/\∀ x∈xs,DT H n x)\/∃ t,gX H v=some t/\t ≠ "list" /\ t ≠ "tuple"
theorem DT.same {H H':Hp}(s:au H H'):∀ {n:Nat}{v:V},DT H n v->DT H' n v
 | 0,_,⟨t,h⟩=>⟨t,dH s h⟩
 | n + 1,_,h=>by
  rcases h with ⟨p,xs,rfl,k,e⟩ | ⟨p,xs,rfl,k,e⟩ | ⟨t,k,e⟩
  ·exact .inl ⟨p,xs,rfl,s _ _ k,λx hx=>DT.same s (e x hx)⟩
  ·exact .inr (.inl ⟨p,xs,rfl,s _ _ k,λx hx=>DT.same s (e x hx)⟩)
  ·exact .inr (.inr ⟨t,dH s k,e⟩)
theorem getD_at {α:Type}{l:List α}{i:Nat}{x d:α}(h:l[i]?=some x):l.getD i d=x:=by rw [zb,h];rfl
section
variable {n nr k w k' w':Nat}{rs:List (List Int)}{v:Int}
end
section
variable {p lg lt lm a:Addr} {H0 H H':Hp}{as:List Addr}{n nr k w i:Nat}{gs ts:List Bool}{rs:List (List Int)}{v:Int}
end
section
variable {p lg lt lm a:Addr} {H00 H0 H H' H1:Hp}{as:List Addr}{n nr:Nat}{gs ts:List Bool}{rs:List (List Int)}{r:List Int}
end
section
variable {ms:List M4}{ls ws:List S3}{gs ts:List Bool}{rs rs':List (List Int)}{n nr i k w:Nat}{v:Int}
end
section
variable {ms:List M4}{ls ws:List S3}{gs ts:List Bool}{rs rs':List (List Int)}{n nr i k w:Nat}{v:Int}
end
theorem DT.flat {H:Hp}{v:V}{t:String}(h:gX H v=some t)(n1:t ≠ "list")(n2:t ≠ "tuple"):∀ n,DT H n v
 | 0=>⟨t,h⟩
 | _ + 1=>.inr (.inr ⟨t,h,n1,n2⟩)
theorem DT.int {H:Hp}(n:Nat)(b:Int):DT H n (.int b):=DT.flat (t := "int") rfl (by decide) (by decide) n
theorem DT.lst {H:Hp}{n:Nat}{p:Addr}{xs:List V}(h:H p=some (.lst xs))(e:∀ x∈xs,DT H n x):DT H (n + 1) (.ref p):=.inl ⟨p,xs,rfl,h,e⟩
section
variable {H:Hp}{c lg lt lm:Addr}{gs ts:List Bool}{ms:List (Addr×List Int)}
end
end Sm
namespace Sm
open PySem L2 fV
def cU (H:Hp):V->Option (List V)
 | .ref p=>match H p with
  | some (.lst xs)=>some xs
  | _=>none
 | _=>none
def iD (H:Hp):V->Option (List V)
 | .ref p=>match H p with
  | some (.tup xs)=>some xs
  | _=>none
 | _=>none
section
variable {H H':Hp}{p:Addr}{v:V}{xs:List V}{t:String}{n:Nat}
theorem jk (h:H p=some (.lst xs)):cU H (.ref p)=some xs:=by simp only [cU,h]
theorem QN (h:H p=some (.lst xs)):iD H (.ref p)=none:=by simp only [iD,h]
theorem RH (h:H p=some (.tup xs)):cU H (.ref p)=none:=by simp only [cU,h]
theorem QM (h:H p=some (.tup xs)):iD H (.ref p)=some xs:=by simp only [iD,h]
theorem vE (h:cU H v=some xs):∃ p,v=.ref p/\H p=some (.lst xs):=by
 cases v with
 | ref p=>
  simp only [cU] at h;split at h
  ·rename_i k;cases h;exact ⟨p,rfl,k⟩
  ·cases h
 | _=>cases h
theorem uS (h:iD H v=some xs):∃ p,v=.ref p/\H p=some (.tup xs):=by
 cases v with
 | ref p=>
  simp only [iD] at h;split at h
  ·rename_i k;cases h;exact ⟨p,rfl,k⟩
  ·cases h
 | _=>cases h
theorem DT.way (h:DT H (n + 1) v):(∃ p xs,v=.ref p/\H p=some (.lst xs)/\cU H v=some xs/\iD H v=none/\∀ x∈xs,DT H n x)\/(∃ p xs,v=.ref p/\H p=some (.tup xs)/\cU H v=none/\iD H v=some xs/\∀ x∈xs,DT H n x)\/∃ t,gX H v=some t/\tR t "list" = false/\tR t "tuple" = false/\cU H v=none/\iD H v=none:=by
 rcases h with ⟨p,xs,rfl,k,e⟩ | ⟨p,xs,rfl,k,e⟩ | ⟨t,k,n1,n2⟩
 ·exact .inl ⟨p,xs,rfl,k,jk k,QN k,e⟩
 ·exact .inr (.inl ⟨p,xs,rfl,k,RH k,QM k,e⟩)
 ·refine .inr (.inr ⟨t,k,?_,?_,?_,?_⟩)
  ·rcases fH k with rfl | rfl | rfl | rfl | rfl | rfl | rfl <;> first | rfl | exact absurd rfl n1
  ·rcases fH k with rfl | rfl | rfl | rfl | rfl | rfl | rfl <;> first | rfl | exact absurd rfl n2
  ·cases e:cU H v with
   | none=>rfl
   | some xs=>obtain ⟨p,rfl,k2⟩:=vE e;rw [fJ k2] at k;exact absurd (Option.some.inj k).symm n1
  ·cases e:iD H v with
   | none=>rfl
   | some xs=>obtain ⟨p,rfl,k2⟩:=uS e;rw [cN k2] at k;exact absurd (Option.some.inj k).symm n2
theorem DT.tK (s:au H H')(h:DT H (n + 1) v):cU H' v=cU H v:=by
 rcases (h.same s).way with ⟨p,xs,rfl,k,e1,_⟩ | ⟨p,xs,rfl,k,e1,_⟩ | ⟨t,k,_,_,e1,_⟩
 ·rcases h.way with ⟨p,ys,ep,k2,e2,_⟩ | ⟨p,ys,ep,k2,e2,_⟩ | ⟨t,k2,n1,n2,e2,_⟩
  ·cases ep;rw [s _ _ k2] at k;cases k;rw [e1,e2]
  ·cases ep;rw [s _ _ k2] at k;cases k
  ·have:=dH s k2;rw [fJ k] at this;cases this;cases n1
 ·rcases h.way with ⟨p,ys,ep,k2,e2,_⟩ | ⟨p,ys,ep,k2,e2,_⟩ | ⟨t,k2,n1,n2,e2,_⟩
  ·cases ep;rw [s _ _ k2] at k;cases k
  ·rw [e1,e2]
  ·rw [e1,e2]
 ·rcases h.way with ⟨p,ys,rfl,k2,e2,_⟩ | ⟨p,ys,ep,k2,e2,_⟩ | ⟨t,k2,n1,n2,e2,_⟩
  ·rw [jk (s _ _ k2)] at e1;cases e1
  ·rw [e1,e2]
  ·rw [e1,e2]
end
def bF (H:Hp)(n:Nat)(v:V):Bool:=match cU H v with
 | some xs=>decide (xs.length=n) && xs.all Kv
 | none=>false
def L3:Sp:=λvs H Q _=>∃ v,∃ n:Nat,vs=[v,.int n]/\DT H 1 v/\n<=900/\∀ H',au H H'->Q (.bl (bF H n v)) H'
end Sm
namespace Sm
open PySem L2 aQ
structure Tie where
 h:Nat
 t:Nat
 m:Int
def hd (ts:List Tie)(a:Nat):Nat:=match ts[a / 2]? with
 | some x=>if a % 2=0 then x.t else x.h
 | none=>0
def sL (L:L4)(M:M4):Prop:=L.a < M.t/\L.s≠L.w/\(M.lo=(L.s:Int)\/M.hi=(L.s:Int))/\(M.lo=(L.w:Int)\/M.hi=(L.w:Int))
instance (L:L4) (M:M4):Decidable (sL L M):=by unfold sL;infer_instance
section
variable {aa:List Int}{ms:List M4}{ls:List (Addr×L4)}{d:ad4}{m j:Nat}{s:RS}{M:M4}{L:Addr×L4}{o:Option (Nat×Int)}
end
theorem fc:∀ {ms:List M4}{t:Int},(ms.Pairwise λa b=>a.t<=b.t)->∀ {j:Nat}{m:M4},ms[j]?=some m->(j < cnt ms t↔m.t<=t)
 | [],t,_,j,m,h=>by simp at h
 | a::ms,t,o,j,m,h=>by
  have o:=List.pairwise_cons.mp o;by_cases c:a.t<=t
  ·have e:cnt (a::ms) t=cnt ms t + 1:=by unfold cnt;rw [List.filter_cons,if_pos (by simp [c])];rfl
   rw [e];cases j with
   | zero=>cases h;exact ⟨λ_=>c,λ_=>by omega⟩
   | succ j=>rw [<-fc (t:=t) o.2 (j:=j) h];omega
  ·have e:cnt (a::ms) t=0:=by
    unfold cnt;rw [List.filter_cons,if_neg (by simp [c]),List.filter_eq_nil_iff.mpr (λm hm=>by have:=o.1 m hm;simp;omega)];rfl
   rw [e];have:a.t<=m.t:=by
    cases j with
    | zero=>cases h;exact zl _
    | succ j=>exact o.1 m (zC h)
   omega
theorem Vp (ms:List M4)(t:Int):cnt ms t<=ms.length:=List.length_filter_le _ _
theorem um {ms:List M4}(o:ms.Pairwise λa b=>a.t<=b.t){x z:Int}(h:x<=z):cnt ms x<=cnt ms z:=by refine Classical.byContradiction λc=>?_;have l:=Vp ms x;have e:ms[cnt ms z]?=some ms[cnt ms z]:=zJ (by omega);have h1:=(fc (t:=x) o e).mp (by omega);have h2:=(fc (t:=z) o e).mpr (by omega);omega
section
variable {lo hi:Nat->Nat}{g:Nat->Option Nat} {a s0:Nat}
end
end Sm
namespace Sm
open PySem L2
def SS (n:Nat)(f:Nat->Int):Int:=((List.range n).map f).sum
theorem jG {n:Nat}{f:Nat->Int}:SS (n + 1) f=SS n f + f n:=by unfold SS;rw [xL,zH,yO];simp
theorem Lw {n:Nat}{f g:Nat->Int}(h:∀ k,k < n->f k<=g k):SS n f<=SS n g:=by
 induction n with
 | zero=>exact zl _
 | succ n ih=>
  rw [jG,jG];have:=ih λk hk=>h k (by omega);have:=h n (by omega);omega
theorem Qc {n:Nat}{f g:Nat->Int}(h:∀ k,k < n->f k=g k):SS n f=SS n g:=by
 have a:=Lw (n:=n) (f:=f) (g:=g) λk hk=>by rw [h k hk];exact zl _
 have b:=Lw (n:=n) (f:=g) (g:=f) λk hk=>by rw [h k hk];exact zl _
 omega
theorem Lv (n:Nat):SS n (λ_=>0)=0:=by
 induction n with
 | zero=>rfl
 | succ n ih=>rw [jG,ih];rfl
theorem KH {n:Nat}{f:Nat->Int}{j:Nat}{x:Int}(h:j < n):SS n (λk=>if k=j then x else f k) + f j=SS n f + x:=by
 induction n with
 | zero=>omega
 | succ n ih=>
  rw [jG,jG];by_cases e:j=n
  ·subst e;rw [if_pos rfl,Qc (f:=λk=>if k=j then x else f k) (g:=f) λk hk=>by rw [if_neg (by omega)]];omega
  ·have:=ih (by omega);rw [if_neg (by omega:¬ n=j)];omega
theorem Vt {n:Nat}{f g:Nat->Int}{i j:Nat}(hi:i < n)(hj:j < n)(ne:i≠j)(h:∀ k,k < n->k≠i->k≠j->f k<=g k):SS n f + g i + g j<=SS n g + f i + f j:=by
 have a:=KH (n:=n) (f:=g) (x:=f i) hi;have b:=KH (n:=n) (f:=λk=>if k=i then f i else g k) (x:=f j) hj;rw [if_neg (Ne.symm ne)] at b;have c:=Lw (n:=n) (f:=f) (g:=λk=>if k=j then f j else if k=i then f i else g k) λk hk=>by
  by_cases e1:k=j
  ·rw [if_pos e1,e1];exact zl _
  ·rw [if_neg e1];by_cases e2:k=i
   ·rw [if_pos e2,e2];exact zl _
   ·rw [if_neg e2];exact h k hk e2 e1
 omega
theorem Vu {n:Nat}{j:Nat}{x:Int}(h:j < n):SS n (λk=>if k=j then x else 0)=x:=by have:=KH (n:=n) (f:=λ_=>0) (x:=x) h;rw [Lv] at this;omega
section
variable {aa:List Int}{ms:List M4}{ls ws:List S3}{gs ts:List Bool}{rs:List (List Int)}
end
end Sm
namespace L2
open PySem PySem.Spec PyProof.Rows
theorem Pj {K:PySem.W.Frag}{a b:Addr}{xs ys:List V}{g:TG}{tb:TS}{D:Ends}{σ:St}{H:Hp}(el:ys.length<=xs.length)(Pv:Nat->St->Hp->Prop)(h0:Pv 0 σ H)(hl:∀ i σ H,i<=ys.length->Pv i σ H->aH K H a xs/\aH K H b ys)
  (hs:∀ i x y q σ H,xs[i]?=some x->ys[i]?=some y->H q=none->Pv i σ H->g (.ref q) σ (upd H q (.tup [x,y])) fun i8 H2=>tb (D.lp (Pv (i + 1))) i8 H2) (hd:∀ σ H,Pv ys.length σ H->D.nx σ H) :
  ∃ W:Nat->Nat->St->Hp->Prop,(∃ m,W 0 m σ H)/\∀ i m σ H,W i m σ H ->
   ((Nv K a b).stop i H/\D.nx σ H)\/((Nv K a b).go i H/\∃ N:St->Hp->Prop,(∀ bu H',N bu H'->∃ m',m' < m/\W (i + 1) m' bu H')/\∀ x H',(Nv K a b).nV i H x H'->g x σ H' fun i8 H2=>tb (D.lp N) i8 H2):=by
 refine ⟨λi m σ H=>m=ys.length - i/\i<=ys.length/\Pv i σ H,⟨ys.length,by simp,za _,h0⟩,?_⟩;rintro i m σ H ⟨rfl,hi,p⟩;obtain ⟨q1,q2⟩:=hl i σ H hi p;by_cases cA:i < ys.length
 ·refine .inr ⟨⟨xs,ys,xs[i]'(by omega),ys[i],q1,q2,by simp [show i < xs.length by omega],by simp [cA]⟩,Pv (i + 1),fun bu H' p'=>⟨ys.length - (i + 1),by omega,rfl,cA,p'⟩,λx H' y=>?_⟩;obtain ⟨q',x',y',hq,e1,e2,y⟩:=y;subst e1;subst e2;exact hs i x' y' q' σ _ (y xs ys q1 q2).1 (y xs ys q1 q2).2 hq p
 ·have e:i=ys.length:=by omega
  subst e;exact .inl ⟨⟨xs,ys,q1,q2,.inr (zF _)⟩,hd σ H p⟩
end L2
namespace Sm
open PySem L2
abbrev jH:=Addr×List Int
abbrev bK:=Addr×List jH
structure cF (H:Hp) (l:Addr) (nm w sz:Nat) (P:List bK):Prop where
 top:H l=some (.lst (P.map λa=>V.ref a.1))
 str:∀ a∈P,H a.1=some (.lst (a.2.map λb=>V.ref b.1))
 row:∀ a∈P,∀ b∈a.2,H b.1=some (.lst (b.2.map V.int))
 len:P.length=nm + 1
 KL:∀ a∈P,a.2.length=w
 Nm:∀ a∈P,∀ b∈a.2,b.2.length=sz
 pos:∀ a∈P,∀ b∈a.2,∀ x∈b.2,(0:Int)<=x
theorem cF.same {H H':Hp}{l:Addr}{nm w sz:Nat}{P:List bK}(h:cF H l nm w sz P)(s:au H H'):cF H' l nm w sz P:=
 ⟨s _ _ h.top,λa ha=>s _ _ (h.str a ha),λa ha b hb=>s _ _ (h.row a ha b hb),h.len,h.KL,h.Nm,h.pos⟩
abbrev nK:=List (List (List Int))
def aG (P:List bK):nK:=P.map λa=>a.2.map (·.2)
def bI (V:nK)(i j s:Nat):Int:=((V.getD i []).getD j []).getD s 0
theorem qB {P:List bK}{i j s:Nat}{a:bK}{b:jH}(h1:P[i]?=some a)(h2:a.2[j]?=some b):bI (aG P) i j s=b.2.getD s 0:=by unfold bI aG;simp only [zb,zI,h1,ye,xR,h2]
theorem mX {xs:List Int}{s:Nat}{x:Int}(h:xs[s]?=some x):xs.getD s 0=x:=by rw [zb,h];rfl
def iy (V:nK):Prop:=∀ st∈V,∀ r∈st,r.getD 0 0=0
def S8 (ms:List M4)(V:nK)(sz k v:Nat)(z:Int):Prop:=∀ i,i<=cnt ms z->∀ s,s < sz->s.testBit k=true->bI V i v s<=bI V i v (s - 2 ^ k)
def Qe (ms:List M4)(V:nK)(sz:Nat)(ws:List (Addr×Nat×Int)):Prop:=∀ k x,ws[k]?=some x->S8 ms V sz k x.2.1 x.2.2
def Qh (V:nK)(i w sz:Nat):Prop:=∀ j < w,∀ s < sz,bI V i j s<=bI V (i + 1) j s
def Ly (V:nK)(nm w sz:Nat):Prop:=∀ i < nm,Qh V i w sz
def jK (V:nK)(i g o s:Nat):Prop:=∀ p,p<=s->p &&& s=p->bI V i g s<=1 + bI V (i + 1) g p + bI V (i + 1) o (s - p)
def Ql (V:nK)(i g o sz:Nat):Prop:=∀ s < sz,jK V i g o s
def Lz (ms:List M4)(V:nK)(sz:Nat):Prop:=∀ x∈cR ms ms.length,Ql V x.n x.w.g x.w.o sz
def rV (ms:List M4)(V:nK)(w sz:Nat)(ws:List (Addr×Nat×Int)):Prop:=iy V/\Qe ms V sz ws/\Ly V ms.length w sz/\Lz ms V sz
theorem qY (ms:List M4)(z:Int):cnt ms z<=ms.length:=List.length_filter_le _ _
def bf (H:Hp)(w sz:Nat)(v:V):Bool:=match cU H v with
 | some xs=>decide (xs.length=w) && xs.all (bF H sz)
 | none=>false
def cY (H:Hp)(nm w sz:Nat)(v:V):Bool:=match cU H v with
 | some xs=>decide (xs.length=nm + 1) && xs.all (bf H w sz)
 | none=>false
theorem iL {H H':Hp}{n:Nat}{v:V}(s:au H H')(d:DT H 1 v):bF H' n v=bF H n v:=by unfold bF;rw [d.tK s]
theorem nI {f g:V->Bool}:∀ {xs:List V},(∀ x∈xs,f x=g x)->xs.all f=xs.all g
 | [],_=>rfl
 | x::xs,h=>by rw [List.all_cons,List.all_cons,h x (.head _),nI λy hy=>h y (.tail _ hy)]
theorem DT.els {H:Hp}{n:Nat}{v:V}{xs:List V}(d:DT H (n + 1) v)(h:cU H v=some xs):∀ x∈xs,DT H n x:=by
 rcases d.way with ⟨p,ys,rfl,k,e,_,q⟩ | ⟨p,ys,rfl,k,e,_⟩ | ⟨t,k,_,_,e,_⟩
 ·rw [e] at h;cases h;exact q
 ·rw [e] at h;cases h
 ·rw [e] at h;cases h
theorem p8 {H H':Hp}{w sz:Nat}{v:V}(s:au H H')(d:DT H 2 v):bf H' w sz v=bf H w sz v:=by
 unfold bf;rw [d.tK s];cases e:cU H v with
 | none=>rfl
 | some xs=>simp only;rw [nI λx hx=>iL (n:=sz) s (d.els e x hx)]
section
variable {H:Hp}{l:Addr}{nm w sz:Nat}{P:List bK}
theorem cF.WG (h:cF H l nm w sz P){a:bK}(ha:a∈P){b:jH}(hb:b∈a.2)(n:Nat):DT H (n + 1) (.ref b.1):=
 DT.lst (h.row a ha b hb) λx hx=>by obtain ⟨y,_,rfl⟩:=zS.mp hx;exact DT.int n y
theorem cF.Wt (h:cF H l nm w sz P){a:bK}(ha:a∈P)(n:Nat):DT H (n + 2) (.ref a.1):=
 DT.lst (h.str a ha) λx hx=>by obtain ⟨y,hy,rfl⟩:=zS.mp hx;exact h.WG ha hy n
theorem cF.dt (h:cF H l nm w sz P)(n:Nat):DT H (n + 3) (.ref l):=
 DT.lst h.top λx hx=>by obtain ⟨y,hy,rfl⟩:=zS.mp hx;exact h.Wt hy n
theorem cF.aas (h:cF H l nm w sz P){a:bK}(ha:a∈P){b:jH}(hb:b∈a.2):bF H sz (.ref b.1)=true:=by
 have e:(b.2.map V.int).all Kv=true:=by
  rw [xW,yS];intro x hx;exact decide_eq_true (h.pos a ha b hb x hx)
 simp only [bF,jk (h.row a ha b hb),zA];rw [decide_eq_true (h.Nm a ha b hb),e];rfl
theorem cF.aan (h:cF H l nm w sz P){a:bK}(ha:a∈P):bf H w sz (.ref a.1)=true:=by
 have e:(a.2.map λb=>V.ref b.1).all (bF H sz)=true:=by
  rw [xW,yS];intro x hx;exact h.aas ha hx
 simp only [bf,jk (h.str a ha),zA];rw [decide_eq_true (h.KL a ha),e];rfl
theorem cF.cY (h:cF H l nm w sz P):cY H nm w sz (.ref l)=true:=by
 have e:(P.map λb=>V.ref b.1).all (bf H w sz)=true:=by
  rw [xW,yS];intro x hx;exact h.aan hx
 simp only [Sm.cY,jk h.top,zA];rw [decide_eq_true h.len,e];rfl
end
theorem Lq (a b:Nat):Builtin.bitAnd (a:Int) (b:Int)=((a &&& b:Nat):Int):=by unfold Builtin.bitAnd;rw [decide_eq_true (by omega:(0:Int)<=(a:Int))];rfl
theorem KP (k:Nat):(1:Int) * 2 ^ (k:Int).toNat=((2 ^ k:Nat):Int):=by rw [Int.one_mul,zu];push_cast;rfl
def cJ (s k:Nat):Nat:=if s.testBit k then s - 2 ^ k else s
theorem Se (s k:Nat):s &&& 2 ^ k=if s.testBit k then 2 ^ k else 0:=by
 refine yD λi=>?_;rw [yP,z8];by_cases e:k=i
 ·subst e;cases h:s.testBit k with
  | true=>rw [if_pos rfl,z8];simp
  | false=>rw [if_neg (by decide)];simp
 ·rw [decide_eq_false e,yt];split
  ·rw [z8,decide_eq_false e]
  ·simp
theorem RM (s k:Nat):(s:Int) - Builtin.bitAnd (s:Int) (((2 ^ k:Nat):Int))=((cJ s k:Nat):Int):=by
 rw [Lq,Se];unfold cJ;cases h:s.testBit k with
 | true=>
  have:=Nat.ge_two_pow_of_testBit h;rw [if_pos rfl,if_pos rfl];omega
 | false=>rw [if_neg (by decide),if_neg (by decide)];simp
def fL (s:Nat):List (Nat×Nat):=((List.range (s + 1)).filter λp=>p &&& s == p).map λp=>(p,s - p)
theorem cu {s p q:Nat}:(p,q)∈fL s↔(p<=s/\p &&& s=p)/\q=s - p:=by
 unfold fL;rw [zS];constructor
 ·rintro ⟨x,hx,e⟩;rw [List.mem_filter,zm,beq_iff_eq] at hx;cases e;exact ⟨⟨by omega,hx.2⟩,rfl⟩
 ·rintro ⟨⟨h1,h2⟩,rfl⟩;exact ⟨p,by rw [List.mem_filter,zm,beq_iff_eq];exact ⟨by omega,h2⟩,rfl⟩
def Q9:Sp:=λvs H Q _=>∃ l ws n,vs=[.ref l]/\jF H l n ws/\ws.length<=60/\Q (.int (((2 ^ ws.length:Nat):Int) - 1)) H
def N5:Sp:=λvs H Q _=>∃ s k:Nat,vs=[.int (s:Int),.int (k:Int)]/\k<=60/\Q (.int ((cJ s k:Nat):Int)) H
def NZ:Sp:=λvs H Q _=>∃ s:Nat,vs=[.int (s:Int)]/\s<=900/\∀ l (rs:List (Addr×Nat×Nat)) H',au H H'->H' l=some (.lst (rs.map λr=>V.ref r.1))->(∀ r∈rs,H' r.1=some (.tup [.int (r.2.1:Int),.int (r.2.2:Int)]))->rs.map (·.2)=fL s->Q (.ref l) H'
def N7:Sp:=λvs H Q _=>∃ b l v aa tr tm ps ws,vs=[.ref b,.ref l,v]/\aL H b aa tr tm ps/\aa.length<=12/\ps.length<=60/\jF H l aa.length ws/\ws.length<=4/\DT H 3 v/\∀ H',au H H'->Q (.bl (cY H ps.length aa.length (2 ^ ws.length) v)) H'
def sM:Sp:=λvs H Q _=>∃ b l v aa tr tm ps ws,vs=[.ref b,.ref l,v]/\aL H b aa tr tm ps/\aa.length<=12/\jF H l aa.length ws/\ws.length<=4/\DT H 2 v/\∀ H',au H H'->Q (.bl (bf H aa.length (2 ^ ws.length) v)) H'
def LX:Sp:=λvs H Q _=>∃ l nm w sz P,vs=[.ref l]/\cF H l nm w sz P/\nm<=60/\w<=12/\1<=sz/\sz<=16/\∀ b H',au H H'->(b=true↔iy (aG P))->Q (.bl b) H'
structure fX (H:Hp) (b l lp:Addr) (aa:List Int) (tr tm:Addr) (ps:List (Addr×M4)) (ws:List (Addr×Nat×Int)) (P:List bK):Prop where
 bk:aL H b aa tr tm ps
 gd:Good aa.length (ps.map (·.2))
 r1:1<=aa.length
 jY:aa.length<=12
 wa:jF H l aa.length ws
 w1:1<=ws.length
 w4:ws.length<=4
 pr:cF H lp ps.length aa.length (2 ^ ws.length) P
theorem fX.same {H H':Hp}{b l lp:Addr}{aa:List Int}{tr tm:Addr}{ps:List (Addr×M4)}{ws:List (Addr×Nat×Int)}{P:List bK}(h:fX H b l lp aa tr tm ps ws P)(s:au H H'):fX H' b l lp aa tr tm ps ws P:=
 ⟨h.bk.same s,h.gd,h.r1,h.jY,h.wa.same s,h.w1,h.w4,h.pr.same s⟩
theorem o4 {n:Nat}(h:n<=4):2 ^ n<=16:=Nat.pow_le_pow_right (by decide) h
def p9:Sp:=λvs H Q _=>∃ b l lp aa tr tm ps ws P,vs=[.ref b,.ref l,.ref lp]/\fX H b l lp aa tr tm ps ws P/\∀ bb H',au H H'->(bb=true↔Qe (ps.map (·.2)) (aG P) (2 ^ ws.length) ws)->Q (.bl bb) H'
def u5:Sp:=λvs H Q _=>∃ l nm w sz P,vs=[.ref l]/\cF H l nm w sz P/\nm<=60/\w<=12/\sz<=16/\∀ b H',au H H'->(b=true↔Ly (aG P) nm w sz)->Q (.bl b) H'
def LZ:Sp:=λvs H Q _=>∃ b l lp aa tr tm ps ws P,vs=[.ref b,.ref lp]/\fX H b l lp aa tr tm ps ws P/\∀ bb H',au H H'->(bb=true↔Lz (ps.map (·.2)) (aG P) (2 ^ ws.length))->Q (.bl bb) H'
def Q4:Sp:=λvs H Q _=>∃ b k a l v aa tr tm ps ws,vs=[.ref b,.int ((k:Nat):Int),.int a,.ref l,v]/\k < aa.length/\aL H b aa tr tm ps/\Good aa.length (ps.map (·.2))/\1<=aa.length/\aa.length<=12/\jF H l aa.length ws/\1<=ws.length/\ws.length<=4/\DT H 3 v /\
 ((cY H ps.length aa.length (2 ^ ws.length) v=false/\∀ H',au H H'->Q .bZ H')\/∃ lp P,v=.ref lp/\cF H lp ps.length aa.length (2 ^ ws.length) P /\
  (rV (ps.map (·.2)) (aG P) aa.length (2 ^ ws.length) ws->∀ H',au H H'->Q (.int (bI (aG P) (cnt (ps.map (·.2)) a) k (2 ^ ws.length - 1))) H') /\
  (¬ rV (ps.map (·.2)) (aG P) aa.length (2 ^ ws.length) ws->∀ H',au H H'->Q .bZ H'))
def fG (P:List bK):List Bool:=P.flatMap λa=>a.2.map λb=>decide (b.2.getD 0 0=0)
theorem uM {P:List bK}{i:Nat}{r:bK}(h:P[i]?=some r):fG (P.take (i + 1))=fG (P.take i)++r.2.map λb=>decide (b.2.getD 0 0=0):=by unfold fG;rw [wP h,List.flatMap_append];simp
theorem LA {P:List bK}:(fG P).all id=true↔iy (aG P):=by
 unfold fG iy aG;simp only [yS,xF,zS,id];constructor
 ·rintro h st ⟨a,ha,rfl⟩ r hr;obtain ⟨b,hb,rfl⟩:=zS.mp hr;exact of_decide_eq_true (h _ ⟨a,ha,b,hb,rfl⟩)
 ·rintro h x ⟨a,ha,b,hb,rfl⟩;exact decide_eq_true (h _ ⟨a,ha,rfl⟩ _ (zS.mpr ⟨b,hb,rfl⟩))
theorem cM {xs:List Int}{n:Nat}(h:n < xs.length):i7 (xs.map V.int) (n:Int)=some (V.int (xs.getD n 0)):=
 wF (by rw [zI,zb,zJ h];rfl)
theorem La {xs:List Int}{n:Nat}(h:n < xs.length):xs[n]?=some (xs.getD n 0):=by rw [zb,zJ h];rfl
theorem KA {α:Type}{f:α->Bool}{l:List α}:(l.map f).any id=false↔∀ x∈l,f x=false:=by rw [List.any_map,List.any_eq_false];exact ⟨λh x hx=>by have:=h x hx;simpa using this,λh x hx=>by simpa using h x hx⟩
def gtB (xs ys:List Int):List Bool:=(xs.zip ys).map λp=>decide (p.2 < p.1)
theorem S2 {xs ys:List Int}{n:Nat}(ex:xs.length=n)(ey:ys.length=n):(gtB xs ys).any id=false↔∀ s < n,xs.getD s 0<=ys.getD s 0:=by
 unfold gtB;rw [KA];constructor
 ·intro h s hs;have:=h (xs.getD s 0,ys.getD s 0) (zC (NF (La (by omega)) (La (by omega))));have:=of_decide_eq_false this;omega
 ·rintro h ⟨x,y⟩ hx;obtain ⟨s,hs⟩:=yB.mp hx;rw [List.getElem?_zip_eq_some] at hs;have s1:s < n:=by have:=(zD.mp hs.1).1;omega
  have:=h s s1;rw [mX hs.1,mX hs.2] at this;exact decide_eq_false (by simp only;omega)
def OC (xs:List Int)(k n:Nat):List Bool:=(List.range n).map λs=>decide (xs.getD (cJ s k) 0 < xs.getD s 0)
theorem OB {xs:List Int}{k n:Nat}:(OC xs k n).any id=false↔∀ s < n,s.testBit k=true->xs.getD s 0<=xs.getD (s - 2 ^ k) 0:=by
 unfold OC;rw [KA];constructor
 ·intro h s hs b;have:=of_decide_eq_false (h s (zm.mpr hs));unfold cJ at this;rw [if_pos b] at this;omega
 ·intro h s hs;have:=h s (zm.mp hs);refine decide_eq_false ?_;unfold cJ;split
  ·rename_i b;have:=this b;omega
  ·omega
theorem RL (s k:Nat):cJ s k<=s:=by unfold cJ;split;exact Nat.sub_le _ _;exact zF _
def j9 (x:Int)(ys zs:List Int)(s:Nat):List Bool:=(fL s).map λr=>decide (1 + ys.getD r.1 0 + zs.getD r.2 0 < x)
theorem ua {x:Int}{ys zs:List Int}{s:Nat}:(j9 x ys zs s).any id=false↔∀ p,p<=s->p &&& s=p->x<=1 + ys.getD p 0 + zs.getD (s - p) 0:=by
 unfold j9;rw [KA];constructor
 ·intro h p h1 h2;have:=of_decide_eq_false (h (p,s - p) (cu.mpr ⟨⟨h1,h2⟩,rfl⟩));simp only at this;omega
 ·rintro h ⟨p,q⟩ hx;obtain ⟨⟨h1,h2⟩,rfl⟩:=cu.mp hx;have:=h p h1 h2;exact decide_eq_false (by simp only;omega)
theorem split_le {s:Nat}{r:Nat×Nat}(h:r∈fL s):r.1<=s/\r.2<=s:=by obtain ⟨p,q⟩:=r;obtain ⟨⟨h1,h2⟩,rfl⟩:=cu.mp h;exact ⟨h1,by simp only;omega⟩
theorem split_len (s:Nat):(fL s).length<=s + 1:=by unfold fL;rw [zA];exact z4 (List.length_filter_le _ _) (by rw [xA];exact zF _)
theorem uT {α:Type}{l:List α}{n j:Nat}{a:α}(h:(l.take n)[j]?=some a):j < n/\l[j]?=some a:=by
 rw [List.getElem?_take] at h;split at h
 ·rename_i c;exact ⟨c,h⟩
 ·cases h
theorem NJ {w:Nat}{ms:List M4}{x:W4}(gd:Good w ms)(h:x∈cR ms ms.length):x.n < ms.length/\x.w.g < w/\x.w.o < w/\∃ m,ms[x.n]?=some m:=by have k:=dF h;have z:=k.inside gd;obtain ⟨m,hm,_⟩:=k;exact ⟨(zD.mp hm).1,z.1,z.2.1,m,hm⟩
theorem OD {a b:Nat}(h:a &&& b=0):a ||| b=a + b:=by
 obtain ⟨n,hn⟩:∃ n,a + b < 2 ^ n:=⟨a + b,Nat.lt_two_pow_self⟩;have ha:a < 2 ^ n:=by omega
 have hb:b < 2 ^ n:=by omega
 have z:BitVec.ofNat n a &&& BitVec.ofNat n b=0#n:=by
  apply BitVec.eq_of_toNat_eq;rw [BitVec.toNat_and,BitVec.toNat_ofNat,BitVec.toNat_ofNat,xX ha,xX hb,h];simp
 have e:=congrArg BitVec.toNat (BitVec.add_eq_or_of_and_eq_zero _ _ z);rw [BitVec.toNat_add,BitVec.toNat_or,BitVec.toNat_ofNat,BitVec.toNat_ofNat,xX ha,xX hb,xX hn] at e;exact e.symm
theorem tw {a b:Nat}(h:a &&& b=0):(a ||| b) - a=b:=by rw [OD h];omega
def bJ (p s:Nat):Prop:=∀ i,p.testBit i=true->s.testBit i=true
theorem fj {p s:Nat}:p &&& s=p↔bJ p s:=by
 constructor
 ·intro h i hi;have:=congrArg (λz=>Nat.testBit z i) h;simp only [yP,hi,yo] at this;exact this
 ·intro h;refine yD λi=>?_;rw [yP];cases e:p.testBit i with
  | false=>rfl
  | true=>rw [h i e];rfl
theorem bJ.le {p s:Nat}(h:bJ p s):p<=s:=by rw [<-fj.mpr h];exact Nat.and_le_right
theorem jX {p s:Nat}(h:bJ p s):p ||| (s - p)=s/\p &&& (s - p)=0/\∀ i,(s - p).testBit i=(s.testBit i && !p.testBit i):=by
 have d:p &&& (s ^^^ p)=0:=by
  refine yD λi=>?_;rw [yP,Nat.testBit_xor,yL];cases e:p.testBit i with
  | false=>rfl
  | true=>rw [h i e];rfl
 have o:p ||| (s ^^^ p)=s:=by
  refine yD λi=>?_;rw [zx,Nat.testBit_xor];cases e:p.testBit i with
  | false=>simp
  | true=>rw [h i e];rfl
 have e:s - p=s ^^^ p:=by have:=tw d;rw [o] at this;exact this
 rw [e];refine ⟨o,d,λi=>?_⟩;rw [Nat.testBit_xor];cases e:p.testBit i with
 | false=>simp
 | true=>rw [h i e];rfl
theorem nB {s:Nat}(h:∀ i,s.testBit i=false):s=0:=yD λi=>by rw [h i,yL]
theorem PL {a b:Nat}(h:∀ i,a.testBit i=true->b.testBit i=false):a &&& b=0:=nB λi=>by
 rw [yP];cases e:a.testBit i with
 | false=>rfl
 | true=>rw [h i e];rfl
def cj (P:Nat->Bool):Nat->Nat
 | 0=>0
 | k + 1=>cj P k ||| (if P k then 2 ^ k else 0)
theorem fz (P:Nat->Bool):∀ k i,(cj P k).testBit i=(decide (i < k) && P i)
 | 0,i=>by rw [cj,yL];simp
 | k + 1,i=>by
  rw [cj,zx,fz P k i];by_cases e:i=k
  ·subst e;cases h:P i <;> simp [h]
  ·cases h:P k
   ·rw [if_neg (by decide),yL];by_cases l:i < k
    ·simp [l,yi l]
    ·simp [l,show ¬ i < k + 1 by omega]
   ·rw [if_pos rfl,z8,decide_eq_false (Ne.symm e)];by_cases l:i < k
    ·simp [l,yi l]
    ·simp [l,show ¬ i < k + 1 by omega]
theorem Good.fM {w:Int}{ms:List M4}(gd:Good w ms):ms.Pairwise λa b=>a.t<=b.t:=gd.order.imp λh=>by rcases h with h | h <;> omega
abbrev Wq:=List (Nat×Int)
structure jL (ms:List M4) (V:Nat->Nat->Nat->Int) (W K:Nat) (ws:Wq):Prop where
 zero:∀ j,j<=ms.length->∀ w,w < W->V j w 0=0
 out:∀ k x,ws[k]?=some x->∀ j,j<=cnt ms x.2->∀ s,s < 2 ^ K->s.testBit k=true->V j x.1 s<=V j x.1 (s - 2 ^ k)
 keep:∀ j < ms.length,∀ w < W,∀ s < 2 ^ K,V j w s<=V (j + 1) w s
 give:∀ j g o t,bM ms j g o t->∀ a b,a &&& b=0->a ||| b < 2 ^ K->V j g (a ||| b)<=1 + V (j + 1) g a + V (j + 1) o b
theorem jL.keeps {ms:List M4}{V:Nat->Nat->Nat->Int}{W K:Nat}{ws:Wq}(F:jL ms V W K ws){w s:Nat}(hw:w < W)(hs:s < 2 ^ K){j:Nat}:∀ d,j + d<=ms.length->V j w s<=V (j + d) w s
 | 0,_=>zl _
 | d + 1,h=>xT (F.keeps hw hs d (by omega)) (F.keep (j + d) (by omega) w hw s hs)
inductive kU (ms:List M4):Nat->Fn->List (Nat×Nat)->Fn->Prop
 | nil (j:Nat) (f:Fn):kU ms j f [] f
 | cons {j m g o:Nat}{t x:Int}{f h:Fn}{T:List (Nat×Nat)} (hj:j<=m) (l:bM ms m g o t) (hx:f g=some x) (lt:x < t) (r:kU ms (m + 1) (if f o=none then put f o (some t) else f) T h):kU ms j f ((m,g)::T) h
def bY (f:Fn)(ws:Wq)(k:Nat):Bool:=match ws[k]? with
 | some x=>aW (f x.1) x.2
 | none=>true
def aZ (f:Fn)(ws:Wq):Prop:=∀ k:Nat,∀ x:Nat×Int,ws[k]?=some x->aW (f x.1) x.2=true
theorem vz {ms:List M4}{V:Nat->Nat->Nat->Int}{W K:Nat}{ws:Wq}(F:jL ms V W K ws){j v a:Nat}(ha:a < 2 ^ K){P:Nat->Bool}(hP:∀ k,P k=true->∃ l,ws[k]?=some (v,l)/\j<=cnt ms l)(d:∀ k,P k=true->a.testBit k=false):∀ n,n<=K->V j v (a ||| cj P n)<=V j v a
 | 0,_=>by rw [cj,Nat.or_zero];exact zl _
 | n + 1,hn=>by
  have ih:=vz F ha hP d n (by omega);rw [cj];cases e:P n with
  | false=>rw [if_neg (by decide),Nat.or_zero];exact ih
  | true=>
   rw [if_pos rfl,<- Nat.or_assoc];obtain ⟨l,hl,le⟩:=hP n e;have nb:(a ||| cj P n).testBit n=false:=by rw [zx,d n e,fz];simp
   have dj:2 ^ n &&& (a ||| cj P n)=0:=PL λi hi=>by
    rw [z8] at hi;rw [<-of_decide_eq_true hi];exact nb
   have ml:cj P n < 2 ^ K:=Nat.lt_pow_two_of_testBit _ λi hi=>by rw [fz];simp;omega
   have lt:a ||| cj P n ||| 2 ^ n < 2 ^ K:=Nat.or_lt_two_pow (Nat.or_lt_two_pow ha ml) (Nat.pow_lt_pow_right (by decide) (by omega));have:=F.out n (v,l) hl j le _ lt (by rw [zx,z8];simp);rw [Nat.or_comm (a ||| cj P n) (2 ^ n),tw dj] at this;rw [Nat.or_comm];exact xT this ih
theorem gM {f:Fn}{ws:Wq}{k:Nat}{x:Nat×Int}(h:ws[k]?=some x):bY f ws k=aW (f x.1) x.2:=by unfold bY;rw [h]
theorem RI {ms:List M4}{V:Nat->Nat->Nat->Int}{W K:Nat}{ws:Wq}(F:jL ms V W K ws)(gd:Good W ms)(hK:ws.length=K):∀ {j:Nat}{f h:Fn}{T:List (Nat×Nat)},kU ms j f T h->j<=ms.length->(∀ i x,f i=some x->i < W)->aZ h ws ->
  ∃ s:Nat->Nat,(∀ w,s w < 2 ^ K)/\(∀ w,s w≠0->f w≠none)/\(∀ w w' k,(s w).testBit k=true->(s w').testBit k=true->w=w')/\(∀ w k,(s w).testBit k=true->k < K/\bY f ws k=false)/\(∀ k < K,bY f ws k=false->∃ w < W,(s w).testBit k=true)/\SS W (λw=>V j w (s w))<=T.length:=by
 intro j f h T tr;induction tr with
 | nil j f=>
  intro jn fw sv;refine ⟨λ_=>0,λ_=>ym K,λ_ h=>absurd rfl h,(λw w' k h=>by rw [yL] at h;cases h),(λw k h=>by rw [yL] at h;cases h),λk hk hf=>?_,?_⟩
  ·obtain ⟨x,hx⟩:∃ x,ws[k]?=some x:=⟨_,zJ (by omega)⟩;rw [gM hx,sv k x hx] at hf;cases hf
  ·rw [Qc (g:=λ_=>0) λw hw=>F.zero j jn w hw,Lv];exact zl _
 | @cons j m g o t x f h T hj l hx lt r ih=>
  intro jn fw sv;obtain ⟨gW,oW,go⟩:=l.inside gd;have mn:m < ms.length:=by obtain ⟨m',hm,_⟩:=l;exact (zD.mp hm).1
  obtain ⟨s,s1,s2,s3,s4,s5,s6⟩:=ih (by omega) (λi y hy=>by
   split at hy
   ·by_cases e:i=o
    ·rw [e];exact oW
    ·rw [qA e] at hy;exact fw i y hy
   ·exact fw i y hy) sv
  have kp:∀ w < W,∀ z < 2 ^ K,V j w z<=V m w z:=λw hw z hz=>by
   have:=F.keeps hw hz (j:=j) (m - j) (by omega);rwa [show j + (m - j)=m by omega] at this
  by_cases fo:f o=none
  ·rw [if_pos fo] at s2 s4 s5;rw [zW]
   let P:Nat->Bool:=λk=>bY (put f o (some t)) ws k && !bY f ws k
   have hP:∀ k,P k=true->∃ l,ws[k]?=some (o,l)/\m + 1<=cnt ms l:=λk hk=>by
    simp only [P,zc,Bool.not_eq_true'] at hk;cases hw:ws[k]? with
    | none=>rw [show bY f ws k=true by unfold bY;rw [hw]] at hk;cases hk.2
    | some y=>
     rw [gM hw,gM hw] at hk;by_cases e:y.1=o
     ·refine ⟨y.2,by rw [<-e],?_⟩;rw [e,qF] at hk;obtain ⟨z,hz,le⟩:=aE.mp hk.1;cases hz;obtain ⟨m',hm,et,_⟩:=l;exact (fc gd.fM hm).mpr (by rw [et];exact le)
     ·rw [qA e] at hk;rw [hk.1] at hk;cases hk.2
   have hold:∀ k,bY f ws k=true->bY (put f o (some t)) ws k=true:=λk hk=>by
    cases hw:ws[k]? with
    | none=>unfold bY;rw [hw]
    | some y=>
     rw [gM hw] at hk ⊢;by_cases e:y.1=o
     ·rw [e,fo] at hk;cases hk
     ·rw [qA e];exact hk
   let N:=cj P K
   have nb:∀ i,N.testBit i=(decide (i < K) && P i):=fz P K;have nS:∀ w i,(s w).testBit i=true->N.testBit i=false:=λw i h=>by
    have:=(s4 w i h).2;rw [nb];simp only [P,this,yH,yt]
   have Nl:N < 2 ^ K:=Nat.lt_pow_two_of_testBit _ λi hi=>by rw [nb];simp;omega
   have so:s o ||| N < 2 ^ K:=Nat.or_lt_two_pow (s1 o) Nl;have d2:s g &&& (s o ||| N)=0:=PL λi hi=>by
    rw [zx,nS g i hi];cases e:(s o).testBit i with
    | false=>rfl
    | true=>exact absurd (s3 g o i hi e) go
   have gl:s g ||| (s o ||| N) < 2 ^ K:=Nat.or_lt_two_pow (s1 g) so;have q1:=F.give m g o t l (s g) (s o ||| N) d2 gl;have q2:=vz F (s1 o) hP (λk hk=>by
    cases e:(s o).testBit k with
    | false=>rfl
    | true=>
     have:=(s4 o k e).2;simp only [P,this,yH] at hk;cases hk) K (zF _)
   have q2':V (m + 1) o (s o ||| N)<=V (m + 1) o (s o):=q2;have q3:=kp g gW _ gl;refine ⟨λw=>if w=g then s g ||| (s o ||| N) else if w=o then 0 else s w,λw=>?_,λw hw=>?_,λw w' k h1 h2=>?_,λw k hk=>?_,λk hk hf=>?_,?_⟩
   ·simp only;split
    ·exact gl
    ·split
     ·exact ym K
     ·exact s1 w
   ·by_cases e1:w=g
    ·rw [e1,hx];exact λz=>nomatch z
    ·simp only [if_neg e1] at hw;by_cases e2:w=o
     ·rw [if_pos e2] at hw;exact absurd rfl hw
     ·rw [if_neg e2] at hw;have:=s2 w hw;rwa [qA e2] at this
   ·have get:∀ u,(if u=g then s g ||| (s o ||| N) else if u=o then 0 else s u).testBit k=true->(u=g/\((s g).testBit k=true\/(s o).testBit k=true\/N.testBit k=true))\/(u≠g/\u≠o/\(s u).testBit k=true):=λu hu=>by
     by_cases e1:u=g
     ·rw [if_pos e1,zx,zx,yg,yg] at hu;exact .inl ⟨e1,hu⟩
     ·rw [if_neg e1] at hu;by_cases e2:u=o
      ·rw [if_pos e2,yL] at hu;cases hu
      ·rw [if_neg e2] at hu;exact .inr ⟨e1,e2,hu⟩
    rcases get w h1 with ⟨a1,b1⟩ | ⟨a1,c1,b1⟩ <;> rcases get w' h2 with ⟨a2,b2⟩ | ⟨a2,c2,b2⟩
    ·rw [a1,a2]
    ·rcases b1 with b1 | b1 | b1
     ·exact absurd (s3 _ _ _ b2 b1) a2
     ·exact absurd (s3 _ _ _ b2 b1) c2
     ·rw [nS _ _ b2] at b1;cases b1
    ·rcases b2 with b2 | b2 | b2
     ·exact absurd (s3 _ _ _ b1 b2) a1
     ·exact absurd (s3 _ _ _ b1 b2) c1
     ·rw [nS _ _ b1] at b2;cases b2
    ·exact s3 _ _ _ b1 b2
   ·dsimp only at hk;have low:∀ u,(s u).testBit k=true->k < K/\bY f ws k=false:=λu hu=>by
     refine ⟨(s4 u k hu).1,?_⟩;cases e:bY f ws k with
     | false=>rfl
     | true=>have:=(s4 u k hu).2;rw [hold k e] at this;cases this
    by_cases e1:w=g
    ·rw [if_pos e1,zx,zx,yg,yg] at hk;rcases hk with h | h | h
     ·exact low _ h
     ·exact low _ h
     ·rw [nb] at h;simp only [P,zc,decide_eq_true_eq,Bool.not_eq_true'] at h;exact ⟨h.1,h.2.2⟩
    ·rw [if_neg e1] at hk;by_cases e2:w=o
     ·rw [if_pos e2,yL] at hk;cases hk
     ·rw [if_neg e2] at hk;exact low _ hk
   ·cases e:bY (put f o (some t)) ws k with
    | true=>
     refine ⟨g,gW,?_⟩;dsimp only;rw [if_pos rfl,zx,zx,nb];simp [P,e,hf,hk]
    | false=>
     obtain ⟨w,hw,hb⟩:=s5 k hk e;by_cases e1:w=g
     ·exact ⟨g,gW,by dsimp only;rw [if_pos rfl,zx,<- e1,hb];rfl⟩
     ·by_cases e2:w=o
      ·exact ⟨g,gW,by dsimp only;rw [if_pos rfl,zx,zx,<- e2,hb];simp⟩
      ·exact ⟨w,hw,by dsimp only;rw [if_neg e1,if_neg e2];exact hb⟩
   ·have z:=Vt (n:=W) (f:=λw=>V j w (if w=g then s g ||| (s o ||| N) else if w=o then 0 else s w)) (g:=λw=>V (m + 1) w (s w)) gW oW go λw hw n1 n2=>by
     simp only [if_neg n1,if_neg n2];exact xT (kp w hw _ (s1 w)) (F.keep m mn w hw _ (s1 w))
    simp only [if_pos,if_neg (Ne.symm go),if_true] at z;have z0:=F.zero j jn o oW;rw [z0] at z
    push_cast
    omega
  ·rw [if_neg fo] at s2 s4 s5;refine ⟨s,s1,s2,s3,s4,s5,xT (Lw λw hw=>xT (kp w hw _ (s1 w)) (F.keep m mn w hw _ (s1 w))) (xT s6 ?_)⟩;rw [zW];omega
theorem vm {ms:List M4}{V:Nat->Nat->Nat->Int}{W K:Nat}{ws:Wq}(F:jL ms V W K ws)(gd:Good W ms)(hK:ws.length=K){v:Nat}{a:Int}{h:Fn}{T:List (Nat×Nat)}(hv:v < W)(tr:kU ms (cnt ms a) (aA v a) T h)(sv:aZ h ws):V (cnt ms a) v (2 ^ K - 1)<=T.length:=by
 have cl:=qY ms a;obtain ⟨s,s1,s2,s3,s4,s5,s6⟩:=RI F gd hK tr cl (λi x hx=>by
  unfold aA at hx;split at hx
  ·rename_i e;rw [e];exact hv
  ·cases hx) sv
 have only:∀ w,w≠v->s w=0:=λw hw=>by
  by_cases e:s w=0
  ·exact e
  ·exact absurd (if_neg hw) (s2 w e)
 let P:Nat->Bool:=λk=>bY (aA v a) ws k
 have hP:∀ k,(P k && decide (k < K))=true->∃ l,ws[k]?=some (v,l)/\cnt ms a<=cnt ms l:=λk hk=>by
  simp only [P,zc,decide_eq_true_eq] at hk;obtain ⟨x,hx⟩:∃ x,ws[k]?=some x:=⟨_,zJ (by omega)⟩;rw [gM hx] at hk;obtain ⟨y,hy,le⟩:=aE.mp hk.1;unfold aA at hy;split at hy
  ·rename_i e;cases hy;exact ⟨x.2,by rw [<-e];exact hx,um gd.fM le⟩
  ·cases hy
 have q:=vz F (s1 v) hP (λk hk=>by
  simp only [P,zc] at hk;cases e:(s v).testBit k with
  | false=>rfl
  | true=>rw [(s4 v k e).2] at hk;cases hk.1) K (zF _)
 have e:s v ||| cj (λk=>P k && decide (k < K)) K=2 ^ K - 1:=by
  refine yD λi=>?_;rw [zx,fz,Nat.testBit_two_pow_sub_one];by_cases hi:i < K
  ·cases hb:bY (aA v a) ws i with
   | true=>simp [P,hb,hi]
   | false=>
    obtain ⟨w,hw,b⟩:=s5 i hi hb;by_cases e:w=v
    ·rw [e] at b;simp [b,hi]
    ·rw [only w e,yL] at b;cases b
  ·have:(s v).testBit i=false:=by
    cases b:(s v).testBit i with
    | false=>rfl
    | true=>exact absurd (s4 v i b).1 hi
   simp [this,hi]
 rw [e] at q;have z:SS W (λw=>V (cnt ms a) w (s w))=V (cnt ms a) v (s v):=by
  rw [<-Vu (n:=W) (j:=v) (x:=V (cnt ms a) v (s v)) hv];refine Qc λw hw=>?_;by_cases e:w=v
  ·subst e;rw [if_pos rfl]
  ·rw [if_neg e,only w e];exact F.zero _ cl w hw
 omega
def eV (ms:List M4)(ws:Wq)(j w i:Nat):Bool:=match ws[i]? with
 | some x=>decide (x.1=w) && decide (j<=cnt ms x.2)
 | none=>false
def aC (ms:List M4)(ws:Wq)(j w s:Nat):Nat:=cj (λi=>s.testBit i && !eV ms ws j w i) ws.length
theorem qQ {ms:List M4}{ws:Wq}{j w s:Nat}(hs:s < 2 ^ ws.length)(i:Nat):(aC ms ws j w s).testBit i=(s.testBit i && !eV ms ws j w i):=by
 unfold aC;rw [fz];by_cases h:i < ws.length
 ·simp [h]
 ·rw [Nat.testBit_lt_two_pow (zU hs (Nat.pow_le_pow_right (by decide) (by omega)))];simp
theorem wo {ms:List M4}{ws:Wq}{j w s:Nat}(hs:s < 2 ^ ws.length):bJ (aC ms ws j w s) s:=λi hi=>by
 rw [qQ hs,zc] at hi;exact hi.1
theorem bJ.lt {p s n:Nat}(h:bJ p s)(hs:s < n):p < n:=yG h.le hs
theorem o5 {ms:List M4}{ws:Wq}{j w s:Nat}(hs:s < 2 ^ ws.length):aC ms ws j w (aC ms ws j w s)=aC ms ws j w s:=
 yD λi=>by
  rw [qQ ((wo hs).lt hs),qQ hs];cases s.testBit i <;> cases eV ms ws j w i <;> rfl
theorem o6 {ms:List M4}{ws:Wq}{j w s t:Nat}(ht:t < 2 ^ ws.length)(h:bJ s t):bJ (aC ms ws j w s) (aC ms ws j w t):=λi hi=>by
 rw [qQ (h.lt ht),zc] at hi;rw [qQ ht,h i hi.1,hi.2];rfl
def eW (ms:List M4)(j:Nat)(F:Option (Nat->Nat->Int))(w s:Nat)(x:Int):Prop:=
 (s=0/\x=0)\/(s≠0/\match F with
  | none=>x=(ms.length:Int) + 1
  | some F=>((∀ o t,¬ bM ms j w o t)/\x=F w s)\/∃ o t,bM ms j w o t/\x<=F w s/\(∀ p,bJ p s->x<=1 + F w p + F o (s - p))/\(x=F w s\/∃ p,bJ p s/\x=1 + F w p + F o (s - p)))
def kG (ms:List M4)(ws:Wq)(j:Nat)(F:Option (Nat->Nat->Int))(w:Nat)(r:Nat->Int):Prop:=
 ∀ s < 2 ^ ws.length,(aC ms ws j w s=s->eW ms j F w s (r s))/\r s=r (aC ms ws j w s)
theorem kL {W:Nat}{ms:List M4}(gd:Good W ms){j g o o':Nat}{t t':Int}(h:bM ms j g o t)(h':bM ms j g o' t'):o=o'/\t=t':=by have i1:=(h.inside gd).2.2;have i2:=(h'.inside gd).2.2;obtain ⟨m,hm,e,c⟩:=h;obtain ⟨m',ig,e',c'⟩:=h';rw [hm] at ig;cases ig;rcases c with ⟨a1,a2⟩ | ⟨a1,a2⟩ <;> rcases c' with ⟨b1,b2⟩ | ⟨b1,b2⟩ <;> first | exact ⟨by omega,by omega⟩ | omega
structure d9 (ms:List M4) (V:Nat->Nat->Nat->Int) (W:Nat) (ws:Wq):Prop where
 last:∀ w < W,kG ms ws ms.length none w (V ms.length w)
 prev:∀ j < ms.length,∀ w < W,kG ms ws j (some (V (j + 1))) w (V j w)
section
variable {ms:List M4}{V:Nat->Nat->Nat->Int}{W:Nat}{ws:Wq}
theorem d9.row (D:d9 ms V W ws){j w s:Nat}(hj:j<=ms.length)(hw:w < W)(hs:s < 2 ^ ws.length):∃ F,(∀ G,F=some G->j < ms.length/\G=V (j + 1))/\(F=none->j=ms.length)/\eW ms j F w (aC ms ws j w s) (V j w s):=by
 have os:=(wo (ms:=ms) (j:=j) (w:=w) hs).lt hs;by_cases e:j=ms.length
 ·subst e;refine ⟨none,(λG z=>nomatch z),λ_=>rfl,?_⟩;have:=D.last w hw s hs;rw [this.2];exact (D.last w hw _ os).1 (o5 hs)
 ·refine ⟨some (V (j + 1)),λG z=>⟨by omega,by cases z;rfl⟩,(λz=>nomatch z),?_⟩;have:=D.prev j (by omega) w hw s hs;rw [this.2];exact (D.prev j (by omega) w hw _ os).1 (o5 hs)
theorem d9.nonneg (D:d9 ms V W ws)(gd:Good W ms):∀ d j,j + d=ms.length->∀ w < W,∀ s < 2 ^ ws.length,0<=V j w s:=by
 intro d;induction d with
 | zero=>
  intro j e w hw s hs;obtain ⟨F,hF,hN,l⟩:=D.row (j:=j) (by omega) hw hs;rcases l with ⟨_,l⟩ | ⟨_,l⟩
  ·omega
  ·cases F with
   | none=>simp only at l;omega
   | some G=>have:=(hF G rfl).1;omega
 | succ d ih=>
  intro j e w hw s hs;obtain ⟨F,hF,hN,l⟩:=D.row (j:=j) (by omega) hw hs;have os:=(wo (ms:=ms) (j:=j) (w:=w) hs).lt hs;rcases l with ⟨_,l⟩ | ⟨_,l⟩
  ·omega
  ·cases F with
   | none=>simp only at l;omega
   | some G=>
    obtain ⟨_,rfl⟩:=hF G rfl;have n1:=ih (j + 1) (by omega) w hw _ os;rcases l with ⟨_,l⟩ | ⟨o,t,k,_,_,l | ⟨p,sp,l⟩⟩
    ·omega
    ·omega
    ·have n2:=ih (j + 1) (by omega) w hw p (sp.lt os);have n3:=ih (j + 1) (by omega) o (k.inside gd).2.1 _ (yG (Nat.sub_le _ p) os);omega
theorem d9.mono (D:d9 ms V W ws)(gd:Good W ms):∀ d j,j + d=ms.length->∀ w < W,∀ s t,t < 2 ^ ws.length->bJ s t->V j w s<=V j w t:=by
 intro d;induction d with
 | zero=>
  intro j e w hw s t ht st;have hs:=st.lt ht;obtain ⟨F,hF,hN,l⟩:=D.row (j:=j) (by omega) hw hs;obtain ⟨F',hF',hN',l'⟩:=D.row (j:=j) (by omega) hw ht;have so:=o6 (ms:=ms) (j:=j) (w:=w) ht st;have nn:=D.nonneg gd 0 j e w hw t ht;rcases l with ⟨_,l⟩ | ⟨n0,l⟩
  ·omega
  ·rcases l' with ⟨z,_⟩ | ⟨_,l'⟩
   ·rw [z] at so;exact absurd (Nat.le_zero.mp so.le) n0
   ·cases F with
    | some G=>have:=(hF G rfl).1;omega
    | none=>cases F' with
     | some G=>have:=(hF' G rfl).1;omega
     | none=>simp only at l l';omega
 | succ d ih=>
  intro j e w hw s t ht st;have hs:=st.lt ht;obtain ⟨F,hF,hN,l⟩:=D.row (j:=j) (by omega) hw hs;obtain ⟨F',hF',hN',l'⟩:=D.row (j:=j) (by omega) hw ht;have so:=o6 (ms:=ms) (j:=j) (w:=w) ht st;have nn:=D.nonneg gd (d + 1) j e w hw t ht;have os:=(wo (ms:=ms) (j:=j) (w:=w) hs).lt hs;have ot:=(wo (ms:=ms) (j:=j) (w:=w) ht).lt ht;have up:=ih (j + 1) (by omega);rcases l with ⟨_,l⟩ | ⟨n0,l⟩
  ·omega
  ·rcases l' with ⟨z,_⟩ | ⟨_,l'⟩
   ·rw [z] at so;exact absurd (Nat.le_zero.mp so.le) n0
   ·cases F with
    | none=>have:=hN rfl;omega
    | some G=>cases F' with
     | none=>have:=hN' rfl;omega
     | some G'=>
      obtain ⟨_,rfl⟩:=hF G rfl;obtain ⟨_,rfl⟩:=hF' G' rfl;have u1:=up w hw _ _ ot so;rcases l with ⟨nl,l⟩ | ⟨o,tt,k,l1,l2,_⟩
      ·rcases l' with ⟨_,l'⟩ | ⟨o,tt,k,_⟩
       ·omega
       ·exact absurd k (nl o tt)
      ·rcases l' with ⟨nl,_⟩ | ⟨o',tt',k',_,_,l' | ⟨p,sp,l'⟩⟩
       ·exact absurd k (nl o tt)
       ·omega
       ·obtain ⟨rfl,rfl⟩:=kL gd k k';have pi:bJ (p &&& aC ms ws j w s) (aC ms ws j w s):=λi hi=>by rw [yP,zc] at hi;exact hi.2
        have pp:bJ (p &&& aC ms ws j w s) p:=λi hi=>by rw [yP,zc] at hi;exact hi.1
        have rr:bJ (aC ms ws j w s - (p &&& aC ms ws j w s)) (aC ms ws j w t - p):=λi hi=>by
         rw [(jX pi).2.2,yP] at hi;rw [(jX sp).2.2];cases a1:(aC ms ws j w s).testBit i with
         | false=>rw [a1] at hi;cases hi
         | true=>
          rw [a1] at hi;rw [so i a1];cases a2:p.testBit i with
          | false=>rfl
          | true=>rw [a2] at hi;cases hi
        have v1:=l2 _ pi;have v2:=up w hw _ _ (sp.lt ot) pp;have v3:=up o (k.inside gd).2.1 _ _ (yG (Nat.sub_le _ p) ot) rr;omega
theorem d9.eq (D:d9 ms V W ws){j w s:Nat}(hj:j<=ms.length)(hw:w < W)(hs:s < 2 ^ ws.length):V j w s=V j w (aC ms ws j w s):=by
 by_cases e:j=ms.length
 ·subst e;exact (D.last w hw s hs).2
 ·exact (D.prev j (by omega) w hw s hs).2
theorem d9.Vf (D:d9 ms V W ws)(gd:Good W ms)(UL:∀ x∈ws,x.1 < W):jL ms V W ws.length ws:=by
 have nn:∀ {j w s},j<=ms.length->w < W->s < 2 ^ ws.length->0<=V j w s:=λ{j w s} hj hw hs=>D.nonneg gd (ms.length - j) j (by omega) w hw s hs;have mo:∀ {j w s t},j<=ms.length->w < W->t < 2 ^ ws.length->bJ s t->V j w s<=V j w t:=λ{j w s t} hj hw ht st=>D.mono gd (ms.length - j) j (by omega) w hw s t ht st;refine ⟨λj hj w hw=>?_,λk x hx j hj s hs hb=>?_,λj hj w hw s hs=>?_,λj g o t k a b d lt=>?_⟩
 ·have z:aC ms ws j w 0=0:=nB λi=>by rw [qQ (ym _),yL];rfl
  obtain ⟨F,_,_,l⟩:=D.row hj hw (ym ws.length);rw [z] at l;rcases l with ⟨_,l⟩ | ⟨n0,_⟩
  ·exact l
  ·exact absurd rfl n0
 ·have hw:=UL x (zC hx);have j8:j<=ms.length:=z4 hj (qY _ _);have p2:bJ (2 ^ k) s:=λi hi=>by
   rw [z8] at hi;rw [<-of_decide_eq_true hi];exact hb
  rw [D.eq j8 hw hs,D.eq j8 hw (s:=s - 2 ^ k) (yG (Nat.sub_le _ _) hs)];refine Int.le_of_eq (congrArg _ (yD λi=>?_));rw [qQ hs,qQ (yG (Nat.sub_le _ _) hs),(jX p2).2.2,z8];by_cases e:k=i
  ·subst e;have:eV ms ws j x.1 k=true:=by
    unfold eV;rw [hx];simp only [decide_true,yo];exact decide_eq_true hj
   rw [this];simp
  ·simp [e]
 ·obtain ⟨F,hF,hN,l⟩:=D.row (j:=j) (by omega) hw hs;have os:=wo (ms:=ms) (j:=j) (w:=w) hs;rcases l with ⟨_,l⟩ | ⟨_,l⟩
  ·rw [l];exact nn hj hw hs
  ·cases F with
   | none=>have:=hN rfl;omega
   | some G=>
    obtain ⟨_,rfl⟩:=hF G rfl;have u:=mo (j:=j + 1) hj hw hs os;rcases l with ⟨_,l⟩ | ⟨_,_,_,l,_⟩ <;> omega
 ·obtain ⟨gW,oW,_⟩:=k.inside gd;have jn:j < ms.length:=by obtain ⟨m',hm,_⟩:=k;exact (zD.mp hm).1
  obtain ⟨F,hF,hN,l⟩:=D.row (j:=j) (by omega) gW lt;have al:a < 2 ^ ws.length:=yG Nat.left_le_or lt;have bl:b < 2 ^ ws.length:=yG Nat.right_le_or lt;have os:=wo (ms:=ms) (j:=j) (w:=g) lt;have n1:=nn (j:=j + 1) (by omega) gW al;have n2:=nn (j:=j + 1) (by omega) oW bl;rcases l with ⟨_,l⟩ | ⟨_,l⟩
  ·omega
  ·cases F with
   | none=>have:=hN rfl;omega
   | some G=>
    obtain ⟨_,rfl⟩:=hF G rfl;rcases l with ⟨nl,_⟩ | ⟨o',t',k',_,l,_⟩
    ·exact absurd k (nl o t)
    ·obtain ⟨rfl,rfl⟩:=kL gd k k';have pi:bJ (a &&& aC ms ws j g (a ||| b)) (aC ms ws j g (a ||| b)):=λi hi=>by rw [yP,zc] at hi;exact hi.2
     have pp:bJ (a &&& aC ms ws j g (a ||| b)) a:=λi hi=>by rw [yP,zc] at hi;exact hi.1
     have rr:bJ (aC ms ws j g (a ||| b) - (a &&& aC ms ws j g (a ||| b))) b:=λi hi=>by
      rw [(jX pi).2.2,yP] at hi;cases a1:(aC ms ws j g (a ||| b)).testBit i with
      | false=>rw [a1] at hi;cases hi
      | true=>
       have:=os i a1;rw [a1] at hi;rw [zx] at this;cases a2:a.testBit i with
       | false=>rw [a2] at this;exact this
       | true=>rw [a2] at hi;cases hi
     have v1:=l _ pi;have v2:=mo (j:=j + 1) (by omega) gW al pp;have v3:=mo (j:=j + 1) (by omega) oW bl rr;omega
end
inductive bB (ms:List M4) (v j0:Nat) (G:List (Nat×Nat)):Nat->Nat->Prop
 | root:bB ms v j0 G j0 v
 | keep {j w:Nat}:bB ms v j0 G j w->bB ms v j0 G (j + 1) w
 | give {j g o:Nat}{t:Int}:bB ms v j0 G j g->(j,g)∈G->bM ms j g o t->bB ms v j0 G (j + 1) o
theorem bB.ge {ms:List M4}{v j0 j w:Nat}{G:List (Nat×Nat)}(h:bB ms v j0 G j w):j0<=j:=by
 induction h with
 | root=>exact zF _
 | keep _ ih=>omega
 | give _ _ _ ih=>omega
theorem bB.mono {ms:List M4}{v j0 j w:Nat}{G G':List (Nat×Nat)}(s:∀ x∈G,x∈G')(h:bB ms v j0 G j w):bB ms v j0 G' j w:=by
 induction h with
 | root=>exact .root
 | keep _ ih=>exact .keep ih
 | give _ m l ih=>exact .give ih (s _ m) l
theorem bB.inv {ms:List M4}{v j0 j w:Nat}{G:List (Nat×Nat)}(h:bB ms v j0 G (j + 1) w)(ge:j0<=j):bB ms v j0 G j w\/∃ g t,bB ms v j0 G j g/\(j,g)∈G/\bM ms j g w t:=by
 generalize e:j + 1=i at h;cases h with
 | root=>omega
 | keep k=>obtain rfl:=Nat.succ.inj e;exact .inl k
 | give k m l=>obtain rfl:=Nat.succ.inj e;exact .inr ⟨_,_,k,m,l⟩
def dB (ms:List M4)(v:Nat)(a:Int)(i w:Nat)(x:Int):Prop:=(x=a/\w=v)\/∃ m o,m < i/\bM ms m o w x
theorem dB.mono {ms:List M4}{v:Nat}{a:Int}{i k w:Nat}{x:Int}(h:dB ms v a i w x)(le:i<=k):dB ms v a k w x:=by
 rcases h with h | ⟨m,o,l,k⟩
 ·exact .inl h
 ·exact .inr ⟨m,o,by omega,k⟩
theorem Mw {W:Nat}{ms:List M4}(gd:Good W ms){m m' w o o':Nat}{x t:Int}(h:bM ms m o w x)(h':bM ms m' w o' t)(lt:m < m'):x < t:=by
 obtain ⟨r,hr,e,c⟩:=h;obtain ⟨r',vO,e',c'⟩:=h';have f:=gd.each r (zC hr);have f':=gd.each r' (zC vO);have od:=yE.mp gd.order m m' (zD.mp hr).1 (zD.mp vO).1 lt;rw [(zD.mp hr).2,(zD.mp vO).2] at od;rcases od with od | ⟨_,_,ap⟩
 ·omega
 ·unfold apart at ap;rcases c with ⟨a1,a2⟩ | ⟨a1,a2⟩ <;> rcases c' with ⟨b1,b2⟩ | ⟨b1,b2⟩ <;> omega
theorem dB.lt {W:Nat}{ms:List M4}(gd:Good W ms){v:Nat}{a:Int}{m w o:Nat}{x t:Int}(h:dB ms v a m w x)(ge:cnt ms a<=m)(k:bM ms m w o t):x < t:=by
 rcases h with ⟨rfl,_⟩ | ⟨m',o',l,k'⟩
 ·obtain ⟨r,hr,e,_⟩:=k;have:=fc gd.fM hr (t:=x);rw [e] at this;omega
 ·exact Mw gd k' k l
theorem kU.lower {ms:List M4}{j:Nat}{f h:Fn}{T:List (Nat×Nat)}(tr:kU ms (j + 1) f T h):kU ms j f T h:=by
 cases tr with
 | nil=>exact .nil j f
 | cons hj l hx lt r=>exact .cons (by omega) l hx lt r
theorem Ou {W:Nat}{ms:List M4}(gd:Good W ms){v:Nat}{a:Int}{G:List (Nat×Nat)}:∀ d j (f:Fn),j + d=ms.length->cnt ms a<=j->(∀ w,bB ms v (cnt ms a) G j w->∃ x,f w=some x/\dB ms v a j w x)->(∀ w x,f w=some x->dB ms v a j w x) ->
  ∃ T h,kU ms j f T h/\(∀ x∈T,x∈G)/\(∀ x∈T,j<=x.1)/\(T.Pairwise λx y=>x.1 < y.1)/\(∀ w x,f w=some x->h w=some x)/\(∀ i w,j<=i->i<=ms.length->bB ms v (cnt ms a) G i w->∃ x,h w=some x/\dB ms v a i w x):=by
 intro d;induction d with
 | zero=>
  intro j f e ge hf hE;refine ⟨[],f,.nil j f,(λ_ z=>nomatch z),(λ_ z=>nomatch z),.nil,λ_ _ h=>h,λi w h1 h2 k=>?_⟩;obtain rfl:i=j:=by omega
  exact hf w k
 | succ d ih=>
  intro j f e ge hf hE;obtain ⟨r,hr⟩:∃ r,ms[j]?=some r:=⟨_,zJ (by omega)⟩;have fr:=gd.each r (zC hr)
  -- LK three aeg of this YG
  by_cases gv:∃ g o t,bM ms j g o t/\f g≠none/\f o=none/\(j,g)∈G
  ·obtain ⟨g,o,t,l,fg,fo,mG⟩:=gv;obtain ⟨x,hx⟩:∃ x,f g=some x:=Option.ne_none_iff_exists'.mp fg;have lt:=(hE g x hx).lt gd ge l;have inv:∀ w x,(put f o (some t)) w=some x->dB ms v a (j + 1) w x:=λw x h=>by
    by_cases e:w=o
    ·subst e;rw [qF] at h;cases h;exact .inr ⟨j,g,xE _,l⟩
    ·rw [qA e] at h;exact (hE w x h).mono (yV _)
   obtain ⟨T,h,tr,tG,tj,tp,keep,all⟩:=ih (j + 1) (put f o (some t)) (by omega) (by omega) (λw k=>by
    rcases k.inv ge with k | ⟨g',t',k,m,l'⟩
    ·obtain ⟨x,hx,ex⟩:=hf w k;exact ⟨x,by rw [qA λe=>by rw [e,fo] at hx;cases hx];exact hx,ex.mono (yV _)⟩
    ·obtain ⟨x',hx',_⟩:=hf g' k;by_cases e:w=o
     ·subst e;exact ⟨t,qF,.inr ⟨j,g,xE _,l⟩⟩
     ·-- then w is LK adT itself
      have:w=g:=by
       obtain ⟨m1,h1,_,c1⟩:=l;obtain ⟨m2,h2,_,c2⟩:=l';rw [h1] at h2;cases h2;rcases c1 with ⟨p1,p2⟩ | ⟨p1,p2⟩ <;> rcases c2 with ⟨q1,q2⟩ | ⟨q1,q2⟩ <;> omega
      subst this;exact ⟨x,by rw [qA e];exact hx,(hE w x hx).mono (yV _)⟩) inv
   refine ⟨(j,g)::T,h,.cons (zF _) l hx lt (by rw [if_pos fo];exact tr),?_,?_,?_,λw y hy=>keep w y (by rw [qA λe=>by rw [e,fo] at hy;cases hy];exact hy),λi w h1 h2 k=>?_⟩
   ·intro y hy;rcases zO.mp hy with e | e
    ·rw [e];exact mG
    ·exact tG y e
   ·intro y hy;rcases zO.mp hy with e | e
    ·rw [e];exact zF _
    ·exact Nat.le_of_succ_le (tj y e)
   ·exact .cons (λy hy=>tj y hy) tp
   ·by_cases e:i=j
    ·subst e;obtain ⟨x,hx,ex⟩:=hf w k;exact ⟨x,keep w x (by rw [qA λe=>by rw [e,fo] at hx;cases hx];exact hx),ex⟩
    ·exact all i w (by omega) h2 k
  ·obtain ⟨T,h,tr,tG,tj,tp,keep,all⟩:=ih (j + 1) f (by omega) (by omega) (λw k=>by
    rcases k.inv ge with k | ⟨g',t',k,m,l'⟩
    ·obtain ⟨x,hx,ex⟩:=hf w k;exact ⟨x,hx,ex.mono (yV _)⟩
    ·obtain ⟨x',hx',_⟩:=hf g' k;cases fw:f w with
     | some x=>exact ⟨x,rfl,(hE w x fw).mono (yV _)⟩
     | none=>exact absurd ⟨g',w,t',l',by rw [hx'];exact (λz=>nomatch z),fw,m⟩ gv) (λw x h=>(hE w x h).mono (yV _))
   refine ⟨T,h,tr.lower,tG,λy hy=>Nat.le_of_succ_le (tj y hy),tp,keep,λi w h1 h2 k=>?_⟩;by_cases e:i=j
   ·subst e;obtain ⟨x,hx,ex⟩:=hf w k;exact ⟨x,keep w x hx,ex⟩
   ·exact all i w (by omega) h2 k
theorem Lc {W:Nat}{ms:List M4}(gd:Good W ms):∀ d j (f:Fn),j + d=ms.length->∃ T,kU ms j f T (fwd (ms.drop j) f)/\T.length<=d:=by
 intro d;induction d with
 | zero=>
  intro j f e;rw [List.drop_eq_nil_of_le (by omega)];exact ⟨[],.nil j f,zF _⟩
 | succ d ih=>
  intro j f e;obtain ⟨m,hm⟩:∃ m,ms[j]?=some m:=⟨_,zJ (by omega)⟩;have ed:ms.drop j=m::ms.drop (j + 1):=by
   rw [List.drop_eq_getElem_cons (by omega)];rw [(zD.mp hm).2]
  rw [ed,Ph];have l1:bM ms j m.lo.toNat m.hi.toNat m.t:=⟨m,hm,rfl,.inl ⟨rfl,rfl⟩⟩;have l2:bM ms j m.hi.toNat m.lo.toNat m.t:=⟨m,hm,rfl,.inr ⟨rfl,rfl⟩⟩;have ne:=(l1.inside gd).2.2;by_cases c1:f m.hi.toNat=none/\below (f m.lo.toNat) m.t=true
  ·obtain ⟨y,hy,lt⟩:=aY.mp c1.2;have e1:aO f ⟨m.lo.toNat,m.hi.toNat,m.t⟩=put f m.hi.toNat (some m.t):=if_pos c1;have e2:aO (put f m.hi.toNat (some m.t)) ⟨m.hi.toNat,m.lo.toNat,m.t⟩=put f m.hi.toNat (some m.t):=if_neg λz=>by
    have:=z.1;simp only at this;rw [qA ne,hy] at this;cases this
   rw [e1,e2];obtain ⟨T,tr,le⟩:=ih (j + 1) (put f m.hi.toNat (some m.t)) (by omega);exact ⟨(j,m.lo.toNat)::T,.cons (zF _) l1 hy lt (by rw [if_pos c1.1];exact tr),xY le⟩
  ·have e1:aO f ⟨m.lo.toNat,m.hi.toNat,m.t⟩=f:=if_neg c1;rw [e1];by_cases c2:f m.lo.toNat=none/\below (f m.hi.toNat) m.t=true
   ·obtain ⟨y,hy,lt⟩:=aY.mp c2.2;have e2:aO f ⟨m.hi.toNat,m.lo.toNat,m.t⟩=put f m.lo.toNat (some m.t):=if_pos c2;rw [e2];obtain ⟨T,tr,le⟩:=ih (j + 1) (put f m.lo.toNat (some m.t)) (by omega);exact ⟨(j,m.hi.toNat)::T,.cons (zF _) l2 hy lt (by rw [if_pos c2.1];exact tr),xY le⟩
   ·have e2:aO f ⟨m.hi.toNat,m.lo.toNat,m.t⟩=f:=if_neg c2;rw [e2];obtain ⟨T,tr,le⟩:=ih (j + 1) f (by omega);exact ⟨T,tr.lower,by omega⟩
theorem kU.since {W:Nat}{ms:List M4}(gd:Good W ms){v:Nat}{a:Int}{h:Fn}{T:List (Nat×Nat)}(tr:kU ms 0 (aA v a) T h):kU ms (cnt ms a) (aA v a) T h:=by
 generalize ef:aA v a=f at tr ⊢;cases tr with
 | nil=>exact .nil _ _
 | @cons _ m g o t x _ _ T hj l hx lt r=>
  refine .cons ?_ l hx lt r;rw [<-ef] at hx;unfold aA at hx;split at hx
  ·cases hx;obtain ⟨m',hm,e,_⟩:=l;have:=fc gd.fM hm (t:=a);rw [e] at this;omega
  ·cases hx
theorem QL {ms:List M4}{V:Nat->Nat->Nat->Int}{W:Nat}{ws:Wq}(F:jL ms V W ws.length ws)(gd:Good W ms){v:Nat}{a:Int}(hv:v < W)(sv:aZ (fwd ms (aA v a)) ws):V (cnt ms a) v (2 ^ ws.length - 1)<=ms.length:=by obtain ⟨T,tr,le⟩:=Lc gd ms.length 0 (aA v a) (by omega);rw [List.drop_zero] at tr;have:=vm F gd rfl hv (tr.since gd) sv;omega
theorem vq {α:Type}[DecidableEq α]:∀ {T G:List α},T.Nodup->(∀ x∈T,x∈G)->G.length<=T.length->T.Perm G
 | [],G,_,_,l=>by
  have:G=[]:=List.eq_nil_of_length_eq_zero (Nat.le_zero.mp l);rw [this]
 | x::T,G,nd,s,l=>by
  rw [yl] at nd;have mx:=s x (.head _);have le:=List.length_erase_of_mem mx;have pos:0 < G.length:=List.length_pos_of_mem mx;refine ((vq (T:=T) (G:=G.erase x) nd.2 (λy hy=>?_) (by rw [zW] at l;omega)).cons x).trans (List.perm_cons_erase mx).symm;exact (List.mem_erase_of_ne λe=>nd.1 (by rw [<-e];exact hy)).mpr (s y (.tail _ hy))
theorem Tw {ms:List M4}{V:Nat->Nat->Nat->Int}{W:Nat}{ws:Wq}(F:jL ms V W ws.length ws)(gd:Good W ms){v:Nat}{a:Int}(hv:v < W){G:List (Nat×Nat)}(eG:(G.length:Int)=V (cnt ms a) v (2 ^ ws.length - 1))(sG:∀ (k:Nat) (x:Nat×Int),ws[k]?=some x->∃ j,j<=cnt ms x.2/\bB ms v (cnt ms a) G j x.1)(own:∀ x∈ws,x.1=v->a<=x.2) :
  ∃ T h,kU ms (cnt ms a) (aA v a) T h/\aZ h ws/\(T.length:Int)=V (cnt ms a) v (2 ^ ws.length - 1)/\T.Perm G/\T.Pairwise λx y=>x.1 < y.1:=by
 have cl:=qY ms a;obtain ⟨T,h,tr,tG,_,tp,_,all⟩:=Ou gd (v:=v) (a:=a) (G:=G) (ms.length - cnt ms a) (cnt ms a) (aA v a) (by omega) (zF _) (λw k=>by
  have:w=v:=by
   generalize e:cnt ms a=i at k;have k':=k;cases k with
   | root=>rfl
   | keep q=>have:=q.ge;omega
   | give q=>have:=q.ge;omega
  subst this;exact ⟨a,if_pos rfl,.inl ⟨rfl,rfl⟩⟩) (λw x hx=>by
   unfold aA at hx;split at hx
   ·rename_i e;cases hx;exact .inl ⟨rfl,e⟩
   ·cases hx)
 have sv:aZ h ws:=λk x hx=>by
  obtain ⟨j,hj,hh⟩:=sG k x hx;obtain ⟨y,hy,ey⟩:=all j x.1 hh.ge (z4 hj (qY _ _)) hh;rw [hy];refine aE.mpr ⟨y,rfl,?_⟩;rcases ey with ⟨rfl,e⟩ | ⟨m,o,lt,l⟩
  ·exact own x (zC hx) e
  ·obtain ⟨m',hm,e,_⟩:=l;have:=(fc gd.fM hm (t:=x.2)).mp (by omega);omega
 have nd:T.Nodup:=tp.imp λl e=>by rw [e] at l;exact absurd l (z6 _)
 have lo:=vm F gd rfl hv tr sv;have pm:=vq nd tG (by omega);exact ⟨T,h,tr,sv,by rw [pm.length_eq];exact eG,pm,tp⟩
abbrev f6:=Nat×Nat×Nat
structure bO (ms:List M4) (V:Nat->Nat->Nat->Int) (W:Nat) (ws:Wq) (v:Nat) (a:Int) (G:List (Nat×Nat)) (ps:List f6):Prop where
 p:∀ x∈ps,x.1<=ms.length/\x.2.1 < W/\x.2.2 < 2 ^ ws.length/\bB ms v (cnt ms a) G x.1 x.2.1
 g:∀ x∈G,x.1 < ms.length/\x.2 < W
 c:(G.length:Int) + (ps.map λx=>V x.1 x.2.1 x.2.2).sum=V (cnt ms a) v (2 ^ ws.length - 1)
 s:∀ (k:Nat) (x:Nat×Int),ws[k]?=some x->(∃ y∈ps,y.2.2.testBit k=true)\/∃ j,j<=cnt ms x.2/\bB ms v (cnt ms a) G j x.1
def gH (n:Nat)(ps:List f6):Nat:=(ps.map λx=>3 ^ (n - x.1)).sum
theorem jj (n:Nat)(ps:List f6)(x:f6):gH n (ps++[x])=gH n ps + 3 ^ (n - x.1):=by unfold gH;rw [zH,yO];simp
section
variable {ms:List M4}{V:Nat->Nat->Nat->Int}{W:Nat}{ws:Wq}{v:Nat}{a:Int}{G:List (Nat×Nat)}{ps:List f6}{j w s:Nat}
theorem bO.start (hv:v < W):bO ms V W ws v a [] [(cnt ms a,v,2 ^ ws.length - 1)]:=by
 refine ⟨λx hx=>?_,(λ_ z=>nomatch z),?_,λk x hx=>.inl ⟨_,.head _,?_⟩⟩
 ·cases zK.mp hx;have:=ym ws.length;exact ⟨qY _ _,hv,by show _ - 1 < _;omega,.root⟩
 ·simp
 ·show (2 ^ ws.length - 1).testBit k=true;rw [Nat.testBit_two_pow_sub_one];exact decide_eq_true (zD.mp hx).1
theorem bO.kJ (D:d9 ms V W ws)(gd:Good W ms)(e:bO ms V W ws v a G (ps++[(j,w,s)])):0<=(ps.map λx=>V x.1 x.2.1 x.2.2).sum:=by
 have:∀ qs:List f6,(∀ x∈qs,x.1<=ms.length/\x.2.1 < W/\x.2.2 < 2 ^ ws.length)->0<=(qs.map λx=>V x.1 x.2.1 x.2.2).sum:=λqs=>by
  induction qs with
  | nil=>intro _;exact zl _
  | cons x qs ih=>
   intro h;obtain ⟨h1,h2,h3⟩:=h x (.head _);have:=D.nonneg gd (ms.length - x.1) x.1 (by omega) x.2.1 h2 x.2.2 h3;have:=ih λy hy=>h y (.tail _ hy);rw [zd,xN];omega
 exact this ps λx hx=>by
  have:=e.p x (zT _ hx);exact ⟨this.1,this.2.1,this.2.2.1⟩
theorem bO.last (e:bO ms V W ws v a G (ps++[(j,w,s)])):j<=ms.length/\w < W/\s < 2 ^ ws.length/\bB ms v (cnt ms a) G j w:=e.p (j,w,s) (zE _ (.head _))
theorem bO.sum (e:bO ms V W ws v a G (ps++[(j,w,s)])):(G.length:Int) + (ps.map λx=>V x.1 x.2.1 x.2.2).sum + V j w s=V (cnt ms a) v (2 ^ ws.length - 1):=by have:=e.c;rw [zH,yO] at this;simp only [zd,yF,xN,xU] at this;omega
theorem bO.bits (e:bO ms V W ws v a G (ps++[(j,w,s)]))(k:Nat)(x:Nat×Int)(hx:ws[k]?=some x):(∃ y∈ps,y.2.2.testBit k=true)\/(aC ms ws j w s).testBit k=true\/∃ j,j<=cnt ms x.2/\bB ms v (cnt ms a) G j x.1:=by
 rcases e.s k x hx with ⟨y,hy,b⟩ | h
 ·rcases zX.mp hy with m | m
  ·exact .inl ⟨y,m,b⟩
  ·cases zK.mp m;rw [qQ e.last.2.2.1];cases d:eV ms ws j w k with
   | false=>right;left;simp only at b;rw [b];rfl
   | true=>
    right;right;unfold eV at d;rw [hx] at d;simp only [zc,decide_eq_true_eq] at d;exact ⟨j,d.2,by rw [d.1];exact e.last.2.2.2⟩
 ·exact .inr (.inr h)
theorem bO.drop (D:d9 ms V W ws)(F:jL ms V W ws.length ws)(e:bO ms V W ws v a G (ps++[(j,w,s)]))(z:aC ms ws j w s=0):bO ms V W ws v a G ps:=by
 obtain ⟨l1,l2,l3,l4⟩:=e.last;have es:=e.sum;rw [D.eq l1 l2 l3,z,F.zero j l1 w l2] at es;refine ⟨λx hx=>e.p x (zT _ hx),e.g,by omega,λk x hx=>?_⟩;rcases e.bits k x hx with h | h | h
 ·exact .inl h
 ·rw [z,yL] at h;cases h
 ·exact .inr h
theorem bO.go (D:d9 ms V W ws)(e:bO ms V W ws v a G (ps++[(j,w,s)]))(lt:j < ms.length)(z:V j w (aC ms ws j w s)=V (j + 1) w (aC ms ws j w s)):bO ms V W ws v a G (ps++[(j + 1,w,aC ms ws j w s)]):=by
 obtain ⟨l1,l2,l3,l4⟩:=e.last;have es:=e.sum;rw [D.eq l1 l2 l3,z] at es;have os:=(wo (ms:=ms) (j:=j) (w:=w) l3).lt l3;refine ⟨λx hx=>?_,e.g,?_,λk x hx=>?_⟩
 ·rcases zX.mp hx with m | m
  ·exact e.p x (zT _ m)
  ·cases zK.mp m;exact ⟨lt,l2,os,.keep l4⟩
 ·rw [zH,yO];simp only [zd,yF,xN,xU];omega
 ·rcases e.bits k x hx with ⟨y,hy,h⟩ | h | h
  ·exact .inl ⟨y,zT _ hy,h⟩
  ·exact .inl ⟨_,zE _ (.head _),h⟩
  ·exact .inr h
theorem bO.give (D:d9 ms V W ws)(gd:Good W ms)(e:bO ms V W ws v a G (ps++[(j,w,s)])){o p:Nat}{t:Int}(l:bM ms j w o t)(sp:bJ p (aC ms ws j w s))(z:V j w (aC ms ws j w s)=1 + V (j + 1) w p + V (j + 1) o (aC ms ws j w s - p)):bO ms V W ws v a (G++[(j,w)]) (ps++[(j + 1,w,p)]++[(j + 1,o,aC ms ws j w s - p)]):=by
 obtain ⟨l1,l2,l3,l4⟩:=e.last;have es:=e.sum;rw [D.eq l1 l2 l3,z] at es;have lt:j < ms.length:=by obtain ⟨m',hm,_⟩:=l;exact (zD.mp hm).1
 have os:=(wo (ms:=ms) (j:=j) (w:=w) l3).lt l3;have up:∀ x∈G,x∈G++[(j,w)]:=λx hx=>zT _ hx;have hj:=l4.mono up;refine ⟨λx hx=>?_,λx hx=>?_,?_,λk x hx=>?_⟩
 ·rcases zX.mp hx with m | m
  ·rcases zX.mp m with m | m
   ·have:=e.p x (zT _ m);exact ⟨this.1,this.2.1,this.2.2.1,this.2.2.2.mono up⟩
   ·cases zK.mp m;exact ⟨lt,l2,sp.lt os,.keep hj⟩
  ·cases zK.mp m;exact ⟨lt,(l.inside gd).2.1,yG (Nat.sub_le _ _) os,.give hj (zE _ (.head _)) l⟩
 ·rcases zX.mp hx with m | m
  ·exact e.g x m
  ·cases zK.mp m;exact ⟨lt,l2⟩
 ·rw [zH,zH,yO,yO,zN];simp only [zd,yF,xN,xU,zW,yJ]
  push_cast
  omega
 ·rcases e.bits k x hx with ⟨y,hy,h⟩ | h | ⟨i,h1,h2⟩
  ·exact .inl ⟨y,zT _ (zT _ hy),h⟩
  ·cases b:p.testBit k with
   | true=>exact .inl ⟨_,zT _ (zE _ (.head _)),b⟩
   | false=>
    refine .inl ⟨_,zE _ (.head _),?_⟩;show (aC ms ws j w s - p).testBit k=true;rw [(jX sp).2.2,h,b];rfl
  ·exact .inr ⟨i,h1,h2.mono up⟩
theorem bO.Rx (D:d9 ms V W ws)(gd:Good W ms)(e:bO ms V W ws v a G (ps++[(j,w,s)]))(C:V (cnt ms a) v (2 ^ ws.length - 1)<=ms.length)(z:aC ms ws j w s≠0):j < ms.length:=by
 obtain ⟨l1,l2,l3,l4⟩:=e.last;have es:=e.sum;have nn:=e.kJ D gd;by_cases q:j=ms.length
 ·exfalso;obtain ⟨F,hF,_,l⟩:=D.row l1 l2 l3;rcases l with ⟨z',_⟩ | ⟨_,l⟩
  ·exact z z'
  ·cases F with
   | some H=>have:=(hF H rfl).1;omega
   | none=>simp only at l;omega
 ·omega
end
end Sm
namespace L2
open PySem PySem.Spec PyProof.Rows PySem.W aQ
section
variable {X:Cx}{ah:List (Addr×Obj)}{σ:St} {H0:Hp}{A:Around}{R:Result->Shared->Prop}{l S Ia:Addr}{fa:Addr}{ps:List (Addr×List Int)}{kf:List Int->Int}
theorem gU.to {H H':Hp}{b:Addr}(h:gU X ah H b)(n:H' b=none):gU X ah H' b:=⟨n,h.2⟩
theorem Mr (hh:A.in1.handled=none)(hl:H0 l=some (.lst (ps.map λa=>V.ref a.1)))(U1:S≠Ia)(hz:ps.length<=sizeLine)
  (turn:∀ (eO:List (Addr×Obj)) (a:Addr) (r:List Int) (s':Shared) (H':Hp),(∀ p∈ah,p∈eO)->(a,r)∈ps->Inv X eO σ H' s'->(∀ b u,H0 b=some u->H' b=some u) ->
   wpAny (model X.prog X.w) A.in1 (call (.ref fa) [.ref a]) (EP X eO σ λv VA=>v=.int (kf r)/\au H' VA) (λ_ _=>False) s')
  (q:∀ a s' H',a∈ps->(∀ b∈ps,kf a.2<=kf b.2)->Inv X ah σ H' s'->(∀ b u,H0 b=some u->H' b=some u)->R (.ok (.ret (.ref a.1))) s') :
  ∀ (r j i:Nat) (s:Shared) (H:Hp) (a:Addr×List Int) (tb:Tok) (c:Nat),ps.length - (j + 1)=r->j + 1<=ps.length->Inv X ah σ H s->(∀ b u,H0 b=some u->H b=some u)->gU X ah H S->gU X ah H Ia ->
   s.heap.get? S=some (seqObj "list" #[.ref a.1,.int (kf a.2) tb] c)->s.heap.IsListIter Ia l (j + 1)->ps[i]?=some a->i<=j->(∀ j' b,j'<=j->ps[j']?=some b->kf a.2<=kf b.2) ->
   codeAny (model X.prog X.w) A (.builtin "min.loop" ⟨[.ref Ia,.ref fa,.ref S],[]⟩) R s:=by
 have tZ:(toString "min" ++ toString ".loop" : String) = "min.loop" := by decide
 intro r;induction r with
 | zero=>
  intro j i s H a tb c hr hj I ext fS fI hS hit ha t6 best;have hin:j + 1=ps.length:=by omega
  obtain ⟨ay,rv,p,_⟩:=I.list (aH.of (ext _ _ hl));have li:=rv.length;rw [zA] at li;refine codeAny_builtin PySem.F.entry_min_loop ?_;rw [Around.under_plainId yT _];show wpAny _ A.in1 (seqItems? (.ref S) >>= _) _ _ _;refine wpAny_bind (wpAny_seqItems hS rfl ?_);show wpAny _ A.in1 (tryCatch (pyNext (.ref Ia)) _ >>= _) _ _ _;refine wpAny_bind (wpAny_tryCatch (wpAny_pyNext_list_end hh hit p.isList (by simp;omega) λh' eb=>?_));have I1:Inv X ah σ H { s with heap:=h' }:=I.turned (t':=s.toks) (λb o hb e=>eb b o hb e) fI.1 fI.2.1 fI.2.2.2.1 fI.2.2.2.2.1 fI.2.2.2.2.2;have U3:=eb S _ U1 hS;show wpAny _ A.in1 (updateSeq S (λ_=>#[]) >>= _) _ _ _;refine wpAny_bind ?_;refine wpAny_updateSeq U3 rfl (wpAny_bind (wpAny_letGo (wpAny_pure ?_)));have I2:Inv X ah σ H { s with heap:=h'.update S (Obj.mapSeq λ_=>(#[]:Array Value)) }:=I1.turned (t':=s.toks) (λb o hb e=>(Heap.get?_update_other _ _ (Ne.symm hb)).trans e) fS.1 fS.2.1 fS.2.2.2.1 fS.2.2.2.2.1 fS.2.2.2.2.2;refine q a _ H (zC ha) (λb hb=>?_) I2 ext;obtain ⟨j',j8⟩:=yB.mp hb;exact best j' b (by have:=(zD.mp j8).1;omega) j8
 | succ r ih=>
  intro j i s H a tb c hr hj I ext fS fI hS hit ha t6 best;have cA:j + 1 < ps.length:=by omega
  obtain ⟨a',XT⟩:∃ a',ps[j + 1]?=some a':=⟨_,zJ cA⟩;obtain ⟨ay,rv,p,_⟩:=I.list (aH.of (ext _ _ hl));obtain ⟨u,hu,ru⟩:=rv.get (i:=j + 1) (by rw [zI,XT];rfl);cases ru;refine codeAny_builtin PySem.F.entry_min_loop ?_;rw [Around.under_plainId yT _];show wpAny _ A.in1 (seqItems? (.ref S) >>= _) _ _ _;refine wpAny_bind (wpAny_seqItems hS rfl ?_);show wpAny _ A.in1 (tryCatch (pyNext (.ref Ia)) _ >>= _) _ _ _;refine wpAny_bind (wpAny_tryCatch (wpAny_pyNext_list_item hit p.isList (x:=.ref a'.1) (by simpa using hu) λh' uX sb=>?_));have I1:Inv X ah σ H { s with heap:=h' }:=I.turned (t':=s.toks) (λb o hb e=>(sb.2 b hb).trans e) fI.1 fI.2.1 fI.2.2.2.1 fI.2.2.2.2.1 fI.2.2.2.2.2;have U3:=(sb.2 S U1).trans hS;obtain ⟨oI,hoI,UP,VY⟩:=id uX;have I2:Inv X ((S,seqObj "list" #[.ref a.1,.int (kf a.2) tb] c)::(Ia,oI)::ah) σ H { s with heap:=h' }:=I1.bP λx hx=>by
   rcases zO.mp hx with rfl | hx
   ·exact ⟨U3,fS.1,fS.2.1,fS.2.2.1,by intro v z;cases z⟩
   ·rcases zO.mp hx with rfl | hx
    ·exact ⟨hoI,fI.1,fI.2.1,fI.2.2.1,by intro v z;rw [VY] at z;cases z⟩
    ·exact I1.pin x (zE _ hx)
  show wpAny _ A.in1 (tryCatch (holding [.ref a'.1] (call (.ref fa) [.ref a'.1])) _ >>= _) _ _ _;refine wpAny_bind (wpAny_tryCatch (wpAny_holding (wpAny_mono (turn _ a'.1 a'.2 _ H (λx hx=>.tail _ (.tail _ hx)) (zC XT) I2 ext) (λx kI he=>?_) λ_ _ hF=>hF.elim)));obtain ⟨v',H2,J2,Sy,rfl,sm⟩:=he;obtain ⟨t2,rfl⟩:=Sy;have pS:=J2.pin (S,seqObj "list" #[.ref a.1,.int (kf a.2) tb] c) (zE _ (.head _));have pI:=J2.pin (Ia,oI) (zE _ (.tail _ (.head _)));have J3:Inv X ah σ H2 kI:=J2.bP λx hx=>J2.pin x (zE _ (.tail _ (.tail _ hx)));have Ld:=fS.to (H':=H2) pS.2.1;have Y7:=fI.to (H':=H2) pI.2.1;have ext2:∀ b u,H0 b=some u->H2 b=some u:=λb u e=>sm _ _ (ext b u e);have abp:kI.heap.IsListIter Ia l (j + 1 + 1):=⟨oI,pI.1,UP,VY⟩;show wpAny _ A.in1 (tryCatch (holding [.ref a'.1,.int (kf a'.2) t2] (richCompare .Lt (.int (kf a'.2) t2) (.int (kf a.2) tb) >>= _)) _ >>= _) _ _ _;refine wpAny_bind (wpAny_tryCatch (wpAny_holding (wpAny_bind (CmpOf.ints_lt (prog:=X.prog) (w:=X.w) (A:=A.in1) (P:=λi v=>∃ t,v=.int ((λn=>if n=0 then kf a'.2 else kf a.2) i) t) (λn=>if n=0 then kf a'.2 else kf a.2) (λi v h=>h) 0 1 _ _ _ _ _ ⟨t2,rfl⟩ ⟨tb,rfl⟩ ?_))));refine wpAny_bind (wpAny_holding (wpAny_truthy_bool ?_));refine wpAny_bind (wpAny_letGo (wpAny_pure ?_));by_cases iZ:kf a'.2 < kf a.2
  ·have s1:=Heap.SameBut.update kI.heap S (Obj.mapSeq λ_=>#[.ref a'.1,.int (kf a'.2) t2]);obtain ⟨c2,SX⟩:∃ c2,(kI.heap.update S (Obj.mapSeq λ_=>#[.ref a'.1,.int (kf a'.2) t2])).get? S=some (seqObj "list" #[.ref a'.1,.int (kf a'.2) t2] c2):=⟨_,get?_update_seq pS.1 λ_=>#[.ref a'.1,.int (kf a'.2) t2]⟩;have hd:decide ((if (0:Nat)=0 then kf a'.2 else kf a.2) < (if (1:Nat)=0 then kf a'.2 else kf a.2))=true:=decide_eq_true (by simpa using iZ);simp only [if_true,Nat.one_ne_zero,if_false,iZ,decide_true];refine wpAny_bind ?_;refine wpAny_updateSeq pS.1 rfl (wpAny_bind (wpAny_letGo ?_));rw [tZ];have J4:Inv X ah σ H2 { kI with heap:=kI.heap.update S (Obj.mapSeq λ_=>#[.ref a'.1,.int (kf a'.2) t2]) }:=J3.turned (t':=kI.toks) (λb o hb e=>(Heap.get?_update_other _ _ (Ne.symm hb)).trans e) Ld.1 Ld.2.1 Ld.2.2.2.1 Ld.2.2.2.2.1 Ld.2.2.2.2.2;refine wpAny_pure ⟨plainId_quiet yT _,ih (j + 1) (j + 1) _ H2 a' t2 c2 (by omega) cA J4 ext2 Ld Y7 SX ⟨oI,(s1.2 Ia U1.symm).trans pI.1,UP,VY⟩ XT (zF _) λj' b j8 hb=>?_⟩;by_cases e:j'=j + 1
   ·subst e;rw [XT] at hb;cases hb;exact zl _
   ·have:=best j' b (by omega) hb;omega
  ·have hd:decide ((if (0:Nat)=0 then kf a'.2 else kf a.2) < (if (1:Nat)=0 then kf a'.2 else kf a.2))=false:=decide_eq_false (by simpa using iZ);simp only [if_true,Nat.one_ne_zero,if_false,iZ,decide_false,zn];refine wpAny_bind (wpAny_letGo ?_);rw [tZ];refine wpAny_pure ⟨plainId_quiet yT _,ih (j + 1) i _ H2 a tb c (by omega) cA J3 ext2 Ld Y7 pS.1 abp ha (by omega) λj' b j8 hb=>?_⟩;by_cases e:j'=j + 1
   ·subst e;rw [XT] at hb;cases hb;omega
   ·exact best j' b (by omega) hb
theorem Ms {E:Value->Shared->Prop}{Q:Value->Shared->Prop}{s:Shared}(hh:A.in1.handled=none)(I:Inv X ah σ H0 s)(hl:H0 l=some (.lst (ps.map λa=>V.ref a.1)))(n9:0 < ps.length)(hz:ps.length<=sizeLine)
  (turn:∀ (eO:List (Addr×Obj)) (a:Addr) (r:List Int) (s':Shared) (H':Hp),(∀ p∈ah,p∈eO)->(a,r)∈ps->Inv X eO σ H' s'->(∀ b u,H0 b=some u->H' b=some u) ->
   wpAny (model X.prog X.w) A.in1 (call (.ref fa) [.ref a]) (EP X eO σ λv VA=>v=.int (kf r)/\au H' VA) (λ_ _=>False) s')
  (q:∀ a s' H',a∈ps->(∀ b∈ps,kf a.2<=kf b.2)->Inv X ah σ H' s'->(∀ b u,H0 b=some u->H' b=some u)->Q (.ref a.1) s') :
  wpAny (model X.prog X.w) A (call (.builtin "min") [.ref l] [(Str.ofString "key", .ref fa)]) Q E s:=by
 have tZ:(toString "min" ++ toString ".loop" : String) = "min.loop" := by decide
 obtain ⟨ay,rv,p,_⟩:=I.list (aH.of hl);obtain ⟨a0,XS⟩:∃ a,ps[0]?=some a:=⟨_,zJ n9⟩;obtain ⟨u,hu,ru⟩:=rv.get (i:=0) (by rw [zI,XS];rfl);cases ru;have li:=rv.length;rw [zA] at li;refine kmk_tree PySem.F.kind_min PySem.F.plain_min PySem.F.entry_min (kmk_min_key _ _) ?_;show wpAny _ A.in1 (Builtin.Builtins.bindParams "min" ["key", "default"] 0 ⟨[],[(Str.ofString "key", .ref fa)]⟩ >>= _) _ _ s;refine wpAny_bind (wpAny_of_eq (show Builtin.Builtins.bindParams "min" ["key", "default"] 0 ⟨[],[(Str.ofString "key", .ref fa)]⟩=pure [some (.ref fa),none] from rfl) ?_);refine wpAny_bind (wpAny_pure ?_);refine wpAny_bind (wpAny_pyIter_list p.isList ?_);refine wpAny_bind (wpAny_newList ?_ (za _));rw [tZ];have hS:(s.heap.push { cls:=.type "list_iterator", data:=.fields #[.ref l,.int 0 0] }).objs.size=s.heap.objs.size + 1:=size_push' ..;refine wpAny_pure ⟨plainId_quiet yT _,?_⟩;have gI:((s.heap.push { cls:=.type "list_iterator", data:=.fields #[.ref l,.int 0 0] }).push (seqObj "list" #[] 0)).get? s.heap.objs.size=some { cls:=.type "list_iterator", data:=.fields #[.ref l,.int 0 0] }:=
  Heap.get?_push_of_some _ (Heap.get?_push_size _ rfl)
 have gS:=Heap.get?_push_size (s.heap.push { cls:=.type "list_iterator", data:=.fields #[.ref l,.int 0 0] }) (o:=seqObj "list" #[] 0) rfl;have fI:=I.oi (b:=s.heap.objs.size) (zF _) I.fresh;have fS:=I.oi (b:=(s.heap.push { cls:=.type "list_iterator", data:=.fields #[.ref l,.int 0 0] }).objs.size) (by rw [hS];exact yV _) (I.aT.fresh (by rw [hS];exact yV _));have U1:(s.heap.push { cls:=.type "list_iterator", data:=.fields #[.ref l,.int 0 0] }).objs.size≠s.heap.objs.size:=by rw [hS];exact yQ (xE _)
 have I0:∀ t',Inv X ah σ H0 { s with heap:=(s.heap.push { cls:=.type "list_iterator", data:=.fields #[.ref l,.int 0 0] }).push (seqObj "list" #[] 0),toks:=t' }:=λt'=>I.kept (t':=t') λb o e=>Heap.get?_push_of_some _ (Heap.get?_push_of_some _ e);generalize (s.heap.push { cls:=.type "list_iterator", data:=.fields #[.ref l,.int 0 0] }).objs.size=S at *;generalize (s.heap.push { cls:=.type "list_iterator", data:=.fields #[.ref l,.int 0 0] }).push (seqObj "list" #[] 0)=h1 at *;generalize s.heap.objs.size=Ia at *;refine codeAny_builtin PySem.F.entry_min_loop ?_;rw [Around.under_plainId yT _];show wpAny _ A.in1 (seqItems? (.ref S) >>= _) _ _ _;refine wpAny_bind (wpAny_seqItems gS rfl ?_);show wpAny _ A.in1 (tryCatch (pyNext (.ref Ia)) _ >>= _) _ _ _;have hIt:h1.IsListIter Ia l 0:=⟨_,gI,rfl,rfl⟩;obtain ⟨its',rv',p',_⟩:=(I0 s.toks).list (aH.of hl);obtain ⟨u',hu',Og⟩:=rv'.get (i:=0) (by rw [zI,XS];rfl);cases Og;refine wpAny_bind (wpAny_tryCatch (wpAny_pyNext_list_item hIt p'.isList (x:=.ref a0.1) (by simpa using hu') λh' uX sb=>?_));have I1:∀ t',Inv X ah σ H0 { s with heap:=h',toks:=t' }:=λt'=>(I0 s.toks).turned (t':=t') (λb o hb e=>(sb.2 b hb).trans e) fI.1 fI.2.1 fI.2.2.2.1 fI.2.2.2.2.1 fI.2.2.2.2.2;have U3:=(sb.2 S U1).trans gS;obtain ⟨oI,hoI,UP,VY⟩:=id uX;have I2:∀ t',Inv X ((S,seqObj "list" #[] 0)::(Ia,oI)::ah) σ H0 { s with heap:=h',toks:=t' }:=λt'=>(I1 t').bP λx hx=>by
  rcases zO.mp hx with rfl | hx
  ·exact ⟨U3,fS.1,fS.2.1,fS.2.2.1,by intro v z;cases z⟩
  ·rcases zO.mp hx with rfl | hx
   ·exact ⟨hoI,fI.1,fI.2.1,fI.2.2.1,by intro v z;rw [VY] at z;cases z⟩
   ·exact (I1 t').pin x (zE _ hx)
 show wpAny _ A.in1 (tryCatch (holding [.ref a0.1] (call (.ref fa) [.ref a0.1])) _ >>= _) _ _ _;refine wpAny_bind (wpAny_tryCatch (wpAny_holding (wpAny_mono (turn _ a0.1 a0.2 _ H0 (λx hx=>.tail _ (.tail _ hx)) (zC XS) (I2 _) λb u e=>e) (λx kI he=>?_) λ_ _ hF=>hF.elim)));obtain ⟨v',H2,J2,Sy,rfl,sm⟩:=he;obtain ⟨t2,rfl⟩:=Sy;have pS:=J2.pin (S,seqObj "list" #[] 0) (zE _ (.head _));have pI:=J2.pin (Ia,oI) (zE _ (.tail _ (.head _)));have J3:Inv X ah σ H2 kI:=J2.bP λx hx=>J2.pin x (zE _ (.tail _ (.tail _ hx)));have Ld:=fS.to (H':=H2) pS.2.1;have Y7:=fI.to (H':=H2) pI.2.1;have s1:=Heap.SameBut.update kI.heap S (Obj.mapSeq λ_=>#[.ref a0.1,.int (kf a0.2) t2]);obtain ⟨c2,SX⟩:∃ c2,(kI.heap.update S (Obj.mapSeq λ_=>#[.ref a0.1,.int (kf a0.2) t2])).get? S=some (seqObj "list" #[.ref a0.1,.int (kf a0.2) t2] c2):=⟨_,get?_update_seq pS.1 λ_=>#[.ref a0.1,.int (kf a0.2) t2]⟩;show wpAny _ A.in1 (updateSeq S (λ_=>#[.ref a0.1,.int (kf a0.2) t2]) >>= _) _ _ _;refine wpAny_bind ?_;refine wpAny_updateSeq pS.1 rfl ?_;rw [tZ];have J4:Inv X ah σ H2 { kI with heap:=kI.heap.update S (Obj.mapSeq λ_=>#[.ref a0.1,.int (kf a0.2) t2]) }:=J3.turned (t':=kI.toks) (λb o hb e=>(Heap.get?_update_other _ _ (Ne.symm hb)).trans e) Ld.1 Ld.2.1 Ld.2.2.2.1 Ld.2.2.2.2.1 Ld.2.2.2.2.2;refine wpAny_pure ⟨plainId_quiet yT _,Mr hh hl U1 hz turn q _ 0 0 _ H2 a0 t2 c2 rfl n9 J4 (λb u e=>sm _ _ e) Ld Y7 SX ⟨oI,(s1.2 Ia U1.symm).trans pI.1,UP,VY⟩ XS (zF _) λj' b j8 hb=>?_⟩;have e:j'=0:=by omega
 subst e;rw [XS] at hb;cases hb;exact zl _
end
structure jJ (ps:List Str) (caps:List Nat) (N:List Str) (sc scope:Scope):Prop where
 kind:scope.kind=.function
 co:scope.isCoroutine=false
 gen:scope.isGenerator=false
 gF:∀ y∈scope.names,y.2≠.cell
 par:∀ x∈ps,scope.names.lookup x=some .local
 fr:∀ y∈scope.names,y.2=.free->sc.names.lookup y.1=some .cell\/sc.names.lookup y.1=some .free
 cap:∀ i∈caps,i < N.length/\scope.names.lookup ((N[i]?).getD Str.empty)=some .free
 nd:ps.Nodup
def Kq (X:Cx)(qual:Str)(scope:Scope)(L f:Addr)(cd:Value):Env:={ scope:=scope,locals:=L,globals:=mainGlobals,cells:=c8 scope.names X.env [],qual:=qual ++ ".<locals>.", func:=some f,code:=cd,frame:=some L,builtins:=builtinsNs }
def PN (X:Cx)(ps:List Str)(caps:List Nat)(qual:Str)(scope:Scope)(f:Addr)(cd:Value)(A:Around)(s:Shared)(H:Hp):Cx:=
 { X with A:=A.deeper (Kq X qual scope s.heap.objs.size f cd),N:=ps++caps.map (λi=>(X.N[i]?).getD Str.empty),cC:=s,uE:=H,env:=Kq X qual scope s.heap.objs.size f cd,outer:=X.stack,stack:=Kq X qual scope s.heap.objs.size f cd::X.stack,ex:=[],fn:=λ_=>false,calm:=true,pn:=[],xe:=λ_ _=>False }
def iU (vs:List V)(caps:List Nat)(σ:St):St:=vs.map some++caps.map λi=>(σ[i]?).join
theorem sd {x:Str}{u:Value}:∀ {ps:List Str}{us:List Value}{i:Nat},ps.Nodup->ps[i]?=some x->us[i]?=some u->(ps.zip us).reverse.lookup x=some u
 | [],_,i,_,h,_=>by simp at h
 | p::ps,[],i,_,_,h=>by simp at h
 | p::ps,v::us,0,nd,h,h'=>by
  obtain rfl:p=x:=Option.some.inj h;obtain rfl:v=u:=Option.some.inj h';rw [List.zip_cons_cons,yz,List.lookup_append];have:(ps.zip us).reverse.lookup p=none:=by
   rw [List.lookup_eq_none_iff];rintro ⟨a,b⟩ hb;have:=(xH (ya.mp hb)).1;have ne:a≠p:=λe=>(yl.mp nd).1 (by rw [<-e];exact this);simpa using Ne.symm ne
  rw [this];simp
 | p::ps,v::us,i + 1,nd,h,h'=>by
  rw [List.zip_cons_cons,yz,List.lookup_append,sd (yl.mp nd).2 h h'];rfl
section
variable {X:Cx}{ah:List (Addr×Obj)}{σ:St}{H:Hp}{s:Shared}
theorem RQ {ps:List Str}{caps:List Nat}{qual:Str}{scope:Scope}{f:Addr}{cd:Value}{A:Around}{us:List Value}{vs:List V}{h1:Heap}{tk:Nat}(I:Inv X ah σ H s)(S:jJ ps caps X.N X.env.scope scope)
  (hh:A.handled=none) (hf:A.frames=some X.stack) (hl:vs.length=ps.length) (r:Vals vs us)
  (R0:h1.Ns s.heap.objs.size λx=>(ps.zip us).reverse.lookup x) (rX:Heap.SameBut s.heap.objs.size (s.heap.push { cls:=.type "frame", data:=.dict #[] }) h1) :
  Inv (PN X ps caps qual scope f cd A s H) [] (iU vs caps σ) H { s with heap:=h1,toks:=tk }:=by
 have keep:∀ b o,s.heap.get? b=some o->h1.get? b=some o:=λb o e=>(rX.2 b (zV (Heap.lt_size e))).trans (Heap.get?_push_of_some _ e);refine ⟨⟨I.ok.mod,S.kind,rfl,rfl,zF _,λx y c h1 h2=>I.ok.inj x y c (wL h1) (wL h2),λx hx=>?_,λx c z _=>absurd (show false=true from z) zM,λ_=>hh,Around.frames_deeper hf,.inr ⟨rfl,rfl⟩,
   λb hb=>absurd (show b∈([]:List Addr) from hb) (by simp),I.bs,z4 I.ok.M9 I.sz,λb _ _ z=>absurd (show b∈([]:List Addr) from z) (by simp),λb hb=>absurd (show b∈([]:List Addr) from hb) (by simp),I.stack,I.lF⟩,
  rfl,I.bare,Un.kept keep,⟨_,R0,λi x v e1 e2 e3=>?_⟩,λx c e=>?_,I.aT.fresh (zF _),λx c e=>I.eU x c (wL e),λp hp=>absurd (show p∈([]:List (Addr×Obj)) from hp) (by simp),I.aT.kept keep,?_⟩
 ·have hx:scope.names.lookup x=some .cell\/scope.names.lookup x=some .free:=hx;rcases hx with hx | hx
  ·exact absurd rfl (S.gF _ (zk hx))
  ·have hm:=zk hx;obtain ⟨c,hc⟩:=I.ok.has x (S.fr _ hm rfl);exact ⟨c,iu hm hc⟩
 ·have Lf:(vs.map some++caps.map λi=>(σ[i]?).join)[i]?=some (some v):=e2;have Lg:(ps++caps.map (λi=>(X.N[i]?).getD Str.empty))[i]?=some x:=e1;by_cases hi:i < ps.length
  ·rw [zi (by simpa [hl] using hi),zI] at Lf;rw [zi hi] at Lg;have hv:vs[i]?=some v:=by
    cases q:vs[i]? with
    | none=>rw [q] at Lf;cases Lf
    | some y=>rw [q] at Lf;cases Lf;rfl
   obtain ⟨u,hu,ru⟩:=r.get hv;have kx:=S.par x (zC Lg);exact ⟨u,ru,.inl ⟨kx,sd S.nd Lg hu⟩⟩
  ·have hi:ps.length<=i:=xQ hi;rw [zZ (by simpa [hl] using hi),zA,hl,zI] at Lf;rw [zZ hi,zI] at Lg;cases ek:caps[i - ps.length]? with
   | none=>rw [ek] at Lg;cases Lg
   | some k=>
    rw [ek] at Lg Lf;have ex:(X.N[k]?).getD Str.empty=x:=Option.some.inj Lg;have ev:(σ[k]?).join=some v:=Option.some.inj Lf;have ev':σ[k]?=some (some v):=by
     cases q:σ[k]? with
     | none=>rw [q] at ev;cases ev
     | some y=>rw [q] at ev;exact congrArg some ev
    obtain ⟨O8,hf'⟩:=S.cap k (zC ek);have eN:X.N[k]?=some x:=by
     rw [zJ O8] at ex ⊢;exact congrArg some ex
    rw [ex] at hf';have hm:=zk hf';have Qy:=S.fr _ hm rfl;obtain ⟨m,_,rZ⟩:=I.loc;obtain ⟨u,ru,lk⟩:=rZ k x v eN ev' (.inr Qy);refine ⟨u,ru,.inr ⟨.inr hf',?_⟩⟩;rcases lk with ⟨kl,_⟩ | ⟨_,c,hc,ob,MH,hd⟩
    ·have RN:X.env.scope.names.lookup x=some .local:=kl;rcases Qy with z | z
     ·have z':X.env.scope.names.lookup x=some .cell:=z;rw [z'] at RN;cases RN
     ·have z':X.env.scope.names.lookup x=some .free:=z;rw [z'] at RN;cases RN
    ·exact ⟨c,iu hm hc,ob,keep c ob MH,hd⟩
 ·obtain ⟨v,ob,MH,hd⟩:=I.cell x c (wL e);exact ⟨v,ob,keep c ob MH,hd⟩
 ·show (iU vs caps σ).length=(ps++caps.map (λi=>(X.N[i]?).getD Str.empty)).length;simp [iU,hl]
theorem OW {c' f:Addr}{k:Nat}{name qual:Str}{params:Arguments}{body:Expr}{scope:Scope}{pm rK:Value}{ps:List Str}{caps:List Nat}{A:Around}{us:List Value}{vs:List V}{Q:VK}(I:Inv X ah σ H s)(S:jJ ps caps X.N X.env.scope scope)(hr:cz (k + 1) A)
  (hf:A.frames=some X.stack) (ho:s.heap.get? f=some (kla_obj name qual params body scope (c8 scope.names X.env []) pm c' rK)) (mV:s.heap.CodeRec (.ref c') qual) (hb:bindArgs (kla_fn name qual params body scope (c8 scope.names X.env []) pm (.ref c') rK) ⟨us,[]⟩=pure (ps.zip us)) (hl:vs.length=ps.length) (r:Vals vs us)
  (dR:∃ t,PE (PN X ps caps qual scope f (.ref c') A s H).o9 body t/\t (iU vs caps σ) H Q) :
  wpAny (model X.prog X.w) A (call (.ref f) us) (EP X ah σ Q) (λ_ _=>False) s:=by
 have lim:s.heap.NoLimit:=I.nolimit;have rZ:∀ y∈ps.zip us,scope.names.lookup y.1=some .local:=λ⟨n,v⟩ hy=>S.par n (xH hy).1;refine wpAny_call (codeAny_mono (R:=λr s'=>match r with | .ok (.ret u)=>EP X ah σ Q u s' | _=>False) (kla_callFunE hr.depth ho rfl S.co S.gen rfl mV ?_) λr s3 Xy=>?_)
 ·rw [hb];refine wpAny_pure ?_;refine PySem.wpAny_newFunctionEnv S.gF rZ (λh1 R0 rX=>?_) S.kind;have keep:∀ b o,s.heap.get? b=some o->h1.get? b=some o:=λb o e=>(rX.2 b (zV (Heap.lt_size e))).trans (Heap.get?_push_of_some _ e);refine ⟨lim.keeps keep,kla_codeExpr ?_⟩;obtain ⟨t,ht,hq⟩:=dR;have J:=RQ (qual:=qual) (f:=f) (cd:=.ref c') (A:=A) (tk:=s.toks + (ps.zip us).length) I S hr.hd hf hl r R0 rX;refine wpAny_mono (ht.o9 [] _ (iU vs caps σ) H _ J hq) (λu s' hs=>?_) λe s' hs=>hs.elim;obtain ⟨v,H',J',rv,q⟩:=hs;exact I.after ⟨v,H',J'.os,J'.bare,J'.base,J'.aT,rv,q⟩
 ·cases r with
  | error e=>exact Xy.elim
  | ok fl=>
   cases fl with
   | ret u=>exact Xy
   | next=>exact False.elim Xy
   | brk=>exact False.elim Xy
   | cont=>exact False.elim Xy
end
end L2
namespace L2
open PySem PySem.Spec PyProof.Rows PySem.W aQ PySem.Calls
def Wo (P:Addr)(tL:Pos)(qual:Str)(caps:List Nat)(te tb:TE):TE:=fun σ H Q=>te σ H λx H1=>∃ l,∃ ps:List (Addr×List Int),∃ kf:List Int->Int,[x]=[V.ref l]/\H1 l=some (.lst (ps.map λa=>V.ref a.1))/\0 < ps.length/\MT P tL qual H1/\(∀ a∈ps,H1 a.1=some (.tup (a.2.map V.int))) /\
 (∀ a∈ps,∀ H',Sm.cX P H1 H'->tb (iU [V.ref a.1] caps σ) H' λv VA=>v=.int (kf a.2)/\au H' VA) /\
 ∀ a H2,a∈ps->(∀ b∈ps,kf a.2<=kf b.2)->Sm.cX P H1 H2->MT P tL qual H2->Q (.ref a.1) H2
section
variable {X:Cx}{e body:Expr}{te tb:TE}{np kp tL pos:Pos}{params:Arguments}{scope:Scope}{P c:Addr}{caps:List Nat}{pn:Str}
theorem Mj (XO:X.calm=true)(hg:Gl X "min")(hm:X.mg "min" = none)(K8:X.env.code=.ref c)(mV:codeHdIn X.K c P=true)(bm:aR X.mg X.base)(UW:defaultsOf params X.env=([],[]))(hr:cz 3 X.A)
  (S:jJ [pn] caps X.N X.env.scope scope) (Pb:∀ nj pm c' rK u,bindArgs (kla_fn "<lambda>" (X.env.qual ++ "<lambda>") params body scope nj pm (.ref c') rK) ⟨[u],[]⟩=pure (List.zip [pn] [u]))
  (dR:∀ f c' A s H,PE (PN X [pn] caps (X.env.qual ++ "<lambda>") scope f (.ref c') A s H).o9 body tb)
  (he:PE X e te) (ns:notStar e=true) :
  PE X (.Call (.Name "min" np) [e] [⟨some "key", .Lambda params body scope tL,kp⟩] pos) (Wo P tL (X.env.qual ++ "<lambda>") caps te tb):=by
 intro ah s σ H Q I h;have ha:PA X [e] (iE te nY):=xb (xf he xl ns);have hh:X.A.handled=none:=I.ok.hd XO;refine wpAny_Call_Name_kw (dP I hg hm PyProof.Rows.boot_min ?_ (by decide) (by decide));refine callWith_kw (aV (ha pos ah s σ H (λvs H1=>∃ l,∃ ps:List (Addr×List Int),∃ kf:List Int->Int,vs=[V.ref l]/\H1 l=some (.lst (ps.map λa=>V.ref a.1))/\0 < ps.length/\MT P tL (X.env.qual ++ "<lambda>") H1/\(∀ a∈ps,H1 a.1=some (.tup (a.2.map V.int))) /\
  (∀ a∈ps,∀ H',Sm.cX P H1 H'->tb (iU [V.ref a.1] caps σ) H' λv VA=>v=.int (kf a.2)/\au H' VA) /\
  ∀ a H2,a∈ps->(∀ b∈ps,kf a.2<=kf b.2)->Sm.cX P H1 H2->MT P tL (X.env.qual ++ "<lambda>") H2->Q (.ref a.1) H2) I h)
  λus s1 ⟨vs,H1,I1,r1,q1⟩=>kws_cons ?_) (by rw [jT ns];rfl) (by rw [jT ns];rfl)
 obtain ⟨l,ps,kf,rfl,hl,n9,mt,rows,hb,q⟩:=q1;obtain ⟨u,rfl,ru⟩:=vals1 r1;cases ru;have V1:closureFor scope X.env=pure (c8 scope.names X.env []):=cP λy hy hf=>I1.ok.has y.1 (S.fr y hy hf);refine OX I1 mt K8 mV bm UW V1 λf c' rK pm H' s' J XQ bt mt'=>kws_nil ?_;have neP:∀ b u,H1 b=some u->(∀ ys,u≠.jM ys)->b≠P:=λb u e n z=>by
  rcases mt with m | ⟨_,m,_⟩ <;> (rw [z,m] at e;cases e;exact n _ rfl)
 have O8:=bt _ _ (neP _ _ hl (by intro ys z;cases z)) hl;obtain ⟨hz,_⟩:=I1.Mt hl;rw [zA] at hz;have abg:(f,kla_obj "<lambda>" (X.env.qual ++ "<lambda>") params body scope (c8 scope.names X.env []) pm c' rK)∈(f,kla_obj "<lambda>" (X.env.qual ++ "<lambda>") params body scope (c8 scope.names X.env []) pm c' rK)::ah:=.head _;refine Ms (kf:=kf) (by first | exact hh | simpa using hh) J O8 n9 hz (λeO a r s2 H2 sub ha J2 ext=>?_) λa s2 H2 ha best J2 ext=>?_
 ·have hf:=J2.pin _ (zE _ (sub _ abg));have hcr:s2.heap.CodeRec (.ref c') (X.env.qual ++ "<lambda>"):=(J2.aT c' _ (ext _ _ XQ)).1;exact OW (k:=1) J2 S hr.in1 J2.R8.in1.frames hf.1 hcr (Pb _ pm c' rK (.ref a)) (vs:=[V.ref a]) rfl (.cons rfl .nil) ⟨tb,dR f c' X.A.in1 s2 H2,hb (a,r) ha H2 λb u n e=>ext b u (bt b u n e)⟩
 ·refine ⟨.ref a.1,H2,J2.bP λp hp=>J2.pin p (zE _ (.tail _ hp)),rfl,q a H2 ha best (λb u n e=>ext b u (bt b u n e)) ?_⟩;rcases mt' with m | ⟨c1,m,m2⟩
  ·exact .inl (ext _ _ m)
  ·exact .inr ⟨c1,ext _ _ m,ext _ _ m2⟩
end
end L2
namespace Sm
open PySem L2
def jq:Str:=(("best_split" : Str) ++ ".<locals>.") ++ "<lambda>"
def qg (K:PySem.W.Frag)(T:Addr)(lp:Pos):Sp:=λvs H Q _=>∃ (a:Addr) (ns:List Int),vs=[.ref a]/\aH K H a (ns.map V.int)/\ns.length<=63/\MT T lp jq H/\∀ H',Q (.bl true) H'
theorem _root_.L2.MT.bR {P:Addr}{pos:Pos}{q:Str}{H H':Hp}(m:MT P pos q H)(s:au H H'):MT P pos q H':=by
 rcases m with m | ⟨c,m,k⟩
 ·exact .inl (s _ _ m)
 ·exact .inr ⟨c,s _ _ m,s _ _ k⟩
theorem _root_.L2.MT.OO {P a:Addr}{pos:Pos}{q:Str}{H:Hp}{xs:List V}(m:MT P pos q H)(k:H a=some (.lst xs)):a≠P:=by rintro rfl;rcases m with m | ⟨c,m,_⟩ <;> (rw [k] at m;cases m)
theorem _root_.L2.MT.vB {P a:Addr}{pos:Pos}{q:Str}{H:Hp}{xs:List V}(m:MT P pos q H)(k:H a=some (.tup xs)):a≠P:=by rintro rfl;rcases m with m | ⟨c,m,_⟩ <;> (rw [k] at m;cases m)
abbrev wq (ws:List (Addr×Nat×Int)):Wq:=ws.map (·.2)
structure uH (H:Hp) (b l:Addr) (aa:List Int) (tr tm:Addr) (ps:List (Addr×M4)) (ws:List (Addr×Nat×Int)):Prop where
 bk:aL H b aa tr tm ps
 gd:Good aa.length (ps.map (·.2))
 r1:1<=aa.length
 jY:aa.length<=12
 wa:jF H l aa.length ws
 w4:ws.length<=4
theorem uH.same {H H':Hp}{b l:Addr}{aa:List Int}{tr tm:Addr}{ps:List (Addr×M4)}{ws:List (Addr×Nat×Int)}(h:uH H b l aa tr tm ps ws)(s:au H H'):uH H' b l aa tr tm ps ws:=
 ⟨h.bk.same s,h.gd,h.r1,h.jY,h.wa.same s,h.w4⟩
def LU:Sp:=λvs H Q _=>∃ b l,∃ j w s:Nat,∃ aa tr tm ps ws,vs=[.ref b,.ref l,.int (j:Int),.int (w:Int),.int (s:Int)]/\uH H b l aa tr tm ps ws/\s < 2 ^ ws.length/\∀ H',au H H'->Q (.int ((aC (ps.map (·.2)) (wq ws) j w s:Nat):Int)) H'
def nQ (H:Hp)(v:V)(W sz:Nat)(F:Option (Nat->Nat->Int)):Prop:=(v=.bZ/\F=none)\/∃ a,∃ A:List jH,v=.ref a/\H a=some (.lst (A.map λb=>V.ref b.1))/\A.length=W/\(∀ b∈A,H b.1=some (.lst (b.2.map V.int))/\b.2.length=sz)/\F=some λw s=>(((A.map (·.2)).getD w []).getD s 0)
theorem nQ.same {H H':Hp}{v:V}{W sz:Nat}{F:Option (Nat->Nat->Int)}(h:nQ H v W sz F)(s:au H H'):nQ H' v W sz F:=by
 rcases h with h | ⟨a,A,e,k,l,r,f⟩
 ·exact .inl h
 ·exact .inr ⟨a,A,e,s _ _ k,l,λb hb=>⟨s _ _ (r b hb).1,(r b hb).2⟩,f⟩
def LY:Sp:=λvs H Q _=>∃ b,∃ j w s:Nat,∃ v aa tr tm ps sz F,vs=[.ref b,.int (j:Int),.int (w:Int),.int (s:Int),v]/\aL H b aa tr tm ps/\Good aa.length (ps.map (·.2))/\aa.length<=12/\w < aa.length/\s < sz/\sz<=16/\nQ H v aa.length sz F/\(∀ G,F=some G->j < ps.length) /\
 ∀ x H',au H H'->eW (ps.map (·.2)) j F w s x->Q (.int x) H'
def QY:Sp:=λvs H Q _=>∃ b l,∃ j w:Nat,∃ v aa tr tm ps ws F,vs=[.ref b,.ref l,.int (j:Int),.int (w:Int),v]/\uH H b l aa tr tm ps ws/\w < aa.length/\nQ H v aa.length (2 ^ ws.length) F/\(∀ G,F=some G->j < ps.length) /\
 ∀ lr (r:List Int) H',au H H'->H lr=none->H' lr=some (.lst (r.map V.int))->r.length=2 ^ ws.length->kG (ps.map (·.2)) (wq ws) j F w (λs=>r.getD s 0)->Q (.ref lr) H'
def u0:Sp:=λvs H Q _=>∃ b l aa tr tm ps ws,vs=[.ref b,.ref l]/\uH H b l aa tr tm ps ws /\
 ∀ lp P H',au H H'->H lp=none->(∀ a∈P,H a.1=none/\∀ b∈a.2,H b.1=none)->cF H' lp ps.length aa.length (2 ^ ws.length) P->d9 (ps.map (·.2)) (bI (aG P)) aa.length (wq ws)->Q (.ref lp) H'
def Oa (T:Addr)(lp:Pos):Sp:=λvs H Q _=>∃ lk lg,∃ s:Nat,∃ xs ys:List Int,∃ sz,vs=[.ref lk,.ref lg,.int (s:Int)]/\H lk=some (.lst (xs.map V.int))/\H lg=some (.lst (ys.map V.int))/\xs.length=sz/\ys.length=sz/\s < sz/\sz<=16/\MT T lp jq H /\
 ∀ t (p:Nat) H',cX T H H'->MT T lp jq H'->H' t=some (.tup [.int (p:Int),.int ((s - p:Nat):Int)])->bJ p s->(∀ p',bJ p' s->xs.getD p 0 + ys.getD (s - p) 0<=xs.getD p' 0 + ys.getD (s - p') 0)->Q (.ref t) H'
structure P9 (H:Hp) (lt:Addr) (ms:List M4) (v:Nat) (a:Int) (ws:Wq) (Tl:List (Addr×Nat×Nat)) (h:Fn):Prop where
 top:H lt=some (.lst (Tl.map λx=>V.ref x.1))
 row:∀ x∈Tl,H x.1=some (.tup [.int (x.2.1:Int),.int (x.2.2:Int)])
 tr:kU ms (cnt ms a) (aA v a) (Tl.map (·.2)) h
 sv:aZ h ws
def NW (T:Addr)(gJ:Pos):Sp:=λvs H Q _=>∃ b,∃ k:Nat,∃ a l lp aa tr tm ps ws P,vs=[.ref b,.int (k:Int),.int a,.ref l,.ref lp]/\fX H b l lp aa tr tm ps ws P/\k < aa.length/\d9 (ps.map (·.2)) (bI (aG P)) aa.length (wq ws) /\
 bI (aG P) (cnt (ps.map (·.2)) a) k (2 ^ ws.length - 1)<=ps.length/\(∀ x∈wq ws,x.1=k->a<=x.2)/\MT T gJ jq H /\
 ∀ lt Tl h H',cX T H H'->MT T gJ jq H'->H lt=none->P9 H' lt (ps.map (·.2)) k a (wq ws) Tl h->(Tl.length:Int)=bI (aG P) (cnt (ps.map (·.2)) a) k (2 ^ ws.length - 1)->Q (.ref lt) H'
def Lx (ms:List M4)(k:Nat)(a:Int)(ws:Wq)(i:Nat):Prop:=(∃ x,ws[i]?=some x/\aW (fwd ms (aA k a) x.1) x.2=false)/\∀ j,j < i->∀ x,ws[j]?=some x->aW (fwd ms (aA k a) x.1) x.2=true
def gR (H:Hp)(t:Addr)(n:Nat)(ms:List M4)(k:Nat)(a:Int)(K:Nat)(ws:Wq):Prop:=
 (∃ i lt,H t=some (.tup [.str (Str.ofString "never"),.int ((i:Nat):Int),.ref lt])/\Lx ms k a ws i/\H lt=some (.lst ((rep n (fwd ms (aA k a))).map oV))) \/
 ∃ lt lp Tl h P,H t=some (.tup [.str (Str.ofString "tree"),.ref lt,.ref lp])/\aZ (fwd ms (aA k a)) ws/\P9 H lt ms k a ws Tl h/\cF H lp ms.length n (2 ^ K) P/\d9 ms (bI (aG P)) n ws/\(Tl.length:Int)=bI (aG P) (cnt ms a) k (2 ^ K - 1)
def uY (T:Addr)(gJ:Pos):Sp:=λvs H Q _=>∃ b,∃ k:Nat,∃ a l aa tr tm ps ws,vs=[.ref b,.int (k:Int),.int a,.ref l]/\uH H b l aa tr tm ps ws/\aa.length<=8/\ps.length<=24/\1<=ws.length/\k < aa.length/\0<=a/\a<=1000000000/\(∀ x∈ws,0<=x.2.2/\x.2.2<=1000000000)/\MT T gJ jq H /\
 ∀ t H',cX T H H'->MT T gJ jq H'->gR H' t aa.length (ps.map (·.2)) k a ws.length (wq ws)->Q (.ref t) H'
end Sm
namespace Sm
open PySem L2 aQ
theorem RJ {k:Nat}{x:Int}:aA k x k=some x:=by unfold aA;rw [if_pos rfl]
theorem pL {i:Nat}{y:Int}:∀ {ws:List W3}{st:Fn},st i=some y->ws.foldl aO st i=some y
 | [],_,h=>h
 | x::ws,st,h=>pL (ws:=ws) (st:=aO st x) (mY h)
theorem ju (ms:List M4)(s:Nat)(a:Int):fwd ms (aA s a) s=some a:=pL RJ
end Sm
namespace L2
open PySem PySem.Spec PyProof.Rows
section
variable {prog:Program}{w:World}{A:Around}{E:Value->Shared->Prop}{s:Shared}
theorem kW:isSubtype (.type "range_iterator") (.type "reversed")=pure false:=by rw [isSubtype_type];kernel_rfl
def ng (n:Nat):Obj:={ cls:=.type "range_iterator", data:=.fields #[rawInt ((n:Int) - 1),rawInt (n:Int),rawInt (-1)] }
theorem ou {r:Addr}{n:Nat}{t u v:Tok}{Q:Value->Shared->Prop}(hr:IsRange s.heap r 0 (n:Int) 1 t u v)(hn:(n:Int) < 2 ^ 62)
  (h:Q (.ref s.heap.objs.size) { s with heap:=s.heap.push (ng n) }):wpAny (model prog w) A (call (.builtin "range.__reversed__") [.ref r]) Q E s:=by
 refine wpAny_call_entry F.slot_range_reversed ⟨_,hr,rfl⟩ F.entry_range_reversed ?_ (F.args_range_reversed_1 _);unfold Builtin.«range.__reversed__»;refine wpAny_bind (wpAny_of_eq (a:=Value.ref r) rfl ?_);have sz:Builtin.Range.rangeSize 0 (n:Int) 1=(n:Int):=by rw [rangeSize_one];split <;> omega
 have fit:∀ x:Int,-(2 ^ 62)<=x->x < 2 ^ 62->Builtin.Range.rangeFitsLong x=true:=λx h1 h2=>by
  unfold Builtin.Range.rangeFitsLong;simp only [zc,decide_eq_true_eq];constructor <;> omega
 unfold Builtin.Range.rangeFields;have ea:∀ (i:Int) (t:Tok),asInt? (Value.int i t)=(pure (some i):Sem (Option Int)):=λ_ _=>rfl;refine wpAny_bind (wpAny_bind (wpAny_field hr rfl (x:=.int 0 t) rfl ?_));rw [ea,pure_bind];refine wpAny_bind (wpAny_field hr rfl (x:=.int n u) rfl ?_);rw [ea,pure_bind];refine wpAny_bind (wpAny_field hr rfl (x:=.int 1 v) rfl ?_);rw [ea,pure_bind];refine wpAny_pure ?_;have sm:(Builtin.Range.rangeFitsLong 0 && Builtin.Range.rangeFitsLong (n:Int) && Builtin.Range.rangeFitsLong 1 && Builtin.Range.rangeFitsLong (-1) && Builtin.Range.rangeFitsLong (0 - 1) && Builtin.Range.rangeFitsLong (n:Int))=true:=by
  rw [fit 0 (by decide) (by decide),fit n (by omega) (by omega),fit 1 (by decide) (by decide),fit (-1) (by decide) (by decide),fit (0 - 1) (by decide) (by decide)];rfl
 dsimp only;rw [sz,sm];simp only [Bool.not_true,zn,if_false,if_true];have e:(0:Int) + ((n:Int) - 1) * 1=(n:Int) - 1:=by omega
 rw [e];exact wpAny_bind (wpAny_newObj_type (wpAny_pure ⟨_,rfl,h⟩))
theorem M6 {r:Addr}{n:Nat}{t u v:Tok}{Q₁:Value->Shared->Prop}(hr:IsRange s.heap r 0 (n:Int) 1 t u v)(hn:(n:Int) < 2 ^ 62)
  (h:Q₁ (.ref s.heap.objs.size) { s with heap:=s.heap.push (ng n) }) :
  codeAny (model prog w) A (.call (.builtin "reversed.__new__") ⟨[.type "reversed", .ref r],[]⟩) (wants Q₁ E) s:=by
 have hT:s.TypeIs (.ref r) "range" := ⟨_,hr,rfl⟩;refine codeAny_of_tree ?_;show wpAny _ A.in1 (do checkBuiltinCall "reversed.__new__" ⟨[.type "reversed", .ref r],[]⟩;again (.builtin "reversed.__new__" ⟨[.type "reversed", .ref r],[]⟩)) _ _ s;refine wpAny_bind (wpAny_of_eq (F.newCall_reversed_1 _) (wpAny_pure ⟨plainId_quiet F.plain_reversed_new _,codeAny_builtin F.entry_reversed_new ?_⟩));rw [Around.under_plainId F.plain_reversed_new _];unfold Builtin.«reversed.__new__»;refine wpAny_bind (wpAny_of_eq (newClass_reversed _) ?_);try dsimp only
 refine wpAny_bind (wpAny_of_eq (a:=()) (by first | rfl | kernel_rfl) ?_);refine wpAny_bind (wpAny_of_eq (a:=()) (by first | rfl | kernel_rfl) ?_);try dsimp only
 refine wpAny_bind (wpAny_specialOf hT F.slot_range_reversed.lookup ?_);try dsimp only
 refine wpAny_bind (wpAny_of_eq (F.slot_range_reversed.bind _) ?_);try dsimp only
 first
 | rw [if_neg (show ¬ ((Value.builtin "range.__reversed__" == Value.none)=true) from zM)]
 | (show wpAny _ _ (if (Value.builtin "range.__reversed__" == Value.none)=true then _ else _) _ _ _;rw [if_neg (show ¬ ((Value.builtin "range.__reversed__" == Value.none)=true) from zM)])
 refine wpAny_bind (wpAny_rule ?_);refine wpAny_bind (m:=runValue (.call (.builtin "range.__reversed__") ⟨[.ref r],[]⟩)) (show wpAny _ _ (call (.builtin "range.__reversed__") [.ref r]) _ _ _ from ou hr hn ?_)
 first
 | exact wpAny_pure h
 | exact wpAny_bind (wpAny_pure (wpAny_pure h))
theorem M7 {r:Addr}{n:Nat}{t u v:Tok}{Q:Value->Shared->Prop}(hr:IsRange s.heap r 0 (n:Int) 1 t u v)(hn:(n:Int) < 2 ^ 62)
  (h:Q (.ref s.heap.objs.size) { s with heap:=s.heap.push (ng n) }):wpAny (model prog w) A (call (.type "reversed") [.ref r]) Q E s:=by
 refine callType_other (U := "range_iterator") (Q₁:=λobj aN=>obj=.ref s.heap.objs.size/\aN={ s with heap:=s.heap.push (ng n) }) (by decide +kernel) F.create_reversed ⟨_,_,F.mro_reversed⟩ F.made_reversed kW (F.typeCall_reversed_1 _) (M6 hr hn ⟨rfl,rfl⟩) ?_;rintro obj aN ⟨rfl,rfl⟩;exact ⟨⟨_,Heap.get?_push_size _ rfl,rfl⟩,h⟩
end
def Xr (ta:TA):TI:=fun σ H R=>ta σ H λvs H1=>∃ n:Nat,vs=[.int (n:Int)]/\(n:Int) < 2 ^ 62/\R (Ym ((n:Int) - 1) (-1) n) H1
theorem Ro {X:Cx}{tg a:Expr}{ta:TA}{p pos p2 mz:Pos}(hg:Gl X "reversed")(hm:X.mg "reversed" = none)(hg2:Gl X "range")(hm2:X.mg "range" = none)(ha:PA X [a] ta)(hs:starEach [a] X.env=[(false,eval a X.env)]:=by rfl)
  (rY:starEach [.Call (.Name "range" p2) [a] [] mz] X.env=[(false,eval (.Call (.Name "range" p2) [a] [] mz) X.env)]:=by rfl) :
  PI X tg (.Call (.Name "reversed" p) [.Call (.Name "range" p2) [a] [] mz] [] pos) (Xr ta):=by
 intro ah s σ H R I h;refine Call_ (dP I hg hm boot_reversed (zy (rest:=[]) ?_ rY rfl));rw [rY];show wpAny _ _ (spliced ((false,eval (.Call (.Name "range" p2) [a] [] mz) X.env)::backTo pos (starEach [] X.env))) _ _ s;refine Calls.spliced_cons (Call_ (dP I hg2 hm2 boot_range (zy (aV (ha mz ah s σ H _ I h) λus s1 ⟨vs,H1,I1,r1,q1⟩=>?_) hs rfl)));obtain ⟨n,e,hn,q⟩:=q1;subst e;cases r1 with
 | cons r rr=>
  cases rr;obtain ⟨t,rfl⟩:=r;refine call_range_1 (Calls.spliced_nil ?_);have I1':Inv X ah σ H1 { s1 with heap:=s1.heap.push { cls:=.type "range", data:=.fields #[.int 0 s1.toks,.int (n:Int) t,.int 1 (s1.toks + 1)] },toks:=s1.toks + 1 + 1 }:=I1.kept λb o e=>Heap.get?_push_of_some _ e;refine M7 (n:=n) (IsRange.new ..) hn ?_;have I2:Inv X ah σ H1 { s1 with heap:=(s1.heap.push { cls:=.type "range", data:=.fields #[.int 0 s1.toks,.int (n:Int) t,.int 1 (s1.toks + 1)] }).push (ng n),toks:=s1.toks + 1 + 1 }:=I1'.kept λb o e=>Heap.get?_push_of_some _ e;have hit:IsRangeIter ((s1.heap.push { cls:=.type "range", data:=.fields #[.int 0 s1.toks,.int (n:Int) t,.int 1 (s1.toks + 1)] }).push (ng n)) (s1.heap.push { cls:=.type "range", data:=.fields #[.int 0 s1.toks,.int (n:Int) t,.int 1 (s1.toks + 1)] }).objs.size (((n:Int) - 1) + ((0:Nat):Int) * (-1)) ((n:Int) - ((0:Nat):Int)) (-1):=by
   have:=Heap.get?_push_size (s1.heap.push { cls:=.type "range", data:=.fields #[.int 0 s1.toks,.int (n:Int) t,.int 1 (s1.toks + 1)] }) (o:=ng n) rfl;rw [show ((n:Int) - 1) + ((0:Nat):Int) * (-1)=(n:Int) - 1 by omega,show (n:Int) - ((0:Nat):Int)=n by omega];exact this
  have T:=sA (P:=X.prog) (w:=X.w) (K:=X.K) (tg:=tg) (s1.heap.push { cls:=.type "range", data:=.fields #[.int 0 s1.toks,.int (n:Int) t,.int 1 (s1.toks + 1)] }).objs.size ((n:Int) - 1) (-1) n;refine T.self X.A 0 _ _ _ hit ?_;refine ⟨_,[(s1.heap.push { cls:=.type "range", data:=.fields #[.int 0 s1.toks,.int (n:Int) t,.int 1 (s1.toks + 1)] }).objs.size],_,_,H1,rfl,I2,T,hit,λb hb=>?_,q⟩;have e:b=(s1.heap.push { cls:=.type "range", data:=.fields #[.int 0 s1.toks,.int (n:Int) t,.int 1 (s1.toks + 1)] }).objs.size:=by simpa using hb
  subst e;exact I1'.oi (zF _) (I1'.aT.fresh (zF _))
end L2
namespace Sm
open PySem L2
theorem OT (s k i:Nat):(cJ s k).testBit i=(s.testBit i && !decide (i=k)):=by
 unfold cJ;by_cases h:s.testBit k=true
 ·rw [if_pos h];have p2:bJ (2 ^ k) s:=λi hi=>by
   rw [z8] at hi;rw [<-of_decide_eq_true hi];exact h
  rw [(jX p2).2.2,z8];by_cases e:i=k
  ·subst e;simp
  ·simp [e,Ne.symm e]
 ·rw [if_neg h];by_cases e:i=k
  ·subst e;simp only [Bool.not_eq_true] at h;rw [h];rfl
  ·simp [e]
theorem R9 {ms:List M4}{ws:List (Addr×Nat×Int)}{j w i:Nat}{x:Addr×Nat×Int}(h:ws[i]?=some x):eV ms (wq ws) j w i=(decide (x.2.1=w) && decide (j<=cnt ms x.2.2)):=by unfold eV wq;rw [zI,h];rfl
theorem done_none {ms:List M4}{ws:Wq}{j w i:Nat}(h:ws.length<=i):eV ms ws j w i=false:=by unfold eV;rw [yX h]
theorem gc (ws:List (Addr×Nat×Int)):(wq ws).length=ws.length:=zA _
theorem vV {r:List Int}{x:Int}{i:Nat}(h:i < r.length):(r++[x]).getD i 0=r.getD i 0:=by rw [zb,zb,zi h]
theorem U9 {r:List Int}{x:Int}:(r++[x]).getD r.length 0=x:=by rw [zb,zZ (zF _),xS];rfl
theorem mh {ms:List M4}{ws:Wq}{j w s:Nat}{F:Option (Nat->Nat->Int)}{r:List Int}{x:Int}(lr:r.length=s)(hs:s < 2 ^ ws.length)
  (old:∀ s',s' < s->(aC ms ws j w s'=s'->eW ms j F w s' (r.getD s' 0))/\r.getD s' 0=r.getD (aC ms ws j w s') 0) (n1:aC ms ws j w s=s->eW ms j F w s x) (n2:aC ms ws j w s≠s->x=r.getD (aC ms ws j w s) 0) :
  ∀ s',s' < s + 1->(aC ms ws j w s'=s'->eW ms j F w s' ((r++[x]).getD s' 0))/\(r++[x]).getD s' 0=(r++[x]).getD (aC ms ws j w s') 0:=λs' h=>by
 by_cases e:s'=s
 ·subst e;have le:=(wo (ms:=ms) (ws:=ws) (j:=j) (w:=w) hs).le;have g:(r++[x]).getD s' 0=x:=by rw [<-lr];exact U9
  rw [g];refine ⟨n1,?_⟩;by_cases e1:aC ms ws j w s'=s'
  ·rw [e1,g]
  ·rw [vV (by omega)];exact n2 e1
 ·have UM:s' < s:=by omega
  have le:=(wo (ms:=ms) (ws:=ws) (j:=j) (w:=w) (Nat.lt_trans UM hs)).le;have:=old s' UM;rw [vV (by omega),vV (by omega)];exact this
structure Qd (H0 H:Hp) (lp:Addr) (sz:Nat) (ms:List M4) (ws:Wq) (j:Nat) (F:Option (Nat->Nat->Int)) (B:List jH):Prop where
 row:∀ b∈B,H b.1=some (.lst (b.2.map V.int))/\b.2.length=sz/\H0 b.1=none/\b.1≠lp
 dp:∀ w b,B[w]?=some b->kG ms ws j F w λs=>b.2.getD s 0
theorem Qd.same {H0 H H':Hp}{lp:Addr}{sz:Nat}{ms:List M4}{ws:Wq}{j:Nat}{F:Option (Nat->Nat->Int)}{B:List jH}(h:Qd H0 H lp sz ms ws j F B)(s:au H H'):Qd H0 H' lp sz ms ws j F B:=
 ⟨λb hb=>⟨s _ _ (h.row b hb).1,(h.row b hb).2⟩,h.dp⟩
theorem Qd.nil {H0 H:Hp}{lp:Addr}{sz:Nat}{ms:List M4}{ws:Wq}{j:Nat}{F:Option (Nat->Nat->Int)}:Qd H0 H lp sz ms ws j F []:=⟨(λ_ z=>nomatch z),(λ_ _ z=>nomatch z)⟩
theorem mW {α:Type}{A:List α}{a:α}{k:Nat}{x:α}(h:(A++[a])[k]?=some x):(k < A.length/\A[k]?=some x)\/(k=A.length/\x=a):=by
 by_cases l:k < A.length
 ·rw [zi l] at h;exact .inl ⟨l,h⟩
 ·rw [zZ (by omega)] at h;have:k - A.length=0:=by
   by_cases e:k - A.length=0
   ·exact e
   ·rw [yX (by simp only [zq];omega)] at h;cases h
  rw [this] at h;simp at h;exact .inr ⟨by omega,h.symm⟩
theorem Qd.snoc {H0 H:Hp}{lp:Addr}{sz:Nat}{ms:List M4}{ws:Wq}{j:Nat}{F:Option (Nat->Nat->Int)}{B:List jH}(h:Qd H0 H lp sz ms ws j F B){l:Addr}{r:List Int}(h1:H l=some (.lst (r.map V.int)))(h2:r.length=sz)(h3:H0 l=none)(h4:l≠lp)(d:kG ms ws j F B.length λs=>r.getD s 0):Qd H0 H lp sz ms ws j F (B++[(l,r)]):=by
 refine ⟨λb hb=>?_,λw b hb=>?_⟩
 ·rcases zX.mp hb with m | m
  ·exact h.row b m
  ·cases zK.mp m;exact ⟨h1,h2,h3,h4⟩
 ·rcases mW hb with ⟨_,k⟩ | ⟨rfl,rfl⟩
  ·exact h.dp w b k
  ·exact d
structure i6 (H0 H:Hp) (lp:Addr) (W sz:Nat) (ms:List M4) (ws:Wq) (A:List bK) (i:Nat):Prop where
 top:H lp=some (.lst (A.map λa=>V.ref a.1))
 str:∀ a∈A,H a.1=some (.lst (a.2.map λb=>V.ref b.1))/\a.2.length=W/\H0 a.1=none/\a.1≠lp
 row:∀ a∈A,∀ b∈a.2,H b.1=some (.lst (b.2.map V.int))/\b.2.length=sz/\H0 b.1=none/\b.1≠lp
 len:A.length=i
 dp:∀ k,k < i->∀ w,w < W->kG ms ws (ms.length - k) (if k=0 then none else some (bI (aG A) (k - 1))) w (bI (aG A) k w)
theorem i6.same {H0 H H':Hp}{lp:Addr}{W sz:Nat}{ms:List M4}{ws:Wq}{A:List bK}{i:Nat}(h:i6 H0 H lp W sz ms ws A i)(s:au H H'):i6 H0 H' lp W sz ms ws A i:=
 ⟨s _ _ h.top,λa ha=>⟨s _ _ (h.str a ha).1,(h.str a ha).2⟩,λa ha b hb=>⟨s _ _ (h.row a ha b hb).1,(h.row a ha b hb).2⟩,h.len,h.dp⟩
theorem fE {A:List bK}{k:Nat}{a:bK}(h:A[k]?=some a):bI (aG A) k=λw s=>((a.2.map (·.2)).getD w []).getD s 0:=by funext w s;unfold bI aG;rw [zb (l:=A.map _),zI,h];rfl
theorem kD {A:List bK}{a:bK}{k:Nat}(h:k < A.length):bI (aG (A++[a])) k=bI (aG A) k:=by obtain ⟨x,hx⟩:∃ x,A[k]?=some x:=⟨_,zJ h⟩;rw [fE hx,fE (by rw [zi h];exact hx)]
theorem i6.snoc {H0 H H':Hp}{lp:Addr}{W sz:Nat}{ms:List M4}{ws:Wq}{A:List bK}{i:Nat}(h:i6 H0 H lp W sz ms ws A i){la:Addr}{B:List jH}{F:Option (Nat->Nat->Int)}
  (bt:∀ c u,c≠lp->H c=some u->H' c=some u) (top:H' lp=some (.lst (A.map (λa=>V.ref a.1)++[V.ref la]))) (k:H' la=some (.lst (B.map λb=>V.ref b.1))) (f0:H0 la=none) (ne:la≠lp) (lB:B.length=W) (rB:Qd H0 H' lp sz ms ws (ms.length - i) F B)
  (eF:F=if i=0 then none else some (bI (aG A) (i - 1))):i6 H0 H' lp W sz ms ws (A++[(la,B)]) (i + 1):=by
 have li:=h.len;refine ⟨by rw [top,zH];rfl,λa ha=>?_,λa ha b hb=>?_,by rw [zN,li];rfl,λk' XH w hw=>?_⟩
 ·rcases zX.mp ha with m | m
  ·have:=h.str a m;exact ⟨bt _ _ this.2.2.2 this.1,this.2⟩
  ·cases zK.mp m;exact ⟨k,lB,f0,ne⟩
 ·rcases zX.mp ha with m | m
  ·have:=h.row a m b hb;exact ⟨bt _ _ this.2.2.2 this.1,this.2⟩
  ·cases zK.mp m;exact rB.row b hb
 ·by_cases e:k'=i
  ·subst e;obtain ⟨b,hb⟩:∃ b,B[w]?=some b:=⟨_,zJ (by omega)⟩;have d:=rB.dp w b hb;have e1:bI (aG (A++[(la,B)])) k' w=λs=>b.2.getD s 0:=by
    rw [fE (a:=(la,B)) (by rw [zZ (by omega),li,xS];rfl)];funext s;simp only [zb,zI,hb,ye,xR]
   rw [e1];rw [eF] at d;by_cases z:k'=0
   ·rw [if_pos z] at d ⊢;exact d
   ·rw [if_neg z] at d ⊢;rw [kD (by omega)];exact d
  ·have:=h.dp k' (by omega) w hw;rw [kD (k:=k') (by omega)];by_cases z:k'=0
   ·rw [if_pos z] at this ⊢;exact this
   ·rw [if_neg z] at this ⊢;rw [kD (by omega)];exact this
theorem i6.fol {H0 H:Hp}{lp:Addr}{W sz:Nat}{ms:List M4}{ws:Wq}{A:List bK}{i:Nat}(h:i6 H0 H lp W sz ms ws A (i + 1)):∃ a,A[i]?=some a/\nQ H (.ref a.1) W sz (some (bI (aG A) i)):=by obtain ⟨a,ha⟩:∃ a,A[i]?=some a:=⟨_,zJ (by rw [h.len];omega)⟩;have m:=zC ha;refine ⟨a,ha,.inr ⟨a.1,a.2,rfl,(h.str a m).1,(h.str a m).2.1,λb hb=>⟨(h.row a m b hb).1,(h.row a m b hb).2.1⟩,?_⟩⟩;rw [fE ha]
theorem nH {A:List bK}{n j:Nat}(l:A.length=n + 1)(h:j<=n):bI (aG A.reverse) j=bI (aG A) (n - j):=by obtain ⟨x,hx⟩:∃ x,A[n - j]?=some x:=⟨_,zJ (by omega)⟩;rw [fE hx,fE (a:=x) (by rw [List.getElem?_reverse (by omega),l];rw [show n + 1 - 1 - j=n - j by omega];exact hx)]
theorem i6.done {H0 H:Hp}{lp:Addr}{W:Nat}{ms:List M4}{ws:Wq}{A:List bK}(gd:Good W ms)(h:i6 H0 H lp W (2 ^ ws.length) ms ws A (ms.length + 1)):d9 ms (bI (aG A.reverse)) W ws:=by
 refine ⟨λw hw=>?_,λj hj w hw=>?_⟩
 ·have:=h.dp 0 (by omega) w hw;rw [if_pos rfl,Nat.sub_zero] at this;rw [nH h.len (zF _),xS];exact this
 ·have:=h.dp (ms.length - j) (by omega) w hw;rw [if_neg (by omega),show ms.length - (ms.length - j)=j by omega,show ms.length - j - 1=ms.length - (j + 1) by omega] at this;rw [nH h.len (by omega),nH h.len (by omega)];exact this
theorem i6.pr {H0 H H':Hp}{lp lq:Addr}{W:Nat}{ms:List M4}{ws:Wq}{A:List bK}(gd:Good W ms)(h:i6 H0 H lp W (2 ^ ws.length) ms ws A (ms.length + 1))(s:au H H')(top:H' lq=some (.lst (A.reverse.map λa=>V.ref a.1))):cF H' lq ms.length W (2 ^ ws.length) A.reverse:=by have D:=h.done gd;refine ⟨top,λa ha=>s _ _ (h.str a (ya.mp ha)).1,λa ha b hb=>s _ _ (h.row a (ya.mp ha) b hb).1,by rw [yU,h.len],λa ha=>(h.str a (ya.mp ha)).2.1,λa ha b hb=>(h.row a (ya.mp ha) b hb).2.1,λa ha b hb x hx=>?_⟩;obtain ⟨j,hj⟩:=yB.mp ha;obtain ⟨w,hw⟩:=yB.mp hb;obtain ⟨k,hk⟩:=yB.mp hx;have lb:=(h.row a (ya.mp ha) b hb).2.1;have j1:=(zD.mp hj).1;have w1:=(zD.mp hw).1;have k1:=(zD.mp hk).1;rw [yU,h.len] at j1;rw [(h.str a (ya.mp ha)).2.1] at w1;have:=D.nonneg gd (ms.length - j) j (by omega) w w1 k (by omega);rw [qB hj hw,mX hk] at this;exact this
theorem Na {xs:List V}{n:Nat}{x:V}(l:xs.length=n + 1)(h:xs[n]?=some x):i7 xs (-1)=some x:=by
 have e:xs=xs.take n++[x]:=by rw [<-wP h,<- l,zv]
 rw [e];exact L2.nG _ _
theorem i6.via {K:PySem.W.Frag}{H0 H:Hp}{lp:Addr}{W sz:Nat}{ms:List M4}{ws:Wq}{A:List bK}{i:Nat}{σ:St}(h:i6 H0 H lp W sz ms ws A i)(hs:σ[2]?=some (some (.ref lp))):∃ v F,nQ H v W sz F/\F=(if i=0 then none else some (bI (aG A) (i - 1))) /\
  ∀ Q:VK,Q v H->if (!(A.map λa=>V.ref a.1).isEmpty)=true then uV (sS K) (lV 2) (Sl (rU λi=>V.int (-i)) (tC (V.int 1))) σ H Q else tC V.bZ σ H Q:=by
 cases i with
 | zero=>
  have:A=[]:=List.length_eq_zero_iff.mp h.len;subst this;exact ⟨.bZ,none,.inl ⟨rfl,rfl⟩,rfl,λQ q=>by rw [if_neg (λz=>nomatch z)];exact q⟩
 | succ i=>
  obtain ⟨a,ha,fo⟩:=h.fol;refine ⟨_,_,fo,by rw [if_neg (Nat.succ_ne_zero _)];rfl,λQ q=>?_⟩;have:(!(A.map λa=>V.ref a.1).isEmpty)=true:=by
   cases A with
   | nil=>cases ha
   | cons _ _=>rfl
  rw [if_pos this];exact ⟨_,hs,_,rfl,lp,_,_,_,rfl,rfl,aH.of h.top,Na (n:=i) (by rw [zA,h.len]) (by rw [zI,ha];rfl),q⟩
end Sm
namespace L2
open PySem PySem.Spec PyProof.Rows
theorem QI {c:TT}{tb:TS}{D:Ends}{σ:St}{H:Hp}{m0:Nat}(Pv:Nat->St->Hp->Prop)(h0:Pv m0 σ H)
  (hs:∀ m σ H,Pv m σ H->c σ H λb H1=>if b=true then tb (D.lp fun bu H'=>∃ m',m' < m/\Pv m' bu H') σ H1 else D.nx σ H1)
  (mono:∀ σ H Q Q',(∀ b H1,Q b H1->Q' b H1)->c σ H Q->c σ H Q'):lU c tb D σ H:=by
 refine ⟨Pv,⟨_,h0⟩,?_⟩;intro m σ H p;refine mono σ H _ _ (λb H1 q=>?_) (hs m σ H p);cases b with
 | true=>exact ⟨_,fun bu H' h=>h,q⟩
 | false=>exact q
theorem ab9 {i:Nat}{x:V}{σ:St}{H:Hp}{D:Ends}{c:TT}{tb u:TS}(h:lU c tb (D.go (u D)) (σ.set i (some x)) H):iJ i x σ H (D.go (nX (lU c tb) u D)).nx:=h
end L2
namespace Sm
open PySem L2 aQ
theorem aL.kj {T:Addr}{lp:Pos}{q:Str}{H H':Hp}{b tr tm:Addr}{aa:List Int}{ps:List (Addr×M4)}(h:aL H b aa tr tm ps)(m:MT T lp q H)(bt:cX T H H'):aL H' b aa tr tm ps:=h.aS (MT.NO m bt)
theorem cT {T:Addr}{lp:Pos}{q:Str}{H H':Hp}{a:Addr}{xs:List V}(m:MT T lp q H)(bt:cX T H H')(k:H a=some (.lst xs)):H' a=some (.lst xs):=bt _ _ (m.OO k) k
theorem jb {T:Addr}{lp:Pos}{q:Str}{H H':Hp}{a:Addr}{xs:List V}(m:MT T lp q H)(bt:cX T H H')(k:H a=some (.tup xs)):H' a=some (.tup xs):=bt _ _ (m.vB k) k
theorem jF.kj {T:Addr}{lp:Pos}{q:Str}{H H':Hp}{l:Addr}{n:Nat}{ws:List (Addr×Nat×Int)}(h:jF H l n ws)(m:MT T lp q H)(bt:cX T H H'):jF H' l n ws:=
 ⟨cT m bt h.1,λx hx=>⟨jb m bt (h.2 x hx).1,(h.2 x hx).2⟩⟩
theorem cF.kj {T:Addr}{p0:Pos}{q:Str}{H H':Hp}{l:Addr}{nm w sz:Nat}{P:List bK}(h:cF H l nm w sz P)(m:MT T p0 q H)(bt:cX T H H'):cF H' l nm w sz P:=
 ⟨cT m bt h.top,λa ha=>cT m bt (h.str a ha),λa ha b hb=>cT m bt (h.row a ha b hb),h.len,h.KL,h.Nm,h.pos⟩
theorem fX.kj {T:Addr}{p0:Pos}{q:Str}{H H':Hp}{b l lp:Addr}{aa:List Int}{tr tm:Addr}{ps:List (Addr×M4)}{ws:List (Addr×Nat×Int)}{P:List bK}(h:fX H b l lp aa tr tm ps ws P)(m:MT T p0 q H)(bt:cX T H H'):fX H' b l lp aa tr tm ps ws P:=
 ⟨h.bk.kj m bt,h.gd,h.r1,h.jY,h.wa.kj m bt,h.w1,h.w4,h.pr.kj m bt⟩
theorem fX.cb {H:Hp}{b l lp:Addr}{aa:List Int}{tr tm:Addr}{ps:List (Addr×M4)}{ws:List (Addr×Nat×Int)}{P:List bK}(h:fX H b l lp aa tr tm ps ws P):uH H b l aa tr tm ps ws:=⟨h.bk,h.gd,h.r1,h.jY,h.wa,h.w4⟩
theorem cX.SA {p l:Addr}{H H':Hp}{o:HO}(b:cX p H H')(h:H l=none):cX p H (upd H' l o):=λc u n e=>by rw [xq (xj e h)];exact b c u n e
theorem cX.eX {p:Addr}{H H1 H2:Hp}(b:cX p H H1)(s:au H1 H2):cX p H H2:=λc u n e=>s c u (b c u n e)
theorem Vb {T:Addr}{p0:Pos}{q:Str}{H H':Hp}(m:MT T p0 q H')(b:cX T H H'){l:Addr}(h:H' l=none):H l=none:=by
 cases e:H l with
 | none=>rfl
 | some o=>
  have:l≠T:=by
   rintro rfl;rcases m with m | ⟨_,m,_⟩ <;> (rw [h] at m;cases m)
  rw [b _ _ this e] at h;cases h
theorem au.uv {p:Addr}{H H1:Hp}(s:au H H1):cX p H H1:=λc u _ e=>s c u e
def nO (H:Hp)(ps:List (Addr×f6)):Prop:=∀ x∈ps,H x.1=some (.tup [.int (x.2.1:Int),.int (x.2.2.1:Int),.int (x.2.2.2:Int)])
def nP (H:Hp)(ps:List (Addr×Nat×Nat)):Prop:=∀ x∈ps,H x.1=some (.tup [.int (x.2.1:Int),.int (x.2.2:Int)])
section
variable {T:Addr} {gJ:Pos} {H0 H H':Hp}{lg lq:Addr}{ms:List M4}{Vv:Nat->Nat->Nat->Int}{W:Nat}{ws:Wq}{v:Nat}{a:Int}{G:List (Addr×Nat×Nat)}{Qs:List (Addr×f6)}
theorem sV (h:nO H Qs){l:Addr}{o:HO}{xs:List V}(k:H l=some (.lst xs)):nO (upd H l o) Qs:=λx hx=>by
 rw [xq (cH (h x hx) k (by intro z;cases z))];exact h x hx
theorem t9 (h:nP H G){l:Addr}{o:HO}{xs:List V}(k:H l=some (.lst xs)):nP (upd H l o) G:=λx hx=>by
 rw [xq (cH (h x hx) k (by intro z;cases z))];exact h x hx
theorem nP.aS (h:nP H G)(t:bX H H'):nP H' G:=λx hx=>t _ _ (h x hx)
theorem nO.aS (h:nO H Qs)(t:bX H H'):nO H' Qs:=λx hx=>t _ _ (h x hx)
structure gT (T:Addr) (gJ:Pos) (H0 H:Hp) (lg lq:Addr) (G:List (Addr×Nat×Nat)) (Qs:List (Addr×f6)):Prop where
 bt:cX T H0 H
 mt:MT T gJ jq H
 fg:H0 lg=none
 fq:H0 lq=none
 ne:lg≠lq
 kg:H lg=some (.lst (G.map λx=>V.ref x.1))
 kq:H lq=some (.lst (Qs.map λx=>V.ref x.1))
 pg:nP H G
 pq:nO H Qs
theorem gT.same (h:gT T gJ H0 H lg lq G Qs)(s:au H H'):gT T gJ H0 H' lg lq G Qs:=
 ⟨h.bt.eX s,h.mt.bR s,h.fg,h.fq,h.ne,s _ _ h.kg,s _ _ h.kq,h.pg.aS (bX.same s),h.pq.aS (bX.same s)⟩
theorem gT.but (h:gT T gJ H0 H lg lq G Qs)(b:cX T H H')(m:MT T gJ jq H'):gT T gJ H0 H' lg lq G Qs:=
 ⟨h.bt.trans b,m,h.fg,h.fq,h.ne,cT h.mt b h.kg,cT h.mt b h.kq,h.pg.aS (MT.NO h.mt b),h.pq.aS (MT.NO h.mt b)⟩
theorem gT.WC {Q':List (Addr×f6)}(h:gT T gJ H0 H lg lq G Qs)(p:nO H Q'):gT T gJ H0 (upd H lq (.lst (Q'.map λx=>V.ref x.1))) lg lq G Q':=
 ⟨h.bt.SA h.fq,h.mt.put h.kq,h.fg,h.fq,h.ne,by rw [xq h.ne];exact h.kg,xg,t9 h.pg h.kq,sV p h.kq⟩
theorem gT.Vs (h:gT T gJ H0 H lg lq G Qs){t:Addr}{x:f6}(k:H t=some (.tup [.int (x.1:Int),.int (x.2.1:Int),.int (x.2.2:Int)])):gT T gJ H0 (upd H lq (.lst ((Qs.map λx=>V.ref x.1)++[V.ref t]))) lg lq G (Qs++[(t,x)]):=by
 have:=h.WC (Q':=Qs++[(t,x)]) λy hy=>by
  rcases zX.mp hy with m | m
  ·exact h.pq y m
  ·cases zK.mp m;exact k
 rw [zH] at this;exact this
theorem gT.acd (h:gT T gJ H0 H lg lq G Qs){t:Addr}{x:Nat×Nat}(k:H t=some (.tup [.int (x.1:Int),.int (x.2:Int)])):gT T gJ H0 (upd H lg (.lst ((G.map λx=>V.ref x.1)++[V.ref t]))) lg lq (G++[(t,x)]) Qs:=by
 refine ⟨h.bt.SA h.fg,h.mt.put h.kg,h.fg,h.fq,h.ne,by rw [xg,zH];rfl,by rw [xq (Ne.symm h.ne)];exact h.kq,?_,sV h.pq h.kg⟩;have:nP H (G++[(t,x)]):=λy hy=>by
  rcases zX.mp hy with m | m
  ·exact h.pg y m
  ·cases zK.mp m;exact k
 exact t9 this h.kg
end
theorem U8 {ms:List M4}{Vv:Nat->Nat->Nat->Int}{W:Nat}{ws:Wq}(D:d9 ms Vv W ws){j w s:Nat}(lt:j < ms.length)(hw:w < W)(hs:s < 2 ^ ws.length)(z:aC ms ws j w s≠0)(ne:Vv j w (aC ms ws j w s)≠Vv (j + 1) w (aC ms ws j w s)) :
  ∃ o t,bM ms j w o t/\∀ p,bJ p (aC ms ws j w s)->(∀ p',bJ p' (aC ms ws j w s)->Vv (j + 1) w p + Vv (j + 1) o (aC ms ws j w s - p)<=Vv (j + 1) w p' + Vv (j + 1) o (aC ms ws j w s - p'))->Vv j w (aC ms ws j w s)=1 + Vv (j + 1) w p + Vv (j + 1) o (aC ms ws j w s - p):=by
 obtain ⟨F,hF,hN,l⟩:=D.row (xG lt) hw hs;have e:=D.eq (xG lt) hw hs;rcases l with ⟨z',_⟩ | ⟨_,l⟩
 ·exact absurd z' z
 ·cases F with
  | none=>have:=hN rfl;omega
  | some F=>
   obtain ⟨_,rfl⟩:=hF _ rfl;rcases l with ⟨_,l⟩ | ⟨o,t,k,_,l,c⟩
   ·omega
   ·refine ⟨o,t,k,λp sp mn=>?_⟩;have l1:=l p sp;rcases c with c | ⟨p',sp',c⟩
    ·omega
    ·have:=mn p' sp';omega
theorem aaA (n j:Nat)(h:j < n):3 ^ (n - j)=3 * 3 ^ (n - (j + 1)):=by rw [show n - j=n - (j + 1) + 1 by omega,Nat.pow_succ,Nat.mul_comm]
theorem vp {α β:Type}{f:α->β}{l l':List β}(p:l.Perm l'):∀ xs:List α,l'=xs.map f->∃ ys:List α,ys.Perm xs/\l=ys.map f:=by
 induction p with
 | nil=>intro xs e;cases xs with
  | nil=>exact ⟨[],.refl _,rfl⟩
  | cons _ _=>cases e
 | cons x p ih=>intro xs e;cases xs with
  | nil=>cases e
  | cons y xs=>
   rw [zd] at e;cases e;obtain ⟨ys,h1,rfl⟩:=ih xs rfl;exact ⟨y::ys,h1.cons _,rfl⟩
 | swap x y l=>intro xs e;match xs,e with
  | u::v::xs,e=>rw [zd,zd] at e;cases e;exact ⟨v::u::xs,.swap _ _ _,rfl⟩
 | trans p q ih1 ih2=>
  intro xs e;obtain ⟨ys,h1,e1⟩:=ih2 xs e;obtain ⟨zs,h2,e2⟩:=ih1 ys e1;exact ⟨zs,h2.trans h1,e2⟩
theorem TJ {G:List (Addr×Nat×Nat)}{qs:List (Addr×List Int)}(p:qs.Perm (G.map λx=>(x.1,[(x.2.1:Int),(x.2.2:Int)])))(s:qs.Pairwise λa b=>lx b.2 a.2=false){T:List (Nat×Nat)}(pt:T.Perm (G.map (·.2)))(tp:T.Pairwise λx y=>x.1 < y.1) :
  ∃ Tl:List (Addr×Nat×Nat),Tl.Perm G/\qs=(Tl.map λx=>(x.1,[(x.2.1:Int),(x.2.2:Int)]))/\Tl.map (·.2)=T:=by
 obtain ⟨Tl,pm,rfl⟩:=vp p G rfl;refine ⟨Tl,pm,rfl,?_⟩;have s':(Tl.map (·.2)).Pairwise λx y:Nat×Nat=>lx [(y.1:Int),(y.2:Int)] [(x.1:Int),(x.2:Int)]=false:=by
  rw [xP] at s ⊢;exact s
 refine List.Perm.eq_of_pairwise (le:=λx y:Nat×Nat=>lx [(y.1:Int),(y.2:Int)] [(x.1:Int),(x.2:Int)]=false) (λa b _ _ x y=>?_) s' (tp.imp λ{x y} h=>?_) ((pm.map _).trans pt.symm)
 ·have:=vD y x;obtain ⟨a1,a2⟩:=a;obtain ⟨b1,b2⟩:=b;simp only [List.cons.injEq,and_true] at this;rw [Prod.mk.injEq];omega
 ·unfold lx;rw [if_neg (by omega)];exact decide_eq_false (by omega)
theorem cF.get {H:Hp}{l:Addr}{nm w sz:Nat}{P:List bK}(h:cF H l nm w sz P){j k:Nat}(hj:j<=nm)(hk:k < w):∃ a b,P[j]?=some a/\a.2[k]?=some b/\a∈P/\b∈a.2/\b.2.length=sz/\∀ s,b.2.getD s 0=bI (aG P) j k s:=by obtain ⟨a,ha⟩:∃ a,P[j]?=some a:=⟨_,zJ (by rw [h.len];omega)⟩;have ma:=zC ha;obtain ⟨b,hb⟩:∃ b,a.2[k]?=some b:=⟨_,zJ (by rw [h.KL a ma];exact hk)⟩;have mb:=zC hb;exact ⟨a,b,ha,hb,ma,mb,h.Nm a ma b mb,λs=>(qB ha hb).symm⟩
def nM (Qs:List (Addr×f6)):Prop:=∀ (i:Nat) x,Qs[i]?=some x->i<=x.2.1 + 1
theorem nM.pop {Q0:List (Addr×f6)}{x:Addr×f6}(h:nM (Q0++[x])):nM Q0/\Q0.length<=x.2.1 + 1:=
 ⟨λi y hy=>h i y (by rw [zi (zD.mp hy).1];exact hy),h _ _ (by rw [zZ (zF _),xS];rfl)⟩
theorem nM.push {Q0:List (Addr×f6)}{x:Addr×f6}(h:nM Q0)(l:Q0.length<=x.2.1 + 1):nM (Q0++[x]):=λi y hy=>by
 rcases mW hy with ⟨_,k⟩ | ⟨rfl,rfl⟩
 ·exact h i y k
 ·exact l
theorem bO.kM {ms:List M4}{Vv:Nat->Nat->Nat->Int}{W:Nat}{ws:Wq}{v:Nat}{a:Int}{G:List (Nat×Nat)}{ps:List f6}{j w s:Nat}(e:bO ms Vv W ws v a G (ps++[(j,w,s)]))(D:d9 ms Vv W ws)(gd:Good W ms)(C:Vv (cnt ms a) v (2 ^ ws.length - 1)<=ms.length):G.length<=ms.length:=by have h1:=e.sum;have h2:=e.kJ D gd;obtain ⟨l1,l2,l3,_⟩:=e.last;have h3:=D.nonneg gd (ms.length - j) j (by omega) w l2 s l3;omega
theorem jW {h:Fn}{ws:Wq}:aZ h ws↔∀ x∈ws,aW (h x.1) x.2=true:=
 ⟨λs x hx=>by obtain ⟨i,hi⟩:=yB.mp hx;exact s i x hi,λs i x hx=>s x (zC hx)⟩
theorem kU.to0 {ms:List M4}{f h:Fn}{T:List (Nat×Nat)}:∀ {j:Nat},kU ms j f T h->kU ms 0 f T h
 | 0,t=>t
 | j + 1,t=>kU.to0 t.lower
theorem bB.to {ms:List M4}{v j0 w:Nat}{G:List (Nat×Nat)}{i:Nat}(h:bB ms v j0 G i w):∀ d,bB ms v j0 G (i + d) w
 | 0=>h
 | d + 1=>.keep (h.to d)
theorem bB.upTo {ms:List M4}{v j0 w:Nat}{G:List (Nat×Nat)}{i m:Nat}(h:bB ms v j0 G i w)(le:i<=m):bB ms v j0 G m w:=by have:=h.to (m - i);rwa [show i + (m - i)=m by omega] at this
def acq (ms:List M4)(v:Nat)(a:Int)(G:List (Nat×Nat))(ws:Wq):Prop:=∀ x∈ws,(∃ i,i<=cnt ms x.2/\bB ms v (cnt ms a) G i x.1)/\(x.1=v->a<=x.2)
theorem RE {W:Nat}{ms:List M4}(gd:Good W ms){v:Nat}{a:Int}{G:List (Nat×Nat)}{ws:Wq}(b:acq ms v a G ws):∃ T h,kU ms 0 (aA v a) T h/\aZ h ws/\T.length<=G.length:=by
 have cl:=qY ms a;obtain ⟨T,h,tr,tG,_,tp,_,all⟩:=Ou gd (v:=v) (a:=a) (G:=G) (ms.length - cnt ms a) (cnt ms a) (aA v a) (by omega) (zF _) (λw k=>by
  have:w=v:=by
   generalize e:cnt ms a=i at k;have k':=k;cases k with
   | root=>rfl
   | keep q=>have:=q.ge;omega
   | give q=>have:=q.ge;omega
  subst this;exact ⟨a,if_pos rfl,.inl ⟨rfl,rfl⟩⟩) (λw x hx=>by
   unfold aA at hx;split at hx
   ·rename_i e;cases hx;exact .inl ⟨rfl,e⟩
   ·cases hx)
 refine ⟨T,h,tr.to0,jW.mpr λx hx=>?_,?_⟩
 ·obtain ⟨⟨j,hj,hh⟩,own⟩:=b x hx;obtain ⟨y,hy,ey⟩:=all j x.1 hh.ge (z4 hj (qY _ _)) hh;rw [hy];refine aE.mpr ⟨y,rfl,?_⟩;rcases ey with ⟨rfl,e⟩ | ⟨m,o,lt,l⟩
  ·exact own e
  ·obtain ⟨m',hm,e,_⟩:=l;have:=(fc gd.fM hm (t:=x.2)).mp (by omega);omega
 ·have nd:T.Nodup:=tp.imp λl e=>by rw [e] at l;exact absurd l (z6 _)
  by_cases le:T.length<=G.length
  ·exact le
  ·have:=(vq nd tG (by omega)).length_eq;omega
def Qg (ms:List M4)(v:Nat)(a:Int)(ws:Wq)(x:Int):Prop:=
 (¬ aZ (fwd ms (aA v a)) ws/\x=-1)\/(aZ (fwd ms (aA v a)) ws/\∃ T h,kU ms 0 (aA v a) T h/\aZ h ws/\x=(T.length:Int)/\∀ T' h',kU ms 0 (aA v a) T' h'->aZ h' ws->T.length<=T'.length)
def Si (ws:List (Addr×Nat×Int)):Prop:=∀ x∈ws,0<=x.2.2/\x.2.2<=1000000000
theorem Mp {ms:List M4}{k:Nat}{a:Int}{ws:Wq}{i:Nat}(h:Lx ms k a ws i):¬ aZ (fwd ms (aA k a)) ws:=λsv=>by
 obtain ⟨⟨x,hx,ex⟩,_⟩:=h;have:=sv i x hx;rw [ex] at this;cases this
theorem LJ {ms:List M4}{W:Nat}{ws:Wq}{k:Nat}{a:Int}{V:Nat->Nat->Nat->Int}{T:List (Nat×Nat)}{h:Fn}(gd:Good W ms)(hk:k < W)(UL:∀ x∈ws,x.1 < W)(dp:d9 ms V W ws)(sv:aZ (fwd ms (aA k a)) ws)(tr:kU ms (cnt ms a) (aA k a) T h)(st:aZ h ws)(len:(T.length:Int)=V (cnt ms a) k (2 ^ ws.length - 1)):Qg ms k a ws (T.length:Int):=
 .inr ⟨sv,T,h,tr.to0,st,rfl,λT' h' tr' sv'=>by
  have:=vm (dp.Vf gd UL) gd rfl hk (tr'.since gd) sv';omega⟩
theorem MU {K:PySem.W.Frag}{H:Hp}{x y:V}(fx:b9 x=true)(fy:b9 y=true):∀ (i:Nat) (u v:V),[x,y][i]?=some u->[x,y][i]?=some v->Eqv K H 0 u v true:=λi u v h h'=>by
 rw [h] at h';cases h'
 match i,h with
 | 0,h=>cases h;exact .inr ⟨fx,fx,(ud fx).symm⟩
 | 1,h=>cases h;exact .inr ⟨fy,fy,(ud fy).symm⟩
section
variable {T p:Addr} {gJ:Pos} {H0 H H':Hp}{b lw tr tm:Addr}{aa:List Int}{ps:List (Addr×M4)}{ws:List (Addr×Nat×Int)}
end
theorem gR.same {H H':Hp}{t:Addr}{n:Nat}{ms:List M4}{k:Nat}{a:Int}{K:Nat}{ws:Wq}(h:gR H t n ms k a K ws)(s:au H H'):gR H' t n ms k a K ws:=by
 rcases h with ⟨i,lt,h1,h2,h3⟩ | ⟨lt,lp,Tl,h,P,h1,h2,h3,h4,h5,h6⟩
 ·exact .inl ⟨i,lt,s _ _ h1,h2,s _ _ h3⟩
 ·exact .inr ⟨lt,lp,Tl,h,P,s _ _ h1,h2,⟨s _ _ h3.top,λx hx=>s _ _ (h3.row x hx),h3.tr,h3.sv⟩,h4.same s,h5,h6⟩
section
variable {T p:Addr} {gJ:Pos} {H0 H H':Hp}{b lw lh tr tm:Addr}{aa:List Int}{ps:List (Addr×M4)}{ws:List (Addr×Nat×Int)}
end
end Sm
namespace L2
open PySem PySem.Spec PyProof.Rows
structure fF (k:Nat) (A:Around):Prop where
 dp:A.depth + 3 * k + 5 < recursionLimit
 un:A.units + 16 * k + 200 < cLine
 gd:A.guards=some []
theorem fF.deeper {k:Nat}{A:Around}(r:fF (k + 1) A)(env:Env):fF k (A.deeper env):=
 ⟨by have:=r.dp;show A.depth + 1 + 3 * k + 5 < _;omega,by have:=r.un;show A.units + 3 + 16 * k + 200 < _;omega,r.gd⟩
theorem fF.depth {k:Nat}{A:Around}(r:fF k A):A.depth < recursionLimit:=by have:=r.dp;omega
theorem fF.units {k:Nat}{A:Around}(r:fF k A):A.units + 64 < cLine:=by have:=r.un;omega
theorem cz.toH {j k:Nat}{A:Around}(r:cz k A)(h:j<=k){v:Option Value}:fF j (A.mark v):=⟨by have:=r.dp;show A.depth + 3 * j + 5 < _;omega,by have:=r.un;show A.units + 16 * j + 200 < _;omega,r.gd⟩
structure uF (P:Program) (w:World) (K:PySem.W.Frag) (mg:Str->Option Value) (base:Heap) (CX:uI) (k:Nat) (f:Addr) (fd:FuncData) (ps:List Str) (sp:Sp):Prop where
 len:∀ vs H Q E,sp vs H Q E->vs.length=ps.length
 run:∀ (A:Around) (outer:List Env) (s:Shared) (H:Hp) (args:Args) (us:List Value) (vs:List V) (Q:VK) (E:XK),fF k A->rW P w K mg base A outer s H->BindsTo s fd args (ps.zip us)->Vals vs us->sp vs H Q E ->
  codeAny (model P w) A (.call (.ref f) args) (CR CX outer P w H s Q E) s
section
variable {X:Cx}{CX:uI}{k:Nat}{f C:Addr}{fd:FuncData}{ps:List Str}{sp:Sp}{lN:List V}{ds:List Value}{E:XK}{x m:Str}{p pos apos:Pos}{e o:Expr}{es:List Expr}{ta:TE}{t:TA}
theorem Rh {ah:List (Addr×Obj)}{σ:St}{H:Hp}{s:Shared}{Q:VK}{us:List Value}{vs:List V}(F:uF X.prog X.w X.K X.mg X.base CX k f fd ps sp)(hr:fF k X.A)(hb:Binds X.K fd ps ds)(hd:Vals lN ds)(hx:Passes CX X E)
  (I:Inv X ah σ H s) (r:Vals vs us) (h:sp (vs++lN) H Q E):wpAny (model X.prog X.w) X.A (call (.ref f) us) (EP X ah σ Q) X.xe s:=by
 have r2:Vals (vs++lN) (us++ds):=r.append hd;have hl:(us++ds).length=ps.length:=by rw [<-r2.length];exact F.len _ _ _ _ h
 refine wpAny_call (codeAny_mono (F.run X.A X.stack s H ⟨us,[]⟩ (us++ds) (vs++lN) Q E hr I.R8 (hb s us I.kY hl) r2 h) λr s' hq=>?_);cases r with
 | error e=>exact hx ah σ H s e s' I hq
 | ok fl=>
  cases fl with
  | ret u=>exact I.after hq
  | next=>exact False.elim hq
  | brk=>exact False.elim hq
  | cont=>exact False.elim hq
theorem OA (F:uF X.prog X.w X.K X.mg X.base CX k f fd ps sp)(hr:fF k X.A)(hg:Gl X x)(hm:X.mg x=some (.ref f))(hk:xC X.K (.ref f)=true)(hb:Binds X.K fd ps ds)(hd:Vals lN ds)(hx:Passes CX X E)
  (ha:PA X (e::es) t) (t8:(x == ("__debug__" : Str))=false:=by decide) (he:starEach (e::es) X.env=(false,eval e X.env)::starEach es X.env:=by rfl) (vP:(backTo pos (starEach es X.env)).any (·.1)=false:=by rfl) :
  PE X (.Call (.Name x p) (e::es) [] pos) (iF sp lN E t):=by
 intro ah s σ H Q I h;refine wpAny_Call_Name_kw (ie I hg hm ?_ t8);refine PySem.W.callWith_K (h₀:=X.base) I.ok.mod.VS hk (aV (ha pos ah s σ H _ I h) λus s1 Tf=>?_) he vP;obtain ⟨vs,H1,I1,r,q⟩:=Tf;refine ⟨I1.kY,?_⟩;exact Rh F hr hb hd hx I1 r q
end
def pP (CX:uI)(P:Program)(w:World)(K:PySem.W.Frag)(mg:Str->Option Value)(base:Heap)(N:List Str)(qual:Str)(scope:Scope)(f:Addr)(cd:Value)(A:Around)(outer:List Env)(s:Shared)(H:Hp)(E:XK):Cx where
 prog:=P
 w:=w
 K:=K
 mg:=mg
 base:=base
 A:=A.deeper (envOfC qual scope s.heap.objs.size f cd)
 N:=N
 cC:=s
 uE:=H
 env:=envOfC qual scope s.heap.objs.size f cd
 outer:=outer
 stack:=envOfC qual scope s.heap.objs.size f cd::outer
 ex:=[]
 calm:=false
 fn:=λ_=>true
 pn:=[]
 xe:=λe s'=>wpAny (model P w) (A.deeper (envOfC qual scope s.heap.objs.size f cd)) (leaving (envOfC qual scope s.heap.objs.size f cd) e) (λ_ kI=>CX outer H s E e kI) (λe' kI=>CX outer H s E e' kI) s'
theorem vL {CX:uI}{P:Program}{w:World}{K:PySem.W.Frag}{mg:Str->Option Value}{base:Heap}{N ps:List Str}{qual:Str}{scope:Scope}{f:Addr}{cd:Value}{A:Around}{outer:List Env}{s s1:Shared}{H:Hp}{E:XK}{us:List Value}{vs:List V}
  (S:av N ps scope) (e0:rW P w K mg base A outer s H) (hl:vs.length=ps.length) (r:Vals vs us)
  (x:InCallC s s.heap.objs.size (bindL (envOfC qual scope s.heap.objs.size f cd).kindOf (ps.zip us) λ_=>none) (cellsFrom (s.heap.objs.size + 1) scope.names []) (bindC (envOfC qual scope s.heap.objs.size f cd).kindOf (ps.zip us) λ_=>none) s1) :
  Inv (pP CX P w K mg base N qual scope f cd A outer s H E) [] (start N vs) H s1:=by
 have vP:ps.length<=N.length:=by have:=congrArg List.length S.pre;rw [zY] at this;omega
 obtain ⟨h1,tk,rfl,hk⟩:=x.done;have Ur:∀ b:Addr,b ∉ (pP CX P w K mg base N qual scope f cd A outer s H E).ex:=λb z=>absurd (show b∈([]:List Addr) from z) (by simp);refine ⟨⟨e0.mod,S.kind,rfl,rfl,zF _,λy z c h1 h2=>?_,λy hy=>?_,λy c _ h=>?_,(λz=>by cases z),Around.frames_deeper e0.frames,.inr ⟨rfl,rfl⟩,λb z=>absurd z (Ur b),e0.bs,e0.M9,λb _ _=>Ur b,λb z=>absurd z (Ur b),e0.gP,e0.QC⟩,
  rfl,e0.bare,Un.kept hk,⟨_,x.toInCall.ns,λi y v h1 h2 h3=>?_⟩,λy c h=>⟨_,x.cell y c h⟩,e0.aT.fresh (zF _),λy c h=>?_,λp hp=>absurd (show p∈([]:List (Addr×Obj)) from hp) (by simp),e0.aT.kept hk,?_⟩
 ·exact name_of_addr x.apart (zk h1) (zk h2)
 ·have hy:scope.names.lookup y=some .cell\/scope.names.lookup y=some .free:=hy;rcases hy with hy | hy
  ·exact jB hy
  ·exact absurd rfl (S.OL _ (zk hy))
 ·exact xG (x.above y c (zk h))
 ·have hi:i < vs.length:=by
   unfold start at h2;by_cases hi:i < vs.length
   ·exact hi
   ·rw [zZ (by simpa using hi)] at h2;rw [List.getElem?_replicate] at h2;split at h2 <;> cases h2
  have ha:vs[i]?=some v:=by
   unfold start at h2;rw [zi (by simpa using hi),zI] at h2;cases e:vs[i]? with
   | none=>rw [e] at h2;cases h2
   | some a=>rw [e] at h2;cases h2;rfl
  obtain ⟨u,hu,rv⟩:=r.get ha;have hp:ps[i]?=some y:=by
   rw [<-S.pre,List.getElem?_take_of_lt (by omega)];exact h1
  have WY:ps.Nodup:=by rw [<-S.pre];exact S.nd.sublist (List.take_sublist _ _)
  refine ⟨u,rv,?_⟩;rcases S.par y (zC hp) with k | k
  ·exact .inl ⟨k,ko WY hp hu k⟩
  ·obtain ⟨c,e⟩:=jB (n:=s.heap.objs.size + 1) k;refine .inr ⟨.inl k,c,e,?_⟩;have q:=x.cell y c e;rw [ku WY hp hu (by show scope.names.lookup y≠_;rw [k];decide)] at q;exact q
 ·exact e0.aT.fresh (xG (x.above y c (zk h)))
 ·unfold start;show _=N.length;rw [zN,zA,yW];omega
theorem Vc {CX:uI}{P:Program}{w:World}{K:PySem.W.Frag}{mg:Str->Option Value}{base:Heap}{k:Nat}{f:Addr}{name qual:Str}{params:Arguments}{body:List Stmt}{scope:Scope}{dV kV doc pm br ct oc:Value}{an od:Option Addr}
  {Mk:Array (Option Value)}{N ps:List Str}{sp:Sp} (lk:K.lookup f=some ⟨oc,od,.func (yy name qual params body scope dV kV doc pm an br ct),Mk⟩) (mV:PySem.W.codeIn K br qual=true) (S:av N ps scope)
  (len:∀ vs H Q E,sp vs H Q E->vs.length=ps.length)
  (dR:∀ (A:Around) (outer:List Env) (s:Shared) (H:Hp) (vs:List V) (Q:VK) (E:XK),fF k (A.deeper (envOfC qual scope s.heap.objs.size f br))->sp vs H Q E ->
   ∃ t,lO (pP CX P w K mg base N qual scope f br A outer s H E) body t/\t { nx:=λ_ H'=>Q .bZ H',rt:=Q } (start N vs) H) :
  uF P w K mg base CX (k + 1) f (yy name qual params body scope dV kV doc pm an br ct) ps sp:=by
 refine ⟨len,λA outer s H args us vs Q E hr e0 hb r tY=>?_⟩;have hl:=len _ _ _ _ tY;have KX:K.In s.heap:=e0.mod.VS.keeps λb o e=>(e0.bs b o e).1;have lim:s.heap.NoLimit:=e0.mod.nolimit.keeps λb o e=>(e0.bs b o e).1;have O9:∀ y∈ps.zip us,scope.names.lookup y.1=some .local\/(scope.names.lookup y.1=some .cell/\((cellsFrom (s.heap.objs.size + 1) scope.names []).lookup y.1).isSome=true):=λ⟨n,v⟩ hy=>by
  rcases S.par n (xH hy).1 with q | q
  ·exact .inl q
  ·exact .inr ⟨q,PySem.W.cellsFrom_some _ _ _ (.inl q)⟩
 refine codeAny_call_function hr.depth (KX _ _ lk) rfl S.co S.gen rfl (PySem.W.codeRec_of KX mV) (hb _ _ _ _ ?_);refine wpAny_newFunctionEnv_cells S.kind O9 λenv he s1 x=>?_;subst he;refine ⟨lim.keeps x.toInCall.keep,codeAny_func ?_⟩;obtain ⟨t,ht,hq⟩:=dR A outer s H vs Q E (hr.deeper _) tY;have I:Inv (pP CX P w K mg base N qual scope f br A outer s H E) [] (start N vs) H s1:=vL S e0 hl r x;refine wpAny_mono (ht [] s1 (start N vs) H _ I hq) (λfl s' hs=>?_) λe s' hs=>hs;have fin:∀ {bu:St}{H':Hp}{v:V}{u:Value},Inv (pP CX P w K mg base N qual scope f br A outer s H E) [] bu H' s'->RelV v u->Q v H'->CE outer P w H s Q u s':=
  λ{bu H' v u} J rv q=>⟨v,H',J.os,J.bare,J.base,J.aT,rv,q⟩
 cases fl with
 | ret u=>
  obtain ⟨v,bu,H',J,rv,q⟩:=hs;exact fin J rv q
 | next=>
  obtain ⟨bu,H',J,q⟩:=hs;exact fin (v:=V.bZ) (u:=Value.none) J rfl q
 | brk=>
  obtain ⟨_,_,_,q⟩:=hs;exact False.elim q
 | cont=>
  obtain ⟨_,_,_,q⟩:=hs;exact False.elim q
section
variable {P:Program}{w:World}{K:PySem.W.Frag}{mg:Str->Option Value}{base:Heap}
theorem bV.okH {x qual:Str}{st:Stmt}{f:Addr}{fd:FuncData}{N ps:List Str}{k:Nat}{sp:Sp}(F:bV K x qual st f fd)(S:av N ps (aj st))(len:∀ vs H Q E,sp vs H Q E->vs.length=ps.length)
  (dR:∀ (br:Value) (A:Around) (outer:List Env) (s:Shared) (H:Hp) (vs:List V) (Q:VK) (E:XK),fF k (A.deeper (envOfC qual (aj st) s.heap.objs.size f br))->sp vs H Q E ->
   ∃ t,lO (pP Ng P w K mg base N qual (aj st) f br A outer s H E).o9 (ak st) t/\t { nx:=λ_ H'=>Q .bZ H',rt:=Q } (start N vs) H):uF P w K mg base Ng (k + 1) f fd ps sp:=by
 obtain ⟨oc,od,kV,doc,pm,an,br,ct,Mk,rfl,lk,mV⟩:=F.ex;refine Vc lk mV S len λA outer s H vs Q E hr tY=>?_;obtain ⟨t,h,q⟩:=dR br A outer s H vs Q E hr tY;exact ⟨t,h.o9,q⟩
end
end L2
namespace Sm
open PySem L2 aQ
def nR (aa:List Int)(ps:List (Addr×M4)):Prop:=8 < aa.length\/24 < ps.length
def kB (aa:List Int)(ps:List (Addr×M4)):Bool:=decide (8 < aa.length) || decide (24 < ps.length)
theorem Lr {aa:List Int}{ps:List (Addr×M4)}:kB aa ps=true↔nR aa ps:=by unfold kB nR;rw [yg,decide_eq_true_eq,decide_eq_true_eq]
def sN (C T:Addr)(gJ:Pos):Sp:=λvs H Q E=>uY T gJ vs H Q E\/∃ b k a l aa tr tm ps,vs=[.ref b,k,a,l]/\aL H b aa tr tm ps/\nR aa ps/\E (.ref C) none H
def Q5 (C:Addr):Sp:=λvs H Q _=>∃ x,vs=[.ref x]/\H x=some (m5 x C)/\∀ H',au H H'->Q (.bl true) H'
structure uG (T:Addr) (gJ:Pos) (H:Hp) (b:Addr) (aa:List Int) (tr tm:Addr) (ps:List (Addr×M4)) (k:Nat) (a:Int) (l:Addr) (ws:List (Addr×Nat×Int)):Prop where
 bk:aL H b aa tr tm ps
 gd:Good aa.length (ps.map (·.2))
 r1:1<=aa.length
 jY:aa.length<=12
 hk:k < aa.length
 a0:0<=a
 a9:a<=1000000000
 wa:jF H l aa.length ws
 lo:Si ws
 w1:1<=ws.length
 w4:ws.length<=4
 mt:MT T gJ jq H
theorem uG.but {T:Addr}{gJ:Pos}{H H':Hp}{b:Addr}{aa:List Int}{tr tm:Addr}{ps:List (Addr×M4)}{k:Nat}{a:Int}{l:Addr}{ws:List (Addr×Nat×Int)}(h:uG T gJ H b aa tr tm ps k a l ws)(bt:cX T H H')(m:MT T gJ jq H'):uG T gJ H' b aa tr tm ps k a l ws:=
 ⟨h.bk.kj h.mt bt,h.gd,h.r1,h.jY,h.hk,h.a0,h.a9,h.wa.kj h.mt bt,h.lo,h.w1,h.w4,m⟩
theorem uG.same {T:Addr}{gJ:Pos}{H H':Hp}{b:Addr}{aa:List Int}{tr tm:Addr}{ps:List (Addr×M4)}{k:Nat}{a:Int}{l:Addr}{ws:List (Addr×Nat×Int)}(h:uG T gJ H b aa tr tm ps k a l ws)(s:au H H'):uG T gJ H' b aa tr tm ps k a l ws:=h.but (au.uv s) (h.mt.bR s)
def NX (T:Addr)(gJ:Pos):Sp:=λvs H Q _=>∃ b,∃ k:Nat,∃ a l aa tr tm ps ws,vs=[.ref b,.int (k:Int),.int a,.ref l]/\uG T gJ H b aa tr tm ps k a l ws /\
 ∀ q fv H',cX T H H'->MT T gJ jq H'->H' q=some (.lst [fv,.bl (kB aa ps)])->(kB aa ps=false->∃ t,fv=.ref t/\gR H' t aa.length (ps.map (·.2)) k a ws.length (wq ws))->Q (.ref q) H'
def LV (K:PySem.W.Frag):Sp:=λvs H Q _=>∃ (sa:Addr) (ns:List Int),vs=[.ref sa]/\aH K H sa (ns.map V.int)/\ns.length<=63 /\
 ∀ b aa tr tm ps H',au H H'->aL H' b aa tr tm ps->Good aa.length (ps.map (·.2))->1<=aa.length->aa.length<=12->Q (.ref b) H'
def Ma:Sp:=λvs H Q _=>∃ b,∃ k:Nat,∃ a x t aa tr tm ps,∃ w:Nat,∃ z,vs=[.ref b,.int (k:Int),.int a,.ref x,.ref t]/\aL H b aa tr tm ps/\Good aa.length (ps.map (·.2))/\aa.length<=12/\k < aa.length/\w < aa.length/\0<=a/\a<=1000000000/\0<=z/\z<=1000000000 /\
 H x=some (.tup [.int (w:Int),.int z])/\gR H t aa.length (ps.map (·.2)) k a 1 [(w,z)]/\∀ H',au H H'->Q (.bl true) H'
theorem OS {W:Nat}{ms:List M4}{m g o:Nat}{t:Int}(l:bM ms m g o t):(⟨g,o,t⟩:W3)∈aD ms:=by obtain ⟨r,hr,e,c⟩:=l;unfold aD;refine xF.mpr ⟨r,zC hr,?_⟩;unfold two;rcases c with ⟨a,b⟩ | ⟨a,b⟩ <;> subst a b e <;> simp
theorem NQ {ms:List M4}{j:Nat}{f h:Fn}{T:List (Nat×Nat)}(tr:kU ms j f T h){row:Fn}:∀ {i:Nat},(∀ v y,f v=some y->aW (bg (aD ms) row i v) y=true)->∀ v y,h v=some y->aW (bg (aD ms) row (i + T.length) v) y=true:=by
 induction tr with
 | nil=>intro i hf;exact hf
 | @cons j m g o t x f h T hj l hx lt r ih=>
  intro i hf v y e;have dh:∀ u z,f u=some z->aW (bg (aD ms) row (i + 1) u) z=true:=λu z q=>by
   obtain ⟨p,hp,lp⟩:=aE.mp (hf u z q);have:=j5 (aD ms) (bg (aD ms) row i) u p hp;obtain ⟨p',VX,lp'⟩:=aE.mp this;exact aE.mpr ⟨p',VX,by omega⟩
  have:=ih (i:=i + 1) (λu z q=>by
   split at q
   ·unfold put at q;split at q
    ·rename_i e1;cases q;subst e1;obtain ⟨p,hp,lp⟩:=aE.mp (hf g x hx);exact K4 (x:=⟨g,u,t⟩) (OS (W:=0) l) (aY.mpr ⟨p,hp,by show p < t;omega⟩)
    ·exact dh u z q
   ·exact dh u z q) v y e
  rw [zW,show i + (T.length + 1)=i + 1 + T.length by omega];exact this
theorem oN {ms:List M4}{k w:Nat}{a z:Int}{T:List (Nat×Nat)}{h:Fn}(tr:kU ms 0 (aA k a) T h)(sv:aZ h [(w,z)]):aW (bg (aD ms) (aA k a) T.length w) z=true:=by obtain ⟨y,hy,le⟩:=aE.mp (jW.mp sv (w,z) (.head _));have:=NQ tr (row:=aA k a) (i:=0) (λv y e=>aE.mpr ⟨y,e,zl _⟩) w y hy;rw [Nat.zero_add] at this;obtain ⟨p,hp,lp⟩:=aE.mp this;exact aE.mpr ⟨p,hp,by dsimp only at le;omega⟩
theorem KC {W:Nat}{ms:List M4}(gd:Good W ms){k w:Nat}{a z:Int}(n:∀ i,aW (bg (aD ms) (aA k a) i w) z=false):¬ aZ (fwd ms (aA k a)) [(w,z)]:=λsv=>by
 obtain ⟨T,tr,_⟩:=Lc gd ms.length 0 (aA k a) (by omega);rw [List.drop_zero] at tr;have:=oN tr sv;rw [n] at this;cases this
theorem sj {W:Nat}{ms:List M4}(gd:Good W ms){k j0:Nat}:∀ (ns:List Int) (v:Nat) (t A:Int) (w:Nat) (e:Int),cG ms v t A ns=some (w,e)->∃ Gs:List (Nat×Nat),Gs.length=ns.length/\∀ G i,(∀ x∈Gs,x∈G)->bB ms k j0 G i v->(∀ z,t<=z->i<=cnt ms z)->(∀ (n:Nat) (m:M4),ms[n]?=some m->A < n->t < m.t->i<=n)->∃ i',bB ms k j0 G i' w/\∀ z,e<=z->i'<=cnt ms z
 | [],v,t,A,w,e,h=>by
  have:=Option.some.inj h;obtain ⟨rfl,rfl⟩:=Prod.mk.inj this;exact ⟨[],rfl,λG i _ h1 h2 _=>⟨i,h1,h2⟩⟩
 | n::ns,v,t,A,w,e,h=>by
  unfold cG at h;split at h
  ·cases h
  ·rename_i m hm;split at h
   ·rename_i c;obtain ⟨c1,c2,c3,c4⟩:=c;obtain ⟨Gs,lG,ih⟩:=sj gd (k:=k) (j0:=j0) ns _ _ _ w e h;refine ⟨(n.toNat,v)::Gs,by rw [zW,lG];rfl,λG i sG h1 h2 h3=>?_⟩;have fx:=gd.each m (zC hm);have en:(n.toNat:Int)=n:=Int.toNat_of_nonneg c2;have le:=h3 n.toNat m hm (by omega) c4;have lk:bM ms n.toNat v (if v=m.lo.toNat then m.hi.toNat else m.lo.toNat) m.t:=by
     refine ⟨m,hm,rfl,?_⟩;by_cases q:v=m.lo.toNat
     ·rw [if_pos q];exact .inl ⟨q.symm,rfl⟩
     ·rw [if_neg q];exact .inr ⟨rfl,(c3.resolve_left q).symm⟩
    refine ih G (n.toNat + 1) (λx hx=>sG x (.tail _ hx)) (.give (h1.upTo le) (sG _ (.head _)) lk) (λz hz=>?_) (λn' m' _ h' _=>by omega);have:=(fc gd.fM hm (t:=z)).mpr hz;omega
   ·cases h
theorem LD {W:Nat}{ms:List M4}(gd:Good W ms){k w:Nat}{a e z:Int}{cs:List Int}(h:cG ms k a (-1) cs=some (w,e))(le:e<=z):∃ T h,kU ms 0 (aA k a) T h/\aZ h [(w,z)]/\T.length<=cs.length:=by
 obtain ⟨Gs,lG,ih⟩:=sj gd (k:=k) (j0:=cnt ms a) cs k a (-1) w e h;obtain ⟨i,h1,h2⟩:=ih Gs (cnt ms a) (λ_ h=>h) .root (λz hz=>um gd.fM hz) (λn m hm _ lt=>by
  have:=fc gd.fM hm (t:=a);omega)
 obtain ⟨T,hh,tr,sv,l⟩:=RE gd (G:=Gs) (v:=k) (a:=a) (ws:=[(w,z)]) λx hx=>by
  cases zK.mp hx;refine ⟨⟨i,h2 z le,h1⟩,λew=>?_⟩;dsimp only at ew;have:=jR gd (jx gd) cs k a (-1) (by rw [ju];exact aE.mpr ⟨a,rfl,zl _⟩) w e h;rw [ew,ju] at this;obtain ⟨y,hy,ly⟩:=aE.mp this;cases hy;show a<=z;omega
 exact ⟨T,hh,tr,sv,by omega⟩
theorem kR {W:Nat}{ms:List M4}(gd:Good W ms){k w:Nat}{a e z:Int}{cs:List Int}(h:cG ms k a (-1) cs=some (w,e))(le:e<=z):aZ (fwd ms (aA k a)) [(w,z)]:=jW.mpr λx hx=>by
 cases zK.mp hx;have:=jR gd (jx gd) cs k a (-1) (by rw [ju];exact aE.mpr ⟨a,rfl,zl _⟩) w e h;obtain ⟨y,hy,ly⟩:=aE.mp this;exact aE.mpr ⟨y,hy,by dsimp only;omega⟩
theorem KD {W:Nat}{ms:List M4}(gd:Good W ms){k w m:Nat}{a e z x:Int}{cs:List Int}(ls:S9 ms k a w z m)(h:cG ms k a (-1) cs=some (w,e))(le:e<=z)(lc:cs.length=m)(mm:Qg ms k a [(w,z)] x):x=m:=by
 rcases mm with ⟨n,_⟩ | ⟨_,T,hh,tr,sv,rfl,mn⟩
 ·exact absurd (kR gd h le) n
 ·obtain ⟨T',h',tr',sv',l'⟩:=LD gd h le;have h1:=mn T' h' tr' sv';by_cases c:T.length < m
  ·have:=ls.2 T.length c;rw [oN tr sv] at this;cases this
  ·omega
theorem Uw {K:PySem.W.Frag}{σ:St}{H:Hp}{b tr tm:Addr}{aa:List Int}{ps:List (Addr×M4)}(hs:σ[1]?=some (some (.ref b)))(hb:aL H b aa tr tm ps){Q:VK}(q:Q (.bl (kB aa ps)) H) :
  uU (uV (sU λi j=>V.bl (decide (j < i))) (QT (λxs H Q=>∃ p ys,xs=[V.ref p]/\(aH K H p ys\/bC K H p ys)/\Q (V.int ys.length) H) (iE (uV (ql K) (lV 1) (tC (V.int 0))) nY)) (tC (V.int 8)))
   (uV (sU λi j=>V.bl (decide (j < i))) (QT (λxs H Q=>∃ p ys,xs=[V.ref p]/\(aH K H p ys\/bC K H p ys)/\Q (V.int ys.length) H) (iE (uV (ql K) (lV 1) (tC (V.int 1))) nY)) (tC (V.int 24))) σ H Q:=by
 refine ⟨_,hs,b,_,_,_,rfl,rfl,bC.of hb.book,rfl,tr,_,rfl,.inr (bC.of hb.aa),_,_,rfl,rfl,_,rfl,?_⟩;unfold kB at q;by_cases c:8 < aa.length
 ·rw [decide_eq_true c,Bool.true_or] at q;exact aI (decide_eq_true (by rw [zA];omega)) q
 ·rw [decide_eq_false c,Bool.false_or] at q;refine aF (decide_eq_false (by rw [zA];omega)) ⟨_,hs,b,_,_,_,rfl,rfl,bC.of hb.book,rfl,tm,_,rfl,.inr (bC.of hb.meets),_,_,rfl,rfl,?_⟩;show Q (.bl (decide ((24:Int) < (((ps.map λa=>V.ref a.1).length:Nat):Int)))) H;rw [show decide ((24:Int) < (((ps.map λa=>V.ref a.1).length:Nat):Int))=decide (24 < ps.length) by rw [zA];exact decide_eq_decide.mpr (by omega)];exact q
theorem tV {c:TT}{r t2:TS}{D:Ends}{σ:St}{H:Hp}(h:∀ Q:Bool->Hp->Prop,(∀ H',au H H'->Q false H')->c σ H Q)(k:∀ H',au H H'->t2 D σ H'):nX (sH c r gg) t2 D σ H:=
 h _ λH' s=>k H' s
theorem MG {c:TT}{r t2:TS}{D D':Ends}{σ:St}{H:Hp}(h:∀ Q:Bool->Hp->Prop,(∀ H',au H H'->Q false H')->c σ H Q)(k:∀ H',au H H'->t2 D σ H'):(D'.go (nX (sH c r gg) t2 D)).nx σ H:=
 h _ λH' s=>k H' s
theorem eB {P:List bK}(z:∀ a∈P,∀ b∈a.2,∀ x∈b.2,x=0)(i j s:Nat):bI (aG P) i j s=0:=by
 unfold bI aG;simp only [zb,zI];cases ha:P[i]? with
 | none=>simp
 | some a=>
  simp only [ye,xR,zI];cases hb:a.2[j]? with
  | none=>simp
  | some b=>
   simp only [ye,xR];cases hx:b.2[s]? with
   | none=>rfl
   | some x=>exact z a (zC ha) b (zC hb) x (zC hx)
theorem LB {P:List bK}{ms:List M4}{w sz:Nat}{ws:List (Addr×Nat×Int)}(z:∀ a∈P,∀ b∈a.2,∀ x∈b.2,x=0):rV ms (aG P) w sz ws:=by
 refine ⟨λst vN r hr=>?_,λk x hx i hi s hs hb=>?_,λi hi j hj s hs=>?_,λx hx s hs p lp ep=>?_⟩
 ·obtain ⟨a,ha,rfl⟩:=zS.mp vN;obtain ⟨b,hb,rfl⟩:=zS.mp hr;cases e:b.2 with
  | nil=>rfl
  | cons y ys=>exact z a ha b hb y (by rw [e];exact .head _)
 ·rw [eB z,eB z];exact zl _
 ·rw [eB z,eB z];exact zl _
 ·rw [eB z,eB z,eB z];decide
theorem gR.tup {H:Hp}{t:Addr}{n:Nat}{ms:List M4}{k:Nat}{a:Int}{K:Nat}{ws:Wq}(h:gR H t n ms k a K ws):∃ s0 u v,H t=some (.tup [.str s0,u,v])/\(s0=Str.ofString "never" \/ s0=Str.ofString "tree"):=by
 rcases h with ⟨i,lt,h1,_⟩ | ⟨lt,lp,Tl,h,P,h1,_⟩
 ·exact ⟨_,_,_,h1,.inl rfl⟩
 ·exact ⟨_,_,_,h1,.inr rfl⟩
def P8 (H:Hp)(sz:Nat)(b:jH):Prop:=H b.1=some (.lst (b.2.map V.int))/\b.2=List.replicate sz 0
def Nd (H:Hp)(w sz:Nat)(a:bK):Prop:=H a.1=some (.lst (a.2.map λb=>V.ref b.1))/\a.2.length=w/\∀ b∈a.2,P8 H sz b
theorem P8.same {H H':Hp}{sz:Nat}{b:jH}(h:P8 H sz b)(s:au H H'):P8 H' sz b:=⟨s _ _ h.1,h.2⟩
theorem Nd.same {H H':Hp}{w sz:Nat}{a:bK}(h:Nd H w sz a)(s:au H H'):Nd H' w sz a:=⟨s _ _ h.1,h.2.1,λb hb=>(h.2.2 b hb).same s⟩
theorem QH {H:Hp}{l:Addr}{nm w sz:Nat}{P:List bK}(top:H l=some (.lst (P.map λa=>V.ref a.1)))(len:P.length=nm + 1)(z:∀ a∈P,Nd H w sz a):cF H l nm w sz P:=
 ⟨top,λa ha=>(z a ha).1,λa ha b hb=>((z a ha).2.2 b hb).1,len,λa ha=>(z a ha).2.1,λa ha b hb=>by rw [((z a ha).2.2 b hb).2,yW],λa ha b hb x hx=>by
  rw [((z a ha).2.2 b hb).2] at hx;rw [List.eq_of_mem_replicate hx];decide⟩
theorem NH {H:Hp}{w sz:Nat}{P:List bK}(z:∀ a∈P,Nd H w sz a):∀ a∈P,∀ b∈a.2,∀ x∈b.2,x=0:=λa ha b hb x hx=>by
 rw [((z a ha).2.2 b hb).2] at hx;exact List.eq_of_mem_replicate hx
theorem NG (n:Nat):(List.replicate n [V.int 0]).flatten=(List.replicate n (0:Int)).map V.int:=by
 induction n with
 | zero=>rfl
 | succ n ih=>rw [yd,xO,ih,yd,zd];rfl
abbrev Pq (n:Nat):List V:=List.replicate n (V.bl false)
theorem nk {n m:Nat}{ta:TA}{σ:St}{H:Hp}{l:Addr}{Q:VK}(hl:σ[1]?=some (some (.ref l)))(kl:H l=some (.lst (Pq n)))(ht:∀ Q:List V->Hp->Prop,Q (Pq m) H->ta σ H Q)(kM:n + m<=100)(q:∀ l' H',au H H'->H' l'=some (.lst (Pq (n + m)))->Q (.ref l') H'):uV WL (lV 1) (uW ta) σ H Q:=by
 have line:1002<=sizeLine:=by rw [sizeLine_eq];decide
 refine ⟨_,hl,ht _ ⟨by rw [yW];omega,λp hp=>?_⟩⟩;have s1:=xk (o:=HO.lst (Pq m)) hp;refine ⟨l,p,_,_,rfl,rfl,s1 _ _ kl,xg,by rw [yW,yW];omega,λl' O8=>?_⟩;exact q l' _ (s1.trans (xk O8)) (by rw [xg,List.replicate_append_replicate])
end Sm
namespace L2
open PySem PySem.Spec PyProof.Rows
structure Df (K:PySem.W.Frag) (mg:Str->Option Value) (x q:Str) (st:Stmt) (f:Addr) (fd:FuncData) (ps:List Str):Prop where
 F:bV K x q st f fd
 i:Binds K fd ps []
 m:mg x=some (.ref f)
 k:xC K (.ref f)=true
theorem Df.of {K:PySem.W.Frag}{h:Heap}{mg:Str->Option Value}{x q:Str}{st:Stmt}{f:Addr}{fd:FuncData}{ps:List Str}(X:K.In h)(G:h.Ns mainGlobals mg)(e:zG K mainGlobals x=some (some (.ref f)))(F:bV K x q st f fd)
  (b:∀ (kV doc pm:Value) (an:Option Addr) (br ct:Value) (us:List Value),us.length=ps.length->bindArgs (yy x q (jy st) (ak st) (aj st) .none kV doc pm an br ct) ⟨us,[]⟩=pure (ps.zip us):=by
   (intro _ _ _ _ _ _ us hl
    first
     | exact Sm.us1 hl λ_=>rfl
     | exact Sm.us2 hl λ_ _=>rfl
     | exact Sm.us3 hl λ_ _ _=>rfl
     | exact Sm.us4 hl λ_ _ _ _=>rfl
     | exact Sm.us5 hl λ_ _ _ _ _=>rfl
     | exact Sm.us6 hl λ_ _ _ _ _ _=>rfl
     | exact Sm.us0 hl rfl)):Df K mg x q st f fd ps:=⟨F,F.binds b,zp X G e,F.kp⟩
abbrev cW {K:PySem.W.Frag}{mg:Str->Option Value}{x q:Str}{st:Stmt}{f:Addr}{fd:FuncData}{ps:List Str}(_:Df K mg x q st f fd ps)(P:Program)(w:World)(base:Heap)(k:Nat)(sp:Sp):Prop:=iC P w K mg base Ng k f fd ps sp
theorem aU {X:Cx}{n k:Nat}{x q:Str}{st:Stmt}{f:Addr}{fd:FuncData}{ps:List Str}{sp:Sp}{p pos:Pos}{e:Expr}{es:List Expr}{t:TA}(F:iC X.prog X.w X.K X.mg X.base Ng k f fd ps sp)(hr:cz n X.A)(D:Df X.K X.mg x q st f fd ps)
  (ha:PA X (e::es) t) (h:k<=n:=by decide) (hg:Gl X x:=by rfl) (t8:(x == ("__debug__" : Str))=false:=by decide) (he:starEach (e::es) X.env=(false,eval e X.env)::starEach es X.env:=by rfl) (vP:(backTo pos (starEach es X.env)).any (·.1)=false:=by rfl) :
  PE X (.Call (.Name x p) (e::es) [] pos) (iF sp [] E0 t):=Ru F (hr.mono h) hg D.m D.k D.i .nil SD ha t8 he vP
end L2
namespace L2
open PySem
set_option genInjectivity false
set_option genSizeOf false
structure Bk (X:Cx) (b:List Stmt) where
 t:TS
 ps:lO X b t
theorem bT {X:Cx}{b:List Stmt}{R:TS->Prop}(h:let Y:=X;∃ t,lO Y b t/\R t):∃ t,lO X b t/\R t:=h
theorem Bk.bl {X:Cx}{a:Stmt}{rest:List Stmt}(B:Bk X (a::rest)):uD X (a::rest) B.t:=PZ B.ps
abbrev IV:=Nat->St->Hp->Prop
abbrev IC:=Nat->St->List V->Hp->Prop
def stP:Stmt:=.Pass ⟨0,0,0,0⟩
def nb (l:List Stmt)(i:Nat):List Stmt:=match l.getD i stP with
 | .If _ a _ _=>a
 | .For _ _ a _ _=>a
 | .While _ a _ _=>a
 | _=>[]
def ne (l:List Stmt)(i:Nat):List Stmt:=match l.getD i stP with
 | .If _ _ a _=>a
 | _=>[]
end L2
namespace Sm
open PySem L2
theorem bA:1002<=sizeLine:=by rw [sizeLine_eq];decide
end Sm


namespace L2
open PySem PySem.Spec PyProof.Rows
theorem aX {N P:List Str}{sc:Scope}(a:sc.kind=.function:=by rfl)(b:sc.isCoroutine=false:=by rfl)(c:sc.isGenerator=false:=by rfl)(d:N.Nodup:=by decide +kernel)(e:N.take P.length=P:=by rfl)(f:∀ x∈P,sc.names.lookup x=some .local∨sc.names.lookup x=some .cell:=by decide +kernel)(g:∀ y∈sc.names,y.2≠.free:=by decide +kernel):av N P sc:=⟨a,b,c,d,e,f,g⟩
theorem iz {o:List Str}{c:List Nat}{N:List Str}{s p:Scope}(k:p.kind=.function:=by rfl)(a:∀ y∈p.names,y.2≠.cell:=by decide +kernel)(l:∀ y∈p.names,y.2=.local->p.names.lookup y.1=some .local:=by decide +kernel)(f:∀ y∈p.names,y.2=.free->s.names.lookup y.1=some .cell∨s.names.lookup y.1=some .free:=by decide +kernel)(g:∀ i∈c,i < N.length∧p.names.lookup ((N[i]?).getD Str.empty)=some .free:=by decide +kernel):aK o c N s p:=⟨k,a,l,f,g⟩
end L2
namespace Sm
open PySem L2
def top (i:Nat):Stmt:=PySem.Challenge.pw_satchelmeet_k62_too_many_to_spread.main.body.getD i (.Pass ⟨0,0,0,0⟩)
abbrev qI:Stmt:=top 73
abbrev qU:Stmt:=top 74
abbrev DE:Stmt:=top 75
abbrev qZ:Stmt:=top 76
abbrev BC:Stmt:=top 77
abbrev wG:Stmt:=top 78
abbrev BD:Stmt:=top 79
abbrev wu:Stmt:=top 80
abbrev FO:Stmt:=top 21
abbrev EH:Stmt:=top 22
abbrev GQ:Stmt:=top 23
abbrev FQ:Stmt:=top 24
abbrev GP:Stmt:=top 25
abbrev FP:Stmt:=top 26
abbrev BY:Stmt:=top 27
abbrev qP:Stmt:=top 29
abbrev EI:Stmt:=top 30
abbrev Fo:Stmt:=top 31
abbrev GO:Stmt:=top 32
abbrev FN:Stmt:=top 33
abbrev DC:Stmt:=top 34
abbrev Ho:Stmt:=top 37
abbrev Cs:Stmt:=top 38
abbrev GA:Stmt:=top 39
abbrev qa:Stmt:=top 41
abbrev wg:Stmt:=top 40
abbrev qC:Stmt:=top 42
abbrev wW:Stmt:=top 43
abbrev wX:Stmt:=top 44
abbrev wN:Stmt:=top 45
abbrev qJ:Stmt:=top 36
abbrev BB:Stmt:=top 47
abbrev wc:Stmt:=top 51
abbrev Bo:Stmt:=top 49
abbrev qG:Stmt:=top 50
abbrev qb:Stmt:=top 58
abbrev DD:Stmt:=top 59
abbrev EG:Stmt:=top 57
abbrev wt:Stmt:=top 56
abbrev BX:Stmt:=top 61
abbrev wd:Stmt:=top 60
abbrev Hn:Stmt:=top 55
abbrev BA:Stmt:=top 64
abbrev qR:Stmt:=top 63
abbrev DB:Stmt:=top 67
abbrev qd:Stmt:=top 66
abbrev Dr:Stmt:=top 65
abbrev CY:Stmt:=top 71
abbrev wz:Stmt:=top 70
abbrev qS:Stmt:=top 69
abbrev qK:Stmt:=top 81
abbrev w8:Stmt:=top 82
abbrev CZ:Stmt:=top 83
abbrev qe:Stmt:=top 84
abbrev Jf:Stmt:=top 85
def cK:Pos:=⟨207,33,207,76⟩
set_option genInjectivity false
set_option genSizeOf false
structure Ad where
 Bg:Addr
 Cj:FuncData
 BN:Addr
 Dd:FuncData
 CO:Addr
 Ee:FuncData
 Bf:Addr
 Ci:FuncData
 BO:Addr
 De:FuncData
 Ap:Addr
 AK:FuncData
 BP:Addr
 Dg:FuncData
 BM:Addr
 Dc:FuncData
 CK:Addr
 Ea:FuncData
 BH:Addr
 C7:FuncData
 Dz:Addr
 Fu:FuncData
 CM:Addr
 Ec:FuncData
 Dy:Addr
 Ft:FuncData
 CL:Addr
 Eb:FuncData
 Bd:Addr
 Cg:FuncData
 Ag:Addr
 Am:FuncData
 BI:Addr
 C8:FuncData
 DA:Addr
 Fv:FuncData
 HV:Addr
 IR:FuncData
 CI:Addr
 D8:FuncData
 CJ:Addr
 D9:FuncData
 E9:Addr
 GI:FuncData
 Ax:Addr
 A4:FuncData
 E6:Addr
 GF:FuncData
 Ba:Addr
 Ce:FuncData
 Ak:Addr
 As:FuncData
 Ai:Addr
 Aq:FuncData
 Al:Addr
 At:FuncData
 Aj:Addr
 Ar:FuncData
 Af:Addr
 Ah:FuncData
 A8:Addr
 Cc:FuncData
 BJ:Addr
 C9:FuncData
 Ao:Addr
 AJ:FuncData
 An:Addr
 AA:FuncData
 CN:Addr
 Ed:FuncData
 A7:Addr
 Cb:FuncData
 GJ:Addr
 Hi:FuncData
 E7:Addr
 GG:FuncData
 Ay:Addr
 A5:FuncData
 Bc:Addr
 AB:FuncData
 Dw:Addr
 Fs:FuncData
 Dx:Addr
 E5:FuncData
 BG:Addr
 C6:FuncData
 AG:Addr
 By:FuncData
 A9:Addr
 Cd:FuncData
 Bb:Addr
 Cf:FuncData
 E8:Addr
 GH:FuncData
 BK:Addr
 Da:FuncData
 A6:Addr
 Ca:FuncData
 AF:Addr
 Bx:FuncData
 Be:Addr
 Ch:FuncData
 Bt:Addr
 Cz:FuncData
 BL:Addr
 Db:FuncData
 Bh:Addr
 Ck:FuncData
 IB:Addr
 JG:FuncData
 tC:Addr
 tP:Addr
 Ej:Addr
 AQ:Addr
 CH:Addr
 Bs:Addr
 Ei:Addr
 CG:Addr
 AN:Addr
 Aw:Addr
 CF:Addr
 CD:Addr
 CC:Addr
 Eg:Addr
 CB:Addr
 CA:Addr
 AM:Addr
 AL:Addr
 Aa:Addr
 Ef:Addr
structure Tx (K:PySem.W.Frag) (mg:Str->Option Value) (a:Ad) (uC:Tok) (fZ:Tok) (fU:Tok):Prop where
 AW:Df K mg "_law_purse" "_law_purse" qI a.Bg a.Cj ["_law_script", "_law_k"]
 Ac:Df K mg "_law_take" "_law_take" qU a.BN a.Dd ["_law_purse_here", "_law_many"]
 FT:Df K mg "_law_far" "_law_far" DE a.CO a.Ee ["_law_purse_here"]
 B9:Df K mg "_law_rooms" "_law_rooms" qZ a.Bf a.Ci ["_law_purse_here", "_law_walkers"]
 EM:Df K mg "_law_step" "_law_step" BC a.BO a.De ["_law_purse_here"]
 AI:Df K mg "_law_meetings" "_law_meetings" wG a.Ap a.AK ["_law_purse_here", "_law_walkers", "_law_most"]
 EN:Df K mg "_law_book" "_law_book" BD a.BP a.Dg ["_law_purse_here", "_law_most_walkers", "_law_most_meetings"]
 C4:Df K mg "_law_time" "_law_time" wu a.BM a.Dc ["_law_purse_here", "_law_book_here", "_law_later"]
 DI:Df K mg "is_whole" "is_whole" FO a.CK a.Ea ["thing"]
 BE:Df K mg "is_within" "is_within" EH a.BH a.C7 ["thing", "least", "most"]
 Fp:Df K mg "is_time" "is_time" GQ a.Dz a.Fu ["thing"]
 Cv:Df K mg "is_below" "is_below" FQ a.CM a.Ec ["number", "bound"]
 Cm:Df K mg "is_upto" "is_upto" GP a.Dy a.Ft ["number", "bound"]
 FR:Df K mg "is_count" "is_count" FP a.CL a.Eb ["thing"]
 DM:Df K mg "are_counts" "are_counts" BY a.Bd a.Cg ["thing", "size"]
 AC:Df K mg "is_meeting_number" "is_meeting_number" qP a.Ag a.Am ["book", "thing"]
 BF:Df K mg "is_walker" "is_walker" EI a.BI a.C8 ["book", "thing"]
 Cn:Df K mg "by_time" "by_time" Fo a.DA a.Fv ["book", "time"]
 GR:Df K mg "ways" "ways" GO a.HV a.IR ["book"]
 Bp:Df K mg "other_at" "other_at" FN a.CI a.D8 ["book", "number", "walker"]
 Ct:Df K mg "lone_row" "lone_row" DC a.CJ a.D9 ["book", "walker", "number"]
 Dt:Df K mg "all_of" "all_of" Ho a.E9 a.GI ["wishes"]
 AR:Df K mg "without_wish" "without_wish" Cs a.Ax a.A4 ["some", "number"]
 EJ:Df K mg "splits" "splits" GA a.E6 a.GF ["some"]
 DJ:Df K mg "is_stretch" "is_stretch" qa a.Ba a.Ce ["book", "wishes", "thing"]
 AU:Df K mg "has_prices_form" "has_prices_form" wg a.Ak a.As ["book", "wishes", "thing"]
 AS:Df K mg "is_nothing_free" "is_nothing_free" qC a.Ai a.Aq ["prices"]
 AV:Df K mg "are_wishes_free" "are_wishes_free" wW a.Al a.At ["book", "wishes", "prices"]
 AT:Df K mg "is_keeping_free" "is_keeping_free" wX a.Aj a.Ar ["prices"]
 Au:Df K mg "is_giving_one_more" "is_giving_one_more" wN a.Af a.Ah ["book", "prices"]
 DG:Df K mg "price_told" "price_told" qJ a.A8 a.Cc ["book", "sender", "since", "wishes", "thing"]
 C3:Df K mg "is_letter" "is_letter" BB a.BJ a.C9 ["book", "thing"]
 AH:Df K mg "first_givings" "first_givings" wc a.Ao a.AJ ["book", "sender", "since"]
 Bq:Df K mg "earliest_times" "earliest_times" Bo a.An a.AA ["book", "sender", "since"]
 FS:Df K mg "earliest" "earliest" qG a.CN a.Ed ["book", "letter"]
 BZ:Df K mg "still_open" "still_open" qb a.A7 a.Cb ["book", "wishes", "stretch", "walker", "some"]
 IE:Df K mg "least" "least" DD a.GJ a.Hi ["book", "stretch", "walker", "some", "following"]
 Hq:Df K mg "row_of" "row_of" EG a.E7 a.GG ["book", "wishes", "stretch", "walker", "following"]
 Cu:Df K mg "least_prices" "least_prices" wt a.Ay a.A5 ["book", "wishes"]
 DL:Df K mg "best_split" "best_split" BX a.Bc a.AB ["kept", "given", "some"]
 GS:Df K mg "tree_by" "tree_by" wd a.Dw a.Fs ["book", "sender", "since", "wishes", "prices"]
 GB:Df K mg "spread" "spread" Hn a.Dx a.E5 ["book", "sender", "since", "wishes"]
 C1:Df K mg "row_after" "row_after" BA a.BG a.C6 ["book", "row"]
 Dj:Df K mg "giving_rows" "giving_rows" qR a.AG a.By ["book", "sender", "since"]
 DH:Df K mg "meeting_at" "meeting_at" DB a.A9 a.Cd ["book", "walker", "time"]
 DK:Df K mg "chain_back" "chain_back" qd a.Bb a.Cf ["book", "rows", "wish"]
 Hr:Df K mg "fewest" "fewest" Dr a.E8 a.GH ["book", "letter"]
 EK:Df K mg "is_giving" "is_giving" CY a.BK a.Da ["book", "thing"]
 DF:Df K mg "tree_times" "tree_times" wz a.A6 a.Ca ["book", "sender", "since", "thing"]
 Di:Df K mg "tree_serves" "tree_serves" qS a.AF a.Bx ["book", "sender", "since", "wishes", "thing"]
 DN:Df K mg "_law_sized" "_law_sized" qK a.Be a.Ch ["_law_script"]
 DO:Df K mg "_law_own" "_law_own" w8 a.Bt a.Cz ["_law_error"]
 EL:Df K mg "_law_told" "_law_told" CZ a.BL a.Db ["_law_book_here", "_law_sender", "_law_since", "_law_wishes"]
 DP:Df K mg "_law_alone" "_law_alone" qe a.Bh a.Ck ["_law_book_here", "_law_sender", "_law_since", "_law_wish", "_law_told_here"]
 Kj:Df K mg "law" "law" Jf a.IB a.JG ["_law_script"]
 rP:mg "ValueError" = none
 ux:mg "all" = none
 P5:mg "any" = none
 Vr:mg "bool" = none
 bS:mg "enumerate" = none
 Yc:mg "int" = none
 az:mg "isinstance" = none
 bw:mg "len" = none
 nF:mg "list" = none
 P4:mg "max" = none
 Ls:mg "min" = none
 cQ:mg "range" = none
 Ky:mg "reversed" = none
 uw:mg "sorted" = none
 jC:mg "tuple" = none
 P1:mg "zip" = none
 aag:PySem.W.codeHdIn K a.tC a.tP=true
 aah:a.AB.code=.ref a.tC
 Kd:mg "HasIt" = some (.ref a.Ej)
 Jl:mg "MeetError" = some (.ref a.AQ)
 JW:mg "NoBook" = some (.ref a.CH)
 JL:mg "NoClaim" = some (.ref a.Bs)
 Kc:mg "NoDay" = some (.ref a.Ei)
 JV:mg "NoDeed" = some (.ref a.CG)
 Jv:mg "NoLetter" = some (.ref a.AN)
 Jk:mg "NoMeeting" = some (.ref a.Aw)
 JU:mg "NoName" = some (.ref a.CF)
 JT:mg "NoPass" = some (.ref a.CD)
 JS:mg "NoRoom" = some (.ref a.CC)
 Kb:mg "NoRow" = some (.ref a.Eg)
 JR:mg "NoRule" = some (.ref a.CB)
 JQ:mg "NoText" = some (.ref a.CA)
 Ju:mg "NoWalker" = some (.ref a.AM)
 Jt:mg "NotThere" = some (.ref a.AL)
 IA:mg "TooMany" = some (.ref a.Aa)
 Ka:mg "Twice" = some (.ref a.Ef)
 Ae:oA K a.Aa
 abX:PySem.W.exmOne K (.ref a.Aa) (.ref a.AQ)=some true
 abW:zR K (.ref a.Aa) (.type "ValueError")=some true
 Kh:zR K (.ref a.Aa) (.ref a.Ej)=some false
 J6:zR K (.ref a.Aa) (.ref a.CH)=some false
 JM:zR K (.ref a.Aa) (.ref a.Bs)=some false
 Kg:zR K (.ref a.Aa) (.ref a.Ei)=some false
 J5:zR K (.ref a.Aa) (.ref a.CG)=some false
 Jz:zR K (.ref a.Aa) (.ref a.AN)=some false
 Jm:zR K (.ref a.Aa) (.ref a.Aw)=some false
 J1:zR K (.ref a.Aa) (.ref a.CF)=some false
 J0:zR K (.ref a.Aa) (.ref a.CD)=some false
 JZ:zR K (.ref a.Aa) (.ref a.CC)=some false
 Kf:zR K (.ref a.Aa) (.ref a.Eg)=some false
 JY:zR K (.ref a.Aa) (.ref a.CB)=some false
 Jx:zR K (.ref a.Aa) (.ref a.AL)=some false
 JX:zR K (.ref a.Aa) (.ref a.CA)=some false
 Jy:zR K (.ref a.Aa) (.ref a.AM)=some false
 Ke:zR K (.ref a.Aa) (.ref a.Ef)=some false
 uu:mg "LAST_TIME" = some (.int 1000000000 uC)
 fY:mg "MOST_SPREAD_WALKERS" = some (.int 8 fZ)
 fR:mg "MOST_SPREAD_MEETINGS" = some (.int 24 fU)
section
theorem FH:av ["_law_script", "_law_k", "_law_cell", "_law_left"] ["_law_script", "_law_k"] (aj qI):=L2.aX
theorem Gx:av ["_law_purse_here", "_law_many", "_law_digit", "_law_mixed"] ["_law_purse_here", "_law_many"] (aj qU):=L2.aX
theorem Hc:av ["_law_purse_here", "_law_high"] ["_law_purse_here"] (aj DE):=L2.aX
theorem FG:av ["_law_purse_here", "_law_walkers", "_law_rooms_here", "_law_walker", "_law_room"] ["_law_purse_here", "_law_walkers"] (aj qZ):=L2.aX
theorem Gy:av ["_law_purse_here", "_law_way"] ["_law_purse_here"] (aj BC):=L2.aX
theorem Dq:av ["_law_purse_here", "_law_walkers", "_law_most", "_law_found", "_law_when", "_law_busy", "_law_k", "_law_one", "_law_other", "_law_gap", "_law_passed", "_law_late"] ["_law_purse_here", "_law_walkers", "_law_most"] (aj wG):=L2.aX
theorem Gz:av ["_law_purse_here", "_law_most_walkers", "_law_most_meetings", "_law_walkers", "_law_most"] ["_law_purse_here", "_law_most_walkers", "_law_most_meetings"] (aj BD):=L2.aX
theorem Gw:av ["_law_purse_here", "_law_book_here", "_law_later", "_law_way", "_law_at"] ["_law_purse_here", "_law_book_here", "_law_later"] (aj wu):=L2.aX
theorem G7:av ["thing"] ["thing"] (aj FO):=L2.aX
theorem Gp:av ["thing", "least", "most"] ["thing", "least", "most"] (aj EH):=L2.aX
theorem Hl:av ["thing"] ["thing"] (aj GQ):=L2.aX
theorem G9:av ["number", "bound"] ["number", "bound"] (aj FQ):=L2.aX
theorem Hk:av ["number", "bound"] ["number", "bound"] (aj GP):=L2.aX
theorem G8:av ["thing"] ["thing"] (aj FP):=L2.aX
theorem FE:av ["thing", "size"] ["thing", "size"] (aj BY):=L2.aX
theorem Bz:av ["book", "thing"] ["book", "thing"] (aj qP):=L2.aX
theorem Gq:av ["book", "thing"] ["book", "thing"] (aj EI):=L2.aX
theorem Hm:av ["book", "time"] ["book", "time"] (aj Fo):=L2.aX
theorem JF:av ["book", "told", "number", "one", "other", "when", "many"] ["book"] (aj GO):=L2.aX
theorem G5:av ["book", "number", "walker", "one", "other", "when", "many"] ["book", "number", "walker"] (aj FN):=L2.aX
theorem G6:av ["book", "walker", "number"] ["book", "walker", "number"] (aj DC):=L2.aX
theorem Iz:av ["wishes"] ["wishes"] (aj Ho):=L2.aX
theorem EA:av ["some", "number"] ["some", "number"] (aj Cs):=L2.aX
theorem Iw:av ["some"] ["some"] (aj GA):=L2.aX
theorem FB:av ["book", "wishes", "thing"] ["book", "wishes", "thing"] (aj qa):=L2.aX
theorem Cq:av ["book", "wishes", "thing"] ["book", "wishes", "thing"] (aj wg):=L2.aX
theorem Co:av ["prices"] ["prices"] (aj qC):=L2.aX
theorem Cr:av ["book", "wishes", "prices", "number", "walker", "last", "stretch", "row"] ["book", "wishes", "prices"] (aj wW):=L2.aX
theorem Cp:av ["prices", "stretch", "following", "row", "later"] ["prices"] (aj wX):=L2.aX
theorem Bn:av ["book", "prices", "number", "giver", "other", "when", "kept", "given", "some", "price"] ["book", "prices"] (aj wN):=L2.aX
theorem Fz:av ["book", "sender", "since", "wishes", "thing"] ["book", "sender", "since", "wishes", "thing"] (aj qJ):=L2.aX
theorem Gr:av ["book", "thing", "sender", "since", "wish", "last"] ["book", "thing"] (aj BB):=L2.aX
theorem Dp:av ["book", "sender", "since", "times", "came", "number", "giver", "other", "when"] ["book", "sender", "since"] (aj wc):=L2.aX
theorem CW:av ["book", "sender", "since", "times", "came"] ["book", "sender", "since"] (aj Bo):=L2.aX
theorem Ha:av ["book", "letter", "sender", "since", "wish", "last", "times", "came", "chain", "walker", "number"] ["book", "letter"] (aj qG):=L2.aX
theorem Fy:av ["book", "wishes", "stretch", "walker", "some", "left", "number", "wished", "last"] ["book", "wishes", "stretch", "walker", "some"] (aj qb):=L2.aX
theorem Je:av ["book", "stretch", "walker", "some", "following", "price", "other"] ["book", "stretch", "walker", "some", "following"] (aj DD):=L2.aX
theorem Ix:av ["book", "wishes", "stretch", "walker", "following", "row", "some", "left"] ["book", "wishes", "stretch", "walker", "following"] (aj EG):=L2.aX
theorem EB:av ["book", "wishes", "prices", "stretch", "following"] ["book", "wishes"] (aj wt):=L2.aX
theorem FD:av ["kept", "given", "some"] ["kept", "given", "some"] (aj BX):=L2.aX
theorem Hj:av ["book", "sender", "since", "wishes", "prices", "givings", "parts", "stretch", "walker", "some", "following", "other", "part", "rest"] ["book", "sender", "since", "wishes", "prices"] (aj wd):=L2.aX
theorem Iv:av ["book", "sender", "since", "wishes", "number", "walker", "last", "prices"] ["book", "sender", "since", "wishes"] (aj Hn):=L2.aX
theorem Gn:av ["book", "row", "following", "number", "giver", "other", "when"] ["book", "row"] (aj BA):=L2.aX
theorem EF:av ["book", "sender", "since", "rows", "following"] ["book", "sender", "since"] (aj qR):=L2.aX
theorem FA:av ["book", "walker", "time", "number", "giver", "other", "when"] ["book", "walker", "time"] (aj DB):=L2.aX
theorem FC:av ["book", "rows", "wish", "chain", "walker", "row", "number"] ["book", "rows", "wish"] (aj qd):=L2.aX
theorem Iy:av ["book", "letter", "sender", "since", "wish", "last", "rows", "many", "row"] ["book", "letter"] (aj Dr):=L2.aX
theorem Gu:av ["book", "thing", "number", "giver"] ["book", "thing"] (aj CY):=L2.aX
theorem Fx:av ["book", "sender", "since", "thing", "times", "behind", "part", "number", "giver", "when", "other"] ["book", "sender", "since", "thing"] (aj wz):=L2.aX
theorem EE:av ["book", "sender", "since", "wishes", "thing", "times"] ["book", "sender", "since", "wishes", "thing"] (aj qS):=L2.aX
theorem FF:av ["_law_script", "_law_head", "_law_purse_here", "_law_walkers", "_law_meetings_here"] ["_law_script"] (aj qK):=L2.aX
theorem Hb:av ["_law_error", "_law_others"] ["_law_error"] (aj w8):=L2.aX
theorem Gv:av ["_law_book_here", "_law_sender", "_law_since", "_law_wishes", "_law_found", "_law_own_here", "_law_error"] ["_law_book_here", "_law_sender", "_law_since", "_law_wishes"] (aj CZ):=L2.aX
theorem FI:av ["_law_book_here", "_law_sender", "_law_since", "_law_wish", "_law_told_here", "_law_chain"] ["_law_book_here", "_law_sender", "_law_since", "_law_wish", "_law_told_here"] (aj qe):=L2.aX
theorem JO:av ["_law_script", "_law_book_here", "_law_many", "_law_k", "_law_purse_here", "_law_sender", "_law_since", "_law_wish", "_law_more", "_law_wishes", "_law_found", "_law_own_here", "_law_noughts"] ["_law_script"] (aj Jf):=L2.aX
variable (P:Program) (w:World) {K:PySem.W.Frag}{mg:Str->Option Value} (base:Heap) {a:Ad}{aq:Tok}{ai:Tok}{af:Tok}(T:Tx K mg a aq ai af)(B:aR mg base)
include T B
theorem FL:cW T.AW P w base 1 (Q3 K):=by
 refine T.AW.F.ok FH (λvs H Q E h=>?_) (λbr A outer s H vs Q E hr h=>?_)
 ·obtain ⟨a,ns,k,rfl,_⟩:=h;rfl
 ·have nd:=FH.nd;have hu:=hr.units;obtain ⟨sa,ns,k,rfl,hS,hk,q⟩:=h;refine bT ?_;intro Y
  let B0:Bk Y ((ak qI).drop 5):=⟨_,(xh (wB (xu (wM (xb (xf (pv 3) (xf (wA gw (wA wJ (wA wJ (wA dO (pv 2) xi) (wA dO (pv 1) xi)) xi) xi) (xf xi xl rfl) rfl) rfl))))))⟩
  let B1:Bk Y ((ak qI).drop 3):=⟨_,(xh (xy (wK (wD KY (pv 2) xi (aB _)) (xh (wB (xt (i:=3) nd rfl rfl (wA fO (sZ lS xi) (pv 2))))) wC) (xy (wK (wD SG (pv 2) (wA iW xi xi) (aB _)) (xh (wB (xt (i:=3) nd rfl rfl (pv 2)))) wC) B0.bl)))⟩
  let B2:Bk Y ((ak qI).drop 1):=⟨_,(xh (xy (wK (wD KY (pv 1) (xr (xw rfl) (by rfl) T.bw PySem.boot_len (xb (xf (pv 0) xl rfl))) (aB _)) (xh (wB (xt (i:=2) nd rfl rfl (xz (xx rfl) (pv 0) (pv 1) (λ_ _=>rfl))))) wC) (xy (xt (i:=3) nd rfl rfl xi) B1.bl)))⟩
  refine ⟨_,(xh (xy (xt (i:=2) nd rfl rfl xi) B2.bl)),?_⟩;have c18:KJ 10 18:=⟨by decide,by decide,by decide⟩;have s3:3<=sizeLine:=by rw [sizeLine_eq];decide
  have fin:∀ (x y:Int) p,H p=none->Q (.ref p) (upd H p (.lst [.int x,.int y,.int 0])):=λx y p hp=>q p _ hp ⟨x,y,0,xg⟩ (xk hp);have c69:∀ x:Int,Nh x 69:=λx=>.inr ⟨by decide,by decide⟩;have ab7:∀ x:Int,Nh x 40503:=λx=>.inr ⟨by decide,by decide⟩;refine (zr rfl (zr rfl ⟨sa,zr rfl ⟨.inl hS,aM rfl rfl (zr rfl (tQ (fun σ H1=>∃ c:Int,σ=[some (.ref sa),some (.int k),some (.int c),none]/\H=H1) ?_ (λc k0=>?_) (λc=>⟨0,rfl,rfl⟩)))⟩⟩))
  ·rintro σ H1 ⟨c,rfl,rfl⟩;refine (zr rfl (aM rfl rfl (zr rfl (tQ (fun σ H1=>∃ d:Int,σ=[some (.ref sa),some (.int k),some (.int c),some (.int d)]/\H=H1) ?_ (λz k0=>?_) (λz=>⟨0,rfl,rfl⟩)))))
   ·rintro σ H1 ⟨d,rfl,rfl⟩;refine (zr rfl (aM rfl rfl ⟨c18,aM rfl rfl (zr rfl (tQ (fun σ H1=>∃ d:Int,σ=[some (.ref sa),some (.int k),some (.int c),some (.int d)]/\H=H1) ?_ (λz k0=>(zr rfl (k0 _ _ ⟨c,rfl,rfl⟩))) (λz=>⟨d,rfl,rfl⟩)))⟩));rintro σ H1 ⟨d,rfl,rfl⟩;exact (zr rfl (zr rfl (aM rfl rfl ⟨c69 _,zr rfl (aM rfl rfl ⟨ab7 _,aM rfl rfl (aM rfl rfl (aM rfl rfl ⟨(by show (0:Int) < 2147483647;decide),s3,fin _ _⟩))⟩)⟩)))
   ·exact (zr rfl (zr rfl (aM rfl rfl (k0 _ _ (zr rfl rfl)))))
  ·have hk2:k < ns.length:=by
    have:=of_decide_eq_true c;rw [zA] at this;omega
   exact (zr rfl (zr rfl ⟨sa,_,aM rfl rfl ⟨hS,wF (v:=V.int ns[k]) (by simp [hk2]),k0 _ _ (zr rfl rfl)⟩⟩))
theorem wj:cW T.Ac P w base 1 (TZ):=by
 refine T.Ac.F.ok Gx (λvs H Q E h=>?_) (λbr A outer s H vs Q E hr h=>?_)
 ·obtain ⟨p,n,rfl,_⟩:=h;rfl
 ·have nd:=Gx.nd;have hu:=hr.units;obtain ⟨p,n,rfl,n0,n1,⟨x,y,z,hp⟩,q⟩:=h;refine bT ?_;intro Y
  let B0:Bk Y ((ak qU).drop 3):=⟨_,(xh (xy (xt (i:=3) nd rfl rfl (wA gw (wA wJ (wA wJ (wA dO (pv 3) (pv 3)) (wA dO (xz (xx rfl) (pv 0) xi (λ_ _=>rfl)) xi)) (xz (xx rfl) (pv 0) xi (λ_ _=>rfl))) xi)) (wB (xu (wA gw (wA cS (wA gw (wA dO (pv 3) xi) xi) xi) (pv 1))))))⟩
  let B1:Bk Y ((ak qU).drop 2):=⟨_,(xh (xy (xt (i:=3) nd rfl rfl (wA gw (wA dO (wA wJ (xz (xx rfl) (pv 0) xi (λ_ _=>rfl)) (wA dO (xz (xx rfl) (pv 0) xi (λ_ _=>rfl)) xi)) xi) xi)) B0.bl))⟩
  let B2:Bk Y (nb (ak qU) 0):=⟨_,(xh (xy (xt (i:=2) nd rfl rfl (wA gw (xz (xx rfl) (pv 0) xi (λ_ _=>rfl)) (pv 1))) (xy (qN (wA cS (xz (xx rfl) (pv 0) xi (λ_ _=>rfl)) (pv 1)) (qp (pv 0) xi set_list)) (wB (xu (pv 2))))))⟩
  refine ⟨_,(xh (xy (wK (wD iH (xz (xx rfl) (pv 0) xi (λ_ _=>rfl)) xi (aB _)) B2.ps wC) (xy (Rn (pv 0) xi (Pg rfl) xi UH set_list) B1.bl))),?_⟩;have hS:aH K H p _:=aH.of hp;have cm:∀ x c:Int,-(2 ^ 64) < c->c < 2 ^ 64->Nh x c:=λx c h h'=>.inr ⟨h,h'⟩;refine (zr rfl ⟨p,_,aM rfl rfl ⟨hS,rfl,aM rfl rfl (zr rfl (j6 (λh1=>?_) λh1=>?_))⟩⟩)
  ·refine (zr rfl ⟨p,_,aM rfl rfl ⟨hS,rfl,zr rfl (aM rfl rfl ⟨n0,?_⟩)⟩⟩);refine (zr rfl ⟨p,_,aM rfl rfl ⟨hS,rfl,zr rfl (aM rfl rfl ⟨⟨n0,n1⟩,zr rfl ⟨p,_,_,0,rfl,rfl,hp,rfl,?_⟩⟩)⟩⟩);exact (zr rfl (q _ _ (xK _ (by omega)) (yr _ n0) ⟨cX.set,_,_,_,xg⟩))
  ·refine (zr rfl ⟨p,_,aM rfl rfl ⟨hS,rfl,aM rfl rfl ⟨p,_,_,2,rfl,rfl,hp,rfl,?_⟩⟩⟩);have h2:(upd H p (HO.lst ([V.int x,V.int y,V.int z].set 2 (.int (z + 1))))) p=some (.lst [V.int x,V.int y,V.int (z + 1)]):=xg;have b2:cX p H (upd H p (HO.lst ([V.int x,V.int y,V.int z].set 2 (.int (z + 1))))):=cX.set;generalize upd H p (HO.lst ([V.int x,V.int y,V.int z].set 2 (.int (z + 1))))=H2 at h2 b2 ⊢;have YZ:aH K H2 p _:=aH.of h2;have big:(2147483647:Int) < 2 ^ 64:=by decide
   have low:-(2:Int) ^ 64 < 0:=by decide
   have pos:(0:Int) < 2147483647:=by decide
   refine (zr rfl ⟨p,_,aM rfl rfl ⟨YZ,rfl,zr rfl ⟨p,_,aM rfl rfl ⟨YZ,rfl,aM rfl rfl ⟨cm _ _ (by decide) (by decide),aM rfl rfl (aM rfl rfl ⟨cm _ _ (by decide) (by decide),aM rfl rfl ⟨(by show (0:Int) < 2147483647;decide),?_⟩⟩)⟩⟩⟩⟩⟩);have m0:=xK ((y + (z + 1) * 362437) * 48271) (show (2147483647:Int)≠0 by decide);have m1:=yr ((y + (z + 1) * 362437) * 48271) pos;refine (zr rfl (zr rfl (aM rfl rfl ⟨.inl ⟨Int.lt_of_lt_of_le low m0,Int.lt_trans m1 big⟩,zr rfl ⟨p,_,aM rfl rfl ⟨YZ,rfl,aM rfl rfl ⟨cm _ _ (by decide) (by decide),aM rfl rfl (zr rfl ⟨p,_,aM rfl rfl ⟨YZ,rfl,aM rfl rfl (aM rfl rfl ⟨(by show (0:Int) < 2147483629;decide),?_⟩)⟩⟩)⟩⟩⟩⟩)));refine (zr rfl (aM rfl rfl ⟨cm _ _ (by decide) (by decide),aM rfl rfl ⟨(by show (0:Int) < 2147483563;decide),aM rfl rfl ⟨⟨by decide,by decide⟩,zr rfl (aM rfl rfl ⟨n0,?_⟩)⟩⟩⟩));exact q _ _ (xK _ (by omega)) (yr _ n0) ⟨b2,_,_,_,h2⟩
theorem Jj:cW T.FT P w base 2 (Wz):=by
 have Ab:=wj P w base T B;refine T.FT.F.ok Hc (λvs H Q E h=>?_) (λbr A outer s H vs Q E hr h=>?_)
 ·obtain ⟨p,rfl,_⟩:=h;rfl
 ·have nd:=Hc.nd;have hu:=hr.units;obtain ⟨p,rfl,hp,q⟩:=h;refine bT ?_;intro Y
  let B0:Bk Y ((ak DE).drop 1):=⟨_,(xh (wB (xu (wA gw (wA wJ (wA dO (pv 1) xi) (aU Ab hr T.Ac (xb (xf (pv 0) (xf xi xl rfl) rfl)))) (wA wJ (wA iW xi xi) xi)))))⟩
  refine ⟨_,(xh (xy (xt (i:=1) nd rfl rfl (aU Ab hr T.Ac (xb (xf (pv 0) (xf xi xl rfl) rfl)))) B0.bl)),?_⟩;refine (zr rfl ⟨p,zr rfl ⟨by decide,by decide,hp,λd H1 d0 d1 g1=>(zr rfl (aM rfl rfl ⟨.inr ⟨by decide,by decide⟩,zr rfl ⟨p,zr rfl ⟨by decide,by decide,g1.2,λe H2 e0 e1 g2=>(aM rfl rfl (aM rfl rfl ⟨⟨by decide,by decide,by decide⟩,aM rfl rfl (aM rfl rfl ⟨(by show (0:Int) < 10 ^ Int.toNat 9 + 1;decide),?_⟩)⟩))⟩⟩⟩))⟩⟩);have e9:(10:Int) ^ Int.toNat 9 + 1=1000000001:=by decide
  rw [e9];exact q _ _ (xK _ (by decide)) (Int.lt_add_one_iff.mp (yr _ (by decide))) (g1.trans g2)
theorem FK:cW T.B9 P w base 2 (QZ):=by
 have Ab:=wj P w base T B;refine T.B9.F.ok FG (λvs H Q E h=>?_) (λbr A outer s H vs Q E hr h=>?_)
 ·obtain ⟨p,n,rfl,_⟩:=h;rfl
 ·have nd:=FG.nd;have hu:=hr.units;obtain ⟨p,n,rfl,hn,hp,q⟩:=h;refine bT ?_;intro Y
  let B0:Bk Y ((nb (ak qZ) 1).drop 1):=⟨_,(xh (xy (wK (wD qL (pv 4) xi (aB _)) (xh (wB (xt (i:=4) nd rfl rfl (aU Ab hr T.Ac (xb (xf (pv 0) (xf xi xl rfl) rfl)))))) wC) (wB (qH (fu ze zg zh wY (pv 2) (xb (xf (pv 4) xl rfl)))))))⟩
  let B1:Bk Y ((ak qZ).drop 1):=⟨_,(xh (xy (wl PassesOwn.never rfl (qT rfl T.cQ (xb (xf (pv 1) xl rfl))) (xp (i:=3) nd rfl rfl) (xh (xy (xt (i:=4) nd rfl rfl (wA cS (aU Ab hr T.Ac (xb (xf (pv 0) (xf xi xl rfl) rfl))) xi)) B0.bl))) (wB (xu (j3 (iM) (by rfl) T.jC yj (xb (xf (pv 2) xl rfl)))))))⟩
  refine ⟨_,(xh (xy (xt (i:=2) nd rfl rfl (wM qX)) B1.bl)),?_⟩;have line:1001<=sizeLine:=by rw [sizeLine_eq];decide
  refine ⟨za _,λl hl=>?_⟩;have npl:=hp.ne hl;refine (zr rfl (zr rfl ⟨by omega,by omega,?_⟩));refine (let W1:IV:=λi σ H2=>∃ v3 v4 rs,σ=[some (.ref p),some (.int n),some (.ref l),v3,v4]/\H2 l=some (.lst (List.map V.int rs))/\rs.length=i/\(∀ r∈rs,(0:Int)<=r/\r<=99)/\Go p H H2;ir (lo:=0) (n:=n) W1)
   ⟨_,_,[],rfl,xg,rfl,(λ_ z=>nomatch z),(Go.refl hp).new hl⟩ ?_ ?_
  ·rintro i σ H2 hi ⟨v3,v4,rs,rfl,h2,hlen,hr,go⟩;refine (zr rfl ⟨p,zr rfl ⟨by decide,by decide,go.2,λd H3 d0 d1 g3=>(aM rfl rfl ⟨⟨by decide,by decide⟩,?_⟩)⟩⟩);refine (zr rfl ⟨rfl,zr rfl (tQ (fun σ H4=>∃ x:Int,σ=[some (.ref p),some (.int n),some (.ref l),some (.int (0 + (i:Int))),some (.int x)]/\0<=x/\x<=99/\Go p H2 H4) ?_ (λc k0=>(zr rfl ⟨p,zr rfl ⟨by decide,by decide,g3.2,λe H4 e0 e1 g4=>k0 _ _ ⟨e,rfl,e0,by omega,g3.trans g4⟩⟩⟩)) (λc=>(zr rfl ⟨by omega,by omega,g3⟩)))⟩);rintro σ H4 ⟨x,rfl,x0,x1,g4⟩;have h4:=g4.1 l _ npl h2;refine (zr rfl ⟨.inl ⟨rfl,_,aH.of h4⟩,zr rfl ⟨l,aM rfl rfl ⟨h4,by rw [zA];omega,_,_,rs++[x],rfl,by rw [xg,zH];rfl,by simp [hlen],λr vO=>?_,?_⟩⟩⟩)
   ·rcases zX.mp vO with h | h
    ·exact hr r h
    ·cases zK.mp h;exact ⟨x0,x1⟩
   ·have g2:=go.trans g4;refine ⟨λb u nb e=>?_,?_⟩
    ·rw [xq (xj e hl)];exact g2.1 b u nb e
    ·obtain ⟨a,b,c,e⟩:=g2.2;exact ⟨a,b,c,by rw [xq npl.symm];exact e⟩
  ·rintro σ H2 ⟨v3,v4,rs,rfl,h2,hlen,hr,go⟩;exact (zr rfl ⟨l,zr rfl (.inl ⟨aH.of h2,λt ht=>q t rs _ (go.new ht) xg hlen hr⟩)⟩)
theorem IJ:cW T.EM P w base 2 (T3):=by
 have Ab:=wj P w base T B;refine T.EM.F.ok Gy (λvs H Q E h=>?_) (λbr A outer s H vs Q E hr h=>?_)
 ·obtain ⟨p,rfl,_⟩:=h;rfl
 ·have nd:=Gy.nd;have hu:=hr.units;obtain ⟨p,rfl,hp,q⟩:=h;refine bT ?_;intro Y
  let B0:Bk Y ((ak BC).drop 2):=⟨_,(xh (xy (wK (wD qL (pv 1) xi (aB _)) (xh (wB (xu (wA wJ xi (aU Ab hr T.Ac (xb (xf (pv 0) (xf xi xl rfl) rfl))))))) wC) (wB (xu (wA wJ xi (aU Ab hr T.Ac (xb (xf (pv 0) (xf (wA dO xi (wA iW xi xi)) xl rfl) rfl))))))))⟩
  let B1:Bk Y ((ak BC).drop 1):=⟨_,(xh (xy (wK (wD KY (pv 1) xi (aB _)) (xh (wB (xu (xz (xx rfl) (wM (xb (xf xi (xf xi (xf xi xl rfl) rfl) rfl))) (pv 1) (λ_ _=>rfl))))) wC) B0.bl))⟩
  refine ⟨_,(xh (xy (xt (i:=1) nd rfl rfl (aU Ab hr T.Ac (xb (xf (pv 0) (xf xi xl rfl) rfl)))) B1.bl)),?_⟩;have s3:3<=sizeLine:=by rw [sizeLine_eq];decide
  refine (zr rfl ⟨p,zr rfl ⟨by decide,by decide,hp,λd H1 d0 d1 g1=>(zr rfl (aM rfl rfl (zr rfl (j6 (λh1=>?_) λh1=>?_))))⟩⟩)
  ·obtain ⟨v,hv,v0,v1⟩:∃ v:Int,i7 [V.int 0,V.int 1,V.int 1] d=some (V.int v)/\0<=v/\v<=1:=by
    obtain rfl | rfl | rfl:d=0\/d=1\/d=2:=by omega
    ·exact ⟨0,rfl,by decide,by decide⟩
    ·exact ⟨1,rfl,by decide,by decide⟩
    ·exact ⟨1,rfl,by decide,by decide⟩
   exact ⟨s3,λl hl=>(zr rfl (cI xg hv (q _ _ v0 (by omega) (g1.new hl))))⟩
  ·refine (zr rfl ⟨rfl,zr rfl (j6 (λh2=>?_) λh2=>?_)⟩)
   ·exact (zr rfl ⟨p,zr rfl ⟨by decide,by decide,g1.2,λe H2 e0 e1 g2=>(aM rfl rfl (q _ _ (by omega) (by omega) (g1.trans g2)))⟩⟩)
   ·have e16:(16:Int) * 10 ^ Int.toNat 6=16000000:=by decide
    refine (zr rfl (aM rfl rfl ⟨⟨by decide,by decide,by decide⟩,aM rfl rfl ⟨.inl ⟨by decide,by decide⟩,p,zr rfl ⟨by decide,by decide,g1.2,λe H2 e0 e1 g2=>(aM rfl rfl (q _ _ (by omega) (by rw [e16] at e1;omega) (g1.trans g2)))⟩⟩⟩))
theorem Dv:cW T.AI P w base 3 (uZ):=by
 have Ab:=wj P w base T B;have Jp:=IJ P w base T B;refine T.AI.F.ok Dq (λvs H Q E h=>?_) (λbr A outer s H vs Q E hr h=>?_)
 ·obtain ⟨p,w,n,rfl,_⟩:=h;rfl
 ·have nd:=Dq.nd;have hu:=hr.units;obtain ⟨p,w,n,rfl,hn,w9,hw,hp,q⟩:=h;refine bT ?_;intro Y
  let B0:Bk Y ((ak wG).drop 6):=⟨_,(xh (wB (xu (j3 (iM) (by rfl) T.jC yj (xb (xf (wx (own:=["_law_when", "_law_one", "_law_other", "_law_passed"]) (caps:=[11]) rfl (show aK ["_law_when", "_law_one", "_law_other", "_law_passed"] [11] ["_law_purse_here", "_law_walkers", "_law_most", "_law_found", "_law_when", "_law_busy", "_law_k", "_law_one", "_law_other", "_law_gap", "_law_passed", "_law_late"] (aj wG) _ from L2.iz) (wU rfl (xr (nq) (by rfl) T.uw PyProof.Rows.boot_sorted (xb (xf (pv 3) xl rfl)))) (λ_ _ _ _=>(wI (n:=4) rfl rfl (xo (xp (i:=0) (show List.Nodup (["_law_when", "_law_one", "_law_other", "_law_passed", "_law_late"]:List Str) from by decide +kernel) rfl rfl) (xo (xp (i:=1) (show List.Nodup (["_law_when", "_law_one", "_law_other", "_law_passed", "_law_late"]:List Str) from by decide +kernel) rfl rfl) (xo (xp (i:=2) (show List.Nodup (["_law_when", "_law_one", "_law_other", "_law_passed", "_law_late"]:List Str) from by decide +kernel) rfl rfl) (xo (xp (i:=3) (show List.Nodup (["_law_when", "_law_one", "_law_other", "_law_passed", "_law_late"]:List Str) from by decide +kernel) rfl rfl) wH)))))) (λ_ _ _ _=>ww) (λ_ _ _ _=>(wZ (xb (xf (pv 1) (xf (pv 2) (xf (wA wJ (pv 0) (pv 4)) (xf (pv 3) xl rfl) rfl) rfl) rfl))))) xl rfl))))))⟩
  let B1:Bk Y ((ak wG).drop 5):=⟨_,(xh (xy (wK (PW.pt (dM (wD qL (aU Ab hr T.Ac (xb (xf (pv 0) (xf xi xl rfl) rfl))) xi (aB _)) (di (wD (OF hu) (pv 3) (wM qX) (aB _))))) (xh (wB (xt (i:=11) nd rfl rfl (wA fO (wA iW xi xi) (pv 4))))) wC) B0.bl))⟩
  let B2:Bk Y ((nb (ak wG) 3).drop 9):=⟨_,(xh (wB (qH (fu ze zg zh wY (pv 3) (xb (xf (wZ (xb (xf (pv 4) (xf (xr (pR rfl) (by rfl) T.Ls PyProof.Rows.boot_min (xb (xf (pv 7) (xf (pv 8) xl rfl) rfl))) (xf (xr (ki rfl) (by rfl) T.P4 PyProof.Rows.boot_max (xb (xf (pv 7) (xf (pv 8) xl rfl) rfl))) (xf (pv 10) xl rfl) rfl) rfl) rfl))) xl rfl))))))⟩
  let B3:Bk Y ((nb (ak wG) 3).drop 8):=⟨_,(xh (xy (wK (wD qL (aU Ab hr T.Ac (xb (xf (pv 0) (xf xi xl rfl) rfl))) xi (aB _)) (xh (wB (xt (i:=10) nd rfl rfl (wA wJ xi (aU Ab hr T.Ac (xb (xf (pv 0) (xf xi xl rfl) rfl))))))) wC) B2.bl))⟩
  let B4:Bk Y ((nb (ak wG) 3).drop 6):=⟨_,(xh (xy (xt (i:=5) nd rfl rfl (wA gE (pv 5) (wM (xb (xf (pv 7) (xf (pv 8) xl rfl) rfl))))) (xy (xt (i:=10) nd rfl rfl (wA wJ xi (wA cS (aU Ab hr T.Ac (xb (xf (pv 0) (xf xi xl rfl) rfl))) xi))) B3.bl)))⟩
  let B5:Bk Y ((nb (ak wG) 3).drop 3):=⟨_,(xh (xy (wK (PW.pt (gu (wD (fP rfl) (pv 7) (pv 5) rfl) (dJ (wD (fP rfl) (pv 8) (pv 5) rfl)))) (xh (wB (xt (i:=9) nd rfl rfl (xr (ki rfl) (by rfl) T.P4 PyProof.Rows.boot_max (xb (xf xi (xf (pv 9) xl rfl) rfl)))))) wC) (xy (wK (wD iH (pv 9) xi (aB _)) (xh (wB (xt (i:=5) nd rfl rfl (wM qX)))) wC) (xy (xt (i:=4) nd rfl rfl (wA wJ (pv 4) (pv 9))) B4.bl))))⟩
  let B6:Bk Y ((nb (ak wG) 3).drop 1):=⟨_,(xh (xy (xt (i:=8) nd rfl rfl (wA gw (wA wJ (wA wJ (pv 7) xi) (aU Ab hr T.Ac (xb (xf (pv 0) (xf (wA fO (pv 1) xi) xl rfl) rfl)))) (pv 1))) (xy (xt (i:=9) nd rfl rfl (aU Jp hr T.EM (xb (xf (pv 0) xl rfl)))) B5.bl)))⟩
  let B7:Bk Y ((ak wG).drop 3):=⟨_,(xh (xy (wl PassesOwn.never rfl (qT rfl T.cQ (xb (xf (pv 2) xl rfl))) (xp (i:=6) nd rfl rfl) (xh (xy (xt (i:=7) nd rfl rfl (aU Ab hr T.Ac (xb (xf (pv 0) (xf (pv 1) xl rfl) rfl)))) B6.bl))) (xy (xt (i:=11) nd rfl rfl xi) B1.bl)))⟩
  let B8:Bk Y ((ak wG).drop 1):=⟨_,(xh (xy (xt (i:=4) nd rfl rfl (wA wJ xi (wA dO (wA cS (aU Ab hr T.Ac (xb (xf (pv 0) (xf xi xl rfl) rfl))) xi) (aU Ab hr T.Ac (xb (xf (pv 0) (xf (wA iW xi xi) xl rfl) rfl)))))) (xy (xt (i:=5) nd rfl rfl (wM qX)) B7.bl)))⟩
  refine ⟨_,(xh (xy (xt (i:=3) nd rfl rfl (wM qX)) B8.bl)),?_⟩;have line:1001<=sizeLine:=by rw [sizeLine_eq];decide
  have c7:KJ 10 7:=⟨by decide,by decide,by decide⟩;have e7:(10:Int) ^ Int.toNat 7=10000000:=by decide
  have e64:(2:Int) ^ 64 > 1000:=by decide
  have PD:(2:Int) ^ 200 > 1000:=by decide
  refine ⟨za _,λlf R1=>?_⟩;have Qq:=hp.ne R1;have UO:bN (upd H lf (.lst [])) p:=hp.new R1;refine (zr rfl ⟨p,zr rfl ⟨by decide,by decide,UO,λd H1 d0 d1 g1=>(aM rfl rfl ⟨⟨by decide,by decide⟩,zr rfl (aM rfl rfl ⟨c7,?_⟩)⟩)⟩⟩);refine ⟨p,zr rfl ⟨by decide,by decide,g1.2,λd2 H2 d20 d21 g2=>(aM rfl rfl ⟨.inl ⟨by omega,by omega⟩,aM rfl rfl ?_⟩)⟩⟩;rw [e7] at d21;refine ⟨za _,λlb SR=>?_⟩;have fr2:=g1.trans g2;have UT:H2 lf=some (.lst []):=fr2.1 lf _ Qq xg;have go0:Go p H H2:=((Go.refl hp).new R1).trans fr2;refine (zr rfl (zr rfl ⟨by omega,by omega,?_⟩));have wh0:1<=1 + d / 2 * d2/\1 + d / 2 * d2<=10000000:=by
   obtain h | h:d / 2=0\/d / 2=1:=by omega
   ·rw [h];omega
   ·rw [h];omega
  refine ir (lo:=0) (n:=n) (Zd p lf w n H)
   ⟨_,_,_,_,_,_,lb,[],[],rfl,by rw [xq (xj UT SR)];exact UT,xg,(xj UT SR).symm,go0.2.ne SR,(λ_ z=>nomatch z),⟨(λ_ z=>nomatch z),.nil,(λ_ z=>nomatch z)⟩,rfl,by simp,wh0.1,(by have:=wh0.2;simpa using this),go0.new SR⟩ ?_ ?_
  ·rintro i σ H3 hi ⟨v6,v7,v8,v9,v10,wh,lb,bs,fs,rfl,U7,h3b,nbf,WZ,Y3,F,OU,Uy,Yt,wh2,go⟩;have w2:2<=w:=by omega
   refine (zr rfl (zr rfl ⟨p,w,rfl,by omega,by omega,go.2,λone H4 o0 o1 g4=>?_⟩));refine (zr rfl (aM rfl rfl (zr rfl (zr rfl (aM rfl rfl ⟨p,zr rfl ⟨by omega,by omega,g4.2,λx H5 x0 x1 g5=>(aM rfl rfl (zr rfl (aM rfl rfl ⟨by omega,?_⟩)))⟩⟩)))));have ot:=Uk o0 o1 x0 x1;refine (zr rfl ⟨p,rfl,g5.2,λgap H6 agO agN g6=>?_⟩);have XZ:=g4.trans (g5.trans g6);have S0:=XZ.1 lb _ WZ h3b;have hf6:=XZ.1 lf _ Qq U7;refine (zr rfl (zr rfl ⟨lb,zr rfl ⟨.inl (aH.of S0),rfl,pM bs,zr rfl (aaT (fun σ H7=>∃ gp:Int,σ=[some (.ref p),some (.int w),some (.int n),some (.ref lf),some (.int wh),some (.ref lb),some (.int (0 + (i:Int))),some (.int one),some (.int ((one + 1 + x) % w)),some (.int gp),v10,none]/\H6=H7/\0<=gp/\gp<=16000000/\(gp=0->one ∉ bs/\(one + 1 + x) % w ∉ bs)) ?_ (λc1 k0=>?_) (λc1 k0=>(zr rfl (zr rfl ⟨lb,zr rfl ⟨.inl (aH.of S0),rfl,pM bs,zr rfl (kZ (λc2=>?_) (λc2=>?_))⟩⟩))))⟩⟩))
   rotate_left
   ·exact (zr rfl (nU rfl (k0 _ _ (zr rfl ⟨rfl,by split <;> omega,by split <;> omega,λz=>by split at z <;> omega⟩))))
   ·exact (zr rfl (nU rfl (k0 _ _ (zr rfl ⟨rfl,by split <;> omega,by split <;> omega,λz=>by split at z <;> omega⟩))))
   ·have c1':one ∉ bs:=of_decide_eq_false (tU.symm.trans c1);have c2':(one + 1 + x) % w ∉ bs:=of_decide_eq_false (tU.symm.trans c2);exact k0 _ _ ⟨gap,rfl,rfl,by omega,by omega,λ_=>⟨c1',c2'⟩⟩
   rintro σ H7 ⟨gp,rfl,rfl,gp0,gp1,hg⟩;refine (zr rfl (aM rfl rfl (zr rfl (tQ (fun σ H7=>∃ ly bz,σ=[some (.ref p),some (.int w),some (.int n),some (.ref lf),some (.int wh),some (.ref ly),some (.int (0 + (i:Int))),some (.int one),some (.int ((one + 1 + x) % w)),some (.int gp),v10,none]/\Go p H3 H7/\H7 ly=some (.lst (List.map V.int bz))/\ly≠p/\bz.length<=2 * i/\∀ z∈bs,gp=0->z∈bz) ?_ (λc3 k0=>⟨za _,λln hln=>k0 _ _ ⟨ln,[],rfl,XZ.new hln,xg,XZ.2.ne hln,za _,λ_ _ z=>by have:=of_decide_eq_true c3;omega⟩⟩) (λc3=>⟨lb,bs,rfl,XZ,S0,WZ,Uy,λ_ z _=>z⟩)))));rintro σ H7 ⟨ly,bz,rfl,gy,hyb,nyp,afy,V2⟩;have agE:=gy.1 lf _ Qq U7;refine (zr rfl (zr rfl (aM rfl rfl ?_)));refine (zr rfl (zr rfl (zr rfl ⟨by show 2<=sizeLine;omega,λl2 rZ=>?_⟩)));have Y5:=gy.new (o:=HO.lst [V.int one,V.int ((one + 1 + x) % w)]) rZ;have Xu:=xk (o:=HO.lst [V.int one,V.int ((one + 1 + x) % w)]) rZ _ _ hyb;have h22:(upd H7 l2 (HO.lst [V.int one,V.int ((one + 1 + x) % w)])) l2=some (.lst [V.int one,V.int ((one + 1 + x) % w)]):=xg;generalize upd H7 l2 (HO.lst [V.int one,V.int ((one + 1 + x) % w)])=H8 at Y5 Xu h22 ⊢;refine ⟨ly,l2,aM rfl rfl ⟨Xu,h22,(by simp only [zA,zW,yJ];omega),λl3 VZ=>?_⟩⟩;have n3p:l3≠p:=Y5.2.ne VZ;have n3f:l3≠lf:=(xj (Y5.1 lf _ Qq U7) VZ).symm;have g3':=Y5.new (o:=HO.lst (List.map V.int bz++[V.int one,V.int ((one + 1 + x) % w)])) VZ;have XW:(upd H8 l3 (HO.lst (List.map V.int bz++[V.int one,V.int ((one + 1 + x) % w)]))) l3=some (.lst (List.map V.int (bz++[one,(one + 1 + x) % w]))):=by rw [xg,zH];rfl
   generalize upd H8 l3 (HO.lst (List.map V.int bz++[V.int one,V.int ((one + 1 + x) % w)]))=H9 at g3' XW ⊢;refine (zr rfl ⟨p,zr rfl ⟨by decide,by decide,g3'.2,λd4 rT d40 d41 vX=>(aM rfl rfl ⟨⟨by decide,by decide⟩,aM rfl rfl ?_⟩)⟩⟩);refine (zr rfl ⟨p,zr rfl ⟨by decide,by decide,vX.2,λd5 Zh d50 d51 g11=>⟨rfl,zr rfl (tQ (fun σ oB=>∃ mm:Int,σ=[some (.ref p),some (.int w),some (.int n),some (.ref lf),some (.int (wh + gp)),some (.ref l3),some (.int (0 + (i:Int))),some (.int one),some (.int ((one + 1 + x) % w)),some (.int gp),some (.int mm),none]/\1<=mm/\mm<=99/\Go p H9 oB) ?_ (λc5 k0=>(zr rfl ⟨p,zr rfl ⟨by decide,by decide,g11.2,λd6 oB d60 d61 Y6=>(aM rfl rfl (k0 _ _ (zr rfl ⟨by omega,by omega,(vX.trans g11).trans Y6⟩)))⟩⟩)) (λc5=>(zr rfl ⟨by omega,by omega,vX.trans g11⟩)))⟩⟩⟩);rintro σ oB ⟨mm,rfl,mm0,mm1,Y6⟩;have Va:=g3'.trans Y6;have hz:=Va.1 lf _ Qq U7;refine (zr rfl ⟨.inl ⟨rfl,_,aH.of hz⟩,zr rfl (zr rfl (zr rfl (nU rfl (zr rfl (zr rfl (nU rfl (zr rfl ⟨by show 4<=sizeLine;omega,λt ht=>⟨lf,aM rfl rfl ⟨(by rw [xq (xj hz ht)];exact hz),(by rw [zA];omega),?_⟩⟩⟩)))))))⟩);exact Zd.step Qq R1 F OU (bs':=bz++[one,(one + 1 + x) % w]) (by simp only [zN,zW,yJ];omega) Yt wh2 hz (Y6.1 l3 _ n3p XW) n3f n3p (λa ha=>Va.aS go.2 _ _ (Y3 a ha)) (go.trans Va) ht gp0 gp1 o0 o1 ot.1 ot.2.1 ot.2.2 mm0 mm1 hg (λz YL Xs=>zT _ (V2 z YL Xs)) (by simp) (by simp)
  ·rintro σ H3 ⟨v6,v7,v8,v9,v10,wh,lb,bs,fs,rfl,U7,h3b,nbf,WZ,Y3,F,OU,Uy,Yt,wh2,go⟩;have c9:KJ 10 9:=⟨by decide,by decide,by decide⟩;have e9:(10:Int) ^ Int.toNat 9=1000000000:=by decide
   refine (zr rfl ⟨p,zr rfl ⟨by decide,by decide,go.2,λd8 H4 _ _ g4=>⟨rfl,zr rfl (aaV (fun σ H5=>∃ jo:Int,(∃ v6 v7 v8 v9 v10,σ=[some (.ref p),some (.int w),some (.int n),some (.ref lf),some (.int wh),some (.ref lb),v6,v7,v8,v9,v10,some (.int jo)])/\Go p H3 H5/\0<=jo/\(fs≠[]->wh + jo<=1000000000)) ?_ (λc k0=>?_) (λc=>⟨0,⟨_,_,_,_,_,rfl⟩,g4,zl _,λ_=>by omega⟩))⟩⟩⟩)
   rotate_left
   ·have U5:=g4.1 lf _ Qq U7;refine (zr rfl ⟨za _,λl4 hl4=>⟨lf,l4,zr rfl ⟨rfl,aH.of (by rw [xq (xj U5 hl4)];exact U5),aH.of xg,zr rfl (kZ (λc2=>?_) (λc2=>?_))⟩⟩⟩)
    ·exact (aM rfl rfl ⟨c9,zr rfl (aM rfl rfl (k0 _ _ ⟨_,⟨_,_,_,_,_,rfl⟩,g4.new hl4,by rw [e9];omega,λ_=>by rw [e9];omega⟩))⟩)
    ·exact k0 _ _ ⟨0,⟨_,_,_,_,_,rfl⟩,g4.new hl4,zl _,λ_=>by omega⟩
   rintro σ Hz ⟨jo,⟨v6',v7',v8',v9',aej,rfl⟩,gz,L0,L1⟩;have hz:=gz.1 lf _ Qq U7;refine (zr rfl ⟨lf,fs.map (λa=>(a.1,a.2.row)),rfl,?_,(by rw [zA];omega),(λa ha=>?_),λD qs hD pq sq=>?_⟩)
   ·rw [yY];exact aH.of hz
   ·obtain ⟨b,hb,rfl⟩:=zS.mp ha;exact ⟨gz.aS go.2 _ _ (Y3 b hb),by intro z;cases z⟩
   obtain ⟨rs,prs,srs,rfl⟩:=Mf pq sq;refine ⟨D,rfl,⟨_,aH.of xg⟩,?_⟩;have lrs:rs.length=n:=by rw [prs.length_eq,OU]
   have hDl:(upd Hz D (HO.lst (List.map (λa=>V.ref a.1) (List.map (λa:Addr×M4=>(a.1,a.2.row)) rs)))) D=some (.lst (rs.map λa=>V.ref a.1)):=by rw [xg,yY];rfl
   have rD:=λa (ha:a∈rs)=>(bX.new (o:=HO.lst (List.map (λa=>V.ref a.1) (List.map (λa:Addr×M4=>(a.1,a.2.row)) rs))) hD) _ _ (gz.aS go.2 _ _ (Y3 a (prs.mem_iff.mp ha)));have gD:=(go.trans gz).new (o:=HO.lst (List.map (λa=>V.ref a.1) (List.map (λa:Addr×M4=>(a.1,a.2.row)) rs))) hD;refine (let W2:IC:=λi τ acc H5=>∃ ps:List (Addr×M4),(∃ t0 t1 t2 t3,τ=[t0,t1,t2,t3,some (.int jo)])/\acc=(ps.map λa=>V.ref a.1)/\(ps.map (·.2))=((rs.take i).map λa=>a.2.jo jo)/\kF H5 ps/\au (upd Hz D (HO.lst (List.map (λa=>V.ref a.1) (List.map (λa:Addr×M4=>(a.1,a.2.row)) rs)))) H5;cL (K:=K) (a:=D) (xs:=rs.map λa=>V.ref a.1) W2)
    ?_ (by rw [zA];omega) ?_ ?_ ?_
   ·exact ⟨[],⟨_,_,_,_,rfl⟩,rfl,rfl,(λ_ z=>nomatch z),au.refl _⟩
   ·rintro i τ acc H6 ⟨ps,⟨t0,t1,t2,t3,rfl⟩,rfl,V6,rws,sm⟩;have:=congrArg List.length V6;rw [zA,zA,zY] at this;exact ⟨by rw [zA];omega,sm.seq (aH.of hDl)⟩
   ·rintro i x τ acc H5 C hx ⟨ps,⟨t0,t1,t2,t3,rfl⟩,rfl,V6,rws,sm⟩ hC;obtain ⟨r,hr,rfl⟩:=wO hx;have dY:=sm _ _ (rD r (zC hr));refine (Ni dY (zr rfl (zr rfl (zr rfl (zr rfl (aM rfl rfl (zr rfl ⟨by show 4<=sizeLine;omega,λt ht=>hC _ _ _ ?_⟩)))))));refine ⟨ps++[(t,r.2.jo jo)],⟨_,_,_,_,rfl⟩,by rw [zH];rfl,by rw [zH,wP hr,zH,V6];rfl,λa ha=>?_,sm.trans (xk ht)⟩;rcases zX.mp ha with h | h
    ·exact xk ht _ _ (rws a h)
    ·cases zK.mp h;exact xg
   ·rintro τ acc H6 ⟨ps,⟨t0,t1,t2,t3,rfl⟩,rfl,V6,rws,sm⟩ lt cA;refine ⟨lt,zr rfl (.inl ⟨aH.of xg,λt ht=>q t ps _ (((gD.same sm).new cA).new ht) xg ((rws.aS (bX.new cA)).aS (bX.new ht)) ?_ ?_⟩)⟩
    ·rw [V6,zA,zv];exact F.good (by omega) L0 L1 prs srs
    ·have:=congrArg List.length V6;rw [zA,zA,zA,zv] at this;omega
theorem IK:cW T.EN P w base 4 (T6):=by
 have Ab:=wj P w base T B;have El:=FK P w base T B;have BU:=Dv P w base T B;refine T.EN.F.ok Gz (λvs H Q E h=>?_) (λbr A outer s H vs Q E hr h=>?_)
 ·obtain ⟨p,a,n,rfl,_⟩:=h;rfl
 ·have nd:=Gz.nd;have hu:=hr.units;obtain ⟨p,aw,n,rfl,a1,a2,hn,hp,q⟩:=h;refine bT ?_;intro Y
  let B0:Bk Y ((ak BD).drop 3):=⟨_,(xh (wB (xu (wZ (xb (xf (aU El hr T.B9 (xb (xf (pv 0) (xf (pv 3) xl rfl) rfl))) (xf (aU BU hr T.AI (xb (xf (pv 0) (xf (pv 3) (xf (pv 4) xl rfl) rfl) rfl))) xl rfl) rfl))))))⟩
  let B1:Bk Y ((ak BD).drop 1):=⟨_,(xh (xy (xt (i:=4) nd rfl rfl (aU Ab hr T.Ac (xb (xf (pv 0) (xf (wA wJ (pv 2) xi) xl rfl) rfl)))) (xy (wK (wD qL (pv 3) xi (aB _)) (xh (wB (xt (i:=4) nd rfl rfl xi))) wC) B0.bl)))⟩
  refine ⟨_,(xh (xy (xt (i:=3) nd rfl rfl (wA wJ xi (aU Ab hr T.Ac (xb (xf (pv 0) (xf (pv 1) xl rfl) rfl))))) B1.bl)),?_⟩;have line:1001<=sizeLine:=by rw [sizeLine_eq];decide
  have PD:(2:Int) ^ 200 > 1000:=by decide
  refine (zr rfl (zr rfl ⟨p,aw,rfl,by omega,by omega,hp,λd H1 d0 d1 g1=>(aM rfl rfl ?_)⟩));obtain ⟨k,rfl⟩:=zj d0;refine (zr rfl (zr rfl (aM rfl rfl ⟨p,zr rfl ⟨by omega,by omega,g1.2,λe H2 e0 e1 g2=>?_⟩⟩)));obtain ⟨m,em⟩:=zj e0;have hm:m<=n:=by omega
  refine ⟨_,rfl,rfl,_,rfl,tQ (fun σ H3=>∃ m:Nat,σ=[some (.ref p),some (.int aw),some (.int n),some (.int (1 + (k:Int))),some (.int m)]/\m<=n/\(m=0\/1<=k)/\Go p H H3) ?_ (λc k0=>k0 _ _ ⟨0,rfl,za _,.inl rfl,g1.trans g2⟩) (λc=>⟨m,by rw [em];rfl,hm,.inr (by
    by_cases hk:k=0
    ·subst hk;exact absurd c (by simp)
    ·omega),g1.trans g2⟩)⟩
  rintro σ H2 ⟨m,rfl,hm,hk,g2⟩;refine (zr rfl (zr rfl ⟨p,1 + k,by simp,by omega,g2.2,λtr aa H3 g3 h3 l3 r3=>(zr rfl (zr rfl (zr rfl ⟨p,_,m,rfl,by omega,by omega,by omega,g3.2,λtm ps H4 g4 h4 r4 gd l4=>⟨by show 2<=sizeLine;omega,λb hb=>?_⟩⟩)))⟩));have h3':=g4.aS g3.2 _ _ h3;have tn:=bX.new (o:=HO.tup [V.ref tr,V.ref tm]) hb;refine q b aa tr tm ps _ ((g2.trans (g3.trans g4)).new hb) ⟨xg,tn _ _ h3',tn _ _ h4,r4.aS tn⟩ (by omega) (by omega) r3 ?_ (by omega);rw [l3];simpa using gd
theorem II:cW T.C4 P w base 3 (NY):=by
 have Ab:=wj P w base T B;have JD:=Jj P w base T B;refine T.C4.F.ok Gw (λvs H Q E h=>?_) (λbr A outer s H vs Q E hr h=>?_)
 ·obtain ⟨p,b,j,_,_,_,_,rfl,_⟩:=h;rfl
 ·have nd:=Gw.nd;have hu:=hr.units;obtain ⟨p,b,j,aa,tr,tm,ps,rfl,hj,hb,gd,hp,q⟩:=h;refine bT ?_;intro Y
  let B0:Bk Y ((ak wu).drop 6):=⟨_,(xh (wB (xu (wA fO (xz (wE rfl) (xz (wE rfl) (xz (wE rfl) (pv 1) xi (λ_ _=>rfl)) (pv 4) (λ_ _=>rfl)) xi (λ_ _=>rfl)) (xz (xx rfl) (wM (xb (xf xi (xf xi xl rfl) rfl))) (wA Ul (wA cS (aU Ab hr T.Ac (xb (xf (pv 0) (xf xi xl rfl) rfl))) xi) (pv 2)) (λ_ _=>rfl))))))⟩
  let B1:Bk Y (nb (ak wu) 5):=⟨_,(xh (wB (xt (i:=4) nd rfl rfl (xz (xx rfl) (wM (xb (xf (wA cS (pv 4) xi) (xf (wA cS (wA wJ (pv 4) (xr (xw rfl) (by rfl) T.bw PySem.boot_len (xb (xf (xz (wE rfl) (pv 1) xi (λ_ _=>rfl)) xl rfl)))) xi) xl rfl) rfl))) (pv 2) (λ_ _=>rfl)))))⟩
  let B2:Bk Y ((ak wu).drop 4):=⟨_,(xh (xy (xt (i:=4) nd rfl rfl (aU Ab hr T.Ac (xb (xf (pv 0) (xf (xr (xw rfl) (by rfl) T.bw PySem.boot_len (xb (xf (xz (wE rfl) (pv 1) xi (λ_ _=>rfl)) xl rfl))) xl rfl) rfl)))) (xy (wK (wD iH (pv 3) xi (aB _)) B1.ps wC) B0.bl)))⟩
  let B3:Bk Y ((ak wu).drop 3):=⟨_,(xh (xy (wK (wD (Mm hu) (xz (wE rfl) (pv 1) xi (λ_ _=>rfl)) (wZ qX) (aB _)) (xh (wB (xu (aU Ab hr T.Ac (xb (xf (pv 0) (xf xi xl rfl) rfl)))))) wC) B2.bl))⟩
  let B4:Bk Y ((ak wu).drop 1):=⟨_,(xh (xy (wK (wD qL (pv 3) xi (aB _)) (xh (wB (xu (xz (xx rfl) (wM (xb (xf xi (xf (wA iW xi xi) xl rfl) rfl))) (pv 2) (λ_ _=>rfl))))) wC) (xy (wK (wD qL (pv 3) xi (aB _)) (xh (wB (xu (aU JD hr T.FT (xb (xf (pv 0) xl rfl)))))) wC) B3.bl)))⟩
  refine ⟨_,(xh (xy (xt (i:=3) nd rfl rfl (aU Ab hr T.Ac (xb (xf (pv 0) (xf xi xl rfl) rfl)))) B4.bl)),?_⟩;have line:=bA;have PD:(2:Int) ^ 200 > 10000:=by decide
  have c9:KJ 10 9:=⟨by decide,by decide,by decide⟩;have e9:(10:Int) ^ Int.toNat 9=1000000000:=by decide
  have Xh:=gd.len;refine (zr rfl ⟨p,zr rfl ⟨by decide,by decide,hp,λway H1 w0 w1 g1=>?_⟩⟩);refine (zr rfl ⟨rfl,zr rfl (j6 (λc=>?_) (λc=>(zr rfl ⟨rfl,zr rfl (j6 (λc=>?_) (λc=>?_))⟩)))⟩)
  ·refine (aM rfl rfl ⟨c9,by show 2<=sizeLine;omega,λl hl=>(zr rfl ?_)⟩);rcases hj with rfl | rfl
   ·exact (cI xg rfl (q _ _ (by omega) (by omega) (g1.new hl)))
   ·exact (cI xg rfl (q _ _ (by rw [e9];decide) (by rw [e9];decide) (g1.new hl)))
  ·exact (zr rfl ⟨p,rfl,g1.2,λd H2 d0 d1 g2=>q _ _ d0 d1 (g1.trans g2)⟩)
  have iY:=hb.aS (g1.aS hp);refine (zr rfl (dW iY.book rfl ⟨za _,λu Xv=>?_⟩));have ML:=iY.aS (bX.new (o:=HO.tup []) Xv);have g2:=g1.new (o:=HO.tup []) Xv;refine ⟨tm,u,zr rfl ⟨rfl,bC.of ML.meets,bC.of xg,zr rfl (kZ (λc2=>?_) (λc2=>?_))⟩⟩
  ·exact (zr rfl ⟨p,zr rfl ⟨by decide,by decide,g2.2,λd H3 d0 d1 g3=>q _ _ d0 (by omega) (g2.trans g3)⟩⟩)
  have lps:1<=ps.length:=by
   cases ps with
   | nil=>cases c2
   | cons _ _=>simp
  refine (zr rfl (zr rfl (dW ML.book rfl ⟨tm,zr rfl ⟨.inr (bC.of ML.meets),p,zr rfl ⟨by rw [zA];omega,by rw [zA];omega,g2.2,λd H3 d0 d1 g3=>?_⟩⟩⟩)));rw [zA] at d1;have YY:=ML.aS (g3.aS g2.2);have gg3:=g2.trans g3;refine (zr rfl (aM rfl rfl (zr rfl (j6 (λc3=>?_) (λc3=>?_)))))
  ·refine (zr rfl (aM rfl rfl ⟨⟨by decide,by decide⟩,zr rfl (zr rfl (dW YY.book rfl ⟨tm,zr rfl ⟨.inr (bC.of YY.meets),aM rfl rfl (aM rfl rfl ⟨⟨by decide,by decide⟩,by show 2<=sizeLine;omega,λl hl=>(zr rfl ?_)⟩)⟩⟩))⟩));have gx:=gg3.new (o:=HO.lst [V.int (d / 2),V.int ((d + ((ps.map λa=>V.ref a.1).length:Int)) / 2)]) hl;have hx:=YY.aS (bX.new (o:=HO.lst [V.int (d / 2),V.int ((d + ((ps.map λa=>V.ref a.1).length:Int)) / 2)]) hl);obtain ⟨k,ek,hk⟩:∃ k:Nat,i7 [V.int (d / 2),V.int ((d + ((ps.map λa=>V.ref a.1).length:Int)) / 2)] j=some (V.int (k:Int))/\k < ps.length:=by
    rcases hj with rfl | rfl
    ·obtain ⟨k,hk⟩:=zj (show 0<=d / 2 by omega);exact ⟨k,by rw [<-hk];rfl,by omega⟩
    ·obtain ⟨k,hk⟩:=zj (show 0<=(d + ((ps.map λa=>V.ref a.1).length:Int)) / 2 by omega);refine ⟨k,by rw [<-hk];rfl,?_⟩;rw [zA] at hk;omega
   refine (cI xg ek ?_);refine (zr rfl (dW hx.book rfl (zr rfl (dW hx.meets (wF (v:=V.ref ps[k].1) (by simp [hk])) (dW (hx.rows _ (yC hk)) rfl ⟨by show 2<=sizeLine;omega,λl9 XG=>?_⟩)))));have g9:=gx.new (o:=HO.lst [V.int 1,V.int 0]) XG;refine (zr rfl ⟨p,zr rfl ⟨by decide,by decide,g9.2,λe H9 e0 e1 vX=>(aM rfl rfl ⟨⟨by decide,by decide⟩,zr rfl (aM rfl rfl ?_)⟩)⟩⟩);have h9:=vX.1 l9 _ (gx.2.ne XG) xg;have tb:=gd.at (yC hk);have bx:(e / 3=0\/e / 3=1):=by omega
   rcases hj with rfl | rfl <;> rcases bx with bx | bx <;> rw [bx]
   ·exact (cI h9 (by decide:i7 [V.int 1,V.int 0] (Builtin.bitXor 0 0)=some (V.int 1)) (aM rfl rfl (q _ _ (by omega) (by omega) (g9.trans vX))))
   ·exact (cI h9 (by decide:i7 [V.int 1,V.int 0] (Builtin.bitXor 1 0)=some (V.int 0)) (aM rfl rfl (q _ _ (by omega) (by omega) (g9.trans vX))))
   ·exact (cI h9 (by decide:i7 [V.int 1,V.int 0] (Builtin.bitXor 0 1)=some (V.int 0)) (aM rfl rfl (q _ _ (by omega) (by omega) (g9.trans vX))))
   ·exact (cI h9 (by decide:i7 [V.int 1,V.int 0] (Builtin.bitXor 1 1)=some (V.int 1)) (aM rfl rfl (q _ _ (by omega) (by omega) (g9.trans vX))))
  ·have gx:=gg3;have hx:=YY;obtain ⟨k,rfl⟩:=zj d0;have hk:k < ps.length:=by omega
   refine (zr rfl (dW hx.book rfl (zr rfl (dW hx.meets (wF (v:=V.ref ps[k].1) (by simp [hk])) (dW (hx.rows _ (yC hk)) rfl ⟨by show 2<=sizeLine;omega,λl9 XG=>?_⟩)))));have g9:=gx.new (o:=HO.lst [V.int 1,V.int 0]) XG;refine (zr rfl ⟨p,zr rfl ⟨by decide,by decide,g9.2,λe H9 e0 e1 vX=>(aM rfl rfl ⟨⟨by decide,by decide⟩,zr rfl (aM rfl rfl ?_)⟩)⟩⟩);have h9:=vX.1 l9 _ (gx.2.ne XG) xg;have tb:=gd.at (yC hk);have bx:(e / 3=0\/e / 3=1):=by omega
   rcases hj with rfl | rfl <;> rcases bx with bx | bx <;> rw [bx]
   ·exact (cI h9 (by decide:i7 [V.int 1,V.int 0] (Builtin.bitXor 0 0)=some (V.int 1)) (aM rfl rfl (q _ _ (by omega) (by omega) (g9.trans vX))))
   ·exact (cI h9 (by decide:i7 [V.int 1,V.int 0] (Builtin.bitXor 1 0)=some (V.int 0)) (aM rfl rfl (q _ _ (by omega) (by omega) (g9.trans vX))))
   ·exact (cI h9 (by decide:i7 [V.int 1,V.int 0] (Builtin.bitXor 0 1)=some (V.int 0)) (aM rfl rfl (q _ _ (by omega) (by omega) (g9.trans vX))))
   ·exact (cI h9 (by decide:i7 [V.int 1,V.int 0] (Builtin.bitXor 1 1)=some (V.int 1)) (aM rfl rfl (q _ _ (by omega) (by omega) (g9.trans vX))))
theorem Hd:cW T.DI P w base 1 (QV):=by
 refine T.DI.F.ok G7 (λvs H Q E h=>?_) (λbr A outer s H vs Q E hr h=>?_)
 ·obtain ⟨x,t,rfl,_⟩:=h;rfl
 ·have nd:=G7.nd;have hu:=hr.units;obtain ⟨x,t,rfl,ht,k⟩:=h;refine ⟨_,(xh (wB (xu (qM (xr (wf) (by rfl) T.az zL (xb (xf (pv 0) (xf (cO (v:=V.ty "int") rfl T.Yc PyProof.Rows.boot_int rfl) xl rfl) rfl))) (c6 (Ui (xr (wf) (by rfl) T.az zL (xb (xf (pv 0) (xf (cO (v:=V.ty "bool") rfl T.Vr PyProof.Rows.boot_bool rfl) xl rfl) rfl))))))))),?_⟩;simp only [vW,pJ,MP,LM,VH,gZ,MO,oS,VU,rU,sS,ql,oZ,nX,p7,sH,LO,uV,Sl,sU,rI,lV,tC,iJ,iF,QT,iE,nY,oU,uU,oQ,gg,oO,tB,LP,LQ,VG,oR,VO,VN,vj,T9,VI,VJ,jS,LN,uW,VF,gY,lW,kc,L2.start,zd,yF,zW,yJ,Nat.reduceAdd,Nat.reduceSub,List.replicate,xD,xJ,yk,yb,yN,Option.some.injEq,exists_eq_left',exists_eq_left,exists_and_left,and_assoc,V.int.injEq,V.ty.injEq,V.str.injEq,V.bl.injEq,V.ref.injEq,List.cons.injEq,and_true,true_and,yu,yw];simp only [V.ty.injEq,ht,Option.some.injEq,exists_eq_left',exists_and_left,true_or,or_true,true_and];rcases fH ht with rfl | rfl | rfl | rfl | rfl | rfl | rfl <;> simpa [tR] using k
theorem DQ:cW T.BE P w base 2 (NV):=by
 have Gd:=Hd P w base T B;refine T.BE.F.ok Gp (λvs H Q E h=>?_) (λbr A outer s H vs Q E hr h=>?_)
 ·obtain ⟨x,t,lo,hi,rfl,_⟩:=h;rfl
 ·have nd:=Gp.nd;have hu:=hr.units;obtain ⟨x,t,lo,hi,rfl,ht,k⟩:=h;refine ⟨_,(xh (wB (xu (qM (aU Gd hr T.DI (xb (xf (pv 0) xl rfl))) (c6 (Oz o7 o7 (pv 1) (pv 0) (pv 2))))))),?_⟩;simp only [vW,pJ,MP,LM,VH,gZ,MO,oS,VU,rU,sS,ql,oZ,nX,p7,sH,LO,uV,Sl,sU,rI,lV,tC,iJ,iF,QT,iE,nY,oU,uU,oQ,gg,oO,tB,LP,LQ,VG,oR,VO,VN,vj,T9,VI,VJ,jS,LN,uW,VF,gY,lW,kc,L2.start,zd,yF,zW,yJ,Nat.reduceAdd,Nat.reduceSub,List.replicate,xD,xJ,yk,yb,yN,Option.some.injEq,exists_eq_left',exists_eq_left,exists_and_left,and_assoc,V.int.injEq,V.ty.injEq,V.str.injEq,V.bl.injEq,V.ref.injEq,List.cons.injEq,and_true,true_and,yu,yw];refine ⟨x,t,rfl,ht,zr rfl ?_⟩;by_cases h:t = "int"
  ·subst h;obtain ⟨i,rfl⟩:=KN ht;simp only [vW,pJ,MP,LM,VH,gZ,MO,oS,VU,rU,sS,ql,oZ,nX,p7,sH,LO,uV,Sl,sU,rI,lV,tC,iJ,iF,QT,iE,nY,oU,uU,oQ,gg,oO,tB,LP,LQ,VG,oR,VO,VN,vj,T9,VI,VJ,jS,LN,uW,VF,gY,lW,kc,L2.start,zd,yF,zW,yJ,Nat.reduceAdd,Nat.reduceSub,List.replicate,xD,xJ,yk,yb,yN,Option.some.injEq,exists_eq_left',exists_eq_left,exists_and_left,and_assoc,V.int.injEq,V.ty.injEq,V.str.injEq,V.bl.injEq,V.ref.injEq,List.cons.injEq,and_true,true_and,yu,yw];by_cases h1:lo<=i
   ·simpa [h1,jN] using k
   ·simpa [h1,jN] using k
  ·rw [vM ht h] at k;simpa [h] using k
theorem Js:cW T.Fp P w base 3 (TY):=by
 have BQ:=DQ P w base T B;refine T.Fp.F.ok Hl (λvs H Q E h=>?_) (λbr A outer s H vs Q E hr h=>?_)
 ·obtain ⟨x,t,rfl,_⟩:=h;rfl
 ·have nd:=Hl.nd;have hu:=hr.units;obtain ⟨x,t,rfl,ht,k⟩:=h;refine ⟨_,(xh (wB (xu (aU BQ hr T.BE (xb (xf (pv 0) (xf xi (xf (wV (v:=V.int 1000000000) rfl T.uu ⟨_,rfl⟩) xl rfl) rfl) rfl)))))),?_⟩;simp only [vW,pJ,MP,LM,VH,gZ,MO,oS,VU,rU,sS,ql,oZ,nX,p7,sH,LO,uV,Sl,sU,rI,lV,tC,iJ,iF,QT,iE,nY,oU,uU,oQ,gg,oO,tB,LP,LQ,VG,oR,VO,VN,vj,T9,VI,VJ,jS,LN,uW,VF,gY,lW,kc,L2.start,zd,yF,zW,yJ,Nat.reduceAdd,Nat.reduceSub,List.replicate,xD,xJ,yk,yb,yN,Option.some.injEq,exists_eq_left',exists_eq_left,exists_and_left,and_assoc,V.int.injEq,V.ty.injEq,V.str.injEq,V.bl.injEq,V.ref.injEq,List.cons.injEq,and_true,true_and,yu,yw];exact ⟨x,t,nU rfl ⟨ht,k⟩⟩
theorem ER:cW T.Cv P w base 1 (Q8):=by
 refine T.Cv.F.ok G9 (λvs H Q E h=>?_) (λbr A outer s H vs Q E hr h=>?_)
 ·obtain ⟨o,t,rfl,_⟩:=h;rfl
 ·have nd:=G9.nd;have hu:=hr.units;obtain ⟨o,t,rfl,q⟩:=h;refine ⟨_,(xh (wB (xu (qM (vt (qu (pv 0))) (c6 (wv KY (pv 0) (pv 1) (aB _))))))),?_⟩;cases o with
  | none=>exact (zr rfl (zr rfl (aF rfl q)))
  | some y=>exact (zr rfl (zr rfl (aI rfl (zr rfl (zr rfl (aM rfl rfl q))))))
theorem DR:cW T.Cm P w base 1 (TX):=by
 refine T.Cm.F.ok Hk (λvs H Q E h=>?_) (λbr A outer s H vs Q E hr h=>?_)
 ·obtain ⟨o,t,rfl,_⟩:=h;rfl
 ·have nd:=Hk.nd;have hu:=hr.units;obtain ⟨o,t,rfl,q⟩:=h;refine ⟨_,(xh (wB (xu (qM (vt (qu (pv 0))) (c6 (wv o7 (pv 0) (pv 1) (aB _))))))),?_⟩;cases o with
  | none=>exact (zr rfl (zr rfl (aF rfl q)))
  | some y=>exact (zr rfl (zr rfl (aI rfl (zr rfl (zr rfl (aM rfl rfl q))))))
theorem Jg:cW T.FR P w base 2 (Q7):=by
 have Gd:=Hd P w base T B;refine T.FR.F.ok G8 (λvs H Q E h=>?_) (λbr A outer s H vs Q E hr h=>?_)
 ·obtain ⟨x,t,rfl,_⟩:=h;rfl
 ·have nd:=G8.nd;have hu:=hr.units;obtain ⟨x,t,rfl,ht,k⟩:=h;refine ⟨_,(xh (wB (xu (qM (aU Gd hr T.DI (xb (xf (pv 0) xl rfl))) (c6 (wv SG (pv 0) xi (aB _))))))),?_⟩;refine (zr rfl ⟨x,t,rfl,ht,zr rfl ?_⟩);by_cases h:t = "int"
  ·subst h;obtain ⟨i,rfl⟩:=KN ht;exact aI rfl (zr rfl (aM rfl rfl k))
  ·refine aF (by simpa using h) ?_;have e:Kv x=false:=by
    cases x <;> first | rfl | exact absurd (Option.some.inj ht).symm h
   rwa [e] at k
theorem Im:cW T.DM P w base 3 (L3):=by
 have JA:=Jg P w base T B;refine T.DM.F.ok FE (λvs H Q E h=>?_) (λbr A outer s H vs Q E hr h=>?_)
 ·obtain ⟨_,_,rfl,_⟩:=h;rfl
 ·have nd:=FE.nd;have hu:=hr.units;obtain ⟨v,n,rfl,dt,afa,q⟩:=h;refine ⟨_,(xh (wB (xu (qM (xr (wf) (by rfl) T.az zL (xb (xf (pv 0) (xf (cO (v:=V.ty "list") rfl T.nF yn rfl) xl rfl) rfl))) (qM (wv qL (xr (xw rfl) (by rfl) T.bw PySem.boot_len (xb (xf (pv 0) xl rfl))) (pv 1) (aB _)) (c6 (xr (gQ rfl rfl) (by rfl) T.ux yx (xb (xf (wx (own:=["number"]) (caps:=[]) rfl (show aK ["number"] [] ["thing", "size"] (aj BY) _ from L2.iz) (wU rfl (pv 0)) (λ_ _ _ _=>(xp (i:=0) (show List.Nodup (["number"]:List Str) from by decide +kernel) rfl rfl)) (λ_ _ _ _=>ww) (λ_ _ _ _=>(aU JA hr T.FR (xb (xf (pv 0) xl rfl))))) xl rfl))))))))),?_⟩;have line:=bA;rcases dt.way with ⟨l,xs,rfl,kl,e1,_,ex⟩ | ⟨l,xs,rfl,kl,e1,_,ex⟩ | ⟨t,ht,n1,_,e1,_⟩
  ·have cv:bF H n (.ref l)=(decide (xs.length=n) && xs.all Kv):=by simp only [bF,e1]
   refine (zr rfl ⟨_, "list", "list", rfl,fJ kl,.inr (.inr (.inl rfl)),zr rfl (aI rfl (zr rfl ⟨l,zr rfl ⟨.inl (aH.of kl),zr rfl ⟨rfl,zr rfl ?_⟩⟩⟩))⟩);by_cases e:xs.length=n
   ·refine aI (decide_eq_true (by rw [e])) ?_;refine (zr rfl ⟨l,rfl,⟨_,aH.of kl⟩,?_⟩);refine (let W3:IC:=λi τ acc H5=>(∃ t0,τ=[t0])/\acc=((xs.take i).map Kv).map V.bl/\au H H5;cL (K:=K) (a:=l) (xs:=xs) W3 ⟨⟨_,rfl⟩,rfl,au.refl _⟩ (by omega) ?_ ?_ ?_)
    ·rintro i τ acc H5 ⟨_,rfl,sm⟩;refine ⟨?_,aH.of (sm _ _ kl)⟩;rw [zA,zA,zY];omega
    ·rintro i v τ acc H5 C hv ⟨⟨t0,rfl⟩,rfl,sm⟩ hC;obtain ⟨ty,SN⟩:=ex v (zC hv);refine (zr rfl ⟨v,ty,rfl,dH sm SN,?_⟩);refine hC _ _ _ ⟨⟨_,rfl⟩,?_,sm⟩;rw [wP hv,zH,zH];rfl
    ·rintro τ acc H5 ⟨⟨t0,rfl⟩,rfl,sm⟩ lc gO;refine ⟨lc,zr rfl ⟨aH.of xg,?_⟩⟩;have z:=q _ (sm.trans (xk (o:=HO.lst (((xs.take xs.length).map Kv).map V.bl)) gO));rw [cv,decide_eq_true e,yo] at z;rw [zv,xW] at *;exact z
   ·refine aF (decide_eq_false (λz=>e (Int.ofNat.inj (V.int.inj z)))) ?_;have z:=q _ (au.refl _);rwa [cv,decide_eq_false e,yH] at z
  ·refine (zr rfl ⟨_, "tuple", "list", rfl,cN kl,.inr (.inr (.inl rfl)),zr rfl (aF rfl ?_)⟩);have z:=q _ (au.refl _);rwa [show bF H n (.ref l)=false by simp only [bF,e1]] at z
  ·refine (zr rfl ⟨_,t, "list", rfl,ht,.inr (.inr (.inl rfl)),zr rfl (aF n1 ?_)⟩);have z:=q _ (au.refl _);rwa [show bF H n v=false by simp only [bF,e1]] at z
theorem EQ:cW T.AC P w base 3 (u9):=by
 have BQ:=DQ P w base T B;refine T.AC.F.ok Bz (λvs H Q E h=>?_) (λbr A outer s H vs Q E hr h=>?_)
 ·obtain ⟨b,x,t,_,_,_,_,rfl,_⟩:=h;rfl
 ·have nd:=Bz.nd;have hu:=hr.units;obtain ⟨b,x,t,aa,tr,tm,ps,rfl,hb,ht,q⟩:=h;refine ⟨_,(xh (wB (xu (aU BQ hr T.BE (xb (xf (pv 1) (xf xi (xf (wA fO (xr (xw rfl) (by rfl) T.bw PySem.boot_len (xb (xf (xz (wE rfl) (pv 0) xi (λ_ _=>rfl)) xl rfl))) xi) xl rfl) rfl) rfl)))))),?_⟩;refine (zr rfl (zr rfl (dW hb.book rfl ⟨tm,zr rfl ⟨.inr (bC.of hb.meets),aM rfl rfl ⟨x,t,nU rfl ⟨ht,?_⟩⟩⟩⟩)));rw [zA];exact q
theorem GC:cW T.BF P w base 3 (u7):=by
 have BQ:=DQ P w base T B;refine T.BF.F.ok Gq (λvs H Q E h=>?_) (λbr A outer s H vs Q E hr h=>?_)
 ·obtain ⟨b,x,t,_,_,_,_,rfl,_⟩:=h;rfl
 ·have nd:=Gq.nd;have hu:=hr.units;obtain ⟨b,x,t,aa,tr,tm,ps,rfl,hb,ht,q⟩:=h;refine ⟨_,(xh (wB (xu (aU BQ hr T.BE (xb (xf (pv 1) (xf xi (xf (wA fO (xr (xw rfl) (by rfl) T.bw PySem.boot_len (xb (xf (xz (wE rfl) (pv 0) xi (λ_ _=>rfl)) xl rfl))) xi) xl rfl) rfl) rfl)))))),?_⟩;refine (zr rfl (zr rfl (dW hb.book rfl ⟨tr,zr rfl ⟨.inr (bC.of hb.aa),aM rfl rfl ⟨x,t,nU rfl ⟨ht,?_⟩⟩⟩⟩)));rw [zA];exact q
theorem DS:cW T.Cn P w base 1 (N9):=by
 refine T.Cn.F.ok Hm (λvs H Q E h=>?_) (λbr A outer s H vs Q E hr h=>?_)
 ·obtain ⟨b,t,_,_,_,_,rfl,_⟩:=h;rfl
 ·have nd:=Hm.nd;have hu:=hr.units;obtain ⟨b,t,aa,tr,tm,ps,rfl,hb,hn,q⟩:=h;refine ⟨_,(xh (wB (xu (xr (xw rfl) (by rfl) T.bw PySem.boot_len (xb (xf (wx (own:=["meeting"]) (caps:=[1]) rfl (show aK ["meeting"] [1] ["book", "time"] (aj Fo) _ from L2.iz) (sY rfl (xz (wE rfl) (pv 0) xi (λ_ _=>rfl))) (λ_ _ _ _=>(xp (i:=0) (show List.Nodup (["meeting", "time"]:List Str) from by decide +kernel) rfl rfl)) (λ_ _ _ _=>qm (wD o7 (xz (wE rfl) (pv 0) xi (λ_ _=>rfl)) (pv 1) (aB _))) (λ_ _ _ _=>(pv 0))) xl rfl)))))),?_⟩;refine (zr rfl (dW hb.book rfl ⟨tm,rfl,⟨_,bC.of hb.meets⟩,?_⟩));refine (let W4:IC:=λi τ acc H5=>(∃ t0,τ=[t0,some (.int t)])/\acc.length=cnt ((ps.map (·.2)).take i) t/\acc.length<=i/\au H H5;ug (K:=K) (a:=tm) (xs:=ps.map λa=>V.ref a.1) W4)
   ?_ (by rw [zA];omega) ?_ ?_ ?_
  ·exact ⟨⟨_,rfl⟩,rfl,zF _,au.refl _⟩
  ·rintro i τ acc H5 ⟨⟨t0,rfl⟩,_,le,sm⟩;exact ⟨le,bC.of (sm _ _ hb.meets)⟩
  ·rintro i x τ acc H5 C hx ⟨⟨t0,rfl⟩,ec,le,sm⟩ hC;obtain ⟨r,hr,rfl⟩:=wO hx;have dY:=sm _ _ (hb.rows r (zC hr));have hm:(ps.map (·.2))[i]?=some r.2:=by rw [zI,hr];rfl
   refine (zr rfl (dW dY rfl (zr rfl (aM rfl rfl (zr rfl (j6 (λc=>(zr rfl (hC _ _ _ ?_))) (λc=>hC _ _ _ ?_)))))))
   ·exact ⟨⟨_,rfl⟩,by rw [uh hm,if_pos c,zN,ec];rfl,by rw [zN];exact xY le,sm⟩
   ·exact ⟨⟨_,rfl⟩,by rw [uh hm,if_neg c,ec];rfl,by omega,sm⟩
  ·rintro τ acc H5 ⟨⟨t0,rfl⟩,ec,le,sm⟩ l hl;have e:(ps.map λa=>V.ref a.1).length=(ps.map (·.2)).length:=by simp
   rw [e,zv] at ec;refine ⟨l,zr rfl ⟨.inl (aH.of xg),?_⟩⟩;rw [ec];exact q _ (sm.trans (xk hl))
theorem Hh:cW T.GR P w base 1 (TV):=by
 refine T.GR.F.ok JF (λvs H Q E h=>?_) (λbr A outer s H vs Q E hr h=>?_)
 ·obtain ⟨b,_,_,_,_,rfl,_⟩:=h;rfl
 ·have nd:=JF.nd;have hu:=hr.units;obtain ⟨b,aa,tr,tm,ps,rfl,hb,gd,q⟩:=h;refine bT ?_;intro Y
  let B0:Bk Y ((nb (ak GO) 1).drop 1):=⟨_,(xh (wB (qH (fu ze zg zh wY (pv 1) (xb (xf (wZ (xb (xf (pv 2) (xf (pv 4) (xf (pv 3) (xf (pv 5) xl rfl) rfl) rfl) rfl))) xl rfl))))))⟩
  let B1:Bk Y (nb (ak GO) 1):=⟨_,(xh (xy (qH (fu ze zg zh wY (pv 1) (xb (xf (wZ (xb (xf (pv 2) (xf (pv 3) (xf (pv 4) (xf (pv 5) xl rfl) rfl) rfl) rfl))) xl rfl)))) B0.bl))⟩
  let B2:Bk Y ((ak GO).drop 1):=⟨_,(xh (xy (wl PassesOwn.never rfl (Ov rfl rfl T.bS (xb (xf (xz (wE rfl) (pv 0) xi (λ_ _=>rfl)) xl rfl))) (wI (n:=2) rfl rfl (xo (xp (i:=2) nd rfl rfl) (xo (wI (n:=4) rfl rfl (xo (xp (i:=3) nd rfl rfl) (xo (xp (i:=4) nd rfl rfl) (xo (xp (i:=5) nd rfl rfl) (xo (xp (i:=6) nd rfl rfl) wH))))) wH))) B1.ps) (wB (xu (pv 1)))))⟩
  refine ⟨_,(xh (xy (xt (i:=1) nd rfl rfl (wM qX)) B2.bl)),?_⟩;have line:=bA;have Xh:=gd.len;refine ⟨za _,λl hl=>?_⟩;have iY:=hb.same (xk (o:=HO.lst []) hl);refine (zr rfl (dW iY.book rfl ⟨tm,rfl,⟨_,bC.of iY.meets⟩,?_⟩));refine (let W5:IV:=λi σ H4=>(∃ v2 v3 v4 v5 v6,σ=[some (.ref b),some (.ref l),v2,v3,v4,v5,v6])/\au H H4/\∃ ws:List (Addr×W4),H4 l=some (.lst (ws.map λa=>V.ref a.1))/\(∀ a∈ws,H4 a.1=some (.tup a.2.vs))/\ws.map (·.2)=cR (ps.map (·.2)) i/\ws.length=2 * i;MR (K:=K) (a:=tm) (xs:=ps.map λa=>V.ref a.1) W5)
   ⟨⟨_,_,_,_,_,rfl⟩,xk hl,[],xg,(λ_ z=>nomatch z),rfl,rfl⟩ (λi σ H4 _ h4=>bC.of ((hb.same h4.2.1).meets)) ?_ ?_
  ·rintro i x q' σ H4 hx hq ⟨⟨v2,v3,v4,v5,v6,rfl⟩,sm,ws,h4,hr,ew,lw⟩;obtain ⟨r,rq,rfl⟩:=wO hx;have hi:i < ps.length:=(zD.mp rq).1;have hm:(ps.map (·.2))[i]?=some r.2:=by rw [zI,rq];rfl
   obtain ⟨a1,a2,a3,a4,a5,_⟩:=gd.at (zC rq);have lH:=sm.trans (xk (o:=HO.tup [.int i,.ref r.1]) hq);have dY:=(hb.same lH).rows r (zC rq);have h5:=(xk (o:=HO.tup [.int i,.ref r.1]) hq) _ _ h4;refine ⟨q',zr rfl ⟨bC.of xg,rfl,nU rfl (nU rfl (Ni dY ⟨rfl,?_⟩))⟩⟩;refine (zr rfl ⟨.inl ⟨rfl,_,aH.of h5⟩,zr rfl (zr rfl (zr rfl (zr rfl ⟨by show 4<=sizeLine;omega,λt1 VW=>⟨l,aM rfl rfl ⟨xk VW _ _ h5,by rw [zA];omega,?_⟩⟩⟩)))⟩);have n1:t1≠l:=(xj h5 VW).symm;refine (zr rfl ⟨.inl ⟨rfl,_,aH.of xg⟩,zr rfl (zr rfl (zr rfl (zr rfl ⟨by show 4<=sizeLine;omega,λt2 Qu=>⟨l,aM rfl rfl ⟨xk Qu _ _ xg,by rw [zN,zA];show ws.length + 1 < sizeLine;omega,?_⟩⟩⟩)))⟩);have n2:t2≠l:=λz=>by rw [z,xg] at Qu;cases Qu
   have n12:t1≠t2:=λz=>by rw [<-z,xq n1,xg] at Qu;cases Qu
   have e1:(r.2.lo.toNat:Int)=r.2.lo:=Int.toNat_of_nonneg a1;have e2:(r.2.hi.toNat:Int)=r.2.hi:=Int.toNat_of_nonneg (by omega);have kX:au H (upd (upd (upd (upd (upd H4 q' (.tup [.int i,.ref r.1])) t1 (.tup [.int i,.int r.2.lo,.int r.2.hi,.int r.2.t])) l (.lst ((ws.map λa=>V.ref a.1)++[.ref t1]))) t2 (.tup [.int i,.int r.2.hi,.int r.2.lo,.int r.2.t])) l (.lst ((ws.map λa=>V.ref a.1)++[.ref t1]++[.ref t2]))):=
    au.put hl ((au.put hl (lH.trans (xk VW))).trans (xk Qu))
   refine ⟨⟨_,_,_,_,_,rfl⟩,kX,ws++[(t1,⟨i,⟨r.2.lo.toNat,r.2.hi.toNat,r.2.t⟩⟩),(t2,⟨i,⟨r.2.hi.toNat,r.2.lo.toNat,r.2.t⟩⟩)],?_,λa ha=>?_,?_,?_⟩
   ·rw [xg,zH,List.append_assoc];rfl
   ·rcases zX.mp ha with h | h
    ·have:=hr a h;have na:a.1≠l:=cH this h4 (by intro z;cases z);have b1:=xk (o:=HO.tup [.int i,.ref r.1]) hq _ _ this;have b2:=xk (o:=HO.tup [.int i,.int r.2.lo,.int r.2.hi,.int r.2.t]) VW _ _ b1;rw [xq na];exact xk Qu _ _ (by rw [xq na];exact b2)
    ·simp only [zO,zw,or_false] at h;rcases h with rfl | rfl
     ·rw [xq n1];refine xk Qu _ _ ?_;rw [xq n1,xg];show _=some (HO.tup [.int i,.int (r.2.lo.toNat:Int),.int (r.2.hi.toNat:Int),.int r.2.t]);rw [e1,e2]
     ·rw [xq n2,xg];show _=some (HO.tup [.int i,.int (r.2.hi.toNat:Int),.int (r.2.lo.toNat:Int),.int r.2.t]);rw [e1,e2]
   ·rw [zH,ew,lR hm];rfl
   ·rw [zN,lw];show 2 * i + 2=_;omega
  ·rintro σ H4 ⟨⟨v2,v3,v4,v5,v6,rfl⟩,sm,ws,h4,hr,ew,lw⟩;rw [zA] at ew;exact (zr rfl (q l ws _ hl sm h4 hr ew))
theorem C5:cW T.Bp P w base 1 (LW):=by
 refine T.Bp.F.ok G5 (λvs H Q E h=>?_) (λbr A outer s H vs Q E hr h=>?_)
 ·obtain ⟨b,k,v,_,_,_,_,_,rfl,_⟩:=h;rfl
 ·have nd:=G5.nd;have hu:=hr.units;obtain ⟨b,k,v,aa,tr,tm,ps,m,rfl,hb,hm,q⟩:=h;refine ⟨_,(xh (xy (qN (xz (wE rfl) (xz (wE rfl) (pv 0) xi (λ_ _=>rfl)) (pv 1) (λ_ _=>rfl)) (wI (n:=4) rfl rfl (xo (xp (i:=3) nd rfl rfl) (xo (xp (i:=4) nd rfl rfl) (xo (xp (i:=5) nd rfl rfl) (xo (xp (i:=6) nd rfl rfl) wH)))))) (wB (xu (jh (wD qL (pv 2) (pv 3) (aB _)) (pv 4) (pv 3)))))),?_⟩;have hk:k < ps.length:=by
   have:=(zD.mp hm).1;simpa using this
  have em:ps[k].2=m:=by
   rw [zI,zJ hk] at hm;exact Option.some.inj hm
  have dY:=hb.rows _ (yC hk);rw [em] at dY;refine (zr rfl (dW hb.book rfl (zr rfl (dW hb.meets (wF (v:=V.ref ps[k].1) (by simp [hk])) (Ni dY ?_)))));refine (zr rfl (zr rfl ⟨rfl,zr rfl (j6 (λc=>?_) (λc=>?_))⟩))
  ·rw [if_pos (V.int.inj c)] at q;exact (zr rfl q)
  ·rw [if_neg λz=>c (by rw [z])] at q;exact (zr rfl q)
theorem EO:cW T.Ct P w base 1 (T5):=by
 refine T.Ct.F.ok G6 (λvs H Q E h=>?_) (λbr A outer s H vs Q E hr h=>?_)
 ·obtain ⟨b,k,x,_,_,_,_,rfl,_⟩:=h;rfl
 ·have nd:=G6.nd;have hu:=hr.units;obtain ⟨b,k,x,aa,tr,tm,ps,rfl,hb,hn,q⟩:=h;refine ⟨_,(xh (wB (xu (wx (own:=["other"]) (caps:=[2,1]) rfl (show aK ["other"] [2,1] ["book", "walker", "number"] (aj DC) _ from L2.iz) (qT rfl T.cQ (xb (xf (xr (xw rfl) (by rfl) T.bw PySem.boot_len (xb (xf (xz (wE rfl) (pv 0) xi (λ_ _=>rfl)) xl rfl))) xl rfl))) (λ_ _ _ _=>(xp (i:=0) (show List.Nodup (["other", "number", "walker"]:List Str) from by decide +kernel) rfl rfl)) (λ_ _ _ _=>ww) (λ_ _ _ _=>(jh (wD qL (pv 0) (pv 2) (aB _)) (pv 1) qW)))))),?_⟩;refine (zr rfl (dW hb.book rfl ⟨tr,zr rfl ⟨.inr (bC.of hb.aa),zr rfl ⟨by rw [zA];omega,by rw [zA];omega,?_⟩⟩⟩));refine (let W6:IC:=λi τ acc H5=>(∃ t0,τ=[t0,some (.int x),some (.int k)])/\acc=(rep i (aA k x)).map oV/\H5=H;dS (lo:=0) (m:=(aa.map V.int).length) W6 ?_ (by rw [zA];omega) ?_ ?_ ?_)
  ·exact ⟨⟨_,rfl⟩,rfl,rfl⟩
  ·rintro i τ acc H5 ⟨⟨t0,rfl⟩,rfl,rfl⟩;rw [zA,fN];exact zF _
  ·rintro i τ acc H5 C hi ⟨⟨t0,rfl⟩,rfl,rfl⟩ hC;have snoc:∀ v,oV (aA k x i)=v->(rep i (aA k x)).map oV++[v]=(rep (i + 1) (aA k x)).map oV:=λv e=>by
    unfold rep;rw [xL,zH,zH,<- e];rfl
   refine (zr rfl (zr rfl ⟨rfl,zr rfl (j6 (λc=>(zr rfl (hC _ _ _ ⟨⟨_,rfl⟩,snoc _ ?_,rfl⟩))) (λc=>hC _ _ _ ⟨⟨_,rfl⟩,snoc _ ?_,rfl⟩))⟩))
   ·have:i=k:=by have:=V.int.inj c;omega
    unfold aA;rw [if_pos this];rfl
   ·have:i≠k:=λz=>c (by rw [z];simp);unfold aA;rw [if_neg this];rfl
  ·rintro τ acc H5 ⟨⟨t0,rfl⟩,rfl,rfl⟩ l hl;rw [zA];exact q l _ hl (xk hl) xg
theorem Fq:cW T.Dt P w base 1 (Q9):=by
 refine T.Dt.F.ok Iz (λvs H Q E h=>?_) (λbr A outer s H vs Q E hr h=>?_)
 ·obtain ⟨_,_,_,rfl,_⟩:=h;rfl
 ·have nd:=Iz.nd;have hu:=hr.units;obtain ⟨l,ws,n,rfl,hw,h60,q⟩:=h;refine ⟨_,(xh (wB (xu (wA fO (wA OE xi (xr (xw rfl) (by rfl) T.bw PySem.boot_len (xb (xf (pv 0) xl rfl)))) xi)))),?_⟩;refine (zr rfl ⟨l,zr rfl ⟨.inl (aH.of hw.1),aM rfl rfl ⟨⟨Int.natCast_nonneg _,by rw [zA];omega,by decide⟩,aM rfl rfl ?_⟩⟩⟩);rw [zA,KP];exact q
theorem EC:cW T.AR P w base 1 (N5):=by
 refine T.AR.F.ok EA (λvs H Q E h=>?_) (λbr A outer s H vs Q E hr h=>?_)
 ·obtain ⟨_,_,rfl,_⟩:=h;rfl
 ·have nd:=EA.nd;have hu:=hr.units;obtain ⟨s,k,rfl,k60,q⟩:=h;refine ⟨_,(xh (wB (xu (wA fO (pv 0) (wA OH (pv 0) (wA OE xi (pv 1))))))),?_⟩;refine (zr rfl (zr rfl (zr rfl (aM rfl rfl ⟨⟨Int.natCast_nonneg _,by omega,by decide⟩,aM rfl rfl (aM rfl rfl ?_)⟩))));rw [KP];show Q (V.int ((s:Int) - Builtin.bitAnd (s:Int) (((2 ^ k:Nat):Int)))) H;rw [RM];exact q
theorem GT:cW T.EJ P w base 1 (NZ):=by
 refine T.EJ.F.ok Iw (λvs H Q E h=>?_) (λbr A outer s H vs Q E hr h=>?_)
 ·obtain ⟨_,rfl,_⟩:=h;rfl
 ·have nd:=Iw.nd;have hu:=hr.units;obtain ⟨s,rfl,aeG,q⟩:=h;refine ⟨_,(xh (wB (xu (wx (own:=["part"]) (caps:=[0]) rfl (show aK ["part"] [0] ["some"] (aj GA) _ from L2.iz) (qT rfl T.cQ (xb (xf (wA wJ (pv 0) xi) xl rfl))) (λ_ _ _ _=>(xp (i:=0) (show List.Nodup (["part", "some"]:List Str) from by decide +kernel) rfl rfl)) (λ_ _ _ _=>qm (wD qL (wA OH (pv 0) (pv 1)) (pv 0) (aB _))) (λ_ _ _ _=>(wZ (xb (xf (pv 0) (xf (wA fO (pv 1) (pv 0)) xl rfl) rfl)))))))),?_⟩;have line:=bA;refine (zr rfl (aM rfl rfl (zr rfl ?_)));rw [show (s:Int) + 1=((s + 1:Nat):Int) from rfl];refine ⟨by omega,by omega,?_⟩;rw [zu];refine (let W7:IC:=λi τ acc H5=>(∃ t0,τ=[t0,some (.int (s:Int))])/\au H H5/\∃ rs:List (Addr×Nat×Nat),acc=rs.map (λr=>V.ref r.1)/\(∀ r∈rs,H5 r.1=some (.tup [.int (r.2.1:Int),.int (r.2.2:Int)]))/\rs.map (·.2)=(((List.range (s + 1)).take i).filter λp=>p &&& s == p).map λp=>(p,s - p);dS (lo:=0) (m:=s + 1) W7 ⟨⟨_,rfl⟩,au.refl _,[],rfl,(λ_ z=>nomatch z),rfl⟩ (by omega) ?_ ?_ ?_)
  ·rintro i τ acc H5 ⟨_,_,rs,rfl,_,e⟩;rw [zA];have:=congrArg List.length e;rw [zA,zA] at this;have z:=List.length_filter_le (λp:Nat=>p &&& s == p) ((List.range (s + 1)).take i);rw [zY] at z;omega
  ·rintro i τ acc H5 C hi ⟨⟨t0,rfl⟩,sm,rs,rfl,hr,e⟩ hC;have st:=wP (l:=List.range (s + 1)) (i:=i) (r:=i) (by rw [List.getElem?_range hi]);refine (zr rfl (zr rfl (aM rfl rfl (zr rfl ⟨rfl,?_⟩))));rw [Int.zero_add];refine (zr rfl ?_);show if decide (V.int (Builtin.bitAnd (i:Int) (s:Int))=V.int (i:Int))=true then _ else _;rw [Lq];by_cases e1:i &&& s=i
   ·refine aI (decide_eq_true (by rw [e1])) (zr rfl (zr rfl (zr rfl (aM rfl rfl ⟨by show 2<=sizeLine;omega,λt ht=>?_⟩))));refine hC _ _ _ ⟨⟨_,rfl⟩,sm.trans (xk ht),rs++[(t,i,s - i)],by rw [zH];rfl,λr vO=>?_,?_⟩
    ·rcases zX.mp vO with h | h
     ·exact xk ht _ _ (hr r h)
     ·cases zK.mp h;rw [xg,show ((s - i:Nat):Int)=(s:Int) - (i:Int) by omega]
    ·rw [st,List.filter_append,zH,zH,e];simp [e1]
   ·refine aF (decide_eq_false (λz=>e1 (Int.ofNat.inj (V.int.inj z)))) (hC _ _ _ ⟨⟨_,rfl⟩,sm,rs,rfl,hr,?_⟩);rw [st,List.filter_append,zH,e];simp [e1]
  ·rintro τ acc H5 ⟨⟨t0,rfl⟩,sm,rs,rfl,hr,e⟩ lc gO;have s2:=xk (o:=HO.lst (rs.map λr=>V.ref r.1)) gO;refine q lc rs _ (sm.trans s2) xg (λr h=>s2 _ _ (hr r h)) ?_;rw [e,yc (by rw [xA];exact zF _)];rfl
theorem Ij:cW T.DJ P w base 4 (sM):=by
 have Ja:=Im P w base T B;have CT:=Fq P w base T B;refine T.DJ.F.ok FB (λvs H Q E h=>?_) (λbr A outer s H vs Q E hr h=>?_)
 ·obtain ⟨_,_,_,_,_,_,_,_,rfl,_⟩:=h;rfl
 ·have nd:=FB.nd;have hu:=hr.units;obtain ⟨b,l,v,aa,tr,tm,ps,ws,rfl,hb,jY,hw,w4,dt,q⟩:=h;refine bT ?_;intro Y
  let B0:Bk Y ((ak qa).drop 1):=⟨_,(xh (wB (xu (xr (gQ rfl rfl) (by rfl) T.ux yx (xb (xf (wx (own:=["row"]) (caps:=[1]) rfl (show aK ["row"] [1] ["book", "wishes", "thing"] (aj qa) _ from L2.iz) (wU rfl (pv 2)) (λ_ _ _ _=>(xp (i:=0) (show List.Nodup (["row", "wishes"]:List Str) from by decide +kernel) rfl rfl)) (λ_ _ _ _=>ww) (λ_ _ _ _=>(aU Ja hr T.DM (xb (xf (pv 0) (xf (wA wJ (aU CT hr T.Dt (xb (xf (pv 1) xl rfl))) xi) xl rfl) rfl))))) xl rfl))))))⟩
  refine ⟨_,(xh (xy (wK (PW.pt (gu (wb (wR (xr (wf) (by rfl) T.az zL (xb (xf (pv 2) (xf (cO (v:=V.ty "list") rfl T.nF yn rfl) xl rfl) rfl))))) (dJ (wD iG (xr (xw rfl) (by rfl) T.bw PySem.boot_len (xb (xf (pv 2) xl rfl))) (xr (xw rfl) (by rfl) T.bw PySem.boot_len (xb (xf (xz (wE rfl) (pv 0) xi (λ_ _=>rfl)) xl rfl))) (aB _))))) (xh (wB (xu qV))) wC) B0.bl)),?_⟩;have line:=bA;rcases dt.way with ⟨a,xs,rfl,kl,e1,_,ex⟩ | ⟨a,xs,rfl,kl,e1,_,ex⟩ | ⟨t,ht,n1,_,e1,_⟩
  rotate_left
  ·refine (zr rfl ⟨_, "tuple", "list", rfl,cN kl,.inr (.inr (.inl rfl)),zr rfl (aI rfl ?_)⟩);have z:=q _ (au.refl _);rwa [show bf H aa.length (2 ^ ws.length) (.ref a)=false by simp only [bf,e1]] at z
  ·refine (zr rfl ⟨_,t, "list", rfl,ht,.inr (.inr (.inl rfl)),zr rfl (aI (by rw [n1];rfl) ?_)⟩);have z:=q _ (au.refl _);rwa [show bf H aa.length (2 ^ ws.length) v=false by simp only [bf,e1]] at z
  have cv:bf H aa.length (2 ^ ws.length) (.ref a)=(decide (xs.length=aa.length) && xs.all (bF H (2 ^ ws.length))):=by simp only [bf,e1]
  refine (zr rfl ⟨_, "list", "list", rfl,fJ kl,.inr (.inr (.inl rfl)),zr rfl (aF rfl (zr rfl ⟨a,zr rfl ⟨.inl (aH.of kl),zr rfl (dW hb.book rfl ⟨tr,zr rfl ⟨.inr (bC.of hb.aa),rfl,zr rfl ?_⟩⟩)⟩⟩))⟩);by_cases e:xs.length=aa.length
  rotate_left
  ·refine aI ?_ ?_
   ·rw [zA];simp;omega
   have z:=q _ (au.refl _);rwa [cv,decide_eq_false e,yH] at z
  refine aF (by rw [zA];simp;omega) ?_;refine (zr rfl ⟨a,rfl,⟨_,aH.of kl⟩,?_⟩);refine (let W8:IC:=λi τ acc H5=>(∃ t0,τ=[t0,some (.ref l)])/\acc=((xs.take i).map (bF H (2 ^ ws.length))).map V.bl/\au H H5;cL (K:=K) (a:=a) (xs:=xs) W8 ⟨⟨_,rfl⟩,rfl,au.refl _⟩ (by omega) ?_ ?_ ?_)
  ·rintro i τ acc H5 ⟨_,rfl,sm⟩;refine ⟨?_,aH.of (sm _ _ kl)⟩;rw [zA,zA,zY];omega
  ·rintro i v τ acc H5 C hv ⟨⟨t0,rfl⟩,rfl,sm⟩ hC;have dv:=ex v (zC hv);have Rw:=o4 w4;refine (zr rfl (zr rfl ⟨l,ws,aa.length,rfl,hw.same sm,by omega,aM rfl rfl ⟨v,2 ^ ws.length,?_,dv.same sm,by omega,λH6 s6=>?_⟩⟩))
   ·show [v,V.int (((2 ^ ws.length:Nat):Int) - 1 + 1)]=_;rw [Int.sub_add_cancel]
   rw [iL sm dv];refine hC _ _ _ ⟨⟨_,rfl⟩,?_,sm.trans s6⟩;rw [wP hv,zH,zH];rfl
  ·rintro τ acc H5 ⟨⟨t0,rfl⟩,rfl,sm⟩ lc gO;refine ⟨lc,zr rfl ⟨aH.of xg,?_⟩⟩;have z:=q _ (sm.trans (xk (o:=HO.lst (((xs.take xs.length).map (bF H (2 ^ ws.length))).map V.bl)) gO));rw [cv,decide_eq_true e,yo] at z;rw [zv,xW] at *;exact z
theorem FW:cW T.AU P w base 5 (N7):=by
 have IW:=Ij P w base T B;refine T.AU.F.ok Cq (λvs H Q E h=>?_) (λbr A outer s H vs Q E hr h=>?_)
 ·obtain ⟨_,_,_,_,_,_,_,_,rfl,_⟩:=h;rfl
 ·have nd:=Cq.nd;have hu:=hr.units;obtain ⟨b,l,v,aa,tr,tm,ps,ws,rfl,hb,jY,p60,hw,w4,dt,q⟩:=h;refine bT ?_;intro Y
  let B0:Bk Y ((ak wg).drop 1):=⟨_,(xh (wB (xu (xr (gQ rfl rfl) (by rfl) T.ux yx (xb (xf (wx (own:=["stretch"]) (caps:=[0,1]) rfl (show aK ["stretch"] [0,1] ["book", "wishes", "thing"] (aj wg) _ from L2.iz) (wU rfl (pv 2)) (λ_ _ _ _=>(xp (i:=0) (show List.Nodup (["stretch", "book", "wishes"]:List Str) from by decide +kernel) rfl rfl)) (λ_ _ _ _=>ww) (λ_ _ _ _=>(aU IW hr T.DJ (xb (xf (pv 1) (xf (pv 2) (xf (pv 0) xl rfl) rfl) rfl))))) xl rfl))))))⟩
  refine ⟨_,(xh (xy (wK (PW.pt (gu (wb (wR (xr (wf) (by rfl) T.az zL (xb (xf (pv 2) (xf (cO (v:=V.ty "list") rfl T.nF yn rfl) xl rfl) rfl))))) (dJ (wD iG (xr (xw rfl) (by rfl) T.bw PySem.boot_len (xb (xf (pv 2) xl rfl))) (wA wJ (xr (xw rfl) (by rfl) T.bw PySem.boot_len (xb (xf (xz (wE rfl) (pv 0) xi (λ_ _=>rfl)) xl rfl))) xi) (aB _))))) (xh (wB (xu qV))) wC) B0.bl)),?_⟩;have line:=bA;rcases dt.way with ⟨a,xs,rfl,kl,e1,_,ex⟩ | ⟨a,xs,rfl,kl,e1,_,ex⟩ | ⟨t,ht,n1,_,e1,_⟩
  rotate_left
  ·refine (zr rfl ⟨_, "tuple", "list", rfl,cN kl,.inr (.inr (.inl rfl)),zr rfl (aI rfl ?_)⟩);have z:=q _ (au.refl _);rwa [show cY H ps.length aa.length (2 ^ ws.length) (.ref a)=false by simp only [cY,e1]] at z
  ·refine (zr rfl ⟨_,t, "list", rfl,ht,.inr (.inr (.inl rfl)),zr rfl (aI (by rw [n1];rfl) ?_)⟩);have z:=q _ (au.refl _);rwa [show cY H ps.length aa.length (2 ^ ws.length) v=false by simp only [cY,e1]] at z
  have cv:cY H ps.length aa.length (2 ^ ws.length) (.ref a)=(decide (xs.length=ps.length + 1) && xs.all (bf H aa.length (2 ^ ws.length))):=by simp only [cY,e1]
  refine (zr rfl ⟨_, "list", "list", rfl,fJ kl,.inr (.inr (.inl rfl)),zr rfl (aF rfl (zr rfl ⟨a,zr rfl ⟨.inl (aH.of kl),zr rfl (dW hb.book rfl ⟨tm,zr rfl ⟨.inr (bC.of hb.meets),aM rfl rfl ⟨rfl,zr rfl ?_⟩⟩⟩)⟩⟩))⟩);by_cases e:xs.length=ps.length + 1
  rotate_left
  ·refine aI ?_ ?_
   ·rw [zA];simp;omega
   have z:=q _ (au.refl _);rwa [cv,decide_eq_false e,yH] at z
  refine aF (by rw [zA];simp;omega) ?_;refine (zr rfl ⟨a,rfl,⟨_,aH.of kl⟩,?_⟩);refine (let W9:IC:=λi τ acc H5=>(∃ t0,τ=[t0,some (.ref b),some (.ref l)])/\acc=((xs.take i).map (bf H aa.length (2 ^ ws.length))).map V.bl/\au H H5;cL (K:=K) (a:=a) (xs:=xs) W9 ⟨⟨_,rfl⟩,rfl,au.refl _⟩ (by omega) ?_ ?_ ?_)
  ·rintro i τ acc H5 ⟨_,rfl,sm⟩;refine ⟨?_,aH.of (sm _ _ kl)⟩;rw [zA,zA,zY];omega
  ·rintro i v τ acc H5 C hv ⟨⟨t0,rfl⟩,rfl,sm⟩ hC;have dv:=ex v (zC hv);refine (zr rfl (zr rfl (zr rfl (Vh b l v aa tr tm ps ws ⟨rfl,hb.same sm,jY,hw.same sm,w4,dv.same sm,λH6 s6=>?_⟩))));rw [p8 sm dv];refine hC _ _ _ ⟨⟨_,rfl⟩,?_,sm.trans s6⟩;rw [wP hv,zH,zH];rfl
  ·rintro τ acc H5 ⟨⟨t0,rfl⟩,rfl,sm⟩ lc gO;refine ⟨lc,zr rfl ⟨aH.of xg,?_⟩⟩;have z:=q _ (sm.trans (xk (o:=HO.lst (((xs.take xs.length).map (bf H aa.length (2 ^ ws.length))).map V.bl)) gO));rw [cv,decide_eq_true e,yo] at z;rw [zv,xW] at *;exact z
theorem FU:cW T.AS P w base 1 (LX):=by
 refine T.AS.F.ok Co (λvs H Q E h=>?_) (λbr A outer s H vs Q E hr h=>?_)
 ·obtain ⟨_,_,_,_,_,rfl,_⟩:=h;rfl
 ·have nd:=Co.nd;have hu:=hr.units;obtain ⟨l,nm,w,sz,P,rfl,hp,SH,w12,s1,Od,q⟩:=h;refine ⟨_,(xh (wB (xu (xr (gQ rfl rfl) (by rfl) T.ux yx (xb (xf (Ox (own:=["stretch", "row"]) (caps:=[]) rfl (show aK ["stretch", "row"] [] ["prices"] (aj qC) _ from L2.iz) (wU rfl (pv 0)) (λ_ _ _ _=>(xp (i:=0) (show List.Nodup (["stretch", "row"]:List Str) from by decide +kernel) rfl rfl)) (λ_ _ _ _=>ww) (λ_ _ _ _=>(wv qL (xz (xx rfl) (pv 1) xi (λ_ _=>rfl)) xi (aB _))) (λ_ _ _ _=>(wU rfl (pv 0))) (λ_ _ _ _=>(xp (i:=1) (show List.Nodup (["stretch", "row"]:List Str) from by decide +kernel) rfl rfl)) (λ_ _ _ _=>ww)) xl rfl)))))),?_⟩;have line:=bA;have line:=bA;have pl:=hp.len;refine (zr rfl ⟨l,rfl,⟨_,aH.of hp.top⟩,?_⟩);refine Ku (K:=K) (a:=l) (xs:=P.map λa=>V.ref a.1) (λi τ acc H5=>(∃ t0 t1,τ=[t0,t1])/\(acc=(fG (P.take i)).map V.bl/\acc.length<=i * 12/\i<=P.length)/\au H H5) ⟨⟨_,_,rfl⟩,⟨rfl,za _,za _⟩,au.refl _⟩ ?_ ?_ ?_
  ·rintro i τ acc H5 ⟨_,⟨_,le,li⟩,sm⟩;exact ⟨by omega,aH.of (sm _ _ hp.top)⟩
  ·rintro i v τ acc H5 D hv ⟨⟨t0,t1,rfl⟩,⟨rfl,le,li⟩,sm⟩ hD;obtain ⟨r,hrr,rfl⟩:=wO hv;have hm:=zC hrr;have i60:i < P.length:=(zD.mp hrr).1;have kr:=sm _ _ (hp.str r hm);have rw0:=hp.KL r hm;refine (zr rfl ⟨r.1,rfl,⟨_,aH.of kr⟩,?_⟩);refine in_list (K:=K) (a:=r.1) (xs:=r.2.map λb=>V.ref b.1) (λj τ acc H6=>(∃ t1,τ=[some (.ref r.1),t1])/\(acc=(fG (P.take i)++(r.2.take j).map λb=>decide (b.2.getD 0 0=0)).map V.bl)/\au H H6) ⟨⟨_,rfl⟩,by rw [List.take_zero,yF,yk],sm⟩ ?_ ?_ ?_
   ·rintro j τ acc H6 ⟨_,rfl,s6⟩;refine ⟨?_,aH.of (s6 _ _ (hp.str r hm))⟩;rw [zA,zN,zA,zY];rw [zA] at le;omega
   ·rintro j x τ acc H6 D2 hx ⟨⟨t1,rfl⟩,rfl,s6⟩ hD2;obtain ⟨b0,V2,rfl⟩:=wO hx;have mb:=zC V2;have st:=wP V2;refine (zr rfl (cI (s6 _ _ (hp.row r hm b0 mb)) (cM (n:=0) (by rw [hp.Nm r hm b0 mb];exact s1)) ?_));refine ⟨rfl,?_⟩;show D2 _ (_++[V.bl (decide (V.int (b0.2.getD 0 0)=V.int 0))]) _;refine hD2 _ _ _ ⟨⟨_,rfl⟩,?_,s6⟩;rw [st];simp
   ·rintro τ acc H6 ⟨⟨t1,rfl⟩,rfl,s6⟩;refine hD _ _ _ ⟨⟨_,_,rfl⟩,⟨?_,?_,i60⟩,s6⟩
    ·rw [zA,zv,uM hrr]
    ·rw [zA] at le;rw [zA,zN,zA,zY];omega
  ·rintro τ acc H5 ⟨⟨t0,t1,rfl⟩,⟨rfl,le,li⟩,sm⟩ lc gO;refine ⟨lc,zr rfl ⟨aH.of xg,?_⟩⟩;refine q _ _ (sm.trans (xk gO)) ?_;rw [zA,zv];exact LA
theorem FX:cW T.AV P w base 2 (p9):=by
 have Bv:=DS P w base T B;have CP:=EC P w base T B;refine T.AV.F.ok Cr (λvs H Q E h=>?_) (λbr A outer s H vs Q E hr h=>?_)
 ·obtain ⟨_,_,_,_,_,_,_,_,_,rfl,_⟩:=h;rfl
 ·have nd:=Cr.nd;have hu:=hr.units;obtain ⟨b,l,lp,aa,tr,tm,ps,ws,P,rfl,cx,q⟩:=h;refine bT ?_;intro Y
  let B0:Bk Y ((nb (nb (ak wW) 0) 0).drop 1):=⟨_,(xh (wB (wK (wR (xr (nu rfl rfl) (by rfl) T.P5 PyProof.Rows.boot_any (xb (xf (wx (own:=["some", "price"]) (caps:=[7,3]) rfl (show aK ["some", "price"] [7,3] ["book", "wishes", "prices", "number", "walker", "last", "stretch", "row"] (aj wW) _ from L2.iz) (fm rfl rfl T.bS (xb (xf (pv 7) xl rfl))) (λ_ _ _ _=>(wI (n:=2) rfl rfl (xo (xp (i:=0) (show List.Nodup (["some", "price", "row", "number"]:List Str) from by decide +kernel) rfl rfl) (xo (xp (i:=1) (show List.Nodup (["some", "price", "row", "number"]:List Str) from by decide +kernel) rfl rfl) wH)))) (λ_ _ _ _=>ww) (λ_ _ _ _=>(wv iH (pv 1) (xz (xx rfl) (pv 2) (aU CP hr T.AR (xb (xf (pv 0) (xf (pv 3) xl rfl) rfl))) (λ_ _=>rfl)) (aB _)))) xl rfl)))) (xh (wB (xu qV))) wC)))⟩
  let B1:Bk Y (nb (ak wW) 0):=⟨_,(xh (wB (wl PassesOwn.never rfl (wU rfl (dN (jd rfl) (pv 2) ia (dm (wA wJ (aU Bv hr T.Cn (xb (xf (pv 0) (xf (pv 5) xl rfl) rfl))) xi)))) (xp (i:=6) nd rfl rfl) (xh (xy (xt (i:=7) nd rfl rfl (xz (xx rfl) (pv 6) (pv 4) (λ_ _=>rfl))) B0.bl)))))⟩
  refine ⟨_,(xh (xy (wl PassesOwn.never rfl (fm rfl rfl T.bS (xb (xf (pv 1) xl rfl))) (wI (n:=2) rfl rfl (xo (xp (i:=3) nd rfl rfl) (xo (wI (n:=2) rfl rfl (xo (xp (i:=4) nd rfl rfl) (xo (xp (i:=5) nd rfl rfl) wH))) wH))) B1.ps) (wB (xu qV)))),?_⟩;have line:=bA;have w4:=cx.w4;have Rw:=o4 w4;have SH:ps.length<=60:=cx.gd.len;have pl:=cx.pr.len;refine (zr rfl ⟨l,rfl,⟨_,aH.of cx.wa.1⟩,?_⟩);refine (let W10:IV:=λi σ H5=>(∃ v3 v4 v5 v6 v7,σ=[some (.ref b),some (.ref l),some (.ref lp),v3,v4,v5,v6,v7])/\(∀ k x,k < i->ws[k]?=some x->S8 (ps.map (·.2)) (aG P) (2 ^ ws.length) k x.2.1 x.2.2)/\au H H5;fB (K:=K) (a:=l) (xs:=ws.map λa=>V.ref a.1) W10 ⟨⟨_,_,_,_,_,rfl⟩,(λk x z=>absurd z (zf _)),au.refl _⟩ ?_ ?_ ?_)
  ·rintro i σ H5 _ ⟨_,_,sm⟩;exact aH.of (sm _ _ cx.wa.1)
  ·rintro i v q0 σ H5 hv hq ⟨⟨v3,v4,v5,v6,v7,rfl⟩,old,sm⟩;obtain ⟨x,hx,rfl⟩:=wO hv;have i4:i < ws.length:=(zD.mp hx).1;have s6:=sm.trans (xk (o:=HO.tup [V.int (i:Int),V.ref x.1]) hq);have kq:upd H5 q0 (HO.tup [V.int (i:Int),V.ref x.1]) q0=some (.tup [V.int (i:Int),V.ref x.1]):=xg;generalize upd H5 q0 (HO.tup [V.int (i:Int),V.ref x.1])=H6 at s6 kq ⊢;have rJ:=cx.same s6;obtain ⟨kx,lx⟩:=rJ.wa.2 x (zC hx);refine ⟨q0,zr rfl ⟨bC.of kq,rfl,nU rfl (nU rfl (p6 kx ⟨rfl,?_⟩))⟩⟩;refine (zr rfl (zr rfl (zr rfl (Y8 b x.2.2 aa tr tm ps ⟨rfl,rJ.bk,by omega,λH7 s7=>?_⟩))));refine (aM rfl rfl (zr rfl ⟨lp,zr rfl ⟨aH.of (rJ.same s7).pr.top,λl2 rZ=>?_⟩⟩));rw [show ((cnt (ps.map (·.2)) x.2.2:Nat):Int) + 1=((cnt (ps.map (·.2)) x.2.2 + 1:Nat):Int) from rfl,uf,<- List.map_take];have s8:=(s6.trans s7).trans (xk (o:=HO.lst ((P.take (cnt (ps.map (·.2)) x.2.2 + 1)).map λa=>V.ref a.1)) rZ);have k8:upd H7 l2 (HO.lst ((P.take (cnt (ps.map (·.2)) x.2.2 + 1)).map λa=>V.ref a.1)) l2=some (.lst ((P.take (cnt (ps.map (·.2)) x.2.2 + 1)).map λa=>V.ref a.1)):=xg;generalize upd H7 l2 _=H8 at s8 k8 ⊢;refine ⟨l2,rfl,⟨_,aH.of k8⟩,?_⟩;refine cV (K:=K) (a:=l2) (xs:=(P.take (cnt (ps.map (·.2)) x.2.2 + 1)).map λa=>V.ref a.1) (λj σ H5=>(∃ v6 v7,σ=[some (.ref b),some (.ref l),some (.ref lp),some (.int (i:Int)),some (.int (x.2.1:Int)),some (.int x.2.2),v6,v7])/\(∀ i' < j,∀ s < 2 ^ ws.length,s.testBit i=true->bI (aG P) i' x.2.1 s<=bI (aG P) i' x.2.1 (s - 2 ^ i))/\au H8 H5) ⟨⟨_,_,rfl⟩,(λj z=>absurd z (zf _)),au.refl _⟩ ?_ ?_ ?_
   ·rintro j σ H9 _ ⟨_,_,s9⟩;exact aH.of (s9 _ _ k8)
   ·rintro j v σ H9 RX ⟨⟨v6,v7,rfl⟩,o2,s9⟩;obtain ⟨a1,ha,rfl⟩:=wO RX;obtain ⟨lj,hj⟩:=uT ha;have ma:=zC hj;have V7:=cx.same (s8.trans s9);obtain ⟨r,hr⟩:∃ r,a1.2[x.2.1]?=some r:=⟨_,zJ (by rw [V7.pr.KL a1 ma];exact lx)⟩;have mr:=zC hr;have lr:=V7.pr.Nm a1 ma r mr;refine (zr rfl (zr rfl (cI (V7.pr.str a1 ma) (wF (by rw [zI,hr];rfl)) ?_)));refine (zr rfl ⟨r.1,rfl,⟨_,aH.of (V7.pr.row a1 ma r mr)⟩,?_⟩);refine (let W11:IC:=λs τ acc rT=>(∃ t0 t1,τ=[t0,t1,some (.ref r.1),some (.int (i:Int))])/\acc=(((List.range r.2.length).take s).map λs=>decide (r.2.getD (cJ s i) 0 < r.2.getD s 0)).map V.bl/\au H9 rT;Ks (K:=K) (a:=r.1) (xs:=r.2.map V.int) W11 ⟨⟨_,_,rfl⟩,rfl,au.refl _⟩ (by rw [zA];omega) ?_ ?_ ?_)
    ·rintro s τ acc rT ⟨_,rfl,iV⟩;refine ⟨?_,aH.of (iV _ _ (V7.pr.row a1 ma r mr))⟩;rw [zA,zA,zY];omega
    ·rintro s v τ acc rT C q2 hv3 Qv ⟨⟨t0,t1,rfl⟩,rfl,iV⟩ hC;obtain ⟨y,hy,rfl⟩:=wO hv3;have ls:s < r.2.length:=(zD.mp hy).1;have Sx:=iV.trans (xk (o:=HO.tup [V.int (s:Int),V.int y]) Qv);have ll:=RL s i;refine (p6 xg (zr rfl (zr rfl (zr rfl (zr rfl ⟨s,i,rfl,by omega,?_⟩)))));refine (cI (Sx _ _ (V7.pr.row a1 ma r mr)) (cM (by omega)) (aM rfl rfl (hC _ _ _ ⟨⟨_,_,rfl⟩,?_,Sx⟩)));rw [wP (l:=List.range r.2.length) (i:=s) (r:=s) (by rw [List.getElem?_range ls]),zH,zH,<- mX hy];rfl
    ·rintro τ acc rT ⟨⟨t0,t1,rfl⟩,rfl,iV⟩ lc gO;have eb:((List.range r.2.length).take (r.2.map V.int).length).map (λs=>decide (r.2.getD (cJ s i) 0 < r.2.getD s 0))=OC r.2 i (2 ^ ws.length):=by rw [zA,yc (by rw [xA];exact zF _),lr];rfl
     rw [eb];have Of:=iV.trans (xk (o:=HO.lst ((OC r.2 i (2 ^ ws.length)).map V.bl)) gO);refine ⟨lc,zr rfl ⟨aH.of xg,zr rfl ?_⟩⟩;cases eo:(OC r.2 i (2 ^ ws.length)).any id with
     | true=>
      refine aI rfl (q false _ ((s8.trans s9).trans Of) ⟨(λz=>nomatch z),λz=>?_⟩);rw [OB.mpr λs hs hb=>by have:=z i x hx j (by omega) s hs hb;rwa [qB hj hr,qB hj hr] at this] at eo;cases eo
     | false=>
      refine aF rfl ⟨⟨_,_,rfl⟩,λi' f9 s hs hb=>?_,s9.trans Of⟩;by_cases e:i'=j
      ·subst e;rw [qB hj hr,qB hj hr];exact OB.mp eo s hs hb
      ·exact o2 i' (by omega) s hs hb
   ·rintro σ H9 ⟨⟨v6,v7,rfl⟩,o2,s9⟩;refine ⟨⟨_,_,_,_,_,rfl⟩,λk y hk hy=>?_,s8.trans s9⟩;by_cases e:k=i
    ·subst e;rw [hx] at hy;cases hy;intro i' f9 s hs hb;have:=qY (ps.map (·.2)) x.2.2;rw [zA] at this;exact o2 i' (by rw [zA,zY];omega) s hs hb
    ·exact old k y (by omega) hy
  ·rintro σ H5 ⟨⟨v3,v4,v5,v6,v7,rfl⟩,old,sm⟩;refine q true H5 sm ⟨λ_ k x hx=>old k x (by rw [zA];exact (zD.mp hx).1) hx,λ_=>rfl⟩
theorem FV:cW T.AT P w base 1 (u5):=by
 refine T.AT.F.ok Cp (λvs H Q E h=>?_) (λbr A outer s H vs Q E hr h=>?_)
 ·obtain ⟨_,_,_,_,_,rfl,_⟩:=h;rfl
 ·have nd:=Cp.nd;have hu:=hr.units;obtain ⟨l,nm,w,sz,P,rfl,hp,SH,w12,Od,q⟩:=h;refine bT ?_;intro Y
  let B0:Bk Y (nb (nb (ak wX) 0) 0):=⟨_,(xh (wB (wK (wR (xr (nu rfl rfl) (by rfl) T.P5 PyProof.Rows.boot_any (xb (xf (wx (own:=["price", "kept"]) (caps:=[]) rfl (show aK ["price", "kept"] [] ["prices", "stretch", "following", "row", "later"] (aj wX) _ from L2.iz) (qo rfl rfl T.P1 (xb (xf (pv 3) (xf (pv 4) xl rfl) rfl))) (λ_ _ _ _=>(wI (n:=2) rfl rfl (xo (xp (i:=0) (show List.Nodup (["price", "kept"]:List Str) from by decide +kernel) rfl rfl) (xo (xp (i:=1) (show List.Nodup (["price", "kept"]:List Str) from by decide +kernel) rfl rfl) wH)))) (λ_ _ _ _=>ww) (λ_ _ _ _=>(wv iH (pv 0) (pv 1) (aB _)))) xl rfl)))) (xh (wB (xu qV))) wC)))⟩
  let B1:Bk Y (nb (ak wX) 0):=⟨_,(xh (wB (wl PassesOwn.never rfl (qo rfl rfl T.P1 (xb (xf (pv 1) (xf (pv 2) xl rfl) rfl))) (wI (n:=2) rfl rfl (xo (xp (i:=3) nd rfl rfl) (xo (xp (i:=4) nd rfl rfl) wH))) B0.ps)))⟩
  refine ⟨_,(xh (xy (wl PassesOwn.never rfl (qo rfl rfl T.P1 (xb (xf (pv 0) (xf (dN (jd rfl) (pv 0) (dm xi) ia) xl rfl) rfl))) (wI (n:=2) rfl rfl (xo (xp (i:=1) nd rfl rfl) (xo (xp (i:=2) nd rfl rfl) wH))) B1.ps) (wB (xu qV)))),?_⟩;have line:=bA;have pl:=hp.len;refine (zr rfl (zr rfl (zr rfl ⟨l,zr rfl ⟨aH.of hp.top,λl2 rZ=>?_⟩⟩)));rw [show (1:Int)=((1:Nat):Int) from rfl,PU,<- List.map_drop];have s1:=xk (o:=HO.lst ((P.drop 1).map λa=>V.ref a.1)) rZ;have k1:upd H l2 (HO.lst ((P.drop 1).map λa=>V.ref a.1)) l2=some (.lst ((P.drop 1).map λa=>V.ref a.1)):=xg;generalize upd H l2 _=H1 at s1 k1 ⊢;refine ⟨l,l2,rfl,⟨_,aH.of (s1 _ _ hp.top)⟩,⟨_,aH.of k1⟩,?_⟩;refine Pj (K:=K) (a:=l) (b:=l2) (xs:=P.map λa=>V.ref a.1) (ys:=(P.drop 1).map λa=>V.ref a.1) (by rw [zA,zA,yR];omega) (λi σ H5=>(∃ v1 v2 v3 v4,σ=[some (.ref l),v1,v2,v3,v4])/\(∀ i' < i,Qh (aG P) i' w sz)/\au H1 H5) ⟨⟨_,_,_,_,rfl⟩,(λj z=>absurd z (zf _)),au.refl _⟩ ?_ ?_ ?_
  ·rintro i σ H5 _ ⟨_,_,s5⟩;exact ⟨aH.of (s5 _ _ (s1 _ _ hp.top)),aH.of (s5 _ _ k1)⟩
  ·rintro i x y q0 σ H5 hx hy hq ⟨⟨v1,v2,v3,v4,rfl⟩,old,s5⟩;obtain ⟨a1,ha,rfl⟩:=wO hx;obtain ⟨a2,Pd,rfl⟩:=wO hy;rw [List.getElem?_drop,Nat.add_comm] at Pd;have s6:=(s1.trans s5).trans (xk (o:=HO.tup [V.ref a1.1,V.ref a2.1]) hq);have kq:upd H5 q0 (HO.tup [V.ref a1.1,V.ref a2.1]) q0=some (.tup [V.ref a1.1,V.ref a2.1]):=xg;have s56:=xk (o:=HO.tup [V.ref a1.1,V.ref a2.1]) hq;generalize upd H5 q0 _=H6 at s6 s56 kq ⊢;have m1:=zC ha;have m2:=zC Pd;have Xz:=hp.same s6;refine (p6 kq ?_);refine (zr rfl (zr rfl ⟨a1.1,a2.1,rfl,⟨_,aH.of (Xz.str a1 m1)⟩,⟨_,aH.of (Xz.str a2 m2)⟩,?_⟩));have e12:a1.2.length=a2.2.length:=by rw [hp.KL a1 m1,hp.KL a2 m2]
   refine Pk (K:=K) (a:=a1.1) (b:=a2.1) (xs:=a1.2.map λa=>V.ref a.1) (ys:=a2.2.map λa=>V.ref a.1) (by rw [zA,zA,e12]) (λj σ H7=>(∃ v3 v4,σ=[some (.ref l),some (.ref a1.1),some (.ref a2.1),v3,v4])/\(∀ j' < j,∀ s < sz,bI (aG P) i j' s<=bI (aG P) (i + 1) j' s)/\au H6 H7) ⟨⟨_,_,rfl⟩,(λj z=>absurd z (zf _)),au.refl _⟩ ?_ ?_ ?_
   ·rintro j σ H7 _ ⟨_,_,s7⟩;exact ⟨aH.of (s7 _ _ (Xz.str a1 m1)),aH.of (s7 _ _ (Xz.str a2 m2))⟩
   ·rintro j x y q1 σ H7 hx hy SO ⟨⟨v3,v4,rfl⟩,o2,s7⟩;obtain ⟨b1,iY,rfl⟩:=wO hx;obtain ⟨b2,ML,rfl⟩:=wO hy;have s8:=s7.trans (xk (o:=HO.tup [V.ref b1.1,V.ref b2.1]) SO);have kq1:upd H7 q1 (HO.tup [V.ref b1.1,V.ref b2.1]) q1=some (.tup [V.ref b1.1,V.ref b2.1]):=xg;generalize upd H7 q1 _=H8 at s8 kq1 ⊢;have YO:=Xz.same s8;have K2:=zC iY;have mb2:=zC ML;have l1:=hp.Nm a1 m1 b1 K2;have YI:=hp.Nm a2 m2 b2 mb2;refine (p6 kq1 ?_);refine (zr rfl (zr rfl ⟨b1.1,b2.1,rfl,⟨_,aH.of (YO.row a1 m1 b1 K2)⟩,⟨_,aH.of (YO.row a2 m2 b2 mb2)⟩,?_⟩));refine M5 (K:=K) (a:=b1.1) (b:=b2.1) (xs:=b1.2.map V.int) (ys:=b2.2.map V.int) (by rw [zA,zA,l1,YI]) (λs τ acc H9=>(∃ t0 t1,τ=[t0,t1])/\acc=(((b1.2.zip b2.2).take s).map λp=>decide (p.2 < p.1)).map V.bl/\au H8 H9) ⟨⟨_,_,rfl⟩,rfl,au.refl _⟩ (by rw [zA];omega) ?_ ?_ ?_
    ·rintro s τ acc H9 ⟨_,rfl,s9⟩;refine ⟨?_,aH.of (s9 _ _ (YO.row a1 m1 b1 K2)),aH.of (s9 _ _ (YO.row a2 m2 b2 mb2))⟩;rw [zA,zA,zY];omega
    ·rintro s x y q2 τ acc H9 C hx hy Qv ⟨⟨t0,t1,rfl⟩,rfl,s9⟩ hC;obtain ⟨c1,SY,rfl⟩:=wO hx;obtain ⟨c2,SX,rfl⟩:=wO hy;have iV:=s9.trans (xk (o:=HO.tup [V.int c1,V.int c2]) Qv);refine (p6 xg (zr rfl (zr rfl (aM rfl rfl (hC _ _ _ ⟨⟨_,_,rfl⟩,?_,iV⟩)))));rw [wP (NF SY SX),zH,zH];rfl
    ·rintro τ acc H9 ⟨⟨t0,t1,rfl⟩,rfl,s9⟩ lc gO;have eb:((b1.2.zip b2.2).take (b1.2.map V.int).length).map (λp=>decide (p.2 < p.1))=gtB b1.2 b2.2:=by rw [zA,yc (by rw [List.length_zip];exact Nat.min_le_left _ _)];rfl
     rw [eb];have Of:=s9.trans (xk (o:=HO.lst ((gtB b1.2 b2.2).map V.bl)) gO);refine ⟨lc,zr rfl ⟨aH.of xg,zr rfl ?_⟩⟩;cases eo:(gtB b1.2 b2.2).any id with
     | true=>
      have jw:j < w:=by have:=(zD.mp iY).1;have:=hp.KL a1 m1;omega
      have inm:i < nm:=by have:=(zD.mp Pd).1;omega
      refine aI rfl (q false _ ((s6.trans s8).trans Of) ⟨(λz=>nomatch z),λz=>?_⟩);rw [(S2 l1 YI).mpr λs hs=>by have:=z i inm j jw s hs;rwa [qB ha iY,qB Pd ML] at this] at eo;cases eo
     | false=>
      refine aF rfl ⟨⟨_,_,rfl⟩,λj' j8 s hs=>?_,s8.trans Of⟩;by_cases e:j'=j
      ·subst e;rw [qB ha iY,qB Pd ML];exact (S2 l1 YI).mp eo s hs
      ·exact o2 j' (by omega) s hs
   ·rintro σ H7 ⟨⟨v3,v4,rfl⟩,o2,s7⟩;refine ⟨⟨_,_,_,_,rfl⟩,λi' f9=>?_,(s5.trans s56).trans s7⟩;by_cases e:i'=i
    ·subst e;intro j' j8 s hs;exact o2 j' (by rw [zA,hp.KL a1 m1];exact j8) s hs
    ·exact old i' (by omega)
  ·rintro σ H5 ⟨⟨v1,v2,v3,v4,rfl⟩,old,s5⟩;refine q true H5 (s1.trans s5) ⟨λ_ i hi=>old i (by rw [zA,yR];omega),λ_=>rfl⟩
theorem ED:cW T.Au P w base 2 (LZ):=by
 have Gc:=Hh P w base T B;have Fa:=GT P w base T B;refine T.Au.F.ok Bn (λvs H Q E h=>?_) (λbr A outer s H vs Q E hr h=>?_)
 ·obtain ⟨_,_,_,_,_,_,_,_,_,rfl,_⟩:=h;rfl
 ·have nd:=Bn.nd;have hu:=hr.units;obtain ⟨b,l,lp,aa,tr,tm,ps,ws,P,rfl,cx,q⟩:=h;refine bT ?_;intro Y
  let B0:Bk Y (nb (nb (ak wN) 0) 2):=⟨_,(xh (wB (wK (wR (xr (nu rfl rfl) (by rfl) T.P5 PyProof.Rows.boot_any (xb (xf (wx (own:=["part", "rest"]) (caps:=[9,7,6]) rfl (show aK ["part", "rest"] [9,7,6] ["book", "prices", "number", "giver", "other", "when", "kept", "given", "some", "price"] (aj wN) _ from L2.iz) (wU rfl (aU Fa hr T.EJ (xb (xf (pv 8) xl rfl)))) (λ_ _ _ _=>(wI (n:=2) rfl rfl (xo (xp (i:=0) (show List.Nodup (["part", "rest", "price", "given", "kept"]:List Str) from by decide +kernel) rfl rfl) (xo (xp (i:=1) (show List.Nodup (["part", "rest", "price", "given", "kept"]:List Str) from by decide +kernel) rfl rfl) wH)))) (λ_ _ _ _=>ww) (λ_ _ _ _=>(wv iH (pv 2) (wA wJ (wA wJ xi (xz (xx rfl) (pv 4) (pv 0) (λ_ _=>rfl))) (xz (xx rfl) (pv 3) (pv 1) (λ_ _=>rfl))) (aB _)))) xl rfl)))) (xh (wB (xu qV))) wC)))⟩
  let B1:Bk Y ((nb (ak wN) 0).drop 2):=⟨_,(xh (wB (wl PassesOwn.never rfl (fm rfl rfl T.bS (xb (xf (xz (xx rfl) (xz (xx rfl) (pv 1) (pv 2) (λ_ _=>rfl)) (pv 3) (λ_ _=>rfl)) xl rfl))) (wI (n:=2) rfl rfl (xo (xp (i:=8) nd rfl rfl) (xo (xp (i:=9) nd rfl rfl) wH))) B0.ps)))⟩
  let B2:Bk Y (nb (ak wN) 0):=⟨_,(xh (xy (xt (i:=6) nd rfl rfl (xz (xx rfl) (xz (xx rfl) (pv 1) (wA wJ (pv 2) xi) (λ_ _=>rfl)) (pv 3) (λ_ _=>rfl))) (xy (xt (i:=7) nd rfl rfl (xz (xx rfl) (xz (xx rfl) (pv 1) (wA wJ (pv 2) xi) (λ_ _=>rfl)) (pv 4) (λ_ _=>rfl))) B1.bl)))⟩
  refine ⟨_,(xh (xy (wl PassesOwn.never rfl (wU rfl (aU Gc hr T.GR (xb (xf (pv 0) xl rfl)))) (wI (n:=4) rfl rfl (xo (xp (i:=2) nd rfl rfl) (xo (xp (i:=3) nd rfl rfl) (xo (xp (i:=4) nd rfl rfl) (xo (xp (i:=5) nd rfl rfl) wH))))) B2.ps) (wB (xu qV)))),?_⟩;have line:=bA;have w4:=cx.w4;have Rw:=o4 w4;have SH:ps.length<=60:=cx.gd.len;have pl:=cx.pr.len;refine (zr rfl (V5 b aa tr tm ps ⟨rfl,cx.bk,cx.gd,λlw wy H1 SQ s1 kl kr ew=>?_⟩));refine ⟨lw,rfl,⟨_,aH.of kl⟩,?_⟩;refine (let W12:IV:=λi σ H5=>(∃ v2 v3 v4 v5 v6 v7 v8 v9,σ=[some (.ref b),some (.ref lp),v2,v3,v4,v5,v6,v7,v8,v9])/\(∀ i' < i,∀ x,wy[i']?=some x->Ql (aG P) x.2.n x.2.w.g x.2.w.o (2 ^ ws.length))/\au H1 H5;cV (K:=K) (a:=lw) (xs:=wy.map λa=>V.ref a.1) W12 ⟨⟨_,_,_,_,_,_,_,_,rfl⟩,(λj z=>absurd z (zf _)),au.refl _⟩ ?_ ?_ ?_)
  ·rintro i σ H5 _ ⟨_,_,s5⟩;exact aH.of (s5 _ _ kl)
  ·rintro i v σ H5 hv ⟨⟨v2,v3,v4,v5,v6,v7,v8,v9,rfl⟩,old,s5⟩;obtain ⟨x,hx,rfl⟩:=wO hv;have mx:=zC hx;have kx:=s5 _ _ (kr x mx);have MZ:=cx.same (s1.trans s5);have vQ:=MZ.pr;obtain ⟨n1,g1,o1,t1⟩:=NJ cx.gd (x:=x.2) (by rw [zA,<- ew];exact yM mx);obtain ⟨a1,UZ⟩:∃ a,P[x.2.n]?=some a:=⟨_,zJ (by rw [zA] at n1;omega)⟩;obtain ⟨a2,Pd⟩:∃ a,P[x.2.n + 1]?=some a:=⟨_,zJ (by rw [zA] at n1;omega)⟩;have m1:=zC UZ;have m2:=zC Pd;obtain ⟨b1,iY⟩:∃ r,a1.2[x.2.w.g]?=some r:=⟨_,zJ (by rw [vQ.KL a1 m1];exact g1)⟩;obtain ⟨c1,SY⟩:∃ r,a2.2[x.2.w.g]?=some r:=⟨_,zJ (by rw [vQ.KL a2 m2];exact g1)⟩;obtain ⟨d1,SV⟩:∃ r,a2.2[x.2.w.o]?=some r:=⟨_,zJ (by rw [vQ.KL a2 m2];exact o1)⟩;have K2:=zC iY;have mc1:=zC SY;have Xb:=zC SV;have lb:=vQ.Nm a1 m1 b1 K2;have lc1:=vQ.Nm a2 m2 c1 mc1;have ld:=vQ.Nm a2 m2 d1 Xb;refine (Ni kx ?_);refine (zr rfl (zr rfl (aM rfl rfl (cI vQ.top (wF (j:=x.2.n + 1) (by rw [zI,Pd];rfl)) (zr rfl (cI (vQ.str a2 m2) (wF (by rw [zI,SY];rfl)) ?_))))));refine (zr rfl (zr rfl (aM rfl rfl (cI vQ.top (wF (j:=x.2.n + 1) (by rw [zI,Pd];rfl)) (zr rfl (cI (vQ.str a2 m2) (wF (by rw [zI,SV];rfl)) ?_))))));refine (zr rfl (zr rfl (cI vQ.top (wF (by rw [zI,UZ];rfl)) (zr rfl (cI (vQ.str a1 m1) (wF (by rw [zI,iY];rfl)) ?_)))));refine ⟨b1.1,rfl,⟨_,aH.of (vQ.row a1 m1 b1 K2)⟩,?_⟩;refine (let W13:IV:=λs σ H7=>(∃ v8 v9,σ=[some (.ref b),some (.ref lp),some (.int (x.2.n:Int)),some (.int (x.2.w.g:Int)),some (.int (x.2.w.o:Int)),some (.int x.2.w.t),some (.ref c1.1),some (.ref d1.1),v8,v9])/\(∀ s' < s,jK (aG P) x.2.n x.2.w.g x.2.w.o s')/\au H5 H7;fB (K:=K) (a:=b1.1) (xs:=b1.2.map V.int) W13 ⟨⟨_,_,rfl⟩,(λj z=>absurd z (zf _)),au.refl _⟩ ?_ ?_ ?_)
   ·rintro s σ H7 _ ⟨_,_,s7⟩;exact aH.of (s7 _ _ (vQ.row a1 m1 b1 K2))
   ·rintro s v q0 σ H7 hv hq ⟨⟨v8,v9,rfl⟩,o2,s7⟩;obtain ⟨y,hy,rfl⟩:=wO hv;have ls:s < b1.2.length:=(zD.mp hy).1;have ey:=mX hy;have s8:=s7.trans (xk (o:=HO.tup [V.int (s:Int),V.int y]) hq);have kq:upd H7 q0 (HO.tup [V.int (s:Int),V.int y]) q0=some (.tup [V.int (s:Int),V.int y]):=xg;generalize upd H7 q0 _=H8 at s8 kq ⊢;refine (p6 kq ?_);refine (zr rfl ⟨s,rfl,by omega,λls1 rs H9 s9 kl9 kr9 es=>?_⟩);have ln:=split_len s;have hp9:=vQ.same (s8.trans s9);refine ⟨ls1,rfl,⟨_,aH.of kl9⟩,?_⟩;have lrs:rs.length<=s + 1:=by rw [<-es,zA] at ln;exact ln
    refine (let W14:IC:=λj τ acc rT=>(∃ t0 t1,τ=[t0,t1,some (.int y),some (.ref d1.1),some (.ref c1.1)])/\acc=((rs.take j).map λr=>decide (1 + c1.2.getD r.2.1 0 + d1.2.getD r.2.2 0 < y)).map V.bl/\au H9 rT;cL (K:=K) (a:=ls1) (xs:=rs.map λr=>V.ref r.1) W14 ⟨⟨_,_,rfl⟩,rfl,au.refl _⟩ (by rw [zA];omega) ?_ ?_ ?_)
    ·rintro j τ acc rT ⟨_,rfl,iV⟩;refine ⟨?_,aH.of (iV _ _ kl9)⟩;rw [zA,zA,zY];omega
    ·rintro j v τ acc rT C hv ⟨⟨t0,t1,rfl⟩,rfl,iV⟩ hC;obtain ⟨r,hr,rfl⟩:=wO hv;have mr:=zC hr;have r2:=split_le (s:=s) (r:=r.2) (by rw [<-es];exact yM mr);have XA:=hp9.same iV;refine (p6 (iV _ _ (kr9 r mr)) ?_);refine (zr rfl (zr rfl (zr rfl (cI (XA.row a2 m2 c1 mc1) (cM (by omega)) ?_))));refine (aM rfl rfl (zr rfl (zr rfl (cI (XA.row a2 m2 d1 Xb) (cM (by omega)) ?_))));refine (aM rfl rfl (aM rfl rfl (hC _ _ _ ⟨⟨_,_,rfl⟩,?_,iV⟩)));rw [wP hr,zH,zH];rfl
    ·rintro τ acc rT ⟨⟨t0,t1,rfl⟩,rfl,iV⟩ lc gO;have eb:(rs.take (rs.map λr=>V.ref r.1).length).map (λr=>decide (1 + c1.2.getD r.2.1 0 + d1.2.getD r.2.2 0 < y))=j9 y c1.2 d1.2 s:=by
      rw [zA,zv];unfold j9;rw [<-es,yY];rfl
     rw [eb];have Of:=iV.trans (xk (o:=HO.lst ((j9 y c1.2 d1.2 s).map V.bl)) gO);refine ⟨lc,zr rfl ⟨aH.of xg,zr rfl ?_⟩⟩;have ga:jK (aG P) x.2.n x.2.w.g x.2.w.o s↔∀ p,p<=s->p &&& s=p->y<=1 + c1.2.getD p 0 + d1.2.getD (s - p) 0:=by
      unfold jK;simp only [qB UZ iY,qB Pd SY,qB Pd SV,ey]
     cases eo:(j9 y c1.2 d1.2 s).any id with
     | true=>
      refine aI rfl (q false _ (((s1.trans s5).trans (s8.trans s9)).trans Of) ⟨(λz=>nomatch z),λz=>?_⟩);have zz:=z x.2 (by rw [zA,<- ew];exact yM mx) s (by omega);rw [ua.mpr (ga.mp zz)] at eo;cases eo
     | false=>
      refine aF rfl ⟨⟨_,_,rfl⟩,λs' UM=>?_,(s8.trans s9).trans Of⟩;by_cases e:s'=s
      ·subst e;exact ga.mpr (ua.mp eo)
      ·exact o2 s' (by omega)
   ·rintro σ H7 ⟨⟨v8,v9,rfl⟩,o2,s7⟩;refine ⟨⟨_,_,_,_,_,_,_,_,rfl⟩,λi' f9 z hz=>?_,s5.trans s7⟩;by_cases e:i'=i
    ·subst e;rw [hx] at hz;cases hz;exact λs hs=>o2 s (by rw [zA];omega)
    ·exact old i' (by omega) z hz
  ·rintro σ H5 ⟨⟨v2,v3,v4,v5,v6,v7,v8,v9,rfl⟩,old,s5⟩;refine q true H5 (s1.trans s5) ⟨λ_ y hy=>?_,λ_=>rfl⟩;have lw':(ps.map (·.2)).length=ps.length:=zA _;rw [lw',<- ew] at hy;obtain ⟨x,hx,rfl⟩:=zS.mp hy;obtain ⟨i,hi⟩:=yB.mp hx;exact old i (by rw [zA];exact (zD.mp hi).1) x hi
theorem Ih:cW T.DG P w base 6 (Q4):=by
 have Bv:=DS P w base T B;have CT:=Fq P w base T B;have GM:=FW P w base T B;have GK:=FU P w base T B;have GN:=FX P w base T B;have GL:=FV P w base T B;have Fc:=ED P w base T B;refine T.DG.F.ok Fz (λvs H Q E h=>?_) (λbr A outer s H vs Q E hr h=>?_)
 ·obtain ⟨_,_,_,_,_,_,_,_,_,_,rfl,_⟩:=h;rfl
 ·have nd:=Fz.nd;have hu:=hr.units;obtain ⟨b,k,a0,l,v,aa,tr,tm,ps,ws,rfl,hk,hb,hg,r1,jY,hw,w1,w4,dt,q⟩:=h;refine bT ?_;intro Y
  let B0:Bk Y ((ak qJ).drop 3):=⟨_,(xh (wB (xu (xz (xx rfl) (xz (xx rfl) (xz (xx rfl) (pv 4) (aU Bv hr T.Cn (xb (xf (pv 0) (xf (pv 2) xl rfl) rfl))) (λ_ _=>rfl)) (pv 1) (λ_ _=>rfl)) (aU CT hr T.Dt (xb (xf (pv 3) xl rfl))) (λ_ _=>rfl)))))⟩
  let B1:Bk Y ((ak qJ).drop 2):=⟨_,(xh (xy (wK (PW.pt (gu (wb (wR (aU GL hr T.AT (xb (xf (pv 4) xl rfl))))) (dJ (wb (wR (aU Fc hr T.Au (xb (xf (pv 0) (xf (pv 4) xl rfl) rfl)))))))) (xh (wB (xu qW))) wC) B0.bl))⟩
  let B2:Bk Y ((ak qJ).drop 1):=⟨_,(xh (xy (wK (PW.pt (gu (wb (wR (aU GK hr T.AS (xb (xf (pv 4) xl rfl))))) (dJ (wb (wR (aU GN hr T.AV (xb (xf (pv 0) (xf (pv 3) (xf (pv 4) xl rfl) rfl) rfl)))))))) (xh (wB (xu qW))) wC) B1.bl))⟩
  refine ⟨_,(xh (xy (wK (wb (wR (aU GM hr T.AU (xb (xf (pv 0) (xf (pv 3) (xf (pv 4) xl rfl) rfl) rfl))))) (xh (wB (xu qW))) wC) B2.bl)),?_⟩;have line:=bA;refine (zr rfl (zr rfl (zr rfl (Vh b l v aa tr tm ps ws ⟨rfl,hb,jY,hg.len,hw,w4,dt,λH1 s1=>?_⟩))));rcases q with ⟨e,q⟩ | ⟨lp,P,rfl,hp,q1,q2⟩
  ·rw [e];exact (zr rfl (aI rfl (q _ s1)))
  rw [hp.cY];refine (zr rfl (aF rfl ?_));have cx:fX H1 b l lp aa tr tm ps ws P:=⟨hb.same s1,hg,r1,jY,hw.same s1,w1,w4,hp.same s1⟩;have Rw:=o4 w4;have p1:=Nat.pos_of_ne_zero (yQ (ym ws.length));refine (zr rfl ⟨lp,_,_,_,P,rfl,cx.pr,hg.len,jY,p1,Rw,λc1 H2 s2 e1=>?_⟩);have no:∀ H',au H1 H'->¬ rV (ps.map (·.2)) (aG P) aa.length (2 ^ ws.length) ws->Q .bZ H':=λH' s' nf=>q2 nf H' (s1.trans s');cases c1 with
  | false=>exact (zr rfl (aI rfl (aI rfl (no _ s2 λf=>nomatch e1.mpr f.1))))
  | true=>
  have n1:=e1.mp rfl;refine (zr rfl (aF rfl (zr rfl (zr rfl (zr rfl (V4 b l lp aa tr tm ps ws P ⟨rfl,cx.same s2,λc2 H3 s3 e2=>?_⟩))))));cases c2 with
  | false=>exact (zr rfl (aI rfl (no _ (s2.trans s3) λf=>nomatch e2.mpr f.2.1)))
  | true=>
  have n2:=e2.mp rfl;have cx3:=cx.same (s2.trans s3);refine (zr rfl (aF rfl (zr rfl ⟨lp,_,_,_,P,rfl,cx3.pr,hg.len,jY,Rw,λc3 H4 s4 e3=>?_⟩)));cases c3 with
  | false=>exact (zr rfl (aI rfl (aI rfl (no _ ((s2.trans s3).trans s4) λf=>nomatch e3.mpr (by rw [<-zA (as:=ps) (·.2)];exact f.2.2.1)))))
  | true=>
  have n3:=e3.mp rfl;refine (zr rfl (aF rfl (zr rfl (zr rfl (V4 b l lp aa tr tm ps ws P ⟨rfl,cx3.same s4,λc4 H5 s5 e4=>?_⟩)))));have Ss:=((s2.trans s3).trans s4).trans s5;cases c4 with
  | false=>exact (zr rfl (aI rfl (no _ Ss λf=>nomatch e4.mpr f.2.2.2)))
  | true=>
  have n4:=e4.mp rfl;have MZ:=cx.same Ss;refine (zr rfl (aF rfl (zr rfl (zr rfl (zr rfl (Y8 b a0 aa tr tm ps ⟨rfl,MZ.bk,by have:=hg.len;omega,λH6 s6=>?_⟩))))));have cl:=qY (ps.map (·.2)) a0;rw [zA] at cl;have pl:=hp.len;obtain ⟨a1,UZ⟩:∃ a,P[cnt (ps.map (·.2)) a0]?=some a:=⟨_,zJ (by omega)⟩;have m1:=zC UZ;obtain ⟨b1,iY⟩:∃ r,a1.2[k]?=some r:=⟨_,zJ (by rw [hp.KL a1 m1];exact hk)⟩;have K2:=zC iY;have lb:=hp.Nm a1 m1 b1 K2;have rJ:=MZ.same s6;refine (cI rJ.pr.top (wF (by rw [zI,UZ];rfl)) (zr rfl (cI (rJ.pr.str a1 m1) (wF (by rw [zI,iY];rfl)) (zr rfl ⟨l,ws,zr rfl ⟨rJ.wa,by omega,?_⟩⟩))));have ep:((2 ^ ws.length:Nat):Int) - 1=((2 ^ ws.length - 1:Nat):Int):=by omega
  rw [ep];refine (cI (rJ.pr.row a1 m1 b1 K2) (cM (by omega)) ?_);rw [<-qB UZ iY];exact q1 ⟨n1,n2,by rw [zA];exact n3,n4⟩ _ ((s1.trans Ss).trans s6)
theorem GD:cW T.C3 P w base 4 (vc):=by
 have ID:=Js P w base T B;have Dh:=GC P w base T B;refine T.C3.F.ok Gr (λvs H Q E h=>?_) (λbr A outer s H vs Q E hr h=>?_)
 ·obtain ⟨b,x,r,_,_,_,_,rfl,_⟩:=h;rfl
 ·have nd:=Gr.nd;have hu:=hr.units;obtain ⟨b,x,r,aa,tr,tm,ps,rfl,hb,th,q⟩:=h;refine bT ?_;intro Y
  let B0:Bk Y ((ak BB).drop 2):=⟨_,(xh (wB (xu (qM (aU Dh hr T.BF (xb (xf (pv 0) (xf (pv 2) xl rfl) rfl))) (qM (aU ID hr T.Fp (xb (xf (pv 3) xl rfl))) (qM (aU Dh hr T.BF (xb (xf (pv 0) (xf (pv 4) xl rfl) rfl))) (c6 (aU ID hr T.Fp (xb (xf (pv 5) xl rfl))))))))))⟩
  let B1:Bk Y ((ak BB).drop 1):=⟨_,(xh (xy (qN (pv 1) (wI (n:=4) rfl rfl (xo (xp (i:=2) nd rfl rfl) (xo (xp (i:=3) nd rfl rfl) (xo (xp (i:=4) nd rfl rfl) (xo (xp (i:=5) nd rfl rfl) wH)))))) B0.bl))⟩
  refine ⟨_,(xh (xy (wK (PW.pt (gu (wb (wR (xr (wf) (by rfl) T.az zL (xb (xf (pv 1) (xf (cO (v:=V.ty "tuple") rfl T.jC yj rfl) xl rfl) rfl))))) (dJ (wD iG (xr (xw rfl) (by rfl) T.bw PySem.boot_len (xb (xf (pv 1) xl rfl))) xi (aB _))))) (xh (wB (xu qV))) wC) B1.bl)),?_⟩;rcases th with ⟨t,ht,nt,rfl⟩ | ⟨l,xs,rfl,hl,hx,rfl⟩
  ·refine (zr rfl ⟨x,t, "tuple", rfl,ht,.inr (.inr (.inr rfl)),zr rfl ?_⟩);refine aI ?_ (aI rfl q);rcases fH ht with rfl | rfl | rfl | rfl | rfl | rfl | rfl <;> first | rfl | exact absurd rfl nt
  ·refine (zr rfl ⟨_, "tuple", "tuple", rfl,cN hl,.inr (.inr (.inr rfl)),zr rfl (aF rfl ?_)⟩);refine (zr rfl ⟨l,zr rfl ⟨.inr (bC.of hl),rfl,zr rfl ?_⟩⟩);by_cases h4:xs.length=4
   ·obtain ⟨x0,x1,x2,x3,rfl⟩:=R6 h4;obtain ⟨t0,h0⟩:=hx x0 (by simp);obtain ⟨t1,h1⟩:=hx x1 (by simp);obtain ⟨t2,h2⟩:=hx x2 (by simp);obtain ⟨t3,h3⟩:=hx x3 (by simp);refine aF (by simp) ?_;refine (zr rfl (Ni hl ?_));have q:Q (.bl (jN 0 ((aa.length:Int) - 1) x0 && (jN 0 1000000000 x1 && (jN 0 ((aa.length:Int) - 1) x2 && jN 0 1000000000 x3)))) H:=q;refine (zr rfl (zr rfl (rG b x0 t0 aa tr tm ps ⟨rfl,hb,h0,zr rfl (kZ (λc0=>?_) (λc0=>by rw [c0] at q;exact q))⟩)));refine (zr rfl ⟨x1,t1,rfl,h1,zr rfl (kZ (λc1=>?_) (λc1=>by rw [c0,c1] at q;exact q))⟩);refine (zr rfl (zr rfl (rG b x2 t2 aa tr tm ps ⟨rfl,hb,h2,zr rfl (kZ (λc2=>?_) (λc2=>by rw [c0,c1,c2] at q;exact q))⟩)));refine (zr rfl ⟨x3,t3,rfl,h3,?_⟩);rw [c0,c1,c2] at q;exact q
   ·refine aI ?_ ?_
    ·have:¬ V.int (xs.length:Int)=V.int 4:=λz=>h4 (by have:=V.int.inj z;omega);simp [this]
    ·have:isLet (aa.length:Int) (some xs)=false:=by
      unfold isLet;split
      ·rename_i e;cases e;simp at h4
      ·rfl
     rw [this] at q;exact q
theorem Du:cW T.AH P w base 2 (N8):=by
 have CS:=ER P w base T B;have Gc:=Hh P w base T B;have CQ:=EO P w base T B;refine T.AH.F.ok Dp (λvs H Q E h=>?_) (λbr A outer s H vs Q E hr h=>?_)
 ·obtain ⟨b,k,x,_,_,_,_,rfl,_⟩:=h;rfl
 ·have nd:=Dp.nd;have hu:=hr.units;obtain ⟨b,k,x,aa,tr,tm,ps,rfl,hb,hn,gd,q⟩:=h;refine bT ?_;intro Y
  let B0:Bk Y (nb (nb (ak wc) 2) 0):=⟨_,(xh (xy (qN (pv 8) (qp (pv 3) (pv 7) set_list)) (wB (Rm (yG (Nat.add_le_add_left (by decide) _) hu) (pv 4) (pv 7) (wZ (xb (xf (pv 5) (xf (pv 6) xl rfl) rfl))) rfl))))⟩
  let B1:Bk Y (nb (ak wc) 2):=⟨_,(xh (wB (wK (PW.pt (dM (mq (mD (xz (xx rfl) (pv 3) (pv 7) (λ_ _=>rfl)))) (di (wR (aU CS hr T.Cv (xb (xf (xz (xx rfl) (pv 3) (pv 6) (λ_ _=>rfl)) (xf (pv 8) xl rfl) rfl))))))) B0.ps wC)))⟩
  let B2:Bk Y ((ak wc).drop 2):=⟨_,(xh (xy (wl PassesOwn.never rfl (wU rfl (aU Gc hr T.GR (xb (xf (pv 0) xl rfl)))) (wI (n:=4) rfl rfl (xo (xp (i:=5) nd rfl rfl) (xo (xp (i:=6) nd rfl rfl) (xo (xp (i:=7) nd rfl rfl) (xo (xp (i:=8) nd rfl rfl) wH))))) B1.ps) (wB (xu (wZ (xb (xf (pv 3) (xf (pv 4) xl rfl) rfl)))))))⟩
  refine ⟨_,(xh (xy (xt (i:=3) nd rfl rfl (aU CQ hr T.Ct (xb (xf (pv 0) (xf (pv 1) (xf (pv 2) xl rfl) rfl) rfl)))) (xy (xt (i:=4) nd rfl rfl Ow) B2.bl))),?_⟩;have line:=bA;have Xh:=gd.len;refine (zr rfl (zr rfl (zr rfl (rG b k x aa tr tm ps ⟨rfl,hb,hn,λl H1 hl lH h1=>?_⟩))));refine λd hd=>?_;have YE:d≠l:=(xj h1 hd).symm;have WB:=lH.trans (xk (o:=HO.dK []) hd);have hfd:H d=none:=lH.free hd;refine (zr rfl (V5 b aa tr tm ps ⟨rfl,hb.same WB,gd,λlw ws H2 SQ kX h2 hr ew=>?_⟩));have XX:=kX _ _ (xk (o:=HO.dK []) hd _ _ h1);have R4:=kX _ _ (xg (H:=H1) (a:=d) (o:=HO.dK []));have Kr:(ws.map (·.2)).map (·.w)=aD (ps.map (·.2)):=by
   have:=jP (ps.map (·.2));rw [zA] at this;rw [ew,this]
  have lws:ws.length=2 * ps.length:=by
   have:=congrArg List.length Kr;rw [zA,zA,jQ,zA] at this;exact this
  have nwl:lw≠l:=(xj (xk (o:=HO.dK []) hd _ _ h1) SQ).symm;have nwd:lw≠d:=(xj (xg (H:=H1) (a:=d) (o:=HO.dK [])) SQ).symm;refine ⟨lw,rfl,⟨_,aH.of h2⟩,?_⟩;refine (let W15:IV:=λi σ H4=>(∃ v5 v6 v7 v8,σ=[some (.ref b),some (.int k),some (.int x),some (.ref l),some (.ref d),v5,v6,v7,v8])/\au H H4/\H4 l=some (.lst ((rep aa.length (((ws.take i).map (·.2.w)).foldl aO (aA k x))).map oV))/\(∃ aJ,H4 d=some (.dK aJ)/\aJ.length<=i/\oE (ps.map (·.2)) k (((ws.take i).map (·.2.w)).foldl aO (aA k x)) aJ H4)/\(∀ b u,b≠l->b≠d->H2 b=some u->H4 b=some u);cV (K:=K) (a:=lw) (xs:=(ws.map λa=>V.ref a.1)) W15)
   ?_ ?_ ?_ ?_
  ·exact ⟨⟨_,_,_,_,rfl⟩,WB.trans kX,XX,⟨[],R4,zF _,λo t h=>.inl (by have h:aA k x o=some t:=h;unfold aA at h;split at h;assumption;cases h)⟩,λ_ _ _ _ e=>e⟩
  ·rintro i σ H4 _ ⟨_,_,_,_,kp⟩;exact aH.of (kp lw _ nwl nwd h2)
  ·rintro i y σ H4 hy ⟨⟨v5,v6,v7,v8,rfl⟩,vg,h4,⟨aJ,U6,lk,cm⟩,kp⟩;obtain ⟨r,rq,rfl⟩:=wO hy;have hi:i < ws.length:=(zD.mp rq).1;have rm:r∈ws:=zC rq;have pH:=hr r rm;have nl:r.1≠l:=cH pH XX (by intro z;cases z);have nd2:r.1≠d:=cH pH R4 (by intro z;cases z);have dY:=kp r.1 _ nl nd2 pH;have wm:r.2.w∈aD (ps.map (·.2)):=by
    rw [<-Kr];exact zS.mpr ⟨r.2,zS.mpr ⟨r,rm,rfl⟩,rfl⟩
   obtain ⟨g1,g2,g3,g4,g5⟩:=dD gd wm;have gl:r.2.w.g < aa.length:=by omega
   have ol:r.2.w.o < aa.length:=by omega
   have fold:∀ f:Fn,((ws.take i).map (·.2.w)).foldl aO (aA k x)=f->((ws.take (i + 1)).map (·.2.w)).foldl aO (aA k x)=aO f r.2.w:=λf e=>by
    rw [wP rq,zH,List.foldl_append,e];rfl
   refine (Ni dY ?_);generalize ef:((ws.take i).map (·.2.w)).foldl aO (aA k x)=f at h4 cm;have fo:=fold f ef;have hg:((rep aa.length f).map oV)[r.2.w.g]?=some (oV (f r.2.w.g)):=eY gl;have ho:((rep aa.length f).map oV)[r.2.w.o]?=some (oV (f r.2.w.o)):=eY ol;refine (zr rfl (zr rfl (cI h4 (wF ho) (zr rfl (j6 (λc=>?_) (λc=>aF rfl ?_))))))
   ·have c':=vA.mp c;refine (zr rfl (zr rfl (cI h4 (wF hg) (zr rfl ⟨f r.2.w.g,r.2.w.t,rfl,zr rfl (kZ (λc2=>?_) (λc2=>?_))⟩))))
    ·refine (zr rfl (zr rfl (zr rfl ⟨l,_,_,r.2.w.o,rfl,rfl,h4,qz (by rw [zA,fN];exact ol),?_⟩)));refine (zr rfl (zr rfl ⟨by show 2<=sizeLine;omega,λtt Nr=>(zr rfl (zr rfl ⟨d,zr rfl ⟨Qm.k (k:=Sum.inl (r.2.w.o:Int)) (xk Nr _ _ (by rw [xq YE];exact U6)) (by omega),?_⟩⟩))⟩));have nlt:l≠tt:=xj (xg) Nr;have smx:=(au.put (o:=HO.lst (((rep aa.length f).map oV).set r.2.w.o (.int r.2.w.t))) hl vg).trans (xk (o:=HO.tup [.int r.2.n,.int r.2.w.g]) Nr);have hdx:=xk (o:=HO.tup [.int r.2.n,.int r.2.w.g]) Nr _ _ (show (upd H4 l (HO.lst (((rep aa.length f).map oV).set r.2.w.o (.int r.2.w.t)))) d=some (.dK aJ) by rw [xq YE];exact U6);have ntd:tt≠d:=(xj (show (upd H4 l (HO.lst (((rep aa.length f).map oV).set r.2.w.o (.int r.2.w.t)))) d=some (.dK aJ) by rw [xq YE];exact U6) Nr).symm;have lnk:bM (ps.map (·.2)) r.2.n r.2.w.g r.2.w.o r.2.w.t:=dF (i:=ps.length) (by rw [<-ew];exact zS.mpr ⟨r,rm,rfl⟩);have cmN:oE (ps.map (·.2)) k (((ws.take (i + 1)).map (·.2.w)).foldl aO (aA k x)) (putK aJ (Sum.inl (r.2.w.o:Int)) (.ref tt)) (upd (upd (upd H4 l (HO.lst (((rep aa.length f).map oV).set r.2.w.o (.int r.2.w.t)))) tt (HO.tup [.int r.2.n,.int r.2.w.g])) d (HO.dK (putK aJ (Sum.inl (r.2.w.o:Int)) (.ref tt)))):=by
      rw [fo];unfold aO;rw [if_pos ⟨c',c2⟩];exact oE.step (x:=r.2) (cm.aS (((bX.set h4).trans (bX.new Nr)).trans (bX.aaq hdx))) c' c2 lnk (by rw [xq ntd,xg])
     refine ⟨⟨_,_,_,_,rfl⟩,au.put hfd smx,?_,⟨_,xg,z4 (gK _ _ _) (by omega),cmN⟩,λb u nb nb' e=>?_⟩
     ·rw [xq YE.symm,xq nlt,xg,fo];unfold aO;rw [if_pos ⟨c',c2⟩,<- qk ol,List.map_set];rfl
     ·rw [xq nb'];exact xk Nr _ _ (by rw [xq nb];exact kp b u nb nb' e)
    ·refine ⟨⟨_,_,_,_,rfl⟩,vg,?_,⟨aJ,U6,by omega,by rw [fo];unfold aO;rw [if_neg λz=>by rw [z.2] at c2;cases c2];exact cm⟩,kp⟩;rw [fo];unfold aO;rw [if_neg λz=>by rw [z.2] at c2;cases c2];exact h4
   ·refine ⟨⟨_,_,_,_,rfl⟩,vg,?_,⟨aJ,U6,by omega,by rw [fo];unfold aO;rw [if_neg λz=>c (vA.mpr z.1)];exact cm⟩,kp⟩;rw [fo];unfold aO;rw [if_neg λz=>c (vA.mpr z.1)];exact h4
  ·rintro σ H4 ⟨⟨v5,v6,v7,v8,rfl⟩,vg,h4,⟨aJ,U6,lk,cm⟩,kp⟩;rw [zA,zv] at h4 cm;have e:((ws.map (·.2.w)).foldl aO (aA k x))=fwd (ps.map (·.2)) (aA k x):=by
    unfold fwd;rw [<-Kr,yY];rfl
   rw [e] at h4 cm;exact (zr rfl (zr rfl ⟨by show 2<=sizeLine;omega,λtt Nr=>q tt l d aJ _ hl (vg.trans (xk Nr)) xg (xk Nr _ _ h4) (xk Nr _ _ U6) (cm.aS (bX.new Nr))⟩))
theorem GE:cW T.Bq P w base 3 (QX):=by
 have BT:=Du P w base T B;refine T.Bq.F.ok CW (λvs H Q E h=>?_) (λbr A outer s H vs Q E hr h=>?_)
 ·obtain ⟨b,k,x,_,_,_,_,rfl,_⟩:=h;rfl
 ·have nd:=CW.nd;have hu:=hr.units;obtain ⟨b,k,x,aa,tr,tm,ps,rfl,hk,hb,hn,gd,q⟩:=h;refine ⟨_,(xh (xy (qN (aU BT hr T.AH (xb (xf (pv 0) (xf (pv 1) (xf (pv 2) xl rfl) rfl) rfl))) (wI (n:=2) rfl rfl (xo (xp (i:=3) nd rfl rfl) (xo (xp (i:=4) nd rfl rfl) wH)))) (wB (xu (pv 3))))),?_⟩;refine (zr rfl (zr rfl (zr rfl (rG b k x aa tr tm ps ⟨rfl,hb,hn,gd,λt l d aJ H1 hl sm ht h1 _ _=>?_⟩))));exact (p6 ht (zr rfl (q l _ hl sm h1)))
theorem Jh:cW T.FS P w base 5 (vd):=by
 have Bu:=DR P w base T B;have Fb:=GD P w base T B;have BT:=Du P w base T B;refine T.FS.F.ok Ha (λvs H Q E h=>?_) (λbr A outer s H vs Q E hr h=>?_)
 ·obtain ⟨b,lt,_,_,_,_,_,_,_,_,rfl,_⟩:=h;rfl
 ·have nd:=Ha.nd;have hu:=hr.units;obtain ⟨b,lt,s0,w0,a0,z0,aa,tr,tm,ps,rfl,hb,hn,gd,hL,qn,qy⟩:=h;refine bT ?_;intro Y
  let B0:Bk Y (nb (ak qG) 6):=⟨_,(xh (xy (qN (Rt (yG (Nat.add_le_add_left (by decide) _) hu) (pv 7) (pv 9) (λ_ _=>rfl)) (wI (n:=2) rfl rfl (xo (xp (i:=10) nd rfl rfl) (xo (xp (i:=9) nd rfl rfl) wH)))) (wB (qH (fu ze zg zh wY (pv 8) (xb (xf (pv 10) xl rfl)))))))⟩
  let B1:Bk Y ((ak qG).drop 4):=⟨_,(xh (xy (xt (i:=8) nd rfl rfl (wM qX)) (xy (xt (i:=9) nd rfl rfl (pv 4)) (xy (mw PassesOwn.never (wD iG (pv 9) (pv 2) (aB _)) B0.ps) (wB (xu (lJ rfl (pv 8))))))))⟩
  let B2:Bk Y ((ak qG).drop 3):=⟨_,(xh (xy (wK (wb (wR (aU Bu hr T.Cm (xb (xf (xz (xx rfl) (pv 6) (pv 4) (λ_ _=>rfl)) (xf (pv 5) xl rfl) rfl))))) (xh (wB (xu qW))) wC) B1.bl))⟩
  let B3:Bk Y ((ak qG).drop 2):=⟨_,(xh (xy (qN (aU BT hr T.AH (xb (xf (pv 0) (xf (pv 2) (xf (pv 3) xl rfl) rfl) rfl))) (wI (n:=2) rfl rfl (xo (xp (i:=6) nd rfl rfl) (xo (xp (i:=7) nd rfl rfl) wH)))) B2.bl))⟩
  let B4:Bk Y ((ak qG).drop 1):=⟨_,(xh (xy (qN (pv 1) (wI (n:=4) rfl rfl (xo (xp (i:=2) nd rfl rfl) (xo (xp (i:=3) nd rfl rfl) (xo (xp (i:=4) nd rfl rfl) (xo (xp (i:=5) nd rfl rfl) wH)))))) B3.bl))⟩
  refine ⟨_,(xh (xy (wK (wb (wR (aU Fb hr T.C3 (xb (xf (pv 0) (xf (pv 1) xl rfl) rfl))))) (xh (wB (xu qW))) wC) B4.bl)),?_⟩;have line:=bA;obtain ⟨cA,hs1,RW,_⟩:=id hL;refine (zr rfl (zr rfl (rG b (.ref lt) _ aa tr tm ps ⟨rfl,hb,hL.th,zr rfl (aF (by rw [hL.yes];rfl) ?_)⟩)));refine (zr rfl (Ni cA ?_));refine (zr rfl (zr rfl (zr rfl (rG b s0 a0 aa tr tm ps ⟨rfl,hb,hn,gd,λt l d aJ H1 hl lH ht h1 hd cm=>(p6 ht ?_)⟩))));generalize eE:fwd (ps.map (·.2)) (aA s0 a0)=E0 at qn qy h1 cm;have er:=pO (s:=s0) (x:=a0) gd;rw [eE] at er;refine (zr rfl (zr rfl (cI h1 (wF (eY RW)) (zr rfl ⟨E0 w0,z0,rfl,zr rfl (kZ (λc=>?_) (λc=>?_))⟩))))
  ·exact qn (by cases e:aW (E0 w0) z0 with
    | false=>rfl
    | true=>rw [e] at c;cases c) _ lH
  obtain ⟨ew,hew,lez⟩:∃ e,E0 w0=some e/\e<=z0:=aE.mp (by cases e:aW (E0 w0) z0 with
    | true=>rfl
    | false=>rw [e] at c;cases c)
  refine ⟨za _,λlc gO=>(zr rfl ?_)⟩;have abl:H lc=none:=lH.free gO;refine se (fun σ H4=>∃ (v:Nat) (e:Int) (cs:List Int),∃ v10,σ=[some (.ref b),some (.ref lt),some (.int s0),some (.int a0),some (.int w0),some (.int z0),some (.ref l),some (.ref d),some (.ref lc),some (.int v),v10]/\E0 v=some e/\H4 lc=some (.lst (List.map V.int cs.reverse)) /\
    (∀ b u,b≠lc->H1 b=some u->H4 b=some u)/\cs.length + oY aa.length E0 e<=aa.length /\
    (∀ A:Int,(A=-1\/∃ n:Nat,∃ m,A=n/\(ps.map (·.2))[n]?=some m/\m.t<=e)->cG (ps.map (·.2)) v e A cs=some (w0,ew)))
   (fun σ _=>mu aa.length E0 σ) ?_ ?_ ?_
  ·exact ⟨w0,ew,[],zr rfl ⟨hew,xg,λb u nb e=>by rw [xq nb];exact e,by have:=Rj aa.length E0 ew;simpa using this,λA _=>rfl⟩⟩
  ·rintro σ H4 ⟨v,e,cs,v10,rfl,he,hc,kp,lrk,wk⟩;refine (zr rfl (zr rfl ⟨rfl,zr rfl ?_⟩));by_cases hv:v=s0
   ·subst hv;rw [er.self] at he;cases he;refine UG rfl ?_;refine (zr rfl ⟨lc,zr rfl ⟨aH.of hc,λlr Nt=>?_⟩⟩);have e1:(List.map V.int cs.reverse).reverse=List.map V.int cs:=by rw [<-List.map_reverse,List.reverse_reverse]
    rw [e1];have Nk:au H H4:=λb u eb=>kp b u (xj eb abl) (lH b u eb);exact qy ew lr cs _ hew lez (Nk.free Nt) (Nk.trans (xk Nt)) xg (by omega) (wk (-1) (.inl rfl))
   ·refine aI (by have:¬ V.int (v:Int)=V.int (s0:Int):=λz=>hv (by have:=V.int.inj z;omega);simp [this]) ?_;obtain hv' | ⟨tt,n,g,y,c1,c2,c3,c4,c5⟩:=cm v e he
    ·exact absurd hv' hv
    obtain ⟨gi,vi,gv⟩:=c3.inside gd;have YT:=kp d _ (λz=>by rw [z] at hd;rw [hd] at gO;cases gO) hd;have ht4:=kp tt _ (λz=>by rw [z] at c2;rw [c2] at gO;cases gO) c2;have dg:KI H4 d (.int (v:Int)) (some (.ref tt)):=by
     have:=KI.k (k:=Sum.inl (v:Int)) YT;rw [c1] at this;exact this
    have rl:=Ri gi c4 c5;refine (zr rfl (zr rfl ⟨d,.ref tt,rfl,dg,p6 ht4 ?_⟩));refine (zr rfl ⟨.inl ⟨rfl,_,aH.of hc⟩,zr rfl ⟨lc,aM rfl rfl ⟨hc,by rw [zA,yU];omega,⟨g,y,(n:Int)::cs,zr rfl ⟨c4,?_,λb u nb eb=>by rw [xq nb];exact kp b u nb eb,by rw [zW];omega,λA hA=>?_⟩⟩,?_⟩⟩⟩)
    ·rw [xg,yz,zH];rfl
    ·obtain ⟨m,hm,mt,_⟩:=id c3;have an:A < n:=by
      rcases hA with rfl | ⟨n',m',rfl,ig,lt'⟩
      ·omega
      ·have:=O2 gd.ord.2 ig hm (by omega);omega
     rw [oG c3 gv c5 an];exact wk n (.inr ⟨n,m,rfl,hm,by omega⟩)
    ·show mu aa.length E0 _ < mu aa.length E0 _;unfold mu;simp only [yw,yu,yN,yb,zu,c4,he];exact rl
  ·rintro σ H4 Q1 Q2 hq ⟨x,hx,y,hy,hsc,k1,hk1,h⟩;exact ⟨x,hx,y,hy,hsc,k1,hk1,hq _ _ h⟩
theorem FJ:cW T.BZ P w base 2 (LU):=by
 have Bv:=DS P w base T B;have CP:=EC P w base T B;refine T.BZ.F.ok Fy (λvs H Q E h=>?_) (λbr A outer s H vs Q E hr h=>?_)
 ·obtain ⟨_,_,_,_,_,_,_,_,_,_,rfl,_⟩:=h;rfl
 ·have nd:=Fy.nd;have hu:=hr.units;obtain ⟨b,l,j,w0,s,aa,tr,tm,ps,ws,rfl,cx,hs,q⟩:=h;refine bT ?_;intro Y
  let B0:Bk Y (nb (ak qb) 1):=⟨_,(xh (wB (wK (PW.pt (dM (wD qL (pv 7) (pv 3) (aB _)) (di (wD o7 (pv 2) (aU Bv hr T.Cn (xb (xf (pv 0) (xf (pv 8) xl rfl) rfl))) (aB _))))) (xh (wB (xt (i:=5) nd rfl rfl (aU CP hr T.AR (xb (xf (pv 5) (xf (pv 6) xl rfl) rfl)))))) wC)))⟩
  let B1:Bk Y ((ak qb).drop 1):=⟨_,(xh (xy (wl PassesOwn.never rfl (fm rfl rfl T.bS (xb (xf (pv 1) xl rfl))) (wI (n:=2) rfl rfl (xo (xp (i:=6) nd rfl rfl) (xo (wI (n:=2) rfl rfl (xo (xp (i:=7) nd rfl rfl) (xo (xp (i:=8) nd rfl rfl) wH))) wH))) B0.ps) (wB (xu (pv 5)))))⟩
  refine ⟨_,(xh (xy (xt (i:=5) nd rfl rfl (pv 4)) B1.bl)),?_⟩;have line:=bA;have w4:=cx.w4;have SH:=cx.gd.len;refine (zr rfl (zr rfl ⟨l,rfl,⟨_,aH.of cx.wa.1⟩,?_⟩));refine (let W16:IV:=λi σ H5=>∃ lf:Nat,(∃ v6 v7 v8,σ=[some (.ref b),some (.ref l),some (.int (j:Int)),some (.int (w0:Int)),some (.int (s:Int)),some (.int (lf:Int)),v6,v7,v8])/\(∀ k,lf.testBit k=(s.testBit k && !(decide (k < i) && eV (ps.map (·.2)) (wq ws) j w0 k)))/\au H H5;fB (K:=K) (a:=l) (xs:=ws.map λa=>V.ref a.1) W16 ⟨s,⟨_,_,_,rfl⟩,λk=>by simp,au.refl _⟩ ?_ ?_ ?_)
  ·rintro i σ H5 _ ⟨_,_,_,s5⟩;exact aH.of (s5 _ _ cx.wa.1)
  ·rintro i v q0 σ H5 hv hq ⟨lf,⟨v6,v7,v8,rfl⟩,bits,s5⟩;obtain ⟨x,hx,rfl⟩:=wO hv;have i4:i < ws.length:=(zD.mp hx).1;have s6:=s5.trans (xk (o:=HO.tup [V.int (i:Int),V.ref x.1]) hq);have kq:upd H5 q0 (HO.tup [V.int (i:Int),V.ref x.1]) q0=some (.tup [V.int (i:Int),V.ref x.1]):=xg;generalize upd H5 q0 (HO.tup [V.int (i:Int),V.ref x.1])=H6 at s6 kq ⊢;have rJ:=cx.same s6;obtain ⟨kx,lx⟩:=rJ.wa.2 x (zC hx);have dn:=R9 (ms:=ps.map (·.2)) (j:=j) (w:=w0) hx;have dh:eV (ps.map (·.2)) (wq ws) j w0 i=false->∀ k,lf.testBit k=(s.testBit k && !(decide (k < i + 1) && eV (ps.map (·.2)) (wq ws) j w0 k)):=λd k=>by
    rw [bits k];by_cases e:k=i
    ·subst e;rw [d];simp
    ·simp [show (k < i + 1)=(k < i) from propext ⟨λh=>by omega,λh=>by omega⟩]
   refine ⟨q0,zr rfl ⟨bC.of kq,rfl,nU rfl (nU rfl (p6 kx ⟨rfl,?_⟩))⟩⟩;refine (zr rfl (zr rfl ⟨rfl,zr rfl ?_⟩));by_cases e1:x.2.1=w0
   ·refine aI (decide_eq_true (by rw [e1])) (zr rfl (zr rfl (zr rfl (Y8 b x.2.2 aa tr tm ps ⟨rfl,rJ.bk,by omega,λH7 s7=>(aM rfl rfl (zr rfl ?_))⟩))));refine j6 (λc=>?_) (λc=>⟨lf,⟨_,_,_,rfl⟩,dh (by rw [dn,decide_eq_false (p:=j<=_) (by omega),yt]),s6.trans s7⟩);refine (zr rfl (zr rfl ⟨lf,i,rfl,by omega,cJ lf i,⟨_,_,_,rfl⟩,λk=>?_,s6.trans s7⟩));rw [OT,bits k];by_cases e:k=i
    ·subst e;rw [dn,decide_eq_true e1,decide_eq_true (p:=j<=_) (by omega)];simp
    ·simp [show (k < i + 1)=(k < i) from propext ⟨λh=>by omega,λh=>by omega⟩,e]
   ·refine aF (decide_eq_false (λz=>e1 (Int.ofNat.inj (V.int.inj z)))) (aF rfl ⟨lf,⟨_,_,_,rfl⟩,dh (by rw [dn,decide_eq_false e1,yH]),s6⟩)
  ·rintro σ H5 ⟨lf,⟨v6,v7,v8,rfl⟩,bits,s5⟩;refine (zr rfl ?_);have e:lf=aC (ps.map (·.2)) (wq ws) j w0 s:=yD λk=>by
    rw [bits k,qQ (by rw [gc];exact hs),zA];by_cases e:k < ws.length
    ·simp [e]
    ·rw [done_none (by rw [gc];omega)];simp
   rw [e];exact q _ s5
theorem JP:cW T.IE P w base 2 (LY):=by
 have AO:=C5 P w base T B;have Fa:=GT P w base T B;refine T.IE.F.ok Je (λvs H Q E h=>?_) (λbr A outer s H vs Q E hr h=>?_)
 ·obtain ⟨_,_,_,_,_,_,_,_,_,_,_,rfl,_⟩:=h;rfl
 ·have nd:=Je.nd;have hu:=hr.units;obtain ⟨b,j,w0,s,v,aa,tr,tm,ps,sz,F,rfl,hb,gd,jY,hw,hs,Od,fo,hF,q⟩:=h;refine bT ?_;intro Y
  let B0:Bk Y ((nb (ak DD) 3).drop 1):=⟨_,(xh (wB (xt (i:=5) nd rfl rfl (xr (M8 rfl) (by rfl) T.Ls PyProof.Rows.boot_min (xb (xf (wA gE (wM (xb (xf (pv 5) xl rfl))) (wx (own:=["part", "rest"]) (caps:=[4,6,2]) rfl (show aK ["part", "rest"] [4,6,2] ["book", "stretch", "walker", "some", "following", "price", "other"] (aj DD) _ from L2.iz) (wU rfl (aU Fa hr T.EJ (xb (xf (pv 3) xl rfl)))) (λ_ _ _ _=>(wI (n:=2) rfl rfl (xo (xp (i:=0) (show List.Nodup (["part", "rest", "following", "other", "walker"]:List Str) from by decide +kernel) rfl rfl) (xo (xp (i:=1) (show List.Nodup (["part", "rest", "following", "other", "walker"]:List Str) from by decide +kernel) rfl rfl) wH)))) (λ_ _ _ _=>ww) (λ_ _ _ _=>(wA wJ (wA wJ xi (xz (xx rfl) (xz (xx rfl) (pv 2) (pv 4) (λ_ _=>rfl)) (pv 0) (λ_ _=>rfl))) (xz (xx rfl) (xz (xx rfl) (pv 2) (pv 3) (λ_ _=>rfl)) (pv 1) (λ_ _=>rfl)))))) xl rfl))))))⟩
  let B1:Bk Y ((ak DD).drop 3):=⟨_,(xh (xy (wK (wD (fP rfl) (pv 2) (dN (qj rfl) (xz (wE rfl) (xz (wE rfl) (pv 0) xi (λ_ _=>rfl)) (pv 1) (λ_ _=>rfl)) ia (dm xi)) rfl) (xh (xy (xt (i:=6) nd rfl rfl (aU AO hr T.Bp (xb (xf (pv 0) (xf (pv 1) (xf (pv 2) xl rfl) rfl) rfl)))) B0.bl)) wC) (wB (xu (pv 5)))))⟩
  let B2:Bk Y ((ak DD).drop 1):=⟨_,(xh (xy (wK (mq (mD (pv 4))) (xh (wB (xu (wA wJ (xr (xw rfl) (by rfl) T.bw PySem.boot_len (xb (xf (xz (wE rfl) (pv 0) xi (λ_ _=>rfl)) xl rfl))) xi)))) wC) (xy (xt (i:=5) nd rfl rfl (xz (xx rfl) (xz (xx rfl) (pv 4) (pv 2) (λ_ _=>rfl)) (pv 3) (λ_ _=>rfl))) B1.bl)))⟩
  refine ⟨_,(xh (xy (wK (wD qL (pv 3) xi (aB _)) (xh (wB (xu xi))) wC) B2.bl)),?_⟩;have line:=bA;have SH:=gd.len;refine (zr rfl ⟨rfl,zr rfl ?_⟩);by_cases s0:s=0
  ·exact aI (decide_eq_true (by rw [s0];rfl)) (q 0 _ (au.refl _) (.inl ⟨s0,rfl⟩))
  refine aF (decide_eq_false (λz=>s0 (Int.ofNat.inj (V.int.inj z)))) ?_;rcases fo with ⟨rfl,rfl⟩ | ⟨lf,A,rfl,kA,lA,rA,rfl⟩
  ·refine (zr rfl (zr rfl (aI rfl (zr rfl (dW hb.book rfl ⟨tm,zr rfl ⟨.inr (bC.of hb.meets),aM rfl rfl ?_⟩⟩)))));refine q _ _ (au.refl _) (.inr ⟨s0,?_⟩);rw [zA,zA]
  have jn:=hF _ rfl;obtain ⟨b1,iY⟩:∃ r,A[w0]?=some r:=⟨_,zJ (by omega)⟩;have K2:=zC iY;have F1:∀ s',((A.map (·.2)).getD w0 []).getD s' 0=b1.2.getD s' 0:=λs'=>by
   have:(A.map (·.2)).getD w0 []=b1.2:=by rw [zb,zI,iY];rfl
   rw [this]
  have lb1:=(rA b1 K2).2;obtain ⟨xm,VV⟩:∃ x,ps[j]?=some x:=⟨_,zJ jn⟩;have mxm:=zC VV;refine (zr rfl (zr rfl (aF rfl (zr rfl (zr rfl (cI kA (wF (by rw [zI,iY];rfl)) (zr rfl (cI ((rA b1 K2).1) (cM (by omega)) ?_))))))));have kx:=hb.rows xm mxm;have fx:=gd.at mxm;obtain ⟨lo,elo⟩:=zj fx.1;obtain ⟨hi,ehi⟩:∃ n:Nat,xm.2.hi=n:=zj (by omega);refine (zr rfl (zr rfl (dW hb.book rfl (zr rfl (dW hb.meets (wF (by rw [zI,VV];rfl)) (zr rfl ⟨xm.1,zr rfl ⟨bC.of kx,(by show ¬ (HT.cE 4 0 none=0/\HT.cE 4 4 (some 2)=4);decide),λp2 RZ=>?_⟩⟩))))));rw [show i0 xm.2.vs none (some 2)=[V.int xm.2.lo,V.int xm.2.hi] from rfl];have s2:=xk (o:=HO.tup [V.int xm.2.lo,V.int xm.2.hi]) RZ;have F2:∀ {o:Nat}{d:jH},A[o]?=some d->∀ s',((A.map (·.2)).getD o []).getD s' 0=d.2.getD s' 0:=λ{o d} h s'=>by
   have:(A.map (·.2)).getD o []=d.2:=by rw [zb,zI,h];rfl
   rw [this]
  have hm:=RG VV;refine ⟨p2,[.int xm.2.lo,.int xm.2.hi],rfl,.inr (bC.of xg),rfl,rfl,zr rfl ?_⟩;rw [show RV (V.int (w0:Int)) [V.int xm.2.lo,V.int xm.2.hi]=(decide ((w0:Int)=xm.2.lo) || decide ((w0:Int)=xm.2.hi)) from tS];refine tQ (fun σ H'=>∃ x:Int,(∃ v6,σ=[some (.ref b),some (.int (j:Int)),some (.int (w0:Int)),some (.int (s:Int)),some (.ref lf),some (.int x),v6])/\au H H'/\eW (ps.map (·.2)) j (some λw s=>(((A.map (·.2)).getD w []).getD s 0)) w0 s x) ?_ (λc k0=>?_) (λc=>⟨_,⟨_,rfl⟩,s2,.inr ⟨s0,.inl ⟨λo t l=>?_,(F1 s).symm⟩⟩⟩)
  ·rintro σ H' ⟨x,⟨v6,rfl⟩,s',lx⟩;exact (zr rfl (q x H' s' lx))
  ·generalize upd H p2 _=H2 at s2 ⊢;obtain ⟨o,eo,lk⟩:∃ o:Nat,(if (w0:Int)=xm.2.lo then xm.2.hi else xm.2.lo)=(o:Int)/\bM (ps.map (·.2)) j w0 o xm.2.t:=by
    have c:(decide ((w0:Int)=xm.2.lo) || decide ((w0:Int)=xm.2.hi))=true:=c;rw [yg,decide_eq_true_eq,decide_eq_true_eq] at c;by_cases e:(w0:Int)=xm.2.lo
    ·exact ⟨hi,by rw [if_pos e,ehi],xm.2,hm,rfl,.inl ⟨by omega,by omega⟩⟩
    ·exact ⟨lo,by rw [if_neg e,elo],xm.2,hm,rfl,.inr ⟨by omega,by omega⟩⟩
   have oW:o < aa.length:=(lk.inside gd).2.1;obtain ⟨d1,SV⟩:∃ r,A[o]?=some r:=⟨_,zJ (by omega)⟩;have Xb:=zC SV;have ld1:=(rA d1 Xb).2;refine (zr rfl (zr rfl (zr rfl (Vh b j w0 aa tr tm ps xm.2 ⟨rfl,hb.same s2,hm,?_⟩))));rw [eo];refine (zr rfl ⟨by show 1<=sizeLine;omega,λl1 y1=>?_⟩);have w1:=xk (o:=HO.lst [V.int (b1.2.getD s 0)]) y1;have u1:upd H2 l1 (HO.lst [V.int (b1.2.getD s 0)]) l1=some (.lst [V.int (b1.2.getD s 0)]):=xg;generalize upd H2 l1 _=H3 at w1 u1 ⊢;refine (zr rfl ⟨s,rfl,by omega,λls rs H4 s4 kl kr es=>?_⟩);have s24:=(s2.trans w1).trans s4;refine ⟨ls,rfl,⟨_,aH.of kl⟩,?_⟩;have ln:=split_len s;have lrs:rs.length<=s + 1:=by rw [<-es,zA] at ln;exact ln
   refine (let W17:IC:=λi τ acc H5=>(∃ t0 t1,τ=[t0,t1,some (.ref lf),some (.int (o:Int)),some (.int (w0:Int))])/\acc=((rs.take i).map λr=>1 + b1.2.getD r.2.1 0 + d1.2.getD r.2.2 0).map V.int/\au H4 H5;cL (K:=K) (a:=ls) (xs:=rs.map λr=>V.ref r.1) W17 ⟨⟨_,_,rfl⟩,rfl,au.refl _⟩ (by rw [zA];omega) ?_ ?_ ?_)
   ·rintro i τ acc H5 ⟨_,rfl,s5⟩;refine ⟨?_,aH.of (s5 _ _ kl)⟩;rw [zA,zA,zY];omega
   ·rintro i v τ acc H5 C hv ⟨⟨t0,t1,rfl⟩,rfl,s5⟩ hC;obtain ⟨r,hr,rfl⟩:=wO hv;have mr:=zC hr;have r2:=split_le (s:=s) (r:=r.2) (by rw [<-es];exact yM mr);have Ss:=s24.trans s5;refine (p6 (s5 _ _ (kr r mr)) ?_);refine (zr rfl (zr rfl (cI (Ss _ _ kA) (wF (by rw [zI,iY];rfl)) (zr rfl (cI (Ss _ _ (rA b1 K2).1) (cM (by omega)) (aM rfl rfl ?_))))));refine (zr rfl (zr rfl (cI (Ss _ _ kA) (wF (by rw [zI,SV];rfl)) (zr rfl (cI (Ss _ _ (rA d1 Xb).1) (cM (by omega)) (aM rfl rfl (hC _ _ _ ⟨⟨_,_,rfl⟩,?_,s5⟩)))))));rw [wP hr,zH,zH];rfl
   ·rintro τ acc H5 ⟨⟨t0,t1,rfl⟩,rfl,s5⟩ lc gO;rw [zA,zv];have w6:=xk (o:=HO.lst ((rs.map λr=>1 + b1.2.getD r.2.1 0 + d1.2.getD r.2.2 0).map V.int)) gO;have u6:upd H5 lc (HO.lst ((rs.map λr=>1 + b1.2.getD r.2.1 0 + d1.2.getD r.2.2 0).map V.int)) lc=some (.lst ((rs.map λr=>1 + b1.2.getD r.2.1 0 + d1.2.getD r.2.2 0).map V.int)):=xg;generalize upd H5 lc _=H6 at w6 u6 ⊢;refine ⟨l1,lc,aM rfl rfl ⟨w6 _ _ (s5 _ _ (s4 _ _ u1)),u6,by rw [zA,zA];show 1 + _<=_;omega,λl2 y2=>?_⟩⟩;have w7:=xk (o:=HO.lst ([V.int (b1.2.getD s 0)]++(rs.map λr=>1 + b1.2.getD r.2.1 0 + d1.2.getD r.2.2 0).map V.int)) y2;refine ⟨l2,b1.2.getD s 0::rs.map λr=>1 + b1.2.getD r.2.1 0 + d1.2.getD r.2.2 0,rfl,aH.of xg,Nat.succ_pos _,λM hM mn=>?_⟩;refine k0 _ _ ⟨M,⟨_,rfl⟩,((s24.trans s5).trans w6).trans w7,.inr ⟨s0,.inr ⟨o,xm.2.t,lk,?_,λp sp=>?_,?_⟩⟩⟩
    ·dsimp only;rw [F1];exact mn _ (.head _)
    ·have:(p,s - p)∈rs.map (·.2):=by rw [es];exact cu.mpr ⟨⟨sp.le,fj.mpr sp⟩,rfl⟩
     obtain ⟨r',vO,e'⟩:=zS.mp this;have:=mn _ (yA _ (yM vO));rw [e'] at this;dsimp only;rw [F1,F2 SV];exact this
    ·rcases zO.mp hM with e | e
     ·exact .inl (by dsimp only;rw [F1];exact e)
     ·obtain ⟨r',vO,e'⟩:=zS.mp e;have mr:r'.2∈fL s:=by rw [<-es];exact yM vO
      obtain ⟨r0,p,q0⟩:=r';obtain ⟨⟨_,b2⟩,rfl⟩:=cu.mp mr;exact .inr ⟨p,fj.mp b2,by dsimp only;rw [F1,F2 SV];exact e'.symm⟩
  ·have c:(decide ((w0:Int)=xm.2.lo) || decide ((w0:Int)=xm.2.hi))=false:=c;rw [Bool.or_eq_false_iff,decide_eq_false_iff_not,decide_eq_false_iff_not] at c;obtain ⟨m',ig,_,cc⟩:=l;rw [hm] at ig;cases ig;rcases cc with ⟨a1,a2⟩ | ⟨a1,a2⟩ <;> omega
theorem JJ:cW T.Hq P w base 3 (QY):=by
 have CT:=Fq P w base T B;have Ek:=FJ P w base T B;have Ki:=JP P w base T B;refine T.Hq.F.ok Ix (λvs H Q E h=>?_) (λbr A outer s H vs Q E hr h=>?_)
 ·obtain ⟨_,_,_,_,_,_,_,_,_,_,_,rfl,_⟩:=h;rfl
 ·have nd:=Ix.nd;have hu:=hr.units;obtain ⟨b,l,j,w0,v,aa,tr,tm,ps,ws,F,rfl,cx,hw,fo,hF,q⟩:=h;refine bT ?_;intro Y
  let B0:Bk Y ((nb (ak EG) 1).drop 1):=⟨_,(xh (wB (qH (fu ze zg zh wY (pv 5) (xb (xf (jh (wD qL (pv 7) (pv 6) (aB _)) (aU Ki hr T.IE (xb (xf (pv 0) (xf (pv 2) (xf (pv 3) (xf (pv 6) (xf (pv 4) xl rfl) rfl) rfl) rfl) rfl))) (xz (xx rfl) (pv 5) (pv 7) (λ_ _=>rfl))) xl rfl))))))⟩
  let B1:Bk Y ((ak EG).drop 1):=⟨_,(xh (xy (wl PassesOwn.never rfl (qT rfl T.cQ (xb (xf (wA wJ (aU CT hr T.Dt (xb (xf (pv 1) xl rfl))) xi) xl rfl))) (xp (i:=6) nd rfl rfl) (xh (xy (xt (i:=7) nd rfl rfl (aU Ek hr T.BZ (xb (xf (pv 0) (xf (pv 1) (xf (pv 2) (xf (pv 3) (xf (pv 6) xl rfl) rfl) rfl) rfl) rfl)))) B0.bl))) (wB (xu (pv 5)))))⟩
  refine ⟨_,(xh (xy (xt (i:=5) nd rfl rfl (wM qX)) B1.bl)),?_⟩;have line:=bA;have w4:=cx.w4;have Rw:=o4 w4;have p0:=ym ws.length;refine ⟨za _,λlr Nt=>?_⟩;have s1:=xk (o:=HO.lst []) Nt;have k1:upd H lr (HO.lst []) lr=some (.lst []):=xg;generalize upd H lr (HO.lst [])=H1 at s1 k1 ⊢;refine (zr rfl ⟨l,ws,zr rfl ⟨(cx.same s1).wa,by omega,aM rfl rfl ?_⟩⟩);refine ⟨((2 ^ ws.length:Nat):Int),?_,by omega,by omega,?_⟩
  ·show [V.int (((2 ^ ws.length:Nat):Int) - 1 + 1)]=_;rw [Int.sub_add_cancel]
  rw [zu];refine (let W18:IV:=λs σ H5=>∃ r:List Int,(∃ v6 v7,σ=[some (.ref b),some (.ref l),some (.int (j:Int)),some (.int (w0:Int)),some v,some (.ref lr),v6,v7])/\au H H5/\H5 lr=some (.lst (r.map V.int))/\r.length=s/\∀ s',s' < s->(aC (ps.map (·.2)) (wq ws) j w0 s'=s'->eW (ps.map (·.2)) j F w0 s' (r.getD s' 0))/\r.getD s' 0=r.getD (aC (ps.map (·.2)) (wq ws) j w0 s') 0;ir (lo:=0) (n:=2 ^ ws.length) W18 ⟨[],⟨_,_,rfl⟩,s1,k1,rfl,(λj z=>absurd z (zf _))⟩ ?_ ?_)
  ·rintro s σ H5 hs ⟨r,⟨v6,v7,rfl⟩,s5,k5,VQ,old⟩;rw [Int.zero_add];have MZ:=cx.same s5;have UM:s < 2 ^ (wq ws).length:=by rw [gc];exact hs
   have ole:=(wo (ms:=ps.map (·.2)) (ws:=wq ws) (j:=j) (w:=w0) UM).le;refine (zr rfl (zr rfl (zr rfl (zr rfl (zr rfl (Py b l j w0 s aa tr tm ps ws ⟨rfl,MZ,hs,λH6 s6=>?_⟩))))));have VM:=s5.trans s6;have k6:=s6 _ _ k5;refine (zr rfl ⟨.inl ⟨rfl,_,aH.of k6⟩,zr rfl (zr rfl ⟨rfl,zr rfl ?_⟩)⟩);have put:∀ {H':Hp}{o:HO},au H H'->au H (upd H' lr o):=λs a u e=>by rw [xq (xj e Nt)];exact s a u e
   by_cases e1:aC (ps.map (·.2)) (wq ws) j w0 s=s
   ·refine aI (decide_eq_true (by rw [e1])) (zr rfl (zr rfl (zr rfl (zr rfl (zr rfl (Px b j w0 s v aa tr tm ps (2 ^ ws.length) F ⟨rfl,(MZ.same s6).bk,cx.gd,cx.jY,hw,hs,Rw,fo.same VM,hF,λx H7 s7 lx=>?_⟩))))));refine ⟨lr,aM rfl rfl ⟨s7 _ _ k6,by rw [zA];omega,r++[x],⟨_,_,rfl⟩,put (VM.trans s7),by rw [xg,zH];rfl,by rw [zN,VQ];rfl,mh VQ UM old (λ_=>lx) (λn=>absurd e1 n)⟩⟩
   ·refine aF (decide_eq_false (λz=>e1 (Int.ofNat.inj (V.int.inj z)))) (zr rfl (zr rfl (cI k6 (cM (by omega)) ?_)));refine ⟨lr,aM rfl rfl ⟨k6,by rw [zA];omega,r++[_],⟨_,_,rfl⟩,put VM,by rw [xg,zH];rfl,by rw [zN,VQ];rfl,mh VQ UM old (λn=>absurd n e1) (λ_=>rfl)⟩⟩
  ·rintro σ H5 ⟨r,⟨v6,v7,rfl⟩,s5,k5,VQ,old⟩;exact (zr rfl (q lr r H5 s5 Nt k5 VQ λs hs=>old s (by rw [gc] at hs;exact hs)))
theorem Hg:cW T.Cu P w base 4 (u0):=by
 have J8:=JJ P w base T B;refine T.Cu.F.ok EB (λvs H Q E h=>?_) (λbr A outer s H vs Q E hr h=>?_)
 ·obtain ⟨_,_,_,_,_,_,_,rfl,_⟩:=h;rfl
 ·have nd:=EB.nd;have hu:=hr.units;obtain ⟨b,l,aa,tr,tm,ps,ws,rfl,cx,q⟩:=h;refine bT ?_;intro Y
  let B0:Bk Y ((nb (ak wt) 1).drop 1):=⟨_,(xh (wB (qH (fu ze zg zh wY (pv 2) (xb (xf (wx (own:=["walker"]) (caps:=[0,1,3,4]) rfl (show aK ["walker"] [0,1,3,4] ["book", "wishes", "prices", "stretch", "following"] (aj wt) _ from L2.iz) (qT rfl T.cQ (xb (xf (xr (xw rfl) (by rfl) T.bw PySem.boot_len (xb (xf (xz (wE rfl) (pv 0) xi (λ_ _=>rfl)) xl rfl))) xl rfl))) (λ_ _ _ _=>(xp (i:=0) (show List.Nodup (["walker", "book", "wishes", "stretch", "following"]:List Str) from by decide +kernel) rfl rfl)) (λ_ _ _ _=>ww) (λ_ _ _ _=>(aU J8 hr T.Hq (xb (xf (pv 1) (xf (pv 2) (xf (pv 3) (xf (pv 0) (xf (pv 4) xl rfl) rfl) rfl) rfl) rfl))))) xl rfl))))))⟩
  let B1:Bk Y ((ak wt).drop 1):=⟨_,(xh (xy (wl PassesOwn.never rfl (Ro rfl T.Ky rfl T.cQ (xb (xf (wA wJ (xr (xw rfl) (by rfl) T.bw PySem.boot_len (xb (xf (xz (wE rfl) (pv 0) xi (λ_ _=>rfl)) xl rfl))) xi) xl rfl))) (xp (i:=3) nd rfl rfl) (xh (xy (xt (i:=4) nd rfl rfl (jh (sW (pv 2) (λ_=>rfl)) (xz (xx rfl) (pv 2) (sZ lS xi) (λ_ _=>rfl)) qW)) B0.bl))) (wB (xu (lJ rfl (pv 2))))))⟩
  refine ⟨_,(xh (xy (xt (i:=2) nd rfl rfl (wM qX)) B1.bl)),?_⟩;have line:=bA;have w4:=cx.w4;have SH:=cx.gd.len;have jY:=cx.jY;refine ⟨za _,λlp YR=>?_⟩;have s1:=xk (o:=HO.lst []) YR;have k1:upd H lp (HO.lst []) lp=some (.lst []):=xg;generalize upd H lp (HO.lst [])=H1 at s1 k1 ⊢;have iY:=cx.bk.same s1;refine (zr rfl (dW iY.book rfl ⟨tm,zr rfl ⟨.inr (bC.of iY.meets),aM rfl rfl ⟨ps.length + 1,by rw [zA];rfl,by omega,?_⟩⟩⟩));refine (let W19:IV:=λi σ H5=>∃ A,(∃ v3 v4,σ=[some (.ref b),some (.ref l),some (.ref lp),v3,v4])/\au H H5/\i6 H H5 lp aa.length (2 ^ ws.length) (ps.map (·.2)) (wq ws) A i;vY W19 ⟨[],⟨_,_,rfl⟩,s1,k1,(λ_ z=>nomatch z),(λ_ z=>nomatch z),rfl,(λ_ z=>absurd z (zf _))⟩ ?_ ?_)
  ·rintro i σ H5 hi ⟨A,⟨v3,v4,rfl⟩,s5,d5⟩;have ej:((ps.length + 1:Nat):Int) - 1 + (i:Nat) * -1=((ps.length - i:Nat):Int):=by omega
   rw [ej];have MZ:=cx.same s5;obtain ⟨v,F,fo,eF,hv⟩:=d5.via (K:=K) (σ:=[some (.ref b),some (.ref l),some (.ref lp),some (.int ((ps.length - i:Nat):Int)),v4]) rfl;refine (zr rfl ⟨_,.inl ⟨_,aH.of d5.top,rfl⟩,hv _ ?_⟩);have hF:∀ G,F=some G->ps.length - i < ps.length:=λG z=>by
    by_cases e:i=0
    ·rw [if_pos e] at eF;rw [eF] at z;cases z
    ·omega
   have YX:=MZ.bk;refine (zr rfl ⟨.inl ⟨rfl,_,aH.of d5.top⟩,zr rfl (dW YX.book rfl ⟨tr,zr rfl ⟨.inr (bC.of YX.aa),zr rfl ⟨by rw [zA];omega,by rw [zA];omega,?_⟩⟩⟩)⟩);rw [show (((aa.map V.int).length:Nat):Int).toNat=aa.length by rw [zA];rfl];refine (let W20:IC:=λw0 τ acc H6=>∃ B:List jH,(∃ t0,τ=[t0,some (.ref b),some (.ref l),some (.int ((ps.length - i:Nat):Int)),some v])/\acc=(B.map λb=>V.ref b.1)/\B.length=w0/\au H5 H6/\Qd H H6 lp (2 ^ ws.length) (ps.map (·.2)) (wq ws) (ps.length - i) F B;dS (lo:=0) (m:=aa.length) W20 ⟨[],⟨_,rfl⟩,rfl,rfl,au.refl _,Qd.nil⟩ (by omega) ?_ ?_ ?_)
   ·rintro w0 τ acc H6 ⟨B,_,rfl,e,_,_⟩;rw [zA,e];exact zF _
   ·rintro w0 τ acc H6 C hw ⟨B,⟨t0,rfl⟩,rfl,e,s6,rB⟩ hC;rw [Int.zero_add];refine (zr rfl (zr rfl (zr rfl (zr rfl (zr rfl (Px b l (ps.length - i) w0 v aa tr tm ps ws F ⟨rfl,MZ.same s6,hw,fo.same s6,hF,λlr r H7 s7 f7 k7 l7 d7=>?_⟩))))));refine hC _ _ _ ⟨B++[(lr,r)],⟨_,rfl⟩,by rw [zH];rfl,by rw [zN,e];rfl,s6.trans s7,(rB.same s7).snoc k7 l7 ((s5.trans s6).free f7) ?_ (by rw [e];exact d7)⟩;exact Ne.symm (xj (s6 _ _ d5.top) f7)
   ·rintro τ acc H6 ⟨B,⟨t0,rfl⟩,rfl,e,s6,rB⟩ la R3;have s7:=xk (o:=HO.lst (B.map λb=>V.ref b.1)) R3;have k7:upd H6 la (HO.lst (B.map λb=>V.ref b.1)) la=some (.lst (B.map λb=>V.ref b.1)):=xg;generalize upd H6 la _=H7 at s7 k7 ⊢;have d7:=(d5.same s6).same s7;have ne:la≠lp:=Ne.symm (xj (s6 _ _ d5.top) R3);have lA:A.length=i:=d5.len;refine ⟨lp,aM rfl rfl ⟨d7.top,by rw [zA];omega,A++[(la,B)],⟨_,_,rfl⟩,au.put YR ((s5.trans s6).trans s7),?_⟩⟩;have bt:∀ c u,c≠lp->H7 c=some u->upd H7 lp (.lst (A.map (λa=>V.ref a.1)++[V.ref la])) c=some u:=λc u n k=>by rw [xq n];exact k
    have Yz:=rB.same s7;refine d7.snoc (F:=F) bt xg (bt _ _ ne k7) ((s5.trans s6).free R3) ne e ⟨λx hx=>⟨bt _ _ (Yz.row x hx).2.2.2 (Yz.row x hx).1,(Yz.row x hx).2⟩,?_⟩ eF;rw [zA];exact Yz.dp
  ·rintro σ H5 ⟨A,⟨v3,v4,rfl⟩,s5,d5⟩;have gd:=cx.gd;have lA:A.length=ps.length + 1:=d5.len;have nA:(ps.map (·.2)).length=ps.length:=zA _;rw [<-nA] at d5;refine (zr rfl ⟨lp,zr rfl ⟨aH.of d5.top,λlq hq=>?_⟩⟩);have s6:=xk (o:=HO.lst (A.map λa=>V.ref a.1).reverse) hq;have k6:upd H5 lq (HO.lst (A.map λa=>V.ref a.1).reverse) lq=some (.lst (A.map λa=>V.ref a.1).reverse):=xg;generalize upd H5 lq _=H6 at s6 k6 ⊢;rw [<-List.map_reverse] at k6;rw [gc ws |>.symm] at d5;have pr:=d5.pr gd s6 k6;rw [nA,gc] at pr;exact q lq A.reverse H6 (s5.trans s6) (s5.free hq) (λa ha=>⟨(d5.str a (ya.mp ha)).2.2.1,λb hb=>(d5.row a (ya.mp ha) b hb).2.2.1⟩) pr (d5.done gd)
theorem Il:cW T.DL P w base 4 (Oa a.tP cK):=by
 have Fa:=GT P w base T B;refine T.DL.F.okC T.aah FD (λvs H Q E h=>?_) (λA outer s H vs Q E hr h=>?_)
 ·obtain ⟨_,_,_,_,_,_,rfl,_⟩:=h;rfl
 ·have nd:=FD.nd;have hu:=hr.units;obtain ⟨lk,lg,s,xs,ys,sz,rfl,k1,k2,e1,e2,hs,Od,mt,q⟩:=h;refine ⟨_,(xh (wB (xu (Mj (caps:=[0,1]) (pn := "pair") rfl rfl T.Ls rfl T.aag B rfl (hr.mono (by decide)) (show jJ ["pair"] [0,1] ["kept", "given", "some"] (aj BX) _ from ⟨rfl,rfl,rfl,by decide +kernel,by decide +kernel,by decide +kernel,by decide +kernel,by decide +kernel⟩) (λ_ _ _ _ _=>rfl) (λ_ _ _ _ _=>(wA wJ (xz (xx rfl) (pv 1) (xz (wE rfl) (pv 0) xi (λ_ _=>rfl)) (λ_ _=>rfl)) (xz (xx rfl) (pv 2) (xz (wE rfl) (pv 0) xi (λ_ _=>rfl)) (λ_ _=>rfl)))) (aU Fa hr T.EJ (xb (xf (pv 2) xl rfl))) rfl)))),?_⟩;have line:=bA;refine (zr rfl ⟨s,rfl,by omega,λl0 rs H1 s1 kl kr es=>?_⟩);have mt1:=mt.bR s1;have ge:∀ {z:Addr}{ns:List Int}{H':Hp},H z=some (.lst (ns.map V.int))->cX a.tP H1 H'->H' z=some (.lst (ns.map V.int)):=λk bt=>bt _ _ (mt.OO k) (s1 _ _ k);refine ⟨l0,rs.map (λr=>(r.1,[(r.2.1:Int),(r.2.2:Int)])),(λz=>xs.getD (z.getD 0 0).toNat 0 + ys.getD (z.getD 1 0).toNat 0),rfl,by rw [yY];exact kl,?_,mt1,λx hx=>?_,λx hx H' bt=>?_,λx H2 hx best bt mt2=>?_⟩
  ·rw [zA];have:(0,s)∈rs.map (·.2):=by rw [es];exact cu.mpr ⟨⟨za _,Nat.zero_and _⟩,rfl⟩
   obtain ⟨r,hr,_⟩:=zS.mp this;exact List.length_pos_of_mem hr
  ·obtain ⟨r,hr,rfl⟩:=zS.mp hx;exact kr r hr
  ·obtain ⟨r,hr,rfl⟩:=zS.mp hx;have le:=split_le (s:=s) (r:=r.2) (by rw [<-es];exact yM hr);have k:=bt _ _ (mt1.vB (kr r hr)) (kr r hr);refine (zr rfl (zr rfl (dW k rfl (cI (ge k1 bt) (cM (by omega)) (zr rfl (zr rfl (dW k rfl (cI (ge k2 bt) (cM (by omega)) (aM rfl rfl ⟨rfl,au.refl _⟩)))))))))
  ·obtain ⟨r,hr,rfl⟩:=zS.mp hx;have mr:r.2∈fL s:=by rw [<-es];exact yM hr
   obtain ⟨r0,p,q0⟩:=r;obtain ⟨⟨_,b2⟩,rfl⟩:=cu.mp mr;refine q r0 p H2 (λb u n e=>bt b u n (s1 b u e)) mt2 (bt _ _ (mt1.vB (kr _ hr)) (kr _ hr)) (fj.mp b2) λp' sp=>?_;have:(p',s - p')∈rs.map (·.2):=by rw [es];exact cu.mpr ⟨⟨sp.le,fj.mpr sp⟩,rfl⟩
   obtain ⟨r',vO,e'⟩:=zS.mp this;have:=best _ (yM vO);rw [e'] at this;exact this
theorem Jr:cW T.GS P w base 5 (NW a.tP cK):=by
 have Bv:=DS P w base T B;have AO:=C5 P w base T B;have CT:=Fq P w base T B;have Ek:=FJ P w base T B;have IZ:=Il P w base T B;refine T.GS.F.ok Hj (λvs H Q E h=>?_) (λbr A outer s H vs Q E hr h=>?_)
 ·obtain ⟨_,_,_,_,_,_,_,_,_,_,_,rfl,_⟩:=h;rfl
 ·have nd:=Hj.nd;have hu:=hr.units;obtain ⟨b,k,a0,l,lp,aa,tr,tm,ps,ws,P,rfl,cx,hk,dp,fin,own,mt,q⟩:=h;refine bT ?_;intro Y
  let B0:Bk Y ((nb (ak wd) 2).drop 9):=⟨_,(xh (wB (qH (fu ze zg zh wY (pv 6) (xb (xf (wZ (xb (xf (wA wJ (pv 7) xi) (xf (pv 11) (xf (pv 13) xl rfl) rfl) rfl))) xl rfl))))))⟩
  let B1:Bk Y ((nb (ak wd) 2).drop 8):=⟨_,(xh (xy (qH (fu ze zg zh wY (pv 6) (xb (xf (wZ (xb (xf (wA wJ (pv 7) xi) (xf (pv 8) (xf (pv 12) xl rfl) rfl) rfl))) xl rfl)))) B0.bl))⟩
  let B2:Bk Y ((nb (ak wd) 2).drop 7):=⟨_,(xh (xy (qH (fu ze zg zh wY (pv 5) (xb (xf (wZ (xb (xf (pv 7) (xf (pv 8) xl rfl) rfl))) xl rfl)))) B1.bl))⟩
  let B3:Bk Y ((nb (ak wd) 2).drop 6):=⟨_,(xh (xy (qN (aU IZ hr T.DL (xb (xf (xz (xx rfl) (pv 10) (pv 8) (λ_ _=>rfl)) (xf (xz (xx rfl) (pv 10) (pv 11) (λ_ _=>rfl)) (xf (pv 9) xl rfl) rfl) rfl))) (wI (n:=2) rfl rfl (xo (xp (i:=12) nd rfl rfl) (xo (xp (i:=13) nd rfl rfl) wH)))) B2.bl))⟩
  let B4:Bk Y (nb (nb (ak wd) 2) 4):=⟨_,(xh (xy (qH (fu ze zg zh wY (pv 6) (xb (xf (wZ (xb (xf (wA wJ (pv 7) xi) (xf (pv 8) (xf (pv 9) xl rfl) rfl) rfl))) xl rfl)))) (wB kK)))⟩
  let B5:Bk Y ((nb (ak wd) 2).drop 4):=⟨_,(xh (xy (wK (wD qL (xz (xx rfl) (xz (xx rfl) (xz (xx rfl) (pv 4) (pv 7) (λ_ _=>rfl)) (pv 8) (λ_ _=>rfl)) (pv 9) (λ_ _=>rfl)) (xz (xx rfl) (xz (xx rfl) (pv 10) (pv 8) (λ_ _=>rfl)) (pv 9) (λ_ _=>rfl)) (aB _)) B4.ps wC) (xy (xt (i:=11) nd rfl rfl (aU AO hr T.Bp (xb (xf (pv 0) (xf (pv 7) (xf (pv 8) xl rfl) rfl) rfl)))) B3.bl)))⟩
  let B6:Bk Y ((nb (ak wd) 2).drop 2):=⟨_,(xh (xy (wK (wD qL (pv 9) xi (aB _)) (xh (wB kK)) wC) (xy (xt (i:=10) nd rfl rfl (xz (xx rfl) (pv 4) (wA wJ (pv 7) xi) (λ_ _=>rfl))) B5.bl)))⟩
  let B7:Bk Y (nb (ak wd) 2):=⟨_,(xh (xy (qN (Uj ze PySem.F.slot_list_pop PySem.F.type_list_pop Ut (pv 6)) (wI (n:=3) rfl rfl (xo (xp (i:=7) nd rfl rfl) (xo (xp (i:=8) nd rfl rfl) (xo (xp (i:=9) nd rfl rfl) wH))))) (xy (xt (i:=9) nd rfl rfl (aU Ek hr T.BZ (xb (xf (pv 0) (xf (pv 3) (xf (pv 7) (xf (pv 8) (xf (pv 9) xl rfl) rfl) rfl) rfl) rfl)))) B6.bl)))⟩
  let B8:Bk Y ((ak wd).drop 1):=⟨_,(xh (xy (xt (i:=6) nd rfl rfl (wM (xb (xf (wZ (xb (xf (aU Bv hr T.Cn (xb (xf (pv 0) (xf (pv 2) xl rfl) rfl))) (xf (pv 1) (xf (aU CT hr T.Dt (xb (xf (pv 3) xl rfl))) xl rfl) rfl) rfl))) xl rfl)))) (xy (mw PassesOwn.never (sW (pv 6) (λ_=>rfl)) B7.ps) (wB (xu (xr (nq) (by rfl) T.uw PyProof.Rows.boot_sorted (xb (xf (pv 5) xl rfl))))))))⟩
  refine ⟨_,(xh (xy (xt (i:=5) nd rfl rfl (wM qX)) B8.bl)),?_⟩;have line:=bA;have w4:=cx.w4;have gd:=cx.gd;have SH:ps.length<=60:=gd.len;have Rw:=o4 w4;have p0:=ym ws.length;have eK:(wq ws).length=ws.length:=gc ws;have nm:(ps.map (·.2)).length=ps.length:=zA _;have UL:∀ x∈wq ws,x.1 < aa.length:=λx hx=>by
   obtain ⟨y,hy,rfl⟩:=zS.mp hx;exact (cx.wa.2 y hy).2
  have fr:=dp.Vf gd UL;refine ⟨za _,λlg hlg=>?_⟩;have s1:=xk (o:=HO.lst []) hlg;have k1:upd H lg (HO.lst []) lg=some (.lst []):=xg;generalize upd H lg (HO.lst [])=H1 at s1 k1 ⊢;have cx1:=cx.same s1;refine (zr rfl (zr rfl (Y8 b a0 aa tr tm ps ⟨rfl,cx1.bk,by omega,λH2 s2=>?_⟩)));have cx2:=cx1.same s2;refine (zr rfl (zr rfl ⟨l,ws,zr rfl ⟨cx2.wa,by omega,by show 3<=sizeLine;omega,λt ht=>?_⟩⟩));have s3:=xk (o:=HO.tup [V.int (cnt (ps.map (·.2)) a0:Nat),V.int (k:Int),V.int (((2 ^ ws.length:Nat):Int) - 1)]) ht;have k3:upd H2 t (HO.tup [V.int (cnt (ps.map (·.2)) a0:Nat),V.int (k:Int),V.int (((2 ^ ws.length:Nat):Int) - 1)]) t=some (.tup [V.int (cnt (ps.map (·.2)) a0:Nat),V.int (k:Int),V.int ((2 ^ (wq ws).length - 1:Nat):Int)]):=by
   rw [xg,eK,show ((2 ^ ws.length - 1:Nat):Int)=((2 ^ ws.length:Nat):Int) - 1 by omega]
  generalize upd H2 t _=H3 at s3 k3 ⊢;refine ⟨by show 1<=sizeLine;omega,λlq hlq=>?_⟩;have s4:=xk (o:=HO.lst [V.ref t]) hlq;have k4:upd H3 lq (HO.lst [V.ref t]) lq=some (.lst [V.ref t]):=xg;generalize upd H3 lq (HO.lst [V.ref t])=H4 at s4 k4 ⊢;have Nq:=(s2.trans s3).trans s4;have s04:=s1.trans Nq;have L4:gT a.tP cK H H4 lg lq [] [(t,(cnt (ps.map (·.2)) a0,k,2 ^ (wq ws).length - 1))]:=
   ⟨au.uv s04,mt.bR s04,hlg,((s1.trans s2).trans s3).free hlq,xj ((s2.trans s3) _ _ k1) hlq,Nq _ _ k1,k4,(λ_ z=>nomatch z),λx hx=>by cases zK.mp hx;exact s4 _ _ k3⟩
  refine ab9 ?_;refine QI (m0:=gH (ps.map (·.2)).length ([(t,(cnt (ps.map (·.2)) a0,k,2 ^ (wq ws).length - 1))].map (·.2))) (λm σ H5=>∃ G:List (Addr×Nat×Nat),∃ Qs:List (Addr×f6),(∃ v7 v8 v9 v10 v11 QK v13,σ=[some (.ref b),some (.int (k:Int)),some (.int a0),some (.ref l),some (.ref lp),some (.ref lg),some (.ref lq),v7,v8,v9,v10,v11,QK,v13])/\m=gH (ps.map (·.2)).length (Qs.map (·.2))/\gT a.tP cK H H5 lg lq G Qs/\nM Qs/\bO (ps.map (·.2)) (bI (aG P)) aa.length (wq ws) k a0 (G.map (·.2)) (Qs.map (·.2))) ⟨[],_,⟨_,_,_,_,_,_,_,rfl⟩,rfl,L4,(λi x h=>by cases i with | zero=>exact za _ | succ i=>cases h),bO.start hk⟩ ?_ ?_
  ·rintro m σ H5 ⟨G,Qs,⟨v7,v8,v9,v10,v11,QK,v13,rfl⟩,rfl,L5,Qn,ex⟩;rcases List.eq_nil_or_concat Qs with rfl | ⟨Q0,⟨q0,j,w0,s⟩,eQ⟩
   ·refine (zr rfl ⟨false,.inl ⟨_,aH.of L5.kq,rfl⟩,aF rfl ?_⟩);have eG:=ex.c;have sG:=ex.s;rw [yF,yF,xU,Int.add_zero] at eG;obtain ⟨T,h,tre,sv,lT,pT,tT⟩:=Tw fr gd hk (G:=G.map (·.2)) eG (λk x hx=>by
     rcases sG k x hx with ⟨y,hy,_⟩ | h
     ·cases hy
     ·exact h) own
    rw [eK] at eG lT;rw [zA] at eG;refine (zr rfl ⟨lg,G.map (λx=>(x.1,[(x.2.1:Int),(x.2.2:Int)])),rfl,by rw [yY];exact aH.of L5.kg,by rw [zA];omega,λy hy=>?_,λls qs hls pm srt=>?_⟩)
    ·obtain ⟨x,hx,rfl⟩:=zS.mp hy;exact ⟨L5.pg x hx,List.cons_ne_nil _ _⟩
    ·obtain ⟨Tl,pl,rfl,eT⟩:=TJ pm srt pT tT;rw [yY];have s6:=xk (o:=HO.lst (Tl.map λx=>V.ref x.1)) hls;refine q ls Tl h _ (L5.bt.eX s6) (L5.mt.bR s6) (Vb L5.mt L5.bt hls) ⟨xg,λx hx=>s6 _ _ (L5.pg x (pl.mem_iff.mp hx)),by rw [eT];exact tre,sv⟩ ?_;rw [<-eT,zA] at lT;exact lT
   ·rw [List.concat_eq_append] at eQ;subst eQ;rw [zH] at ex;obtain ⟨hj,hw,hs,has⟩:=ex.last;rw [eK] at hs;rw [nm] at hj;refine (zr rfl ⟨true,.inl ⟨_,aH.of L5.kq,by rw [zH];cases Q0 <;> rfl⟩,aI rfl ?_⟩);refine (zr rfl ⟨.inl ⟨rfl,_,aH.of L5.kq⟩,lq,_,V.ref q0,rfl,rfl,L5.kq,by rw [zH,zN,zZ (by simp)];simp,?_⟩);rw [show (List.map (λx=>V.ref x.1) (Q0++[(q0,j,w0,s)])).dropLast=Q0.map λx=>V.ref x.1 by rw [zH];exact List.dropLast_concat];have kx:=L5.pq _ (zE _ (.head _));have L6:=L5.WC (Q':=Q0) λx hx=>L5.pq x (zT _ hx);have k6:upd H5 lq (.lst (Q0.map λx=>V.ref x.1)) q0=some (.tup [.int (j:Int),.int (w0:Int),.int (s:Int)]):=by rw [xq (cH kx L5.kq (by intro z;cases z))];exact kx
    generalize upd H5 lq (.lst (Q0.map λx=>V.ref x.1))=H6 at L6 k6 ⊢;have rJ:=cx.kj mt L6.bt;refine (un3 k6 ?_);refine (zr rfl (zr rfl (zr rfl (zr rfl (zr rfl (Py b l j w0 s aa tr tm ps ws ⟨rfl,rJ.cb,hs,λH7 s7=>?_⟩))))));have L7:=L6.same s7;have Ll:=rJ.same s7;refine (zr rfl ⟨rfl,zr rfl ?_⟩);have m1:gH (ps.map (·.2)).length ((Q0++[(q0,j,w0,s)]).map (·.2))=gH (ps.map (·.2)).length (Q0.map (·.2)) + 3 ^ (ps.length - j):=by rw [zH,<- nm];exact jj _ _ _
    have pw0:=Nat.pow_pos (n:=ps.length - j) (show 0 < 3 by decide);by_cases e0:aC (ps.map (·.2)) (wq ws) j w0 s=0
    ·refine aI (decide_eq_true (by rw [e0];rfl)) ⟨_,?_,G,Q0,⟨_,_,_,_,_,_,_,rfl⟩,rfl,L7,Qn.pop.1,ex.drop dp fr e0⟩;rw [m1];omega
    refine aF (decide_eq_false (λz=>e0 (Int.ofNat.inj (V.int.inj z)))) ?_;have lt:=ex.Rx dp gd (by rw [nm,eK];exact fin) e0;rw [nm] at lt;have os:=(wo (ms:=ps.map (·.2)) (j:=j) (w:=w0) (s:=s) (ws:=wq ws) (by rw [eK];exact hs)).lt hs;obtain ⟨A1,B1,hA1,hB1,mA1,mB1,lB1,vB1⟩:=Ll.pr.get (j:=j + 1) (k:=w0) lt hw;obtain ⟨A0,B0,hA0,hB0,mA0,mB0,lB0,vB0⟩:=Ll.pr.get (j:=j) (k:=w0) hj hw;refine (zr rfl (zr rfl (aM rfl rfl (cI Ll.pr.top (wF (j:=j + 1) (by rw [zI,hA1];rfl)) ?_))));have sA1:=Ll.pr.str A1 mA1;have sB1:=Ll.pr.row A1 mA1 B1 mB1;have gB1:i7 (B1.2.map V.int) ((aC (ps.map (·.2)) (wq ws) j w0 s:Nat):Int)=some (.int (bI (aG P) (j + 1) w0 (aC (ps.map (·.2)) (wq ws) j w0 s))):=by rw [<-vB1];exact cM (by omega)
    have gB0:i7 (B0.2.map V.int) ((aC (ps.map (·.2)) (wq ws) j w0 s:Nat):Int)=some (.int (bI (aG P) j w0 (aC (ps.map (·.2)) (wq ws) j w0 s))):=by rw [<-vB0];exact cM (by omega)
    refine (zr rfl (zr rfl (cI Ll.pr.top (wF (by rw [zI,hA0];rfl)) (zr rfl (cI (Ll.pr.str A0 mA0) (wF (by rw [zI,hB0];rfl)) (zr rfl (cI (Ll.pr.row A0 mA0 B0 mB0) gB0 ?_)))))));refine (zr rfl (zr rfl (cI sA1 (wF (by rw [zI,hB1];rfl)) (zr rfl (cI sB1 gB1 ⟨rfl,zr rfl ?_⟩)))));have pw1:=aaA ps.length j lt;have sq:Q0.length<=j + 1:=Qn.pop.2;by_cases e1:bI (aG P) j w0 (aC (ps.map (·.2)) (wq ws) j w0 s)=bI (aG P) (j + 1) w0 (aC (ps.map (·.2)) (wq ws) j w0 s)
    ·refine aI (decide_eq_true (by rw [e1])) ?_;refine (zr rfl ⟨.inl ⟨rfl,_,aH.of L7.kq⟩,zr rfl (aM rfl rfl (zr rfl (zr rfl ⟨by show 3<=sizeLine;omega,λt1 VW=>?_⟩)))⟩);have s8:=xk (o:=HO.tup [V.int ((j:Int) + 1),V.int (w0:Int),V.int ((aC (ps.map (·.2)) (wq ws) j w0 s:Nat):Int)]) VW;have k8:upd H7 t1 (HO.tup [V.int ((j:Int) + 1),V.int (w0:Int),V.int ((aC (ps.map (·.2)) (wq ws) j w0 s:Nat):Int)]) t1=some (.tup [V.int ((j + 1:Nat):Int),V.int (w0:Int),V.int ((aC (ps.map (·.2)) (wq ws) j w0 s:Nat):Int)]):=xg;generalize upd H7 t1 _=H8 at s8 k8 ⊢;have L8:=L7.same s8;refine ⟨lq,aM rfl rfl ⟨L8.kq,by rw [zA];omega,_,?_,G,Q0++[(t1,(j + 1,w0,aC (ps.map (·.2)) (wq ws) j w0 s))],⟨_,_,_,_,_,_,_,rfl⟩,rfl,L8.Vs k8,Qn.pop.1.push (by show Q0.length<=j + 1 + 1;omega),?_⟩⟩
     ·rw [m1,zH,show gH (ps.map (·.2)).length (Q0.map (·.2)++[(t1,(j + 1,w0,aC (ps.map (·.2)) (wq ws) j w0 s))].map (·.2))=gH (ps.map (·.2)).length (Q0.map (·.2)) + 3 ^ (ps.length - (j + 1)) by rw [<-nm];exact jj _ _ _];omega
     ·rw [zH];exact ex.go dp (by rw [nm];exact lt) e1
    ·refine aF (decide_eq_false (λz=>e1 (V.int.inj z))) ?_;obtain ⟨o,tt,lk,gv⟩:=U8 dp (by rw [nm];exact lt) hw (by rw [eK];exact hs) e0 e1;obtain ⟨mm,US,emm,cmm⟩:=id lk;obtain ⟨ho,oW,_⟩:=lk.inside gd;have fx:=gd.each mm (zC US);have eo:(if (w0:Int)=mm.lo then mm.hi else mm.lo)=(o:Int):=by
      rcases cmm with ⟨c1,c2⟩ | ⟨c1,c2⟩ <;> (split <;> omega)
     have abU:=ex.kM dp gd (by rw [nm,eK];exact fin);rw [zA,nm] at abU;refine (zr rfl (zr rfl (zr rfl (Vh b j w0 aa tr tm ps mm ⟨rfl,Ll.bk,US,?_⟩))));rw [eo];obtain ⟨A2,B2,hA2,hB2,mA2,mB2,lB2,vB2⟩:=Ll.pr.get (j:=j + 1) (k:=o) lt oW;obtain rfl:A1=A2:=by rw [hA1] at hA2;exact Option.some.inj hA2
     refine (zr rfl (zr rfl (cI sA1 (wF (by rw [zI,hB1];rfl)) (zr rfl (zr rfl (cI sA1 (wF (by rw [zI,hB2];rfl)) (zr rfl ⟨B1.1,B2.1,aC (ps.map (·.2)) (wq ws) j w0 s,B1.2,B2.2,2 ^ ws.length,rfl,sB1,Ll.pr.row A1 mA1 B2 mB2,lB1,lB2,os,Rw,L7.mt,λt2 p H8 b8 YF k8 sp mn=>?_⟩)))))));have L8:=L7.but b8 YF;refine (p6 k8 ?_);refine (zr rfl ⟨.inl ⟨rfl,_,aH.of L8.kg⟩,zr rfl (zr rfl ⟨by show 2<=sizeLine;omega,λt3 ht3=>?_⟩)⟩);have s9:=xk (o:=HO.tup [V.int (j:Int),V.int (w0:Int)]) ht3;have k9:upd H8 t3 (HO.tup [V.int (j:Int),V.int (w0:Int)]) t3=some (.tup [V.int (j:Int),V.int (w0:Int)]):=xg;generalize upd H8 t3 _=H9 at s9 k9 ⊢;have L9:=L8.same s9;refine ⟨lg,aM rfl rfl ⟨L9.kg,by rw [zA];omega,?_⟩⟩;have L10:=L9.acd (x:=(j,w0)) k9;generalize upd H9 lg _=rT at L10 ⊢;refine (zr rfl ⟨.inl ⟨rfl,_,aH.of L10.kq⟩,zr rfl (aM rfl rfl (zr rfl (zr rfl ⟨by show 3<=sizeLine;omega,λt4 ht4=>?_⟩)))⟩);have Sx:=xk (o:=HO.tup [V.int ((j:Int) + 1),V.int (w0:Int),V.int (p:Int)]) ht4;have k11:upd rT t4 (HO.tup [V.int ((j:Int) + 1),V.int (w0:Int),V.int (p:Int)]) t4=some (.tup [V.int ((j + 1:Nat):Int),V.int (w0:Int),V.int (p:Int)]):=xg;generalize upd rT t4 _=Zh at Sx k11 ⊢;have L11:=L10.same Sx;refine ⟨lq,aM rfl rfl ⟨L11.kq,by rw [zA];omega,?_⟩⟩;have L12:=L11.Vs (x:=(j + 1,w0,p)) k11;generalize upd Zh lq _=oB at L12 ⊢;refine (zr rfl ⟨.inl ⟨rfl,_,aH.of L12.kq⟩,zr rfl (aM rfl rfl (zr rfl (zr rfl ⟨by show 3<=sizeLine;omega,λt5 ht5=>?_⟩)))⟩);have Sw:=xk (o:=HO.tup [V.int ((j:Int) + 1),V.int (o:Int),V.int ((aC (ps.map (·.2)) (wq ws) j w0 s - p:Nat):Int)]) ht5;have Xi:upd oB t5 (HO.tup [V.int ((j:Int) + 1),V.int (o:Int),V.int ((aC (ps.map (·.2)) (wq ws) j w0 s - p:Nat):Int)]) t5=some (.tup [V.int ((j + 1:Nat):Int),V.int (o:Int),V.int ((aC (ps.map (·.2)) (wq ws) j w0 s - p:Nat):Int)]):=xg;generalize upd oB t5 _=Zg at Sw Xi ⊢;have L13:=L12.same Sw;refine ⟨lq,aM rfl rfl ⟨L13.kq,by rw [zA,zN];show Q0.length + 1 < _;omega,_,?_,G++[(t3,(j,w0))],Q0++[(t4,(j + 1,w0,p))]++[(t5,(j + 1,o,aC (ps.map (·.2)) (wq ws) j w0 s - p))],⟨_,_,_,_,_,_,_,rfl⟩,rfl,L13.Vs Xi,(Qn.pop.1.push (by show Q0.length<=j + 1 + 1;omega)).push (by rw [zN];show Q0.length + 1<=j + 1 + 1;omega),?_⟩⟩
     ·rw [m1,zH,zH,show gH (ps.map (·.2)).length (Q0.map (·.2)++[(t4,(j + 1,w0,p))].map (·.2)++[(t5,(j + 1,o,aC (ps.map (·.2)) (wq ws) j w0 s - p))].map (·.2))=gH (ps.map (·.2)).length (Q0.map (·.2)) + 3 ^ (ps.length - (j + 1)) + 3 ^ (ps.length - (j + 1)) by rw [<-nm];exact (jj _ _ _).trans (congrArg (· + _) (jj _ _ _))];have:0 < 3 ^ (ps.length - (j + 1)):=Nat.pow_pos (by decide);omega
     ·rw [zH,zH,zH];refine ex.give dp gd lk sp (gv p sp λp' sp'=>?_);rw [<-vB1,<- vB1,<- vB2,<- vB2];exact mn p' sp'
  ·rintro σ H5 Q1 Q2 h ⟨v,e,k',t',c⟩;exact ⟨v,e,k',t',h _ _ c⟩
theorem JI:iC P w K mg base (QG P w) 6 a.Dx a.E5 ["book", "sender", "since", "wishes"] (sN a.Aa a.tP cK):=by
 have G0:=GE P w base T B;have JB:=Jh P w base T B;have HW:=Hg P w base T B;have JN:=Jr P w base T B;refine T.GB.F.okE Iv (λvs H Q E h=>?_) (λbr A outer s H vs Q E hr h=>?_)
 ·rcases h with ⟨_,_,_,_,_,_,_,_,_,rfl,_⟩ | ⟨_,_,_,_,_,_,_,_,rfl,_⟩ <;> rfl
 ·have nd:=Iv.nd;have hu:=hr.units
  skip
  refine ⟨_,(xh (xy (wK (PW.pt (gu (wD iH (xr (xw rfl) (by rfl) T.bw PySem.boot_len (xb (xf (xz (wE rfl) (pv 0) xi (λ_ _=>rfl)) xl rfl))) (wV (v:=V.int 8) rfl T.fY ⟨_,rfl⟩) (aB _)) (dJ (wD iH (xr (xw rfl) (by rfl) T.bw PySem.boot_len (xb (xf (xz (wE rfl) (pv 0) xi (λ_ _=>rfl)) xl rfl))) (wV (v:=V.int 24) rfl T.fR ⟨_,rfl⟩) (aB _))))) (xh (wB (Oq rfl rfl rfl rfl rfl T.IA T.Ae))) wC) (xy (PS.o9 (wl PassesOwn.never rfl (fm rfl rfl T.bS (xb (xf (pv 3) xl rfl))) (wI (n:=2) rfl rfl (xo (xp (i:=4) nd rfl rfl) (xo (wI (n:=2) rfl rfl (xo (xp (i:=5) nd rfl rfl) (xo (xp (i:=6) nd rfl rfl) wH))) wH))) (xh (wB (wK (mq (mD (aU JB hr T.FS (xb (xf (pv 0) (xf (wZ (xb (xf (pv 1) (xf (pv 2) (xf (pv 5) (xf (pv 6) xl rfl) rfl) rfl) rfl))) xl rfl) rfl))))) (xh (wB (xu (wZ (xb (xf jZ (xf (pv 4) (xf (aU G0 hr T.Bq (xb (xf (pv 0) (xf (pv 1) (xf (pv 2) xl rfl) rfl) rfl))) xl rfl) rfl) rfl)))))) wC))))) (xy (PS.o9 (xt (i:=7) nd rfl rfl (aU HW hr T.Cu (xb (xf (pv 0) (xf (pv 3) xl rfl) rfl))))) (wB (PS.o9 (xu (wZ (xb (xf jZ (xf (aU JN hr T.GS (xb (xf (pv 0) (xf (pv 1) (xf (pv 2) (xf (pv 3) (xf (pv 7) xl rfl) rfl) rfl) rfl) rfl))) (xf (pv 7) xl rfl) rfl) rfl)))))))))),?_⟩;rcases h with ⟨b,k,a0,l,aa,tr,tm,ps,ws,rfl,cx,r8,p24,w1,hk,Wa,V9,lst,mt,q⟩ | ⟨b,k,a0,l,aa,tr,tm,ps,rfl,hb,big,q⟩
  ·have line:=bA;have w4:=cx.w4;have gd:=cx.gd;have eK:(wq ws).length=ws.length:=gc ws;have hb:=cx.bk;refine (zr rfl (dW hb.book rfl ⟨tr,zr rfl ⟨.inr (bC.of hb.aa),aM rfl rfl (zr rfl ?_)⟩⟩));refine aF (decide_eq_false (by rw [zA];omega)) (zr rfl (dW hb.book rfl ⟨tm,zr rfl ⟨.inr (bC.of hb.meets),aM rfl rfl (zr rfl ?_)⟩⟩));refine aF (decide_eq_false (by rw [zA];omega)) ?_;refine (zr rfl ⟨l,rfl,⟨_,aH.of cx.wa.1⟩,?_⟩);refine fB (K:=K) (a:=l) (xs:=ws.map λa=>V.ref a.1) (λi σ H5=>(∃ v4 v5 v6 v7,σ=[some (.ref b),some (.int (k:Int)),some (.int a0),some (.ref l),v4,v5,v6,v7])/\au H H5/\∀ j,j < i->∀ x,(wq ws)[j]?=some x->aW (fwd (ps.map (·.2)) (aA k a0) x.1) x.2=true) ⟨⟨_,_,_,_,rfl⟩,au.refl _,(λj z=>absurd z (zf _))⟩ ?_ ?_ ?_
   ·rintro i σ H5 _ ⟨_,s5,_⟩;exact aH.of (s5 _ _ cx.wa.1)
   ·rintro i v q0 σ H5 hv hq ⟨⟨v4,v5,v6,v7,rfl⟩,s5,old⟩;obtain ⟨x,hx,rfl⟩:=wO hv;have hxq:(wq ws)[i]?=some x.2:=by unfold wq;rw [zI,hx];rfl
    have s6:=s5.trans (xk (o:=HO.tup [V.int (i:Int),V.ref x.1]) hq);have kq:upd H5 q0 (HO.tup [V.int (i:Int),V.ref x.1]) q0=some (.tup [V.int (i:Int),V.ref x.1]):=xg;generalize upd H5 q0 (HO.tup [V.int (i:Int),V.ref x.1])=H6 at s6 kq ⊢;have rJ:=cx.same s6;obtain ⟨kx,lx⟩:=rJ.wa.2 x (zC hx);obtain ⟨z0,z9⟩:=lst x (zC hx);refine ⟨q0,zr rfl ⟨bC.of kq,rfl,nU rfl (nU rfl (p6 kx ⟨rfl,?_⟩))⟩⟩;refine (zr rfl (zr rfl (zr rfl (zr rfl (zr rfl ⟨by show 4<=sizeLine;omega,λlt cA=>?_⟩)))));have s7:=s6.trans (xk (o:=HO.tup [V.int (k:Int),V.int a0,V.int (x.2.1:Int),V.int x.2.2]) cA);have k7:upd H6 lt (HO.tup [V.int (k:Int),V.int a0,V.int (x.2.1:Int),V.int x.2.2]) lt=some (.tup [V.int (k:Int),V.int a0,V.int (x.2.1:Int),V.int x.2.2]):=xg;generalize upd H6 lt (HO.tup [V.int (k:Int),V.int a0,V.int (x.2.1:Int),V.int x.2.2])=H7 at s7 k7 ⊢;have Ll:=cx.same s7;have snoc:aW (fwd (ps.map (·.2)) (aA k a0) x.2.1) x.2.2=true->∀ j,j < i + 1->∀ x,(wq ws)[j]?=some x->aW (fwd (ps.map (·.2)) (aA k a0) x.1) x.2=true:=λup j hj y hy=>by
     by_cases e:j=i
     ·subst e;rw [hxq] at hy;cases hy;exact up
     ·exact old j (by omega) y hy
    refine (Py b lt k x.2.1 a0 x.2.2 aa tr tm ps ⟨rfl,Ll.bk,by omega,gd,⟨k7,hk,lx,Wa,V9,z0,z9⟩,λno H8 s8=>?_,λe l0 ns H8 ee ez hl s8 kl _ _=>?_⟩)
    ·have cx8:=Ll.same s8;refine (zr rfl (aI rfl (zr rfl (zr rfl (zr rfl (zr rfl (rG b k a0 aa tr tm ps ⟨rfl,hk,cx8.bk,by omega,gd,λl1 H9 _ s9 k9=>⟨by show 3<=sizeLine;omega,λt ht=>?_⟩⟩)))))));have iV:=xk (o:=HO.tup [V.str (Str.ofString "never"),V.int (i:Int),V.ref l1]) ht;have s:=(s7.trans s8).trans (s9.trans iV);exact q t _ (au.uv s) (mt.bR s) (.inl ⟨i,l1,xg,⟨⟨x.2,hxq,no⟩,old⟩,iV _ _ k9⟩)
    ·exact (zr rfl (aF rfl ⟨⟨_,_,_,_,rfl⟩,s7.trans s8,snoc (aE.mpr ⟨e,ee,ez⟩)⟩))
   ·rintro σ H5 ⟨⟨v4,v5,v6,v7,rfl⟩,s5,all⟩;have MZ:=cx.same s5;have sv:aZ (fwd (ps.map (·.2)) (aA k a0)) (wq ws):=λj x hx=>all j (by rw [zA,<- eK];exact (zD.mp hx).1) x hx;have UL:∀ x∈wq ws,x.1 < aa.length:=λx hx=>by
     obtain ⟨y,hy,rfl⟩:=zS.mp hx;exact (cx.wa.2 y hy).2
    have nm:(ps.map (·.2)).length=ps.length:=zA _;refine (zr rfl (zr rfl (rG b l aa tr tm ps ws ⟨rfl,MZ,λlp P H6 s6 _ _ pr dp=>?_⟩)));have rJ:=MZ.same s6;have up:=QL (dp.Vf gd UL) gd hk sv;rw [nm,eK] at up;have VM:=s5.trans s6;have VP:=mt.bR VM;refine (zr rfl (zr rfl (zr rfl (zr rfl (zr rfl (Px b k a0 l lp aa tr tm ps ws P ⟨rfl,⟨rJ.bk,gd,cx.r1,cx.jY,rJ.wa,w1,w4,pr⟩,hk,dp,up,λx hx e=>?_,VP,λlt Tl h H7 b7 mt7 _ tt len=>?_⟩))))))
    ·obtain ⟨j,hj⟩:=yB.mp hx;obtain ⟨y,hy,le⟩:=aE.mp (sv j x hj);rw [e,ju] at hy;cases hy;exact le
    ·refine (zr rfl ⟨by show 3<=sizeLine;omega,λt ht=>?_⟩);have s8:=xk (o:=HO.tup [V.str (Str.ofString "tree"),V.ref lt,V.ref lp]) ht;have pr7:=pr.kj VP b7;exact q t _ (((au.uv VM).trans b7).eX s8) (mt7.bR s8) (.inr ⟨lt,lp,Tl,h,P,xg,sv,⟨s8 _ _ tt.top,λx hx=>s8 _ _ (tt.row x hx),tt.tr,tt.sv⟩,by rw [nm];exact pr7.same s8,dp,len⟩)
  ·have line:=bA;refine (zr rfl (dW hb.book rfl ⟨tr,zr rfl ⟨.inr (bC.of hb.aa),aM rfl rfl (zr rfl ?_)⟩⟩));by_cases c:8 < aa.length
   ·exact aI (decide_eq_true (by rw [zA];omega)) (aI rfl q)
   ·refine aF (decide_eq_false (by rw [zA];omega)) (zr rfl (dW hb.book rfl ⟨tm,zr rfl ⟨.inr (bC.of hb.meets),aM rfl rfl (zr rfl ?_)⟩⟩));exact aI (decide_eq_true (by rw [zA];unfold nR at big;omega)) q
theorem IF:cW T.C1 P w base 2 (Ra):=by
 have CS:=ER P w base T B;have Bu:=DR P w base T B;have Gc:=Hh P w base T B;refine T.C1.F.ok Gn (λvs H Q E h=>?_) (λbr A outer s H vs Q E hr h=>?_)
 ·obtain ⟨b,la,_,_,_,_,_,rfl,_⟩:=h;rfl
 ·have nd:=Gn.nd;have hu:=hr.units;obtain ⟨b,la,aa,tr,tm,ps,f0,rfl,hb,hn,gd,R3,q⟩:=h;refine bT ?_;intro Y
  let B0:Bk Y (nb (ak BA) 1):=⟨_,(xh (wB (wK (PW.pt (dM (wR (aU CS hr T.Cv (xb (xf (xz (xx rfl) (pv 1) (pv 4) (λ_ _=>rfl)) (xf (pv 6) xl rfl) rfl)))) (di (wb (wR (aU Bu hr T.Cm (xb (xf (xz (xx rfl) (pv 2) (pv 5) (λ_ _=>rfl)) (xf (pv 6) xl rfl) rfl)))))))) (xh (wB (qN (pv 6) (qp (pv 2) (pv 5) set_list)))) wC)))⟩
  let B1:Bk Y ((ak BA).drop 1):=⟨_,(xh (xy (wl PassesOwn.never rfl (wU rfl (aU Gc hr T.GR (xb (xf (pv 0) xl rfl)))) (wI (n:=4) rfl rfl (xo (xp (i:=3) nd rfl rfl) (xo (xp (i:=4) nd rfl rfl) (xo (xp (i:=5) nd rfl rfl) (xo (xp (i:=6) nd rfl rfl) wH))))) B0.ps) (wB (xu (pv 2)))))⟩
  refine ⟨_,(xh (xy (xt (i:=2) nd rfl rfl (j3 (oz rfl) (by rfl) T.nF yn (xb (xf (pv 1) xl rfl)))) B1.bl)),?_⟩;have line:=bA;have Xh:=gd.len;refine (zr rfl ⟨la,zr rfl ⟨.inl (aH.of R3),λl hl=>?_⟩⟩);have lH:=xk (o:=HO.lst ((rep aa.length f0).map oV)) hl;have h1:(upd H l (HO.lst ((rep aa.length f0).map oV))) l=some (.lst ((rep aa.length f0).map oV)):=xg;generalize upd H l (HO.lst ((rep aa.length f0).map oV))=H1 at lH h1 ⊢;refine (zr rfl (V5 b aa tr tm ps ⟨rfl,hb.same lH,gd,λlw ws H2 SQ kX h2 hr ew=>?_⟩));have XX:=kX _ _ h1;have Kr:(ws.map (·.2)).map (·.w)=aD (ps.map (·.2)):=by
   have:=jP (ps.map (·.2));rw [zA] at this;rw [ew,this]
  have lws:ws.length=2 * ps.length:=by
   have:=congrArg List.length Kr;rw [zA,zA,jQ,zA] at this;exact this
  have nla:la≠l:=xj R3 hl;have nwl:lw≠l:=(xj h1 SQ).symm;refine ⟨lw,rfl,⟨_,aH.of h2⟩,?_⟩;refine (let W21:IV:=λi σ H4=>(∃ v3 v4 v5 v6,σ=[some (.ref b),some (.ref la),some (.ref l),v3,v4,v5,v6])/\au H H4/\H4 l=some (.lst ((rep aa.length (((ws.take i).map (·.2.w)).foldl (bU f0) f0)).map oV))/\(∀ b u,b≠l->H2 b=some u->H4 b=some u);cV (K:=K) (a:=lw) (xs:=(ws.map λa=>V.ref a.1)) W21)
   ?_ ?_ ?_ ?_
  ·exact ⟨⟨_,_,_,_,rfl⟩,lH.trans kX,XX,λ_ _ _ e=>e⟩
  ·rintro i σ H4 _ ⟨_,_,_,kp⟩;exact aH.of (kp lw _ nwl h2)
  ·rintro i y σ H4 hy ⟨⟨v3,v4,v5,v6,rfl⟩,vg,h4,kp⟩;obtain ⟨r,rq,rfl⟩:=wO hy;have hi:i < ws.length:=(zD.mp rq).1;have rm:r∈ws:=zC rq;have pH:=hr r rm;have nl:r.1≠l:=cH pH XX (by intro z;cases z);have dY:=kp r.1 _ nl pH;have wm:r.2.w∈aD (ps.map (·.2)):=by
    rw [<-Kr];exact zS.mpr ⟨r.2,zS.mpr ⟨r,rm,rfl⟩,rfl⟩
   obtain ⟨g1,g2,g3,g4,g5⟩:=dD gd wm;have gl:r.2.w.g < aa.length:=by omega
   have ol:r.2.w.o < aa.length:=by omega
   have fold:∀ f:Fn,((ws.take i).map (·.2.w)).foldl (bU f0) f0=f->((ws.take (i + 1)).map (·.2.w)).foldl (bU f0) f0=bU f0 f r.2.w:=λf e=>by
    rw [wP rq,zH,List.foldl_append,e];rfl
   refine (Ni dY ?_);generalize ef:((ws.take i).map (·.2.w)).foldl (bU f0) f0=f at h4;have fo:=fold f ef;have hg:((rep aa.length f0).map oV)[r.2.w.g]?=some (oV (f0 r.2.w.g)):=eY gl;have ho:((rep aa.length f).map oV)[r.2.w.o]?=some (oV (f r.2.w.o)):=eY ol;have abm:=vg _ _ R3;refine (zr rfl (zr rfl (cI abm (wF hg) (zr rfl ⟨f0 r.2.w.g,r.2.w.t,rfl,zr rfl (kZ (λc=>?_) (λc=>aF rfl ?_))⟩))))
   ·refine (zr rfl (zr rfl (cI h4 (wF ho) (zr rfl ⟨f r.2.w.o,r.2.w.t,rfl,zr rfl (kZ (λc2=>?_) (λc2=>?_))⟩))))
    ·refine (zr rfl (zr rfl (zr rfl ⟨l,_,_,r.2.w.o,rfl,rfl,h4,qz (by rw [zA,fN];exact ol),⟨_,_,_,_,rfl⟩,au.put hl vg,?_,λb u nb e=>by rw [xq nb];exact kp b u nb e⟩)));rw [xg,fo];unfold bU;rw [if_pos ⟨c,by simpa using c2⟩,<- qk ol,List.map_set];rfl
    ·refine ⟨⟨_,_,_,_,rfl⟩,vg,?_,kp⟩;rw [fo];unfold bU;rw [if_neg (λz=>by rw [z.2] at c2;cases c2)];exact h4
   ·refine ⟨⟨_,_,_,_,rfl⟩,vg,?_,kp⟩;rw [fo];unfold bU;rw [if_neg (λz=>by rw [z.1] at c;cases c)];exact h4
  ·rintro σ H4 ⟨⟨v3,v4,v5,v6,rfl⟩,vg,h4,kp⟩;refine (zr rfl (q l H4 hl vg ?_));rw [zA,zv] at h4;have ej:vJ (aD (ps.map (·.2))) f0=((ws.map (·.2.w)).foldl (bU f0) f0):=by
    unfold vJ;rw [<-Kr,yY];rfl
   rw [ej];exact h4
theorem Ht:cW T.Dj P w base 3 (N3):=by
 have CQ:=EO P w base T B;have He:=IF P w base T B;refine T.Dj.F.ok EF (λvs H Q E h=>?_) (λbr A outer s H vs Q E hr h=>?_)
 ·obtain ⟨b,k,x,_,_,_,_,rfl,_⟩:=h;rfl
 ·have nd:=EF.nd;have hu:=hr.units;obtain ⟨b,k,x,aa,tr,tm,ps,rfl,hb,hn,gd,q⟩:=h;refine bT ?_;intro Y
  let B0:Bk Y (nb (ak qR) 2):=⟨_,(xh (xy (qH (fu ze zg zh wY (pv 3) (xb (xf (pv 4) xl rfl)))) (wB (xt (i:=4) nd rfl rfl (aU He hr T.C1 (xb (xf (pv 0) (xf (pv 4) xl rfl) rfl)))))))⟩
  let B1:Bk Y ((ak qR).drop 1):=⟨_,(xh (xy (xt (i:=4) nd rfl rfl (aU He hr T.C1 (xb (xf (pv 0) (xf (xz (xx rfl) (pv 3) xi (λ_ _=>rfl)) xl rfl) rfl)))) (xy (mw PassesOwn.never (wD (Uo hu) (pv 4) (xz (xx rfl) (pv 3) (sZ lS xi) (λ_ _=>rfl)) (aB _)) B0.ps) (wB (xu (pv 3))))))⟩
  refine ⟨_,(xh (xy (xt (i:=3) nd rfl rfl (wM (xb (xf (aU CQ hr T.Ct (xb (xf (pv 0) (xf (pv 1) (xf (pv 2) xl rfl) rfl) rfl))) xl rfl)))) B1.bl)),?_⟩;have line:300000<=sizeLine:=by rw [sizeLine_eq];decide
  have Xh:=gd.len;have lw:(aD (ps.map (·.2))).length<=120:=by rw [jQ,zA];omega
  have mx:Mq (aD (ps.map (·.2))) aa.length (aA k x)<=121000:=by
   refine z4 (RC _ _ _) (z4 (Nat.mul_le_mul hn (xY lw)) (by decide))
  generalize Vi:aD (ps.map (·.2))=ws at lw mx;refine (zr rfl (zr rfl (zr rfl (rG b k x aa tr tm ps ⟨rfl,hb,hn,λl0 H1 Qw lH h1=>?_⟩))));refine ⟨by show 1<=sizeLine;omega,λl hl=>?_⟩;have kX:=lH.trans (xk (o:=HO.lst [V.ref l0]) hl);have hfl:H l=none:=lH.free hl;have n0:l0≠l:=xj h1 hl;have h2:=xk (o:=HO.lst [V.ref l0]) hl _ _ h1;have Y4:(upd H1 l (HO.lst [V.ref l0])) l=some (.lst [V.ref l0]):=xg;generalize upd H1 l (HO.lst [V.ref l0])=H2 at kX h2 Y4 ⊢;refine (zr rfl (zr rfl (cI Y4 rfl (rG b l0 aa tr tm ps _ ⟨rfl,hb.same kX,hn,gd,h2,λlf H3 R1 Sq h3=>?_⟩))));refine se (fun σ H4=>∃ (as:List Addr) (lf:Addr),σ=[some (.ref b),some (.int k),some (.int x),some (.ref l),some (.ref lf)]/\as≠[]/\au H H4/\H4 l=some (.lst (as.map V.ref)) /\
    (∀ (i:Nat) (a:Addr),as[i]?=some a->H a=none/\a≠l/\H4 a=some (.lst ((rep aa.length (bg ws (aA k x) i)).map oV)))/\(∀ i,i + 1 < as.length->rep aa.length (bg ws (aA k x) (i + 1))≠rep aa.length (bg ws (aA k x) i)) /\
    H lf=none/\lf≠l/\H4 lf=some (.lst ((rep aa.length (bg ws (aA k x) as.length)).map oV))/\as.length + Mq ws aa.length (bg ws (aA k x) (as.length - 1))<=Mq ws aa.length (aA k x) + 1)
   (λ_ H4=>match H4 l with | some (.lst xs)=>200001 - xs.length | _=>0) ?_ ?_ ?_
  ·refine ⟨[l0],lf,rfl,by simp,kX.trans Sq,Sq _ _ Y4,λi a h=>?_,λi h=>absurd h (by simp),kX.free R1,(xj Y4 R1).symm,?_,?_⟩
   ·cases i with
    | zero=>cases h;exact ⟨Qw,n0,Sq _ _ h2⟩
    | succ i=>cases h
   ·rw [Vi] at h3;exact h3
   ·show 1 + Mq ws aa.length (aA k x)<=_;omega
  ·rintro σ H4 ⟨as,lf,rfl,ne,vg,h4,QA,n9,abk,nlf,U5,hmu⟩;obtain ⟨m,em⟩:∃ m,as.length=m + 1:=⟨as.length - 1,by have:=List.length_pos_iff.mpr ne;omega⟩;have la:∃ a,as[m]?=some a:=⟨as[m],zJ (by omega)⟩;obtain ⟨a,ha⟩:=la;have R3:=QA m a ha;have gl:as.getLast?=some a:=by rw [List.getLast?_eq_getElem?,em];exact ha
   have atl:i7 (as.map V.ref) (-1)=some (V.ref a):=nG (by rw [List.getLast?_map,gl];rfl);rw [em] at U5 hmu;refine (zr rfl (zr rfl (zr rfl (cI h4 atl ⟨lf,a,aM rfl rfl ⟨aH.of U5,aH.of R3.2.2,zr rfl (kZ (λc=>?_) (λc=>?_))⟩⟩))))
   ·have c':rep aa.length (bg ws (aA k x) (m + 1))≠rep aa.length (bg ws (aA k x) m):=by simpa using c
    have lt:Mq ws aa.length (bg ws (aA k x) (m + 1)) < Mq ws aa.length (bg ws (aA k x) m):=by
     have:¬ ∀ i,i < aa.length->bg ws (aA k x) (m + 1) i=bg ws (aA k x) m i:=λh=>c' (Oi.mpr h);obtain ⟨i,hi⟩:=Classical.not_forall.mp this;obtain ⟨hi,n9⟩:=Classical.not_imp.mp hi;exact Us hi n9
    have af3:m + 1 + Mq ws aa.length (bg ws (aA k x) m)<=Mq ws aa.length (aA k x) + 1:=hmu;refine (zr rfl ⟨.inl ⟨rfl,_,aH.of h4⟩,zr rfl ⟨l,aM rfl rfl ⟨h4,by rw [zA];omega,?_⟩⟩⟩);have h5:∀ b u,b≠l->H4 b=some u->(upd H4 l (HO.lst (as.map V.ref++[V.ref lf]))) b=some u:=λb u nb e=>by rw [xq nb];exact e
    have Y0:(upd H4 l (HO.lst (as.map V.ref++[V.ref lf]))) l=some (.lst (as.map V.ref++[V.ref lf])):=xg;have T7:=au.put (o:=HO.lst (as.map V.ref++[V.ref lf])) hfl vg;generalize upd H4 l (HO.lst (as.map V.ref++[V.ref lf]))=H5 at h5 Y0 T7 ⊢;refine (zr rfl (zr rfl (rG b lf aa tr tm ps _ ⟨rfl,hb.same T7,hn,gd,h5 _ _ nlf U5,λl6 H6 hl6 KO h6=>?_⟩)));refine ⟨⟨as++[lf],l6,rfl,by simp,T7.trans KO,by rw [KO _ _ Y0,zH];rfl,λi a' h=>?_,λi h=>?_,T7.free hl6,(xj Y0 hl6).symm,?_,?_⟩,?_⟩
    ·rcases xV i as.length with li | li
     ·rw [zi li] at h;have z:=QA i a' h;exact ⟨z.1,z.2.1,KO _ _ (h5 _ _ z.2.1 z.2.2)⟩
     ·have ei:i=as.length:=by
       have:=(zD.mp h).1;rw [zN,zq] at this;omega
      subst ei;rw [zZ (zF _),xS] at h;cases h;rw [em];exact ⟨abk,nlf,KO _ _ (h5 _ _ nlf U5)⟩
    ·rw [zN,zq] at h;rcases xV (i + 1) as.length with li | li
     ·exact n9 i li
     ·have ei:i=m:=by omega
      rw [ei];exact c'
    ·rw [zN,zq,em];rw [Vi] at h6;exact h6
    ·rw [zN,zq,em];show m + 1 + 1 + Mq ws aa.length (bg ws (aA k x) (m + 1))<=_;omega
    ·rw [KO _ _ Y0,h4];show 200001 - (as.map V.ref++[V.ref lf]).length < 200001 - (as.map V.ref).length;rw [zN,zA,zq];omega
   ·have c':rep aa.length (bg ws (aA k x) (m + 1))=rep aa.length (bg ws (aA k x) m):=by simpa using c
    refine (zr rfl (q l as H4 hfl vg h4 ⟨ne,by omega,λi a h=>?_,?_,?_⟩))
    ·rw [Vi];exact ⟨(QA i a h).1,(QA i a h).2.2⟩
    ·rw [Vi];exact n9
    ·rw [Vi,em];exact c'
  ·rintro σ H4 Q1 Q2 hq ⟨x,hx,y,hy,z,hz,p,xs,i,v,e1,e2,e3,e4,a,b,os,ps,e5,e6,e7,e8,j,e9,h⟩;exact ⟨x,hx,y,hy,z,hz,p,xs,i,v,e1,e2,e3,e4,a,b,os,ps,e5,e6,e7,e8,j,e9,hq _ _ h⟩
theorem Ii:cW T.DH P w base 2 (N4):=by
 have Gc:=Hh P w base T B;refine T.DH.F.ok FA (λvs H Q E h=>?_) (λbr A outer s H vs Q E hr h=>?_)
 ·obtain ⟨b,v,n,g,t,_,_,_,_,rfl,_⟩:=h;rfl
 ·have nd:=FA.nd;have hu:=hr.units;obtain ⟨b,v,n,g,t,aa,tr,tm,ps,rfl,hb,gd,lk,q⟩:=h;refine ⟨_,(xh (xy (wl PassesOwn.never rfl (wU rfl (aU Gc hr T.GR (xb (xf (pv 0) xl rfl)))) (wI (n:=4) rfl rfl (xo (xp (i:=3) nd rfl rfl) (xo (xp (i:=4) nd rfl rfl) (xo (xp (i:=5) nd rfl rfl) (xo (xp (i:=6) nd rfl rfl) wH))))) (xh (wB (wK (PW.pt (dM (wD qL (pv 4) (pv 1) (aB _)) (di (wD qL (pv 6) (pv 2) (aB _))))) (xh (wB (xu (pv 3)))) wC)))) (wB (xu qW)))),?_⟩;refine (zr rfl (V5 b aa tr tm ps ⟨rfl,hb,gd,λlw ws H2 SQ kX h2 hr ew=>?_⟩));have Xh:=gd.len;have YK:=RK lk;rw [zA,<- ew] at YK;refine ⟨lw,rfl,⟨_,aH.of h2⟩,?_⟩;refine (let W22:IV:=λi σ H4=>(∃ v3 v4 v5 v6,σ=[some (.ref b),some (.int v),some (.int t),v3,v4,v5,v6])/\H4=H2/\∀ j r,j < i->ws[j]?=some r->r.2≠⟨n,⟨v,g,t⟩⟩;cV (K:=K) (a:=lw) (xs:=(ws.map λa=>V.ref a.1)) W22)
   ⟨⟨_,_,_,_,rfl⟩,rfl,λj r h=>absurd h (zf _)⟩ ?_ ?_ ?_
  ·rintro i σ H4 _ ⟨_,rfl,_⟩;exact aH.of h2
  ·rintro i y σ H4 hy ⟨⟨v3,v4,v5,v6,rfl⟩,rfl,no⟩;obtain ⟨r,rq,rfl⟩:=wO hy;have rm:r∈ws:=zC rq;have dY:=hr r rm;have rl:bM (ps.map (·.2)) r.2.n r.2.w.g r.2.w.o r.2.w.t:=dF (i:=ps.length) (by rw [<-ew];exact zS.mpr ⟨r,rm,rfl⟩);have step:r.2≠⟨n,⟨v,g,t⟩⟩->∀ j r',j < i + 1->ws[j]?=some r'->r'.2≠⟨n,⟨v,g,t⟩⟩:=λne j r' hj e=>by
    rcases xV j i with l | l
    ·exact no j r' l e
    ·have ej:j=i:=by omega
     rw [ej,rq] at e;cases e;exact ne
   refine (Ni dY ?_);refine (zr rfl (zr rfl ⟨rfl,zr rfl (j6 (λc=>?_) (λc=>aF rfl ?_))⟩))
   ·have c1:(r.2.w.g:Int)=v:=V.int.inj c;refine (zr rfl (zr rfl ⟨rfl,zr rfl (j6 (λc2=>?_) (λc2=>?_))⟩))
    ·have e1:r.2.w.g=v:=by omega
     have e2:r.2.w.t=t:=V.int.inj c2;rw [e1,e2] at rl;have en:=rl.uniq gd lk;refine (zr rfl ?_);rw [en];exact q _ kX
    ·exact ⟨⟨_,_,_,_,rfl⟩,rfl,step λe=>c2 (by rw [e])⟩
   ·exact ⟨⟨_,_,_,_,rfl⟩,rfl,step λe=>c (by rw [e])⟩
  ·rintro σ H4 ⟨⟨v3,v4,v5,v6,rfl⟩,rfl,no⟩;obtain ⟨r,vO,er⟩:=zS.mp YK;obtain ⟨j,hj⟩:=yB.mp vO;exact absurd er (no j r (by rw [zA];exact (zD.mp hj).1) hj)
theorem Ik:cW T.DK P w base 3 (Ob):=by
 have AO:=C5 P w base T B;have IU:=Ii P w base T B;refine T.DK.F.ok FC (λvs H Q E h=>?_) (λbr A outer s H vs Q E hr h=>?_)
 ·obtain ⟨b,l,w,s,m,a,t,_,_,_,_,_,rfl,_⟩:=h;rfl
 ·have nd:=FC.nd;have hu:=hr.units;obtain ⟨b,l,w,s0,m,a0,t0,aa,tr,tm,ps,as,rfl,hb,gd,hw,m9,hl,YH,QA,nw,q⟩:=h;refine bT ?_;intro Y
  let B0:Bk Y ((nb (ak qd) 2).drop 1):=⟨_,(xh (xy (qH (fu ze zg zh wY (pv 3) (xb (xf (pv 6) xl rfl)))) (wB (xt (i:=4) nd rfl rfl (aU AO hr T.Bp (xb (xf (pv 0) (xf (pv 6) (xf (pv 4) xl rfl) rfl) rfl)))))))⟩
  let B1:Bk Y (nb (ak qd) 2):=⟨_,(xh (xy (xt (i:=6) nd rfl rfl (aU IU hr T.DH (xb (xf (pv 0) (xf (pv 4) (xf (xz (xx rfl) (pv 5) (pv 4) (λ_ _=>rfl)) xl rfl) rfl) rfl)))) B0.bl))⟩
  refine ⟨_,(xh (xy (xt (i:=3) nd rfl rfl (wM qX)) (xy (xt (i:=4) nd rfl rfl (pv 2)) (xy (wl PassesOwn.never rfl (wU rfl (lJ rfl (pv 1))) (xp (i:=5) nd rfl rfl) B1.ps) (wB (xu (lJ rfl (pv 3)))))))),?_⟩;have line:=bA;refine ⟨za _,λlc gO=>?_⟩;have lH:=xk (o:=HO.lst []) gO;have h1:(upd H lc (HO.lst [])) lc=some (.lst (List.map V.int ([]:List Int).reverse)):=xg;generalize upd H lc (HO.lst [])=H1 at lH h1 ⊢;refine (zr rfl (zr rfl ⟨l,zr rfl ⟨aH.of (lH _ _ hl),λlb SR=>?_⟩⟩));rw [<-List.map_reverse];have kX:=lH.trans (xk (o:=HO.lst (as.reverse.map V.ref)) SR);have h2:=xk (o:=HO.lst (as.reverse.map V.ref)) SR _ _ h1;have h2b:(upd H1 lb (HO.lst (as.reverse.map V.ref))) lb=some (.lst (as.reverse.map V.ref)):=xg;have nbc:lb≠lc:=(xj h1 SR).symm;generalize upd H1 lb (HO.lst (as.reverse.map V.ref))=H2 at kX h2 h2b ⊢;refine ⟨lb,rfl,⟨_,aH.of h2b⟩,?_⟩;refine cV (K:=K) (a:=lb) (xs:=as.reverse.map V.ref) (λj σ H4=>∃ (v:Nat) (T:Int) (cs:List Int),∃ v5 v6,σ=[some (.ref b),some (.ref l),some (.int w),some (.ref lc),some (.int v),v5,v6]/\v < aa.length/\H4 lc=some (.lst (List.map V.int cs.reverse))/\cs.length=j/\jI (aD (ps.map (·.2))) (aA s0 a0) (m - j) v T /\
    (∀ b u,b≠lc->H2 b=some u->H4 b=some u)/\(∀ A:Int,(A=-1\/∃ n:Nat,∃ m,A=n/\(ps.map (·.2))[n]?=some m/\m.t<=T)->cG (ps.map (·.2)) v T A cs=some (w,t0)))
   ⟨w,t0,[],nU rfl ⟨hw,h2,rfl,nw,λ_ _ _ e=>e,λA _=>rfl⟩⟩ ?_ ?_ ?_
  ·rintro i σ H4 _ ⟨_,_,_,_,_,_,_,_,_,_,kp,_⟩;exact aH.of (kp lb _ nbc h2b)
  ·rintro j y σ H4 hy ⟨v,T,cs,v5,v6,rfl,hv,h4,lcs,na,kp,wk⟩;obtain ⟨c,hc,rfl⟩:=wO hy;have hj:j < m:=by
    have:=(zD.mp hc).1;rw [yU,YH] at this;exact this
   obtain ⟨i,ei⟩:∃ i,m - j=i + 1:=⟨m - j - 1,by omega⟩;rw [ei] at na;have hci:as[i]?=some c:=by
    rw [List.getElem?_reverse (by rw [YH];exact hj)] at hc;rw [<-hc,YH];congr 1;omega
   have Nk:au H H4:=λb u eb=>kp b u (xj eb gO) (kX b u eb);have hc4:=Nk _ _ (QA i c hci);obtain ⟨x,hx,ho,ht,y,lt,nb⟩:=na.back;obtain ⟨n,VR⟩:=NK hx;rw [ho,ht] at VR;obtain ⟨gi,_,gne⟩:=VR.inside gd;obtain ⟨mm,US,mt,_⟩:=id VR;have hv4:((rep aa.length (bg (aD (ps.map (·.2))) (aA s0 a0) (i + 1))).map oV)[v]?=some (V.int T):=by rw [eY hv,na.1];rfl
   refine (zr rfl (zr rfl (zr rfl (zr rfl (cI hc4 (wF hv4) (V4 b v n x.g T aa tr tm ps ⟨rfl,hb.same Nk,gd,VR.turn,λH5 T7=>?_⟩))))));have h5:=T7 _ _ h4;refine (zr rfl ⟨.inl ⟨rfl,_,aH.of h5⟩,zr rfl ⟨lc,aM rfl rfl ⟨h5,by rw [zA,yU];omega,?_⟩⟩⟩);have kp6:∀ b u,b≠lc->H4 b=some u->(upd H5 lc (HO.lst (List.map V.int cs.reverse++[V.int n]))) b=some u:=λb u nb e=>by rw [xq nb];exact T7 _ _ e
   have h6:(upd H5 lc (HO.lst (List.map V.int cs.reverse++[V.int n]))) lc=some (.lst (List.map V.int ((n:Int)::cs).reverse)):=by rw [xg,yz,zH];rfl
   generalize upd H5 lc (HO.lst (List.map V.int cs.reverse++[V.int n]))=H6 at kp6 h6 ⊢;have KO:au H H6:=λb u eb=>kp6 b u (xj eb gO) (Nk b u eb);refine (zr rfl (zr rfl (zr rfl (Vh b n v aa tr tm ps mm ⟨rfl,hb.same KO,US,?_⟩))));rw [VR.turn.other gd US];refine ⟨x.g,y,(n:Int)::cs,nU rfl ⟨gi,h6,by rw [zW,lcs],by rw [show m - (j + 1)=i by omega];exact nb,λb u nb e=>kp6 b u nb (kp b u nb e),λA hA=>?_⟩⟩;have an:A < n:=by
    rcases hA with rfl | ⟨n',m',rfl,ig,lt'⟩
    ·omega
    ·have:=O2 gd.ord.2 ig US (by omega);omega
   rw [oG VR gne lt an];exact wk n (.inr ⟨n,mm,rfl,US,by omega⟩)
  ·rintro σ H4 ⟨v,T,cs,v5,v6,rfl,hv,h4,lcs,na,kp,wk⟩;rw [zA,yU,YH] at lcs na;rw [xS] at na;have e0:v=s0/\T=a0:=by
    have:=na.1;unfold bg aA at this;split at this
    ·rename_i e;cases this;exact ⟨e,rfl⟩
    ·cases this
   obtain ⟨rfl,rfl⟩:=e0;refine (zr rfl ⟨lc,zr rfl ⟨aH.of h4,λlr Nt=>?_⟩⟩);have e1:(List.map V.int cs.reverse).reverse=List.map V.int cs:=by rw [<-List.map_reverse,List.reverse_reverse]
   rw [e1];have Nk:au H H4:=λb u eb=>kp b u (xj eb gO) (kX b u eb);exact q lr cs _ (Nk.free Nt) (Nk.trans (xk Nt)) xg lcs (wk (-1) (.inl rfl))
theorem JK:cW T.Hr P w base 5 (Q6):=by
 have Bu:=DR P w base T B;have Fb:=GD P w base T B;have Ir:=Ht P w base T B;have IY:=Ik P w base T B;refine T.Hr.F.ok Iy (λvs H Q E h=>?_) (λbr A outer s H vs Q E hr h=>?_)
 ·obtain ⟨b,lt,_,_,_,_,_,_,_,_,rfl,_⟩:=h;rfl
 ·have nd:=Iy.nd;have hu:=hr.units;obtain ⟨b,lt,s0,w0,a0,z0,aa,tr,tm,ps,rfl,hb,hn,gd,hL,qn,qy⟩:=h;refine bT ?_;intro Y
  let B0:Bk Y (nb (nb (ak Dr) 3) 0):=⟨_,(xh (wB (xu (aU IY hr T.DK (xb (xf (pv 0) (xf (dN (jd rfl) (pv 6) (dm xi) (dm (wA wJ (pv 7) xi))) (xf (pv 4) xl rfl) rfl) rfl))))))⟩
  let B1:Bk Y ((ak Dr).drop 3):=⟨_,(xh (xy (wl PassesOwn.never rfl (fm rfl rfl T.bS (xb (xf (pv 6) xl rfl))) (wI (n:=2) rfl rfl (xo (xp (i:=7) nd rfl rfl) (xo (xp (i:=8) nd rfl rfl) wH))) (xh (wB (wK (wR (aU Bu hr T.Cm (xb (xf (xz (xx rfl) (pv 8) (pv 4) (λ_ _=>rfl)) (xf (pv 5) xl rfl) rfl)))) B0.ps wC)))) (wB (xu qW))))⟩
  let B2:Bk Y ((ak Dr).drop 1):=⟨_,(xh (xy (qN (pv 1) (wI (n:=4) rfl rfl (xo (xp (i:=2) nd rfl rfl) (xo (xp (i:=3) nd rfl rfl) (xo (xp (i:=4) nd rfl rfl) (xo (xp (i:=5) nd rfl rfl) wH)))))) (xy (xt (i:=6) nd rfl rfl (aU Ir hr T.Dj (xb (xf (pv 0) (xf (pv 2) (xf (pv 3) xl rfl) rfl) rfl)))) B1.bl)))⟩
  refine ⟨_,(xh (xy (wK (wb (wR (aU Fb hr T.C3 (xb (xf (pv 0) (xf (pv 1) xl rfl) rfl))))) (xh (wB (xu qW))) wC) B2.bl)),?_⟩;have line:=bA;obtain ⟨cA,hs1,RW,_⟩:=id hL;refine (zr rfl (zr rfl (rG b (.ref lt) _ aa tr tm ps ⟨rfl,hb,hL.th,zr rfl (aF (by rw [hL.yes];rfl) ?_)⟩)));refine (zr rfl (Ni cA ?_));refine (zr rfl (zr rfl (zr rfl (rG b s0 a0 aa tr tm ps ⟨rfl,hb,hn,gd,λl as H1 hl lH h1 rws=>?_⟩))));refine (zr rfl ⟨l,rfl,⟨_,aH.of h1⟩,?_⟩);refine (let W23:IV:=λi σ H4=>(∃ v7 v8,σ=[some (.ref b),some (.ref lt),some (.int s0),some (.int a0),some (.int w0),some (.int z0),some (.ref l),v7,v8])/\au H1 H4/\∀ j,j < i->aW (bg (aD (ps.map (·.2))) (aA s0 a0) j w0) z0=false;fB (K:=K) (a:=l) (xs:=as.map V.ref) W23)
   ⟨⟨_,_,rfl⟩,au.refl _,λj h=>absurd h (zf _)⟩ (λi σ H4 _ h4=>aH.of (h4.2.1 _ _ h1)) ?_ ?_
  ·rintro i x q' σ H4 hx hq ⟨⟨v7,v8,rfl⟩,sm,no⟩;obtain ⟨r,hr,rfl⟩:=wO hx;have hi:=(zD.mp hr).1;have kX:=sm.trans (xk (o:=HO.tup [.int i,V.ref r]) hq);have ht:(upd H4 q' (HO.tup [.int i,V.ref r])) q'=some (.tup [.int i,V.ref r]):=xg;generalize upd H4 q' (HO.tup [.int i,V.ref r])=H5 at kX ht ⊢;have dY:=kX _ _ (rws.at' i r hr).2;refine (p6 ht ?_);refine (zr rfl (zr rfl (cI dY (wF (eY RW)) (zr rfl ⟨_,z0,rfl,zr rfl (kZ (λc=>?_) (λc=>?_))⟩))))
   ·obtain ⟨T,lT,nw⟩:=ON c no;have i9:=Ve gd RW c no;refine (zr rfl (zr rfl ⟨1,rfl,zr rfl (aM rfl rfl (zr rfl ⟨l,zr rfl ⟨aH.of (kX _ _ h1),λlx hlx=>?_⟩⟩))⟩));rw [Sd _ i (by rw [zA];exact hi),<- List.map_drop,<- List.map_take];have Sq:=kX.trans (xk (o:=HO.lst (List.map V.ref ((as.drop 1).take i))) hlx);have h3:(upd H5 lx (HO.lst (List.map V.ref ((as.drop 1).take i)))) lx=some (.lst (List.map V.ref ((as.drop 1).take i))):=xg;generalize upd H5 lx (HO.lst (List.map V.ref ((as.drop 1).take i)))=H6 at Sq h3 ⊢;refine (zr rfl (ab0 b lx w0 s0 i a0 T aa tr tm ps _ ⟨rfl,(hb.same lH).same Sq,gd,RW,by omega,h3,by rw [zY,yR];omega,λj c hj=>?_,nw,λlr cs H7 Nt sm7 h7 lcs wk=>?_⟩))
    ·have:as[j + 1]?=some c:=by
      rw [List.getElem?_take] at hj;split at hj
      ·rw [List.getElem?_drop,Nat.add_comm] at hj;exact hj
      ·cases hj
     exact Sq _ _ (rws.at' (j + 1) c this).2
    ·have Nk:=lH.trans Sq;exact qy i lr cs T H7 ⟨c,no⟩ (Nk.free Nt) (Nk.trans sm7) h7 lcs lT wk
   ·refine ⟨⟨_,_,rfl⟩,kX,λj hj=>?_⟩;rcases xV j i with lj | lj
    ·exact no j lj
    ·have ej:j=i:=by omega
     rw [ej];exact c
  ·rintro σ H4 ⟨⟨v7,v8,rfl⟩,sm,no⟩;rw [zA] at no;have pos:=List.length_pos_iff.mpr rws.pos;refine qn (λi=>?_) _ (lH.trans sm);rcases xV i as.length with li | li
   ·exact no i li
   ·have:=MB gd (m:=as.length - 1) (by rw [show as.length - 1 + 1=as.length by omega];exact rws.last) i (by omega);rw [this];exact no _ (by omega)
theorem IG:cW T.EK P w base 4 (N6):=by
 have Fw:=EQ P w base T B;have Dh:=GC P w base T B;refine T.EK.F.ok Gu (λvs H Q E h=>?_) (λbr A outer s H vs Q E hr h=>?_)
 ·obtain ⟨_,_,_,_,_,_,_,rfl,_⟩:=h;rfl
 ·have nd:=Gu.nd;have hu:=hr.units;obtain ⟨b,x,d,aa,tr,tm,ps,rfl,hb,gd,hp,q⟩:=h;refine bT ?_;intro Y
  let B0:Bk Y ((ak CY).drop 2):=⟨_,(xh (wB (xu (qM (aU Fw hr T.AC (xb (xf (pv 0) (xf (pv 2) xl rfl) rfl))) (qM (aU Dh hr T.BF (xb (xf (pv 0) (xf (pv 3) xl rfl) rfl))) (c6 (wv (fP rfl) (pv 3) (dN (qj rfl) (xz (wE rfl) (xz (wE rfl) (pv 0) xi (λ_ _=>rfl)) (pv 2) (λ_ _=>rfl)) ia (dm xi)) rfl)))))))⟩
  refine ⟨_,(xh (xy (wK (PW.pt (gu (wb (wR (xr (wf) (by rfl) T.az zL (xb (xf (pv 1) (xf (cO (v:=V.ty "tuple") rfl T.jC yj rfl) xl rfl) rfl))))) (dJ (wD iG (xr (xw rfl) (by rfl) T.bw PySem.boot_len (xb (xf (pv 1) xl rfl))) xi (aB _))))) (xh (wB (xu qV))) wC) (xy (qN (pv 1) (wI (n:=2) rfl rfl (xo (xp (i:=2) nd rfl rfl) (xo (xp (i:=3) nd rfl rfl) wH)))) B0.bl))),?_⟩;rcases hp with ⟨t,k,g,rfl,ht,rfl⟩ | ⟨rfl,⟨t,ht,nt,_⟩ | ⟨t,xs,rfl,ht,nl⟩ | ⟨t,u,v,tu,tv,rfl,ht,YM,hv1,bad⟩⟩
  ·refine (zr rfl ⟨_, "tuple", "tuple", rfl,cN ht,.inr (.inr (.inr rfl)),zr rfl (aF rfl (zr rfl ⟨t,zr rfl ⟨.inr (bC.of ht),rfl,zr rfl (aF rfl ?_)⟩⟩))⟩);refine (zr rfl (p6 ht ?_));refine (zr rfl (zr rfl ⟨b,.int k,V5 ("int") aa tr tm ps ⟨rfl,hb,rfl,zr rfl ?_⟩⟩));have lm:(ps.map (·.2)).length=ps.length:=by rw [zA]
   by_cases c1:0<=k/\k < ps.length
   ·obtain ⟨k,rfl⟩:=zj c1.1;have hk:k < ps.length:=by omega
    have e1:jN 0 ((ps.length:Int) - 1) (.int (k:Int))=true:=by
     have:(k:Int)<=(ps.length:Int) - 1:=by omega
     simp [jN,this]
    rw [e1];refine aI rfl (zr rfl (zr rfl ⟨b,.int g,V5 ("int") aa tr tm ps ⟨rfl,hb,rfl,zr rfl ?_⟩⟩));have QA:(ps.map λa=>V.ref a.1)[k]?=some (V.ref ps[k].1):=by simp [hk]
    have dY:H ps[k].1=some (.tup [.int ps[k].2.lo,.int ps[k].2.hi,.int ps[k].2.t,.int ps[k].2.m]):=hb.rows _ (yC hk);obtain ⟨a1,a2,a3,_⟩:=gd.at (yC hk);have eg:lD (ps.map (·.2)) (some ((k:Int),g))=(decide (g=ps[k].2.lo) || decide (g=ps[k].2.hi)):=by
     have e2:(ps.map (·.2))[k]?=some ps[k].2:=by simp [hk]
     simp only [lD,zu,e2,lm];rw [decide_eq_true (show (0:Int)<=k by omega),decide_eq_true (show (k:Int) < ps.length by omega)];rfl
    rw [eg] at q;by_cases c2:0<=g/\g<=(aa.length:Int) - 1
    ·rw [show jN 0 ((aa.length:Int) - 1) (.int g)=true by simp [jN,c2.1,c2.2]];refine aI rfl ?_;simp only [vW,pJ,MP,LM,VH,gZ,MO,oS,VU,rU,sS,ql,oZ,nX,p7,sH,LO,uV,Sl,sU,rI,lV,tC,iJ,iF,QT,iE,nY,oU,uU,oQ,gg,oO,tB,LP,LQ,VG,oR,VO,VN,vj,T9,VI,VJ,jS,LN,uW,VF,gY,lW,kc,L2.start,zd,yF,zW,yJ,Nat.reduceAdd,Nat.reduceSub,List.replicate,xD,xJ,yk,yb,yN,Option.some.injEq,exists_eq_left',exists_eq_left,exists_and_left,and_assoc,V.int.injEq,V.ty.injEq,V.str.injEq,V.bl.injEq,V.ref.injEq,List.cons.injEq,and_true,true_and,yu,yw];refine ⟨_,bC.of hb.book,zr rfl ⟨tm,rfl,_,bC.of hb.meets,_,wF QA,ps[k].1,zr rfl ⟨bC.of dY,(by show ¬ (HT.cE 4 0 none=0/\HT.cE 4 4 (some 2)=4);decide),λp2 RZ=>?_⟩⟩⟩;refine ⟨p2,[.int ps[k].2.lo,.int ps[k].2.hi],rfl,.inr (bC.of xg),rfl,rfl,?_⟩;have:=q _ (xk (o:=HO.tup [V.int ps[k].2.lo,V.int ps[k].2.hi]) RZ);rw [show RV (V.int g) [V.int ps[k].2.lo,V.int ps[k].2.hi]=(decide (g=ps[k].2.lo) || decide (g=ps[k].2.hi)) from tS];exact this
    ·rw [show jN 0 ((aa.length:Int) - 1) (.int g)=false by simp only [jN,Bool.and_eq_false_iff,decide_eq_false_iff_not];omega];refine aF rfl ?_;have:=q _ (au.refl _);rwa [decide_eq_false (by omega),decide_eq_false (by omega)] at this
   ·rw [show jN 0 ((ps.length:Int) - 1) (.int k)=false by simp only [jN,Bool.and_eq_false_iff,decide_eq_false_iff_not];omega];refine aF rfl ?_;have:=q _ (au.refl _);rwa [show lD (ps.map (·.2)) (some (k,g))=false from by
     simp only [lD,lm];by_cases k0:0<=k
     ·rw [decide_eq_false (show ¬ k < (ps.length:Int) by omega)];simp
     ·rw [decide_eq_false k0];rfl] at this
  ·refine (zr rfl ⟨x,t, "tuple", rfl,ht,.inr (.inr (.inr rfl)),zr rfl (aI ?_ (aI rfl (q _ (au.refl _))))⟩);rcases fH ht with rfl | rfl | rfl | rfl | rfl | rfl | rfl <;> first | rfl | exact absurd rfl nt
  ·refine (zr rfl ⟨_, "tuple", "tuple", rfl,cN ht,.inr (.inr (.inr rfl)),zr rfl (aF rfl (zr rfl ⟨t,zr rfl ⟨.inr (bC.of ht),rfl,zr rfl (aI ?_ (q _ (au.refl _)))⟩⟩))⟩);simp;omega
  ·refine (zr rfl ⟨_, "tuple", "tuple", rfl,cN ht,.inr (.inr (.inr rfl)),zr rfl (aF rfl (zr rfl ⟨t,zr rfl ⟨.inr (bC.of ht),rfl,zr rfl (aF rfl ?_)⟩⟩))⟩);refine (zr rfl (p6 ht ?_));refine (zr rfl (zr rfl (rG b u tu aa tr tm ps ⟨rfl,hb,YM,zr rfl ?_⟩)));cases c:jN 0 ((ps.length:Int) - 1) u with
   | false=>exact aF rfl (q _ (au.refl _))
   | true=>
    have RX:tv ≠ "int" := by
     rcases bad with bad | bad
     ·rw [vM YM bad] at c;cases c
     ·exact bad
    refine aI rfl (zr rfl (zr rfl (rG b v tv aa tr tm ps ⟨rfl,hb,hv1,zr rfl ?_⟩)));rw [vM hv1 RX];exact aF rfl (q _ (au.refl _))
theorem Ig:cW T.DF P w base 5 (QW):=by
 have CS:=ER P w base T B;have AO:=C5 P w base T B;have CQ:=EO P w base T B;have Jn:=IG P w base T B;refine T.DF.F.ok Fx (λvs H Q E h=>?_) (λbr A outer s H vs Q E hr h=>?_)
 ·obtain ⟨_,_,_,_,_,_,_,_,_,rfl,_⟩:=h;rfl
 ·have nd:=Fx.nd;have hu:=hr.units;obtain ⟨b,k,a0,x,r,aa,tr,tm,ps,rfl,hb,hk,rn,gd,hx,qn,qf⟩:=h;refine bT ?_;intro Y
  let B0:Bk Y ((nb (ak wz) 3).drop 5):=⟨_,(xh (xy (xt (i:=10) nd rfl rfl (aU AO hr T.Bp (xb (xf (pv 0) (xf (pv 7) (xf (pv 8) xl rfl) rfl) rfl)))) (wB (wK (mq (mD (xz (xx rfl) (pv 4) (pv 10) (λ_ _=>rfl)))) (xh (wB (qN (pv 9) (qp (pv 4) (pv 10) set_list)))) wC))))⟩
  let B1:Bk Y ((nb (ak wz) 3).drop 3):=⟨_,(xh (xy (wK (PW.pt (gu (wD o7 (pv 7) (pv 5) (aB _)) (dJ (wb (wR (aU CS hr T.Cv (xb (xf (xz (xx rfl) (pv 4) (pv 8) (λ_ _=>rfl)) (xf (pv 9) xl rfl) rfl)))))))) (xh (wB (xu qW))) wC) (xy (xt (i:=5) nd rfl rfl (pv 7)) B0.bl)))⟩
  let B2:Bk Y ((nb (ak wz) 3).drop 1):=⟨_,(xh (xy (qN (pv 6) (wI (n:=2) rfl rfl (xo (xp (i:=7) nd rfl rfl) (xo (xp (i:=8) nd rfl rfl) wH)))) (xy (xt (i:=9) nd rfl rfl (xz (wE rfl) (xz (wE rfl) (xz (wE rfl) (pv 0) xi (λ_ _=>rfl)) (pv 7) (λ_ _=>rfl)) xi (λ_ _=>rfl))) B1.bl)))⟩
  let B3:Bk Y ((ak wz).drop 3):=⟨_,(xh (xy (wl PassesOwn.never rfl (wU rfl (pv 3)) (xp (i:=6) nd rfl rfl) (xh (xy (wK (wb (wR (aU Jn hr T.EK (xb (xf (pv 0) (xf (pv 6) xl rfl) rfl))))) (xh (wB (xu qW))) wC) B2.bl))) (wB (xu (pv 4)))))⟩
  refine ⟨_,(xh (xy (wK (wb (wR (xr (wf) (by rfl) T.az zL (xb (xf (pv 3) (xf (cO (v:=V.ty "list") rfl T.nF yn rfl) xl rfl) rfl))))) (xh (wB (xu qW))) wC) (xy (xt (i:=4) nd rfl rfl (aU CQ hr T.Ct (xb (xf (pv 0) (xf (pv 1) (xf (pv 2) xl rfl) rfl) rfl)))) (xy (xt (i:=5) nd rfl rfl (sZ lS xi)) B3.bl)))),?_⟩;obtain ⟨ty,SN,lty⟩:=hx.ty;rcases hx with ⟨rfl,_⟩ | ⟨l,ds,rfl,rfl,hl,ln,hp⟩
  ·refine (zr rfl ⟨x,ty, "list", rfl,SN,.inr (.inr (.inl rfl)),zr rfl (aI ?_ (qn rfl _ (au.refl _)))⟩);have nt:ty ≠ "list" := λz=>(lty.mp z) rfl;rcases fH SN with rfl | rfl | rfl | rfl | rfl | rfl | rfl <;> first | rfl | exact absurd rfl nt
  ·refine (zr rfl ⟨_, "list", "list", rfl,fJ hl,.inr (.inr (.inl rfl)),zr rfl (aF rfl ?_)⟩);refine (zr rfl (zr rfl (zr rfl (rG b k a0 aa tr tm ps ⟨rfl,hb,by omega,λlt H1 cA s1 h1=>?_⟩))));have af6:H lt=none:=cA;refine (zr rfl (zr rfl ⟨l,rfl,⟨_,aH.of (s1 _ _ hl)⟩,?_⟩));refine (let W24:IV:=λi σ H5=>∃ f bh,(∃ v6 v7 v8 v9 v10,σ=[some (.ref b),some (.int (k:Int)),some (.int a0),some (.ref l),some (.ref lt),some (.int bh),v6,v7,v8,v9,v10])/\au H H5/\H5 lt=some (.lst ((rep aa.length f).map oV))/\sD (ps.map (·.2)) (aA k a0) (-1) (ds.map (·.2))=sD (ps.map (·.2)) f bh ((ds.map (·.2)).drop i);cV (K:=K) (a:=l) (xs:=ds.map (·.1)) W24 ⟨aA k a0,-1,⟨_,_,_,_,_,rfl⟩,s1,h1,rfl⟩ ?_ ?_ ?_)
   ·rintro i σ H5 _ ⟨_,_,_,sm,_⟩;exact aH.of (sm _ _ hl)
   ·rintro i y σ H5 hy ⟨f,bh,⟨v6,v7,v8,v9,v10,rfl⟩,sm,h5,et⟩;rw [zI] at hy;obtain ⟨z,hz,rfl⟩:∃ z,ds[i]?=some z/\y=z.1:=by
     cases e:ds[i]? with
     | none=>rw [e] at hy;cases hy
     | some z=>rw [e] at hy;cases hy;exact ⟨z,rfl,rfl⟩
    have hi:i < ds.length:=(zD.mp hz).1;have ed:(ds.map (·.2)).drop i=z.2::(ds.map (·.2)).drop (i + 1):=by
     rw [List.drop_eq_getElem_cons (by rw [zA];exact hi),List.getElem_map,(zD.mp hz).2]
    rw [ed] at et;have pz:=(hp z (zC hz)).same sm;have YX:=hb.same sm;refine (zr rfl (zr rfl (rG b z.1 z.2 aa tr tm ps ⟨rfl,YX,gd,pz,λH6 s6=>(zr rfl ?_)⟩)));have KO:=sm.trans s6;have h6:=s6 _ _ h5;have S0:=hb.same KO;cases c:lD (ps.map (·.2)) z.2 with
    | false=>
     refine aI rfl (qn ?_ _ KO);show sD _ _ _ _=none;rw [et,Tt c]
    | true=>
     refine aF rfl ?_;obtain ⟨n,g,m,ez,hm,hg⟩:=R5 c;rw [ez] at pz et;obtain ⟨t,etr,ht⟩:=pz.some;have ht6:=s6 _ _ ht;obtain ⟨r,rq,er⟩:∃ r,ps[n]?=some r/\r.2=m:=by
      rw [zI] at hm;cases e:ps[n]? with
      | none=>rw [e] at hm;cases hm
      | some r=>rw [e] at hm;cases hm;exact ⟨r,rfl,rfl⟩
     subst er;have QA:(ps.map λa=>V.ref a.1)[n]?=some (V.ref r.1):=by rw [zI,rq];rfl
     have dY:H6 r.1=some (.tup [.int r.2.lo,.int r.2.hi,.int r.2.t,.int r.2.m]):=S0.rows r (zC rq);obtain ⟨a1,a2,a3,_⟩:=gd.at (zC rq);obtain ⟨g,rfl⟩:=zj (show 0<=g by omega);have hgn:g < aa.length:=by omega
     rw [etr];refine (zr rfl (p6 ht6 ?_));refine (zr rfl (dW S0.book rfl (zr rfl (dW S0.meets (wF QA) (dW dY rfl ?_)))));refine (zr rfl (zr rfl (aM rfl rfl (zr rfl ?_))));by_cases c1:bh < (n:Int)
     ·refine aF (decide_eq_false (by omega)) (zr rfl (zr rfl (cI h6 (wF (eY hgn)) (zr rfl ⟨f g,r.2.t,rfl,zr rfl ?_⟩))));cases c2:below (f g) r.2.t with
      | false=>
       refine aI rfl (qn ?_ _ KO);show sD _ _ _ _=none;rw [et,sC hm λz=>by rw [zu,c2] at z;exact absurd z.2 zM]
      | true=>
       refine aF rfl ?_;obtain ⟨o,eo⟩:∃ o:Nat,(if (g:Int)=r.2.lo then r.2.hi else r.2.lo)=(o:Int):=by
        split
        ·exact ⟨r.2.hi.toNat,by omega⟩
        ·exact ⟨r.2.lo.toNat,by omega⟩
       have hon:o < aa.length:=by split at eo <;> omega
       have en:sD (ps.map (·.2)) (aA k a0) (-1) (ds.map (·.2))=sD (ps.map (·.2)) (aO f ⟨g,o,r.2.t⟩) n ((ds.map (·.2)).drop (i + 1)):=by
        rw [et,Tu hm hg c1 (by rw [zu];exact c2),eo];rfl
       refine (zr rfl (zr rfl (zr rfl (zr rfl (Vh b n (g:Int) aa tr tm ps r.2 ⟨rfl,S0,hm,?_⟩)))));rw [eo];refine (zr rfl (zr rfl (cI h6 (wF (eY hon)) ?_)));cases fo:f o with
       | none=>
        have ef:aO f ⟨g,o,r.2.t⟩=put f o (some r.2.t):=by unfold aO;rw [if_pos ⟨fo,c2⟩]
        refine (zr rfl (aI rfl (zr rfl (zr rfl (zr rfl ⟨lt,_,_,o,rfl,rfl,h6,qz (by rw [zA,fN];exact hon),put f o (some r.2.t),n,⟨_,_,_,_,_,rfl⟩,au.put cA KO,?_,by rw [en,ef]⟩)))));rw [xg,<- qk hon,List.map_set];rfl
       | some y=>
        have ef:aO f ⟨g,o,r.2.t⟩=f:=by unfold aO;rw [if_neg (by rw [fo];exact λz=>by cases z.1)]
        exact (zr rfl (aF rfl ⟨f,n,⟨_,_,_,_,_,rfl⟩,KO,h6,by rw [en,ef]⟩))
     ·refine aI (decide_eq_true (by omega)) (aI rfl (qn ?_ _ KO));show sD _ _ _ _=none;rw [et,sC hm λz=>c1 z.1]
   ·rintro σ H5 ⟨f,bh,⟨v6,v7,v8,v9,v10,rfl⟩,sm,h5,et⟩;refine (zr rfl (qf f lt H5 ?_ sm h5));show sD _ _ _ _=some f;rw [et,zA,List.drop_eq_nil_of_le (by rw [zA];exact zF _)];rfl
theorem Hs:cW T.Di P w base 6 (N1):=by
 have Bu:=DR P w base T B;have IS:=Ig P w base T B;refine T.Di.F.ok EE (λvs H Q E h=>?_) (λbr A outer s H vs Q E hr h=>?_)
 ·obtain ⟨_,_,_,_,_,_,_,_,_,_,_,rfl,_⟩:=h;rfl
 ·have nd:=EE.nd;have hu:=hr.units;obtain ⟨b,k,a0,l,ws,x,r,aa,tr,tm,ps,rfl,hb,hk,rn,gd,hx,hw,wn,q⟩:=h;refine bT ?_;intro Y
  let B0:Bk Y ((ak qS).drop 1):=⟨_,(xh (wB (xu (qM (vt (qu (pv 5))) (c6 (xr (gQ rfl rfl) (by rfl) T.ux yx (xb (xf (wx (own:=["walker", "last"]) (caps:=[5]) rfl (show aK ["walker", "last"] [5] ["book", "sender", "since", "wishes", "thing", "times"] (aj qS) _ from L2.iz) (wU rfl (pv 3)) (λ_ _ _ _=>(wI (n:=2) rfl rfl (xo (xp (i:=0) (show List.Nodup (["walker", "last", "times"]:List Str) from by decide +kernel) rfl rfl) (xo (xp (i:=1) (show List.Nodup (["walker", "last", "times"]:List Str) from by decide +kernel) rfl rfl) wH)))) (λ_ _ _ _=>ww) (λ_ _ _ _=>(aU Bu hr T.Cm (xb (xf (xz (xx rfl) (pv 2) (pv 0) (λ_ _=>rfl)) (xf (pv 1) xl rfl) rfl))))) xl rfl))))))))⟩
  refine ⟨_,(xh (xy (xt (i:=5) nd rfl rfl (aU IS hr T.DF (xb (xf (pv 0) (xf (pv 1) (xf (pv 2) (xf (pv 4) xl rfl) rfl) rfl) rfl)))) B0.bl)),?_⟩;refine (zr rfl (zr rfl (zr rfl (zr rfl (V4 b k a0 x r aa tr tm ps ⟨rfl,hb,hk,rn,gd,hx,λno H1 s1=>?_,λf lt H1 yes s1 h1=>?_⟩)))))
  ·refine (zr rfl (zr rfl (aF rfl ?_)));have:=q H1 s1;rw [no] at this;exact this
  ·refine (zr rfl (zr rfl (aI rfl ?_)));have RW:=hw.same s1;refine (zr rfl ⟨l,rfl,⟨_,aH.of RW.1⟩,?_⟩);refine (let W25:IC:=λi τ acc H5=>(∃ t0 t1,τ=[t0,t1,some (.ref lt)])/\acc=((ws.take i).map λx=>V.bl (aW (f x.2.1) x.2.2))/\H1=H5;cL (K:=K) (a:=l) (xs:=ws.map λx=>V.ref x.1) W25 ?_ (by rw [zA];omega) ?_ ?_ ?_)
   ·exact ⟨⟨_,_,rfl⟩,rfl,rfl⟩
   ·rintro i τ acc H5 ⟨⟨t0,t1,rfl⟩,rfl,rfl⟩;exact ⟨by rw [zA,zY];exact Nat.min_le_left _ _,aH.of RW.1⟩
   ·rintro i y τ acc H5 C hy ⟨⟨t0,t1,rfl⟩,rfl,rfl⟩ hC;obtain ⟨z,hz,rfl⟩:=wO hy;obtain ⟨z1,z2⟩:=RW.2 z (zC hz);refine (p6 z1 ?_);refine (zr rfl (zr rfl (cI h1 (wF (eY z2)) (zr rfl (nU rfl (hC _ _ _ ⟨⟨_,_,rfl⟩,?_,rfl⟩))))));rw [wP hz,zH];rfl
   ·rintro τ acc H5 ⟨⟨t0,t1,rfl⟩,rfl,rfl⟩ lc gO;rw [zA,zv];refine ⟨lc,ws.map λx=>aW (f x.2.1) x.2.2,rfl,by rw [yY];exact aH.of xg,?_⟩;have:=q _ (s1.trans (xk (o:=HO.lst (ws.map λx=>V.bl (aW (f x.2.1) x.2.2))) gO));rw [yes] at this;rw [show (ws.map λx=>aW (f x.2.1) x.2.2).all id=TU (some f) ws from by rw [xW];rfl];exact this
theorem Io:cW T.DN P w base 5 (LV K):=by
 have Cl:=FL P w base T B;have Ab:=wj P w base T B;have El:=FK P w base T B;have BU:=Dv P w base T B;have Jq:=IK P w base T B;refine T.DN.F.ok FF (λvs H Q E h=>?_) (λbr A outer s H vs Q E hr h=>?_)
 ·obtain ⟨_,_,rfl,_⟩:=h;rfl
 ·have nd:=FF.nd;have hu:=hr.units;obtain ⟨sa,ns,rfl,hS,hlen,q⟩:=h;refine bT ?_;intro Y
  let B0:Bk Y ((ak qK).drop 5):=⟨_,(xh (wB (xu (wZ (xb (xf (aU El hr T.B9 (xb (xf (pv 2) (xf (pv 3) xl rfl) rfl))) (xf (aU BU hr T.AI (xb (xf (pv 2) (xf (pv 3) (xf (pv 4) xl rfl) rfl) rfl))) xl rfl) rfl))))))⟩
  let B1:Bk Y ((ak qK).drop 4):=⟨_,(xh (xy (xt (i:=4) nd rfl rfl (xz (xx rfl) (wM (xb (xf xi (xf xi (xf xi (xf xi (xf xi (xf xi (xf xi xl rfl) rfl) rfl) rfl) rfl) rfl) rfl))) (aU Ab hr T.Ac (xb (xf (pv 1) (xf xi xl rfl) rfl))) (λ_ _=>rfl))) B0.bl))⟩
  let B2:Bk Y ((ak qK).drop 2):=⟨_,(xh (xy (wK (wD qL (aU Ab hr T.Ac (xb (xf (pv 1) (xf xi xl rfl) rfl))) xi (aB _)) (xh (wB (xu (aU Jq hr T.EN (xb (xf (pv 2) (xf xi (xf xi xl rfl) rfl) rfl)))))) wC) (xy (xt (i:=3) nd rfl rfl (wA wJ xi (aU Ab hr T.Ac (xb (xf (pv 1) (xf xi xl rfl) rfl))))) B1.bl)))⟩
  refine ⟨_,(xh (xy (xt (i:=1) nd rfl rfl (aU Cl hr T.AW (xb (xf (pv 0) (xf xi xl rfl) rfl)))) (xy (xt (i:=2) nd rfl rfl (aU Cl hr T.AW (xb (xf (pv 0) (xf xi xl rfl) rfl)))) B2.bl))),?_⟩;have line:=bA;have PD:(2:Int) ^ 200 > 10000:=by decide
  refine (zr rfl ⟨sa,ns,1,rfl,hS,by omega,λp1 H1 UO pu1 s1=>?_⟩);refine (zr rfl ⟨sa,ns,0,rfl,s1.seq hS,by omega,λp0 H2 hp0 pu0 s2=>?_⟩);have n01:p0≠p1:=λz=>by
   obtain ⟨_,_,_,e⟩:=pu1;rw [z,e] at hp0;cases hp0
  have keep:∀ {G G':Hp},Go p1 G G'->bN G p0->bN G' p0:=λg ⟨u,v,w,e⟩=>⟨u,v,w,g.1 _ _ n01 e⟩;refine (zr rfl ⟨p1,4,rfl,by decide,by decide,pu1.same s2,λd H3 d0 d1 g3=>⟨rfl,zr rfl ?_⟩⟩);have pu3:=keep g3 pu0;have b3:∀ x u,H x=some u->H3 x=some u:=λx u e=>g3.1 x u (xj e UO) (s2 _ _ (s1 _ _ e));have x0:∀ {x u},H x=some u->x≠p0:=λe=>xj (s1 _ _ e) hp0;by_cases c:d=3
  ·exact aI (decide_eq_true (by rw [c])) (zr rfl ⟨p0,12,60,rfl,by decide,by decide,by decide,pu3,λb aa tr tm ps H4 g4 hb Yy rm2 rm9 gd kM=>q b aa tr tm ps H4 (λx u e=>g4.1 x u (x0 e) (b3 x u e)) hb gd Yy (by omega)⟩)
  refine aF (decide_eq_false (λz=>c (V.int.inj z))) ?_;refine (zr rfl ⟨p1,4,rfl,by decide,by decide,g3.2,λe H4 e0 e1 g4=>(aM rfl rfl ?_)⟩);obtain ⟨e,rfl⟩:=zj e0;have pu4:=keep g4 pu3;refine ⟨by show 7<=sizeLine;omega,λl0 Qw=>?_⟩;have s5:=xk (o:=HO.lst [V.int 0,V.int 22,V.int 23,V.int 24,V.int 25,V.int 26,V.int 27]) Qw;have k5:upd H4 l0 (HO.lst [V.int 0,V.int 22,V.int 23,V.int 24,V.int 25,V.int 26,V.int 27]) l0=some (.lst [V.int 0,V.int 22,V.int 23,V.int 24,V.int 25,V.int 26,V.int 27]):=xg;have n5:l0≠p1:=g4.2.ne Qw;have WM:=g4.2.new (o:=HO.lst [V.int 0,V.int 22,V.int 23,V.int 24,V.int 25,V.int 26,V.int 27]) Qw;have WN:=pu4.new (o:=HO.lst [V.int 0,V.int 22,V.int 23,V.int 24,V.int 25,V.int 26,V.int 27]) Qw;generalize upd H4 l0 (HO.lst [V.int 0,V.int 22,V.int 23,V.int 24,V.int 25,V.int 26,V.int 27])=H5 at s5 k5 WM WN ⊢;refine (zr rfl ⟨p1,7,rfl,by decide,by decide,WM,λf H6 f0 f1 g6=>?_⟩);have k6:=g6.1 _ _ n5 k5;obtain ⟨m,hm,em⟩:∃ m:Nat,m<=60/\i7 [V.int 0,V.int 22,V.int 23,V.int 24,V.int 25,V.int 26,V.int 27] f=some (V.int m):=by
   obtain rfl | rfl | rfl | rfl | rfl | rfl | rfl:f=0\/f=1\/f=2\/f=3\/f=4\/f=5\/f=6:=by omega
   ·exact ⟨0,by decide,rfl⟩
   ·exact ⟨22,by decide,rfl⟩
   ·exact ⟨23,by decide,rfl⟩
   ·exact ⟨24,by decide,rfl⟩
   ·exact ⟨25,by decide,rfl⟩
   ·exact ⟨26,by decide,rfl⟩
   ·exact ⟨27,by decide,rfl⟩
  have b6:∀ x u,H x=some u->H6 x=some u:=λx u e=>g6.1 x u (xj e UO) (s5 _ _ (g4.1 x u (xj e UO) (b3 x u e)));refine (cI k6 em ?_);refine (zr rfl (zr rfl ⟨p0,7 + e,by rw [Int.natCast_add];rfl,by omega,keep g6 WN,λtr aa H7 g7 h7 l7 r7=>(zr rfl (zr rfl (zr rfl ⟨p0,_,m,rfl,hm,by omega,.inr (by omega),g7.2,λtm ps H8 g8 h8 rw8 gd l8=>⟨by show 2<=_;omega,λb hb=>?_⟩⟩)))⟩));have tn:=bX.new (o:=HO.tup [V.ref tr,V.ref tm]) hb;have gd':Good aa.length (ps.map (·.2)):=by rw [l7,Int.natCast_add];exact gd
  exact q b aa tr tm ps _ (λx u e=>xk hb _ _ (g8.1 x u (x0 e) (g7.1 x u (x0 e) (b6 x u e)))) ⟨xg,tn _ _ (g8.aS g7.2 _ _ h7),tn _ _ h8,rw8.aS tn⟩ gd' (by omega) (by omega)
theorem Ji:uF P w K mg base Ng 1 a.Bt a.Cz ["_law_error"] (Q5 a.Aa):=by
 refine T.DO.F.okH Hb (λvs H Q E h=>?_) (λbr A outer s H vs Q E hr h=>?_)
 ·obtain ⟨_,rfl,_⟩:=h;rfl
 ·have nd:=Hb.nd;have hu:=hr.units;obtain ⟨x,rfl,hx,q⟩:=h;refine bT ?_;intro Y
  let B0:Bk Y ((ak w8).drop 6):=⟨_,(xh (wB (xu (qM (xr (wS rfl) (by rfl) T.az zL (xb (xf (pv 0) (xf (wV (v:=V.ref a.Aa) (by rfl) T.IA rfl) xl rfl) rfl))) (qM (xr (wS rfl) (by rfl) T.az zL (xb (xf (pv 0) (xf (cO (v:=V.ty "ValueError") rfl T.rP PyProof.Rows.Boot.«ValueError» rfl) xl rfl) rfl))) (c6 (wv qw qV (pv 1) rfl)))))))⟩
  let B1:Bk Y ((ak w8).drop 5):=⟨_,(xh (xy (xt (i:=1) nd rfl rfl (wA gE (pv 1) (wM (xb (xf (xr (wS rfl) (by rfl) T.az zL (xb (xf (pv 0) (xf (wV (v:=V.ref a.Ef) (by rfl) T.Ka rfl) xl rfl) rfl))) xl rfl))))) B0.bl))⟩
  let B2:Bk Y ((ak w8).drop 4):=⟨_,(xh (xy (xt (i:=1) nd rfl rfl (wA gE (pv 1) (wM (xb (xf (xr (wS rfl) (by rfl) T.az zL (xb (xf (pv 0) (xf (wV (v:=V.ref a.AL) (by rfl) T.Jt rfl) xl rfl) rfl))) (xf (xr (wS rfl) (by rfl) T.az zL (xb (xf (pv 0) (xf (wV (v:=V.ref a.CA) (by rfl) T.JQ rfl) xl rfl) rfl))) (xf (xr (wS rfl) (by rfl) T.az zL (xb (xf (pv 0) (xf (wV (v:=V.ref a.AM) (by rfl) T.Ju rfl) xl rfl) rfl))) xl rfl) rfl) rfl))))) B1.bl))⟩
  let B3:Bk Y ((ak w8).drop 3):=⟨_,(xh (xy (xt (i:=1) nd rfl rfl (wA gE (pv 1) (wM (xb (xf (xr (wS rfl) (by rfl) T.az zL (xb (xf (pv 0) (xf (wV (v:=V.ref a.CC) (by rfl) T.JS rfl) xl rfl) rfl))) (xf (xr (wS rfl) (by rfl) T.az zL (xb (xf (pv 0) (xf (wV (v:=V.ref a.Eg) (by rfl) T.Kb rfl) xl rfl) rfl))) (xf (xr (wS rfl) (by rfl) T.az zL (xb (xf (pv 0) (xf (wV (v:=V.ref a.CB) (by rfl) T.JR rfl) xl rfl) rfl))) xl rfl) rfl) rfl))))) B2.bl))⟩
  let B4:Bk Y ((ak w8).drop 2):=⟨_,(xh (xy (xt (i:=1) nd rfl rfl (wA gE (pv 1) (wM (xb (xf (xr (wS rfl) (by rfl) T.az zL (xb (xf (pv 0) (xf (wV (v:=V.ref a.Aw) (by rfl) T.Jk rfl) xl rfl) rfl))) (xf (xr (wS rfl) (by rfl) T.az zL (xb (xf (pv 0) (xf (wV (v:=V.ref a.CF) (by rfl) T.JU rfl) xl rfl) rfl))) (xf (xr (wS rfl) (by rfl) T.az zL (xb (xf (pv 0) (xf (wV (v:=V.ref a.CD) (by rfl) T.JT rfl) xl rfl) rfl))) xl rfl) rfl) rfl))))) B3.bl))⟩
  let B5:Bk Y ((ak w8).drop 1):=⟨_,(xh (xy (xt (i:=1) nd rfl rfl (wA gE (pv 1) (wM (xb (xf (xr (wS rfl) (by rfl) T.az zL (xb (xf (pv 0) (xf (wV (v:=V.ref a.Ei) (by rfl) T.Kc rfl) xl rfl) rfl))) (xf (xr (wS rfl) (by rfl) T.az zL (xb (xf (pv 0) (xf (wV (v:=V.ref a.CG) (by rfl) T.JV rfl) xl rfl) rfl))) (xf (xr (wS rfl) (by rfl) T.az zL (xb (xf (pv 0) (xf (wV (v:=V.ref a.AN) (by rfl) T.Jv rfl) xl rfl) rfl))) xl rfl) rfl) rfl))))) B4.bl))⟩
  refine ⟨_,(xh (xy (xt (i:=1) nd rfl rfl (wM (xb (xf (xr (wS rfl) (by rfl) T.az zL (xb (xf (pv 0) (xf (wV (v:=V.ref a.Ej) (by rfl) T.Kd rfl) xl rfl) rfl))) (xf (xr (wS rfl) (by rfl) T.az zL (xb (xf (pv 0) (xf (wV (v:=V.ref a.CH) (by rfl) T.JW rfl) xl rfl) rfl))) (xf (xr (wS rfl) (by rfl) T.az zL (xb (xf (pv 0) (xf (wV (v:=V.ref a.Bs) (by rfl) T.JL rfl) xl rfl) rfl))) xl rfl) rfl) rfl)))) B5.bl)),?_⟩;have line:=bA;refine (zr rfl ⟨x,_,_,false,rfl,hx,T.Ae,rfl,T.Kh,zr rfl ⟨x,_,_,false,rfl,hx,T.Ae,rfl,T.J6,zr rfl ⟨x,_,_,false,rfl,hx,T.Ae,rfl,T.JM,by show 3<=sizeLine;omega,λl0 Qw=>?_⟩⟩⟩);have s0:=xk (o:=HO.lst [V.bl false,V.bl false,V.bl false]) Qw;have k0:upd H l0 (HO.lst [V.bl false,V.bl false,V.bl false]) l0=some (.lst (Pq 3)):=xg;generalize upd H l0 _=H0 at s0 k0 ⊢;have x0:=s0 _ _ hx;refine nk (n:=3) (m:=3) rfl k0 (λQ q=>(zr rfl ⟨x,_,_,false,rfl,x0,T.Ae,rfl,T.Kg,zr rfl ⟨x,_,_,false,rfl,x0,T.Ae,rfl,T.J5,zr rfl ⟨x,_,_,false,rfl,x0,T.Ae,rfl,T.Jz,q⟩⟩⟩)) (by decide) λl1 H1 t1 k1=>?_;have s1:=s0.trans t1;have x1:=s1 _ _ hx;refine nk (n:=6) (m:=3) rfl k1 (λQ q=>(zr rfl ⟨x,_,_,false,rfl,x1,T.Ae,rfl,T.Jm,zr rfl ⟨x,_,_,false,rfl,x1,T.Ae,rfl,T.J1,zr rfl ⟨x,_,_,false,rfl,x1,T.Ae,rfl,T.J0,q⟩⟩⟩)) (by decide) λl2 H2 t2 k2=>?_;have s2:=s1.trans t2;have x2:=s2 _ _ hx;refine nk (n:=9) (m:=3) rfl k2 (λQ q=>(zr rfl ⟨x,_,_,false,rfl,x2,T.Ae,rfl,T.JZ,zr rfl ⟨x,_,_,false,rfl,x2,T.Ae,rfl,T.Kf,zr rfl ⟨x,_,_,false,rfl,x2,T.Ae,rfl,T.JY,q⟩⟩⟩)) (by decide) λl3 H3 t3 k3=>?_;have s3:=s2.trans t3;have x3:=s3 _ _ hx;refine nk (n:=12) (m:=3) rfl k3 (λQ q=>(zr rfl ⟨x,_,_,false,rfl,x3,T.Ae,rfl,T.Jx,zr rfl ⟨x,_,_,false,rfl,x3,T.Ae,rfl,T.JX,zr rfl ⟨x,_,_,false,rfl,x3,T.Ae,rfl,T.Jy,q⟩⟩⟩)) (by decide) λl4 H4 t4 k4=>?_;have s4:=s3.trans t4;have x4:=s4 _ _ hx;refine nk (n:=15) (m:=1) rfl k4 (λQ q=>(zr rfl ⟨x,_,_,false,rfl,x4,T.Ae,rfl,T.Ke,q⟩)) (by decide) λl5 H5 t5 k5=>?_;have s5:=s4.trans t5;have x5:=s5 _ _ hx;refine (zr rfl ⟨x,_,_,true,rfl,x5,T.Ae,rfl,O1,zr rfl (aI rfl (zr rfl ⟨x,_,_,true,rfl,x5,T.Ae,rfl,T.abW,zr rfl (aI rfl (zr rfl ⟨l5,zr rfl ⟨.inl (aH.of k5),rfl,rfl,q _ s5⟩⟩))⟩))⟩)
theorem IH:cW T.EL P w base 7 (NX a.tP cK):=by
 have J7:=JI P w base T B;have JC:=Ji P w base T B;refine T.EL.F.ok Gv (λvs H Q E h=>?_) (λbr A outer s H vs Q E hr h=>?_)
 ·obtain ⟨_,_,_,_,_,_,_,_,_,rfl,_⟩:=h;rfl
 ·have nd:=Gv.nd;have hu:=hr.units;obtain ⟨b,k,a0,l,aa,tr,tm,ps,ws,rfl,cw,q⟩:=h;refine bT ?_;intro Y
  let B0:Bk Y ((ak CZ).drop 2):=⟨_,(xh (xy (Oo (i:=6) rfl (Rk (i:=4) J7 (hr.mono (by decide)) rfl T.GB.m T.GB.k T.GB.i .nil nd rfl rfl (xb (xf (pv 0) (xf (pv 1) (xf (pv 2) (xf (pv 3) xl rfl) rfl) rfl) rfl))) rfl rfl rfl T.Jl nd rfl rfl (λ_=>(xh (wB (xt (i:=5) nd rfl rfl (OA JC (hr.toH (by decide)) rfl T.DO.m T.DO.k T.DO.i .nil SD (xb (xf (pv 6) xl rfl)))))))) (wB (xu (wM (xb (xf (pv 4) (xf (pv 5) xl rfl) rfl)))))))⟩
  refine ⟨_,(xh (xy (xt (i:=4) nd rfl rfl qW) (xy (xt (i:=5) nd rfl rfl qV) B0.bl))),?_⟩;have line:=bA;have gd:=cw.gd;have wa:=cw.wa;by_cases big:nR aa ps
  ·refine (zr rfl (zr rfl (zr rfl (zr rfl (.inr (Vh b _ _ _ aa tr tm ps ⟨rfl,cw.bk,big,T.abX,zr rfl (λx hx=>?_)⟩))))));have s1:=xk (o:=m5 x a.Aa) hx;have k1:upd H x (m5 x a.Aa) x=some (m5 x a.Aa):=xg;generalize upd H x (m5 x a.Aa)=H1 at s1 k1 ⊢;refine (zr rfl ⟨x,rfl,k1,λH2 s2=>?_⟩);refine (zr rfl (zr rfl ⟨by show 2<=sizeLine;omega,λl2 rZ=>?_⟩));have s3:=(s1.trans s2).trans (xk (o:=HO.lst [V.bZ,V.bl true]) rZ);have eb:=Lr.mpr big;exact q l2 .bZ _ (au.uv s3) (cw.mt.bR s3) (by rw [eb];exact xg) (λe=>by rw [eb] at e;cases e)
  ·refine (zr rfl (zr rfl (zr rfl (zr rfl (.inl (V4 b k a0 l aa tr tm ps ws ⟨rfl,⟨cw.bk,gd,cw.r1,cw.jY,wa,cw.w4⟩,by unfold nR at big;omega,by unfold nR at big;omega,cw.w1,cw.hk,cw.a0,cw.a9,cw.lo,cw.mt,λt H1 b1 m1 told=>?_⟩))))));refine (zr rfl (zr rfl ⟨by show 2<=sizeLine;omega,λl2 rZ=>?_⟩));have s2:=xk (o:=HO.lst [V.ref t,V.bl false]) rZ;have eb:kB aa ps=false:=by
    cases e:kB aa ps with
    | false=>rfl
    | true=>exact absurd (Lr.mp e) big
   exact q l2 (.ref t) _ (b1.eX s2) (m1.bR s2) (by rw [eb];exact xg) (λ_=>⟨t,rfl,told.same s2⟩)
theorem Ip:cW T.DP P w base 6 (Ma):=by
 have J9:=JK P w base T B;refine T.DP.F.ok FI (λvs H Q E h=>?_) (λbr A outer s H vs Q E hr h=>?_)
 ·obtain ⟨_,_,_,_,_,_,_,_,_,_,_,rfl,_⟩:=h;rfl
 ·have nd:=FI.nd;have hu:=hr.units;obtain ⟨b,k,a0,x,t,aa,tr,tm,ps,w0,z0,rfl,hb,gd,jY,hk,hw,Wa,V9,Ys,Yr,kx,told,q⟩:=h;refine bT ?_;intro Y
  let B0:Bk Y ((ak qe).drop 2):=⟨_,(xh (wB (xu (qM (wv qL (xz (wE rfl) (pv 4) xi (λ_ _=>rfl)) jZ (aB _)) (c6 (wv qL (xr (xw rfl) (by rfl) T.bw PySem.boot_len (xb (xf (xz (wE rfl) (pv 4) xi (λ_ _=>rfl)) xl rfl))) (xr (xw rfl) (by rfl) T.bw PySem.boot_len (xb (xf (pv 5) xl rfl))) (aB _)))))))⟩
  let B1:Bk Y ((ak qe).drop 1):=⟨_,(xh (xy (wK (mq (mD (pv 5))) (xh (wB (xu (wv (OG hu) (dN (qj rfl) (pv 4) ia (dm xi)) (wZ (xb (xf jZ (xf xi xl rfl) rfl))) (aB _))))) wC) B0.bl))⟩
  refine ⟨_,(xh (xy (xt (i:=5) nd rfl rfl (aU J9 hr T.Hr (xb (xf (pv 0) (xf (wZ (xb (xf (pv 1) (xf (pv 2) (xf (xz (wE rfl) (pv 3) xi (λ_ _=>rfl)) (xf (xz (wE rfl) (pv 3) xi (λ_ _=>rfl)) xl rfl) rfl) rfl) rfl))) xl rfl) rfl)))) B1.bl)),?_⟩;have line:=bA;refine (zr rfl (zr rfl (zr rfl (zr rfl (dW kx rfl (zr rfl (dW kx rfl ⟨by show 4<=sizeLine;omega,λlt cA=>?_⟩)))))));have s1:=xk (o:=HO.tup [V.int (k:Int),V.int a0,V.int (w0:Int),V.int z0]) cA;have k1:upd H lt (HO.tup [V.int (k:Int),V.int a0,V.int (w0:Int),V.int z0]) lt=some (.tup [V.int (k:Int),V.int a0,V.int (w0:Int),V.int z0]):=xg;generalize upd H lt (HO.tup [V.int (k:Int),V.int a0,V.int (w0:Int),V.int z0])=H1 at s1 k1 ⊢;have Sk:=told.same s1;refine (Py b lt k w0 a0 z0 aa tr tm ps ⟨rfl,hb.same s1,by omega,gd,⟨k1,hk,hw,Wa,V9,Ys,Yr⟩,λn H2 s2=>?_,λm lr cs e H2 ls _ s2 kr lc le wk=>?_⟩)
  ·have no:=KC gd n;refine (zr rfl (zr rfl (aI rfl ?_)));rcases Sk with ⟨i,l1,kt,nv,_⟩ | ⟨l1,lp,Tl,h,P,kt,sv,_⟩
   ·obtain rfl:i=0:=by
     obtain ⟨⟨y,hy,_⟩,_⟩:=nv;have:=(zD.mp hy).1;simp only [zW,yJ] at this;omega
    have YJ:=s2 _ _ kt;refine (zr rfl (zr rfl ⟨t,zr rfl ⟨bC.of YJ,(by show ¬ (HT.cE 3 0 none=0/\HT.cE 3 3 (some 2)=3);decide),λp1 UO=>?_⟩⟩));rw [show i0 [V.str (Str.ofString "never"),V.int ((0:Nat):Int),V.ref l1] none (some 2)=[V.str (Str.ofString "never"),V.int 0] from rfl];have s3:=xk (o:=HO.tup [V.str (Str.ofString "never"),V.int 0]) UO;have k3:upd H2 p1 (HO.tup [V.str (Str.ofString "never"),V.int 0]) p1=some (.tup [V.str (Str.ofString "never"),V.int 0]):=xg;generalize upd H2 p1 (HO.tup [V.str (Str.ofString "never"),V.int 0])=H3 at s3 k3 ⊢;refine ⟨by show 2<=sizeLine;omega,λp2 RZ=>?_⟩;have s4:=xk (o:=HO.tup [V.str (Str.ofString "never"),V.int 0]) RZ;have k4:upd H3 p2 (HO.tup [V.str (Str.ofString "never"),V.int 0]) p2=some (.tup [V.str (Str.ofString "never"),V.int 0]):=xg;generalize upd H3 p2 (HO.tup [V.str (Str.ofString "never"),V.int 0])=H4 at s4 k4 ⊢;exact ⟨0,p1,p2,_,_,(λ_=>true),true,by decide,rfl,rfl,.inr ⟨bC.of (s4 _ _ k3),bC.of k4⟩,rfl,MU rfl rfl,q H4 (((s1.trans s2).trans s3).trans s4)⟩
   ·exact absurd sv no
  ·refine (zr rfl (zr rfl (aF rfl ?_)));rcases Sk with ⟨i,l1,kt,nv,_⟩ | ⟨l1,lp,Tl,h,P,kt,sv,tt,pr,dp,len⟩
   ·exact absurd (kR gd wk le) (Mp nv)
   ·have YJ:=s2 _ _ kt;have mm:=LJ gd hk (λx hx=>by cases zK.mp hx;exact hw) dp sv tt.tr tt.sv (by rw [zA];exact len);have eT:=KD gd ls wk le lc mm;rw [zA] at eT;refine (zr rfl (dW YJ rfl ⟨rfl,zr rfl (aI rfl (zr rfl (dW YJ rfl ⟨l1,zr rfl ⟨.inl (aH.of (s2 _ _ tt.top)),zr rfl ⟨lr,zr rfl ⟨.inl (aH.of kr),rfl,?_⟩⟩⟩⟩)))⟩));rw [decide_eq_true (by rw [zA,zA,eT,lc])];exact q H2 (s1.trans s2)
theorem Kl:cW T.Kj P w base 8 (qg K a.tP cK):=by
 have Cl:=FL P w base T B;have Ab:=wj P w base T B;have Hf:=II P w base T B;have IT:=Ih P w base T B;have Iq:=Hs P w base T B;have Jb:=Io P w base T B;have Jo:=IH P w base T B;have Jc:=Ip P w base T B;refine T.Kj.F.ok JO (λvs H Q E h=>?_) (λbr A outer s H vs Q E hr h=>?_)
 ·obtain ⟨_,_,rfl,_⟩:=h;rfl
 ·have nd:=JO.nd;have hu:=hr.units;obtain ⟨sa,ns,rfl,hS,hlen,mt,q⟩:=h;refine ⟨_,(xh (xy (xt (i:=1) nd rfl rfl (aU Jb hr T.DN (xb (xf (pv 0) xl rfl)))) (xy (xt (i:=2) nd rfl rfl (WO (wv iH (xr (xw rfl) (by rfl) T.bw PySem.boot_len (xb (xf (xz (wE rfl) (pv 1) xi (λ_ _=>rfl)) xl rfl))) xi (aB _)) (c6 (wv iH (xr (xw rfl) (by rfl) T.bw PySem.boot_len (xb (xf (xz (wE rfl) (pv 1) xi (λ_ _=>rfl)) xl rfl))) xi (aB _))))) (xy (wl PassesOwn.never rfl (Mi rfl T.cQ (xb (xf xi (xf (xr (ki rfl) (by rfl) T.P4 PyProof.Rows.boot_max (xb (xf xi (xf (xr (pR rfl) (by rfl) T.Ls PyProof.Rows.boot_min (xb (xf xi (xf (xr (xw rfl) (by rfl) T.bw PySem.boot_len (xb (xf (pv 0) xl rfl))) xl rfl) rfl))) xl rfl) rfl))) xl rfl) rfl))) (xp (i:=3) nd rfl rfl) (xh (xy (xt (i:=4) nd rfl rfl (aU Cl hr T.AW (xb (xf (pv 0) (xf (pv 3) xl rfl) rfl)))) (xy (xt (i:=5) nd rfl rfl (aU Ab hr T.Ac (xb (xf (pv 4) (xf (xr (xw rfl) (by rfl) T.bw PySem.boot_len (xb (xf (xz (wE rfl) (pv 1) xi (λ_ _=>rfl)) xl rfl))) xl rfl) rfl)))) (xy (xt (i:=6) nd rfl rfl (aU Hf hr T.C4 (xb (xf (pv 4) (xf (pv 1) (xf xi xl rfl) rfl) rfl)))) (xy (xt (i:=7) nd rfl rfl (wZ (xb (xf (aU Ab hr T.Ac (xb (xf (pv 4) (xf (xr (xw rfl) (by rfl) T.bw PySem.boot_len (xb (xf (xz (wE rfl) (pv 1) xi (λ_ _=>rfl)) xl rfl))) xl rfl) rfl))) (xf (aU Hf hr T.C4 (xb (xf (pv 4) (xf (pv 1) (xf xi xl rfl) rfl) rfl))) xl rfl) rfl)))) (xy (xt (i:=8) nd rfl rfl (dN (jd rfl) (wx (own:=["_law_walker"]) (caps:=[7]) rfl (show aK ["_law_walker"] [7] ["_law_script", "_law_book_here", "_law_many", "_law_k", "_law_purse_here", "_law_sender", "_law_since", "_law_wish", "_law_more", "_law_wishes", "_law_found", "_law_own_here", "_law_noughts"] (aj Jf) _ from L2.iz) (qT rfl T.cQ (xb (xf (xr (xw rfl) (by rfl) T.bw PySem.boot_len (xb (xf (xz (wE rfl) (pv 1) xi (λ_ _=>rfl)) xl rfl))) xl rfl))) (λ_ _ _ _=>(xp (i:=0) (show List.Nodup (["_law_walker", "_law_wish"]:List Str) from by decide +kernel) rfl rfl)) (λ_ _ _ _=>qm (wD iG (pv 0) (xz (wE rfl) (pv 1) xi (λ_ _=>rfl)) (aB _))) (λ_ _ _ _=>(wZ (xb (xf (pv 0) (xf (wA iW xi xi) xl rfl) rfl))))) ia (dm xi))) (xy (wl PassesOwn.never rfl (wU rfl (wM (xb (xf (wM (xb (xf (pv 7) xl rfl))) (xf (wA gE (wM (xb (xf (pv 7) xl rfl))) (pv 8)) xl rfl) rfl)))) (xp (i:=9) nd rfl rfl) (xh (xy (qN (aU Jo hr T.EL (xb (xf (pv 1) (xf (pv 5) (xf (pv 6) (xf (pv 9) xl rfl) rfl) rfl) rfl))) (Rq (n:=2) rfl (xo (xp (i:=10) nd rfl rfl) (xo (xp (i:=11) nd rfl rfl) wH)))) (xy (wK (PW.pt (gu (PW.pt (dM (wR (pv 2)) (di (wb (wR (pv 11)))))) (dJ (PW.pt (dM (wb (wR (pv 2))) (di (PW.pt (gu (wb (wR (xr (wf) (by rfl) T.az zL (xb (xf (pv 10) (xf (cO (v:=V.ty "tuple") rfl T.jC yj rfl) xl rfl) rfl))))) (dJ (wD iG (xr (xw rfl) (by rfl) T.bw PySem.boot_len (xb (xf (pv 10) xl rfl))) xi (aB _))))))))))) (xh (wB (xu qV))) wC) (xy (wK (PW.pt (dM (wb (wR (pv 2))) (dM (wD iG (xz (wE rfl) (pv 10) xi (λ_ _=>rfl)) jZ (aB _)) (di (wD iG (xz (wE rfl) (pv 10) xi (λ_ _=>rfl)) jZ (aB _)))))) (xh (wB (xu qV))) wC) (xy (wK (PW.pt (dM (wb (wR (pv 2))) (dM (wD (OG hu) (pv 9) (wM (xb (xf (pv 7) xl rfl))) (aB _)) (di (wb (wR (aU Jc hr T.DP (xb (xf (pv 1) (xf (pv 5) (xf (pv 6) (xf (pv 7) (xf (pv 10) xl rfl) rfl) rfl) rfl) rfl))))))))) (xh (wB (xu qV))) wC) (xy (vn (ix:=12) nd rfl rfl (own:=["_law_at"]) (caps:=[1,9]) rfl (show aK ["_law_at"] [1,9] ["_law_script", "_law_book_here", "_law_many", "_law_k", "_law_purse_here", "_law_sender", "_law_since", "_law_wish", "_law_more", "_law_wishes", "_law_found", "_law_own_here", "_law_noughts"] (aj Jf) _ from L2.iz) (qT rfl T.cQ (xb (xf (wA wJ (xr (xw rfl) (by rfl) T.bw PySem.boot_len (xb (xf (xz (wE rfl) (pv 1) xi (λ_ _=>rfl)) xl rfl))) xi) xl rfl))) (λ_ _ _ _=>(xp (i:=0) (show List.Nodup (["_law_at", "_law_book_here", "_law_wishes"]:List Str) from by decide +kernel) rfl rfl)) (λ_ _ _ _=>ww) (λ_ _ _ _=>(wx (own:=["_law_room"]) (caps:=[2]) rfl (show aK ["_law_room"] [2] ["_law_at", "_law_book_here", "_law_wishes"] (relabel _ _) _ from aK.YK rfl (by decide +kernel) (by decide +kernel) (by decide +kernel) (by decide +kernel)) (sY rfl (xz (wE rfl) (pv 1) xi (λ_ _=>rfl))) (λ_ _ _ _=>(xp (i:=0) (show List.Nodup (["_law_room", "_law_wishes"]:List Str) from by decide +kernel) rfl rfl)) (λ_ _ _ _=>ww) (λ_ _ _ _=>(wA Um (wM (xb (xf xi xl rfl))) (wA dO xi (xr (xw rfl) (by rfl) T.bw PySem.boot_len (xb (xf (pv 1) xl rfl))))))))) (wB (wK (wD iG (aU IT hr T.DG (xb (xf (pv 1) (xf (pv 5) (xf (pv 6) (xf (pv 9) (xf (pv 12) xl rfl) rfl) rfl) rfl) rfl))) xi (aB _)) (xh (wB (xu qV))) wC))))))))) (wB (wK (wD Ry (aU Iq hr T.Di (xb (xf (pv 1) (xf (pv 5) (xf (pv 6) (xf (wM (xb (xf (wZ (xb (xf (pv 5) (xf (pv 6) xl rfl) rfl))) xl rfl))) (xf (wM qX) xl rfl) rfl) rfl) rfl) rfl))) qV (aB _)) (xh (wB (xu qV))) wC)))))))))) (wB (xu qV)))))),?_⟩;have line:=bA;have PD:(2:Int) ^ 200 > 10000:=by decide
  have c9:KJ 10 9:=⟨by decide,by decide,by decide⟩;have ten:(10:Int) ^ (9:Int).toNat=1000000000:=by decide
  refine (zr rfl ⟨sa,ns,rfl,hS,hlen,λb aa tr tm ps H6 s6 hb gd Yy jY=>?_⟩);have VP:=mt.bR s6;have hS6:=s6.seq hS;have SH:=gd.len;clear s6 hS mt;refine Uw rfl hb ?_;refine (zr rfl ⟨sa,zr rfl ⟨.inl hS6,nU rfl (nU rfl (nU rfl ⟨⟨by decide,by decide,?_,?_⟩,?_⟩))⟩⟩)
  ·split <;> (try split) <;> omega
  ·rw [zA];split <;> (try split) <;> omega
  refine ir (lo:=3) (λi σ H8=>(∃ v3 v4 v5 v6 v7 v8 v9 v10 v11 QK,σ=[some (.ref sa),some (.ref b),some (.bl (kB aa ps)),v3,v4,v5,v6,v7,v8,v9,v10,v11,QK])/\cX a.tP H6 H8/\MT a.tP cK jq H8) ⟨⟨_,_,_,_,_,_,_,_,_,_,rfl⟩,cX.refl _ _,VP⟩ ?_ ?_
  ·rintro i σ H8 hi ⟨⟨v3,v4,v5,v6,v7,v8,v9,v10,v11,QK,rfl⟩,b8,YF⟩;have i60:i < 90:=by
    rw [zA] at hi
    revert hi
    split <;> (try split) <;> intro h <;> omega
   have hS8:=MT.seq VP b8 hS6;have hb8:=hb.kj VP b8;clear hb hS6 hi;refine (zr rfl (zr rfl ⟨sa,ns,3 + i,by simp,hS8,by omega,λp2 H9 RZ YA s9=>?_⟩));have YW:=hb8.same s9;refine (zr rfl (zr rfl (dW YW.book rfl ⟨tr,zr rfl ⟨.inr (bC.of YW.aa),p2,zr rfl ⟨by rw [zA];omega,by rw [zA];omega,YA,λd HA d0 d1 gA=>?_⟩⟩⟩)));rw [zA] at d1;obtain ⟨k,rfl⟩:=zj d0;have hk:k < aa.length:=by omega
   have hbA:=YW.aS (gA.aS YA);refine (zr rfl (zr rfl (rG p2 b 0 aa tr tm ps ⟨rfl,.inl rfl,hbA,gd,gA.2,λa0 HB Wa V9 gB=>?_⟩)));have YV:=hbA.aS (gB.aS gA.2);refine (zr rfl (zr rfl (dW YV.book rfl ⟨tr,zr rfl ⟨.inr (bC.of YV.aa),p2,zr rfl ⟨by rw [zA];omega,by rw [zA];omega,gB.2,λw HC e0 e1 gC=>?_⟩⟩⟩)));rw [zA] at e1;obtain ⟨w0,rfl⟩:=zj e0;have hw:w0 < aa.length:=by omega
   have hbC:=YV.aS (gC.aS gB.2);refine (zr rfl (zr rfl (rG p2 b 1 aa tr tm ps ⟨rfl,.inr rfl,hbC,gd,gC.2,λz0 HD Ys Yr gD=>?_⟩)));have hbD:=hbC.aS (gD.aS gC.2);have gAD:=((gA.trans gB).trans gC).trans gD;have bD:cX a.tP H8 HD:=λc u n e=>gAD.1 c u (xj e RZ) (s9 _ _ e);have mtD:=(YF.bR s9).go YA gAD;clear gAD gD hbC gC YV gB hbA gA YA YW;refine ⟨by show 2<=sizeLine;omega,λx hx=>?_⟩;have sE:=xk (o:=HO.tup [V.int (w0:Int),V.int z0]) hx;have kx:upd HD x (HO.tup [V.int (w0:Int),V.int z0]) x=some (.tup [V.int (w0:Int),V.int z0]):=xg;generalize upd HD x (HO.tup [V.int (w0:Int),V.int z0])=HE at sE kx ⊢;have YU:=hbD.same sE;have bE:=bD.eX sE;have mtE:=mtD.bR sE;clear hbD bD mtD sE hx;refine (zr rfl (dW YU.book rfl ⟨tr,zr rfl ⟨.inr (bC.of YU.aa),zr rfl ⟨by rw [zA];omega,by rw [zA];omega,?_⟩⟩⟩));rw [zu,zA];refine dS (lo:=0) (m:=aa.length) (λj τ acc H5=>∃ vs:List (Addr×Nat×Int),(∃ t0,τ=[t0,some (.ref x)])/\acc=(vs.map λa=>V.ref a.1)/\vs.length<=j/\au HE H5/\∀ y∈vs,(H5 y.1=some (.tup [.int (y.2.1:Int),.int y.2.2])/\y.2.1 < aa.length)/\y.2.2=1000000000) ⟨[],⟨_,rfl⟩,rfl,zF _,au.refl _,(λ_ z=>nomatch z)⟩ (by omega) ?_ ?_ ?_
   ·rintro j τ acc H5 ⟨vs,_,rfl,le,_,_⟩;rw [zA];exact le
   ·rintro j τ acc H5 C hj ⟨vs,⟨t0,rfl⟩,rfl,le,s5,hv⟩ hC;rw [Int.zero_add];refine (zr rfl (zr rfl (dW (s5 _ _ kx) rfl ⟨rfl,zr rfl ?_⟩)));by_cases c:j=w0
    ·exact aF (by rw [c];simp) (hC _ _ _ ⟨vs,⟨_,rfl⟩,rfl,by omega,s5,hv⟩)
    refine aI (by rw [decide_eq_false (λz=>c (by have:=V.int.inj z;omega))];rfl) (zr rfl (aM rfl rfl ⟨c9,by show 2<=sizeLine;omega,λt ht=>?_⟩));have s6:=xk (o:=HO.tup [V.int (j:Int),V.int ((10:Int) ^ (9:Int).toNat)]) ht;have k6:upd H5 t (HO.tup [V.int (j:Int),V.int ((10:Int) ^ (9:Int).toNat)]) t=some (.tup [V.int (j:Int),V.int 1000000000]):=by rw [xg,ten]
    refine hC _ _ _ ⟨vs++[(t,j,1000000000)],⟨_,rfl⟩,by rw [zH];rfl,by rw [zN];exact xY le,s5.trans s6,λy hy=>?_⟩;rcases zX.mp hy with h | h
    ·exact ⟨⟨s6 _ _ (hv y h).1.1,(hv y h).1.2⟩,(hv y h).2⟩
    ·cases zK.mp h;exact ⟨⟨k6,hj⟩,rfl⟩
   rintro τ acc H5 ⟨Tn,⟨t0,rfl⟩,rfl,_,s5,hv0⟩ lc gO;have s6:=xk (o:=HO.lst (Tn.map λa=>V.ref a.1)) gO;have k6:upd H5 lc (HO.lst (Tn.map λa=>V.ref a.1)) lc=some (.lst (Tn.map λa=>V.ref a.1)):=xg;generalize upd H5 lc (HO.lst (Tn.map λa=>V.ref a.1))=HF at s6 k6 ⊢;refine (zr rfl ⟨lc,zr rfl ⟨aH.of k6,λlm hlm=>?_⟩⟩);rw [show i0 (Tn.map λa=>V.ref a.1) none (some 1)=((Tn.take 1).map λa=>V.ref a.1) from (uf _ 1).trans List.map_take.symm];obtain ⟨vs,ev,lv1,hv⟩:∃ vs:List (Addr×Nat×Int),Tn.take 1=vs/\vs.length<=1/\∀ y∈vs,(HF y.1=some (.tup [.int (y.2.1:Int),.int y.2.2])/\y.2.1 < aa.length)/\y.2.2=1000000000:=⟨_,rfl,by rw [zY];omega,λy hy=>by
    have:=hv0 y (List.mem_of_mem_take hy);exact ⟨⟨s6 _ _ this.1.1,this.1.2⟩,this.2⟩⟩
   rw [ev];have s7:=xk (o:=HO.lst (vs.map λa=>V.ref a.1)) hlm;have k7:upd HF lm (HO.lst (vs.map λa=>V.ref a.1)) lm=some (.lst (vs.map λa=>V.ref a.1)):=xg;generalize upd HF lm (HO.lst (vs.map λa=>V.ref a.1))=HG at s7 k7 ⊢;have WD:=(s5.trans s6).trans s7;have hbG:=YU.same WD;have bG:=bE.eX WD;have mtG:=mtE.bR WD;have kxG:=WD _ _ kx
   replace hv:∀ y∈vs,(HG y.1=some (.tup [.int (y.2.1:Int),.int y.2.2])/\y.2.1 < aa.length)/\y.2.2=1000000000:=λy hy=>⟨⟨s7 _ _ (hv y hy).1.1,(hv y hy).1.2⟩,(hv y hy).2⟩
   clear WD YU bE mtE kx k6 s5 s6 s7 hv0 ev gO hlm;refine (zr rfl ⟨by show 1<=sizeLine;omega,λl1 hl1=>?_⟩);have w1:=xk (o:=HO.lst [V.ref x]) hl1;have n1:upd HG l1 (HO.lst [V.ref x]) l1=some (.lst [V.ref x]):=xg;generalize upd HG l1 (HO.lst [V.ref x])=HI at w1 n1 ⊢;refine (zr rfl ⟨by show 1<=sizeLine;omega,λl2 rZ=>?_⟩);have w2:=xk (o:=HO.lst [V.ref x]) rZ;have n2:upd HI l2 (HO.lst [V.ref x]) l2=some (.lst [V.ref x]):=xg;generalize upd HI l2 (HO.lst [V.ref x])=HJ at w2 n2 ⊢;refine (zr rfl ⟨l2,lm,aM rfl rfl ⟨n2,w2 _ _ (w1 _ _ k7),by rw [zA];show 1 + _<=_;omega,λl3 VZ=>?_⟩⟩);have w3:=xk (o:=HO.lst ([V.ref x]++vs.map λa=>V.ref a.1)) VZ;have n3:upd HJ l3 (HO.lst ([V.ref x]++vs.map λa=>V.ref a.1)) l3=some (.lst (((x,w0,z0)::vs).map λa=>V.ref a.1)):=xg;generalize upd HJ l3 (HO.lst ([V.ref x]++vs.map λa=>V.ref a.1))=HK at w3 n3 ⊢;refine ⟨by show 2<=sizeLine;omega,λll hll=>?_⟩;have w4:=xk (o:=HO.lst [V.ref l1,V.ref l3]) hll;have n4:upd HK ll (HO.lst [V.ref l1,V.ref l3]) ll=some (.lst [V.ref l1,V.ref l3]):=xg;generalize upd HK ll (HO.lst [V.ref l1,V.ref l3])=HL at w4 n4 ⊢;have VL:=((w1.trans w2).trans w3).trans w4;have n1L:=w4 _ _ (w3 _ _ (w2 _ _ n1));have n3L:=w4 _ _ n3;have hbL:=hbG.same VL;have bL:=bG.eX VL;have Uu:=mtG.bR VL;have kxL:=VL _ _ kxG
   replace hv:∀ y∈vs,(HL y.1=some (.tup [.int (y.2.1:Int),.int y.2.2])/\y.2.1 < aa.length)/\y.2.2=1000000000:=λy hy=>⟨⟨VL _ _ (hv y hy).1.1,(hv y hy).1.2⟩,(hv y hy).2⟩
   clear VL w1 w2 w3 w4 n1 n2 n3 hbG bG mtG kxG k7 hl1 rZ VZ hll;refine ⟨ll,rfl,⟨_,aH.of n4⟩,?_⟩;refine cV (K:=K) (a:=ll) (xs:=[V.ref l1,V.ref l3]) (λi2 σ oB=>(∃ v9 v10 v11 QK,σ=[some (.ref sa),some (.ref b),some (.bl (kB aa ps)),some (.int (3 + (i:Nat))),some (.ref p2),some (.int (k:Int)),some (.int a0),some (.ref x),some (.ref lm),v9,v10,v11,QK])/\cX a.tP HL oB/\MT a.tP cK jq oB) ⟨⟨_,_,_,_,rfl⟩,cX.refl _ _,Uu⟩ ?_ ?_ ?_
   ·rintro i2 σ oB _ ⟨_,QE,_⟩;exact aH.of (cT Uu QE n4)
   ·rintro i2 v σ oB RX ⟨⟨v9,v10,v11,QK,rfl⟩,QE,RD⟩;obtain ⟨lo,ws,rfl,Vi,klo⟩:∃ lo,∃ ws:List (Addr×Nat×Int),v=V.ref lo/\(ws=[(x,w0,z0)]\/ws=(x,w0,z0)::vs)/\HL lo=some (.lst (ws.map λa=>V.ref a.1)):=by
     match i2,RX with
     | 0,RX=>cases RX;exact ⟨l1,zr rfl ⟨.inl rfl,n1L⟩⟩
     | 1,RX=>cases RX;exact ⟨l3,zr rfl ⟨.inr rfl,n3L⟩⟩
    have two:ws=[(x,w0,z0)]\/∃ y,ws=[(x,w0,z0),y]/\y∈vs:=by
     rcases Vi with e | e
     ·exact .inl e
     ·rcases vs with _ | ⟨y,_ | ⟨y2,ys⟩⟩
      ·exact .inl e
      ·exact .inr ⟨y,e,.head _⟩
      ·simp only [zW] at lv1;omega
    have cw:uG a.tP cK oB b aa tr tm ps k a0 lo ws:=by
     have each:∀ y∈ws,(HL y.1=some (.tup [.int (y.2.1:Int),.int y.2.2])/\y.2.1 < aa.length)/\0<=y.2.2/\y.2.2<=1000000000:=λy hy=>by
      have me:((HL x=some (.tup [.int (w0:Int),.int z0])/\w0 < aa.length)/\0<=z0/\z0<=1000000000):=⟨⟨kxL,hw⟩,Ys,Yr⟩;rcases two with e | ⟨y2,e,m2⟩
      ·rw [e] at hy;cases zK.mp hy;exact me
      ·rw [e] at hy;rcases zO.mp hy with rfl | hy
       ·exact me
       ·cases zK.mp hy;exact ⟨(hv _ m2).1,by rw [(hv _ m2).2];decide,by rw [(hv _ m2).2];decide⟩
     refine ⟨hbL.kj Uu QE,gd,Yy,jY,hk,Wa,V9,⟨cT Uu QE klo,λy hy=>⟨jb Uu QE (each y hy).1.1,(each y hy).1.2⟩⟩,λy hy=>(each y hy).2,?_,?_,RD⟩
     ·rcases two with e | ⟨y2,e,_⟩ <;> rw [e] <;> simp
     ·rcases two with e | ⟨y2,e,_⟩ <;> rw [e] <;> simp
    have aaP:=jb Uu QE kxL;refine (zr rfl (zr rfl (zr rfl (zr rfl (V4 b k a0 lo aa tr tm ps ws ⟨rfl,cw,λq2 fv Zg b13 m13 kq ht=>?_⟩)))));have Vn:=cw.but b13 m13;have aaO:=jb RD b13 aaP;refine ⟨q2,zr rfl ⟨aH.of kq,rfl,nU rfl (aM rfl rfl ?_)⟩⟩;refine MG (λQ2 q3=>?_) λWf Nq=>?_
    ·cases eb:kB aa ps with
     | true=>exact (zr rfl (zr rfl (aI rfl (zr rfl (zr rfl (aF rfl (zr rfl (zr rfl (aF rfl (q3 _ (au.refl _)))))))))))
     | false=>
      obtain ⟨t,rfl,told⟩:=ht eb;obtain ⟨s0,u,v',kt,_⟩:=told.tup;exact (zr rfl (zr rfl (aF rfl (aF rfl (zr rfl (zr rfl (aI rfl (zr rfl ⟨_, "tuple", "tuple", rfl,cN kt,.inr (.inr (.inr rfl)),zr rfl (aF rfl (zr rfl ⟨t,zr rfl ⟨.inr (bC.of kt),rfl,zr rfl (q3 _ (au.refl _))⟩⟩))⟩))))))))
    refine tV (λQ2 q3=>?_) λYp Sv=>?_
    ·cases eb:kB aa ps with
     | true=>exact (zr rfl (zr rfl (aF rfl (q3 _ (au.refl _)))))
     | false=>
      obtain ⟨t,rfl,told⟩:=ht eb;obtain ⟨s0,u,v',kt,e0 | e0⟩:=(told.same Nq).tup
      ·subst e0;exact (zr rfl (zr rfl (aI rfl (zr rfl (dW kt rfl ⟨rfl,zr rfl (aI rfl (zr rfl (dW kt rfl ⟨rfl,zr rfl (q3 _ (au.refl _))⟩)))⟩)))))
      ·subst e0;exact (zr rfl (zr rfl (aI rfl (zr rfl (dW kt rfl ⟨rfl,zr rfl (aF rfl (q3 _ (au.refl _)))⟩)))))
    have sO:=Nq.trans Sv;refine tV (λQ2 q3=>?_) λWe Od=>?_
    ·cases eb:kB aa ps with
     | true=>exact (zr rfl (zr rfl (aF rfl (q3 _ (au.refl _)))))
     | false=>
      obtain ⟨t,rfl,told⟩:=ht eb;have X7:=Vn.same sO;have TF:=told.same sO;have aaN:=sO _ _ aaO;refine (zr rfl (zr rfl (aI rfl (zr rfl (zr rfl ⟨by show 1<=sizeLine;omega,λl9 h9=>?_⟩)))));have Ub:=xk (o:=HO.lst [V.ref x]) h9;have k9:upd Yp l9 (HO.lst [V.ref x]) l9=some (.lst [V.ref x]):=xg;generalize upd Yp l9 (HO.lst [V.ref x])=HZ at Ub k9 ⊢;have SJ:=(X7.same Ub).wa.1;rcases two with e | ⟨y2,e,_⟩
      ·subst e;refine ⟨0,lo,l9,_,_,(λ_=>true),true,by decide,rfl,rfl,.inl ⟨aH.of SJ,aH.of k9⟩,rfl,(λj u v' h1 h2=>by
        have:j=0:=by have:=(zD.mp h2).1;simp only [zq] at this;omega
        subst this;cases h1;cases h2;exact .inl ⟨rfl,⟨_,rfl⟩,rfl⟩),_,rfl,aI rfl ?_⟩
       exact (zr rfl (zr rfl (zr rfl (zr rfl (zr rfl (Px b k a0 x t aa tr tm ps w0 z0 ⟨rfl,(X7.same Ub).bk,gd,jY,hk,hw,Wa,V9,Ys,Yr,Ub _ _ aaN,TF.same Ub,λH' s'=>(zr rfl (q3 H' (Ub.trans s')))⟩))))))
      ·subst e;refine ⟨0,lo,l9,_,_,(λ_=>true),false,by decide,rfl,rfl,.inl ⟨aH.of SJ,aH.of k9⟩,rfl,(λj u v' h1 h2=>by
        have:j=0:=by have:=(zD.mp h2).1;simp only [zq] at this;omega
        subst this;cases h1;cases h2;exact .inl ⟨rfl,⟨_,rfl⟩,rfl⟩),_,rfl,aF rfl (q3 _ Ub)⟩
    have PR:=Vn.same (sO.trans Od);have XR:=PR.bk;have sz2:2 * ws.length=2 ^ ws.length:=by rcases two with e | ⟨y2,e,_⟩ <;> rw [e] <;> rfl
    have ws4:=PR.w4;have b16:cX a.tP HL We:=(QE.trans b13).eX (sO.trans Od);clear ht kq Vn cw;refine (zr rfl (dW XR.book rfl ⟨tm,zr rfl ⟨.inr (bC.of XR.meets),aM rfl rfl ⟨((ps.length + 1:Nat):Int),by rw [zA];rfl,by omega,by omega,?_⟩⟩⟩));rw [zu];refine dS (lo:=0) (m:=ps.length + 1) (λj τ acc Qk=>∃ P:List bK,(∃ t0,τ=[t0,some (.ref b),some (.ref lo)])/\acc=(P.map λa=>V.ref a.1)/\P.length=j/\au We Qk/\∀ a∈P,Nd Qk aa.length (2 * ws.length) a) ⟨[],⟨_,rfl⟩,rfl,rfl,au.refl _,(λ_ z=>nomatch z)⟩ (by omega) ?_ ?_ ?_
    ·rintro j τ acc Qk ⟨P,_,rfl,e,_,_⟩;rw [zA,e];exact zF _
    ·rintro j τ acc Qk C hj ⟨P,⟨t0,rfl⟩,rfl,e,Np,zP⟩ hC;have Sb:=PR.same Np;refine (zr rfl (dW Sb.bk.book rfl ⟨tr,rfl,⟨_,bC.of Sb.bk.aa⟩,?_⟩));refine ug (K:=K) (a:=tr) (xs:=aa.map V.int) (λj2 bH Sf Td=>∃ B:List jH,(∃ t1,bH=[t1,some (.ref lo)])/\Sf=(B.map λb=>V.ref b.1)/\B.length=j2/\au Qk Td/\∀ b∈B,P8 Td (2 * ws.length) b) ⟨[],⟨_,rfl⟩,rfl,rfl,au.refl _,(λ_ z=>nomatch z)⟩ (by rw [zA];omega) ?_ ?_ ?_
     ·rintro j2 bH Sf Td ⟨B,_,rfl,e2,Nn,_⟩;exact ⟨by rw [zA,e2];exact zF _,bC.of (Nn _ _ Sb.bk.aa)⟩
     ·rintro j2 v2 bH Sf Td C2 afP ⟨B,⟨t1,rfl⟩,rfl,e2,Nn,zB⟩ hC2;refine ⟨by show 1<=sizeLine;omega,λl0 Qw=>?_⟩;have Qp:=xk (o:=HO.lst [V.int 0]) Qw;have k19:upd Td l0 (HO.lst [V.int 0]) l0=some (.lst [V.int 0]):=xg;generalize upd Td l0 (HO.lst [V.int 0])=H19 at Qp k19 ⊢;refine (zr rfl ⟨lo,zr rfl ⟨.inl (aH.of (Qp _ _ (Nn _ _ Sb.wa.1))),aM rfl rfl ⟨.inl ⟨by decide,by decide⟩,l0,aM rfl rfl ⟨k19,by omega,by rw [zA];omega,by rw [zA];show 1 * _<=sizeLine;omega,λl hl=>?_⟩⟩⟩⟩);have en:((2:Int) * (((ws.map λa=>V.ref a.1).length:Nat):Int)).toNat=2 * ws.length:=by rw [zA];omega
      rw [en,NG];have s20:=xk (o:=HO.lst ((List.replicate (2 * ws.length) (0:Int)).map V.int)) hl;refine hC2 _ _ _ ⟨B++[(l,List.replicate (2 * ws.length) 0)],⟨_,rfl⟩,by rw [zH];rfl,by rw [zN,e2];rfl,(Nn.trans Qp).trans s20,λy hy=>?_⟩;rcases zX.mp hy with h | h
      ·exact (zB y h).same (Qp.trans s20)
      ·cases zK.mp h;exact ⟨xg,rfl⟩
     ·rintro bH Sf Td ⟨B,⟨t1,rfl⟩,rfl,e2,Nn,zB⟩ lc gO;rw [zA] at e2;have Qp:=xk (o:=HO.lst (B.map λb=>V.ref b.1)) gO;refine hC _ _ _ ⟨P++[(lc,B)],⟨_,rfl⟩,by rw [zH];rfl,by rw [zN,e];rfl,(Np.trans Nn).trans Qp,λy hy=>?_⟩;rcases zX.mp hy with h | h
      ·exact (zP y h).same (Nn.trans Qp)
      ·cases zK.mp h;exact ⟨xg,e2,λb hb=>(zB b hb).same Qp⟩
    ·rintro τ acc Qk ⟨P,⟨t0,rfl⟩,rfl,e,Np,zP⟩ lp YR;have Nn:=xk (o:=HO.lst (P.map λa=>V.ref a.1)) YR;have k18:upd Qk lp (HO.lst (P.map λa=>V.ref a.1)) lp=some (.lst (P.map λa=>V.ref a.1)):=xg;generalize upd Qk lp (HO.lst (P.map λa=>V.ref a.1))=Td at Nn k18 ⊢;have Sa:=PR.same (Np.trans Nn);have pr:=QH k18 e (λa ha=>(zP a ha).same Nn);have zz:=NH zP;rw [sz2] at pr;refine (zr rfl (zr rfl (zr rfl (zr rfl (zr rfl (Py b k a0 lo (.ref lp) aa tr tm ps ws ⟨rfl,hk,Sa.bk,gd,Yy,jY,Sa.wa,Sa.w1,Sa.w4,pr.dt 0,.inr ⟨lp,P,rfl,pr,λ_ H19 Qp=>?_,λnf=>absurd (LB zz) nf⟩⟩))))));have Su:=(Np.trans Nn).trans Qp;refine ⟨rfl,zr rfl (aF (by rw [eB zz];simp) ⟨⟨_,_,_,_,rfl⟩,b16.eX Su,PR.mt.bR Su⟩)⟩
   ·rintro σ oB ⟨⟨v9,v10,v11,QK,rfl⟩,QE,RD⟩;have abH:=hbL.kj Uu QE;refine (zr rfl (zr rfl (zr rfl (zr rfl (zr rfl ⟨by show 2<=sizeLine;omega,λt1 h1=>?_⟩)))));have Sw:=xk (o:=HO.tup [V.int (k:Int),V.int a0]) h1;have Xi:upd oB t1 (HO.tup [V.int (k:Int),V.int a0]) t1=some (.tup [V.int (k:Int),V.int a0]):=xg;generalize upd oB t1 (HO.tup [V.int (k:Int),V.int a0])=Zg at Sw Xi ⊢;refine ⟨by show 1<=sizeLine;omega,λlw SQ=>?_⟩;have Nq:=xk (o:=HO.lst [V.ref t1]) SQ;have k14:upd Zg lw (HO.lst [V.ref t1]) lw=some (.lst [V.ref t1]):=xg;generalize upd Zg lw (HO.lst [V.ref t1])=Wf at Nq k14 ⊢;refine ⟨by show 0<=sizeLine;omega,λle hle=>?_⟩;have Sv:=xk (o:=HO.lst []) hle;have k15:upd Wf le (HO.lst []) le=some (.lst []):=xg;generalize upd Wf le (HO.lst [])=Yp at Sv k15 ⊢;have Oe:=(Sw.trans Nq).trans Sv;have good:TU (tt (ps.map (·.2)) k a0 (some [])) [(t1,k,a0)]=true:=by
     show ([(t1,k,a0)]:List (Addr×Nat×Int)).all (λx=>aW (aA k a0 x.2.1) x.2.2)=true;simp [aA,aW]
    refine (Px b k a0 lw ([(t1,k,a0)]) (.ref le) (some []) aa tr tm ps ⟨rfl,abH.same Oe,hk,jY,gd,.inr ⟨le,[],rfl,rfl,k15,by decide,(λ_ z=>nomatch z)⟩,⟨Sv _ _ k14,λy hy=>by cases zK.mp hy;exact ⟨Sv _ _ (Nq _ _ Xi),hk⟩⟩,by show 1<=20;decide,λWe Od=>(aM rfl rfl (zr rfl (aF (by rw [good];rfl) ⟨⟨_,_,_,_,_,_,_,_,_,_,rfl⟩,b8.trans (((bL.trans QE).eX (Oe.trans Od))),RD.bR (Oe.trans Od)⟩)))⟩)
  ·rintro σ H8 ⟨_,b8,YF⟩;exact q H8
end
theorem all_mk {l:PySem.W.OpenLaw}{w:World}{K:PySem.W.Frag}{h:Heap}{mg:Str->Option Value}{fa D6 EZ F8 D5 E1 BS E2 EY F3 ET GW F5 GV F4 D3 AD EU GX Jw FY FZ HH Cw Hv DY AZ AX A3 AY Av DW EV BR Br F6 DV IL Hw Cy D1 GU Hu ES Dl DX DZ Hy EW DU Dk D4 F7 EX D7 Kk tC tP Ej AQ CH Bs Ei CG AN Aw CF CD CC Eg CB CA AM AL Aa Ef:Addr}(X:K.In h)(G:h.Ns mainGlobals mg)(hfa:mg "law" = some (.ref fa))
  {Cj Dd Ee Ci De AK Dg Dc Ea C7 Fu Ec Ft Eb Cg Am C8 Fv IR D8 D9 GI A4 GF Ce As Aq At Ar Ah Cc C9 AJ AA Ed Cb Hi GG A5 AB Fs E5 C6 By Cd Cf GH Da Ca Bx Ch Cz Db Ck JG:FuncData}{aq:Tok}{ai:Tok}{af:Tok}
  (Bg:zG K mainGlobals "_law_purse" = some (some (.ref D6))) (Ey:bV K "_law_purse" "_law_purse" qI D6 Cj)
  (BN:zG K mainGlobals "_law_take" = some (some (.ref EZ))) (Fk:bV K "_law_take" "_law_take" qU EZ Dd)
  (CO:zG K mainGlobals "_law_far" = some (some (.ref F8))) (Gm:bV K "_law_far" "_law_far" DE F8 Ee)
  (Bf:zG K mainGlobals "_law_rooms" = some (some (.ref D5))) (Ew:bV K "_law_rooms" "_law_rooms" qZ D5 Ci)
  (BO:zG K mainGlobals "_law_step" = some (some (.ref E1))) (Fl:bV K "_law_step" "_law_step" BC E1 De)
  (Ap:zG K mainGlobals "_law_meetings" = some (some (.ref BS))) (BW:bV K "_law_meetings" "_law_meetings" wG BS AK)
  (BP:zG K mainGlobals "_law_book" = some (some (.ref E2))) (Fm:bV K "_law_book" "_law_book" BD E2 Dg)
  (BM:zG K mainGlobals "_law_time" = some (some (.ref EY))) (Fj:bV K "_law_time" "_law_time" wu EY Dc)
  (CK:zG K mainGlobals "is_whole" = some (some (.ref F3))) (Gg:bV K "is_whole" "is_whole" FO F3 Ea)
  (BH:zG K mainGlobals "is_within" = some (some (.ref ET))) (Fe:bV K "is_within" "is_within" EH ET C7)
  (Dz:zG K mainGlobals "is_time" = some (some (.ref GW))) (G3:bV K "is_time" "is_time" GQ GW Fu)
  (CM:zG K mainGlobals "is_below" = some (some (.ref F5))) (Gi:bV K "is_below" "is_below" FQ F5 Ec)
  (Dy:zG K mainGlobals "is_upto" = some (some (.ref GV))) (G2:bV K "is_upto" "is_upto" GP GV Ft)
  (CL:zG K mainGlobals "is_count" = some (some (.ref F4))) (Gh:bV K "is_count" "is_count" FP F4 Eb)
  (Bd:zG K mainGlobals "are_counts" = some (some (.ref D3))) (Eu:bV K "are_counts" "are_counts" BY D3 Cg)
  (Ag:zG K mainGlobals "is_meeting_number" = some (some (.ref AD))) (AE:bV K "is_meeting_number" "is_meeting_number" qP AD Am)
  (BI:zG K mainGlobals "is_walker" = some (some (.ref EU))) (Ff:bV K "is_walker" "is_walker" EI EU C8)
  (DA:zG K mainGlobals "by_time" = some (some (.ref GX))) (G4:bV K "by_time" "by_time" Fo GX Fv)
  (HV:zG K mainGlobals "ways" = some (some (.ref Jw))) (JE:bV K "ways" "ways" GO Jw IR)
  (CI:zG K mainGlobals "other_at" = some (some (.ref FY))) (Ge:bV K "other_at" "other_at" FN FY D8)
  (CJ:zG K mainGlobals "lone_row" = some (some (.ref FZ))) (Gf:bV K "lone_row" "lone_row" DC FZ D9)
  (E9:zG K mainGlobals "all_of" = some (some (.ref HH))) (Ie:bV K "all_of" "all_of" Ho HH GI)
  (Ax:zG K mainGlobals "without_wish" = some (some (.ref Cw))) (CU:bV K "without_wish" "without_wish" Cs Cw A4)
  (E6:zG K mainGlobals "splits" = some (some (.ref Hv))) (HY:bV K "splits" "splits" GA Hv GF)
  (Ba:zG K mainGlobals "is_stretch" = some (some (.ref DY))) (Er:bV K "is_stretch" "is_stretch" qa DY Ce)
  (Ak:zG K mainGlobals "has_prices_form" = some (some (.ref AZ))) (Bl:bV K "has_prices_form" "has_prices_form" wg AZ As)
  (Ai:zG K mainGlobals "is_nothing_free" = some (some (.ref AX))) (Bi:bV K "is_nothing_free" "is_nothing_free" qC AX Aq)
  (Al:zG K mainGlobals "are_wishes_free" = some (some (.ref A3))) (Bm:bV K "are_wishes_free" "are_wishes_free" wW A3 At)
  (Aj:zG K mainGlobals "is_keeping_free" = some (some (.ref AY))) (Bj:bV K "is_keeping_free" "is_keeping_free" wX AY Ar)
  (Af:zG K mainGlobals "is_giving_one_more" = some (some (.ref Av))) (Az:bV K "is_giving_one_more" "is_giving_one_more" wN Av Ah)
  (A8:zG K mainGlobals "price_told" = some (some (.ref DW))) (Eo:bV K "price_told" "price_told" qJ DW Cc)
  (BJ:zG K mainGlobals "is_letter" = some (some (.ref EV))) (Fg:bV K "is_letter" "is_letter" BB EV C9)
  (Ao:zG K mainGlobals "first_givings" = some (some (.ref BR))) (BV:bV K "first_givings" "first_givings" wc BR AJ)
  (An:zG K mainGlobals "earliest_times" = some (some (.ref Br))) (Bw:bV K "earliest_times" "earliest_times" Bo Br AA)
  (CN:zG K mainGlobals "earliest" = some (some (.ref F6))) (Gj:bV K "earliest" "earliest" qG F6 Ed)
  (A7:zG K mainGlobals "still_open" = some (some (.ref DV))) (En:bV K "still_open" "still_open" qb DV Cb)
  (GJ:zG K mainGlobals "least" = some (some (.ref IL))) (Jd:bV K "least" "least" DD IL Hi)
  (E7:zG K mainGlobals "row_of" = some (some (.ref Hw))) (Ic:bV K "row_of" "row_of" EG Hw GG)
  (Ay:zG K mainGlobals "least_prices" = some (some (.ref Cy))) (CV:bV K "least_prices" "least_prices" wt Cy A5)
  (Bc:zG K mainGlobals "best_split" = some (some (.ref D1))) (Et:bV K "best_split" "best_split" BX D1 AB)
  (Dw:zG K mainGlobals "tree_by" = some (some (.ref GU))) (G1:bV K "tree_by" "tree_by" wd GU Fs)
  (Dx:zG K mainGlobals "spread" = some (some (.ref Hu))) (HX:bV K "spread" "spread" Hn Hu E5)
  (BG:zG K mainGlobals "row_after" = some (some (.ref ES))) (Fd:bV K "row_after" "row_after" BA ES C6)
  (AG:zG K mainGlobals "giving_rows" = some (some (.ref Dl))) (Do:bV K "giving_rows" "giving_rows" qR Dl By)
  (A9:zG K mainGlobals "meeting_at" = some (some (.ref DX))) (Ep:bV K "meeting_at" "meeting_at" DB DX Cd)
  (Bb:zG K mainGlobals "chain_back" = some (some (.ref DZ))) (Es:bV K "chain_back" "chain_back" qd DZ Cf)
  (E8:zG K mainGlobals "fewest" = some (some (.ref Hy))) (Id:bV K "fewest" "fewest" Dr Hy GH)
  (BK:zG K mainGlobals "is_giving" = some (some (.ref EW))) (Fh:bV K "is_giving" "is_giving" CY EW Da)
  (A6:zG K mainGlobals "tree_times" = some (some (.ref DU))) (Em:bV K "tree_times" "tree_times" wz DU Ca)
  (AF:zG K mainGlobals "tree_serves" = some (some (.ref Dk))) (Dm:bV K "tree_serves" "tree_serves" qS Dk Bx)
  (Be:zG K mainGlobals "_law_sized" = some (some (.ref D4))) (Ev:bV K "_law_sized" "_law_sized" qK D4 Ch)
  (Bt:zG K mainGlobals "_law_own" = some (some (.ref F7))) (Gk:bV K "_law_own" "_law_own" w8 F7 Cz)
  (BL:zG K mainGlobals "_law_told" = some (some (.ref EX))) (Fi:bV K "_law_told" "_law_told" CZ EX Db)
  (Bh:zG K mainGlobals "_law_alone" = some (some (.ref D7))) (Ez:bV K "_law_alone" "_law_alone" qe D7 Ck)
  (IB:zG K mainGlobals "law" = some (some (.ref Kk))) (JH:bV K "law" "law" Jf Kk JG)
  (z_ValueError:zG K mainGlobals "ValueError" = some none)
  (z_all:zG K mainGlobals "all" = some none)
  (z_any:zG K mainGlobals "any" = some none)
  (z_bool:zG K mainGlobals "bool" = some none)
  (z_enumerate:zG K mainGlobals "enumerate" = some none)
  (z_int:zG K mainGlobals "int" = some none)
  (z_isinstance:zG K mainGlobals "isinstance" = some none)
  (z_len:zG K mainGlobals "len" = some none)
  (z_list:zG K mainGlobals "list" = some none)
  (z_max:zG K mainGlobals "max" = some none)
  (z_min:zG K mainGlobals "min" = some none)
  (z_range:zG K mainGlobals "range" = some none)
  (z_reversed:zG K mainGlobals "reversed" = some none)
  (z_sorted:zG K mainGlobals "sorted" = some none)
  (z_tuple:zG K mainGlobals "tuple" = some none)
  (z_zip:zG K mainGlobals "zip" = some none)
  (g_LAST_TIME:zG K mainGlobals "LAST_TIME" = some (some (.int 1000000000 aq)))
  (g_MOST_SPREAD_WALKERS:zG K mainGlobals "MOST_SPREAD_WALKERS" = some (some (.int 8 ai)))
  (g_MOST_SPREAD_MEETINGS:zG K mainGlobals "MOST_SPREAD_MEETINGS" = some (some (.int 24 af)))
  (IQ:zG K mainGlobals "HasIt" = some (some (.ref Ej)))
  (E4:zG K mainGlobals "MeetError" = some (some (.ref AQ)))
  (HU:zG K mainGlobals "NoBook" = some (some (.ref CH)))
  (GZ:zG K mainGlobals "NoClaim" = some (some (.ref Bs)))
  (IO:zG K mainGlobals "NoDay" = some (some (.ref Ei)))
  (HS:zG K mainGlobals "NoDeed" = some (some (.ref CG)))
  (Gb:zG K mainGlobals "NoLetter" = some (some (.ref AN)))
  (E3:zG K mainGlobals "NoMeeting" = some (some (.ref Aw)))
  (HR:zG K mainGlobals "NoName" = some (some (.ref CF)))
  (HQ:zG K mainGlobals "NoPass" = some (some (.ref CD)))
  (HP:zG K mainGlobals "NoRoom" = some (some (.ref CC)))
  (IN:zG K mainGlobals "NoRow" = some (some (.ref Eg)))
  (HN:zG K mainGlobals "NoRule" = some (some (.ref CB)))
  (HM:zG K mainGlobals "NoText" = some (some (.ref CA)))
  (Ga:zG K mainGlobals "NoWalker" = some (some (.ref AM)))
  (F9:zG K mainGlobals "NotThere" = some (some (.ref AL)))
  (GY:zG K mainGlobals "TooMany" = some (some (.ref Aa)))
  (IM:zG K mainGlobals "Twice" = some (some (.ref Ef)))
  (FM:NI K Aa=true)
  (ff_f_em:PySem.W.exmOne K (.ref Aa) (.ref AQ)=some true)
  (ff_f_ve:zR K (.ref Aa) (.type "ValueError")=some true)
  (ff_f_HasIt:zR K (.ref Aa) (.ref Ej)=some false)
  (ff_f_NoBook:zR K (.ref Aa) (.ref CH)=some false)
  (ff_f_NoClaim:zR K (.ref Aa) (.ref Bs)=some false)
  (ff_f_NoDay:zR K (.ref Aa) (.ref Ei)=some false)
  (ff_f_NoDeed:zR K (.ref Aa) (.ref CG)=some false)
  (ff_f_NoLetter:zR K (.ref Aa) (.ref AN)=some false)
  (ff_f_NoMeeting:zR K (.ref Aa) (.ref Aw)=some false)
  (ff_f_NoName:zR K (.ref Aa) (.ref CF)=some false)
  (ff_f_NoPass:zR K (.ref Aa) (.ref CD)=some false)
  (ff_f_NoRoom:zR K (.ref Aa) (.ref CC)=some false)
  (ff_f_NoRow:zR K (.ref Aa) (.ref Eg)=some false)
  (ff_f_NoRule:zR K (.ref Aa) (.ref CB)=some false)
  (ff_f_NotThere:zR K (.ref Aa) (.ref AL)=some false)
  (ff_f_NoText:zR K (.ref Aa) (.ref CA)=some false)
  (ff_f_NoWalker:zR K (.ref Aa) (.ref AM)=some false)
  (ff_f_Twice:zR K (.ref Aa) (.ref Ef)=some false)
  (h_cd:AB.code=.ref tC) (h_hd:PySem.W.codeHdIn K tC tP=true) :
  ∃ fd:FuncData,(∃ c,PySem.W.codeHdIn K c tP=true)/\(∀ (s:Shared) (v:Value),BindsTo s fd ⟨[v],[]⟩ [("_law_script", v)])/\∀ base:Heap,K.In base->base.Ns mainGlobals mg->aR mg base->iC l.prog w K mg base Ng 8 fa fd ["_law_script"] (qg K tP cK):=by
 have e:=hfa.symm.trans (zp X G IB);cases e;have T:Tx K mg ⟨D6,Cj,EZ,Dd,F8,Ee,D5,Ci,E1,De,BS,AK,E2,Dg,EY,Dc,F3,Ea,ET,C7,GW,Fu,F5,Ec,GV,Ft,F4,Eb,D3,Cg,AD,Am,EU,C8,GX,Fv,Jw,IR,FY,D8,FZ,D9,HH,GI,Cw,A4,Hv,GF,DY,Ce,AZ,As,AX,Aq,A3,At,AY,Ar,Av,Ah,DW,Cc,EV,C9,BR,AJ,Br,AA,F6,Ed,DV,Cb,IL,Hi,Hw,GG,Cy,A5,D1,AB,GU,Fs,Hu,E5,ES,C6,Dl,By,DX,Cd,DZ,Cf,Hy,GH,EW,Da,DU,Ca,Dk,Bx,D4,Ch,F7,Cz,EX,Db,D7,Ck,fa,JG,tC,tP,Ej,AQ,CH,Bs,Ei,CG,AN,Aw,CF,CD,CC,Eg,CB,CA,AM,AL,Aa,Ef⟩ aq ai af:=⟨.of X G Bg Ey,.of X G BN Fk,.of X G CO Gm,.of X G Bf Ew,.of X G BO Fl,.of X G Ap BW,.of X G BP Fm,.of X G BM Fj,.of X G CK Gg,.of X G BH Fe,.of X G Dz G3,.of X G CM Gi,.of X G Dy G2,.of X G CL Gh,.of X G Bd Eu,.of X G Ag AE,.of X G BI Ff,.of X G DA G4,.of X G HV JE,.of X G CI Ge,.of X G CJ Gf,.of X G E9 Ie,.of X G Ax CU,.of X G E6 HY,.of X G Ba Er,.of X G Ak Bl,.of X G Ai Bi,.of X G Al Bm,.of X G Aj Bj,.of X G Af Az,.of X G A8 Eo,.of X G BJ Fg,.of X G Ao BV,.of X G An Bw,.of X G CN Gj,.of X G A7 En,.of X G GJ Jd,.of X G E7 Ic,.of X G Ay CV,.of X G Bc Et,.of X G Dw G1,.of X G Dx HX,.of X G BG Fd,.of X G AG Do,.of X G A9 Ep,.of X G Bb Es,.of X G E8 Id,.of X G BK Fh,.of X G A6 Em,.of X G AF Dm,.of X G Be Ev,.of X G Bt Gk,.of X G BL Fi,.of X G Bh Ez,.of X G IB JH,zo X G z_ValueError,zo X G z_all,zo X G z_any,zo X G z_bool,zo X G z_enumerate,zo X G z_int,zo X G z_isinstance,zo X G z_len,zo X G z_list,zo X G z_max,zo X G z_min,zo X G z_range,zo X G z_reversed,zo X G z_sorted,zo X G z_tuple,zo X G z_zip,h_hd,h_cd,zp X G IQ,zp X G E4,zp X G HU,zp X G GZ,zp X G IO,zp X G HS,zp X G Gb,zp X G E3,zp X G HR,zp X G HQ,zp X G HP,zp X G IN,zp X G HN,zp X G HM,zp X G Ga,zp X G F9,zp X G GY,zp X G IM,oA.of FM,ff_f_em,ff_f_ve,ff_f_HasIt,ff_f_NoBook,ff_f_NoClaim,ff_f_NoDay,ff_f_NoDeed,ff_f_NoLetter,ff_f_NoMeeting,ff_f_NoName,ff_f_NoPass,ff_f_NoRoom,ff_f_NoRow,ff_f_NoRule,ff_f_NotThere,ff_f_NoText,ff_f_NoWalker,ff_f_Twice,zp X G g_LAST_TIME,zp X G g_MOST_SPREAD_WALKERS,zp X G g_MOST_SPREAD_MEETINGS⟩;obtain ⟨_,_,_,_,_,_,_,_,_,rfl,_,_⟩:=JH.ex;exact ⟨_,⟨tC,h_hd⟩,λs v=>.of_eq rfl,λbase _ _ B=>Kl _ _ base T B⟩
theorem walk {l:PySem.W.OpenLaw}{q:Program}{loose:List Str}{XP:(Str->Option Value)->Heap->Prop}{YP:World->Heap->Prop}{d:DefRec}{K:Params->PySem.W.Frag}{T:Addr}(hn:l.most=some 63)(XN:d.params.defaults=[])
  (hY:∀ (w:World) (h:Heap),YP w h->(K w.params).In h/\h.get? T=some (PySem.W.tabObj #[])) (nt:∀ w:World,PySem.W.noTabs (K w.params)=true)
  (F:∀ (w:World) (mg:Str->Option Value) (fa:Addr) (h:Heap),(K w.params).In h->h.Ns mainGlobals mg->mg d.name=some (.ref fa) ->
   ∃ fd:FuncData,(∃ c,PySem.W.codeHdIn (K w.params) c T=true)/\(∀ (s:Shared) (u:Value),BindsTo s fd ⟨[u],[]⟩ [("_law_script", u)])/\∀ base:Heap,(K w.params).In base->base.Ns mainGlobals mg->aR mg base->iC l.prog w (K w.params) mg base Ng 8 fa fd ["_law_script"] (qg (K w.params) T cK)) :
  PySem.W.WalkO q loose XP YP l.row.toRowW d [] (λf vs=>PySem.call f vs):=
 L2.NL (n:=63) (k:=8) (x := "_law_script") (CX:=λ_=>Ng) (sp:=λw=>qg (K w.params) T cK) hn (by decide) XN ⟨rfl,by decide,by decide,rfl⟩ hY nt F (λ_ _ a ns hl hT hS=>⟨a,ns,rfl,hS,hl,.inl hT,λ_=>rfl⟩) λ_ _ _ _ _ z=>z
end Sm
namespace PySem.W.Fast
def tw7124014730880523795:Nat:=0
def tw16396024097733119720:Nat:=0
def tw15332929750741149400:Nat:=0
def tw5359582657747367431:Nat:=0
def tw17153444367330371092:Nat:=0
def tw10145640109406836988:Nat:=0
def tw14069035299978514978:Nat:=0
def tw15138965185939432948:Nat:=0
def tw18148924571035409615:Nat:=0
def tw3734588211155368674:Nat:=0
def tw1609384841507492016:Nat:=0
def tw11168086942349935626:Nat:=0
def tw6037044546218477215:Nat:=0
def tw3022845132506716010:Nat:=0
def tw5821893771096424040:Nat:=0
def tw18435391468394241248:Nat:=0
def tw5192861832408016629:Nat:=0
def tw16465860502084564566:Nat:=0
def tw12364787909536471575:Nat:=0
def tw13908889472779401077:Nat:=0
def tw5939412812221604309:Nat:=0
def tw4965053616828939053:Nat:=0
def tw14338035853187797904:Nat:=0
def tw15203489193865334740:Nat:=0
def tw6735978969490915681:Nat:=0
def tw13403423553207447645:Nat:=0
def tw16633115571164669194:Nat:=0
def tw16832955721981815912:Nat:=0
def tw15289295544009731537:Nat:=0
def tw12302636759623285782:Nat:=0
def tw16037036591254281702:Nat:=0
def tw16512254205593154849:Nat:=0
def tw7174440091120309281:Nat:=0
def tw14894317701748170144:Nat:=0
def tw14548602264784495587:Nat:=0
def tw14116666549804273237:Nat:=0
def tw2499511803184739358:Nat:=0
def tw394480105308894238:Nat:=0
def tw9067223717300927973:Nat:=0
def tw13944969026645005103:Nat:=0
def tw3685961643820918389:Nat:=0
def tw7150527861209672066:Nat:=0
def tw12202179627576537193:Nat:=0
def tw3786439200070270765:Nat:=0
def tw2252970412100239077:Nat:=0
def tw7136768080509286713:Nat:=0
def tw6372357447799660292:Nat:=0
def tw106486101065850306:Nat:=0
def tw3236959601459965310:Nat:=0
def tw2305801580443954380:Nat:=0
def tw5189292333315588621:Nat:=0
def tw1725369675987925860:Nat:=0
def tw11576646590471435477:Nat:=0
def tw137932766804008743:Nat:=0
def tw3794465121613025469:Nat:=0
def tw17126420871128542384:Nat:=0
def tw16970014010216235351:Nat:=0
def tw8690541951832312917:Nat:=0
def tw5622264947254653389:Nat:=0
def tw6066290525212979792:Nat:=0
def tw14696857538133763030:Nat:=0
def tw2629301242860405293:Nat:=0
def tw4531902018032679995:Nat:=0
def tw6892133130057300968:Nat:=0
def tw8629919696597886446:Nat:=0
def tw18168750598984647335:Nat:=0
def tw12949990459884302233:Nat:=0
def tw12831318513807222423:Nat:=0
def tw693365832544761530:Nat:=0
def tw12515351165423782937:Nat:=0
def tw7700663693165899256:Nat:=0
def tw5321634412756556407:Nat:=0
def tw10292923914679397436:Nat:=0
def tw1640888149381512231:Nat:=0
def tw7831746201086715821:Nat:=0
def tw11321070204434119359:Nat:=0
def tw598534097846469194:Nat:=0
def tw10227906791790142207:Nat:=0
def tw10494726425285390391:Nat:=0
def tw17994744513773825894:Nat:=0
def tw16762209099080392941:Nat:=0
def tw15408507647408755330:Nat:=0
def tw1431437878829356345:Nat:=0
def tw13424824073111749887:Nat:=0
def tw14732338356950903622:Nat:=0
def tw17159542082911279622:Nat:=0
def tw18359425303812514151:Nat:=0
def tw12220165373367580007:Nat:=0
def tw10063150253794125985:Nat:=0
def tw3730139773862156912:Nat:=0
def tw16122223337671702280:Nat:=0
def tw13919460330767529586:Nat:=0
def tw7240593028573884789:Nat:=0
def tw17266454577500288572:Nat:=0
def tw202994030412796237:Nat:=0
def tw107584858484918901:Nat:=0
def tw17394885532239126805:Nat:=0
def tw8184191832656507902:Nat:=0
def tw13291490611020645427:Nat:=0
def tw18100774704245658838:Nat:=0
def tw9603850370854385551:Nat:=0
def tw15326070271454145281:Nat:=0
def tw2062475686338644181:Nat:=0
def tw15758538160624248006:Nat:=0
def tw8276750892910454325:Nat:=0
def tw15558418295980727170:Nat:=0
def tw14715515197683665499:Nat:=0
def tw853602559327477495:Nat:=0
def tw7802314305875193882:Nat:=0
def tw10843260628235967643:Nat:=0
def tw7167281717937082873:Nat:=0
def tw9544543327183552063:Nat:=0
def tw5314022839164782979:Nat:=0
def tw4025009866893870189:Nat:=0
def tw4607308698530783559:Nat:=0
def tw174792577056651399:Nat:=0
def tw8194484629621433584:Nat:=0
def tw16646946110618909569:Nat:=0
def tw6484102635177245429:Nat:=0
def tw16422677576550229468:Nat:=0
def tw6307951414937934666:Nat:=0
def tw2454630426594923071:Nat:=0
def tw9000656398927945552:Nat:=0
def tw2028233448501415899:Nat:=0
def tw4778269912793242668:Nat:=0
def tw3948538477956742340:Nat:=0
def tw12330901082932727610:Nat:=0
def tw11221587165402358286:Nat:=0
def tw18296754871049393580:Nat:=0
def tw322796121826167070:Nat:=0
def tw4750179697241812437:Nat:=0
def tw17607775010595474148:Nat:=0
def tw9917946191897709878:Nat:=0
def tw5210351279113935147:Nat:=0
def tw13502089729615980808:Nat:=0
def tw15687027015939246962:Nat:=0
def tw5218015474637654514:Nat:=0
def tw4645002772536603038:Nat:=0
def tw9105133571709632847:Nat:=0
def tw5290583740276974049:Nat:=0
def tw17352664295928397155:Nat:=0
def tw4491876636828583535:Nat:=0
def tw14578537382463170763:Nat:=0
def tw7585139049897603040:Nat:=0
def tw3501487803190064702:Nat:=0
def tw9958429527458028733:Nat:=0
def tw13798390906151578016:Nat:=0
def tw13235942979644496520:Nat:=0
def tw13087831881139460136:Nat:=0
def tw2708768072178018711:Nat:=0
def tw7797055491282012891:Nat:=0
def tw1953112117073577466:Nat:=0
def tw10152286509227679115:Nat:=0
def tw10936150246267408846:Nat:=0
def tw10659685295374743188:Nat:=0
def tw8536226775617920387:Nat:=0
def tw5554525004686790824:Nat:=0
def tw6905128329576046425:Nat:=0
def tw14258866327965625908:Nat:=0
def tw1050312838849857985:Nat:=0
def tw16315623822144370151:Nat:=0
def tw10564754002694215651:Nat:=0
def tw9668401582040077015:Nat:=0
def tw14931164144785597908:Nat:=0
def tw6947957323587035211:Nat:=0
def tw14478842823312338466:Nat:=0
def tw13792812213353298860:Nat:=0
def tw10677346994313958535:Nat:=0
def tw1108454317244210460:Nat:=0
def tw3285645793759217511:Nat:=0
def tw16825654088165603929:Nat:=0
def tw7928769562737708448:Nat:=0
def tw7909384144228142547:Nat:=0
def tw16568932067034493712:Nat:=0
def tw10267111815635322542:Nat:=0
def tw7069515218489127274:Nat:=0
def tw7145595398775129265:Nat:=0
def tw10231339255557479129:Nat:=0
def tw17789594087200961144:Nat:=0
def tw7018511924584048973:Nat:=0
def tw3864330964076236489:Nat:=0
def tw1196421345278724108:Nat:=0
def tw363279934722556434:Nat:=0
def tw9227550320221601139:Nat:=0
def tw13412688636458061564:Nat:=0
def tw17427592365176791352:Nat:=0
def tw13306752475312231911:Nat:=0
def tw11455283016954075874:Nat:=0
def tw7733558712342192855:Nat:=0
def tw6102224472261729046:Nat:=0
def tw723818431617337571:Nat:=0
def tw1857624280305676242:Nat:=0
def tw18444529354993131270:Nat:=0
def tw17791956940051253636:Nat:=0
def tw9718124262016988907:Nat:=0
def tw10361581491346941099:Nat:=0
def tw17384055318484488441:Nat:=0
def tw12815230034435140243:Nat:=0
def tw8368062347124837261:Nat:=0
def tw18049799738087421471:Nat:=0
def tw9924761602250550125:Nat:=0
def tw4629206863863268220:Nat:=0
def tw14060161501508640503:Nat:=0
def tw17067674216041809163:Nat:=0
def tw5105939626632106636:Nat:=0
def tw3854861214544836410:Nat:=0
def tw10556721354188076682:Nat:=0
def tw16019797656070284448:Nat:=0
def tw4205523530517161904:Nat:=0
def tw12155693635237810450:Nat:=0
def tw16517635409478930673:Nat:=0
def tw11032155528719843960:Nat:=0
def tw15183321362191048937:Nat:=0
def tw15356994443044803416:Nat:=0
def tw12564092228918191760:Nat:=0
def tw6703525125160498201:Nat:=0
def tw8638328556349902377:Nat:=0
def tw1232582056454484652:Nat:=0
def tw17011593743618844188:Nat:=0
def tw8191241293473018670:Nat:=0
def tw2852689188752137691:Nat:=0
def tw2671411424859648396:Nat:=0
def tw410820276886086813:Nat:=0
def tw1695980780139856280:Nat:=0
def tw6574105281865299436:Nat:=0
def tw12984376036854315394:Nat:=0
def tw13611725331255422737:Nat:=0
def tw17633825391313046686:Nat:=0
def tw1724020799126709914:Nat:=0
def tw17365439616289525678:Nat:=0
def tw3092495703202066042:Nat:=0
def tw6968212043258053914:Nat:=0
def tw6403255248686269404:Nat:=0
def tw15764571112077903773:Nat:=0
def tw7789075831474562588:Nat:=0
def tw6968818326831953597:Nat:=0
def tw3041354304829527490:Nat:=0
def tw2104348106568206892:Nat:=0
def tw6914385961504729884:Nat:=0
def tw12470727038866025554:Nat:=0
def tw16786177989026667823:Nat:=0
def tw2533232860424138961:Nat:=0
def tw11323250029032867904:Nat:=0
def tw3426647527969025701:Nat:=0
def tw15783652310951887287:Nat:=0
def tw17739762160769021740:Nat:=0
def tw11523454124779868731:Nat:=0
def tw14095789121061266483:Nat:=0
def tw1611926189967225715:Nat:=0
def tw9278677608218287992:Nat:=0
def tw13953749580709718501:Nat:=0
def tw8386295162849196306:Nat:=0
def tw14508754783726440402:Nat:=0
def tw2104484651506994794:Nat:=0
def tw10326610937302737485:Nat:=0
def tw5154605527158774380:Nat:=0
def tw15349452499681516398:Nat:=0
def tw13234632234105335893:Nat:=0
def tw12743951260212407320:Nat:=0
def tw7116016995563637850:Nat:=0
def tw4697175698328376911:Nat:=0
def tw187416060684003100:Nat:=0
def tw3541875800293649644:Nat:=0
def tw6195897398093019410:Nat:=0
def tw18375908459262488117:Nat:=0
def tw5528693901967674039:Nat:=0
def tw2606580679787906346:Nat:=0
def tw5412882808410889535:Nat:=0
def tw15305119310423394472:Nat:=0
def tw2697187654573750767:Nat:=0
def tw8148016850376900295:Nat:=0
def tw10375457625055405382:Nat:=0
def tw11241917119773656006:Nat:=0
def tw18149559014613112976:Nat:=0
end PySem.W.Fast
open PySem PySem.W PyProof.Rows
set_option maxRecDepth 100000 in
set_option maxHeartbeats 0 in
theorem PySem.Challenge.cw_satchelmeet_k62_too_many_to_spread_holds : PySem.Challenge.rw_satchelmeet_k62_too_many_to_spread.Holds := by
 w_on;o_law;k_head;(case hw=>w_witness2)
 k_fill
 refine Sm.walk (l:=PySem.Challenge.rw_satchelmeet_k62_too_many_to_spread) rfl rfl (λw h Y=>⟨PySem.W.km_in_of Y,PySem.W.km_tabs_of Y _ (List.Mem.head _)⟩) (λw=>by kernel_rfl) ?F
 case F=>
  intro w mg fa h KX G hmg
  refine' Sm.all_mk KX G hmg ?Bg ?Ey ?BN ?Fk ?CO ?Gm ?Bf ?Ew ?BO ?Fl ?Ap ?BW ?BP ?Fm ?BM ?Fj ?CK ?Gg ?BH ?Fe ?Dz ?G3 ?CM ?Gi ?Dy ?G2 ?CL ?Gh ?Bd ?Eu ?Ag ?AE ?BI ?Ff ?DA ?G4 ?HV ?JE ?CI ?Ge ?CJ ?Gf ?E9 ?Ie ?Ax ?CU ?E6 ?HY ?Ba ?Er ?Ak ?Bl ?Ai ?Bi ?Al ?Bm ?Aj ?Bj ?Af ?Az ?A8 ?Eo ?BJ ?Fg ?Ao ?BV ?An ?Bw ?CN ?Gj ?A7 ?En ?GJ ?Jd ?E7 ?Ic ?Ay ?CV ?Bc ?Et ?Dw ?G1 ?Dx ?HX ?BG ?Fd ?AG ?Do ?A9 ?Ep ?Bb ?Es ?E8 ?Id ?BK ?Fh ?A6 ?Em ?AF ?Dm ?Be ?Ev ?Bt ?Gk ?BL ?Fi ?Bh ?Ez ?IB ?JH ?z_ValueError ?z_all ?z_any ?z_bool ?z_enumerate ?z_int ?z_isinstance ?z_len ?z_list ?z_max ?z_min ?z_range ?z_reversed ?z_sorted ?z_tuple ?z_zip ?g_LAST_TIME ?g_MOST_SPREAD_WALKERS ?g_MOST_SPREAD_MEETINGS ?IQ ?E4 ?HU ?GZ ?IO ?HS ?Gb ?E3 ?HR ?HQ ?HP ?IN ?HN ?HM ?Ga ?F9 ?GY ?IM ?FM ?ff_f_em ?ff_f_ve ?ff_f_HasIt ?ff_f_NoBook ?ff_f_NoClaim ?ff_f_NoDay ?ff_f_NoDeed ?ff_f_NoLetter ?ff_f_NoMeeting ?ff_f_NoName ?ff_f_NoPass ?ff_f_NoRoom ?ff_f_NoRow ?ff_f_NoRule ?ff_f_NotThere ?ff_f_NoText ?ff_f_NoWalker ?ff_f_Twice ?h_cd ?h_hd
  (case IQ|E4|HU|GZ|IO|HS|Gb|E3|HR|HQ|HP|IN|HN|HM|Ga|F9|GY|IM|Bg|BN|CO|Bf|BO|Ap|BP|BM|CK|BH|Dz|CM|Dy|CL|Bd|Ag|BI|DA|HV|CI|CJ|E9|Ax|E6|Ba|Ak|Ai|Al|Aj|Af|A8|BJ|Ao|An|CN|A7|GJ|E7|Ay|Bc|Dw|Dx|BG|AG|A9|Bb|E8|BK|A6|AF|Be|Bt|BL|Bh|IB|z_ValueError|z_all|z_any|z_bool|z_enumerate|z_int|z_isinstance|z_len|z_list|z_max|z_min|z_range|z_reversed|z_sorted|z_tuple|z_zip|g_LAST_TIME|g_MOST_SPREAD_WALKERS|g_MOST_SPREAD_MEETINGS=>k_is)
  (case Ey=>refine' L2.fun_mk ?x1 ?y1 ?z1;(case x1|y1|z1=>k_is))
  (case Fk=>refine' L2.fun_mk ?x3 ?y3 ?z3;(case x3|y3|z3=>k_is))
  (case Gm=>refine' L2.fun_mk ?x5 ?y5 ?z5;(case x5|y5|z5=>k_is))
  (case Ew=>refine' L2.fun_mk ?x7 ?y7 ?z7;(case x7|y7|z7=>k_is))
  (case Fl=>refine' L2.fun_mk ?x9 ?y9 ?z9;(case x9|y9|z9=>k_is))
  (case BW=>refine' L2.fun_mk ?x11 ?y11 ?z11;(case x11|y11|z11=>k_is))
  (case Fm=>refine' L2.fun_mk ?x13 ?y13 ?z13;(case x13|y13|z13=>k_is))
  (case Fj=>refine' L2.fun_mk ?x15 ?y15 ?z15;(case x15|y15|z15=>k_is))
  (case Gg=>refine' L2.fun_mk ?x17 ?y17 ?z17;(case x17|y17|z17=>k_is))
  (case Fe=>refine' L2.fun_mk ?x19 ?y19 ?z19;(case x19|y19|z19=>k_is))
  (case G3=>refine' L2.fun_mk ?x21 ?y21 ?z21;(case x21|y21|z21=>k_is))
  (case Gi=>refine' L2.fun_mk ?x23 ?y23 ?z23;(case x23|y23|z23=>k_is))
  (case G2=>refine' L2.fun_mk ?x25 ?y25 ?z25;(case x25|y25|z25=>k_is))
  (case Gh=>refine' L2.fun_mk ?x27 ?y27 ?z27;(case x27|y27|z27=>k_is))
  (case Eu=>refine' L2.fun_mk ?x29 ?y29 ?z29;(case x29|y29|z29=>k_is))
  (case AE=>refine' L2.fun_mk ?x31 ?y31 ?z31;(case x31|y31|z31=>k_is))
  (case Ff=>refine' L2.fun_mk ?x33 ?y33 ?z33;(case x33|y33|z33=>k_is))
  (case G4=>refine' L2.fun_mk ?x35 ?y35 ?z35;(case x35|y35|z35=>k_is))
  (case JE=>refine' L2.fun_mk ?x37 ?y37 ?z37;(case x37|y37|z37=>k_is))
  (case Ge=>refine' L2.fun_mk ?x39 ?y39 ?z39;(case x39|y39|z39=>k_is))
  (case Gf=>refine' L2.fun_mk ?x41 ?y41 ?z41;(case x41|y41|z41=>k_is))
  (case Ie=>refine' L2.fun_mk ?x43 ?y43 ?z43;(case x43|y43|z43=>k_is))
  (case CU=>refine' L2.fun_mk ?x45 ?y45 ?z45;(case x45|y45|z45=>k_is))
  (case HY=>refine' L2.fun_mk ?x47 ?y47 ?z47;(case x47|y47|z47=>k_is))
  (case Er=>refine' L2.fun_mk ?x49 ?y49 ?z49;(case x49|y49|z49=>k_is))
  (case Bl=>refine' L2.fun_mk ?x51 ?y51 ?z51;(case x51|y51|z51=>k_is))
  (case Bi=>refine' L2.fun_mk ?x53 ?y53 ?z53;(case x53|y53|z53=>k_is))
  (case Bm=>refine' L2.fun_mk ?x55 ?y55 ?z55;(case x55|y55|z55=>k_is))
  (case Bj=>refine' L2.fun_mk ?x57 ?y57 ?z57;(case x57|y57|z57=>k_is))
  (case Az=>refine' L2.fun_mk ?x59 ?y59 ?z59;(case x59|y59|z59=>k_is))
  (case Eo=>refine' L2.fun_mk ?x61 ?y61 ?z61;(case x61|y61|z61=>k_is))
  (case Fg=>refine' L2.fun_mk ?x63 ?y63 ?z63;(case x63|y63|z63=>k_is))
  (case BV=>refine' L2.fun_mk ?x65 ?y65 ?z65;(case x65|y65|z65=>k_is))
  (case Bw=>refine' L2.fun_mk ?x67 ?y67 ?z67;(case x67|y67|z67=>k_is))
  (case Gj=>refine' L2.fun_mk ?x69 ?y69 ?z69;(case x69|y69|z69=>k_is))
  (case En=>refine' L2.fun_mk ?x71 ?y71 ?z71;(case x71|y71|z71=>k_is))
  (case Jd=>refine' L2.fun_mk ?x73 ?y73 ?z73;(case x73|y73|z73=>k_is))
  (case Ic=>refine' L2.fun_mk ?x75 ?y75 ?z75;(case x75|y75|z75=>k_is))
  (case CV=>refine' L2.fun_mk ?x77 ?y77 ?z77;(case x77|y77|z77=>k_is))
  (case Et=>refine' L2.fun_mk ?x79 ?y79 ?z79;(case x79|y79|z79=>k_is))
  (case G1=>refine' L2.fun_mk ?x81 ?y81 ?z81;(case x81|y81|z81=>k_is))
  (case HX=>refine' L2.fun_mk ?x83 ?y83 ?z83;(case x83|y83|z83=>k_is))
  (case Fd=>refine' L2.fun_mk ?x85 ?y85 ?z85;(case x85|y85|z85=>k_is))
  (case Do=>refine' L2.fun_mk ?x87 ?y87 ?z87;(case x87|y87|z87=>k_is))
  (case Ep=>refine' L2.fun_mk ?x89 ?y89 ?z89;(case x89|y89|z89=>k_is))
  (case Es=>refine' L2.fun_mk ?x91 ?y91 ?z91;(case x91|y91|z91=>k_is))
  (case Id=>refine' L2.fun_mk ?x93 ?y93 ?z93;(case x93|y93|z93=>k_is))
  (case Fh=>refine' L2.fun_mk ?x95 ?y95 ?z95;(case x95|y95|z95=>k_is))
  (case Em=>refine' L2.fun_mk ?x97 ?y97 ?z97;(case x97|y97|z97=>k_is))
  (case Dm=>refine' L2.fun_mk ?x99 ?y99 ?z99;(case x99|y99|z99=>k_is))
  (case Ev=>refine' L2.fun_mk ?x101 ?y101 ?z101;(case x101|y101|z101=>k_is))
  (case Gk=>refine' L2.fun_mk ?x103 ?y103 ?z103;(case x103|y103|z103=>k_is))
  (case Fi=>refine' L2.fun_mk ?x105 ?y105 ?z105;(case x105|y105|z105=>k_is))
  (case Ez=>refine' L2.fun_mk ?x107 ?y107 ?z107;(case x107|y107|z107=>k_is))
  (case JH=>refine' L2.fun_mk ?x109 ?y109 ?z109;(case x109|y109|z109=>k_is))
  (case FM=>kernel_rfl)
  (case ff_f_em=>kernel_rfl)
  (case ff_f_ve=>kernel_rfl)
  (case ff_f_HasIt=>kernel_rfl)
  (case ff_f_NoBook=>kernel_rfl)
  (case ff_f_NoClaim=>kernel_rfl)
  (case ff_f_NoDay=>kernel_rfl)
  (case ff_f_NoDeed=>kernel_rfl)
  (case ff_f_NoLetter=>kernel_rfl)
  (case ff_f_NoMeeting=>kernel_rfl)
  (case ff_f_NoName=>kernel_rfl)
  (case ff_f_NoPass=>kernel_rfl)
  (case ff_f_NoRoom=>kernel_rfl)
  (case ff_f_NoRow=>kernel_rfl)
  (case ff_f_NoRule=>kernel_rfl)
  (case ff_f_NotThere=>kernel_rfl)
  (case ff_f_NoText=>kernel_rfl)
  (case ff_f_NoWalker=>kernel_rfl)
  (case ff_f_Twice=>kernel_rfl)
  (case h_cd=>rfl)
  (case h_hd=>kernel_rfl)

