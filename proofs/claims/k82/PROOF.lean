import PyProof.Rows.All
import KE.KDictSum
import KE.KEqDict
import KE.KFromBytes
import KE.KIntText
import KE.KLam
import KE.KMinKey
import KE.KNestM
import KE.KRevIter
import KE.KRevSl
import KE.KSortTup
import KE.KTabLook
import KE.KTryMore
import KE.KUnpackStar
import OpenK.ZHead
import PySem.Challenge.RW_heightrings_k82_desks_of_texts
import Wide.FinOn
open PySem.W renaming Frag → uQ,kitOne → uU,nsIn → we,findIn → wx,keepIn → wF,mg_of → wI,mg_none_of → wU,fnOf → wV,kia_one → w8,codeIn → xc,emptyDict → xn,cellsFrom_some → xx,callWith_K → xC,instObj → xK,exmOne → Aq,isFn → Ax,specialIn → AG,codeHdIn → AS,plainGet → AU,hideAll → A6,codeRec_of → Bc,tabObj → Bf,hasDictIn → Bi,mroIn → Bo,makesIn → Bv,plainGet_of → Bw,lookIn → BD,methodObj → BK,plainOver → BL,kitx_list → BM,takerIn → B4,methodCall_KW → B7,hideAll_none → Cd,typeIn → Cf,hideAll_get → Ct
open PySem renaming Addr → uR,wpAny_bind → uS,starEach → u4,mainGlobals → u9,wpAny_pure → wa,wpAny → wb,sizeLine → wt,boot_len → wJ,wpAny_mono → wW,wpAny_holding → xl,compareOp → xm,wpAny_truthy_bool → xo,letOwnedTupleGo → Ad,mem_of_lookup → An,foldedSetIterable → AJ,wpAny_execs_cons → AZ,codeAny_mono → A0,wpAny_attempt → Bp,intText? → Cn,cLine → Cr,wpAny_setField → Cs,wpAny_rule → CF,Within → CG
open Bool renaming false_ne_true → uT,and_eq_true → wB,not_true → xh,not_false → xt,true_and → Ak,eq_iff_iff → AD,not_eq_true' → AI,false_and → AL,or_eq_true → A9,and_false → BG,or_true → CJ,true_or → CN
open List renaming length_map → uV,mem_cons_of_mem → uW,getElem?_eq_some_iff → uY,getElem?_eq_getElem → uZ,mem_cons_self → u3,mem_cons → u6,mem_singleton → u7,getElem?_map → wj,size_toArray → wo,mem_append_right → wq,length_cons → wy,getElem?_append_left → wA,getElem?_append_right → wH,length_append → wL,mem_of_getElem? → wM,lookup_cons → wN,map_append → wO,mem_append → wQ,mem_map → wY,all_eq_true → w4,getD_eq_getElem?_getD → w5,append_nil → xf,length_take → xg,map_cons → xr,getElem?_set_self → xw,length_drop → xD,map_map → xF,getElem?_set_ne → xG,replicate → xH,length_set → xM,filterMap_cons → xO,sum_append_nat → xR,getElem_mem → xV,mem_filterMap → xX,findIdx?_eq_some_iff_getElem → Aa,findIdx?_eq_none_iff → Ab,mem_append_left → Ae,getElem?_of_mem → Ah,mem_range → Ao,getElem?_replicate → Ap,lookup → Aw,take_of_length_le → Az,nodup_cons → AB,getElem?_eq_none → AE,countP_le_length → AF,take_add_one → AH,getElem?_mapIdx → AN,mem_of_mem_take → AQ,mem_of_mem_drop → AR,take_length → AW,mem_reverse → AX,not_mem_nil → AY,drop_eq_getElem_cons → A2,mem_map_of_mem → A3,getElem?_take_of_lt → A4,of_mem_zip → A7,length_mapIdx → Bd,length_replicate → Bk,length → Bq,length_pos_iff → Bx,reverse_append → By,map_congr_left → Bz,countP_eq_zero → BA,range → BB,reverse_cons → BN,length_range → BO,sum_cons → BR,any_eq_true → BS,length_eq_zero_iff → BU,countP_true → BV,filter_eq_nil_iff → B2,mem_filter → B3,length_singleton → B8,mem_iff_getElem → Ck,reverse_reverse → Cm,drop_zero → Co,getElem?_range → Cw,any_cons → CC
open PySem.Heap renaming get?_push_of_some → uX,lt_size → u5,get?_push_size → wk,get?_update_other → wX,size_push → xj,get?_update_self → x8,get?_none_of_le → AK,SameBut → Bg,get?_push_at → BP,FlyingW → BZ
open Nat renaming le_refl → wc,lt_of_lt_of_le → wm,le_trans → wu,ne_of_lt → wC,toDigits → w9,zero_le → xA,lt_succ_of_lt → xI,le_of_lt → xS,lt_irrefl → xU,min_le_right → xW,le_of_eq → Af,lt_succ_self → AV,not_lt_zero → A8,min_le_left → Ba,ne_of_gt → Bh,le_of_succ_le → Bj,le_succ → Br,mul_le_mul_right → Bs,mul_one → Bu,not_lt → BX,sub_self → BY,min_eq_left → B5,le_of_ble_eq_true → Cc,mul_le_mul_left → CB,add_mul → CP
open PySem.StrLaws renaming sliceText → wg,glued_eq_join → xp,sliceText_from → B0
open PySem.Txt renaming split → wD,join → xY,startswith → BI,replace → BQ
open PySem.Builtin.Str renaming occurrences → wG,strSliceIndices → wZ,strKind → xP,tooLong → CA
open PySem.F renaming plainAttrs_str → wK,slot_str_split → xa,type_str_split → xb,args_str_split_2 → xZ,entry_str_split → Ag,slot_list_append → Al,type_list_append → Am,slot_str_split → Ar,plainAttrs_list → Au,excBase_ValueError → AO,slot_str_ascii_iterator_next → Bn,slot_dict_contains → Bt,excAttr_ValueError → BH,slot_str_join → B9,type_str_join → Ca,args_list_append_2 → Ci,excAttr_ValueError → Cj,entry_list_append → Cu
open False renaming elim → wR
open PySem.Str renaming ofString → w6,join → xQ,empty → Be
open Array renaming length_toList → xi,mem_toList_iff → Ce,toList_append → Cz
open Char renaming toNat → xk
open PyProof.Rows renaming boot_int → xq,callWith_type1 → xT,boot_str → x9,boot_all → Bl,callWith_builtin1 → Bm,boot_any → Cb
open PySem.PyData renaming eqv → xu,depthAll → Ac,canLayAll0 → Ai,strOk → B1,depth → CK
open Int renaming toNat_natCast → xy,eq_ofNat_of_zero_le → Av,emod_lt_of_pos → AA,emod_nonneg → B6,le_trans → CL
open PySem.Builtin.SmallTypes renaming nextOf → xB,ownedTupleIsFree → A5
open Option renaming isSome_iff_exists → xE,isNone_iff_eq_none → A1
open Decidable renaming not_not → xJ
open PySem.PassesOwn renaming never → xN
open Ne renaming symm → x6
open PySem.W.KIN renaming val_back → Aj
open PySem.Calls renaming callWith_builtin → Ay,evalArgs_plain → AM,Constant_str → Bb,Name_function_global → BC,spliced_cons → BE
open PySem.Code renaming quiet_builtin → BF,isFrame → CI
open PySem.W.KT renaming len_num → BJ
open PySem.Obj renaming mapSeq → BW,mapFields → CD
open PySem.Around renaming frames_deeper → Cg,under → CH
open String renaming toList_append → Cp
open PySem.SeqAt renaming eqv_refl → Cq
open PySem.EntryCells renaming newEntry → Cy
open PySem.Sem renaming wp_mono → CO
set_option Elab.async false
set_option linter.all false
set_option maxRecDepth 100000
set_option maxHeartbeats 4000000
theorem CS.{u} {c:Prop} {h:Decidable c} (q:¬c) {α:Sort u} {t e:α}:(ite c t e)=e:=if_neg q
theorem CT.{u} {c:Prop} {h:Decidable c} (q:c) {α:Sort u} {t e:α}:(ite c t e)=t:=if_pos q
section
namespace L2
open PySem PySem.Spec PyProof.Rows
abbrev Key:=Sum Int Str
noncomputable def oW:Key->Value->Bool
 | .inl k,v=>Value.isInt k v
 | .inr x,v=>Value.isStrOf x v
noncomputable def uD (w:World):Key->Int
 | .inl k=>hashInt k
 | .inr x=>hashStr w x
theorem yh:∀ {k:Key} {v:Value},oW k v=true->(∃ i t,k=Sum.inl i/\v=Value.int i t) \/ (∃ x t,k=Sum.inr x/\v=Value.str x t)
 | .inl i,v,h=>by
  obtain⟨t,e⟩:=Value.isInt_shape (k:=i) (v:=v) h;exact .inl ⟨i,t,rfl,e⟩
 | .inr x,v,h=>by
  obtain⟨t,e⟩:=Value.isStrOf_shape (x:=x) (v:=v) h;exact .inr ⟨x,t,rfl,e⟩
theorem rj (a b:Int):decide ((Sum.inl a:Key)=Sum.inl b)=(a == b):=by
 by_cases e:a=b
 ·subst e;simp
 ·have h:¬ (Sum.inl a:Key)=Sum.inl b:=fun q=>e (Sum.inl.inj q);rw [decide_eq_false h];exact (beq_eq_false_iff_ne.mpr e).symm
theorem rk (a b:Str):decide ((Sum.inr a:Key)=Sum.inr b)=decide (a=b):=by
 by_cases e:a=b
 ·subst e;simp
 ·have h:¬ (Sum.inr a:Key)=Sum.inr b:=fun q=>e (Sum.inr.inj q);rw [decide_eq_false h,decide_eq_false e]
theorem rm (a:Int) (b:Str):decide ((Sum.inl a:Key)=Sum.inr b)=false:=decide_eq_false (fun q=>nomatch q)
theorem rp (a:Str) (b:Int):decide ((Sum.inr a:Key)=Sum.inl b)=false:=decide_eq_false (fun q=>nomatch q)
noncomputable def cN (prog:Program) (w:World):PySem.KeyKind prog w Key where
 is:=oW
 hash:=uD w
 inj:=fun v a b ha hb=>by
  rcases yh ha with⟨i,t,rfl,rfl⟩ | ⟨x,t,rfl,rfl⟩
  ·rcases yh hb with⟨j,u,rfl,e⟩ | ⟨y,u,rfl,e⟩
   ·injection e with e1 _;rw [e1]
   ·exact nomatch e
  ·rcases yh hb with⟨j,u,rfl,e⟩ | ⟨y,u,rfl,e⟩
   ·exact nomatch e
   ·injection e with e1 _;rw [e1]
 byValue:=fun k v h=>by
  rcases yh h with⟨i,t,rfl,rfl⟩ | ⟨x,t,rfl,rfl⟩ <;> rfl
 pyHash:=fun hv h=>by
  rcases yh hv with⟨i,t,rfl,rfl⟩ | ⟨x,t,rfl,rfl⟩
  ·exact wpAny_pyHash_int h
  ·exact wpAny_pyHash_str h
 eqBool:=fun hu hv h=>by
  rcases yh hu with⟨i,t,rfl,rfl⟩ | ⟨x,t,rfl,rfl⟩
  ·rcases yh hv with⟨j,u,rfl,rfl⟩ | ⟨y,u,rfl,rfl⟩
   ·rw [rj] at h;exact wpAny_eqBool_int h
   ·rw [rm] at h;exact SeqAt.EqAt.int_str i t y u _ _ _ _ h
  ·rcases yh hv with⟨j,u,rfl,rfl⟩ | ⟨y,u,rfl,rfl⟩
   ·rw [rp] at h;exact SeqAt.EqAt.str_int x t j u _ _ _ _ h
   ·rw [rk] at h;exact wpAny_eqBool_str h
 «strs»:=fun k x t v h=>by
  rcases yh h with⟨i,u,rfl,e⟩ | ⟨y,u,rfl,e⟩
  ·exact nomatch e
  ·injection e with e1 _;subst e1;cases v <;> rfl
inductive V where
 | non | bl (b:Bool) | int (i:Int) | str (x:Str) | byt (b:Array UInt8) | flt (b:UInt64) | ref (a:uR) | ty (n:String)
 deriving DecidableEq
def RelV:V->Value->Prop
 | .non,u=>u=Value.none
 | .bl b,u=>u=Value.bool b
 | .int i,u=>∃ t,u=Value.int i t
 | .str x,u=>∃ t,u=Value.str x t
 | .byt b,u=>∃ t,u=Value.bytes b t
 | .flt b,u=>∃ t,u=Value.float b t
 | .ref a,u=>u=Value.ref a
 | .ty n,u=>u=Value.type n
abbrev Vals:List V->List Value->Prop:=Paired RelV
theorem Vals.length {xs:List V} {us:List Value} (r:Vals xs us):xs.length=us.length:=Paired.length r
theorem Vals.get:∀ {xs:List V} {us:List Value} {i:Nat} {x:V},Vals xs us->xs[i]?=some x->∃ u,us[i]?=some u/\RelV x u
 | _,_,_,_,.nil,e=>by simp at e
 | _,_,0,_,.cons r _,e=>by simp at e;subst e;exact⟨_,rfl,r⟩
 | _,_,i+1,x,.cons _ t,e=>by
  obtain⟨u,h1,h2⟩:=Vals.get (i:=i) (x:=x) t (by simpa using e);exact⟨u,by simpa using h1,h2⟩
theorem Vals.set {x:V} {u:Value} (r:RelV x u):∀ {xs:List V} {us:List Value} (i:Nat),Vals xs us->Vals (xs.set i x) (us.set i u)
 | _,_,_,.nil=>.nil
 | _,_,0,.cons _ t=>.cons r t
 | _,_,i+1,.cons q t=>.cons q (Vals.set r i t)
theorem Vals.append:∀ {xs ys:List V} {us ws:List Value},Vals xs us->Vals ys ws->Vals (xs++ys) (us++ws)
 | _,_,_,_,.nil,s=>s
 | _,_,_,_,.cons r t,s=>.cons r (Vals.append t s)
theorem Vals.take:∀ {xs:List V} {us:List Value} (n:Nat),Vals xs us->Vals (xs.take n) (us.take n)
 | _,_,0,_=>.nil
 | _,_,_+1,.nil=>.nil
 | _,_,n+1,.cons r t=>.cons r (Vals.take n t)
theorem Vals.drop:∀ {xs:List V} {us:List Value} (n:Nat),Vals xs us->Vals (xs.drop n) (us.drop n)
 | _,_,0,r=>r
 | _,_,_+1,.nil=>.nil
 | _,_,n+1,.cons _ t=>Vals.drop n t
def RelO:Option V->Option Value->Prop
 | some v,some u=>RelV v u
 | none,none=>True
 | _,_=>False
def KV {κ:Type}:List (κ×V)->List (κ×Value)->Prop:=Paired fun (p:κ×V) (q:κ×Value)=>p.1=q.1/\RelV p.2 q.2
noncomputable def kV:Key->V
 | .inl i=>.int i
 | .inr x=>.str x
inductive HO where
  | lst (xs:List V)
  | tup (xs:List V)
  | dK (kvs:List (Key×V)) | dT (kvs:List (List Key×V))
  | set (S:Int->Bool) (n:Nat)
  | ins (C dx:uR) (fs:List (Str×V))
  | own (x:uR)
  | xd (fs:List (Str×V))
  | met (f x:uR)
  | rng (lo hi:Int)
  | frz (o:Obj) (u:HO)
  | tbl (q:Str)
  | ext (φ:Heap->Prop)
abbrev Hp:=uR->Option HO
noncomputable def upd (H:Hp) (a:uR) (o:HO):Hp:=fun b=>if b=a then some o else H b
theorem zr {H:Hp} {a:uR} {o:HO}:upd H a o a=some o:=by unfold upd;rw [CT rfl]
theorem zl {H:Hp} {a b:uR} {o:HO} (h:b≠a):upd H a o b=H b:=by unfold upd;rw [CS h]
theorem zB {H:Hp} {a b:uR} {o:HO} (h:H a=some o) (h':H b=none):a≠b:=by
 intro e;subst e;rw [h] at h';cases h'
section
variable (P:Program) (w:World)
def ObjOk (H:Hp) (h:Heap) (a:uR):HO->Prop
 | .lst xs=>xs.length<=wt/\∃ (its:List Value) (n:Nat),Vals xs its/\h.get? a=some { cls:=.type "list",data:=.seq its.toArray n }
 | .tup xs=>xs.length<=wt/\∃ its:List Value,Vals xs its/\IsTup h a its.toArray
 | .dK kvs=>kvs.length<=wt/\(a == sysModules)=false/\∃ vs,KV kvs vs/\h.DictOf (cN P w) a vs
 | .dT kvs=>kvs.length<=wt/\(a == sysModules)=false/\∃ xs:List (List Key×uR×Value),
   Paired (fun (p:List Key×V) (q:List Key×uR×Value)=>p.1=q.1/\H q.2.1=some (.tup (p.1.map kV))/\RelV p.2 q.2.2) kvs xs /\
   ∃ o es ep,h.get? a=some o/\o.ExactDict/\o.data=.dict es ep/\es.toList=xs.map (entryOfKey (tupleKind (cN P w)))/\(xs.map (·.1)).Nodup
 | .set S n=>h.SetOf (intKind P w) a S n
 | .ins C dx fs=>H dx=some (.own a)/\fs.length<=1000/\dx≠a/\h.get? a=some (xK C dx) /\
   ∃ mA,h.Ns1 dx mA/\(∀ f,RelO (fs.lookup f) (mA f))/\CG mA (fs.map (·.1))
 | .own _=>∃ o,h.get? a=some o
 | .xd fs=>∃ mA,h.Ns1 a mA/\∀ f,RelO (fs.lookup f) (mA f)
 | .rng lo hi=>∃ t u v,h.get? a=some { cls:=.type "range",data:=.fields #[.int lo t,.int hi u,.int 1 v] }
 | .frz o u=>h.get? a=some o/\ObjOk H h a u
 | .tbl q=>∃ ps,h.get? a=some (Bf ps)/\TriplesOk ps.toList/\∀ pos cv,codeAmong pos ps.toList=some cv->∃ c,cv=.ref c/\H c=some (.own a)/\h.CodeRec (.ref c) q
 | .met f x=>h.get? a=some (BK (.ref f) (.ref x))
 | .ext φ=>φ h/\(∃ o,h.get? a=some o)/\∀ h1 h2:Heap,φ h1->(∀ o,h1.get? a=some o->h2.get? a=some o)->φ h2
def HOk (H:Hp) (h:Heap):Prop:=∀ a o,H a=some o->ObjOk P w H h a o
end
section
variable {P:Program} {w:World} {H H':Hp} {h h':Heap} {a:uR} {o:HO}
theorem ObjOk.lt (x:ObjOk P w H h a o):a<h.objs.size:=by
 cases o with
 | lst xs=>obtain⟨_,_,_,_,e⟩:=x;exact u5 e
 | tup xs=>obtain⟨_,_,_,p⟩:=x;exact p.lt
 | dK kvs=>obtain⟨_,_,_,_,o,_,_,e,_⟩:=x;exact u5 e
 | dT kvs=>obtain⟨_,_,_,_,o,_,_,e,_⟩:=x;exact u5 e
 | set S n=>obtain⟨o,_,_,_,e,_⟩:=x;exact u5 e
 | ins C dx fs=>obtain⟨_,_,_,e,_⟩:=x;exact u5 e
 | own y=>obtain⟨_,e⟩:=x;exact u5 e
 | xd fs=>obtain⟨_,⟨_,_,_,e,_⟩,_⟩:=x;exact u5 e
 | rng lo hi=>obtain⟨_,_,_,e⟩:=x;exact u5 e
 | frz ob u=>obtain⟨e,_⟩:=x;exact u5 e
 | tbl q=>obtain⟨_,e,_⟩:=x;exact u5 e
 | met f y=>exact u5 (show h.get? a=some _ from x)
 | ext φ=>obtain⟨_,⟨_,e⟩,_⟩:=x;exact u5 e
theorem Paired.mapP {α β:Type} {F G:α->β->Prop}:∀ {l₁:List α} {l₂:List β},Paired F l₁ l₂->(∀ a b,F a b->G a b)->Paired G l₁ l₂
 | _,_,.nil,_=>.nil
 | _,_,.cons r t,f=>.cons (f _ _ r) (Paired.mapP t f)
theorem ObjOk.stay (x:ObjOk P w H h a o) (k:∀ b u,(b=a \/ H b=some (.own a))->h.get? b=some u->h'.get? b=some u)
  (ho:∀ b,H b=some (.own a)->H' b=some (.own a)) (ht:∀ b xs,H b=some (.tup xs)->H' b=some (.tup xs)):ObjOk P w H' h' a o:=by
 induction o with
 | lst xs=>obtain⟨z,its,n,r,e⟩:=x;exact⟨z,its,n,r,k _ _ (.inl rfl) e⟩
 | tup xs=>obtain⟨z,its,r,ob,e,c⟩:=x;exact⟨z,its,r,ob,k _ _ (.inl rfl) e,c⟩
 | dK kvs=>obtain⟨z,y,vs,r,ob,es,ep,e,c⟩:=x;exact⟨z,y,vs,r,ob,es,ep,k _ _ (.inl rfl) e,c⟩
 | dT kvs =>
  obtain⟨z,y,xs,r,ob,es,ep,e,c⟩:=x;exact⟨z,y,xs,Paired.mapP r fun p q z=>⟨z.1,ht _ _ z.2.1,z.2.2⟩,ob,es,ep,k _ _ (.inl rfl) e,c⟩
 | set S n=>obtain⟨ob,es,ep,t,e,c⟩:=x;exact⟨ob,es,ep,t,k _ _ (.inl rfl) e,c⟩
 | ins C dx fs =>
  obtain⟨d,z,ne,e,mA,⟨od,es,ep,e2,c⟩,r⟩:=x;exact⟨ho _ d,z,ne,k _ _ (.inl rfl) e,mA,⟨od,es,ep,k _ _ (.inr d) e2,c⟩,r⟩
 | own y=>obtain⟨ob,e⟩:=x;exact⟨ob,k _ _ (.inl rfl) e⟩
 | xd fs=>obtain⟨mA,⟨od,es,ep,e,c⟩,r⟩:=x;exact⟨mA,⟨od,es,ep,k _ _ (.inl rfl) e,c⟩,r⟩
 | rng lo hi=>obtain⟨t,u,v,e⟩:=x;exact⟨t,u,v,k _ _ (.inl rfl) e⟩
 | frz ob u ih=>obtain⟨e,q⟩:=x;exact⟨k _ _ (.inl rfl) e,ih q⟩
 | tbl q =>
  obtain⟨ps,e,tr,r⟩:=x;refine⟨ps,k _ _ (.inl rfl) e,tr,fun pos cv z=>?_⟩;obtain⟨c,ec,hc,c2,oc,vs,tq,e2,e3,e4,e5⟩:=r pos cv z;cases e2;exact⟨c,ec,ho _ hc,c,oc,vs,tq,rfl,k _ _ (.inr hc) e3,e4,e5⟩
 | met f y =>
  have e:h.get? a=some (BK (.ref f) (.ref y)):=x;show h'.get? a=some (BK (.ref f) (.ref y));exact k a _ (.inl rfl) e
 | ext φ=>obtain⟨p,⟨o,e⟩,st⟩:=x;exact⟨st _ _ p fun o q=>k _ _ (.inl rfl) q,⟨o,k _ _ (.inl rfl) e⟩,st⟩
theorem HOk.lt (x:HOk P w H h) (e:H a=some o):a<h.objs.size:=(x a o e).lt
theorem HOk.fresh (x:HOk P w H h) (e:h.objs.size<=a):H a=none:=by
 cases q:H a with
 | none=>rfl
 | some u=>exact absurd (wm (x.lt q) e) (xU _)
theorem HOk.kept (x:HOk P w H h) (k:∀ b u,h.get? b=some u->h'.get? b=some u):HOk P w H h':=fun a o e =>
 (x a o e).stay (fun b u _ q=>k b u q) (fun _ q=>q) fun _ _ q=>q
theorem HOk.laid (x:HOk P w H h) (k:∀ b u,h.get? b=some u->h'.get? b=some u) (hp:h.objs.size<=a) (new:ObjOk P w (upd H a o) h' a o):HOk P w (upd H a o) h':=fun b u e=>by
 have hn:=x.fresh hp;by_cases hb:b=a
 ·subst hb;rw [zr] at e;cases e;exact new
 ·rw [zl hb] at e;exact (x b u e).stay (fun c v _ q=>k c v q) (fun c q=>by rw [zl (zB q hn)];exact q) fun c xs q=>by rw [zl (zB q hn)];exact q
end
def Rd (H:Hp) (a:uR) (u:HO):Prop:=H a=some u \/ ∃ o,H a=some (.frz o u)
theorem Rd.ok {P:Program} {w:World} {H:Hp} {h:Heap} {a:uR} {u:HO} (r:Rd H a u) (x:HOk P w H h):ObjOk P w H h a u:=by
 rcases r with r | ⟨o,r⟩
 ·exact x a u r
 ·obtain⟨_,q⟩:=x a _ r;exact q
def Mut:Option HO->Prop
 | some (.lst _)=>True
 | some (.dK _)=>True
 | some (.dT _)=>True
 | some (.set _ _)=>True
 | some (.ins _ _ _)=>True
 | some (.ext _)=>True
 | _=>False
section
variable {P:Program} {w:World} {H:Hp} {h h':Heap} {x e:uR} {o':HO}
theorem HOk.write (ok:HOk P w H h) (mu:Mut (H x)) (he:e=x \/ H e=some (.own x)) (k:∀ b u,b≠e->h.get? b=some u->h'.get? b=some u) (heo:∃ u,h'.get? e=some u)
  (new:ObjOk P w (upd H x o') h' x o'):HOk P w (upd H x o') h':=fun b u q=>by
 have nown:∀ c y,H c=some (.own y)->c≠x:=fun c y r z=>by subst z;rw [r] at mu;exact mu
 have ntup:∀ c xs,H c=some (.tup xs)->c≠x:=fun c xs r z=>by subst z;rw [r] at mu;exact mu
 by_cases hb:b=x
 ·subst hb;rw [zr] at q;cases q;exact new
 ·rw [zl hb] at q;by_cases hbe:b=e
  ·have q':H b=some (.own x):=by
    rcases he with z | z
    ·exact absurd (hbe.trans z) hb
    ·rw [hbe];exact z
   rw [q] at q';cases q';obtain⟨v,hv⟩:=heo;exact⟨v,by rw [hbe];exact hv⟩
  ·refine (ok b u q).stay (fun c v hc r=>k c v ?_ r) (fun c r=>by rw [zl (nown c b r)];exact r) fun c xs r=>by rw [zl (ntup c xs r)];exact r
   rcases hc with rfl | hc
   ·exact hbe
   ·rintro rfl;rcases he with z | z
    ·exact nown c b hc z
    ·rw [hc] at z;cases z;exact hb rfl
end
structure Un (fs ex:List uR) (H H':Hp) (h h':Heap):Prop where
 keep:∀ b o,h.get? b=some o->H b=none->b∉fs->b∉ex->h'.get? b=some o
 slot:∀ b o,h.get? b=some o->H b=none->b∈fs->b∉ex->∃ sl,h'.get? b=some { o with slots:=sl }
 free:∀ b o,h.get? b=some o->H b=none->b∉ex->H' b=none
 there:∀ b o,h.get? b=some o->b∉ex->∃ o',h'.get? b=some o'
 tups:∀ b xs,H b=some (.tup xs)->H' b=some (.tup xs)
 frzs:∀ b o u,H b=some (.frz o u)->H' b=some (.frz o u)
 tbls:∀ b q,H b=some (.tbl q)->H' b=some (.tbl q)
section
variable {fs fs' ex ex':List uR} {H H1 H2:Hp} {h h1 h2 h':Heap} {a x e:uR} {o:HO}
theorem Un.any (u:Un fs ex H H1 h h1) {b:uR} {ob:Obj} (q:h.get? b=some ob) (n:H b=none) (hx:b∉ex):∃ sl,h1.get? b=some { ob with slots:=sl }:=by
 by_cases hb:b∈fs
 ·exact u.slot b ob q n hb hx
 ·exact⟨ob.slots,u.keep b ob q n hb hx⟩
theorem Un.kept (k:∀ b u,h.get? b=some u->h'.get? b=some u):Un fs ex H H h h' :=
 ⟨fun b ob q _ _ _=>k b ob q,fun b ob q _ _ _=>⟨ob.slots,k b ob q⟩,fun _ _ _ n _=>n,fun b ob q _=>⟨ob,k b ob q⟩,fun _ _ q=>q,fun _ _ _ q=>q,fun _ ps q=>by exact q⟩
theorem Un.refl:Un fs ex H H h h:=Un.kept fun _ _ q=>q
theorem Un.laid (k:∀ b u,h.get? b=some u->h'.get? b=some u) (hp:h.objs.size<=a) (hn:H a=none):Un fs ex H (upd H a o) h h' where
 keep:=fun b u q _ _ _=>k b u q
 slot:=fun b u q _ _ _=>⟨u.slots,k b u q⟩
 free:=fun b u q n _=>by rw [zl (wC (wm (u5 q) hp))];exact n
 there:=fun b u q _=>⟨u,k b u q⟩
 tups:=fun b xs q=>by rw [zl (zB q hn)];exact q
 frzs:=fun b u xs q=>by rw [zl (zB q hn)];exact q
 tbls:=fun b ps q=>by rw [zl (zB q hn)];exact q
theorem Un.write (mu:Mut (H x)) (he:e=x \/ H e=some (.own x)) (k:∀ b u,b≠e->h.get? b=some u->h'.get? b=some u) (heo:∃ u,h'.get? e=some u):Un fs ex H (upd H x o) h h':=by
 have hx:∀ b,H b=none->b≠x:=fun b n z=>by subst z;rw [n] at mu;exact mu
 have hb:∀ b,H b=none->b≠e:=fun b n z=>by
  subst z;rcases he with r | r
  ·exact hx b n r
  ·rw [n] at r;cases r
 have hm:∀ b u,H b=some u->¬ Mut (some u)->b≠x:=fun b u q nm z=>by subst z;rw [q] at mu;exact nm mu
 refine⟨fun b u q n _ _=>k b u (hb b n) q,fun b u q n _ _=>⟨u.slots,k b u (hb b n) q⟩,fun b u q n _=>by rw [zl (hx b n)];exact n,fun b u q _=>?_,
  fun b xs q=>by rw [zl (hm b _ q fun z=>z)];exact q,fun b u xs q=>by rw [zl (hm b _ q fun z=>z)];exact q,fun b ps q=>by rw [zl (hm b _ q fun z=>z)];exact q⟩
 by_cases hbe:b=e
 ·subst hbe;exact heo
 ·exact⟨u,k b u hbe q⟩
end
noncomputable def trk (h:Heap) (H:Hp):List uR:=(BB h.objs.size).filter fun a=>(H a).isSome
noncomputable def dF (h:Heap) (H:Hp):Heap:=A6 h (trk h H)
theorem ik (h:Heap) (H:Hp):(dF h H).objs.size=h.objs.size:=PySem.W.hideAll_size _ _
theorem br {h:Heap} {H:Hp} {b:uR} {o:Obj} (e:h.get? b=some o) (n:H b=none):(dF h H).get? b=some o :=
 Ct _ e fun hm=>by
  have q:(H b).isSome=true:=(B3.mp hm).2;rw [n] at q;simp at q
theorem m9 {h:Heap} {H:Hp} {b:uR} {o:Obj} (e:(dF h H).get? b=some o):h.get? b=some o/\H b=none:=by
 have e':h.get? b=some o:=PySem.W.of_hideAll (trk h H) e;refine⟨e',?_⟩;cases q:H b with
 | none=>rfl
 | some x =>
  have hm:b∈trk h H:=B3.mpr ⟨Ao.mpr (u5 e'),by simp [q]⟩;have z:(dF h H).get? b=none:=Cd (trk h H) hm;rw [z] at e;cases e
noncomputable def vR (g h:Heap) (L:uR):List (uR×Obj):=(BB h.objs.size).filterMap fun a=>if a=L \/ (g.get? a).isSome=true then none else (h.get? a).map fun o=>(a,o)
theorem aM {g h:Heap} {L a:uR} {o:Obj} (h1:a≠L) (h2:g.get? a=none) (h3:h.get? a=some o):(a,o)∈vR g h L :=
 xX.mpr ⟨a,Ao.mpr (u5 h3),by simp [h1,h2,h3]⟩
theorem bt {g h:Heap} {L:uR} {p:uR×Obj} (hp:p∈vR g h L):p.1≠L/\g.get? p.1=none/\h.get? p.1=some p.2:=by
 obtain⟨b,_,e⟩:=xX.mp hp;split at e
 ·cases e
 ·rename_i hn;cases q:h.get? b with
  | none=>rw [q] at e;simp at e
  | some u =>
   rw [q] at e;simp only [Option.map_some,Option.some.injEq] at e;subst e;refine⟨fun z=>hn (.inl z),?_,q⟩;show g.get? b=none;cases r:g.get? b with
   | none=>rfl
   | some v=>exact (hn (.inr (by simp [r]))).elim
noncomputable def rest (g h:Heap) (L d:uR):List (uR×Obj):=(vR g h L).filter fun p=>decide (p.1≠d)
theorem ku {g h:Heap} {L:uR}:News g L h (vR g h L):=fun p hp=>let⟨a,b,c⟩:=bt hp;⟨c,a,b⟩
structure Mod (K:uQ) (mg:Str->Option Value) (base:Heap):Prop where
 kin:K.In base
 glob:base.Ns u9 mg
 blt:∃ mb,base.Ns builtinsNs mb/\∀ x:Str,x ≠ "__name__"->mb x=bootBuiltins x
 nolimit:base.NoLimit
 bm:∃ b o,mg "__builtins__"=some (.ref b)/\b≠builtinsNs/\base.get? b=some o/\o.cls=.type "module"/\o.dict=some builtinsNs/\o.data=.plain
structure Cx where
 prog:Program
 w:World
 K:uQ
 mg:Str->Option Value
 base:Heap
 A:Around
 N:List Str
 s₀:Shared
 H₀:Hp
 env:Env
 outer:List Env
 stack:List Env
 ex:List uR
 fn:Str->Bool
 calm:Bool
 pn:List (uR×Obj)
 xe:Value->Shared->Prop
noncomputable def frs (l:List Env):List uR:=l.filterMap (·.frame)
noncomputable abbrev Cx.fs (X:Cx):List uR:=frs X.outer
def Vis (sc:Scope) (x:Str):Prop:=sc.names.lookup x=some .local \/ sc.names.lookup x=some .cell \/ sc.names.lookup x=some .free
def Loc (sc:Scope) (x:Str):Prop:=sc.names.lookup x=some .local \/ sc.names.lookup x=some .cell
def Look (env:Env) (h:Heap) (m:Str->Option Value) (x:Str) (u:Value):Prop :=
 (env.kindOf x=some .local/\m x=some u) \/ ((env.kindOf x=some .cell \/ env.kindOf x=some .free)/\∃ c,env.cells.lookup x=some c/\h.IsCell c (some u))
noncomputable def cO:List Str:=["least_kept","pair_beside","peaks"]
noncomputable def lamQ (q:Str):Str:=(q ++ ".<locals>.") ++ "<lambda>"
def TabsOk (K:uQ) (H:Hp):Prop:=∀ c P q,q∈cO->AS K c P=true->xc K (.ref c) q=true->H P=some (.tbl (lamQ q))
structure Cx.Ok (X:Cx):Prop where
 mod:Mod X.K X.mg X.base
 kind:X.env.scope.kind=.function
 glob:X.env.globals=u9
 blt:X.env.builtins=builtinsNs
 above:X.s₀.heap.objs.size<=X.env.locals
 inj:∀ x y c,X.env.cells.lookup x=some c->X.env.cells.lookup y=some c->x=y
 has:∀ x,(X.env.kindOf x=some .cell \/ X.env.kindOf x=some .free)->∃ c,X.env.cells.lookup x=some c
 cab:∀ x c,X.fn x=true->X.env.cells.lookup x=some c->X.s₀.heap.objs.size<=c
 hd:X.calm=true->X.A.handled=none
 frames:X.A.frames=some X.stack
 stk:X.stack=X.outer \/ (X.stack=X.env :: X.outer/\X.env.frame=some X.env.locals)
 exf:∀ b∈X.ex,b≠X.env.locals/\∀ x c,X.env.cells.lookup x=some c->c≠b
 bs:∀ b o,X.base.get? b=some o->X.s₀.heap.get? b=some o/\X.H₀ b=none
 bsz:X.base.objs.size<=X.s₀.heap.objs.size
 noex:∀ b o,X.base.get? b=some o->b∉X.ex
 exfs:∀ b∈X.ex,b∉X.fs
 funs:X.s₀.heap.FunFrames X.base X.outer
 frf:∀ b∈X.fs,X.H₀ b=none
 tabs:TabsOk X.K X.H₀
structure Inv (X:Cx) (CQ:List (uR×Obj)) (σ:List (Option V)) (H:Hp) (s:Shared):Prop where
 ok:X.Ok
 os:s.os=X.s₀.os
 bare:AllBare s.gens
 base:Un X.fs X.ex X.H₀ H X.s₀.heap s.heap
 loc:∃ m,s.heap.Ns X.env.locals m/\∀ (i:Nat) (x:Str) (v:V),X.N[i]?=some x->σ[i]?=some (some v)->Vis X.env.scope x->∃ u,RelV v u/\Look X.env s.heap m x u
 cell:∀ x c,X.env.cells.lookup x=some c->∃ v,s.heap.IsCell c v
 free:H X.env.locals=none
 freeC:∀ x c,X.env.cells.lookup x=some c->H c=none
 pin:∀ p∈X.pn++CQ,s.heap.get? p.1=some p.2/\H p.1=none/\p.1≠X.env.locals/\p.1∉X.fs/\∀ v,p.2.data≠.cell v
 hok:HOk X.prog X.w H s.heap
 len:σ.length=X.N.length
section
variable {X:Cx} {CQ:List (uR×Obj)} {σ:List (Option V)} {H H':Hp} {s:Shared} {h':Heap}
theorem Cx.Ok.nofr (ok:X.Ok) {b:uR} {o:Obj} (e:X.base.get? b=some o):b∉X.fs:=fun hb=>by
 have:=(ok.funs.mem hb).1;rw [e] at this;cases this
theorem Inv.bs (I:Inv X CQ σ H s):∀ b o,X.base.get? b=some o->s.heap.get? b=some o/\H b=none:=fun b o e =>
 ⟨I.base.keep b o (I.ok.bs b o e).1 (I.ok.bs b o e).2 (I.ok.nofr e) (I.ok.noex b o e),I.base.free b o (I.ok.bs b o e).1 (I.ok.bs b o e).2 (I.ok.noex b o e)⟩
theorem Inv.bk (I:Inv X CQ σ H s):∀ b o,X.base.get? b=some o->s.heap.get? b=some o:=fun b o e=>(I.bs b o e).1
theorem Inv.mod (I:Inv X CQ σ H s):Mod X.K X.mg X.base:=I.ok.mod
theorem Inv.kIn (I:Inv X CQ σ H s):X.K.In s.heap:=I.ok.mod.kin.keeps I.bk
theorem Inv.fr (I:Inv X CQ σ H s):∃ m,Fr X.base X.env.locals s.heap m :=
 let⟨m,hn,_⟩:=I.loc
 ⟨m,hn,I.bk,wu I.ok.bsz I.ok.above⟩
theorem Inv.lt (I:Inv X CQ σ H s):X.env.locals<s.heap.objs.size:=let⟨_,hn,_⟩:=I.loc;hn.lt
theorem Inv.sz (I:Inv X CQ σ H s):X.s₀.heap.objs.size<=s.heap.objs.size:=wu I.ok.above (xS I.lt)
theorem Inv.nofs (I:Inv X CQ σ H s) {a:uR} (h:s.heap.objs.size<=a):a∉X.fs:=fun hb=>by
 obtain⟨_,o,ho,_⟩:=I.ok.funs.mem hb;exact absurd (wm (u5 ho) (wu I.sz h)) (xU _)
theorem Inv.cne (I:Inv X CQ σ H s):∀ x c,X.env.cells.lookup x=some c->c≠X.env.locals:=fun x c e z=>by
 obtain⟨v,o,ho,hd⟩:=I.cell x c e;obtain⟨m,⟨o',es,ep,ho',hd',_⟩,_⟩:=I.loc;rw [z,ho'] at ho;cases ho;rw [hd'] at hd;cases hd
theorem Inv.funs (I:Inv X CQ σ H s):s.heap.FunFrames X.base X.outer:=by
 have all:∀ (l:List Env),(∀ b∈frs l,b∈X.fs)->X.s₀.heap.FunFrames X.base l->s.heap.FunFrames X.base l:=by
  intro l
  induction l with
  | nil=>intro _ _;trivial
  | cons env r ih =>
   intro hs hl;obtain⟨hk,⟨L,o,hf,hn,ho,hd⟩,hr⟩:=hl;have hL:L∈X.fs:=hs L (by unfold frs;rw [xO,hf];exact u3);obtain⟨sl,e⟩:=I.base.slot L o ho (I.ok.frf L hL) hL fun z=>I.ok.exfs L z hL;exact⟨hk,⟨L,_,hf,hn,e,hd⟩,ih (fun b hb=>hs b (by unfold frs;rw [xO,hf];exact uW _ hb)) hr⟩
 exact all X.outer (fun _ hb=>hb) I.ok.funs
theorem Inv.stack (I:Inv X CQ σ H s):s.heap.FunFrames X.base X.stack:=by
 rcases I.ok.stk with e | ⟨e,hf⟩
 ·rw [e];exact I.funs
 ·rw [e];obtain⟨m,hn,_⟩:=I.loc;refine .cons (by rw [I.ok.kind];decide) hf hn ?_ I.funs;exact AK (wu I.ok.bsz I.ok.above)
theorem Inv.stkSub (I:Inv X CQ σ H s):∀ b∈frs X.stack,b∈X.env.locals :: X.fs:=fun b hb=>by
 rcases I.ok.stk with e | ⟨e,hf⟩
 ·rw [e] at hb;exact uW _ hb
 ·rw [e] at hb;unfold frs at hb;rw [xO,hf] at hb;exact hb
theorem Inv.stkFree (I:Inv X CQ σ H s):∀ b∈frs X.stack,H b=none:=fun b hb=>by
 rcases u6.mp (I.stkSub b hb) with e | hb
 ·rw [e];exact I.free
 ·obtain⟨_,o,ho,_⟩:=I.ok.funs.mem hb;exact I.base.free b o ho (I.ok.frf b hb) fun z=>I.ok.exfs b z hb
theorem Inv.step {g':Array GenState} {t':Nat} {d':Drawn} {ch:List uR} (I:Inv X CQ σ H s)
  (hch:∀ b∈ch,(b∈X.ex \/ X.s₀.heap.objs.size<=b)/\b≠X.env.locals/\(∀ x c,X.env.cells.lookup x=some c->c≠b)/\∀ p∈X.pn++CQ,p.1≠b)
  (keep:∀ b o,b≠X.env.locals->b∉X.fs->b∉ch->s.heap.get? b=some o->H b=none->h'.get? b=some o)
  (slot:∀ b o,b≠X.env.locals->b∈X.fs->b∉ch->s.heap.get? b=some o->H b=none->∃ sl,h'.get? b=some { o with slots:=sl }) (free:∀ b o,b∉ch->s.heap.get? b=some o->H b=none->H' b=none)
  (there:∀ b o,b∉ch->s.heap.get? b=some o->∃ o',h'.get? b=some o')
  (tups:∀ b xs,H b=some (.tup xs)->H' b=some (.tup xs)) (frzs:∀ b o u,H b=some (.frz o u)->H' b=some (.frz o u)) (tbls:∀ b q,H b=some (.tbl q)->H' b=some (.tbl q))
  (ns:∀ m,s.heap.Ns X.env.locals m->h'.Ns X.env.locals m) (hok:HOk X.prog X.w H' h') (hg:AllBare g') :
  Inv X CQ σ H' { s with heap:=h',gens:=g',drawn:=d',toks:=t' }:=by
 have neL:∀ b o,X.s₀.heap.get? b=some o->b≠X.env.locals:=fun b o e=>wC (wm (u5 e) I.ok.above);have neC:∀ b o,X.s₀.heap.get? b=some o->b∉X.ex->b∉ch:=fun b o e hx hb=>by
  rcases (hch b hb).1 with z | z
  ·exact hx z
  ·exact absurd (wm (u5 e) z) (xU _)
 have cellK:∀ x c,X.env.cells.lookup x=some c->∀ v,s.heap.IsCell c v->h'.IsCell c v:=fun x c e v ⟨o,ho,hd⟩=>by
  have nch:c∉ch:=fun z=>(hch c z).2.2.1 x c e rfl;by_cases hc:c∈X.fs
  ·obtain⟨sl,q⟩:=slot c o (I.cne x c e) hc nch ho (I.freeC x c e);exact⟨_,q,hd⟩
  ·exact⟨o,keep c o (I.cne x c e) hc nch ho (I.freeC x c e),hd⟩
 refine⟨I.ok,I.os,hg,⟨fun b o e n hb hx=>?_,fun b o e n hb hx=>?_,fun b o e n hx=>?_,fun b o e hx=>?_,fun b xs e=>tups b xs (I.base.tups b xs e),fun b o xs e=>frzs b o xs (I.base.frzs b o xs e),fun b ps e=>?_⟩,?_,fun x c e=>?_,?_,fun x c e=>?_,fun p hp=>?_,hok,I.len⟩
 ·exact keep b o (neL b o e) hb (neC b o e hx) (I.base.keep b o e n hb hx) (I.base.free b o e n hx)
 ·obtain⟨sl,e1⟩:=I.base.slot b o e n hb hx;obtain⟨sl',e2⟩:=slot b _ (neL b o e) hb (neC b o e hx) e1 (I.base.free b o e n hx);exact⟨sl',e2⟩
 ·obtain⟨o',e1⟩:=I.base.there b o e hx;exact free b o' (neC b o e hx) e1 (I.base.free b o e n hx)
 ·obtain⟨o',e1⟩:=I.base.there b o e hx;exact there b o' (neC b o e hx) e1
 ·exact tbls b _ (I.base.tbls b _ e)
 ·obtain⟨m,hn,hl⟩:=I.loc;refine⟨m,ns m hn,fun i x v e1 e2 e3=>?_⟩;obtain⟨u,r,l⟩:=hl i x v e1 e2 e3;refine⟨u,r,?_⟩;rcases l with l | ⟨k,c,e,z⟩
  ·exact .inl l
  ·exact .inr ⟨k,c,e,cellK x c e _ z⟩
 ·obtain⟨v,z⟩:=I.cell x c e;exact⟨v,cellK x c e v z⟩
 ·obtain⟨m,⟨o,_,_,ho,_⟩,_⟩:=I.loc;exact free _ o (fun z=>(hch _ z).2.1 rfl) ho I.free
 ·obtain⟨v,o,ho,hd⟩:=I.cell x c e;exact free c o (fun z=>(hch c z).2.2.1 x c e rfl) ho (I.freeC x c e)
 ·obtain⟨e,n,ne,nf,d⟩:=I.pin p hp;have nch:p.1∉ch:=fun z=>(hch p.1 z).2.2.2 p hp rfl;exact⟨keep p.1 p.2 ne nf nch e n,free p.1 p.2 nch e n,ne,nf,d⟩
theorem Inv.un {t':Nat} (I:Inv X CQ σ H s) (u:Un X.fs [] H H' s.heap h') (hok:HOk X.prog X.w H' h'):Inv X CQ σ H' { s with heap:=h',toks:=t' }:=by
 obtain⟨m,⟨o,es,ep,ho,r⟩,_⟩:=id I.loc;obtain⟨sl,hL⟩:=u.any ho I.free (by simp);exact I.step (g':=s.gens) (d':=s.drawn) (ch:=[]) (fun _ z=>nomatch z) (fun b o _ hb _ e n=>u.keep b o e n hb (by simp)) (fun b o _ hb _ e n=>u.slot b o e n hb (by simp)) (fun b o _ e n=>u.free b o e n (by simp)) (fun b o _ e=>u.there b o e (by simp)) u.tups u.frzs u.tbls (fun m' hm=>by
  obtain⟨o',es',ep',ho',r'⟩:=hm;rw [ho] at ho';cases ho';exact⟨_,es',ep',hL,r'⟩) hok I.bare
theorem Inv.call {g':Array GenState} {t':Nat} {d':Drawn} {ch:List uR} (I:Inv X CQ σ H s) (u:Un (frs X.stack) ch H H' s.heap h') (hok:HOk X.prog X.w H' h') (hg:AllBare g')
  (hch:∀ b∈ch,(b∈X.ex \/ X.s₀.heap.objs.size<=b)/\b≠X.env.locals/\(∀ x c,X.env.cells.lookup x=some c->c≠b)/\∀ p∈X.pn++CQ,p.1≠b) :
  Inv X CQ σ H' { s with heap:=h',gens:=g',drawn:=d',toks:=t' }:=by
 obtain⟨m,⟨o,es,ep,ho,r⟩,_⟩:=id I.loc;obtain⟨sl,hL⟩:=u.any ho I.free fun z=>(hch _ z).2.1 rfl;exact I.step (ch:=ch) hch (fun b o hL hb hc e n=>u.keep b o e n (fun z=>(u6.mp (I.stkSub b z)).elim hL hb) hc) (fun b o _ _ hc e n=>u.any e n hc) (fun b o hc e n=>u.free b o e n hc) (fun b o hc e=>u.there b o e hc) u.tups u.frzs u.tbls (fun m' hm=>by
  obtain⟨o',es',ep',ho',r'⟩:=hm;rw [ho] at ho';cases ho';exact⟨_,es',ep',hL,r'⟩) hok hg
theorem Inv.turned {t':Nat} {it:uR} (I:Inv X CQ σ H s) (k:∀ b o,b≠it->s.heap.get? b=some o->h'.get? b=some o) (hn:H it=none) (hL:it≠X.env.locals)
  (h1:it∈X.ex \/ X.s₀.heap.objs.size<=it) (h2:∀ x c,X.env.cells.lookup x=some c->c≠it) (h3:∀ p∈X.pn++CQ,p.1≠it):Inv X CQ σ H { s with heap:=h',toks:=t' }:=by
 have nit:∀ b u,H b=some u->b≠it:=fun b u e z=>by rw [z,hn] at e;cases e
 refine I.step (g':=s.gens) (d':=s.drawn) (ch:=[it]) (fun b hb=>?_) (fun b o _ _ hc e _=>k b o (fun z=>hc (by simp [z])) e) (fun b o _ _ hc e _=>⟨o.slots,k b o (fun z=>hc (by simp [z])) e⟩) (fun _ _ _ _ n=>n)
  (fun b o hc e=>⟨o,k b o (fun z=>hc (by simp [z])) e⟩) (fun _ _ e=>e) (fun _ _ _ e=>e) (fun b ps e=>by exact e) (fun m hm=>?_) (fun b u e=>?_) I.bare
 ·have e:b=it:=by simpa using hb
  subst e;exact⟨h1,hL,h2,h3⟩
 ·obtain⟨o,es,ep,ho,r⟩:=hm;exact⟨o,es,ep,k _ o (x6 hL) ho,r⟩
 ·refine (I.hok b u e).stay (fun c v hc q=>k c v ?_ q) (fun _ q=>q) fun _ _ q=>q;rcases hc with z | z
  ·rw [z];exact nit b u e
  ·exact nit c _ z
theorem Inv.tok (I:Inv X CQ σ H s) (t:Nat):Inv X CQ σ H { s with toks:=t }:=I.un (h':=s.heap) (t':=t) Un.refl I.hok
theorem Inv.kept {t':Nat} (I:Inv X CQ σ H s) (k:∀ b u,s.heap.get? b=some u->h'.get? b=some u):Inv X CQ σ H { s with heap:=h',toks:=t' }:=I.un (Un.kept k) (I.hok.kept k)
theorem Inv.laid {a:uR} {o:HO} {t':Nat} (I:Inv X CQ σ H s) (k:∀ b u,s.heap.get? b=some u->h'.get? b=some u) (hp:s.heap.objs.size<=a) (new:ObjOk X.prog X.w (upd H a o) h' a o) :
  Inv X CQ σ (upd H a o) { s with heap:=h',toks:=t' }:=I.un (Un.laid k hp (I.hok.fresh hp)) (I.hok.laid k hp new)
theorem Inv.write {x e:uR} {o:HO} {t':Nat} (I:Inv X CQ σ H s) (mu:Mut (H x)) (he:e=x \/ H e=some (.own x)) (k:∀ b u,b≠e->s.heap.get? b=some u->h'.get? b=some u) (heo:∃ u,h'.get? e=some u)
  (new:ObjOk X.prog X.w (upd H x o) h' x o):Inv X CQ σ (upd H x o) { s with heap:=h',toks:=t' }:=I.un (Un.write mu he k heo) (I.hok.write mu he k heo new)
theorem Inv.pins_of {pins':List (uR×Obj)} (I:Inv X CQ σ H s) (h:∀ p∈pins',s.heap.get? p.1=some p.2/\H p.1=none/\p.1≠X.env.locals/\p.1∉X.fs/\∀ v,p.2.data≠.cell v):Inv X pins' σ H s :=
 ⟨I.ok,I.os,I.bare,I.base,I.loc,I.cell,I.free,I.freeC,fun p hp=>(wQ.mp hp).elim (fun z=>I.pin p (Ae _ z)) (h p),I.hok,I.len⟩
theorem bu {N:List Str} (hN:N.Nodup) {i j:Nat} {x:Str} (a:N[i]?=some x) (b:N[j]?=some x):i=j:=by
 obtain⟨h1,e1⟩:=uY.mp a;obtain⟨h2,e2⟩:=uY.mp b;exact (List.getElem_inj hN).mp (e1.trans e2.symm)
theorem cc {M:Model} {A:Around} {E:Value->Shared->Prop} {i:Nat} {x:Str} {v:V} {u:Value} {Q:Unit->Shared->Prop} (I:Inv X CQ σ H s) (hN:X.N.Nodup) (hi:X.N[i]?=some x) (hx:Loc X.env.scope x) (r:RelV v u)
  (h:∀ s',Inv X CQ (σ.set i (some v)) H s'->(∃ a,Bg a s.heap s'.heap/\(a=X.env.locals \/ X.env.cells.lookup x=some a))->Q () s') (hf:X.fn x=true \/ X.env.scope.names.lookup x=some .local:=by first | exact .inl rfl | exact .inr rfl | assumption):wb M A (storeName X.env x u) Q E s:=by
 obtain⟨m,hn,hl⟩:=id I.loc;have hcls:(X.env.scope.kind == .class || (X.env.scope.kind == .module && X.env.locals != X.env.globals))=false:=by rw [I.ok.kind];rfl
 have hiσ:i<σ.length:=by rw [I.len];exact (uY.mp hi).1
 have cne:=I.cne;have tracked:∀ {a:uR} {h':Heap},(∃ o,s.heap.get? a=some o/\H a=none)->Bg a s.heap h'->HOk X.prog X.w H h':=fun {a h'} ha hs b ob e=>by
  obtain⟨_,_,hfree⟩:=ha;refine (I.hok b ob e).stay (fun c w' hc q=>(hs.2 c ?_).trans q) (fun _ q=>q) fun _ _ q=>q;rintro rfl;rcases hc with rfl | hc
  ·rw [hfree] at e;cases e
  ·rw [hfree] at hc;cases hc
 rcases hx with hk | hk
 ·refine wpAny_storeName_local hk hn (fun h' hn' hs=>?_) hcls;obtain⟨oL,_,_,hoL,_⟩:=id hn;refine h _ ⟨I.ok,I.os,I.bare,⟨fun b o e n hb hx=>?_,fun b o e n hb hx=>?_,I.base.free,fun b o e hx=>?_,I.base.tups,I.base.frzs,I.base.tbls⟩,⟨_,hn',fun j y v' e1 e2 e3=>?_⟩,fun y c e=>?_,I.free,I.freeC,fun p hp=>?_,tracked ⟨oL,hoL,I.free⟩ hs,by simpa using I.len⟩ ⟨_,hs,.inl rfl⟩
  ·exact (hs.2 b (wC (wm (u5 e) I.ok.above))).trans (I.base.keep b o e n hb hx)
  ·obtain⟨sl,e1⟩:=I.base.slot b o e n hb hx;exact⟨sl,(hs.2 b (wC (wm (u5 e) I.ok.above))).trans e1⟩
  ·obtain⟨o',e1⟩:=I.base.there b o e hx;exact⟨o',(hs.2 b (wC (wm (u5 e) I.ok.above))).trans e1⟩
  ·by_cases hj:j=i
   ·subst hj;rw [hi] at e1;cases e1;rw [xw hiσ] at e2;cases e2;exact⟨u,r,.inl ⟨hk,by simp⟩⟩
   ·rw [xG (x6 hj)] at e2;obtain⟨u',r',q⟩:=hl j y v' e1 e2 e3;refine⟨u',r',?_⟩;rcases q with⟨k,e⟩ | ⟨k,c,e,z⟩
    ·refine .inl ⟨k,?_⟩;have:y≠x:=fun e=>hj (bu hN e1 (e▸hi));simp [this,e]
    ·exact .inr ⟨k,c,e,z.sameBut hs (cne y c e)⟩
  ·obtain⟨w',z⟩:=I.cell y c e;exact⟨w',z.sameBut hs (cne y c e)⟩
  ·obtain⟨e,n,ne,nf,d⟩:=I.pin p hp;exact⟨(hs.2 p.1 ne).trans e,n,ne,nf,d⟩
 ·have hfn:X.fn x=true:=by
   rcases hf with z | z
   ·exact z
   ·rw [z] at hk;cases hk
  obtain⟨c,hc⟩:=I.ok.has x (.inl hk);obtain⟨w',z⟩:=I.cell x c hc;refine wpAny_storeName_cell I.ok.kind hk hc z (fun h' hc' hs=>?_);obtain⟨oc,hoc,hocd⟩:=id z;refine h { s with heap:=h' } ⟨I.ok,I.os,I.bare,⟨fun b o e n hb hx=>?_,fun b o e n hb hx=>?_,I.base.free,fun b o e hx=>?_,I.base.tups,I.base.frzs,I.base.tbls⟩,⟨m,hn.sameBut hs (x6 (cne x c hc)),fun j y v' e1 e2 e3=>?_⟩,fun y c' e=>?_,I.free,I.freeC,fun p hp=>?_,tracked ⟨oc,hoc,I.freeC x c hc⟩ hs,by simpa using I.len⟩ ⟨c,hs,.inr hc⟩
  ·exact (hs.2 b (wC (wm (u5 e) (I.ok.cab x c hfn hc)))).trans (I.base.keep b o e n hb hx)
  ·obtain⟨sl,e1⟩:=I.base.slot b o e n hb hx;exact⟨sl,(hs.2 b (wC (wm (u5 e) (I.ok.cab x c hfn hc)))).trans e1⟩
  ·obtain⟨o',e1⟩:=I.base.there b o e hx;exact⟨o',(hs.2 b (wC (wm (u5 e) (I.ok.cab x c hfn hc)))).trans e1⟩
  ·by_cases hj:j=i
   ·subst hj;rw [hi] at e1;cases e1;rw [xw hiσ] at e2;cases e2;exact⟨u,r,.inr ⟨.inl hk,c,hc,hc'⟩⟩
   ·rw [xG (x6 hj)] at e2;obtain⟨u',r',q⟩:=hl j y v' e1 e2 e3;refine⟨u',r',?_⟩;rcases q with q | ⟨k,c',e,z'⟩
    ·exact .inl q
    ·refine .inr ⟨k,c',e,z'.sameBut hs ?_⟩;rintro rfl;exact hj (bu hN e1 (I.ok.inj _ _ _ e hc▸hi))
  ·by_cases hcc:c'=c
   ·subst hcc;exact⟨_,hc'⟩
   ·obtain⟨w2,z2⟩:=I.cell y c' e;exact⟨w2,z2.sameBut hs hcc⟩
  ·obtain⟨e,n,ne,nf,d⟩:=I.pin p hp;refine⟨(hs.2 p.1 ?_).trans e,n,ne,nf,d⟩;intro q;rw [q,hoc] at e;have q':oc=p.2:=Option.some.inj e;exact d w' (by rw [<-q'];exact hocd)
theorem qN {M:Model} {A:Around} {E:Value->Shared->Prop} {i:Nat} {x:Str} {v:V} {u:Value} {Q:Unit->Shared->Prop} (I:Inv X CQ σ H s) (hN:X.N.Nodup) (hi:X.N[i]?=some x) (hx:Loc X.env.scope x) (r:RelV v u)
  (h:∀ s',Inv X CQ (σ.set i (some v)) H s'->Q () s') (hf:X.fn x=true \/ X.env.scope.names.lookup x=some .local:=by first | exact .inl rfl | exact .inr rfl | assumption):wb M A (storeName X.env x u) Q E s :=
 cc I hN hi hx r (fun s' I' _=>h s' I') hf
theorem Inv.call' {s':Shared} {ch:List uR} (I:Inv X CQ σ H s) (ho:s'.os=s.os) (u:Un (frs X.stack) ch H H' s.heap s'.heap) (hok:HOk X.prog X.w H' s'.heap) (hg:AllBare s'.gens)
  (hch:∀ b∈ch,(b∈X.ex \/ X.s₀.heap.objs.size<=b)/\b≠X.env.locals/\(∀ x c,X.env.cells.lookup x=some c->c≠b)/\∀ p∈X.pn++CQ,p.1≠b):Inv X CQ σ H' s':=by
 obtain⟨h',g',d',t',o'⟩:=s';have e:o'=s.os:=ho;subst e;exact I.call (g':=g') (t':=t') (d':=d') u hok hg hch
end
abbrev XK:=Value->Option uR->Hp->Prop
abbrev St:=List (Option V)
abbrev VK:=V->Hp->Prop
abbrev TE:=St->Hp->VK->Prop
abbrev TT:=St->Hp->(Bool->Hp->Prop)->Prop
abbrev TA:=St->Hp->(List V->Hp->Prop)->Prop
structure Ends where
 nx:St->Hp->Prop
 rt:VK
 bk:St->Hp->Prop:=fun _ _=>False
 ct:St->Hp->Prop:=fun _ _=>False
abbrev TS:=Ends->St->Hp->Prop
def EP (X:Cx) (CQ:List (uR×Obj)) (σ:St) (Q:VK) (u:Value) (s':Shared):Prop:=∃ v H',Inv X CQ σ H' s'/\RelV v u/\Q v H'
def TP (X:Cx) (CQ:List (uR×Obj)) (σ:St) (Q:Bool->Hp->Prop) (b:Bool) (s':Shared):Prop:=∃ H',Inv X CQ σ H' s'/\Q b H'
def AP (X:Cx) (CQ:List (uR×Obj)) (σ:St) (Q:List V->Hp->Prop) (us:List Value) (s':Shared):Prop:=∃ vs H',Inv X CQ σ H' s'/\Vals vs us/\Q vs H'
def SP (X:Cx) (CQ:List (uR×Obj)) (D:Ends) (f:Flow) (s':Shared):Prop :=
 match f with
 | .next=>∃ σ' H',Inv X CQ σ' H' s'/\D.nx σ' H'
 | .brk=>∃ σ' H',Inv X CQ σ' H' s'/\D.bk σ' H'
 | .cont=>∃ σ' H',Inv X CQ σ' H' s'/\D.ct σ' H'
 | .ret u=>∃ v σ' H',Inv X CQ σ' H' s'/\RelV v u/\D.rt v H'
def PE (X:Cx) (e:Expr) (t:TE):Prop :=
 ∀ (CQ:List (uR×Obj)) (s:Shared) (σ:St) (H:Hp) (Q:VK),Inv X CQ σ H s->t σ H Q->wb (model X.prog X.w) X.A (eval e X.env) (EP X CQ σ Q) X.xe s
def PT (X:Cx) (e:Expr) (t:TT):Prop :=
 ∀ (CQ:List (uR×Obj)) (s:Shared) (σ:St) (H:Hp) (Q:Bool->Hp->Prop),Inv X CQ σ H s->t σ H Q->wb (model X.prog X.w) X.A (isTrue e X.env (eval e X.env)) (TP X CQ σ Q) X.xe s
def PW (X:Cx) (e:Expr) (t:TT):Prop :=
 ∀ (whole:Sem Value) (CQ:List (uR×Obj)) (s:Shared) (σ:St) (H:Hp) (Q:Bool->Hp->Prop),Inv X CQ σ H s->t σ H Q->wb (model X.prog X.w) X.A (isTrue e X.env whole) (TP X CQ σ Q) X.xe s
theorem PW.pt {X:Cx} {e:Expr} {t:TT} (h:PW X e t):PT X e t:=h _
def PA (X:Cx) (es:List Expr) (t:TA):Prop :=
 ∀ (pos:Pos) (CQ:List (uR×Obj)) (s:Shared) (σ:St) (H:Hp) (Q:List V->Hp->Prop),Inv X CQ σ H s->t σ H Q->wb (model X.prog X.w) X.A (spliced (backTo pos (u4 es X.env))) (AP X CQ σ Q) X.xe s
def PS (X:Cx) (st:Stmt) (t:TS):Prop :=
 ∀ (CQ:List (uR×Obj)) (s:Shared) (σ:St) (H:Hp) (D:Ends),Inv X CQ σ H s->t D σ H->wb (model X.prog X.w) X.A (exec st X.env) (SP X CQ D) X.xe s
def PSs (X:Cx) (st:List Stmt) (t:TS):Prop :=
 ∀ (CQ:List (uR×Obj)) (s:Shared) (σ:St) (H:Hp) (D:Ends),Inv X CQ σ H s->t D σ H->wb (model X.prog X.w) X.A (execs st X.env) (SP X CQ D) X.xe s
theorem thn {α:Type} {t:Sem α} {Q Q':α->Shared->Prop} {M:Model} {A:Around} {E:Value->Shared->Prop} {s:Shared} (h:wb M A t Q E s) (hQ:∀ a s,Q a s->Q' a s):wb M A t Q' E s:=wW h hQ fun _ _ x=>x
section
variable {X:Cx}
def yN (i:Nat):TE:=fun σ H Q=>∃ v,σ[i]?=some (some v)/\Q v H
def tC (v:V):TE:=fun _ H Q=>Q v H
theorem kv {i:Nat} {x:Str} {pos:Pos} (hN:X.N[i]?=some x) (hv:Vis X.env.scope x) (hd:(x == ("__debug__":Str))=false:=by decide) (hcd:(x == ("__classdict__":Str))=false:=by decide):PE X (.Name x pos) (yN i):=by
 intro CQ s σ H Q I h;obtain⟨v,e,h⟩:=h;obtain⟨m,hn,hl⟩:=I.loc;obtain⟨u,r,l⟩:=hl i x v hN e hv;have fin:EP X CQ σ Q u s:=⟨v,H,I,r,h⟩;rcases l with⟨hk,hm⟩ | ⟨hk,c,hc,hcell⟩
 ·exact wpAny_Name (wpAny_loadName_local I.ok.kind hk hn hm fin) hd
 ·rcases hk with hk | hk
  ·exact wpAny_Name (wpAny_loadName_cell I.ok.kind hk hc hcell fin) hd
  ·exact wpAny_Name (wpAny_loadName_free I.ok.kind hk hc hcell fin hcd) hd
theorem zg {i j pos}:PE X (.Constant (.int i) j pos) (tC (.int i)):=fun _ _ _ H _ I h=>wpAny_Constant_int ⟨.int i,H,I.tok _,⟨_,rfl⟩,h⟩
theorem dG {b j pos}:PE X (.Constant (.bool b) j pos) (tC (.bl b)):=fun _ _ _ H _ I h=>Constant_bool ⟨.bl b,H,I,rfl,h⟩
theorem eW {j pos}:PE X (.Constant .none j pos) (tC .non):=fun _ _ _ H _ I h=>Constant_none ⟨.non,H,I,rfl,h⟩
theorem zu {x j pos}:PE X (.Constant (.str x) j pos) (tC (.str x)):=fun _ _ _ H _ I h=>Bb ⟨.str x,H,I.tok _,⟨_,rfl⟩,h⟩
def Gl (X:Cx) (x:Str):Prop:=X.env.kindOf x=some .globalImplicit
theorem y2 {E:Value->Shared->Prop} {CQ:List (uR×Obj)} {s:Shared} {σ:St} {H:Hp} {x:Str} {u:Value} {pos:Pos} {Q:Value->Shared->Prop} (I:Inv X CQ σ H s) (hg:Gl X x) (hm:X.mg x=some u) (h:Q u s)
  (hd:(x == ("__debug__":Str))=false:=by decide):wb (model X.prog X.w) X.A (eval (.Name x pos) X.env) Q E s :=
 BC I.ok.kind hg (Calls.loadGlobal_global (by rw [I.ok.glob];exact I.mod.glob.keeps I.bk) hm h) hd
theorem au {E:Value->Shared->Prop} {CQ:List (uR×Obj)} {s:Shared} {σ:St} {H:Hp} {x:Str} {u:Value} {pos:Pos} {Q:Value->Shared->Prop} (I:Inv X CQ σ H s) (hg:Gl X x) (hm:X.mg x=none) (hv:bootBuiltins x=some u) (h:Q u s)
  (hn:x ≠ "__name__":=by decide) (hd:(x == ("__debug__":Str))=false:=by decide):wb (model X.prog X.w) X.A (eval (.Name x pos) X.env) Q E s:=by
 obtain⟨mb,h1,h2⟩:=I.mod.blt;exact BC I.ok.kind hg (Calls.loadGlobal_builtin (by rw [I.ok.glob];exact I.mod.glob.keeps I.bk) hm (by rw [I.ok.blt];exact h1.keeps I.bk) ((h2 x hn).trans hv) h) hd
theorem yr {x:Str} {v:V} {u:Value} {pos:Pos} (hg:Gl X x) (hm:X.mg x=some u) (r:RelV v u) (hd:(x == ("__debug__":Str))=false:=by decide):PE X (.Name x pos) (tC v) :=
 fun _ _ _ H _ I h=>y2 I hg hm ⟨v,H,I,r,h⟩ hd
theorem cP {x:Str} {v:V} {u:Value} {pos:Pos} (hg:Gl X x) (hm:X.mg x=none) (hv:bootBuiltins x=some u) (r:RelV v u) (hn:x ≠ "__name__":=by decide) (hd:(x == ("__debug__":Str))=false:=by decide):PE X (.Name x pos) (tC v) :=
 fun _ _ _ H _ I h=>au I hg hm hv ⟨v,H,I,r,h⟩ hn hd
variable {a b:Expr} {ta tb:TE} {pos:Pos}
variable {tA tB':TT} {rest:List Expr}
def tL (t u:TT):TT:=fun σ H Q=>t σ H fun c H1=>if c=true then u σ H1 Q else Q false H1
def tOr (t u:TT):TT:=fun σ H Q=>t σ H fun c H1=>if c=true then Q true H1 else u σ H1 Q
def tM (t:TT):TT:=fun σ H Q=>t σ H fun c H1=>Q (!c) H1
theorem vS (ha:PT X a tA):PW X (.BoolOp .And [a] pos) tA:=by
 intro wh CQ s σ H Q I h;refine isTrue_and (thn (ha CQ s σ H Q I h) fun c s1 e=>?_);cases c with
 | true=>exact isTrue_and_nil e
 | false=>exact e
theorem qO (ha:PT X a tA):PW X (.BoolOp .Or [a] pos) tA:=by
 intro wh CQ s σ H Q I h;refine isTrue_or (thn (ha CQ s σ H Q I h) fun c s1 e=>?_);cases c with
 | false=>exact isTrue_or_nil e
 | true=>exact e
theorem vz (ha:PT X a tA) (hb:PW X (.BoolOp .And (b :: rest) pos) tB'):PW X (.BoolOp .And (a :: b :: rest) pos) (tL tA tB'):=by
 intro wh CQ s σ H Q I h;refine isTrue_and (thn (ha CQ s σ H _ I h) fun c s1 ⟨H1,I1,q1⟩=>?_);cases c with
 | true=>exact hb wh CQ s1 σ H1 Q I1 q1
 | false=>exact⟨H1,I1,q1⟩
theorem vT (ha:PT X a tA) (hb:PW X (.BoolOp .Or (b :: rest) pos) tB'):PW X (.BoolOp .Or (a :: b :: rest) pos) (tOr tA tB'):=by
 intro wh CQ s σ H Q I h;refine isTrue_or (thn (ha CQ s σ H _ I h) fun c s1 ⟨H1,I1,q1⟩=>?_);cases c with
 | true=>exact⟨H1,I1,q1⟩
 | false=>exact hb wh CQ s1 σ H1 Q I1 q1
theorem ja (ha:PT X a tA):PT X (.UnaryOp .Not a pos) (tM tA):=by
 intro CQ s σ H Q I h;exact isTrue_not (ha CQ s σ H (fun c H1=>Q (!c) H1) I h)
def oX (ta tb:TE):TE:=fun σ H Q=>ta σ H fun x H1=>∃ c,x=.bl c/\if c=true then tb σ H1 Q else Q (.bl false) H1
def tN (ta tb:TE):TE:=fun σ H Q=>ta σ H fun x H1=>∃ c,x=.bl c/\if c=true then Q (.bl true) H1 else tb σ H1 Q
def oY (ta:TE):TE:=fun σ H Q=>ta σ H fun x H1=>∃ c,x=.bl c/\Q (.bl (!c)) H1
theorem bw {op} {t:TE} (h:PE X a t):PE X (.BoolOp op [a] pos) t:=fun CQ s σ H Q I hw=>BoolOp_one (h CQ s σ H Q I hw)
theorem bz (ha:PE X a ta) (hb:PE X (.BoolOp .And (b :: rest) pos) tb):PE X (.BoolOp .And (a :: b :: rest) pos) (oX ta tb):=by
 intro CQ s σ H Q I h;refine BoolOp_and (thn (ha CQ s σ H _ I h) fun v s1 ⟨x,H1,I1,r1,q1⟩=>?_);obtain⟨c,rfl,q1⟩:=q1;cases r1;refine xo ?_;cases c with
 | true=>exact hb CQ s1 σ H1 Q I1 q1
 | false=>exact⟨.bl false,H1,I1,rfl,q1⟩
theorem tO (ha:PE X a ta) (hb:PE X (.BoolOp .Or (b :: rest) pos) tb):PE X (.BoolOp .Or (a :: b :: rest) pos) (tN ta tb):=by
 intro CQ s σ H Q I h;refine BoolOp_or (thn (ha CQ s σ H _ I h) fun v s1 ⟨x,H1,I1,r1,q1⟩=>?_);obtain⟨c,rfl,q1⟩:=q1;cases r1;refine xo ?_;cases c with
 | false=>exact hb CQ s1 σ H1 Q I1 q1
 | true=>exact⟨.bl true,H1,I1,rfl,q1⟩
theorem rq (ha:PE X a ta):PE X (.UnaryOp .Not a pos) (oY ta):=by
 intro CQ s σ H Q I h;refine UnaryOp_ (thn (ha CQ s σ H _ I h) fun v s1 ⟨x,H1,I1,r1,q1⟩=>?_);obtain⟨c,rfl,q1⟩:=q1;cases r1;exact not_of (xo ⟨.bl (!c),H1,I1,rfl,q1⟩)
def tIf (t:TT) (ta tb:TE):TE:=fun σ H Q=>t σ H fun c H1=>if c=true then ta σ H1 Q else tb σ H1 Q
theorem kx {c:Expr} (hc:PT X c tA) (ha:PE X a ta) (hb:PE X b tb):PE X (.IfExp c a b pos) (tIf tA ta tb):=by
 intro CQ s σ H Q I h;refine wpAny_IfExp (thn (hc CQ s σ H _ I h) fun d s1 ⟨H1,I1,q1⟩=>?_);cases d with
 | true=>exact ha CQ s1 σ H1 Q I1 q1
 | false=>exact hb CQ s1 σ H1 Q I1 q1
end
def SqL (K:uQ) (H:Hp) (a:uR) (xs:List V):Prop :=
 Rd H a (.lst xs) \/
  ∃ (o:Obj) (its:Array Value) (n:Nat),K.lookup a=some o/\o.cls=.type "list"/\o.dict=none/\o.data=.seq its n/\its.size<=wt/\Vals xs its.toList
def SqT (K:uQ) (H:Hp) (a:uR) (xs:List V):Prop :=
 Rd H a (.tup xs) \/
  ∃ (o:Obj) (its:Array Value) (n:Nat),K.lookup a=some o/\o.cls=.type "tuple"/\o.data=.seq its n/\its.size<=wt/\Vals xs its.toList
noncomputable def uE:Value->Option V
 | .none=>some .non
 | .bool b=>some (.bl b)
 | .int i _=>some (.int i)
 | .str x _=>some (.str x)
 | .bytes b _=>some (.byt b)
 | .float b _=>some (.flt b)
 | .ref a=>some (.ref a)
 | .type n=>some (.ty n)
 | _=>none
theorem RelV.abs {x:V} {u:Value} (r:RelV x u):uE u=some x:=by
 cases x with
 | non=>cases r;rfl
 | bl _=>cases r;rfl
 | int _=>obtain⟨t,rfl⟩:=r;rfl
 | str _=>obtain⟨t,rfl⟩:=r;rfl
 | byt _=>obtain⟨t,rfl⟩:=r;rfl
 | flt _=>obtain⟨t,rfl⟩:=r;rfl
 | ref _=>cases r;rfl
 | ty _=>cases r;rfl
theorem RelV.inj {x y:V} {u:Value} (r:RelV x u) (q:RelV y u):x=y:=Option.some.inj (r.abs.symm.trans q.abs)
theorem Vals.inj:∀ {xs ys:List V} {us:List Value},Vals xs us->Vals ys us->xs=ys
 | _,_,_,.nil,.nil=>rfl
 | _,_,_,.cons r t,.cons r' t'=>by rw [r.inj r',Vals.inj t t']
section
variable {X:Cx} {CQ:List (uR×Obj)} {σ:St} {H:Hp} {s:Shared} {a:uR} {xs ys:List V}
theorem SqL.of {K:uQ} (h:H a=some (.lst xs)):SqL K H a xs:=.inl (.inl h)
theorem SqT.of {K:uQ} (h:H a=some (.tup xs)):SqT K H a xs:=.inl (.inl h)
theorem Inv.list (I:Inv X CQ σ H s) (h:SqL X.K H a xs):∃ its:List Value,Vals xs its/\PlainL s.heap a its.toArray/\xs.length<=wt:=by
 rcases h with h | ⟨o,its,n,hk,hc,hd,hs,hz,r⟩
 ·obtain⟨z,its,n,r,e⟩:=h.ok I.hok;exact⟨its,r,⟨_,n,e,rfl,rfl,rfl⟩,z⟩
 ·refine⟨its.toList,r,⟨o,n,I.kIn a o hk,hc,hd,by simpa using hs⟩,?_⟩;have e:=r.length;simp only [xi] at e;omega
theorem Inv.tuple (I:Inv X CQ σ H s) (h:SqT X.K H a xs):∃ its:List Value,Vals xs its/\IsTup s.heap a its.toArray/\xs.length<=wt:=by
 rcases h with h | ⟨o,its,n,hk,hc,hs,hz,r⟩
 ·obtain⟨z,its,r,p⟩:=h.ok I.hok;exact⟨its,r,p,z⟩
 ·refine⟨its.toList,r,⟨o,I.kIn a o hk,hc,n,by simpa using hs⟩,?_⟩;have e:=r.length;simp only [xi] at e;omega
theorem Inv.list_inj (I:Inv X CQ σ H s) (h:SqL X.K H a xs) (h':SqL X.K H a ys):xs=ys:=by
 obtain⟨its,r,⟨o,n,e,_,_,d⟩,_⟩:=I.list h;obtain⟨its',r',⟨o',n',e',_,_,d'⟩,_⟩:=I.list h';rw [e] at e';cases e';rw [d] at d';injection d' with d1 _;have:its=its':=by simpa using congrArg Array.toList d1
 subst this;exact r.inj r'
theorem Inv.tuple_inj (I:Inv X CQ σ H s) (h:SqT X.K H a xs) (h':SqT X.K H a ys):xs=ys:=by
 obtain⟨its,r,⟨o,e,_,n,d⟩,_⟩:=I.tuple h;obtain⟨its',r',⟨o',e',_,n',d'⟩,_⟩:=I.tuple h';rw [e] at e';cases e';rw [d] at d';injection d' with d1 _;have:its=its':=by simpa using congrArg Array.toList d1
 subst this;exact r.inj r'
end
noncomputable abbrev Cx.wish (X:Cx) (E:Value->Shared->Prop):Cx:={ X with xe:=E }
noncomputable abbrev Cx.nox (X:Cx):Cx:=X.wish fun _ _=>False
theorem Cx.Ok.wish {X:Cx} (ok:X.Ok) (E:Value->Shared->Prop):(X.wish E).Ok :=
 ⟨ok.mod,ok.kind,ok.glob,ok.blt,ok.above,ok.inj,ok.has,ok.cab,ok.hd,ok.frames,ok.stk,ok.exf,ok.bs,ok.bsz,ok.noex,ok.exfs,ok.funs,ok.frf,ok.tabs⟩
theorem Cx.Ok.unwish {X:Cx} {E:Value->Shared->Prop} (ok:(X.wish E).Ok):X.Ok :=
 ⟨ok.mod,ok.kind,ok.glob,ok.blt,ok.above,ok.inj,ok.has,ok.cab,ok.hd,ok.frames,ok.stk,ok.exf,ok.bs,ok.bsz,ok.noex,ok.exfs,ok.funs,ok.frf,ok.tabs⟩
section
variable {X:Cx} {CQ:List (uR×Obj)} {σ:St} {H:Hp} {s:Shared} {E:Value->Shared->Prop}
theorem Inv.wish (I:Inv X CQ σ H s) (E:Value->Shared->Prop):Inv (X.wish E) CQ σ H s:=⟨I.ok.wish E,I.os,I.bare,I.base,I.loc,I.cell,I.free,I.freeC,I.pin,I.hok,I.len⟩
theorem Inv.unwish (I:Inv (X.wish E) CQ σ H s):Inv X CQ σ H s:=⟨I.ok.unwish,I.os,I.bare,I.base,I.loc,I.cell,I.free,I.freeC,I.pin,I.hok,I.len⟩
theorem SP.unwish {D:Ends} {f:Flow} {s':Shared} (h:SP (X.wish E) CQ D f s'):SP X CQ D f s':=by
 cases f with
 | next=>obtain⟨σ',H',I,q⟩:=h;exact⟨σ',H',I.unwish,q⟩
 | brk=>obtain⟨σ',H',I,q⟩:=h;exact⟨σ',H',I.unwish,q⟩
 | cont=>obtain⟨σ',H',I,q⟩:=h;exact⟨σ',H',I.unwish,q⟩
 | ret u=>obtain⟨v,σ',H',I,r,q⟩:=h;exact⟨v,σ',H',I.unwish,r,q⟩
theorem PSs.nox {st:List Stmt} {t:TS} (h:PSs X.nox st t):PSs X st t:=fun CQ s σ H D I hw =>
 wW (h CQ s σ H D (I.wish _) hw) (fun _ _ q=>q.unwish) fun _ _ z=>wR z
end
section
variable {X:Cx} {st:Stmt} {rest:List Stmt} {t u:TS} {e:Expr} {te:TE} {pos:Pos}
def ky:TS:=fun D σ H=>D.nx σ H
def aY (t u:TS):TS:=fun D σ H=>t { D with nx:=u D } σ H
theorem zJ:PSs X [] ky:=fun _ _ σ H _ I h=>wpAny_execs_nil ⟨σ,H,I,h⟩
theorem ze (h1:PS X st t) (h2:PSs X rest u):PSs X (st :: rest) (aY t u):=by
 intro CQ s σ H D I h;refine AZ (thn (h1 CQ s σ H { D with nx:=u D } I h) fun f s1 q=>?_);cases f with
 | next =>
  obtain⟨σ',H',I',q⟩:=q;exact h2 CQ s1 σ' H' D I' q
 | ret v=>exact q
 | brk=>exact q
 | cont=>exact q
theorem zi (h1:PS X st t):PSs X [st] t:=by
 intro CQ s σ H D I h;refine AZ (thn (h1 CQ s σ H D I h) fun f s1 q=>?_);cases f with
 | next=>exact wpAny_execs_nil q
 | ret v=>exact q
 | brk=>exact q
 | cont=>exact q
theorem Inv.quiet {CQ:List (uR×Obj)} {σ:St} {H:Hp} {s:Shared} (I:Inv X CQ σ H s):interactive X.env=false:=by simp [interactive,I.ok.kind]
def gA (te:TE):TS:=fun D σ H=>te σ H fun _ H1=>D.nx σ H1
theorem jV (he:PE X e te) (hs:swapsWith e none pos.line X.env=pure false:=by rfl):PS X (.Expr e pos) (gA te):=by
 intro CQ s σ H D I h;exact wpAny_Expr_any (thn (he CQ s σ H _ I h) fun v s1 ⟨x,H1,I1,r1,q1⟩=>⟨σ,H1,I1,q1⟩) I.quiet hs
def kA (te:TE):TS:=fun D σ H=>te σ H D.rt
theorem zI (he:PE X e te):PS X (.Return (some e) pos) (kA te):=by
 intro CQ s σ H D I h;exact wpAny_Return_some (thn (he CQ s σ H _ I h) fun v s1 ⟨x,H1,I1,r1,q1⟩=>⟨x,σ,H1,I1,r1,q1⟩)
def eX (c:TT) (t u:TS):TS:=fun D σ H=>c σ H fun b H1=>if b=true then t D σ H1 else u D σ H1
theorem z7 {c:Expr} {a b:List Stmt} {tc:TT} (hc:PT X c tc) (ha:PSs X a t) (hb:PSs X b u):PS X (.If c a b pos) (eX tc t u):=by
 intro CQ s σ H D I h;refine wpAny_If (thn (hc CQ s σ H _ I h) fun d s1 ⟨H1,I1,q1⟩=>?_);cases d with
 | true=>exact ha CQ s1 σ H1 D I1 q1
 | false=>exact hb CQ s1 σ H1 D I1 q1
def kC:TS:=fun _ _ _=>False
theorem qP:PS X st kC:=fun _ _ _ _ _ _ h=>h.elim
theorem il {sts:List Stmt}:PSs X sts kC:=fun _ _ _ _ _ _ h=>h.elim
end
abbrev TG:=V->St->Hp->(St->Hp->Prop)->Prop
abbrev TGs:=List V->St->Hp->(St->Hp->Prop)->Prop
def PG (X:Cx) (target:Expr) (t:TG):Prop :=
 ∀ (CQ:List (uR×Obj)) (s:Shared) (σ:St) (H:Hp) (v:V) (u:Value) (Q:St->Hp->Prop),Inv X CQ σ H s->RelV v u->t v σ H Q ->
  wb (model X.prog X.w) X.A (assign target X.env u) (fun _ s'=>∃ σ' H',Inv X CQ σ' H' s'/\Q σ' H') X.xe s
def PGs (X:Cx) (ts:List Expr) (t:TGs):Prop :=
 ∀ (CQ:List (uR×Obj)) (s:Shared) (σ:St) (H:Hp) (vs:List V) (us:List Value) (Q:St->Hp->Prop),Inv X CQ σ H s->Vals vs us->t vs σ H Q ->
  wb (model X.prog X.w) X.A (assignInOrder ((assignEach ts X.env).map (·.2)) us) (fun _ s'=>∃ σ' H',Inv X CQ σ' H' s'/\Q σ' H') X.xe s
abbrev rA:=V->V->V->Hp->(Hp->Prop)->Prop
def tP (X:Cx) (t:rA):Prop :=
 ∀ (CQ:List (uR×Obj)) (s:Shared) (σ:St) (H:Hp) (o i v:V) (ov iv u:Value) (Q:Hp->Prop),Inv X CQ σ H s->RelV o ov->RelV i iv->RelV v u->t o i v H Q ->
  wb (model X.prog X.w) X.A (setItem ov iv u) (fun _ s'=>∃ H',Inv X CQ σ H' s'/\Q H') X.xe s
section
variable {X:Cx} {pos:Pos}
def qQ (i:Nat):TG:=fun v σ H Q=>Q (σ.set i (some v)) H
theorem zL {i:Nat} {x:Str} (hN:X.N.Nodup) (hi:X.N[i]?=some x) (hx:Loc X.env.scope x) (hf:X.fn x=true \/ X.env.scope.names.lookup x=some .local:=by first | exact .inl rfl | exact .inr rfl | assumption):PG X (.Name x pos) (qQ i):=by
 intro CQ s σ H v u Q I r h;exact wpAny_assign_Name (qN I hN hi hx r (fun s' I'=>⟨_,H,I',h⟩) hf)
def tQ:TGs:=fun vs σ H Q=>vs=[]/\Q σ H
def oZ (t:TG) (u:TGs):TGs:=fun vs σ H Q=>∃ v r,vs=v :: r/\t v σ H fun σ' H'=>u r σ' H' Q
theorem qp:PGs X [] tQ:=by
 intro CQ s σ H vs us Q I r h;obtain⟨e,h⟩:=h;subst e;cases r;exact assignInOrder_nil ⟨σ,H,I,h⟩
theorem yi {e:Expr} {es:List Expr} {t:TG} {u:TGs} (h1:PG X e t) (h2:PGs X es u)
  (hs:(assignEach (e :: es) X.env).map (·.2)=assign e X.env :: (assignEach es X.env).map (·.2):=by rfl):PGs X (e :: es) (oZ t u):=by
 intro CQ s σ H vs us Q I r h;obtain⟨v,vr,e1,h⟩:=h;subst e1;cases r with
 | cons r rr =>
  rw [hs];refine assignInOrder_cons (thn (h1 CQ s σ H _ _ _ I r h) fun _ s1 ⟨σ1,H1,I1,q1⟩=>?_);exact h2 CQ s1 σ1 H1 _ _ Q I1 rr q1
def rB (K:uQ) (n:Nat) (t:TGs):TG:=fun v σ H Q=>∃ a xs,v=.ref a/\SqT K H a xs/\xs.length=n/\t xs σ H Q
theorem rC {es:List Expr} {k:Nat} {t:TGs} {n:Nat} (hc:X.calm=true) (h:PGs X es t)
  (hn:(assignEach es X.env).length=n:=by rfl) (hst:(assignEach es X.env).findIdx? (·.1)=none:=by rfl):PG X (.Tuple es k pos) (rB X.K n t):=by
 intro CQ s σ H v u Q I r hw;obtain⟨a,xs,e1,hq,hl,hw⟩:=hw;subst e1;cases r;obtain⟨its,rv,ht,hz⟩:=I.tuple hq;refine assign_Tuple_tuple (I.ok.hd hc) ht (by simp [hn,<- hl,rv.length]) hst fun h' hx=>?_;have I1:Inv X CQ σ H { s with heap:=h' }:=I.kept (t':=s.toks) fun b o e=>hx b o (wC (u5 e)) e;exact h CQ _ σ H xs _ Q I1 (by simpa using rv) hw
def eY (to ti:TE) (t:rA):TG:=fun v σ H Q=>to σ H fun o H1=>ti σ H1 fun i H2=>t o i v H2 fun H3=>Q σ H3
theorem kD {o i:Expr} {to ti:TE} {t:rA} (ho:PE X o to) (hi:PE X i ti) (hs:tP X t)
  (ha:∀ v,assign (.Subscript o i pos) X.env v=(do
   let ov <- holding [v] (eval o X.env)
   let iv <- holding [v,ov] (eval i X.env)
   standAt pos
   holding [v,ov,iv] (setItem ov iv v)
   release [v,ov,iv] []):=by intro _;rfl):PG X (.Subscript o i pos) (eY to ti t):=by
 intro CQ s σ H v u Q I r h;rw [ha];refine uS (xl (thn (ho CQ s σ H _ I h) fun ov s1 ⟨x,H1,I1,r1,q1⟩=>?_));refine uS (xl (thn (hi CQ s1 σ H1 _ I1 q1) fun iv s2 ⟨y,H2,I2,r2,q2⟩=>?_));refine uS (wpAny_standAt (uS (xl (thn (hs CQ s2 σ H2 x y v ov iv u _ I2 r1 r2 r q2) fun _ s3 ⟨H3,I3,q3⟩=>?_))));exact wpAny_release ⟨σ,H3,I3,q3⟩
def vt (te:TE) (g:TG):TS:=fun D σ H=>te σ H fun x H1=>g x σ H1 D.nx
theorem cQ {tg e:Expr} {te:TE} {g:TG} (he:PE X e te) (hg:PG X tg g) (hs:swapsWithSole [tg] e pos.line X.env=pure false:=by rfl) (hw:swappedStores [tg] e X.env=pure none:=by rfl)
  (h1:(assignEach [tg] X.env).map (·.2)=[assign tg X.env]:=by rfl):PS X (.Assign [tg] e pos) (vt te g):=by
 intro CQ s σ H D I h;refine wpAny_Assign_stores (thn (he CQ s σ H _ I h) fun v s1 ⟨x,H1,I1,r1,q1⟩=>?_) hs hw;rw [h1];exact thn (hg CQ s1 σ H1 x v _ I1 r1 q1) fun _ s2 q=>q
theorem zK {i:Nat} {x:Str} {e:Expr} {te:TE} {pos':Pos} (hN:X.N.Nodup) (hi:X.N[i]?=some x) (hx:Loc X.env.scope x) (he:PE X e te) (hs:swapsWith e (some (.Name x pos')) pos.line X.env=pure false:=by rfl) (hf:X.fn x=true \/ X.env.scope.names.lookup x=some .local:=by first | exact .inl rfl | exact .inr rfl | assumption) :
  PS X (.Assign [.Name x pos'] e pos) (vt te (qQ i)):=by
 intro CQ s σ H D I h;refine wpAny_Assign_Name (thn (he CQ s σ H _ I h) fun v s1 ⟨y,H1,I1,r1,q1⟩=>?_) hs;exact qN I1 hN hi hx r1 (fun s2 I2=>⟨_,H1,I2,q1⟩) hf
end
structure It where
 go:Nat->Hp->Prop
 yld:Nat->Hp->V->Hp->Prop
 stop:Nat->Hp->Prop
def vA (X:Cx) (CQ:List (uR×Obj)) (H:Hp) (b:uR):Prop :=
 H b=none/\b≠X.env.locals/\b∉X.fs/\(b∈X.ex \/ X.s₀.heap.objs.size<=b)/\(∀ x c,X.env.cells.lookup x=some c->c≠b)/\∀ p∈X.pn++CQ,p.1≠b
theorem Inv.fpOk {X:Cx} {CQ:List (uR×Obj)} {σ:St} {H H':Hp} {s:Shared} {b:uR} (I:Inv X CQ σ H s) (hb:s.heap.objs.size<=b) (hn:H' b=none):vA X CQ H' b:=by
 refine⟨hn,Bh (wm I.lt hb),I.nofs hb,.inr (wu I.sz hb),fun x c e z=>?_,fun p hp z=>?_⟩
 ·obtain⟨v,q⟩:=I.cell x c e;exact absurd (wm q.lt (by rw [z];exact hb)) (xU _)
 ·exact absurd (wm (u5 (I.pin p hp).1) (by rw [z];exact hb)) (xU _)
structure Turn (P:Program) (w:World) (K:uQ) (tg:Expr) (J:It) (fp:List uR) (it:uR) (tn:Nat->Heap->Prop):Prop where
 mem:it∈fp
 obj:∀ i h,tn i h->∀ b∈fp,∃ o,h.get? b=some o/\∀ v,o.data≠.cell v
 keep:∀ i h h',tn i h->(∀ b∈fp,∀ o,h.get? b=some o->h'.get? b=some o)->tn i h'
 item:∀ (X:Cx),X.prog=P->X.w=w->X.K=K->X.calm=true->∀ (i:Nat) (CQ:List (uR×Obj)) (s:Shared) (σ:St) (H:Hp) (E:Value->Shared->Prop),Inv X CQ σ H s->(∀ b∈fp,vA X CQ H b)->tn i s.heap->J.go i H ->
  wb (model P w) X.A (pyNext (.ref it)) (fun r s1=>∃ u,r=some u /\
   wb (model P w) X.A (Ad tg (.ref it) u) (fun _ s2=>∃ x H',Inv X CQ σ H' s2/\RelV x u/\J.yld i H x H'/\tn (i+1) s2.heap/\∀ b∈fp,H' b=none) E s1) E s
 done:∀ (X:Cx),X.prog=P->X.w=w->X.K=K->X.calm=true->∀ (i:Nat) (CQ:List (uR×Obj)) (s:Shared) (σ:St) (H:Hp) (E:Value->Shared->Prop),Inv X CQ σ H s->(∀ b∈fp,vA X CQ H b)->tn i s.heap->J.stop i H ->
  wb (model P w) X.A (pyNext (.ref it)) (fun r s1=>r=none/\Inv X CQ σ H s1) E s
 self:∀ (A:Around) (i:Nat) (s:Shared) (Q:Value->Shared->Prop) (E:Value->Shared->Prop),tn i s.heap->Q (.ref it) s->wb (model P w) A (pyIter (.ref it)) Q E s
abbrev TI:=St->Hp->(It->Hp->Prop)->Prop
def PIE (X:Cx) (CQ:List (uR×Obj)) (σ:St) (tg:Expr) (R:It->Hp->Prop) (itv:Value) (s2:Shared):Prop :=
 ∃ (it:uR) (fp:List uR) (tn:Nat->Heap->Prop) (J:It) (H':Hp),itv=.ref it/\Inv X CQ σ H' s2/\Turn X.prog X.w X.K tg J fp it tn/\tn 0 s2.heap/\(∀ b∈fp,vA X CQ H' b)/\R J H'
def PI (X:Cx) (tg iter:Expr) (wi:TI):Prop :=
 ∀ (CQ:List (uR×Obj)) (s:Shared) (σ:St) (H:Hp) (R:It->Hp->Prop),Inv X CQ σ H s->wi σ H R ->
  wb (model X.prog X.w) X.A (eval iter X.env) (fun v s1=>wb (model X.prog X.w) X.A (pyIter v) (PIE X CQ σ tg R) X.xe s1) X.xe s
theorem dH {M:Model} {A:Around} {E:Value->Shared->Prop} {s:Shared} {tg:Expr} {it:uR} {u:Value} {o:Obj} {n:String} {vs:Array Value} {Q:Unit->Shared->Prop} (ho:s.heap.get? it=some o) (hc:o.cls=.type n) (hd:o.data=.fields vs)
  (hn:["enumerate","zip","dict_itemiterator","dict_reverseitemiterator","odict_iterator","itertools.zip_longest","itertools.pairwise"].contains n=false) (hQ:Q () s):wb M A (Ad tg (.ref it) u) Q E s:=by
 unfold Ad;cases tg <;> first
  | exact wa hQ
  | (cases u <;> first
    | exact wa hQ
    | (refine uS (wpAny_load ho ?_)
       rw [hc,hd];show wb M A (if (["enumerate","zip","dict_itemiterator","dict_reverseitemiterator","odict_iterator","itertools.zip_longest","itertools.pairwise"].contains n && vs[0]? == some (rawInt _))=true then _ else _) Q E s;rw [CS (by intro h;rw [hn,AL] at h;cases h)];exact wa hQ))
noncomputable def Itl (K:uQ) (a:uR):It :=
 ⟨fun i H=>∃ xs x,SqL K H a xs/\xs[i]?=some x,fun i H x H'=>H'=H/\∀ xs,SqL K H a xs->xs[i]?=some x,fun i H=>∃ xs,SqL K H a xs/\xs.length<=i⟩
noncomputable def Itt (K:uQ) (a:uR):It :=
 ⟨fun i H=>∃ xs x,SqT K H a xs/\xs[i]?=some x,fun i H x H'=>H'=H/\∀ xs,SqT K H a xs->xs[i]?=some x,fun i H=>∃ xs,SqT K H a xs/\xs.length<=i⟩
noncomputable def Itr (lo:Int) (n:Nat):It:=⟨fun i _=>i<n,fun i H x H'=>H'=H/\x=.int (lo+i),fun i _=>n<=i⟩
theorem ip {P:Program} {w:World} {K:uQ} {tg:Expr} (a it:uR):Turn P w K tg (Itl K a) [it] it (fun i h=>h.IsListIter it a i) where
 mem:=by simp
 obj:=fun i h st b hb=>by
  have e:b=it:=by simpa using hb
  subst e;obtain⟨o,e,c,d⟩:=st;exact⟨o,e,fun v z=>by rw [d] at z;cases z⟩
 keep:=fun i h h' st k=>st.at fun o e=>k it (by simp) o e
 item:=by
  intro X hP hw hK hc i CQ s σ H E I hf st hg;subst hP hw hK;obtain⟨xs,x,hq,hx⟩:=hg;obtain⟨its,rv,p,hz⟩:=I.list hq;obtain⟨u,hu,ru⟩:=rv.get hx;obtain⟨f0,f1,f2,f3,f4,f5⟩:=hf it (by simp);refine wpAny_pyNext_list_item st p.isList (x:=u) (by simpa using hu) fun h' st' sb=>?_;have I1:Inv X CQ σ H { s with heap:=h' }:=I.turned (t':=s.toks) (fun b o hb e=>(sb.2 b hb).trans e) f0 f1 f3 f4 f5;obtain⟨o,e,c,d⟩:=id st';exact⟨u,rfl,dH (s:={ s with heap:=h' }) e c d (by decide) ⟨x,H,I1,ru,⟨rfl,fun ys hy=>by rw [I.list_inj hy hq];exact hx⟩,st',fun b hb=>(hf b hb).1⟩⟩
 done:=by
  intro X hP hw hK hc i CQ s σ H E I hf st hg;subst hP hw hK;obtain⟨xs,hq,hx⟩:=hg;obtain⟨its,rv,p,hz⟩:=I.list hq;obtain⟨f0,f1,f2,f3,f4,f5⟩:=hf it (by simp);have hl:=rv.length;exact wpAny_pyNext_list_end (I.ok.hd hc) st p.isList (by simp;omega) fun h' eb=>⟨rfl,I.turned (t':=s.toks) (fun b o hb e=>eb b o hb e) f0 f1 f3 f4 f5⟩
 self:=fun _ _ _ _ _ st h=>wpAny_pyIter_listiter st h
theorem eZ {P:Program} {w:World} {K:uQ} {tg:Expr} (a it:uR):Turn P w K tg (Itt K a) [it] it (fun i h=>h.IsTupleIter it a i) where
 mem:=by simp
 obj:=fun i h st b hb=>by
  have e:b=it:=by simpa using hb
  subst e;obtain⟨o,e,c,d⟩:=st;exact⟨o,e,fun v z=>by rw [d] at z;cases z⟩
 keep:=fun i h h' st k=>st.at fun o e=>k it (by simp) o e
 item:=by
  intro X hP hw hK hc i CQ s σ H E I hf st hg;subst hP hw hK;obtain⟨xs,x,hq,hx⟩:=hg;obtain⟨its,rv,p,hz⟩:=I.tuple hq;obtain⟨u,hu,ru⟩:=rv.get hx;obtain⟨f0,f1,f2,f3,f4,f5⟩:=hf it (by simp);refine wpAny_pyNext_tuple_item st (show s.heap.IsTuple a its.toArray from p) (x:=u) (by simpa using hu) fun h' st' sb=>?_;have I1:Inv X CQ σ H { s with heap:=h' }:=I.turned (t':=s.toks) (fun b o hb e=>(sb.2 b hb).trans e) f0 f1 f3 f4 f5;obtain⟨o,e,c,d⟩:=id st';exact⟨u,rfl,dH (s:={ s with heap:=h' }) e c d (by decide) ⟨x,H,I1,ru,⟨rfl,fun ys hy=>by rw [I.tuple_inj hy hq];exact hx⟩,st',fun b hb=>(hf b hb).1⟩⟩
 done:=by
  intro X hP hw hK hc i CQ s σ H E I hf st hg;subst hP hw hK;obtain⟨xs,hq,hx⟩:=hg;obtain⟨its,rv,p,hz⟩:=I.tuple hq;obtain⟨f0,f1,f2,f3,f4,f5⟩:=hf it (by simp);have hl:=rv.length;exact wpAny_pyNext_tuple_end (I.ok.hd hc) st (show s.heap.IsTuple a its.toArray from p) (by simp;omega) fun h' eb=>⟨rfl,I.turned (t':=s.toks) (fun b o hb e=>eb b o hb e) f0 f1 f3 f4 f5⟩
 self:=fun _ _ _ _ _ st h=>wpAny_pyIter_tupleiter st h
theorem e9 {P:Program} {w:World} {K:uQ} {tg:Expr} (it:uR) (lo:Int) (n:Nat):Turn P w K tg (Itr lo n) [it] it (fun i h=>IsRangeIter h it (lo+(i:Nat) * 1) ((n:Int) - (i:Nat)) 1) where
 mem:=by simp
 obj:=fun i h st b hb=>by
  have e:b=it:=by simpa using hb
  subst e;exact⟨_,st,fun v z=>by
   have z':Data.fields _=Data.cell v:=z;cases z'⟩
 keep:=fun i h h' st k=>k it (by simp) _ st
 item:=by
  intro X hP hw hK hc i CQ s σ H E I hf st hg;subst hP hw hK;obtain⟨f0,f1,f2,f3,f4,f5⟩:=hf it (by simp);have W:=Walks.range (prog:=X.prog) (w:=X.w) (I.ok.hd hc) it lo 1 n;refine W.item i s _ _ hg st fun v h' tk hv st' kk=>?_;obtain⟨t,rfl⟩:=hv;have I1:Inv X CQ σ H { s with heap:=h',toks:=tk }:=I.turned (fun b o hb e=>kk b o (by simpa using hb) e) f0 f1 f3 f4 f5;refine⟨_,rfl,dH (s:={ s with heap:=h',toks:=tk }) (n:="range_iterator") st' rfl rfl (by decide) ⟨.int (lo+i),H,I1,⟨t,?_⟩,⟨rfl,rfl⟩,st',fun b hb=>(hf b hb).1⟩⟩;rw [Int.mul_one]
 done:=by
  intro X hP hw hK hc i CQ s σ H E I hf st hg;subst hP hw hK;obtain⟨f0,f1,f2,f3,f4,f5⟩:=hf it (by simp);exact wpAny_pyNext_range_end (I.ok.hd hc) st (by have:n<=i:=hg;omega) fun h' eb=>⟨rfl,I.turned (t':=s.toks) (fun b o hb e=>eb b o hb e) f0 f1 f3 f4 f5⟩
 self:=fun _ _ _ _ _ st h=>wpAny_pyIter_rangeiter st h
section
variable {X:Cx} {tg:Expr}
def kE (K:uQ) (tl:TE):TI:=fun σ H R=>tl σ H fun x H1=>∃ a,x=.ref a/\(∃ xs,SqL K H1 a xs)/\R (Itl K a) H1
def rD (K:uQ) (tl:TE):TI:=fun σ H R=>tl σ H fun x H1=>∃ a,x=.ref a/\(∃ xs,SqT K H1 a xs)/\R (Itt K a) H1
theorem ni {l:Expr} {tl:TE} (hl:PE X l tl):PI X tg l (kE X.K tl):=by
 intro CQ s σ H R I h;refine thn (hl CQ s σ H _ I h) fun v s1 ⟨x,H1,I1,r1,q1⟩=>?_;obtain⟨a,e,⟨xs,hq⟩,q⟩:=q1;subst e;cases r1;obtain⟨its,rv,p,hz⟩:=I1.list hq;refine wpAny_pyIter_list p.isList ?_;refine⟨s1.heap.objs.size,[s1.heap.objs.size],_,_,H1,rfl,I1.kept (t':=s1.toks) fun b o e=>uX _ e,ip a _,⟨_,wk _ rfl,rfl,rfl⟩,fun b hb=>?_,q⟩;have e:b=s1.heap.objs.size:=by simpa using hb
 subst e;exact I1.fpOk (wc _) (I1.hok.fresh (wc _))
theorem rE {l:Expr} {tl:TE} (hl:PE X l tl):PI X tg l (rD X.K tl):=by
 intro CQ s σ H R I h;refine thn (hl CQ s σ H _ I h) fun v s1 ⟨x,H1,I1,r1,q1⟩=>?_;obtain⟨a,e,⟨xs,hq⟩,q⟩:=q1;subst e;cases r1;obtain⟨its,rv,p,hz⟩:=I1.tuple hq;refine wpAny_pyIter_tuple (show s1.heap.IsTuple a its.toArray from p) ?_;refine⟨s1.heap.objs.size,[s1.heap.objs.size],_,_,H1,rfl,I1.kept (t':=s1.toks) fun b o e=>uX _ e,eZ a _,⟨_,wk _ rfl,rfl,rfl⟩,fun b hb=>?_,q⟩;have e:b=s1.heap.objs.size:=by simpa using hb
 subst e;exact I1.fpOk (wc _) (I1.hok.fresh (wc _))
theorem kF {CQ:List (uR×Obj)} {σ:St} {H:Hp} {s:Shared} {R:It->Hp->Prop} {E:Value->Shared->Prop} {lo hi:Int} {t u v:Tok} {tk:Nat} (I:Inv X CQ σ H s) (h1:-(2 ^ 62)<=lo) (h2:lo<2 ^ 62) (h3:-(2 ^ 62)<=hi) (h4:hi<2 ^ 62)
  (q:R (Itr lo (hi - lo).toNat) H):wb (model X.prog X.w) X.A (pyIter (.ref s.heap.objs.size)) (PIE X CQ σ tg R) E { s with heap:=s.heap.push { cls:=.type "range",data:=.fields #[.int lo t,.int hi u,.int 1 v] },toks:=tk }:=by
 refine wpAny_pyIter_range (IsRange.new ..) (small_one h1 h2 h3 h4) ?_;have I1:Inv X CQ σ H { s with heap:=s.heap.push { cls:=.type "range",data:=.fields #[.int lo t,.int hi u,.int 1 v] },toks:=tk }:=I.kept fun b o e=>uX _ e;refine⟨(s.heap.push { cls:=.type "range",data:=.fields #[.int lo t,.int hi u,.int 1 v] }).objs.size,[(s.heap.push { cls:=.type "range",data:=.fields #[.int lo t,.int hi u,.int 1 v] }).objs.size],_,_,H,rfl,
  I1.kept (t':=tk) fun b o e=>uX _ e,e9 _ lo (hi - lo).toNat,?_,fun b hb=>?_,q⟩
 ·have e1:lo+((0:Nat):Int) * 1=lo:=by simp
  have e2:(((hi - lo).toNat:Nat):Int) - ((0:Nat):Int)=Builtin.Range.rangeSize lo hi 1:=by rw [rangeSize_one];split <;> omega
  show IsRangeIter _ _ (lo+((0:Nat):Int) * 1) ((((hi - lo).toNat:Nat):Int) - ((0:Nat):Int)) 1;rw [e1,e2];exact wk _ rfl
 ·have e:b=(s.heap.push { cls:=.type "range",data:=.fields #[.int lo t,.int hi u,.int 1 v] }).objs.size:=by simpa using hb
  subst e;exact I1.fpOk (wc _) (I1.hok.fresh (wc _))
def o3 (ta:TA):TI:=fun σ H R=>ta σ H fun vs H1=>∃ j:Int,vs=[.int j]/\-(2 ^ 62)<=j/\j<2 ^ 62/\R (Itr 0 j.toNat) H1
theorem qe {a:Expr} {ta:TA} {p pos:Pos} (hg:Gl X "range") (hm:X.mg "range"=none) (ha:PA X [a] ta) (hs:u4 [a] X.env=[(false,eval a X.env)]:=by rfl):PI X tg (.Call (.Name "range" p) [a] [] pos) (o3 ta):=by
 intro CQ s σ H R I h;refine Call_ (au I hg hm boot_range (xT (thn (ha pos CQ s σ H _ I h) fun us s1 ⟨vs,H1,I1,r1,q1⟩=>?_) hs rfl));obtain⟨j,e,q1,q2,q⟩:=q1;subst e;cases r1 with
 | cons r rr =>
  cases rr;obtain⟨t,rfl⟩:=r;exact call_range_1 (kF I1 (by omega) (by omega) q1 q2 (by simpa using q))
def iq (wi:TI) (g:TG) (tb:TS):TS:=fun D σ H=>wi σ H fun J H1=>∃ W:Nat->Nat->St->Hp->Prop,(∃ m,W 0 m σ H1)/\∀ i m σ H,W i m σ H ->
 (J.stop i H/\D.nx σ H) \/ (J.go i H/\∃ N:St->Hp->Prop,(∀ σ' H',N σ' H'->∃ m',m'<m/\W (i+1) m' σ' H')/\∀ x H',J.yld i H x H'->g x σ H' fun σ2 H2=>tb { D with nx:=N,ct:=N,bk:=D.nx } σ2 H2)
noncomputable def bA (fp:List uR) (h:Heap):List (uR×Obj):=fp.filterMap fun b=>(h.get? b).map fun o=>(b,o)
theorem qr {fp:List uR} {h:Heap} {b:uR} {o:Obj} (hb:b∈fp) (e:h.get? b=some o):(b,o)∈bA fp h:=xX.mpr ⟨b,hb,by rw [e];rfl⟩
theorem ir {fp:List uR} {h:Heap} {p:uR×Obj} (hp:p∈bA fp h):p.1∈fp/\h.get? p.1=some p.2:=by
 obtain⟨b,hb,e⟩:=xX.mp hp;cases q:h.get? b with
 | none=>rw [q] at e;cases e
 | some o =>
  rw [q] at e;have e':(b,o)=p:=Option.some.inj e;subst e';exact⟨hb,q⟩
theorem Inv.pinned {CQ:List (uR×Obj)} {σ:St} {H:Hp} {s:Shared} {fp:List uR} (I:Inv X CQ σ H s) (hf:∀ b∈fp,vA X CQ H b) (ho:∀ b∈fp,∃ o,s.heap.get? b=some o/\∀ v,o.data≠.cell v):Inv X (CQ++bA fp s.heap) σ H s :=
 I.pins_of fun p hp=>(wQ.mp hp).elim (fun z=>I.pin p (wq _ z)) fun z=>by
  obtain⟨hb,e⟩:=ir z;obtain⟨f0,f1,f2,_⟩:=hf p.1 hb;obtain⟨o,e',d⟩:=ho p.1 hb;rw [e] at e';cases e';exact⟨e,f0,f1,f2,d⟩
theorem Inv.unpinned {CQ pl:List (uR×Obj)} {σ:St} {H:Hp} {s:Shared} (I:Inv X (CQ++pl) σ H s):Inv X CQ σ H s:=I.pins_of fun p hp=>I.pin p (wq _ (Ae _ hp))
theorem j9 {iter:Expr} {body:List Stmt} {wi:TI} {g:TG} {tb:TS} {pos:Pos} (hp:PassesOwn (model X.prog X.w) X.A X.env X.xe) (hc:X.calm=true) (hi:PI X tg iter wi) (hg:PG X tg g) (hb:PSs X body tb)
  (hs:∀ x,AJ iter X.env x=pure x:=by intro _;rfl):PS X (.For tg iter body [] pos) (iq wi g tb):=by
 intro CQ s σ H D I h;refine wpAny_For (thn (hi CQ s σ H _ I h) fun v s1 h1=>thn h1 fun itv s2 h2=>?_) hs;obtain⟨it,fp,tn,J,H2,e,I2,T,st2,f2,W,⟨m0,w0⟩,turn⟩:=h2;subst e
 -- what stays true of the iterator's objects through the loop
 have stat:∀ {H':Hp},(∀ b∈fp,H' b=none)->∀ b∈fp,vA X CQ H' b:=fun hn b hb=>⟨hn b hb,(f2 b hb).2⟩;refine codeAny_forLoop_any (fun n s'=>∃ i σ' H',Inv X CQ σ' H' s'/\tn i s'.heap/\(∀ b∈fp,H' b=none)/\W i n σ' H') ?_ m0 ⟨0,σ,H2,I2,st2,fun b hb=>(f2 b hb).1,w0⟩;rintro n s3 ⟨i,σ3,H3,I3,st3,fr3,w3⟩;rcases turn i n σ3 H3 w3 with⟨stop,qn⟩ | ⟨go,N,hN,step⟩
 ·refine wpAny_passesOwn hp (thn (T.done X rfl rfl rfl hc i CQ s3 σ3 H3 X.xe I3 (stat fr3) st3 stop) fun r s4 ⟨hr,I4⟩=>?_);subst hr;exact wpAny_execs_nil ⟨σ3,H3,I4,qn⟩
 ·refine wpAny_passesOwn hp (thn (T.item X rfl rfl rfl hc i CQ s3 σ3 H3 X.xe I3 (stat fr3) st3 go) fun r s4 ⟨u,hr,h4⟩=>?_);subst hr;refine wpAny_passesOwn hp (thn h4 fun _ s5 ⟨x,H5,I5,r5,y5,st5,fr5⟩=>?_);have I5':=I5.pinned (stat fr5) (T.obj _ _ st5);refine wpAny_passesOwn hp (thn (hg _ s5 σ3 H5 x u _ I5' r5 (step x H5 y5)) fun _ s6 ⟨σ6,H6,I6,q6⟩=>?_);refine wpAny_passesOwn hp (thn (hb _ s6 σ6 H6 _ I6 q6) fun f s7 q7=>?_);have again:∀ {σ7:St} {H7:Hp},Inv X (CQ++bA fp s5.heap) σ7 H7 s7->N σ7 H7->∃ m,m<n/\∃ i σ' H',Inv X CQ σ' H' s7/\tn i s7.heap/\(∀ b∈fp,H' b=none)/\W i m σ' H':=fun {σ7 H7} I7 n7=>by
   obtain⟨m',hm,w7⟩:=hN σ7 H7 n7;refine⟨m',hm,i+1,σ7,H7,I7.unpinned,T.keep _ _ _ st5 fun b hb o e=>(I7.pin (b,o) (wq _ (wq _ (qr hb e)))).1,fun b hb=>?_,w7⟩;obtain⟨o,e,d⟩:=T.obj _ _ st5 b hb;exact (I7.pin (b,o) (wq _ (wq _ (qr hb e)))).2.1
  cases f with
  | next=>obtain⟨σ7,H7,I7,n7⟩:=q7;exact again I7 n7
  | cont=>obtain⟨σ7,H7,I7,n7⟩:=q7;exact again I7 n7
  | brk=>obtain⟨σ7,H7,I7,q7⟩:=q7;exact⟨σ7,H7,I7.unpinned,q7⟩
  | ret v=>obtain⟨x7,σ7,H7,I7,r7,q7⟩:=q7;exact⟨x7,σ7,H7,I7.unpinned,r7,q7⟩
end
abbrev R2:=V->V->Hp->VK->Prop
def OpR (X:Cx) (f:Value->Value->Sem Value) (r:R2):Prop :=
 ∀ (CQ:List (uR×Obj)) (s:Shared) (σ:St) (H:Hp) (x y:V) (v u:Value) (Q:VK),Inv X CQ σ H s->RelV x v->RelV y u->r x y H Q ->
  wb (model X.prog X.w) X.A (f v u) (EP X CQ σ Q) X.xe s
def UnR (X:Cx) (f:Value->Sem Value) (r:V->Hp->VK->Prop):Prop :=
 ∀ (CQ:List (uR×Obj)) (s:Shared) (σ:St) (H:Hp) (x:V) (v:Value) (Q:VK),Inv X CQ σ H s->RelV x v->r x H Q ->
  wb (model X.prog X.w) X.A (f v) (EP X CQ σ Q) X.xe s
def yA (X:Cx) (f:Value) (r:List V->Hp->VK->Prop):Prop :=
 ∀ (CQ:List (uR×Obj)) (s:Shared) (σ:St) (H:Hp) (xs:List V) (us:List Value) (Q:VK),Inv X CQ σ H s->Vals xs us->r xs H Q ->
  wb (model X.prog X.w) X.A (call f us) (EP X CQ σ Q) X.xe s
def uF (X:Cx) (r:V->Hp->(Bool->Hp->Prop)->Prop):Prop :=
 ∀ (CQ:List (uR×Obj)) (s:Shared) (σ:St) (H:Hp) (x:V) (v:Value) (Q:Bool->Hp->Prop),Inv X CQ σ H s->RelV x v->r x H Q ->
  wb (model X.prog X.w) X.A (truthy v) (TP X CQ σ Q) X.xe s
def tOp (r:R2) (ta tb:TE):TE:=fun σ H Q=>ta σ H fun x H1=>tb σ H1 fun y H2=>r x y H2 Q
def tUn (r:V->Hp->VK->Prop) (ta:TE):TE:=fun σ H Q=>ta σ H fun x H1=>r x H1 Q
def rI (C:Int->Int->Prop) (g:Int->Int->V):R2:=fun x y H Q=>∃ i j,x=.int i/\y=.int j/\C i j/\Q (g i j) H
def rI0 (g:Int->Int->V):R2:=fun x y H Q=>∃ i j,x=.int i/\y=.int j/\Q (g i j) H
def rU (g:Int->V):V->Hp->VK->Prop:=fun x H Q=>∃ i,x=.int i/\Q (g i) H
section
variable {X:Cx} {a b c:Expr} {ta tb tc:TE} {pos:Pos}
theorem rG (ha:PE X a ta) (hb:PE X b tb) {CQ:List (uR×Obj)} {s:Shared} {σ:St} {H:Hp} {R:V->V->Hp->Prop} (I:Inv X CQ σ H s)
  (h:ta σ H fun x H1=>tb σ H1 fun y H2=>R x y H2) {Q:Value->Shared->Prop} {f:Value->Value->Sem Value}
  (hf:∀ v u s2 x y H2,Inv X CQ σ H2 s2->RelV x v->RelV y u->R x y H2->wb (model X.prog X.w) X.A (f v u) Q X.xe s2) :
  wb (model X.prog X.w) X.A (eval a X.env) (fun v s₁=>wb (model X.prog X.w) X.A (eval b X.env) (fun u s₂=>wb (model X.prog X.w) X.A (f v u) Q X.xe s₂) X.xe s₁) X.xe s:=by
 refine thn (ha CQ s σ H _ I h) fun v s1 ⟨x,H1,I1,r1,q1⟩=>?_;refine thn (hb CQ s1 σ H1 _ I1 q1) fun u s2 ⟨y,H2,I2,r2,q2⟩=>?_;exact hf v u s2 x y H2 I2 r1 r2 q2
theorem zz {op:Operator} {r:R2} (ho:OpR X (binaryOp op) r) (ha:PE X a ta) (hb:PE X b tb):PE X (.BinOp a op b pos) (tOp r ta tb):=by
 intro CQ s σ H Q I h;exact wpAny_BinOp (rG ha hb I h fun v u s2 x y H2 I2 rx ry q=>ho CQ s2 σ H2 x y v u Q I2 rx ry q)
theorem o6 {op:UnaryOp} {r:V->Hp->VK->Prop} (ho:UnR X (unaryOp op) r) (ha:PE X a ta):PE X (.UnaryOp op a pos) (tUn r ta):=by
 intro CQ s σ H Q I h;exact UnaryOp_ (thn (ha CQ s σ H _ I h) fun v s1 ⟨x,H1,I1,r1,q1⟩=>ho CQ s1 σ H1 x v Q I1 r1 q1)
theorem opI {f:Value->Value->Sem Value} {C:Int->Int->Prop} {g:Int->Int->Int}
  (rule:∀ (i j:Int) (t u:Tok) (s:Shared) (Q:Value->Shared->Prop) (E:Value->Shared->Prop),C i j->Q (.int (g i j) s.toks) { s with toks:=s.toks+1 }->wb (model X.prog X.w) X.A (f (.int i t) (.int j u)) Q E s) :
  OpR X f (rI C fun i j=>.int (g i j)):=by
 intro CQ s σ H x y v u Q I rx ry h;obtain⟨i,j,rfl,rfl,hc,q⟩:=h;obtain⟨t,rfl⟩:=rx;obtain⟨t',rfl⟩:=ry;exact rule i j t t' s _ _ hc ⟨.int (g i j),H,I.tok _,⟨_,rfl⟩,q⟩
theorem tR {f:Value->Value->Sem Value} {g:Int->Int->Int}
  (rule:∀ (i j:Int) (t u:Tok) (s:Shared) (Q:Value->Shared->Prop) (E:Value->Shared->Prop),Q (.int (g i j) s.toks) { s with toks:=s.toks+1 }->wb (model X.prog X.w) X.A (f (.int i t) (.int j u)) Q E s) :
  OpR X f (rI0 fun i j=>.int (g i j)):=by
 intro CQ s σ H x y v u Q I rx ry h;obtain⟨i,j,rfl,rfl,q⟩:=h;obtain⟨t,rfl⟩:=rx;obtain⟨t',rfl⟩:=ry;exact rule i j t t' s _ _ ⟨.int (g i j),H,I.tok _,⟨_,rfl⟩,q⟩
theorem nj {f:Value->Value->Sem Value} {g:Int->Int->Bool}
  (rule:∀ (i j:Int) (t u:Tok) (s:Shared) (Q:Value->Shared->Prop) (E:Value->Shared->Prop),Q (.bool (g i j)) s->wb (model X.prog X.w) X.A (f (.int i t) (.int j u)) Q E s) :
  OpR X f (rI0 fun i j=>.bl (g i j)):=by
 intro CQ s σ H x y v u Q I rx ry h;obtain⟨i,j,rfl,rfl,q⟩:=h;obtain⟨t,rfl⟩:=rx;obtain⟨t',rfl⟩:=ry;exact rule i j t t' s _ _ ⟨.bl (g i j),H,I,rfl,q⟩
def uG (i j:Int):Prop:=0<=j/\j<=1000000/\i.natAbs<2 ^ 64
def CMul (i j:Int):Prop:=(-(2 ^ 64)<i/\i<2 ^ 64) \/ (-(2 ^ 64)<j/\j<2 ^ 64)
theorem CMul.ok {i j:Int} (h:CMul i j):IntMulOk i j:=by
 rcases h with⟨h1,h2⟩ | ⟨h1,h2⟩
 ·exact .of_left (intBits_le_64 h1 h2)
 ·exact .of_right (intBits_le_64 h1 h2)
theorem yL:OpR X (binaryOp .Add) (rI0 fun i j=>.int (i+j)):=tR fun _ _ _ _ _ _ _ q=>add_int q
theorem bB:OpR X (binaryOp .Sub) (rI0 fun i j=>.int (i - j)):=tR fun _ _ _ _ _ _ _ q=>sub_int q
theorem bC:OpR X (binaryOp .Mult) (rI CMul fun i j=>.int (i * j)):=opI fun _ _ _ _ _ _ _ hc q=>mul_int q hc.ok
theorem av:OpR X (binaryOp .Mod) (rI (fun _ j=>0<j) fun i j=>.int (i % j)):=opI fun i j _ _ _ _ _ hc q=>by
 have h1:(0:Int)<j:=hc;exact mod_int' (by omega) (by rw [Int.fmod_eq_emod_of_nonneg i (by omega)];exact q)
theorem bD:OpR X (binaryOp .Pow) (rI uG fun i j=>.int (i ^ j.toNat)):=opI fun _ _ _ _ _ _ _ hc q=>pow_int_small hc.1 hc.2.1 hc.2.2 q
theorem unI {f:Value->Sem Value} {g:Int->Int}
  (rule:∀ (i:Int) (t:Tok) (s:Shared) (Q:Value->Shared->Prop) (E:Value->Shared->Prop),Q (.int (g i) s.toks) { s with toks:=s.toks+1 }->wb (model X.prog X.w) X.A (f (.int i t)) Q E s) :
  UnR X f (rU fun i=>.int (g i)):=by
 intro CQ s σ H x v Q I rx h;obtain⟨i,rfl,q⟩:=h;obtain⟨t,rfl⟩:=rx;exact rule i t s _ _ ⟨.int (g i),H,I.tok _,⟨_,rfl⟩,q⟩
theorem kG:UnR X (unaryOp .USub) (rU fun i=>.int (-i)):=unI fun _ _ _ _ _ q=>neg_int q
end
section
variable {X:Cx} {a b c:Expr} {ta tb tc:TE} {pos:Pos}
theorem kH {CQ:List (uR×Obj)} {σ:St} {H:Hp} {s:Shared} {Q:VK} {k k':Bool} (I:Inv X CQ σ H s) (q:Q (.bl k) H) (e:k=k'):EP X CQ σ Q (.bool k') s:=by
 subst e;exact⟨.bl k,H,I,rfl,q⟩
theorem kI:OpR X (xm .Lt) (rI0 fun i j=>.bl (decide (i<j))):=nj fun _ _ _ _ _ _ _ q=>lt_int q
theorem aN:OpR X (xm .LtE) (rI0 fun i j=>.bl (decide (i<=j))):=nj fun _ _ _ _ _ _ _ q=>le_int q
theorem cj:OpR X (xm .Gt) (rI0 fun i j=>.bl (decide (j<i))):=nj fun _ _ _ _ _ _ _ q=>gt_int q
theorem tS:OpR X (xm .GtE) (rI0 fun i j=>.bl (decide (j<=i))):=nj fun _ _ _ _ _ _ _ q=>ge_int q
theorem iu:OpR X (xm .In) (fun x y H Q=>∃ i j,x=.str i/\y=.str j/\Q (.bl (!(wG j i 0 j.length 1).isEmpty)) H):=by
 intro CQ s σ H x y v u Q I rx ry h;obtain⟨i,j,rfl,rfl,q⟩:=h;obtain⟨t,rfl⟩:=rx;obtain⟨t',rfl⟩:=ry;exact in_str (kH I q rfl)
theorem cR:OpR X (xm .NotIn) (fun x y H Q=>∃ i j,x=.str i/\y=.str j/\Q (.bl (!(!(wG j i 0 j.length 1).isEmpty))) H):=by
 intro CQ s σ H x y v u Q I rx ry h;obtain⟨i,j,rfl,rfl,q⟩:=h;obtain⟨t,rfl⟩:=rx;obtain⟨t',rfl⟩:=ry;exact notIn_str (kH I q rfl)
theorem zM (b:Expr) {op:CmpOp} (h:op≠.In:=by decide) (h2:op≠.NotIn:=by decide):behindInMarks op b=false:=by
 have e1:(op == CmpOp.In)=false:=by cases op <;> first | rfl | exact absurd rfl h
 have e2:(op == CmpOp.NotIn)=false:=by cases op <;> first | rfl | exact absurd rfl h2
 cases b <;> simp [behindInMarks,e1,e2]
theorem yT {op:CmpOp} {r:R2} (ho:OpR X (xm op) r) (ha:PE X a ta) (hb:PE X b tb) (hm:behindInMarks op b=false):PE X (.Compare a [op] [b] pos) (tOp r ta tb):=by
 intro CQ s σ H Q I h;exact wpAny_Compare1 (rG ha hb I h fun v u s2 x y H2 I2 rx ry q=>ho CQ s2 σ H2 x y v u Q I2 rx ry q) hm
def kJ (t:TE):TT:=fun σ H Q=>t σ H fun x H'=>∃ k,x=.bl k/\Q k H'
theorem zN {op:CmpOp} {r:R2} (ho:OpR X (xm op) r) (ha:PE X a ta) (hb:PE X b tb) (hm:behindInMarks op b=false):PT X (.Compare a [op] [b] pos) (kJ (tOp r ta tb)):=by
 intro CQ s σ H Q I h;refine wpAny_isTrue_Compare1 (thn (ha CQ s σ H _ I h) fun v s1 ⟨x,H1,I1,r1,q1⟩=>thn (hb CQ s1 σ H1 _ I1 q1) fun u s2 ⟨y,H2,I2,r2,q2⟩ =>
  thn (ho CQ s2 σ H2 x y v u _ I2 r1 r2 q2) fun c s3 ⟨z,H3,I3,r3,k,e,q3⟩=>?_) hm
 subst e;cases r3;exact xo ⟨H3,I3,q3⟩
def fb (r r':R2) (ta tb tc:TE):TE:=fun σ H Q=>ta σ H fun x H1=>tb σ H1 fun y H2=>r x y H2 fun z H3=>∃ k,z=.bl k /\
 (if k=true then tc σ H3 fun w' H4=>r' y w' H4 Q else Q (.bl false) H3)
theorem kK {op op':CmpOp} {r r':R2} (ho:OpR X (xm op) r) (ho':OpR X (xm op') r') (ha:PE X a ta) (hb:PE X b tb) (hc:PE X c tc)
  (hm:lastMarks [op,op'] [b,c]=false:=by with_unfolding_all rfl):PE X (.Compare a [op,op'] [b,c] pos) (fb r r' ta tb tc):=by
 intro CQ s σ H Q I h;refine Compare_chain (thn (ha CQ s σ H _ I h) fun v s1 ⟨x,H1,I1,r1,q1⟩=>chain_link (thn (hb CQ s1 σ H1 _ I1 q1) fun u s2 ⟨y,H2,I2,r2,q2⟩ =>
  thn (ho CQ s2 σ H2 x y v u _ I2 r1 r2 q2) fun d s3 ⟨z,H3,I3,r3,k,e,q3⟩=>?_)) hm
 subst e;cases r3;refine xo ?_;cases k with
 | false=>exact ite_ff ⟨.bl false,H3,I3,rfl,q3⟩
 | true=>exact ite_tt (chain_last (thn (hc CQ s3 σ H3 _ I3 q3) fun w' s4 ⟨z',H4,I4,r4,q4⟩=>ho' CQ s4 σ H4 y z' u w' Q I4 r2 r4 q4))
theorem dI {op op':CmpOp} {r r':R2} (ho:OpR X (xm op) r) (ho':OpR X (xm op') r') (ha:PE X a ta) (hb:PE X b tb) (hc:PE X c tc)
  (hm:lastMarks [op,op'] [b,c]=false:=by with_unfolding_all rfl):PT X (.Compare a [op,op'] [b,c] pos) (kJ (fb r r' ta tb tc)):=by
 intro CQ s σ H Q I h;refine isTrue_chain (thn (ha CQ s σ H _ I h) fun v s1 ⟨x,H1,I1,r1,q1⟩=>test_link (thn (hb CQ s1 σ H1 _ I1 q1) fun u s2 ⟨y,H2,I2,r2,q2⟩ =>
  thn (ho CQ s2 σ H2 x y v u _ I2 r1 r2 q2) fun d s3 ⟨z,H3,I3,r3,k,e,q3⟩=>?_)) hm
 subst e;cases r3;refine xo ?_;cases k with
 | false =>
  obtain⟨k',e',q'⟩:=q3;cases e';exact ite_ff ⟨H3,I3,q'⟩
 | true =>
  refine ite_tt (test_last (thn (hc CQ s3 σ H3 _ I3 q3) fun w' s4 ⟨z',H4,I4,r4,q4⟩=>thn (ho' CQ s4 σ H4 y z' u w' _ I4 r2 r4 q4) fun d' s5 ⟨z2,H5,I5,r5,k2,e2,q5⟩=>?_));subst e2;cases r5;exact xo ⟨H5,I5,q5⟩
def rH (K:uQ) (x:V) (H:Hp) (k:Bool):Prop :=
 match x with
 | .non=>k=false
 | .bl b=>k=b
 | .int i=>k=(i != 0)
 | .str y=>y.length<=wt/\k=((y.length:Int) != 0)
 | .byt y=>y.size<=wt/\k=((y.size:Int) != 0)
 | .ref p=>(∃ xs,SqL K H p xs/\k=!xs.isEmpty) \/ (∃ xs,SqT K H p xs/\k=!xs.isEmpty) \/ ∃ kvs,H p=some (.dK kvs)/\k=!kvs.isEmpty
 | _=>False
theorem fc {κ:Type} {kvs:List (κ×V)} {vs:List (κ×Value)} (r:KV kvs vs):(!vs.isEmpty)=!kvs.isEmpty:=by
 cases r <;> rfl
theorem bE {xs:List V} {its:List Value} (r:Vals xs its):(!its.toArray.isEmpty)=!xs.isEmpty:=by
 cases r <;> simp
theorem vB:(wt:Nat)<2 ^ 63:=by rw [sizeLine_eq];decide
theorem rJ:uF X (fun x H Q=>∃ k,rH X.K x H k/\Q k H):=by
 intro CQ s σ H x v Q I rx h;obtain⟨k,e,q⟩:=h;have hl:=vB;have hs:wt=16777216:=sizeLine_eq;cases x with
 | non =>
  cases rx;have e':k=false:=e;subst e';exact truthy_none ⟨H,I,q⟩
 | bl b =>
  cases rx;have e':k=b:=e;subst e';exact xo ⟨H,I,q⟩
 | int i =>
  obtain⟨t,rfl⟩:=rx;have e':k=(i != 0):=e;subst e';exact PySem.P.truthy_int ⟨H,I,q⟩
 | str y =>
  obtain⟨t,rfl⟩:=rx;obtain⟨hy,e'⟩:y.length<=wt/\k=((y.length:Int) != 0):=e;subst e';exact PySem.P.truthy_str (by omega) ⟨H,I.tok _,q⟩
 | byt y =>
  obtain⟨t,rfl⟩:=rx;obtain⟨hy,e'⟩:y.size<=wt/\k=((y.size:Int) != 0):=e;subst e';exact PySem.W.truthy_bytes (by omega) ⟨H,I.tok _,q⟩
 | ref p =>
  cases rx;have e':(∃ xs,SqL X.K H p xs/\k=!xs.isEmpty) \/ (∃ xs,SqT X.K H p xs/\k=!xs.isEmpty) \/ ∃ kvs,H p=some (.dK kvs)/\k=!kvs.isEmpty:=e;rcases e' with⟨xs,hx,e'⟩ | ⟨xs,hx,e'⟩ | ⟨kvs,hx,e'⟩
  ·subst e';obtain⟨its,r,pl,hz⟩:=I.list hx;have hlen:=r.length;exact wpAny_truthy_list pl.isList (by simp only [wo];omega) ⟨H,I.tok _,by rw [bE r];exact q⟩
  ·subst e';obtain⟨its,r,pl,hz⟩:=I.tuple hx;have hlen:=r.length;exact truthy_tuple pl (by simp only [wo];omega) ⟨H,I.tok _,by rw [bE r];exact q⟩
  ·subst e';obtain⟨hz,hS,vs,r,m⟩:kvs.length<=wt/\(p == sysModules)=false/\∃ vs,KV kvs vs/\s.heap.DictOf (cN X.prog X.w) p vs:=I.hok p _ hx;have hlen:kvs.length=vs.length:=Paired.length r;exact wpAny_truthy_dict hS m (by omega) ⟨H,I.tok _,by rw [fc r];exact q⟩
 | _=>exact (show False from e).elim
theorem kM (ha:PE X a ta) (he:∀ whole,isTrue a X.env whole=(do let v <- whole;standAt a.pos;holding [v] (truthy v))) :
  PT X a (fun σ H Q=>ta σ H fun x H'=>∃ k,rH X.K x H' k/\Q k H'):=by
 intro CQ s σ H Q I h;exact isTrue_plain (thn (ha CQ s σ H _ I h) fun v s1 ⟨x,H1,I1,r1,q1⟩=>rJ CQ s1 σ H1 x v Q I1 r1 q1) (he _)
theorem zQ:OpR X (binaryOp .Add) (fun x y H Q=>∃ i j,x=.str i/\y=.str j/\i.length+j.length<=wt/\Q (.str (i++j)) H):=by
 intro CQ s σ H x y v u Q I rx ry h;obtain⟨i,j,rfl,rfl,hz,q⟩:=h;obtain⟨t,rfl⟩:=rx;obtain⟨t',rfl⟩:=ry;exact add_str (fun t' tk=>⟨.str (i++j),H,I.tok _,⟨_,rfl⟩,q⟩) hz
theorem vals1 {x:V} {us:List Value} (r:Vals [x] us):∃ u,us=[u]/\RelV x u:=by
 cases r with
 | cons r1 r2=>cases r2;exact⟨_,rfl,r1⟩
theorem vals2 {x y:V} {us:List Value} (r:Vals [x,y] us):∃ u w',us=[u,w']/\RelV x u/\RelV y w':=by
 cases r with
 | cons r1 r2 =>
  cases r2 with
  | cons r3 r4=>cases r4;exact⟨_,_,rfl,r1,r3⟩
theorem kN:yA X (.builtin "abs") (fun xs H Q=>∃ i,xs=[.int i]/\Q (.int (if i<0 then -i else i)) H):=by
 intro CQ s σ H xs us Q I r h;obtain⟨i,rfl,q⟩:=h;obtain⟨u,rfl,t,rfl⟩:=vals1 r;exact call_abs_int fun u tk=>⟨.int (if i<0 then -i else i),H,I.tok _,⟨_,rfl⟩,q⟩
theorem iw (hc:X.calm=true):yA X (.builtin "max") (fun xs H Q=>∃ i j,xs=[.int i,.int j]/\Q (.int (if j > i then j else i)) H):=by
 intro CQ s σ H xs us Q I r h;obtain⟨i,j,rfl,q⟩:=h;obtain⟨u,w',rfl,⟨t,rfl⟩,⟨t',rfl⟩⟩:=vals2 r;refine max_two_ints (I.ok.hd hc) fun h' tk k=>⟨_,H,I.kept k,?_,q⟩;by_cases hj:j > i
 ·rw [CT hj,CT hj];exact⟨_,rfl⟩
 ·rw [CS hj,CS hj];exact⟨_,rfl⟩
theorem iy (hc:X.calm=true):yA X (.builtin "min") (fun xs H Q=>∃ i j,xs=[.int i,.int j]/\Q (.int (if j<i then j else i)) H):=by
 intro CQ s σ H xs us Q I r h;obtain⟨i,j,rfl,q⟩:=h;obtain⟨u,w',rfl,⟨t,rfl⟩,⟨t',rfl⟩⟩:=vals2 r;refine min_two_ints (I.ok.hd hc) fun h' tk k=>⟨_,H,I.kept k,?_,q⟩;by_cases hj:j<i
 ·rw [CT hj,CT hj];exact⟨_,rfl⟩
 ·rw [CS hj,CS hj];exact⟨_,rfl⟩
theorem vi:yA X (.type "int") (fun xs H Q=>(∃ i,xs=[.int i]/\Q (.int i) H) \/ ∃ k,xs=[.bl k]/\Q (.int (if k then 1 else 0)) H):=by
 intro CQ s σ H xs us Q I r h;rcases h with⟨i,rfl,q⟩ | ⟨k,rfl,q⟩
 ·obtain⟨u,rfl,t,rfl⟩:=vals1 r;exact call_int_int ⟨.int i,H,I,⟨_,rfl⟩,q⟩
 ·obtain⟨u,rfl,r1⟩:=vals1 r;cases r1;exact call_int_bool ⟨.int (if k then 1 else 0),H,I.tok _,⟨_,rfl⟩,q⟩
theorem jB:yA X (.type "str") (fun xs H Q=>∃ i,xs=[.int i]/\i.natAbs.log2<1920/\Q (.str (toString i)) H):=by
 intro CQ s σ H xs us Q I r h;obtain⟨i,rfl,hz,q⟩:=h;obtain⟨u,rfl,t,rfl⟩:=vals1 r;exact PySem.P.str_of_int hz ⟨.str _,H,I.tok _,⟨_,rfl⟩,q⟩
end
structure ObjM (h:Heap) (x dx C:uR) (mA:Str->Option Value):Prop where
 obj:h.get? x=some (xK C dx)
 ns:h.Ns1 dx mA
 ne:dx≠x
theorem iA {h:Heap} {dx:uR} {mA:Str->Option Value} (n:h.Ns1 dx mA):∃ od,h.get? dx=some od/\∀ name,BD name od=some (mA name):=by
 obtain⟨o,es,ep,ho,hd,hk,_,hm⟩:=n;refine⟨o,ho,fun name=>?_⟩;have e:=hm name;unfold nsFind findBy at e;rw [<-Array.find?_toList] at e;unfold BD;rw [hd];dsimp only;split
 ·rename_i y q;rw [q] at e;exact congrArg some e
 ·rename_i q;rw [q] at e;have a:es.toList.any (·.refKey)=false:=by
   rw [List.any_eq_false];intro y hy;obtain⟨z,t,hkey⟩:=hk y (Ce.mp hy);simp [DictEntry.refKey,hkey]
  have a':¬ es.toList.any (·.refKey)=true:=by rw [a];exact uT
  rw [CS a'];exact congrArg some e
theorem ObjM.look {h:Heap} {x dx C:uR} {mA:Str->Option Value} (I:ObjM h x dx C mA):∃ od,PySem.W.InstAt h x (xK C dx) C (some od)/\∀ name,BD name od=some (mA name) :=
 let⟨od,ho,hl⟩:=iA I.ns
 ⟨od,⟨I.obj,rfl,rfl,ho⟩,hl⟩
section
variable {prog:Program} {w:World} {A:Around} {E:Value->Shared->Prop} {s:Shared} {K:uQ} {x dx C f:uR} {mA:Str->Option Value} {name:Str} {v:Value}
theorem get_map {expr:Bool} {Q:Value->Shared->Prop} (X:K.In s.heap) (I:ObjM s.heap x dx C mA) (hg:AU K C name=true) (hh:Bi K C=true)
  (ha:wx K (.ref C) name=some none) (hv:mA name=some v) (hv':PySem.W.handedIn v=true) (h:Q v { s with toks:=s.toks+1 }) :
  wb (model prog w) A (getAttr (.ref x) name expr) Q E s:=by
 obtain⟨od,J,hl⟩:=I.look;exact PySem.W.get_value X J (Bw hg).1 (PySem.W.findObj_own hh ha rfl (by rw [hl,hv])) hv' h
theorem kO {pl:Sem Bool} {Q:Value×List Value->Shared->Prop} (X:K.In s.heap) (I:ObjM s.heap x dx C mA) (hg:AU K C name=true)
  (hf:wx K (.ref C) name=some (some (.ref f))) (ht:Ax K (.ref f)=true) (hv:mA name=none) (h:Q (.ref f,[.ref x]) s) :
  wb (model prog w) A (getMethod (.ref x) name pl) Q E s:=by
 obtain⟨od,J,hl⟩:=I.look;exact PySem.W.method_fn X J (Bw hg).1 (Bw hg).2 hf (beq_iff_eq.mp ht) (by show (BD name od).map (·.isSome)=some false;rw [hl,hv];rfl) h
theorem nk {ns:List Str} {Q:Unit->Shared->Prop} (X:K.In s.heap) (I:ObjM s.heap x dx C mA)
  (hs:wx K (.ref C) "__setattr__"=some (some (.builtin "object.__setattr__"))) (hp:BL K C=true) (ht:B4 K C name=some none) (hh:Bi K C=true)
  (hw:CG mA ns) (hsz:ns.length<=wt)
  (h:∀ h',ObjM h' x dx C (fun y=>if y=name then some v else mA y)->Bg dx s.heap h'->Q () { s with heap:=h',toks:=s.toks+2 }) :
  wb (model prog w) A (setAttr (.ref x) name v) Q E s:=by
 obtain⟨od,J,hl⟩:=I.look;refine PySem.W.set_plain X J hs (PySem.W.osa_open (s:={ s with toks:=s.toks+1 }) (r:=none) X J hp ht fun b=>?_);obtain⟨cd,hc,hd'⟩:=PySem.W.any_some hh;have hx:s.heap.get? x=some ⟨.ref C,some dx,.plain,#[]⟩:=I.obj;refine uS (wa (uS (uS (wpAny_loadPart hx (uS (PySem.W.Looks.here (s:={ s with toks:=s.toks+1 }) (PySem.W.looks_clsIn X hc) ?_))))));rw [hd'];refine wa (a:=some dx) (uS (wa (uS ?_)));refine wpAny_nsSet1 (s:={ s with toks:=s.toks+1 }) I.ns fun h' hn2 hs2=>?_;obtain⟨oD,esD,epD,hoD,hdD,hcD⟩:=hn2.count (PySem.Within.cons name v hw);refine uS (wpAny_lookBehind hoD (by rw [hdD];exact pastItsLine_dict (wu hcD (by rw [wy];omega))) ?_);exact wa (h _ ⟨(hs2.2 _ (x6 I.ne)).trans I.obj,hn2,I.ne⟩ hs2)
theorem kP {R:Result->Shared->Prop} {vs:List Value} {kw:List (Str×Value)} (X:K.In s.heap) (hm:Bv K C=true)
  (hi:wx K (.ref C) "__init__"=some (some (.ref f))) (hf:Cf K (.ref f)=some (.type "function"))
  (h:codeAny (model prog w) (A.under (.builtin "type.__call__" ⟨.ref C :: vs,kw⟩)) (.call (.ref f) ⟨.ref (s.heap.objs.size+1) :: vs,kw⟩) (PySem.W.InitBack (s.heap.objs.size+1) R)
   { s with heap:=(s.heap.push xn).push (xK C s.heap.objs.size) }) :
  codeAny (model prog w) A (.call (.ref C) ⟨vs,kw⟩) R s:=by
 obtain⟨hh,g,d,t,os⟩:=s;exact PySem.W.make_core (PySem.W.makes_of X hm) (PySem.W.looks_findIn X hi) (fun self=>PySem.W.bind_fn X self hf) (.inl rfl) h
end
noncomputable def qL (f:Str) (v:V):List (Str×V)->List (Str×V)
 | []=>[(f,v)]
 | (g,x) :: r=>if g=f then (g,v) :: r else (g,x) :: qL f v r
theorem aO (f g:Str) (v:V):∀ fs:List (Str×V),(qL f v fs).lookup g=if g=f then some v else fs.lookup g
 | []=>by
  show Aw g [(f,v)]=_;by_cases h:g=f
  ·have hb:(g == f)=true:=beq_iff_eq.mpr h;simp only [Aw,hb,CT h]
  ·have hb:(g == f)=false:=beq_eq_false_iff_ne.mpr h;simp only [Aw,hb,CS h]
 | (k,x) :: r=>by
  have ih:=aO f g v r;rw [show qL f v ((k,x) :: r)=(if k=f then (k,v) :: r else (k,x) :: qL f v r) from rfl];by_cases hk:k=f
  ·rw [CT hk];by_cases h:g=k
   ·have hb:(g == k)=true:=beq_iff_eq.mpr h;simp only [Aw,hb,CT (h.trans hk)]
   ·have hb:(g == k)=false:=beq_eq_false_iff_ne.mpr h;simp only [Aw,hb,CS (fun e:g=f=>h (e.trans hk.symm))]
  ·rw [CS hk];by_cases h:g=k
   ·have hb:(g == k)=true:=beq_iff_eq.mpr h;simp only [Aw,hb,CS (fun e:g=f=>hk (h.symm.trans e))]
   ·have hb:(g == k)=false:=beq_eq_false_iff_ne.mpr h;simp only [Aw,hb];exact ih
theorem aw (f:Str) (v:V):∀ fs:List (Str×V),f∈(qL f v fs).map (·.1)/\∀ g,g∈fs.map (·.1)->g∈(qL f v fs).map (·.1)
 | []=>⟨by simp [qL],fun g h=>by simp at h⟩
 | (k,x) :: r=>by
  obtain⟨i1,i2⟩:=aw f v r;rw [show qL f v ((k,x) :: r)=(if k=f then (k,v) :: r else (k,x) :: qL f v r) from rfl];by_cases hk:k=f
  ·rw [CT hk];subst hk;exact⟨by simp,fun g h=>by simpa using h⟩
  ·rw [CS hk];refine⟨?_,fun g h=>?_⟩
   ·rw [xr];exact uW _ i1
   ·rw [xr] at h ⊢;rcases u6.mp h with e | e
    ·exact u6.mpr (.inl e)
    ·exact uW _ (i2 g e)
theorem aP (f:Str) (v:V):∀ fs:List (Str×V),(qL f v fs).length<=fs.length+1
 | []=>by simp [qL]
 | (k,x) :: r=>by
  have ih:=aP f v r;rw [show qL f v ((k,x) :: r)=(if k=f then (k,v) :: r else (k,x) :: qL f v r) from rfl];by_cases hk:k=f
  ·rw [CT hk,wy,wy];omega
  ·rw [CS hk,wy,wy];omega
theorem RelO.some_of {v:V} {o:Option Value} (r:RelO (some v) o):∃ u,o=some u/\RelV v u:=by
 cases o with
 | none=>exact (show False from r).elim
 | some u=>exact⟨u,rfl,r⟩
theorem RelO.none_of {o:Option Value} (r:RelO none o):o=none:=by
 cases o with
 | none=>rfl
 | some u=>exact (show False from r).elim
theorem iB {v:V} {u:Value} (r:RelV v u):PySem.W.handedIn u=true:=by
 cases v with
 | non=>cases (show u=Value.none from r);rfl
 | bl b=>cases (show u=Value.bool b from r);rfl
 | int i=>obtain⟨t,e⟩:=(show ∃ t,u=Value.int i t from r);cases e;rfl
 | str x=>obtain⟨t,e⟩:=(show ∃ t,u=Value.str x t from r);cases e;rfl
 | byt b=>obtain⟨t,e⟩:=(show ∃ t,u=Value.bytes b t from r);cases e;rfl
 | flt b=>obtain⟨t,e⟩:=(show ∃ t,u=Value.float b t from r);cases e;rfl
 | ref a=>cases (show u=Value.ref a from r);rfl
 | ty n=>cases (show u=Value.type n from r);rfl
section
variable {P:Program} {w:World} {H H':Hp} {h h':Heap} {a C dx:uR} {fs fs':List (Str×V)}
theorem bg (hok:HOk P w H h) (e:H a=some (.ins C dx fs)):∃ mA,ObjM h a dx C mA/\(∀ f,RelO (fs.lookup f) (mA f))/\CG mA (fs.map (·.1))/\fs.length<=1000/\H dx=some (.own a):=by
 obtain⟨d,z,ne,ob,mA,n,r,q⟩:=(show ObjOk P w H h a (.ins C dx fs) from hok a _ e);exact⟨mA,⟨ob,n,ne⟩,r,q,z,d⟩
end
structure Cls (K:uQ) (C:uR):Prop where
 pg:AU K C Be=true
 hd:Bi K C=true
 po:BL K C=true
 sa:wx K (.ref C) "__setattr__"=some (some (.builtin "object.__setattr__"))
theorem Cls.get {K:uQ} {C:uR} (c:Cls K C) (f:Str):AU K C f=true:=c.pg
def NoAttr (K:uQ) (C:uR) (f:Str):Prop:=wx K (.ref C) f=some none
theorem NoAttr.taker {K:uQ} {C:uR} {f:Str} (n:NoAttr K C f):B4 K C f=some none:=by
 unfold B4;rw [show wx K (.ref C) f=some none from n];rfl
structure Con (K:uQ) (C:uR) (f:Str) (v:V) (u:Value):Prop where
 at_:wx K (.ref C) f=some (some u)
 rel:RelV v u
 get:AG K u "__get__"=some none
 cp:PySem.W.copiedNames.contains f=false
structure Meth (K:uQ) (C:uR) (m:Str) (f:uR):Prop where
 at_:wx K (.ref C) m=some (some (.ref f))
 fn:Ax K (.ref f)=true
 kp:wF K (.ref f)=true
section
variable {X:Cx} {CQ:List (uR×Obj)} {σ:St} {H:Hp} {s:Shared} {a C dx:uR} {fs:List (Str×V)} {f:Str} {v:V} {A:Around} {E:Value->Shared->Prop}
theorem fe {b:Bool} {Q:Value->Shared->Prop} (I:Inv X CQ σ H s) (e:H a=some (.ins C dx fs)) (c:Cls X.K C) (n:NoAttr X.K C f) (l:fs.lookup f=some v)
  (h:∀ u s',Inv X CQ σ H s'->RelV v u->Q u s'):wb (model X.prog X.w) A (getAttr (.ref a) f b) Q E s:=by
 obtain⟨mA,O,r,_,_,_⟩:=bg I.hok e;obtain⟨u,hu,ru⟩:=RelO.some_of (v:=v) (o:=mA f) (by rw [<-l];exact r f);exact get_map I.kIn O (c.get f) c.hd n hu (iB ru) (h u _ (I.tok _) ru)
theorem fh {m:Str} {g:uR} {pl:Sem Bool} {Q:Value×List Value->Shared->Prop} (I:Inv X CQ σ H s) (e:H a=some (.ins C dx fs)) (c:Cls X.K C) (k:Meth X.K C m g) (l:fs.lookup m=none)
  (h:Q (.ref g,[.ref a]) s):wb (model X.prog X.w) A (getMethod (.ref a) m pl) Q E s:=by
 obtain⟨mA,O,r,_,_,_⟩:=bg I.hok e;have hn:mA m=none:=RelO.none_of (by rw [<-l];exact r m);exact kO I.kIn O (c.get m) k.at_ k.fn hn h
theorem fj {y:V} {u:Value} {Q:Unit->Shared->Prop} (I:Inv X CQ σ H s) (e:H a=some (.ins C dx fs)) (c:Cls X.K C) (n:NoAttr X.K C f) (hl:fs.length<1000) (ry:RelV y u)
  (h:∀ s',Inv X CQ σ (upd H a (.ins C dx (qL f y fs))) s'->Q () s'):wb (model X.prog X.w) A (setAttr (.ref a) f u) Q E s:=by
 obtain⟨mA,O,r,wi,_,ho⟩:=bg I.hok e;have hz:(fs.map (·.1)).length<=wt:=by rw [uV,sizeLine_eq];omega
 refine nk I.kIn O c.sa c.po n.taker c.hd wi hz fun h' O' sb=>h _ ?_;have hd:∃ o,h'.get? dx=some o:=let⟨o,_,_,e',_⟩:=O'.ns;⟨o,e'⟩
 refine I.write (x:=a) (e:=dx) (by rw [e];exact True.intro) (.inr ho) (fun b q hb z=>(sb.2 b hb).trans z) hd ?_;refine⟨by rw [zl O.ne];exact ho,?_,O.ne,O'.obj,_,O'.ns,fun g=>?_,fun g hg=>?_⟩
 ·have:=aP f y fs;omega
 ·show RelO ((qL f y fs).lookup g) (if g=f then some u else mA g);rw [aO];by_cases q:g=f
  ·rw [CT q,CT q];exact ry
  ·rw [CS q,CS q];exact r g
 ·by_cases q:g=f
  ·rw [q];exact (aw f y fs).1
  ·refine (aw f y fs).2 g (wi g fun z=>hg ?_);show (if g=f then some u else mA g)=none;rw [CS q];exact z
theorem Inv.made (I:Inv X CQ σ H s):Inv X CQ σ (upd (upd H s.heap.objs.size (.own (s.heap.objs.size+1))) (s.heap.objs.size+1) (.ins C s.heap.objs.size []))
  { s with heap:=(s.heap.push xn).push (xK C s.heap.objs.size) }:=by
 have e1:(s.heap.push xn).get? s.heap.objs.size=some xn:=wk s.heap rfl;have e2:((s.heap.push xn).push (xK C s.heap.objs.size)).get? (s.heap.objs.size+1)=some (xK C s.heap.objs.size):=by
  have:=wk (s.heap.push xn) (o:=xK C s.heap.objs.size) rfl
  rwa [xj] at this
 have e3:(s.heap.push xn).Ns s.heap.objs.size (fun _=>none):=⟨xn,#[],_,e1,rfl,(fun e he=>absurd he (by simp)),fun _=>rfl⟩;have I1:=I.laid (a:=s.heap.objs.size) (o:=.own (s.heap.objs.size+1)) (h':=s.heap.push xn) (t':=s.toks) (fun b u q=>uX _ q) (wc _) ⟨_,e1⟩;refine I1.laid (a:=s.heap.objs.size+1) (o:=.ins C s.heap.objs.size []) (t':=s.toks) (fun b u q=>uX _ q) (Af (xj _ _)) ?_;have ne:s.heap.objs.size≠s.heap.objs.size+1:=wC (AV _);refine⟨by rw [zl ne,zr],xA _,ne,e2,fun _=>none,(Heap.Ns1.of_empty e3).at fun o q=>uX _ q,fun _=>True.intro,fun y hy=>absurd rfl hy⟩
theorem gB {prog:Program} {w:World} {env:Env} {e:Expr} {f:Str} {pos:Pos} {s:Shared} {Q:Value->Shared->Prop} (hb:attributeBase e f env (eval e env)=eval e env)
  (h:wb (model prog w) A (eval e env) (fun o s₁=>wb (model prog w) A (getAttr o f true) Q E s₁) E s):wb (model prog w) A (eval (.Attribute e f pos) env) Q E s :=
 Attribute_any_ h (by rw [arm_eval_Attribute,hb])
end
def tT (K:uQ) (ta:TE) (f:Str):TE:=fun σ H Q=>ta σ H fun x H1=>∃ a C dx fs v,x=.ref a/\H1 a=some (.ins C dx fs)/\Cls K C/\NoAttr K C f/\fs.lookup f=some v/\Q v H1
def rK (K:uQ) (ta tv:TE) (f:Str):TS:=fun D σ H=>tv σ H fun y H1=>ta σ H1 fun x H2=>∃ a C dx fs,x=.ref a/\H2 a=some (.ins C dx fs)/\Cls K C/\NoAttr K C f/\fs.length<1000 /\
 D.nx σ (upd H2 a (.ins C dx (qL f y fs)))
section
variable {X:Cx} {o e value:Expr} {f:Str} {pos pos' tpos:Pos} {ta tv:TE}
theorem rL (he:PE X e ta) (hb:attributeBase e f X.env (eval e X.env)=eval e X.env):PE X (.Attribute e f pos) (tT X.K ta f):=by
 intro CQ s σ H Q I h;refine gB hb (thn (he CQ s σ H _ I h) fun u s1 ⟨x,H1,I1,rx,a,C,dx,fs,v,ex,ea,c,n,l,q⟩=>?_);subst ex;obtain rfl:u=Value.ref a:=rx;exact fe I1 ea c n l fun u' s2 I2 ru=>⟨v,H1,I2,ru,q⟩
theorem kQ (ha:PE X o ta) (hv:PE X value tv) (hs:swapsWith value (some (.Attribute o f pos')) pos.line X.env=pure false):PS X (.Assign [.Attribute o f pos'] value pos) (rK X.K ta tv f):=by
 intro CQ s σ H D I h;refine plainObj_wpAny_Assign_Attribute (thn (hv CQ s σ H _ I h) fun u s1 ⟨y,H1,I1,ry,q⟩=>thn (ha CQ s1 σ H1 _ I1 q) fun ov s2 ⟨x,H2,I2,rx,a,C,dx,fs,ex,ea,c,n,l,q2⟩=>?_) hs;subst ex;obtain rfl:ov=Value.ref a:=rx;exact fj I2 ea c n l ry fun s3 I3=>⟨σ,_,I3,q2⟩
end
section
variable {X:Cx} {CQ:List (uR×Obj)} {σ:St} {H:Hp} {s:Shared} {A:Around} {E:Value->Shared->Prop} {Q:Value->Shared->Prop} {c:Value} {b:Bool}
inductive TyOf (K:uQ) (H:Hp):V->Value->Prop where
 | non:TyOf K H .non (.type "NoneType")
 | bl (x:Bool):TyOf K H (.bl x) (.type "bool")
 | int (i:Int):TyOf K H (.int i) (.type "int")
 | str (x:Str):TyOf K H (.str x) (.type "str")
 | flt (x:UInt64):TyOf K H (.flt x) (.type "float")
 | lst {a:uR} {xs:List V} (e:H a=some (.lst xs)):TyOf K H (.ref a) (.type "list")
 | frz {a:uR} {o:Obj} {xs:List V} (e:H a=some (.frz o (.lst xs))):TyOf K H (.ref a) (.type "list")
 | tup {a:uR} {xs:List V} (e:H a=some (.tup xs)):TyOf K H (.ref a) (.type "tuple")
 | dK {a:uR} {kvs:List (Key×V)} (e:H a=some (.dK kvs)):TyOf K H (.ref a) (.type "dict")
 | dT {a:uR} {kvs:List (List Key×V)} (e:H a=some (.dT kvs)):TyOf K H (.ref a) (.type "dict")
 | ins {a C dx:uR} {fs:List (Str×V)} (e:H a=some (.ins C dx fs)) (cl:Cls K C) (ha:wx K (.ref C) "__class__"=some (some (.builtin "object.__class__")))
   (hn:AG K (.builtin "object.__class__") "__get__"=some (some (.builtin "getset_descriptor.__get__"))) (htk:PySem.W.takesIn K (.builtin "object.__class__")=some true)
   (hm:Bo K C (.type "object")=some true):TyOf K H (.ref a) (.ref C)
theorem iC {x:V} {u t:Value} (I:Inv X CQ σ H s) (rx:RelV x u) (ty:TyOf X.K H x t) (e:uU X.K t c=some b) (h:∀ tk,Q (.bool b) { s with toks:=tk }) :
  wb (model X.prog X.w) A (call (.builtin "isinstance") [u,c]) Q E s:=by
 cases ty with
 | non=>cases (show u=Value.none from rx);exact w8 PySem.W.kitx_none I.kIn True.intro e (fun z=>nomatch z) h
 | bl y=>cases (show u=Value.bool y from rx);exact w8 PySem.W.kitx_bool I.kIn True.intro e (fun z=>nomatch z) h
 | int i=>obtain⟨t,q⟩:=(show ∃ t,u=Value.int i t from rx);cases q;exact w8 PySem.W.kitx_int I.kIn True.intro e (fun z=>nomatch z) h
 | str y=>obtain⟨t,q⟩:=(show ∃ t,u=Value.str y t from rx);cases q;exact w8 PySem.W.kitx_str I.kIn True.intro e (fun z=>nomatch z) h
 | flt y=>obtain⟨t,q⟩:=(show ∃ t,u=Value.float y t from rx);cases q;exact w8 PySem.W.kitx_float I.kIn True.intro e (fun z=>nomatch z) h
 | @lst a xs ea =>
  cases (show u=Value.ref a from rx);obtain⟨_,_,n,_,h1⟩:=(show ObjOk X.prog X.w H s.heap a (.lst xs) from I.hok a _ ea);exact w8 BM I.kIn ⟨_,h1,rfl⟩ e (fun z=>nomatch z) h
 | @frz a ob xs ea =>
  cases (show u=Value.ref a from rx);obtain⟨_,_,_,n,_,h1⟩:=(show ObjOk X.prog X.w H s.heap a (.frz ob (.lst xs)) from I.hok a _ ea);exact w8 BM I.kIn ⟨_,h1,rfl⟩ e (fun z=>nomatch z) h
 | @tup a xs ea =>
  cases (show u=Value.ref a from rx);obtain⟨_,_,_,p⟩:=(show ObjOk X.prog X.w H s.heap a (.tup xs) from I.hok a _ ea);obtain⟨o,h1,h2,_⟩:=p;exact w8 PySem.W.kitx_tuple I.kIn ⟨o,h1,h2⟩ e (fun z=>nomatch z) h
 | @dK a kvs ea =>
  cases (show u=Value.ref a from rx);obtain⟨_,_,vs,_,p⟩:=(show ObjOk X.prog X.w H s.heap a (.dK kvs) from I.hok a _ ea);obtain⟨o,es,ep,h1,h2,_⟩:=p;exact w8 PySem.W.kitx_dict I.kIn ⟨o,h1,h2.1⟩ e (fun z=>nomatch z) h
 | @dT a kvs ea =>
  cases (show u=Value.ref a from rx);obtain⟨_,_,xs,_,o,es,ep,h1,h2,_⟩:=(show ObjOk X.prog X.w H s.heap a (.dT kvs) from I.hok a _ ea);exact w8 PySem.W.kitx_dict I.kIn ⟨o,h1,h2.1⟩ e (fun z=>nomatch z) h
 | @ins a C dx fs ea cl ha hn htk hm =>
  cases (show u=Value.ref a from rx);obtain⟨mA,O,_⟩:=bg I.hok ea;obtain⟨od,J,_⟩:=O.look;exact w8 (PySem.W.kitx_own (cl.get _) cl.hd ha hn htk hm) I.kIn J e (fun z=>nomatch z) h
end
structure Room (k:Nat) (A:Around):Prop where
 hd:A.handled=none
 dp:A.depth+3 * k+5<recursionLimit
 un:A.units+16 * k+200<Cr
theorem Room.mono {j k:Nat} {A:Around} (r:Room k A) (h:j<=k):Room j A:=⟨r.hd,by have:=r.dp;omega,by have:=r.un;omega⟩
theorem Room.deeper {k:Nat} {A:Around} (r:Room (k+1) A) (env:Env):Room k (A.deeper env) :=
 ⟨r.hd,by have:=r.dp;show A.depth+1+3 * k+5<_;omega,by have:=r.un;show A.units+3+16 * k+200<_;omega⟩
theorem fk {A:Around} {C:uR} {us:List Value} {kw:List (Str×Value)}:(A.under (.builtin "type.__call__" ⟨.ref C :: us,kw⟩)).depth=A.depth+1:=by
 first | rfl | simp [CH,Code.weight,Code.isCreation,Code.isGuard,Code.isCaller,Code.frames,CI,guardIds]
theorem fm {A:Around} {C:uR} {us:List Value} {kw:List (Str×Value)}:(A.under (.builtin "type.__call__" ⟨.ref C :: us,kw⟩)).units=A.units+1:=by
 first | rfl | simp [CH,Code.cUnits,Code.frames,CI]
theorem Room.make {k:Nat} {A:Around} (r:Room (k+1) A) (C:uR) (us:List Value) (kw:List (Str×Value)):Room k (A.under (.builtin "type.__call__" ⟨.ref C :: us,kw⟩)) :=
 ⟨r.hd,by have:=r.dp;rw [fk];omega,by have:=r.un;rw [fm];omega⟩
theorem Room.depth {k:Nat} {A:Around} (r:Room k A):A.depth<recursionLimit:=by have:=r.dp;omega
theorem Room.units {k:Nat} {A:Around} (r:Room k A):A.units+64<Cr:=by have:=r.un;omega
def jl:TA:=fun _ H Q=>Q [] H
def z9 (ta:TE) (tr:TA):TA:=fun σ H Q=>ta σ H fun x H1=>tr σ H1 fun xs H2=>Q (x :: xs) H2
section
variable {X:Cx} {e:Expr} {es:List Expr} {te:TE} {t:TA} {pos:Pos}
theorem zd:PA X [] jl:=fun _ _ _ _ H Q I h=>Calls.spliced_nil ⟨[],H,I,.nil,h⟩
theorem zc (ha:PE X e te) (hr:PA X es t) (hs:u4 (e :: es) X.env=(false,eval e X.env) :: u4 es X.env:=by rfl):PA X (e :: es) (z9 te t):=by
 intro pos CQ s σ H Q I h;rw [hs];show wb _ _ (spliced ((false,eval e X.env) :: backTo pos (u4 es X.env))) _ _ s;refine BE (thn (ha CQ s σ H _ I h) fun u s1 ⟨x,H1,I1,r1,q1⟩=>?_);exact thn (hr pos CQ s1 σ H1 _ I1 q1) fun us s2 ⟨xs,H2,I2,r2,q2⟩=>⟨x :: xs,H2,I2,.cons r1 r2,q2⟩
def tU (t:TA):TE:=fun σ H Q=>t σ H fun xs H1=>xs.length<=wt/\∀ p,H1 p=none->Q (.ref p) (upd H1 p (.tup xs))
def kR (t:TA):TE:=fun σ H Q=>t σ H fun xs H1=>xs.length<=wt/\∀ p,H1 p=none->Q (.ref p) (upd H1 p (.lst xs))
theorem jb {x1} (h:PA X es t):PE X (.Tuple es x1 pos) (tU t):=by
 intro CQ s σ H Q I hq;refine wpAny_Tuple_spliced (thn (h pos CQ s σ H _ I hq) fun us s1 ⟨xs,H1,I1,r,z,q⟩=>⟨by rw [<-r.length];exact z,?_⟩);have hf:H1 s1.heap.objs.size=none:=I1.hok.fresh (wc _);refine⟨.ref s1.heap.objs.size,upd H1 s1.heap.objs.size (.tup xs),I1.laid (t':=s1.toks) (fun b u e=>uX _ e) (wc _) ?_,rfl,q _ hf⟩;exact⟨z,us,r,⟨_,wk _ rfl,rfl,_,rfl⟩⟩
theorem yk (h:PA X es t):PE X (.List es pos) (kR t):=by
 intro CQ s σ H Q I hq;refine wpAny_List_spliced (thn (h pos CQ s σ H _ I hq) fun us s1 ⟨xs,H1,I1,r,z,q⟩=>⟨by rw [<-r.length];exact z,?_⟩);have hf:H1 s1.heap.objs.size=none:=I1.hok.fresh (wc _);refine⟨.ref s1.heap.objs.size,upd H1 s1.heap.objs.size (.lst xs),I1.laid (t':=s1.toks) (fun b u e=>uX _ e) (wc _) ?_,rfl,q _ hf⟩;exact⟨z,us,0,r,wk _ rfl⟩
end
abbrev Sp:=List V->Hp->VK->XK->Prop
abbrev CXT:=List Env->Hp->Shared->XK->Value->Shared->Prop
structure Env0 (P:Program) (w:World) (K:uQ) (mg:Str->Option Value) (base:Heap) (A:Around) (outer:List Env) (s:Shared) (H:Hp):Prop where
 frames:A.frames=some outer
 mod:Mod K mg base
 bs:∀ b o,base.get? b=some o->s.heap.get? b=some o/\H b=none
 bsz:base.objs.size<=s.heap.objs.size
 funs:s.heap.FunFrames base outer
 frf:∀ b∈frs outer,H b=none
 tabs:TabsOk K H
 hok:HOk P w H s.heap
 bare:AllBare s.gens
def CE (outer:List Env) (P:Program) (w:World) (H:Hp) (s:Shared) (Q:VK) (u:Value) (s':Shared):Prop :=
 ∃ v H',s'.os=s.os/\AllBare s'.gens/\Un (frs outer) [] H H' s.heap s'.heap/\HOk P w H' s'.heap/\RelV v u/\Q v H'
def CR (CX:CXT) (outer:List Env) (P:Program) (w:World) (H:Hp) (s:Shared) (Q:VK) (E:XK) (r:Result) (s':Shared):Prop :=
 match r with
 | .ok (.ret u)=>CE outer P w H s Q u s'
 | .ok _=>False
 | .error e=>CX outer H s E e s'
structure FnOk (P:Program) (w:World) (K:uQ) (mg:Str->Option Value) (base:Heap) (CX:CXT) (k:Nat) (f:uR) (fd:FuncData) (ps:List Str) (sp:Sp):Prop where
 len:∀ vs H Q E,sp vs H Q E->vs.length=ps.length
 run:∀ (A:Around) (outer:List Env) (s:Shared) (H:Hp) (args:Args) (us:List Value) (vs:List V) (Q:VK) (E:XK),Room k A->Env0 P w K mg base A outer s H->BindsTo s fd args (ps.zip us)->Vals vs us->sp vs H Q E ->
  codeAny (model P w) A (.call (.ref f) args) (CR CX outer P w H s Q E) s
theorem FnOk.mono {P:Program} {w:World} {K:uQ} {mg:Str->Option Value} {base:Heap} {CX:CXT} {j k:Nat} {f:uR} {fd:FuncData} {ps:List Str} {sp:Sp} (F:FnOk P w K mg base CX j f fd ps sp) (h:j<=k) :
  FnOk P w K mg base CX k f fd ps sp:=⟨F.len,fun A outer s H args us vs Q E hr=>F.run A outer s H args us vs Q E (hr.mono h)⟩
theorem Env0.make {P:Program} {w:World} {K:uQ} {mg:Str->Option Value} {base:Heap} {A:Around} {outer:List Env} {s:Shared} {H:Hp} (e:Env0 P w K mg base A outer s H) (C:uR) (us:List Value) (kw:List (Str×Value)) :
  Env0 P w K mg base (A.under (.builtin "type.__call__" ⟨.ref C :: us,kw⟩)) outer s H:=⟨by first | exact e.frames | (simpa [CH,Code.envs,CI,pushEnvs] using e.frames),e.mod,e.bs,e.bsz,e.funs,e.frf,e.tabs,e.hok,e.bare⟩
section
variable {X:Cx} {CQ:List (uR×Obj)} {σ:St} {H:Hp} {s s':Shared}
theorem Inv.env0 (I:Inv X CQ σ H s):Env0 X.prog X.w X.K X.mg X.base X.A X.stack s H :=
 ⟨I.ok.frames,I.ok.mod,I.bs,wu I.ok.bsz I.sz,I.stack,I.stkFree,fun c P q h1 h2 h3=>I.base.tbls _ _ (I.ok.tabs c P q h1 h2 h3),I.hok,I.bare⟩
theorem Inv.after {Q:VK} {u:Value} (I:Inv X CQ σ H s) (h:CE X.stack X.prog X.w H s Q u s'):EP X CQ σ Q u s':=by
 obtain⟨v,H',os,bare,un,hok,r,q⟩:=h;obtain⟨hh,g,d,t,os'⟩:=s';obtain rfl:os'=s.os:=os;exact⟨v,H',I.call (h':=hh) (g':=g) (d':=d) (t':=t) (ch:=[]) un hok bare (fun b z=>absurd z (by simp)),r,q⟩
end
def qG (sp:Sp) (dvs:List V) (E:XK) (t:TA):TE:=fun σ H Q=>t σ H fun vs H1=>sp (vs++dvs) H1 Q E
def kS (C:uR) (m:Str) (sp:Sp) (dvs:List V) (E:XK) (ta:TE) (t:TA):TE:=fun σ H Q=>ta σ H fun x H1=>∃ a dx fs,x=.ref a/\H1 a=some (.ins C dx fs)/\fs.lookup m=none /\
 t σ H1 fun vs H2=>sp (x :: (vs++dvs)) H2 Q E
def Binds (K:uQ) (fd:FuncData) (ps:List Str) (ds:List Value):Prop :=
 ∀ (s:Shared) (us:List Value),K.In s.heap->(us++ds).length=ps.length->BindsTo s fd ⟨us,[]⟩ (ps.zip (us++ds))
theorem Binds.all {K:uQ} {fd:FuncData} {ps:List Str} (h:∀ us:List Value,us.length=ps.length->bindArgs fd ⟨us,[]⟩=pure (ps.zip us)):Binds K fd ps []:=fun s us _ hl=>by
 rw [xf] at hl ⊢;exact .of_eq (h us hl)
def Passes (CX:CXT) (X:Cx) (E:XK):Prop:=∀ (CQ:List (uR×Obj)) (σ:St) (H:Hp) (s:Shared) (e:Value) (s':Shared),Inv X CQ σ H s->CX X.stack H s E e s'->X.xe e s'
section
variable {X:Cx} {CX:CXT} {k:Nat} {f C:uR} {fd:FuncData} {ps:List Str} {sp:Sp} {dvs:List V} {ds:List Value} {E:XK} {x m:Str} {p pos apos:Pos} {e o:Expr} {es:List Expr} {ta:TE} {t:TA}
theorem cS {CQ:List (uR×Obj)} {σ:St} {H:Hp} {s:Shared} {Q:VK} {us:List Value} {vs:List V} (F:FnOk X.prog X.w X.K X.mg X.base CX k f fd ps sp) (hr:Room k X.A) (hb:Binds X.K fd ps ds) (hd:Vals dvs ds) (hx:Passes CX X E)
  (I:Inv X CQ σ H s) (r:Vals vs us) (h:sp (vs++dvs) H Q E):wb (model X.prog X.w) X.A (call (.ref f) us) (EP X CQ σ Q) X.xe s:=by
 have r2:Vals (vs++dvs) (us++ds):=r.append hd;have hl:(us++ds).length=ps.length:=by rw [<-r2.length];exact F.len _ _ _ _ h
 refine wpAny_call (A0 (F.run X.A X.stack s H ⟨us,[]⟩ (us++ds) (vs++dvs) Q E hr I.env0 (hb s us I.kIn hl) r2 h) fun r s' hq=>?_);cases r with
 | error e=>exact hx CQ σ H s e s' I hq
 | ok fl =>
  cases fl with
  | ret u=>exact I.after hq
  | next=>exact wR hq
  | brk=>exact wR hq
  | cont=>exact wR hq
theorem gC (F:FnOk X.prog X.w X.K X.mg X.base CX k f fd ps sp) (hr:Room k X.A) (hg:Gl X x) (hm:X.mg x=some (.ref f)) (hk:wF X.K (.ref f)=true) (hb:Binds X.K fd ps ds) (hd:Vals dvs ds) (hx:Passes CX X E)
  (ha:PA X (e :: es) t) (hdb:(x == ("__debug__":Str))=false:=by decide) (he:u4 (e :: es) X.env=(false,eval e X.env) :: u4 es X.env:=by rfl) (hpl:(backTo pos (u4 es X.env)).any (·.1)=false:=by rfl) :
  PE X (.Call (.Name x p) (e :: es) [] pos) (qG sp dvs E t):=by
 intro CQ s σ H Q I h;refine wpAny_Call_Name_kw (y2 I hg hm ?_ hdb);refine xC (h₀:=X.base) I.ok.mod.kin hk (thn (ha pos CQ s σ H _ I h) fun us s1 ⟨vs,H1,I1,r,q⟩=>⟨I1.kIn,?_⟩) he hpl;exact cS F hr hb hd hx I1 r q
theorem kT (F:FnOk X.prog X.w X.K X.mg X.base CX k f fd ps sp) (hr:Room k X.A) (hg:Gl X x) (hm:X.mg x=some (.ref f)) (hk:wF X.K (.ref f)=true) (hb:Binds X.K fd ps ds) (hd:Vals dvs ds) (hx:Passes CX X E)
  (hdb:(x == ("__debug__":Str))=false:=by decide):PE X (.Call (.Name x p) [] [] pos) (qG sp dvs E jl):=by
 intro CQ s σ H Q I h;refine wpAny_Call_Name_kw (y2 I hg hm ?_ hdb);exact PySem.W.callWith_K0 I.kIn hk (cS (us:=[]) F hr hb hd hx I .nil h)
theorem nq {pl:Sem Bool} (he:PE X o ta) (c:Cls X.K C) (hm:Meth X.K C m f) (F:FnOk X.prog X.w X.K X.mg X.base CX k f fd ps sp) (hr:Room k X.A) (hb:Binds X.K fd ps ds) (hd:Vals dvs ds) (hx:Passes CX X E) (ha:PA X (e :: es) t)
  (hst:u4 (e :: es) X.env=(false,eval e X.env) :: u4 es X.env:=by rfl) (hpl:(backTo pos (u4 es X.env)).any (·.1)=false:=by rfl)
  (ht:eval (.Call (.Attribute o m apos) (e :: es) [] pos) X.env=(do
   let ov <- eval o X.env
   standAt apos.atName
   let (f,first) <- holding [ov] (getMethod ov m pl)
   callWith pos f first (backTo pos (u4 (e :: es) X.env)) (backToKw pos (keywordEach [] X.env))):=by rfl) :
  PE X (.Call (.Attribute o m apos) (e :: es) [] pos) (kS C m sp dvs E ta t):=by
 intro CQ s σ H Q I h;refine B7 (pl:=pl) (thn (he CQ s σ H _ I h) fun u s1 ⟨x,H1,I1,rx,a,dx,fs,ex,ea,l,q⟩=>?_) ht;subst ex;obtain rfl:u=Value.ref a:=rx;refine fh I1 ea c hm l ?_;refine xC (first:=[.ref a]) (h₀:=X.base) I.ok.mod.kin hm.kp (thn (ha pos CQ s1 σ H1 _ I1 q) fun us s2 ⟨vs,H2,I2,r,q2⟩=>⟨I2.kIn,?_⟩) hst hpl;exact cS (us:=.ref a :: us) (vs:=.ref a :: vs) F hr hb hd hx I2 (.cons rfl r) q2
structure Mk (K:uQ) (C f:uR):Prop where
 makes:Bv K C=true
 init:wx K (.ref C) "__init__"=some (some (.ref f))
 fn:Ax K (.ref f)=true
 kp:wF K (.ref C)=true
end
section
variable {X:Cx} {CX:CXT} {k:Nat} {f C:uR} {fd:FuncData} {ps ks:List Str} {sp:Sp} {E:XK} {x m:Str} {p pos apos kpos:Pos} {e o:Expr} {es:List Expr} {kws:List Keyword} {te ta:TE} {t tk:TA} {nm:Option Str}
structure KBinds (K:uQ) (fd:FuncData) (ps ks:List Str) (g:List Value->List Value->List Value) (gV:List V->List V->List V):Prop where
 to:∀ (s:Shared) (us ws:List Value),K.In s.heap->(g us ws).length=ps.length->BindsTo s fd ⟨us,ks.zip ws⟩ (ps.zip (g us ws))
 rel:∀ {vs:List V} {us:List Value} {zs:List V} {ws:List Value},Vals vs us->Vals zs ws->Vals (gV vs zs) (g us ws)
variable {g:List Value->List Value->List Value} {gV:List V->List V->List V}
end
structure FnScope (N P:List Str) (sc:Scope):Prop where
 kind:sc.kind=.function
 co:sc.isCoroutine=false
 gen:sc.isGenerator=false
 nd:N.Nodup
 pre:N.take P.length=P
 par:∀ x∈P,sc.names.lookup x=some .local \/ sc.names.lookup x=some .cell
 nofree:∀ y∈sc.names,y.2≠.free
theorem ck {kindOf:Str->Option NameKind} {x:Str}:∀ {binds:List (Str×Value)} {m:Str->Option Value},(∀ v,(x,v)∉binds)->bindL kindOf binds m x=m x
 | [],_,_=>rfl
 | (n,v) :: r,m,h=>by
  unfold bindL;rw [ck fun w hw=>h w (uW _ hw)];split
  ·have:x≠n:=by rintro rfl;exact h v u3
   simp [this]
  ·rfl
theorem cm {kindOf:Str->Option NameKind} {x:Str}:∀ {binds:List (Str×Value)} {m:Str->Option Value},(∀ v,(x,v)∉binds)->bindC kindOf binds m x=m x
 | [],_,_=>rfl
 | (n,v) :: r,m,h=>by
  unfold bindC;rw [cm fun w hw=>h w (uW _ hw)];split
  ·rfl
  ·have:x≠n:=by rintro rfl;exact h v u3
   simp [this]
theorem cq {kindOf:Str->Option NameKind} {x:Str} {v:Value}:∀ {P:List Str} {vs:List Value} {i:Nat} {m:Str->Option Value},P.Nodup->P[i]?=some x->vs[i]?=some v->kindOf x=some .local ->
  bindL kindOf (P.zip vs) m x=some v
 | [],_,_,_,_,h,_,_=>by simp at h
 | _ :: _,[],_,_,_,_,h,_=>by simp at h
 | p :: P,w :: vs,0,m,nd,h1,h2,hk=>by
  simp at h1 h2;subst h1;subst h2;show bindL kindOf ((p,w) :: P.zip vs) m p=_;unfold bindL;rw [ck fun v hv=>(AB.mp nd).1 (A7 hv).1,CT hk];simp
 | p :: P,w :: vs,i+1,m,nd,h1,h2,hk=>by
  show bindL kindOf ((p,w) :: P.zip vs) m x=_;unfold bindL;exact cq (i:=i) (AB.mp nd).2 (by simpa using h1) (by simpa using h2) hk
theorem cu {kindOf:Str->Option NameKind} {x:Str} {v:Value}:∀ {P:List Str} {vs:List Value} {i:Nat} {m:Str->Option Value},P.Nodup->P[i]?=some x->vs[i]?=some v->kindOf x≠some .local ->
  bindC kindOf (P.zip vs) m x=some v
 | [],_,_,_,_,h,_,_=>by simp at h
 | _ :: _,[],_,_,_,_,h,_=>by simp at h
 | p :: P,w :: vs,0,m,nd,h1,h2,hk=>by
  simp at h1 h2;subst h1;subst h2;show bindC kindOf ((p,w) :: P.zip vs) m p=_;unfold bindC;rw [cm fun v hv=>(AB.mp nd).1 (A7 hv).1,CS hk];simp
 | p :: P,w :: vs,i+1,m,nd,h1,h2,hk=>by
  show bindC kindOf ((p,w) :: P.zip vs) m x=_;unfold bindC;exact cu (i:=i) (AB.mp nd).2 (by simpa using h1) (by simpa using h2) hk
noncomputable def start (N:List Str) (vs:List V):St:=vs.map some++xH (N.length - vs.length) none
noncomputable def zS (CX:CXT) (P:Program) (w:World) (K:uQ) (mg:Str->Option Value) (base:Heap) (N:List Str) (qual:Str) (scope:Scope) (f:uR) (cd:Value) (A:Around) (outer:List Env) (s:Shared) (H:Hp) (E:XK):Cx where
 prog:=P
 w:=w
 K:=K
 mg:=mg
 base:=base
 A:=A.deeper (envOfC qual scope s.heap.objs.size f cd)
 N:=N
 s₀:=s
 H₀:=H
 env:=envOfC qual scope s.heap.objs.size f cd
 outer:=outer
 stack:=envOfC qual scope s.heap.objs.size f cd :: outer
 ex:=[]
 calm:=true
 fn:=fun _=>true
 pn:=[]
 xe:=fun e s'=>wb (model P w) (A.deeper (envOfC qual scope s.heap.objs.size f cd)) (leaving (envOfC qual scope s.heap.objs.size f cd) e) (fun _ s''=>CX outer H s E e s'') (fun e' s''=>CX outer H s E e' s'') s'
theorem dJ {sc:Scope} {n:Nat} {x:Str} (h:sc.names.lookup x=some .cell):∃ c,(cellsFrom n sc.names []).lookup x=some c:=by
 have q:=xx sc.names n [] (.inl h);exact xE.mp q
theorem ay {CX:CXT} {P:Program} {w:World} {K:uQ} {mg:Str->Option Value} {base:Heap} {N ps:List Str} {qual:Str} {scope:Scope} {f:uR} {cd:Value} {A:Around} {outer:List Env} {s s1:Shared} {H:Hp} {E:XK} {us:List Value} {vs:List V}
  (S:FnScope N ps scope) (hd:A.handled=none) (e0:Env0 P w K mg base A outer s H) (hl:vs.length=ps.length) (r:Vals vs us)
  (x:InCallC s s.heap.objs.size (bindL (envOfC qual scope s.heap.objs.size f cd).kindOf (ps.zip us) fun _=>none) (cellsFrom (s.heap.objs.size+1) scope.names []) (bindC (envOfC qual scope s.heap.objs.size f cd).kindOf (ps.zip us) fun _=>none) s1) :
  Inv (zS CX P w K mg base N qual scope f cd A outer s H E) [] (start N vs) H s1:=by
 have hpl:ps.length<=N.length:=by have:=congrArg Bq S.pre;rw [xg] at this;omega
 obtain⟨h1,tk,rfl,hk⟩:=x.done;have noA:∀ b:uR,b∉(zS CX P w K mg base N qual scope f cd A outer s H E).ex:=fun b z=>absurd (show b∈([]:List uR) from z) (by simp);refine⟨⟨e0.mod,S.kind,rfl,rfl,wc _,fun y z c h1 h2=>?_,fun y hy=>?_,fun y c _ h=>?_,fun _=>hd,Cg e0.frames,.inr ⟨rfl,rfl⟩,fun b z=>absurd z (noA b),e0.bs,e0.bsz,fun b _ _=>noA b,fun b z=>absurd z (noA b),e0.funs,e0.frf,e0.tabs⟩,
  rfl,e0.bare,Un.kept hk,⟨_,x.toInCall.ns,fun i y v h1 h2 h3=>?_⟩,fun y c h=>⟨_,x.cell y c h⟩,e0.hok.fresh (wc _),fun y c h=>?_,fun p hp=>absurd (show p∈([]:List (uR×Obj)) from hp) (by simp),e0.hok.kept hk,?_⟩
 ·exact name_of_addr x.apart (An h1) (An h2)
 ·have hy:scope.names.lookup y=some .cell \/ scope.names.lookup y=some .free:=hy;rcases hy with hy | hy
  ·exact dJ hy
  ·exact absurd rfl (S.nofree _ (An hy))
 ·exact xS (x.above y c (An h))
 ·have hi:i<vs.length:=by
   unfold start at h2;by_cases hi:i<vs.length
   ·exact hi
   ·rw [wH (by simpa using hi)] at h2;rw [Ap] at h2;split at h2 <;> cases h2
  have ha:vs[i]?=some v:=by
   unfold start at h2;rw [wA (by simpa using hi),wj] at h2;cases e:vs[i]? with
   | none=>rw [e] at h2;cases h2
   | some a=>rw [e] at h2;cases h2;rfl
  obtain⟨u,hu,rv⟩:=r.get ha;have hp:ps[i]?=some y:=by
   rw [<-S.pre,A4 (by omega)];exact h1
  have ndP:ps.Nodup:=by rw [<-S.pre];exact S.nd.sublist (List.take_sublist _ _)
  refine⟨u,rv,?_⟩;rcases S.par y (wM hp) with k | k
  ·exact .inl ⟨k,cq ndP hp hu k⟩
  ·obtain⟨c,e⟩:=dJ (n:=s.heap.objs.size+1) k;refine .inr ⟨.inl k,c,e,?_⟩;have q:=x.cell y c e;rw [cu ndP hp hu (by show scope.names.lookup y≠_;rw [k];decide)] at q;exact q
 ·exact e0.hok.fresh (xS (x.above y c (An h)))
 ·unfold start;show _=N.length;rw [wL,uV,Bk];omega
theorem o7 {CX:CXT} {P:Program} {w:World} {K:uQ} {mg:Str->Option Value} {base:Heap} {k:Nat} {f:uR} {name qual:Str} {params:Arguments} {body:List Stmt} {scope:Scope} {dV kV doc pm cdv ct oc:Value} {an od:Option uR}
  {osl:Array (Option Value)} {N ps:List Str} {sp:Sp} (lk:K.lookup f=some ⟨oc,od,.func (wV name qual params body scope dV kV doc pm an cdv ct),osl⟩) (hcd:xc K cdv qual=true) (S:FnScope N ps scope)
  (len:∀ vs H Q E,sp vs H Q E->vs.length=ps.length)
  (hbody:∀ (A:Around) (outer:List Env) (s:Shared) (H:Hp) (vs:List V) (Q:VK) (E:XK),Room k (A.deeper (envOfC qual scope s.heap.objs.size f cdv))->sp vs H Q E ->
   ∃ t,PSs (zS CX P w K mg base N qual scope f cdv A outer s H E) body t/\t { nx:=fun _ H'=>Q .non H',rt:=Q } (start N vs) H) :
  FnOk P w K mg base CX (k+1) f (wV name qual params body scope dV kV doc pm an cdv ct) ps sp:=by
 refine⟨len,fun A outer s H args us vs Q E hr e0 hb r hsp=>?_⟩;have hl:=len _ _ _ _ hsp;have KX:K.In s.heap:=e0.mod.kin.keeps fun b o e=>(e0.bs b o e).1;have lim:s.heap.NoLimit:=e0.mod.nolimit.keeps fun b o e=>(e0.bs b o e).1;have hkind:∀ y∈ps.zip us,scope.names.lookup y.1=some .local \/ (scope.names.lookup y.1=some .cell/\((cellsFrom (s.heap.objs.size+1) scope.names []).lookup y.1).isSome=true):=fun⟨n,v⟩ hy=>by
  rcases S.par n (A7 hy).1 with q | q
  ·exact .inl q
  ·exact .inr ⟨q,xx _ _ _ (.inl q)⟩
 refine codeAny_call_function hr.depth (KX _ _ lk) rfl S.co S.gen rfl (Bc KX hcd) (hb _ _ _ _ ?_);refine wpAny_newFunctionEnv_cells S.kind hkind fun env he s1 x=>?_;subst he;refine⟨lim.keeps x.toInCall.keep,codeAny_func ?_⟩;obtain⟨t,ht,hq⟩:=hbody A outer s H vs Q E (hr.deeper _) hsp;have I:Inv (zS CX P w K mg base N qual scope f cdv A outer s H E) [] (start N vs) H s1:=ay S hr.hd e0 hl r x;refine wW (ht [] s1 (start N vs) H _ I hq) (fun fl s' hs=>?_) fun e s' hs=>hs;have fin:∀ {σ':St} {H':Hp} {v:V} {u:Value},Inv (zS CX P w K mg base N qual scope f cdv A outer s H E) [] σ' H' s'->RelV v u->Q v H'->CE outer P w H s Q u s' :=
  fun {σ' H' v u} J rv q=>⟨v,H',J.os,J.bare,J.base,J.hok,rv,q⟩
 cases fl with
 | ret u =>
  obtain⟨v,σ',H',J,rv,q⟩:=hs;exact fin J rv q
 | next =>
  obtain⟨σ',H',J,q⟩:=hs;exact fin (v:=V.non) (u:=Value.none) J rfl q
 | brk =>
  obtain⟨_,_,_,q⟩:=hs;exact wR q
 | cont =>
  obtain⟨_,_,_,q⟩:=hs;exact wR q
section
variable {X:Cx} {x:Str} {p pos:Pos} {e:Expr} {es:List Expr} {t:TA} {id T:String} {r:List V->Hp->VK->Prop}
def tCB (r:List V->Hp->VK->Prop) (t:TA):TE:=fun σ H Q=>t σ H fun vs H1=>r vs H1 Q
theorem zm (hc:yA X (.builtin id) r) (hg:Gl X x) (hm:X.mg x=none) (hv:bootBuiltins x=some (.builtin id)) (ha:PA X (e :: es) t) (hn:x ≠ "__name__":=by decide) (hdb:(x == ("__debug__":Str))=false:=by decide)
  (he:u4 (e :: es) X.env=(false,eval e X.env) :: u4 es X.env:=by rfl) (hpl:(backTo pos (u4 es X.env)).any (·.1)=false:=by rfl):PE X (.Call (.Name x p) (e :: es) [] pos) (tCB r t):=by
 intro CQ s σ H Q I h;refine wpAny_Call_Name_kw (au I hg hm hv ?_ hn hdb);exact Bm (thn (ha pos CQ s σ H _ I h) fun us s1 ⟨vs,H1,I1,r1,q1⟩=>hc CQ s1 σ H1 vs us Q I1 r1 q1) he hpl
theorem yl (hc:yA X (.type T) r) (hg:Gl X x) (hm:X.mg x=none) (hv:bootBuiltins x=some (.type T)) (ha:PA X (e :: es) t) (hn:x ≠ "__name__":=by decide) (hdb:(x == ("__debug__":Str))=false:=by decide)
  (he:u4 (e :: es) X.env=(false,eval e X.env) :: u4 es X.env:=by rfl) (hpl:(backTo pos (u4 es X.env)).any (·.1)=false:=by rfl):PE X (.Call (.Name x p) (e :: es) [] pos) (tCB r t):=by
 intro CQ s σ H Q I h;refine wpAny_Call_Name_kw (au I hg hm hv ?_ hn hdb);exact xT (thn (ha pos CQ s σ H _ I h) fun us s1 ⟨vs,H1,I1,r1,q1⟩=>hc CQ s1 σ H1 vs us Q I1 r1 q1) he hpl
end
end L2
namespace HT
open PySem PyProof.Rows
section
open PySem.SeqAt
open PySem.AutoSeq1 (wpAny_loadPart')
open PySem.MeetsSeq PySem.MeetsSeq2 PySem.MeetsSeq3
end
section
variable {prog:Program} {w:World} {A:Around} {E:Value->Shared->Prop} {s:Shared}
def sIx (n d:Nat):Option Int->Nat
 | none=>d
 | some v=>if v<0 then (v+(n:Int)).toNat else min v.toNat n
theorem sIx_none (n d:Nat):sIx n d none=d:=rfl
theorem sIx_nat (n d k:Nat):sIx n d (some (k:Int))=min k n:=by
 show (if (k:Int)<0 then ((k:Int)+(n:Int)).toNat else min (k:Int).toNat n)=min k n;rw [CS (by omega),xy]
end
end HT
namespace L2
open PySem PySem.Spec PyProof.Rows
abbrev TO:=St->Hp->(Option Int->Hp->Prop)->Prop
def PO (X:Cx) (e:Option Expr) (t:TO):Prop :=
 ∀ (CQ:List (uR×Obj)) (s:Shared) (σ:St) (H:Hp) (Q:Option Int->Hp->Prop),Inv X CQ σ H s->t σ H Q ->
  wb (model X.prog X.w) X.A (evalPart e X.env) (fun u s'=>∃ o H',Inv X CQ σ H' s'/\IsPart u o/\Q o H') X.xe s
def gD:TO:=fun _ H Q=>Q none H
def o8 (t:TE):TO:=fun σ H Q=>t σ H fun x H1=>∃ i,x=.int i/\Q (some i) H1
theorem intsAre_of {ns:List Int}:∀ {us:List Value},Vals (ns.map V.int) us->IntsAre us ns:=by
 induction ns with
 | nil=>intro us r;rw [List.map_nil] at r;cases r;exact .nil
 | cons n ns ih =>
  intro us r;rw [xr] at r;cases r with
  | cons r1 r2 =>
   obtain⟨t,e⟩:=r1;subst e;exact .cons n t (ih r2)
section
variable {X:Cx} {e:Expr} {te:TE} {lo hi:Option Expr} {tl th:TO} {pos p2:Pos}
theorem yj:PO X none gD:=by
 intro CQ s σ H Q I h;rw [evalPart_none];exact wa ⟨none,H,I,.none,h⟩
theorem zY (h:PE X e te):PO X (some e) (o8 te):=by
 intro CQ s σ H Q I hw;rw [evalPart_some];refine thn (h CQ s σ H _ I hw) fun u s1 ⟨x,H1,I1,r1,q1⟩=>?_;obtain⟨i,rfl,q⟩:=q1;obtain⟨t,rfl⟩:=r1;exact⟨some i,H1,I1,.int i t,q⟩
def SlR (X:Cx) (r:V->Option Int->Option Int->Hp->VK->Prop):Prop :=
 ∀ (CQ:List (uR×Obj)) (s:Shared) (σ:St) (H:Hp) (x:V) (v vl vu:Value) (lo hi:Option Int) (sl:uR) (Q:VK),Inv X CQ σ H s->RelV x v->s.heap.IsSliceOf sl vl vu .none->IsPart vl lo->IsPart vu hi->r x lo hi H Q ->
  ∃ T id,typeLookup (.type T) "__getitem__"=pure (some (.builtin id))/\s.TypeIs v T/\wb (model X.prog X.w) X.A (getItem v (.ref sl)) (EP X CQ σ Q) X.xe s
def tSl (r:V->Option Int->Option Int->Hp->VK->Prop) (te:TE) (tl th:TO):TE:=fun σ H Q=>te σ H fun x H1=>tl σ H1 fun l H2=>th σ H2 fun u H3=>r x l u H3 Q
theorem zT {r:V->Option Int->Option Int->Hp->VK->Prop} (hr:SlR X r) (he:PE X e te) (hl:PO X lo tl) (hu:PO X hi th):PE X (.Subscript e (.Slice lo hi none p2) pos) (tSl r te tl th):=by
 intro CQ s σ H Q I h;refine Subscript_ (thn (he CQ s σ H _ I h) fun v s1 ⟨x,H1,I1,r1,q1⟩=>?_);refine wpAny_Slice (thn (hl CQ s1 σ H1 _ I1 q1) fun vl s2 ⟨l,H2,I2,pl,q2⟩=>thn (hu CQ s2 σ H2 _ I2 q2) fun vu s3 ⟨u,H3,I3,pu,q3⟩=>?_);rw [evalPart_none];refine wa ?_;have I4:Inv X CQ σ H3 { s3 with heap:=s3.heap.push { cls:=.type "slice",data:=.fields #[vl,vu,.none] } }:=I3.kept (t':=s3.toks) fun b ob q=>uX _ q;obtain⟨T,id,hT,ht,hg⟩:=hr CQ { s3 with heap:=s3.heap.push { cls:=.type "slice",data:=.fields #[vl,vu,.none] } } σ H3 x v vl vu l u s3.heap.objs.size Q I4 r1 (Heap.IsSliceOf.new ..) pl pu q3;show wb (model X.prog X.w) X.A (subscriptTail e (.Slice lo hi none p2) v (.ref s3.heap.objs.size)) (EP X CQ σ Q) X.xe { s3 with heap:=s3.heap.push { cls:=.type "slice",data:=.fields #[vl,vu,.none] } };exact tail_any (ops:=[.ref s3.heap.objs.size,v]) ht hT hg (by with_unfolding_all rfl)
noncomputable def fq (xs:List V) (lo hi:Option Int):List V:=(xs.drop (HT.sIx xs.length 0 lo)).take (HT.sIx xs.length xs.length hi - HT.sIx xs.length 0 lo)
theorem dM (xs:List V) (lo hi:Option Int):(fq xs lo hi).length<=xs.length:=by
 unfold fq;rw [xg,xD];omega
end
noncomputable def ixN (n:Nat) (i:Int):Option Nat:=if 0<=i then (if i<n then some i.toNat else none) else if -(n:Int)<=i then some (i+n).toNat else none
noncomputable def atI {α:Type} (xs:List α) (i:Int):Option α:=(ixN xs.length i).bind fun j=>xs[j]?
theorem gF {n:Nat} {i:Int} {j:Nat} (h:ixN n i=some j):seqIndex? i n=some j/\j<n/\-(n:Int)<=i/\i<n:=by
 unfold ixN at h;by_cases h0:0<=i
 ·rw [CT h0] at h;by_cases h1:i<n
  ·rw [CT h1] at h;have e:i.toNat=j:=Option.some.inj h;exact⟨by rw [seqIndex_of h0 h1,e],by omega,by omega,h1⟩
  ·rw [CS h1] at h;cases h
 ·rw [CS h0] at h;by_cases h1:-(n:Int)<=i
  ·rw [CT h1] at h;have e:(i+n).toNat=j:=Option.some.inj h;exact⟨by rw [seqIndex_neg (by omega) h1,e],by omega,h1,by omega⟩
  ·rw [CS h1] at h;cases h
theorem cT {α:Type} {xs:List α} {i:Int} {v:α} (h:atI xs i=some v):∃ j,seqIndex? i xs.length=some j/\xs[j]?=some v/\j<xs.length/\-(xs.length:Int)<=i/\i<xs.length:=by
 unfold atI at h;cases e:ixN xs.length i with
 | none=>rw [e] at h;cases h
 | some j =>
  rw [e] at h;obtain⟨h1,h2,h3,h4⟩:=gF e;exact⟨j,h1,h,h2,h3,h4⟩
theorem z6 {α:Type} {xs:List α} {j:Nat} {v:α} (h:xs[j]?=some v):atI xs (j:Int)=some v:=by
 have hj:j<xs.length:=(uY.mp h).1;have e:ixN xs.length (j:Int)=some j:=by
  unfold ixN;rw [CT (by omega),CT (by omega)];simp
 unfold atI;rw [e];exact h
def gG (b:Expr):Prop:=∀ o i,subscripted b false o i=operate [o,i] (getItem o i)
def IxR (X:Cx) (r:R2):Prop :=
 ∀ (value slice:Expr) (CQ:List (uR×Obj)) (s:Shared) (σ:St) (H:Hp) (x y:V) (v u:Value) (Q:VK),Inv X CQ σ H s->RelV x v->RelV y u->r x y H Q ->
  subscripted slice false v u=operate [v,u] (getItem v u)->wb (model X.prog X.w) X.A (subscriptTail value slice v u) (EP X CQ σ Q) X.xe s
def MtR (X:Cx) (id:String) (r:V->List V->Hp->VK->Prop):Prop :=
 ∀ (CQ:List (uR×Obj)) (s:Shared) (σ:St) (H:Hp) (x:V) (xs:List V) (v:Value) (us:List Value) (Q:VK),Inv X CQ σ H s->RelV x v->Vals xs us->r x xs H Q ->
  wb (model X.prog X.w) X.A (call (.builtin id) (v :: us)) (EP X CQ σ Q) X.xe s
section
variable {X:Cx} {a b:Expr} {ta tb:TE} {pos:Pos}
theorem yw {r:R2} (hr:IxR X r) (ha:PE X a ta) (hb:PE X b tb) (hs:gG b):PE X (.Subscript a b pos) (tOp r ta tb):=by
 intro CQ s σ H Q I h;exact Subscript_ (rG ha hb I h fun v u s2 x y H2 I2 rx ry q=>hr a b CQ s2 σ H2 x y v u Q I2 rx ry q (hs _ _))
def iD (K:uQ):R2:=fun x y H Q=>∃ p xs i v,x=.ref p/\y=.int i/\SqL K H p xs/\atI xs i=some v/\Q v H
def nr (K:uQ):R2:=fun x y H Q=>∃ p xs i v,x=.ref p/\y=.int i/\SqT K H p xs/\atI xs i=some v/\Q v H
def tV:R2:=fun x y H Q=>∃ z i c,x=.str z/\y=.int i/\z.length<=wt/\atI z.cps.toList i=some c/\Q (.str ⟨#[c]⟩) H
theorem nu:IxR X (iD X.K):=by
 intro value slice CQ s σ H x y v u Q I rx ry h hs;obtain⟨p,xs,i,z,rfl,rfl,hq,he,q⟩:=h;cases rx;obtain⟨t,rfl⟩:=ry;obtain⟨its,r,pl,hz⟩:=I.list hq;obtain⟨j,h1,h2,h3,h4,h5⟩:=cT he;obtain⟨w,ew,rw'⟩:=r.get h2;have hl:=r.length;have hn:=vB;have fin:EP X CQ σ Q w s:=⟨z,H,I,rw',q⟩;by_cases h0:0<=i
 ·have hj:i.toNat=j:=by
   rw [seqIndex_of h0 h5] at h1;exact Option.some.inj h1
  exact item_listR pl.isList h0 (by omega) (by rw [hj];simpa using ew) fin hs
 ·have hj:(i+(its.toArray.size:Int)).toNat=j:=by
   rw [seqIndex_neg (by omega) h4] at h1;rw [wo,<- hl];exact Option.some.inj h1
  exact subscriptTail_builtinR (x:=w) pl.isList.typeIs slot_list_getitem.lookup
   (wpAny_getItem_list_neg (Q:=fun r s'=>r=w/\EP X CQ σ Q r s') pl.isList (by omega) (by rw [wo] <;> omega) (by omega) (by rw [hj];simpa using ew) ⟨rfl,fin⟩) hs
theorem rM:IxR X (nr X.K):=by
 intro value slice CQ s σ H x y v u Q I rx ry h hs;obtain⟨p,xs,i,z,rfl,rfl,hq,he,q⟩:=h;cases rx;obtain⟨t,rfl⟩:=ry;obtain⟨its,r,pl,hz⟩:=I.tuple hq;obtain⟨j,h1,h2,h3,h4,h5⟩:=cT he;obtain⟨w,ew,rw'⟩:=r.get h2;have hl:=r.length;have hn:=vB;have fin:EP X CQ σ Q w s:=⟨z,H,I,rw',q⟩;exact subscriptTail_builtinR (x:=w) pl.typeIs slot_tuple_getitem.lookup
  (getItem_tuple (j:=j) (Q:=fun r s'=>r=w/\EP X CQ σ Q r s') pl (by omega) (by omega) (by rw [wo,<- hl];exact h1) (by simpa using ew) ⟨rfl,fin⟩) hs
theorem ft:IxR X tV:=by
 intro value slice CQ s σ H x y v u Q I rx ry h hs;obtain⟨z,i,c,rfl,rfl,hz,he,q⟩:=h;obtain⟨t,rfl⟩:=rx;obtain⟨t',rfl⟩:=ry;obtain⟨j,h1,h2,h3,h4,h5⟩:=cT he;have hl:z.cps.toList.length=z.length:=by simp [Str.length]
 rw [hl] at h1 h4 h5;have hn:=vB;exact tail_any (typeIs_str s z t) slot_str_getitem.lookup (getItem_str (c:=c) (by
  have e1:decide (i < -(2 ^ 63:Int))=false:=decide_eq_false (by omega);have e2:decide (i >= 2 ^ 63)=false:=decide_eq_false (by omega);rw [e1,e2,Bool.or_false]) (by rw [h1];simpa using h2) ⟨.str ⟨#[c]⟩,H,I.tok _,⟨_,rfl⟩,q⟩) hs
theorem fu (its:List Value) (n j:Nat) (u:Value):BW (·.setIfInBounds j u) { cls:=.type "list",data:=.seq its.toArray n }={ cls:=.type "list",data:=.seq (its.set j u).toArray n }:=by
 simp [BW]
theorem Inv.lst {CQ:List (uR×Obj)} {σ:St} {H:Hp} {s:Shared} {p:uR} {xs:List V} (I:Inv X CQ σ H s) (h:H p=some (.lst xs)) :
  ∃ (its:List Value) (n:Nat),Vals xs its/\s.heap.get? p=some { cls:=.type "list",data:=.seq its.toArray n }/\xs.length<=wt:=by
 obtain⟨z,its,n,r,e⟩:=I.hok p _ h;exact⟨its,n,r,e,z⟩
theorem Inv.lstUpd {CQ:List (uR×Obj)} {σ:St} {H:Hp} {s:Shared} {p:uR} {xs ys:List V} {its its':List Value} {n n':Nat} {f:Obj->Obj} (I:Inv X CQ σ H s) (h:H p=some (.lst xs))
  (ho:s.heap.get? p=some { cls:=.type "list",data:=.seq its.toArray n }) (hf:f { cls:=.type "list",data:=.seq its.toArray n }={ cls:=.type "list",data:=.seq its'.toArray n' }) (r:Vals ys its') (hz:ys.length<=wt) (t:Nat) :
  Inv X CQ σ (upd H p (.lst ys)) { s with heap:=s.heap.update p f,toks:=t }:=by
 have e:(s.heap.update p f).get? p=some { cls:=.type "list",data:=.seq its'.toArray n' }:=by
  rw [x8 f ho (by rw [hf] <;> rfl),hf]
 refine I.write (x:=p) (e:=p) (by rw [h];trivial) (.inl rfl) (fun b u hb q=>(wX _ _ (x6 hb)).trans q) ⟨_,e⟩ ?_;exact⟨hz,its',n',r,e⟩
def bF:V->V->V->Hp->(Hp->Prop)->Prop:=fun o i v H Q=>∃ p xs k j,o=.ref p/\i=.int k/\H p=some (.lst xs)/\ixN xs.length k=some j/\Q (upd H p (.lst (xs.set j v)))
theorem set_list:tP X bF:=by
 intro CQ s σ H o i v ov iv u Q I ro ri rv h;obtain⟨p,xs,k,j,rfl,rfl,hp,hj,q⟩:=h;cases ro;obtain⟨t,rfl⟩:=ri;obtain⟨its,n,r,ho,hz⟩:=I.lst hp;obtain⟨h1,h2,h3,h4⟩:=gF hj;have hl:=r.length;have hn:=vB;have I':Inv X CQ σ (upd H p (.lst (xs.set j v))) { s with heap:=s.heap.update p (BW (·.setIfInBounds j u)) } :=
  I.lstUpd hp ho (fu its n j u) (r.set rv j) (by rw [xM];exact hz) s.toks
 by_cases h0:0<=k
 ·have hk:k.toNat=j:=by
   rw [seqIndex_of h0 h4] at h1;exact Option.some.inj h1
  exact PySem.W.ki_setAt ho h0 (by omega) (by rw [wo,<- hl];exact h4) (by rw [hk];exact⟨_,I',q⟩)
 ·have hk:(k+(its.toArray.size:Int)).toNat=j:=by
   rw [seqIndex_neg (by omega) h3] at h1;rw [wo,<- hl];exact Option.some.inj h1
  exact PySem.W.ki_setBack ho (by omega) (by rw [wo,<- hl];exact h3) (by omega) (by rw [hk];exact⟨_,I',q⟩)
theorem cU (lo hi:Option Int) (n:Nat):(sliceBounds lo hi none n).1=((HT.sIx n 0 lo:Nat):Int)/\(sliceBounds lo hi none n).2.1=((HT.sIx n n hi:Nat):Int)/\(sliceBounds lo hi none n).2.2=1:=by
 refine⟨?_,?_,rfl⟩
 ·cases lo with
  | none=>simp [sliceBounds,HT.sIx]
  | some i =>
   simp only [sliceBounds,HT.sIx,Option.getD_none,show (1:Int) > 0 by decide,if_true];by_cases h:i<0
   ·simp only [h,if_true] <;> omega
   ·simp only [h,if_false] <;> omega
 ·cases hi with
  | none=>simp [sliceBounds,HT.sIx]
  | some i =>
   simp only [sliceBounds,HT.sIx,Option.getD_none,show (1:Int) > 0 by decide,if_true];by_cases h:i<0
   ·simp only [h,if_true] <;> omega
   ·simp only [h,if_false] <;> omega
theorem b4 (its:List Value) (lo hi:Option Int):slicePick its.toArray lo hi none=((its.drop (HT.sIx its.length 0 lo)).take (HT.sIx its.length its.length hi - HT.sIx its.length 0 lo)).toArray:=by
 obtain⟨h1,h2,h3⟩:=cU lo hi its.toArray.size;unfold slicePick;rw [h1,h2,h3];simp only [sliceRange_one,pick_run,wo] <;> rfl
def ny (K:uQ):V->Option Int->Option Int->Hp->VK->Prop:=fun x lo hi H Q=>∃ a xs,x=.ref a/\SqL K H a xs/\∀ p,H p=none->Q (.ref p) (upd H p (.lst (fq xs lo hi)))
theorem nz:SlR X (ny X.K):=by
 intro CQ s σ H x v vl vu lo hi sl Q I rx hs pl pu h;obtain⟨a,xs,rfl,hx,q⟩:=h;cases rx;obtain⟨its,r,ht,hz⟩:=I.list hx;have hlen:=r.length;refine⟨"list",_,slot_list_getitem.lookup,ht.isList.typeIs,?_⟩;refine wpAny_getItem_list_slice ht.isList hs pl pu .none (by simp) ?_ (by rw [wo] <;> omega);rw [b4,<- hlen];refine⟨.ref s.heap.objs.size,_,I.laid (t':=s.toks) (o:=.lst (fq xs lo hi)) (fun b ob q=>uX _ q) (wc _) ?_,rfl,q _ (I.hok.fresh (wc _))⟩;exact⟨wu (dM xs lo hi) hz,_,0,(r.drop (HT.sIx xs.length 0 lo)).take (HT.sIx xs.length xs.length hi - HT.sIx xs.length 0 lo),wk _ rfl⟩
theorem cV:yA X (.builtin "len") (fun xs H Q=>∃ p ys,xs=[.ref p]/\(SqL X.K H p ys \/ SqT X.K H p ys)/\Q (.int ys.length) H):=by
 intro CQ s σ H xs us Q I r h;obtain⟨p,ys,rfl,hq,q⟩:=h;obtain⟨u,rfl,rx⟩:=vals1 r;cases rx;have hn:=vB;rcases hq with hq | hq
 ·obtain⟨its,r',pl,hz⟩:=I.list hq;have hlen:=r'.length;exact Calls.call_len_list pl.isList (by simp only [wo] <;> omega) ⟨.int ys.length,H,I.tok _,⟨s.toks+1,by rw [wo,hlen]⟩,q⟩
 ·obtain⟨its,r',pl,hz⟩:=I.tuple hq;have hlen:=r'.length;exact len_tuple pl (by simp only [wo] <;> omega) ⟨.int ys.length,H,I.tok _,⟨s.toks+1,by rw [wo,hlen]⟩,q⟩
theorem yH:yA X (.builtin "len") (fun xs H Q=>∃ z,xs=[.str z]/\z.length<=wt/\Q (.int z.length) H):=by
 intro CQ s σ H xs us Q I r h;obtain⟨z,rfl,hz,q⟩:=h;obtain⟨u,rfl,t,rfl⟩:=vals1 r;have hn:=vB;exact len_str (by omega) ⟨.int z.length,H,I.tok _,⟨_,rfl⟩,q⟩
def tyV (K:uQ) (T:String) (x:V) (H:Hp):Prop:=match x with
 | .str _=>T="str"
 | .int _=>T="int"
 | .ref p=>(T="list"/\∃ xs,SqL K H p xs) \/ (T="tuple"/\∃ o,K.lookup p=some o/\o.cls=.type "tuple"/\o.dict=none) \/
   (T="dict"/\((∃ kvs,H p=some (.dK kvs)) \/ ∃ kvs,H p=some (.dT kvs))) \/ (T="set"/\∃ S n,H p=some (.set S n))
 | _=>False
theorem fv {CQ:List (uR×Obj)} {σ:St} {H:Hp} {s:Shared} {T:String} {x:V} {v:Value} (I:Inv X CQ σ H s) (r:RelV x v) (ty:tyV X.K T x H) :
  s.TypeIs v T/\∀ a,v=.ref a->∃ ob,s.heap.get? a=some ob/\ob.dict=none:=by
 cases x with
 | str z =>
  obtain⟨t,rfl⟩:=r;cases (show T="str" from ty);exact⟨typeIs_str s z t,fun _ e=>nomatch e⟩
 | int i =>
  obtain⟨t,rfl⟩:=r;cases (show T="int" from ty);exact⟨typeIs_int s i t,fun _ e=>nomatch e⟩
 | ref p =>
  cases r;rcases ty with⟨rfl,xs,hq⟩ | ⟨rfl,o,hk,hc,hd⟩ | ⟨rfl,hk⟩ | ⟨rfl,S,n,hk⟩
  ·obtain⟨its,_,pl,_⟩:=I.list hq;refine⟨pl.isList.typeIs,fun a e=>?_⟩;cases e;obtain⟨o,n,e,c,hd,_⟩:=pl;exact⟨o,e,hd⟩
  ·refine⟨⟨o,I.kIn p o hk,hc⟩,fun a e=>?_⟩;cases e;exact⟨o,I.kIn _ o hk,hd⟩
  ·have z:∃ o,s.heap.get? p=some o/\o.ExactDict:=by
    rcases hk with⟨kvs,hk⟩ | ⟨kvs,hk⟩
    ·obtain⟨_,_,_,_,o,_,_,e,ex,_⟩:=I.hok p _ hk;exact⟨o,e,ex⟩
    ·obtain⟨_,_,_,_,o,_,_,e,ex,_⟩:=I.hok p _ hk;exact⟨o,e,ex⟩
   obtain⟨o,e,ex⟩:=z;refine⟨⟨o,e,ex.1⟩,fun a e2=>?_⟩;cases e2;exact⟨o,e,ex.2.1⟩
  ·obtain⟨o,_,_,_,e,ex,_⟩:=I.hok p _ hk;refine⟨⟨o,e,ex.1⟩,fun a e2=>?_⟩;cases e2;exact⟨o,e,ex.2.1⟩
 | _=>exact wR ty
def tBM (K:uQ) (T:String) (r:V->List V->Hp->VK->Prop) (to:TE) (t:TA):TE:=fun σ H Q=>to σ H fun x H1=>tyV K T x H1/\t σ H1 fun xs H2=>r x xs H2 Q
variable {o e:Expr} {es:List Expr} {to:TE} {t:TA} {name:Str} {apos cpos:Pos} {T id:String} {r:V->List V->Hp->VK->Prop}
theorem jL (pa:PlainAttrs T) (slot:Slot T name id) (hty:typeOf (.builtin id)=pure (.type "method_descriptor")) (hm:MtR X id r) (ho:PE X o to) (ha:PA X (e :: es) t)
  (hbase:attributeBase o name X.env (eval o X.env)=eval o X.env:=by rfl)
  (hfew:((backTo cpos (u4 (e :: es) X.env)).all (fun x=>!x.1) && (backToKw cpos (keywordEach [] X.env)).all (fun x=>x.1.isSome)
   && decide ((e :: es).length+([]:List Keyword).length+(if ([]:List Keyword).isEmpty then 0 else 1)<30))=true:=by rfl)
  (hline:(apos.endLine == cpos.line)=true:=by rfl) (hs:u4 (e :: es) X.env=(false,eval e X.env) :: u4 es X.env:=by rfl) (hplain:(backTo cpos (u4 es X.env)).any (·.1)=false:=by rfl) :
  PE X (.Call (.Attribute o name apos) (e :: es) [] cpos) (tBM X.K T r to t):=by
 intro CQ s σ H Q I h;refine wpAny_Call_method_late hbase hfew hline rfl (thn (ho CQ s σ H _ I h) fun v s1 ⟨x,H1,I1,r1,ty,q1⟩=>?_);obtain⟨h1,h2⟩:=fv I1 r1 ty;refine⟨T,id,pa,slot,hty,h1,h2,?_⟩;have hA:=ha cpos CQ s1 σ H1 _ I1 q1;rw [hs] at hA ⊢;refine Ay (by show (false || (backTo cpos (u4 es X.env)).any (·.1))=false;rw [hplain] <;> rfl) (AM ?_);exact thn hA fun us s2 ⟨vs,H2,I2,r2,q2⟩=>hm CQ s2 σ H2 x vs v us Q I2 r1 r2 q2
/- xs.append(e),list.index on a module's tuple .. are MtR facts of 06m -/
end
def MtM (X:Cx) (id:String) (r:V->List V->Hp->VK->Prop):Prop :=
 ∀ (CQ:List (uR×Obj)) (s:Shared) (σ:St) (H:Hp) (x:V) (xs:List V) (v:Value) (us:List Value) (Q:VK),Inv X CQ σ H s->RelV x v->Vals xs us->r x xs H Q ->
  wb (model X.prog X.w) X.A (call (.builtin id) (v :: us)) (EP X CQ σ Q) X.xe s
theorem Vals.one:∀ {x:V} {us:List Value},Vals [x] us->∃ u,us=[u]/\RelV x u
 | _,_,.cons r .nil=>⟨_,rfl,r⟩
theorem Vals.two:∀ {x y:V} {us:List Value},Vals [x,y] us->∃ u v,us=[u,v]/\RelV x u/\RelV y v
 | _,_,_,.cons r (.cons q .nil)=>⟨_,_,rfl,r,q⟩
section
variable {X:Cx} {CQ:List (uR×Obj)} {σ:St} {H:Hp} {s:Shared} {l b:uR} {xs ys zs:List V}
theorem Inv.lset {its its':List Value} {n:Nat} {f:Array Value->Array Value} {t':Nat} (I:Inv X CQ σ H s) (hH:H l=some (.lst xs))
  (e:s.heap.get? l=some { cls:=.type "list",data:=.seq its.toArray n }) (hf:f its.toArray=its'.toArray) (hv:Vals ys its') (hz:ys.length<=wt) :
  Inv X CQ σ (upd H l (.lst ys)) { s with heap:=s.heap.update l (BW f),toks:=t' }:=by
 have q:=PySem.IsL.update e f;rw [hf] at q;refine I.write (x:=l) (e:=l) (by rw [hH];exact trivial) (.inl rfl) (fun b' u hb hu=>(wX s.heap (BW f) (x6 hb)).trans hu) ⟨_,q⟩ ?_;exact⟨hz,its',_,hv,q⟩
theorem Inv.lnew {its:List Value} {t':Nat} (I:Inv X CQ σ H s) (hv:Vals ys its) (hz:ys.length<=wt) :
  Inv X CQ σ (upd H s.heap.objs.size (.lst ys)) { s with heap:=s.heap.push { cls:=.type "list",data:=.seq its.toArray },toks:=t' } :=
 I.laid (fun _ _ q=>uX _ q) (wc _) ⟨hz,its,0,hv,wk _ rfl⟩
theorem Inv.fresh (I:Inv X CQ σ H s):H s.heap.objs.size=none:=I.hok.fresh (wc _)
theorem Inv.lstM (I:Inv X CQ σ H s) (hH:H l=some (.lst xs)):xs.length<=wt/\∃ (its:List Value) (n:Nat),Vals xs its/\xs.length=its.length/\s.heap.get? l=some { cls:=.type "list",data:=.seq its.toArray n }:=by
 obtain⟨z,its,n,r,e⟩:=I.hok l _ hH;exact⟨z,its,n,r,r.length,e⟩
end
section
variable {X:Cx}
def gH:V->List V->Hp->VK->Prop:=fun x vs H Q=>∃ l xs y,x=.ref l/\vs=[y]/\H l=some (.lst xs)/\xs.length<wt/\Q .non (upd H l (.lst (xs++[y])))
theorem vj:MtM X "list.append" gH:=by
 intro CQ s σ H x vs v us Q I rx rv h;obtain⟨l,xs,y,rfl,rfl,hH,hz,q⟩:=h;cases rx;obtain⟨u,rfl,ru⟩:=rv.one;obtain⟨z,its,n,r,hl,e⟩:=I.lstM hH;refine call_meets F.slot_list_append ⟨_,e,rfl⟩ Cu (Ci _ _) (PySem.list_append l its.toArray n u (by rw [wo];omega)) ⟨e,?_⟩;refine⟨.non,_,I.lset (its':=its++[u]) hH e (by simp) (r.append (.cons ru .nil)) ?_,rfl,q⟩;rw [wL,B8];omega
end
end L2
namespace Att
open PySem PySem.W PySem.Calls PyProof.Rows
theorem aZ {P:Params} {h:Heap}:∀ (ns:List Int) (vs:List Value),WellAll P h vs (ns.map WData.int)->IntsAre vs ns:=by
 intro ns
 induction ns with
 | nil =>
  intro vs w;rw [List.map_nil] at w;cases w;exact .nil
 | cons n ns ih =>
  intro vs w;rw [xr] at w;cases w with
  | cons a b =>
   cases a;exact .cons _ _ (ih _ b)
theorem iE {l:OpenLaw} {n:Nat} (hn:l.most=some n) {P:Params} {h:Heap} {args:List WData} {vals:List Value}
  (hpre:l.row.toRowW.claim.pre args=true) (hwl:WellAll P h vals args) :
  ∃ a vs ns,vals=[Value.ref a]/\args=[WData.list (ns.map WData.int)]/\h.get? a=some { cls:=.type "list",data:=.seq vs.toArray }/\IntsAre vs ns/\ns.length<=n:=by
 have hsh:WShape.hasAll [] args [.list .int]=true:=(pre_splitW hpre).1;have hc:l.pre.holds [] { args:=args }=true:=(pre_splitW hpre).2;obtain⟨d,r,rfl,h1,h2⟩:=hasAllW_cons hsh;obtain rfl:=hasAllW_nil h2;obtain⟨xs,rfl,h3⟩:=hasW_list h1;obtain⟨ns,rfl⟩:=items_int h3;have hlen:ns.length<=n:=by
  unfold OpenLaw.pre at hc;have h4:(WTm.not (.lt (.lit (.int (n:Int))) (.len (.arg 0)))).holds [] { args:=[.list (ns.map .int)] }=true:=by
   have h4:=(holds_andW hc).1;rw [hn] at h4;exact h4
  have h5:=condW_of h4 (w_not (w_lt w_lit (w_len_list (w_arg rfl))));rw [uV] at h5;refine Nat.le_of_not_lt fun q=>?_;have q':(n:Int)<((ns.length:Nat):Int):=by omega
  first
   | (rw [decide_eq_true q'] at h5;exact absurd h5 (by decide))
   | (simp at h5;omega)
 cases hwl with
 | cons w1 w2 =>
  cases w2;cases w1 with
  | list ho hall=>exact⟨_,_,ns,rfl,rfl,ho,aZ ns _ hall,hlen⟩
theorem iF (l:OpenLaw) (args:List WData):l.row.toRowW.claim.post args (.bool true) args=true :=
 postW_of (r:=l.row.toRowW) (X:=(true == true))
  (show WShape.has [] (.bool true) .bool=true by first | rfl | decide | simp [WShape.has,WShape.arms,WShape.armsAll])
  (show (WTm.eq .res (.lit (.bool true))).value [] { args:=args,res:=some (.bool true),after:=args }=some (.bool (true == true)) from w_eq_bool (w_res rfl) w_lit) rfl
theorem attach_call {l:OpenLaw} {n:Nat} {q:Program} {loose:List Str} {XP:(Str->Option Value)->Heap->Prop} {YP:World->Heap->Prop} {d:DefRec}
  (hn:l.most=some n) (hdf:d.params.defaults=[])
  (call:∀ (w:World) (s₀ s₁:Shared) (mg mb:Str->Option Value) (fa:uR) (o:Obj) (pm cd doc:Value) (a:uR) (vs:List Value) (ns:List Int),
   Ground q loose [] XP w s₀ mg mb s₁.heap->YP w s₁.heap ->
   s₁.heap.get? fa=some o->o.data=.func (docDef d.name d.params d.body d.scope pm cd doc)->s₁.heap.CodeRec cd d.name->mg d.name=some (.ref fa) ->
   s₁.heap.get? a=some { cls:=.type "list",data:=.seq vs.toArray }->IntsAre vs ns->ns.length<=n->s₁.gens=#[] ->
   codeAny (model l.prog w) callerA (.call (.ref fa) ⟨[.ref a],[]⟩) (fun r s'=>r=.ok (.ret (.bool true))/\OldK s₁.heap s'.heap/\s'.os=s₁.os/\AllBare s'.gens) s₁) :
  WalkO q loose XP YP l.row.toRowW d [] (fun f vs=>PySem.call f vs):=by
 intro w s₀ s₁ mg mb G Y fa o pm cd doc dV kV ho hd hcd hD hmg hg args vals as hpre hlay hrd hwl hlo;obtain rfl:dV=.none:=Dflts.none hD hdf;obtain rfl:kV=.none:=Dflts.noKw hD;obtain⟨a,vs,ns,rfl,rfl,hobj,hints,hlen⟩:=iE hn hpre hwl;refine enter_call (A0 (call w s₀ s₁ mg mb fa o pm cd doc a vs ns G Y ho (fd_plain hd) hcd hmg hobj hints hlen hg) fun r s' hq=>?_);obtain⟨rfl,h2,h3,h4⟩:=hq;exact⟨.inl ⟨.bool true,.bool true,[],rfl,fun _=>rfl,.bool true,iF l _,fun _=>⟨List.Pairwise.nil,fun _ hm=>(nomatch hm)⟩⟩,h2,h3,h4⟩
section
variable {prog:Program} {w:World} {A:Around} {E:Value->Shared->Prop} {s:Shared} {K:Frag}
def noObjs (h:Heap):Heap:={ h with objs:=#[] }
theorem noObjs_get (h:Heap) (b:uR):(noObjs h).get? b=none:=by
 cases e:(noObjs h).get? b with
 | none=>rfl
 | some o=>exact absurd (u5 e) (A8 _)
def ledger (h:Heap) (L d:uR):List (uR×Obj):=(BB h.objs.size).filterMap fun a=>if a=L \/ a=d then none else (h.get? a).map fun o=>(a,o)
theorem vC {h:Heap} {L d a:uR} {o:Obj}:(a,o)∈ledger h L d↔a≠L/\a≠d/\h.get? a=some o:=by
 unfold ledger;rw [xX];constructor
 ·rintro⟨b,_,e⟩;split at e
  ·cases e
  ·rename_i hb;obtain⟨o',ho,e'⟩:=Option.map_eq_some_iff.mp e;cases e';exact⟨fun q=>hb (.inl q),fun q=>hb (.inr q),ho⟩
 ·rintro⟨n1,n2,ho⟩;refine⟨a,Ao.mpr (u5 ho),?_⟩;rw [CS (show ¬ (a=L \/ a=d) from fun q=>q.elim n1 n2),ho] <;> rfl
theorem dN {h:Heap} {L d:uR} {od:Obj} (hne:d≠L) (ho:h.get? d=some od):News (noObjs h) L h ([]++(d,od) :: ledger h L d):=by
 rintro⟨a,o⟩ hp;rcases u6.mp hp with e | hp
 ·cases e;exact⟨ho,hne,noObjs_get _ _⟩
 ·obtain⟨n1,n2,e⟩:=vC.mp hp;exact⟨e,n1,noObjs_get _ _⟩
theorem fr_all {h:Heap} {L:uR} {m:Str->Option Value} (n:h.Ns L m):Fr (noObjs h) L h m :=
 ⟨n,fun b o e=>(by rw [noObjs_get] at e;cases e),xA _⟩
theorem cw {x C dx L:uR} {ox:Obj} {m:Str->Option Value} {es es':List DictEntry} {n n':Nat} {name:Str} {v:Value} {Q:Unit->Shared->Prop}
  (X:K.In s.heap) (I:PySem.W.InstAt s.heap x ox C (some (dictOf es n))) (hd:ox.dict=some dx) (hL:s.heap.Ns L m) (hne:dx≠L)
  (hs:findIn K (.ref C) "__setattr__"=some (some (.builtin "object.__setattr__"))) (hp:plainOver K C=true) (ht:takerIn K C name=some none) (hh:hasDictIn K C=true) (hl:(getL name es).isSome=true)
  (e:(putL name (PyData.keyHash w.params name) (.str name (s.toks+1)) v es,putN name es n)=(es',n')) (hz:es'.length<=1000)
  (h:∀ h':Heap,h'.Ns L m->h'.get? dx=some (dictOf es' n')->(∀ b o,b≠dx->b≠L->s.heap.get? b=some o->h'.get? b=some o)->Q () { s with heap:=h',toks:=s.toks+2 }) :
  wb (model prog w) A (setAttr (.ref x) name v) Q E s:=by
 obtain⟨e1,e2⟩:=Prod.mk.inj e;have hdx:s.heap.get? dx=some (dictOf es n):=by
  have:=I.dict;rw [hd] at this;exact this
 refine set_plain X I hs (osa_dict (s:={ s with toks:=s.toks+1 }) (h₀:=noObjs s.heap) (L:=L) (m:=m) (od:=dictOf es n) (od':=dictOf es' n') (es:=es') (n:=n') (pre:=[]) (post:=ledger s.heap L dx)
  (fr_all hL) (dN hne hdx) X I hd hp ht hh hl (fun _ q=>nomatch q) (fun⟨_,_⟩ q=>(vC.mp q).2.1) (by rw [putName_dict,e1,e2]) rfl hz fun h' F' N'=>?_)
 exact h h' F'.ns (N'.get (List.Mem.head _)) fun b o n1 n2 ho=>N'.get (List.Mem.tail _ (vC.mpr ⟨n2,n1,ho⟩))
end
end Att
namespace L2
open PySem PySem.Spec PyProof.Rows
theorem cy:∀ {vs:List Value} {ns:List Int},IntsAre vs ns->Vals (ns.map V.int) vs
 | _,_,.nil=>.nil
 | _,_,.cons n t h=>.cons ⟨t,rfl⟩ (cy h)
end L2
/- THE LAST THEOREM (shape;LID,My.* are yours):
   My.Adr: a structure of the addresses that your layer names (classes,functions);My.Txt K t: a structure (Prop) of the equations over K;
   My.txt_mk:{K} {implicit addresses ..} (e1:nsIn K u9 "law"=some (some (.ref f))) (e2:K.lookup f=some ⟨oc,od,.func (fnOf "law" "law" params body scope dV kV doc pm an cdv ct),sl⟩) (e3:codeIn K cdv "law"=true) ..:∃ t,My.Txt K t
set_option maxRecDepth 100000 in
set_option maxHeartbeats 0 in
theorem PySem.Challenge.cw_LID_holds : PySem.Challenge.rw_LID.Holds := by
 w_on;o_law;k_head;(case hw=>w_witness2)
 k_fill
 refine L2.walk_of (l:=PySem.Challenge.rw_LID) (n:=63) (k:=40) (x:="script") (CX:=fun w=>..) (sp:=fun _=>My.sp_law) rfl (by decide) rfl ⟨rfl,by decide,by decide⟩ (fun w h Y=>PySem.W.kIn_of Y) ?F ?S ?C
 case F =>
  intro w mg fa h KX G hmg;have T:∃ t,My.Txt (L2.KOf KX) t:=by
   dsimp only [L2.KOf]                          -- K must stand as «<heap const> w.params» for k_is
   refine' My.txt_mk ?e1 ?e2 ?e3 ..
   (case e1=>PySem.W.k_is)                    -- in the order: a name->its address->its object->its parts
   (case e2=>PySem.W.k_is)
   ..
  obtain⟨t,T⟩:=T;have e0:=hmg.symm.trans (wI KX G T.law);cases e0                                       -- fa is the law's own address;exact⟨_,fun s u=>.of_eq rfl,fun base kb nb=>My.law_fn T kb nb⟩     -- if «.of_eq rfl» comes too early: refine' ⟨_,?b,fun base kb nb=>My.law_fn T kb nb⟩;exact fun s u=>.of_eq rfl
 case S=>exact fun w H a ns hl hO hS=>..
 case C=>exact ..
(the tactic k_is has no namespace: write k_is) -/
namespace L2
open PySem PySem.Spec PyProof.Rows
noncomputable def yt (s:Stmt):Arguments:=match s with
 | .FunctionDef _ a _ _ _ _ _ _ _ _=>a
 | _=>{ posonlyargs:=[],args:=[],vararg:=none,kwonlyargs:=[],kw_defaults:=[],kwarg:=none,defaults:=[] }
noncomputable def zU (s:Stmt):List Stmt:=match s with
 | .FunctionDef _ _ b _ _ _ _ _ _ _=>b
 | _=>[]
noncomputable def zh (s:Stmt):Scope:=match s with
 | .FunctionDef _ _ _ _ _ _ sc _ _ _=>sc
 | _=>{ kind:=.function,names:=[],isGenerator:=false,isCoroutine:=false }
abbrev CX0:CXT:=fun _ _ _ _ _ _=>False
abbrev E0:XK:=fun _ _ _=>False
theorem dO {X:Cx}:Passes CX0 X E0:=fun _ _ _ _ _ _ _ h=>h.elim
structure Fun (K:uQ) (x qual:Str) (st:Stmt) (f:uR) (fd:FuncData):Prop where
 ex:∃ (oc:Value) (od:Option uR) (kV doc pm:Value) (an:Option uR) (cdv ct:Value) (osl:Array (Option Value)),
  fd=wV x qual (yt st) (zU st) (zh st) .none kV doc pm an cdv ct/\K.lookup f=some ⟨oc,od,.func fd,osl⟩/\xc K cdv qual=true
 kp:wF K (.ref f)=true
section
variable {P:Program} {w:World} {K:uQ} {mg:Str->Option Value} {base:Heap}
theorem Fun.ok {x qual:Str} {st:Stmt} {f:uR} {fd:FuncData} {N ps:List Str} {k:Nat} {sp:Sp} (F:Fun K x qual st f fd) (S:FnScope N ps (zh st)) (len:∀ vs H Q E,sp vs H Q E->vs.length=ps.length)
  (hbody:∀ (cdv:Value) (A:Around) (outer:List Env) (s:Shared) (H:Hp) (vs:List V) (Q:VK) (E:XK),Room k (A.deeper (envOfC qual (zh st) s.heap.objs.size f cdv))->sp vs H Q E ->
   ∃ t,PSs (zS CX0 P w K mg base N qual (zh st) f cdv A outer s H E).nox (zU st) t/\t { nx:=fun _ H'=>Q .non H',rt:=Q } (start N vs) H):FnOk P w K mg base CX0 (k+1) f fd ps sp:=by
 obtain⟨oc,od,kV,doc,pm,an,cdv,ct,osl,rfl,lk,hcd⟩:=F.ex;refine o7 lk hcd S len fun A outer s H vs Q E hr hsp=>?_;obtain⟨t,h,q⟩:=hbody cdv A outer s H vs Q E hr hsp;exact⟨t,h.nox,q⟩
theorem Fun.binds {x qual:Str} {st:Stmt} {f:uR} {fd:FuncData} {ps:List Str} (F:Fun K x qual st f fd)
  (h:∀ (kV doc pm:Value) (an:Option uR) (cdv ct:Value) (us:List Value),us.length=ps.length->bindArgs (wV x qual (yt st) (zU st) (zh st) .none kV doc pm an cdv ct) ⟨us,[]⟩=pure (ps.zip us)):Binds K fd ps []:=by
 obtain⟨oc,od,kV,doc,pm,an,cdv,ct,osl,rfl,lk,hcd⟩:=F.ex;exact .all (h kV doc pm an cdv ct)
theorem vD {x qual:Str} {st:Stmt} {f:uR} {oc:Value} {od an:Option uR} {osl:Array (Option Value)} {kV doc pm cdv ct:Value} (l:K.lookup f=some ⟨oc,od,.func (wV x qual (yt st) (zU st) (zh st) .none kV doc pm an cdv ct),osl⟩)
  (c:xc K cdv qual=true) (k:wF K (.ref f)=true):Fun K x qual st f (wV x qual (yt st) (zU st) (zh st) .none kV doc pm an cdv ct):=⟨⟨oc,od,kV,doc,pm,an,cdv,ct,osl,rfl,l,c⟩,k⟩
end
theorem yI {n:Nat} (h:n<=1000):n<wt:=Nat.lt_of_le_of_lt h (by decide)
section
variable {X:Cx}
theorem pv (i:Nat) {x:Str} {pos:Pos} (hN:X.N[i]?=some x:=by rfl) (hv:Vis X.env.scope x:=by first | exact Or.inl rfl | exact Or.inr (Or.inl rfl) | exact Or.inr (Or.inr rfl)) (hd:(x == ("__debug__":Str))=false:=by decide)
  (hcd:(x == ("__classdict__":Str))=false:=by decide):PE X (.Name x pos) (yN i):=kv hN hv hd hcd
end
def Same (H H':Hp):Prop:=∀ b o,H b=some o->H' b=some o
theorem Same.refl (H:Hp):Same H H:=fun _ _ h=>h
theorem Same.trans {H H1 H2:Hp} (a:Same H H1) (b:Same H1 H2):Same H H2:=fun c o h=>b c o (a c o h)
theorem Same.free {H H':Hp} (e:Same H H') {l:uR} (h:H' l=Option.none):H l=Option.none:=by
 cases q:H l with
 | none=>rfl
 | some o =>
  rw [e l o q] at h;cases h
theorem Same.seq {K:uQ} {H H':Hp} {a:uR} {xs:List V} (e:Same H H') (h:SqL K H a xs):SqL K H' a xs:=by
 rcases h with (h | ⟨o,h⟩) | h
 ·exact .inl (.inl (e _ _ h))
 ·exact .inl (.inr ⟨o,e _ _ h⟩)
 ·exact .inr h
noncomputable def yc (env:Env):List (Str×NameKind)->List (Str×uR)->List (Str×uR)
 | [],acc=>acc
 | (x,k) :: r,acc=>if k == .free then yc env r ((x,(env.cells.lookup x).getD 0) :: acc) else yc env r acc
theorem fw {sc:Scope} {env:Env} (h:∀ x,(x,NameKind.free)∈sc.names->∃ c,env.cells.lookup x=some c):closureFor sc env=pure (yc env sc.names []):=by
 have key:∀ (names:List (Str×NameKind)) (acc:List (Str×uR)),(∀ x,(x,NameKind.free)∈names->∃ c,env.cells.lookup x=some c) ->
   (forIn names acc fun (x:Str×NameKind) (cs:List (Str×uR))=>if (x.2 == NameKind.free)=true then (do let c <- cellOf env x.1;pure (ForInStep.yield ((x.1,c) :: cs))) else pure (ForInStep.yield cs))=(pure (yc env names acc):Sem (List (Str×uR))):=by
  intro names
  induction names with
  | nil=>intro acc _;rfl
  | cons p r ih =>
   intro acc hh;obtain⟨x,k⟩:=p;rw [List.forIn_cons];unfold yc;by_cases hk:(k == NameKind.free)=true
   ·have hk':k=.free:=by simpa using hk
    subst hk';obtain⟨c,hc⟩:=hh x u3;simp only [beq_self_eq_true,if_true];rw [<-ih _ fun y hy=>hh y (uW _ hy)];have:cellOf env x=pure c:=by unfold cellOf;rw [hc]
    rw [this,hc];rfl
   ·simp only [hk,Bool.false_eq_true,if_false];rw [<-ih _ fun y hy=>hh y (uW _ hy)];rfl
 simp only [closureFor];have q:=key sc.names [] h;refine Eq.trans ?_ (Eq.trans (congrArg (fun z=>z >>= fun r=>pure r) q) ?_)
 ·rfl
 ·rfl
theorem qt {env:Env}:∀ {names:List (Str×NameKind)} {acc:List (Str×uR)} {p:Str×uR},p∈yc env names acc->p∈acc \/ ((p.1,NameKind.free)∈names/\p.2=(env.cells.lookup p.1).getD 0)
 | [],acc,p,h=>.inl h
 | (x,k) :: r,acc,p,h=>by
  unfold yc at h;split at h
  ·rename_i hk;have hk':k=.free:=by simpa using hk
   subst hk';rcases qt h with q | ⟨q,e⟩
   ·rcases u6.mp q with q | q
    ·subst q;exact .inr ⟨u3,rfl⟩
    ·exact .inl q
   ·exact .inr ⟨uW _ q,e⟩
  ·rcases qt h with q | ⟨q,e⟩
   ·exact .inl q
   ·exact .inr ⟨uW _ q,e⟩
theorem qH {α:Type}:∀ {l:List (Str×α)} {x:Str} {v:α},(x,v)∈l->∃ u,l.lookup x=some u
 | (y,u) :: r,x,v,h=>by
  rw [wN];cases hb:x == y with
  | true=>exact⟨u,rfl⟩
  | false =>
   rcases u6.mp h with e | h
   ·have:x=y:=congrArg Prod.fst e;subst this;simp at hb
   ·exact qH h
theorem vE {env:Env}:∀ {names:List (Str×NameKind)} {acc:List (Str×uR)} {x:Str},(x,NameKind.free)∈names->(x,(env.cells.lookup x).getD 0)∈yc env names acc
 | (y,k) :: r,acc,x,h=>by
  have mono:∀ (names:List (Str×NameKind)) (acc:List (Str×uR)) (p:Str×uR),p∈acc->p∈yc env names acc:=by
   intro names
   induction names with
   | nil=>intro acc p hp;exact hp
   | cons q r ih =>
    intro acc p hp;obtain⟨a,b⟩:=q;unfold yc;split
    ·exact ih _ _ (uW _ hp)
    ·exact ih _ _ hp
  unfold yc;rcases u6.mp h with e | h
  ·cases e;simp only [beq_self_eq_true,if_true];exact mono _ _ _ u3
  ·split
   ·exact vE h
   ·exact vE h
theorem vv {env:Env} {names:List (Str×NameKind)} {x:Str} {c:uR} (h:∀ x,(x,NameKind.free)∈names->∃ c,env.cells.lookup x=some c) (e:(yc env names []).lookup x=some c):env.cells.lookup x=some c/\(x,NameKind.free)∈names:=by
 rcases qt (mem_of_lookup e) with q | ⟨q,e'⟩
 ·cases q
 ·obtain⟨c',hc⟩:=h _ q;dsimp only at hc e';rw [hc] at e';exact⟨by rw [hc];exact congrArg some e'.symm,q⟩
theorem aQ {env:Env} {names:List (Str×NameKind)} {x:Str} {c:uR} (h:∀ x,(x,NameKind.free)∈names->∃ c,env.cells.lookup x=some c) (hx:(x,NameKind.free)∈names) (e:env.cells.lookup x=some c):(yc env names []).lookup x=some c:=by
 obtain⟨u,hu⟩:=qH (vE (env:=env) (acc:=[]) hx);have:=(vv h hu).1;rw [this] at e;rw [hu,e]
theorem jc:∀ {names:List (Str×NameKind)} {n:Nat} {acc:List (Str×uR)} {x:Str} {c:uR},(cellsFrom n names acc).lookup x=some c->(n<=c/\c<n+names.length/\(x,NameKind.cell)∈names) \/ (acc.lookup x=some c/\(x,NameKind.cell)∉names)
 | [],n,acc,x,c,h=>.inr ⟨h,by simp⟩
 | (y,k) :: r,n,acc,x,c,h=>by
  unfold cellsFrom at h;split at h
  ·rename_i hk;have hk':k=.cell:=by simpa using hk
   subst hk';rcases jc h with⟨q1,q2,q3⟩ | ⟨q1,q2⟩
   ·exact .inl ⟨Bj q1,wm q2 (by rw [wy];omega),uW _ q3⟩
   ·rw [wN] at q1;cases hb:x == y with
    | true =>
     rw [hb] at q1;cases q1;have:x=y:=by simpa using hb
     subst this;exact .inl ⟨wc _,by rw [wy];exact Nat.lt_add_of_pos_right (Nat.succ_pos _),u3⟩
    | false =>
     rw [hb] at q1;refine .inr ⟨q1,fun z=>?_⟩;rcases u6.mp z with e | z
     ·have:x=y:=congrArg Prod.fst e;subst this;simp at hb
     ·exact q2 z
  ·rename_i hk;rcases jc h with⟨q1,q2,q3⟩ | ⟨q1,q2⟩
   ·exact .inl ⟨q1,wm q2 (by rw [wy];omega),uW _ q3⟩
   ·refine .inr ⟨q1,fun z=>?_⟩;rcases u6.mp z with e | z
    ·have:k=.cell:=(congrArg Prod.snd e).symm;subst this;simp at hk
    ·exact q2 z
theorem jv:∀ (names:List (Str×NameKind)) (n:Nat) (acc:List (Str×uR)),(acc.Pairwise fun x y=>x.2≠y.2)->(∀ p∈acc,p.2<n)->(cellsFrom n names acc).Pairwise fun x y=>x.2≠y.2
 | [],n,acc,h,_=>h
 | (y,k) :: r,n,acc,h,hl=>by
  unfold cellsFrom;split
  ·refine jv r (n+1) _ (List.pairwise_cons.mpr ⟨fun p hp=>?_,h⟩) fun p hp=>?_
   ·exact Bh (hl p hp)
   ·rcases u6.mp hp with e | hp
    ·subst e;exact AV _
    ·exact xI (hl p hp)
  ·exact jv r n acc h hl
theorem b5 {names:List (Str×NameKind)} {n:Nat} {acc:List (Str×uR)} {x:Str} (h:names.lookup x=some .cell):∃ c,(cellsFrom n names acc).lookup x=some c :=
 xE.mp (xx names n acc (.inl h))
theorem vw {names:List (Str×NameKind)} {n:Nat} {acc:List (Str×uR)} {x:Str} (h:(acc.lookup x).isSome=true):∃ c,(cellsFrom n names acc).lookup x=some c :=
 xE.mp (xx names n acc (.inr h))
theorem qa:∀ (names:List (Str×NameKind)) (h:Heap) (acc:List (Str×uR)) (x:Str) (c:uR),(cellsFrom h.objs.size names acc).lookup x=some c->h.objs.size<=c->(∀ p∈acc,p.2<h.objs.size)->(pushCells h names).IsCell c none
 | [],h,acc,x,c,e,hc,hl=>absurd (hl _ (mem_of_lookup e)) (BX.mpr hc)
 | (y,k) :: r,h,acc,x,c,e,hc,hl=>by
  unfold cellsFrom at e;unfold pushCells;split at e
  ·rename_i hk;rw [CT hk];by_cases hcc:c=h.objs.size
   ·subst hcc;exact⟨_,pushCells_keeps _ _ _ _ (wk _ rfl),rfl⟩
   ·have es:(h.push { cls:=.type "cell",data:=.cell none }).objs.size=h.objs.size+1:=xj ..;refine qa r _ ((y,h.objs.size) :: acc) x c (by rw [es];exact e) (by rw [es];exact Nat.lt_of_le_of_ne hc (x6 hcc)) fun p hp=>?_;rw [es];rcases u6.mp hp with e | hp
    ·subst e;exact AV _
    ·exact xI (hl p hp)
  ·rename_i hk;rw [CS hk];exact qa r h acc x c e hc hl
noncomputable def zt (X:Cx) (sc:Scope) (N:List Str) (s₀:Shared) (H₀:Hp) (ex:List uR) (pn:List (uR×Obj)):Cx :=
 { X with N:=N,s₀:=s₀,H₀:=H₀,env:=compEnvC sc (cellsFrom (s₀.heap.objs.size+1) sc.names (yc X.env sc.names [])) s₀.heap.objs.size X.env,
          outer:=X.stack,ex:=ex,fn:=fun x=>decide (sc.names.lookup x=some .cell),pn:=pn,xe:=fun _ _=>False }
structure CompScope (NO:List Str) (scO:Scope) (N:List Str) (sc:Scope) (own:Nat) (fr:List Nat):Prop where
 kind:sc.kind=.function
 nd:N.Nodup
 snd:(sc.names.map (·.1)).Nodup
 free:∀ p∈sc.names,p.2=.free->scO.names.lookup p.1=some .cell \/ scO.names.lookup p.1=some .free
 frn:∀ p∈(N.drop own).zip fr,NO[p.2]?=some p.1/\sc.names.lookup p.1=some .free
 len:N.length=own+fr.length
noncomputable def jw (own:Nat) (fr:List Nat) (σ:St):St:=xH own none++fr.map fun j=>(σ[j]?).getD none
theorem yg {α:Type}:∀ {l:List (Str×α)} {x:Str} {k:α},(l.map (·.1)).Nodup->(x,k)∈l->l.lookup x=some k
 | (y,u) :: r,x,k,nd,h=>by
  rw [xr] at nd;obtain⟨h1,h2⟩:=AB.mp nd;rw [wN];rcases u6.mp h with e | h'
  ·cases e;simp
  ·have:x≠y:=by
    intro e;subst e;exact h1 (wY.mpr ⟨(x,k),h',rfl⟩)
   rw [beq_eq_false_iff_ne.mpr this];exact yg h2 h'
theorem jM {env:Env}:∀ {names:List (Str×NameKind)} {x:Str} {k:NameKind},names.lookup x=some k ->
  (names.map fun (n,k)=>if (k == NameKind.free && env.scope.kind == .function && env.kindOf n == some .cell) then (n,NameKind.cell) else (n,k)).lookup x=some (if (k == NameKind.free && env.scope.kind == .function && env.kindOf x == some .cell) then .cell else k)
 | (n,k') :: r,x,k,h=>by
  have ih:=@jM env r x k;show Aw x ((if (k' == NameKind.free && env.scope.kind == .function && env.kindOf n == some .cell)=true then (n,NameKind.cell) else (n,k')) :: _)=_;cases hx:x == n with
  | true =>
   have:x=n:=by simpa using hx
   subst this;simp only [wN,hx] at h;cases h;split <;> simp [wN]
  | false =>
   simp only [wN,hx] at h;split
   ·simp only [wN,hx];exact ih h
   ·simp only [wN,hx];exact ih h
theorem jA {env:Env}:∀ {names:List (Str×NameKind)} {x:Str},names.lookup x=none ->
  (names.map fun (n,k)=>if (k == NameKind.free && env.scope.kind == .function && env.kindOf n == some .cell) then (n,NameKind.cell) else (n,k)).lookup x=none
 | [],_,_=>rfl
 | (n,k') :: r,x,h=>by
  have ih:=@jA env r x;show Aw x ((if (k' == NameKind.free && env.scope.kind == .function && env.kindOf n == some .cell)=true then (n,NameKind.cell) else (n,k')) :: _)=_;cases hx:x == n with
  | true=>simp only [wN,hx] at h;cases h
  | false =>
   simp only [wN,hx] at h;split
   ·simp only [wN,hx];exact ih h
   ·simp only [wN,hx];exact ih h
section
variable {X:Cx} {CQ:List (uR×Obj)} {σ:St} {H:Hp} {s:Shared} {NO N:List Str} {scO sc:Scope} {own:Nat} {fr:List Nat} {fp:List uR}
theorem kU {tk:Nat} (S:CompScope NO scO N sc own fr) (hN:X.N=NO) (hsc:X.env.scope=scO) (I:Inv X CQ σ H s) (hf:∀ b∈fp,vA X CQ H b) (ho:∀ b∈fp,∃ o,s.heap.get? b=some o/\∀ v,o.data≠.cell v) :
  Inv (zt X sc N s H fp (X.pn++CQ)) [] (jw own fr σ) H { s with heap:=pushCells (s.heap.push { cls:=.type "dict",data:=.dict #[] }) sc.names,toks:=tk }:=by
 have hfree:∀ x,(x,NameKind.free)∈sc.names->∃ c,X.env.cells.lookup x=some c:=fun x hx=>I.ok.has x (by
  show X.env.scope.names.lookup x=_ \/ X.env.scope.names.lookup x=_;rw [hsc];exact S.free _ hx rfl)
 have hclt:∀ p∈yc X.env sc.names [],p.2<s.heap.objs.size:=fun p hp=>by
  rcases qt hp with q | ⟨q,e⟩
  ·cases q
  ·obtain⟨c,hc⟩:=hfree _ q;rw [e,hc];obtain⟨v,o,ho,_⟩:=I.cell _ c hc;exact u5 ho
 have hsz:(s.heap.push { cls:=.type "dict",data:=.dict #[] }).objs.size=s.heap.objs.size+1:=xj ..;have hk:∀ b o,s.heap.get? b=some o->(pushCells (s.heap.push { cls:=.type "dict",data:=.dict #[] }) sc.names).get? b=some o:=fun b o e=>pushCells_keeps _ _ _ _ (uX _ e);have hcase:∀ {x:Str} {c:uR},(cellsFrom (s.heap.objs.size+1) sc.names (yc X.env sc.names [])).lookup x=some c->(s.heap.objs.size+1<=c/\(x,NameKind.cell)∈sc.names) \/ (X.env.cells.lookup x=some c/\(x,NameKind.free)∈sc.names):=fun {x c} e=>by
  rcases jc e with⟨q1,_,q3⟩ | ⟨q1,_⟩
  ·exact .inl ⟨q1,q3⟩
  ·exact .inr (vv hfree q1)
 have clap:(yc X.env sc.names []).Pairwise fun x y=>x.2≠y.2:=by
  have key:∀ (names:List (Str×NameKind)) (acc:List (Str×uR)),(∀ p∈acc,X.env.cells.lookup p.1=some p.2)->(∀ x,(x,NameKind.free)∈names->∃ c,X.env.cells.lookup x=some c)->(acc.Pairwise fun x y=>x.2≠y.2)->(∀ p∈acc,(p.1,NameKind.free)∉names)->(names.map (·.1)).Nodup ->
    (yc X.env names acc).Pairwise fun x y=>x.2≠y.2:=by
   intro names
   induction names with
   | nil=>intro acc _ _ h _ _;exact h
   | cons p r ih =>
    intro acc h1 h2 h3 h4 h5;obtain⟨y,k⟩:=p;rw [xr] at h5;obtain⟨n1,n2⟩:=AB.mp h5;unfold yc;split
    ·rename_i hk;have hk':k=.free:=by simpa using hk
     subst hk';obtain⟨c,hc⟩:=h2 y u3;rw [hc];refine ih _ (fun p hp=>?_) (fun x hx=>h2 x (uW _ hx)) (List.pairwise_cons.mpr ⟨fun p hp=>?_,h3⟩) (fun p hp=>?_) n2
     ·rcases u6.mp hp with e | hp
      ·subst e;exact hc
      ·exact h1 p hp
     ·intro e;have e':p.2=c:=e.symm;have:=I.ok.inj _ _ _ hc (e'▸h1 p hp);exact h4 p hp (this▸u3)
     ·rcases u6.mp hp with e | hp
      ·subst e;intro z;exact n1 (wY.mpr ⟨_,z,rfl⟩)
      ·intro z;exact h4 p hp (uW _ z)
    ·exact ih acc h1 (fun x hx=>h2 x (uW _ hx)) h3 (fun p hp z=>h4 p hp (uW _ z)) n2
  exact key sc.names [] (fun p hp=>by cases hp) hfree List.Pairwise.nil (fun p hp=>by cases hp) S.snd
 have apart:=jv sc.names (s.heap.objs.size+1) _ clap fun p hp=>xI (hclt p hp);have hkd:∀ x,(zt X sc N s H fp (X.pn++CQ)).env.kindOf x=some .cell \/ (zt X sc N s H fp (X.pn++CQ)).env.kindOf x=some .free->(x,NameKind.cell)∈sc.names \/ (x,NameKind.free)∈sc.names:=fun x hx=>by
  cases q:sc.names.lookup x with
  | none =>
   have e:(zt X sc N s H fp (X.pn++CQ)).env.kindOf x=none:=jA q;rw [e] at hx;rcases hx with z | z <;> cases z
  | some k =>
   have e:(zt X sc N s H fp (X.pn++CQ)).env.kindOf x=some _:=jM (env:=X.env) q;rw [e] at hx;have hm:=mem_of_lookup q;cases k <;> first | exact .inl hm | exact .inr hm | (rcases hx with z | z <;> cases z)
 have cellAt:∀ x c,(cellsFrom (s.heap.objs.size+1) sc.names (yc X.env sc.names [])).lookup x=some c->∃ v,(pushCells (s.heap.push { cls:=.type "dict",data:=.dict #[] }) sc.names).IsCell c v:=fun x c e=>by
  rcases hcase e with⟨q,_⟩ | ⟨q,_⟩
  ·exact⟨none,qa _ _ _ x c (by rw [hsz];exact e) (by rw [hsz];exact q) fun p hp=>by rw [hsz];exact xI (hclt p hp)⟩
  ·obtain⟨v,o,ho,hd⟩:=I.cell x c q;exact⟨v,o,hk _ _ ho,hd⟩
 have lt_of_cell:∀ x c,X.env.cells.lookup x=some c->c<s.heap.objs.size:=fun x c e=>by
  obtain⟨v,o,ho,hd⟩:=I.cell x c e;exact u5 ho
 have lt_of_fp:∀ b∈fp,b<s.heap.objs.size:=fun b hb=>by
  obtain⟨o,e,_⟩:=ho b hb;exact u5 e
 have okX:(zt X sc N s H fp (X.pn++CQ)).Ok:=by
  refine⟨I.mod,S.kind,I.ok.glob,I.ok.blt,wc _,fun x y c h1 h2=>name_of_addr apart (mem_of_lookup h1) (mem_of_lookup h2),fun x hx=>?_,fun x c hx hc=>?_,I.ok.hd,I.ok.frames,.inl rfl,fun b hb=>⟨wC (lt_of_fp b hb),fun x c e=>?_⟩,I.bs,wu I.ok.bsz I.sz,fun b o e hb=>?_,fun b hb z=>?_,I.stack,I.stkFree,I.env0.tabs⟩
  ·rcases hkd x hx with q | q
   ·exact b5 (yg S.snd q)
   ·obtain⟨c,hc⟩:=hfree x q;exact vw (by rw [aQ hfree q hc];rfl)
  ·have hx':sc.names.lookup x=some .cell:=of_decide_eq_true hx;rcases hcase hc with⟨q,_⟩ | ⟨_,q⟩
   ·exact Bj q
   ·rw [yg S.snd q] at hx';cases hx'
  ·rcases hcase e with⟨q,_⟩ | ⟨q,_⟩
   ·exact Bh (wm (lt_of_fp b hb) (Bj q))
   ·exact (hf b hb).2.2.2.2.1 x c q
  ·rcases (hf b hb).2.2.2.1 with z | z
   ·exact I.ok.noex b o e z
   ·exact absurd (u5 e) (BX.mpr (wu I.ok.bsz z))
  ·rcases u6.mp (I.stkSub b z) with q | q
   ·exact (hf b hb).2.1 q
   ·exact (hf b hb).2.2.1 q
 refine⟨okX,rfl,I.bare,Un.kept hk,⟨fun _=>none,(Heap.Ns.new s.heap (.type "dict")).keeps (pushCells_keeps _ _),fun i x v h1 h2 h3=>?_⟩,cellAt,I.hok.fresh (wc _),fun x c e=>?_,fun p hp=>?_,I.hok.kept hk,?_⟩
 ·obtain⟨m,_,hl⟩:=id I.loc;have h2':(jw own fr σ)[i]?=some (some v):=h2;have hio:own<=i:=by
   unfold jw at h2';refine Nat.le_of_not_lt fun hi=>?_;rw [wA (by simpa using hi),Ap] at h2';split at h2' <;> cases h2'
  obtain⟨k,rfl⟩:=Nat.exists_eq_add_of_le hio;have h1':N[own+k]?=some x:=h1;unfold jw at h2';rw [wH (by simp)] at h2';simp only [Bk,Nat.add_sub_cancel_left,wj] at h2';cases hj:fr[k]? with
  | none=>rw [hj] at h2';cases h2'
  | some j =>
   rw [hj] at h2';have h2'':(σ[j]?).getD none=some v:=Option.some.inj h2';have hp:(x,j)∈(N.drop own).zip fr:=by
    refine wM (i:=k) ?_;rw [List.getElem?_zip_eq_some];exact⟨by rw [List.getElem?_drop];exact h1',hj⟩
   obtain⟨f1,f2⟩:=S.frn _ hp;have hσ:σ[j]?=some (some v):=by
    cases q:σ[j]? with
    | none=>rw [q] at h2'';cases h2''
    | some w=>rw [q] at h2'';exact congrArg some h2''
   have hxf:(x,NameKind.free)∈sc.names:=mem_of_lookup f2;have hko:=S.free _ hxf rfl;have hvis:Vis X.env.scope x:=by rw [hsc];exact .inr hko
   obtain⟨u,ru,q⟩:=hl j x v (by rw [hN];exact f1) hσ hvis;refine⟨u,ru,.inr ⟨?_,?_⟩⟩
   ·have e:(zt X sc N s H fp (X.pn++CQ)).env.kindOf x=some _:=jM (env:=X.env) f2;rw [e];split
    ·exact .inl rfl
    ·exact .inr rfl
   ·rcases q with⟨k1,_⟩ | ⟨_,c,hc,z⟩
    ·have k1':X.env.scope.names.lookup x=some .local:=k1;rw [hsc] at k1';rcases hko with z | z <;> rw [z] at k1' <;> cases k1'
    ·obtain⟨o,ho,hd⟩:=z;refine⟨c,?_,o,hk _ _ ho,hd⟩;have hcl:=aQ hfree hxf hc;obtain⟨c',hc'⟩:=vw (names:=sc.names) (n:=s.heap.objs.size+1) (acc:=yc X.env sc.names []) (x:=x) (by rw [hcl];rfl);rcases hcase hc' with⟨_,z⟩ | ⟨z,_⟩
     ·have:=yg S.snd z;rw [f2] at this;cases this
     ·rw [hc] at z;cases z;exact hc'
 ·rcases hcase e with⟨q,_⟩ | ⟨q,_⟩
  ·exact I.hok.fresh (Bj q)
  ·exact I.freeC x c q
 ·have hp':p∈X.pn++CQ:=by simpa [zt] using hp
  obtain⟨e,n,ne,nf,d⟩:=I.pin p hp';refine⟨hk _ _ e,n,wC (u5 e),fun z=>?_,d⟩;rcases u6.mp (I.stkSub _ z) with q | q
  ·exact ne q
  ·exact nf q
 ·show (jw own fr σ).length=N.length;unfold jw;rw [S.len];simp
end
abbrev TB:=St->Hp->(St->Hp->Prop)->Prop
def PB (X:Cx) (act:Sem Unit) (t:TB):Prop :=
 ∀ (CQ:List (uR×Obj)) (s:Shared) (σ:St) (H:Hp) (Q:St->Hp->Prop),Inv X CQ σ H s->t σ H Q->wb (model X.prog X.w) X.A act (fun _ s'=>∃ σ' H',Inv X CQ σ' H' s'/\Q σ' H') X.xe s
def PTs (X:Cx) (ifs:List Expr) (t:TT):Prop :=
 ∀ (CQ:List (uR×Obj)) (s:Shared) (σ:St) (H:Hp) (Q:Bool->Hp->Prop),Inv X CQ σ H s->t σ H Q ->
  wb (model X.prog X.w) X.A (forIn ifs true fun c r=>if r=true then do let ok <- isTrue c X.env (eval c X.env);pure (ForInStep.yield ok) else pure (ForInStep.yield r)) (TP X CQ σ Q) X.xe s
def tW:TT:=fun _ H Q=>Q true H
theorem y3 {X:Cx}:PTs X [] tW:=fun CQ s σ H Q I h=>wpAny_tests_nil ⟨H,I,h⟩
theorem nA {X:Cx} {c:Expr} {t:TT} (hc:PT X c t):PTs X [c] t:=fun CQ s σ H Q I h=>wpAny_tests_one (hc CQ s σ H Q I h)
def gI (J:It) (g:TG) (tt:TT) (tb:TB):TB:=fun σ H Q=>∃ W:Nat->Nat->St->Hp->Prop,(∃ m,W 0 m σ H)/\∀ i m σ H,W i m σ H ->
 (J.stop i H/\Q σ H) \/ (J.go i H/\∀ x H',J.yld i H x H'->g x σ H' fun σ2 H2=>tt σ2 H2 fun b H3=>if b=true then tb σ2 H3 fun σ' H'=>∃ m',m'<m/\W (i+1) m' σ' H' else ∃ m',m'<m/\W (i+1) m' σ2 H3)
section
variable {X:Cx} {CQ:List (uR×Obj)} {s:Shared} {σ:St} {H:Hp} {tg:Expr} {e:Expr} {d:Nat} {acc:Value} {ifs:List Expr} {g:TG} {tt:TT} {tb:TB} {act:Sem Unit} {pos:Pos}
theorem kW (hx:∀ e s,X.xe e s->False) (hc:X.calm=true) (hg:PG X tg g) (ht:PTs X ifs tt) (hb:PB X act tb)
  (heq:∀ it,compTurn e d it acc X.env=(do
   standAt pos
   match <- pyNext it with
   | none=>pure (.done .next)
   | some v =>
    Ad tg it v
    assign tg X.env v
    let mut ok:=true
    for c in ifs do
     if ok then ok <- isTrue c X.env (eval c X.env)
    if ok then
     act
    again (.compLoop e d it acc X.env)))
  (hqt:∀ it,(Code.compLoop e d it acc X.env).quiet=true)
  (hden:∀ it,(model X.prog X.w).den (.compLoop e d it acc X.env)=(compTurn e d it acc X.env).onRaise (fun x=>do noteFrame x X.env;theTreesLotGoes x))
  (hund:∀ it,X.A.under (.compLoop e d it acc X.env)=X.A)
  {it:uR} {fp:List uR} {tn:Nat->Heap->Prop} {J:It} {Q:St->Hp->Prop} {R:Result->Shared->Prop} (I:Inv X CQ σ H s) (T:Turn X.prog X.w X.K tg J fp it tn) (st:tn 0 s.heap) (f:∀ b∈fp,vA X CQ H b)
  (h:gI J g tt tb σ H Q) (hR:∀ σ' H' s',Inv X CQ σ' H' s'->(∀ b∈fp,H' b=none)->Q σ' H'->R (.ok .next) s'):codeAny (model X.prog X.w) X.A (.compLoop e d (.ref it) acc X.env) R s:=by
 obtain⟨W,⟨m0,w0⟩,turn⟩:=h;have stat:∀ {H':Hp},(∀ b∈fp,H' b=none)->∀ b∈fp,vA X CQ H' b:=fun hn b hb=>⟨hn b hb,(f b hb).2⟩;refine codeAny_loop (hqt _) (fun n s'=>∃ i σ' H',Inv X CQ σ' H' s'/\tn i s'.heap/\(∀ b∈fp,H' b=none)/\W i n σ' H') ?_ m0 ⟨0,σ,H,I,st,fun b hb=>(f b hb).1,w0⟩;rintro n s3 ⟨i,σ3,H3,I3,st3,fr3,w3⟩;rw [hden,hund];refine wpAny_noted ?_;rw [heq];have nox:∀ e' s',X.xe e' s'->notedBy (model X.prog X.w) X.A X.env (fun e s'=>R (.error e) s') e' s':=fun e' s' z=>(hx e' s' z).elim;refine uS (wpAny_standAt (uS ?_));rcases turn i n σ3 H3 w3 with⟨stop,qn⟩ | ⟨go,step⟩
 ·refine wW (T.done X rfl rfl rfl hc i CQ s3 σ3 H3 X.xe I3 (stat fr3) st3 stop) (fun r s4 hr4=>?_) nox;obtain⟨hr,I4⟩:=hr4;subst hr;exact wa (hR σ3 H3 s4 I4 fr3 qn)
 ·refine wW (T.item X rfl rfl rfl hc i CQ s3 σ3 H3 X.xe I3 (stat fr3) st3 go) (fun r s4 hr4=>?_) nox;obtain⟨u,hr,h4⟩:=hr4;subst hr;refine uS (wW h4 (fun _ s5 h5=>?_) nox);obtain⟨x,H5,I5,r5,y5,st5,fr5⟩:=h5;have I5':=I5.pinned (stat fr5) (T.obj _ _ st5);refine uS (wW (hg _ s5 σ3 H5 x u _ I5' r5 (step x H5 y5)) (fun _ s6 h6=>?_) nox);obtain⟨σ6,H6,I6,q6⟩:=h6;refine uS (wW (ht _ s6 σ6 H6 _ I6 q6) (fun ok s7 h7=>?_) nox);obtain⟨H7,I7,q7⟩:=h7;have again:∀ {σ7:St} {H7:Hp} {s7:Shared},Inv X (CQ++bA fp s5.heap) σ7 H7 s7->(∃ m',m'<n/\W (i+1) m' σ7 H7)->∃ m,m<n/\∃ i σ' H',Inv X CQ σ' H' s7/\tn i s7.heap/\(∀ b∈fp,H' b=none)/\W i m σ' H':=fun {σ7 H7 s7} I7 n7=>by
   obtain⟨m',hm,w7⟩:=n7;refine⟨m',hm,i+1,σ7,H7,I7.unpinned,T.keep _ _ _ st5 fun b hb o e=>(I7.pin (b,o) (wq _ (wq _ (qr hb e)))).1,fun b hb=>?_,w7⟩;obtain⟨o,e,d⟩:=T.obj _ _ st5 b hb;exact (I7.pin (b,o) (wq _ (wq _ (qr hb e)))).2.1
  cases ok with
  | false =>
   rw [CS uT] at q7;exact wa ⟨rfl,again I7 q7⟩
  | true =>
   rw [CT rfl] at q7;refine uS (wW (hb _ s7 σ6 H7 _ I7 q7) (fun _ s8 h8=>?_) nox);obtain⟨σ8,H8,I8,q8⟩:=h8;exact wa ⟨rfl,again I8 q8⟩
theorem gJ {D:uR} {elt:Expr} {te:TE} (he:PE X elt te):PB X (do let _ <- call (.builtin "list.append") [.ref D,<- eval elt X.env]) (fun σ H Q=>te σ H fun y H1=>∃ xs,H1 D=some (.lst xs)/\xs.length<wt/\Q σ (upd H1 D (.lst (xs++[y])))):=by
 intro CQ s σ H Q I h;refine uS (thn (he CQ s σ H _ I h) fun v s1 h1=>?_);obtain⟨y,H1,I1,r1,xs,hD,hz,q⟩:=h1;obtain⟨z,its,n,r,hl,e⟩:=I1.lstM hD;refine uS ?_;refine call_meets F.slot_list_append ⟨_,e,rfl⟩ Cu (Ci _ _) (PySem.list_append D its.toArray n v (by rw [wo];omega)) ⟨e,?_⟩;refine wa ⟨σ,_,I1.lset (its':=its++[v]) hD e (by simp) (r.append (.cons r1 .nil)) ?_,q⟩;rw [wL,B8];omega
theorem dP {M:Model} {A:Around} {E:Value->Shared->Prop} {sc:Scope} {gl:uR} {cl:List (Str×uR)} {qual:Str} {env:Env} {Q:Env->Shared->Prop} {s:Shared}
  (h:Q { scope:=sc,locals:=s.heap.objs.size,globals:=gl,cells:=cellsFrom (s.heap.objs.size+1) sc.names cl,qual:=qual,func:=none,code:=env.code,frame:=env.frame,builtins:=env.builtins } { s with heap:=pushCells (s.heap.push { cls:=.type "dict",data:=.dict #[] }) sc.names }) :
  wb M A (newFunctionEnv sc gl cl [] qual none .none (some env)) Q E s:=by
 simp only [newFunctionEnv,Option.isSome_some,if_true];refine uS (wpAny_alloc ?_);refine uS (wpAny_layCells _ (fun name kind cells=>by cases hkc:kind == NameKind.cell <;> simp [hkc]) _ _ _ _ ?_);rw [show ({ s with heap:=s.heap.push { cls:=.type "dict",data:=.dict #[] } }:Shared).heap.objs.size=s.heap.objs.size+1 from xj ..];refine uS ?_;rw [List.forIn_nil];exact wa (wa h)
theorem comp_back {sc:Scope} {N:List Str} {fp:List uR} {σ':St} {H':Hp} {s':Shared} {h':Heap} (I:Inv X CQ σ H s) (hf:∀ b∈fp,vA X CQ H b) (J:Inv (zt X sc N s H fp (X.pn++CQ)) [] σ' H' s') (hs:Bg s.heap.objs.size s'.heap h') :
  Inv X CQ σ H' { s' with heap:=h' }:=by
 have u:Un (frs X.stack) fp H H' s.heap s'.heap:=J.base;have ne:∀ b o,s.heap.get? b=some o->b≠s.heap.objs.size:=fun b o e=>wC (u5 e);have hfree:H' s.heap.objs.size=none:=J.free;refine I.call' (s':={ s' with heap:=h' }) (ch:=fp) J.os ⟨fun b o e n h1 h2=>(hs.2 b (ne b o e)).trans (u.keep b o e n h1 h2),fun b o e n h1 h2=>?_,u.free,fun b o e h2=>?_,u.tups,u.frzs,u.tbls⟩ (fun a o e=>?_) J.bare fun b hb=>?_
 ·obtain⟨sl,q⟩:=u.slot b o e n h1 h2;exact⟨sl,(hs.2 b (ne b o e)).trans q⟩
 ·obtain⟨o',q⟩:=u.there b o e h2;exact⟨o',(hs.2 b (ne b o e)).trans q⟩
 ·refine (J.hok a o e).stay (fun c v hc q=>(hs.2 c ?_).trans q) (fun _ q=>q) fun _ _ q=>q;intro z;subst z;rcases hc with hc | hc
  ·rw [<-hc] at e;rw [hfree] at e;cases e
  ·rw [hfree] at hc;cases hc
 ·exact⟨(hf b hb).2.2.2.1,(hf b hb).2.1,(hf b hb).2.2.2.2⟩
end
def kX (D:uR) (te:TE):TB:=fun σ H Q=>te σ H fun y H1=>∃ xs,H1 D=some (.lst xs)/\xs.length<wt/\Q σ (upd H1 D (.lst (xs++[y])))
def bG (wi:TI) (own:Nat) (fr:List Nat) (g:TG) (tt:TT) (tb:uR->TB):TE:=fun σ H Q=>wi σ H fun J H1=>∀ D,H1 D=none ->
 gI J g tt (tb D) (jw own fr σ) (upd H1 D (.lst [])) fun _ H2=>Q (.ref D) H2
section
variable {X:Cx} {CQ:List (uR×Obj)} {s:Shared} {σ:St} {H:Hp} {tg elt iter:Expr} {ifs:List Expr} {rest:List Comprehension} {sc scO:Scope} {NO N:List Str} {own:Nat} {fr:List Nat} {wi:TI} {g:TG} {tt:TT} {tb:uR->TB} {pos:Pos}
theorem dQ {RR:Value->uR->Result->Shared->Prop} {it:uR} {fp:List uR} {tn:Nat->Heap->Prop} {J:It} {Q:VK} (S:CompScope NO scO N sc own fr) (hN:X.N=NO) (hsc:X.env.scope=scO) (hc:X.calm=true)
  (hg:∀ s₀ H₀ ex pn,PG (zt X sc N s₀ H₀ ex pn) tg g) (ht:∀ s₀ H₀ ex pn,PTs (zt X sc N s₀ H₀ ex pn) ifs tt)
  (hb:∀ D s₀ H₀ ex pn,∃ act,PB (zt X sc N s₀ H₀ ex pn) act (tb D)/\∀ it,compTurn (.ListComp elt (⟨tg,iter,ifs,0⟩ :: rest) sc pos) 0 it (.ref D) (zt X sc N s₀ H₀ ex pn).env=(do
   standAt iter.pos
   match <- pyNext it with
   | none=>pure (.done .next)
   | some v =>
    Ad tg it v
    assign tg (zt X sc N s₀ H₀ ex pn).env v
    let mut ok:=true
    for c in ifs do
     if ok then ok <- isTrue c (zt X sc N s₀ H₀ ex pn).env (eval c (zt X sc N s₀ H₀ ex pn).env)
    if ok then
     act
    again (.compLoop (.ListComp elt (⟨tg,iter,ifs,0⟩ :: rest) sc pos) 0 it (.ref D) (zt X sc N s₀ H₀ ex pn).env)))
  (I:Inv X CQ σ H s) (T:Turn X.prog X.w X.K tg J fp it tn) (st:tn 0 s.heap) (f:∀ b∈fp,vA X CQ H b)
  (h:∀ D,H D=none->gI J g tt (tb D) (jw own fr σ) (upd H D (.lst [])) fun _ H2=>Q (.ref D) H2)
  (hRR:∀ (D C:uR) (s':Shared) (H':Hp),(∃ m,s'.heap.Ns C m)->C≠X.env.locals->(∀ x c,X.env.cells.lookup x=some c->c≠C)->H' C=none->X.s₀.heap.objs.size<=C->(∀ p∈X.pn++CQ,p.1≠C)->Inv X CQ σ H' s'->Q (.ref D) H'->RR (.ref D) C (.ok .next) s') :
  wb (model X.prog X.w) X.A (newList []) (fun acc s₃=>wb (model X.prog X.w) X.A (newFunctionEnv sc X.env.globals (yc X.env sc.names []) [] X.env.qual none .none (some X.env)) (fun cenv s₄ =>
   codeAny (model X.prog X.w) X.A (.compStart (.ListComp elt (⟨tg,iter,ifs,0⟩ :: rest) sc pos) 0 (.ref it) acc { cenv with scope:=relabel sc X.env }) (RR acc cenv.locals) s₄) X.xe s₃) X.xe s:=by
 refine wpAny_newObj_type (dP ?_);have fpsz:∀ b∈fp,b<s.heap.objs.size:=fun b hb=>by
  obtain⟨o,e,_⟩:=T.obj _ _ st b hb;exact u5 e
 have I3:=I.lnew (its:=[]) (ys:=[]) (t':=s.toks) .nil (xA _);have f3:∀ b∈fp,vA X CQ (upd H s.heap.objs.size (.lst [])) b:=fun b hb=>⟨by rw [zl (wC (fpsz b hb))];exact (f b hb).1,(f b hb).2⟩;have st3:tn 0 (s.heap.push { cls:=.type "list",data:=.seq ([]:List Value).toArray }):=T.keep _ _ _ st fun b _ o e=>uX _ e;have I4:=kU (tk:=s.toks) S hN hsc I3 f3 (T.obj _ _ st3);obtain⟨act,pb,heq⟩:=hb s.heap.objs.size _ _ _ _;have st4:=T.keep _ _ (pushCells ((s.heap.push { cls:=.type "list",data:=.seq ([]:List Value).toArray }).push { cls:=.type "dict",data:=.dict #[] }) sc.names) st3 fun b _ o e=>pushCells_keeps _ _ _ _ (uX _ e);have cells_lt:∀ x c,X.env.cells.lookup x=some c->c<s.heap.objs.size:=fun x c e=>by
  obtain⟨v,o,ho,hd⟩:=I.cell x c e;exact u5 ho
 have esz:(s.heap.push { cls:=.type "list",data:=.seq ([]:List Value).toArray }).objs.size=s.heap.objs.size+1:=xj ..;have loop:=kW (X:=zt X sc N { s with heap:=s.heap.push { cls:=.type "list",data:=.seq ([]:List Value).toArray } } (upd H s.heap.objs.size (.lst [])) fp (X.pn++CQ)) (R:=RR (.ref s.heap.objs.size) (s.heap.push { cls:=.type "list",data:=.seq ([]:List Value).toArray }).objs.size) (fun _ _ z=>z) hc (hg _ _ _ _) (ht _ _ _ _) pb heq (fun _=>rfl) (fun _=>rfl) (fun _=>rfl) I4 T st4
  (fun b hb=>⟨(f3 b hb).1,I4.ok.exf b hb |>.1,I4.ok.exfs b hb,.inl hb,I4.ok.exf b hb |>.2,fun p hp=>by
   have hp':p∈X.pn++CQ:=by simpa [zt] using hp
   exact (f b hb).2.2.2.2.2 p hp'⟩) (h _ I.fresh)
  (fun σ' H' s' J' fr' q'=>hRR _ _ s' H' (let⟨m,hm,_⟩:=J'.loc;⟨m,hm⟩) (by rw [esz];exact Bh (xI I.lt)) (fun x c e=>by rw [esz];exact wC (xI (cells_lt x c e))) J'.free (by rw [esz];exact Nat.le_succ_of_le I.sz) (fun p hp=>by rw [esz];exact wC (xI (u5 (I.pin p hp).1))) (comp_back (h':=s'.heap) I3 f3 J' (Heap.SameBut.refl ..)) q')
 exact codeAny_compStart_list loop (T.self X.A 0 _ _ _ st4 loop)
theorem Inv.touch {C:uR} {h':Heap} (I:Inv X CQ σ H s) (hs:Bg C s.heap h') (hn:H C=none) (h0:C≠X.env.locals) (h1:∀ x c,X.env.cells.lookup x=some c->c≠C) (h2:X.s₀.heap.objs.size<=C) (h3:∀ p∈X.pn++CQ,p.1≠C) :
  Inv X CQ σ H { s with heap:=h' } :=
 I.turned (t':=s.toks) (fun b o hb e=>(hs.2 b hb).trans e) hn h0 (.inr h2) h1 h3
section
variable {elt2:Expr} {te:TE} {tg2 iter2:Expr} {ifs2:List Expr} {wi2:TI} {g2:TG} {tt2:TT} {tb2:TB} {y:Str} {i:Nat} {py spos:Pos}
theorem gK (S:CompScope NO scO N sc own fr) (hsc:X.env.scope=scO) (ok:X.Ok):closureFor sc X.env=pure (yc X.env sc.names []) :=
 fw fun x hx=>ok.has x (by
  show X.env.scope.names.lookup x=_ \/ X.env.scope.names.lookup x=_;rw [hsc];exact S.free _ hx rfl)
theorem nB (S:CompScope NO scO N sc own fr) (hc:X.calm=true) (hi:PI X tg iter wi) (hg:∀ s₀ H₀ ex pn,PG (zt X sc N s₀ H₀ ex pn) tg g) (ht:∀ s₀ H₀ ex pn,PTs (zt X sc N s₀ H₀ ex pn) ifs tt)
  (hb:∀ D s₀ H₀ ex pn,∃ act,PB (zt X sc N s₀ H₀ ex pn) act (tb D)/\∀ it,compTurn (.ListComp elt (⟨tg,iter,ifs,0⟩ :: rest) sc pos) 0 it (.ref D) (zt X sc N s₀ H₀ ex pn).env=(do
   standAt iter.pos
   match <- pyNext it with
   | none=>pure (.done .next)
   | some v =>
    Ad tg it v
    assign tg (zt X sc N s₀ H₀ ex pn).env v
    let mut ok:=true
    for c in ifs do
     if ok then ok <- isTrue c (zt X sc N s₀ H₀ ex pn).env (eval c (zt X sc N s₀ H₀ ex pn).env)
    if ok then
     act
    again (.compLoop (.ListComp elt (⟨tg,iter,ifs,0⟩ :: rest) sc pos) 0 it (.ref D) (zt X sc N s₀ H₀ ex pn).env)))
  (hN:X.N=NO) (hsc:X.env.scope=scO) (hs:∀ x,AJ iter X.env x=pure x) :
  PE X (.ListComp elt (⟨tg,iter,ifs,0⟩ :: rest) sc pos) (bG wi own fr g tt tb):=by
 intro CQ s σ H Q I h;rw [eval_ListComp];refine wpAny_comprehension_free (use:=none) rfl hs (gK S hsc I.ok) S.kind (fun p hp hl=>yg S.snd (k:=.local) (by rw [<-hl];exact hp)) (thn (hi CQ s σ H _ I h) fun v s1 h1=>thn h1 fun itv s2 h2=>?_);obtain⟨it,fp,tn,J,H2,e,I2,T,st2,f2,q⟩:=h2;subst e;refine dQ (RR:=fun acc C=>compPost (model X.prog X.w) X.A X.xe none (EP X CQ σ Q) acc C) S hN hsc hc hg ht hb I2 T st2 f2 q ?_;rintro D C s' H' ⟨m,hm⟩ c0 c1 c2 c3 c4 J' q';exact⟨m,hm,fun h' hs'=>⟨.ref D,H',J'.touch hs' c2 c0 c1 c3 c4,rfl,q'⟩⟩
theorem fy (S:CompScope NO scO N sc own fr) (hc:X.calm=true) (hNd:X.N.Nodup) (hiN:X.N[i]?=some y) (hy:Loc X.env.scope y) (hi:PI X tg iter wi) (hg:∀ s₀ H₀ ex pn,PG (zt X sc N s₀ H₀ ex pn) tg g) (ht:∀ s₀ H₀ ex pn,PTs (zt X sc N s₀ H₀ ex pn) ifs tt)
  (hb:∀ D s₀ H₀ ex pn,∃ act,PB (zt X sc N s₀ H₀ ex pn) act (tb D)/\∀ it,compTurn (.ListComp elt (⟨tg,iter,ifs,0⟩ :: rest) sc pos) 0 it (.ref D) (zt X sc N s₀ H₀ ex pn).env=(do
   standAt iter.pos
   match <- pyNext it with
   | none=>pure (.done .next)
   | some v =>
    Ad tg it v
    assign tg (zt X sc N s₀ H₀ ex pn).env v
    let mut ok:=true
    for c in ifs do
     if ok then ok <- isTrue c (zt X sc N s₀ H₀ ex pn).env (eval c (zt X sc N s₀ H₀ ex pn).env)
    if ok then
     act
    again (.compLoop (.ListComp elt (⟨tg,iter,ifs,0⟩ :: rest) sc pos) 0 it (.ref D) (zt X sc N s₀ H₀ ex pn).env)))
  (hN:X.N=NO) (hsc:X.env.scope=scO) (hs:∀ x,AJ iter X.env x=pure x) (hf:X.fn y=true \/ X.env.scope.names.lookup y=some .local)
  (hsw:swapsWith (.ListComp elt (⟨tg,iter,ifs,0⟩ :: rest) sc pos) (some (.Name y py)) spos.line X.env=pure true) :
  PS X (.Assign [.Name y py] (.ListComp elt (⟨tg,iter,ifs,0⟩ :: rest) sc pos) spos) (vt (bG wi own fr g tt tb) (qQ i)):=by
 intro CQ s σ H D I h;rw [exec_Assign_Name_used _ _ _ _ hsw];refine uS (wpAny_standAt (uS ?_));show wb _ X.A (do let _ <- comprehension (.ListComp elt (⟨tg,iter,ifs,0⟩ :: rest) sc pos) sc X.env _ (newList []) false (eval iter X.env) (some (assign (.Name y py) X.env))) _ _ s;refine uS (wW (wpAny_comprehension_free (use:=some (assign (.Name y py) X.env)) (Q:=fun _ s'=>SP X CQ D .next s') rfl hs (gK S hsc I.ok) S.kind (fun p hp hl=>yg S.snd (k:=.local) (by rw [<-hl];exact hp))
  (thn (hi CQ s σ H _ I h) fun v s1 h1=>thn h1 fun itv s2 h2=>?_)) (fun _ s' hq=>wa (wa hq)) fun _ _ e=>e)
 obtain⟨it,fp,tn,J,H2,e,I2,T,st2,f2,q⟩:=h2;subst e;refine dQ (Q:=fun x H1=>qQ i x σ H1 D.nx) (RR:=fun acc C=>compPost (model X.prog X.w) X.A X.xe (some (assign (.Name y py) X.env)) (fun _ s'=>SP X CQ D .next s') acc C) S hN hsc hc hg ht hb I2 T st2 f2 q ?_;rintro A' C s' H' ⟨m,hm⟩ c0 c1 c2 c3 c4 J' q';show wb _ X.A (assign (.Name y py) X.env (.ref A')) _ _ _;refine wpAny_assign_Name (cc (v:=.ref A') J' hNd hiN hy rfl (fun s2' I2' hsb=>?_) hf);obtain⟨a,hs2,ha⟩:=hsb;have hCa:C≠a:=by
  rcases ha with ha | ha
  ·rw [ha];exact c0
  ·exact x6 (c1 _ _ ha)
 exact⟨m,hm.sameBut hs2 hCa,fun h' hs'=>⟨_,H',I2'.touch hs' c2 c0 c1 c3 c4,q'⟩⟩
end
end
section
variable {X:Cx} {tg elt iter tg2 iter2:Expr} {ifs ifs2:List Expr} {sc scO:Scope} {NO N:List Str} {own:Nat} {fr:List Nat} {wi wi2:TI} {g g2:TG} {tt tt2:TT} {te:TE} {pos py spos:Pos} {y:Str} {i:Nat}
theorem yO (S:CompScope NO scO N sc own fr) (hc:X.calm=true) (hi:PI X tg iter wi) (hg:∀ s₀ H₀ ex pn,PG (zt X sc N s₀ H₀ ex pn) tg g) (ht:∀ s₀ H₀ ex pn,PTs (zt X sc N s₀ H₀ ex pn) ifs tt) (he:∀ s₀ H₀ ex pn,PE (zt X sc N s₀ H₀ ex pn) elt te)
  (hN:X.N=NO) (hsc:X.env.scope=scO) (hs:∀ x,AJ iter X.env x=pure x):PE X (.ListComp elt [⟨tg,iter,ifs,0⟩] sc pos) (bG wi own fr g tt fun D=>kX D te) :=
 nB S hc hi hg ht (fun D s₀ H₀ ex pn=>⟨_,gJ (D:=D) (he s₀ H₀ ex pn),fun _=>rfl⟩) hN hsc hs
theorem aR (S:CompScope NO scO N sc own fr) (hc:X.calm=true) (hNd:X.N.Nodup) (hiN:X.N[i]?=some y) (hy:Loc X.env.scope y) (hi:PI X tg iter wi) (hg:∀ s₀ H₀ ex pn,PG (zt X sc N s₀ H₀ ex pn) tg g) (ht:∀ s₀ H₀ ex pn,PTs (zt X sc N s₀ H₀ ex pn) ifs tt) (he:∀ s₀ H₀ ex pn,PE (zt X sc N s₀ H₀ ex pn) elt te)
  (hN:X.N=NO) (hsc:X.env.scope=scO) (hs:∀ x,AJ iter X.env x=pure x) (hf:X.fn y=true \/ X.env.scope.names.lookup y=some .local)
  (hsw:swapsWith (.ListComp elt [⟨tg,iter,ifs,0⟩] sc pos) (some (.Name y py)) spos.line X.env=pure true) :
  PS X (.Assign [.Name y py] (.ListComp elt [⟨tg,iter,ifs,0⟩] sc pos) spos) (vt (bG wi own fr g tt fun D=>kX D te) (qQ i)) :=
 fy S hc hNd hiN hy hi hg ht (fun D s₀ H₀ ex pn=>⟨_,gJ (D:=D) (he s₀ H₀ ex pn),fun _=>rfl⟩) hN hsc hs hf hsw
end
end L2
end
section
namespace L2
open PySem PySem.Spec PyProof.Rows
section
variable {X:Cx} {CQ:List (uR×Obj)} {σ:St} {H:Hp} {s:Shared} {h':Heap} {fp:List uR}
theorem Inv.turnedAll {t':Nat} (I:Inv X CQ σ H s) (hf:∀ b∈fp,vA X CQ H b) (k:∀ b o,b∉fp->s.heap.get? b=some o->h'.get? b=some o):Inv X CQ σ H { s with heap:=h',toks:=t' }:=by
 refine I.step (g':=s.gens) (d':=s.drawn) (ch:=fp) (fun b hb=>⟨(hf b hb).2.2.2.1,(hf b hb).2.1,(hf b hb).2.2.2.2⟩) (fun b o _ _ hc e _=>k b o hc e) (fun b o _ _ hc e _=>⟨o.slots,k b o hc e⟩) (fun _ _ _ _ n=>n)
  (fun b o hc e=>⟨o,k b o hc e⟩) (fun _ _ e=>e) (fun _ _ _ e=>e) (fun _ _ e=>e) (fun m hm=>?_) (fun b u e=>?_) I.bare
 ·obtain⟨o,es,ep,ho,r⟩:=hm;exact⟨o,es,ep,k _ o (fun z=>(hf _ z).2.1 rfl) ho,r⟩
 ·refine (I.hok b u e).stay (fun c v hc q=>k c v (fun z=>?_) q) (fun _ q=>q) fun _ _ q=>q;have hn:=(hf c z).1;rcases hc with hc | hc
  ·subst hc;rw [e] at hn;cases hn
  ·rw [hc] at hn;cases hn
theorem Inv.turnedNew {t':Nat} {t:uR} {o:HO} (I:Inv X CQ σ H s) (hf:∀ b∈fp,vA X CQ H b) (k:∀ b o,b∉fp->s.heap.get? b=some o->h'.get? b=some o) (ht:s.heap.objs.size<=t) (new:ObjOk X.prog X.w (upd H t o) h' t o) :
  Inv X CQ σ (upd H t o) { s with heap:=h',toks:=t' }:=by
 have hn:H t=none:=I.hok.fresh ht;have ne:∀ b ob,s.heap.get? b=some ob->b≠t:=fun b ob e=>wC (wm (u5 e) ht);refine I.step (g':=s.gens) (d':=s.drawn) (ch:=fp) (fun b hb=>⟨(hf b hb).2.2.2.1,(hf b hb).2.1,(hf b hb).2.2.2.2⟩) (fun b o _ _ hc e _=>k b o hc e) (fun b o _ _ hc e _=>⟨o.slots,k b o hc e⟩) (fun b ob _ e n=>by rw [zl (ne b ob e)];exact n)
  (fun b o hc e=>⟨o,k b o hc e⟩) (fun b xs e=>by rw [zl (zB e hn)];exact e) (fun b ob u e=>by rw [zl (zB e hn)];exact e) (fun b ps e=>by rw [zl (zB e hn)];exact e) (fun m hm=>?_) (fun b u e=>?_) I.bare
 ·obtain⟨o,es,ep,ho,r⟩:=hm;exact⟨o,es,ep,k _ o (fun z=>(hf _ z).2.1 rfl) ho,r⟩
 ·by_cases hb:b=t
  ·subst hb;rw [zr] at e;cases e;exact new
  ·rw [zl hb] at e;refine (I.hok b u e).stay (fun c v hc q=>k c v (fun z=>?_) q) (fun c q=>by rw [zl (zB q hn)];exact q) fun c xs q=>by rw [zl (zB q hn)];exact q
   have hn':=(hf c z).1;rcases hc with hc | hc
   ·subst hc;rw [e] at hn';cases hn'
   ·rw [hc] at hn';cases hn'
end
noncomputable def Ite (K:uQ) (a:uR):It :=
 ⟨fun i H=>∃ xs x,SqL K H a xs/\xs[i]?=some x,fun i H x H'=>∃ t y,x=.ref t/\H t=none/\H'=upd H t (.tup [.int i,y])/\∀ xs,SqL K H a xs->xs[i]?=some y,fun i H=>∃ xs,SqL K H a xs/\xs.length<=i⟩
theorem iG {P:Program} {w:World} {K:uQ} {es:List Expr} {k:Nat} {pos:Pos} (a e it:uR) (hne:e≠it):Turn P w K (.Tuple es k pos) (Ite K a) [e,it] e (fun i h=>(∃ old,IsEnum h e it i old)/\h.IsListIter it a i) where
 mem:=by simp
 obj:=fun i h st b hb=>by
  obtain⟨⟨old,se⟩,o,eo,c,d⟩:=st;rcases u6.mp hb with z | z
  ·subst z;exact⟨_,se,fun v z=>by
    have z':Data.fields _=Data.cell v:=z;cases z'⟩
  ·have z:b=it:=by simpa using z
   subst z;exact⟨o,eo,fun v z=>by rw [d] at z;cases z⟩
 keep:=fun i h h' st kk=>⟨let⟨old,se⟩:=st.1;⟨old,kk e (by simp) _ se⟩,st.2.at fun o eo=>kk it (by simp) o eo⟩
 item:=by
  intro X hP hw hK hc i CQ s σ H E I hf st hg;subst hP hw hK;obtain⟨xs,x,hq,hx⟩:=hg;obtain⟨its,rv,p,hz⟩:=I.list hq;obtain⟨u,hu,ru⟩:=rv.get hx;obtain⟨⟨old,se⟩,si⟩:=st;refine wpAny_pyNext_enum_item se si p.isList (x:=u) (by simpa using hu) hne fun h' so si' tp sz kp=>?_;refine⟨_,rfl,?_⟩;refine wpAny_letOwnedTupleGo_enum (s:={ s with heap:=h',toks:=s.toks+1 }) so fun h2 se2 sb=>?_;have hlt:e<s.heap.objs.size:=u5 se;obtain⟨oi,eoi,_,_⟩:=id si;have hlt2:it<s.heap.objs.size:=u5 eoi;have kk:∀ b o,b∉[e,it]->s.heap.get? b=some o->h2.get? b=some o:=fun b o hb eb=>by
   have h1:b≠e:=fun z=>hb (by simp [z]);have h2':b≠it:=fun z=>hb (by simp [z]);exact (sb.2 b h1).trans (kp b o h1 h2' eb)
  have I2:Inv X CQ σ (upd H s.heap.objs.size (.tup [.int i,x])) { s with heap:=h2,toks:=s.toks+1 }:=I.turnedNew hf kk (wc _)
   ⟨by show 2<=wt;decide,[.int i s.toks,u],.cons ⟨_,rfl⟩ (.cons ru .nil),⟨_,(sb.2 _ (Bh hlt)).trans tp,rfl,_,rfl⟩⟩
  refine⟨.ref s.heap.objs.size,_,I2,rfl,⟨_,x,rfl,I.fresh,rfl,fun ys hy=>by rw [I.list_inj hy hq];exact hx⟩,⟨⟨_,se2⟩,?_⟩,fun b hb=>?_⟩
  ·exact si'.at fun o eo=>(sb.2 it (x6 hne)).trans eo
  ·rw [zl]
   ·exact (hf b hb).1
   ·rcases u6.mp hb with z | z
    ·subst z;exact wC hlt
    ·have z:b=it:=by simpa using z
     subst z;exact wC hlt2
 done:=by
  intro X hP hw hK hc i CQ s σ H E I hf st hg;subst hP hw hK;obtain⟨xs,hq,hx⟩:=hg;obtain⟨its,rv,p,hz⟩:=I.list hq;obtain⟨⟨old,se⟩,si⟩:=st;have hl:=rv.length;exact wpAny_pyNext_enum_end (I.ok.hd hc) se si p.isList (by simp;omega) fun h' eb=>⟨rfl,I.turnedAll (t':=s.toks) hf fun b o hb e'=>eb b o (fun z=>hb (by simp [z])) e'⟩
 self:=fun _ _ _ _ _ st h=>let⟨_,se⟩:=st.1;wpAny_pyIter_enum se h
section
variable {X:Cx} {es:List Expr} {k:Nat} {tpos:Pos}
def gL (K:uQ) (ta:TA):TI:=fun σ H R=>ta σ H fun vs H1=>∃ a,vs=[.ref a]/\(∃ xs,SqL K H1 a xs)/\R (Ite K a) H1
theorem nC {a:Expr} {ta:TA} {p pos:Pos} (hg:Gl X "enumerate") (hm:X.mg "enumerate"=none) (ha:PA X [a] ta) (hs:u4 [a] X.env=[(false,eval a X.env)]:=by rfl):PI X (.Tuple es k tpos) (.Call (.Name "enumerate" p) [a] [] pos) (gL X.K ta):=by
 intro CQ s σ H R I h;refine Call_ (au I hg hm boot_enumerate (xT (thn (ha pos CQ s σ H _ I h) fun us s1 ⟨vs,H1,I1,r1,q1⟩=>?_) hs rfl));obtain⟨l,e,⟨xs,hq⟩,q⟩:=q1;subst e;cases r1 with
 | cons r rr =>
  cases rr;cases r;obtain⟨its,rv,p,hz⟩:=I1.list hq;refine call_enumerate_list p.isList fun h' he hi hsz kp=>?_;refine wpAny_pyIter_enum he ?_;have hne:s1.heap.objs.size+1≠s1.heap.objs.size:=Nat.succ_ne_self _;refine⟨s1.heap.objs.size+1,[s1.heap.objs.size+1,s1.heap.objs.size],_,_,H1,rfl,I1.kept (t':=s1.toks) kp,iG l _ _ hne,⟨⟨_,he⟩,hi⟩,fun b hb=>?_,q⟩;rcases u6.mp hb with z | z
  ·subst z;exact I1.fpOk (Br _) (I1.hok.fresh (Br _))
  ·have z:b=s1.heap.objs.size:=by simpa using z
   subst z;exact I1.fpOk (wc _) (I1.hok.fresh (wc _))
end
theorem kY {K:uQ} {a:uR} {xs:List V} {g:TG} {tb:TS} {D:Ends} {σ:St} {H:Hp} (Pv:Nat->St->Hp->Prop) (h0:Pv 0 σ H) (hl:∀ i σ H,i<=xs.length->Pv i σ H->SqL K H a xs)
  (hs:∀ i x σ H t,xs[i]?=some x->Pv i σ H->H t=none->g (.ref t) σ (upd H t (.tup [.int i,x])) fun σ2 H2=>tb { D with nx:=Pv (i+1),ct:=Pv (i+1),bk:=D.nx } σ2 H2) (hd:∀ σ H,Pv xs.length σ H->D.nx σ H) :
  ∃ W:Nat->Nat->St->Hp->Prop,(∃ m,W 0 m σ H)/\∀ i m σ H,W i m σ H ->
   ((Ite K a).stop i H/\D.nx σ H) \/ ((Ite K a).go i H/\∃ N:St->Hp->Prop,(∀ σ' H',N σ' H'->∃ m',m'<m/\W (i+1) m' σ' H')/\∀ x H',(Ite K a).yld i H x H'->g x σ H' fun σ2 H2=>tb { D with nx:=N,ct:=N,bk:=D.nx } σ2 H2):=by
 refine⟨fun i m σ H=>Pv i σ H/\i<=xs.length/\m+i=xs.length,⟨xs.length,h0,xA _,rfl⟩,fun i m σ H ⟨p,hi,hm⟩=>?_⟩;have q:=hl i σ H hi p;by_cases hlt:i<xs.length
 ·refine .inr ⟨⟨xs,xs[i],q,uZ hlt⟩,Pv (i+1),fun σ' H' n=>⟨m - 1,by omega,n,hlt,by omega⟩,fun x H' hy=>?_⟩;obtain⟨t,y,rfl,ht,rfl,hy⟩:=hy;exact hs i y σ H t (hy xs q) p ht
 ·have e:i=xs.length:=by omega
  subst e;exact .inl ⟨⟨xs,q,wc _⟩,hd σ H p⟩
mutual
def Rep (K:uQ) (H:Hp):PyData->V->Prop
 | .none,v=>v=.non
 | .bool b,v=>v=.bl b
 | .int i,v=>v=.int i
 | .str x,v=>v=.str x
 | .list ds,v=>∃ a xs,v=.ref a/\SqL K H a xs/\Reps K H ds xs
 | .tuple ds,v=>∃ a xs,v=.ref a/\SqT K H a xs/\Reps K H ds xs
 | .dict _,_=>False
def Reps (K:uQ) (H:Hp):List PyData->List V->Prop
 | [],xs=>xs=[]
 | d :: ds,xs=>∃ x r,xs=x :: r/\Rep K H d x/\Reps K H ds r
end
theorem Same.seqT {K:uQ} {H H':Hp} {a:uR} {xs:List V} (e:Same H H') (h:SqT K H a xs):SqT K H' a xs:=by
 rcases h with (h | ⟨o,h⟩) | h
 ·exact .inl (.inl (e _ _ h))
 ·exact .inl (.inr ⟨o,e _ _ h⟩)
 ·exact .inr h
mutual
theorem Rep.mono {K:uQ} {H H':Hp} (e:Same H H'):∀ (d:PyData) (v:V),Rep K H d v->Rep K H' d v
 | .none,_,h=>by rw [Rep] at h ⊢;exact h
 | .bool _,_,h=>by rw [Rep] at h ⊢;exact h
 | .int _,_,h=>by rw [Rep] at h ⊢;exact h
 | .str _,_,h=>by rw [Rep] at h ⊢;exact h
 | .list ds,v,h=>by
  rw [Rep] at h ⊢;obtain⟨a,xs,h1,h2,h3⟩:=h;exact⟨a,xs,h1,e.seq h2,Reps.mono e ds xs h3⟩
 | .tuple ds,v,h=>by
  rw [Rep] at h ⊢;obtain⟨a,xs,h1,h2,h3⟩:=h;exact⟨a,xs,h1,e.seqT h2,Reps.mono e ds xs h3⟩
 | .dict _,_,h=>by rw [Rep] at h;exact h.elim
theorem Reps.mono {K:uQ} {H H':Hp} (e:Same H H'):∀ (ds:List PyData) (xs:List V),Reps K H ds xs->Reps K H' ds xs
 | [],_,h=>by rw [Reps] at h ⊢;exact h
 | d :: ds,xs,h=>by
  rw [Reps] at h ⊢;obtain⟨x,r,h1,h2,h3⟩:=h;exact⟨x,r,h1,Rep.mono e d x h2,Reps.mono e ds r h3⟩
end
theorem zp {K:uQ} {H:Hp} {i:Int} {v:V}:Rep K H (.int i) v↔v=.int i:=by rw [Rep]
theorem zF {K:uQ} {H:Hp} {b:Bool} {v:V}:Rep K H (.bool b) v↔v=.bl b:=by rw [Rep]
theorem jm {K:uQ} {H:Hp} {v:V}:Rep K H .none v↔v=.non:=by rw [Rep]
theorem zD {K:uQ} {H:Hp} {x:Str} {v:V}:Rep K H (.str x) v↔v=.str x:=by rw [Rep]
theorem zH {K:uQ} {H:Hp} {ds:List PyData} {v:V}:Rep K H (.list ds) v↔∃ a xs,v=.ref a/\SqL K H a xs/\Reps K H ds xs:=by rw [Rep]
theorem yy {K:uQ} {H:Hp} {ds:List PyData} {v:V}:Rep K H (.tuple ds) v↔∃ a xs,v=.ref a/\SqT K H a xs/\Reps K H ds xs:=by rw [Rep]
theorem zP {K:uQ} {H:Hp} {xs:List V}:Reps K H [] xs↔xs=[]:=by rw [Reps]
theorem zy {K:uQ} {H:Hp} {d:PyData} {ds:List PyData} {xs:List V}:Reps K H (d :: ds) xs↔∃ x r,xs=x :: r/\Rep K H d x/\Reps K H ds r:=by rw [Reps]
theorem Reps.nil' {K:uQ} {H:Hp}:Reps K H [] []:=zP.mpr rfl
theorem Reps.cons' {K:uQ} {H:Hp} {d:PyData} {ds:List PyData} {x:V} {r:List V} (h:Rep K H d x) (t:Reps K H ds r):Reps K H (d :: ds) (x :: r):=zy.mpr ⟨x,r,rfl,h,t⟩
theorem Reps.length {K:uQ} {H:Hp}:∀ {ds:List PyData} {xs:List V},Reps K H ds xs->xs.length=ds.length
 | [],xs,h=>by rw [zP.mp h];rfl
 | d :: ds,xs,h=>by
  obtain⟨x,r,rfl,_,h3⟩:=zy.mp h;rw [wy,wy,Reps.length h3]
theorem Reps.get {K:uQ} {H:Hp}:∀ {ds:List PyData} {xs:List V} {i:Nat} {d:PyData},Reps K H ds xs->ds[i]?=some d->∃ x,xs[i]?=some x/\Rep K H d x
 | [],_,_,_,_,e=>by simp at e
 | d :: ds,xs,0,d',h,e=>by
  obtain⟨x,r,rfl,h2,_⟩:=zy.mp h;simp at e;subst e;exact⟨x,rfl,h2⟩
 | d :: ds,xs,i+1,d',h,e=>by
  obtain⟨x,r,rfl,_,h3⟩:=zy.mp h;obtain⟨y,h1,h2⟩:=Reps.get (i:=i) h3 (by simpa using e);exact⟨y,by simpa using h1,h2⟩
theorem Reps.snoc {K:uQ} {H:Hp} {d:PyData} {x:V} (h:Rep K H d x):∀ {ds:List PyData} {xs:List V},Reps K H ds xs->Reps K H (ds++[d]) (xs++[x])
 | [],xs,t=>by rw [zP.mp t];exact .cons' h .nil'
 | d' :: ds,xs,t=>by
  obtain⟨y,r,rfl,h2,h3⟩:=zy.mp t;exact .cons' h2 (Reps.snoc h h3)
theorem Reps.append {K:uQ} {H:Hp}:∀ {ds es:List PyData} {xs ys:List V},Reps K H ds xs->Reps K H es ys->Reps K H (ds++es) (xs++ys)
 | [],es,xs,ys,t,u=>by rw [zP.mp t];exact u
 | d' :: ds,es,xs,ys,t,u=>by
  obtain⟨y,r,rfl,h2,h3⟩:=zy.mp t;exact .cons' h2 (Reps.append h3 u)
theorem Reps.ints {K:uQ} {H:Hp}:∀ {ns:List Int} {xs:List V},Reps K H (ns.map .int) xs->xs=ns.map V.int
 | [],xs,h=>zP.mp h
 | n :: ns,xs,h=>by
  obtain⟨x,r,rfl,h2,h3⟩:=zy.mp h;rw [zp.mp h2,Reps.ints h3];rfl
theorem Reps.ints' {K:uQ} {H:Hp}:∀ (ns:List Int),Reps K H (ns.map .int) (ns.map V.int)
 | []=>.nil'
 | n :: ns=>.cons' (zp.mpr rfl) (Reps.ints' ns)
section
variable {X:Cx} {CQ:List (uR×Obj)} {σ:St} {H:Hp} {s:Shared}
mutual
theorem jn (I:Inv X CQ σ H s):∀ (d:PyData) (v:V) (u:Value),Rep X.K H d v->RelV v u->∃ as,Reads s.heap u d as
 | .none,v,u,h,r=>by rw [jm.mp h] at r;cases r;exact⟨_,.none⟩
 | .bool b,v,u,h,r=>by rw [zF.mp h] at r;cases r;exact⟨_,.bool b⟩
 | .int i,v,u,h,r=>by rw [zp.mp h] at r;obtain⟨t,rfl⟩:=r;exact⟨_,.int i t⟩
 | .str x,v,u,h,r=>by rw [zD.mp h] at r;obtain⟨t,rfl⟩:=r;exact⟨_,.str x t⟩
 | .list ds,v,u,h,r=>by
  obtain⟨a,xs,rfl,h2,h3⟩:=zH.mp h;cases r;obtain⟨its,rv,p,_⟩:=I.list h2;obtain⟨o,ho,hc,n,hd⟩:=p.isList;obtain⟨as,ra⟩:=qR I ds xs its h3 rv;exact⟨_,.list ho hc hd (by simpa using ra)⟩
 | .tuple ds,v,u,h,r=>by
  obtain⟨a,xs,rfl,h2,h3⟩:=yy.mp h;cases r;obtain⟨its,rv,p,_⟩:=I.tuple h2;obtain⟨o,ho,hc,n,hd⟩:=p;obtain⟨as,ra⟩:=qR I ds xs its h3 rv;exact⟨_,.tuple ho hc hd (by simpa using ra)⟩
 | .dict _,_,_,h,_=>by rw [Rep] at h;exact h.elim
theorem qR (I:Inv X CQ σ H s):∀ (ds:List PyData) (xs:List V) (us:List Value),Reps X.K H ds xs->Vals xs us->∃ as,ReadsAll s.heap us ds as
 | [],xs,us,h,r=>by rw [zP.mp h] at r;cases r;exact⟨_,.nil⟩
 | d :: ds,xs,us,h,r=>by
  obtain⟨x,q,rfl,h2,h3⟩:=zy.mp h;cases r with
  | cons r1 r2 =>
   obtain⟨as,ra⟩:=jn I d x _ h2 r1;obtain⟨bs,rb⟩:=qR I ds q _ h3 r2;exact⟨_,.cons ra rb⟩
end
def kZ (K:uQ) (neg:Bool):R2:=fun x y H Q=>∃ d d',Rep K H d x/\Rep K H d' y/\d.canLay0=true/\d'.canLay0=true/\min d.depth d'.depth<=60/\Q (.bl (if neg then !xu d d' else xu d d')) H
theorem rN (hu:X.A.units+64<Cr):OpR X (xm .Eq) (kZ X.K false):=by
 intro CQ s σ H x y v u Q I rx ry h;obtain⟨d,d',h1,h2,c1,c2,hm,q⟩:=h;obtain⟨as,ra⟩:=jn I d x v h1 rx;obtain⟨bs,rb⟩:=jn I d' y u h2 ry;exact SeqAt.compareEq_reads ra rb c1 c2 (by omega) ⟨.bl (xu d d'),H,I,rfl,q⟩
theorem rO (hu:X.A.units+64<Cr):OpR X (xm .NotEq) (kZ X.K true):=by
 intro CQ s σ H x y v u Q I rx ry h;obtain⟨d,d',h1,h2,c1,c2,hm,q⟩:=h;obtain⟨as,ra⟩:=jn I d x v h1 rx;obtain⟨bs,rb⟩:=jn I d' y u h2 ry;exact SeqAt.compareNe_reads ra rb c1 c2 (by omega) ⟨.bl (!xu d d'),H,I,rfl,q⟩
theorem iH (hc:X.calm=true):yA X (.builtin "min") (fun xs H Q=>∃ a ns,xs=[.ref a]/\SqL X.K H a (ns.map V.int)/\ns≠[]/\∀ M,M∈ns->(∀ b∈ns,M<=b)->Q (.int M) H):=by
 intro CQ s σ H xs us Q I r h;obtain⟨a,ns,rfl,hq,hne,q⟩:=h;obtain⟨u,rfl,r1⟩:=vals1 r;cases r1;obtain⟨its,rv,p,_⟩:=I.list hq;obtain⟨m,F⟩:=I.fr;have hi:=intsAre_of rv;obtain⟨ys,e⟩:=hi.allInts.items;have hns:ns=ys.toList.map (·.1):=by rw [<-hi.numsOf,<- nums_intItems,<- e]
 have hsz:0<ys.size:=by
  have h3:0<ns.length:=Bx.mpr hne;rw [hns,uV,xi] at h3;exact h3
 have hl:=p.isList;rw [e] at hl;refine min_intList (I.ok.hd hc) hl hsz fun v h' tk hv hk=>?_;obtain⟨t,rfl⟩:=intItems_at hv;obtain⟨_,h2⟩:=argBest_lt (numAt ys) (ys.size - 1);refine⟨.int _,H,I.kept (t':=tk) hk,⟨t,rfl⟩,q _ ?_ fun b hb=>?_⟩
 ·rw [hns,numAt_eq];exact getD_mem (by rw [uV,xi];omega)
 ·rw [hns] at hb;obtain⟨j,hj,rfl⟩:=mem_getD hb;rw [uV,xi] at hj;rw [<-numAt_eq];exact h2 j (by omega)
theorem iI (hc:X.calm=true):yA X (.builtin "max") (fun xs H Q=>∃ a ns,xs=[.ref a]/\SqL X.K H a (ns.map V.int)/\ns≠[]/\∀ M,M∈ns->(∀ b∈ns,b<=M)->Q (.int M) H):=by
 intro CQ s σ H xs us Q I r h;obtain⟨a,ns,rfl,hq,hne,q⟩:=h;obtain⟨u,rfl,r1⟩:=vals1 r;cases r1;obtain⟨its,rv,p,_⟩:=I.list hq;have hi:=intsAre_of rv;obtain⟨ys,e⟩:=hi.allInts.items;have hns:ns=ys.toList.map (·.1):=by rw [<-hi.numsOf,<- nums_intItems,<- e]
 have hsz:0<ys.size:=by
  have h3:0<ns.length:=Bx.mpr hne;rw [hns,uV,xi] at h3;exact h3
 have hl:=p.isList;rw [e] at hl;refine max_intList (I.ok.hd hc) hl hsz fun v h' tk hv hk=>?_;obtain⟨t,rfl⟩:=intItems_at hv;obtain⟨_,h2⟩:=argBest_gt (numAt ys) (ys.size - 1);refine⟨.int _,H,I.kept (t':=tk) hk,⟨t,rfl⟩,q _ ?_ fun b hb=>?_⟩
 ·rw [hns,numAt_eq];exact getD_mem (by rw [uV,xi];omega)
 ·rw [hns] at hb;obtain⟨j,hj,rfl⟩:=mem_getD hb;rw [uV,xi] at hj;rw [<-numAt_eq];exact h2 j (by omega)
end
inductive DV where
 | dat (d:PyData)
 | feed
 | own (k:Nat)
 | exc (C:Value)
 | mon (φ:Hp->V->Prop)
abbrev zq:=List (Option DV)
structure Fx where
 f:Option uR
 M:List uR
noncomputable def hide (H:Hp) (f:Fx):Hp:=fun b=>if f.f=some b \/ b∈f.M then none else H b
structure FOk (f:Fx) (H:Hp):Prop where
 fd:∀ p,f.f=some p->∃ a b:Int,H p=some (.lst [.int a,.int b])/\0<=a/\0<=b/\b<2147483647
 mm:∀ b∈f.M,∃ o,H b=some o
 nm:∀ p,f.f=some p->p∉f.M
def RepV (K:uQ) (f:Fx) (H:Hp):DV->V->Prop
 | .dat d,v=>Rep K (hide H f) d v
 | .feed,v=>∃ p,f.f=some p/\v=.ref p
 | .own k,v=>∃ p,f.M.reverse[k]?=some p/\v=.ref p
 | .exc C,v=>∃ a,v=.ref a/\hide H f a=some (.ext fun h=>∃ o,h.get? a=some o/\o.cls=C)
 | .mon φ,v=>∀ H',Same (hide H f) H'->φ H' v
structure Goes (f:Fx) (H H':Hp):Prop where
 sm:Same (hide H f) (hide H' f)
 ok:FOk f H'
 kp:∀ b∈f.M,H' b=H b
structure EnvOk (K:uQ) (f:Fx) (ρ:zq) (σ:St) (H:Hp):Prop where
 len:ρ.length=σ.length
 get:∀ (i:Nat) x,ρ[i]?=some (some x)->∃ v,σ[i]?=some (some v)/\RepV K f H x v
 fd:FOk f H
theorem yX (H:Hp):hide H ⟨none,[]⟩=H:=by funext b;unfold hide;rw [CS (by rintro (h | h) <;> cases h)]
theorem zo (H:Hp) (f:Fx):Same (hide H f) H:=fun b o h=>by
 unfold hide at h;split at h
 ·cases h
 ·exact h
theorem zC {H:Hp} {f:Fx} {b:uR} {o:HO} (h:hide H f b=some o):¬ (f.f=some b \/ b∈f.M)/\H b=some o:=by
 unfold hide at h;split at h
 ·cases h
 ·rename_i n;exact⟨n,h⟩
theorem zA {H:Hp} {f:Fx} {b:uR} {o:HO} (n:¬ (f.f=some b \/ b∈f.M)) (h:H b=some o):hide H f b=some o:=by unfold hide;rw [CS n];exact h
theorem Goes.refl {f:Fx} {H:Hp} (h:FOk f H):Goes f H H:=⟨Same.refl _,h,fun _ _=>rfl⟩
theorem Goes.trans {f:Fx} {H H1 H2:Hp} (a:Goes f H H1) (b:Goes f H1 H2):Goes f H H2:=⟨a.1.trans b.1,b.2,fun x hx=>(b.kp x hx).trans (a.kp x hx)⟩
theorem Goes.of_same {f:Fx} {H H':Hp} (s:Same H H') (h:FOk f H):Goes f H H' :=
 ⟨fun b o e=>zA (zC e).1 (s b o (zC e).2),⟨fun p e=>let⟨a,b,h1,h2⟩:=h.fd p e;⟨a,b,s _ _ h1,h2⟩,fun b hb=>let⟨o,e⟩:=h.mm b hb;⟨o,s _ _ e⟩,h.nm⟩,fun b hb=>let⟨o,e⟩:=h.mm b hb;(s _ _ e).trans e.symm⟩
theorem yd {H:Hp} {p:uR} (h:H p=none) (o:HO):Same H (upd H p o):=fun b u q=>by rw [zl (zB q h)];exact q
theorem RepV.mono {K:uQ} {f:Fx} {H H':Hp} (g:Goes f H H'):∀ {x:DV} {v:V},RepV K f H x v->RepV K f H' x v
 | .dat d,v,h=>Rep.mono g.1 d v h
 | .feed,v,h=>h
 | .own _,v,h=>h
 | .exc _,v,h=>let⟨a,e,q⟩:=h;⟨a,e,g.1 _ _ q⟩
 | .mon _,v,h=>fun H' s=>h H' (g.1.trans s)
theorem EnvOk.mono {K:uQ} {f:Fx} {ρ:zq} {σ:St} {H H':Hp} (e:EnvOk K f ρ σ H) (g:Goes f H H'):EnvOk K f ρ σ H' :=
 ⟨e.len,fun i x h=>let⟨v,h1,h2⟩:=e.get i x h;⟨v,h1,h2.mono g⟩,g.2⟩
theorem EnvOk.set {K:uQ} {f:Fx} {ρ:zq} {σ:St} {H:Hp} {x:DV} {v:V} (e:EnvOk K f ρ σ H) (i:Nat) (r:RepV K f H x v):EnvOk K f (ρ.set i (some x)) (σ.set i (some v)) H:=by
 refine⟨by rw [xM,xM];exact e.len,fun j y h=>?_,e.fd⟩;by_cases hj:i=j
 ·subst hj;by_cases hi:i<ρ.length
  ·rw [xw hi] at h;cases h;exact⟨v,by rw [xw (by rw [<-e.len];exact hi)],r⟩
  ·rw [AE (by rw [xM];omega)] at h;cases h
 ·rw [xG hj] at h ⊢;exact e.get j y h
theorem fresh_ne {f:Fx} {H:Hp} {p:uR} (h:FOk f H) (n:H p=none):¬ (f.f=some p \/ p∈f.M):=fun e=>by
 rcases e with e | e
 ·obtain⟨a,b,h1,_⟩:=h.fd p e;rw [n] at h1;cases h1
 ·obtain⟨o,h1⟩:=h.mm p e;rw [n] at h1;cases h1
inductive RepVs (K:uQ) (f:Fx) (H:Hp):List DV->List V->Prop where
 | nil:RepVs K f H [] []
 | cons {x v xs vs}:RepV K f H x v->RepVs K f H xs vs->RepVs K f H (x :: xs) (v :: vs)
theorem RepVs.mono {K:uQ} {f:Fx} {H H':Hp} (g:Goes f H H'):∀ {xs:List DV} {vs:List V},RepVs K f H xs vs->RepVs K f H' xs vs
 | _,_,.nil=>.nil
 | _,_,.cons r t=>.cons (r.mono g) (t.mono g)
theorem RepVs.length {K:uQ} {f:Fx} {H:Hp}:∀ {xs:List DV} {vs:List V},RepVs K f H xs vs->vs.length=xs.length
 | _,_,.nil=>rfl
 | _,_,.cons _ t=>by rw [wy,wy,t.length]
section
variable (K:uQ) (f:Fx)
def PEd (te:TE) (ρ:zq) (P:PyData->Prop):Prop:=∀ (σ:St) (H:Hp) (Q:VK),EnvOk K f ρ σ H->(∀ d v H',Goes f H H'->Rep K (hide H' f) d v->P d->Q v H')->te σ H Q
def PTd (tt:TT) (ρ:zq) (P:Bool->Prop):Prop:=∀ (σ:St) (H:Hp) (Q:Bool->Hp->Prop),EnvOk K f ρ σ H->(∀ b H',Goes f H H'->P b->Q b H')->tt σ H Q
def PAd (ta:TA) (ρ:zq) (P:List DV->Prop):Prop:=∀ (σ:St) (H:Hp) (Q:List V->Hp->Prop),EnvOk K f ρ σ H->(∀ xs vs H',Goes f H H'->RepVs K f H' xs vs->P xs->Q vs H')->ta σ H Q
structure DEnds where
 nx:zq->Prop
 rt:PyData->Prop
 bk:zq->Prop:=fun _=>False
 ct:zq->Prop:=fun _=>False
def PSd (ts:TS) (ρ:zq) (D:DEnds):Prop:=∀ (σ:St) (H:Hp) (E:Ends),EnvOk K f ρ σ H->(∀ ρ' σ' H',Goes f H H'->EnvOk K f ρ' σ' H'->D.nx ρ'->E.nx σ' H')->(∀ d v H',Goes f H H'->Rep K (hide H' f) d v->D.rt d->E.rt v H') ->
 (∀ ρ' σ' H',Goes f H H'->EnvOk K f ρ' σ' H'->D.bk ρ'->E.bk σ' H')->(∀ ρ' σ' H',Goes f H H'->EnvOk K f ρ' σ' H'->D.ct ρ'->E.ct σ' H')->ts E σ H
def spD {γ:Type} (n:Nat) (pre:γ->List DV->Prop) (post:γ->PyData->Prop):Sp:=fun vs H Q _=>∃ f xs c,RepVs K f H xs vs/\xs.length=n/\FOk f H/\pre c xs/\∀ r v H',Goes f H H'->Rep K (hide H' f) r v->post c r->Q v H'
end
section
variable {K:uQ} {f:Fx} {ρ:zq} {P:PyData->Prop} {te ta tb tc:TE}
theorem zf {i:Nat} {d:PyData} (h:ρ[i]?=some (some (.dat d))) (p:P d):PEd K f (yN i) ρ P:=fun σ H Q e q=>by
 obtain⟨v,h1,h2⟩:=e.get i _ h;exact⟨v,h1,q d v H (.refl e.fd) h2 p⟩
theorem z8 {i:Int} (p:P (.int i)):PEd K f (tC (.int i)) ρ P:=fun σ H Q e q=>q (.int i) _ H (.refl e.fd) (zp.mpr rfl) p
theorem nE {i:Bool} (p:P (.bool i)):PEd K f (tC (.bl i)) ρ P:=fun σ H Q e q=>q (.bool i) _ H (.refl e.fd) (zF.mpr rfl) p
theorem zZ {i:Str} (p:P (.str i)):PEd K f (tC (.str i)) ρ P:=fun σ H Q e q=>q (.str i) _ H (.refl e.fd) (zD.mpr rfl) p
theorem dR (p:P .none):PEd K f (tC .non) ρ P:=fun σ H Q e q=>q .none _ H (.refl e.fd) (jm.mpr rfl) p
theorem PEd.imp {P':PyData->Prop} (h:PEd K f te ρ P) (i:∀ d,P d->P' d):PEd K f te ρ P':=fun σ H Q e q=>h σ H Q e fun d v H' g r p=>q d v H' g r (i d p)
theorem bH {r:R2} (h:PEd K f ta ρ fun x=>PEd K f tb ρ fun y=>∀ (v w:V) (H:Hp) (Q:VK),FOk f H->Rep K (hide H f) x v->Rep K (hide H f) y w->(∀ d u H',Goes f H H'->Rep K (hide H' f) d u->P d->Q u H')->r v w H Q):PEd K f (tOp r ta tb) ρ P:=fun σ H Q e q =>
 h σ H _ e fun x v H1 g1 r1 p1=>p1 σ H1 _ (e.mono g1) fun y w H2 g2 r2 p2=>p2 v w H2 Q g2.2 (Rep.mono g2.1 x v r1) r2 fun d u H' g' r' p'=>q d u H' (g1.trans (g2.trans g')) r' p'
theorem uH {r:V->Hp->VK->Prop} (h:PEd K f ta ρ fun x=>∀ (v:V) (H:Hp) (Q:VK),FOk f H->Rep K (hide H f) x v->(∀ d u H',Goes f H H'->Rep K (hide H' f) d u->P d->Q u H')->r v H Q):PEd K f (tUn r ta) ρ P:=fun σ H Q e q =>
 h σ H _ e fun x v H1 g1 r1 p1=>p1 v H1 Q g1.2 r1 fun d u H' g' r' p'=>q d u H' (g1.trans g') r' p'
theorem qI {g:Int->Int->Int} (h:PEd K f ta ρ fun x=>∃ i,x=.int i/\PEd K f tb ρ fun y=>∃ j,y=.int j/\P (.int (g i j))):PEd K f (tOp (rI0 fun i j=>.int (g i j)) ta tb) ρ P :=
 bH (h.imp fun x ⟨i,ex,h2⟩=>h2.imp fun y ⟨j,ey,p⟩ v w H Q fo rx ry q=>by
  subst ex ey;exact⟨i,j,zp.mp rx,zp.mp ry,q _ _ H (.refl fo) (zp.mpr rfl) p⟩)
theorem fA {C:Int->Int->Prop} {g:Int->Int->Int} (h:PEd K f ta ρ fun x=>∃ i,x=.int i/\PEd K f tb ρ fun y=>∃ j,y=.int j/\C i j/\P (.int (g i j))):PEd K f (tOp (rI C fun i j=>.int (g i j)) ta tb) ρ P :=
 bH (h.imp fun x ⟨i,ex,h2⟩=>h2.imp fun y ⟨j,ey,c,p⟩ v w H Q fo rx ry q=>by
  subst ex ey;exact⟨i,j,zp.mp rx,zp.mp ry,c,q _ _ H (.refl fo) (zp.mpr rfl) p⟩)
theorem cz {g:Int->Int->Bool} (h:PEd K f ta ρ fun x=>∃ i,x=.int i/\PEd K f tb ρ fun y=>∃ j,y=.int j/\P (.bool (g i j))):PEd K f (tOp (rI0 fun i j=>.bl (g i j)) ta tb) ρ P :=
 bH (h.imp fun x ⟨i,ex,h2⟩=>h2.imp fun y ⟨j,ey,p⟩ v w H Q fo rx ry q=>by
  subst ex ey;exact⟨i,j,zp.mp rx,zp.mp ry,q _ _ H (.refl fo) (zF.mpr rfl) p⟩)
theorem jW {neg:Bool} (h:PEd K f ta ρ fun x=>PEd K f tb ρ fun y=>x.canLay0=true/\y.canLay0=true/\min x.depth y.depth<=60/\P (.bool (if neg then !xu x y else xu x y))):PEd K f (tOp (kZ K neg) ta tb) ρ P :=
 bH (h.imp fun x h2=>h2.imp fun y ⟨c1,c2,c3,p⟩ v w H Q fo rx ry q =>
  ⟨x,y,Rep.mono (zo _ _) x v rx,Rep.mono (zo _ _) y w ry,c1,c2,c3,q _ _ H (.refl fo) (zF.mpr rfl) p⟩)
theorem vx (h:PEd K f ta ρ fun x=>∃ ds,x=.list ds/\PEd K f tb ρ fun y=>∃ k,y=.int k/\∃ d,atI ds k=some d/\P d):PEd K f (tOp (iD K) ta tb) ρ P :=
 bH (h.imp fun x ⟨ds,ex,h2⟩=>h2.imp fun y ⟨k,ey,d,a,p⟩ v w H Q fo rx ry q=>by
  subst ex ey;obtain⟨l,xs,rfl,hs,hr⟩:=zH.mp rx;unfold atI at a;cases hi:ixN ds.length k with
  | none=>rw [hi] at a;cases a
  | some j =>
   rw [hi] at a;obtain⟨u,hu,ru⟩:=hr.get a;exact⟨l,xs,k,u,rfl,zp.mp ry,(zo H f).seq hs,by unfold atI;rw [hr.length,hi];exact hu,q d u H (.refl fo) ru p⟩)
theorem k4 (h:PEd K f ta ρ fun x=>∃ ds,x=.tuple ds/\PEd K f tb ρ fun y=>∃ k,y=.int k/\∃ d,atI ds k=some d/\P d):PEd K f (tOp (nr K) ta tb) ρ P :=
 bH (h.imp fun x ⟨ds,ex,h2⟩=>h2.imp fun y ⟨k,ey,d,a,p⟩ v w H Q fo rx ry q=>by
  subst ex ey;obtain⟨l,xs,rfl,hs,hr⟩:=yy.mp rx;unfold atI at a;cases hi:ixN ds.length k with
  | none=>rw [hi] at a;cases a
  | some j =>
   rw [hi] at a;obtain⟨u,hu,ru⟩:=hr.get a;exact⟨l,xs,k,u,rfl,zp.mp ry,(zo H f).seqT hs,by unfold atI;rw [hr.length,hi];exact hu,q d u H (.refl fo) ru p⟩)
theorem o9 {i:Nat} (hi:ρ[i]?=some (some .feed)) (h:PEd K f tb ρ fun y=>(y=.int 0/\∀ a:Int,0<=a->P (.int a)) \/ (y=.int 1/\∀ b:Int,0<=b->b<2147483647->P (.int b))):PEd K f (tOp (iD K) (yN i) tb) ρ P:=fun σ H Q e q=>by
 obtain⟨v,h1,p,ef,ev⟩:=e.get i _ hi;refine⟨v,h1,h σ H _ e fun y w H' g r c=>?_⟩;obtain⟨a,b,hf,c1,c2,c3⟩:=g.2.fd p ef;rcases c with⟨rfl,c⟩ | ⟨rfl,c⟩
 ·exact⟨p,_,0,.int a,ev,zp.mp r,SqL.of hf,rfl,q (.int a) _ H' g (zp.mpr rfl) (c a c1)⟩
 ·exact⟨p,_,1,.int b,ev,zp.mp r,SqL.of hf,rfl,q (.int b) _ H' g (zp.mpr rfl) (c b c2 c3)⟩
theorem zE {R:List DV->Prop} (p:R []):PAd K f jl ρ R:=fun σ H Q e q=>q [] [] H (.refl e.fd) .nil p
theorem zj {R:List DV->Prop} {u:TA} (h:PEd K f te ρ fun x=>PAd K f u ρ fun xs=>R (.dat x :: xs)):PAd K f (z9 te u) ρ R:=fun σ H Q e q =>
 h σ H _ e fun x v H1 g1 r1 p1=>p1 σ H1 _ (e.mono g1) fun xs vs H2 g2 r2 p2=>q (.dat x :: xs) (v :: vs) H2 (g1.trans g2) (.cons (RepV.mono (x:=.dat x) g2 r1) r2) p2
theorem vF {R:List DV->Prop} {u:TA} {i:Nat} (hi:ρ[i]?=some (some .feed)) (h:PAd K f u ρ fun xs=>R (.feed :: xs)):PAd K f (z9 (yN i) u) ρ R:=fun σ H Q e q=>by
 obtain⟨v,h1,h2⟩:=e.get i _ hi;exact⟨v,h1,h σ H _ e fun xs vs H2 g2 r2 p2=>q (.feed :: xs) (v :: vs) H2 g2 (.cons (RepV.mono (x:=.feed) g2 h2) r2) p2⟩
noncomputable def qS:List DV->Option (List PyData)
 | []=>some []
 | .dat d :: r=>(qS r).map (d :: ·)
 | .feed :: _=>none
 | .own _ :: _=>none
 | .exc _ :: _=>none
 | .mon _ :: _=>none
theorem vU {H:Hp}:∀ {xs:List DV} {vs:List V} {ds:List PyData},RepVs K f H xs vs->qS xs=some ds->Reps K (hide H f) ds vs
 | _,_,ds,.nil,e=>by cases e;exact .nil'
 | .dat d :: xs,v :: vs,ds,.cons r t,e=>by
  unfold qS at e;cases q:qS xs with
  | none=>rw [q] at e;cases e
  | some es=>rw [q] at e;cases e;exact .cons' r (vU t q)
 | .feed :: xs,_,ds,.cons r t,e=>by cases e
 | .own _ :: xs,_,ds,.cons r t,e=>by cases e
 | .exc _ :: xs,_,ds,.cons r t,e=>by cases e
 | .mon _ :: xs,_,ds,.cons r t,e=>by cases e
theorem qJ {t:TA} (h:PAd K f t ρ fun xs=>∃ ds,qS xs=some ds/\ds.length<=1000/\P (.list ds)):PEd K f (kR t) ρ P:=fun σ H Q e q =>
 h σ H _ e fun xs vs H1 g1 r1 ⟨ds,ea,hl,p⟩=>by
  have rs:=vU r1 ea;refine⟨by rw [rs.length];exact xS (yI hl),fun l hn=>?_⟩;have sm:=yd hn (.lst vs);have g2:Goes f H1 (upd H1 l (.lst vs)):=.of_same sm g1.2;exact q (.list ds) _ _ (g1.trans g2) (zH.mpr ⟨l,vs,rfl,.of (zA (fresh_ne g1.2 hn) zr),Reps.mono g2.1 ds vs rs⟩) p
theorem jX {t:TA} (h:PAd K f t ρ fun xs=>∃ ds,qS xs=some ds/\ds.length<=1000/\P (.tuple ds)):PEd K f (tU t) ρ P:=fun σ H Q e q =>
 h σ H _ e fun xs vs H1 g1 r1 ⟨ds,ea,hl,p⟩=>by
  have rs:=vU r1 ea;refine⟨by rw [rs.length];exact xS (yI hl),fun l hn=>?_⟩;have sm:=yd hn (.tup vs);have g2:Goes f H1 (upd H1 l (.tup vs)):=.of_same sm g1.2;exact q (.tuple ds) _ _ (g1.trans g2) (yy.mpr ⟨l,vs,rfl,.of (zA (fresh_ne g1.2 hn) zr),Reps.mono g2.1 ds vs rs⟩) p
theorem zG {γ:Type} {n:Nat} {pre:γ->List DV->Prop} {post:γ->PyData->Prop} {E:XK} {t:TA} (c:γ) (h:PAd K f t ρ fun xs=>xs.length=n/\pre c xs/\∀ r,post c r->P r):PEd K f (qG (spD K n pre post) [] E t) ρ P:=fun σ H Q e q =>
 h σ H _ e fun xs vs H1 g1 r1 ⟨hl,hp,k⟩=>by
  refine⟨f,xs,c,by rw [xf];exact r1,hl,g1.2,hp,fun r v H' g' r' p'=>q r v H' (g1.trans g') r' (k r p')⟩
theorem iJ {r:List V->Hp->VK->Prop} {t:TA} (h:PAd K f t ρ fun xs=>∃ ds,qS xs=some ds/\∀ (vs:List V) (H:Hp) (Q:VK),FOk f H->Reps K (hide H f) ds vs->(∀ d u H',Goes f H H'->Rep K (hide H' f) d u->P d->Q u H')->r vs H Q):PEd K f (tCB r t) ρ P:=fun σ H Q e q =>
 h σ H _ e fun xs vs H1 g1 r1 ⟨ds,ea,k⟩=>k vs H1 Q g1.2 (vU r1 ea) fun d u H' g' r' p'=>q d u H' (g1.trans g') r' p'
end
section
variable {K:uQ} {f:Fx} {ρ:zq} {P:PyData->Prop} {B:Bool->Prop} {te ta tb tc:TE} {tt tu:TT}
theorem PTd.imp {B':Bool->Prop} (h:PTd K f tt ρ B) (i:∀ d,B d->B' d):PTd K f tt ρ B':=fun σ H Q e q=>h σ H Q e fun d H' g p=>q d H' g (i d p)
theorem yB (h:PEd K f te ρ fun d=>∃ k,d=.bool k/\B k):PTd K f (kJ te) ρ B:=fun σ H Q e q=>h σ H _ e fun d v H' g r ⟨k,ed,p⟩=>by
 subst ed;exact⟨k,zF.mp r,q k H' g p⟩
theorem qT (h:PTd K f tt ρ fun c=>if c=true then PTd K f tu ρ B else B false):PTd K f (tL tt tu) ρ B:=fun σ H Q e q=>h σ H _ e fun c H1 g p=>by
 cases c with
 | true =>
  rw [CT rfl] at p ⊢;exact p σ H1 Q (e.mono g) fun b H2 g2 p2=>q b H2 (g.trans g2) p2
 | false =>
  rw [CS uT] at p ⊢;exact q false H1 g p
theorem fC (h:PTd K f tt ρ fun c=>if c=true then B true else PTd K f tu ρ B):PTd K f (tOr tt tu) ρ B:=fun σ H Q e q=>h σ H _ e fun c H1 g p=>by
 cases c with
 | true =>
  rw [CT rfl] at p ⊢;exact q true H1 g p
 | false =>
  rw [CS uT] at p ⊢;exact p σ H1 Q (e.mono g) fun b H2 g2 p2=>q b H2 (g.trans g2) p2
theorem qf (h:PTd K f tt ρ fun c=>B (!c)):PTd K f (tM tt) ρ B:=fun σ H Q e q=>h σ H _ e fun c H1 g p=>q (!c) H1 g p
noncomputable def uI:PyData->Option Bool
 | .none=>some false
 | .bool b=>some b
 | .int i=>some (i != 0)
 | .list ds=>some (!ds.isEmpty)
 | .tuple ds=>some (!ds.isEmpty)
 | _=>none
def rP (K:uQ) (ta:TE):TT:=fun σ H Q=>ta σ H fun x H'=>∃ k,rH K x H' k/\Q k H'
theorem rQ {X:Cx} {a:Expr} (ha:PE X a ta) (he:∀ whole,isTrue a X.env whole=(do let v <- whole;standAt a.pos;holding [v] (truthy v))):PT X a (rP X.K ta):=kM ha he
theorem yY (h:PEd K f ta ρ fun d=>∃ k,uI d=some k/\B k):PTd K f (rP K ta) ρ B:=fun σ H Q e q=>h σ H _ e fun d v H' g r ⟨k,ed,p⟩=>by
 refine⟨k,?_,q k H' g p⟩;cases d with
 | none=>rw [jm.mp r];cases ed;rfl
 | bool b=>rw [zF.mp r];cases ed;rfl
 | int i=>rw [zp.mp r];cases ed;rfl
 | str x=>cases ed
 | list ds =>
  obtain⟨a,xs,rfl,h1,h2⟩:=zH.mp r;cases ed;refine .inl ⟨xs,(zo _ _).seq h1,?_⟩;cases ds with
  | nil=>rw [zP.mp h2];rfl
  | cons d ds=>obtain⟨x,r,rfl,_⟩:=zy.mp h2;rfl
 | tuple ds =>
  obtain⟨a,xs,rfl,h1,h2⟩:=yy.mp r;cases ed;refine .inr (.inl ⟨xs,(zo _ _).seqT h1,?_⟩);cases ds with
  | nil=>rw [zP.mp h2];rfl
  | cons d ds=>obtain⟨x,r,rfl,_⟩:=zy.mp h2;rfl
 | dict _=>cases ed
theorem rR (h:PTd K f tt ρ fun c=>if c=true then PEd K f ta ρ P else PEd K f tb ρ P):PEd K f (tIf tt ta tb) ρ P:=fun σ H Q e q=>h σ H _ e fun c H1 g p=>by
 cases c with
 | true=>rw [CT rfl] at p ⊢;exact p σ H1 Q (e.mono g) fun d v H2 g2 r2 p2=>q d v H2 (g.trans g2) r2 p2
 | false=>rw [CS uT] at p ⊢;exact p σ H1 Q (e.mono g) fun d v H2 g2 r2 p2=>q d v H2 (g.trans g2) r2 p2
theorem bI (h:PEd K f ta ρ fun x=>∃ c,x=.bool c/\if c=true then PEd K f tb ρ P else P (.bool false)):PEd K f (oX ta tb) ρ P:=fun σ H Q e q=>h σ H _ e fun x v H1 g r ⟨c,ex,p⟩=>by
 subst ex;refine⟨c,zF.mp r,?_⟩;cases c with
 | true=>rw [CT rfl] at p ⊢;exact p σ H1 Q (e.mono g) fun d v H2 g2 r2 p2=>q d v H2 (g.trans g2) r2 p2
 | false=>rw [CS uT] at p ⊢;exact q _ _ H1 g (zF.mpr rfl) p
theorem k6 (h:PEd K f ta ρ fun x=>∃ c,x=.bool c/\if c=true then P (.bool true) else PEd K f tb ρ P):PEd K f (tN ta tb) ρ P:=fun σ H Q e q=>h σ H _ e fun x v H1 g r ⟨c,ex,p⟩=>by
 subst ex;refine⟨c,zF.mp r,?_⟩;cases c with
 | true=>rw [CT rfl] at p ⊢;exact q _ _ H1 g (zF.mpr rfl) p
 | false=>rw [CS uT] at p ⊢;exact p σ H1 Q (e.mono g) fun d v H2 g2 r2 p2=>q d v H2 (g.trans g2) r2 p2
theorem fD (h:PEd K f ta ρ fun x=>∃ c,x=.bool c/\P (.bool !c)):PEd K f (oY ta) ρ P:=fun σ H Q e q=>h σ H _ e fun x v H1 g r ⟨c,ex,p⟩=>by
 subst ex;exact⟨c,zF.mp r,q _ _ H1 g (zF.mpr rfl) p⟩
theorem bh {g g':Int->Int->Bool} (h:PEd K f ta ρ fun x=>∃ i,x=.int i/\PEd K f tb ρ fun y=>∃ j,y=.int j/\if g i j=true then PEd K f tc ρ fun z=>∃ k,z=.int k/\P (.bool (g' j k)) else P (.bool false)) :
  PEd K f (fb (rI0 fun i j=>.bl (g i j)) (rI0 fun i j=>.bl (g' i j)) ta tb tc) ρ P:=fun σ H Q e q=>h σ H _ e fun x v H1 g1 r1 ⟨i,ex,p1⟩=>p1 σ H1 _ (e.mono g1) fun y w H2 g2 r2 ⟨j,ey,p2⟩=>by
 subst ex ey;refine⟨i,j,zp.mp r1,zp.mp r2,g i j,rfl,?_⟩;by_cases hg:g i j=true
 ·rw [CT hg] at p2 ⊢;exact p2 σ H2 _ ((e.mono g1).mono g2) fun z u H3 g3 r3 ⟨k,ez,p3⟩=>by
   subst ez;exact⟨j,k,zp.mp r2,zp.mp r3,q _ _ H3 (g1.trans (g2.trans g3)) (zF.mpr rfl) p3⟩
 ·rw [CS hg] at p2 ⊢;exact q _ _ H2 (g1.trans g2) (zF.mpr rfl) p2
theorem dS {t:TA} (h:PAd K f t ρ fun xs=>(∃ ds,xs=[.dat (.list ds)]/\P (.int ds.length)) \/ (∃ ds,xs=[.dat (.tuple ds)]/\P (.int ds.length))) :
  PEd K f (tCB (fun xs H Q=>∃ p ys,xs=[.ref p]/\(SqL K H p ys \/ SqT K H p ys)/\Q (.int ys.length) H) t) ρ P :=
 iJ fun σ H Q e q=>h σ H Q e fun xs vs H' g r p=>by
  rcases p with⟨ds,rfl,p⟩ | ⟨ds,rfl,p⟩
  ·refine q _ vs H' g r ⟨_,rfl,fun vs H Q fo rs k=>?_⟩;obtain⟨x,r,rfl,h2,h3⟩:=zy.mp rs;rw [zP.mp h3];obtain⟨a,ys,rfl,s1,s2⟩:=zH.mp h2;exact⟨a,ys,rfl,.inl ((zo _ _).seq s1),k (.int ds.length) _ H (.refl fo) (zp.mpr (by rw [s2.length])) p⟩
  ·refine q _ vs H' g r ⟨_,rfl,fun vs H Q fo rs k=>?_⟩;obtain⟨x,r,rfl,h2,h3⟩:=zy.mp rs;rw [zP.mp h3];obtain⟨a,ys,rfl,s1,s2⟩:=yy.mp h2;exact⟨a,ys,rfl,.inr ((zo _ _).seqT s1),k (.int ds.length) _ H (.refl fo) (zp.mpr (by rw [s2.length])) p⟩
theorem fE {t:TA} (h:PAd K f t ρ fun xs=>∃ ns:List Int,xs=[.dat (.list (ns.map .int))]/\ns≠[]/\∀ M,M∈ns->(∀ b∈ns,M<=b)->P (.int M)) :
  PEd K f (tCB (fun xs H Q=>∃ a ns,xs=[.ref a]/\SqL K H a (ns.map V.int)/\ns≠[]/\∀ M,M∈ns->(∀ b∈ns,M<=b)->Q (.int M) H) t) ρ P :=
 iJ fun σ H Q e q=>h σ H Q e fun xs vs H' g r ⟨ns,ex,hne,p⟩=>by
  subst ex;refine q _ vs H' g r ⟨_,rfl,fun vs H Q fo rs k=>?_⟩;obtain⟨x,r,rfl,h2,h3⟩:=zy.mp rs;rw [zP.mp h3];obtain⟨a,ys,rfl,s1,s2⟩:=zH.mp h2;rw [s2.ints] at s1;exact⟨a,ns,rfl,(zo _ _).seq s1,hne,fun M h1 h2=>k (.int M) _ H (.refl fo) (zp.mpr rfl) (p M h1 h2)⟩
theorem fF {t:TA} (h:PAd K f t ρ fun xs=>∃ ns:List Int,xs=[.dat (.list (ns.map .int))]/\ns≠[]/\∀ M,M∈ns->(∀ b∈ns,b<=M)->P (.int M)) :
  PEd K f (tCB (fun xs H Q=>∃ a ns,xs=[.ref a]/\SqL K H a (ns.map V.int)/\ns≠[]/\∀ M,M∈ns->(∀ b∈ns,b<=M)->Q (.int M) H) t) ρ P :=
 iJ fun σ H Q e q=>h σ H Q e fun xs vs H' g r ⟨ns,ex,hne,p⟩=>by
  subst ex;refine q _ vs H' g r ⟨_,rfl,fun vs H Q fo rs k=>?_⟩;obtain⟨x,r,rfl,h2,h3⟩:=zy.mp rs;rw [zP.mp h3];obtain⟨a,ys,rfl,s1,s2⟩:=zH.mp h2;rw [s2.ints] at s1;exact⟨a,ns,rfl,(zo _ _).seq s1,hne,fun M h1 h2=>k (.int M) _ H (.refl fo) (zp.mpr rfl) (p M h1 h2)⟩
theorem k7 {g:Int->Int->Int} {t:TA} (h:PAd K f t ρ fun xs=>∃ i j,xs=[.dat (.int i),.dat (.int j)]/\P (.int (g i j))):PEd K f (tCB (fun xs H Q=>∃ i j,xs=[.int i,.int j]/\Q (.int (g i j)) H) t) ρ P :=
 iJ fun σ H Q e q=>h σ H Q e fun xs vs H' g' r ⟨i,j,ex,p⟩=>by
  subst ex;refine q _ vs H' g' r ⟨_,rfl,fun vs H Q fo rs k=>?_⟩;obtain⟨x,r,rfl,h2,h3⟩:=zy.mp rs;obtain⟨y,r',rfl,h4,h5⟩:=zy.mp h3;rw [zP.mp h5,zp.mp h2,zp.mp h4];exact⟨i,j,rfl,k _ _ H (.refl fo) (zp.mpr rfl) p⟩
theorem k8 {g:Int->Int} {t:TA} (h:PAd K f t ρ fun xs=>∃ i,xs=[.dat (.int i)]/\P (.int (g i))):PEd K f (tCB (fun xs H Q=>∃ i,xs=[.int i]/\Q (.int (g i)) H) t) ρ P :=
 iJ fun σ H Q e q=>h σ H Q e fun xs vs H' g' r ⟨i,ex,p⟩=>by
  subst ex;refine q _ vs H' g' r ⟨_,rfl,fun vs H Q fo rs k=>?_⟩;obtain⟨x,r,rfl,h2,h3⟩:=zy.mp rs;rw [zP.mp h3,zp.mp h2];exact⟨i,rfl,k _ _ H (.refl fo) (zp.mpr rfl) p⟩
end
section
variable {K:uQ} {f:Fx} {ρ:zq} {D:DEnds} {te ta tb:TE} {tt:TT} {ts tu:TS}
theorem ym (p:D.nx ρ):PSd K f ky ρ D:=fun σ H E e n _ _ _=>n ρ σ H (.refl e.fd) e p
theorem zX (h:PSd K f ts ρ { D with nx:=fun ρ'=>PSd K f tu ρ' D }):PSd K f (aY ts tu) ρ D:=fun σ H E e n r b c =>
 h σ H { E with nx:=tu E } e (fun ρ' σ' H' g e' p=>p σ' H' E e' (fun ρ'' σ'' H'' g' e'' p'=>n ρ'' σ'' H'' (g.trans g') e'' p') (fun d v H'' g' r' p'=>r d v H'' (g.trans g') r' p') (fun ρ'' σ'' H'' g' e'' p'=>b ρ'' σ'' H'' (g.trans g') e'' p') (fun ρ'' σ'' H'' g' e'' p'=>c ρ'' σ'' H'' (g.trans g') e'' p')) r b c
theorem zW (h:PEd K f te ρ D.rt):PSd K f (kA te) ρ D:=fun σ H E e n r b c=>h σ H _ e r
theorem fG (h:PEd K f te ρ fun _=>D.nx ρ):PSd K f (gA te) ρ D:=fun σ H E e n r b c=>h σ H _ e fun d v H' g _ p=>n ρ σ H' g (e.mono g) p
theorem az (h:PTd K f tt ρ fun b=>if b=true then PSd K f ts ρ D else PSd K f tu ρ D):PSd K f (eX tt ts tu) ρ D:=fun σ H E e n r b c=>h σ H _ e fun k H1 g p=>by
 cases k with
 | true =>
  rw [CT rfl] at p ⊢;exact p σ H1 E (e.mono g) (fun ρ'' σ'' H'' g' e'' p'=>n ρ'' σ'' H'' (g.trans g') e'' p') (fun d v H'' g' r' p'=>r d v H'' (g.trans g') r' p') (fun ρ'' σ'' H'' g' e'' p'=>b ρ'' σ'' H'' (g.trans g') e'' p') (fun ρ'' σ'' H'' g' e'' p'=>c ρ'' σ'' H'' (g.trans g') e'' p')
 | false =>
  rw [CS uT] at p ⊢;exact p σ H1 E (e.mono g) (fun ρ'' σ'' H'' g' e'' p'=>n ρ'' σ'' H'' (g.trans g') e'' p') (fun d v H'' g' r' p'=>r d v H'' (g.trans g') r' p') (fun ρ'' σ'' H'' g' e'' p'=>b ρ'' σ'' H'' (g.trans g') e'' p') (fun ρ'' σ'' H'' g' e'' p'=>c ρ'' σ'' H'' (g.trans g') e'' p')
def PGd (K:uQ) (f:Fx) (g:TG) (d:PyData) (ρ:zq) (R:zq->Prop):Prop:=∀ (σ:St) (H:Hp) (v:V) (Q:St->Hp->Prop),EnvOk K f ρ σ H->Rep K (hide H f) d v->(∀ ρ' σ' H',Goes f H H'->EnvOk K f ρ' σ' H'->R ρ'->Q σ' H')->g v σ H Q
def k9 (K:uQ) (f:Fx) (g:TGs) (ds:List PyData) (ρ:zq) (R:zq->Prop):Prop:=∀ (σ:St) (H:Hp) (vs:List V) (Q:St->Hp->Prop),EnvOk K f ρ σ H->Reps K (hide H f) ds vs->(∀ ρ' σ' H',Goes f H H'->EnvOk K f ρ' σ' H'->R ρ'->Q σ' H')->g vs σ H Q
theorem zw {i:Nat} {d:PyData} {R:zq->Prop} (h:R (ρ.set i (some (.dat d)))):PGd K f (qQ i) d ρ R:=fun σ H v Q e r q=>q _ _ H (.refl e.fd) (e.set i (x:=.dat d) r) h
theorem vG {R:zq->Prop} (h:R ρ):k9 K f tQ [] ρ R:=fun σ H vs Q e r q=>⟨zP.mp r,q ρ σ H (.refl e.fd) e h⟩
theorem yU {g:TG} {gs:TGs} {d:PyData} {ds:List PyData} {R:zq->Prop} (h:PGd K f g d ρ fun ρ'=>k9 K f gs ds ρ' R):k9 K f (oZ g gs) (d :: ds) ρ R:=fun σ H vs Q e r q=>by
 obtain⟨x,r',rfl,h2,h3⟩:=zy.mp r;exact⟨x,r',rfl,h σ H x _ e h2 fun ρ' σ' H' g' e' p=>p σ' H' r' Q e' (Reps.mono g'.1 ds r' h3) fun ρ'' σ'' H'' g'' e'' p'=>q ρ'' σ'' H'' (g'.trans g'') e'' p'⟩
theorem cA {n:Nat} {gs:TGs} {ds:List PyData} {R:zq->Prop} (hn:ds.length=n) (h:k9 K f gs ds ρ R):PGd K f (rB K n gs) (.tuple ds) ρ R:=fun σ H v Q e r q=>by
 obtain⟨a,xs,rfl,h1,h2⟩:=yy.mp r;exact⟨a,xs,rfl,(zo _ _).seqT h1,by rw [h2.length];exact hn,h σ H xs Q e h2 q⟩
theorem ye {g:TG} (h:PEd K f te ρ fun d=>PGd K f g d ρ D.nx):PSd K f (vt te g) ρ D:=fun σ H E e n r b c =>
 h σ H _ e fun d v H1 g1 r1 p1=>p1 σ H1 v _ (e.mono g1) r1 fun ρ' σ' H' g' e' p'=>n ρ' σ' H' (g1.trans g') e' p'
end
section
variable {K:uQ} {f:Fx} {ρ:zq} {D:DEnds} {te ta tb:TE} {tt:TT} {ts tu:TS} {g:TG}
theorem fH {t:TA} (h:PAd K f t ρ fun xs=>∃ ds,xs=[.dat (.list ds)]/\∃ J:Nat->zq->Prop,J 0 ρ /\
   (∀ (i:Nat) d ρ',ds[i]?=some d->J i ρ'->PGd K f g (.tuple [.int i,d]) ρ' fun ρ2=>PSd K f ts ρ2 { D with nx:=J (i+1),ct:=J (i+1),bk:=D.nx })/\∀ ρ',J ds.length ρ'->D.nx ρ') :
  PSd K f (iq (gL K t) g ts) ρ D:=fun σ H E e n r b c=>h σ H _ e fun xs vs H1 g1 r1 ⟨ds,ex,J,j0,js,jd⟩=>by
 subst ex;cases r1 with
 | cons rx r' =>
  cases r';obtain⟨a,xs,rfl,h1,h2⟩:=zH.mp rx;have hl:=h2.length;refine⟨a,rfl,⟨xs,(zo _ _).seq h1⟩,kY (K:=K) (a:=a) (xs:=xs) (fun i σ' H'=>∃ ρ',EnvOk K f ρ' σ' H'/\Goes f H H'/\Goes f H1 H'/\J i ρ') ⟨ρ,e.mono g1,g1,.refl g1.2,j0⟩ (fun i σ' H' _ ⟨ρ',e',g',g1',p⟩=>(zo _ _).seq (g1'.1.seq h1)) (fun i y σ' H' tp hy ⟨ρ',e',g',g1',p⟩ hn=>?_) fun σ' H' ⟨ρ',e',g',_,p⟩=>n ρ' σ' H' g' e' (jd ρ' (by rw [<-hl];exact p))⟩;have hi:i<ds.length:=by rw [<-hl];exact (uY.mp hy).1
  obtain⟨z,hz,rz⟩:=h2.get (uZ hi);rw [hy] at hz;cases hz;have gn:Goes f H' (upd H' tp (.tup [.int i,y])):=.of_same (yd hn _) e'.fd;have rt:Rep K (hide (upd H' tp (.tup [.int i,y])) f) (.tuple [.int i,ds[i]]) (.ref tp):=yy.mpr ⟨tp,_,rfl,.of (zA (fresh_ne e'.fd hn) zr),.cons' (zp.mpr rfl) (.cons' (Rep.mono gn.1 _ _ (Rep.mono g1'.1 _ _ rz)) .nil')⟩;refine js i _ ρ' (uZ hi) p σ' _ _ _ (e'.mono gn) rt fun ρ2 σ2 H2 g2' e2 p2=>?_;have g2:=gn.trans g2';exact p2 σ2 H2 _ e2 (fun ρ3 σ3 H3 g3 e3 p3=>⟨ρ3,e3,g'.trans (g2.trans g3),g1'.trans (g2.trans g3),p3⟩) (fun d v H3 g3 r3 p3=>r d v H3 (g'.trans (g2.trans g3)) r3 p3) (fun ρ3 σ3 H3 g3 e3 p3=>n ρ3 σ3 H3 (g'.trans (g2.trans g3)) e3 p3) (fun ρ3 σ3 H3 g3 e3 p3=>⟨ρ3,e3,g'.trans (g2.trans g3),g1'.trans (g2.trans g3),p3⟩)
end
noncomputable def frD (fr:List Nat) (ρ:zq):zq:=fr.map fun j=>(ρ[j]?).getD none
noncomputable def bJ (own:Nat) (fr:List Nat) (ρ:zq):zq:=xH own none++frD fr ρ
noncomputable abbrev Fx.with (f:Fx) (D:uR):Fx:=⟨f.f,D :: f.M⟩
section
variable {K:uQ} {f:Fx} {ρ:zq} {σ:St} {H H':Hp} {D:uR} {o:HO}
theorem iK {own:Nat} {fr:List Nat} (e:EnvOk K f ρ σ H):EnvOk K f (bJ own fr ρ) (jw own fr σ) H:=by
 refine⟨by unfold bJ jw frD;simp,fun i x h=>?_,e.fd⟩;unfold bJ frD at h;unfold jw;by_cases hi:i<own
 ·rw [wA (by simpa using hi),Ap] at h;split at h <;> cases h
 ·rw [wH (by simpa using hi)] at h ⊢;simp only [Bk,wj] at h ⊢;cases hj:fr[i - own]? with
  | none=>rw [hj] at h;cases h
  | some j =>
   rw [hj] at h;have h':(ρ[j]?).getD none=some x:=Option.some.inj h;have hρ:ρ[j]?=some (some x):=by
    cases q:ρ[j]? with
    | none=>rw [q] at h';cases h'
    | some w=>rw [q] at h';exact congrArg some h'
   obtain⟨v,h1,h2⟩:=e.get j x hρ;exact⟨v,by simp [h1],h2⟩
theorem yP:hide (upd H D o) (f.with D)=hide H (f.with D):=by
 funext b
 unfold hide;by_cases hb:f.f=some b \/ b∈D :: f.M
 ·rw [CT hb,CT hb]
 ·rw [CS hb,CS hb];have:b≠D:=fun z=>hb (.inr (z▸u3));exact zl this
theorem vk:Same (hide H (f.with D)) (hide H f):=fun b o h=>by
 obtain⟨h1,h2⟩:=zC h;exact zA (fun z=>h1 (z.elim .inl fun z=>.inr (uW _ z))) h2
theorem vV (hn:H D=none):Same (hide H f) (hide (upd H D o) (f.with D)):=fun b u h=>by
 obtain⟨h1,h2⟩:=zC h;have hb:b≠D:=zB h2 hn;exact zA (fun z=>z.elim (fun z=>h1 (.inl z)) fun z=>(u6.mp z).elim hb fun z=>h1 (.inr z)) (by rw [zl hb];exact h2)
theorem rS (h:FOk f H) (hn:H D=none):FOk (f.with D) (upd H D o) :=
 ⟨fun p e=>let⟨a,b,h1,h2⟩:=h.fd p e;⟨a,b,by rw [zl (zB h1 hn)];exact h1,h2⟩,fun b hb=>by
  rcases u6.mp hb with rfl | hb
  ·exact⟨_,zr⟩
  ·obtain⟨o',h1⟩:=h.mm b hb;exact⟨o',by rw [zl (zB h1 hn)];exact h1⟩,fun p e hp=>by
  rcases u6.mp hp with rfl | hp
  ·exact fresh_ne h hn (.inl e)
  ·exact h.nm p e hp⟩
theorem rT (e:EnvOk K f ρ σ H) (hn:H D=none):EnvOk K (f.with D) ρ σ (upd H D o) :=
 ⟨e.len,fun i x h=>let⟨v,h1,h2⟩:=e.get i x h;⟨v,h1,by
  cases x with
  | dat d=>exact Rep.mono (vV hn) d v h2
  | feed=>exact h2
  | own k =>
   obtain⟨p,h3,h4⟩:=h2;refine⟨p,?_,h4⟩;show (D :: f.M).reverse[k]?=some p;rw [BN,wA (uY.mp h3).1];exact h3
  | exc C =>
   obtain⟨a,h3,h4⟩:=h2;exact⟨a,h3,vV hn _ _ h4⟩
  | mon φ=>exact fun H' s=>h2 H' ((vV hn).trans s)⟩,rS e.fd hn⟩
theorem nF (hD:f.f≠some D) (e:EnvOk K (f.with D) ρ σ H):EnvOk K (f.with D) ρ σ (upd H D o) :=
 ⟨e.len,fun i x h=>let⟨v,h1,h2⟩:=e.get i x h;⟨v,h1,by
  cases x with
  | dat d =>
   have h2':Rep K (hide H (f.with D)) d v:=h2;show Rep K (hide (upd H D o) (f.with D)) d v;rw [yP];exact h2'
  | feed=>exact h2
  | own k=>exact h2
  | exc C =>
   obtain⟨a,h3,h4⟩:=h2;refine⟨a,h3,?_⟩;rw [yP];exact h4
  | mon φ =>
   intro H' s;rw [yP] at s;exact h2 H' s⟩,⟨fun p ep=>let⟨a,b,h1,h2⟩:=e.fd.fd p ep;⟨a,b,by rw [zl (fun z=>hD (by rw [<-z];exact ep))];exact h1,h2⟩,fun b hb=>by
   by_cases hb':b=D
   ·subst hb';exact⟨_,zr⟩
   ·rw [zl hb'];exact e.fd.mm b hb,e.fd.nm⟩⟩
end
section
variable {K:uQ} {f:Fx} {ρ:zq} {P:PyData->Prop} {te tl:TE} {tt:TT} {g:TG} {own:Nat} {fr:List Nat}
structure CSt (K:uQ) (f:Fx) (D:uR) (H2:Hp) (ρ':zq) (es:List PyData) (σ:St) (H:Hp):Prop where
 env:EnvOk K (f.with D) ρ' σ H
 sm:Same (hide H2 (f.with D)) (hide H (f.with D))
 kp:∀ b∈f.M,H b=H2 b
 lst:∃ vs,H D=some (.lst vs)/\Reps K (hide H (f.with D)) es vs
theorem CSt.go {D:uR} {H2 H H':Hp} {ρ':zq} {es:List PyData} {σ:St} (c:CSt K f D H2 ρ' es σ H) (gg:Goes (f.with D) H H') {ρ2:zq} {σ2:St} (e2:EnvOk K (f.with D) ρ2 σ2 H'):CSt K f D H2 ρ2 es σ2 H' :=
 ⟨e2,c.sm.trans gg.sm,fun b hb=>(gg.kp b (uW _ hb)).trans (c.kp b hb),let⟨vs,h1,h2⟩:=c.lst;⟨vs,(gg.kp D u3).trans h1,Reps.mono gg.sm es vs h2⟩⟩
theorem CSt.put {D:uR} {H2 H:Hp} {ρ':zq} {es:List PyData} {σ:St} {d:PyData} {v:V} {vs:List V} (hD:f.f≠some D) (hM:D∉f.M) (c:CSt K f D H2 ρ' es σ H) (h1:H D=some (.lst vs)) (h2:Reps K (hide H (f.with D)) es vs) (r:Rep K (hide H (f.with D)) d v) :
  CSt K f D H2 ρ' (es++[d]) σ (upd H D (.lst (vs++[v]))) :=
 ⟨nF hD c.env,by rw [yP];exact c.sm,fun b hb=>(zl (fun (z:b=D)=>hM (z▸hb))).trans (c.kp b hb),⟨_,zr,by rw [yP];exact h2.snoc r⟩⟩
theorem lb {D:uR} {H1 H:Hp} {ρ':zq} {es:List PyData} {σ σ':St} (hn:H1 D=none) (fo:FOk f H1) (c:CSt K f D (upd H1 D (.lst [])) ρ' es σ H):Goes f H1 H/\Rep K (hide H f) (.list es) (.ref D):=by
 obtain⟨vs,h1,h2⟩:=c.lst;have nD:=fresh_ne fo hn;refine⟨⟨((vV hn).trans c.sm).trans vk,⟨c.env.fd.fd,fun b hb=>c.env.fd.mm b (uW _ hb),fun p e hp=>c.env.fd.nm p e (uW _ hp)⟩,fun b hb=>?_⟩,zH.mpr ⟨D,vs,rfl,.of (zA nD h1),Reps.mono vk es vs h2⟩⟩;rw [c.kp b hb,zl];obtain⟨o,h3⟩:=fo.mm b hb;exact zB h3 hn
theorem fJ {D:uR} {H1:Hp} {σ:St} (hn:H1 D=none) (e:EnvOk K f ρ σ H1):CSt K f D (upd H1 D (.lst [])) (bJ own fr ρ) [] (jw own fr σ) (upd H1 D (.lst [])) :=
 ⟨rT (iK e) hn,Same.refl _,fun _ _=>rfl,⟨[],zr,.nil'⟩⟩
end
section
variable {K:uQ} {f:Fx} {ρ:zq} {D:DEnds} {te:TE} {i:Nat}
theorem dU {σ:St} {H:Hp} {p:uR} {a b:Int} (e:EnvOk K f ρ σ H) (ef:f.f=some p) (h0:0<=a) (h1:0<=b) (h2:b<2147483647):Goes f H (upd H p (.lst [.int a,.int b])) :=
 have hM:=e.fd.nm p ef
 ⟨fun x o h=>by
  obtain⟨n,hx⟩:=zC h;exact zA n (by rw [zl (fun z=>n (.inl (by rw [z];exact ef)))];exact hx),
 ⟨fun q eq=>by
   rw [ef] at eq;cases eq;exact⟨a,b,zr,h0,h1,h2⟩,fun x hx=>by
   by_cases hxp:x=p
   ·subst hxp;exact absurd hx hM
   ·rw [zl hxp];exact e.fd.mm x hx,e.fd.nm⟩,
fun x hx=>zl (fun z=>hM (z▸hx))⟩
theorem gM (hi:ρ[i]?=some (some .feed)) (h:PEd K f te ρ fun d=>∃ a:Int,d=.int a/\0<=a/\D.nx ρ):PSd K f (vt te (eY (yN i) (tC (.int 0)) bF)) ρ D:=fun σ H E e n r b c=>h σ H _ e fun d v H1 g1 r1 ⟨a,ed,h0,p⟩=>by
 subst ed;obtain⟨u,h1,q,ef,eu⟩:=e.get i _ hi;obtain⟨a',b',hf,c1,c2,c3⟩:=g1.2.fd q ef;refine⟨u,h1,q,_,0,0,eu,rfl,hf,rfl,?_⟩;rw [zp.mp r1];have g2:Goes f H1 (upd H1 q (.lst [.int a,.int b'])):=dU (e.mono g1) ef h0 c2 c3;exact n ρ σ _ (g1.trans g2) ((e.mono g1).mono g2) p
theorem gN (hi:ρ[i]?=some (some .feed)) (h:PEd K f te ρ fun d=>∃ a:Int,d=.int a/\0<=a/\a<2147483647/\D.nx ρ):PSd K f (vt te (eY (yN i) (tC (.int 1)) bF)) ρ D:=fun σ H E e n r b c=>h σ H _ e fun d v H1 g1 r1 ⟨a,ed,h0,h0',p⟩=>by
 subst ed;obtain⟨u,h1,q,ef,eu⟩:=e.get i _ hi;obtain⟨a',b',hf,c1,c2,c3⟩:=g1.2.fd q ef;refine⟨u,h1,q,_,1,1,eu,rfl,hf,rfl,?_⟩;rw [zp.mp r1];have g2:Goes f H1 (upd H1 q (.lst [.int a',.int a])):=dU (e.mono g1) ef c1 h0 h0';exact n ρ σ _ (g1.trans g2) ((e.mono g1).mono g2) p
end
theorem qU {X:Cx} {x:Str} {i:Int} {t:Tok} {pos:Pos} (hg:Gl X x) (hm:X.mg x=some (.int i t)) (hd:(x == ("__debug__":Str))=false:=by decide):PE X (.Name x pos) (tC (.int i)):=yr hg hm ⟨t,rfl⟩ hd
noncomputable def jN (N:List Str) (xs:List DV):zq:=xs.map some++xH (N.length - xs.length) none
theorem je {K:uQ} {f:Fx} {H:Hp} {N:List Str} {xs:List DV} {vs:List V} (r:RepVs K f H xs vs) (fo:FOk f H):EnvOk K f (jN N xs) (start N vs) H:=by
 have hl:=r.length;refine⟨by unfold jN start;simp [hl],fun i x h=>?_,fo⟩;unfold jN at h;unfold start;have get:∀ {xs:List DV} {vs:List V} {i:Nat} {x:DV},RepVs K f H xs vs->xs[i]?=some x->∃ v,vs[i]?=some v/\RepV K f H x v:=by
  intro xs vs i x r
  induction r generalizing i with
  | nil=>intro h;simp at h
  | cons r1 r2 ih =>
   intro h;cases i with
   | zero=>simp at h;subst h;exact⟨_,rfl,r1⟩
   | succ i=>simp at h;obtain⟨v,h1,h2⟩:=ih h;exact⟨v,by simpa using h1,h2⟩
 by_cases hi:i<xs.length
 ·rw [wA (by simpa using hi),wj] at h;cases q:xs[i]? with
  | none=>rw [q] at h;cases h
  | some y =>
   rw [q] at h;cases h;obtain⟨v,h1,h2⟩:=get r q;exact⟨v,by rw [wA (by simp;omega),wj,h1];rfl,h2⟩
 ·rw [wH (by simpa using hi),Ap] at h;split at h <;> cases h
structure Def (K:uQ) (mg:Str->Option Value) (x:Str) (st:Stmt) (ps:List Str):Prop where
 ex:∃ (f:uR) (fd:FuncData),Fun K x x st f fd/\Binds K fd ps []/\mg x=some (.ref f)
structure FnIn (P:Program) (w:World) (K:uQ) (mg:Str->Option Value) (base:Heap) (k:Nat) (x:Str) (ps:List Str) (sp:Sp):Prop where
 ex:∃ (f:uR) (fd:FuncData),FnOk P w K mg base CX0 k f fd ps sp/\mg x=some (.ref f)/\wF K (.ref f)=true/\Binds K fd ps []
section
variable {P:Program} {w:World} {K:uQ} {mg:Str->Option Value} {base:Heap} {j k n:Nat} {x:Str} {st:Stmt} {ps N:List Str} {γ:Type} {pre:γ->List DV->Prop} {post:γ->PyData->Prop} {sp:Sp}
theorem FnIn.mono (h:FnIn P w K mg base j x ps sp) (hk:j<=k):FnIn P w K mg base k x ps sp :=
 let⟨f,fd,a,b,c,d⟩:=h.ex;⟨f,fd,a.mono hk,b,c,d⟩
theorem Def.ok (F:Def K mg x st ps) (S:FnScope N ps (zh st)) (hn:ps.length=n)
  (h:∀ (fa:uR) (cdv:Value) (A:Around) (outer:List Env) (s:Shared) (H:Hp) (E:XK),Room k (A.deeper (envOfC x (zh st) s.heap.objs.size fa cdv)) ->
   ∃ t,PSs (zS CX0 P w K mg base N x (zh st) fa cdv A outer s H E).nox (zU st) t/\∀ (f:Fx) (xs:List DV) (c:γ),xs.length=n->pre c xs->PSd K f t (jN N xs) { nx:=fun _=>post c .none,rt:=post c }) :
  FnIn P w K mg base (k+1) x ps (spD K n pre post):=by
 obtain⟨fa,fd,F1,F2,F3⟩:=F.ex;refine⟨fa,fd,F1.ok S (fun vs H Q E h=>?_) (fun cdv A outer s H vs Q E hr hs=>?_),F3,F1.kp,F2⟩
 ·obtain⟨f,xs,c,r,hl,_⟩:=h;rw [r.length,hl,hn]
 ·obtain⟨f,xs,c,r,hl,fo,hp,q⟩:=hs;obtain⟨t,h1,h2⟩:=h fa cdv A outer s H E hr;exact⟨t,h1,h2 f xs c hl hp (start N vs) H _ (je r fo) (fun _ _ H' g _ p=>q .none _ H' g (jm.mpr rfl) p) (fun d v H' g r p=>q d v H' g r p) (fun _ _ _ _ _ z=>z.elim) (fun _ _ _ _ _ z=>z.elim)⟩
theorem Def.raw (F:Def K mg x st ps) (S:FnScope N ps (zh st)) (len:∀ vs H Q E,sp vs H Q E->vs.length=ps.length)
  (h:∀ (fa:uR) (cdv:Value) (A:Around) (outer:List Env) (s:Shared) (H:Hp) (vs:List V) (Q:VK) (E:XK),Room k (A.deeper (envOfC x (zh st) s.heap.objs.size fa cdv))->sp vs H Q E ->
   ∃ t,PSs (zS CX0 P w K mg base N x (zh st) fa cdv A outer s H E).nox (zU st) t/\t { nx:=fun _ H'=>Q .non H',rt:=Q } (start N vs) H) :
  FnIn P w K mg base (k+1) x ps sp:=by
 obtain⟨fa,fd,F1,F2,F3⟩:=F.ex;exact⟨fa,fd,F1.ok S len (fun cdv A outer s H vs Q E hr hs=>h fa cdv A outer s H vs Q E hr hs),F3,F1.kp,F2⟩
theorem zv {X:Cx} {e:Expr} {es:List Expr} {t:TA} {p pos:Pos} (G:FnIn X.prog X.w X.K X.mg X.base k x ps sp) (hr:Room k X.A) (hg:Gl X x) (ha:PA X (e :: es) t) (hdb:(x == ("__debug__":Str))=false:=by decide)
  (he:u4 (e :: es) X.env=(false,eval e X.env) :: u4 es X.env:=by rfl) (hpl:(backTo pos (u4 es X.env)).any (·.1)=false:=by rfl):PE X (.Call (.Name x p) (e :: es) [] pos) (qG sp [] E0 t):=by
 obtain⟨f,fd,a,b,c,d⟩:=G.ex;exact gC a hr hg b c d .nil dO ha hdb he hpl
end
section
variable {K:uQ} {f:Fx} {ρ:zq} {σ:St} {H:Hp} {E:Ends} {ts tu:TS} {D:DEnds}
theorem lh (h:PSd K f ts ρ D) (e:EnvOk K f ρ σ H) (hn:∀ ρ' σ' H',Goes f H H'->EnvOk K f ρ' σ' H'->D.nx ρ'->tu E σ' H') (hr:∀ d v H',Goes f H H'->Rep K (hide H' f) d v->D.rt d->E.rt v H') (hb:∀ ρ,¬ D.bk ρ) (hc:∀ ρ,¬ D.ct ρ):aY ts tu E σ H :=
 h σ H { E with nx:=tu E } e hn hr (fun ρ' _ _ _ _ p=>(hb ρ' p).elim) (fun ρ' _ _ _ _ p=>(hc ρ' p).elim)
theorem lj {ta:TA} {Q:VK} {R:List PyData->Prop} (h:PAd K f ta ρ fun xs=>∃ ds,qS xs=some ds/\ds.length<=1000/\R ds) (e:EnvOk K f ρ σ H)
  (q:∀ p ds vs H1,Goes f H H1->H1 p=none->Reps K (hide H1 f) ds vs->R ds->Q (.ref p) (upd H1 p (.lst vs))):kR ta σ H Q :=
 h σ H _ e fun xs vs H1 g1 r1 ⟨ds,ea,hl,p⟩=>by
  have rs:=vU r1 ea;exact⟨by rw [rs.length];exact xS (yI hl),fun l hn=>q l ds vs H1 g1 hn rs p⟩
end
section
variable {K:uQ} {f:Fx} {ρ:zq}
theorem Goes.free {H H':Hp} {p:uR} (g:Goes f H H') (fo:FOk f H) (h:H' p=none):H p=none:=by
 cases q:H p with
 | none=>rfl
 | some o =>
  by_cases hh:f.f=some p \/ p∈f.M
  ·rcases hh with hh | hh
   ·obtain⟨a,b,h1,_⟩:=g.ok.fd p hh;rw [h] at h1;cases h1
   ·rw [g.kp p hh,q] at h;cases h
  ·have:=zC (g.sm p o (zA hh q));rw [h] at this;cases this.2
def PEdL (K:uQ) (f:Fx) (te:TE) (ρ:zq) (P:List PyData->Prop):Prop:=∀ (σ:St) (H:Hp) (Q:VK),EnvOk K f ρ σ H ->
 (∀ es D vs H',Goes f H H'->H D=none->H' D=some (.lst vs)->Reps K (hide H' f) es vs->P es->Q (.ref D) H')->te σ H Q
theorem PEdL.ped {te:TE} {P:PyData->Prop} (h:PEdL K f te ρ fun es=>P (.list es)):PEd K f te ρ P:=fun σ H Q e q=>h σ H Q e fun es D vs H' g n h1 r p =>
 q (.list es) _ H' g (zH.mpr ⟨D,vs,rfl,.of (zA (fresh_ne e.fd n) h1),r⟩) p
end
structure TabAt (H:Hp) (a:uR) (as:List uR) (rows:List (List Int)):Prop where
 top:H a=some (.lst (as.map .ref))
 nd:(a :: as).Nodup
 len:as.length=rows.length
 row:∀ (i:Nat) x r,as[i]?=some x->rows[i]?=some r->H x=some (.lst (r.map .int))
def lq (K:uQ):List V->Hp->VK->Prop:=fun xs H Q=>∃ x n b,xs=[x,.ty n]/\((∃ a ys,x=.ref a/\SqL K H a ys/\uU K (.type "list") (.type n)=some b) \/ (∃ a ys,x=.ref a/\SqT K H a ys/\uU K (.type "tuple") (.type n)=some b) \/ ∃ t,TyOf K H x t/\uU K t (.type n)=some b)/\Q (.bl b) H
theorem lx {X:Cx}:yA X (.builtin "isinstance") (lq X.K):=by
 intro CQ s σ H xs us Q I r h;obtain⟨x,n,b,rfl,hx,q⟩:=h;obtain⟨u,w',rfl,rx,rn⟩:=vals2 r;cases rn;rcases hx with⟨a,ys,rfl,hq,hk⟩ | ⟨a,ys,rfl,hq,hk⟩ | ⟨t,ty,hk⟩
 ·cases rx;obtain⟨its,_,p,_⟩:=I.list hq;obtain⟨o,ho,hc,_⟩:=p.isList;exact w8 BM I.kIn ⟨o,ho,hc⟩ hk (fun z=>nomatch z) fun tk=>⟨.bl b,H,I.tok tk,rfl,q⟩
 ·cases rx;obtain⟨its,_,p,_⟩:=I.tuple hq;obtain⟨o,ho,hc,_⟩:=p;exact w8 PySem.W.kitx_tuple I.kIn ⟨o,ho,hc⟩ hk (fun z=>nomatch z) fun tk=>⟨.bl b,H,I.tok tk,rfl,q⟩
 ·exact iC I rx ty hk fun tk=>⟨.bl b,H,I.tok tk,rfl,q⟩
section
variable {K:uQ} {f:Fx} {ρ:zq} {P:PyData->Prop} {te ta tb:TE}
theorem tX {n:String} {b:Bool} (hk:uU K (.type "list") (.type n)=some b) (h:PEd K f te ρ fun d=>∃ ds,d=.list ds/\P (.bool b)):PEd K f (tCB (lq K) (z9 te (z9 (tC (.ty n)) jl))) ρ P:=fun σ H Q e q=>h σ H _ e fun d v H1 g r ⟨ds,ed,p⟩=>by
 subst ed;obtain⟨a,xs,rfl,s1,_⟩:=zH.mp r;exact⟨_,n,b,rfl,.inl ⟨a,xs,rfl,(zo _ _).seq s1,hk⟩,q _ _ H1 g (zF.mpr rfl) p⟩
end
section
variable {X:Cx} {K:uQ}
theorem zR (hK:X.K=K):IxR X (iD K):=hK▸nu
theorem nG (hK:X.K=K):IxR X (nr K):=hK▸rM
theorem zV (hK:X.K=K):yA X (.builtin "len") (fun xs H Q=>∃ p ys,xs=[.ref p]/\(SqL K H p ys \/ SqT K H p ys)/\Q (.int ys.length) H):=hK▸cV
theorem cB (hK:X.K=K) (hc:X.calm=true):yA X (.builtin "min") (fun xs H Q=>∃ a ns,xs=[.ref a]/\SqL K H a (ns.map V.int)/\ns≠[]/\∀ M,M∈ns->(∀ b∈ns,M<=b)->Q (.int M) H):=hK▸iH hc
theorem cC (hK:X.K=K) (hc:X.calm=true):yA X (.builtin "max") (fun xs H Q=>∃ a ns,xs=[.ref a]/\SqL K H a (ns.map V.int)/\ns≠[]/\∀ M,M∈ns->(∀ b∈ns,b<=M)->Q (.int M) H):=hK▸iI hc
theorem yn (hK:X.K=K) (hu:X.A.units+64<Cr):OpR X (xm .Eq) (kZ K false):=hK▸rN hu
theorem aA (hK:X.K=K) (hu:X.A.units+64<Cr):OpR X (xm .NotEq) (kZ K true):=hK▸rO hu
theorem cD (hK:X.K=K):yA X (.builtin "isinstance") (lq K):=hK▸lx
variable {tg l e st:Expr} {tl te ts:TE} {ta:TA} {p pos p2:Pos}
theorem jo (hK:X.K=K) (hl:PE X l tl):PI X tg l (kE K tl):=hK▸ni hl
theorem nH (hK:X.K=K) (hl:PE X l tl):PI X tg l (rD K tl):=hK▸rE hl
theorem vW {es:List Expr} {k:Nat} {tpos:Pos} (hK:X.K=K) (hg:Gl X "enumerate") (hm:X.mg "enumerate"=none) (ha:PA X [l] ta) (hs:u4 [l] X.env=[(false,eval l X.env)]:=by rfl):PI X (.Tuple es k tpos) (.Call (.Name "enumerate" p) [l] [] pos) (gL K ta):=hK▸nC hg hm ha hs
theorem yf (hK:X.K=K) (ha:PE X e te) (he:∀ whole,isTrue e X.env whole=(do let v <- whole;standAt e.pos;holding [v] (truthy v))):PT X e (rP K te):=hK▸rQ ha he
theorem vm {es:List Expr} {k:Nat} {t:TGs} {n:Nat} (hK:X.K=K) (hc:X.calm=true) (h:PGs X es t) (hn:(assignEach es X.env).length=n:=by rfl) (hst:(assignEach es X.env).findIdx? (·.1)=none:=by rfl):PG X (.Tuple es k pos) (rB K n t):=hK▸rC hc h hn hst
end
structure ItD (K:uQ) (f:Fx) (ds:List PyData) (J:It) (H1:Hp):Prop where
 go:∀ (f':Fx) (H':Hp) (i:Nat) d,FOk f' H'->Same (hide H1 f) (hide H' f')->ds[i]?=some d->J.go i H'/\∀ x H3,J.yld i H' x H3->Goes f' H' H3/\Rep K (hide H3 f') d x
 st:∀ (f':Fx) (H':Hp),FOk f' H'->Same (hide H1 f) (hide H' f')->J.stop ds.length H'
def PId (K:uQ) (f:Fx) (wi:TI) (ρ:zq) (R:List PyData->Prop):Prop:=∀ (σ:St) (H:Hp) (C:It->Hp->Prop),EnvOk K f ρ σ H ->
 (∀ ds J H1,Goes f H H1->ItD K f ds J H1->R ds->C J H1)->wi σ H C
noncomputable def qV (n:Nat):List PyData:=(BB n).map fun (i:Nat)=>.int (i:Int)
noncomputable def qK (ds:List PyData):List PyData:=ds.mapIdx fun i d=>.tuple [.int (i:Int),d]
section
variable {K:uQ} {f:Fx} {ρ:zq} {R:List PyData->Prop} {tl:TE} {t:TA}
theorem PId.imp {wi:TI} {R':List PyData->Prop} (h:PId K f wi ρ R) (i:∀ ds,R ds->R' ds):PId K f wi ρ R':=fun σ H C e q=>h σ H C e fun ds J H1 g it r=>q ds J H1 g it (i ds r)
theorem vX (h:PAd K f t ρ fun xs=>∃ j:Int,xs=[.dat (.int j)]/\-(2 ^ 62)<=j/\j<2 ^ 62/\R (qV j.toNat)):PId K f (o3 t) ρ R:=fun σ H C e q=>h σ H _ e fun xs vs H1 g1 r1 ⟨j,ex,q1,q2,p⟩=>by
 subst ex;cases r1 with
 | @cons _ v0 _ _ rx r' =>
  cases r';have rx':Rep K (hide H1 f) (.int j) v0:=rx;refine⟨j,by rw [zp.mp rx'],q1,q2,q _ _ H1 g1 ⟨fun f' H' i d fo _ hd=>?_,fun f' H' _ _=>?_⟩ p⟩
  ·unfold qV at hd;rw [wj] at hd;by_cases hi:i<j.toNat
   ·rw [Cw hi] at hd;cases hd;refine⟨hi,fun x H3 hy=>?_⟩;obtain⟨rfl,rfl⟩:=hy;exact⟨.refl fo,zp.mpr (by rw [Int.zero_add])⟩
   ·rw [AE (by rw [BO];omega)] at hd;cases hd
  ·show j.toNat<=(qV j.toNat).length;unfold qV;rw [uV,BO];exact wc _
theorem qW (h:PEd K f tl ρ fun x=>∃ ds,x=.list ds/\R ds):PId K f (kE K tl) ρ R:=fun σ H C e q=>h σ H _ e fun x v H1 g1 r1 ⟨ds,ex,p⟩=>by
 subst ex;obtain⟨a,xs,rfl,h1,h2⟩:=zH.mp r1;have hl:=h2.length;refine⟨a,rfl,⟨xs,(zo _ _).seq h1⟩,q ds _ H1 g1 ⟨fun f' H' i d fo sm hd=>?_,fun f' H' _ sm=>⟨xs,(zo _ _).seq (sm.seq h1),Af hl⟩⟩ p⟩;obtain⟨z,hz,rz⟩:=h2.get hd;have sq:SqL K H' a xs:=(zo _ _).seq (sm.seq h1);refine⟨⟨xs,z,sq,hz⟩,fun x H3 hy=>?_⟩;obtain⟨rfl,hy⟩:=hy;have ez:=hy xs sq;rw [hz] at ez;cases ez;exact⟨.refl fo,Rep.mono sm _ _ rz⟩
theorem tY (h:PEd K f tl ρ fun x=>∃ ds,x=.tuple ds/\R ds):PId K f (rD K tl) ρ R:=fun σ H C e q=>h σ H _ e fun x v H1 g1 r1 ⟨ds,ex,p⟩=>by
 subst ex;obtain⟨a,xs,rfl,h1,h2⟩:=yy.mp r1;have hl:=h2.length;refine⟨a,rfl,⟨xs,(zo _ _).seqT h1⟩,q ds _ H1 g1 ⟨fun f' H' i d fo sm hd=>?_,fun f' H' _ sm=>⟨xs,(zo _ _).seqT (sm.seqT h1),Af hl⟩⟩ p⟩;obtain⟨z,hz,rz⟩:=h2.get hd;have sq:SqT K H' a xs:=(zo _ _).seqT (sm.seqT h1);refine⟨⟨xs,z,sq,hz⟩,fun x H3 hy=>?_⟩;obtain⟨rfl,hy⟩:=hy;have ez:=hy xs sq;rw [hz] at ez;cases ez;exact⟨.refl fo,Rep.mono sm _ _ rz⟩
theorem fK (h:PAd K f t ρ fun xs=>∃ ds,xs=[.dat (.list ds)]/\R (qK ds)):PId K f (gL K t) ρ R:=fun σ H C e q=>h σ H _ e fun xs vs H1 g1 r1 ⟨ds,ex,p⟩=>by
 subst ex;cases r1 with
 | cons rx r' =>
  cases r';obtain⟨a,xs,rfl,h1,h2⟩:=zH.mp rx;have hl:=h2.length;refine⟨a,rfl,⟨xs,(zo _ _).seq h1⟩,q (qK ds) _ H1 g1 ⟨fun f' H' i d fo sm hd=>?_,fun f' H' _ sm=>⟨xs,(zo _ _).seq (sm.seq h1),by unfold qK;rw [Bd];exact Af hl⟩⟩ p⟩;unfold qK at hd;rw [AN] at hd;cases eq:ds[i]? with
  | none=>rw [eq] at hd;cases hd
  | some d0 =>
   rw [eq] at hd;cases hd;obtain⟨z,hz,rz⟩:=h2.get eq;have sq:SqL K H' a xs:=(zo _ _).seq (sm.seq h1);refine⟨⟨xs,z,sq,hz⟩,fun x H3 hy=>?_⟩;obtain⟨tp,y,rfl,hn,rfl,hy⟩:=hy;have ez:=hy xs sq;rw [hz] at ez;cases ez;have gn:Goes f' H' (upd H' tp (.tup [.int i,z])):=.of_same (yd hn _) fo;exact⟨gn,yy.mpr ⟨tp,_,rfl,.of (zA (fresh_ne fo hn) zr),.cons' (zp.mpr rfl) (.cons' (Rep.mono gn.1 _ _ (Rep.mono sm _ _ rz)) .nil')⟩⟩
end
section
variable {K:uQ} {f:Fx} {ρ:zq} {D:DEnds} {wi:TI} {g:TG} {ts:TS}
theorem gO (h:PId K f wi ρ fun ds=>∃ J:Nat->zq->Prop,J 0 ρ /\
   (∀ (i:Nat) d ρ',ds[i]?=some d->J i ρ'->PGd K f g d ρ' fun ρ2=>PSd K f ts ρ2 { D with nx:=J (i+1),ct:=J (i+1),bk:=D.nx })/\∀ ρ',J ds.length ρ'->D.nx ρ') :
  PSd K f (iq wi g ts) ρ D:=fun σ H E e n r b c=>h σ H _ e fun ds J H1 g1 it ⟨Jv,j0,js,jd⟩=>by
 refine⟨fun i m σ' H'=>∃ ρ',EnvOk K f ρ' σ' H'/\Goes f H1 H'/\Jv i ρ'/\m+i=ds.length,⟨ds.length,ρ,e.mono g1,.refl g1.2,j0,rfl⟩,fun i m σ' H' ⟨ρ',e',g',p,hm⟩=>?_⟩;by_cases hi:i<ds.length
 ·obtain⟨hgo,hy⟩:=it.go f H' i _ e'.fd g'.sm (uZ hi);refine .inr ⟨hgo,fun σ2 H2=>∃ ρ2,EnvOk K f ρ2 σ2 H2/\Goes f H1 H2/\Jv (i+1) ρ2,fun σ2 H2 ⟨ρ2,e2,g2,p2⟩=>⟨m - 1,by omega,ρ2,e2,g2,p2,by omega⟩,fun x H3 hx=>?_⟩;obtain⟨g3,r3⟩:=hy x H3 hx;refine js i _ ρ' (uZ hi) p σ' H3 x _ (e'.mono g3) r3 fun ρ2 σ2 H4 g4 e4 p4=>?_;have gg:=g'.trans (g3.trans g4);exact p4 σ2 H4 _ e4 (fun ρ5 σ5 H5 g5 e5 p5=>⟨ρ5,e5,gg.trans g5,p5⟩) (fun d v H5 g5 r5 p5=>r d v H5 (g1.trans (gg.trans g5)) r5 p5) (fun ρ5 σ5 H5 g5 e5 p5=>n ρ5 σ5 H5 (g1.trans (gg.trans g5)) e5 p5) (fun ρ5 σ5 H5 g5 e5 p5=>⟨ρ5,e5,gg.trans g5,p5⟩)
 ·have ei:i=ds.length:=by omega
  subst ei;exact .inl ⟨it.st f H' e'.fd g'.sm,n ρ' σ' H' (g1.trans g') e' (jd ρ' p)⟩
end
section
variable {K:uQ} {f:Fx} {ρ:zq} {D:uR} {wi:TI} {g:TG} {tt:TT} {te:TE}
theorem CSt.self {H2 H:Hp} {es:List PyData} {σ:St} (c:CSt K f D H2 ρ es σ H):CSt K f D H ρ es σ H:=⟨c.env,Same.refl _,fun _ _=>rfl,c.lst⟩
theorem CSt.trans {H2 H H':Hp} {es es':List PyData} {ρ':zq} {σ σ':St} (c:CSt K f D H2 ρ es σ H) (d:CSt K f D H ρ' es' σ' H'):CSt K f D H2 ρ' es' σ' H':=⟨d.env,c.sm.trans d.sm,fun b hb=>(d.kp b hb).trans (c.kp b hb),d.lst⟩
def PBd (K:uQ) (f:Fx) (D:uR) (tb:TB) (ρ:zq) (es:List PyData) (R:zq->List PyData->Prop):Prop:=f.f≠some D->D∉f.M->∀ (σ:St) (H H2:Hp) (W:St->Hp->Prop),CSt K f D H2 ρ es σ H ->
 (∀ ρ2 es2 σ2 H',CSt K f D H2 ρ2 es2 σ2 H'->R ρ2 es2->W σ2 H')->tb σ H W
theorem qb {es:List PyData} {R:zq->List PyData->Prop} (hl:es.length<1000) (h:PEd K (f.with D) te ρ fun e=>R ρ (es++[e])):PBd K f D (kX D te) ρ es R:=fun hD hM σ H H2 W c q =>
 h σ H _ c.env fun e u H5 g5 r5 p5=>by
  have c5:=c.go g5 (c.env.mono g5);obtain⟨vs,h1,h2⟩:=c5.lst;exact⟨vs,h1,yI (by rw [h2.length];omega),q _ _ _ _ (c5.put hD hM h1 h2 r5) p5⟩
theorem rV {fi:Fx} {Hi H2 H:Hp} {ds es:List PyData} {J:It} {tb:TB} {σ:St} {W:St->Hp->Prop} (it:ItD K fi ds J Hi) (hD:f.f≠some D) (hM:D∉f.M) (c:CSt K f D H2 ρ es σ H) (sm:Same (hide Hi fi) (hide H (f.with D)))
  (Jv:Nat->zq->List PyData->Prop) (j0:Jv 0 ρ es)
  (js:∀ (i:Nat) d ρ' es',ds[i]?=some d->Jv i ρ' es'->PGd K (f.with D) g d ρ' fun ρ2=>PTd K (f.with D) tt ρ2 fun b=>if b=true then PBd K f D tb ρ2 es' (Jv (i+1)) else Jv (i+1) ρ2 es')
  (hW:∀ ρ' es' σ' H',CSt K f D H2 ρ' es' σ' H'->Jv ds.length ρ' es'->W σ' H'):gI J g tt tb σ H W:=by
 refine⟨fun i m σ' H'=>∃ ρ' es',CSt K f D H2 ρ' es' σ' H'/\Same (hide Hi fi) (hide H' (f.with D))/\Jv i ρ' es'/\m+i=ds.length,⟨ds.length,ρ,es,c,sm,j0,rfl⟩,fun i m σ' H' ⟨ρ',es',c',sm',p,hm⟩=>?_⟩;by_cases hi:i<ds.length
 ·obtain⟨hgo,hy⟩:=it.go (f.with D) H' i _ c'.env.fd sm' (uZ hi);refine .inr ⟨hgo,fun x H3 hx=>?_⟩;obtain⟨g3,r3⟩:=hy x H3 hx;have c3:=c'.go g3 (c'.env.mono g3);refine js i _ ρ' es' (uZ hi) p σ' H3 x _ c3.env r3 fun ρ2 σ2 H4 g4 e4 p4=>?_;have c4:=c3.go g4 e4;refine p4 σ2 H4 _ e4 fun b H5 g5 p5=>?_;have c5:=c4.go g5 (e4.mono g5);have sm5:=((sm'.trans g3.sm).trans g4.sm).trans g5.sm;cases b with
  | false =>
   rw [CS uT] at p5 ⊢;exact⟨m - 1,by omega,ρ2,es',c5,sm5,p5,by omega⟩
  | true =>
   rw [CT rfl] at p5 ⊢;exact p5 hD hM σ2 H5 H5 _ c5.self fun ρ6 es6 σ6 H6 c6 p6=>⟨m - 1,by omega,ρ6,es6,c5.trans c6,sm5.trans c6.sm,p6,by omega⟩
 ·have ei:i=ds.length:=by omega
  subst ei;exact .inl ⟨it.st (f.with D) H' c'.env.fd sm',hW ρ' es' σ' H' c' p⟩
def PEdO (K:uQ) (f:Fx) (te:TE) (ρ:zq) (P:List PyData->Prop):Prop:=∀ (σ:St) (H:Hp) (Q:VK),EnvOk K f ρ σ H ->
 (∀ es D vs H',Goes f H H'->H D=none->H' D=some (.lst vs)->Reps K (hide H' (f.with D)) es vs->P es->Q (.ref D) H')->te σ H Q
theorem PEdO.pedl {P:List PyData->Prop} (h:PEdO K f te ρ P):PEdL K f te ρ P:=fun σ H Q e q=>h σ H Q e fun es D vs H' g n h1 r p=>q es D vs H' g n h1 (Reps.mono vk es vs r) p
theorem PEdO.ped {P:PyData->Prop} (h:PEdO K f te ρ fun es=>P (.list es)):PEd K f te ρ P:=h.pedl.ped
theorem gP {P:List PyData->Prop} (h:P []):PEdO K f (kR jl) ρ P:=fun σ H Q e q=>⟨xA _,fun p hn=>q [] p [] _ (.of_same (yd hn _) e.fd) hn zr .nil' h⟩
theorem lz {own:Nat} {fr:List Nat} {tb:uR->TB} {P:List PyData->Prop} (h:PId K f wi ρ fun ds=>∃ Jv:Nat->zq->List PyData->Prop,Jv 0 (bJ own fr ρ) [] /\
   (∀ D (i:Nat) d ρ' es',ds[i]?=some d->Jv i ρ' es'->PGd K (f.with D) g d ρ' fun ρ2=>PTd K (f.with D) tt ρ2 fun b=>if b=true then PBd K f D (tb D) ρ2 es' (Jv (i+1)) else Jv (i+1) ρ2 es') /\
   ∀ ρ' es',Jv ds.length ρ' es'->P es'):PEdO K f (bG wi own fr g tt tb) ρ P:=fun σ H Q e q =>
 h σ H _ e fun ds J H1 g1 it ⟨Jv,j0,js,jd⟩ D hn=>by
  have nD:=fresh_ne g1.2 hn;have hD:f.f≠some D:=fun z=>nD (.inl z);have hM:D∉f.M:=fun z=>nD (.inr z);refine rV it hD hM (fJ hn (e.mono g1)) (vV hn) Jv j0 (js D) fun ρ' es' σ' H' c' p=>?_;obtain⟨ge,rep⟩:=lb (σ':=σ') hn g1.2 c';obtain⟨vs,h1,h2⟩:=c'.lst;exact q es' D vs H' (g1.trans ge) (g1.free e.fd hn) h1 h2 (jd ρ' es' p)
end
section
variable {K:uQ} {f:Fx} {ρ:zq} {D:uR} {wi:TI} {g:TG} {tt:TT} {te:TE}
def OwnE (own:Nat) (ρ0:zq) (ρ':zq):Prop:=∃ us:zq,us.length=own/\ρ'=us++ρ0
theorem OwnE.one {ρ0 ρ':zq} (h:OwnE 1 ρ0 ρ'):∃ u,ρ'=u :: ρ0:=by
 obtain⟨us,h1,rfl⟩:=h;rcases us with _ | ⟨u,_ | ⟨z,zs⟩⟩ <;> first | exact⟨_,rfl⟩ | (simp at h1)
theorem OwnE.mk1 {ρ0:zq} {u:Option DV}:OwnE 1 ρ0 (u :: ρ0):=⟨[u],rfl,rfl⟩
theorem vy {B:Bool->Prop} (h:B true):PTd K f tW ρ B:=fun σ H Q e q=>q true H (.refl e.fd) h
end
structure OEnds where
 nx:zq->List PyData->Prop
 rt:PyData->Prop
 bk:zq->List PyData->Prop:=fun _ _=>False
 ct:zq->List PyData->Prop:=fun _ _=>False
section
variable {K:uQ} {f:Fx} {ρ:zq} {D:uR} {wi:TI} {g:TG} {tt:TT} {te:TE} {ts tu:TS} {es:List PyData} {O:OEnds} {i:Nat}
noncomputable def jj (n:Nat):Option DV->Option DV
 | some (.own k)=>if k<n then some (.own k) else none
 | x=>x
end
section
variable {K:uQ} {f:Fx} {ρ:zq} {P:PyData->Prop} {te ta tb:TE} {t:TA}
theorem Reps.drop {H:Hp}:∀ {ds:List PyData} {xs:List V} (n:Nat),Reps K H ds xs->Reps K H (ds.drop n) (xs.drop n)
 | _,_,0,r=>r
 | [],xs,n+1,r=>by
  rw [zP.mp r];exact .nil'
 | d :: ds,xs,n+1,r=>by
  obtain⟨x,r',rfl,_,h⟩:=zy.mp r;exact Reps.drop n h
theorem Reps.take {H:Hp}:∀ {ds:List PyData} {xs:List V} (n:Nat),Reps K H ds xs->Reps K H (ds.take n) (xs.take n)
 | _,_,0,r=>.nil'
 | [],xs,n+1,r=>by
  rw [zP.mp r];exact .nil'
 | d :: ds,xs,n+1,r=>by
  obtain⟨x,r',rfl,h0,h⟩:=zy.mp r;exact .cons' h0 (Reps.take n h)
noncomputable def cutD (ds:List PyData) (lo hi:Option Int):List PyData:=(ds.drop (HT.sIx ds.length 0 lo)).take (HT.sIx ds.length ds.length hi - HT.sIx ds.length 0 lo)
theorem Reps.cut {H:Hp} {ds:List PyData} {xs:List V} {lo hi:Option Int} (r:Reps K H ds xs):Reps K H (cutD ds lo hi) (fq xs lo hi):=by
 unfold cutD fq;rw [r.length];exact (r.drop _).take _
theorem bK {ds:List PyData} {n:Nat}:cutD ds (some (n:Int)) none=ds.drop n:=by
 unfold cutD;rw [HT.sIx_nat,HT.sIx_none];by_cases h:n<=ds.length
 ·rw [B5 h];exact Az (by rw [xD];exact wc _)
 ·rw [Nat.min_eq_right (by omega),BY,List.take_zero,List.drop_eq_nil_of_le (by omega)]
def POd (K:uQ) (f:Fx) (t:TO) (ρ:zq) (R:Option Int->Prop):Prop:=∀ (σ:St) (H:Hp) (Q:Option Int->Hp->Prop),EnvOk K f ρ σ H->(∀ o H',Goes f H H'->R o->Q o H')->t σ H Q
theorem y9 {R:Option Int->Prop} (h:R none):POd K f gD ρ R:=fun σ H Q e q=>q none H (.refl e.fd) h
theorem yK {R:Option Int->Prop} (h:PEd K f te ρ fun d=>∃ i:Int,d=.int i/\R (some i)):POd K f (o8 te) ρ R:=fun σ H Q e q=>h σ H _ e fun d v H1 g1 r1 ⟨i,ed,p⟩=>by
 subst ed;exact⟨i,zp.mp r1,q (some i) H1 g1 p⟩
theorem tZ {tl th:TO} {P:List PyData->Prop} (h:PEd K f te ρ fun x=>∃ ds,x=.list ds/\POd K f tl ρ fun lo=>POd K f th ρ fun hi=>P (cutD ds lo hi)):PEdL K f (tSl (ny K) te tl th) ρ P:=fun σ H Q e q =>
 h σ H _ e fun x v H1 g1 r1 ⟨ds,ex,p1⟩=>p1 σ H1 _ (e.mono g1) fun lo H2 g2 p2=>p2 σ H2 _ ((e.mono g1).mono g2) fun hi H3 g3 p3=>by
  subst ex;have gg:=g1.trans (g2.trans g3);obtain⟨a,xs,rfl,h1,h2⟩:=zH.mp (Rep.mono (g2.trans g3).sm _ _ r1);refine⟨a,xs,rfl,(zo _ _).seq h1,fun p hn=>?_⟩;have g4:Goes f H3 (upd H3 p (.lst (fq xs lo hi))):=.of_same (yd hn _) g3.ok;exact q _ p _ _ (gg.trans g4) (gg.free e.fd hn) zr (Reps.mono g4.sm _ _ h2.cut) p3
theorem bL {tl th:TO} (h:PEd K f te ρ fun x=>∃ ds,x=.list ds/\POd K f tl ρ fun lo=>POd K f th ρ fun hi=>P (.list (cutD ds lo hi))):PEd K f (tSl (ny K) te tl th) ρ P:=(tZ h).ped
theorem fM (h:PAd K f t ρ fun xs=>(∃ i,xs=[.dat (.int i)]/\P (.int i)) \/ (∃ k:Bool,xs=[.dat (.bool k)]/\P (.int (if k then 1 else 0)))) :
  PEd K f (tCB (fun xs H Q=>(∃ i,xs=[.int i]/\Q (.int i) H) \/ ∃ k:Bool,xs=[.bl k]/\Q (.int (if k then 1 else 0)) H) t) ρ P :=
 iJ fun σ H Q e q=>h σ H Q e fun xs vs H' g r p=>by
  rcases p with⟨i,rfl,p⟩ | ⟨i,rfl,p⟩
  ·refine q _ vs H' g r ⟨_,rfl,fun vs H Q fo rs k=>?_⟩;obtain⟨x,r,rfl,h2,h3⟩:=zy.mp rs;rw [zP.mp h3,zp.mp h2];exact .inl ⟨i,rfl,k _ _ H (.refl fo) (zp.mpr rfl) p⟩
  ·refine q _ vs H' g r ⟨_,rfl,fun vs H Q fo rs k=>?_⟩;obtain⟨x,r,rfl,h2,h3⟩:=zy.mp rs;rw [zP.mp h3,zF.mp h2];exact .inr ⟨i,rfl,k _ _ H (.refl fo) (zp.mpr rfl) p⟩
end
noncomputable abbrev f0:Fx:=⟨none,[]⟩
theorem fok0 (H:Hp):FOk f0 H:=⟨(fun p e=>by cases e),(fun b hb=>by cases hb),(fun p e=>by cases e)⟩
theorem t4 {H H':Hp} (s:Same H H'):Goes f0 H H':=.of_same s (fok0 H)
theorem same0 {H H':Hp} (g:Goes f0 H H'):Same H H':=fun b o h=>(zC (g.sm b o (by rw [yX];exact h))).2
noncomputable def cW:Option DV->Option DV
 | some (.dat d)=>some (.dat d)
 | _=>none
section
variable {K:uQ} {ρ:zq} {te:TE} {tu:TS} {i:Nat}
theorem bM {p:uR} {σ:St} {H:Hp} (e:EnvOk K ⟨some p,[]⟩ ρ σ H):EnvOk K f0 (ρ.map cW) σ H:=by
 refine⟨by rw [uV];exact e.len,fun i x h=>?_,fok0 H⟩;rw [wj] at h;cases eq:ρ[i]? with
 | none=>rw [eq] at h;cases h
 | some y =>
  rw [eq] at h;cases y with
  | none=>cases h
  | some y =>
   obtain⟨v,h1,h2⟩:=e.get i y eq;cases y with
   | dat d =>
    cases h;refine⟨v,h1,?_⟩;show Rep K (hide H f0) d v;rw [yX];exact Rep.mono (zo _ _) d v h2
   | feed=>cases h
   | own k=>cases h
   | exc C=>cases h
   | mon φ=>cases h
theorem rW {Dn:DEnds} (h:∀ (σ:St) (H:Hp) (Q:VK),EnvOk K f0 ρ σ H->(∀ (p:uR) (x y:Int) (H':Hp),Same H H'->H p=none->H' p=some (.lst [.int x,.int y])->0<=x->0<=y->y<2147483647->Q (.ref p) H')->te σ H Q)
  (hr:∀ p,PSd K ⟨some p,[]⟩ tu (ρ.set i (some .feed)) { nx:=fun ρ'=>Dn.nx (ρ'.map cW),rt:=Dn.rt,bk:=fun ρ'=>Dn.bk (ρ'.map cW),ct:=fun ρ'=>Dn.ct (ρ'.map cW) }) :
  PSd K f0 (aY (vt te (qQ i)) tu) ρ Dn:=fun σ H E e n r b k=>h σ H _ e fun p x y H1 sm hn hp x0 y0 y1=>by
 have fo:FOk ⟨some p,[]⟩ H1:=⟨fun p' e=>by cases e;exact⟨x,y,hp,x0,y0,y1⟩,(fun b hb=>by cases hb),fun _ _ hb=>by cases hb⟩;have sm0:Same H (hide H1 ⟨some p,[]⟩):=fun b o hb=>by
  have nb:b≠p:=fun e=>by rw [e,hn] at hb;cases hb
  refine zA (fun z=>?_) (sm b o hb);rcases z with z | z
  ·cases z;exact nb rfl
  ·cases z
 have e1:EnvOk K ⟨some p,[]⟩ ρ σ H1:=by
  refine⟨e.len,fun j z hz=>?_,fo⟩;obtain⟨v,a1,a2⟩:=e.get j z hz;refine⟨v,a1,?_⟩;cases z with
  | dat d =>
   have a2':Rep K (hide H f0) d v:=a2;rw [yX] at a2';exact Rep.mono sm0 d v a2'
  | feed=>obtain⟨q,hq,_⟩:=a2;cases hq
  | own k=>obtain⟨q,hq,_⟩:=a2;cases hq
  | exc C =>
   obtain⟨q,h3,h4⟩:=a2;refine⟨q,h3,sm0 _ _ ?_⟩;rw [yX] at h4;exact h4
  | mon φ =>
   intro H' s;refine a2 H' (Same.trans ?_ s);rw [yX];exact sm0
 have gg:∀ {H':Hp},Goes ⟨some p,[]⟩ H1 H'->Goes f0 H H':=fun g=>t4 fun b o hb=>zo _ _ b o (g.sm b o (sm0 b o hb));refine hr p _ H1 E (e1.set i (x:=.feed) ⟨p,rfl,rfl⟩) (fun ρ' σ' H' g' e' p'=>n _ σ' H' (gg g') (bM e') p') (fun d v H' g' r' p'=>r d v H' (gg g') ?_ p') (fun ρ' σ' H' g' e' p'=>b _ σ' H' (gg g') (bM e') p') (fun ρ' σ' H' g' e' p'=>k _ σ' H' (gg g') (bM e') p');rw [yX];exact Rep.mono (zo _ _) d v r'
end
section
variable {X:Cx} {K:uQ}
def t5 (i j:Int):Prop:=0<j/\j<1152921504606846976
theorem dW:OpR X (binaryOp .FloorDiv) (rI t5 fun i j=>.int (i / j)):=opI fun i j _ _ _ _ _ hc q=>by
 obtain⟨h1,h2⟩:=hc;rw [<-Int.fdiv_eq_ediv_of_nonneg i (Int.le_of_lt h1)] at q;refine floordiv_int (by omega) q (.inl (PyProof.noPylong_of_log2 ?_));have h0:j.natAbs≠0:=by omega
 have:j.natAbs.log2<60:=(Nat.log2_lt h0).mpr (by omega);omega
theorem qg (hK:X.K=K):SlR X (ny K):=hK▸nz
end
section
variable {K:uQ} {f:Fx} {ρ:zq} {wi:TI} {g:TG} {tt:TT} {own:Nat} {fr:List Nat} {tb:uR->TB} {P:List PyData->Prop}
theorem qX {α:Type} {A B:α->PyData} (xs:List α) (h:PId K f wi ρ fun ds=>ds=xs.map A/\xs.length<=1000 /\
   (∀ D x ρ' es,x∈xs->OwnE own (frD fr ρ) ρ'->es.length<1000->PGd K (f.with D) g (A x) ρ' fun ρ2=>PTd K (f.with D) tt ρ2 fun b=>if b=true then PBd K f D (tb D) ρ2 es fun ρ3 es3=>OwnE own (frD fr ρ) ρ3/\es3=es++[B x] else False)/\P (xs.map B)) :
  PEdO K f (bG wi own fr g tt tb) ρ P :=
 lz (h.imp fun ds ⟨ed,hl,hs,hp⟩=>by
  subst ed;refine⟨fun i ρ' es=>OwnE own (frD fr ρ) ρ'/\es=(xs.take i).map B,⟨⟨xH own none,by simp,rfl⟩,by simp⟩,fun D i d ρ' es hd ⟨ho,he⟩=>?_,fun ρ' es ⟨_,he⟩=>?_⟩
  ·rw [wj] at hd;cases eq:xs[i]? with
   | none=>rw [eq] at hd;cases hd
   | some x =>
    rw [eq] at hd;cases hd;have hi:i<xs.length:=(uY.mp eq).1;have hb:es.length<1000:=by
     rw [he,uV,xg];omega
    intro σ H v Q e r q;refine hs D x ρ' es (wM eq) ho hb σ H v Q e r fun ρ2 σ2 H2 g2 e2 p2=>q ρ2 σ2 H2 g2 e2 (p2.imp fun b hb2=>?_);cases b with
    | false =>
     rw [CS uT] at hb2;exact hb2.elim
    | true =>
     rw [CT rfl] at hb2 ⊢;intro h1 h2 σ3 H3 H4 W c k;exact hb2 h1 h2 σ3 H3 H4 W c fun ρ5 es5 σ5 H5 c5 ⟨o5,p5⟩=>k ρ5 es5 σ5 H5 c5 ⟨o5,by rw [p5,he,AH,eq,wO];rfl⟩
  ·rw [he,uV,AW];exact hp)
end
structure XLie (P:Program) (w:World) (outer:List Env) (H:Hp) (s:Shared) (e:uR) (C:Value) (H':Hp) (s':Shared):Prop where
 os:s'.os=s.os
 bare:AllBare s'.gens
 un:Un (frs outer) [] H H' s.heap s'.heap
 hok:HOk P w H' s'.heap
 fly:∃ B a0,BZ B outer e C a0 s'.heap/\(∀ b o,s.heap.get? b=some o->b∉frs outer->∃ o',B.get? b=some o')/\∀ b o,H' b=some o->∃ o',B.get? b=some o'
 new:s.heap.get? e=none
 free:H' e=none
def CXe (P:Program) (w:World):CXT:=fun outer H s E e s'=>∃ a C H',e=.ref a/\XLie P w outer H s a C H' s'/\E C none H'
section
variable {P:Program} {w:World} {H H':Hp} {h h':Heap}
theorem ObjOk.is {a:uR} {o:HO} (x:ObjOk P w H h a o):∃ u,h.get? a=some u:=by
 induction o with
 | lst xs=>obtain⟨_,_,_,_,e⟩:=x;exact⟨_,e⟩
 | tup xs=>obtain⟨_,_,_,ob,e,_⟩:=x;exact⟨_,e⟩
 | dK kvs=>obtain⟨_,_,_,_,o,_,_,e,_⟩:=x;exact⟨_,e⟩
 | dT kvs=>obtain⟨_,_,_,_,o,_,_,e,_⟩:=x;exact⟨_,e⟩
 | set S n=>obtain⟨o,_,_,_,e,_⟩:=x;exact⟨_,e⟩
 | ins C dx fs=>obtain⟨_,_,_,e,_⟩:=x;exact⟨_,e⟩
 | own y=>exact x
 | xd fs=>obtain⟨_,⟨o,_,_,e,_⟩,_⟩:=x;exact⟨_,e⟩
 | rng lo hi=>obtain⟨_,_,_,e⟩:=x;exact⟨_,e⟩
 | frz ob u ih=>exact⟨_,x.1⟩
 | tbl ps=>obtain⟨_,e,_⟩:=x;exact⟨_,e⟩
 | met f y=>exact⟨_,x⟩
 | ext φ=>exact x.2.1
theorem HOk.stays (x:HOk P w H h) (k:∀ b o u,H b=some o->h.get? b=some u->h'.get? b=some u):HOk P w H h':=fun a o e =>
 (x a o e).stay (fun b u hb q=>by
  rcases hb with rfl | hb
  ·exact k b o u e q
  ·exact k b _ u hb q) (fun _ q=>q) fun _ _ q=>q
end
section
variable {X:Cx} {CQ:List (uR×Obj)} {σ:St} {H H':Hp} {s s':Shared} {a:uR} {C:Value} {outer:List Env}
theorem Inv.old_ne (I:Inv X CQ σ H s) (hst:X.stack=X.env :: X.outer) (hf:X.env.frame=some X.env.locals) {b:uR} {o:Obj} (q:X.s₀.heap.get? b=some o) (hb:b∉frs X.outer):b∉frs X.stack:=fun z=>by
 rw [hst] at z;unfold frs at z;rw [xO,hf] at z;rcases u6.mp z with z | z
 ·have h1:b<X.s₀.heap.objs.size:=u5 q;rw [z] at h1;exact absurd h1 (BX.mpr I.ok.above)
 ·exact hb z
theorem lA {E:Value->Shared->Prop} (I:Inv X CQ σ H s) (hst:X.stack=X.env :: X.outer) (hf:X.env.frame=some X.env.locals) (hex:X.ex=[]) (x:XLie X.prog X.w X.stack H s a C H' s') :
  wb (model X.prog X.w) X.A (leaving X.env (.ref a)) (fun _ s''=>XLie X.prog X.w X.outer X.H₀ X.s₀ a C H' s'') E s':=by
 obtain⟨B,a0,fl,dom,trk⟩:=x.fly;have J:Inv X CQ σ H' s':=I.call' x.os x.un x.hok x.bare (fun b z=>absurd z (by simp));have hfl:=fl;rw [hst] at hfl;refine wpAny_leaves_onW (by rw [I.ok.frames,hst]) hf hfl fun h' fl' up=>?_;have inB:∀ b o,X.s₀.heap.get? b=some o->b∉frs X.outer->∃ o',B.get? b=some o':=fun b o q hb=>by
  obtain⟨o1,q1⟩:=I.base.there b o q (by rw [hex];simp);exact dom b o1 q1 (I.old_ne hst hf q hb)
 have eqB:∀ b o o',B.get? b=some o'->s'.heap.get? b=some o->h'.get? b=some o:=fun b o o' hb q=>by
  have:=fl.1 b o' hb;rw [q] at this;cases this;exact fl'.1 b o hb
 have noF:∀ b o,b∈frs X.outer->s'.heap.get? b=some o->∀ vs,o.data≠.fields vs:=fun b o hb q=>by
  obtain⟨_,o1,q1,hd⟩:=J.stack.mem (b:=b) (by
   show b∈frs X.stack;rw [hst];unfold frs;rw [xO,hf];exact uW _ hb)
  rw [q] at q1;cases q1;exact hd
 have ex0:∀ b:uR,b∉X.ex:=fun b=>by rw [hex];simp
 refine⟨x.os.trans I.os,x.bare,⟨fun b o q n hb _=>?_,fun b o q n hb _=>?_,fun b o q n _=>J.base.free b o q n (ex0 b),fun b o q _=>?_,J.base.tups,J.base.frzs,J.base.tbls⟩,?_,⟨B,a0,fl',inB,trk⟩,?_,x.free⟩
 ·obtain⟨o',hB⟩:=inB b o q hb;exact eqB b o o' hB (J.base.keep b o q n hb (ex0 b))
 ·obtain⟨sl,q1⟩:=J.base.slot b o q n hb (ex0 b);obtain⟨sl',q2⟩:=up b _ q1 (noF b _ hb q1);exact⟨sl',q2⟩
 ·obtain⟨o1,q1⟩:=J.base.there b o q (ex0 b);by_cases hb:b∈frs X.outer
  ·obtain⟨sl',q2⟩:=up b _ q1 (noF b _ hb q1);exact⟨_,q2⟩
  ·obtain⟨o',hB⟩:=inB b o q hb;exact⟨_,fl'.1 b o' hB⟩
 ·refine HOk.stays x.hok fun b o u e q=>?_;obtain⟨o',hB⟩:=trk b o e;exact eqB b u o' hB q
 ·cases q:X.s₀.heap.get? a with
  | none=>rfl
  | some o =>
   obtain⟨o1,q1⟩:=I.base.there a o q (ex0 a);rw [x.new] at q1;cases q1
end
end L2
end
section
namespace L2
open PySem PySem.Spec PyProof.Rows
section
variable {X:Cx} {CQ:List (uR×Obj)} {σ:St} {H H' H1 H2:Hp} {s s' s1 s2:Shared} {a:uR} {C:Value} {i j:Nat}
theorem rX {M:Model} {A:Around} {E:Value->Shared->Prop} {x:Str} {v:V} {Q:Unit->Shared->Prop} (I:Inv X CQ σ H s) (hN:X.N.Nodup) (hi:X.N[i]?=some x) (hk:X.env.scope.names.lookup x=some .local) (hv:σ[i]?=some (some v))
  (h:∀ s',Inv X CQ (σ.set i none) H s'->Q () s'):wb M A (unbindName X.env x) Q E s:=by
 obtain⟨m,hn,hl⟩:=id I.loc;obtain⟨u,r,lk⟩:=hl i x v hi hv (.inl hk);have hm:m x=some u:=by
  rcases lk with⟨_,e⟩ | ⟨z,_⟩
  ·exact e
  ·rcases z with z | z
   ·have z':X.env.scope.names.lookup x=some .cell:=z;rw [hk] at z';cases z'
   ·have z':X.env.scope.names.lookup x=some .free:=z;rw [hk] at z';cases z'
 have plain:(X.env.scope.kind == .class
   || (X.env.scope.kind == .module
    && X.env.locals != X.env.globals))=false:=by
  rw [I.ok.kind];rfl
 have cne:=I.cne;refine wpAny_unbindName_local hk hn hm plain fun h' w hn' hs=>?_;have old:∀ {b:uR} {o:Obj},X.s₀.heap.get? b=some o->b≠X.env.locals:=fun {b o} e=>wC (wm (u5 e) I.ok.above);refine h _ ⟨I.ok,I.os,I.bare,⟨fun b o e n hb hx=>(hs.2 b (old e)).trans (I.base.keep b o e n hb hx),fun b o e n hb hx=>?_,I.base.free,fun b o e hx=>?_,I.base.tups,I.base.frzs,I.base.tbls⟩,⟨_,hn',fun q y v' e1 e2 e3=>?_⟩,fun y c e=>?_,I.free,I.freeC,fun p hp=>?_,?_,by rw [xM];exact I.len⟩
 ·obtain⟨sl,e1⟩:=I.base.slot b o e n hb hx;exact⟨sl,(hs.2 b (old e)).trans e1⟩
 ·obtain⟨o',e1⟩:=I.base.there b o e hx;exact⟨o',(hs.2 b (old e)).trans e1⟩
 ·by_cases hj:q=i
  ·subst hj;rw [List.getElem?_set] at e2;rw [CT rfl] at e2;split at e2 <;> cases e2
  ·rw [xG (x6 hj)] at e2;obtain⟨u',r',z⟩:=hl q y v' e1 e2 e3;refine⟨u',r',?_⟩;rcases z with⟨k,e⟩ | ⟨k,c,e,z⟩
   ·refine .inl ⟨k,?_⟩;have:y≠x:=fun e=>hj (bu hN e1 (e▸hi));show (if y=x then w else m y)=some u';rw [CS this];exact e
   ·exact .inr ⟨k,c,e,z.sameBut hs (cne y c e)⟩
 ·obtain⟨w',z⟩:=I.cell y c e;exact⟨w',z.sameBut hs (cne y c e)⟩
 ·obtain⟨e,n,ne,nf,d⟩:=I.pin p hp;exact⟨(hs.2 p.1 ne).trans e,n,ne,nf,d⟩
 ·refine HOk.stays I.hok fun b o u e q=>(hs.2 b ?_).trans q;rintro rfl;rw [I.free] at e;cases e
noncomputable def Cx.marked (X:Cx) (e:Value):Cx:={ X with A:=X.A.mark (some e),calm:=false,xe:=fun _ _=>False }
theorem Cx.Ok.marked (ok:X.Ok) (e:Value):(X.marked e).Ok :=
 ⟨ok.mod,ok.kind,ok.glob,ok.blt,ok.above,ok.inj,ok.has,ok.cab,(fun z=>by cases z),ok.frames,ok.stk,ok.exf,ok.bs,ok.bsz,ok.noex,ok.exfs,ok.funs,ok.frf,ok.tabs⟩
theorem Inv.marked (I:Inv X CQ σ H s) (e:Value):Inv (X.marked e) CQ σ H s:=⟨I.ok.marked e,I.os,I.bare,I.base,I.loc,I.cell,I.free,I.freeC,I.pin,I.hok,I.len⟩
theorem Inv.unmarked {e:Value} (ok:X.Ok) (I:Inv (X.marked e) CQ σ H s):Inv X CQ σ H s:=⟨ok,I.os,I.bare,I.base,I.loc,I.cell,I.free,I.freeC,I.pin,I.hok,I.len⟩
theorem XLie.move {P:Program} {w:World} {outer:List Env} {B:Heap} {a0:Value} {h'':Heap} (x:XLie P w outer H s a C H' s') (fl:BZ B outer a C a0 s'.heap) (dom:∀ b o,s.heap.get? b=some o->b∉frs outer->∃ o',B.get? b=some o')
  (trk:∀ b o,H' b=some o->∃ o',B.get? b=some o') (st:B.StaysIn h'') (up:s'.heap.UpToSlots h''):Un (frs outer) [] H H' s.heap h''/\HOk P w H' h'':=by
 have eqB:∀ b o o',B.get? b=some o'->s'.heap.get? b=some o->h''.get? b=some o:=fun b o o' hb q=>by
  have:=fl.1 b o' hb;rw [q] at this;cases this;exact st b o hb
 have noF:∀ b o,b∈frs outer->s'.heap.get? b=some o->∀ vs,o.data≠.fields vs:=fun b o hb q=>by
  obtain⟨_,o1,q1,hd⟩:=fl.2.2.1.mem hb;rw [q] at q1;cases q1;exact hd
 refine⟨⟨fun b o q n hb z=>?_,fun b o q n hb z=>?_,x.un.free,fun b o q z=>?_,x.un.tups,x.un.frzs,x.un.tbls⟩,HOk.stays x.hok fun b o u e q=>?_⟩
 ·obtain⟨o',hB⟩:=dom b o q hb;exact eqB b o o' hB (x.un.keep b o q n hb z)
 ·obtain⟨sl,q1⟩:=x.un.slot b o q n hb z;obtain⟨sl',q2⟩:=up b _ q1 (noF b _ hb q1);exact⟨sl',q2⟩
 ·by_cases hb:b∈frs outer
  ·obtain⟨o1,q1⟩:=x.un.there b o q z;obtain⟨sl',q2⟩:=up b _ q1 (noF b _ hb q1);exact⟨_,q2⟩
  ·obtain⟨o',hB⟩:=dom b o q hb;exact⟨_,st b o' hB⟩
 ·obtain⟨o',hB⟩:=trk b o e;exact eqB b u o' hB q
end
noncomputable def cX (D:Ends) (j:Nat):Ends where
 nx:=fun σ H=>D.nx (σ.set j none) H
 rt:=D.rt
 bk:=fun σ H=>D.bk (σ.set j none) H
 ct:=fun σ H=>D.ct (σ.set j none) H
section
variable {X:Cx} {CQ:List (uR×Obj)} {σ:St} {H H1 H2:Hp} {s s1 s2:Shared} {a C0:uR} {C:Value} {i j:Nat} {n hx:Str} {b0:Stmt} {suite:List Stmt} {hp hpos:Pos} {ts:TS} {D:Ends}
theorem cY {M:Model} {A:Around} {E:Value->Shared->Prop} {Q:Unit->Shared->Prop} (I:Inv X CQ σ H s) (hN:X.N.Nodup) (hj:X.N[j]?=some n) (hn:X.env.scope.names.lookup n=some .local) (h:∀ s',Inv X CQ (σ.set j none) H s'->Q () s') :
  wb M A (do bindName X.env n .none;unbindBehindTheSuite X.env n hpos) Q E s:=by
 refine uS (wpAny_bindName (qN (v:=.non) I hN hj (.inl hn) rfl (fun s' I'=>?_) (.inr hn)));unfold unbindBehindTheSuite;refine wpAny_onRaise (rX (v:=.non) I' hN hj hn ?_ fun s'' I''=>?_)
 ·have:j<σ.length:=by rw [I.len];exact (uY.mp hj).1
  rw [xw this]
 ·rw [List.set_set] at I'';exact h s'' I''
end
end L2
end
section
namespace L2
open PySem PySem.Spec PySem.W PyProof.Rows PySem.Calls PySem.Builtin Builtin Builtin.ObjectAttr Builtin.Getset_descriptor
section
variable {prog:Program} {w:World} {A:Around} {E:Value->Shared->Prop} {s:Shared} {K:uQ} {a C:uR}
structure ExcWays (K:uQ) (C:uR):Prop where
 ga:findIn K (.ref C) "__getattribute__"=some (some (.builtin "BaseException.__getattribute__"))
 gt:findIn K (.ref C) "__getattr__"=some none
 cl:findIn K (.ref C) "__class__"=some (some (.builtin "object.__class__"))
 gs:specialIn K (.builtin "object.__class__") "__get__"=some (some (.builtin "getset_descriptor.__get__"))
 tk:takesIn K (.builtin "object.__class__")=some true
 ob:mroIn K C (.type "object")=some true
 be:mroIn K C (.type "BaseException")=some true
 iz:(clsIn K C).isSome=true
def aS (a C:uR) (h:Heap):Prop:=∃ o,h.get? a=some o/\o.cls=.ref C
theorem qY {M:Model} {h:Heap} (x:aS a C h):Looks M h (typeOf (.ref a)) (.ref C):=by
 obtain⟨o,h1,h2⟩:=x;exact h2▸(Looks.ld h1).andThen .now
theorem iL {M:Model} {h:Heap} {x:Value} {nm:Str} {d g:Value} (X:K.In h) (h1:findIn K (.ref C) nm=some (some d)) (h2:specialIn K d "__get__"=some (some g)) (h3:takesIn K d=some true):Looks M h (find x (.ref C) nm) (.bind g d):=by
 have L1:=looks_findIn (M:=M) X h1;have L2:Looks M h (getOf (some d)) (some g):=looks_specialIn X h2;have L3:Looks M h (dataDescriptor? (some d) (some g)) (some (g,d)):=(looks_takesIn (M:=M) X h3).andThen .now;exact L1.andThen (L2.andThen (L3.andThen (Looks.tag .now)))
theorem fN {R:Result->Shared->Prop} {tp:Value} (X:K.In s.heap) (I:aS a C s.heap) (hm:mroIn K C (.type "object")=some true) (h:R (.ok (.ret (.ref C))) s) :
  codeAny (model prog w) A (.call (.builtin "getset_descriptor.__get__") ⟨[.builtin "object.__class__",.ref a,tp],[]⟩) R s:=by
 obtain⟨hh,g,dr,t,os⟩:=s;have L0:=qY (M:=model prog w) I;have L1:=looks_mroIn (M:=model prog w) X hm;refine codeAny_call_builtin KF.slot_gs.plain KF.entry_gs (KF.slot_gs.check _ _ _ _ _ _ _ _ KF.type_class (KF.args_gs _ _ _) ?_);unfold Builtin.«getset_descriptor.__get__» descrGet;rw [dga_obj];refine uS (wa ?_);unfold descrGetter descrCheckInstance descrNameAndClass isInstance;simp only [KF.owner_class]
 repeat lk
 refine⟨BF _ (by decide +kernel),codeAny_builtin KF.entry_class ?_⟩;unfold Builtin.«object.__class__» shownTypeOf
 repeat lk
 exact h
theorem dY {M:Model} {nameV:Value} {Q:Unit->Shared->Prop} (X:K.In s.heap) (I:aS a C s.heap) (Wy:ExcWays K C) (h:Q () s):wb M A (checkBuiltinCall "BaseException.__getattribute__" ⟨[.ref a,nameV],[]⟩) Q E s:=by
 obtain⟨hh,g,dr,t,os⟩:=s;have hk:builtinKind "BaseException.__getattribute__"=some .slot:=by decide +kernel
 have hsp:splitId "BaseException.__getattribute__"=some ("BaseException","__getattribute__"):=by decide +kernel
 have L0:=qY (M:=M) I;have L1:=looks_mroIn (M:=M) X Wy.be;have ha:=F.args_bexc_ga (.ref a) nameV;simp only [checkBuiltinCall,hk,hsp];unfold isInstance;refine uS (uS (L0.at (L1.at ?_)));rw [xh,CS uT];exact wpAny_of_eq ha h
theorem nI {Q:Option Value->Shared->Prop} (X:K.In s.heap) (I:aS a C s.heap) (Wy:ExcWays K C) (h:Q (some (.ref C)) { s with toks:=s.toks+1 }):wb (model prog w) A (getAttr? (.ref a) "__class__") Q E s:=by
 obtain⟨hh,g,d,t,os⟩:=s;have L0:=qY (M:=model prog w) I;have L1:=looks_findIn (M:=model prog w) X Wy.ga;have L2:=looks_findIn (M:=model prog w) X Wy.gt;unfold getAttr? getAttrBy? getAttrBy;refine uS (wpAny_mkText (uS (Bp (xl (uS (L0.at (uS (L1.at ?_))))))));dsimp only;rw [CS (by
  have z:(Value.builtin "BaseException.__getattribute__" == Value.builtin "object.__getattribute__")=false:=by decide +kernel
  rw [z,BG];exact uT)]
 unfold getAttrByItsOwn hookBefore;rw [CT (show onTheHeap (Value.ref C)=true from rfl)];refine uS (L2.at (uS (Bp (xl ?_))));unfold callGetattribute;rw [AL,CS uT];unfold boundAndCalled;have f3:=Cj.ga.bind (.ref a);rw [f3];refine uS (wa ?_);dsimp only;refine wpAny_call (codeAny_call_builtin Cj.ga.plain F.entry_bexc_ga (dY (K:=K) (C:=C) X I Wy ?_));have LF:=iL (M:=model prog w) (x:=.ref a) X Wy.cl Wy.gs Wy.tk;unfold Builtin.«object.__getattribute__»;refine uS (wpAny_of_eq (a:=(Value.ref a,[Value.str (w6 "__class__") t])) rfl ?_);dsimp only;refine uS (wpAny_of_eq (a:=(w6 "__class__")) rfl ?_);refine uS (L0.at (uS (LF.at ?_)));dsimp only;unfold bindTo;refine uS (wpAny_call (fN (K:=K) X I Wy.ob ?_));show wb _ _ (pure _) _ _ _;refine wa ?_;dsimp only;exact handed_on rfl (wa h)
theorem lB (Wy:ExcWays K C):KitX K (.ref a) (.ref C) (aS a C) where
 ty:=fun _ _ _ I=>qY I
 it:=fun _ _ X _=>by
  obtain⟨cd,hc⟩:=xE.mp Wy.iz;unfold clsIn at hc;split at hc
  ·rename_i lk;intro A' Q' E' s' k q;unfold isType loadHead;exact uS (wpAny_loadPart (k _ _ (X _ _ lk)) (wa q))
  ·cases hc
 ne:=fun h tp dd its n sl X htp=>by
  obtain⟨cd,hc⟩:=xE.mp Wy.iz;refine Bool.eq_false_iff.mpr fun q=>?_;have e:C=tp:=Value.ref.inj (beq_iff_eq.mp q);unfold clsIn at hc;split at hc
  ·rename_i lk;have z:=X _ _ lk;rw [e] at z;rw [htp] at z;cases z
  ·cases hc
 ca:=fun X I k=>nI X I Wy k
end
structure FnInX (P:Program) (w:World) (K:uQ) (mg:Str->Option Value) (base:Heap) (k:Nat) (x:Str) (ps:List Str) (sp:Sp):Prop where
 ex:∃ (f:uR) (fd:FuncData),FnOk P w K mg base (CXe P w) k f fd ps sp/\mg x=some (.ref f)/\wF K (.ref f)=true/\Binds K fd ps []
end L2
end
section
namespace L2
open PySem PySem.Spec PyProof.Rows
def rY (K:uQ):List V->Hp->VK->Prop:=fun xs H Q=>∃ (a:uR) (bs:List Bool),xs=[.ref a]/\SqL K H a (bs.map V.bl)/\Q (.bl (bs.all id)) H
def nJ (K:uQ):List V->Hp->VK->Prop:=fun xs H Q=>∃ (a:uR) (bs:List Bool),xs=[.ref a]/\SqL K H a (bs.map V.bl)/\Q (.bl (bs.any id)) H
theorem vY:∀ {bs:List Bool} {us:List Value},Vals (bs.map V.bl) us->us=bs.map Value.bool
 | [],us,r=>by
  cases r;rfl
 | b :: bs,us,r=>by
  cases r with
  | cons h t =>
   rw [vY t];cases (show _=Value.bool b from h);rfl
theorem range_all (bs:List Bool):(BB bs.length).all (fun i=>bs.getD i false)=bs.all id:=by
 rw [AD,w4,w4];constructor
 ·intro h b hb;obtain⟨i,hi,rfl⟩:=Ck.mp hb;have:=h i (Ao.mpr hi)
  rwa [w5,uZ hi] at this
 ·intro h i hi;have hi':=Ao.mp hi;rw [w5,uZ hi'];exact h _ (xV hi')
theorem range_any (bs:List Bool):(BB bs.length).any (fun i=>bs.getD i false)=bs.any id:=by
 rw [AD,BS,BS];constructor
 ·rintro⟨i,hi,h⟩;have hi':=Ao.mp hi;rw [w5,uZ hi'] at h;exact⟨_,xV hi',h⟩
 ·rintro⟨b,hb,h⟩;obtain⟨i,hi,rfl⟩:=Ck.mp hb;refine⟨i,Ao.mpr hi,?_⟩;rw [w5,uZ hi];exact h
theorem qZ (prog:Program) (w:World) (A:Around) (bs:List Bool):TruthOf prog w A (fun i v=>(bs.map Value.bool).toArray[i]?=some v) (fun i=>bs.getD i false):=by
 intro i v s Q E hv hq;rw [List.getElem?_toArray,wj] at hv;cases eb:bs[i]? with
 | none=>rw [eb] at hv;cases hv
 | some b =>
  rw [eb] at hv;cases hv;dsimp only at hq;rw [w5,eb] at hq;exact wa hq
theorem iM {X:Cx} (hc:X.calm=true):yA X (.builtin "all") (rY X.K):=by
 intro CQ s σ H xs us Q I r h;obtain⟨a,bs,rfl,hq,q⟩:=h;obtain⟨u,rfl,r1⟩:=vals1 r;cases r1;obtain⟨its,rv,p,_⟩:=I.list hq;have hl:=p.isList;rw [vY rv] at hl;have ha:a<s.heap.objs.size:=by
  obtain⟨o,ho,_⟩:=hl;exact u5 ho
 refine call_all_walk (wpAny_pyIter_list hl ?_);have hne:a≠s.heap.objs.size:=wC ha;refine⟨s.heap.objs.size,_,_,_,_,_,_,rfl,Walks.list (show (X.A.in1).handled=none from I.ok.hd hc) _ a hne _,⟨?_,?_⟩,qZ _ _ _ bs,fun h' tk hk=>?_⟩
 ·exact⟨_,wk _ rfl,rfl,rfl⟩
 ·exact hl.at fun o e=>uX _ e
 ·have kp:∀ b o,s.heap.get? b=some o->h'.get? b=some o:=fun b o e=>hk b o (by
   intro z;have:=u5 e;rw [u7.mp z] at this;exact xU _ this) (uX _ e)
  refine⟨.bl _,H,I.kept (t':=tk) kp,?_,q⟩;show Value.bool _=Value.bool _;rw [wo,uV,range_all]
theorem iN {X:Cx} (hc:X.calm=true):yA X (.builtin "any") (nJ X.K):=by
 intro CQ s σ H xs us Q I r h;obtain⟨a,bs,rfl,hq,q⟩:=h;obtain⟨u,rfl,r1⟩:=vals1 r;cases r1;obtain⟨its,rv,p,_⟩:=I.list hq;have hl:=p.isList;rw [vY rv] at hl;have ha:a<s.heap.objs.size:=by
  obtain⟨o,ho,_⟩:=hl;exact u5 ho
 refine call_any_walk (wpAny_pyIter_list hl ?_);have hne:a≠s.heap.objs.size:=wC ha;refine⟨s.heap.objs.size,_,_,_,_,_,_,rfl,Walks.list (show (X.A.in1).handled=none from I.ok.hd hc) _ a hne _,⟨?_,?_⟩,qZ _ _ _ bs,fun h' tk hk=>?_⟩
 ·exact⟨_,wk _ rfl,rfl,rfl⟩
 ·exact hl.at fun o e=>uX _ e
 ·have kp:∀ b o,s.heap.get? b=some o->h'.get? b=some o:=fun b o e=>hk b o (by
   intro z;have:=u5 e;rw [u7.mp z] at this;exact xU _ this) (uX _ e)
  refine⟨.bl _,H,I.kept (t':=tk) kp,?_,q⟩;show Value.bool _=Value.bool _;rw [wo,uV,range_any]
theorem aB {X:Cx} {K:uQ} (hK:X.K=K) (hc:X.calm=true):yA X (.builtin "all") (rY K):=hK▸iM hc
theorem iO {X:Cx} {K:uQ} (hK:X.K=K) (hc:X.calm=true):yA X (.builtin "any") (nJ K):=hK▸iN hc
section
variable {K:uQ} {f:Fx} {ρ:zq} {P:PyData->Prop} {te:TE}
theorem qu {H:Hp}:∀ {bs:List Bool} {xs:List V},Reps K H (bs.map .bool) xs->xs=bs.map V.bl
 | [],xs,r=>zP.mp r
 | b :: bs,xs,r=>by
  obtain⟨x,r',rfl,h1,h2⟩:=zy.mp r;rw [qu h2,zF.mp h1];rfl
theorem lC (h:PEd K f te ρ fun x=>∃ bs:List Bool,x=.list (bs.map .bool)/\P (.bool (bs.all id))):PEd K f (tCB (rY K) (z9 te jl)) ρ P:=fun σ H Q e q=>h σ H _ e fun x v H1 g1 r1 ⟨bs,ex,p⟩=>by
 subst ex;obtain⟨a,xs,rfl,h1,h2⟩:=zH.mp r1;rw [qu h2] at h1;exact⟨a,bs,rfl,(zo _ _).seq h1,q _ _ H1 g1 (zF.mpr rfl) p⟩
theorem t6 (h:PEd K f te ρ fun x=>∃ bs:List Bool,x=.list (bs.map .bool)/\P (.bool (bs.any id))):PEd K f (tCB (nJ K) (z9 te jl)) ρ P:=fun σ H Q e q=>h σ H _ e fun x v H1 g1 r1 ⟨bs,ex,p⟩=>by
 subst ex;obtain⟨a,xs,rfl,h1,h2⟩:=zH.mp r1;rw [qu h2] at h1;exact⟨a,bs,rfl,(zo _ _).seq h1,q _ _ H1 g1 (zF.mpr rfl) p⟩
end
def rZ (K:uQ) (neg:Bool):R2:=fun x y H Q=>∃ d ds,Rep K H d x/\Rep K H (.list ds) y/\d.canLay0=true/\(∀ e∈ds,e.canLay0=true)/\d.depth<=50/\Q (.bl (if neg then !ds.any (fun e=>xu e d) else ds.any (fun e=>xu e d))) H
open Classical in
noncomputable def eqR (h:Heap) (d:PyData) (u:Value):Bool:=if z:∃ e as,Reads h u e as/\e.canLay0=true then xu z.choose d else false
theorem lD {h:Heap} {d e:PyData} {u:Value} {as:List uR} (r:Reads h u e as) (c:e.canLay0=true):eqR h d u=xu e d:=by
 have z:∃ e as,Reads h u e as/\e.canLay0=true:=⟨e,as,r,c⟩;unfold eqR;rw [dif_pos z];obtain⟨as',r',c'⟩:=z.choose_spec;rw [SeqAt.Reads.unique _ _ _ _ _ c' r' r]
section
variable {X:Cx} {CQ:List (uR×Obj)} {σ:St} {H:Hp} {s:Shared}
theorem gQ (I:Inv X CQ σ H s) {d:PyData}:∀ {ds:List PyData} {xs:List V} {us:List Value},Reps X.K H ds xs->Vals xs us->(∀ e∈ds,e.canLay0=true)->us.any (eqR s.heap d)=ds.any (fun e=>xu e d)
 | [],xs,us,r,v,_=>by
  rw [zP.mp r] at v;cases v;rfl
 | e :: ds,xs,us,r,v,c=>by
  obtain⟨x,xs',rfl,h1,h2⟩:=zy.mp r;cases v with
  | cons r1 r2 =>
   obtain⟨as,ra⟩:=jn I e x _ h1 r1;rw [CC,CC,lD ra (c e u3),gQ I h2 r2 fun e he=>c e (uW _ he)]
theorem dZ (I:Inv X CQ σ H s) {A:Around} {d:PyData} {v:Value} {bs:List uR} (rb:Reads s.heap v d bs) (cd:d.canLay0=true) (dd:d.depth<=50) (hu:A.units+60<Cr):∀ {ds:List PyData} {xs:List V} {us:List Value},Reps X.K H ds xs->Vals xs us->(∀ e∈ds,e.canLay0=true)->∀ u∈us,SeqAt.EqAt A s u v (eqR s.heap d u)
 | [],xs,us,r,w,_=>by
  rw [zP.mp r] at w;cases w;intro u hu;cases hu
 | e :: ds,xs,us,r,w,c=>by
  obtain⟨x,xs',rfl,h1,h2⟩:=zy.mp r;cases w with
  | cons r1 r2 =>
   intro u hm;rcases u6.mp hm with rfl | hm
   ·obtain⟨as,ra⟩:=jn I e x _ h1 r1;rw [lD ra (c e u3)];refine SeqAt.eqAt_reads e d A s _ v as bs ra rb (c e u3) cd ?_;have:=xW e.depth d.depth;omega
   ·exact dZ I rb cd dd hu h2 r2 (fun e he=>c e (uW _ he)) u hm
theorem r6 (hu:X.A.units+64<Cr):OpR X (xm .In) (rZ X.K false):=by
 intro CQ s σ H x y v u Q I rx ry h;obtain⟨d,ds,h1,h2,c1,c2,dd,q⟩:=h;obtain⟨a,xs,rfl,hq,hr⟩:=zH.mp h2;cases ry;obtain⟨bs,rb⟩:=jn I d x v h1 rx;obtain⟨its,r,pl,hz⟩:=I.list hq;refine SeqAt.in_listAt (eqR s.heap d) pl.isList (fun w hw=>dZ I rb c1 dd (show X.A.in1.units+60<Cr from by show X.A.units+1+60<Cr;omega) hr r c2 w (by simpa using hw)) ⟨.bl _,H,I,rfl,?_⟩;rw [show its.toArray.any (eqR s.heap d)=its.any (eqR s.heap d) by simp,gQ I hr r c2];exact q
theorem nK {K:uQ} (hK:X.K=K) (hu:X.A.units+64<Cr):OpR X (xm .In) (rZ K false):=hK▸r6 hu
end
section
variable {K:uQ} {f:Fx} {ρ:zq} {P:PyData->Prop} {te ta tb:TE} {t:TA} {D:DEnds} {i j:Nat}
theorem t7 (h:PEd K f ta ρ fun d=>PEd K f tb ρ fun y=>∃ ds,y=.list ds/\d.canLay0=true/\(∀ e∈ds,e.canLay0=true)/\d.depth<=50/\P (.bool (ds.any fun e=>xu e d))):PEd K f (tOp (rZ K false) ta tb) ρ P:=fun σ H Q e q =>
 h σ H _ e fun d v H1 g1 r1 p1=>p1 σ H1 _ (e.mono g1) fun y w H2 g2 r2 ⟨ds,ey,c1,c2,dd,p2⟩=>by
  subst ey;exact⟨d,ds,Rep.mono (zo _ _) _ _ (Rep.mono g2.sm _ _ r1),Rep.mono (zo _ _) _ _ r2,c1,c2,dd,q _ _ H2 (g1.trans g2) (zF.mpr rfl) p2⟩
end
end L2
end
section
namespace L2
open PySem PySem.Spec PyProof.Rows
section
variable {K:uQ} {f:Fx} {ρ:zq} {E:XK} {te:TE} {ts tu:TS} {tt:TT} {t:TA} {P:PyData->Prop} {D:DEnds}
theorem pK (h:PEd K f te ρ fun x=>∃ i,x=.int i/\P (.int (-i))):PEd K f (tUn (rU fun i=>.int (-i)) te) ρ P :=
 uH (h.imp fun x ⟨i,ex,p⟩ v H Q fo r q=>by
  subst ex;exact⟨i,zp.mp r,q _ _ H (.refl fo) (zp.mpr rfl) p⟩)
theorem t8 {n:String} {b:Bool} (hk:uU K (.type "int") (.type n)=some b) (h:PEd K f te ρ fun d=>∃ i,d=.int i/\P (.bool b)):PEd K f (tCB (lq K) (z9 te (z9 (tC (.ty n)) jl))) ρ P:=fun σ H Q e q=>h σ H _ e fun d v H1 g r ⟨i,ed,p⟩=>by
 subst ed;rw [zp.mp r];exact⟨_,n,b,rfl,.inr (.inr ⟨_,.int i,hk⟩),q _ _ H1 g (zF.mpr rfl) p⟩
end
end L2
end
section
namespace L2
open PySem PySem.Spec PyProof.Rows
end L2
end
section
namespace L2
open PySem PySem.Spec PyProof.Rows
section
variable {prog:Program} {w:World} {A:Around} {E:Value->Shared->Prop} {s:Shared}
theorem nL {t b:uR} {vs ws:List Value} {Q:Value->Shared->Prop} (ht:PlainL s.heap t vs.toArray) (hb:PlainL s.heap b ws.toArray)
  (h2:Q (.ref s.heap.objs.size) { s with heap:=s.heap.push { cls:=.type "list",data:=.seq (vs++ws).toArray } })
  (hsz:vs.length+ws.length<=wt):wb (model prog w) A (binaryOp .Add (.ref t) (.ref b)) Q E s:=by
 obtain⟨⟨cls,dd,data,sl⟩,n,ho,hc,_,hd⟩:=ht;obtain⟨⟨cls2,dd2,data2,sl2⟩,n2,ho2,hc2,_,hd2⟩:=hb;simp only at hc hd hc2 hd2;subst hc hd hc2 hd2;have e:vs.toArray++ws.toArray=(vs++ws).toArray:=by simp
 refine concat_meets ⟨_,ho,rfl⟩ ⟨_,ho2,rfl⟩ noFill_list_add seq_list_add PySem.F.slot_list_add PySem.F.entry_list_add (PySem.F.args_list_add_2 _ _) (list_addW t b vs.toArray ws.toArray n n2 dd dd2 sl sl2 (by rw [wo,wo];exact hsz)) ⟨ho,ho2,?_⟩;rw [e];exact h2
end
def lE (K:uQ):R2:=fun x y H Q=>∃ l b xs zs,x=.ref l/\y=.ref b/\SqL K H l xs/\SqL K H b zs/\xs.length+zs.length<=wt/\∀ p,H p=none->Q (.ref p) (upd H p (.lst (xs++zs)))
section
variable {X:Cx}
theorem nM:OpR X (binaryOp .Add) (lE X.K):=by
 intro CQ s σ H x y v u Q I rx ry h;obtain⟨l,b,xs,zs,rfl,rfl,ha,hb,hz,q⟩:=h;cases rx;cases ry;obtain⟨its,r1,p1,_⟩:=I.list ha;obtain⟨its2,r2,p2,_⟩:=I.list hb;refine nL p1 p2 ?_ (by rw [<-r1.length,<- r2.length];exact hz);exact⟨.ref _,_,I.lnew (t':=s.toks) (r1.append r2) (by rw [wL];omega),rfl,q _ I.fresh⟩
theorem jO {K:uQ} (hK:X.K=K):OpR X (binaryOp .Add) (lE K):=hK▸nM
end
section
variable {K:uQ} {f:Fx} {ρ:zq} {P:PyData->Prop} {te ta tb:TE} {t:TA}
theorem vH (h:PEd K f ta ρ fun x=>∃ ds,x=.list ds/\PEd K f tb ρ fun y=>∃ es,y=.list es/\ds.length+es.length<=1000/\P (.list (ds++es))):PEd K f (tOp (lE K) ta tb) ρ P:=fun σ H Q e q =>
 h σ H _ e fun x v H1 g1 r1 ⟨ds,ex,p1⟩=>p1 σ H1 _ (e.mono g1) fun y w H2 g2 r2 ⟨es,ey,hl,p2⟩=>by
  subst ex ey;obtain⟨a,xs,rfl,h1,h2⟩:=zH.mp (Rep.mono g2.sm _ _ r1);obtain⟨b,ys,rfl,h3,h4⟩:=zH.mp r2;have l1:=h2.length;have l2:=h4.length;refine⟨a,b,xs,ys,rfl,rfl,(zo _ _).seq h1,(zo _ _).seq h3,by rw [l1,l2];exact xS (yI hl),fun p hn=>?_⟩;have g3:Goes f H2 (upd H2 p (.lst (xs++ys))):=.of_same (yd hn _) g2.ok;exact q (.list (ds++es)) _ _ (g1.trans (g2.trans g3)) (zH.mpr ⟨p,_,rfl,.of (zA (fresh_ne g2.ok hn) zr),Reps.mono g3.sm _ _ (h2.append h4)⟩) p2
end
end L2
end
section
namespace L2
open PySem PySem.Spec PyProof.Rows
section
variable {X:Cx} {CQ:List (uR×Obj)} {σ:St} {H:Hp} {s:Shared} {h':Heap}
theorem Inv.laidL {t':Nat} {D:uR} {o:HO} (I:Inv X CQ σ H s) (k:∀ b u,b≠X.env.locals->s.heap.get? b=some u->h'.get? b=some u) (hL:∃ o,h'.get? X.env.locals=some o) (ns:∀ m,s.heap.Ns X.env.locals m->h'.Ns X.env.locals m)
  (nD:∀ b u,s.heap.get? b=some u->b≠D) (hD:H D=none) (new:ObjOk X.prog X.w (upd H D o) h' D o):Inv X CQ σ (upd H D o) { s with heap:=h',toks:=t' }:=by
 have fL:H X.env.locals=none:=I.free;refine I.step (g':=s.gens) (d':=s.drawn) (ch:=[]) (fun _ z=>nomatch z) (fun b o n _ _ e _=>k b o n e) (fun b o n _ _ e _=>⟨o.slots,k b o n e⟩) (fun b u _ e n=>by rw [zl (nD b u e)];exact n) (fun b o _ e=>?_) (fun b xs e=>by rw [zl (zB e hD)];exact e) (fun b u v e=>by rw [zl (zB e hD)];exact e) (fun b ps e=>by rw [zl (zB e hD)];exact e) ns (fun a u e=>?_) I.bare
 ·by_cases hb:b=X.env.locals
  ·subst hb;exact hL
  ·exact⟨o,k b o hb e⟩
 ·by_cases ha:a=D
  ·subst ha;rw [zr] at e;cases e;exact new
  ·rw [zl ha] at e;refine (I.hok a u e).stay (fun b v hb q=>k b v (fun z=>?_) q) (fun c q=>by rw [zl (zB q hD)];exact q) fun c xs q=>by rw [zl (zB q hD)];exact q
   rcases hb with hb | hb
   ·rw [<-hb,z,fL] at e;cases e
   ·rw [z,fL] at hb;cases hb
end
theorem nN {P:Program} {w:World} {H:Hp} {h:Heap} {a:uR} {o:HO} (x:ObjOk P w H h a o):∃ v,h.get? a=some v:=by
 cases o with
 | lst xs=>exact⟨_,x.2.choose_spec.choose_spec.2⟩
 | tup xs =>
  obtain⟨_,_,_,ob,e,_⟩:=x;exact⟨ob,e⟩
 | dK kvs =>
  obtain⟨_,_,_,_,ob,_,_,e,_⟩:=x;exact⟨ob,e⟩
 | dT kvs =>
  obtain⟨_,_,_,_,ob,_,_,e,_⟩:=x;exact⟨ob,e⟩
 | set S n =>
  obtain⟨ob,_,_,_,e,_⟩:=x;exact⟨ob,e⟩
 | ins C dx fs =>
  obtain⟨_,_,_,e,_⟩:=x;exact⟨_,e⟩
 | own y =>
  obtain⟨ob,e⟩:=x;exact⟨ob,e⟩
 | xd fs =>
  obtain⟨_,⟨ob,_,_,e,_⟩,_⟩:=x;exact⟨ob,e⟩
 | rng lo hi =>
  obtain⟨_,_,_,e⟩:=x;exact⟨_,e⟩
 | frz ob u =>
  obtain⟨e,_⟩:=x;exact⟨_,e⟩
 | tbl ps=>obtain⟨_,e,_⟩:=x;exact⟨_,e⟩
 | met f y=>exact⟨_,show h.get? a=some _ from x⟩
 | ext φ =>
  obtain⟨_,⟨ob,e⟩,_⟩:=x;exact⟨ob,e⟩
end L2
end
section
namespace L2
open PySem PySem.W PyProof.Rows
structure Tot (n:Nat) (lt:Nat->Nat->Bool):Prop where
 tri:∀ i j,i<n->j<n->i≠j->lt i j=!lt j i
 tra:∀ i j k,i<n->j<n->k<n->lt i j=true->lt j k=true->lt i k=true
def Ans (cmp:Nat->Nat->(Bool->Shared->Prop)->Shared->Prop) (n:Nat) (lt:Nat->Nat->Bool) (s:Shared):Prop:=∀ i j C,i<n->j<n->C (lt i j) s->cmp i j C s
def Dn (lt:Nat->Nat->Bool) (p:Array Nat) (m:Nat):Prop:=∀ i j,i<j->j<m->lt (p.getD j 0) (p.getD i 0)=true
end L2
end
section
namespace L2
open PySem PySem.W PySem.Calls PyProof.Rows
section
variable {P:Program} {w:World} {A:Around} {X:Value->Shared->Prop} {s:Shared} {κ:SortKind} {vs:List Value} {lt:Nat->Nat->Bool}
structure Asks (P:Program) (w:World) (A:Around) (s:Shared) (κ:SortKind) (vs:List Value) (lt:Nat->Nat->Bool):Prop where
 kind:2<=vs.length->∀ (h':Heap),(∀ b o,s.heap.get? b=some o->h'.get? b=some o)->∀ R:SortKind->Shared->Prop,R κ { s with heap:=h' }->wb (model P w) A (keyKind' vs.toArray) R (fun _ _=>False) { s with heap:=h' }
 less:∀ (h':Heap),(∀ b o,s.heap.get? b=some o->h'.get? b=some o)->Ans (kas_ask P w A κ vs) vs.length lt { s with heap:=h' }
 ord:Tot vs.length lt
 few:vs.length<64 \/ ∀ i,i+1<vs.length->lt (i+1) i=false
end
mutual
noncomputable def bN:PyData->Bool
 | .int _=>true
 | .str s=>(PyData.str s).canLay0
 | .tuple xs=>lF xs
 | _=>false
noncomputable def lF:List PyData->Bool
 | []=>true
 | x :: xs=>bN x && lF xs
end
mutual
noncomputable def r8:PyData->PyData->Bool
 | .int _,.int _=>true
 | .str _,.str _=>true
 | .tuple xs,.tuple ys=>t9 xs ys
 | _,_=>false
noncomputable def t9:List PyData->List PyData->Bool
 | [],_=>true
 | _ :: _,[]=>true
 | x :: xs,y :: ys=>if xu x y=true then t9 xs ys else r8 x y
end
end L2
end
section
namespace L2
open PySem PySem.Spec PyProof.Rows PySem.SeqAt
open PySem.AutoSeq1 (wpAny_loadPart')
open PySem.MeetsSeq PySem.MeetsSeq2 PySem.MeetsSeq3
def uJ (A:Around) (s:Shared) (y x:Value) (b:Bool):Prop :=
 ∀ (prog:Program) (w:World) (E:Value->Shared->Prop) (Q:Value->Shared->Prop),Q (.bool b) s->wb (model prog w) A (richCompare .Lt y x) Q E s
inductive Lex (A:Around) (s:Shared):List Value->List Value->Bool->Prop where
 | nn:Lex A s [] [] false
 | nc {w ws}:Lex A s [] (w :: ws) true
 | cn {v vs}:Lex A s (v :: vs) [] false
 | eq {v w vs ws b}:EqAt A s v w true->Lex A s vs ws b->Lex A s (v :: vs) (w :: ws) b
 | lt {v w vs ws b}:EqAt A s v w false->uJ A s v w b->Lex A s (v :: vs) (w :: ws) b
end L2
end
section
namespace L2
open PySem PySem.Spec PyProof.Rows PySem.SeqAt PySem.W
noncomputable def lG:PyData->Option String
 | .tuple (.int _ :: _)=>some "int"
 | .tuple (.str _ :: _)=>some "str"
 | .tuple (.tuple _ :: _)=>some "tuple"
 | _=>none
structure SortOk (T:String) (ds:List PyData):Prop where
 plain:∀ d∈ds,bN d=true
 head:∀ d∈ds,lG d=some T
 cmp:∀ d∈ds,∀ e∈ds,r8 d e=true
 depth:∀ d∈ds,d.depth<=50
 nd:ds.Nodup
end L2
end
section
namespace L2.ST
open PySem PySem.SetTable
def uK (xs:Array Nat):Prop:=∀ i j,i<j->j<xs.size->xs.getD i 0<xs.getD j 0
def Tk (t:SetTable) (j:Nat):Prop:=∃ i,i<t.place.size/\t.place.getD i 0=j
def road (mask:Nat) (h:Int):Nat->Probe
 | 0=>{ j:=bits h % (mask+1),more:=runEnd mask (bits h % (mask+1)) - bits h % (mask+1),i:=bits h % (mask+1),perturb:=bits h,dummy:=none }
 | k+1=>if (road mask h k).more > 0 then { road mask h k with j:=(road mask h k).j+1,more:=(road mask h k).more - 1 } else
  { road mask h k with j:=(leap mask (road mask h k).i (road mask h k).perturb).1,more:=runEnd mask (leap mask (road mask h k).i (road mask h k).perturb).1 - (leap mask (road mask h k).i (road mask h k).perturb).1,i:=(leap mask (road mask h k).i (road mask h k).perturb).1,perturb:=(leap mask (road mask h k).i (road mask h k).perturb).2 }
abbrev pos (mask:Nat) (h:Int) (k:Nat):Nat:=(road mask h k).j
def lp (mask:Nat) (h:Int):Nat->Nat×Nat
 | 0=>(bits h % (mask+1),bits h)
 | r+1=>leap mask (lp mask h r).1 (lp mask h r).2
def At (mask:Nat) (h:Int) (k r d:Nat):Prop:=d<=runEnd mask (lp mask h r).1 - (lp mask h r).1/\road mask h k={ j:=(lp mask h r).1+d,more:=runEnd mask (lp mask h r).1 - (lp mask h r).1 - d,i:=(lp mask h r).1,perturb:=(lp mask h r).2,dummy:=none }
end L2.ST
end
section
namespace L2.ST
open PySem PySem.SetTable
structure TB (t:SetTable) (hs:List Int):Prop where
 mask:t.mask=7 \/ t.mask=31 \/ t.mask=127 \/ t.mask=511
 dum:t.dummies=#[]
 rise:uK t.place
 le:∀ i,i<t.place.size->t.place.getD i 0<=t.mask
 size:t.place.size=hs.length
 most:hs.length<=t.mask
 reach:∀ i,i<hs.length->∃ k,pos t.mask (hs.getD i 0) k=t.place.getD i 0/\∀ k',k'<k->Tk t (pos t.mask (hs.getD i 0) k')
structure TOk (t:SetTable) (hs:List Int):Prop extends TB t hs where
 room:hs.length * 5<t.mask * 3
structure First (t:SetTable) (h:Int) (E:Nat):Prop where
 lt:E<10 * turns t.mask
 free:¬ Tk t (pos t.mask h E)
 ahead:∀ k,k<E->Tk t (pos t.mask h k)
end L2.ST
end
section
namespace L2.ST
open PySem PySem.SetTable
end L2.ST
end
section
namespace L2.ST
open PySem PySem.SetTable
structure OwnT (mask:Nat) (ow:Array (Option Nat)) (hs:List Int) (sl:List Nat):Prop where
 size:ow.size=mask+1
 len:sl.length=hs.length
 nd:sl.Nodup
 le:∀ j∈sl,j<=mask
 own:∀ j,j<=mask->∀ i,ow.getD j none=some i↔sl[i]?=some j
 reach:∀ i,i<hs.length->∃ q,pos mask (hs.getD i 0) q=sl.getD i 0/\∀ q',q'<q->pos mask (hs.getD i 0) q'∈sl
end L2.ST
end
section
namespace L2
open PySem PySem.Spec PyProof.Rows
mutual
noncomputable def gR (w:World):PyData->Int
 | .int i=>hashInt i
 | .str x=>hashStr w x
 | .tuple xs=>reduceHash (Builtin.Tuple.tupleHashOf (pL w xs))
 | _=>0
noncomputable def pL (w:World):List PyData->List Int
 | []=>[]
 | x :: xs=>gR w x :: pL w xs
end
noncomputable instance decPy:DecidableEq PyData:=fun a b=>Classical.propDecidable _
structure KeyAt (h:Heap) (d:PyData) (a:uR):Prop where
 rd:∃ as,Reads h (.ref a) d as
 pl:bN d=true
 dp:d.depth<=8
end L2
end
section
namespace L2
open PySem PySem.Spec PyProof.Rows PySem.SetTable
section
variable {P:Program} {w:World} {A:Around} {E:Value->Shared->Prop} {s:Shared}
structure SetObj (w:World) (h:Heap) (a:uR) (xs:List (PyData×uR)) (o:Obj) (es:Array (Int×Value)) (ep:Nat) (t:SetTable):Prop where
 ob:h.get? a=some o
 ex:o.ExactSet
 da:o.data=.set es ep t
 el:es.toList=xs.map fun x=>(gR w x.1,Value.ref x.2)
 ok:ST.TOk t (xs.map fun x=>gR w x.1)
end
end L2
end
section
namespace L2
open PySem PySem.Spec PyProof.Rows PySem.SetTable
inductive OC where
 | lst (es:List PyData)
 | set (ks:List PyData)
 | dic (kvs:List (PyData×PyData))
noncomputable def uL (w:World) (a:uR) (xs:List (PyData×uR)):HO:=.ext fun h=>∃ o es ep t,SetObj w h a xs o es ep t
structure DicObj (w:World) (h:Heap) (a:uR) (xs:List (PyData×uR×Value)) (o:Obj) (es:Array DictEntry) (ep:Nat):Prop where
 ob:h.get? a=some o
 ex:o.ExactDict
 da:o.data=.dict es ep
 el:es.toList=xs.map fun x=>(⟨gR w x.1,.ref x.2.1,x.2.2⟩:DictEntry)
 nd:(xs.map (·.1)).Nodup
 ns:(a == sysModules)=false
noncomputable def uM (w:World) (a:uR) (xs:List (PyData×uR×Value)):HO:=.ext fun h=>∃ o es ep,DicObj w h a xs o es ep
def ua (d:PyData):Prop:=bN d=true/\d.depth<=8
def EntR (K:uQ) (Hh:Hp) (x:PyData×uR×Value) (p:PyData×PyData):Prop:=x.1=p.1/\ua x.1/\Rep K Hh x.1 (.ref x.2.1)/\∃ v,Rep K Hh p.2 v/\RelV v x.2.2
theorem EntR.mono {K:uQ} {Hh Hh':Hp} (s:Same Hh Hh'):∀ {xs:List (PyData×uR×Value)} {kvs:List (PyData×PyData)},Paired (EntR K Hh) xs kvs->Paired (EntR K Hh') xs kvs
 | _,_,.nil=>.nil
 | _,_,.cons ⟨h1,h2,h3,v,h4,h5⟩ t=>.cons ⟨h1,h2,Rep.mono s _ _ h3,v,Rep.mono s _ _ h4,h5⟩ (EntR.mono s t)
def OwnAt (w:World) (K:uQ) (Hh H:Hp) (D:uR):OC->Prop
 | .lst es=>∃ vs,H D=some (.lst vs)/\Reps K Hh es vs
 | .set ks=>∃ xs:List (PyData×uR),H D=some (uL w D xs)/\(∀ x∈xs,ua x.1/\Rep K Hh x.1 (.ref x.2))/\(∀ d,d∈xs.map (·.1)↔d∈ks)/\xs.length<=ks.length
 | .dic kvs=>∃ xs:List (PyData×uR×Value),H D=some (uM w D xs)/\Paired (EntR K Hh) xs kvs
theorem OwnAt.mono {w:World} {K:uQ} {Hh Hh' H H':Hp} {D:uR} (e:H' D=H D) (s:Same Hh Hh'):∀ {c:OC},OwnAt w K Hh H D c->OwnAt w K Hh' H' D c
 | .lst es,⟨vs,h1,h2⟩=>⟨vs,e.trans h1,Reps.mono s es vs h2⟩
 | .set ks,⟨xs,h1,h2,h3⟩=>⟨xs,e.trans h1,fun x hx=>⟨(h2 x hx).1,Rep.mono s _ _ (h2 x hx).2⟩,h3⟩
 | .dic kvs,⟨xs,h1,h2⟩=>⟨xs,e.trans h1,EntR.mono s h2⟩
noncomputable def Fx.withs (f:Fx) (Ds:List uR):Fx:={ f with M:=Ds.reverse++f.M }
theorem yu (f:Fx) (Ds:List uR) (D:uR):f.withs (Ds++[D])=(f.withs Ds).with D:=by
 unfold Fx.withs Fx.with;rw [By];rfl
structure CM (w:World) (K:uQ) (f:Fx) (Ds:List uR) (H2:Hp) (ρ:zq) (cs:List OC) (σ:St) (H:Hp):Prop where
 env:EnvOk K (f.withs Ds) ρ σ H
 sm:Same (hide H2 (f.withs Ds)) (hide H (f.withs Ds))
 kp:∀ b∈f.M,H b=H2 b
 len:cs.length=Ds.length
 own:∀ (i:Nat) D c,Ds[i]?=some D->cs[i]?=some c->OwnAt w K (hide H (f.withs Ds)) H D c
structure Sep (f:Fx) (Ds:List uR):Prop where
 nd:Ds.Nodup
 nf:∀ D∈Ds,f.f≠some D
 nm:∀ D∈Ds,D∉f.M
section
variable {w:World} {K:uQ} {f:Fx} {Ds:List uR} {H H' H2:Hp} {ρ ρ2:zq} {cs:List OC} {σ σ2:St} {i:Nat} {D:uR} {c:OC} {o:HO}
theorem jI (hD:D∈Ds):D∈(f.withs Ds).M:=Ae _ (AX.mpr hD)
theorem yC (hD:D∈Ds):hide (upd H D o) (f.withs Ds)=hide H (f.withs Ds):=by
 funext b
 unfold hide;by_cases h:(f.withs Ds).f=some b \/ b∈(f.withs Ds).M
 ·rw [CT h,CT h]
 ·rw [CS h,CS h,zl fun (z:b=D)=>h (.inr (z▸jI hD))]
theorem CM.go (x:CM w K f Ds H2 ρ cs σ H) (g:Goes (f.withs Ds) H H') (e2:EnvOk K (f.withs Ds) ρ2 σ2 H'):CM w K f Ds H2 ρ2 cs σ2 H' :=
 ⟨e2,x.sm.trans g.sm,fun b hb=>(g.kp b (wq _ hb)).trans (x.kp b hb),x.len,fun i D c h1 h2=>(x.own i D c h1 h2).mono (g.kp D (jI (wM h1))) g.sm⟩
theorem CM.self (x:CM w K f Ds H2 ρ cs σ H):CM w K f Ds H ρ cs σ H:=⟨x.env,Same.refl _,fun _ _=>rfl,x.len,x.own⟩
theorem CM.trans {cs':List OC} {ρ':zq} {σ':St} (x:CM w K f Ds H2 ρ cs σ H) (y:CM w K f Ds H ρ' cs' σ' H'):CM w K f Ds H2 ρ' cs' σ' H':=⟨y.env,x.sm.trans y.sm,fun b hb=>(y.kp b hb).trans (x.kp b hb),y.len,y.own⟩
theorem nO (se:Sep f Ds) (hD:D∈Ds) (h:FOk (f.withs Ds) H):FOk (f.withs Ds) (upd H D o) :=
 ⟨fun p e=>let⟨a,b,h1,h2⟩:=h.fd p e;⟨a,b,by rw [zl (fun (z:p=D)=>se.nf D hD (z▸e))];exact h1,h2⟩,fun b hb=>by
  by_cases e:b=D
  ·exact⟨o,by rw [e];exact zr⟩
  ·obtain⟨u,hu⟩:=h.mm b hb;exact⟨u,by rw [zl e];exact hu⟩,h.nm⟩
theorem nP (se:Sep f Ds) (hD:D∈Ds) (e:EnvOk K (f.withs Ds) ρ σ H):EnvOk K (f.withs Ds) ρ σ (upd H D o) :=
 ⟨e.len,fun i x h=>by
  obtain⟨v,h1,h2⟩:=e.get i x h;refine⟨v,h1,?_⟩;cases x with
  | dat d =>
   show Rep K (hide (upd H D o) (f.withs Ds)) d v;rw [yC hD];exact h2
  | feed=>exact h2
  | own k=>exact h2
  | exc C =>
   obtain⟨a,e1,q⟩:=h2;exact⟨a,e1,by rw [yC hD];exact q⟩
  | mon φ =>
   intro H' s;rw [yC hD] at s;exact h2 H' s,nO se hD e.fd⟩
theorem CM.put {c':OC} (se:Sep f Ds) (x:CM w K f Ds H2 ρ cs σ H) (hi:Ds[i]?=some D) (ho:OwnAt w K (hide H (f.withs Ds)) (upd H D o) D c'):CM w K f Ds H2 ρ (cs.set i c') σ (upd H D o):=by
 have hD:=wM hi;refine⟨nP se hD x.env,by rw [yC hD];exact x.sm,fun b hb=>(zl (fun (z:b=D)=>se.nm D hD (z▸hb))).trans (x.kp b hb),by rw [xM];exact x.len,fun j D' c h1 h2=>?_⟩;rw [yC hD];by_cases e:i=j
 ·subst e;rw [hi] at h1;cases h1;have hl:i<cs.length:=by rw [x.len];exact (uY.mp hi).1
  rw [xw hl] at h2;cases h2;exact ho
 ·rw [xG e] at h2;have ne:D'≠D:=fun z=>by
   subst z;obtain⟨l1,e1⟩:=uY.mp hi;obtain⟨l2,e2⟩:=uY.mp h1;exact e ((List.getElem_inj se.nd).mp (e1.trans e2.symm))
  exact (x.own j D' c h1 h2).mono (zl ne) (Same.refl _)
end
structure MEnds where
 nx:zq->List OC->Prop
 rt:PyData->Prop
 bk:zq->List OC->Prop:=fun _ _=>False
 ct:zq->List OC->Prop:=fun _ _=>False
def PSm (w:World) (K:uQ) (f:Fx) (Ds:List uR) (ts:TS) (ρ:zq) (cs:List OC) (O:MEnds):Prop:=Sep f Ds->∀ (σ:St) (H H2:Hp) (E:Ends),CM w K f Ds H2 ρ cs σ H ->
 (∀ ρ' cs' σ' H',CM w K f Ds H2 ρ' cs' σ' H'->O.nx ρ' cs'->E.nx σ' H')->(∀ d v ρ' cs' σ' H',CM w K f Ds H2 ρ' cs' σ' H'->Rep K (hide H' f) d v->O.rt d->E.rt v H') ->
 (∀ ρ' cs' σ' H',CM w K f Ds H2 ρ' cs' σ' H'->O.bk ρ' cs'->E.bk σ' H')->(∀ ρ' cs' σ' H',CM w K f Ds H2 ρ' cs' σ' H'->O.ct ρ' cs'->E.ct σ' H')->ts E σ H
def PTm (w:World) (K:uQ) (f:Fx) (Ds:List uR) (tt:TT) (ρ:zq) (cs:List OC) (B:Bool->Prop):Prop:=Sep f Ds->∀ (σ:St) (H H2:Hp) (Q:Bool->Hp->Prop),CM w K f Ds H2 ρ cs σ H->(∀ b H',Goes (f.withs Ds) H H'->B b->Q b H')->tt σ H Q
def PEm (w:World) (K:uQ) (f:Fx) (Ds:List uR) (te:TE) (ρ:zq) (cs:List OC) (P:PyData->Prop):Prop:=Sep f Ds->∀ (σ:St) (H H2:Hp) (Q:VK),CM w K f Ds H2 ρ cs σ H->(∀ d v H',Goes (f.withs Ds) H H'->Rep K (hide H' (f.withs Ds)) d v->P d->Q v H')->te σ H Q
def sd (w:World) (K:uQ) (f:Fx) (te:TE) (ρ:zq) (P:OC->Prop):Prop:=∀ (σ:St) (H:Hp) (Q:VK),EnvOk K f ρ σ H ->
 (∀ c D H',Goes f H H'->H D=none->OwnAt w K (hide H' (f.with D)) H' D c->P c->Q (.ref D) H')->te σ H Q
section
variable {w:World} {K:uQ} {f:Fx} {Ds:List uR} {ρ:zq} {cs:List OC} {ts tu:TS} {tt:TT} {te:TE} {wi:TI} {g:TG} {O:MEnds} {i j:Nat}
theorem yD {H:Hp}:Same (hide H (f.withs Ds)) (hide H f):=fun b o h=>by
 obtain⟨h1,h2⟩:=zC h;exact zA (fun z=>h1 (z.elim .inl fun z=>.inr (wq _ z))) h2
theorem lH {D:DEnds} (h:PSm w K f [] ts ρ [] { nx:=fun ρ' _=>D.nx ρ',rt:=D.rt,bk:=fun ρ' _=>D.bk ρ',ct:=fun ρ' _=>D.ct ρ' }):PSd K f ts ρ D:=fun σ H E e n r b k=>by
 have gg:∀ {ρ':zq} {cs':List OC} {σ':St} {H':Hp},CM w K f [] H ρ' cs' σ' H'->Goes f H H':=fun x=>⟨x.sm,x.env.fd,x.kp⟩;exact h ⟨List.nodup_nil,(fun _ z=>nomatch z),(fun _ z=>nomatch z)⟩ σ H H E ⟨e,Same.refl _,fun _ _=>rfl,rfl,(fun i D c z=>nomatch z)⟩
  (fun ρ' cs' σ' H' x p=>n ρ' σ' H' (gg x) x.env p) (fun d v ρ' cs' σ' H' x r' p=>r d v H' (gg x) r' p) (fun ρ' cs' σ' H' x p=>b ρ' σ' H' (gg x) x.env p) (fun ρ' cs' σ' H' x p=>k ρ' σ' H' (gg x) x.env p)
theorem fO (h:PSd K (f.withs Ds) ts ρ { nx:=fun ρ'=>O.nx ρ' cs,rt:=O.rt,bk:=fun ρ'=>O.bk ρ' cs,ct:=fun ρ'=>O.ct ρ' cs }):PSm w K f Ds ts ρ cs O:=fun se σ H H2 E x n r b k =>
 h σ H E x.env (fun ρ' σ' H' g' e' p=>n ρ' cs σ' H' (x.go g' e') p) (fun d v H' g' r' p=>r d v ρ cs σ H' (x.go g' (x.env.mono g')) (Rep.mono yD d v r') p) (fun ρ' σ' H' g' e' p=>b ρ' cs σ' H' (x.go g' e') p) (fun ρ' σ' H' g' e' p=>k ρ' cs σ' H' (x.go g' e') p)
theorem cE (h:PSm w K f Ds ts ρ cs { O with nx:=fun ρ' cs'=>PSm w K f Ds tu ρ' cs' O }):PSm w K f Ds (aY ts tu) ρ cs O:=fun se σ H H2 E x n r b k =>
 h se σ H H2 _ x (fun ρ' cs' σ' H' x' p=>p se σ' H' H2 E x' n r b k) r b k
theorem lI (h:O.nx ρ cs):PSm w K f Ds ky ρ cs O:=fun _ σ H H2 E x n r b k=>n ρ cs σ H x h
theorem ub {B:Bool->Prop} (h:PTd K (f.withs Ds) tt ρ B):PTm w K f Ds tt ρ cs B:=fun se σ H H2 Q x q=>h σ H Q x.env q
theorem lJ {P:PyData->Prop} (h:PEd K (f.withs Ds) te ρ P):PEm w K f Ds te ρ cs P:=fun se σ H H2 Q x q=>h σ H Q x.env q
theorem uN (h:PTm w K f Ds tt ρ cs fun b=>if b=true then PSm w K f Ds ts ρ cs O else PSm w K f Ds tu ρ cs O):PSm w K f Ds (eX tt ts tu) ρ cs O:=fun se σ H H2 E x n r b k =>
 h se σ H H2 _ x fun q H1 g1 p=>by
  have x1:=x.go g1 (x.env.mono g1);cases q with
  | false =>
   rw [CS uT] at p ⊢;exact p se σ H1 H2 E x1 n r b k
  | true =>
   rw [CT rfl] at p ⊢;exact p se σ H1 H2 E x1 n r b k
theorem lK (h:PId K (f.withs Ds) wi ρ fun ds=>∃ J:Nat->zq->List OC->Prop,J 0 ρ cs /\
   (∀ (i:Nat) d ρ' cs',ds[i]?=some d->J i ρ' cs'->PGd K (f.withs Ds) g d ρ' fun ρ2=>PSm w K f Ds ts ρ2 cs' { O with nx:=J (i+1),ct:=J (i+1),bk:=O.nx })/\∀ ρ' cs',J ds.length ρ' cs'->O.nx ρ' cs') :
  PSm w K f Ds (iq wi g ts) ρ cs O:=fun se σ H H2 E x n r b k=>h σ H _ x.env fun ds J H1 g1 it ⟨Jv,j0,js,jd⟩=>by
 have x1:=x.go g1 (x.env.mono g1);refine⟨fun i m σ' H'=>∃ ρ' cs',CM w K f Ds H2 ρ' cs' σ' H'/\Same (hide H1 (f.withs Ds)) (hide H' (f.withs Ds))/\Jv i ρ' cs'/\m+i=ds.length,⟨ds.length,ρ,cs,x1,Same.refl _,j0,rfl⟩,fun i m σ' H' ⟨ρ',cs',x',sm',p,hm⟩=>?_⟩;by_cases hi:i<ds.length
 ·obtain⟨hgo,hy⟩:=it.go (f.withs Ds) H' i _ x'.env.fd sm' (uZ hi);refine .inr ⟨hgo,fun σ2 H3=>∃ ρ2 cs2,CM w K f Ds H2 ρ2 cs2 σ2 H3/\Same (hide H1 (f.withs Ds)) (hide H3 (f.withs Ds))/\Jv (i+1) ρ2 cs2,fun σ2 H3 ⟨ρ2,cs2,e2,g2,p2⟩=>⟨m - 1,by omega,ρ2,cs2,e2,g2,p2,by omega⟩,fun v H3 hx=>?_⟩;obtain⟨g3,r3⟩:=hy v H3 hx;have x3:=x'.go g3 (x'.env.mono g3);refine js i _ ρ' cs' (uZ hi) p σ' H3 v _ x3.env r3 fun ρ2 σ2 H4 g4 e4 p4=>?_;have x4:=x3.go g4 e4;have sm4:=(sm'.trans g3.sm).trans g4.sm;exact p4 se σ2 H4 H4 _ x4.self (fun ρ5 cs5 σ5 H5 x5 p5=>⟨ρ5,cs5,x4.trans x5,sm4.trans x5.sm,p5⟩) (fun d v ρ5 cs5 σ5 H5 x5 r5 p5=>r d v ρ5 cs5 σ5 H5 (x4.trans x5) r5 p5) (fun ρ5 cs5 σ5 H5 x5 p5=>n ρ5 cs5 σ5 H5 (x4.trans x5) p5) (fun ρ5 cs5 σ5 H5 x5 p5=>⟨ρ5,cs5,x4.trans x5,sm4.trans x5.sm,p5⟩)
 ·have ei:i=ds.length:=by omega
  subst ei;exact .inl ⟨it.st (f.withs Ds) H' x'.env.fd sm',n ρ' cs' σ' H' x' (jd ρ' cs' p)⟩
theorem nQ {σ:St} {H H2:Hp} {D:uR} (hi:ρ[i]?=some (some (.own (f.M.length+j)))) (x:CM w K f Ds H2 ρ cs σ H) (hD:Ds[j]?=some D):σ[i]?=some (some (.ref D)):=by
 obtain⟨v,h1,p,h2,rfl⟩:=x.env.get i _ hi;have e:(f.withs Ds).M.reverse[f.M.length+j]?=some D:=by
  show (Ds.reverse++f.M).reverse[f.M.length+j]?=some D;rw [By,Cm,wH (by simp)];simpa using hD
 rw [e] at h2;cases h2;exact h1
theorem gS {es:List PyData} (hi:ρ[i]?=some (some (.own (f.M.length+j)))) (hc:cs[j]?=some (.lst es)) (hl:es.length<1000) (h:PEm w K f Ds te ρ cs fun d=>O.nx ρ (cs.set j (.lst (es++[d])))):PSm w K f Ds (gA (tBM K "list" gH (yN i) (z9 te jl))) ρ cs O:=fun se σ H H2 E x n r b k=>by
 have hj:j<Ds.length:=by rw [<-x.len];exact (uY.mp hc).1
 have hD:Ds[j]?=some Ds[j]:=uZ hj;obtain⟨vs0,h0,_⟩:=x.own j _ _ hD hc;refine⟨_,nQ hi x hD,Or.inl ⟨rfl,vs0,.of h0⟩,?_⟩;refine h se σ H H2 _ x fun d v H1 g1 r1 p1=>?_;have x1:=x.go g1 (x.env.mono g1);obtain⟨vs,h1,h2⟩:=x1.own j _ _ hD hc;refine⟨_,vs,v,rfl,rfl,h1,yI (by rw [h2.length];omega),n _ _ _ _ (x1.put se hD (o:=.lst (vs++[v])) (c':=.lst (es++[d])) ⟨vs++[v],zr,h2.snoc r1⟩) p1⟩
theorem CM.more {σ:St} {H H1 H2:Hp} {D:uR} {c:OC} (x:CM w K f Ds H2 ρ cs σ H) (g:Goes (f.withs Ds) H H1) (hn:H D=none) (ho:OwnAt w K (hide H1 ((f.withs Ds).with D)) H1 D c) (hi:i<ρ.length) :
  CM w K f (Ds++[D]) H1 (ρ.set i (some (.own (f.M.length+Ds.length)))) (cs++[c]) (σ.set i (some (.ref D))) H1:=by
 have nD:¬ ((f.withs Ds).f=some D \/ D∈(f.withs Ds).M):=fresh_ne x.env.fd hn;have sm0:Same (hide H (f.withs Ds)) (hide H1 (f.withs (Ds++[D]))):=fun b o hb=>by
  have hb1:=g.sm b o hb;rw [yu];refine zA (fun z=>?_) (zC hb1).2;rcases z with z | z
  ·exact (zC hb1).1 (.inl z)
  ·rcases u6.mp z with rfl | z
   ·have:=(zC hb).2;rw [hn] at this;cases this
   ·exact (zC hb1).1 (.inr z)
 have hD1:∃ o,H1 D=some o:=by
  cases c with
  | lst es=>exact⟨_,ho.choose_spec.1⟩
  | set ks=>exact⟨_,ho.choose_spec.1⟩
  | dic kvs=>exact⟨_,ho.choose_spec.1⟩
 have fo1:FOk (f.withs (Ds++[D])) H1:=by
  rw [yu];refine⟨g.ok.fd,fun b hb=>?_,fun q eq hq=>?_⟩
  ·rcases u6.mp hb with rfl | hb
   ·exact hD1
   ·exact g.ok.mm b hb
  ·rcases u6.mp hq with rfl | hq
   ·exact nD (.inl eq)
   ·exact g.ok.nm q eq hq
 have rev:(f.withs (Ds++[D])).M.reverse=(f.withs Ds).M.reverse++[D]:=by
  rw [yu];show (D :: (f.withs Ds).M).reverse=_;rw [BN]
 have lenr:(f.withs Ds).M.reverse.length=f.M.length+Ds.length:=by
  show (Ds.reverse++f.M).reverse.length=_;simp
 have e1:EnvOk K (f.withs (Ds++[D])) ρ σ H1:=⟨x.env.len,fun q y hy=>by
  obtain⟨v,a1,a2⟩:=x.env.get q y hy;refine⟨v,a1,?_⟩;cases y with
  | dat d=>exact Rep.mono sm0 d v a2
  | feed=>exact a2
  | exc C =>
   obtain⟨b,h3,h4⟩:=a2;exact⟨b,h3,sm0 _ _ h4⟩
  | mon φ=>exact fun H' s=>a2 H' (sm0.trans s)
  | own k =>
   obtain⟨b,h3,h4⟩:=a2;refine⟨b,?_,h4⟩;rw [rev,wA (uY.mp h3).1];exact h3,fo1⟩
 have rv:RepV K (f.withs (Ds++[D])) H1 (.own (f.M.length+Ds.length)) (.ref D):=⟨D,by
  rw [rev,wH (by omega),lenr,BY]
  rfl,rfl⟩
 refine⟨e1.set i rv,Same.refl _,fun _ _=>rfl,by simp [x.len],fun q D' c' h1 h2=>?_⟩;by_cases hq:q<Ds.length
 ·rw [wA hq] at h1;rw [wA (by rw [x.len];exact hq)] at h2;exact (x.own q D' c' h1 h2).mono (g.kp D' (jI (wM h1))) sm0
 ·by_cases hq2:q=Ds.length
  ·subst hq2;rw [wH (wc _),BY] at h1;rw [wH (by rw [x.len];exact wc _),x.len,BY] at h2;cases h1;cases h2;rw [yu];exact ho
  ·rw [AE (by simp;omega)] at h1;cases h1
theorem Sep.more {H:Hp} {D:uR} (se:Sep f Ds) (fo:FOk (f.withs Ds) H) (hn:H D=none):Sep f (Ds++[D]):=by
 have nD:=fresh_ne fo hn;refine⟨List.nodup_append.mpr ⟨se.nd,by simp,fun a ha b hb=>?_⟩,fun D' h=>?_,fun D' h=>?_⟩
 ·rw [u7.mp hb];intro z;exact nD (.inr (jI (z▸ha)))
 ·rcases wQ.mp h with h | h
  ·exact se.nf D' h
  ·rw [u7.mp h];exact fun z=>nD (.inl z)
 ·rcases wQ.mp h with h | h
  ·exact se.nm D' h
  ·rw [u7.mp h];exact fun z=>nD (.inr (wq _ z))
theorem CM.less {σ σ':St} {H H1 H2 H':Hp} {D:uR} {ρ':zq} {cs':List OC} (x:CM w K f Ds H2 ρ cs σ H) (g:Goes (f.withs Ds) H H1) (hn:H D=none) (y:CM w K f (Ds++[D]) H1 ρ' cs' σ' H') :
  CM w K f Ds H2 (ρ'.map (jj (f.M.length+Ds.length))) (cs'.take Ds.length) σ' H':=by
 have sub:Same (hide H' (f.withs (Ds++[D]))) (hide H' (f.withs Ds)):=by rw [yu];exact vk
 have sm1:Same (hide H (f.withs Ds)) (hide H1 (f.withs (Ds++[D]))):=fun b o hb=>by
  have hb1:=g.sm b o hb;rw [yu];refine zA (fun z=>?_) (zC hb1).2;rcases z with z | z
  ·exact (zC hb1).1 (.inl z)
  ·rcases u6.mp z with rfl | z
   ·have:=(zC hb).2;rw [hn] at this;cases this
   ·exact (zC hb1).1 (.inr z)
 have lenr:(f.withs Ds).M.reverse.length=f.M.length+Ds.length:=by
  show (Ds.reverse++f.M).reverse.length=_;simp
 have rev:(f.withs (Ds++[D])).M.reverse=(f.withs Ds).M.reverse++[D]:=by
  rw [yu];show (D :: (f.withs Ds).M).reverse=_;rw [BN]
 have fo:FOk (f.withs Ds) H':=by
  have h:=y.env.fd;rw [yu] at h;exact⟨h.fd,fun b hb=>h.mm b (uW _ hb),fun p e hp=>h.nm p e (uW _ hp)⟩
 refine⟨⟨by rw [uV];exact y.env.len,fun q z hz=>?_,fo⟩,(x.sm.trans sm1).trans (y.sm.trans sub),fun b hb=>(y.kp b hb).trans ((g.kp b (wq _ hb)).trans (x.kp b hb)),?_,fun q D' c' h1 h2=>?_⟩
 ·rw [wj] at hz;cases e:ρ'[q]? with
  | none=>rw [e] at hz;cases hz
  | some z0 =>
   rw [e] at hz;cases z0 with
   | none=>cases hz
   | some z0 =>
    obtain⟨v,a1,a2⟩:=y.env.get q z0 e;cases z0 with
    | dat d =>
     cases hz;exact⟨v,a1,Rep.mono sub d v a2⟩
    | feed =>
     cases hz;rw [yu] at a2;exact⟨v,a1,a2⟩
    | exc C =>
     cases hz;obtain⟨b,h3,h4⟩:=a2;exact⟨v,a1,b,h3,sub _ _ h4⟩
    | mon φ =>
     cases hz;exact⟨v,a1,fun H' s=>a2 H' (sub.trans s)⟩
    | own k =>
     have hz':(if k<f.M.length+Ds.length then some (DV.own k) else none)=some z:=Option.some.inj hz;by_cases hk:k<f.M.length+Ds.length
     ·rw [CT hk] at hz';cases hz';obtain⟨b,h3,h4⟩:=a2;refine⟨v,a1,b,?_,h4⟩;rw [rev,wA (by omega)] at h3;exact h3
     ·rw [CS hk] at hz';cases hz'
 ·rw [xg,y.len];simp
 ·have hq:q<Ds.length:=(uY.mp h1).1;rw [A4 hq] at h2;exact (y.own q D' c' (by rw [wA hq];exact h1) h2).mono rfl sub
theorem lL (h:sd w K (f.withs Ds) te ρ fun c=>i<ρ.length/\∀ D,PSm w K f (Ds++[D]) ts (ρ.set i (some (.own (f.M.length+Ds.length)))) (cs++[c]) { nx:=fun ρ' cs'=>O.nx (ρ'.map (jj (f.M.length+Ds.length))) (cs'.take Ds.length),rt:=O.rt,bk:=fun ρ' cs'=>O.bk (ρ'.map (jj (f.M.length+Ds.length))) (cs'.take Ds.length),ct:=fun ρ' cs'=>O.ct (ρ'.map (jj (f.M.length+Ds.length))) (cs'.take Ds.length) }) :
  PSm w K f Ds (aY (vt te (qQ i)) ts) ρ cs O:=fun se σ H H2 E x n r b k =>
 h σ H _ x.env fun c D H1 g1 hn ho ⟨hi,p⟩ =>
  p D (se.more x.env.fd hn) _ H1 H1 E (x.more g1 hn ho hi) (fun ρ' cs' σ' H' y q=>n _ _ σ' H' (x.less g1 hn y) q) (fun d v ρ' cs' σ' H' y r' q=>r d v _ _ σ' H' (x.less g1 hn y) r' q) (fun ρ' cs' σ' H' y q=>b _ _ σ' H' (x.less g1 hn y) q) (fun ρ' cs' σ' H' y q=>k _ _ σ' H' (x.less g1 hn y) q)
theorem bj {P:OC->Prop} (h:PEdO K f te ρ fun es=>P (.lst es)):sd w K f te ρ P:=fun σ H Q e q=>h σ H Q e fun es D vs H' g hn h1 rs p=>q (.lst es) D H' g hn ⟨vs,h1,rs⟩ p
noncomputable def freed (n:Nat) (cs:List OC):Option DV->Option DV
 | some (.own k)=>if k<n then some (.own k) else match cs[k - n]? with
  | some (.lst es)=>some (.dat (.list es))
  | _=>none
 | x=>x
theorem CM.free {σ:St} {H H2:Hp} (se:Sep f Ds) (x:CM w K f Ds H2 ρ cs σ H):EnvOk K f (ρ.map (freed f.M.length cs)) σ H:=by
 have fo:FOk f H:=⟨x.env.fd.fd,fun b hb=>x.env.fd.mm b (wq _ hb),fun p e hp=>x.env.fd.nm p e (wq _ hp)⟩;refine⟨by rw [uV];exact x.env.len,fun q z hz=>?_,fo⟩;rw [wj] at hz;cases e:ρ[q]? with
 | none=>rw [e] at hz;cases hz
 | some z0 =>
  rw [e] at hz;cases z0 with
  | none=>cases hz
  | some z0 =>
   obtain⟨v,a1,a2⟩:=x.env.get q z0 e;cases z0 with
   | dat d =>
    cases hz;exact⟨v,a1,Rep.mono yD d v a2⟩
   | feed =>
    cases hz;exact⟨v,a1,a2⟩
   | exc C =>
    cases hz;obtain⟨b,h3,h4⟩:=a2;exact⟨v,a1,b,h3,yD _ _ h4⟩
   | mon φ =>
    cases hz;exact⟨v,a1,fun H' s=>a2 H' (yD.trans s)⟩
   | own k =>
    obtain⟨b,h3,h4⟩:=a2;have h3':(Ds.reverse++f.M).reverse[k]?=some b:=h3;rw [By,Cm] at h3';have hz':(if k<f.M.length then some (DV.own k) else match cs[k - f.M.length]? with | some (.lst es)=>some (.dat (.list es)) | _=>none)=some z:=Option.some.inj hz;by_cases hk:k<f.M.length
    ·rw [CT hk] at hz';cases hz';rw [wA (by simpa using hk)] at h3';exact⟨v,a1,b,h3',h4⟩
    ·rw [CS hk] at hz';rw [wH (by simpa using BX.mp hk),List.length_reverse] at h3';cases ec:cs[k - f.M.length]? with
     | none=>rw [ec] at hz';cases hz'
     | some c =>
      rw [ec] at hz';cases c with
      | lst es =>
       cases hz';obtain⟨vs,h5,h6⟩:=x.own _ _ _ h3' ec;have hb:=wM h3';exact⟨v,a1,zH.mpr ⟨b,vs,h4,.of (zA (fun z=>z.elim (se.nf b hb) (se.nm b hb)) h5),Reps.mono yD es vs h6⟩⟩
      | set ks=>cases hz'
      | dic kvs=>cases hz'
theorem CM.goF {σ:St} {H H2 H':Hp} (se:Sep f Ds) (x:CM w K f Ds H2 ρ cs σ H) (g:Goes f H H'):CM w K f Ds H2 ρ cs σ H':=by
 have keep:∀ b∈Ds,H' b=H b:=fun b hb=>by
  obtain⟨o,ho⟩:=x.env.fd.mm b (jI hb);rw [ho];exact (zC (g.sm b o (zA (fun z=>z.elim (se.nf b hb) (se.nm b hb)) ho))).2
 have g2:Goes (f.withs Ds) H H':=⟨fun b o hb=>by
   have hb':=zC hb;have:=zC (g.sm b o (yD b o hb));exact zA hb'.1 this.2,⟨g.ok.fd,fun b hb=>by
   rcases wQ.mp hb with hb | hb
   ·obtain⟨o,ho⟩:=x.env.fd.mm b (Ae _ hb);exact⟨o,by rw [keep b (AX.mp hb)];exact ho⟩
   ·exact g.ok.mm b hb,x.env.fd.nm⟩,fun b hb=>by
   rcases wQ.mp hb with hb | hb
   ·exact keep b (AX.mp hb)
   ·exact g.kp b hb⟩
 exact x.go g2 (x.env.mono g2)
theorem lM (h:PSd K f ts (ρ.map (freed f.M.length cs)) { nx:=fun _=>False,rt:=O.rt }):PSm w K f Ds ts ρ cs O:=fun se σ H H2 E x n r b k =>
 h σ H E (x.free se) (fun _ _ _ _ _ z=>z.elim) (fun d v H' g' r' p=>r d v ρ cs σ H' (x.goF se g') r' p) (fun _ _ _ _ _ z=>z.elim) (fun _ _ _ _ _ z=>z.elim)
end
end L2
end
section
namespace L2
open PySem PySem.Spec PyProof.Rows
end L2
end
section
namespace L2
open PySem PySem.Spec PyProof.Rows
structure MinAt (h0:Heap) (its:List Value) (ds:List PyData) (as:List uR):Prop where
 ra:ReadsAll h0 its ds as
 pl:∀ d∈ds,bN d=true
 cp:∀ d∈ds,∀ e∈ds,r8 d e=true
 dp:∀ d∈ds,d.depth<=50
section
variable {w:World} {K:uQ} {f:Fx} {Ds:List uR} {ρ:zq} {cs:List OC} {O:MEnds} {tt:TT} {te:TE} {i j n:Nat}
theorem iP {H H' H2:Hp} {σ:St} (se:Sep f Ds) (x:CM w K f Ds H2 ρ cs σ H) (g:Goes f H H'):Goes (f.withs Ds) H H':=by
 have kp:∀ D∈Ds,H' D=H D:=fun D hD=>by
  obtain⟨o,ho⟩:=x.env.fd.mm D (jI hD);have h1:hide H f D=some o:=zA (fun z=>z.elim (se.nf D hD) (se.nm D hD)) ho;rw [ho,(zC (g.sm D o h1)).2]
 refine⟨fun b o hb=>?_,⟨fun p e=>?_,fun b hb=>?_,x.env.fd.nm⟩,fun b hb=>?_⟩
 ·obtain⟨n1,n2⟩:=zC hb;have h1:hide H f b=some o:=zA (fun z=>n1 (z.elim .inl fun z=>.inr (wq _ z))) n2;exact zA n1 (zC (g.sm b o h1)).2
 ·exact g.2.fd p e
 ·rcases wQ.mp hb with h | h
  ·rw [kp b (AX.mp h)];exact x.env.fd.mm b hb
  ·exact g.2.mm b h
 ·rcases wQ.mp hb with h | h
  ·exact kp b (AX.mp h)
  ·exact g.kp b h
end
end L2
end
section
namespace L2
open PySem PySem.Spec PyProof.Rows
structure TM (K:uQ) (f:Fx) (a:uR) (as:List uR) (H2:Hp) (ρ:zq) (rows:List (List Int)) (σ:St) (H:Hp):Prop where
 env:EnvOk K (f.withs (a :: as)) ρ σ H
 sm:Same (hide H2 (f.withs (a :: as))) (hide H (f.withs (a :: as)))
 kp:∀ b∈f.M,H b=H2 b
 tab:TabAt H a as rows
end L2
end
section
namespace L2
open PySem PySem.Spec PyProof.Rows
section
variable {K:uQ} {f:Fx} {ρ:zq} {ts tu:TS} {O:DEnds} {te:TE} {i:Nat}
theorem yQ (J:zq->Prop) (h1:PSd K f ts ρ { O with nx:=J }) (h2:∀ ρ',J ρ'->PSd K f tu ρ' O):PSd K f (aY ts tu) ρ O :=
 zX fun σ H E e n r b k=>h1 σ H E e (fun ρ' σ' H' g' e' p=>n ρ' σ' H' g' e' (h2 ρ' p)) r b k
theorem pM {w:World} {Ds:List uR} {cs:List OC} {O:MEnds} (J:zq->List OC->Prop) (h1:PSm w K f Ds ts ρ cs { O with nx:=J }) (h2:∀ ρ' cs',J ρ' cs'->PSm w K f Ds tu ρ' cs' O):PSm w K f Ds (aY ts tu) ρ cs O :=
 cE fun se σ H H2 E x n r b k=>h1 se σ H H2 E x (fun ρ' cs' σ' H' x' p=>n ρ' cs' σ' H' x' (h2 ρ' cs' p)) r b k
end
section
variable {K:uQ} {f:Fx} {ρ:zq} {wi:TI} {g:TG} {tt:TT} {own:Nat} {fr:List Nat} {tb:uR->TB} {P:List PyData->Prop}
theorem sg {α:Type} {A B:α->PyData} (p:α->Bool) (xs:List α) (h:PId K f wi ρ fun ds=>ds=xs.map A/\xs.length<=1000 /\
   (∀ D x ρ' es,x∈xs->OwnE own (frD fr ρ) ρ'->es.length<1000->PGd K (f.with D) g (A x) ρ' fun ρ2=>PTd K (f.with D) tt ρ2 fun b=>b=p x/\if b=true then PBd K f D (tb D) ρ2 es fun ρ3 es3=>OwnE own (frD fr ρ) ρ3/\es3=es++[B x] else OwnE own (frD fr ρ) ρ2)/\P ((xs.filter p).map B)) :
  PEdO K f (bG wi own fr g tt tb) ρ P :=
 lz (h.imp fun ds ⟨ed,hl,hs,hp⟩=>by
  subst ed;refine⟨fun i ρ' es=>OwnE own (frD fr ρ) ρ'/\es=((xs.take i).filter p).map B,⟨⟨xH own none,by simp,rfl⟩,by simp⟩,fun D i d ρ' es hd ⟨ho,he⟩=>?_,fun ρ' es ⟨_,he⟩=>?_⟩
  ·rw [wj] at hd;cases eq:xs[i]? with
   | none=>rw [eq] at hd;cases hd
   | some x =>
    rw [eq] at hd;cases hd;have hi:i<xs.length:=(uY.mp eq).1;have tk:xs.take (i+1)=xs.take i++[x]:=by rw [AH,eq];rfl
    have hb:es.length<1000:=by
     have:=List.length_filter_le p (xs.take i);rw [xg] at this;rw [he,uV];omega
    intro σ H v Q e r q;refine hs D x ρ' es (wM eq) ho hb σ H v Q e r fun ρ2 σ2 H2 g2 e2 p2=>q ρ2 σ2 H2 g2 e2 (p2.imp fun b hb2=>?_);obtain⟨eb,hb2⟩:=hb2;cases b with
    | false =>
     rw [CS uT] at hb2 ⊢;refine⟨hb2,?_⟩;rw [tk,List.filter_append,wO,List.filter_cons,<- eb,CS uT,he];simp
    | true =>
     rw [CT rfl] at hb2 ⊢;intro h1 h2 σ3 H3 H4 W c k;exact hb2 h1 h2 σ3 H3 H4 W c fun ρ5 es5 σ5 H5 c5 ⟨o5,p5⟩=>k ρ5 es5 σ5 H5 c5 ⟨o5,by rw [p5,he,tk,List.filter_append,wO,List.filter_cons,<- eb,CT rfl];rfl⟩
  ·rw [he,uV,AW];exact hp)
end
end L2
end
section
namespace L2
open PySem PySem.Spec PyProof.Rows
def PEv (K:uQ) (f:Fx) (te:TE) (ρ:zq) (P:DV->Prop):Prop:=∀ (σ:St) (H:Hp) (Q:VK),EnvOk K f ρ σ H->(∀ x v H',Goes f H H'->RepV K f H' x v->P x->Q v H')->te σ H Q
section
variable {w:World} {K:uQ} {f:Fx} {ρ:zq} {Ds:List uR} {cs:List OC} {te ta tk:TE} {ts tu:TS} {t:TA} {O:DEnds} {i j:Nat} {R:OC->Prop}
theorem v_var {P:DV->Prop} {x:DV} (h:ρ[i]?=some (some x)) (p:P x):PEv K f (yN i) ρ P:=fun σ H Q e q=>by
 obtain⟨v,h1,h2⟩:=e.get i x h;exact⟨v,h1,q x v H (.refl e.fd) h2 p⟩
theorem pN {R:List DV->Prop} {u:TA} (h:PEv K f te ρ fun x=>PAd K f u ρ fun xs=>R (x :: xs)):PAd K f (z9 te u) ρ R:=fun σ H Q e q =>
 h σ H _ e fun x v H1 g1 r1 p=>p σ H1 _ (e.mono g1) fun xs vs H2 g2 r2 p2=>q (x :: xs) (v :: vs) H2 (g1.trans g2) (.cons (RepV.mono g2 r1) r2) p2
end
end L2
end
section
namespace L2
open PySem PySem.Spec PyProof.Rows
end L2
end
section
namespace L2
open PySem PySem.Spec PyProof.Rows
open PySem.SeqAt
open PySem.AutoSeq1 (wpAny_loadPart')
def uO (A:Around) (s:Shared) (y x:Value) (b:Bool):Prop :=
 ∀ (prog:Program) (w:World) (E:Value->Shared->Prop) (Q:Value->Shared->Prop),Q (.bool b) s->wb (model prog w) A (richCompare .GtE y x) Q E s
inductive Gex (A:Around) (s:Shared):List Value->List Value->Bool->Prop where
 | nn:Gex A s [] [] true
 | eq {v w vs ws b}:EqAt A s v w true->Gex A s vs ws b->Gex A s (v :: vs) (w :: ws) b
 | ge {v w vs ws b}:EqAt A s v w false->uO A s v w b->vs.length=ws.length->Gex A s (v :: vs) (w :: ws) b
noncomputable def aC (o:Obj):Option Value:=match o.data with
 | .fields vs=>vs[2]?
 | _=>none
def KD (h h':Heap):Prop:=∀ b o,h.get? b=some o->∃ u,h'.get? b=some u/\u.dict=o.dict/\aC u=aC o
theorem KD.refl (h:Heap):KD h h:=fun _ o e=>⟨o,e,rfl,rfl⟩
theorem KD.trans {h i j:Heap} (a:KD h i) (b:KD i j):KD h j:=fun c o e =>
 let⟨u,e1,d1,f1⟩:=a c o e
 let⟨v,e2,d2,f2⟩:=b c u e1
 ⟨v,e2,d2.trans d1,f2.trans f1⟩
theorem KD.push (h:Heap) (o:Obj):KD h (h.push o):=fun _ u e=>⟨u,uX _ e,rfl,rfl⟩
theorem KD.update (h:Heap) (a:uR) (f:Obj->Obj) (k:∀ o,(f o).dict=o.dict/\(f o).isFreed=o.isFreed/\aC (f o)=aC o):KD h (h.update a f):=fun b o e=>by
 by_cases q:a=b
 ·subst q;exact⟨f o,x8 f e (by rw [(k o).2.1];exact (Heap.get?_some_iff.mp e).2),(k o).1,(k o).2.2⟩
 ·exact⟨o,(wX h f q).trans e,rfl,rfl⟩
def yq {α:Type} (t:Sem α):Prop:=∀ (M:Model) (Γ:PySem.Ctx) (Q:α->Pos->Shared->Prop) (E:Value->Pos->Shared->Prop) (p:Pos) (s:Shared),
 Sem.wp M Γ t Q E p s->Sem.wp M Γ t (fun a p' s'=>Q a p' s'/\KD s.heap s'.heap) E p s
section
variable {α β:Type}
theorem cZ (a:α):yq (pure a:Sem α):=fun _ _ _ _ _ s h=>⟨h,.refl _⟩
theorem sh (x:String):yq (unsupported x:Sem α):=fun _ _ _ _ _ _ h=>h
theorem gU {m:Sem α} {f:α->Sem β} (a:yq m) (b:∀ x,yq (f x)):yq (m >>= f):=fun M Γ Q E p s h=>by
 rw [Sem.wp_bind'] at h ⊢;refine CO M Γ m (fun x p' s' z=>?_) (fun _ _ _ z=>z) p s (a M Γ _ E p s h);exact CO M Γ (f x) (fun _ _ _ y=>⟨y.1,z.2.trans y.2⟩) (fun _ _ _ y=>y) p' s' (b x M Γ Q E p' s' z.1)
theorem sj {c:Prop} [Decidable c] {t u:Sem α} (a:yq t) (b:yq u):yq (if c then t else u):=by split <;> assumption
theorem nR (a:uR):yq (load a):=fun _ _ _ _ _ _ h=>let⟨o,e,q⟩:=h;⟨o,e,q,.refl _⟩
theorem lN:yq stack:=fun _ _ _ _ _ _ h=>⟨h,.refl _⟩
theorem lO (o:Obj):yq (alloc o):=fun _ _ _ _ _ _ h=>⟨h,.push _ _⟩
theorem iQ (a:uR) (f:Obj->Obj) (k:∀ o,(f o).dict=o.dict/\(f o).isFreed=o.isFreed/\aC (f o)=aC o):yq (update a f):=fun _ _ _ _ _ _ h=>⟨h.1,h.2,.update _ _ _ k⟩
end
local macro_rules | `(tactic| walk_at "kd")=>`(tactic| with_reducible first
  | assumption
  | exact cZ _
  | exact sh _
  | exact nR _
  | exact kd_loadPart _ _
  | exact lN
  | exact lO _
  | exact kd_reg _
  | apply sj
  | apply gU
  | intro _
  | split)
theorem bO (v:Value) (i:Nat):yq (field v i):=fun _ Γ Q E p s h=>by
 obtain⟨a,o,vs,x,h1,h2,h3,h4,h5⟩:=(wp_field_iff Γ v i Q E p s).mp h;exact (wp_field_iff Γ v i _ E p s).mpr ⟨a,o,vs,x,h1,h2,h3,h4,h5,.refl _⟩
theorem aT (v:Value) (i:Nat) (x:Value) (hi:i≠2):yq (setField v i x):=fun _ Γ Q E p s h=>by
 obtain⟨a,o,vs,h1,h2,h3,h4,h5⟩:=(wp_setField_iff Γ v i x Q E p s).mp h;refine (wp_setField_iff Γ v i x _ E p s).mpr ⟨a,o,vs,h1,h2,h3,h4,h5,.update _ _ _ fun u=>?_⟩;obtain⟨c,d,dt,sl⟩:=u;cases dt <;> first | exact⟨rfl,rfl,rfl⟩ | exact⟨rfl,rfl,Array.getElem?_setIfInBounds_ne hi⟩
theorem iR (env:Env) (l:List Env):yq (behindIsImport env l):=by
 unfold behindIsImport;have:=bO env.code 12
 repeat' walk_at "kd"
theorem iS:yq underTheClaimsCaller:=by
 unfold underTheClaimsCaller
 repeat' walk_at "kd"
theorem nS (env:Env) (i:Bool) (l:List Env):yq (keptBack env i l):=by
 have:=iS;cases l <;> unfold keptBack <;> repeat' walk_at "kd"
theorem d5:∀ l:List Env,yq (readyFrames l)
 | []=>cZ _
 | env :: l=>by
  have ih:=d5 l;have h1:=iR env l;have h2:=fun i=>nS env i l;unfold readyFrames
  repeat' (first | walk_at "kd" | exact h2 _ | (refine iQ _ _ fun⟨c,d,dt,sl⟩=>?_;cases dt <;> exact⟨rfl,rfl,rfl⟩))
theorem lP (env:Env):yq (PySem.frameOf env):=by
 unfold PySem.frameOf frameEnvs;have h2:∀ l,yq (frameObject l):=fun l=>by
  cases l with
  | nil=>exact cZ _
  | cons a l =>
   have:=d5 (a :: l);unfold frameObject
   repeat' walk_at "kd"
 repeat' (first | walk_at "kd" | exact h2 _)
theorem aD (e:Value) (f:Option uR):yq (setFlight e f):=by
 unfold setFlight
 repeat' (first | walk_at "kd" | exact bO _ _ | exact aT _ _ _ (by decide))
theorem lQ (f:uR) (b:Bool):yq (entryPlaceOf f b):=by
 unfold entryPlaceOf
 repeat' walk_at "kd"
theorem lR (a b c d e:Value) (l:List Value):yq (Cy a b c d e l):=by
 unfold Cy newFields newObj newObjAsIs classHasDel
 repeat' walk_at "kd"
theorem gW (e:Value) (env:Env):yq (noteFrame e env):=by
 unfold noteFrame
 repeat' (first | walk_at "kd" | exact bO _ _ | exact aT _ _ _ (by decide) | exact lP _ | exact lQ _ _ | exact lR _ _ _ _ _ _)
theorem d6 (env:Env) (e:Value):yq (leaving env e):=by
 unfold leaving;exact gU (gW _ _) fun _=>aD _ _
theorem d7 {α:Type} {t:Sem α} {M:Model} {A:Around} {Q Q':α->Shared->Prop} {E:Value->Shared->Prop} {s:Shared} (k:yq t) (h:wb M A t Q E s) (q:∀ a s',Q a s'->KD s.heap s'.heap->Q' a s'):wb M A t Q' E s:=fun Γ p hΓ =>
 CO M Γ t (fun a _ s' z=>q a s' z.1 z.2) (fun _ _ _ z=>z) p s (k M Γ _ _ p s (h Γ p hΓ))
def Dct (a:uR) (o:Option uR) (h:Heap):Prop:=∃ u,h.get? a=some u/\aC u=some .none/\∀ dx,o=some dx->u.dict=some dx
theorem Dct.kd {a:uR} {o:Option uR} {h h':Heap} (x:Dct a o h) (k:KD h h'):Dct a o h' :=
 let⟨u,q,f,d⟩:=x
 let⟨v,q2,d2,f2⟩:=k a u q
 ⟨v,q2,f2.trans f,fun dx e=>d2.trans (d dx e)⟩
def CXf (P:Program) (w:World):CXT:=fun outer H s E e s'=>∃ a C o H',e=.ref a/\XLie P w outer H s a C H' s'/\Dct a o s'.heap/\E C o H'
def yx (a:uR) (C:Value) (o:Option uR) (h:Heap):Prop:=∃ t,h.get? a=some { cls:=C,dict:=o,data:=.fields #[.ref t,.none,.none,.none,.bool false,.none] }
noncomputable def drp (H:Hp) (a:uR):Hp:=fun b=>if b=a then none else H b
theorem bP {H:Hp} {a:uR}:drp H a a=none:=by unfold drp;rw [CT rfl]
theorem qv {H:Hp} {a b:uR} (h:b≠a):drp H a b=H b:=by unfold drp;rw [CS h]
theorem lS {H:Hp} {a b:uR} {o:HO} (h:drp H a b=some o):b≠a/\H b=some o:=by
 by_cases e:b=a
 ·rw [e,bP] at h;cases h
 ·rw [qv e] at h;exact⟨e,h⟩
section
variable {X:Cx} {CQ:List (uR×Obj)} {σ:St} {H H':Hp} {s s':Shared} {a dx:uR} {C:Value} {o:Option uR}
theorem iT {E:Value->Shared->Prop} (I:Inv X CQ σ H s) (hst:X.stack=X.env :: X.outer) (hf:X.env.frame=some X.env.locals) (hex:X.ex=[]) (x:XLie X.prog X.w X.stack H s a C H' s') (d:Dct a o s'.heap) :
  wb (model X.prog X.w) X.A (leaving X.env (.ref a)) (fun _ s''=>XLie X.prog X.w X.outer X.H₀ X.s₀ a C H' s''/\Dct a o s''.heap) E s' :=
 d7 (d6 _ _) (lA I hst hf hex x) fun _ s'' y k=>⟨y,d.kd k⟩
theorem fP {E:Value->Shared->Prop} (I:Inv X CQ σ H s) (hst:X.stack=X.env :: X.outer) (hf:X.env.frame=some X.env.locals) (hex:X.ex=[]) (ha:H a=some (.ext (yx a C (some dx)))) (hnew:X.s₀.heap.get? a=none) :
  wb (model X.prog X.w) X.A (leaving X.env (.ref a)) (fun _ s''=>XLie X.prog X.w X.outer X.H₀ X.s₀ a C (drp H a) s''/\Dct a (some dx) s''.heap) E s:=by
 obtain⟨⟨t,hu⟩,_,_⟩:=I.hok a _ ha;have ex0:∀ b:uR,b∉X.ex:=fun b=>by rw [hex];simp
 have hsub:∀ env∈X.env :: X.outer,∀ b,env.frame=some b->b∈a :: frs X.stack:=fun env he b hb=>by
  rw [hst];exact uW _ (xX.mpr ⟨env,he,hb⟩)
 have ff:=I.stack;rw [hst] at ff;have inF:∀ b,b∈frs X.outer->b∈frs X.stack:=fun b hb=>by
  rw [hst];unfold frs;rw [xO,hf];exact uW _ hb
 have hid:∀ {b:uR} {v:Obj},s.heap.get? b=some v->b≠a->b∉frs X.stack->(A6 s.heap (a :: frs X.stack)).get? b=some v:=fun q n1 n2=>Ct _ q fun z=>(u6.mp z).elim n1 n2;have hen:(A6 s.heap (a :: frs X.stack)).get? a=none:=Cd _ (u3 ..);refine d7 (d6 _ _) (wpAny_leaving_firstW (base:=A6 s.heap (a :: frs X.stack)) (oe:={ cls:=C,dict:=some dx,data:=.fields #[.ref t,.none,.none,.none,.bool false,.none] }) (a0:=.ref t) (by rw [I.ok.frames,hst]) (PySem.W.funFrames_hide ff hsub) hf hu (fun b v hb=>PySem.W.of_hideAll _ hb) hen rfl rfl rfl
  (Q:=fun _ s''=>XLie X.prog X.w X.outer X.H₀ X.s₀ a C (drp H a) s'') fun h' hL=>?_) fun _ s'' y k=>⟨y,Dct.kd ⟨_,hu,rfl,fun d e=>e⟩ k⟩
 obtain⟨k1,⟨_,_,k2⟩,k3,up⟩:=hL;have kp:∀ b v,s.heap.get? b=some v->b≠a->b∉frs X.stack->h'.get? b=some v:=fun b v q n1 n2=>k1 b v (hid q n1 n2);have ne:∀ {b:uR} {v:Obj},X.s₀.heap.get? b=some v->b≠a:=fun q e=>by rw [e,hnew] at q;cases q
 have slots:∀ b v,b∈frs X.outer->s.heap.get? b=some v->∃ sl,h'.get? b=some { v with slots:=sl }:=fun b v hb q=>by
  obtain⟨_,o1,q1,hd⟩:=I.stack.mem (b:=b) (inF b hb);rw [q] at q1;cases q1;exact up b v q hd
 have trk:∀ b v,drp H a b=some v->∃ w,s.heap.get? b=some w/\b≠a/\b∉frs X.stack:=fun b v e=>by
  obtain⟨n1,e⟩:=lS e;obtain⟨w,q⟩:=(I.hok b v e).is;exact⟨w,q,n1,fun z=>by rw [I.stkFree b z] at e;cases e⟩
 have inB:∀ b v,X.s₀.heap.get? b=some v->b∉frs X.outer->∃ o',(A6 s.heap (a :: frs X.stack)).get? b=some o':=fun b v q hb=>by
  obtain⟨o1,q1⟩:=I.base.there b v q (ex0 b);exact⟨o1,hid q1 (ne q) (I.old_ne hst hf q hb)⟩
 have na:∀ {b:uR} {v:HO},H b=some v->(∀ φ,v≠.ext φ)->b≠a:=fun {b v} q n e=>by
  rw [e,ha] at q;cases q;exact n _ rfl
 refine⟨I.os,I.bare,⟨fun b v q n hb _=>kp b v (I.base.keep b v q n hb (ex0 b)) (ne q) (I.old_ne hst hf q hb),fun b v q n hb _=>?_,fun b v q n _=>?_,fun b v q _=>?_,fun b xs q=>?_,fun b v w q=>?_,fun b ps q=>?_⟩,fun b v e=>?_,⟨_,_,⟨k1,hen,k2,k3⟩,inB,fun b v e=>?_⟩,hnew,bP⟩
 ·obtain⟨sl,q1⟩:=I.base.slot b v q n hb (ex0 b);obtain⟨sl',q2⟩:=slots b _ hb q1;exact⟨sl',q2⟩
 ·rw [qv (ne q)];exact I.base.free b v q n (ex0 b)
 ·obtain⟨o1,q1⟩:=I.base.there b v q (ex0 b);by_cases hb:b∈frs X.outer
  ·obtain⟨sl',q2⟩:=slots b _ hb q1;exact⟨_,q2⟩
  ·exact⟨_,kp b o1 q1 (ne q) (I.old_ne hst hf q hb)⟩
 ·have q1:=I.base.tups b xs q;rw [qv (na q1 fun φ z=>by cases z)];exact q1
 ·have q1:=I.base.frzs b v w q;rw [qv (na q1 fun φ z=>by cases z)];exact q1
 ·have q1:=I.base.tbls b ps q;rw [qv (na q1 fun φ z=>by cases z)];exact q1
 ·obtain⟨n1,e1⟩:=lS e;refine (I.hok b v e1).stay (fun c w hc' q=>?_) (fun c q=>by rw [qv (na q fun φ z=>by cases z)];exact q) fun c xs q=>by rw [qv (na q fun φ z=>by cases z)];exact q
  rcases hc' with rfl | hc'
  ·obtain⟨_,_,n2,n3⟩:=trk c v e;exact kp c w q n2 n3
  ·have e2:drp H a c=some (.own b):=by rw [qv (na hc' fun φ z=>by cases z)];exact hc'
   obtain⟨_,_,n2,n3⟩:=trk c _ e2;exact kp c w q n2 n3
 ·obtain⟨w,q,n1,n2⟩:=trk b v e;exact⟨w,hid q n1 n2⟩
end
theorem uc {P:Program} {w:World} {K:uQ} {mg:Str->Option Value} {base:Heap} {N:List Str} {qual:Str} {scope:Scope} {f:uR} {cd:Value} {A:Around} {outer:List Env} {s:Shared} {H:Hp} {E:XK} :
  Passes (CXf P w) (zS (CXf P w) P w K mg base N qual scope f cd A outer s H E) E:=fun CQ σ H1 s1 e s' I h=>by
 obtain⟨a,C,o,H',rfl,x,d,hE⟩:=h;exact wW (iT (X:=zS (CXf P w) P w K mg base N qual scope f cd A outer s H E) (E:=fun _ _=>False) I rfl rfl rfl x d) (fun _ s'' y=>⟨a,C,o,H',rfl,y.1,y.2,hE⟩) fun _ _ z=>z.elim
end L2
end
section
namespace L2
open PySem PySem.Spec PyProof.Rows PySem.Builtin Builtin Builtin.ObjectAttr
noncomputable def vZ (K:uQ) (C f:uR) (bmB:List Value) (newId:String):Bool :=
 match K.lookup C with
 | some ⟨c0,_,.cls cd,sl⟩=>c0 == .type "type" && cd.mro.head? == some (.ref C) && cd.hasDel == false && cd.hasDict && PySem.W.tailIn K bmB cd.mro.tail && PySem.W.nsOkIn K cd.ns && we K cd.ns "__init__" == some (some (.ref f))
   && sl.toList.length == 6 && sl.toList[4]? == some (some (.builtin newId))
 | _=>false
structure XCls (h:Heap) (C f:uR) (bmB:List Value) (newId:String):Prop where
 ex:∃ nm q N bs bm sn sub ab col dd k0 k1 k2 k3 k5 mN,h.get? C=some (excClassObj nm q C N bs bm true sn sub ab col dd k0 k1 k2 k3 k5 newId)/\h.Ns N mN/\mN "__init__"=some (.ref f)/\OwnTail h bmB bm
theorem nT {K:uQ} {h:Heap} {N:uR} {m:Str->Option Value} {n:Str} {v:Value} (X:K.In h) (G:h.Ns N m) (e:we K N n=some (some v)):m n=some v:=by
 obtain⟨o,es,ep,ho,hd,_,hf⟩:=G;unfold we at e;split at e
 ·rename_i lk;have z:=X _ _ lk;rw [ho] at z;cases z;cases hd;have z2:=hf n;unfold nsFind findBy at z2;rw [<-Array.find?_toList] at z2;cases q:List.find? (fun x=>x.key.isStr n) es.toList with
  | none=>rw [q] at e;dsimp only at e;split at e <;> cases e
  | some y =>
   rw [q] at e z2;cases e;exact z2.symm
 ·cases e
theorem sk {sl:Array (Option Value)} {v:Value} (h:sl.toList.length=6) (h4:sl.toList[4]?=some (some v)):∃ k0 k1 k2 k3 k5,sl=#[k0,k1,k2,k3,some v,k5]:=by
 obtain⟨l⟩:=sl
 match l,h with
 | [a,b,c,d,e,f],_ =>
  have:e=some v:=by simpa using h4
  subst this;exact⟨a,b,c,d,f,rfl⟩
theorem v3 {K:uQ} {h:Heap} {C f:uR} {bmB:List Value} {newId:String} (Y:K.In h) (e:vZ K C f bmB newId=true):XCls h C f bmB newId:=by
 unfold vZ at e;split at e
 case h_2=>cases e
 case h_1 c0 dd cd sl lk =>
  simp only [wB,beq_iff_eq] at e;obtain⟨⟨⟨⟨⟨⟨⟨⟨e0,e1⟩,e2⟩,e3⟩,e4⟩,e5⟩,e6⟩,e7⟩,e8⟩:=e;obtain⟨k0,k1,k2,k3,k5,rfl⟩:=sk e7 e8;obtain⟨nm,bs,mro,ns,qn,hd,sn,sub,ab,col,del⟩:=cd;dsimp only at e1 e2 e3 e4 e5 e6;cases mro with
  | nil=>cases e1
  | cons z bm =>
   cases e1;subst e0 e2 e3;have G:h.Ns ns (h.nsMap ns):=.of_isNs (PySem.W.isNs_of_in Y e5);exact⟨nm,qn,ns,bs,bm,sn,sub,ab,col,dd,k0,k1,k2,k3,k5,_,Y _ _ lk,G,nT Y G e6,PySem.W.tail_of_in Y e4⟩
section
variable {prog:Program} {w:World} {A:Around} {E:Value->Shared->Prop} {h:Heap} {g:Array GenState} {d:Drawn} {t:Nat} {os:OsState}
variable {C fI e:uR} {bmB:List Value} {B newId initId:String}
theorem lT (F:ExcBaseFacts B newId initId bmB) {K:uQ} {rest:List Value} {Q:Value->Shared->Prop} (X:K.In h) (Y:XCls h C fI bmB newId) (hf:Cf K (.ref fI)=some (.type "function")) (hrest:rest.length<=wt)
  (go:∀ h' e,Heap.MadeExcOf h h' e (.ref C) rest->wb (model prog w) (A.under (.builtin "type.__call__" ⟨.ref C :: rest,[]⟩)) (call (.ref fI) (.ref e :: rest)) (fun r s'=>r=.none/\Q (.ref e) s') E ⟨h',g,d,t,os⟩) :
  wb (model prog w) A (call (.ref C) rest) Q E ⟨h,g,d,t,os⟩:=by
 obtain⟨nm,q,N,bs,bm,sn,sub,ab,col,dd,k0,k1,k2,k3,k5,mN,hC,hn,hi,T⟩:=Y.ex;have l1:=tc_lookup;have l2:=tc_bind (.ref C);have hT:(⟨h,g,d,t,os⟩:Shared).TypeIs (.ref C) "type":=⟨_,hC,rfl⟩;refine wpAny_call (codeAny_of_tree ?_);show wb _ _ (callAny (.ref C) _) _ _ _
 repeat (any_goals (first | with_reducible refine wpAny_loadPart_at hC ?_ | wp_step | assumption))
 refine⟨rfl,?_⟩;refine codeAny_call_builtin_at (BF _ (by decide +kernel)) entry_typeCall (wpAny_check_type_call_sub hC ?_);show wb _ _ (Builtin.«type.__call__» ⟨.ref C :: rest,[]⟩) _ _ _
 repeat (first | with_reducible refine wpAny_madeBy_exc hC ?_ | with_reducible refine wpAny_loadPart_at hC ?_ | wp_step)
 refine codeAny_call_builtin_code (BF _ F.quiet) (wpAny_check_new_subT F T hC (codeAny_exc_new_subT F T hC ?_ hrest));show wb _ _ _ _ _ _;have up:∀ b o,h.get? b=some o->((h.push { cls:=.type "tuple",data:=.seq rest.toArray }).push { cls:=.ref C,data:=.fields #[.ref h.objs.size,.none,.none,.none,.bool false,.none] }).get? b=some o :=
  fun b o z=>uX _ (uX _ z)
 have gE:((h.push { cls:=.type "tuple",data:=.seq rest.toArray }).push { cls:=.ref C,data:=.fields #[.ref h.objs.size,.none,.none,.none,.bool false,.none] }).get? (h.objs.size+1) =
   some { cls:=.ref C,data:=.fields #[.ref h.objs.size,.none,.none,.none,.bool false,.none] }:=BP (by simp only [xj]) rfl
 have gT:((h.push { cls:=.type "tuple",data:=.seq rest.toArray }).push { cls:=.ref C,data:=.fields #[.ref h.objs.size,.none,.none,.none,.bool false,.none] }).get? h.objs.size =
   some { cls:=.type "tuple",data:=.seq rest.toArray }:=uX _ (BP rfl rfl)
 have self:(Value.ref C :: bm).contains (.ref C)=true:=by simp
 have hC1:=up _ _ hC;unfold isInstance
 repeat (first | with_reducible refine wpAny_loadPart_at gE ?_ | (dsimp only;with_reducible refine wpAny_isSubtype_exc hC1 ?_;rw [self]) | wp_step)
 show wb _ _ (typeLookup (.ref C) _) _ _ _;refine wpAny_typeLookup_tail (up _ _ hC) (hn.keeps up) (T.keeps up) F.mroIs F.init.lookup ?_;rw [hi];refine xl (uS ?_);refine (PySem.W.bind_fn (X.keeps up) (.ref (h.objs.size+1)) hf).at ?_;refine (uS (wW (go _ (h.objs.size+1) ⟨up,AK (Br _),h.objs.size,gE,AK (wc _),gT⟩) (fun r s' z=>?_) fun _ _ z=>z));obtain⟨rfl,z⟩:=z
 wp_walk
 exact z
theorem iU (F:ExcBaseFacts B newId initId bmB) {rest:List Value} {t0:uR} {ot:Obj} {R:Result->Shared->Prop} {T0:List Value} (Y:XCls h C fI bmB newId)
  (he:h.get? e=some { cls:=.ref C,data:=.fields #[.ref t0,.none,.none,.none,.bool false,.none] }) (hrest:rest.length<=wt)
  (go:∀ h',(∀ b o,b≠e->h.get? b=some o->h'.get? b=some o)->(∃ t1,h'.get? e=some { cls:=.ref C,data:=.fields #[.ref t1,.none,.none,.none,.bool false,.none] })->R (.ok (.ret .none)) ⟨h',g,d,t,os⟩) :
  codeAny (model prog w) A (.call (.builtin initId) ⟨.ref e :: rest,[]⟩) R ⟨h,g,d,t,os⟩:=by
 obtain⟨nm,q,N,bs,bm,sn,sub,ab,col,dd,k0,k1,k2,k3,k5,mN,hC,hn,hi,T⟩:=Y.ex;refine codeAny_call_builtin F.init.plain F.initEntry (wpAny_check_init_subT F T hC he rfl ?_)
 wp_walk
 refine go _ (fun b o n z=>?_) ⟨h.objs.size,?_⟩
 ·rw [wX _ _ (x6 n)];exact uX _ z
 ·rw [x8 _ (uX _ he) rfl];rfl
end
end L2
end
section
namespace L2
open PySem PySem.Spec PySem.W PyProof.Rows PySem.Calls PySem.Builtin Builtin Builtin.ObjectAttr
theorem d8 {h:Heap} {bmB bm:List Value} {self:Value} {what:Str} (T:OwnTail h bmB bm) (p:refuseLoop self what bmB=pure ()):refuseLoop self what bm=pure ():=by
 induction T with
 | base=>exact p
 | own _ _ _ _ ih=>rw [refuseLoop_ref];exact ih
noncomputable abbrev bare (C:uR) (o:Option uR) (t:uR):Obj:={ cls:=.ref C,dict:=o,data:=.fields #[.ref t,.none,.none,.none,.bool false,.none] }
noncomputable abbrev bmV:List Value:=[.type "ValueError",.type "Exception",.type "BaseException",.type "object"]
section
variable {prog:Program} {w:World} {A:Around} {E:Value->Shared->Prop} {h:Heap} {g:Array GenState} {d:Drawn} {t:Nat} {os:OsState} {K:uQ}
variable {C fI e t0:uR} {name:Str} {v:Value}
theorem lU {M:Model} {Q:Option uR->Shared->Prop} {nm q:Str} {N:uR} {bs bm:List Value} {sn:List Str} {sub:List Value} {ab:Bool} {col:Option Bool} {dd:Option uR} {k0 k1 k2 k3 k5:Option Value} {newId:String}
  (he:h.get? e=some (bare C none t0)) (hC:h.get? C=some (excClassObj nm q C N bs bm true sn sub ab col dd k0 k1 k2 k3 k5 newId))
  (go:∀ h' dx,h.objs.size<=dx->h'.get? dx=some { cls:=.type "dict",data:=.dict #[] }->h'.get? e=some (bare C (some dx) t0)->(∀ b o,b≠e->h.get? b=some o->h'.get? b=some o)->Q (some dx) ⟨h',g,d,t,os⟩) :
  wb M A (ownDictForStores (.ref e)) Q E ⟨h,g,d,t,os⟩:=by
 have hne:e≠h.objs.size:=wC (u5 he);unfold ownDictForStores instanceDict
 repeat (first | with_reducible refine wpAny_loadPart_at he ?_ | with_reducible refine wpAny_loadPart_at hC ?_ | wp_step)
 refine go _ h.objs.size (wc _) ((wX _ _ hne).trans (BP rfl rfl)) (x8 _ (uX _ he) rfl) fun b o nb z=>?_;exact (wX _ _ (x6 nb)).trans (uX _ z)
theorem cw {Q:Unit->Shared->Prop} (X:K.In h) (Y:XCls h C fI bmV "ValueError.__new__") (he:h.get? e=some (bare C none t0)) (ob:mroIn K C (.type "object")=some true)
  (hsa:findIn K (.ref C) "__setattr__"=some (some (.builtin "object.__setattr__"))) (hna:findIn K (.ref C) name=some none)
  (go:∀ h' tk dx,h.objs.size<=dx->h'.get? e=some (bare C (some dx) t0)->h'.Ns1 dx (fun y=>if y=name then some v else none)->(∀ b o,b≠e->h.get? b=some o->h'.get? b=some o)->Q () ⟨h',g,d,tk,os⟩) :
  wb (model prog w) A (setAttr (.ref e) name v) Q E ⟨h,g,d,t,os⟩:=by
 obtain⟨nm,q,N,bs,bm,sn,sub,ab,col,dd,k0,k1,k2,k3,k5,mN,hC,hn,hi,T⟩:=Y.ex;have SF:=PySem.F.store_ValueError;have LT:Looks (model prog w) h (typeOf (.ref e)) (.ref C):=(Looks.ld he).andThen .now;have LS:=looks_findIn (M:=model prog w) X hsa;have LN:=looks_findIn (M:=model prog w) X hna;have LI:Looks (model prog w) h (isInstance (.ref e) (.type "object")) true:=LT.andThen (looks_mroIn X ob);refine uS (wpAny_mkText (uS ?_));unfold callSpecial? specialOf;refine uS (uS (LT.at (LS.at (xl ?_))));rw [SF.slot.bind (.ref e)];refine uS (wa (uS (wpAny_call (codeAny_call_builtin SF.slot.plain SF.entry (@check_slot (model prog w) _ _ ⟨h,g,d,t+1,os⟩ _ _ _ (.ref e) [.str name t,v] [] _ SF.kind SF.split LI (SF.args _ _ _) ?_)))));show wb _ _ (Builtin.«object.__setattr__» ⟨[.ref e,.str name t,v],[]⟩) _ _ _;rw [osa_eq,refuse_eq];refine uS (uS (LT.at (uS (wpAny_mroOf_exc hC ?_))));rw [refuseLoop_ref,d8 T (SF.passes _)];refine wa (uS (LT.at (uS (LN.at (uS (wa ?_))))));dsimp only;unfold storeInOwnDict;refine uS (wa (uS ?_));refine lU he hC fun h2 dx l2 g2 e2 k2=>?_;have n2:h.get? dx=none:=AK l2;show wb _ _ (storeInDict dx (.str name t) name v) _ _ _;unfold storeInDict newKeyGuard;refine uS (wa (uS (wpAny_nsSet1 (Heap.Ns1.of_empty ⟨_,#[],_,g2,rfl,fun z hz=>absurd hz (by simp),fun _=>rfl⟩) fun h3 n3 s3=>?_)));obtain⟨o4,es4,ep4,ho4,hd4,hc4⟩:=n3.count (Within.cons name v Within.nil);refine uS (wpAny_lookBehind ho4 (by rw [hd4];exact pastItsLine_dict (wu hc4 (by rw [wy,List.length_nil,sizeLine_eq];omega))) ?_);refine wa (wa (wa ?_));have ne:e≠dx:=fun z=>by rw [z,n2] at he;cases he
 exact go h3 _ dx l2 ((s3.2 e ne).trans e2) n3 fun b o nb z=>(s3.2 b fun y=>by rw [y,n2] at z;cases z).trans (k2 b o nb z)
end
noncomputable def qh (K:uQ) (C f D:uR) (name:Str):Bool :=
 vZ K C f bmV "ValueError.__new__" && Ax K (.ref f) && Bo K C (.type "object") == some true && wx K (.ref C) "__setattr__" == some (some (.builtin "object.__setattr__"))
  && wx K (.ref C) name == some none && PySem.W.readsIn K D (.type "type") && AG K (.ref D) "__getattribute__" == some (some (.builtin "type.__getattribute__")) && wF K (.ref C)
  && (match PySem.W.findCls K (.ref D) (.type "type") "__init__" with | some (.val v)=>v == .builtin "ValueError.__init__" | _=>false)
structure FldC (K:uQ) (C f D:uR) (name:Str):Prop where
 wi:vZ K C f bmV "ValueError.__new__"=true
 fn:Cf K (.ref f)=some (.type "function")
 ob:Bo K C (.type "object")=some true
 sa:wx K (.ref C) "__setattr__"=some (some (.builtin "object.__setattr__"))
 na:wx K (.ref C) name=some none
 rd:PySem.W.readsIn K D (.type "type")=true
 sp:AG K (.ref D) "__getattribute__"=some (some (.builtin "type.__getattribute__"))
 kp:wF K (.ref C)=true
 fi:PySem.W.findCls K (.ref D) (.type "type") "__init__"=some (.val (.builtin "ValueError.__init__"))
theorem FldC.of {K:uQ} {C f D:uR} {name:Str} (h:qh K C f D name=true):FldC K C f D name:=by
 unfold qh Ax at h;simp only [wB,beq_iff_eq] at h;obtain⟨⟨⟨⟨⟨⟨⟨⟨h1,h2⟩,h3⟩,h4⟩,h5⟩,h6⟩,h7⟩,h8⟩,h9⟩:=h;refine⟨h1,h2,h3,h4,h5,h6,h7,h8,?_⟩;split at h9
 ·rename_i v e;rw [e,beq_iff_eq.mp h9]
 ·cases h9
theorem fQ {P:Program} {w:World} {H:Hp} {h:Heap} {a:uR} {C:Value} {o:Option uR} (x:yx a C o h):ObjOk P w H h a (.ext (yx a C o)):=by
 obtain⟨t,e⟩:=x;exact⟨⟨t,e⟩,⟨_,e⟩,fun h1 h2 p k=>let⟨t,e⟩:=p;⟨t,k _ e⟩⟩
theorem sr {H:Hp} {a:uR} {o:HO} (h:H a=some o):upd H a o=H:=by
 funext b
 by_cases e:b=a
 ·rw [e,zr,h]
 ·rw [zl e]
section
variable {X:Cx} {CQ:List (uR×Obj)} {σ:St} {H H':Hp} {s s':Shared} {h':Heap} {a b dx C D f:uR} {o:HO} {t':Nat} {name:Str}
theorem Inv.born (I:Inv X CQ σ H s) (k:∀ b u,s.heap.get? b=some u->h'.get? b=some u) (n:s.heap.get? a=none) (new:ObjOk X.prog X.w (upd H a o) h' a o):Inv X CQ σ (upd H a o) { s with heap:=h',toks:=t' }:=by
 have hn:H a=none:=by
  cases q:H a with
  | none=>rfl
  | some u =>
   obtain⟨v,z⟩:=(I.hok a u q).is;rw [n] at z;cases z
 have ne:∀ {c:uR} {u:Obj},s.heap.get? c=some u->c≠a:=fun q e=>by rw [e,n] at q;cases q
 have nh:∀ {c:uR} {u:HO},H c=some u->upd H a o c=some u:=fun q=>by rw [zl (zB q hn)];exact q
 refine I.un ⟨fun c u q _ _ _=>k c u q,fun c u q _ _ _=>⟨u.slots,k c u q⟩,fun c u q m _=>by rw [zl (ne q)];exact m,fun c u q _=>⟨u,k c u q⟩,fun c xs q=>nh q,fun c u xs q=>nh q,fun c ps q=>nh q⟩ fun c u q=>?_;by_cases e:c=a
 ·subst e;rw [zr] at q;cases q;exact new
 ·rw [zl e] at q;exact (I.hok c u q).stay (fun x v _ z=>k x v z) (fun x z=>nh z) fun x xs z=>nh z
theorem Inv.field {y:V} {u:Value} (I:Inv X CQ σ H s) (ha:H a=some (.ext (yx a (.ref C) none))) (hd:s.heap.objs.size<=dx) (ry:RelV y u) (he:yx a (.ref C) (some dx) h') (hn:h'.Ns1 dx fun x=>if x=name then some u else none)
  (k:∀ b o,b≠a->s.heap.get? b=some o->h'.get? b=some o):Inv X CQ σ (upd (upd H dx (.xd [(name,y)])) a (.ext (yx a (.ref C) (some dx)))) { s with heap:=h',toks:=t' }:=by
 have hdn:=I.hok.fresh hd;have nd:∀ {c:uR} {v:Obj},s.heap.get? c=some v->c≠dx:=fun q=>wC (wm (u5 q) hd);have na:∀ {c:uR} {v:HO},H c=some v->(∀ φ,v≠.ext φ)->c≠a:=fun {c v} q n e=>by
  rw [e,ha] at q;cases q;exact n _ rfl
 have nh:∀ {c:uR} {v:HO},H c=some v->(∀ φ,v≠.ext φ)->upd (upd H dx (.xd [(name,y)])) a (.ext (yx a (.ref C) (some dx))) c=some v:=fun q n=>by
  rw [zl (na q n),zl (zB q hdn)];exact q
 have nn:∀ {c:uR},H c=none->c≠a:=fun m e=>by rw [e,ha] at m;cases m
 refine I.un ⟨fun c v q m _ _=>k c v (nn m) q,fun c v q m _ _=>⟨v.slots,k c v (nn m) q⟩,fun c v q m _=>by rw [zl (nn m),zl (nd q)];exact m,fun c v q _=>?_,fun c xs q=>nh q fun φ z=>(by cases z),fun c v xs q=>nh q fun φ z=>(by cases z),
  fun c ps q=>nh q fun φ z=>(by cases z)⟩ fun c v q=>?_
 ·by_cases e:c=a
  ·subst e;obtain⟨t,z⟩:=he;exact⟨_,z⟩
  ·exact⟨v,k c v e q⟩
 ·by_cases e:c=a
  ·subst e;rw [zr] at q;cases q;exact fQ he
  ·rw [zl e] at q;by_cases e2:c=dx
   ·subst e2;rw [zr] at q;cases q;refine⟨_,hn,fun g=>?_⟩;by_cases eg:g=name
    ·subst eg;rw [CT rfl,wN,beq_self_eq_true];exact ry
    ·rw [CS eg,wN,beq_eq_false_iff_ne.mpr eg];exact trivial
   ·rw [zl e2] at q;refine (I.hok c v q).stay (fun x w hx z=>k x w ?_ z) (fun x z=>nh z fun φ z=>(by cases z)) fun x xs z=>nh z fun φ z=>(by cases z);rcases hx with rfl | hx
    ·exact e
    ·exact na hx fun φ z=>(by cases z)
def iV (C:uR) (t:TA):TE:=fun σ H Q=>t σ H fun vs H1=>∃ a r,vs=.ref a :: r/\r.length<=1000/\H1 a=some (.ext (yx a (.ref C) none))/\Q .non H1
theorem aU {x:Str} {p apos pos:Pos} {e:Expr} {es:List Expr} {t:TA} {pl:Sem Bool} (T:FldC X.K C f D name) (hg:Gl X x) (hm:X.mg x=some (.ref D)) (ha:PA X (e :: es) t) (hdb:(x == ("__debug__":Str))=false:=by decide)
  (hst:u4 (e :: es) X.env=(false,eval e X.env) :: u4 es X.env:=by rfl) (hpl:(backTo pos (u4 es X.env)).any (·.1)=false:=by rfl)
  (ht:eval (.Call (.Attribute (.Name x p) "__init__" apos) (e :: es) [] pos) X.env=(do
   let ov <- eval (.Name x p) X.env
   standAt apos.atName
   let (f,first) <- holding [ov] (getMethod ov "__init__" pl)
   callWith pos f first (backTo pos (u4 (e :: es) X.env)) (backToKw pos (keywordEach [] X.env))):=by rfl) :
  PE X (.Call (.Attribute (.Name x p) "__init__" apos) (e :: es) [] pos) (iV C t):=by
 intro CQ s σ H Q I h;refine B7 (pl:=pl) (y2 I hg hm ?_ hdb) ht;refine PySem.W.method_cls I.kIn T.sp (PySem.W.cls_value I.kIn T.rd T.fi rfl ?_);refine Bm (thn (ha pos CQ _ σ H _ (I.tok _) h) fun us s1 ⟨vs,H1,I1,r1,a,r,ev,hl,hH,q⟩=>?_) hst hpl;subst ev;cases r1 with
 | cons ra rr =>
  obtain rfl:=(show _=Value.ref a from ra);obtain⟨⟨t0,he⟩,_,_⟩:=I1.hok a _ hH;obtain⟨hh,g,d,tk,os'⟩:=s1;refine wpAny_call (iU (ot:=default) (T0:=[]) AO (v3 I1.kIn T.wi) he (by rw [<-Vals.length rr];exact xS (yI hl)) fun h' k ⟨t1,e1⟩=>?_);have I2:=I1.write (x:=a) (e:=a) (o:=.ext (yx a (.ref C) none)) (h':=h') (t':=tk) (by rw [hH];exact trivial) (.inl rfl) (fun b u nb z=>k b u nb z) ⟨_,e1⟩ (fQ ⟨t1,e1⟩);rw [sr hH] at I2;exact⟨.non,H1,I2,rfl,q⟩
def ud (C:uR) (name:Str) (ta tv:TE):TS:=fun D σ H=>tv σ H fun y H1=>ta σ H1 fun x H2=>∃ a,x=.ref a/\H2 a=some (.ext (yx a (.ref C) none))/\∀ dx,H2 dx=none->dx≠a->D.nx σ (upd (upd H2 dx (.xd [(name,y)])) a (.ext (yx a (.ref C) (some dx))))
theorem gX {o value:Expr} {ta tv:TE} {pos' pos:Pos} (T:FldC X.K C f D name) (ha:PE X o ta) (hv:PE X value tv) (hs:swapsWith value (some (.Attribute o name pos')) pos.line X.env=pure false:=by rfl) :
  PS X (.Assign [.Attribute o name pos'] value pos) (ud C name ta tv):=by
 intro CQ s σ H D' I h;refine plainObj_wpAny_Assign_Attribute (thn (hv CQ s σ H _ I h) fun u s1 ⟨y,H1,I1,ry,q⟩=>thn (ha CQ s1 σ H1 _ I1 q) fun ov s2 ⟨x,H2,I2,rx,a,ex,hH,q2⟩=>?_) hs;subst ex;obtain rfl:ov=Value.ref a:=rx;obtain⟨⟨t0,he⟩,_,_⟩:=I2.hok a _ hH;obtain⟨hh,g,d,tk,os'⟩:=s2;refine cw (K:=X.K) (t0:=t0) I2.kIn (v3 I2.kIn T.wi) he T.ob T.sa T.na fun h' tk' dx hd e1 hn k=>?_;refine⟨σ,_,I2.field hH hd ry ⟨t0,e1⟩ hn k,q2 dx (I2.hok.fresh hd) ?_⟩;rintro rfl;exact absurd (u5 he) (BX.mpr hd)
def c7 (C:uR) (name:Str):Sp:=fun vs H Q _=>∃ a y,vs=[.ref a,y]/\H a=some (.ext (yx a (.ref C) none))/\∀ dx,H dx=none->dx≠a->Q .non (upd (upd H dx (.xd [(name,y)])) a (.ext (yx a (.ref C) (some dx))))
end
section
variable {M:Model} {A:Around} {E:Value->Shared->Prop} {s:Shared} {C e:uR}
theorem iW {env:Env} {x:Sem Value} {Q:Flow->Shared->Prop} {bmB:List Value} {newId B initId:String} {f:uR} (F:ExcBaseFacts B newId initId bmB) (hh:A.handled=none)
  (h:wb M A x (fun v s1=>∃ a o t,v=.ref a/\XCls s1.heap C f bmB newId/\s1.heap.get? a=some (bare C o t)/\E (.ref a) s1) E s):wb M A (raiseStmt env (some x) none) Q E s:=by
 unfold raiseStmt;refine uS (wW h (fun v s1 z=>?_) fun _ _ z=>z);obtain⟨a,o,t,rfl,Y,he,hE⟩:=z;obtain⟨nm,q,N,bs,bm,sn,sub,ab,col,dd,k0,k1,k2,k3,k5,mN,hC,hn,hi,T⟩:=Y.ex;have base:(Value.ref C :: bm).contains (.type "BaseException")=true:=by rw [List.contains_cons,T.hasType F.hasBase,CJ]
 obtain⟨hp,g,d,tk,os⟩:=s1
 repeat (first | with_reducible refine wpAny_loadPart_at he ?_ | with_reducible refine wpAny_loadPart_at hC ?_ | (with_reducible refine wpAny_isSubtype_exc hC ?_;rw [base]) | wp_step)
 exact wpAny_raiseNew_none hh hE
end
section
variable {X:Cx} {CQ:List (uR×Obj)} {σ:St} {H H':Hp} {s s':Shared} {C D f:uR} {name:Str} {k:Nat} {fd:FuncData} {ps:List Str}
theorem iX {Q:Value->Shared->Prop} {y:V} {u:Value} (T:FldC X.K C f D name) (F:FnOk X.prog X.w X.K X.mg X.base CX0 k f fd ps (c7 C name)) (hr:Room (k+1) X.A) (hb:Binds X.K fd ps []) (I:Inv X CQ σ H s) (r:RelV y u)
  (h:∀ a dx s',s.heap.get? a=none->H a=none->H dx=none->dx≠a->Inv X CQ σ (upd (upd H dx (.xd [(name,y)])) a (.ext (yx a (.ref C) (some dx)))) s'->Q (.ref a) s'):wb (model X.prog X.w) X.A (call (.ref C) [u]) Q X.xe s:=by
 obtain⟨hh,g,d,tk,os⟩:=s;refine lT AO I.kIn (v3 I.kIn T.wi) T.fn (show 1<=wt by decide) fun h' e hm=>?_;obtain⟨t0,he,_,_⟩:=hm.there;have hn:H e=none:=by
  cases q:H e with
  | none=>rfl
  | some u =>
   obtain⟨v,z⟩:=(I.hok e u q).is;rw [hm.new] at z;cases z
 have I2:=I.born (a:=e) (o:=.ext (yx e (.ref C) none)) (h':=h') (t':=tk) hm.keeps hm.new (fQ ⟨t0,he⟩);have r2:Vals [V.ref e,y] [Value.ref e,u]:=.cons rfl (.cons r .nil);have sp:c7 C name [V.ref e,y] (upd H e (.ext (yx e (.ref C) none))) (fun v H2=>v=.non/\∃ dx,upd H e (.ext (yx e (.ref C) none)) dx=none/\dx≠e/\H2=upd (upd (upd H e (.ext (yx e (.ref C) none))) dx (.xd [(name,y)])) e (.ext (yx e (.ref C) (some dx)))) E0 :=
  ⟨e,y,rfl,zr,fun dx h1 h2=>⟨rfl,dx,h1,h2,rfl⟩⟩
 have hl:[Value.ref e,u].length=ps.length:=by
  rw [<-Vals.length r2];exact F.len _ _ _ _ sp
 have b2:=hb { heap:=h',gens:=g,drawn:=d,toks:=tk,os:=os } [.ref e,u] I2.kIn (by rw [xf];exact hl);rw [xf] at b2;refine wpAny_call (A0 (F.run _ X.stack _ _ ⟨[Value.ref e,u],[]⟩ [Value.ref e,u] _ _ E0 (hr.make C [u] []) (I2.env0.make C [u] []) b2 r2 sp) fun res s' z=>?_);cases res with
 | error e=>exact wR z
 | ok fl =>
  cases fl with
  | ret v =>
   obtain⟨v',H3,I3,rv,ev,dx,n1,n2,eH⟩:=I2.after z;subst ev;refine⟨rv,h e dx s' hm.new hn ?_ n2 ?_⟩
   ·rw [zl n2] at n1;exact n1
   ·rw [eH] at I3;have eu:upd (upd (upd H e (.ext (yx e (.ref C) none))) dx (.xd [(name,y)])) e (.ext (yx e (.ref C) (some dx)))=upd (upd H dx (.xd [(name,y)])) e (.ext (yx e (.ref C) (some dx))):=by
     funext b
     by_cases e1:b=e
     ·rw [e1,zr,zr]
     ·rw [zl e1,zl e1];by_cases e2:b=dx
      ·rw [e2,zr,zr]
      ·rw [zl e2,zl e2,zl e1]
    rw [eu] at I3;exact I3
  | next=>exact wR z
  | brk=>exact wR z
  | cont=>exact wR z
def c8 (C:uR) (name:Str) (E:XK) (t:TA):TS:=fun _ σ H=>t σ H fun vs H1=>∃ y,vs=[y]/\∀ dx,H1 dx=none->E (.ref C) (some dx) (upd H1 dx (.xd [(name,y)]))
theorem iY {x:Str} {e0:Expr} {t:TA} {np cpos pos:Pos} {E:XK} (T:FldC X.K C f D name) (F:FnOk X.prog X.w X.K X.mg X.base CX0 k f fd ps (c7 C name)) (hr:Room (k+1) X.A) (hb:Binds X.K fd ps [])
  (hxe:∀ e s',wb (model X.prog X.w) X.A (leaving X.env e) (fun _ s''=>CXf X.prog X.w X.outer X.H₀ X.s₀ E e s'') (fun _ _=>False) s'->X.xe e s')
  (hst:X.stack=X.env :: X.outer) (hf:X.env.frame=some X.env.locals) (hex:X.ex=[]) (hc:X.calm=true) (hg:Gl X x) (hm:X.mg x=some (.ref C)) (ha:PA X [e0] t)
  (hse:u4 [e0] X.env=(false,eval e0 X.env) :: u4 [] X.env:=by rfl) (hpl:(backTo cpos (u4 [] X.env)).any (·.1)=false:=by rfl) (hd:(x == ("__debug__":Str))=false:=by decide) :
  PS X (.Raise (some (.Call (.Name x np) [e0] [] cpos)) none pos) (c8 C name E t):=by
 intro CQ s σ H D' I h;rw [arm_exec_Raise];refine uS (wpAny_standAt ?_);show wb _ _ (raiseStmt X.env (some (do let v <- eval (.Call (.Name x np) [e0] [] cpos) X.env;standAt pos;pure v)) none) _ _ _;refine iW (C:=C) (f:=f) AO (I.ok.hd hc) (uS ?_);refine wpAny_Call_Name_kw (y2 I hg hm ?_ hd);refine xC (h₀:=X.base) I.ok.mod.kin T.kp (thn (ha cpos CQ s σ H _ I h) fun us s1 ⟨vs,H1,I1,r,y,ev,q⟩=>⟨I1.kIn,?_⟩) hse hpl;subst ev;cases r with
 | cons ry rn =>
  cases rn;refine iX T F hr hb I1 ry fun a dx s2 n1 n2 n3 n4 I2=>uS (wpAny_standAt (wa ?_));have hH:upd (upd H1 dx (.xd [(name,y)])) a (.ext (yx a (.ref C) (some dx))) a=some (.ext (yx a (.ref C) (some dx))):=zr;obtain⟨⟨t0,he⟩,_,_⟩:=I2.hok a _ hH;refine⟨a,some dx,t0,rfl,v3 I2.kIn T.wi,he,hxe _ _ ?_⟩;have hnew:X.s₀.heap.get? a=none:=by
   cases z:X.s₀.heap.get? a with
   | none=>rfl
   | some o =>
    obtain⟨o1,z1⟩:=I1.base.there a o z (by rw [hex];simp);rw [n1] at z1;cases z1
  have ed:drp (upd (upd H1 dx (.xd [(name,y)])) a (.ext (yx a (.ref C) (some dx)))) a=upd H1 dx (.xd [(name,y)]):=by
   funext b
   by_cases e1:b=a
   ·rw [e1,bP,zl (x6 n4),n2]
   ·rw [qv e1,zl e1]
  have L:=fP (E:=fun _ _=>False) I2 hst hf hex hH hnew;rw [ed] at L;exact wW L (fun _ s'' z=>⟨a,.ref C,some dx,_,rfl,z.1,z.2,q dx n3⟩) fun _ _ z=>z
theorem lV {P:Program} {w:World} {K:uQ} {mg:Str->Option Value} {base:Heap} {N:List Str} {qual:Str} {scope:Scope} {f:uR} {cd:Value} {A:Around} {outer:List Env} {s:Shared} {H:Hp} {E:XK} :
  ∀ e s',wb (model P w) (zS (CXf P w) P w K mg base N qual scope f cd A outer s H E).A (leaving (zS (CXf P w) P w K mg base N qual scope f cd A outer s H E).env e) (fun _ s''=>CXf P w outer H s E e s'') (fun _ _=>False) s' ->
   (zS (CXf P w) P w K mg base N qual scope f cd A outer s H E).xe e s':=fun e s' h=>wW h (fun _ _ y=>y) fun _ _ z=>z.elim
theorem Fun.okF {P:Program} {w:World} {K:uQ} {mg:Str->Option Value} {base:Heap} {x qual:Str} {st:Stmt} {f:uR} {fd:FuncData} {N ps:List Str} {k:Nat} {sp:Sp} (F:Fun K x qual st f fd) (S:FnScope N ps (zh st)) (len:∀ vs H Q E,sp vs H Q E->vs.length=ps.length)
  (hbody:∀ (cdv:Value) (A:Around) (outer:List Env) (s:Shared) (H:Hp) (vs:List V) (Q:VK) (E:XK),Room k (A.deeper (envOfC qual (zh st) s.heap.objs.size f cdv))->sp vs H Q E ->
   ∃ t,PSs (zS (CXf P w) P w K mg base N qual (zh st) f cdv A outer s H E) (zU st) t/\t { nx:=fun _ H'=>Q .non H',rt:=Q } (start N vs) H):FnOk P w K mg base (CXf P w) (k+1) f fd ps sp:=by
 obtain⟨oc,od,kV,doc,pm,an,cdv,ct,osl,rfl,lk,hcd⟩:=F.ex;exact o7 lk hcd S len fun A outer s H vs Q E hr hsp=>hbody cdv A outer s H vs Q E hr hsp
end
def ExcAt (a:uR) (C:Value) (o:Option uR) (h:Heap):Prop:=∃ u,h.get? a=some u/\u.cls=C/\aC u=some .none/\∀ dx,o=some dx->u.dict=some dx
section
variable {X:Cx} {CQ:List (uR×Obj)} {σ:St} {H H1 H2:Hp} {s s1 s2:Shared} {a C0:uR} {C:Value} {o:Option uR} {i j:Nat} {n hx:Str} {b0:Stmt} {suite:List Stmt} {hp hpos:Pos} {ts:TS} {D:Ends}
theorem ue (I:Inv X CQ σ H1 s1) (x:XLie X.prog X.w X.stack H1 s1 a C H2 s2) (dc:Dct a o s2.heap) (hst:X.stack=X.env :: X.outer) (hf:X.env.frame=some X.env.locals) (hN:X.N.Nodup) (hj:X.N[j]?=some n) (hn:X.env.scope.names.lookup n=some .local)
  (hg:Gl X hx) (hm:X.mg hx=some (.ref C0)) (hit:Aq X.K C (.ref C0)=some true) (hs:PSs (X.marked (.ref a)) (b0 :: suite) ts) (h:ts (cX D j) (σ.set j (some (.ref a))) (upd H2 a (.ext (ExcAt a C o))))
  (hd:(hx == ("__debug__":Str))=false:=by decide) :
  wb (model X.prog X.w) X.A (noteFrame (.ref a) X.env) (fun _ t2=>wb (model X.prog X.w) X.A (setFlight (.ref a) none) (fun _ t3 =>
   wb (model X.prog X.w) X.A (handleBy (.ref a) X.env [.ExceptHandler (some (.Name hx hp)) (some n) (b0 :: suite) hpos]) (SP X CQ D) X.xe t3) X.xe t2) X.xe s2:=by
 obtain⟨B,a0,fl,dom,trk⟩:=x.fly;have fl0:=fl;rw [hst] at fl0;refine d7 (gW _ _) (wpAny_looks_onW (by rw [I.ok.frames,hst]) hf fl0 (Q:=fun _ s'=>∃ h4,s'={ s2 with heap:=h4 }/\Heap.HeldW B (X.env :: X.outer) a C a0 X.env.locals h4/\s2.heap.UpToSlots h4) fun h4 held up4=>⟨h4,rfl,held,up4⟩) ?_;rintro _ _ ⟨h4,rfl,held,up4⟩ kd4;refine d7 (aD _ _) (wpAny_landsW held (Q:=fun _ s'=>∃ h5,s'={ s2 with heap:=h5 }/\BZ B (X.env :: X.outer) a C a0 h5/\h4.UpToSlots h5) fun h5 fl5 up5=>⟨h5,rfl,fl5,up5⟩) ?_;rintro _ _ ⟨h5,rfl,fl5,up5⟩ kd5;have mv:∀ {hh:Heap},B.StaysIn hh->s2.heap.UpToSlots hh->Un (frs X.stack) [] H1 H2 s1.heap hh/\HOk X.prog X.w H2 hh:=fun st up=>x.move fl dom trk st up;have I5:Inv X CQ σ H2 { s2 with heap:=h5 }:=I.call' (s':={ s2 with heap:=h5 }) x.os (mv fl5.1 (up4.trans up5)).1 (mv fl5.1 (up4.trans up5)).2 x.bare (fun b z=>absurd z (by simp));refine wpAny_handleBy_cons (codeAny_handlers_test (y2 (X:=X.marked (.ref a)) (I5.marked (.ref a)) hg hm ?_ hd)) (by intro q;cases q);obtain⟨ob,hob,hoc⟩:=fl5.there;have LT:PySem.W.Looks (model X.prog X.w) h5 (typeOf (.ref a)) C:=by
  subst hoc;exact (PySem.W.Looks.ld hob).andThen .now
 refine (PySem.W.exm_one I5.kIn LT hit).at (codeAny_handlers_suite_as ?_);refine d7 (aD _ _) (lands_againW fl5 (Q:=fun _ s'=>∃ h6,s'={ s2 with heap:=h6 }/\BZ B (X.env :: X.outer) a C a0 h6/\h5.UpToSlots h6) fun h6 fl6 up6=>⟨h6,rfl,fl6,up6⟩) ?_;rintro _ _ ⟨h6,rfl,fl6,up6⟩ kd6;obtain⟨un,ok⟩:=mv fl6.1 ((up4.trans up5).trans up6);have fr6:H2 a=none:=x.free;have ne:∀ {b:uR} {u:HO},H2 b=some u->upd H2 a (.ext (ExcAt a C o)) b=some u:=fun {b u} e=>by
  rw [zl fun z=>by rw [z,fr6] at e;cases e];exact e
 have here:ExcAt a C o h6:=by
  obtain⟨u,h1,h2⟩:=fl6.there;obtain⟨v,z1,z2,z3⟩:=((dc.kd kd4).kd kd5).kd kd6;rw [h1] at z1;cases z1;exact⟨u,h1,h2,z2,z3⟩
 have I7:Inv X CQ σ (upd H2 a (.ext (ExcAt a C o))) { s2 with heap:=h6 }:=by
  refine I.call' (s':={ s2 with heap:=h6 }) x.os ⟨un.keep,un.slot,fun b u q m z=>?_,un.there,fun b xs q=>ne (un.tups b xs q),fun b u v q=>ne (un.frzs b u v q),fun b ps q=>?_⟩ (fun b u e=>?_) x.bare (fun b z=>absurd z (by simp))
  ·rw [zl fun e=>by rw [e,x.new] at q;cases q];exact un.free b u q m z
  ·have q2:=un.tbls b ps q;exact ne q2
  ·by_cases hb:b=a
   ·subst hb;rw [zr] at e;cases e;obtain⟨u,z⟩:=here;exact⟨⟨u,z⟩,⟨u,z.1⟩,fun g1 g2 p k=>let⟨v,q1,q2⟩:=p;⟨v,k v q1,q2⟩⟩
   ·rw [zl hb] at e;exact (ok b u e).stay (fun c v _ q=>q) (fun c q=>ne q) fun c xs q=>ne q
 refine qN (X:=X.marked (.ref a)) (v:=.ref a) (I7.marked _) hN hj (.inl hn) rfl (fun s8 I8=>?_) (.inr hn);refine wW (hs CQ s8 _ _ (cX D j) I8 h) (fun f s9 q=>?_) fun _ _ z=>z.elim;show wb (model X.prog X.w) X.A (do bindName X.env n .none;unbindBehindTheSuite X.env n hpos) (fun _ t=>SP X CQ D f t) X.xe s9;cases f with
 | next =>
  obtain⟨σ',H',I9,q9⟩:=q;exact cY (I9.unmarked I.ok) hN hj hn fun s' I'=>⟨_,H',I',q9⟩
 | brk =>
  obtain⟨σ',H',I9,q9⟩:=q;exact cY (I9.unmarked I.ok) hN hj hn fun s' I'=>⟨_,H',I',q9⟩
 | cont =>
  obtain⟨σ',H',I9,q9⟩:=q;exact cY (I9.unmarked I.ok) hN hj hn fun s' I'=>⟨_,H',I',q9⟩
 | ret u =>
  obtain⟨v,σ',H',I9,r9,q9⟩:=q;exact cY (I9.unmarked I.ok) hN hj hn fun s' I'=>⟨v,_,H',I',r9,q9⟩
end
end L2
end
section
namespace L2
open PySem PySem.Spec PySem.W PyProof.Rows PySem.Calls PySem.Builtin Builtin Builtin.ObjectAttr Builtin.Getset_descriptor
section
variable {prog:Program} {w:World} {A:Around} {E:Value->Shared->Prop} {s:Shared} {K:uQ} {a C f dx:uR} {name:Str} {v:Value}
theorem lW {Q:Value->Shared->Prop} {o:Option uR} {m:Str->Option Value} (X:K.In s.heap) (Y:XCls s.heap C f bmV "ValueError.__new__") (I:ExcAt a (.ref C) (some dx) s.heap) (Wy:ExcWays K C) (na:findIn K (.ref C) name=some none) (hn:s.heap.Ns1 dx m) (hm:m name=some v) (hh:handedIn v=true)
  (h:Q v { s with toks:=s.toks+1 }):wb (model prog w) A (getAttr (.ref a) name true) Q E s:=by
 obtain⟨u,hu,hc,hnc,hd⟩:=I;have II:aS a C s.heap:=⟨u,hu,hc⟩;obtain⟨nm,q,N,bs,bm,sn,sub,ab,col,dd,k0,k1,k2,k3,k5,mN,hC,hN,hi,T⟩:=Y.ex;obtain⟨hh',g,d,t,os⟩:=s;have L0:=qY (M:=model prog w) II;have L1:=looks_findIn (M:=model prog w) X Wy.ga;have L2:=looks_findIn (M:=model prog w) X Wy.gt;have L3:=looks_findIn (M:=model prog w) X na;unfold getAttr getAttrBy;refine uS (wpAny_mkText (xl (uS (L0.at (uS (L1.at ?_))))));dsimp only;rw [CS (by
  have z:(Value.builtin "BaseException.__getattribute__" == Value.builtin "object.__getattribute__")=false:=by decide +kernel
  rw [z,BG];exact uT)]
 unfold getAttrByItsOwn hookBefore;rw [CT (show onTheHeap (Value.ref C)=true from rfl)];refine uS (L2.at (uS (Bp (xl ?_))));unfold callGetattribute;rw [CS (show ¬ (true && onTheHeap (Value.builtin "BaseException.__getattribute__"))=true by decide)];unfold boundAndCalled;rw [BH.ga.bind (.ref a)];refine uS (wa ?_);dsimp only;refine wpAny_call (codeAny_call_builtin BH.ga.plain PySem.F.entry_bexc_ga (dY (K:=K) (C:=C) X II Wy ?_));unfold Builtin.«object.__getattribute__»;refine uS (wpAny_of_eq (a:=(Value.ref a,[Value.str name t])) rfl ?_);dsimp only;refine uS (wpAny_of_eq (a:=name) rfl ?_);refine uS (L0.at (uS ?_));unfold find;refine uS (L3.at (uS (wa (uS (wa ?_)))));dsimp only;unfold ownThenClass;refine uS ?_;have own:wb (model prog w) A.in1 (inOwnDict name (.ref a)) (fun r s'=>r=some v/\s'=⟨hh',g,d,t+1,os⟩) (fun _ _=>False) ⟨hh',g,d,t+1,os⟩:=by
  unfold inOwnDict ObjectAttr.ownDict loadHead;refine uS (uS (wpAny_loadPart_at hu ?_));have go:wb (model prog w) A.in1 (instanceDict a false) (fun r s'=>wb (model prog w) A.in1 (inDict name r) (fun r s'=>r=some v/\s'=⟨hh',g,d,t+1,os⟩) (fun _ _=>False) s') (fun _ _=>False) ⟨hh',g,d,t+1,os⟩:=by
   unfold instanceDict;refine uS (wpAny_loadPart_at hu ?_);rw [hc,hd dx rfl];refine uS (uS (wpAny_loadPart_at hC (wa ?_)));dsimp only;refine wa (wpAny_nsGet hn.ns ?_);exact⟨hm,rfl⟩
  cases q:u.data with
  | cls c=>rw [aC,q] at hnc;cases hnc
  | _=>exact go
 refine wW own (fun r s' z=>?_) fun _ _ z=>z.elim;obtain⟨rfl,rfl⟩:=z;dsimp only;refine uS (CF (wa ?_));dsimp only;refine wa ?_;show wb _ _ (handedOut v) _ _ _;rw [handedOut_of hh];exact wa h
end
theorem su {h:Heap} {a C:uR} {o:Option uR} (x:ExcAt a (.ref C) o h):aS a C h:=let⟨u,h1,h2,_⟩:=x;⟨u,h1,h2⟩
def sv (K:uQ):List V->Hp->VK->Prop:=fun xs H Q=>∃ a C o c b,xs=[.ref a,c]/\H a=some (.ext (ExcAt a (.ref C) o))/\ExcWays K C/\((∃ n,c=.ty n/\uU K (.ref C) (.type n)=some b) \/ ∃ D,c=.ref D/\uU K (.ref C) (.ref D)=some b)/\Q (.bl b) H
theorem yo {X:Cx} {K:uQ} (hK:X.K=K):yA X (.builtin "isinstance") (sv K):=by
 subst hK;intro CQ s σ H xs us Q I r h;obtain⟨a,C,o,c,b,rfl,hH,Wy,hc,q⟩:=h;obtain⟨u,w',rfl,rx,rn⟩:=vals2 r;cases rx;have hI:aS a C s.heap:=su (I.hok a _ hH).1;rcases hc with⟨n,rfl,hk⟩ | ⟨D,rfl,hk⟩ <;> cases rn <;> exact w8 (lB Wy) I.kIn hI hk (fun z=>nomatch z) fun tk=>⟨.bl b,H,I.tok tk,rfl,q⟩
def pO (K:uQ) (name:Str) (ta:TE):TE:=fun σ H Q=>ta σ H fun x H1=>∃ a C f D dx y,x=.ref a/\FldC K C f D name/\ExcWays K C/\H1 a=some (.ext (ExcAt a (.ref C) (some dx)))/\H1 dx=some (.xd [(name,y)])/\Q y H1
theorem d9 {y:V} {u:Value} (r:RelV y u):handedIn u=true:=by
 cases y <;> first | (cases r;rfl) | (obtain⟨t,rfl⟩:=r;rfl)
theorem cF {X:Cx} {K:uQ} {e:Expr} {ta:TE} {name:Str} {pos:Pos} (hK:X.K=K) (he:PE X e ta) (hb:attributeBase e name X.env (eval e X.env)=eval e X.env:=by rfl):PE X (.Attribute e name pos) (pO K name ta):=by
 subst hK;intro CQ s σ H Q I h;refine gB hb (thn (he CQ s σ H _ I h) fun u s1 ⟨x,H1,I1,rx,a,C,f,D,dx,y,ex,T,Wy,hH,hD,q⟩=>?_);subst ex;obtain rfl:u=Value.ref a:=rx;obtain⟨m,hn,hm⟩:=I1.hok dx _ hD;have hy:=hm name;rw [wN,beq_self_eq_true] at hy;cases z:m name with
 | none=>rw [z] at hy;exact hy.elim
 | some u =>
  rw [z] at hy;have ry:RelV y u:=hy;exact lW (o:=none) I1.kIn (v3 I1.kIn T.wi) (I1.hok a _ hH).1 Wy T.na hn z (d9 ry) ⟨y,H1,I1.tok _,ry,q⟩
def PBy (X:Cx) (body:List Stmt) (tb:XK->TS):Prop:=∀ (CQ:List (uR×Obj)) (s:Shared) (σ:St) (H:Hp) (D:Ends) (E:XK),Inv X CQ σ H s->tb E D σ H ->
 wb (model X.prog X.w) X.A (execs body X.env) (SP X CQ D) (fun e s'=>∃ H1 s1,Inv X CQ σ H1 s1/\CXf X.prog X.w X.stack H1 s1 E e s') s
section
variable {X:Cx} {k:Nat} {f:uR} {fd:FuncData} {ps:List Str} {sp:Sp} {t:TA} {fx y:Str} {e0:Expr} {es:List Expr} {p py cpos spos pos:Pos} {rest:List Stmt} {tr:TS} {i:Nat}
def pP (K:uQ) (C0:uR) (tb:XK->TS) (j:Nat) (ts:uR->TS):TS:=fun D σ H=>tb (fun C o H2=>Aq K C (.ref C0)=some true/\∀ a,H2 a=none->ts a (cX D j) (σ.set j (some (.ref a))) (upd H2 a (.ext (ExcAt a C o)))) D σ H
theorem nU {body suite:List Stmt} {tb:XK->TS} {b0:Stmt} {hx n:Str} {hp hpos:Pos} {C0:uR} {j:Nat} {tss:uR->TS} (hB:PBy X body tb) (hN:X.N.Nodup) (hst:X.stack=X.env :: X.outer) (hf:X.env.frame=some X.env.locals) (hj:X.N[j]?=some n) (hn:X.env.scope.names.lookup n=some .local)
  (hg:Gl X hx) (hm:X.mg hx=some (.ref C0)) (hs:∀ a,PSs (X.marked (.ref a)) (b0 :: suite) (tss a)) (hd:(hx == ("__debug__":Str))=false:=by decide) :
  PS X (.Try body [.ExceptHandler (some (.Name hx hp)) (some n) (b0 :: suite) hpos] [] [] pos) (pP X.K C0 tb j tss):=by
 intro CQ s σ H D I h;refine wpAny_Try_except (wW (hB CQ s σ H D _ I h) (fun fl s1 z=>?_) fun e s' z=>?_)
 ·cases fl with
  | next=>exact wpAny_execs_nil z
  | brk=>exact z
  | cont=>exact z
  | ret u=>exact z
 ·obtain⟨H1,s1,I1,a,C,o,H2,rfl,x,dc,hit,hts⟩:=z;exact ue (ts:=tss a) I1 x dc hst hf hN hj hn hg hm hit (hs a) (hts a x.free) hd
end
abbrev XD:=Option (Str×PyData)
def FieldIs (K:uQ) (Hh:Hp):Option uR->XD->Prop
 | none,none=>True
 | some dx,some (n,d)=>∃ v,Hh dx=some (.xd [(n,v)])/\Rep K Hh d v
 | _,_=>False
theorem FieldIs.mono {K:uQ} {H H':Hp} (s:Same H H'):∀ {o:Option uR} {x:XD},FieldIs K H o x->FieldIs K H' o x
 | none,none,_=>trivial
 | some dx,some (n,d),h=>let⟨v,h1,h2⟩:=h;⟨v,s _ _ h1,Rep.mono s d v h2⟩
 | none,some _,h=>h.elim
 | some _,none,h=>h.elim
def y4 (K:uQ) (a:uR) (C:Value) (x:XD):Hp->V->Prop:=fun Hh v=>∃ o,v=.ref a/\Hh a=some (.ext (ExcAt a C o))/\FieldIs K Hh o x
def Wish (K:uQ) (f:Fx) (E:XK) (H:Hp) (Z:Value->XD->Prop):Prop:=∀ C o x H',Goes f H H'->FieldIs K (hide H' f) o x->Z C x->E C o H'
theorem Wish.go {K:uQ} {f:Fx} {E:XK} {H H1:Hp} {Z:Value->XD->Prop} (z:Wish K f E H Z) (g:Goes f H H1):Wish K f E H1 Z:=fun C o x H' g'=>z C o x H' (g.trans g')
def PEf (K:uQ) (f:Fx) (E:XK) (te:TE) (ρ:zq) (P:PyData->Prop) (Z:Value->XD->Prop):Prop:=∀ (σ:St) (H:Hp) (Q:VK),EnvOk K f ρ σ H->(∀ d v H',Goes f H H'->Rep K (hide H' f) d v->P d->Q v H')->Wish K f E H Z->te σ H Q
def PSf (K:uQ) (f:Fx) (E:XK) (ts:TS) (ρ:zq) (D:DEnds) (Z:Value->XD->Prop):Prop:=∀ (σ:St) (H:Hp) (N:Ends),EnvOk K f ρ σ H->(∀ ρ' σ' H',Goes f H H'->EnvOk K f ρ' σ' H'->D.nx ρ'->N.nx σ' H') ->
 (∀ d v H',Goes f H H'->Rep K (hide H' f) d v->D.rt d->N.rt v H')->(∀ ρ' σ' H',Goes f H H'->EnvOk K f ρ' σ' H'->D.bk ρ'->N.bk σ' H')->(∀ ρ' σ' H',Goes f H H'->EnvOk K f ρ' σ' H'->D.ct ρ'->N.ct σ' H')->Wish K f E H Z->ts N σ H
def spF {γ:Type} (K:uQ) (n:Nat) (pre:γ->List DV->Prop) (post:γ->PyData->Prop) (exc:γ->Value->XD->Prop):Sp:=fun vs H Q E=>∃ f xs c,RepVs K f H xs vs/\xs.length=n/\FOk f H/\pre c xs /\
 (∀ r v H',Goes f H H'->Rep K (hide H' f) r v->post c r->Q v H')/\Wish K f E H (exc c)
section
variable {K:uQ} {f:Fx} {ρ:zq} {E:XK} {te:TE} {ts tu:TS} {tt:TT} {t:TA} {P:PyData->Prop} {D:DEnds} {Z:Value->XD->Prop} {g:TG} {wi:TI}
theorem sx (h:PEd K f te ρ P):PEf K f E te ρ P Z:=fun σ H Q e q _=>h σ H Q e q
theorem fR (h:PSd K f ts ρ D):PSf K f E ts ρ D Z:=fun σ H N e n r b c _=>h σ H N e n r b c
theorem sy {γ:Type} {n:Nat} {pre:γ->List DV->Prop} {post:γ->PyData->Prop} {exc:γ->Value->XD->Prop} (c:γ) (h:PAd K f t ρ fun xs=>xs.length=n/\pre c xs/\(∀ r,post c r->P r)/\∀ C x,exc c C x->Z C x):PEf K f E (qG (spF K n pre post exc) [] E t) ρ P Z:=fun σ H Q e q z =>
 h σ H _ e fun xs vs H1 g1 r1 ⟨hl,hp,k,kz⟩=>⟨f,xs,c,by rw [xf];exact r1,hl,g1.2,hp,fun r v H' g' r' p'=>q r v H' (g1.trans g') r' (k r p'),fun C o x H' g' fi p'=>z C o x H' (g1.trans g') fi (kz C x p')⟩
theorem bo {C:uR} {name:Str} (h:PAd K f t ρ fun xs=>∃ d,xs=[.dat d]/\Z (.ref C) (some (name,d))):PSf K f E (c8 C name E t) ρ D Z:=fun σ H N e n r b c z =>
 h σ H _ e fun xs vs H1 g1 r1 ⟨d,ex,hz⟩=>by
  subst ex;cases r1 with
  | @cons _ v _ _ rd rn =>
   cases rn;refine⟨v,rfl,fun dx hn=>?_⟩;have g2:Goes f H1 (upd H1 dx (.xd [(name,v)])):=.of_same (yd hn _) g1.2;exact z (.ref C) (some dx) (some (name,d)) _ (g1.trans g2) ⟨v,zA (fresh_ne g1.2 hn) zr,Rep.mono g2.1 d v rd⟩ hz
theorem lX (h:PSf K f E ts ρ { D with nx:=fun ρ'=>PSf K f E tu ρ' D Z } Z):PSf K f E (aY ts tu) ρ D Z:=fun σ H N e n r b c z =>
 h σ H _ e (fun ρ' σ' H' g' e' p=>p σ' H' N e' (fun ρ2 σ2 H2 g2=>n ρ2 σ2 H2 (g'.trans g2)) (fun d v H2 g2=>r d v H2 (g'.trans g2)) (fun ρ2 σ2 H2 g2=>b ρ2 σ2 H2 (g'.trans g2)) (fun ρ2 σ2 H2 g2=>c ρ2 σ2 H2 (g'.trans g2)) (z.go g')) r b c z
theorem uf (h:PTd K f tt ρ fun q=>if q=true then PSf K f E ts ρ D Z else PSf K f E tu ρ D Z):PSf K f E (eX tt ts tu) ρ D Z:=fun σ H N e n r b c z =>
 h σ H _ e fun q H1 g1 p=>by
  have go:∀ tx,PSf K f E tx ρ D Z->tx N σ H1:=fun tx p=>p σ H1 N (e.mono g1) (fun ρ2 σ2 H2 g2=>n ρ2 σ2 H2 (g1.trans g2)) (fun d v H2 g2=>r d v H2 (g1.trans g2)) (fun ρ2 σ2 H2 g2=>b ρ2 σ2 H2 (g1.trans g2)) (fun ρ2 σ2 H2 g2=>c ρ2 σ2 H2 (g1.trans g2)) (z.go g1);cases q with
  | false=>rw [CS uT] at p ⊢;exact go _ p
  | true=>rw [CT rfl] at p ⊢;exact go _ p
theorem sA (h:PEf K f E te ρ (fun _=>D.nx ρ) Z):PSf K f E (gA te) ρ D Z:=fun σ H N e n r b c z=>h σ H _ e (fun d v H' g' _ p=>n ρ σ H' g' (e.mono g') p) z
theorem ug (h:PEf K f E te ρ D.rt Z):PSf K f E (kA te) ρ D Z:=fun σ H N e n r b c z=>h σ H _ e r z
theorem uh (h:PId K f wi ρ fun ds=>∃ J:Nat->zq->Prop,J 0 ρ /\
   (∀ (i:Nat) d ρ',ds[i]?=some d->J i ρ'->PGd K f g d ρ' fun ρ2=>PSf K f E ts ρ2 { D with nx:=J (i+1),ct:=J (i+1),bk:=D.nx } Z)/\∀ ρ',J ds.length ρ'->D.nx ρ') :
  PSf K f E (iq wi g ts) ρ D Z:=fun σ H N e n r b c z=>h σ H _ e fun ds J H1 g1 it ⟨Jv,j0,js,jd⟩=>by
 refine⟨fun i m σ' H'=>∃ ρ',EnvOk K f ρ' σ' H'/\Goes f H1 H'/\Jv i ρ'/\m+i=ds.length,⟨ds.length,ρ,e.mono g1,.refl g1.2,j0,rfl⟩,fun i m σ' H' ⟨ρ',e',g',p,hm⟩=>?_⟩;by_cases hi:i<ds.length
 ·obtain⟨hgo,hy⟩:=it.go f H' i _ e'.fd g'.sm (uZ hi);refine .inr ⟨hgo,fun σ2 H2=>∃ ρ2,EnvOk K f ρ2 σ2 H2/\Goes f H1 H2/\Jv (i+1) ρ2,fun σ2 H2 ⟨ρ2,e2,g2,p2⟩=>⟨m - 1,by omega,ρ2,e2,g2,p2,by omega⟩,fun x H3 hx=>?_⟩;obtain⟨g3,r3⟩:=hy x H3 hx;refine js i _ ρ' (uZ hi) p σ' H3 x _ (e'.mono g3) r3 fun ρ2 σ2 H4 g4 e4 p4=>?_;have gg:=g'.trans (g3.trans g4);exact p4 σ2 H4 _ e4 (fun ρ5 σ5 H5 g5 e5 p5=>⟨ρ5,e5,gg.trans g5,p5⟩) (fun d v H5 g5 r5 p5=>r d v H5 (g1.trans (gg.trans g5)) r5 p5) (fun ρ5 σ5 H5 g5 e5 p5=>n ρ5 σ5 H5 (g1.trans (gg.trans g5)) e5 p5) (fun ρ5 σ5 H5 g5 e5 p5=>⟨ρ5,e5,gg.trans g5,p5⟩) (z.go (g1.trans gg))
 ·have ei:i=ds.length:=by omega
  subst ei;exact .inl ⟨it.st f H' e'.fd g'.sm,n ρ' σ' H' (g1.trans g') e' (jd ρ' p)⟩
def PYd (K:uQ) (f:Fx) (tb:XK->TS) (ρ:zq) (D:DEnds) (Z:Value->XD->Prop):Prop:=∀ (E:XK),PSf K f E (tb E) ρ D Z
theorem sC {tb:XK->TS} {C0:uR} {j:Nat} {tss:uR->TS}
  (h:PYd K f tb ρ D fun C x=>Aq K C (.ref C0)=some true/\∀ a,PSd K f (tss a) (ρ.set j (some (.mon (y4 K a C x)))) { nx:=fun ρ'=>D.nx (ρ'.set j none),rt:=D.rt,bk:=fun ρ'=>D.bk (ρ'.set j none),ct:=fun ρ'=>D.ct (ρ'.set j none) }) :
  PSd K f (pP K C0 tb j tss) ρ D:=fun σ H N e nx rt bk ct=>by
 refine h _ σ H N e nx rt bk ct fun C o x H' g' fi ⟨hit,hs⟩=>⟨hit,fun a hn=>?_⟩;have gn:Goes f H' (upd H' a (.ext (ExcAt a C o))):=.of_same (yd hn _) g'.ok;have gg:=g'.trans gn;have e2:=(e.mono gg).set j (x:=.mon (y4 K a C x)) (v:=.ref a) fun H'' s''=>⟨o,rfl,s'' _ _ (zA (fresh_ne g'.ok hn) zr),FieldIs.mono (gn.1.trans s'') fi⟩;have none_ok:∀ {ρ':zq} {σ':St} {H'':Hp},EnvOk K f ρ' σ' H''->EnvOk K f (ρ'.set j none) (σ'.set j none) H'':=fun {ρ' σ' H''} e'=>by
  refine⟨by rw [xM,xM];exact e'.len,fun q y hy=>?_,e'.fd⟩;by_cases hq:j=q
  ·subst hq;rw [List.getElem?_set] at hy;rw [CT rfl] at hy;split at hy <;> cases hy
  ·rw [xG hq] at hy ⊢;exact e'.get q y hy
 exact hs a _ _ _ e2 (fun ρ' σ' H'' g'' e'' p''=>nx _ _ H'' (gg.trans g'') (none_ok e'') p'') (fun d v H'' g'' r'' p''=>rt d v H'' (gg.trans g'') r'' p'') (fun ρ' σ' H'' g'' e'' p''=>bk _ _ H'' (gg.trans g'') (none_ok e'') p'') (fun ρ' σ' H'' g'' e'' p''=>ct _ _ H'' (gg.trans g'') (none_ok e'') p'')
theorem pQ {j:Nat} {C a:uR} {x:XD} {c:V} {b:Bool} (hj:ρ[j]?=some (some (.mon (y4 K a (.ref C) x)))) (Wy:ExcWays K C) (hk:(∃ n,c=.ty n/\uU K (.ref C) (.type n)=some b) \/ ∃ D,c=.ref D/\uU K (.ref C) (.ref D)=some b) (p:P (.bool b)) :
  PEd K f (tCB (sv K) (z9 (yN j) (z9 (tC c) jl))) ρ P:=fun σ H Q e q=>by
 obtain⟨v,hv,r⟩:=e.get j _ hj;obtain⟨o,rfl,hH,_⟩:=r H (zo H f);exact⟨_,hv,a,C,o,c,b,rfl,hH,Wy,hk,q _ _ H (.refl e.fd) (zF.mpr rfl) p⟩
theorem ek {j:Nat} {C a fa Dc:uR} {name:Str} {d:PyData} (hj:ρ[j]?=some (some (.mon (y4 K a (.ref C) (some (name,d)))))) (T:FldC K C fa Dc name) (Wy:ExcWays K C) (p:P d):PEd K f (pO K name (yN j)) ρ P:=fun σ H Q e q=>by
 obtain⟨v,hv,r⟩:=e.get j _ hj;obtain⟨o,rfl,hH,fi⟩:=r (hide H f) (Same.refl _);cases o with
 | none=>exact fi.elim
 | some dx =>
  obtain⟨y,h1,h2⟩:=fi;exact⟨_,hv,a,C,fa,Dc,dx,y,rfl,T,Wy,(zC hH).2,(zC h1).2,q d y H (.refl e.fd) h2 p⟩
end
structure FnInF (P:Program) (w:World) (K:uQ) (mg:Str->Option Value) (base:Heap) (k:Nat) (x:Str) (ps:List Str) (sp:Sp):Prop where
 ex:∃ (f:uR) (fd:FuncData),FnOk P w K mg base (CXf P w) k f fd ps sp/\mg x=some (.ref f)/\wF K (.ref f)=true/\Binds K fd ps []
section
variable {P:Program} {w:World} {K:uQ} {mg:Str->Option Value} {base:Heap} {j k n:Nat} {x:Str} {st:Stmt} {ps N:List Str} {γ:Type} {pre:γ->List DV->Prop} {post:γ->PyData->Prop} {exc:γ->Value->XD->Prop} {sp:Sp}
theorem FnInF.mono (h:FnInF P w K mg base j x ps sp) (hk:j<=k):FnInF P w K mg base k x ps sp:=let⟨f,fd,a,b,c,d⟩:=h.ex;⟨f,fd,a.mono hk,b,c,d⟩
theorem Def.okF (F:Def K mg x st ps) (S:FnScope N ps (zh st)) (hn:ps.length=n)
  (h:∀ (fa:uR) (cdv:Value) (A:Around) (outer:List Env) (s:Shared) (H:Hp) (E:XK),Room k (A.deeper (envOfC x (zh st) s.heap.objs.size fa cdv)) ->
   ∃ t,PSs (zS (CXf P w) P w K mg base N x (zh st) fa cdv A outer s H E) (zU st) t/\∀ f xs c,xs.length=n->pre c xs->PSf K f E t (jN N xs) { nx:=fun _=>post c .none,rt:=post c } (exc c)) :
  FnInF P w K mg base (k+1) x ps (spF K n pre post exc):=by
 obtain⟨fa,fd,F1,F2,F3⟩:=F.ex;refine⟨fa,fd,F1.okF S (fun vs H Q E h=>?_) (fun cdv A outer s H vs Q E hr hs=>?_),F3,F1.kp,F2⟩
 ·obtain⟨f,xs,c,r,hl,_⟩:=h;rw [r.length,hl,hn]
 ·obtain⟨f,xs,c,r,hl,fo,hp,q,z⟩:=hs;obtain⟨t,h1,h2⟩:=h fa cdv A outer s H E hr;refine⟨t,h1,h2 f xs c hl hp _ H _ (je r fo) (fun ρ' σ' H' g' e' p=>q .none .non H' g' (jm.mpr rfl) p) (fun d v H' g' r' p=>q d v H' g' r' p) (fun _ _ _ _ _ z=>z.elim) (fun _ _ _ _ _ z=>z.elim) z⟩
theorem et {qual:Str} {scope:Scope} {f:uR} {cd:Value} {A:Around} {outer:List Env} {s:Shared} {H:Hp} {E:XK} {y:Str} {qs:List Str} {sq:Sp} {e:Expr} {es:List Expr} {t:TA} {p pos:Pos} (G:FnInF P w K mg base k y qs sq) (hr:Room k (zS (CXf P w) P w K mg base N qual scope f cd A outer s H E).A) (hg:Gl (zS (CXf P w) P w K mg base N qual scope f cd A outer s H E) y) (ha:PA (zS (CXf P w) P w K mg base N qual scope f cd A outer s H E) (e :: es) t) (hdb:(y == ("__debug__":Str))=false:=by decide)
  (he:u4 (e :: es) (zS (CXf P w) P w K mg base N qual scope f cd A outer s H E).env=(false,eval e (zS (CXf P w) P w K mg base N qual scope f cd A outer s H E).env) :: u4 es (zS (CXf P w) P w K mg base N qual scope f cd A outer s H E).env:=by rfl)
  (hpl:(backTo pos (u4 es (zS (CXf P w) P w K mg base N qual scope f cd A outer s H E).env)).any (·.1)=false:=by rfl) :
  PE (zS (CXf P w) P w K mg base N qual scope f cd A outer s H E) (.Call (.Name y p) (e :: es) [] pos) (qG sq [] E t):=by
 obtain⟨g,gd,G1,G2,G3,G4⟩:=G.ex;exact gC (dvs:=[]) G1 hr hg G2 G3 G4 .nil uc ha hdb he hpl
end
noncomputable def bp (s:Stmt):List Stmt:=match s with
 | .ClassDef _ _ _ b _ _ _ _ _ _ _=>b
 | _=>[]
structure FCls (K:uQ) (mg:Str->Option Value) (x base:Str) (C:uR) (name:Str) (st:Stmt) (ps:List Str):Prop where
 ex:∃ (f D:uR) (fd:FuncData),FldC K C f D name/\mg x=some (.ref C)/\mg base=some (.ref D)/\Fun K "__init__" (x ++ ".__init__") st f fd/\Binds K fd ps []
structure InitOk (P:Program) (w:World) (K:uQ) (mg:Str->Option Value) (base:Heap) (k:Nat) (C:uR) (name:Str):Prop where
 ex:∃ (f D:uR) (fd:FuncData) (ps:List Str),FldC K C f D name/\FnOk P w K mg base CX0 k f fd ps (c7 C name)/\Binds K fd ps []
theorem aE {P:Program} {w:World} {K:uQ} {mg:Str->Option Value} {base:Heap} {N:List Str} {qual:Str} {scope:Scope} {f:uR} {cd:Value} {A:Around} {outer:List Env} {s:Shared} {H:Hp} {E:XK} {k:Nat} {C:uR} {name x:Str} {e0:Expr} {t:TA} {np cpos pos:Pos}
  (G:InitOk P w K mg base k C name) (hr:Room (k+1) (zS (CXf P w) P w K mg base N qual scope f cd A outer s H E).A) (hg:Gl (zS (CXf P w) P w K mg base N qual scope f cd A outer s H E) x) (hm:mg x=some (.ref C)) (ha:PA (zS (CXf P w) P w K mg base N qual scope f cd A outer s H E) [e0] t)
  (hse:u4 [e0] (zS (CXf P w) P w K mg base N qual scope f cd A outer s H E).env=(false,eval e0 (zS (CXf P w) P w K mg base N qual scope f cd A outer s H E).env) :: u4 [] (zS (CXf P w) P w K mg base N qual scope f cd A outer s H E).env:=by rfl) (hpl:(backTo cpos (u4 [] (zS (CXf P w) P w K mg base N qual scope f cd A outer s H E).env)).any (·.1)=false:=by rfl) (hd:(x == ("__debug__":Str))=false:=by decide) :
  PS (zS (CXf P w) P w K mg base N qual scope f cd A outer s H E) (.Raise (some (.Call (.Name x np) [e0] [] cpos)) none pos) (c8 C name E t):=by
 obtain⟨fI,D,fd,ps,T,F,hb⟩:=G.ex;exact iY T F hr hb lV rfl rfl rfl rfl hg hm ha hse hpl hd
theorem InitOk.fld {P:Program} {w:World} {K:uQ} {mg:Str->Option Value} {base:Heap} {k:Nat} {C:uR} {name:Str} (h:InitOk P w K mg base k C name):∃ f D,FldC K C f D name:=let⟨f,D,_,_,T,_⟩:=h.ex;⟨f,D,T⟩
theorem qw {K:uQ} {f:Fx} {ρ:zq} {P:PyData->Prop} {j:Nat} {C D a:uR} {x:XD} {b:Bool} (hj:ρ[j]?=some (some (.mon (y4 K a (.ref C) x)))) (Wy:ExcWays K C) (hk:uU K (.ref C) (.ref D)=some b) (p:P (.bool b)) :
  PEd K f (tCB (sv K) (z9 (yN j) (z9 (tC (.ref D)) jl))) ρ P:=pQ hj Wy (.inr ⟨D,rfl,hk⟩) p
theorem va {K:uQ} {f:Fx} {ρ:zq} {D:DEnds} {tt:TT} {ts tu:TS} (h:PTd K f tt ρ fun _=>True) (h1:PSd K f ts ρ D) (h2:PSd K f tu ρ D):PSd K f (eX tt ts tu) ρ D:=az fun σ H Q e q=>h σ H Q e fun b H' g _=>q b H' g (by cases b <;> simpa)
theorem sD {K:uQ} {f:Fx} {t:TA} {ρ:zq} {R:List DV->Prop} (ys:List DV) (h:PAd K f t ρ fun xs=>xs=ys) (i:R ys):PAd K f t ρ R:=fun σ H Q e q=>h σ H Q e fun xs vs H' g r p=>q xs vs H' g r (p▸i)
theorem bQ {K:uQ} {f:Fx} {ρ:zq} {D:DEnds} {tt:TT} {ts tu:TS} (p:Prop) [Decidable p] (h:PTd K f tt ρ fun b=>b=decide p) (h1:p->PSd K f ts ρ D) (h2:¬ p->PSd K f tu ρ D):PSd K f (eX tt ts tu) ρ D:=az fun σ H Q e q=>h σ H Q e fun b H' g z=>q b H' g (by
 subst z;by_cases hp:p
 ·rw [decide_eq_true hp,CT rfl];exact h1 hp
 ·rw [decide_eq_false hp,CS uT];exact h2 hp)
noncomputable def jY (K:uQ) (C:uR):Bool :=
 wx K (.ref C) "__getattribute__" == some (some (.builtin "BaseException.__getattribute__")) && wx K (.ref C) "__getattr__" == some none && wx K (.ref C) "__class__" == some (some (.builtin "object.__class__"))
  && AG K (.builtin "object.__class__") "__get__" == some (some (.builtin "getset_descriptor.__get__")) && PySem.W.takesIn K (.builtin "object.__class__") == some true && Bo K C (.type "object") == some true && Bo K C (.type "BaseException") == some true && (PySem.W.clsIn K C).isSome
theorem bq {K:uQ} {C:uR} (h:jY K C=true):ExcWays K C:=by
 unfold jY at h;simp only [wB,beq_iff_eq] at h;obtain⟨⟨⟨⟨⟨⟨⟨h1,h2⟩,h3⟩,h4⟩,h5⟩,h6⟩,h7⟩,h8⟩:=h;exact⟨h1,h2,h3,h4,h5,h6,h7,h8⟩
section
variable {w:World} {K:uQ} {f:Fx} {Ds:List uR} {ts:TS} {te tk:TE} {ρ:zq} {cs:List OC} {O:MEnds} {i j n:Nat}
theorem pR (h:PEm w K f Ds te ρ cs fun d=>O.nx (ρ.set n (some (.dat d))) cs):PSm w K f Ds (vt te (qQ n)) ρ cs O:=fun se σ H H2 E x nn r b k =>
 h se σ H H2 _ x fun d v H1 g1 r1 p1=>by
  have x1:=x.go g1 (x.env.mono g1);exact nn _ cs _ H1 ⟨x1.env.set n (x:=.dat d) r1,x1.sm,x1.kp,x1.len,x1.own⟩ p1
end
theorem b6:entryFor table "proto.unchain"=some Builtin.«proto.unchain»:=entryFor_of_tree (by kernel_rfl)
section
variable {prog:Program} {w:World} {A:Around} {E:Value->Shared->Prop} {s:Shared}
theorem fS {α:Type} {e h:uR} {u oe:Obj} {vs:Array Value} {Q:α->Shared->Prop} (hh:A.handled=some (.ref h)) (he:s.heap.get? e=some oe) (hd:oe.data=.fields vs) (h2:2<vs.size) (hu:s.heap.get? h=some u) (hf:aC u=some .none) (ne:h≠e)
  (q:∀ h',(∀ b o,b≠e->s.heap.get? b=some o->h'.get? b=some o)->(∃ o',h'.get? e=some o'/\o'.cls=oe.cls)->E (.ref e) { s with heap:=h' }):wb (model prog w) A (raiseNew (.ref e):Sem α) Q E s:=by
 unfold raiseNew;refine uS (wpAny_handled ?_);rw [hh];dsimp only;rw [CT (show ((Value.ref h != Value.ref e)=true) from by simp [ne])];refine uS (xl (wpAny_runValue (codeAny_builtin b6 ?_)));unfold aC at hf;split at hf
 ·rename_i ws hw;show wb _ _ (field (.ref h) 2 >>= _) _ _ s;refine uS (wpAny_field hu hw hf ?_);rw [CT (show ((Value.none == Value.none)=true) from rfl)];refine uS (wa (wa ?_));show wb _ _ (updateField e 2 (.ref h) >>= fun _=>throw (Value.ref e)) _ _ _;refine uS ?_;show wb _ _ (setField (.ref e) 2 (.ref h)) _ _ _;refine Cs he hd h2 (wpAny_throw (q _ (fun b o nb z=>?_) ?_))
  ·exact (wX _ _ (x6 nb)).trans z
  ·exact⟨_,x8 _ he (Obj.isFreed_of_fields (Obj.data_mapFields hd _)),Obj.cls_mapFields _ _⟩
 ·cases hf
theorem b7 {it l h:uR} {i:Nat} {items:Array Value} {u:Obj} {Q:Option Value->Shared->Prop} (hh:A.handled=some (.ref h)) (hit:s.heap.IsListIter it l i) (hl:s.heap.IsList l items) (hx:items[i]?=none) (hu:s.heap.get? h=some u) (hf:aC u=some .none) (hne:h≠it)
  (q:∀ h',(∀ b o,b≠it->s.heap.get? b=some o->h'.get? b=some o)->Q none { s with heap:=h' }):wb (model prog w) A (pyNext (.ref it)) Q E s:=by
 obtain⟨o,ho,_,hd⟩:=id hit;obtain⟨ol,hol,_,nl,hdl⟩:=hl;refine uS (Bp (wpAny_callSpecial?_slot (name:=w6 "__next__") hit.typeIs slot_listiter_next (wpAny_call_entry slot_listiter_next hit.typeIs entry_listiter_next ?_ (args_listiter_next _))));show wb _ _ (PySem.field (.ref it) 0 >>= _) _ _ s;refine uS (wpAny_field ho hd (x:=.ref l) rfl (a:=it) ?_);rw [CS (show ¬ (Value.ref l == Value.none)=true from uT)];refine uS (wpAny_field ho hd (x:=.int i 0) rfl (uS (wpAny_seqItems hol hdl ?_)));simp only [xy,hx];refine uS (CF (uS (Cs ho hd (by simp) (uS ?_))));simp only [newExc,newTuple];refine uS (wpAny_newObj_type (uS (m:=firstArgMember _ _) (wpAny_of_eq (a:=Value.none) (by first | rfl | (simp only [firstArgMember];rfl)) (wpAny_newObj_type ?_ (by size_fits)))) (by size_fits));have up:∀ b o,b≠it->s.heap.get? b=some o->∀ o1 o2:Obj,(((s.heap.update it (CD (·.setIfInBounds 0 Value.none))).push o1).push o2).get? b=some o:=fun b o nb z o1 o2=>uX _ (uX _ ((wX _ _ (x6 nb)).trans z));refine fS (u:=u) hh (wk _ rfl) rfl (show 2<6 from by decide) (up h u hne hu _ _) hf ?_ fun h' kp ⟨o',e1,e2⟩=>?_
 ·exact fun z=>absurd (u5 (uX _ ((wX _ _ (x6 hne)).trans hu):((s.heap.update it (CD (·.setIfInBounds 0 Value.none))).push _).get? h=some u)) (by rw [z];exact xU _)
 ·refine uS (wpAny_isInstance (T:="StopIteration") (b:=true) ⟨o',e1,e2⟩ isSubtype_stop (wa (q h' fun b o nb z=>kp b o ?_ (up b o nb z _ _))));have lt:b<(s.heap.update it (CD (·.setIfInBounds 0 Value.none))).objs.size:=u5 ((wX _ _ (x6 nb)).trans z);exact wC (wm lt (by rw [xj];exact Br _))
theorem fU (hh:A.handled=some (.ref h)) (I ax:uR) (hne:ax≠I) (hI:h≠I) (u:Obj) (hf:aC u=some .none) (items:Array Value) :
  Walks prog w A I [I,ax,h] [I] items.size (fun i v=>items[i]?=some v) (fun i hp=>hp.IsListIter I ax i/\hp.IsList ax items/\hp.get? h=some u) where
 sub:=fun b hb=>by rw [u7.mp hb];exact u3
 frame:=fun _ _ _ st k=>⟨st.1.at fun o e=>k I (by simp) o e,st.2.1.at fun o e=>k ax (by simp) o e,k h (by simp) u st.2.2⟩
 item:=fun i s Q E hi st q=>wpAny_pyNext_list_item st.1 st.2.1 (x:=items[i]) (by simp [hi]) fun h' it' sb=>q _ h' s.toks (by simp [hi]) ⟨it',st.2.1.extBut sb.extBut hne,sb.extBut h u hI st.2.2⟩ fun b o nb e=>sb.extBut b o (fun z=>nb (by simp [z])) e
 done:=fun s Q E st q=>b7 hh st.1 st.2.1 (by simp) st.2.2 hf hI fun h' k=>q h' s.toks fun b o nb e=>k b o (fun z=>nb (by simp [z])) e
 self:=fun _ _ _ _ st q=>wpAny_pyIter_listiter st.1 q
end
def pS (K:uQ) (e:uR):List V->Hp->VK->Prop:=fun xs H Q=>(∃ C o,H e=some (.ext (ExcAt e C o)))/\nJ K xs H Q
theorem iZ {X:Cx} {K:uQ} {e:uR} (hK:X.K=K) (hm:X.A.handled=some (.ref e)):yA X (.builtin "any") (pS K e):=by
 subst hK;intro CQ s σ H xs us Q I r h;obtain⟨⟨C,o,he⟩,a,bs,rfl,hq,q⟩:=h;obtain⟨v,rfl,r1⟩:=vals1 r;cases r1;obtain⟨its,rv,p,_⟩:=I.list hq;have hl:=p.isList;rw [vY rv] at hl;obtain⟨u,hu,_,hf,_⟩:=(I.hok e _ he).1;have lt:∀ {b:uR} {o:Obj},s.heap.get? b=some o->b≠s.heap.objs.size:=fun z=>wC (u5 z);have ha:a≠s.heap.objs.size:=by
  obtain⟨o,ho,_⟩:=hl;exact lt ho
 refine call_any_walk (wpAny_pyIter_list hl ⟨s.heap.objs.size,_,_,_,_,_,_,rfl,fU (show (X.A.in1).handled=some (.ref e) from hm) _ a ha (lt hu) u hf _,⟨⟨_,wk _ rfl,rfl,rfl⟩,hl.at fun o z=>uX _ z,uX _ hu⟩,qZ _ _ _ bs,fun h' tk hk=>?_⟩);refine⟨.bl _,H,I.kept (t':=tk) fun b o z=>hk b o (fun y=>lt z (u7.mp y)) (uX _ z),?_,q⟩;show Value.bool _=Value.bool _;rw [wo,uV,range_any]
structure RoomM (k:Nat) (A:Around):Prop where
 dp:A.depth+3 * k+5<recursionLimit
 un:A.units+16 * k+200<Cr
structure FnOkM (P:Program) (w:World) (K:uQ) (mg:Str->Option Value) (base:Heap) (k:Nat) (f:uR) (fd:FuncData) (ps:List Str) (sp:uR->Sp):Prop where
 len:∀ a vs H Q E,sp a vs H Q E->vs.length=ps.length
 run:∀ (A:Around) (outer:List Env) (s:Shared) (H:Hp) (args:Args) (us:List Value) (vs:List V) (Q:VK) (a:uR),A.handled=some (.ref a)->RoomM k A->Env0 P w K mg base A outer s H->BindsTo s fd args (ps.zip us)->Vals vs us->sp a vs H Q E0 ->
  codeAny (model P w) A (.call (.ref f) args) (CR CX0 outer P w H s Q E0) s
noncomputable def cxM (P:Program) (w:World) (K:uQ) (mg:Str->Option Value) (base:Heap) (N:List Str) (qual:Str) (scope:Scope) (f:uR) (cd:Value) (A:Around) (outer:List Env) (s:Shared) (H:Hp):Cx :=
 { zS CX0 P w K mg base N qual scope f cd A outer s H E0 with calm:=false,xe:=fun _ _=>False }
theorem sE {P:Program} {w:World} {K:uQ} {mg:Str->Option Value} {base:Heap} {k:Nat} {f:uR} {name qual:Str} {params:Arguments} {body:List Stmt} {scope:Scope} {dV kV doc pm cdv ct oc:Value} {an od:Option uR}
  {osl:Array (Option Value)} {N ps:List Str} {sp:uR->Sp} (lk:K.lookup f=some ⟨oc,od,.func (wV name qual params body scope dV kV doc pm an cdv ct),osl⟩) (hcd:xc K cdv qual=true) (S:FnScope N ps scope)
  (len:∀ a vs H Q E,sp a vs H Q E->vs.length=ps.length)
  (hbody:∀ (A:Around) (outer:List Env) (s:Shared) (H:Hp) (vs:List V) (Q:VK) (a:uR),A.handled=some (.ref a)->RoomM k (A.deeper (envOfC qual scope s.heap.objs.size f cdv))->sp a vs H Q E0 ->
   ∃ t,PSs (cxM P w K mg base N qual scope f cdv A outer s H) body t/\t { nx:=fun _ H'=>Q .non H',rt:=Q } (start N vs) H) :
  FnOkM P w K mg base (k+1) f (wV name qual params body scope dV kV doc pm an cdv ct) ps sp:=by
 refine⟨len,fun A outer s H args us vs Q a hm hr e0 hb r hsp=>?_⟩;have KX:K.In s.heap:=e0.mod.kin.keeps fun b o e=>(e0.bs b o e).1;have hkind:∀ y∈ps.zip us,scope.names.lookup y.1=some .local \/ (scope.names.lookup y.1=some .cell/\((cellsFrom (s.heap.objs.size+1) scope.names []).lookup y.1).isSome=true):=fun⟨n,v⟩ hy=>(S.par n (A7 hy).1).imp id fun q=>⟨q,xx _ _ _ (.inl q)⟩;have rd:RoomM k (A.deeper (envOfC qual scope s.heap.objs.size f cdv)):=⟨by have:=hr.dp;show A.depth+1+3 * k+5<_;omega,by have:=hr.un;show A.units+3+16 * k+200<_;omega⟩;refine codeAny_call_function (by have:=hr.dp;omega) (KX _ _ lk) rfl S.co S.gen rfl (Bc KX hcd) (hb _ _ _ _ (wpAny_newFunctionEnv_cells S.kind hkind fun env he s1 x=>?_));subst he;refine⟨(e0.mod.nolimit.keeps fun b o e=>(e0.bs b o e).1).keeps x.toInCall.keep,codeAny_func ?_⟩;obtain⟨t,ht,hq⟩:=hbody A outer s H vs Q a hm rd hsp;have e1:Env0 P w K mg base { A with handled:=none } outer s H:=⟨e0.frames,e0.mod,e0.bs,e0.bsz,e0.funs,e0.frf,e0.tabs,e0.hok,e0.bare⟩;have J:Inv (zS CX0 P w K mg base N qual scope f cdv { A with handled:=none } outer s H E0) [] (start N vs) H s1:=ay S rfl e1 (len _ _ _ _ _ hsp) r x;have I:Inv (cxM P w K mg base N qual scope f cdv A outer s H) [] (start N vs) H s1 :=
  ⟨⟨J.ok.mod,J.ok.kind,J.ok.glob,J.ok.blt,J.ok.above,J.ok.inj,J.ok.has,J.ok.cab,(fun z=>by cases z),Cg e0.frames,J.ok.stk,J.ok.exf,J.ok.bs,J.ok.bsz,J.ok.noex,J.ok.exfs,J.ok.funs,J.ok.frf,J.ok.tabs⟩,J.os,J.bare,J.base,J.loc,J.cell,J.free,J.freeC,J.pin,J.hok,J.len⟩
 refine wW (ht [] s1 (start N vs) H _ I hq) (fun fl s' hs=>?_) fun e s' hs=>hs.elim;cases fl with
 | ret u =>
  obtain⟨v,σ',H',Y,rv,q⟩:=hs;exact⟨v,H',Y.os,Y.bare,Y.base,Y.hok,rv,q⟩
 | next =>
  obtain⟨σ',H',Y,q⟩:=hs;exact⟨V.non,H',Y.os,Y.bare,Y.base,Y.hok,rfl,q⟩
 | brk=>exact wR hs.choose_spec.choose_spec.2
 | cont=>exact wR hs.choose_spec.choose_spec.2
structure FnInM (P:Program) (w:World) (K:uQ) (mg:Str->Option Value) (base:Heap) (k:Nat) (x:Str) (ps:List Str) (sp:uR->Sp):Prop where
 ex:∃ (f:uR) (fd:FuncData),FnOkM P w K mg base k f fd ps sp/\mg x=some (.ref f)/\wF K (.ref f)=true/\Binds K fd ps []
def spM {γ:Type} (K:uQ) (n:Nat) (pre:uR->γ->List DV->Prop) (post:γ->PyData->Prop):uR->Sp:=fun a=>spD K n (pre a) post
section
variable {P:Program} {w:World} {K:uQ} {mg:Str->Option Value} {base:Heap} {j k n:Nat} {x:Str} {st:Stmt} {ps N:List Str} {γ:Type} {pre:uR->γ->List DV->Prop} {post:γ->PyData->Prop} {sp:uR->Sp}
theorem FnInM.mono (h:FnInM P w K mg base j x ps sp) (hk:j<=k):FnInM P w K mg base k x ps sp :=
 let⟨f,fd,a,b,c,d⟩:=h.ex
 ⟨f,fd,⟨a.len,fun A outer s H args us vs Q e hm hr=>a.run A outer s H args us vs Q e hm ⟨by have:=hr.dp;omega,by have:=hr.un;omega⟩⟩,b,c,d⟩
theorem Def.okM (F:Def K mg x st ps) (S:FnScope N ps (zh st)) (hn:ps.length=n)
  (h:∀ (fa:uR) (cdv:Value) (A:Around) (outer:List Env) (s:Shared) (H:Hp) (a:uR),A.handled=some (.ref a)->RoomM k (A.deeper (envOfC x (zh st) s.heap.objs.size fa cdv)) ->
   ∃ t,PSs (cxM P w K mg base N x (zh st) fa cdv A outer s H) (zU st) t/\∀ f xs c,xs.length=n->pre a c xs->PSd K f t (jN N xs) { nx:=fun _=>post c .none,rt:=post c }) :
  FnInM P w K mg base (k+1) x ps (spM K n pre post):=by
 obtain⟨fa,fd,F1,F2,F3⟩:=F.ex;obtain⟨oc,od,kV,doc,pm,an,cdv,ct,osl,rfl,lk,hcd⟩:=F1.ex;refine⟨fa,_,sE lk hcd S (fun a vs H Q E h=>?_) (fun A outer s H vs Q a hm hr hs=>?_),F3,F1.kp,F2⟩
 ·obtain⟨f,xs,c,r,hl,_⟩:=h;rw [r.length,hl,hn]
 ·obtain⟨f,xs,c,r,hl,fo,hp,q⟩:=hs;obtain⟨t,h1,h2⟩:=h fa cdv A outer s H a hm hr;exact⟨t,h1,h2 f xs c hl hp _ H _ (je r fo) (fun ρ' σ' H' g' e' p=>q .none .non H' g' (jm.mpr rfl) p) (fun d v H' g' r' p=>q d v H' g' r' p) (fun _ _ _ _ _ z=>z.elim) (fun _ _ _ _ _ z=>z.elim)⟩
theorem eA {X:Cx} {a:uR} {e:Expr} {es:List Expr} {t:TA} {p pos:Pos} (G:FnInM X.prog X.w X.K X.mg X.base k x ps sp) (hr:Room k X.A) (hg:Gl X x) (ha:PA (X.marked (.ref a)) (e :: es) t) (hdb:(x == ("__debug__":Str))=false:=by decide)
  (he:u4 (e :: es) X.env=(false,eval e X.env) :: u4 es X.env:=by rfl) (hpl:(backTo pos (u4 es X.env)).any (·.1)=false:=by rfl):PE (X.marked (.ref a)) (.Call (.Name x p) (e :: es) [] pos) (qG (sp a) [] E0 t):=by
 obtain⟨f,fd,F,hm,hk,hb⟩:=G.ex;intro CQ s σ H Q I h;refine wpAny_Call_Name_kw (y2 I hg hm ?_ hdb);refine xC (h₀:=X.base) I.ok.mod.kin hk (thn (ha pos CQ s σ H _ I h) fun us s1 ⟨vs,H1,I1,r,q⟩=>⟨I1.kIn,?_⟩) he hpl;have q:sp a vs H1 Q E0:=by have:=q;dsimp only at this;rw [xf] at this;exact this
 have b2:=hb s1 us I1.kIn (by rw [xf,<- r.length];exact F.len _ _ _ _ _ q);rw [xf] at b2;refine wpAny_call (A0 (F.run _ _ s1 H1 ⟨us,[]⟩ us vs Q a rfl ⟨hr.dp,hr.un⟩ I1.env0 b2 r q) fun res s' z=>?_);cases res with
 | error e=>exact wR z
 | ok fl =>
  cases fl with
  | ret u=>exact I1.after z
  | next=>exact wR z
  | brk=>exact wR z
  | cont=>exact wR z
end
theorem sF {K:uQ} {f:Fx} {ρ:zq} {P:PyData->Prop} {te:TE} {j:Nat} {a:uR} {C:Value} {x:XD} (hj:ρ[j]?=some (some (.mon (y4 K a C x)))) (h:PEd K f te ρ fun x=>∃ bs:List Bool,x=.list (bs.map .bool)/\P (.bool (bs.any id))):PEd K f (tCB (pS K a) (z9 te jl)) ρ P:=fun σ H Q e q =>
 h σ H _ e fun x v H1 g1 r1 ⟨bs,ex,p⟩=>by
  subst ex;obtain⟨u,_,r⟩:=(e.mono g1).get j _ hj;obtain⟨o,_,hH,_⟩:=r H1 (zo H1 f);obtain⟨b,xs,rfl,h1,h2⟩:=zH.mp r1;rw [qu h2] at h1;exact⟨⟨C,o,hH⟩,b,bs,rfl,(zo H1 f).seq h1,q _ _ H1 g1 (zF.mpr rfl) p⟩
structure TN (K:uQ) (f:Fx) (a:uR) (as:List uR) (H2:Hp) (ρ:zq) (R:Option (List (List Int))) (σ:St) (H:Hp):Prop where
 env:EnvOk K (f.withs (a :: as)) ρ σ H
 sm:Same (hide H2 (f.withs (a :: as))) (hide H (f.withs (a :: as)))
 kp:∀ b∈f.M,H b=H2 b
 tab:∀ rows,R=some rows->TabAt H a as rows
end L2
end
section
namespace L2
open PySem PySem.Spec PyProof.Rows
structure GoesW (f:Fx) (As:List uR) (H2 H':Hp):Prop where
 sm:Same (hide H2 (f.withs As)) (hide H' f)
 ok:FOk f H'
 kp:∀ b∈f.M,H' b=H2 b
structure FnAt (P:Program) (w:World) (K:uQ) (mg:Str->Option Value) (base:Heap) (CX:CXT) (k:Nat) (a:uR) (sp:Sp):Prop where
 ex:∃ (fd:FuncData) (ps:List Str),FnOk P w K mg base CX k a fd ps sp/\wF K (.ref a)=true/\Binds K fd ps []
end L2
end
section
namespace L2
open PySem PySem.Spec PyProof.Rows
end L2
end
section
namespace L2
open PySem PySem.Spec PyProof.Rows
structure Src (prog:Program) (w:World) (j:uR) (xs:Array Value) (dep:List uR) (St:Nat->Heap->Prop):Prop where
 own:j∈dep
 keep:∀ {k:Nat} {h h':Heap},St k h->(∀ c∈dep,∀ o,h.get? c=some o->h'.get? c=some o)->St k h'
 there:∀ {k:Nat} {h:Heap},St k h->∃ o,h.get? j=some o
 item:∀ {A:Around} {E:Value->Shared->Prop} {s:Shared} {k:Nat} {x:Value} {Q:Value->Shared->Prop},St k s.heap->xs[k]?=some x->(∀ h',St (k+1) h'->Bg j s.heap h'->Q x { s with heap:=h' })->wb (model prog w) A (xB (.ref j)) Q E s
 stop:∀ {A:Around} {E:Value->Shared->Prop} {s:Shared} {k:Nat} {Q:Value->Shared->Prop},A.handled=none->St k s.heap->xs[k]?=none->(∀ h' e,Heap.ExtBut j s.heap h'->(∃ o,h'.get? e=some o/\o.cls=.type "StopIteration")->E (.ref e) { s with heap:=h' })->wb (model prog w) A (xB (.ref j)) Q E s
section
variable {prog:Program} {w:World} {A:Around} {E:Value->Shared->Prop} {s:Shared}
structure Far (z q1 q2 j1 j2:uR) (e1 e2:List uR):Prop where
 q1z:q1≠z
 q2z:q2≠z
 q12:q1≠q2
 j12:j1≠j2
 q1j1:q1≠j1
 q1j2:q1≠j2
 z1:z∉e1
 z2:z∉e2
 o1:q2∉e1
 o2:q2∉e2
 d12:j2∉e1
 d21:j1∉e2
end
end L2
end
section
namespace L2
open PySem PySem.Spec PyProof.Rows
end L2
end
section
namespace L2
open PySem PySem.Spec PyProof.Rows
section
variable {K:uQ} {f:Fx} {ρ:zq} {R:List DV->Prop} {i j m n:Nat} {d0 d1 d2 d3:PyData}
theorem uP (h0:ρ[i]?=some (some (.dat d0))) (h:R [.dat d0]):PAd K f (z9 (yN i) jl) ρ R:=zj (zf h0 (zE h))
end
section
variable {w:World} {K:uQ} {f:Fx} {Ds:List uR} {ρ:zq} {cs:List OC} {ts tu:TS} {tt:TT} {te:TE} {R:List PyData->Prop} {i j:Nat}
theorem eB {H H1:Hp} {D:uR} (fo:FOk f H) (g:Goes f H H1) (hn:H1 D=none):H D=none:=by
 cases e:H D with
 | none=>rfl
 | some o =>
  by_cases hh:f.f=some D \/ D∈f.M
  ·have:∃ o,H1 D=some o:=hh.elim (fun z=>let⟨a,b,h3,_⟩:=g.ok.fd D z;⟨_,h3⟩) fun z=>g.ok.mm D z;obtain⟨o',h⟩:=this;rw [hn] at h;cases h
  ·have:=(zC (g.sm D o (zA hh e))).2;rw [hn] at this;cases this
end
abbrev FD (K:uQ) (x:Str) (st:Stmt) (f:uR) (od an:Option uR) (sl:Array (Option Value)) (oc kV dc pm cd ct:Value):Prop:=we K u9 x=some (some (.ref f))/\K.lookup f=some ⟨oc,od,.func (wV x x (yt st) (zU st) (zh st) .none kV dc pm an cd ct),sl⟩/\xc K cd x=true/\wF K (.ref f)=true
theorem sG {K:uQ} {h:Heap} {mg:Str->Option Value} {x:Str} {st:Stmt} {f:uR} {od an:Option uR} {sl:Array (Option Value)} {oc kV dc pm cd ct:Value} (X:K.In h) (G:h.Ns u9 mg) (a:FD K x st f od an sl oc kV dc pm cd ct) {ps:List Str}
  (hb:∀ (kV doc pm:Value) (an:Option uR) (cdv ct:Value) (us:List Value),us.length=ps.length->bindArgs (wV x x (yt st) (zU st) (zh st) .none kV doc pm an cdv ct) ⟨us,[]⟩=pure (ps.zip us)):Def K mg x st ps :=
 ⟨f,_,vD a.2.1 a.2.2.1 a.2.2.2,(vD (st:=st) a.2.1 a.2.2.1 a.2.2.2).binds hb,wI X G a.1⟩
end L2
end
section
namespace L2
open PySem PySem.Spec PyProof.Rows
end L2
end
section
open PySem PySem.Spec PyProof.Rows
namespace L2
end L2
end
section
namespace L2
open PySem PySem.Spec PyProof.Rows
section
variable {X:Cx}
theorem gY {K:uQ} {H:Hp}:∀ {ts:List Str} {xs:List V} {us:List Value},Reps K H (ts.map .str) xs->Vals xs us->∃ l:List (Str×Tok),strValues l=us/\l.map (·.1)=ts
 | [],xs,us,r,v=>by
  cases zP.mp r;cases v;exact⟨[],rfl,rfl⟩
 | t :: ts,xs,us,r,v=>by
  obtain⟨x,xs',rfl,h1,h2⟩:=zy.mp r;cases v with
  | cons a b =>
   obtain⟨l,e1,e2⟩:=gY h2 b;have hx:=zD.mp h1;subst hx;obtain⟨tk,rfl⟩:=a;exact⟨(t,tk) :: l,by rw [<-e1];rfl,by rw [<-e2];rfl⟩
def rJoin (K:uQ):V->List V->Hp->VK->Prop:=fun x ys H Q=>∃ sep ts y,x=.str sep/\ys=[y]/\Rep K H (.list (ts.map .str)) y/\JoinOk sep ts=true/\Q (.str (xY sep ts)) H
theorem gZ:MtR X "str.join" (rJoin X.K):=by
 intro CQ s σ H x xs v us Q I rx rv h;obtain⟨sep,ts,y,rfl,rfl,hl,hok,q⟩:=h;obtain⟨a,zs,rfl,hq,hr⟩:=zH.mp hl;obtain⟨tk,rfl⟩:=rx;obtain⟨u,rfl,ru⟩:=rv.one;cases ru;obtain⟨its,r,pl,hz⟩:=I.list hq;obtain⟨l,e1,e2⟩:=gY hr r;subst e2;refine SC.join (l:=l) ?_ rfl hok fun t' k=>⟨.str _,H,I.tok _,⟨_,rfl⟩,q⟩;rw [e1];obtain⟨o,n,e,c1,c2,c3⟩:=pl;exact⟨o,e,c1,n,c3⟩
theorem qi {K:uQ} {o e:Expr} {es:List Expr} {to:TE} {t:TA} {apos cpos:Pos} (hK:X.K=K) (ho:PE X o to) (ha:PA X (e :: es) t)
  (hbase:attributeBase o "join" X.env (eval o X.env)=eval o X.env)
  (hfew:((backTo cpos (u4 (e :: es) X.env)).all (fun x=>!x.1) && (backToKw cpos (keywordEach [] X.env)).all (fun x=>x.1.isSome)
   && decide ((e :: es).length+([]:List Keyword).length+(if ([]:List Keyword).isEmpty then 0 else 1)<30))=true)
  (hline:(apos.endLine == cpos.line)=true) (hs:u4 (e :: es) X.env=(false,eval e X.env) :: u4 es X.env) (hplain:(backTo cpos (u4 es X.env)).any (·.1)=false) :
  PE X (.Call (.Attribute o "join" apos) (e :: es) [] cpos) (tBM K "str" (rJoin K) to t):=by
 subst hK;exact jL wK B9 Ca gZ ho ha hbase hfew hline hs hplain
end
section
variable {K:uQ} {f:Fx} {ρ:zq} {te ta:TE} {P:PyData->Prop}
theorem vI {sep:Str} (h:PEd K f te ρ fun x=>∃ ts:List Str,x=.list (ts.map .str)/\JoinOk sep ts=true/\P (.str (xY sep ts))):PEd K f (tBM K "str" (rJoin K) (tC (.str sep)) (z9 te jl)) ρ P:=fun σ H Q e q=>by
 refine⟨rfl,?_⟩;refine h σ H _ e fun x v H1 g1 r1 ⟨ts,ex,hok,p⟩=>?_;subst ex;exact⟨sep,ts,v,rfl,rfl,Rep.mono (zo _ _) _ _ r1,hok,q _ _ H1 g1 (zD.mpr rfl) p⟩
theorem c9 (h:PEd K f te ρ fun x=>∃ i:Int,x=.int i/\i.natAbs<2 ^ 100/\P (.str (toString i))):PEd K f (tCB (fun xs H Q=>∃ i,xs=[.int i]/\i.natAbs.log2<1920/\Q (.str (toString i)) H) (z9 te jl)) ρ P:=fun σ H Q e q =>
 h σ H _ e fun x v H1 g1 r1 ⟨i,ex,hi,p⟩=>by
  subst ex;rw [zp.mp r1];refine⟨i,rfl,?_,q _ _ H1 g1 (zD.mpr rfl) p⟩;by_cases z:i.natAbs=0
  ·rw [z];decide
  ·have:=(Nat.log2_lt z).mpr (wm hi (Nat.pow_le_pow_right (by decide) (show 100<=1920 by decide)));exact this
end
end L2
end
section
namespace L2
open PySem PySem.Spec PyProof.Rows
end L2
end
section
namespace L2
open PySem PySem.Spec PyProof.Rows
structure TQ (K:uQ) (f:Fx) (a:uR) (as:List uR) (H2:Hp) (ρ:zq) (rows:List (List PyData)) (σ:St) (H:Hp):Prop where
 env:EnvOk K (f.withs (a :: as)) ρ σ H
 sm:Same (hide H2 (f.withs (a :: as))) (hide H (f.withs (a :: as)))
 kp:∀ b∈f.M,H b=H2 b
 top:H a=some (.lst (as.map .ref))
 nd:(a :: as).Nodup
 len:as.length=rows.length
 row:∀ (i:Nat) x r,as[i]?=some x->rows[i]?=some r->∃ vs,H x=some (.lst vs)/\Reps K (hide H (f.withs (a :: as))) r vs
end L2
end
section
namespace L2
open PySem PySem.Spec PyProof.Rows
inductive PEs (X:Cx):List (Expr×Expr)->List (TE×TE)->Prop where
 | nil:PEs X [] []
 | cons {k v:Expr} {tk tv:TE} {es:List (Expr×Expr)} {ts:List (TE×TE)}:PE X k tk->PE X v tv->PEs X es ts->PEs X ((k,v) :: es) ((tk,tv) :: ts)
inductive RelPs:List (V×V)->List (Value×Value)->Prop where
 | nil:RelPs [] []
 | cons {k v:V} {a b:Value} {l:List (V×V)} {us:List (Value×Value)}:RelV k a->RelV v b->RelPs l us->RelPs ((k,v) :: l) ((a,b) :: us)
inductive RepP (K:uQ) (Hh:Hp):List (PyData×PyData)->List (V×V)->Prop where
 | nil:RepP K Hh [] []
 | cons {k v:PyData} {a b:V} {l:List (PyData×PyData)} {us:List (V×V)}:Rep K Hh k a->Rep K Hh v b->RepP K Hh l us->RepP K Hh ((k,v) :: l) ((a,b) :: us)
end L2
end
section
set_option maxHeartbeats 400000
namespace L2
open PySem PySem.Spec PyProof.Rows
structure PEw (X:Cx) (e:Expr) (t:TE):Prop where
 pe:PE X e t
structure PEsW (X:Cx) (es:List (Expr×Expr)) (ts:List (TE×TE)):Prop where
 pes:PEs X es ts
structure CSo (w:World) (K:uQ) (f:Fx) (D:uR) (H2:Hp) (ρ':zq) (kvs:List (PyData×PyData)) (σ:St) (H:Hp):Prop where
 env:EnvOk K (f.with D) ρ' σ H
 sm:Same (hide H2 (f.with D)) (hide H (f.with D))
 kp:∀ b∈f.M,H b=H2 b
 own:OwnAt w K (hide H (f.with D)) H D (.dic kvs)
end L2
end
section
namespace L2
open PySem PySem.Spec PyProof.Rows PySem.SetTable
end L2
end
section
namespace L2
open PySem PySem.Spec PyProof.Rows PySem.SetTable
noncomputable def byT (w:World):Bool:=w.params.followText "set-order"
structure ISet (w:World) (h:Heap) (a:uR) (xs:List (Int×Tok)) (o:Obj) (es:Array (Int×Value)) (ep:Nat) (t:SetTable):Prop where
 ob:h.get? a=some o
 ex:o.ExactSet
 da:o.data=.set es ep t
 el:es.toList=xs.map fun x=>(hashInt x.1,Value.int x.1 x.2)
 ok:ST.TOk t (xs.map fun x=>hashInt x.1)
 pl:t.plain=true
 ld:byT w=true \/ t.led=true
end L2
end
section
namespace L2
open PySem PySem.Spec PyProof.Rows PySem.SetTable
end L2
end
section
namespace L2
open PySem PySem.Spec PyProof.Rows PySem.SetTable PySem.W
end L2
end
section
namespace L2
open PySem PySem.Spec PyProof.Rows
section
variable {X:Cx}
def ui:V->Option Int->Option Int->Hp->VK->Prop:=fun x lo hi H Q=>∃ z,x=.str z/\z.length<=wt/\Q (.str (wg z lo hi)) H
theorem part_of {v:Value} {o:Option Int} (h:IsPart v o):∃ q:Option (Int×Tok),v=partValue q/\q.map (·.1)=o:=by
 cases h with
 | none=>exact⟨none,rfl,rfl⟩
 | int n t=>exact⟨some (n,t),rfl,rfl⟩
theorem jf:SlR X ui:=by
 intro CQ s σ H x v vl vu lo hi sl Q I rx hs pl pu h;obtain⟨z,rfl,hz,q⟩:=h;obtain⟨t,rfl⟩:=rx;obtain⟨l,rfl,rfl⟩:=part_of pl;obtain⟨u,rfl,rfl⟩:=part_of pu;refine⟨"str",_,F.slot_str_getitem.lookup,typeIs_str s z t,?_⟩;obtain⟨o,h1,h2,h3⟩:=hs;refine wpAny_getItem_str_slice (l:=l) (u:=u) (st:=none) ⟨o,h1,h2,h3⟩ rfl ?_;unfold sliceMade;split
 ·rename_i c;have c2:((1:Int) == 1 && (wZ (l.map (·.1)) (u.map (·.1)) 1 z.length).length == z.length)=true:=c;refine⟨.str z,H,I,⟨t,rfl⟩,?_⟩;unfold wg at q;rw [CT c2] at q;exact q
 ·rename_i c;have c2:¬ ((1:Int) == 1 && (wZ (l.map (·.1)) (u.map (·.1)) 1 z.length).length == z.length)=true:=c;refine⟨?_,.str _,H,I.tok _,⟨_,rfl⟩,?_⟩
  ·refine wu ?_ hz;show (List.toArray _).size<=_;rw [wo];exact wu (List.length_filterMap_le _ _) (sliceIndices_le _ _ z.length)
  ·unfold wg at q;rw [CS c2] at q;exact q
theorem cG:∀ l:List (Str×Tok),Vals ((l.map (·.1)).map V.str) (strValues l)
 | []=>.nil
 | (x,t) :: l=>.cons ⟨t,rfl⟩ (cG l)
def fV:V->List V->Hp->VK->Prop:=fun x ys H Q=>∃ z c,x=.str z/\ys=[.str ⟨#[c]⟩]/\z.length+2<=wt/\∀ p,H p=none->Q (.ref p) (upd H p (.lst ((wD z ⟨#[c]⟩).map V.str)))
theorem jJ {CQ:List (uR×Obj)} {σ:St} {H:Hp} {s:Shared} {Q:VK} (I:Inv X CQ σ H s) (l:List (Str×Tok)) {ts:List Str} {k:Nat} (e:l.map (·.1)=ts) (hl:ts.length<=wt) (q:∀ p,H p=none->Q (.ref p) (upd H p (.lst (ts.map V.str)))) :
  EP X CQ σ Q (.ref s.heap.objs.size) { s with toks:=k,heap:=s.heap.push { cls:=.type "list",data:=.seq (strValues l).toArray } }:=by
 subst e;refine⟨.ref s.heap.objs.size,_,I.laid (t':=k) (o:=.lst ((l.map (·.1)).map V.str)) (fun b ob q=>uX _ q) (wc _) ?_,rfl,q _ (I.hok.fresh (wc _))⟩;exact⟨by rw [uV];exact hl,_,_,cG l,wk _ rfl⟩
theorem jP:MtR X "str.split" fV:=by
 intro CQ s σ H x xs v us Q I rx rv h;obtain⟨z,c,rfl,rfl,hz,q⟩:=h;obtain⟨t,rfl⟩:=rx;obtain⟨u0,rfl,ru⟩:=rv.one;obtain⟨u,rfl⟩:=ru;have hy:((⟨#[c]⟩:Str).length == 0)=false:=rfl;have le:=split_le z ⟨#[c]⟩;have hx:z.length<=wt:=by omega
 have hT:=typeIs_str s z t;have sp:∀ l:List Str,wD z ⟨#[c]⟩=l->l.length<=wt:=fun l e=>by rw [<-e];omega
 cases h1:(decide (z.length<(⟨#[c]⟩:Str).length) || decide (xP z<xP ⟨#[c]⟩)) with
 | true =>
  have e:wD z ⟨#[c]⟩=[z]:=CT h1;rw [e] at q;exact call_meets Ar hT Ag (xZ _ _) (meets_str_split_cannot_occur z ⟨#[c]⟩ t u h1) (jJ I [(z,t)] rfl (sp _ e) q)
 | false =>
  cases hf:(wG z ⟨#[c]⟩ 0 z.length (z.length+1)).isEmpty with
  | true =>
   have e:wD z ⟨#[c]⟩=[z]:=(CS (ne_true_of_eq_false h1)).trans (CT hf);rw [e] at q;exact call_meets Ar hT Ag (xZ _ _) (meets_str_split_not_found z ⟨#[c]⟩ t u h1 hy hf) (jJ I [(z,t)] rfl (sp _ e) q)
  | false =>
   have e:wD z ⟨#[c]⟩=_:=(CS (ne_true_of_eq_false h1)).trans (CS (ne_true_of_eq_false hf));rw [e] at q;refine call_meets Ar hT Ag (xZ _ _) (meets_str_split_sep z ⟨#[c]⟩ t u h1 hy hf hx (sp _ e)) ?_;show wants _ _ _ _;rw [strsFrom_eq];exact jJ I _ (numbered_texts _ _) (sp _ e) q
def g6:V->List V->Hp->VK->Prop:=fun x ys H Q=>∃ z y,x=.str z/\ys=[.str y]/\Q (.bl (BI z y)) H
theorem i3:MtR X "str.startswith" g6:=by
 intro CQ s σ H x xs v us Q I rx rv h;obtain⟨z,y,rfl,rfl,q⟩:=h;obtain⟨t,rfl⟩:=rx;obtain⟨u0,rfl,u,rfl⟩:=rv.one;exact SC.startswith ⟨.bl _,H,I,rfl,q⟩
def pT:V->List V->Hp->VK->Prop:=fun x ys H Q=>∃ z y i rest,x=.str z/\ys=[.str y]/\wG z y 0 z.length 1=i :: rest/\Q (.int (i:Nat)) H
theorem nV:MtR X "str.index" pT:=by
 intro CQ s σ H x xs v us Q I rx rv h;obtain⟨z,y,i,rest,rfl,rfl,ho,q⟩:=h;obtain⟨t,rfl⟩:=rx;obtain⟨u0,rfl,u,rfl⟩:=rv.one;exact SC.index ho ⟨.int _,H,I.tok _,⟨_,rfl⟩,q⟩
def pU:List V->Hp->VK->Prop:=fun xs H Q=>∃ z n,xs=[.str z]/\Cn z=some n/\z.length<=640/\Q (.int n) H
theorem aF:yA X (.type "int") pU:=by
 intro CQ s σ H xs us Q I r h;obtain⟨z,n,rfl,hn,hl,q⟩:=h;obtain⟨u0,rfl,u,rfl⟩:=r.one;exact PySem.W.KIN.call_text hn hl ⟨.int _,H,I.tok _,⟨_,rfl⟩,q⟩
noncomputable def Its (z:Str):It:=⟨fun i _=>i<z.cps.size,fun i H x H'=>H'=H/\∃ c,z.cps[i]?=some c/\x=.str ⟨#[c]⟩,fun i _=>z.cps.size<=i⟩
theorem nW {P:Program} {w:World} {K:uQ} {tg:Expr} (z:Str) (t:Tok) (it:uR):Turn P w K tg (Its z) [it] it (fun i h=>h.IsStrIter it "str_ascii_iterator" z t i) where
 mem:=u7.mpr rfl
 obj:=fun i h st b hb=>by
  cases u7.mp hb;obtain⟨o,e,c,d⟩:=st;exact⟨o,e,fun v q=>by rw [d] at q;cases q⟩
 keep:=fun i h h' ⟨o,e,r⟩ k=>⟨o,k it (u7.mpr rfl) o e,r⟩
 item:=by
  intro X hP hw hK hc i CQ s σ H E I hf st hg;subst hP hw hK;have hi:i<z.cps.size:=hg;obtain⟨f0,f1,f2,f3,f4,f5⟩:=hf it (u7.mpr rfl);have e0:z.cps[i]?=some z.cps[i]:=by simp [hi]
  refine wpAny_pyNext_ascii_item st (c:=z.cps[i]) e0 fun h' st' sb=>?_;have I1:Inv X CQ σ H { s with heap:=h',toks:=s.toks+1 }:=I.turned (t':=s.toks+1) (fun b o hb q=>sb.extBut b o hb q) f0 f1 f3 f4 f5;obtain⟨o,e,c,d⟩:=id st';exact⟨_,rfl,dH (s:={ s with heap:=h',toks:=s.toks+1 }) e c d (by decide) ⟨.str ⟨#[z.cps[i]]⟩,H,I1,⟨_,rfl⟩,⟨rfl,_,e0,rfl⟩,st',fun b hb=>(hf b hb).1⟩⟩
 done:=by
  intro X hP hw hK hc i CQ s σ H E I hf st hg;subst hP hw hK;have hi:z.cps.size<=i:=hg;obtain⟨f0,f1,f2,f3,f4,f5⟩:=hf it (u7.mpr rfl);exact wpAny_pyNext_ascii_end (I.ok.hd hc) st (by simp [hi]) fun h' eb=>⟨rfl,I.turned (t':=s.toks) (fun b o hb q=>eb b o hb q) f0 f1 f3 f4 f5⟩
 self:=fun _ _ _ _ _ st h=>wpAny_pyIter_striter_ascii st h
theorem nX {P:Program} {w:World} {K:uQ} {tg:Expr} (z:Str) (t:Tok) (it:uR):Turn P w K tg (Its z) [it] it (fun i h=>h.IsStrIter it "str_iterator" z t i) where
 mem:=u7.mpr rfl
 obj:=fun i h st b hb=>by
  cases u7.mp hb;obtain⟨o,e,c,d⟩:=st;exact⟨o,e,fun v q=>by rw [d] at q;cases q⟩
 keep:=fun i h h' ⟨o,e,r⟩ k=>⟨o,k it (u7.mpr rfl) o e,r⟩
 item:=by
  intro X hP hw hK hc i CQ s σ H E I hf st hg;subst hP hw hK;have hi:i<z.cps.size:=hg;obtain⟨f0,f1,f2,f3,f4,f5⟩:=hf it (u7.mpr rfl);have e0:z.cps[i]?=some z.cps[i]:=by simp [hi]
  refine wpAny_pyNext_wide_item st (c:=z.cps[i]) e0 fun h' st' sb=>?_;have I1:Inv X CQ σ H { s with heap:=h',toks:=s.toks+1 }:=I.turned (t':=s.toks+1) (fun b o hb q=>sb.extBut b o hb q) f0 f1 f3 f4 f5;obtain⟨o,e,c,d⟩:=id st';exact⟨_,rfl,dH (s:={ s with heap:=h',toks:=s.toks+1 }) e c d (by decide) ⟨.str ⟨#[z.cps[i]]⟩,H,I1,⟨_,rfl⟩,⟨rfl,_,e0,rfl⟩,st',fun b hb=>(hf b hb).1⟩⟩
 done:=by
  intro X hP hw hK hc i CQ s σ H E I hf st hg;subst hP hw hK;have hi:z.cps.size<=i:=hg;obtain⟨f0,f1,f2,f3,f4,f5⟩:=hf it (u7.mpr rfl);exact wpAny_pyNext_wide_end (I.ok.hd hc) st (by simp [hi]) fun h' eb=>⟨rfl,I.turned (t':=s.toks) (fun b o hb q=>eb b o hb q) f0 f1 f3 f4 f5⟩
 self:=fun _ _ _ _ _ st h=>wpAny_pyIter_striter_wide st h
def uj (tl:TE):TI:=fun σ H R=>tl σ H fun x H1=>∃ z,x=.str z/\R (Its z) H1
theorem fW {tg l:Expr} {tl:TE} (hl:PE X l tl):PI X tg l (uj tl):=by
 intro CQ s σ H R I h;refine thn (hl CQ s σ H _ I h) fun v s1 ⟨x,H1,I1,r1,z,e,q⟩=>?_;subst e;obtain⟨t,rfl⟩:=r1;have fp:∀ b∈[s1.heap.objs.size],vA X CQ H1 b:=fun b hb=>by
  cases u7.mp hb;exact I1.fpOk (wc _) (I1.hok.fresh (wc _))
 cases ha:z.cps.all (·<128) with
 | false=>exact wpAny_pyIter_wide ha ⟨s1.heap.objs.size,[s1.heap.objs.size],_,_,H1,rfl,I1.kept (t':=s1.toks) fun b o e=>uX _ e,nX z t _,⟨_,wk _ rfl,rfl,rfl⟩,fp,q⟩
 | true=>exact wpAny_pyIter_ascii ha ⟨s1.heap.objs.size,[s1.heap.objs.size],_,_,H1,rfl,I1.kept (t':=s1.toks) fun b o e=>uX _ e,nW z t _,⟨_,wk _ rfl,rfl,rfl⟩,fp,q⟩
end
section
variable {K:uQ} {f:Fx} {ρ:zq} {te ta tb:TE} {P:PyData->Prop}
theorem yM (h:PEd K f ta ρ fun x=>∃ i,x=.str i/\PEd K f tb ρ fun y=>∃ j,y=.str j/\i.length+j.length<=wt/\P (.str (i++j))) :
  PEd K f (tOp (fun x y H Q=>∃ i j,x=.str i/\y=.str j/\i.length+j.length<=wt/\Q (.str (i++j)) H) ta tb) ρ P :=
 bH (h.imp fun x ⟨i,ex,h2⟩=>h2.imp fun y ⟨j,ey,hl,p⟩ v w H Q fo rx ry q=>by
  subst ex ey;exact⟨i,j,zD.mp rx,zD.mp ry,hl,q _ _ H (.refl fo) (zD.mpr rfl) p⟩)
theorem lY (h:PEd K f ta ρ fun x=>∃ z,x=.str z/\PEd K f tb ρ fun y=>∃ i c,y=.int i/\z.length<=wt/\atI z.cps.toList i=some c/\P (.str ⟨#[c]⟩)):PEd K f (tOp tV ta tb) ρ P :=
 bH (h.imp fun x ⟨z,ex,h2⟩=>h2.imp fun y ⟨i,c,ey,hl,hc,p⟩ v w H Q fo rx ry q=>by
  subst ex ey;exact⟨z,i,c,zD.mp rx,zp.mp ry,hl,hc,q _ _ H (.refl fo) (zD.mpr rfl) p⟩)
theorem uk (h:PEd K f ta ρ fun x=>∃ i,x=.str i/\PEd K f tb ρ fun y=>∃ j,y=.str j/\P (.bool (!(wG j i 0 j.length 1).isEmpty))) :
  PEd K f (tOp (fun x y H Q=>∃ i j,x=.str i/\y=.str j/\Q (.bl (!(wG j i 0 j.length 1).isEmpty)) H) ta tb) ρ P :=
 bH (h.imp fun x ⟨i,ex,h2⟩=>h2.imp fun y ⟨j,ey,p⟩ v w H Q fo rx ry q=>by
  subst ex ey;exact⟨i,j,zD.mp rx,zD.mp ry,q _ _ H (.refl fo) (zF.mpr rfl) p⟩)
theorem lZ (h:PEd K f ta ρ fun x=>∃ i,x=.str i/\PEd K f tb ρ fun y=>∃ j,y=.str j/\P (.bool (!(!(wG j i 0 j.length 1).isEmpty)))) :
  PEd K f (tOp (fun x y H Q=>∃ i j,x=.str i/\y=.str j/\Q (.bl (!(!(wG j i 0 j.length 1).isEmpty))) H) ta tb) ρ P :=
 bH (h.imp fun x ⟨i,ex,h2⟩=>h2.imp fun y ⟨j,ey,p⟩ v w H Q fo rx ry q=>by
  subst ex ey;exact⟨i,j,zD.mp rx,zD.mp ry,q _ _ H (.refl fo) (zF.mpr rfl) p⟩)
theorem aG (h:PEd K f te ρ fun x=>∃ z,x=.str z/\z.length<=wt/\P (.int z.length)):PEd K f (tCB (fun xs H Q=>∃ z,xs=[.str z]/\z.length<=wt/\Q (.int z.length) H) (z9 te jl)) ρ P:=fun σ H Q e q =>
 h σ H _ e fun x v H1 g1 r1 ⟨z,ex,hl,p⟩=>by
  subst ex;rw [zD.mp r1];exact⟨z,rfl,hl,q _ _ H1 g1 (zp.mpr rfl) p⟩
theorem l3 (h:PEd K f te ρ fun x=>∃ z n,x=.str z/\Cn z=some n/\z.length<=640/\P (.int n)):PEd K f (tCB pU (z9 te jl)) ρ P:=fun σ H Q e q =>
 h σ H _ e fun x v H1 g1 r1 ⟨z,n,ex,hn,hl,p⟩=>by
  subst ex;rw [zD.mp r1];exact⟨z,n,rfl,hn,hl,q _ _ H1 g1 (zp.mpr rfl) p⟩
theorem jg {tl th:TO} (h:PEd K f te ρ fun x=>∃ z,x=.str z/\z.length<=wt/\POd K f tl ρ fun lo=>POd K f th ρ fun hi=>P (.str (wg z lo hi))):PEd K f (tSl ui te tl th) ρ P:=fun σ H Q e q =>
 h σ H _ e fun x v H1 g1 r1 ⟨z,ex,hl,h2⟩=>h2 σ H1 _ (e.mono g1) fun lo H2 g2 h3=>h3 σ H2 _ ((e.mono g1).mono g2) fun hi H3 g3 p=>by
  subst ex;exact⟨z,zD.mp r1,hl,q _ _ H3 (g1.trans (g2.trans g3)) (zD.mpr rfl) p⟩
noncomputable def vJ (z:Str):List PyData:=z.cps.toList.map fun c=>.str ⟨#[c]⟩
theorem l4 {R:List PyData->Prop} (h:PEd K f te ρ fun x=>∃ z,x=.str z/\R (vJ z)):PId K f (uj te) ρ R:=fun σ H C e q=>h σ H _ e fun x v H1 g1 r1 ⟨z,ex,p⟩=>by
 subst ex;have hv:=zD.mp r1;refine⟨z,hv,q _ _ H1 g1 ⟨fun f' H' i d fo sm hd=>?_,fun f' H' _ sm=>?_⟩ p⟩
 ·unfold vJ at hd;rw [wj] at hd;cases hc:z.cps.toList[i]? with
  | none=>rw [hc] at hd;cases hd
  | some c =>
   rw [hc] at hd;cases hd;have hi:i<z.cps.toList.length:=(uY.mp hc).1;have hc2:z.cps[i]?=some c:=by rw [<-hc];simp
   refine⟨show i<z.cps.size by simpa using hi,fun y H3 hy=>?_⟩;obtain⟨rfl,c',e1,rfl⟩:=hy;rw [hc2] at e1;cases e1;exact⟨.refl fo,zD.mpr rfl⟩
 ·show z.cps.size<=(vJ z).length;unfold vJ;rw [uV];simp
theorem aH {H:Hp}:∀ ts:List Str,Reps K H (ts.map .str) (ts.map V.str)
 | []=>zP.mpr rfl
 | t :: ts=>zy.mpr ⟨_,_,rfl,zD.mpr rfl,aH ts⟩
theorem qx {c:Nat} {P:List PyData->Prop} (h:PEd K f te ρ fun x=>∃ z,x=.str z/\z.length+2<=wt/\P ((wD z ⟨#[c]⟩).map .str)):PEdO K f (tBM K "str" fV te (z9 (tC (.str ⟨#[c]⟩)) jl)) ρ P:=fun σ H Q e q =>
 h σ H _ e fun x v H1 g1 r1 ⟨z,ex,hl,p⟩=>by
  subst ex;have hv:=zD.mp r1;subst hv;refine⟨rfl,z,c,rfl,rfl,hl,fun D hn=>?_⟩;have hD:H D=none:=eB e.fd g1 hn;exact q _ D _ _ (g1.trans (.of_same (yd hn _) g1.ok)) hD zr (aH _) p
theorem l5 {y:Str} (h:PEd K f te ρ fun x=>∃ z,x=.str z/\P (.bool (BI z y))):PEd K f (tBM K "str" g6 te (z9 (tC (.str y)) jl)) ρ P:=fun σ H Q e q =>
 h σ H _ e fun x v H1 g1 r1 ⟨z,ex,p⟩=>by
  subst ex;have hv:=zD.mp r1;subst hv;exact⟨rfl,z,y,rfl,rfl,q _ _ H1 g1 (zF.mpr rfl) p⟩
theorem sH {z:Str} (h:PEd K f te ρ fun x=>∃ y i rest,x=.str y/\wG z y 0 z.length 1=i :: rest/\P (.int (i:Nat))):PEd K f (tBM K "str" pT (tC (.str z)) (z9 te jl)) ρ P:=fun σ H Q e q=>by
 refine⟨rfl,h σ H _ e fun x v H1 g1 r1 ⟨y,i,rest,ex,ho,p⟩=>?_⟩;subst ex;have hv:=zD.mp r1;subst hv;exact⟨z,y,i,rest,rfl,rfl,ho,q _ _ H1 g1 (zp.mpr rfl) p⟩
end
noncomputable def ba (z:Str) (n:Int):Str:=if n<1 then Be else if (n == 1 || z.length == 0)=true then z else ⟨(xH n.toNat z.cps).foldl (·++·) #[]⟩
theorem bR (a:Array Nat):∀ (m:Nat) (acc:Array Nat),((xH m a).foldl (·++·) acc).size=acc.size+m * a.size/\∀ c∈((xH m a).foldl (·++·) acc).toList,c∈acc.toList \/ c∈a.toList
 | 0,acc=>⟨by simp,fun c h=>.inl h⟩
 | m+1,acc=>by
  obtain⟨h1,h2⟩:=bR a m (acc++a);rw [List.replicate_succ,List.foldl_cons];refine⟨by rw [h1,Array.size_append,CP];omega,fun c hc=>?_⟩;rcases h2 c hc with h | h
  ·rw [Cz,wQ] at h;exact h
  ·exact .inr h
theorem bS {z:Str} {n:Int} (h:0<=n):(ba z n).length=z.length * n.toNat:=by
 unfold ba;split
 ·rename_i h1;have:n=0:=by omega
  subst this;show 0=z.length * 0;rfl
 ·split
  ·rename_i h1 h2;rcases Bool.or_eq_true_iff.mp h2 with h3 | h3
   ·have:n=1:=by simpa using h3
    subst this;show z.length=z.length * 1;omega
   ·have:z.length=0:=by simpa using h3
    rw [this,Nat.zero_mul]
  ·show Array.size _=z.cps.size * n.toNat;rw [(bR z.cps n.toNat #[]).1,Nat.mul_comm];simp
theorem eC {z:Str} {n:Int} {c:Nat} (h:c∈(ba z n).cps.toList):c∈z.cps.toList:=by
 unfold ba at h;split at h
 ·cases h
 ·split at h
  ·exact h
  ·rcases (bR z.cps n.toNat #[]).2 c h with h | h
   ·cases h
   ·exact h
def pV:R2:=fun x y H Q=>∃ z n,x=.str z/\y=.int n/\0<=n/\n<2 ^ 20/\z.length<=1/\Q (.str (ba z n)) H
theorem de {X:Cx}:OpR X (binaryOp .Mult) pV:=by
 intro CQ s σ H x y v u Q I rx ry h;obtain⟨z,n,rfl,rfl,h0,h1,hz,q⟩:=h;obtain⟨t,rfl⟩:=rx;obtain⟨t',rfl⟩:=ry;have hl:=bS (z:=z) h0;refine PySem.P.mul_str ?_ (fun a b c=>?_) (fun a b=>?_) ?_
 ·rw [decide_eq_false (show ¬ n < -(2 ^ 63:Int) by omega),decide_eq_false (show ¬ n >= 2 ^ 63 by omega)];rfl
 ·have:(1:Int)<=(2 ^ 63 - 1) / n:=(Int.le_ediv_iff_mul_le (by omega)).mpr (by omega);omega
 ·unfold CA;refine decide_eq_false ?_;have:z.length * n.toNat<=1 * n.toNat:=Bs _ hz;rw [sizeLine_eq];omega
 ·unfold ba at q hl;split
  ·rename_i c;rw [CT c] at q;exact⟨by decide,.str _,H,I.tok _,⟨_,rfl⟩,q⟩
  ·rename_i c;rw [CS c] at q hl;split
   ·rename_i c2;rw [CT c2] at q;exact⟨.str z,H,I,⟨t,rfl⟩,q⟩
   ·rename_i c2;rw [CS c2] at q hl;refine⟨?_,.str _,H,I.tok _,⟨_,rfl⟩,q⟩;show Str.length _<=_;rw [hl,sizeLine_eq];have:z.length * n.toNat<=1 * n.toNat:=Bs _ hz;omega
section
variable {K:uQ} {f:Fx} {ρ:zq} {te ta tb:TE} {P:PyData->Prop}
theorem fY (h:PEd K f ta ρ fun x=>∃ z,x=.str z/\PEd K f tb ρ fun y=>∃ n,y=.int n/\0<=n/\n<2 ^ 20/\z.length<=1/\P (.str (ba z n))):PEd K f (tOp pV ta tb) ρ P :=
 bH (h.imp fun x ⟨z,ex,h2⟩=>h2.imp fun y ⟨n,ey,h0,h1,hz,p⟩ v w H Q fo rx ry q=>by
  subst ex ey;exact⟨z,n,zD.mp rx,zp.mp ry,h0,h1,hz,q _ _ H (.refl fo) (zD.mpr rfl) p⟩)
theorem v5 (x y:Str):xu (.str x) (.str y)=decide (x=y):=by
 show (x == y)=_;rw [AD,beq_iff_eq,decide_eq_true_eq]
end
theorem l6 {X:Cx} {x z:Str} {t:Tok} {pos:Pos} (hg:Gl X x) (hm:X.mg x=some (.str z t)) (hd:(x == ("__debug__":Str))=false:=by decide):PE X (.Name x pos) (tC (.str z)):=yr hg hm ⟨t,rfl⟩ hd
def v7 (w:World) (K:uQ) (f:Fx) (Ds:List uR) (E:XK) (ts:TS) (ρ:zq) (cs:List OC) (O:MEnds) (Z:Value->XD->Prop):Prop:=Sep f Ds->∀ (σ:St) (H H2:Hp) (N:Ends),CM w K f Ds H2 ρ cs σ H ->
 (∀ ρ' cs' σ' H',CM w K f Ds H2 ρ' cs' σ' H'->O.nx ρ' cs'->N.nx σ' H')->(∀ d v ρ' cs' σ' H',CM w K f Ds H2 ρ' cs' σ' H'->Rep K (hide H' f) d v->O.rt d->N.rt v H') ->
 (∀ ρ' cs' σ' H',CM w K f Ds H2 ρ' cs' σ' H'->O.bk ρ' cs'->N.bk σ' H')->(∀ ρ' cs' σ' H',CM w K f Ds H2 ρ' cs' σ' H'->O.ct ρ' cs'->N.ct σ' H') ->
 (∀ C o x ρ' cs' σ' H',CM w K f Ds H2 ρ' cs' σ' H'->FieldIs K (hide H' f) o x->Z C x->E C o H')->ts N σ H
section
variable {w:World} {K:uQ} {f:Fx} {Ds:List uR} {E:XK} {ρ:zq} {cs:List OC} {ts tu:TS} {tt:TT} {te:TE} {wi:TI} {g:TG} {O:MEnds} {Z:Value->XD->Prop} {i j:Nat}
theorem nY {D:DEnds} (h:v7 w K f [] E ts ρ [] { nx:=fun ρ' _=>D.nx ρ',rt:=D.rt,bk:=fun ρ' _=>D.bk ρ',ct:=fun ρ' _=>D.ct ρ' } Z):PSf K f E ts ρ D Z:=fun σ H N e n r b k z=>by
 have gg:∀ {ρ':zq} {cs':List OC} {σ':St} {H':Hp},CM w K f [] H ρ' cs' σ' H'->Goes f H H':=fun x=>⟨x.sm,x.env.fd,x.kp⟩;refine h ⟨List.nodup_nil,(fun _ z=>nomatch z),(fun _ z=>nomatch z)⟩ σ H H N ⟨e,Same.refl _,fun _ _=>rfl,rfl,(fun i D c z=>nomatch z)⟩ ?_ ?_ ?_ ?_ ?_
 ·exact fun ρ' cs' σ' H' x p=>n ρ' σ' H' (gg x) x.env p
 ·exact fun d v ρ' cs' σ' H' x r' p=>r d v H' (gg x) r' p
 ·exact fun ρ' cs' σ' H' x p=>b ρ' σ' H' (gg x) x.env p
 ·exact fun ρ' cs' σ' H' x p=>k ρ' σ' H' (gg x) x.env p
 ·exact fun C o x ρ' cs' σ' H' y fi p=>z C o x H' (gg y) fi p
theorem sI (h:PSm w K f Ds ts ρ cs O):v7 w K f Ds E ts ρ cs O Z:=fun se σ H H2 N x n r b k _=>h se σ H H2 N x n r b k
theorem nZ (h:PSf K (f.withs Ds) E ts ρ { nx:=fun ρ'=>O.nx ρ' cs,rt:=O.rt,bk:=fun ρ'=>O.bk ρ' cs,ct:=fun ρ'=>O.ct ρ' cs } Z):v7 w K f Ds E ts ρ cs O Z:=fun se σ H H2 N x n r b k z=>by
 refine h σ H N x.env ?_ ?_ ?_ ?_ ?_
 ·exact fun ρ' σ' H' g' e' p=>n ρ' cs σ' H' (x.go g' e') p
 ·exact fun d v H' g' r' p=>r d v ρ cs σ H' (x.go g' (x.env.mono g')) (Rep.mono yD d v r') p
 ·exact fun ρ' σ' H' g' e' p=>b ρ' cs σ' H' (x.go g' e') p
 ·exact fun ρ' σ' H' g' e' p=>k ρ' cs σ' H' (x.go g' e') p
 ·exact fun C o y H' g' fi p=>z C o y ρ cs σ H' (x.go g' (x.env.mono g')) (FieldIs.mono yD fi) p
theorem fZ (h:v7 w K f Ds E ts ρ cs { O with nx:=fun ρ' cs'=>v7 w K f Ds E tu ρ' cs' O Z } Z):v7 w K f Ds E (aY ts tu) ρ cs O Z:=fun se σ H H2 N x n r b k z =>
 h se σ H H2 _ x (fun ρ' cs' σ' H' x' p=>p se σ' H' H2 N x' n r b k z) r b k z
theorem um (h:PTm w K f Ds tt ρ cs fun b=>if b=true then v7 w K f Ds E ts ρ cs O Z else v7 w K f Ds E tu ρ cs O Z):v7 w K f Ds E (eX tt ts tu) ρ cs O Z:=fun se σ H H2 N x n r b k z =>
 h se σ H H2 _ x fun q H1 g1 p=>by
  have x1:=x.go g1 (x.env.mono g1);cases q with
  | true=>rw [CT rfl] at p ⊢;exact p se σ H1 H2 N x1 n r b k z
  | false=>rw [CS uT] at p ⊢;exact p se σ H1 H2 N x1 n r b k z
theorem sJ (h:PId K (f.withs Ds) wi ρ fun ds=>∃ J:Nat->zq->List OC->Prop,J 0 ρ cs /\
   (∀ (i:Nat) d ρ' cs',ds[i]?=some d->J i ρ' cs'->PGd K (f.withs Ds) g d ρ' fun ρ2=>v7 w K f Ds E ts ρ2 cs' { O with nx:=J (i+1),ct:=J (i+1),bk:=O.nx } Z)/\∀ ρ' cs',J ds.length ρ' cs'->O.nx ρ' cs') :
  v7 w K f Ds E (iq wi g ts) ρ cs O Z:=fun se σ H H2 N x n r b k z=>h σ H _ x.env fun ds J H1 g1 it ⟨Jv,j0,js,jd⟩=>by
 have x1:=x.go g1 (x.env.mono g1);refine⟨fun i m σ' H'=>∃ ρ' cs',CM w K f Ds H2 ρ' cs' σ' H'/\Same (hide H1 (f.withs Ds)) (hide H' (f.withs Ds))/\Jv i ρ' cs'/\m+i=ds.length,⟨ds.length,ρ,cs,x1,Same.refl _,j0,rfl⟩,?_⟩;rintro i m σ' H' ⟨ρ',cs',x',sm',p,hm⟩;rcases Nat.lt_or_ge i ds.length with hi | hi
 ·obtain⟨hgo,hy⟩:=it.go (f.withs Ds) H' i _ x'.env.fd sm' (uZ hi);refine .inr ⟨hgo,fun σ2 H3=>∃ ρ2 cs2,CM w K f Ds H2 ρ2 cs2 σ2 H3/\Same (hide H1 (f.withs Ds)) (hide H3 (f.withs Ds))/\Jv (i+1) ρ2 cs2,fun σ2 H3 ⟨ρ2,cs2,e2,g2,p2⟩=>⟨m - 1,by omega,ρ2,cs2,e2,g2,p2,by omega⟩,fun v H3 hx=>?_⟩;obtain⟨g3,r3⟩:=hy v H3 hx;have x3:=x'.go g3 (x'.env.mono g3);refine js i _ ρ' cs' (uZ hi) p σ' H3 v _ x3.env r3 fun ρ2 σ2 H4 g4 e4 p4=>?_;have x4:=x3.go g4 e4;have sm4:=(sm'.trans g3.sm).trans g4.sm;refine p4 se σ2 H4 H4 _ x4.self ?_ ?_ ?_ ?_ ?_
  ·exact fun ρ5 cs5 σ5 H5 x5 p5=>⟨ρ5,cs5,x4.trans x5,sm4.trans x5.sm,p5⟩
  ·exact fun d v ρ5 cs5 σ5 H5 x5 r5 p5=>r d v ρ5 cs5 σ5 H5 (x4.trans x5) r5 p5
  ·exact fun ρ5 cs5 σ5 H5 x5 p5=>n ρ5 cs5 σ5 H5 (x4.trans x5) p5
  ·exact fun ρ5 cs5 σ5 H5 x5 p5=>⟨ρ5,cs5,x4.trans x5,sm4.trans x5.sm,p5⟩
  ·exact fun C o y ρ5 cs5 σ5 H5 x5 fi p5=>z C o y ρ5 cs5 σ5 H5 (x4.trans x5) fi p5
 ·have ei:i=ds.length:=by omega
  subst ei;exact .inl ⟨it.st (f.withs Ds) H' x'.env.fd sm',n ρ' cs' σ' H' x' (jd ρ' cs' p)⟩
theorem sL (h:sd w K (f.withs Ds) te ρ fun c=>i<ρ.length/\∀ D,v7 w K f (Ds++[D]) E ts (ρ.set i (some (.own (f.M.length+Ds.length)))) (cs++[c]) { nx:=fun ρ' cs'=>O.nx (ρ'.map (jj (f.M.length+Ds.length))) (cs'.take Ds.length),rt:=O.rt,bk:=fun ρ' cs'=>O.bk (ρ'.map (jj (f.M.length+Ds.length))) (cs'.take Ds.length),ct:=fun ρ' cs'=>O.ct (ρ'.map (jj (f.M.length+Ds.length))) (cs'.take Ds.length) } Z) :
  v7 w K f Ds E (aY (vt te (qQ i)) ts) ρ cs O Z:=fun se σ H H2 N x n r b k z =>
 h σ H _ x.env fun c D H1 g1 hn ho ⟨hi,p⟩=>by
  refine p D (se.more x.env.fd hn) _ H1 H1 N (x.more g1 hn ho hi) ?_ ?_ ?_ ?_ ?_
  ·exact fun ρ' cs' σ' H' y q=>n _ _ σ' H' (x.less g1 hn y) q
  ·exact fun d v ρ' cs' σ' H' y r' q=>r d v _ _ σ' H' (x.less g1 hn y) r' q
  ·exact fun ρ' cs' σ' H' y q=>b _ _ σ' H' (x.less g1 hn y) q
  ·exact fun ρ' cs' σ' H' y q=>k _ _ σ' H' (x.less g1 hn y) q
  ·exact fun C o a ρ' cs' σ' H' y fi q=>z C o a _ _ σ' H' (x.less g1 hn y) fi q
theorem n0 (h:PSf K f E ts (ρ.map (freed f.M.length cs)) { nx:=fun _=>False,rt:=O.rt } Z):v7 w K f Ds E ts ρ cs O Z:=fun se σ H H2 N x n r b k z=>by
 refine h σ H N (x.free se) (fun _ _ _ _ _ q=>q.elim) ?_ (fun _ _ _ _ _ q=>q.elim) (fun _ _ _ _ _ q=>q.elim) ?_
 ·exact fun d v H' g' r' p=>r d v ρ cs σ H' (x.goF se g') r' p
 ·exact fun C o y H' g' fi p=>z C o y ρ cs σ H' (x.goF se g') fi p
end
theorem i4 {X:Cx} {k:Nat} {x:Str} {ps:List Str} {sp:Sp} {p pos:Pos} (G:FnIn X.prog X.w X.K X.mg X.base k x ps sp) (hr:Room k X.A) (hg:Gl X x) (hdb:(x == ("__debug__":Str))=false:=by decide):PE X (.Call (.Name x p) [] [] pos) (qG sp [] E0 jl):=by
 obtain⟨f,fd,a,b,c,d⟩:=G.ex;exact kT a hr hg b c d .nil dO hdb
theorem l7 {w:World} {K:uQ} {f:Fx} {Ds:List uR} {ρ:zq} {cs:List OC} {te:TE} {P:PyData->Prop} (h:PEd K f te (ρ.map (freed f.M.length cs)) fun d=>∃ z,d=.str z/\P (.str z)):PEm w K f Ds te ρ cs P:=fun se σ H H2 Q x q =>
 h σ H Q (x.free se) fun d v H' g' r' ⟨z,ed,p⟩=>by
  subst ed;exact q (.str z) v H' (iP se x g') (zD.mpr (zD.mp r')) p
structure TV (K:uQ) (f:Fx) (H0:Hp) (a:uR) (as:List uR) (ρ:zq) (rows:List (List Int)) (σ:St) (H:Hp):Prop where
 env:EnvOk K (f.withs (a :: as)) ρ σ H
 go:Goes f H0 H
 na:H0 a=none
 nas:∀ x∈as,H0 x=none
 tab:TabAt H a as rows
end L2
end
section
namespace L2
open PySem PySem.Spec PyProof.Rows
end L2
end
section
namespace L2
open PySem PySem.Spec PyProof.Rows
def Reads (P:Program) (w:World) (env:Env) (h:Heap) (e:Expr) (R:Value->Prop):Prop :=
 ∀ (A:Around) (s:Shared) (Q:Value->Shared->Prop) (E:Value->Shared->Prop),s.heap=h->(∀ v tk,R v->Q v { s with toks:=tk })->wb (model P w) A (eval e env) Q E s
end L2
end
section
namespace L2
open PySem PySem.Spec PyProof.Rows
theorem bT {β:Type}:∀ {l:List (Nat×β)} {x:Nat} {y:β},l.lookup x=some y->(x,y)∈l
 | [],_,_,h=>by cases h
 | (a,b) :: r,x,y,h=>by
  rw [wN] at h;cases e:x == a with
  | true=>rw [e] at h;cases h;rw [beq_iff_eq.mp e];exact u3
  | false=>rw [e] at h;exact uW _ (bT h)
noncomputable def v8 (K:uQ) (ts:List (uR×Str)):Bool :=
 ts.all (fun p=>(K.lookup p.1).isNone && K.any fun c=>AS K c.1 p.1) && K.all fun x=>match x.2.data with
  | .fields vs=>(match (vs[1]?:Option Value),(vs[11]?:Option Value) with
   | some (.str q _),some (.ref P)=>!cO.contains q || decide (ts.lookup P=some (lamQ q))
   | _,_=>true)
  | _=>true
theorem sM {K:uQ} {h:Heap} (X:K.In h) {ts:List (uR×Str)} (hB:v8 K ts=true) {c P:uR} {q:Str} (hq:q∈cO) (h1:AS K c P=true) (h2:xc K (.ref c) q=true):ts.lookup P=some (lamQ q):=by
 unfold v8 at hB;rw [wB] at hB;obtain⟨c2,oc,us,tq,z1,z2,z3,z4⟩:=Bc X h2;cases z1;unfold AS at h1;split at h1
 ·rename_i vs _ hk;have hm:=w4.mp hB.2 _ (bT hk);dsimp only at hm;have z5:=X _ _ hk;rw [z2] at z5;cases z5;cases z3;have e11:(us[11]?:Option Value)=some (.ref P):=by
   simp only [wB] at h1;obtain⟨⟨⟨⟨⟨e1,_⟩,_⟩,_⟩,_⟩,_⟩:=h1;split at e1
   ·rename_i P' h11;rw [h11,beq_iff_eq.mp e1]
   ·cases e1
  rw [z4,e11] at hm;simp only [A9,AI] at hm;rcases hm with z | z
  ·have:=List.contains_iff_mem.mpr hq;rw [this] at z;cases z
  ·exact of_decide_eq_true z
 ·cases h1
noncomputable def cH (ts:List (uR×Str)) (tr:Bool) (a:uR) (o:Obj) (xs:List V):Hp:=fun b=>match ts.lookup b with
 | some q=>some (.tbl q)
 | none=>if tr=true/\b=a then some (.frz o (.lst xs)) else none
theorem i5 {ts:List (uR×Str)} {tr:Bool} {a b:uR} {o:Obj} {xs:List V} {q:Str} (h:ts.lookup b=some q):cH ts tr a o xs b=some (.tbl q):=by unfold cH;rw [h]
theorem l8 {ts:List (uR×Str)} {tr:Bool} {a b:uR} {o:Obj} {xs:List V} {u:HO} (h:cH ts tr a o xs b=some u):(∃ q,ts.lookup b=some q/\u=.tbl q) \/ (tr=true/\b=a/\u=.frz o (.lst xs)):=by
 unfold cH at h;cases e:ts.lookup b with
 | some q=>rw [e] at h;cases h;exact .inl ⟨q,rfl,rfl⟩
 | none =>
  rw [e] at h;dsimp only at h;split at h
  ·rename_i z;cases h;exact .inr ⟨z.1,z.2,rfl⟩
  ·cases h
theorem i6 {P:Program} {w:World} {K:uQ} {mg mb:Str->Option Value} {CX:CXT} {k:Nat} {fa a:uR} {fd:FuncData} {x:Str} {sp:Sp} {s₁:Shared} {vs:List Value} {ns:List Int} {ts:List (uR×Str)}
  (hB:v8 K ts=true) (hts:∀ p∈ts,s₁.heap.get? p.1=some (Bf #[])) (hbm:∃ b o,mg "__builtins__"=some (.ref b)/\b≠builtinsNs/\s₁.heap.get? b=some o/\o.cls=.type "module"/\o.dict=some builtinsNs/\o.data=.plain)
  (KX:K.In s₁.heap) (hns:s₁.heap.Ns u9 mg) (hb:s₁.heap.Ns builtinsNs mb) (hbb:∀ x:Str,x ≠ "__name__"->mb x=bootBuiltins x) (hlim:s₁.heap.NoLimit) (hg:s₁.gens=#[])
  (ha:s₁.heap.get? a=some { cls:=.type "list",data:=.seq vs.toArray }) (hi:IntsAre vs ns) (hl:ns.length<=wt) (hr:Room k callerA)
  (F:∀ base:Heap,K.In base->base.Ns u9 mg->FnOk P w K mg base CX k fa fd [x] sp) (hbind:∀ (s:Shared) (u:Value),BindsTo s fd ⟨[u],[]⟩ [(x,u)])
  (hsp:∀ H:Hp,SqL K H a (ns.map V.int)->sp [.ref a] H (fun v _=>v=.bl true) fun _ _ _=>False)
  (hCX:∀ H e s',CX [] H s₁ (fun _ _ _=>False) e s'->False) :
  codeAny (model P w) callerA (.call (.ref fa) ⟨[.ref a],[]⟩) (fun r s'=>r=.ok (.ret (.bool true))/\OldK s₁.heap s'.heap/\s'.os=s₁.os/\AllBare s'.gens) s₁:=by
 have rv:=cy hi;have lenV:=hi.length;have hB1:∀ p∈ts,K.lookup p.1=none/\∃ c,AS K c p.1=true:=fun p hp=>by
  have h1:=w4.mp (wB _ _▸hB).1 p hp;rw [wB] at h1;obtain⟨c,_,hc⟩:=BS.mp h1.2;exact⟨A1.mp h1.1,c.1,hc⟩
 obtain⟨tr,htr⟩:∃ tr:Bool,tr=(K.lookup a).isNone:=⟨_,rfl⟩;generalize hH:cH ts tr a { cls:=.type "list",data:=.seq vs.toArray } (ns.map V.int)=H;have ofH:∀ {b u},H b=some u->(∃ q,(b,q)∈ts/\u=.tbl q/\s₁.heap.get? b=some (Bf #[])) \/ (tr=true/\b=a/\u=.frz { cls:=.type "list",data:=.seq vs.toArray } (.lst (ns.map V.int))):=fun {b u} e=>by
  rw [<-hH] at e;rcases l8 e with⟨q,e1,e2⟩ | z
  ·exact .inl ⟨q,bT e1,e2,hts _ (bT e1)⟩
  ·exact .inr z
 have ataT:ts.lookup a=none:=by
  cases e:ts.lookup a with
  | none=>rfl
  | some q=>have:=hts _ (bT e);rw [ha] at this;cases this
 have hok:HOk P w H s₁.heap:=fun b u e=>by
  rcases ofH e with⟨q,e1,rfl,e3⟩ | ⟨e1,rfl,rfl⟩
  ·exact⟨#[],e3,trivial,fun pos cv z=>by cases z⟩
  ·exact⟨ha,by rw [uV];exact hl,vs,_,rv,ha⟩
 have free:∀ {b:uR} {o:Obj},s₁.heap.get? b=some o->(∀ vs,o.data≠.fields vs)->(∀ vs n,o.data≠.seq vs n)->H b=none:=fun {b o} e d1 d2=>by
  cases q:H b with
  | none=>rfl
  | some u =>
   rcases ofH q with⟨_,_,_,e3⟩ | ⟨_,rfl,_⟩
   ·rw [e] at e3;cases e3;exact absurd rfl (d1 _)
   ·rw [ha] at e;cases e;exact absurd rfl (d2 _ _)
 have nsK:∀ {b:uR} {m:Str->Option Value},s₁.heap.Ns b m->(dF s₁.heap H).Ns b m:=fun {b m} ⟨o,es,ep,e,d,r⟩=>⟨o,es,ep,br e (free e (fun _ z=>by rw [d] at z;cases z) fun _ _ z=>by rw [d] at z;cases z),d,r⟩;have hKb:K.In (dF s₁.heap H):=fun b o e=>br (KX b o e) (by
  cases q:H b with
  | none=>rfl
  | some u =>
   rcases ofH q with⟨_,e1,_,_⟩ | ⟨e1,rfl,_⟩
   ·rw [(hB1 _ e1).1] at e;cases e
   ·rw [htr,A1] at e1;rw [e1] at e;cases e)
 have hM:Mod K mg (dF s₁.heap H):=⟨hKb,nsK hns,⟨mb,nsK hb,hbb⟩,let⟨mc,h1,h2⟩:=hlim;⟨mc,nsK h1,h2⟩,by
  obtain⟨b,o,h1,h2,h3,h4,h5,h6⟩:=hbm;exact⟨b,o,h1,h2,br h3 (free h3 (fun _ z=>by rw [h6] at z;cases z) fun _ _ z=>by rw [h6] at z;cases z),h4,h5,h6⟩⟩
 have tabs:TabsOk K H:=fun c P q hq h1 h2=>by rw [<-hH];exact i5 (sM KX hB hq h1 h2)
 have e0:Env0 P w K mg (dF s₁.heap H) callerA [] s₁ H:=⟨rfl,hM,fun b o e=>m9 e,Af (ik _ _),trivial,(fun b z=>by cases z),tabs,hok,.of_eq hg⟩;have hS:SqL K H a (ns.map V.int):=by
  cases hk:K.lookup a with
  | some o =>
   have e:=KX a o hk;rw [ha] at e;cases e;exact .inr ⟨_,vs.toArray,_,hk,rfl,rfl,rfl,by rw [wo,lenV];exact hl,by simpa using rv⟩
  | none =>
   refine .inl (.inr ⟨{ cls:=.type "list",data:=.seq vs.toArray },?_⟩);rw [<-hH];unfold cH;rw [ataT];exact CT ⟨by rw [htr,hk];rfl,rfl⟩
 refine A0 ((F _ hKb (nsK hns)).run callerA [] s₁ H ⟨[.ref a],[]⟩ [.ref a] [.ref a] _ _ hr e0 (hbind s₁ (.ref a)) (.cons rfl .nil) (hsp H hS)) fun r s' h=>?_;cases r with
 | error e=>exact (hCX H e s' h).elim
 | ok fl =>
  cases fl with
  | next=>exact wR h
  | brk=>exact wR h
  | cont=>exact wR h
  | ret u =>
   obtain⟨v,H',os,bare,un,hok',r',rfl⟩:=h;obtain rfl:u=Value.bool true:=r';refine⟨rfl,⟨fun b o e=>?_,fun b o e=>un.there b o e (by simp)⟩,os,bare⟩;cases q:H b with
   | none=>exact .inl (un.keep b o e q (fun z=>by cases z) (fun z=>by cases z))
   | some u =>
    rcases ofH q with⟨qq,e1,rfl,e3⟩ | ⟨_,rfl,rfl⟩
    ·rw [e] at e3;cases e3;obtain⟨ps,e4,_⟩:=hok' b _ (un.tbls b _ q);obtain⟨c,hc⟩:=(hB1 _ e1).2;obtain⟨oc,us,_,_,_,_,_,_,_,c1,c2,c3,c4,_⟩:=PySem.W.codeHd_of_K KX hc;refine .inr (.inl ⟨⟨c,oc,us,c1,c2,c3,c4⟩,rfl,#[],ps,rfl,?_⟩);rw [Array.empty_append];exact e4
    ·obtain⟨e1,_⟩:=hok b _ q;obtain⟨e2,_⟩:=hok' b _ (un.frzs b _ _ q);rw [e] at e1;cases e1;exact .inl e2
theorem walk_T {l:PySem.W.OpenLaw} {n k:Nat} {q:Program} {loose:List Str} {XP:(Str->Option Value)->Heap->Prop} {YP:World->Heap->Prop} {d:DefRec} {K:Params->uQ} {CX:World->CXT} {sp:World->Sp} {x:Str} (ts:List (uR×Str))
  (hn:l.most=some n) (hn2:n<=wt) (hdf:d.params.defaults=[]) (hr:Room k callerA)
  (hY:∀ (w:World) (h:Heap),YP w h->(K w.params).In h/\∀ p∈ts,h.get? p.1=some (Bf #[])) (hB:∀ w:World,v8 (K w.params) ts=true)
  (F:∀ (w:World) (mg:Str->Option Value) (fa:uR) (h:Heap),(K w.params).In h->h.Ns u9 mg->mg d.name=some (.ref fa) ->
   ∃ fd:FuncData,(∀ (s:Shared) (u:Value),BindsTo s fd ⟨[u],[]⟩ [(x,u)]) /\
    ∀ base:Heap,(K w.params).In base->base.Ns u9 mg->FnOk l.prog w (K w.params) mg base (CX w) k fa fd [x] (sp w))
  (hsp:∀ (w:World) (H:Hp) (a:uR) (ns:List Int),ns.length<=n->SqL (K w.params) H a (ns.map V.int)->sp w [.ref a] H (fun v _=>v=.bl true) fun _ _ _=>False)
  (hCX:∀ (w:World) (H:Hp) (s:Shared) (e:Value) (s':Shared),CX w [] H s (fun _ _ _=>False) e s'->False) :
  PySem.W.WalkO q loose XP YP l.row.toRowW d [] (fun f vs=>PySem.call f vs):=by
 refine Att.attach_call hn hdf fun w s₀ s₁ mg mb fa o pm cd doc a vs ns G Y ho hd hcd hmg hobj hints hlen hg=>?_;obtain⟨KX,hts⟩:=hY w _ Y;obtain⟨fd,hb,hF⟩:=F w mg fa _ KX G.T.g hmg;exact i6 (hB w) hts G.T.bmain KX G.T.g G.T.b G.T.builtins G.T.nolimit hg hobj hints (wu hlen hn2) hr hF hb (fun H hS=>hsp w H a ns hlen hS) fun H e s'=>hCX w H s₁ e s'
end L2
end
section
namespace L2
open PySem PySem.Spec PyProof.Rows
end L2
end
section
namespace L2
open PySem PySem.Spec PyProof.Rows
theorem aI {M:Model} {Γ:PySem.Ctx} {p:Pos} {t:Sem Fin} {fs:List Frame} {s s':Shared} {e:End} (h:Runs M Γ p t fs s e s'):s.toks<=s'.toks:=by
 induction h
 all_goals first
  | exact wc _
  | assumption
  | exact wu (Br _) (by assumption)
  | exact wu (by assumption) (by assumption)
theorem gb {M:Model} {Γ:PySem.Ctx} {p:Pos} {g:Nat} {r:Resume} {s s':Shared} {res:GenResult} (h:Wakes M Γ p g r s res s'):s.toks<=s'.toks:=by
 unfold Wakes at h;split at h
 ·exact h.elim
 ·split at h
  ·obtain⟨e,s1,h1,_,_,rfl⟩:=h;have h2:=aI h1;exact h2
  ·rw [h.2];exact wc _
  ·rw [h.2];exact wc _
 ·obtain⟨e,s1,h1,_,_,rfl⟩:=h;have h2:=aI h1;exact h2
 ·rw [h.2];exact wc _
 ·rw [h.2];exact wc _
theorem wp_toks {α:Type} {M:Model} {Γ:PySem.Ctx} {Q:α->Pos->Shared->Prop} {E:Value->Pos->Shared->Prop} (n:Nat) (t:Sem α) (p:Pos) (s:Shared) (hn:n<=s.toks) (h:Sem.wp M Γ t Q E p s):Sem.wp M Γ t (fun a q s'=>Q a q s'/\n<=s'.toks) (fun e q s'=>E e q s'/\n<=s'.toks) p s:=by
 revert h
 induction t generalizing p s with
 | pure x=>exact fun h=>⟨h,hn⟩
 | raise v=>exact fun h=>⟨h,hn⟩
 | unsupported | finish | yield | fork | await | register=>exact id
 | fresh k ih=>exact fun h=>ih _ _ _ (Nat.le_succ_of_le hn) h
 | rule _ k ih | «at» _ k ih | alloc _ k ih | loadIfAlive _ k ih | point _ k ih | ask k ih | os _ _ k ih | handled _ k ih | newGen _ k ih | stack k ih | thread k ih=>exact fun h=>ih _ _ _ hn h
 | load a _ k ih | genState a k ih=>exact fun⟨o,ho,h⟩=>⟨o,ho,ih _ _ _ hn h⟩
 | update a _ f k ih | choose _ _ k ih=>exact fun⟨ha,h⟩=>⟨ha,ih _ _ _ hn h⟩
 | call c hd g l k ih=>exact fun⟨r,s',hr,h⟩=>⟨r,s',hr,ih _ _ _ (wu hn (aI hr)) h⟩
 | resume g r l k ih=>exact fun⟨res,s',hw,h⟩=>⟨res,s',hw,ih _ _ _ (wu hn (gb hw)) h⟩
theorem wpAny_toks {α:Type} {M:Model} {A:Around} {t:Sem α} {Q:α->Shared->Prop} {E:Value->Shared->Prop} {s:Shared} (n:Nat) (hn:n<=s.toks) (h:wb M A t Q E s):wb M A t (fun a s'=>Q a s'/\n<=s'.toks) (fun e s'=>E e s'/\n<=s'.toks) s :=
 fun Γ p hΓ=>wp_toks n t p s hn (h Γ p hΓ)
inductive Makes {α:Type}:Sem α->Prop
 | fresh (k:Tok->Sem α):Makes (.fresh k)
 | rule (tag:String) (k:Unit->Sem α):Makes (k ())->Makes (.rule tag k)
 | here (p:Pos) (k:Unit->Sem α):Makes (k ())->Makes (.at p k)
 | point (l:List Value) (k:Unit->Sem α):Makes (k ())->Makes (.point l k)
 | load (a:uR) (o:Option Value) (k:Obj->Sem α):(∀ x,Makes (k x))->Makes (.load a o k)
 | ask (k:Setting->Sem α):(∀ x,Makes (k x))->Makes (.ask k)
 | handled (b:Bool) (k:Option Value->Sem α):(∀ x,Makes (k x))->Makes (.handled b k)
 | call (c:Code) (h:Option Value) (g:Bool) (l:List Value) (k:Result->Sem α):(∀ x,Makes (k x))->Makes (.call c h g l k)
 | stack (k:List (Code×Pos)->Sem α):(∀ x,Makes (k x))->Makes (.stack k)
theorem l9 {α:Type} {M:Model} {A:Around} {t:Sem α} {Q:α->Shared->Prop} {E:Value->Shared->Prop} {s:Shared} (hn:0<s.toks) (h:wb M A t Q E s):wb M A t (fun a s'=>Q a s'/\0<s'.toks) E s :=
 wW (wpAny_toks 1 hn h) (fun _ _ x=>x) fun _ _ x=>x.1
def PEp (X:Cx) (e:Expr) (t:TE):Prop :=
 ∀ (CQ:List (uR×Obj)) (s:Shared) (σ:St) (H:Hp) (Q:VK),Inv X CQ σ H s->t σ H Q->wb (model X.prog X.w) X.A (eval e X.env) (fun u s'=>EP X CQ σ Q u s'/\0<s'.toks) X.xe s
def PSp (X:Cx) (st:Stmt) (t:TS):Prop :=
 ∀ (CQ:List (uR×Obj)) (s:Shared) (σ:St) (H:Hp) (D:Ends),Inv X CQ σ H s->t D σ H->wb (model X.prog X.w) X.A (exec st X.env) (fun f s'=>SP X CQ D f s'/\0<s'.toks) X.xe s
def PSsp (X:Cx) (st:List Stmt) (t:TS):Prop :=
 ∀ (CQ:List (uR×Obj)) (s:Shared) (σ:St) (H:Hp) (D:Ends),Inv X CQ σ H s->t D σ H->wb (model X.prog X.w) X.A (execs st X.env) (fun f s'=>SP X CQ D f s'/\0<s'.toks) X.xe s
section
variable {X:Cx}
theorem n5 {x:Str} {j pos}:PEp X (.Constant (.str x) j pos) (tC (.str x)):=fun _ _ _ H _ I h=>Bb ⟨⟨.str x,H,I.tok _,⟨_,rfl⟩,h⟩,Nat.succ_pos _⟩
theorem n6 {e:Expr} {te:TE} {pos:Pos} (he:PEp X e te):PSp X (.Return (some e) pos) (kA te):=by
 intro CQ s σ H D I h;exact wpAny_Return_some (thn (he CQ s σ H _ I h) fun v s1 ⟨⟨x,H1,I1,r1,q1⟩,tk⟩=>⟨⟨x,σ,H1,I1,r1,q1⟩,tk⟩)
theorem ma {st:Stmt} {t:TS} (h1:PSp X st t):PSsp X [st] t:=by
 intro CQ s σ H D I h;refine AZ (thn (h1 CQ s σ H D I h) fun f s1 q=>?_);cases f with
 | next=>exact wpAny_execs_nil q
 | ret v=>exact q
 | brk=>exact q
 | cont=>exact q
end
section
variable {X:Cx} {T id:String} {name:Str} {r:V->List V->Hp->VK->Prop} {o e:Expr} {es:List Expr} {to:TE} {t:TA} {apos cpos:Pos}
theorem sN (pa:PlainAttrs T) (slot:Slot T name id) (hty:typeOf (.builtin id)=pure (.type "method_descriptor")) (hm:MtR X id r) (ho:PEp X o to) (ha:PA X (e :: es) t)
  (hbase:attributeBase o name X.env (eval o X.env)=eval o X.env:=by rfl)
  (hfew:((backTo cpos (u4 (e :: es) X.env)).all (fun x=>!x.1) && (backToKw cpos (keywordEach [] X.env)).all (fun x=>x.1.isSome)
   && decide ((e :: es).length+([]:List Keyword).length+(if ([]:List Keyword).isEmpty then 0 else 1)<30))=true:=by rfl)
  (hline:(apos.endLine == cpos.line)=true:=by rfl) (hs:u4 (e :: es) X.env=(false,eval e X.env) :: u4 es X.env:=by rfl) (hplain:(backTo cpos (u4 es X.env)).any (·.1)=false:=by rfl) :
  PEp X (.Call (.Attribute o name apos) (e :: es) [] cpos) (tBM X.K T r to t):=by
 intro CQ s σ H Q I h;refine wpAny_Call_method_late hbase hfew hline rfl (thn (ho CQ s σ H _ I h) fun v s1 ⟨⟨x,H1,I1,r1,ty,q1⟩,tk⟩=>?_);obtain⟨h1,h2⟩:=fv I1 r1 ty;refine⟨T,id,pa,slot,hty,h1,h2,?_⟩;have hA:=ha cpos CQ s1 σ H1 _ I1 q1;rw [hs] at hA ⊢;refine l9 tk ?_;refine Ay (by show (false || (backTo cpos (u4 es X.env)).any (·.1))=false;rw [hplain] <;> rfl) (AM ?_);exact thn hA fun us s2 ⟨vs,H2,I2,r2,q2⟩=>hm CQ s2 σ H2 x vs v us Q I2 r1 r2 q2
end
structure FnOkP (P:Program) (w:World) (K:uQ) (mg:Str->Option Value) (base:Heap) (CX:CXT) (k:Nat) (f:uR) (fd:FuncData) (ps:List Str) (sp:Sp):Prop where
 len:∀ vs H Q E,sp vs H Q E->vs.length=ps.length
 run:∀ (A:Around) (outer:List Env) (s:Shared) (H:Hp) (args:Args) (us:List Value) (vs:List V) (Q:VK) (E:XK),Room k A->Env0 P w K mg base A outer s H->BindsTo s fd args (ps.zip us)->Vals vs us->sp vs H Q E ->
  codeAny (model P w) A (.call (.ref f) args) (fun r s'=>CR CX outer P w H s Q E r s'/\((∃ fl,r=.ok fl)->0<s'.toks)) s
theorem sO {CX:CXT} {P:Program} {w:World} {K:uQ} {mg:Str->Option Value} {base:Heap} {k:Nat} {f:uR} {name qual:Str} {params:Arguments} {body:List Stmt} {scope:Scope} {dV kV doc pm cdv ct oc:Value} {an od:Option uR}
  {osl:Array (Option Value)} {N ps:List Str} {sp:Sp} (lk:K.lookup f=some ⟨oc,od,.func (wV name qual params body scope dV kV doc pm an cdv ct),osl⟩) (hcd:xc K cdv qual=true) (S:FnScope N ps scope)
  (len:∀ vs H Q E,sp vs H Q E->vs.length=ps.length)
  (hbody:∀ (A:Around) (outer:List Env) (s:Shared) (H:Hp) (vs:List V) (Q:VK) (E:XK),Room k (A.deeper (envOfC qual scope s.heap.objs.size f cdv))->sp vs H Q E ->
   ∃ t,PSsp (zS CX P w K mg base N qual scope f cdv A outer s H E) body t/\t { nx:=fun _ H'=>Q .non H',rt:=Q } (start N vs) H) :
  FnOkP P w K mg base CX (k+1) f (wV name qual params body scope dV kV doc pm an cdv ct) ps sp:=by
 refine⟨len,fun A outer s H args us vs Q E hr e0 hb r hsp=>?_⟩;have hl:=len _ _ _ _ hsp;have KX:K.In s.heap:=e0.mod.kin.keeps fun b o e=>(e0.bs b o e).1;have lim:s.heap.NoLimit:=e0.mod.nolimit.keeps fun b o e=>(e0.bs b o e).1;have hkind:∀ y∈ps.zip us,scope.names.lookup y.1=some .local \/ (scope.names.lookup y.1=some .cell/\((cellsFrom (s.heap.objs.size+1) scope.names []).lookup y.1).isSome=true):=fun⟨n,v⟩ hy=>by
  rcases S.par n (A7 hy).1 with q | q
  ·exact .inl q
  ·exact .inr ⟨q,xx _ _ _ (.inl q)⟩
 refine codeAny_call_function hr.depth (KX _ _ lk) rfl S.co S.gen rfl (Bc KX hcd) (hb _ _ _ _ ?_);refine wpAny_newFunctionEnv_cells S.kind hkind fun env he s1 x=>?_;subst he;refine⟨lim.keeps x.toInCall.keep,codeAny_func ?_⟩;obtain⟨t,ht,hq⟩:=hbody A outer s H vs Q E (hr.deeper _) hsp;have I:Inv (zS CX P w K mg base N qual scope f cdv A outer s H E) [] (start N vs) H s1:=ay S hr.hd e0 hl r x;refine wW (ht [] s1 (start N vs) H _ I hq) (fun fl s' ⟨hs,tk⟩=>?_) fun e s' hs=>wW hs (fun _ _ x=>⟨x,fun⟨_,z⟩=>nomatch z⟩) fun _ _ x=>⟨x,fun⟨_,z⟩=>nomatch z⟩;have fin:∀ {σ':St} {H':Hp} {v:V} {u:Value},Inv (zS CX P w K mg base N qual scope f cdv A outer s H E) [] σ' H' s'->RelV v u->Q v H'->CE outer P w H s Q u s' :=
  fun {σ' H' v u} J rv q=>⟨v,H',J.os,J.bare,J.base,J.hok,rv,q⟩
 cases fl with
 | ret u =>
  obtain⟨v,σ',H',J,rv,q⟩:=hs;exact⟨fin J rv q,fun _=>tk⟩
 | next =>
  obtain⟨σ',H',J,q⟩:=hs;exact⟨fin (v:=V.non) (u:=Value.none) J rfl q,fun _=>tk⟩
 | brk =>
  obtain⟨_,_,_,q⟩:=hs;exact wR q
 | cont =>
  obtain⟨_,_,_,q⟩:=hs;exact wR q
section
variable {X:Cx} {CX:CXT} {k:Nat} {f:uR} {fd:FuncData} {ps:List Str} {sp:Sp} {ds:List Value} {dvs:List V} {E:XK} {x:Str} {e:Expr} {es:List Expr} {t:TA} {p pos:Pos}
theorem me (F:FnOkP X.prog X.w X.K X.mg X.base CX k f fd ps sp) (hr:Room k X.A) (hg:Gl X x) (hm:X.mg x=some (.ref f)) (hk:wF X.K (.ref f)=true) (hb:Binds X.K fd ps ds) (hd:Vals dvs ds) (hx:Passes CX X E)
  (ha:PA X (e :: es) t) (hdb:(x == ("__debug__":Str))=false:=by decide) (he:u4 (e :: es) X.env=(false,eval e X.env) :: u4 es X.env:=by rfl) (hpl:(backTo pos (u4 es X.env)).any (·.1)=false:=by rfl) :
  PEp X (.Call (.Name x p) (e :: es) [] pos) (qG sp dvs E t):=by
 intro CQ s σ H Q I h;refine wpAny_Call_Name_kw (y2 I hg hm ?_ hdb);refine xC (h₀:=X.base) I.ok.mod.kin hk (thn (ha pos CQ s σ H _ I h) fun us s1 ⟨vs,H1,I1,r,q⟩=>⟨I1.kIn,?_⟩) he hpl;have r2:Vals (vs++dvs) (us++ds):=r.append hd;have hl:(us++ds).length=ps.length:=by rw [<-r2.length];exact F.len _ _ _ _ q
 refine wpAny_call (A0 (F.run X.A X.stack s1 H1 ⟨us,[]⟩ (us++ds) (vs++dvs) Q E hr I1.env0 (hb s1 us I1.kIn hl) r2 q) fun r s' hq=>?_);cases r with
 | error e=>exact hx CQ σ H1 s1 e s' I1 hq.1
 | ok fl =>
  cases fl with
  | ret u=>exact⟨I1.after hq.1,hq.2 ⟨_,rfl⟩⟩
  | next=>exact wR hq.1
  | brk=>exact wR hq.1
  | cont=>exact wR hq.1
end
def pW (y z:Str) (to:TE):TE:=fun σ H Q=>to σ H fun x H1=>∃ v,x=.str v/\v.length+(v.length+1) * z.length<=16777216/\Q (.str (BQ v y z)) H1
section
variable {X:Cx} {o:Expr} {to:TE} {apos cpos p1 p2:Pos} {j1 j2:Nat} {y z:Str}
theorem n8 (hyz:(y == z)=false) (ho:PEp X o to)
  (hbase:attributeBase o "replace" X.env (eval o X.env)=eval o X.env)
  (hfew:((backTo cpos (u4 [.Constant (.str y) j1 p1,.Constant (.str z) j2 p2] X.env)).all (fun x=>!x.1) && (backToKw cpos (keywordEach [] X.env)).all (fun x=>x.1.isSome)
   && decide (([.Constant (.str y) j1 p1,.Constant (.str z) j2 p2]:List Expr).length+([]:List Keyword).length+(if ([]:List Keyword).isEmpty then 0 else 1)<30))=true)
  (hline:(apos.endLine == cpos.line)=true) (hs:u4 [.Constant (.str y) j1 p1,.Constant (.str z) j2 p2] X.env=[(false,eval (.Constant (.str y) j1 p1) X.env),(false,eval (.Constant (.str z) j2 p2) X.env)]) :
  PE X (.Call (.Attribute o "replace" apos) [.Constant (.str y) j1 p1,.Constant (.str z) j2 p2] [] cpos) (pW y z to):=by
 intro CQ s σ H Q I h;refine wpAny_Call_method_late hbase hfew hline rfl (thn (ho CQ s σ H _ I h) fun v s1 ⟨⟨x,H1,I1,r1,q1⟩,tk⟩=>?_);obtain⟨xv,rfl,hl,q⟩:=q1;have ty:tyV X.K "str" (.str xv) H1:=rfl;obtain⟨h1,h2⟩:=fv I1 r1 ty;obtain⟨t,rfl⟩:=r1;refine⟨"str","str.replace",wK,PySem.F.slot_str_replace,PySem.F.type_str_replace,h1,h2,?_⟩;rw [hs];refine Ay rfl (AM ?_);refine BE (Bb (k:=j1) (pos:=p1) ?_);refine BE (Bb (k:=j2) (pos:=p2) ?_);refine Calls.spliced_nil ?_;refine SC.replace (Bh tk) (Nat.succ_ne_zero _) (wC (AV _)) hyz hl fun t' k=>⟨.str (BQ xv y z),H1,?_,⟨_,rfl⟩,q⟩;exact I1.tok _
end
section
variable {K:uQ} {f:Fx} {ρ:zq} {te:TE} {P:PyData->Prop} {y z:Str}
theorem sP (h:PEd K f te ρ fun x=>∃ v,x=.str v/\v.length+(v.length+1) * z.length<=16777216/\P (.str (BQ v y z))):PEd K f (pW y z te) ρ P:=fun σ H Q e q =>
 h σ H _ e fun x v H1 g1 r1 ⟨u,ex,hl,p⟩=>by
  subst ex;exact⟨u,zD.mp r1,hl,q _ _ H1 g1 (zD.mpr rfl) p⟩
end
def g7:V->List V->Hp->VK->Prop:=fun x ys H Q=>∃ z y,x=.str z/\ys=[.str y]/\(y.length == 0)=false/\z.length+2<=wt/\∀ p,H p=none->Q (.ref p) (upd H p (.lst ((wD z y).map V.str)))
section
variable {X:Cx}
theorem i7:MtR X "str.split" g7:=by
 intro CQ s σ H x xs v us Q I rx rv h;obtain⟨z,y,rfl,rfl,hy,hz,q⟩:=h;obtain⟨t,rfl⟩:=rx;obtain⟨u0,rfl,ru⟩:=rv.one;obtain⟨u,rfl⟩:=ru;have le:=split_le z y;have hx:z.length<=wt:=by omega
 have hT:=typeIs_str s z t;have sp:∀ l:List Str,wD z y=l->l.length<=wt:=fun l e=>by rw [<-e];omega
 cases h1:(decide (z.length<y.length) || decide (xP z<xP y)) with
 | true =>
  have e:wD z y=[z]:=CT h1;rw [e] at q;exact call_meets Ar hT Ag (xZ _ _) (meets_str_split_cannot_occur z y t u h1) (jJ I [(z,t)] rfl (sp _ e) q)
 | false =>
  cases hf:(wG z y 0 z.length (z.length+1)).isEmpty with
  | true =>
   have e:wD z y=[z]:=(CS (ne_true_of_eq_false h1)).trans (CT hf);rw [e] at q;exact call_meets Ar hT Ag (xZ _ _) (meets_str_split_not_found z y t u h1 hy hf) (jJ I [(z,t)] rfl (sp _ e) q)
  | false =>
   have e:wD z y=_:=(CS (ne_true_of_eq_false h1)).trans (CS (ne_true_of_eq_false hf));rw [e] at q;refine call_meets Ar hT Ag (xZ _ _) (meets_str_split_sep z y t u h1 hy hf hx (sp _ e)) ?_;show wants _ _ _ _;rw [strsFrom_eq];exact jJ I _ (numbered_texts _ _) (sp _ e) q
end
section
variable {K:uQ} {f:Fx} {ρ:zq} {te:TE} {y:Str} {P:List PyData->Prop}
theorem mf (hy:(y.length == 0)=false) (h:PEd K f te ρ fun x=>∃ z,x=.str z/\z.length+2<=wt/\P ((wD z y).map .str)):PEdO K f (tBM K "str" g7 te (z9 (tC (.str y)) jl)) ρ P:=fun σ H Q e q =>
 h σ H _ e fun x v H1 g1 r1 ⟨z,ex,hl,p⟩=>by
  subst ex;have hv:=zD.mp r1;subst hv;refine⟨rfl,z,y,rfl,rfl,hy,hl,fun D hn=>?_⟩;have hD:H D=none:=eB e.fd g1 hn;exact q _ D _ _ (g1.trans (.of_same (yd hn _) g1.ok)) hD zr (aH _) p
end
def mh (K:uQ) (t:TGs):TG:=fun v σ H Q=>∃ a x xs,v=.ref a/\SqL K H a (x :: xs)/\xs.length<=1000/\∀ D,H D=none->t [x,.ref D] σ (upd H D (.lst xs)) Q
section
variable {X:Cx} {e0 e1:Expr} {k:Nat} {pos p:Pos} {t:TGs}
theorem n9 (hc:X.calm=true) (h:PGs X [e0,e1] t) (hn:(assignEach [e0,.Starred e1 p] X.env).length=2) (hst:(assignEach [e0,.Starred e1 p] X.env).findIdx? (·.1)=some 1)
  (hm:(assignEach [e0,.Starred e1 p] X.env).map (·.2)=(assignEach [e0,e1] X.env).map (·.2)):PG X (.Tuple [e0,.Starred e1 p] k pos) (mh X.K t):=by
 intro CQ s σ H v u Q I r hw;obtain⟨a,x,xs,e,hq,hl,hw⟩:=hw;subst e;cases r;obtain⟨its,rv,pl,hz⟩:=I.list hq;cases rv with
 | @cons _ u0 _ us r0 rs =>
  have lu:us.length=xs.length:=rs.length.symm;obtain⟨m,hns,_⟩:=id I.loc;refine PySem.W.kun_assignL (h₀:=Att.noObjs s.heap) (L:=X.env.locals) (m:=m) (news:=vR (Att.noObjs s.heap) s.heap X.env.locals) (n:=2) (i:=1) (first:=[u0]) (mids:=us) (lasts:=[]) (Att.fr_all hns) ku pl.isList (I.ok.hd hc) hn hst (by decide) ?_ ?_ ?_ ?_ ?_ fun D h' tk F' N' hD=>?_
  ·simp
  ·simp;omega
  ·simp
  ·simp
  ·simp
  have kp:∀ b o,b≠X.env.locals->s.heap.get? b=some o->h'.get? b=some o:=fun b o nb e=>(N' (b,o) (uW _ (aM nb (Att.noObjs_get _ _) e))).1;have nsK:∀ {h2:Heap},h2.Ns X.env.locals m->∀ m',s.heap.Ns X.env.locals m'->h2.Ns X.env.locals m':=fun {h2} F2 m' hm'=>by
   have:m'=m:=by
    obtain⟨o,es,ep,ho,hd,_,hf⟩:=hns;obtain⟨o',es',ep',ho',hd',_,hf'⟩:=hm';rw [ho] at ho';cases ho';rw [hd] at hd';cases hd'
    funext n
    rw [<-hf n,<- hf' n]
   rw [this];exact F2
  have hLo:∃ o,h'.get? X.env.locals=some o:=let⟨o,_,_,ho,_⟩:=F'.ns;⟨o,ho⟩
  have nD:∀ b u,s.heap.get? b=some u->b≠D:=fun b u e z=>by
   by_cases hb:b=X.env.locals
   ·exact (N' _ u3).2.1 (by rw [<-z,hb])
   ·have:=hD (b,u) (aM hb (Att.noObjs_get _ _) e);rw [<-z] at this;exact xU _ this
  have hDn:H D=none:=by
   cases e:H D with
   | none=>rfl
   | some u =>
    obtain⟨v,ev⟩:=nN (I.hok D u e);exact absurd rfl (nD D v ev)
  have hD2:=(N' _ u3).1;have I2:Inv X CQ σ (upd H D (.lst xs)) { s with heap:=h',toks:=tk }:=I.laidL (t':=tk) kp hLo (nsK F'.ns) nD hDn ⟨xS (yI hl),us,0,rs,hD2⟩;rw [hm];exact h CQ _ σ _ [x,.ref D] _ Q I2 (.cons r0 (.cons rfl .nil)) (hw D hDn)
end
section
variable {K:uQ} {f:Fx} {ρ:zq} {t:TGs} {R:zq->Prop}
theorem sQ {d:PyData} {ds:List PyData} (hl:ds.length<=1000) (h:k9 K f t [d,.list ds] ρ R):PGd K f (mh K t) (.list (d :: ds)) ρ R:=fun σ H v Q e r q=>by
 obtain⟨a,xs,rfl,s1,s2⟩:=zH.mp r;obtain⟨x,ys,rfl,h1,h2⟩:=zy.mp s2;refine⟨a,x,ys,rfl,(zo _ _).seq s1,by rw [h2.length];exact hl,fun D hn=>?_⟩;have g1:Goes f H (upd H D (.lst ys)):=.of_same (yd hn _) e.fd;refine h σ _ _ Q (e.mono g1) (.cons' (Rep.mono g1.sm _ _ h1) (.cons' (zH.mpr ⟨D,ys,rfl,.of (zA (fresh_ne e.fd hn) zr),Reps.mono g1.sm _ _ h2⟩) .nil')) fun ρ' σ' H' g' e' p=>q ρ' σ' H' (g1.trans g') e' p
end
theorem mi {es:Array DictEntry} {z:Str} {v:Value} (hv:(es.toList.find? fun e=>e.key.isStr z).map (·.val)=some v):∃ i,∃ h:i<es.size,(es.findIdx? fun e=>e.key.isStr z)=some i/\es[i].val=v:=by
 cases hi:es.findIdx? fun e=>e.key.isStr z with
 | none =>
  exfalso;have hn:es.toList.find? (fun e=>e.key.isStr z)=none:=by
   rw [List.find?_eq_none];intro e he;have:=Array.findIdx?_eq_none_iff.mp hi e (Ce.mp he);simpa using this
  rw [hn] at hv;cases hv
 | some i =>
  obtain⟨hlt,hi1,hi2⟩:=Array.findIdx?_eq_some_iff_getElem.mp hi;refine⟨i,hlt,rfl,?_⟩;have hf:es.toList.find? (fun e=>e.key.isStr z)=some es[i]:=by
   rw [List.find?_eq_some_iff_getElem];refine⟨hi1,i,by simpa using hlt,by simp,fun j hj=>?_⟩;have:=hi2 j hj;simpa using this
  rw [hf] at hv;exact Option.some.inj hv
theorem dictGet_text {P:Program} {w:World} {A:Around} {E:Value->Shared->Prop} {s:Shared} {a:uR} {o:Obj} {es:Array DictEntry} {ep:Nat} {z:Str} {t:Tok} {v:Value} {Q:Option Value->Shared->Prop}
  (ho:s.heap.get? a=some o) (hd:o.data=.dict es ep) (hall:(es.all fun e=>isExactStrKey e.key)=true) (hv:(es.toList.find? fun e=>e.key.isStr z).map (·.val)=some v) (h:Q (some v) { s with toks:=s.toks+1 }) :
  wb (model P w) A (dictGet a (.str z t)) Q E s:=by
 obtain⟨i,hlt,hi,hval⟩:=mi hv;unfold dictGet
 try with_reducible refine xl ?_
 apply uS;apply wpAny_pyHash_str;apply uS;refine KTD.kt_dictFind_strs (s:={ s with toks:=s.toks+1 }) ho hd hall ?_;rw [hi];show wb _ _ (_ >>= _) _ _ _;apply uS;refine wpAny_dictEntries (s:={ s with toks:=s.toks+1 }) ho hd ?_;refine wa ?_;rw [Array.getElem?_eq_getElem hlt];show Q (some es[i].val) _;rw [hval];exact h
def uo (K:uQ):V->List V->Hp->VK->Prop:=fun x ys H Q=>∃ a o es ep z d v y,x=.ref a/\ys=[.str z,d]/\K.lookup a=some o/\o.cls=.type "dict"/\o.data=.dict es ep/\(es.all fun e=>isExactStrKey e.key)=true/\(es.toList.find? fun e=>e.key.isStr z).map (·.val)=some v/\RelV y v/\Q y H
theorem oa {X:Cx}:MtR X "dict.get" (uo X.K):=by
 intro CQ s σ H x xs v us Q I rx rv h;obtain⟨a,o,es,ep,z,d,val,y,rfl,rfl,lk,hc,hd,hall,hv,ry,q⟩:=h;cases rx;obtain⟨u1,u2,rfl,r1,r2⟩:=rv.two;obtain⟨t,rfl⟩:=r1;have ho:s.heap.get? a=some o:=I.kIn a o lk;have hT:s.TypeIs (.ref a) "dict":=⟨o,ho,hc⟩;refine wpAny_call_entry F.slot_dict_get hT F.entry_dict_get ?_ (F.args_dict_get_3 _ _ _);show wb _ _ (dictGet a (.str z t) >>= _) _ _ s;apply uS;refine dictGet_text ho hd hall hv ?_;refine wa ⟨val,rfl,?_⟩;exact⟨y,H,I.tok _,ry,q⟩
structure HasK (K:uQ) (a:uR) (z:Str) (v:Value):Prop where
 ex:∃ o es ep,K.lookup a=some o/\o.cls=.type "dict"/\o.data=.dict es ep/\(es.all fun e=>isExactStrKey e.key)=true/\(es.toList.find? fun e=>e.key.isStr z).map (·.val)=some v
noncomputable def og (K:uQ) (a:uR) (z:Str) (v:Value):Bool:=match K.lookup a with
 | some o=>o.cls == .type "dict" && (match o.data with
  | .dict es _=>(es.all fun e=>isExactStrKey e.key) && decide ((es.toList.find? fun e=>e.key.isStr z).map (·.val)=some v)
  | _=>false)
 | none=>false
theorem sR {K:uQ} {a:uR} {z:Str} {v:Value} (h:og K a z v=true):HasK K a z v:=by
 unfold og at h;split at h
 ·rename_i o ho;rw [wB] at h;obtain⟨h1,h2⟩:=h;split at h2
  ·rename_i es ep hd;rw [wB] at h2;exact⟨o,es,ep,ho,beq_iff_eq.mp h1,hd,h2.1,of_decide_eq_true h2.2⟩
  ·cases h2
 ·cases h
def sS (K:uQ):R2:=fun x y H Q=>∃ a z v,x=.str z/\y=.ref a/\HasK K a z v/\Q (.bl true) H
theorem sT {X:Cx}:OpR X (xm .In) (sS X.K):=by
 intro CQ s σ H x y v u Q I rx ry h;obtain⟨a,z,val,rfl,rfl,⟨o,es,ep,lk,hc,hd,hall,hv⟩,q⟩:=h;obtain⟨t,rfl⟩:=rx;cases ry;have ho:s.heap.get? a=some o:=I.kIn a o lk;have ty:s.TypeIs (.ref a) "dict":=⟨o,ho,hc⟩;show wb _ _ (contains (.ref a) (.str z t) >>= fun b=>pure (Value.bool b)) _ _ s;apply uS;unfold contains
 try with_reducible refine xl ?_
 apply uS;apply wpAny_specialOf ty Bt.lookup;show wb _ _ (if (some (Value.builtin "dict.__contains__") == some Value.none)=true then _ else _) _ _ s;rw [CS (show ¬ ((some (Value.builtin "dict.__contains__") == some Value.none)=true) by decide)];apply uS;apply wpAny_callSpecialUnlessNone?_slot (name:=w6 "__contains__") ty Bt;apply wpAny_call_entry Bt ty F.entry_dict_contains _ (args_dict_contains _ _);show wb _ _ (dictGet a (.str z t) >>= _) _ _ s;apply uS;refine dictGet_text ho hd hall hv ?_;exact wa ⟨_,rfl,xo (wa ⟨.bl true,H,I.tok _,rfl,q⟩)⟩
def pX (K:uQ) (a:uR) (tk:TE):TE:=fun σ H Q=>tk σ H fun y H1=>∃ z v r,y=.str z/\HasK K a z v/\RelV r v/\Q r H1
theorem oh {X:Cx} {K:uQ} {x:Str} {a:uR} {key:Expr} {tk:TE} {p pos:Pos} (hK:X.K=K) (hg:Gl X x) (hm:X.mg x=some (.ref a)) (hk:PE X key tk) (hs:gG key) (hd:(x == ("__debug__":Str))=false:=by decide) :
  PE X (.Subscript (.Name x p) key pos) (pX K a tk):=by
 subst hK;intro CQ s σ H Q I h;refine Subscript_ (y2 I hg hm ?_ hd);refine thn (hk CQ s σ H _ I h) fun u s1 ⟨y,H1,I1,ry,z,v,r,ey,hh,rr,q⟩=>?_;obtain⟨o,es,ep,lk,hc,hdat,hall,hv⟩:=hh.ex;subst ey;obtain⟨tk',rfl⟩:=ry;have ho1:s1.heap.get? a=some o:=I1.kIn a o lk;have hT1:s1.TypeIs (.ref a) "dict":=⟨o,ho1,hc⟩;refine subscriptTail_builtinR (x:=v) hT1 PySem.F.slot_dict_getitem.lookup ?_ (hs _ _);unfold getItem
 try with_reducible refine xl ?_
 apply uS;refine wpAny_sequenceKey hT1 (by decide) ?_;apply uS;refine wpAny_callSpecial?_slot (name:=w6 "__getitem__") hT1 slot_dict_getitem (wpAny_call_entry slot_dict_getitem hT1 entry_dict_getitem ?_ (args_dict_getitem _ _));show wb _ _ (dictGet a (.str z tk') >>= _) _ _ s1;apply uS;refine dictGet_text ho1 hdat hall hv ?_;refine wa ⟨v,rfl,wa ?_⟩;exact⟨rfl,r,H1,I1.tok _,rr,q⟩
def pY (t u:TS):TS:=fun D σ H=>t { nx:=u D,rt:=fun _ _=>False,bk:=fun _ _=>False,ct:=fun _ _=>False } σ H
theorem sU {K:uQ} {f:Fx} {ρ:zq} {ts tu:TS} {D:DEnds} (h:PSd K f ts ρ { nx:=fun ρ'=>PSd K f tu ρ' D,rt:=fun _=>False }):PSd K f (pY ts tu) ρ D:=fun σ H E e n r b c =>
 h σ H _ e (fun ρ' σ' H' g' e' p=>p σ' H' E e' (fun ρ2 σ2 H2 g2=>n ρ2 σ2 H2 (g'.trans g2)) (fun d v H2 g2=>r d v H2 (g'.trans g2)) (fun ρ2 σ2 H2 g2=>b ρ2 σ2 H2 (g'.trans g2)) fun ρ2 σ2 H2 g2=>c ρ2 σ2 H2 (g'.trans g2)) (fun _ _ _ _ _ z=>z.elim) (fun _ _ _ _ _ z=>z.elim) (fun _ _ _ _ _ z=>z.elim)
section
variable {X:Cx}
theorem PSsp.nox {st:List Stmt} {t:TS} (h:PSsp X.nox st t):PSsp X st t:=fun CQ s σ H D I hw =>
 wW (h CQ s σ H D (I.wish _) hw) (fun _ _ q=>⟨q.1.unwish,q.2⟩) fun _ _ z=>z.elim
theorem i8 {st:Stmt} {rest:List Stmt} {t u:TS} (h1:PS X st t) (h2:PSsp X rest u):PSsp X (st :: rest) (pY t u):=by
 intro CQ s σ H D I h;refine AZ (thn (h1 CQ s σ H _ I h) fun f s1 q=>?_);cases f with
 | next =>
  obtain⟨σ',H',I',q⟩:=q;exact h2 CQ s1 σ' H' D I' q
 | ret v=>obtain⟨_,_,_,_,_,z⟩:=q;exact z.elim
 | brk=>obtain⟨_,_,_,z⟩:=q;exact z.elim
 | cont=>obtain⟨_,_,_,z⟩:=q;exact z.elim
theorem mj {K:uQ} {o e:Expr} {es:List Expr} {to:TE} {t:TA} {apos cpos:Pos} (hK:X.K=K) (ho:PEp X o to) (ha:PA X (e :: es) t)
  (hb:attributeBase o "join" X.env (eval o X.env)=eval o X.env)
  (hf:((backTo cpos (u4 (e :: es) X.env)).all (fun x=>!x.1) && (backToKw cpos (keywordEach [] X.env)).all (fun x=>x.1.isSome) && decide ((e :: es).length+([]:List Keyword).length+(if ([]:List Keyword).isEmpty then 0 else 1)<30))=true)
  (hl:(apos.endLine == cpos.line)=true) (hs:u4 (e :: es) X.env=(false,eval e X.env) :: u4 es X.env) (hp:(backTo cpos (u4 es X.env)).any (·.1)=false) :
  PEp X (.Call (.Attribute o "join" apos) (e :: es) [] cpos) (tBM K "str" (rJoin K) to t):=by
 subst hK;exact sN wK B9 Ca gZ ho ha hb hf hl hs hp
end
structure FnInP (P:Program) (w:World) (K:uQ) (mg:Str->Option Value) (base:Heap) (k:Nat) (x:Str) (ps:List Str) (sp:Sp):Prop where
 ex:∃ (f:uR) (fd:FuncData),FnOkP P w K mg base CX0 k f fd ps sp/\mg x=some (.ref f)/\wF K (.ref f)=true/\Binds K fd ps []
section
variable {P:Program} {w:World} {K:uQ} {mg:Str->Option Value} {base:Heap} {k n:Nat} {x:Str} {st:Stmt} {ps N:List Str} {γ:Type} {pre:γ->List DV->Prop} {post:γ->PyData->Prop} {sp:Sp}
theorem FnInP.mono {j:Nat} (h:FnInP P w K mg base j x ps sp) (hk:j<=k):FnInP P w K mg base k x ps sp :=
 let⟨f,fd,a,b,c,d⟩:=h.ex;⟨f,fd,⟨a.len,fun A outer s H args us vs Q E hr=>a.run A outer s H args us vs Q E (hr.mono hk)⟩,b,c,d⟩
theorem Def.okP (F:Def K mg x st ps) (S:FnScope N ps (zh st)) (hn:ps.length=n)
  (h:∀ (fa:uR) (cdv:Value) (A:Around) (outer:List Env) (s:Shared) (H:Hp) (E:XK),Room k (A.deeper (envOfC x (zh st) s.heap.objs.size fa cdv)) ->
   ∃ t,PSsp (zS CX0 P w K mg base N x (zh st) fa cdv A outer s H E).nox (zU st) t/\∀ (f:Fx) (xs:List DV) (c:γ),xs.length=n->pre c xs->PSd K f t (jN N xs) { nx:=fun _=>post c .none,rt:=post c }) :
  FnInP P w K mg base (k+1) x ps (spD K n pre post):=by
 obtain⟨fa,fd,F1,F2,F3⟩:=F.ex;obtain⟨oc,od,kV,doc,pm,an,cdv,ct,osl,rfl,lk,hcd⟩:=F1.ex;refine⟨fa,_,sO lk hcd S (fun vs H Q E h=>?_) (fun A outer s H vs Q E hr hs=>?_),F3,F1.kp,F2⟩
 ·obtain⟨f,xs,c,r,hl,_⟩:=h;rw [r.length,hl,hn]
 ·obtain⟨f,xs,c,r,hl,fo,hp,q⟩:=hs;obtain⟨t,h1,h2⟩:=h fa cdv A outer s H E hr;exact⟨t,h1.nox,h2 f xs c hl hp (start N vs) H _ (je r fo) (fun _ _ H' g _ p=>q .none _ H' g (jm.mpr rfl) p) (fun d v H' g r p=>q d v H' g r p) (fun _ _ _ _ _ z=>z.elim) (fun _ _ _ _ _ z=>z.elim)⟩
theorem i9 {X:Cx} {e:Expr} {es:List Expr} {t:TA} {p pos:Pos} (G:FnInP X.prog X.w X.K X.mg X.base k x ps sp) (hr:Room k X.A) (hg:Gl X x) (ha:PA X (e :: es) t) (hdb:(x == ("__debug__":Str))=false:=by decide)
  (he:u4 (e :: es) X.env=(false,eval e X.env) :: u4 es X.env:=by rfl) (hpl:(backTo pos (u4 es X.env)).any (·.1)=false:=by rfl):PEp X (.Call (.Name x p) (e :: es) [] pos) (qG sp [] E0 t):=by
 obtain⟨f,fd,a,b,c,d⟩:=G.ex;exact me a hr hg b c d .nil dO ha hdb he hpl
end
section
variable {K:uQ} {f:Fx} {ρ:zq} {P:PyData->Prop} {i:Nat} {φ:Hp->V->Prop} {t:TA} {E:XK}
theorem mn {σ:St} {H:Hp} (hi:ρ[i]?=some (some (.mon φ))) (e:EnvOk K f ρ σ H):∃ v,σ[i]?=some (some v)/\φ (hide H f) v/\RepV K f H (.mon φ) v:=by
 obtain⟨v,h1,h2⟩:=e.get i _ hi;exact⟨v,h1,h2 _ (Same.refl _),h2⟩
theorem uq {g:Str} {d:PyData} (hi:ρ[i]?=some (some (.mon φ))) (hφ:∀ H v,φ H v->∃ a C dx fs u,v=.ref a/\H a=some (.ins C dx fs)/\Cls K C/\NoAttr K C g/\fs.lookup g=some u/\Rep K H d u) (p:P d) :
  PEd K f (tT K (yN i) g) ρ P:=fun σ H Q e q=>by
 obtain⟨v,h1,h2,_⟩:=mn hi e;obtain⟨a,C,dx,fs,u,rfl,ha,c,n,l,r⟩:=hφ _ _ h2;exact⟨_,h1,a,C,dx,fs,u,rfl,(zC ha).2,c,n,l,q d u H (.refl e.fd) r p⟩
theorem sV {γ:Type} {C:uR} {m:Str} {n:Nat} {pre:γ->List DV->Prop} {post:γ->PyData->Prop} (hi:ρ[i]?=some (some (.mon φ))) (hφ:∀ H v,φ H v->∃ a dx fs,v=.ref a/\H a=some (.ins C dx fs)/\fs.lookup m=none) (c:γ)
  (h:PAd K f t ρ fun xs=>(DV.mon φ :: xs).length=n/\pre c (.mon φ :: xs)/\∀ r,post c r->P r):PEd K f (kS C m (spD K n pre post) [] E (yN i) t) ρ P:=fun σ H Q e q=>by
 obtain⟨v,h1,h2,h3⟩:=mn hi e;obtain⟨a,dx,fs,rfl,ha,l⟩:=hφ _ _ h2;refine⟨_,h1,a,dx,fs,rfl,(zC ha).2,l,h σ H _ e fun xs vs H1 g1 r1 ⟨hl,hp,k⟩=>?_⟩;exact⟨f,.mon φ :: xs,c,.cons (RepV.mono (x:=.mon φ) g1 h3) (by rw [xf];exact r1),hl,g1.2,hp,fun r v H' g' r' p'=>q r v H' (g1.trans g') r' (k r p')⟩
end
theorem df {K:uQ} {f:Fx} {H:Hp} {x:Str} {v:V} (r:RepV K f H (.dat (.str x)) v):v=.str x:=zD.mp (show Rep K (hide H f) (.str x) v from r)
section
variable {prog:Program} {w:World} {A:Around} {E:Value->Shared->Prop} {s:Shared}
theorem gc {j:uR} {x:Str} {t:Tok} {k:Nat} {Q:Value->Shared->Prop} (hh:A.handled=none) (hj:s.heap.IsStrIter j "str_ascii_iterator" x t k) (hx:x.cps[k]?=none)
  (hE:∀ h' e,Heap.ExtBut j s.heap h'->(∃ o,h'.get? e=some o/\o.cls=.type "StopIteration")->E (.ref e) { s with heap:=h' }) :
  wb (model prog w) A (xB (.ref j)) Q E s:=by
 obtain⟨o,ho,hc,hd⟩:=id hj;unfold xB;refine uS (wpAny_callSpecial?_slot (name:=w6 "__next__") hj.typeIs Bn (wpAny_call_entry Bn hj.typeIs F.entry_str_ascii_iterator_next ?_ (F.args_str_ascii_iterator_next_1 _)));show wb _ _ (field (.ref j) 0 >>= _) _ _ s;refine uS (wpAny_field ho hd (x:=.str x t) rfl ?_);show wb _ _ (field (.ref j) 1 >>= _) _ _ s;refine uS (wpAny_field ho hd (x:=.int k 0) rfl ?_);simp only [xy,hx];refine uS (CF (uS (Cs ho hd (by simp) (uS (wpAny_letGo (uS ?_))))));simp only [newExc,newTuple];refine uS (wpAny_newObj_type (uS (m:=firstArgMember _ _) (wpAny_of_eq (a:=Value.none) (by first | rfl | (simp only [firstArgMember];rfl)) (wpAny_newObj_type ?_ (by size_fits)))) (by size_fits));simp only [raiseNew];refine uS (wpAny_handled ?_)
 first | rw [show A.in1.handled=none from hh] | rw [hh]
 exact uS (wa (wpAny_throw (hE _ _ (((Heap.SameBut.update ..).extBut.push _).push _) ⟨_,wk _ rfl,rfl⟩)))
theorem mq {z q1 q2 j1 j2:uR} {x:Str} {t:Tok} {k:Nat} {Q:Fin->Shared->Prop} (hh:A.handled=none) (jz:z≠j1)
  (hz:IsZip s.heap z q1 q2 .none) (hq1:IsPair s.heap q1 (.ref j1) (.ref j2)) (h1:s.heap.IsStrIter j1 "str_ascii_iterator" x t k) (hx:x.cps[k]?=none)
  (hE:∀ h' e,(∀ c o,c≠z->c≠j1->s.heap.get? c=some o->h'.get? c=some o)->(∃ o,h'.get? e=some o/\o.cls=.type "StopIteration")->E (.ref e) { s with heap:=h' }) :
  wb (model prog w) A (Builtin.«zip.__next__» ⟨[.ref z],[]⟩) Q E s:=by
 show wb _ _ (field (.ref z) 2 >>= _) _ _ _;refine uS (wpAny_field hz rfl (x:=.bool false) rfl (show wb _ _ (field (.ref z) 3 >>= _) _ _ _ from uS (wpAny_field hz rfl (x:=.ref q1) rfl (uS (wpAny_seqItems hq1 rfl ?_)))));show wb _ _ (A5 (.ref z) >>= _) _ _ _;unfold A5;refine uS (uS (wpAny_field hz rfl (x:=.none) rfl (wa ?_)));simp only [if_true];refine uS (CF (uS (wpAny_field hz rfl (x:=.ref q2) rfl (uS (wpAny_setField_rec hz (by simp) fun ha za sa=>?_)))));have za:IsZip ha z q1 q2 .ellipsis:=za;refine uS ?_;simp only [List.zipIdx_cons,List.zipIdx_nil,List.forIn_cons,List.forIn_nil];have p1:ha.IsStrIter j1 "str_ascii_iterator" x t k:=h1.extBut sa.extBut (fun e=>jz e.symm);refine uS (uS (wpAny_onRaise (show wb _ _ (xB (.ref j1) >>= _) _ _ _ from uS (gc (s:={ s with heap:=ha }) hh p1 hx fun hb e sb he=>?_))));obtain⟨oe,ge,ce⟩:=he;have zb:IsZip hb z q1 q2 .ellipsis:=sb _ _ jz za;have ez:e≠z:=fun y=>by subst y;rw [zb] at ge;cases ge;simp at ce
 exact wpAny_setField_rec zb (by simp) fun hc _ sc=>hE hc e (fun c o n1 n3 g=>sc.extBut _ _ n1 (sb _ _ n3 (sa.extBut _ _ n1 g))) ⟨oe,sc.extBut _ _ ez ge,ce⟩
theorem ka {z q1 q2 j1 j2:uR} {x:Str} {t:Tok} {k:Nat} {Q:Option Value->Shared->Prop} (hh:A.handled=none) (jz:z≠j1)
  (hz:IsZip s.heap z q1 q2 .none) (hq1:IsPair s.heap q1 (.ref j1) (.ref j2)) (h1:s.heap.IsStrIter j1 "str_ascii_iterator" x t k) (hx:x.cps[k]?=none)
  (hQ:∀ h',(∀ c o,c≠z->c≠j1->s.heap.get? c=some o->h'.get? c=some o)->Q none { s with heap:=h' }):wb (model prog w) A (pyNext (.ref z)) Q E s:=by
 have ty:s.TypeIs (.ref z) "zip":=⟨_,hz,rfl⟩;unfold pyNext;refine uS (Bp (wpAny_callSpecial?_slot (name:=w6 "__next__") ty F.slot_zip_next (wpAny_call_entry F.slot_zip_next ty F.entry_zip_next (mq hh jz hz hq1 h1 hx fun h' e kp ⟨o,g,c⟩=>?_) (F.args_zip_next_1 _))));exact uS (wpAny_isInstance (T:="StopIteration") (b:=true) ⟨o,g,c⟩ isSubtype_stop (wa (hQ _ kp)))
end
noncomputable abbrev ze1 (h:Heap) (x:Str) (t:Tok):Heap:=h.push { cls:=.type "str_ascii_iterator",data:=.fields #[.str x t,.int 0 0] }
noncomputable abbrev ze2 (h:Heap) (x:Str) (t:Tok) (b:uR):Heap:=(ze1 h x t).push { cls:=.type "list_iterator",data:=.fields #[.ref b,.int 0 0] }
noncomputable abbrev ze3 (h:Heap) (x:Str) (t:Tok) (b:uR):Heap:=(ze2 h x t b).push { cls:=.type "tuple",data:=.seq #[.ref h.objs.size,.ref (ze1 h x t).objs.size] }
noncomputable abbrev ze4 (h:Heap) (x:Str) (t:Tok) (b:uR):Heap:=(ze3 h x t b).push { cls:=.type "tuple",data:=.seq #[.none,.none] }
noncomputable abbrev ze5 (h:Heap) (x:Str) (t:Tok) (b:uR):Heap:=(ze4 h x t b).push { cls:=.type "zip",data:=.fields #[.none,.bool false,.bool false,.ref (ze2 h x t b).objs.size,.ref (ze3 h x t b).objs.size] }
theorem gf (x:Str) (t:Tok) (b:uR) (ys:Array Value) (hx:x.cps.all (·<128)=true):Meets (Builtin.«zip.__new__» ⟨[.type "zip",.str x t,.ref b],[]⟩) (fun _ R s=>s.heap.IsList b ys/\R (.ok (.ret (.ref (ze4 s.heap x t b).objs.size))) { s with heap:=ze5 s.heap x t b }) :=
 .of_wp fun prog w A R s ⟨hb,h⟩=>by
  obtain⟨hp,g,d,tk,os⟩:=s;have hsub:=sub_zip;have hB:Heap.IsList (Shared.heap ⟨hp.push { cls:=.type "str_ascii_iterator",data:=.fields #[.str x t,.int 0 0] },g,d,tk,os⟩) b ys:=hb.push _
  wp_walk using wpAny_pyIter_ascii hx,wpAny_pyIter_list hB
  exact⟨_,rfl,h⟩
section
variable {prog:Program} {w:World} {A:Around} {E:Value->Shared->Prop} {s:Shared}
theorem kc {x:Str} {t:Tok} {b:uR} {ys:Array Value} {Q:Value->Shared->Prop} (hx:x.cps.all (·<128)=true) (hb:s.heap.IsList b ys)
  (h:∀ h',IsZip h' (s.heap.objs.size+4) (s.heap.objs.size+2) (s.heap.objs.size+3) .none->IsPair h' (s.heap.objs.size+2) (.ref s.heap.objs.size) (.ref (s.heap.objs.size+1)) ->
   h'.IsStrIter s.heap.objs.size "str_ascii_iterator" x t 0->(∀ c o,s.heap.get? c=some o->h'.get? c=some o)->Q (.ref (s.heap.objs.size+4)) { s with heap:=h' }) :
  wb (model prog w) A (call (.type "zip") [.str x t,.ref b]) Q E s:=by
 refine callType_new F.called_zip (by decide) (F.typeCall_zip_2 _ _) (F.newCall_zip_2 _ _) (fun obj=>F.args_object_init_3 obj _ _) F.entry_zip_new (gf x t b ys hx) ⟨hb,?_⟩;have n1:(ze1 s.heap x t).objs.size=s.heap.objs.size+1:=xj ..;have n2:(ze2 s.heap x t b).objs.size=s.heap.objs.size+2:=by rw [xj,n1]
 have n3:(ze3 s.heap x t b).objs.size=s.heap.objs.size+3:=by rw [xj,n2]
 have n4:(ze4 s.heap x t b).objs.size=s.heap.objs.size+4:=by rw [xj,n3]
 have up:∀ {hh:Heap} {c:uR} {o p:Obj},hh.get? c=some o->(hh.push p).get? c=some o:=fun e=>uX _ e;have k5:(ze5 s.heap x t b).get? (ze4 s.heap x t b).objs.size=some _:=wk _ rfl;have k3:(ze5 s.heap x t b).get? (ze2 s.heap x t b).objs.size=some _:=up (up (wk _ rfl));have k1:(ze5 s.heap x t b).get? s.heap.objs.size=some _:=up (up (up (up (wk _ rfl))));show _/\_;rw [n2,n3,n4] at k5;rw [n1,n2] at k3;rw [n4];exact⟨⟨_,k5,rfl⟩,h _ k5 k3 ⟨_,k1,rfl,rfl⟩ fun c o e=>up (up (up (up (up e))))⟩
end
noncomputable def ur:It:=⟨fun _ _=>False,fun _ _ _ _=>False,fun _ _=>True⟩
theorem ke {P:Program} {w:World} {K:uQ} {es:List Expr} {k:Nat} {pos:Pos} (z q1 q2 c1 c2:uR) (x:Str) (t:Tok) (hx:x.cps=#[]) (jz:z≠c1) :
  Turn P w K (.Tuple es k pos) ur [z,q1,c1] z (fun _ h=>IsZip h z q1 q2 .none/\IsPair h q1 (.ref c1) (.ref c2)/\h.IsStrIter c1 "str_ascii_iterator" x t 0) where
 mem:=by simp
 obj:=fun i h ⟨s1,s2,⟨o4,e4,_,d4⟩⟩ y hy=>by
  simp only [u6,AY,or_false] at hy;rcases hy with rfl | rfl | rfl
  ·exact⟨_,s1,fun y e=>by have e':Data.fields _=Data.cell y:=e;cases e'⟩
  ·exact⟨_,s2,fun y e=>by have e':Data.seq _=Data.cell y:=e;cases e'⟩
  ·exact⟨o4,e4,fun y e=>by rw [d4] at e;cases e⟩
 keep:=fun i h h' ⟨s1,s2,⟨o,e,r⟩⟩ kk=>⟨kk z (by simp) _ s1,kk q1 (by simp) _ s2,⟨o,kk c1 (by simp) o e,r⟩⟩
 item:=fun X hP hw hK hc i CQ s σ H E I hf st hg=>hg.elim
 done:=by
  intro X hP hw hK hc i CQ s σ H E I hf st hg;subst hP hw hK;obtain⟨s1,s2,s3⟩:=st;refine ka (I.ok.hd hc) jz s1 s2 s3 (by rw [hx];rfl) fun h' eb=>⟨rfl,I.turnedAll (t':=s.toks) hf fun c o hb e'=>?_⟩;simp only [u6,AY,or_false,not_or] at hb;exact eb c o hb.1 hb.2.2 e'
 self:=fun _ _ _ _ _ st h=>wpAny_pyIter_zip st.1 h
section
variable {X:Cx} {es:List Expr} {k:Nat} {tpos:Pos}
def pZ (K:uQ) (ta:TA):TI:=fun σ H R=>ta σ H fun vs H1=>∃ x b,vs=[.str x,.ref b]/\x.cps=#[]/\(∃ ys,SqL K H1 b ys)/\R ur H1
theorem oj {K:uQ} {a b:Expr} {ta:TA} {p pos:Pos} (hK:X.K=K) (hg:Gl X "zip") (hm:X.mg "zip"=none) (ha:PA X [a,b] ta) (hs:u4 [a,b] X.env=(false,eval a X.env) :: u4 [b] X.env:=by rfl) (hl:(backTo pos (u4 [b] X.env)).any (·.1)=false:=by rfl):PI X (.Tuple es k tpos) (.Call (.Name "zip" p) [a,b] [] pos) (pZ K ta):=by
 subst hK;intro CQ s σ H R I h;refine Call_ (au I hg hm boot_zip (xT (thn (ha pos CQ s σ H _ I h) fun us s1 ⟨vs,H1,I1,r1,x,b,e,hx,⟨ys,hq⟩,q⟩=>?_) hs hl));subst e;cases r1 with
 | cons r rr =>
  cases rr with
  | cons r' rr' =>
   cases rr';cases r';obtain⟨t,rfl⟩:=r;obtain⟨its,rv,p,_⟩:=I1.list hq;refine kc (by rw [hx];simp) p.isList fun h' m1 m2 m3 kp=>wpAny_pyIter_zip m1 ?_;refine⟨_,[s1.heap.objs.size+4,s1.heap.objs.size+2,s1.heap.objs.size],_,_,H1,rfl,I1.kept (t':=s1.toks) kp,ke _ _ _ _ _ x t hx (show (s1.heap.objs.size+4:Nat)≠s1.heap.objs.size by omega),⟨m1,m2,m3⟩,fun c hc=>?_,q⟩;have hle:s1.heap.objs.size<=c:=by
    simp only [u6,AY,or_false] at hc;rcases hc with rfl | rfl | rfl <;> omega
   exact I1.fpOk hle (I1.hok.fresh hle)
end
section
variable {K:uQ} {f:Fx} {ρ:zq} {t:TA} {R:List PyData->Prop}
theorem sW (h:PAd K f t ρ fun xs=>∃ x ds,xs=[.dat (.str x),.dat (.list ds)]/\x.cps=#[]/\R []):PId K f (pZ K t) ρ R:=fun σ H C e q=>h σ H _ e fun xs vs H1 g1 r1 ⟨x,ds,ex,hx,p⟩=>by
 subst ex;cases r1 with
 | cons rx r' =>
  cases r' with
  | cons ry r'' =>
   cases r'';obtain rfl:=df rx;obtain⟨b,ys,rfl,k1,k2⟩:=zH.mp ry;exact⟨x,b,rfl,hx,⟨ys,(zo _ _).seq k1⟩,q [] _ H1 g1 ⟨fun f' H' i d fo sm hd=>(by cases hd),fun f' H' _ sm=>trivial⟩ p⟩
end
theorem sX {K:uQ} {f:Fx} {H:Hp} {x:Str}:RepV K f H (.dat (.str x)) (.str x):=(zD.mpr rfl:Rep K (hide H f) (.str x) (.str x))
def mr (i:Nat) (g:uR) (sp:Sp) (t:TA):TE:=fun σ H Q=>σ[i]?=some (some (.ref g))/\t σ H fun vs H1=>sp vs H1 Q E0
theorem mw {X:Cx} {k i:Nat} {g:uR} {x:Str} {ps:List Str} {sp:Sp} {y:Str} {e:Expr} {es:List Expr} {t:TA} {p pos:Pos} (G:FnIn X.prog X.w X.K X.mg X.base k y ps sp) (hm:X.mg y=some (.ref g)) (hr:Room k X.A) (hN:X.N[i]?=some x) (hv:Vis X.env.scope x) (ha:PA X (e :: es) t)
  (hd:(x == ("__debug__":Str))=false:=by decide) (hcd:(x == ("__classdict__":Str))=false:=by decide)
  (he:u4 (e :: es) X.env=(false,eval e X.env) :: u4 es X.env:=by rfl) (hpl:(backTo pos (u4 es X.env)).any (·.1)=false:=by rfl):PE X (.Call (.Name x p) (e :: es) [] pos) (mr i g sp t):=by
 intro CQ s σ H Q I h;obtain⟨hi,h⟩:=h;obtain⟨f,fd,F,e1,hk,hb⟩:=G.ex;obtain rfl:f=g:=by rw [hm] at e1;cases e1;rfl
 refine wpAny_Call_Name_kw (thn (kv (pos:=p) hN hv hd hcd CQ s σ H (fun v H1=>v=.ref f/\H1=H) I ⟨_,hi,rfl,rfl⟩) fun u s1 ⟨v,H1,I1,rv,ev,eH⟩=>?_);subst ev eH;obtain rfl:u=Value.ref f:=rv;refine xC (first:=[]) (h₀:=X.base) I1.ok.mod.kin hk (thn (ha pos CQ s1 σ H1 _ I1 h) fun us s2 ⟨vs,H2,I2,r2,q2⟩=>⟨I2.kIn,?_⟩) he hpl;exact cS (dvs:=[]) (ds:=[]) F hr hb .nil dO I2 r2 (by rw [xf];exact q2)
def p7 (K:uQ) (a:uR) (t:TA):TE:=fun σ H Q=>(∃ z v,HasK K a z v)/\t σ H fun vs H1=>∃ z d v y,vs=[.str z,d]/\HasK K a z v/\RelV y v/\Q y H1
theorem kf {X:Cx} {K:uQ} {x:Str} {a:uR} {e1 e2:Expr} {t:TA} {p apos cpos:Pos} (hK:X.K=K) (hg:Gl X x) (hm:X.mg x=some (.ref a)) (hdn:(K.lookup a).bind (·.dict)=none) (ha:PA X [e1,e2] t)
  (hbase:attributeBase (.Name x p) "get" X.env (eval (.Name x p) X.env)=eval (.Name x p) X.env)
  (hfew:((backTo cpos (u4 [e1,e2] X.env)).all (fun x=>!x.1) && (backToKw cpos (keywordEach [] X.env)).all (fun x=>x.1.isSome)
   && decide ([e1,e2].length+([]:List Keyword).length+(if ([]:List Keyword).isEmpty then 0 else 1)<30))=true)
  (hline:(apos.endLine == cpos.line)=true) (hs:u4 [e1,e2] X.env=(false,eval e1 X.env) :: u4 [e2] X.env) (hplain:(backTo cpos (u4 [e2] X.env)).any (·.1)=false) (hdb:(x == ("__debug__":Str))=false:=by decide) :
  PE X (.Call (.Attribute (.Name x p) "get" apos) [e1,e2] [] cpos) (p7 K a t):=by
 subst hK;intro CQ s σ H Q I h;obtain⟨⟨z0,v0,h0⟩,h⟩:=h;obtain⟨o,es,ep,lk,hc,hd,_,_⟩:=h0.ex;have ho:s.heap.get? a=some o:=I.kIn a o lk;refine wpAny_Call_method_late hbase hfew hline rfl (y2 I hg hm ?_ hdb);refine⟨"dict","dict.get",PySem.F.plainAttrs_dict,PySem.F.slot_dict_get,PySem.F.type_dict_get,⟨o,ho,hc⟩,(fun b e=>by cases e;exact⟨o,ho,by rw [lk] at hdn;exact hdn⟩),?_⟩;have hA:=ha cpos CQ s σ H _ I h;rw [hs] at hA ⊢;refine Ay (by show (false || (backTo cpos (u4 [e2] X.env)).any (·.1))=false;rw [hplain] <;> rfl) (AM ?_);exact thn hA fun us s2 ⟨vs,H2,I2,r2,z,d,v,y,ev,hh,ry,q2⟩=>by
  obtain⟨o',es',ep',lk',hc',hd',hall,hv⟩:=hh.ex;exact oa CQ s2 σ H2 (.ref a) vs (.ref a) us Q I2 rfl r2 ⟨a,o',es',ep',z,d,v,y,rfl,ev,lk',hc',hd',hall,hv,ry,q2⟩
section
variable {K:uQ} {f:Fx} {ρ:zq} {t:TA} {te:TE} {P:PyData->Prop} {B:Bool->Prop} {D:DEnds} {a:uR} {i j:Nat}
theorem sY {z:Str} {dd:PyData} {v:Value} {y:V} {r:PyData} (hh:HasK K a z v) (ry:RelV y v) (rr:∀ H,Rep K H r y) (h:PAd K f t ρ fun xs=>xs=[.dat (.str z),.dat dd]/\P r):PEd K f (p7 K a t) ρ P:=fun σ H Q e q =>
 ⟨⟨z,v,hh⟩,h σ H _ e fun xs vs H1 g1 r1 ⟨ex,p⟩=>by
  subst ex;cases r1 with
  | cons rx r' =>
   cases r' with
   | cons rd r'' =>
    cases r'';obtain rfl:=df rx;exact⟨z,_,v,y,rfl,hh,ry,q r y H1 g1 (rr _) p⟩⟩
theorem uu {z:Str} {v:Value} (hh:HasK K a z v) (h:PEd K f te ρ fun d=>d=.str z/\P (.bool true)):PEd K f (tOp (sS K) te (tC (.ref a))) ρ P:=fun σ H Q e q =>
 h σ H _ e fun d w H1 g1 r1 ⟨ed,p⟩=>by
  subst ed;obtain rfl:=zD.mp r1;exact⟨a,z,v,rfl,rfl,hh,q _ _ H1 g1 (zF.mpr rfl) p⟩
theorem sZ {z:Str} {g:uR} (hj:ρ[j]?=some (some (.dat (.str z)))) (hh:HasK K a z (.ref g)) (h:D.nx (ρ.set i (some (.mon fun _ v=>v=.ref g)))):PSd K f (vt (pX K a (yN j)) (qQ i)) ρ D:=fun σ H E e n r b c=>by
 obtain⟨v,hv,rv⟩:=e.get j _ hj;obtain rfl:=df rv;exact⟨_,hv,z,_,.ref g,rfl,hh,rfl,n _ _ H (.refl e.fd) (e.set i (x:=.mon fun _ v=>v=.ref g) fun _ _=>rfl) h⟩
theorem om {γ:Type} {n:Nat} {g:uR} {pre:γ->List DV->Prop} {post:γ->PyData->Prop} (hi:ρ[i]?=some (some (.mon fun _ v=>v=.ref g))) (c:γ) (h:PAd K f t ρ fun xs=>xs.length=n/\pre c xs/\∀ r,post c r->P r):PEd K f (mr i g (spD K n pre post) t) ρ P:=fun σ H Q e q=>by
 obtain⟨v,hv,rv⟩:=e.get i _ hi;obtain rfl:v=.ref g:=rv _ (Same.refl _);exact⟨hv,h σ H _ e fun xs vs H1 g1 r1 ⟨hl,hp,k⟩=>⟨f,xs,c,r1,hl,g1.2,hp,fun r v H' g' r' p'=>q r v H' (g1.trans g') r' (k r p')⟩⟩
end
structure DefM (K:uQ) (C:uR) (m qual:Str) (st:Stmt) (ps:List Str):Prop where
 ex:∃ (f:uR) (fd:FuncData),Fun K m qual st f fd/\Binds K fd ps []/\Meth K C m f
structure FnInO (P:Program) (w:World) (K:uQ) (mg:Str->Option Value) (base:Heap) (k:Nat) (m:Str) (ps:List Str) (sp:uR×Sp):Prop where
 ex:∃ (f:uR) (fd:FuncData),FnOk P w K mg base CX0 k f fd ps sp.2/\Meth K sp.1 m f/\Binds K fd ps []
section
variable {P:Program} {w:World} {K:uQ} {mg:Str->Option Value} {base:Heap} {j k n:Nat} {C:uR} {m qual:Str} {st:Stmt} {ps N:List Str} {γ:Type} {pre:γ->List DV->Prop} {post:γ->PyData->Prop} {sp:uR×Sp}
theorem FnInO.mono (h:FnInO P w K mg base j m ps sp) (hk:j<=k):FnInO P w K mg base k m ps sp:=let⟨f,fd,a,b,c⟩:=h.ex;⟨f,fd,a.mono hk,b,c⟩
theorem DefM.ok (F:DefM K C m qual st ps) (S:FnScope N ps (zh st)) (hn:ps.length=n)
  (h:∀ (fa:uR) (cdv:Value) (A:Around) (outer:List Env) (s:Shared) (H:Hp) (E:XK),Room k (A.deeper (envOfC qual (zh st) s.heap.objs.size fa cdv)) ->
   ∃ t,PSs (zS CX0 P w K mg base N qual (zh st) fa cdv A outer s H E).nox (zU st) t/\∀ (f:Fx) (xs:List DV) (c:γ),xs.length=n->pre c xs->PSd K f t (jN N xs) { nx:=fun _=>post c .none,rt:=post c }) :
  FnInO P w K mg base (k+1) m ps (C,spD K n pre post):=by
 obtain⟨fa,fd,F1,F2,F3⟩:=F.ex;refine⟨fa,fd,F1.ok S (fun vs H Q E h=>?_) (fun cdv A outer s H vs Q E hr hs=>?_),F3,F2⟩
 ·obtain⟨f,xs,c,r,hl,_⟩:=h;rw [r.length,hl,hn]
 ·obtain⟨f,xs,c,r,hl,fo,hp,q⟩:=hs;obtain⟨t,h1,h2⟩:=h fa cdv A outer s H E hr;exact⟨t,h1,h2 f xs c hl hp (start N vs) H _ (je r fo) (fun _ _ H' g _ p=>q .none _ H' g (jm.mpr rfl) p) (fun d v H' g r p=>q d v H' g r p) (fun _ _ _ _ _ z=>z.elim) (fun _ _ _ _ _ z=>z.elim)⟩
theorem mx {X:Cx} {o e:Expr} {es:List Expr} {ta:TE} {t:TA} {apos pos:Pos} {pl:Sem Bool} (G:FnInO X.prog X.w X.K X.mg X.base k m ps sp) (c:Cls X.K sp.1) (hr:Room k X.A) (he:PE X o ta) (ha:PA X (e :: es) t)
  (hst:u4 (e :: es) X.env=(false,eval e X.env) :: u4 es X.env:=by rfl) (hpl:(backTo pos (u4 es X.env)).any (·.1)=false:=by rfl)
  (ht:eval (.Call (.Attribute o m apos) (e :: es) [] pos) X.env=(do
   let ov <- eval o X.env
   standAt apos.atName
   let (f,first) <- holding [ov] (getMethod ov m pl)
   callWith pos f first (backTo pos (u4 (e :: es) X.env)) (backToKw pos (keywordEach [] X.env))):=by rfl) :
  PE X (.Call (.Attribute o m apos) (e :: es) [] pos) (kS sp.1 m sp.2 [] E0 ta t):=by
 obtain⟨f,fd,F,hm,hb⟩:=G.ex;exact nq (pl:=pl) he c hm F hr hb .nil dO ha hst hpl ht
end
section
variable {X:Cx} {k:Nat} {C f:uR} {fd:FuncData} {ps:List Str} {sp:Sp} {t:TA} {fx y:Str} {e0:Expr} {es:List Expr} {p py cpos spos:Pos} {rest:List Stmt} {tr:TS} {i:Nat}
theorem oo {CQ:List (uR×Obj)} {σ:St} {H:Hp} {s:Shared} {E:XK} {Q:VK} {us:List Value} {vs:List V} (M:Mk X.K C f) (F:FnOk X.prog X.w X.K X.mg X.base (CXf X.prog X.w) k f fd ps sp) (hr:Room (k+1) X.A) (hb:Binds X.K fd ps []) (I:Inv X CQ σ H s) (r:Vals vs us)
  (h:∀ x dx,H x=none->H dx=none->dx≠x->sp (.ref x :: vs) (upd (upd H dx (.own x)) x (.ins C dx [])) (fun v H2=>v=.non/\Q (.ref x) H2) E) :
  wb (model X.prog X.w) X.A (call (.ref C) us) (EP X CQ σ Q) (fun e s'=>∃ H1 s1,Inv X CQ σ H1 s1/\CXf X.prog X.w X.stack H1 s1 E e s') s:=by
 have hq:=h (s.heap.objs.size+1) s.heap.objs.size (I.hok.fresh (Br _)) (I.hok.fresh (wc _)) (wC (AV _));have I2:=Inv.made (C:=C) I;have r2:Vals (V.ref (s.heap.objs.size+1) :: vs) (Value.ref (s.heap.objs.size+1) :: us):=.cons rfl r;have hl:(Value.ref (s.heap.objs.size+1) :: us++[]).length=ps.length:=by
  have e:=r2.length;rw [F.len _ _ _ _ hq] at e;rw [xf];exact e.symm
 have hb2:=hb _ (Value.ref (s.heap.objs.size+1) :: us) I2.kIn hl;rw [xf] at hb2;refine wpAny_call (kP (f:=f) I.kIn M.makes M.init (beq_iff_eq.mp M.fn) (A0 (F.run _ X.stack _ _ ⟨Value.ref (s.heap.objs.size+1) :: us,[]⟩ (Value.ref (s.heap.objs.size+1) :: us) _ _ E (hr.make C us [])
  (I2.env0.make C us []) hb2 r2 hq) fun r s' hq'=>?_))
 cases r with
 | error e=>exact⟨_,_,I2,hq'⟩
 | ok fl =>
  cases fl with
  | ret u =>
   obtain⟨v,H',I3,rv,ev,q3⟩:=I2.after hq';subst ev;exact⟨rv,⟨V.ref (s.heap.objs.size+1),H',I3,rfl,q3⟩⟩
  | next=>exact wR hq'
  | brk=>exact wR hq'
  | cont=>exact wR hq'
def p8 (C:uR) (sp:Sp) (t:TA) (i:Nat) (tr:TS):XK->TS:=fun E D σ H=>t σ H fun vs H1=>∀ x dx,H1 x=none->H1 dx=none->dx≠x->sp (.ref x :: vs) (upd (upd H1 dx (.own x)) x (.ins C dx [])) (fun v H2=>v=.non/\tr D (σ.set i (some (.ref x))) H2) E
theorem oq (M:Mk X.K C f) (F:FnOk X.prog X.w X.K X.mg X.base (CXf X.prog X.w) k f fd ps sp) (hb:Binds X.K fd ps []) (hr:Room (k+1) X.A) (hgf:Gl X fx) (hmf:X.mg fx=some (.ref C))
  (ha:PA X.nox (e0 :: es) t) (hN:X.N.Nodup) (hi:X.N[i]?=some y) (hy:Loc X.env.scope y) (hfy:X.fn y=true \/ X.env.scope.names.lookup y=some .local) (hR:PSs X.nox rest tr)
  (hdf:(fx == ("__debug__":Str))=false:=by decide) (he:u4 (e0 :: es) X.env=(false,eval e0 X.env) :: u4 es X.env:=by rfl) (hpl:(backTo cpos (u4 es X.env)).any (·.1)=false:=by rfl)
  (hsw:swapsWith (.Call (.Name fx p) (e0 :: es) [] cpos) (some (.Name y py)) spos.line X.env=pure false:=by rfl) :
  PBy X (.Assign [.Name y py] (.Call (.Name fx p) (e0 :: es) [] cpos) spos :: rest) (p8 C sp t i tr):=by
 intro CQ s σ H D E I h;refine AZ (wpAny_Assign_Name (wpAny_Call_Name_kw (y2 I hgf hmf ?_ hdf)) hsw);refine xC (h₀:=X.base) I.ok.mod.kin M.kp (wW (ha cpos CQ s σ H _ (I.wish _) h) (fun us s1 q=>?_) fun _ _ z=>z.elim) he hpl;obtain⟨vs,H1,I1',r,q⟩:=q;have I1:Inv X CQ σ H1 s1:=I1'.unwish;refine⟨I1.kIn,wW (oo M F hr hb I1 r (Q:=fun v H2=>tr D (σ.set i (some v)) H2) q) (fun u s2 z=>?_) fun _ _ z=>z⟩;obtain⟨v,H2,I2,r2,q2⟩:=z;refine qN I2 hN hi hy r2 (fun s3 I3=>?_) hfy;refine wW (hR CQ s3 _ H2 D (I3.wish _) q2) (fun fl s4 z=>?_) fun _ _ z=>z.elim;cases fl with
 | next=>obtain⟨σ',H',J,q⟩:=z;exact⟨σ',H',J.unwish,q⟩
 | brk=>obtain⟨σ',H',J,q⟩:=z;exact⟨σ',H',J.unwish,q⟩
 | cont=>obtain⟨σ',H',J,q⟩:=z;exact⟨σ',H',J.unwish,q⟩
 | ret u=>obtain⟨v',σ',H',J,q⟩:=z;exact⟨v',σ',H',J.unwish,q⟩
end
def my {γ:Type} (K:uQ) (C:uR) (n:Nat) (pre:γ->List DV->Prop) (φ:γ->Hp->V->Prop) (told:γ->Prop) (exc:γ->Value->XD->Prop):Sp:=fun vs H Q E=>∃ f x dx us xs c H1,vs=.ref x :: us/\H=upd (upd H1 dx (.own x)) x (.ins C dx [])/\H1 x=none/\H1 dx=none/\dx≠x/\RepVs K f H1 xs us/\xs.length=n/\FOk f H1/\pre c xs /\
 (∀ H',told c->Goes f H1 H'->(∀ H'',Same (hide H' f) H''->φ c H'' (.ref x))->Q .non H')/\Wish K f E H1 (exc c)
structure FnInN (P:Program) (w:World) (K:uQ) (mg:Str->Option Value) (base:Heap) (k:Nat) (m:Str) (ps:List Str) (sp:uR×Sp):Prop where
 ex:∃ (f:uR) (fd:FuncData),FnOk P w K mg base (CXf P w) k f fd ps sp.2/\Mk K sp.1 f/\Binds K fd ps []
theorem FnInN.mono {P:Program} {w:World} {K:uQ} {mg:Str->Option Value} {base:Heap} {j k:Nat} {m:Str} {ps:List Str} {sp:uR×Sp} (h:FnInN P w K mg base j m ps sp) (hk:j<=k):FnInN P w K mg base k m ps sp:=let⟨f,fd,a,b,c⟩:=h.ex;⟨f,fd,a.mono hk,b,c⟩
section
variable {K:uQ} {f:Fx} {ρ:zq} {t:TA} {ts:TS} {D:DEnds} {Z:Value->XD->Prop}
theorem tf {γ:Type} {n i:Nat} {C:uR} {pre:γ->List DV->Prop} {φ:γ->Hp->V->Prop} {told:γ->Prop} {exc:γ->Value->XD->Prop} (c:γ)
  (h:PAd K f t ρ fun xs=>xs.length=n/\pre c xs/\(told c->PSd K f ts (ρ.set i (some (.mon (φ c)))) D)/\∀ C x,exc c C x->Z C x):PYd K f (p8 C (my K C n pre φ told exc) t i ts) ρ D Z:=fun E σ H N e nx rt bk ct z =>
 h σ H _ e fun xs vs H1 g1 r1 ⟨hl,hp,k,kz⟩ x dx hx hdx hne=>by
  refine⟨f,x,dx,vs,xs,c,H1,rfl,rfl,hx,hdx,hne,r1,hl,g1.2,hp,fun H' hT g' hφ=>⟨rfl,?_⟩,fun C o y H' g' fi p'=>z C o y H' (g1.trans g') fi (kz C y p')⟩;have gg:=g1.trans g';exact k hT _ H' N ((e.mono gg).set i (x:=.mon (φ c)) (v:=.ref x) hφ) (fun ρ2 σ2 H2 g2=>nx ρ2 σ2 H2 (gg.trans g2)) (fun d v H2 g2=>rt d v H2 (gg.trans g2)) (fun ρ2 σ2 H2 g2=>bk ρ2 σ2 H2 (gg.trans g2)) (fun ρ2 σ2 H2 g2=>ct ρ2 σ2 H2 (gg.trans g2))
end
noncomputable def vn (K:uQ) (C:uR):Bool:=AU K C Be && Bi K C && BL K C && wx K (.ref C) "__setattr__" == some (some (.builtin "object.__setattr__")) && wx K (.ref C) "rows" == some none && wx K (.ref C) "past" == some none && Bv K C && wF K (.ref C)
structure DeskC (K:uQ) (C:uR):Prop where
 cls:Cls K C
 rows:NoAttr K C "rows"
 past:NoAttr K C "past"
 mks:Bv K C=true
 kp:wF K (.ref C)=true
theorem DeskC.of {K:uQ} {C:uR} (h:vn K C=true):DeskC K C:=by
 unfold vn at h;simp only [wB,beq_iff_eq] at h;obtain⟨⟨⟨⟨⟨⟨⟨h1,h2⟩,h3⟩,h4⟩,h5⟩,h6⟩,h7⟩,h8⟩:=h;exact⟨⟨h1,h2,h3,h4⟩,h5,h6,h7,h8⟩
def DeskIs (K:uQ) (C:uR) (d:PyData):Hp->V->Prop:=fun h v=>∃ a dx u p,v=.ref a/\h a=some (.ins C dx [("rows",u),("past",.ref p)])/\Rep K h d u
theorem DeskIs.fld {K:uQ} {C:uR} {d:PyData} (T:DeskC K C):∀ H v,DeskIs K C d H v->∃ a C dx fs u,v=.ref a/\H a=some (.ins C dx fs)/\Cls K C/\NoAttr K C "rows"/\fs.lookup ("rows":Str)=some u/\Rep K H d u :=
 fun H v ⟨a,dx,u,p,e,ha,r⟩=>⟨a,C,dx,_,u,e,ha,T.cls,T.rows,rfl,r⟩
theorem DeskIs.say {K:uQ} {C:uR} {d:PyData}:∀ H v,DeskIs K C d H v->∃ a dx fs,v=.ref a/\H a=some (.ins C dx fs)/\fs.lookup ("say":Str)=none :=
 fun H v ⟨a,dx,u,p,e,ha,r⟩=>⟨a,dx,_,e,ha,by
  have e1:((("say":Str)) == ("rows":Str))=false:=by decide
  have e2:((("say":Str)) == ("past":Str))=false:=by decide
  rw [wN,e1,wN,e2]
  rfl⟩
theorem kg {γ:Type} {K:uQ} {C:uR} (T:DeskC K C) {pre:γ->List DV->Prop} {post:γ->PyData->Prop} {exc:γ->Value->XD->Prop} {pz:γ->Str->Prop} {dz:γ->PyData} {told:γ->Prop} (hp:∀ c z,pz c z->pre c [.dat (.str z)]) (hpost:∀ c r,post c r->r=dz c/\told c)
  {vs:List V} {H:Hp} {Q:VK} {E:XK} (h:my K C 1 (fun c xs=>∃ z,xs=[.dat (.str z)]/\pz c z) (fun c=>DeskIs K C (dz c)) told exc vs H Q E) {σ:St} (h0:σ[0]?=some (vs[0]?)) (h1:σ[1]?=some (vs[1]?)) :
  aY (rK K (yN 0) (qG (spF K 1 pre post exc) [] E (z9 (yN 1) jl)) "rows") (rK K (yN 0) (kR jl) "past") { nx:=fun _ H'=>Q .non H',rt:=Q } σ H:=by
 obtain⟨f,x,dx,us,xs,c,H1,rfl,rfl,hx,hdx,hne,rv,hl,fo,⟨z,rfl,hz⟩,q,wz⟩:=h;cases rv with
 | @cons _ v1 _ _ r1 rn =>
 cases rn;obtain rfl:=df r1;have s0:Same H1 (upd (upd H1 dx (.own x)) x (.ins C dx [])):=(yd hdx _).trans (yd (by rw [zl fun e=>hne e.symm];exact hx) _);have nx:=fresh_ne fo hx
 let f':Fx:={ f with M:=x :: f.M }
 have hid:∀ {G:Hp} {b:uR} {o:HO},hide G f b=some o->b≠x->hide G f' b=some o:=fun {G b o} e n=>by
  obtain⟨n1,e1⟩:=zC e;refine zA (fun z=>?_) e1;rcases z with z | z
  ·exact n1 (.inl z)
  ·rcases u6.mp z with z | z
   ·exact n z
   ·exact n1 (.inr z)
 have hid2:∀ {G:Hp} {b:uR} {o:HO},hide G f' b=some o->hide G f b=some o/\b≠x:=fun {G b o} e=>by
  obtain⟨n1,e1⟩:=zC e;exact⟨zA (fun z=>n1 (z.imp id fun z=>uW _ z)) e1,fun z=>n1 (.inr (z▸u3 ..))⟩
 have fo':FOk f' (upd (upd H1 dx (.own x)) x (.ins C dx [])):=by
  refine⟨fun p e=>let⟨a,b,e1,e2⟩:=fo.fd p e;⟨a,b,s0 _ _ e1,e2⟩,fun b hb=>?_,fun p e z=>?_⟩
  ·rcases u6.mp hb with rfl | hb
   ·exact⟨_,zr⟩
   ·obtain⟨o,e⟩:=fo.mm b hb;exact⟨o,s0 _ _ e⟩
  ·rcases u6.mp z with z | z
   ·exact nx (.inl (z▸e))
   ·exact fo.nm p e z
 have toG:∀ {H':Hp},Goes f' (upd (upd H1 dx (.own x)) x (.ins C dx [])) H'->Goes f H1 H':=fun {H'} g=>by
  refine⟨fun b o e=>?_,⟨fun p e=>g.ok.fd p e,fun b hb=>g.ok.mm b (uW _ hb),fun p e z=>g.ok.nm p e (uW _ z)⟩,fun b hb=>?_⟩
  ·have n:b≠x:=fun z=>by rw [z] at e;rw [(zC e).2] at hx;cases hx
   have e2:hide (upd (upd H1 dx (.own x)) x (.ins C dx [])) f b=some o:=zA (zC e).1 (s0 _ _ (zC e).2);exact (hid2 (g.sm b o (hid e2 n))).1
  ·rw [g.kp b (uW _ hb)];obtain⟨o,e⟩:=fo.mm b hb;exact (s0 _ _ e).trans e.symm
 show (∃ v,σ[1]?=some (some v)/\_);refine⟨.str z,h1,?_⟩;show spF K 1 pre post exc ([.str z]++[]) _ _ E;refine⟨f',[.dat (.str z)],c,.cons (sX (x:=z)) .nil,rfl,fo',hp c z hz,fun r v H' g' r' p'=>?_,fun C' o y H' g' fi p'=>wz C' o y H' (toG g') (FieldIs.mono (fun b u e=>(hid2 e).1) fi) p'⟩;obtain⟨rfl,hT⟩:=hpost c r p';have hx':H' x=some (.ins C dx []):=(g'.kp x (u3 ..)).trans zr;refine⟨.ref x,h0,x,C,dx,[],rfl,hx',T.cls,T.rows,by decide,?_⟩;have pe:qL "rows" v []=[(("rows":Str),v)]:=rfl;rw [pe];refine (show _/\_ from⟨xA _,fun p hpn=>?_⟩);have px:p≠x:=fun e=>by rw [e,zr] at hpn;cases hpn
 refine⟨.ref x,h0,x,C,dx,[("rows",v)],rfl,by rw [zl (x6 px)];exact zr,T.cls,T.past,show 1<1000 by decide,?_⟩;have hpn':H' p=none:=by rw [zl px] at hpn;exact hpn
 have keep:∀ {b:uR} {o:HO},b≠x->H' b=some o->upd (upd (upd H' x (.ins C dx [("rows",v)])) p (.lst [])) x (.ins C dx (qL "past" (.ref p) [("rows",v)])) b=some o:=fun {b o} n e=>by
  rw [zl n,zl (zB e hpn'),zl n];exact e
 have g:=toG g';refine q _ hT ⟨fun b o e=>?_,⟨fun a e=>?_,fun b hb=>?_,g.ok.nm⟩,fun b hb=>?_⟩ fun H'' s''=>?_
 ·have n:b≠x:=fun z=>by rw [z] at e;rw [(zC e).2] at hx;cases hx
  have e2:=g.sm b o e;exact zA (zC e2).1 (keep n (zC e2).2)
 ·obtain⟨i1,i2,e1,e2⟩:=g.ok.fd a e;exact⟨i1,i2,keep (fun z=>nx (.inl (z▸e))) e1,e2⟩
 ·obtain⟨o,e1⟩:=g.ok.mm b hb;exact⟨o,keep (fun z=>nx (.inr (z▸hb))) e1⟩
 ·obtain⟨o,e1⟩:=g.ok.mm b hb;have n:b≠x:=fun z=>nx (.inr (z▸hb));rw [keep n e1,<- g.kp b hb,e1]
 ·refine⟨x,dx,v,p,rfl,s'' _ _ (zA nx ?_),Rep.mono ?_ _ _ r'⟩
  ·rw [zr];rfl
  ·refine Same.trans (fun b o e=>?_) s'';obtain⟨e1,n⟩:=hid2 e;exact zA (zC e1).1 (keep n (zC e1).2)
theorem tj {X:Cx} {e:Expr}:PE X e (fun _ _ _=>False):=fun _ _ _ _ _ _ h=>h.elim
theorem tm {X:Cx} {e:Expr}:PT X e (fun _ _ _=>False):=fun _ _ _ _ _ _ h=>h.elim
theorem ou {X:Cx} {K:uQ} (hK:X.K=K):OpR X (xm .In) (sS K):=by
 subst hK;exact sT
theorem mz {X:Cx} {K:uQ} {e0 e1:Expr} {k:Nat} {pos p:Pos} {t:TGs} (hK:X.K=K) (hc:X.calm=true) (h:PGs X [e0,e1] t) (hn:(assignEach [e0,.Starred e1 p] X.env).length=2) (hst:(assignEach [e0,.Starred e1 p] X.env).findIdx? (·.1)=some 1)
  (hm:(assignEach [e0,.Starred e1 p] X.env).map (·.2)=(assignEach [e0,e1] X.env).map (·.2)):PG X (.Tuple [e0,.Starred e1 p] k pos) (mh K t):=by
 subst hK;exact n9 hc h hn hst hm
theorem uv {K:uQ} {f:Fx} {ρ:zq} {te:TE} {P:PyData->Prop} {n:String} {b:Bool} (hk:uU K (.type "str") (.type n)=some b) (h:PEd K f te ρ fun d=>∃ i,d=.str i/\P (.bool b)):PEd K f (tCB (lq K) (z9 te (z9 (tC (.ty n)) jl))) ρ P:=fun σ H Q e q=>h σ H _ e fun d v H1 g r ⟨i,ed,p⟩=>by
 subst ed;rw [zD.mp r];exact⟨_,n,b,rfl,.inr (.inr ⟨_,.str i,hk⟩),q _ _ H1 g (zF.mpr rfl) p⟩
theorem kh {X:Cx} {K:uQ} {o e:Expr} {es:List Expr} {to:TE} {t:TA} {apos cpos:Pos} (hK:X.K=K) (ho:PE X o to) (ha:PA X (e :: es) t)
  (hbase:attributeBase o "split" X.env (eval o X.env)=eval o X.env)
  (hfew:((backTo cpos (u4 (e :: es) X.env)).all (fun x=>!x.1) && (backToKw cpos (keywordEach [] X.env)).all (fun x=>x.1.isSome)
   && decide ((e :: es).length+([]:List Keyword).length+(if ([]:List Keyword).isEmpty then 0 else 1)<30))=true)
  (hline:(apos.endLine == cpos.line)=true) (hs:u4 (e :: es) X.env=(false,eval e X.env) :: u4 es X.env) (hplain:(backTo cpos (u4 es X.env)).any (·.1)=false) :
  PE X (.Call (.Attribute o "split" apos) (e :: es) [] cpos) (tBM K "str" fV to t):=by
 subst hK;exact jL wK xa xb jP ho ha hbase hfew hline hs hplain
noncomputable def strsLook:List Value->List Str->Bool
 | [],[]=>true
 | .str x _ :: vs,z :: zs=>decide (x=z) && strsLook vs zs
 | _,_=>false
theorem cI:∀ {vs:List Value} {zs:List Str},strsLook vs zs=true->Vals (zs.map V.str) vs
 | [],[],_=>.nil
 | .str x t :: vs,z :: zs,h=>by
  have h:(decide (x=z) && strsLook vs zs)=true:=h;rw [wB] at h;obtain rfl:=of_decide_eq_true h.1;exact .cons ⟨t,rfl⟩ (cI h.2)
noncomputable def mB (K:uQ) (zs:List Str) (v:Value):Bool:=match v with
 | .ref t=>(match K.lookup t with
  | some o=>o.cls == .type "tuple" && (match o.data with
   | .seq its _=>strsLook its.toList zs && decide (its.size<=1000)
   | _=>false)
  | none=>false)
 | _=>false
theorem mC {K:uQ} {zs:List Str} {v:Value} (h:mB K zs v=true):∃ t,v=.ref t/\∀ H,SqT K H t (zs.map V.str):=by
 unfold mB at h;split at h
 ·rename_i t;split at h
  ·rename_i o ho;rw [wB] at h;obtain⟨h1,h2⟩:=h;split at h2
   ·rename_i its n hd;rw [wB] at h2;exact⟨t,rfl,fun H=>.inr ⟨o,its,n,ho,beq_iff_eq.mp h1,hd,xS (yI (of_decide_eq_true h2.2)),cI h2.1⟩⟩
   ·cases h2
  ·cases h
 ·cases h
noncomputable def g8 (K:uQ) (a:uR) (z:Str) (zs:List Str):Bool:=match K.lookup a with
 | some o=>o.cls == .type "dict" && o.dict.isNone && (match o.data with
  | .dict es _=>(es.all fun e=>isExactStrKey e.key) && (match (es.toList.find? fun e=>e.key.isStr z).map (·.val) with
   | some v=>mB K zs v
   | none=>false)
  | _=>false)
 | none=>false
theorem oy {K:uQ} {a:uR} {z:Str} {zs:List Str} (h:g8 K a z zs=true):(K.lookup a).bind (·.dict)=none/\∃ t,HasK K a z (.ref t)/\∀ H,Rep K H (.tuple (zs.map .str)) (.ref t):=by
 unfold g8 at h;split at h
 ·rename_i o ho;rw [wB,wB] at h;obtain⟨⟨h1,h3⟩,h2⟩:=h;split at h2
  ·rename_i es ep hd;rw [wB] at h2;obtain⟨h4,h5⟩:=h2;split at h5
   ·rename_i v hv;obtain⟨t,rfl,hs⟩:=mC h5;refine⟨by rw [ho];exact A1.mp h3,t,⟨o,es,ep,ho,beq_iff_eq.mp h1,hd,h4,hv⟩,fun H=>yy.mpr ⟨t,_,rfl,hs H,?_⟩⟩;clear hs h5 hv
    induction zs with
    | nil=>exact .nil'
    | cons z zs ih=>exact .cons' (zD.mpr rfl) ih
   ·cases h5
  ·cases h2
 ·cases h
theorem g9 {K:uQ} {C f:uR} {m qual:Str} {st:Stmt} {oc:Value} {od an:Option uR} {osl:Array (Option Value)} {kV doc pm cdv ct:Value} (i:wx K (.ref C) m=some (some (.ref f)))
  (l:K.lookup f=some ⟨oc,od,.func (wV m qual (yt st) (zU st) (zh st) .none kV doc pm an cdv ct),osl⟩) (c:xc K cdv qual=true) (kp:wF K (.ref f)=true) (n:Ax K (.ref f)=true) {ps:List Str}
  (h:∀ (kV doc pm:Value) (an:Option uR) (cdv ct:Value) (us:List Value),us.length=ps.length->bindArgs (wV m qual (yt st) (zU st) (zh st) .none kV doc pm an cdv ct) ⟨us,[]⟩=pure (ps.zip us)):DefM K C m qual st ps :=
 ⟨f,_,vD l c kp,(vD l c kp).binds h,⟨i,n,kp⟩⟩
end L2
end
section
namespace My
open PySem PySem.Spec PyProof.Rows L2
abbrev pd:List Str:=["rows"]
abbrev pf:List Str:=["_law_feed_here"]
abbrev ph:List Str:=["_law_text_here"]
abbrev pj:List Str:=["row"]
abbrev pk:List Str:=["word"]
abbrev pq:List Str:=["_law_word_here"]
abbrev pw:List Str:=["self","line"]
abbrev pA:List Str:=["things"]
abbrev pB:List Str:=["form","texts"]
abbrev pC:List Str:=["_law_feed_here","_law_many"]
abbrev pD:List Str:=["rows","numbers"]
abbrev pE:List Str:=["self","text"]
abbrev pF:List Str:=["_law_script","_law_k"]
abbrev pG:List Str:=["_law_feed_here","_law_text_here"]
abbrev pH:List Str:=["_law_rows"]
abbrev pI:List Str:=["_law_caught"]
abbrev pJ:List Str:=["_law_script"]
local macro_rules | `(tactic| walk_at "w")=>`(tactic| repeat walk_at "dl")
local macro_rules | `(tactic| walk_at "c")=>`(tactic| exact⟨rfl,by decide +kernel,of_decide_eq_true (by kernel_rfl),of_decide_eq_true (by kernel_rfl),of_decide_eq_true (by kernel_rfl),rfl⟩)
local macro_rules | `(tactic| walk_at "s")=>`(tactic| exact⟨rfl,rfl,rfl,by decide +kernel,rfl,by decide +kernel,by decide +kernel⟩)
noncomputable def top (i:Nat):Stmt:=PySem.Challenge.pw_heightrings_k82_desks_of_texts.main.body.getD i (.Pass ⟨0,0,0,0⟩)
noncomputable abbrev jq:=top 30
noncomputable abbrev eD:List Str:=["rows","at","row"]
theorem yJ:FnScope eD pd (zh jq):=by walk_at "s"
noncomputable abbrev dg:=top 31
noncomputable abbrev tw:List Str:=pA
theorem oz:FnScope tw pA (zh dg):=by walk_at "s"
noncomputable abbrev aa:=top 32
noncomputable abbrev mD:List Str:=pj
theorem ki:FnScope mD pj (zh aa):=by walk_at "s"
noncomputable abbrev jC:=top 98
noncomputable abbrev dh:List Str:=pd
theorem b8:FnScope dh pd (zh jC):=by walk_at "s"
noncomputable abbrev jD:=top 102
noncomputable abbrev di:List Str:=["text","rows","at","line","words"]
theorem yR:FnScope di ["text"] (zh jD):=by walk_at "s"
noncomputable abbrev jZ:=top 103
noncomputable abbrev eE:List Str:=["word","figures"]
theorem ae:FnScope eE pk (zh jZ):=by walk_at "s"
noncomputable abbrev oA:=top 127
noncomputable abbrev oB:List Str:=["line","x","y"]
theorem uw:FnScope oB ["line","x","y"] (zh oA):=by walk_at "s"
noncomputable abbrev qy:=top 133
noncomputable abbrev gh:List Str:=["line","word","texts","numbers"]
theorem j3:FnScope gh ["line"] (zh qy):=by walk_at "s"
noncomputable abbrev qz:=top 134
noncomputable abbrev gi:List Str:=pB
theorem eF:FnScope gi pB (zh qz):=by walk_at "s"
noncomputable abbrev jE:=top 140
noncomputable abbrev dj:List Str:=pD
theorem b9:FnScope dj pD (zh jE):=by walk_at "s"
noncomputable abbrev qA:=top 157
noncomputable abbrev vK:List Str:=["_law_script","_law_k","_law_cell"]
theorem vb:FnScope vK pF (zh qA):=by walk_at "s"
noncomputable abbrev qB:=top 158
noncomputable abbrev gj:List Str:=["_law_feed_here","_law_many","_law_found"]
theorem aV:FnScope gj pC (zh qB):=by walk_at "s"
noncomputable abbrev j4:=top 159
noncomputable abbrev eG:List Str:=["_law_some"]
theorem af:FnScope eG [] (zh j4):=by walk_at "s"
noncomputable abbrev qC:=top 160
noncomputable abbrev gk:List Str:=["_law_feed_here","_law_way","_law_many"]
theorem vc:FnScope gk pf (zh qC):=by walk_at "s"
noncomputable abbrev qD:=top 161
noncomputable abbrev gm:List Str:=["_law_feed_here","_law_high","_law_wide","_law_plain","_law_rows","_law_y","_law_words","_law_x","_law_word_here"]
theorem ya:FnScope gm pf (zh qD):=by walk_at "s"
noncomputable abbrev jF:=top 162
noncomputable abbrev dk:List Str:=["_law_feed_here","_law_text_here","_law_signs_here","_law_sign","_law_at","_law_way","_law_swapped","_law_rows","_law_k"]
theorem yb:FnScope dk pG (zh jF):=by walk_at "s"
noncomputable abbrev jG:=top 163
noncomputable abbrev dm:List Str:=["_law_word_here","_law_low","_law_figures","_law_number_here","_law_sign"]
theorem yz:FnScope dm pq (zh jG):=by walk_at "s"
noncomputable abbrev yV:=top 164
noncomputable abbrev bb:List Str:=["_law_rows","_law_at"]
theorem qj:FnScope bb pH (zh yV):=by walk_at "s"
noncomputable abbrev vo:=top 165
noncomputable abbrev kj:List Str:=["_law_text_here","_law_rows","_law_at","_law_line","_law_numbers"]
theorem jQ:FnScope kj ph (zh vo):=by walk_at "s"
noncomputable abbrev j5:=top 166
noncomputable abbrev eI:List Str:=["_law_caught","_law_some"]
theorem jH:FnScope eI pI (zh j5):=by walk_at "s"
noncomputable abbrev qE:=top 167
noncomputable abbrev gp:List Str:=["_law_text_here","_law_desk","_law_found","_law_caught"]
theorem yE:FnScope gp ph (zh qE):=by walk_at "s"
noncomputable abbrev aW:=top 168
noncomputable abbrev hJ:List Str:=["_law_script","_law_k","_law_feed_here","_law_text_here","_law_turn","_law_found"]
theorem vL:FnScope hJ pJ (zh aW):=by walk_at "s"
noncomputable abbrev yZ:Stmt:=(bp (top 155)).getD 0 (.Pass ⟨0,0,0,0⟩)
noncomputable abbrev eJ:List Str:=pE
theorem dn:FnScope eJ pE (zh yZ):=by walk_at "s"
noncomputable abbrev jh:Stmt:=(bp (top 155)).getD 1 (.Pass ⟨0,0,0,0⟩)
noncomputable abbrev gq:List Str:=["self","line","word","numbers","answer","deed","changed"]
theorem j6:FnScope gq pw (zh jh):=by walk_at "s"
noncomputable abbrev ji:Stmt:=(bp (top 11)).getD 0 (.Pass ⟨0,0,0,0⟩)
theorem bc:FnScope ["self","at"] ["self","at"] (zh ji):=by walk_at "s"
noncomputable abbrev jK:Stmt:=(bp (top 18)).getD 0 (.Pass ⟨0,0,0,0⟩)
theorem bU:FnScope pw pw (zh jK):=by walk_at "s"
noncomputable def tab (rows:List (List Int)):PyData:=.list (rows.map fun r=>.list (r.map .int))
structure Good (w:Nat) (rows:List (List Int)):Prop where
 h1:2<=rows.length
 h2:rows.length<=7
 w1:2<=w
 w2:w<=7
 row:∀ r∈rows,r.length=w
 hgt:∀ r∈rows,∀ n∈r,-1000000000<=n/\n<=1000000000
theorem Good.ne {w:Nat} {rows:List (List Int)} (g:Good w rows):∃ r rs,rows=r :: rs:=by
 cases rows with
 | nil=>have:=g.h1;simp at this
 | cons r rs=>exact⟨r,rs,rfl⟩
theorem hU {α β:Type} {F:α->β} {xs:List α} {k:Int} {j:Nat} (hk:(j:Int)=k) (h:j<xs.length):atI (xs.map F) k=some (F xs[j]):=by
 subst hk;exact z6 (by rw [wj,uZ h];rfl)
local macro_rules | `(tactic| walk_at "dl")=>`(tactic| first
 | (with_reducible show PSd _ _ (vt _ (eY (yN _) (tC (V.int 0)) bF)) _ _;refine gM rfl ?_)
 | (with_reducible show PSd _ _ (vt _ (eY (yN _) (tC (V.int 1)) bF)) _ _;refine gN rfl ?_)
 | with_reducible refine zX ?_ | with_reducible refine az ?_ | with_reducible refine zW ?_ | with_reducible refine ye ?_ | with_reducible refine fG ?_ | with_reducible refine ym ?_
 | with_reducible refine zw ?_ | with_reducible refine cA rfl ?_ | with_reducible refine yU ?_ | with_reducible refine vG ?_
 | with_reducible refine yB ?_ | with_reducible refine t_b ?_ | with_reducible refine qT ?_ | with_reducible refine fC ?_ | with_reducible refine qf ?_ | with_reducible refine yY ?_
 | with_reducible refine bh ?_ | with_reducible refine cz ?_ | with_reducible refine qI ?_ | with_reducible refine fA ?_ | with_reducible refine jW ?_
 | with_reducible refine rR ?_ | with_reducible refine bI ?_ | with_reducible refine k6 ?_ | with_reducible refine fD ?_
 | with_reducible refine z8 ?_ | with_reducible refine nE ?_ | with_reducible refine zZ ?_ | with_reducible refine dR ?_
 | (with_reducible show PEd _ _ (yN _) _ _;refine zf rfl ?_)
 | (with_reducible show PEd _ _ (tOp (iD _) (yN _) _) _ _;refine o9 rfl ?_)
 | with_reducible refine vx ?_ | with_reducible refine k4 ?_
 | (with_reducible show PAd _ _ (z9 (yN _) _) _ _;refine vF rfl ?_)
 | with_reducible refine zj ?_ | with_reducible refine zE ?_
 | with_reducible refine jX ?_ | with_reducible refine qJ ?_ | with_reducible refine dS ?_ | with_reducible refine fE ?_ | with_reducible refine fF ?_ | with_reducible refine k7 ?_ | with_reducible refine k8 ?_
 | (with_reducible show (∃ _,_) \/ (∃ _,_);refine Or.inl ⟨_,rfl,?_⟩) | refine⟨_,rfl,?_⟩ | refine⟨_,_,rfl,?_⟩
 | (with_reducible show (_=_/\∀ _,_) \/ _;first | refine Or.inl ⟨rfl,fun a ha=>?_⟩ | refine Or.inr ⟨rfl,fun b hb hb'=>?_⟩)
 | refine⟨rfl,?_⟩
 | (refine And.intro ?side ?_;(case side=>first | omega | exact Int.ediv_nonneg (by omega) (by omega) | exact B6 _ (by omega) | exact AA _ (by omega) | decide | exact⟨by decide,by decide,by decide⟩ | exact⟨by omega,by omega⟩ | exact Or.inl ⟨by omega,by omega⟩ | exact Or.inr ⟨by omega,by omega⟩ | (refine wu (Af (by rfl)) (show _<=1000 by decide)) | ((repeat' apply And.intro) <;> first | rfl | omega | decide | assumption) | (simp [CK]))))
section
variable {P:Program} {w:World} {K:uQ} {mg:Str->Option Value} {base:Heap} {k:Nat}
theorem oC (F:Def K mg "fits" dg pA) (uac:mg "len"=none) (uaD:∃ t,mg "FEWEST"=some (.int 2 t)) (uaE:∃ t,mg "MOST"=some (.int 7 t)) :
  FnIn P w K mg base (k+1) "fits" pA (spD K 1 (fun (c:List PyData) xs=>xs=[.dat (.list c)]) fun c r=>r=.bool (decide (2<=c.length/\c.length<=7))):=by
 obtain⟨_,uaD⟩:=uaD;obtain⟨_,uaE⟩:=uaE;refine F.ok oz rfl fun fa cdv A outer s H E hr=>⟨_,(zi (zI (kK aN aN (qU rfl uaD) (zm (zV (K:=K) rfl) rfl uac wJ (zc (pv 0) zd)) (qU rfl uaE)))),?_⟩;rintro f xs ds hl rfl
 try dsimp only [zS,zt]
 walk_at "w";by_cases h:2<=ds.length
 ·rw [CT (by simp;omega)];walk_at "w";show PyData.bool _=_
  congr 1
  by_cases h7:ds.length<=7 <;> simp [h,h7] <;> omega
 ·rw [CS (by simp;omega)];show PyData.bool _=_
  congr 1
  simp [h]
theorem kl (F:Def K mg "is_row" aa pj) (uak:mg "min"=none) (ual:mg "max"=none) (uaF:∃ t,mg "LEAST"=some (.int (-1000000000) t)) (uaG:∃ t,mg "GREATEST"=some (.int 1000000000 t))
  (uaH:FnIn P w K mg base k "fits" pA (spD K 1 (fun (c:List PyData) xs=>xs=[.dat (.list c)]) fun c r=>r=.bool (decide (2<=c.length/\c.length<=7)))) :
  FnIn P w K mg base (k+1) "is_row" pj (spD K 1 (fun (c:List Int) xs=>xs=[.dat (.list (c.map .int))]) fun c r=>r=.bool (decide (2<=c.length/\c.length<=7/\∀ n∈c,-1000000000<=n/\n<=1000000000))):=by
 obtain⟨_,uaF⟩:=uaF;obtain⟨_,uaG⟩:=uaG;refine F.ok ki rfl fun fa cdv A outer s H E hr=>⟨_,(zi (zI (bz (zv uaH hr rfl (zc (pv 0) zd)) (bz (yT aN (qU rfl uaF) (zm (cB (K:=K) rfl rfl) rfl uak boot_min (zc (pv 0) zd)) (zM _)) (bw (yT aN (zm (cC (K:=K) rfl rfl) rfl ual boot_max (zc (pv 0) zd)) (qU rfl uaG) (zM _))))))),?_⟩;rintro f xs c hl rfl
 try dsimp only [zS,zt]
 walk_at "w";refine zG (c.map .int) ?_;walk_at "w";rintro r rfl;rw [uV];walk_at "w";by_cases h:2<=c.length/\c.length<=7
 ·have hne:c≠[]:=by rintro rfl;simp at h
  rw [CT (by simpa using h)];walk_at "w";intro M hM hM';walk_at "w";by_cases h2:-1000000000<=M
  ·rw [CT (by simpa using h2)];walk_at "w";intro M' hN hN';walk_at "w";show PyData.bool _=_
   congr 1
   rw [decide_eq_decide];refine⟨fun q=>⟨h.1,h.2,fun n hn=>⟨CL h2 (hM' n hn),CL (hN' n hn) q⟩⟩,fun q=>(q.2.2 M' hN).2⟩
  ·rw [CS (by simpa using h2)];show PyData.bool _=_
   congr 1
   symm;rw [decide_eq_false_iff_not];exact fun q=>h2 (q.2.2 M hM).1
 ·rw [CS (by simpa using h)];show PyData.bool _=_
  congr 1
  symm;rw [decide_eq_false_iff_not];exact fun q=>h ⟨q.1,q.2.1⟩
abbrev rf (K:uQ):Sp:=spD K 1 (fun (c:List (List Int)×Nat) xs=>xs=[.dat (tab c.1)]/\Good c.2 c.1) fun _ r=>r=.bool true
theorem tB (F:Def K mg "ask_table" jq pd) (uac:mg "len"=none) (uai:mg "enumerate"=none)
  (uaH:FnIn P w K mg base k "fits" pA (spD K 1 (fun (c:List PyData) xs=>xs=[.dat (.list c)]) fun c r=>r=.bool (decide (2<=c.length/\c.length<=7))))
  (uaN:FnIn P w K mg base k "is_row" pj (spD K 1 (fun (c:List Int) xs=>xs=[.dat (.list (c.map .int))]) fun c r=>r=.bool (decide (2<=c.length/\c.length<=7/\∀ n∈c,-1000000000<=n/\n<=1000000000)))) :
  FnIn P w K mg base (k+1) "ask_table" pd (rf K):=by
 refine F.ok yJ rfl fun fa cdv A outer s H E hr=>⟨_,(ze (z7 (ja (yf (K:=K) rfl (zv uaH hr rfl (zc (pv 0) zd)) (fun _=>rfl))) (zi qP) zJ) (ze (j9 xN rfl (vW (K:=K) rfl rfl uai (zc (pv 0) zd)) (vm (K:=K) (n:=2) rfl rfl (yi (zL (i:=1) yJ.nd rfl (Or.inl rfl) (Or.inr rfl)) (yi (zL (i:=2) yJ.nd rfl (Or.inl rfl) (Or.inr rfl)) qp))) (zi (z7 (PW.pt (vT (zN (aA (K:=K) rfl hr.units) (zm (zV (K:=K) rfl) rfl uac wJ (zc (pv 2) zd)) (zm (zV (K:=K) rfl) rfl uac wJ (zc (yw (zR (K:=K) rfl) (pv 0) zg (fun _ _=>rfl)) zd)) (zM _)) (qO (ja (yf (K:=K) rfl (zv uaN hr rfl (zc (pv 2) zd)) (fun _=>rfl)))))) (zi qP) zJ))) (zi (zI dG)))),?_⟩;rintro f xs ⟨rows,wd⟩ hl ⟨rfl,g⟩
 try dsimp only [zS,zt]
 have g1:=g.h1;have g2:=g.h2;walk_at "w";refine zG (rows.map fun r=>.list (r.map .int)) ?_;walk_at "w";rintro r rfl;dsimp only at g1 g2;refine⟨_,rfl,?_⟩;rw [uV,decide_eq_true ⟨g1,g2⟩,xh,CS uT];walk_at "w";refine fH ?_;walk_at "w";refine⟨fun i ρ=>∃ a b,ρ=[some (.dat (tab rows)),a,b],⟨_,_,rfl⟩,?_,?_⟩
 ·rintro i d ρ hd ⟨a,b,rfl⟩;rw [wj] at hd;cases hr:rows[i]? with
  | none=>rw [hr] at hd;cases hd
  | some r =>
   rw [hr] at hd;cases hd;have hm:=wM hr;have hw:=g.row r hm;obtain⟨r0,rs,hrs⟩:=g.ne;dsimp only at hrs;subst hrs;have hw0:=g.row r0 u3;walk_at "w";refine⟨_,hU (j:=0) rfl (by simp),?_⟩;walk_at "w";dsimp only at hw hw0;rw [CT rfl,uV,uV];show (if (!(((r.length:Nat):Int) == ((r0.length:Nat):Int)))=true then _ else _);rw [hw,hw0,beq_self_eq_true,xh,CS uT];walk_at "w";refine zG r ?_;walk_at "w";rintro _ rfl;refine⟨_,rfl,?_⟩;have w1:=g.w1;have w2:=g.w2;dsimp only at w1 w2;rw [decide_eq_true ⟨by omega,by omega,g.hgt r hm⟩,xh,CS uT];walk_at "w";exact⟨_,_,rfl⟩
 ·rintro ρ ⟨a,b,rfl⟩;walk_at "w";rfl
theorem oE (F:Def K mg "_law_draw" qB pC):FnIn P w K mg base (k+1) "_law_draw" pC (spD K 2 (fun (c:Int) xs=>xs=[.feed,.dat (.int c)]/\0<c/\c<1152921504606846976) fun c r=>∃ i:Int,r=.int i/\0<=i/\i<c):=by
 refine F.ok aV rfl fun fa cdv A outer s H E hr=>⟨_,(ze (z7 (zN tS (yw (zR (K:=K) rfl) (pv 0) zg (fun _ _=>rfl)) (zz bD zg zg) (zM _)) (ze (zK (i:=2) aV.nd rfl (Or.inl rfl) (zz av (yw (zR (K:=K) rfl) (pv 0) zg (fun _ _=>rfl)) (pv 1))) (ze (cQ (zz dW (yw (zR (K:=K) rfl) (pv 0) zg (fun _ _=>rfl)) (pv 1)) (kD (pv 0) zg set_list)) (zi (zI (pv 2))))) zJ) (ze (cQ (zz av (zz yL (zz yL (zz bC (yw (zR (K:=K) rfl) (pv 0) zg (fun _ _=>rfl)) zg) (zz av (yw (zR (K:=K) rfl) (pv 0) zg (fun _ _=>rfl)) zg)) zg) zg) (kD (pv 0) zg set_list)) (zi (zI (zz av (zz dW (zz av (zz bC (yw (zR (K:=K) rfl) (pv 0) zg (fun _ _=>rfl)) zg) zg) zg) (pv 1)))))),?_⟩;rintro f xs c hl ⟨rfl,c0,c1⟩
 try dsimp only [zS,zt]
 walk_at "w";split
 ·walk_at "w";exact AA _ c0
 ·walk_at "w";exact AA _ c0
abbrev gr (K:uQ):Sp:=spD K 2 (fun (c:Int) xs=>xs=[.feed,.dat (.int c)]/\0<c/\c<1152921504606846976) fun c r=>∃ i:Int,r=.int i/\0<=i/\i<c
local macro_rules | `(tactic| walk_at "dl")=>`(tactic| first
 | (with_reducible show PSd _ _ (vt _ (eY (yN _) (tC (V.int 0)) bF)) _ _;refine gM rfl ?_)
 | (with_reducible show PSd _ _ (vt _ (eY (yN _) (tC (V.int 1)) bF)) _ _;refine gN rfl ?_)
 | with_reducible refine zX ?_ | with_reducible refine az ?_ | with_reducible refine zW ?_ | with_reducible refine ye ?_ | with_reducible refine fG ?_ | with_reducible refine ym ?_
 | with_reducible refine zw ?_ | with_reducible refine cA rfl ?_ | with_reducible refine yU ?_ | with_reducible refine vG ?_
 | with_reducible refine yB ?_ | with_reducible refine t_b ?_ | with_reducible refine qT ?_ | with_reducible refine fC ?_ | with_reducible refine qf ?_ | with_reducible refine yY ?_
 | with_reducible refine bh ?_ | with_reducible refine cz ?_ | with_reducible refine qI ?_ | with_reducible refine fA ?_ | with_reducible refine jW ?_
 | with_reducible refine rR ?_ | with_reducible refine bI ?_ | with_reducible refine k6 ?_ | with_reducible refine fD ?_
 | with_reducible refine z8 ?_ | with_reducible refine nE ?_ | with_reducible refine zZ ?_ | with_reducible refine dR ?_
 | (with_reducible show PEd _ _ (yN _) _ _;refine zf rfl ?_)
 | (with_reducible show PEd _ _ (tOp (iD _) (yN _) _) _ _;refine o9 rfl ?_)
 | with_reducible refine vx ?_ | with_reducible refine k4 ?_
 | (with_reducible show PAd _ _ (z9 (yN _) _) _ _;refine vF rfl ?_)
 | with_reducible refine zj ?_ | with_reducible refine zE ?_
 | with_reducible refine d_catT ?_ | with_reducible refine bL ?_ | with_reducible refine y9 ?_ | with_reducible refine yK ?_ | with_reducible refine fM ?_ | with_reducible refine d_tupof ?_ | with_reducible refine vy ?_
 | with_reducible refine jX ?_ | with_reducible refine qJ ?_ | with_reducible refine dS ?_ | with_reducible refine fE ?_ | with_reducible refine fF ?_ | with_reducible refine k7 ?_ | with_reducible refine k8 ?_
 | (with_reducible show (∃ _,_) \/ (∃ _,_);first | refine Or.inl ⟨_,rfl,?_⟩ | refine Or.inr ⟨_,rfl,?_⟩) | refine⟨_,rfl,?_⟩ | refine⟨_,_,rfl,?_⟩
 | (with_reducible show (_=_/\∀ _,_) \/ _;first | refine Or.inl ⟨rfl,fun a ha=>?_⟩ | refine Or.inr ⟨rfl,fun b hb hb'=>?_⟩)
 | (with_reducible show PyData.canLay0 _=true/\_;refine And.intro (by first | rfl | assumption | decide +kernel) ?_)
 | (with_reducible show min _ _<=60/\_;refine And.intro (by first | assumption | (simp [CK,Ac];done)) ?_)
 | refine⟨rfl,?_⟩
 | (refine And.intro ?side ?_;(case side=>first | omega | exact Int.ediv_nonneg (by omega) (by omega) | exact B6 _ (by omega) | exact AA _ (by omega) | decide | exact⟨by decide,by decide,by decide⟩ | exact⟨by omega,by omega⟩ | exact Or.inl ⟨by omega,by omega⟩ | exact Or.inr ⟨by omega,by omega⟩ | (refine wu (Af (by rfl)) (show _<=1000 by decide)) | ((repeat' apply And.intro) <;> first | rfl | omega | decide | assumption) | (simp [CK]))))
noncomputable def bV (r:List Int):Bool:=decide (2<=r.length/\r.length<=7/\∀ n∈r,-1000000000<=n/\n<=1000000000)
noncomputable def yS (w0:Nat) (r:List Int):Bool:=decide (r.length≠w0) || !bV r
noncomputable def qk (rows:List (List Int)):Option Int:=if 2<=rows.length/\rows.length<=7 then (rows.findIdx? (yS (rows.getD 0 []).length)).map fun i=>(i:Int) else some (-1)
theorem mE {rows:List (List Int)} {i:Nat} {r:List Int} (h:2<=rows.length/\rows.length<=7) (hr:rows[i]?=some r) (b:yS (rows.getD 0 []).length r=true) (pre:∀ j:Nat,j<i->∀ q,rows[j]?=some q->yS (rows.getD 0 []).length q=false):qk rows=some (i:Int):=by
 unfold qk;rw [CT h];have hi:i<rows.length:=(uY.mp hr).1;have:rows.findIdx? (yS (rows.getD 0 []).length)=some i:=by
  rw [Aa];refine⟨hi,?_,fun j hj=>?_⟩
  ·rw [(uY.mp hr).2];exact b
  ·rw [pre j hj _ (uZ (by omega))];exact uT
 rw [this];rfl
theorem eK {rows:List (List Int)} (h:2<=rows.length/\rows.length<=7) (pre:∀ j:Nat,j<rows.length->∀ q,rows[j]?=some q->yS (rows.getD 0 []).length q=false):qk rows=none:=by
 unfold qk;rw [CT h];have:rows.findIdx? (yS (rows.getD 0 []).length)=none:=by
  rw [Ab];intro q hq;obtain⟨j,hj⟩:=Ah hq;exact pre j (uY.mp hj).1 q hj
 rw [this];rfl
theorem bf {P:Program} {w:World} {K:uQ} {mg:Str->Option Value} {base:Heap} {C f D:uR} {fd:FuncData} (hfc:qh K C f D "at"=true) (hD:mg "HeightError"=some (.ref D)) (F:Fun K "__init__" "NoTable.__init__" ji f fd):InitOk P w K mg base 1 C "at":=by
 have T:=FldC.of hfc;refine⟨f,D,fd,["self","at"],T,F.ok bc (fun vs H Q E h=>?_) (fun cdv A outer s H vs Q E hr hs=>⟨_,ze (jV (aU T rfl hD (zc (pv 0) (zc zu zd)))) (zi (gX T (pv 0) (pv 1))),?_⟩),F.binds (ps:=["self","at"]) fun _ _ _ _ _ _ us hl=>match us,hl with | [_,_],_=>rfl⟩
 ·obtain⟨a,y,rfl,_⟩:=h;rfl
 ·obtain⟨a,y,rfl,hH,q⟩:=hs;exact⟨.ref a,rfl,a,_,rfl,by decide,hH,y,rfl,.ref a,rfl,a,rfl,hH,fun dx h1 h2=>q dx h1 h2⟩
abbrev tD (K:uQ):Sp:=spD K 1 (fun (c:List PyData) xs=>xs=[.dat (.list c)]) fun c r=>r=.bool (decide (2<=c.length/\c.length<=7))
abbrev oF (K:uQ):Sp:=spD K 1 (fun (c:List Int) xs=>xs=[.dat (.list (c.map .int))]) fun c r=>r=.bool (decide (2<=c.length/\c.length<=7/\∀ n∈c,-1000000000<=n/\n<=1000000000))
abbrev mF (K:uQ) (uaa:uR):Sp:=spF K 1 (fun (c:List (List Int)) xs=>xs=[.dat (tab c)]) (fun c r=>r=.bool true/\qk c=none) fun c Cv x=>Cv=.ref uaa/\∃ i,qk c=some i/\x=some (("at":Str),PyData.int i)
theorem oG {uaa:uR} (F:Def K mg "ask_table" jq pd) (uac:mg "len"=none) (uai:mg "enumerate"=none) (uaw:mg "NoTable"=some (.ref uaa)) (I_NoTable:InitOk P w K mg base 1 uaa "at")
  (uaH:FnIn P w K mg base (k+2) "fits" pA (tD K)) (uaN:FnIn P w K mg base (k+2) "is_row" pj (oF K)):FnInF P w K mg base (k+3) "ask_table" pd (mF K uaa):=by
 refine F.okF (k:=k+2) yJ rfl fun fa cdv A outer s H E hr=>⟨_,(ze (z7 (ja (yf (K:=K) rfl (zv uaH hr rfl (zc (pv 0) zd)) (fun _=>rfl))) (zi (aE I_NoTable (hr.mono (by omega)) rfl uaw (zc (o6 kG zg) zd))) zJ) (ze (j9 PassesOwn.leaving rfl (vW (K:=K) rfl rfl uai (zc (pv 0) zd)) (vm (K:=K) (n:=2) rfl rfl (yi (zL (i:=1) yJ.nd rfl (Or.inl rfl) (Or.inr rfl)) (yi (zL (i:=2) yJ.nd rfl (Or.inl rfl) (Or.inr rfl)) qp))) (zi (z7 (PW.pt (vT (zN (aA (K:=K) rfl hr.units) (zm (zV (K:=K) rfl) rfl uac wJ (zc (pv 2) zd)) (zm (zV (K:=K) rfl) rfl uac wJ (zc (yw (zR (K:=K) rfl) (pv 0) zg (fun _ _=>rfl)) zd)) (zM _)) (qO (ja (yf (K:=K) rfl (zv uaN hr rfl (zc (pv 2) zd)) (fun _=>rfl)))))) (zi (aE I_NoTable (hr.mono (by omega)) rfl uaw (zc (pv 1) zd))) zJ))) (zi (zI dG)))),?_⟩;rintro f xs rows hl rfl
 try dsimp only [zS,zt]
 refine lX (uf (qf (yY (zG (rows.map fun r=>.list (r.map .int)) ?_))));walk_at "w";rintro _ rfl;refine⟨_,rfl,?_⟩;rw [uV];by_cases h:2<=rows.length/\rows.length<=7
 case neg =>
  rw [decide_eq_false h,xt,CT rfl];refine bo (zj (pK ?_));walk_at "w";exact⟨-1,by unfold qk;rw [CS h],rfl⟩
 rw [decide_eq_true h,xh,CS uT];refine fR ?_;walk_at "w";refine lX (uh (fK ?_));walk_at "w";refine⟨fun i ρ=>(∃ a b,ρ=[some (.dat (tab rows)),a,b])/\∀ j:Nat,j<i->∀ q,rows[j]?=some q->yS (rows.getD 0 []).length q=false,⟨⟨_,_,rfl⟩,fun j hj=>absurd hj (A8 _)⟩,?_,?_⟩
 ·rintro i d _ hd ⟨⟨a,b,rfl⟩,pre⟩;unfold qK at hd;rw [AN,wj] at hd;obtain⟨r,er,rfl⟩:∃ r:List Int,rows[i]?=some r/\d=.tuple [.int (i:Int),.list (r.map .int)]:=by
   cases er:rows[i]? with
   | none=>rw [er] at hd;cases hd
   | some r=>rw [er] at hd;cases hd;exact⟨r,rfl,rfl⟩
  obtain⟨r0,e0⟩:∃ r0,rows[0]?=some r0:=⟨_,uZ (by omega)⟩;have g0:(rows.getD 0 []).length=r0.length:=by rw [w5,e0];rfl
  rw [g0] at pre;have at0:atI (rows.map fun q=>PyData.list (q.map .int)) 0=some (.list (r0.map .int)):=z6 (j:=0) (by rw [wj,e0];rfl);have bad:yS r0.length r=true->qk rows=some (i:Int):=fun z=>mE h er (by rw [g0];exact z) (by rw [g0];exact pre);have fine:yS r0.length r=false->∀ j:Nat,j<i+1->∀ q,rows[j]?=some q->yS (rows.getD 0 []).length q=false:=fun z j hj q hq=>by
   rw [g0];by_cases ej:j=i
   ·subst ej;rw [er] at hq;cases hq;exact z
   ·exact pre j (by omega) q hq
  refine cA rfl (yU (zw (yU (zw (vG (uf ?_))))));walk_at "w";refine⟨_,at0,?_⟩;walk_at "w";rw [CT rfl,uV,uV];show (if (!(((r.length:Nat):Int) == ((r0.length:Nat):Int)))=true then _ else _);by_cases hw:r.length=r0.length
  ·rw [hw,beq_self_eq_true,xh,CS uT];refine qf (yY (zG r ?_));walk_at "w";rintro _ rfl;refine⟨_,rfl,?_⟩;show (if (!(bV r))=true then _ else _);cases ro:bV r with
   | true =>
    rw [xh,CS uT];refine fR ?_;walk_at "w";exact fine (by unfold yS;rw [ro,hw];simp)
   | false =>
    rw [xt,CT rfl];refine bo ?_;walk_at "w";exact⟨_,bad (by unfold yS;rw [ro];simp),rfl⟩
  ·rw [beq_eq_false_iff_ne.mpr (fun z=>hw (by omega)),xt,CT rfl,CT rfl];refine bo ?_;walk_at "w";exact⟨_,bad (by unfold yS;simp [hw]),rfl⟩
 ·rintro _ ⟨⟨a,b,rfl⟩,pre⟩;refine fR ?_;walk_at "w";refine eK h ?_;unfold qK at pre;rw [Bd,uV] at pre;exact pre
open PySem PySem.NumText PySem.Spec PyProof.Rows L2
noncomputable abbrev cpl (z:Str):List Nat:=z.cps.toList
theorem qc {x y:Str}:x=y↔cpl x=cpl y:=⟨fun h=>h▸rfl,fun h=>by
 obtain⟨⟨x⟩⟩:=x;obtain⟨⟨y⟩⟩:=y;have h:x=y:=h;rw [h]⟩
theorem zO (z:Str):(cpl z).length=z.length:=by
 show z.cps.toList.length=z.cps.size;simp
noncomputable def mkS (l:List Nat):Str:=⟨l.toArray⟩
theorem yv (l:List Nat):cpl (mkS l)=l:=by
 show l.toArray.toList=l;simp
theorem mG (z:Str):mkS (cpl z)=z:=qc.mpr (yv _)
noncomputable def dig (c:Nat):Bool:=decide (48<=c/\c<=57)
noncomputable def jr (l:List Nat):Bool:=l.head? == some 45
noncomputable def yp (l:List Nat):List Nat:=if jr l then l.drop 1 else l
noncomputable def qd (l:List Nat):Bool:=decide (1<=(yp l).length/\(yp l).length<=11) && ((yp l).all dig && (decide ((yp l).head?≠some 48) || decide (l=[48])))
noncomputable def dq (l:List Nat):Int:=if jr l then -((digitsVal (yp l):Nat):Int) else ((digitsVal (yp l):Nat):Int)
theorem du (z:Str):BI z "-"=jr (cpl z):=by
 have h:=StrLaws.subAt_one z 45 0;have e:(("-":Str))=⟨#[45]⟩:=rfl;unfold BI jr;rw [e,AD,wB,decide_eq_true_eq,beq_iff_eq];rw [h];show (cpl z)[0]?=some 45↔_;cases cpl z <;> simp
theorem gu {z:Str} (h:1<=z.length):wg z (some 1) none=mkS ((cpl z).drop 1):=by
 have hl:=zO z;rw [B0 (by rw [hl];omega)];unfold mkS
 congr 2
 show ((cpl z).drop 1).take _=_;rw [Az];rw [xD,hl];show _<=((((cpl z).length:Nat):Int) - 1).toNat;omega
theorem km (z:Str):wg z (some 0) none=z:=by
 have hl:=zO z;rw [B0 (by omega)];rw [qc];show (((cpl z).drop 0).take _).toArray.toList=_;rw [Co,Az (by show _<=((((cpl z).length:Nat):Int) - 0).toNat;omega)]
theorem bW (z:Str):wg z none (some 1)=mkS ((cpl z).take 1):=by
 have hl:=zO z;by_cases h:1<=z.length
 ·rw [StrLaws.sliceText_to (by rw [hl];omega)];rfl
 ·have e:cpl z=[]:=BU.mp (by omega);have ez:z=⟨#[]⟩:=qc.mpr e;subst ez;rfl
theorem gv (z:Str):(wg z none (some 1)=("-":Str))↔jr (cpl z)=true:=by
 rw [bW,qc,yv];have e:cpl ("-":Str)=[45]:=rfl;rw [e];unfold jr;rw [beq_iff_eq];cases cpl z <;> simp
theorem eL (z:Str):wg z (some (if jr (cpl z)=true then 1 else 0)) none=mkS (yp (cpl z)):=by
 unfold yp;cases h:jr (cpl z) with
 | false =>
  rw [CS uT,CS uT,km,mG]
 | true =>
  rw [CT rfl,CT rfl];refine gu ?_;rw [<-zO];unfold jr at h;cases e:cpl z with
  | nil=>rw [e] at h;cases h
  | cons a l=>simp
theorem gw {l:List Nat} (h:l.all dig=true):AllDigits l:=fun c hc=>by
 have:=w4.mp h c hc;unfold dig at this;exact of_decide_eq_true this
theorem int_text {z:Str} (h:qd (cpl z)=true):Cn z=some (dq (cpl z))/\z.length<=12:=by
 have hl:=zO z;unfold qd at h;rw [wB,wB,decide_eq_true_eq] at h;obtain⟨⟨h1,h2⟩,h3,_⟩:=h;have ad:=gw h3;unfold dq;cases e:jr (cpl z) with
 | false =>
  unfold yp at h1 h2 ad;rw [e,CS uT] at h1 h2 ad;refine⟨?_,by omega⟩;rw [CS uT];unfold yp;rw [e,CS uT];exact intText_digits ad (by intro q;rw [show z.cps.toList=cpl z from rfl] at q;rw [q] at h1;simp at h1) (by omega)
 | true =>
  unfold yp at h1 h2 ad;rw [e,CT rfl] at h1 h2 ad;unfold jr at e;obtain⟨r,er⟩:∃ r,cpl z=45 :: r:=by
   cases q:cpl z with
   | nil=>rw [q] at e;cases e
   | cons a l =>
    rw [q] at e;have:a=45:=by simpa using e
    exact⟨l,by rw [this]⟩
  rw [er] at h1 h2 ad hl;simp only [List.drop_succ_cons,Co] at h1 h2 ad;have hr:r≠[]:=by rintro rfl;simp at h1
  refine⟨?_,by simp only [wy] at hl;omega⟩;rw [CT rfl];unfold yp jr;rw [er];exact intText_neg er ad hr (by simp only [wy] at hl;omega)
theorem cJ (c:Nat):(!(wG ("0123456789":Str) ⟨#[c]⟩ 0 ("0123456789":Str).length 1).isEmpty)=dig c:=by
 rw [StrLaws.found_one];have e:("0123456789":Str).cps.toList=[48,49,50,51,52,53,54,55,56,57]:=rfl;rw [e];unfold dig;rw [decide_eq_decide];simp only [u6,AY,or_false];omega
theorem kn {c:Nat} (h:dig c=true):∃ rest,wG ("0123456789":Str) ⟨#[c]⟩ 0 ("0123456789":Str).length 1=(c - 48) :: rest:=by
 have h:48<=c/\c<=57:=of_decide_eq_true h;have:c=48 \/ c=49 \/ c=50 \/ c=51 \/ c=52 \/ c=53 \/ c=54 \/ c=55 \/ c=56 \/ c=57:=by omega
 rcases this with rfl | rfl | rfl | rfl | rfl | rfl | rfl | rfl | rfl | rfl <;> exact⟨[],by kernel_rfl⟩
theorem eM (l:List Nat) (c:Nat):(digitsVal (l++[c]):Nat)=10 * digitsVal l+(c - 48):=by
 rw [digitsVal_snoc];omega
open PySem PySem.NumText PySem.Spec PyProof.Rows L2
structure Tx (B T:Nat) (z:Str):Prop where
 ch:∀ c∈cpl z,c<128
 len:z.length<=T
 sep:(cpl z).countP (fun c=>c == 32 || c == 10)<=B
theorem Tx.ok {B T:Nat} {z:Str} (h:Tx B T z):(PyData.str z).canLay0=true:=by
 show B1 z=true;unfold B1;rw [Array.all_eq_true];intro i hi;refine decide_eq_true (Nat.lt_trans (h.ch _ ?_) (by decide));show z.cps[i]∈z.cps.toList;exact Array.getElem_mem_toList hi
theorem Tx.imp {B T B' T':Nat} {z:Str} (h:Tx B T z) (hB:B<=B') (hT:T<=T'):Tx B' T' z:=⟨h.ch,wu h.len hT,wu h.sep hB⟩
theorem gy {c:Nat} (h:c<128):(PyData.str ⟨#[c]⟩).canLay0=true:=by
 show B1 ⟨#[c]⟩=true;unfold B1;simp;omega
theorem ag:(30000:Nat)<=wt:=by decide
noncomputable def jR (c:Nat):List (List Nat)->List Nat
 | []=>[]
 | [x]=>x
 | x :: y :: r=>x++c :: jR c (y :: r)
theorem vp (x y:Str):cpl (x++y)=cpl x++cpl y:=by
 show (x.cps++y.cps).toList=_;rw [Cz]
theorem jS (c:Nat):∀ ts:List Str,cpl (xQ ⟨#[c]⟩ ts)=jR c (ts.map cpl)
 | []=>rfl
 | [x]=>rfl
 | x :: y :: r=>by
  show cpl (x++⟨#[c]⟩++xQ ⟨#[c]⟩ (y :: r))=cpl x++c :: jR c ((y :: r).map cpl);rw [vp,vp,jS c (y :: r),List.append_assoc];rfl
theorem j7 (p:Nat->Bool) (c:Nat):∀ L:List (List Nat),L≠[]->(jR c L).countP p+(if p c then 1 else 0)=(L.map (·.countP p)).sum+L.length * (if p c then 1 else 0)
 | [],h=>absurd rfl h
 | [x],_=>by simp [jR]
 | x :: y :: r,_=>by
  have ih:=j7 p c (y :: r) (by simp);have e:(c :: jR c (y :: r)).countP p=(jR c (y :: r)).countP p+(if p c then 1 else 0):=List.countP_cons;show (x++c :: jR c (y :: r)).countP p+_=_;rw [List.countP_append,e,xr,BR,wy,CP];omega
theorem cK {c:Nat}:∀ {L:List (List Nat)} {x:List Nat} {a:Nat},x∈L->a∈x->a∈jR c L
 | [x],_,a,h,ha=>by
  cases u7.mp h;exact ha
 | x :: y :: r,z,a,h,ha=>by
  show a∈x++c :: jR c (y :: r);rcases u6.mp h with rfl | h
  ·exact Ae _ ha
  ·exact wq _ (uW _ (cK h ha))
theorem ah {c:Nat}:∀ {L:List (List Nat)} {a:Nat},a∈jR c L->a=c \/ ∃ x∈L,a∈x
 | [x],a,h=>.inr ⟨x,u7.mpr rfl,h⟩
 | x :: y :: r,a,h=>by
  have h:a∈x++c :: jR c (y :: r):=h;rcases wQ.mp h with h | h
  ·exact .inr ⟨x,u3 ..,h⟩
  ·rcases u6.mp h with h | h
   ·exact .inl h
   ·rcases ah h with h | ⟨z,hz,h⟩
    ·exact .inl h
    ·exact .inr ⟨z,uW _ hz,h⟩
theorem eN (z:Str) (c:Nat):wD z ⟨#[c]⟩≠[]:=fun h=>by
 have:=split_pos z ⟨#[c]⟩;rw [h] at this;simp at this
theorem vM (z:Str) (c:Nat):cpl z=jR c ((wD z ⟨#[c]⟩).map cpl):=by
 rw [<-jS,StrLaws.join_split]
noncomputable abbrev jU (c:Nat):Bool:=c == 32 || c == 10
theorem dv {c:Nat} (hc:c=32 \/ c=10):jU c=true:=by rcases hc with rfl | rfl <;> rfl
theorem dw {x:Nat}:∀ {l:List Nat},x∈l->x<=l.sum
 | a :: l,h=>by
  rw [BR];rcases u6.mp h with rfl | h
  ·omega
  ·have:=dw h;omega
theorem jt (p:Nat->Bool) (z:Str) (c:Nat):(cpl z).countP p+(if p c then 1 else 0)=((wD z ⟨#[c]⟩).map fun v=>(cpl v).countP p).sum+(wD z ⟨#[c]⟩).length * (if p c then 1 else 0):=by
 have h:=j7 p c ((wD z ⟨#[c]⟩).map cpl) (by simpa using eN z c);rw [<-vM,xF,uV] at h;exact h
theorem vq {B T:Nat} {z v:Str} {c:Nat} (hc:c=32 \/ c=10) (h:Tx B T z) (hp:v∈wD z ⟨#[c]⟩):Tx B T v:=by
 have ps:=split_pos z ⟨#[c]⟩;refine⟨fun a ha=>h.ch a ?_,?_,?_⟩
 ·rw [vM z c];exact cK (A3 hp) ha
 ·have e:=jt (fun _=>true) z c;have m:=dw (A3 (f:=fun v=>(cpl v).countP fun _=>true) hp);rw [BV] at m e;rw [zO] at m e;have:=h.len;simp only [if_true,Bu] at e;omega
 ·have e:=jt jU z c;have m:=dw (A3 (f:=fun v=>(cpl v).countP jU) hp);rw [dv hc] at e;have:=h.sep;simp only [if_true,Bu] at e;show (cpl v).countP jU<=B;have h3:(cpl z).countP jU<=B:=h.sep;omega
theorem vd {B T:Nat} {z:Str} {c:Nat} (hc:c=32 \/ c=10) (h:Tx B T z):(wD z ⟨#[c]⟩).length<=B+1:=by
 have e:=jt jU z c;rw [dv hc] at e;simp only [if_true,Bu] at e;have h3:(cpl z).countP jU<=B:=h.sep;omega
theorem hV {B T:Nat} {ts:List Str} {c:Nat} (hc:c=32 \/ c=10) (h:∀ t∈ts,∀ a∈cpl t,a<128) (h1:(ts.map fun t=>(cpl t).countP jU).sum+ts.length<=B+1) (h2:(ts.map (·.length)).sum+ts.length<=T+1) (h3:T+1<=16777216) :
  JoinOk ⟨#[c]⟩ ts=true/\Tx B T (xY ⟨#[c]⟩ ts):=by
 have ej:xY ⟨#[c]⟩ ts=xQ ⟨#[c]⟩ ts:=xp _ _;refine⟨?_,?_⟩
 ·unfold JoinOk;rw [AI,StrLaws.joinTotal];unfold CA;refine decide_eq_false ?_;rw [sizeLine_eq];have:(⟨#[c]⟩:Str).length=1:=rfl;rw [this,Bu];omega
 rw [ej];cases ts with
 | nil =>
  refine⟨fun a ha=>?_,?_,?_⟩
  ·cases ha
  ·exact xA _
  ·exact xA _
 | cons t ts =>
  have hn:(t :: ts).map cpl≠[]:=by simp
  have e1:=j7 jU c _ hn;have e2:=j7 (fun _=>true) c _ hn;rw [<-jS,xF,uV] at e1 e2;rw [dv hc] at e1;simp only [if_true,Bu] at e1 e2;rw [BV,zO] at e2;have e3:((t :: ts).map ((fun x=>x.length) ∘ cpl))=(t :: ts).map (·.length):=Bz fun v _=>zO v;rw [e3] at e2;have e4:((t :: ts).map ((fun x=>x.countP jU) ∘ cpl))=(t :: ts).map fun t=>(cpl t).countP jU:=rfl;rw [e4] at e1;refine⟨fun a ha=>?_,by omega,?_⟩
  ·rw [jS] at ha;rcases ah ha with rfl | ⟨x,hx,ha⟩
   ·rcases hc with rfl | rfl <;> decide
   ·obtain⟨v,hv,rfl⟩:=wY.mp hx;exact h v hv a ha
  ·show (cpl _).countP jU<=B;omega
open PySem PySem.NumText PySem.Spec PyProof.Rows L2
abbrev hX (K:uQ):Sp:=spD K 1 (fun (c:Str) xs=>xs=[.dat (.str c)]/\Tx 700 29000 c) fun c r=>r=.bool (qd (cpl c))
theorem mH (F:Def K mg "is_number" jZ pk) (uac:mg "len"=none) (uam:mg "all"=none) (uaI:∃ t,mg "MOST_FIGURES"=some (.int 11 t)) (uaJ:∃ t,mg "FIGURES"=some (.str "0123456789" t)) :
  FnIn P w K mg base (k+1) "is_number" pk (hX K):=by
 obtain⟨_,uaI⟩:=uaI;obtain⟨_,uaJ⟩:=uaJ;refine F.ok ae rfl fun fa cdv A outer s H E hr=>⟨_,(ze (zK (i:=1) ae.nd rfl (Or.inl rfl) (kx (yf (K:=K) rfl (jL wK PySem.F.slot_str_startswith PySem.F.type_str_startswith i3 (pv 0) (zc zu zd)) (fun _=>rfl)) (zT jf (pv 0) (zY zg) yj) (pv 0))) (ze (z7 (ja (dI aN aN zg (zm yH rfl uac wJ (zc (pv 1) zd)) (qU rfl uaI))) (zi (zI dG)) zJ) (ze (z7 (ja (yf (K:=K) rfl (zm (aB (K:=K) rfl rfl) rfl uam Bl (zc (yO (N:=["sign"]) (own:=1) (fr:=[]) (by walk_at "c") rfl (fW (pv 1)) (fun _ _ _ _=>(zL (i:=0) (show (["sign"]:List Str).Nodup by decide +kernel) rfl (Or.inl rfl) (Or.inr rfl))) (fun _ _ _ _=>y3) (fun _ _ _ _=>(yT iu (pv 0) (l6 rfl uaJ) rfl)) rfl rfl (fun _=>rfl)) zd)) (fun _=>rfl))) (zi (zI dG)) zJ) (zi (zI (tO (yT (aA (K:=K) rfl hr.units) (yw ft (pv 1) zg (fun _ _=>rfl)) zu (zM _)) (bw (yT (yn (K:=K) rfl hr.units) (pv 0) zu (zM _))))))))),?_⟩;rintro f xs z hl ⟨rfl,tx⟩
 try dsimp only [zS,zt]
 have tl:=tx.len;have ll:=ag;have hz:=zO z;have fl:(yp (cpl z)).length<=z.length:=by
  unfold yp;split
  ·rw [xD];omega
  ·omega
 have ml:(mkS (yp (cpl z))).length=(yp (cpl z)).length:=by rw [<-zO,yv]
 refine yQ (fun ρ=>ρ=[some (.dat (.str z)),some (.dat (.str (mkS (yp (cpl z)))))]) ?_ ?_
 ·refine ye (rR (yY (l5 (zf rfl ⟨z,rfl,_,rfl,?_⟩))));rw [du];cases ng:jr (cpl z) with
  | true =>
   rw [CT rfl];refine jg (zf rfl ⟨z,rfl,by omega,yK (z8 ⟨_,rfl,y9 (zw ?_)⟩)⟩);have:=eL z;rw [ng,CT rfl] at this;rw [this];rfl
  | false =>
   rw [CS uT];refine zf rfl (zw ?_);unfold yp;rw [ng,CS uT,mG];rfl
 rintro _ rfl;generalize hL:yp (cpl z)=L at *;have nb:qd (cpl z)=(decide (1<=L.length/\L.length<=11) && (L.all dig && (decide (L.head?≠some 48) || decide (cpl z=[48])))):=by
  unfold qd;rw [hL]
 refine zX (bQ (¬ (1<=L.length/\L.length<=11)) ?_ ?_ ?_)
 ·refine qf (yB (bh (z8 ⟨_,rfl,aG (zf rfl ⟨_,rfl,by rw [ml];omega,_,rfl,?_⟩)⟩)));rw [ml];split
  ·rename_i h1;have h1:=of_decide_eq_true h1;refine z8 ⟨_,rfl,_,rfl,?_⟩;rw [<-decide_not,decide_eq_decide];omega
  ·rename_i h1;refine⟨_,rfl,?_⟩;symm;rw [xt,decide_eq_true_eq];intro q;exact h1 (decide_eq_true (by omega))
 ·intro h;refine zW (nE ?_);rw [nb,decide_eq_false h,AL]
 intro h;have h:1<=L.length/\L.length<=11:=xJ.mp h;refine ym (zX (bQ (¬ (L.all dig=true)) ?_ ?_ ?_))
 ·refine qf (yY (lC (PEdO.ped (qX (A:=fun c:Nat=>PyData.str ⟨#[c]⟩) (B:=fun c=>PyData.bool (dig c)) L (l4 (zf rfl ⟨_,rfl,?_,by omega,?_,L.map dig,?_,_,rfl,?_⟩))))))
  ·show (cpl (mkS L)).map _=_;rw [yv]
  ·intro D c ρ' es hc ho hes;obtain⟨u,rfl⟩:=ho.one;refine zw (vy ?_);rw [CT rfl];refine qb hes (uk (zf rfl ⟨_,rfl,zZ ⟨_,rfl,?_⟩⟩));rw [cJ];exact⟨.mk1,rfl⟩
  ·rw [xF];rfl
  ·rw [List.all_map];cases q:L.all dig with
   | true =>
    have q2:L.all (id ∘ dig)=true:=q;rw [q2];rfl
   | false =>
    have q2:L.all (id ∘ dig)=false:=q;rw [q2];rfl
 ·intro q;refine zW (nE ?_);have q:L.all dig=false:=by simpa using q
  rw [nb,q,AL,BG]
 intro q;have q:L.all dig=true:=xJ.mp q;cases L with
 | nil=>exact absurd h.1 (by decide)
 | cons a r =>
  have da:48<=a/\a<=57:=of_decide_eq_true (w4.mp q a (u3 ..));refine ym (zW (k6 (jW (lY (zf rfl ⟨_,rfl,z8 ⟨0,a,rfl,by rw [ml];omega,?_,zZ ⟨gy (by omega),by decide +kernel,wu (xW _ _) (by decide),?_⟩⟩⟩)))))
  ·show atI (cpl (mkS (a :: r))) 0=some a;rw [yv];exact z6 (j:=0) rfl
  ·rw [CT rfl,v5];have e48:((⟨#[a]⟩:Str)=("0":Str))↔a=48:=by
    rw [qc];show [a]=[48]↔_;simp
   refine⟨_,rfl,?_⟩;rw [nb,q,decide_eq_true h,Ak,Ak];by_cases ea:a=48
   ·subst ea;rw [decide_eq_true (e48.mpr rfl),xh,CS uT];refine jW (zf rfl (zZ ⟨tx.ok,by decide +kernel,wu (xW _ _) (by decide),?_⟩));rw [CS uT,v5];have:decide (z=("0":Str))=decide (cpl z=[48]):=decide_eq_decide.mpr qc;rw [this];simp
   ·rw [decide_eq_false (fun k=>ea (e48.mp k)),xt,CT rfl];have:(a :: r).head?≠some 48:=by simpa using ea
    rw [decide_eq_true this];rfl
noncomputable def zk (z:Str):List Str:=wD z ⟨#[10]⟩
noncomputable def jy (z:Str):List Str:=wD z ⟨#[32]⟩
noncomputable def vN (z:Str):Bool:=(jy z).all fun v=>qd (cpl v)
noncomputable def ve (z:Str):List Int:=(jy z).map fun v=>dq (cpl v)
noncomputable def ai (z:Str):Option Nat:=(zk z).findIdx? fun l=>!vN l
noncomputable def ju (z:Str):List (List Int):=(zk z).map ve
abbrev hZ (K:uQ) (uab uaa:uR):Sp:=spF K 1 (fun (c:Str) xs=>xs=[.dat (.str c)]/\Tx 700 29000 c) (fun c r=>r=tab (ju c)/\ai c=none/\qk (ju c)=none)
 fun c Cv x=>(Cv=.ref uab/\∃ i,ai c=some i/\x=some (("line":Str),PyData.int (i:Nat))) \/ (Cv=.ref uaa/\ai c=none/\∃ i,qk (ju c)=some i/\x=some (("at":Str),PyData.int i))
theorem mI {uab uaa:uR} (F:Def K mg "read_table" jD ["text"]) (uai:mg "enumerate"=none) (uam:mg "all"=none) (uag:mg "int"=none) (uaz:mg "NoText"=some (.ref uab)) (I_NoText:InitOk P w K mg base 1 uab "line")
  (ubG:FnIn P w K mg base (k+2) "is_number" pk (hX K)) (uaO:FnInF P w K mg base (k+2) "ask_table" pd (mF K uaa)):FnInF P w K mg base (k+3) "read_table" ["text"] (hZ K uab uaa):=by
 refine F.okF (k:=k+2) yR rfl fun fa cdv A outer s H E hr=>⟨_,(ze (zK (i:=1) yR.nd rfl (Or.inl rfl) (yk zd)) (ze (j9 PassesOwn.leaving rfl (vW (K:=K) rfl rfl uai (zc (jL wK xa xb jP (pv 0) (zc zu zd)) zd)) (vm (K:=K) (n:=2) rfl rfl (yi (zL (i:=2) yR.nd rfl (Or.inl rfl) (Or.inr rfl)) (yi (zL (i:=3) yR.nd rfl (Or.inl rfl) (Or.inr rfl)) qp))) (ze (zK (i:=4) yR.nd rfl (Or.inl rfl) (jL wK xa xb jP (pv 3) (zc zu zd))) (ze (z7 (ja (yf (K:=K) rfl (zm (aB (K:=K) rfl rfl) rfl uam Bl (zc (yO (N:=pk) (own:=1) (fr:=[]) (by walk_at "c") rfl (jo (K:=K) rfl (pv 4)) (fun _ _ _ _=>(zL (i:=0) (show (pk:List Str).Nodup by decide +kernel) rfl (Or.inl rfl) (Or.inr rfl))) (fun _ _ _ _=>y3) (fun _ _ _ _=>(zv ubG hr rfl (zc (pv 0) zd))) rfl rfl (fun _=>rfl)) zd)) (fun _=>rfl))) (zi (aE I_NoText (hr.mono (by omega)) rfl uaz (zc (pv 2) zd))) zJ) (zi (jV (jL Au Al Am vj (pv 1) (zc (yO (N:=pk) (own:=1) (fr:=[]) (by walk_at "c") rfl (jo (K:=K) rfl (pv 4)) (fun _ _ _ _=>(zL (i:=0) (show (pk:List Str).Nodup by decide +kernel) rfl (Or.inl rfl) (Or.inr rfl))) (fun _ _ _ _=>y3) (fun _ _ _ _=>(yl aF rfl uag xq (zc (pv 0) zd))) rfl rfl (fun _=>rfl)) zd))))))) (ze (jV (et uaO hr rfl (zc (pv 1) zd))) (zi (zI (pv 1)))))),?_⟩;rintro f xs z hl ⟨rfl,tx⟩
 try dsimp only [zS,zt]
 have ll:=ag;have tl:=tx.len;have nl:(zk z).length<=701:=vd (.inr rfl) tx;refine nY (w:=w) (sL (bj (gP ⟨show 1<5 by decide,fun D=>?_⟩)));refine fZ (sJ (fK (zj (PEdO.ped (qx (c:=10) (zf rfl ⟨z,rfl,by omega,zE ⟨_,rfl,?_⟩⟩))))));refine⟨fun i ρ cs=>(∃ a b c,ρ=[some (.dat (.str z)),some (.own (f.M.length+0)),a,b,c])/\cs=[.lst (((zk z).take i).map fun l=>PyData.list ((ve l).map .int))]/\∀ j:Nat,j<i->∀ l,(zk z)[j]?=some l->vN l=true,⟨⟨_,_,_,rfl⟩,rfl,fun j hj=>absurd hj (A8 _)⟩,?_,?_⟩
 ·rintro i d _ _ hd ⟨⟨a,b,c,rfl⟩,rfl,pre⟩;unfold qK at hd;rw [AN,wj] at hd;obtain⟨l,el,rfl⟩:∃ l:Str,(zk z)[i]?=some l/\d=.tuple [.int (i:Int),.str l]:=by
   cases el:(zk z)[i]? with
   | none =>
    have el2:(wD z ⟨#[10]⟩)[i]?=none:=el;rw [el2] at hd;cases hd
   | some l =>
    have el2:(wD z ⟨#[10]⟩)[i]?=some l:=el;rw [el2] at hd;cases hd;exact⟨l,rfl,rfl⟩
  have hi:i<(zk z).length:=(uY.mp el).1;have txl:Tx 700 29000 l:=vq (.inr rfl) tx (wM el);have tll:=txl.len;have nw:(jy l).length<=701:=vd (.inl rfl) txl;refine cA rfl (yU (zw (yU (zw (vG ?_)))));refine fZ (sI (pR (lJ (PEdO.ped (qx (c:=32) (zf rfl ⟨l,rfl,by omega,?_⟩))))));refine fZ (um (ub (qf (yY (lC (PEdO.ped (qX (A:=fun v:Str=>PyData.str v) (B:=fun v=>PyData.bool (qd (cpl v))) (jy l) (qW (zf rfl ⟨_,rfl,rfl,by omega,?_,(jy l).map (fun v=>qd (cpl v)),?_,_,rfl,?_⟩)))))))))
  ·intro D' v ρ' es hv ho hes;obtain⟨u,rfl⟩:=ho.one;refine zw (vy ?_);rw [CT rfl];refine qb hes (zG v (zj (zf rfl (zE ⟨rfl,⟨rfl,vq (.inl rfl) txl hv⟩,?_⟩))));rintro _ rfl;exact⟨.mk1,rfl⟩
  ·rw [xF];rfl
  have eo:((jy l).map (fun v=>qd (cpl v))).all id=vN l:=by
   rw [List.all_map];rfl
  rw [eo];cases ol:vN l with
  | false =>
   rw [xt,CT rfl];refine nZ (bo (zj (zf rfl (zE ⟨_,rfl,.inl ⟨rfl,i,?_,rfl⟩⟩))));unfold ai;rw [Aa];refine⟨hi,?_,fun j hj=>?_⟩
   ·rw [(uY.mp el).2,ol];rfl
   ·rw [pre j hj _ (uZ (by omega))];exact uT
  | true =>
   rw [xh,CS uT];have ow:∀ v∈jy l,qd (cpl v)=true:=fun v hv=>w4.mp ol v hv;refine sI (lI ?_);have lm:(((zk z).take i).map fun l=>PyData.list ((ve l).map .int)).length<1000:=by
    rw [uV,xg];omega
   refine sI (gS (j:=0) rfl rfl lm (lJ (PEdO.ped (qX (A:=fun v:Str=>PyData.str v) (B:=fun v=>PyData.int (dq (cpl v))) (jy l) (qW (zf rfl ⟨_,rfl,rfl,by omega,?_,?_⟩))))))
   ·intro D' v ρ' es hv ho hes;obtain⟨u,rfl⟩:=ho.one;obtain⟨t1,t2⟩:=int_text (ow v hv);refine zw (vy ?_);rw [CT rfl];exact qb hes (l3 (zf rfl ⟨v,_,rfl,t1,by omega,.mk1,rfl⟩))
   ·refine⟨⟨_,_,_,rfl⟩,?_,fun j hj q hq=>?_⟩
    ·show [OC.lst _]=_;rw [AH,el,wO];show _=[OC.lst (_++[PyData.list ((ve l).map .int)])];unfold ve;rw [xF];rfl
    ·by_cases ej:j=i
     ·subst ej;rw [el] at hq;cases hq;exact ol
     ·exact pre j (by omega) q hq
 ·rintro _ _ ⟨⟨a,b,c,rfl⟩,rfl,pre⟩;have le:(qK ((wD z ⟨#[10]⟩).map .str)).length=(zk z).length:=by
   unfold qK;rw [Bd,uV];rfl
  rw [le] at pre ⊢;rw [AW];have bn:ai z=none:=by
   unfold ai;rw [Ab];intro q hq;obtain⟨j,hj⟩:=Ah hq;rw [pre j (uY.mp hj).1 q hj];rfl
  refine n0 ?_;have ee:List.map (freed f.M.length [OC.lst ((zk z).map fun l=>PyData.list ((ve l).map .int))]) [some (.dat (.str z)),some (.own (f.M.length+0)),a,b,c]=[some (.dat (.str z)),some (.dat (tab (ju z))),freed f.M.length [OC.lst ((zk z).map fun l=>PyData.list ((ve l).map .int))] a,freed f.M.length [OC.lst ((zk z).map fun l=>PyData.list ((ve l).map .int))] b,freed f.M.length [OC.lst ((zk z).map fun l=>PyData.list ((ve l).map .int))] c]:=by
   simp [freed,tab,ju]
  rw [ee];refine lX (sA (sy (ju z) (zj (zf rfl (zE ⟨rfl,rfl,?_,?_⟩)))))
  ·rintro r ⟨rfl,e⟩;exact ug (sx (zf rfl ⟨rfl,bn,e⟩))
  ·rintro C x ⟨rfl,i,e,rfl⟩;exact .inr ⟨rfl,bn,i,e,rfl⟩
open PySem PySem.NumText PySem.Spec PyProof.Rows L2
theorem menu {ds:List PyData} {i n:Int} (h0:0<=i) (h1:i<n) (hn:n=(ds.length:Int)):∃ d,atI ds i=some d/\d∈ds:=by
 have hi:i.toNat<ds.length:=by omega
 have e:i=((i.toNat:Nat):Int):=by omega
 have q:=z6 (uZ hi);rw [<-e] at q;exact⟨_,q,xV hi⟩
theorem vf {n i:Nat} {d:PyData} (h:(qV n)[i]?=some d):i<n/\d=.int (i:Int):=by
 unfold qV at h;rw [wj] at h;by_cases hi:i<n
 ·rw [Cw hi] at h;cases h;exact⟨hi,rfl⟩
 ·rw [AE (by rw [BO];omega)] at h;cases h
theorem aJ (n:Nat):(qV n).length=n:=by unfold qV;simp
theorem yW {B T B' T':Nat} {x y:Str} (h:Tx B T x) (h':Tx B' T' y):Tx (B+B') (T+T') (x++y):=by
 have e:=vp x y;refine⟨fun a ha=>?_,?_,?_⟩
 ·rw [e] at ha;exact (wQ.mp ha).elim (h.ch a) (h'.ch a)
 ·rw [<-zO,e,wL,zO,zO];exact Nat.add_le_add h.len h'.len
 ·rw [e,List.countP_append];exact Nat.add_le_add h.sep h'.sep
theorem len_app (x y:Str):(x++y).length=x.length+y.length:=by
 rw [<-zO,vp,wL,zO,zO]
theorem yF (B T:Nat) (z:Str) (h:((cpl z).all (fun c=>decide (c<128)) && (decide (z.length<=T) && decide ((cpl z).countP jU<=B)))=true):Tx B T z:=by
 rw [wB,wB] at h;exact⟨fun c hc=>of_decide_eq_true (w4.mp h.1 c hc),of_decide_eq_true h.2.1,of_decide_eq_true h.2.2⟩
theorem mJ {z:Str} {n:Int} (h0:0<=n) (h:Tx 0 1 z):Tx 0 n.toNat (ba z n):=by
 refine⟨fun c hc=>h.ch c (eC hc),?_,?_⟩
 ·rw [bS h0];have:=Bs n.toNat h.len;omega
 ·have hs:(cpl z).countP jU=0:=Nat.le_zero.mp h.sep;rw [BA] at hs;refine Af (BA.mpr fun c hc=>hs c (eC hc))
theorem aj (m:Nat):cpl (w6 (toString ((m:Nat):Int)))=(w9 10 m).map xk:=PySem.W.KIN.signs_num m
theorem jT {m c:Nat} (h:c∈(w9 10 m).map xk):48<=c/\c<=57:=by
 obtain⟨ch,hch,rfl⟩:=wY.mp h;exact digit_range (Nat.isDigit_of_mem_toDigits (by decide) (by decide) hch)
theorem aK (i:Int) (h:i.natAbs<10 ^ 10):(∀ c∈cpl (w6 (toString i)),c=45 \/ (48<=c/\c<=57))/\(w6 (toString i)).length<=11:=by
 cases i with
 | ofNat m =>
  have hm:m<10 ^ 10:=h;have e:=aj m;refine⟨fun c hc=>?_,?_⟩
  ·have hc:c∈cpl (w6 (toString ((m:Nat):Int))):=hc;rw [e] at hc;exact .inr (jT hc)
  ·have:=BJ (n:=(m:Int)) (by omega) (by omega);exact wu this (by decide)
 | negSucc m =>
  have hm:m+1<10 ^ 10:=h;have e:cpl (w6 (toString (Int.negSucc m)))=45 :: cpl (w6 (toString (((m+1:Nat)):Int))):=by
   show (w6 ("-"++toString (m+1))).cps.toList=45 :: (w6 (toString (m+1))).cps.toList;rw [signs_ofString,signs_ofString,Cp];rfl
  have l:=BJ (n:=((m+1:Nat):Int)) (by omega) (by omega);refine⟨fun c hc=>?_,?_⟩
  ·rw [e] at hc;rcases u6.mp hc with rfl | hc
   ·exact .inl rfl
   ·rw [aj] at hc;exact .inr (jT hc)
  ·rw [<-zO,e,wy,zO];omega
theorem bX {i:Int} (h:i.natAbs<10 ^ 10):Tx 0 11 (w6 (toString i)):=by
 obtain⟨h1,h2⟩:=aK i h;refine⟨fun c hc=>?_,h2,Af (BA.mpr fun c hc=>?_)⟩
 ·have:=h1 c hc;omega
 ·have:=h1 c hc;show ¬ (c == 32 || c == 10)=true;rw [A9,beq_iff_eq,beq_iff_eq];omega
abbrev ia (K:uQ):Sp:=spD K 0 (fun (_:Unit) xs=>xs=[]) fun _ r=>∃ z,r=.str z/\Tx 5 200 z/\1<=z.length
theorem mK (F:Def K mg "_law_signs" j4 []):FnIn P w K mg base (k+1) "_law_signs" [] (ia K):=by
 refine F.ok af rfl fun fa cdv A outer s H E hr=>⟨_,(ze (zK (i:=0) af.nd rfl (Or.inl rfl) zu) (zi (zI (zz zQ (pv 0) zu)))),?_⟩;rintro f xs ⟨⟩ hl rfl
 try dsimp only [zS,zt]
 refine zX (ye (zZ (zw (zW (yM (zf rfl ⟨_,rfl,zZ ⟨_,rfl,by decide +kernel,_,rfl,yF _ _ _ (by decide +kernel),by decide +kernel⟩⟩))))))
abbrev mL (K:uQ):Sp:=spD K 1 (fun (_:Unit) xs=>xs=[.feed]) fun _ r=>∃ z,r=.str z/\Tx 0 32 z
open PySem PySem.NumText PySem.Spec PyProof.Rows L2
theorem qF {b:Nat} {F:Str->Nat}:∀ ts:List Str,(∀ t∈ts,F t<=b)->(ts.map F).sum<=b * ts.length
 | [],_=>xA _
 | t :: ts,h=>by
  have h1:=qF ts fun u hu=>h u (uW _ hu);have h2:=h t (u3 ..);rw [xr,BR,wy,Nat.mul_add];omega
theorem ak {B T b t:Nat} {ts:List Str} {c:Nat} (hc:c=32 \/ c=10) (h:∀ v∈ts,Tx b t v) (hl:ts.length<=9) (h1:(b+1) * 9<=B+1) (h2:(t+1) * 9<=T+1) (h3:T+1<=16777216):JoinOk ⟨#[c]⟩ ts=true/\Tx B T (xY ⟨#[c]⟩ ts):=by
 have s1:=qF (b:=b) (F:=fun t=>(cpl t).countP jU) ts fun v hv=>(h v hv).sep;have s2:=qF (b:=t) (F:=(·.length)) ts fun v hv=>(h v hv).len;have m1:(b+1) * ts.length<=(b+1) * 9:=CB _ hl;have m2:(t+1) * ts.length<=(t+1) * 9:=CB _ hl;rw [CP] at m1 m2;exact hV hc (fun v hv=>(h v hv).ch) (by omega) (by omega) h3
abbrev mM (K:uQ):Sp:=spD K 1 (fun (_:Unit) xs=>xs=[.feed]) fun _ r=>∃ z,r=.str z/\Tx 80 2700 z
theorem oH (F:Def K mg "_law_text" qD pf) (uah:mg "str"=none) (uag:mg "int"=none) (uaj:mg "range"=none) (uaf:FnIn P w K mg base k "_law_draw" pC (gr K)) (ubH:FnIn P w K mg base k "_law_word" pf (mL K)):FnIn P w K mg base (k+1) "_law_text" pf (mM K):=by
 refine F.ok ya rfl fun fa cdv A outer s H E hr=>⟨_,(ze (zK (i:=1) ya.nd rfl (Or.inl rfl) (yw (zR (K:=K) rfl) (yk (zc (zz yL zg (zv uaf hr rfl (zc (pv 0) (zc zg zd)))) (zc (zv uaf hr rfl (zc (pv 0) (zc zg zd))) zd))) (yl vi rfl uag xq (zc (yT (yn (K:=K) rfl hr.units) (zv uaf hr rfl (zc (pv 0) (zc zg zd))) zg (zM _)) zd)) (fun _ _=>rfl))) (ze (zK (i:=2) ya.nd rfl (Or.inl rfl) (yw (zR (K:=K) rfl) (yk (zc (zz yL zg (zv uaf hr rfl (zc (pv 0) (zc zg zd)))) (zc (zv uaf hr rfl (zc (pv 0) (zc zg zd))) zd))) (yl vi rfl uag xq (zc (yT (yn (K:=K) rfl hr.units) (zv uaf hr rfl (zc (pv 0) (zc zg zd))) zg (zM _)) zd)) (fun _ _=>rfl))) (ze (zK (i:=3) ya.nd rfl (Or.inl rfl) (yT cj (zv uaf hr rfl (zc (pv 0) (zc zg zd))) zg (zM _))) (ze (zK (i:=4) ya.nd rfl (Or.inl rfl) (yk zd)) (ze (j9 xN rfl (qe rfl uaj (zc (pv 1) zd)) (zL (i:=5) ya.nd rfl (Or.inl rfl) (Or.inr rfl)) (ze (zK (i:=6) ya.nd rfl (Or.inl rfl) (yk zd)) (ze (j9 xN rfl (qe rfl uaj (zc (pv 2) zd)) (zL (i:=7) ya.nd rfl (Or.inl rfl) (Or.inr rfl)) (ze (zK (i:=8) ya.nd rfl (Or.inl rfl) (yl jB rfl uah x9 (zc (zz bB (zv uaf hr rfl (zc (pv 0) (zc zg zd))) zg) zd))) (ze (z7 (PW.pt (vz (ja (yf (K:=K) rfl (pv 3) (fun _=>rfl))) (vS (zN (yn (K:=K) rfl hr.units) (zv uaf hr rfl (zc (pv 0) (zc zg zd))) zg (zM _))))) (zi (zK (i:=8) ya.nd rfl (Or.inl rfl) (zv ubH hr rfl (zc (pv 0) zd)))) zJ) (zi (jV (jL Au Al Am vj (pv 6) (zc (pv 8) zd))))))) (zi (jV (jL Au Al Am vj (pv 4) (zc (qi (K:=K) rfl zu (zc (pv 6) zd) rfl rfl rfl rfl rfl) zd))))))) (zi (zI (qi (K:=K) rfl zu (zc (pv 4) zd) rfl rfl rfl rfl rfl)))))))),?_⟩;rintro f xs ⟨⟩ hl rfl
 try dsimp only [zS,zt]
 have two:∀ {a b:Int} {q:Bool} {R:PyData->Prop},(∀ v:Int,0<=v->v<=9->R (.int v))->0<=a->a<6->0<=b->b<10->∃ v,atI [PyData.int (2+a),.int b] (if q then 1 else 0)=some v/\R v:=fun {a b q R} h a0 a1 b0 b1=>by
  cases q
  ·exact⟨_,z6 (j:=0) rfl,h _ (by omega) (by omega)⟩
  ·exact⟨_,z6 (j:=1) rfl,h _ (by omega) (by omega)⟩
 refine yQ (fun ρ=>∃ h:Int,0<=h/\h<=9/\ρ=[some .feed,some (.dat (.int h)),none,none,none,none,none,none,none]) ?_ ?_
 ·walk_at "w";refine zG 6 ?_;walk_at "w";rintro _ ⟨a,rfl,a0,a1⟩;walk_at "w";refine zG 10 ?_;walk_at "w";rintro _ ⟨b,rfl,b0,b1⟩;walk_at "w";refine zG 6 ?_;walk_at "w";rintro _ ⟨c,rfl,c0,c1⟩;walk_at "w";exact two (fun v v0 v1=>zw ⟨v,v0,v1,rfl⟩) a0 a1 b0 b1
 rintro _ ⟨h,h0,h9,rfl⟩;refine yQ (fun ρ=>∃ v:Int,0<=v/\v<=9/\ρ=[some .feed,some (.dat (.int h)),some (.dat (.int v)),none,none,none,none,none,none]) ?_ ?_
 ·walk_at "w";refine zG 6 ?_;walk_at "w";rintro _ ⟨a,rfl,a0,a1⟩;walk_at "w";refine zG 10 ?_;walk_at "w";rintro _ ⟨b,rfl,b0,b1⟩;walk_at "w";refine zG 6 ?_;walk_at "w";rintro _ ⟨c,rfl,c0,c1⟩;walk_at "w";exact two (fun v v0 v1=>zw ⟨v,v0,v1,rfl⟩) a0 a1 b0 b1
 rintro _ ⟨v,v0,v9,rfl⟩;refine yQ (fun ρ=>∃ b:Bool,ρ=[some .feed,some (.dat (.int h)),some (.dat (.int v)),some (.dat (.bool b)),none,none,none,none,none]) ?_ ?_
 ·walk_at "w";refine zG 3 ?_;walk_at "w";rintro _ ⟨a,rfl,a0,a1⟩;walk_at "w";exact⟨_,rfl⟩
 rintro _ ⟨b,rfl⟩;refine lH (w:=w) (lL (bj (gP ⟨show 4<9 by decide,fun D=>?_⟩)));refine cE (lK (vX (zj (zf rfl (zE ⟨h,rfl,by omega,by omega,?_⟩)))));refine⟨fun i ρ cs=>∃ (ts:List Str) (y5 y6 y7 y8:Option DV),ρ=[some .feed,some (.dat (.int h)),some (.dat (.int v)),some (.dat (.bool b)),some (.own (f.M.length+0)),y5,y6,y7,y8]/\cs=[.lst (ts.map .str)]/\ts.length=i/\∀ t∈ts,Tx 8 296 t,⟨[],_,_,_,_,rfl,rfl,rfl,fun _ z=>nomatch z⟩,?_,?_⟩
 ·rintro i d _ _ hd ⟨ts,y5,y6,y7,y8,rfl,rfl,ht,tx⟩;obtain⟨hi,rfl⟩:=vf hd;refine zw (lL (bj (gP ⟨show 6<9 by decide,fun D2=>?_⟩)));refine cE (lK (vX (zj (zf rfl (zE ⟨v,rfl,by omega,by omega,?_⟩)))));refine⟨fun j ρ cs=>∃ (us:List Str) (y7 y8:Option DV),ρ=[some .feed,some (.dat (.int h)),some (.dat (.int v)),some (.dat (.bool b)),some (.own (f.M.length+0)),some (.dat (.int (i:Int))),some (.own (f.M.length+1)),y7,y8]/\cs=[.lst (ts.map .str),.lst (us.map .str)]/\us.length=j/\∀ t∈us,Tx 0 32 t,⟨[],_,_,rfl,rfl,rfl,fun _ z=>nomatch z⟩,?_,?_⟩
  ·rintro j d _ _ hd ⟨us,y7,y8,rfl,rfl,hu,ux⟩;obtain⟨hj,rfl⟩:=vf hd;refine zw ?_;refine pM (fun ρ cs=>∃ z:Str,Tx 0 32 z/\ρ=[some .feed,some (.dat (.int h)),some (.dat (.int v)),some (.dat (.bool b)),some (.own (f.M.length+0)),some (.dat (.int (i:Int))),some (.own (f.M.length+1)),some (.dat (.int (j:Int))),some (.dat (.str z))]/\cs=[.lst (ts.map .str),.lst (us.map .str)]) (fO (ye (c9 ?_))) ?_
   ·walk_at "w";refine zG 25 ?_;walk_at "w";rintro _ ⟨q,rfl,q0,q1⟩;refine⟨_,rfl,z8 ⟨_,rfl,_,rfl,?_,zw ⟨_,(bX ?_).imp (by decide) (by decide),rfl,rfl⟩⟩⟩ <;> (show Int.natAbs (q - 12)<_;omega)
   rintro _ _ ⟨z,zx,rfl,rfl⟩;refine pM (fun ρ cs=>∃ z:Str,Tx 0 32 z/\ρ=[some .feed,some (.dat (.int h)),some (.dat (.int v)),some (.dat (.bool b)),some (.own (f.M.length+0)),some (.dat (.int (i:Int))),some (.own (f.M.length+1)),some (.dat (.int (j:Int))),some (.dat (.str z))]/\cs=[.lst (ts.map .str),.lst (us.map .str)]) (fO (va ?_ ?_ (ym ⟨z,zx,rfl,rfl⟩))) ?_
   ·refine qT (qf (yY (zf rfl ⟨b,rfl,?_⟩)));split
    ·refine yB (jW (zG 6 ?_));walk_at "w";rintro _ ⟨q,rfl,q0,q1⟩;walk_at "w";trivial
    ·trivial
   ·refine ye (zG () ?_);walk_at "w";rintro _ ⟨z,rfl,zx⟩;exact zw ⟨z,zx,rfl,rfl⟩
   rintro _ _ ⟨z,zx,rfl,rfl⟩;refine gS (j:=1) rfl rfl (by rw [uV];omega) (lJ (zf rfl ⟨us++[z],_,_,rfl,?_,by rw [wL,hu];rfl,fun t ht=>?_⟩))
   ·show [OC.lst (ts.map .str),OC.lst (us.map .str++[.str z])]=_;rw [wO];rfl
   ·rcases wQ.mp ht with ht | ht
    ·exact ux t ht
    ·cases u7.mp ht;exact zx
  ·rintro _ _ ⟨us,y7,y8,rfl,rfl,hu,ux⟩;rw [aJ] at hu;obtain⟨jk,jx⟩:=ak (B:=8) (T:=296) (c:=32) (.inl rfl) ux (by omega) (by decide) (by decide) (by decide);refine gS (j:=0) rfl rfl (by rw [uV];have:i<h.toNat:=hi;omega) (l7 (vI (zf (d:=.list (us.map .str)) ?_ ⟨us,rfl,jk,_,rfl,ts++[xY " " us],some (.dat (.int (i:Int))),none,jj (f.M.length+1) y7,jj (f.M.length+1) y8,?_,?_,by rw [wL,ht];rfl,fun t ht=>?_⟩)))
   ·simp [freed]
   ·simp [jj]
   ·show [OC.lst (ts.map .str++[.str (xY " " us)])]=_;rw [wO];rfl
   ·rcases wQ.mp ht with ht | ht
    ·exact tx t ht
    ·cases u7.mp ht;exact jx
 ·rintro _ _ ⟨ts,y5,y6,y7,y8,rfl,rfl,ht,tx⟩;rw [aJ] at ht;obtain⟨jk,jx⟩:=ak (B:=80) (T:=2700) (c:=10) (.inr rfl) tx (by omega) (by decide) (by decide) (by decide);refine lM (zW (vI (zf (d:=.list (ts.map .str)) ?_ ⟨ts,rfl,jk,_,rfl,jx⟩)));simp [freed]
open PySem PySem.NumText PySem.Spec PyProof.Rows L2
theorem oI {i:Int} (h:0<=i) (u:Option Int) (n:Nat):wZ (some i) u 1 n=wZ (some (min i n)) u 1 n:=by
 have a:¬ i<0:=by omega
 have b:¬ min i (n:Int)<0:=by omega
 have c:min (min i (n:Int)) n=min i n:=by omega
 simp only [wZ,a,b,c,if_false,show ((1:Int) > 0)=True from by simp,if_true]
theorem ib {j:Int} (h:0<=j) (l:Option Int) (n:Nat):wZ l (some j) 1 n=wZ l (some (min j n)) 1 n:=by
 have a:¬ j<0:=by omega
 have b:¬ min j (n:Int)<0:=by omega
 have c:min (min j (n:Int)) n=min j n:=by omega
 simp only [wZ,a,b,c,if_false,show ((1:Int) > 0)=True from by simp,if_true]
theorem ko (z:Str) {i j:Int} (h0:0<=i) (h1:i<=j):∃ a m:Nat,(m:Int)<=j - i/\m<=z.length/\wg z (some i) (some j)=mkS (((cpl z).drop a).take m):=by
 obtain⟨a,ea⟩:=Av (show 0<=min i (z.length:Int) by omega);obtain⟨b,eb⟩:=Av (show 0<=min j (z.length:Int) by omega);refine⟨a,b - a,by omega,by omega,?_⟩;have e:wg z (some i) (some j)=wg z (some (a:Int)) (some (b:Int)):=by
  unfold wg;rw [oI h0,ib (CL h0 h1),ea,eb]
 rw [e,StrLaws.sliceText_nat z (by omega) (by omega)];rfl
theorem mO {B T:Nat} {z:Str} (h:Tx B T z) (a m:Nat):Tx (min B m) (min T m) (mkS (((cpl z).drop a).take m)):=by
 have sb:List.Sublist (((cpl z).drop a).take m) (cpl z):=(List.take_sublist _ _).trans (List.drop_sublist _ _);have lm:(((cpl z).drop a).take m).length<=m:=by rw [xg];omega
 refine⟨fun c hc=>?_,?_,?_⟩
 ·rw [yv] at hc;exact h.ch c (sb.subset hc)
 ·rw [<-zO,yv];have:=sb.length_le;rw [zO] at this;have:=h.len;omega
 ·rw [yv];have l1:=sb.countP_le (p:=fun c=>c == 32 || c == 10);have l2:=AF (p:=fun c=>c == 32 || c == 10) (l:=((cpl z).drop a).take m);have:=h.sep;omega
theorem dy {B T:Nat} {z:Str} (h:Tx B T z) {i j:Int} (h0:0<=i) (h1:i<=j):Tx (min B (j - i).toNat) (min T (j - i).toNat) (wg z (some i) (some j)):=by
 obtain⟨a,m,hm,_,e⟩:=ko z h0 h1;rw [e];exact (mO h a m).imp (by omega) (by omega)
theorem uy {B T:Nat} {z:Str} (h:Tx B T z) {j:Int} (h0:0<=j):Tx B T (wg z none (some j)):=by
 have e:wg z none (some j)=wg z (some 0) (some j):=by unfold wg;rw [StrLaws.sliceIdx_none_lo]
 rw [e];exact (dy h (Int.le_refl 0) h0).imp (Ba _ _) (Ba _ _)
theorem dA {B T:Nat} {z:Str} (h:Tx B T z) {i:Int} (h0:0<=i):Tx B T (wg z (some i) none):=by
 have e:wg z (some i) none=wg z (some i) (some (max i z.length)):=by
  unfold wg;rw [StrLaws.sliceIdx_none_hi,ib (j:=max i z.length) (by omega)];rw [show min (max i (z.length:Int)) z.length=z.length by omega]
 rw [e];exact (dy h h0 (by omega)).imp (Ba _ _) (Ba _ _)
theorem aL {B T:Nat} {z:Str} (h:Tx B T z) (hT:2 * T+3<=16777216) {M:List Str} {x:Str} (hx:x∈zk z \/ x=Be) (hs:∀ F:Str->Nat,(M.map F).sum<=((zk z).map F).sum+F x) (hl:M.length<=(zk z).length+1) (hc:∀ m∈M,∀ a∈cpl m,a<128) :
  JoinOk ⟨#[10]⟩ M=true/\Tx (2 * B+2) (2 * T+2) (xY ⟨#[10]⟩ M):=by
 have e1:=jt jU z 10;have e2:=jt (fun _=>true) z 10;rw [show jU 10=true from rfl] at e1;simp only [if_true,Bu] at e1 e2;have b1:(cpl z).countP jU<=B:=h.sep;have b2:=h.len;have tx:Tx B T x:=by
  rcases hx with hx | rfl
  ·exact vq (.inr rfl) h hx
  ·exact⟨(fun _ z=>nomatch z),xA _,xA _⟩
 have s1:=hs fun t=>(cpl t).countP jU;have s2:=hs (·.length);have x1:(cpl x).countP jU<=B:=tx.sep;have x2:=tx.len;have e3:((zk z).map (·.length)).sum+(zk z).length=z.length+1:=by
  have:((zk z).map (·.length))=(wD z ⟨#[10]⟩).map fun v=>(cpl v).length:=Bz fun v _=>(zO v).symm;rw [this];rw [BV,zO] at e2;exact e2.symm
 have e4:((zk z).map fun t=>(cpl t).countP jU).sum+(zk z).length=(cpl z).countP jU+1:=e1.symm;refine hV (.inr rfl) hc ?_ ?_ (by omega)
 ·omega
 ·omega
theorem bK {α:Type} {F:α->PyData} {rs:List α} {a:Int} (h0:0<=a) (h1:a<=rs.length):cutD (rs.map F) (some a) none=(rs.drop a.toNat).map F:=by
 unfold L2.cutD HT.sIx;dsimp only;rw [CS (by omega),uV,B5 (by omega),Az (by rw [xD,uV];omega),List.map_drop]
theorem tE {α:Type} {F:α->PyData} {rs:List α} {a:Int} (h0:0<=a) (h1:a<=rs.length):cutD (rs.map F) none (some a)=(rs.take a.toNat).map F:=by
 unfold L2.cutD HT.sIx;dsimp only;rw [CS (by omega),uV,B5 (by omega),Co,Nat.sub_zero,List.map_take]
theorem dB {F:Str->Nat} (L:List Str) (n:Nat):((L.take n).map F).sum+((L.drop n).map F).sum=(L.map F).sum:=by
 rw [<-xR,<- wO,List.take_append_drop]
abbrev eO (K:uQ):Sp:=spD K 2 (fun (c:Nat×Nat×Str) xs=>xs=[.feed,.dat (.str c.2.2)]/\Tx c.1 c.2.1 c.2.2/\c.1<=700/\c.2.1<=29000) fun c r=>∃ z,r=.str z/\Tx (2 * c.1+2) (2 * c.2.1+2) z
theorem kq (F:Def K mg "_law_spoilt" jF pG) (uac:mg "len"=none) (uaf:FnIn P w K mg base k "_law_draw" pC (gr K)) (ubI:FnIn P w K mg base k "_law_signs" [] (ia K)):FnIn P w K mg base (k+1) "_law_spoilt" pG (eO K):=by
 refine F.ok yb rfl fun fa cdv A outer s H E hr=>⟨_,(ze (zK (i:=2) yb.nd rfl (Or.inl rfl) (zz zQ (zz zQ (i4 ubI hr rfl) (zz de zu zg)) zu)) (ze (zK (i:=3) yb.nd rfl (Or.inl rfl) (yw ft (pv 2) (zv uaf hr rfl (zc (pv 0) (zc (zm yH rfl uac wJ (zc (pv 2) zd)) zd))) (fun _ _=>rfl))) (ze (zK (i:=4) yb.nd rfl (Or.inl rfl) (zv uaf hr rfl (zc (pv 0) (zc (zz yL (zm yH rfl uac wJ (zc (pv 1) zd)) zg) zd)))) (ze (zK (i:=5) yb.nd rfl (Or.inl rfl) (zv uaf hr rfl (zc (pv 0) (zc zg zd)))) (ze (z7 (zN (yn (K:=K) rfl hr.units) (pv 5) zg (zM _)) (zi (zI (zz zQ (zz zQ (zT jf (pv 1) yj (zY (pv 4))) (pv 3)) (zT jf (pv 1) (zY (pv 4)) yj)))) zJ) (ze (z7 (zN (yn (K:=K) rfl hr.units) (pv 5) zg (zM _)) (zi (zI (zz zQ (zT jf (pv 1) yj (zY (pv 4))) (zT jf (pv 1) (zY (zz yL (pv 4) zg)) yj)))) zJ) (ze (z7 (zN (yn (K:=K) rfl hr.units) (pv 5) zg (zM _)) (zi (zI (zz zQ (zz zQ (zT jf (pv 1) yj (zY (pv 4))) (pv 3)) (zT jf (pv 1) (zY (zz yL (pv 4) zg)) yj)))) zJ) (ze (z7 (zN (yn (K:=K) rfl hr.units) (pv 5) zg (zM _)) (ze (zK (i:=6) yb.nd rfl (Or.inl rfl) (zz zQ (zT jf (pv 1) (zY (zz yL (pv 4) zg)) (zY (zz yL (pv 4) zg))) (zT jf (pv 1) (zY (pv 4)) (zY (zz yL (pv 4) zg))))) (zi (zI (zz zQ (zz zQ (zT jf (pv 1) yj (zY (pv 4))) (pv 6)) (zT jf (pv 1) (zY (zz yL (pv 4) zg)) yj))))) zJ) (ze (zK (i:=7) yb.nd rfl (Or.inl rfl) (jL wK xa xb jP (pv 1) (zc zu zd))) (ze (zK (i:=8) yb.nd rfl (Or.inl rfl) (zv uaf hr rfl (zc (pv 0) (zc (zm (zV (K:=K) rfl) rfl uac wJ (zc (pv 7) zd)) zd)))) (ze (z7 (zN (yn (K:=K) rfl hr.units) (pv 5) zg (zM _)) (zi (zI (qi (K:=K) rfl zu (zc (zz (jO (K:=K) rfl) (zz (jO (K:=K) rfl) (zT (qg (K:=K) rfl) (pv 7) yj (zY (pv 8))) (yk (zc (yw (zR (K:=K) rfl) (pv 7) (pv 8) (fun _ _=>rfl)) zd))) (zT (qg (K:=K) rfl) (pv 7) (zY (pv 8)) yj)) zd) rfl rfl rfl rfl rfl))) zJ) (ze (z7 (zN (yn (K:=K) rfl hr.units) (pv 5) zg (zM _)) (zi (zI (qi (K:=K) rfl zu (zc (zz (jO (K:=K) rfl) (zT (qg (K:=K) rfl) (pv 7) yj (zY (pv 8))) (zT (qg (K:=K) rfl) (pv 7) (zY (zz yL (pv 8) zg)) yj)) zd) rfl rfl rfl rfl rfl))) zJ) (ze (z7 (zN (yn (K:=K) rfl hr.units) (pv 5) zg (zM _)) (zi (zI (qi (K:=K) rfl zu (zc (zz (jO (K:=K) rfl) (zz (jO (K:=K) rfl) (zT (qg (K:=K) rfl) (pv 7) yj (zY (pv 8))) (yk (zc zu zd))) (zT (qg (K:=K) rfl) (pv 7) (zY (pv 8)) yj)) zd) rfl rfl rfl rfl rfl))) zJ) (zi (zI (yw (zR (K:=K) rfl) (yk (zc (zz zQ (pv 1) zu) (zc (zz zQ zu (pv 1)) (zc (zz zQ (pv 1) zu) (zc (zz zQ zu (pv 1)) zd))))) (zv uaf hr rfl (zc (pv 0) (zc zg zd))) (fun _ _=>rfl))))))))))))))))),?_⟩;rintro f xs ⟨B,T,z⟩ hl ⟨rfl,tx,hB,hT⟩
 try dsimp only [zS,zt]
 dsimp only at tx hB hT;have tl:=tx.len;have ll:1000000<=wt:=by decide
 refine yQ (fun ρ=>∃ g:Str,1<=g.length/\Tx 200 2000 g/\ρ=[some .feed,some (.dat (.str z)),some (.dat (.str g)),none,none,none,none,none,none]) (ye (yM (yM (zG () (zE ⟨rfl,rfl,?_⟩))))) ?_
 ·rintro _ ⟨g,rfl,gx,g1⟩;have gl:=gx.len;have r9:(ba "\n" 9).length=9:=by rw [bS (by decide)];rfl
  have n12:("0123456789- ":Str).length=12:=rfl;refine⟨g,rfl,fY (zZ ⟨_,rfl,z8 ⟨9,rfl,by decide,by decide,by decide +kernel,_,rfl,by rw [r9];omega,_,rfl,zZ ⟨_,rfl,?_,zw ⟨_,?_,?_,rfl⟩⟩⟩⟩)⟩
  ·rw [len_app,r9,n12];omega
  ·rw [len_app,len_app,r9,n12];omega
  ·exact (yW (yW gx (yF 9 9 (ba "\n" 9) (by decide +kernel))) (yF 2 12 "0123456789- " (by decide +kernel))).imp (by decide) (by decide)
 rintro _ ⟨g,g1,gx,rfl⟩;have gl:=gx.len;refine yQ (fun ρ=>∃ c:Nat,c<128/\ρ=[some .feed,some (.dat (.str z)),some (.dat (.str g)),some (.dat (.str ⟨#[c]⟩)),none,none,none,none,none]) (ye (lY (zf rfl ⟨g,rfl,zG (g.length:Int) (vF rfl (zj (aG (zf rfl ⟨g,rfl,by omega,zE ⟨rfl,⟨rfl,by omega,by omega⟩,?_⟩⟩))))⟩))) ?_
 ·rintro _ ⟨q,rfl,q0,q1⟩;obtain⟨m,rfl⟩:=Av q0;have hm:m<(cpl g).length:=by rw [zO];omega
  exact⟨m,(cpl g)[m],rfl,by omega,z6 (uZ hm),zw ⟨_,gx.ch _ (xV hm),rfl⟩⟩
 rintro _ ⟨c,hc,rfl⟩;have cx:Tx 1 1 ⟨#[c]⟩:=by
  refine⟨fun a ha=>?_,wc 1,?_⟩
  ·have ha:a∈[c]:=ha;cases u7.mp ha;exact hc
  ·exact AF (l:=[c])
 refine yQ (fun ρ=>∃ a:Int,0<=a/\ρ=[some .feed,some (.dat (.str z)),some (.dat (.str g)),some (.dat (.str ⟨#[c]⟩)),some (.dat (.int a)),none,none,none,none]) (ye (zG ((z.length:Int)+1) (vF rfl (zj (qI (aG (zf rfl ⟨z,rfl,by omega,_,rfl,z8 ⟨_,rfl,zE ⟨rfl,⟨rfl,by omega,by omega⟩,?_⟩⟩⟩))))))) ?_
 ·rintro _ ⟨q,rfl,q0,q1⟩;exact zw ⟨q,q0,rfl⟩
 rintro _ ⟨a,a0,rfl⟩;refine yQ (fun ρ=>∃ v:Int,ρ=[some .feed,some (.dat (.str z)),some (.dat (.str g)),some (.dat (.str ⟨#[c]⟩)),some (.dat (.int a)),some (.dat (.int v)),none,none,none]) (ye (zG 8 ?_)) ?_
 ·walk_at "w";rintro _ ⟨q,rfl,q0,q1⟩;exact zw ⟨q,rfl⟩
 rintro _ ⟨v,rfl⟩;have t1:=uy tx a0;have l1:=t1.len;have f0:=dA tx a0;have m0:=f0.len;have f1:=dA tx (i:=a+1) (by omega);have m1:=f1.len;have f2:=dA tx (i:=a+2) (by omega);have m2:=f2.len;have p1:=(dy tx (i:=a+1) (j:=a+2) (by omega) (by omega)).imp (B':=1) (T':=1) (by omega) (by omega);have p0:=(dy tx (i:=a) (j:=a+1) (by omega) (by omega)).imp (B':=1) (T':=1) (by omega) (by omega);have q1:=p1.len;have q0:=p0.len;have cl:(⟨#[c]⟩:Str).length=1:=rfl;have la:=fun x y:Str=>len_app x y;refine zX (va ?_ ?_ (ym ?_))
 ·walk_at "w";trivial
 ·refine zW (yM (yM (jg (zf rfl ⟨z,rfl,by omega,y9 (yK (zf rfl ⟨a,rfl,_,rfl,zf rfl ⟨_,rfl,by omega,_,rfl,jg (zf rfl ⟨z,rfl,by omega,yK (zf rfl ⟨a,rfl,y9 ⟨_,rfl,?_,_,rfl,?_⟩⟩)⟩)⟩⟩))⟩))))
  ·rw [la];omega
  ·exact (yW (yW t1 cx) f0).imp (by omega) (by omega)
 refine zX (va ?_ ?_ (ym ?_))
 ·walk_at "w";trivial
 ·refine zW (yM (jg (zf rfl ⟨z,rfl,by omega,y9 (yK (zf rfl ⟨a,rfl,_,rfl,jg (zf rfl ⟨z,rfl,by omega,yK (qI (zf rfl ⟨a,rfl,z8 ⟨1,rfl,_,rfl,y9 ⟨_,rfl,?_,_,rfl,?_⟩⟩⟩))⟩)⟩))⟩)))
  ·omega
  ·exact (yW t1 f1).imp (by omega) (by omega)
 refine zX (va ?_ ?_ (ym ?_))
 ·walk_at "w";trivial
 ·refine zW (yM (yM (jg (zf rfl ⟨z,rfl,by omega,y9 (yK (zf rfl ⟨a,rfl,_,rfl,zf rfl ⟨_,rfl,by omega,_,rfl,jg (zf rfl ⟨z,rfl,by omega,yK (qI (zf rfl ⟨a,rfl,z8 ⟨1,rfl,_,rfl,y9 ⟨_,rfl,?_,_,rfl,?_⟩⟩⟩))⟩)⟩⟩))⟩))))
  ·rw [la];omega
  ·exact (yW (yW t1 cx) f1).imp (by omega) (by omega)
 refine zX (va ?_ ?_ (ym ?_))
 ·walk_at "w";trivial
 ·refine yQ (fun ρ=>ρ=[some .feed,some (.dat (.str z)),some (.dat (.str g)),some (.dat (.str ⟨#[c]⟩)),some (.dat (.int a)),some (.dat (.int v)),some (.dat (.str (wg z (some (a+1)) (some (a+2))++wg z (some a) (some (a+1))))),none,none]) (ye (yM (jg (zf rfl ⟨z,rfl,by omega,yK (qI (zf rfl ⟨a,rfl,z8 ⟨1,rfl,_,rfl,yK (qI (zf rfl ⟨a,rfl,z8 ⟨2,rfl,_,rfl,_,rfl,jg (zf rfl ⟨z,rfl,by omega,yK (zf rfl ⟨a,rfl,yK (qI (zf rfl ⟨a,rfl,z8 ⟨1,rfl,_,rfl,_,rfl,by omega,zw rfl⟩⟩))⟩)⟩)⟩⟩))⟩⟩))⟩)))) ?_;rintro _ rfl;have px:=yW p1 p0;have pl:=px.len;refine zW (yM (yM (jg (zf rfl ⟨z,rfl,by omega,y9 (yK (zf rfl ⟨a,rfl,_,rfl,zf rfl ⟨_,rfl,by omega,_,rfl,jg (zf rfl ⟨z,rfl,by omega,yK (qI (zf rfl ⟨a,rfl,z8 ⟨2,rfl,_,rfl,y9 ⟨_,rfl,?_,_,rfl,?_⟩⟩⟩))⟩)⟩⟩))⟩))))
  ·rw [la];omega
  ·exact (yW (yW t1 px) f2).imp (by omega) (by omega)
 have nl:(zk z).length<=B+1:=vd (.inr rfl) tx;have np:1<=(zk z).length:=split_pos z ⟨#[10]⟩;have ml:((zk z).map PyData.str).length=(zk z).length:=uV _;refine zX (ye (PEdO.ped (qx (c:=10) (zf rfl ⟨z,rfl,by omega,zw ?_⟩))));refine yQ (fun ρ=>∃ n:Nat,n<(zk z).length/\ρ=[some .feed,some (.dat (.str z)),some (.dat (.str g)),some (.dat (.str ⟨#[c]⟩)),some (.dat (.int a)),some (.dat (.int v)),none,some (.dat (.list ((zk z).map .str))),some (.dat (.int (n:Int)))]) (ye (zG ((zk z).length:Int) (vF rfl (zj (dS (zj (zf rfl (zE (.inl ⟨_,rfl,zE ⟨rfl,⟨?_,by omega,by omega⟩,?_⟩⟩)))))))))  ?_
 ·show [DV.feed,DV.dat (.int (((zk z).map PyData.str).length:Int))]=_;rw [ml]
 ·rintro _ ⟨q,rfl,q0,q1⟩;obtain⟨m,rfl⟩:=Av q0;exact zw ⟨m,by omega,rfl⟩
 rintro _ ⟨n,hn,rfl⟩;have ct:cutD ((zk z).map PyData.str) none (some (n:Int))=((zk z).take n).map .str:=by rw [tE (by omega) (by omega),xy]
 have cf:cutD ((zk z).map PyData.str) (some (n:Int)) none=((zk z).drop n).map .str:=by rw [bK (by omega) (by omega),xy]
 have cg:cutD ((zk z).map PyData.str) (some ((n:Int)+1)) none=((zk z).drop (n+1)).map .str:=by
  rw [show ((n:Int)+1)=((n+1:Nat):Int) from rfl,bK (by omega) (by omega),xy]
 have chs:∀ m∈zk z,∀ a∈cpl m,a<128:=fun m hm=>(vq (.inr rfl) tx hm).ch;have lt:((zk z).take n).length=n:=by rw [xg];omega
 have ld:((zk z).drop n).length=(zk z).length - n:=xD ..;have lg:((zk z).drop (n+1)).length=(zk z).length - (n+1):=xD ..;refine zX (va ?_ ?_ (ym ?_))
 ·walk_at "w";trivial
 ·obtain⟨jk,jx⟩:=aL (M:=(zk z).take n++[(zk z)[n]]++(zk z).drop n) tx (by omega) (x:=(zk z)[n]) (.inl (xV hn)) (fun F=>by
   have:=dB (F:=F) (zk z) n;rw [wO,wO,xR,xR];show _+(F (zk z)[n]+0)+_<=_
   omega) (by rw [wL,wL,lt,ld];show n+1+_<=_;omega) (fun m hm=>by
   rcases wQ.mp hm with hm | hm
   ·rcases wQ.mp hm with hm | hm
    ·exact chs m (AQ hm)
    ·cases u7.mp hm;exact chs _ (xV hn)
   ·exact chs m (AR hm))
  refine zW (vI (vH (vH (bL (zf rfl ⟨_,rfl,y9 (yK (zf rfl ⟨_,rfl,_,rfl,qJ (zj (vx (zf rfl ⟨_,rfl,zf rfl ⟨_,rfl,.str (zk z)[n],?_,zE ⟨_,rfl,show 1<=1000 by decide,_,rfl,?_,_,rfl,bL (zf rfl ⟨_,rfl,yK (zf rfl ⟨_,rfl,y9 ⟨_,rfl,?_,(zk z).take n++[(zk z)[n]]++(zk z).drop n,?_,jk,_,rfl,jx⟩⟩)⟩)⟩⟩⟩)))⟩))⟩)))))
  ·exact z6 (by rw [wj,uZ hn];rfl)
  ·rw [ct,uV,lt];show n+1<=1000;omega
  ·rw [ct,cf,wL,uV,uV,lt,ld];show n+1+_<=1000;omega
  ·rw [ct,cf,wO,wO];rfl
 refine zX (va ?_ ?_ (ym ?_))
 ·walk_at "w";trivial
 ·obtain⟨jk,jx⟩:=aL (M:=(zk z).take n++(zk z).drop (n+1)) tx (by omega) (x:=Be) (.inr rfl) (fun F=>by
   have:=dB (F:=F) (zk z) n;have e:(zk z).drop n=(zk z)[n] :: (zk z).drop (n+1):=A2 hn;rw [e,xr,BR] at this;rw [wO,xR]
   omega) (by rw [wL,lt,lg];omega) (fun m hm=>by
   rcases wQ.mp hm with hm | hm
   ·exact chs m (AQ hm)
   ·exact chs m (AR hm))
  refine zW (vI (vH (bL (zf rfl ⟨_,rfl,y9 (yK (zf rfl ⟨_,rfl,_,rfl,bL (zf rfl ⟨_,rfl,yK (qI (zf rfl ⟨_,rfl,z8 ⟨_,rfl,_,rfl,y9 ⟨_,rfl,?_,(zk z).take n++(zk z).drop (n+1),?_,jk,_,rfl,jx⟩⟩⟩))⟩)⟩))⟩))))
  ·rw [ct,cg,uV,uV,lt,lg];omega
  ·rw [ct,cg,wO]
 refine zX (va ?_ ?_ (ym ?_))
 ·walk_at "w";trivial
 ·obtain⟨jk,jx⟩:=aL (M:=(zk z).take n++[Be]++(zk z).drop n) tx (by omega) (x:=Be) (.inr rfl) (fun F=>by
   have:=dB (F:=F) (zk z) n;rw [wO,wO,xR,xR];show _+(F Be+0)+_<=_
   omega) (by rw [wL,wL,lt,ld];show n+1+_<=_;omega) (fun m hm=>by
   rcases wQ.mp hm with hm | hm
   ·rcases wQ.mp hm with hm | hm
    ·exact chs m (AQ hm)
    ·cases u7.mp hm;exact fun _ z=>nomatch z
   ·exact chs m (AR hm))
  refine zW (vI (vH (vH (bL (zf rfl ⟨_,rfl,y9 (yK (zf rfl ⟨_,rfl,_,rfl,qJ (zj (zZ (zE ⟨_,rfl,show 1<=1000 by decide,_,rfl,?_,_,rfl,bL (zf rfl ⟨_,rfl,yK (zf rfl ⟨_,rfl,y9 ⟨_,rfl,?_,(zk z).take n++[Be]++(zk z).drop n,?_,jk,_,rfl,jx⟩⟩)⟩)⟩)))⟩))⟩)))))
  ·rw [ct,uV,lt];show n+1<=1000;omega
  ·rw [ct,cf,wL,uV,uV,lt,ld];show n+1+_<=1000;omega
  ·rw [ct,cf,wO,wO];rfl
 have nx:Tx 1 1 "\n":=yF _ _ _ (by decide +kernel);have bx:Tx 1 1 " ":=yF _ _ _ (by decide +kernel);have nn:("\n":Str).length=1:=rfl;have bn:(" ":Str).length=1:=rfl;refine zW (vx (qJ (zj (yM (zf rfl ⟨_,rfl,zZ ⟨_,rfl,by omega,zj (yM (zZ ⟨_,rfl,zf rfl ⟨_,rfl,by omega,zj (yM (zf rfl ⟨_,rfl,zZ ⟨_,rfl,by omega,zj (yM (zZ ⟨_,rfl,zf rfl ⟨_,rfl,by omega,zE ⟨_,rfl,show 4<=1000 by decide,_,rfl,zG 4 ?_⟩⟩⟩))⟩⟩))⟩⟩))⟩⟩)))));walk_at "w";rintro _ ⟨q,rfl,q0,q1⟩;have:q=0 \/ q=1 \/ q=2 \/ q=3:=by omega
 rcases this with rfl | rfl | rfl | rfl
 ·exact⟨_,rfl,_,z6 (j:=0) rfl,_,rfl,(yW tx nx).imp (by omega) (by omega)⟩
 ·exact⟨_,rfl,_,z6 (j:=1) rfl,_,rfl,(yW nx tx).imp (by omega) (by omega)⟩
 ·exact⟨_,rfl,_,z6 (j:=2) rfl,_,rfl,(yW tx bx).imp (by omega) (by omega)⟩
 ·exact⟨_,rfl,_,z6 (j:=3) rfl,_,rfl,(yW bx tx).imp (by omega) (by omega)⟩
open PySem PySem.NumText PySem.Spec PyProof.Rows L2
theorem cL:∀ l:List Nat,(∀ c∈l,c<128)->Ai (l.map fun c=>PyData.str ⟨#[c]⟩)=true
 | [],_=>rfl
 | c :: l,h=>by
  show ((PyData.str ⟨#[c]⟩).canLay0 && Ai (l.map fun c=>PyData.str ⟨#[c]⟩))=true;rw [gy (h c (u3 ..)),cL l fun a ha=>h a (uW _ ha)];rfl
theorem oJ (l:List PyData):xu (.list l) (.list [])=l.isEmpty:=by
 cases l <;> rfl
noncomputable def cb (l:List Nat):PyData:=if qd l then .int (dq l) else .none
abbrev eP (K:uQ):Sp:=spD K 1 (fun (c:Str) xs=>xs=[.dat (.str c)]/\Tx 700 29000 c) fun c r=>r=cb (cpl c)
theorem kr (F:Def K mg "_law_number" jG pq) (uac:mg "len"=none) (uag:mg "int"=none):FnIn P w K mg base (k+1) "_law_number" pq (eP K):=by
 refine F.ok yz rfl fun fa cdv A outer s H E hr=>⟨_,(ze (zK (i:=1) yz.nd rfl (Or.inl rfl) (yT (yn (K:=K) rfl hr.units) (zT jf (pv 0) yj (zY zg)) zu (zM _))) (ze (zK (i:=2) yz.nd rfl (Or.inl rfl) (zT jf (pv 0) (zY (yl vi rfl uag xq (zc (pv 1) zd))) yj)) (ze (z7 (PW.pt (vT (zN (yn (K:=K) rfl hr.units) (pv 2) zu (zM _)) (vT (zN cj (zm yH rfl uac wJ (zc (pv 2) zd)) zg (zM _)) (qO (zN (aA (K:=K) rfl hr.units) (yO (N:=["_law_sign"]) (own:=1) (fr:=[]) (by walk_at "c") rfl (fW (pv 2)) (fun _ _ _ _=>(zL (i:=0) (show (["_law_sign"]:List Str).Nodup by decide +kernel) rfl (Or.inl rfl) (Or.inr rfl))) (fun _ _ _ _=>(nA (zN cR (pv 0) zu rfl))) (fun _ _ _ _=>(pv 0)) rfl rfl (fun _=>rfl)) (yk zd) (zM _)))))) (zi (zI eW)) zJ) (ze (z7 (PW.pt (vz (zN (yn (K:=K) rfl hr.units) (yw ft (pv 2) zg (fun _ _=>rfl)) zu (zM _)) (vS (PW.pt (vT (yf (K:=K) rfl (pv 1) (fun _=>rfl)) (qO (zN cj (zm yH rfl uac wJ (zc (pv 2) zd)) zg (zM _)))))))) (zi (zI eW)) zJ) (ze (zK (i:=3) yz.nd rfl (Or.inl rfl) zg) (ze (j9 xN rfl (fW (pv 2)) (zL (i:=4) yz.nd rfl (Or.inl rfl) (Or.inr rfl)) (zi (zK (i:=3) yz.nd rfl (Or.inl rfl) (zz yL (zz bC zg (pv 3)) (jL wK PySem.F.slot_str_index PySem.F.type_str_index nV zu (zc (pv 4) zd)))))) (zi (zI (yw (zR (K:=K) rfl) (yk (zc (pv 3) (zc (zz bB zg (pv 3)) zd))) (yl vi rfl uag xq (zc (pv 1) zd)) (fun _ _=>rfl)))))))))),?_⟩;rintro f xs z hl ⟨rfl,tx⟩
 try dsimp only [zS,zt]
 have tl:=tx.len;have ll:=ag;have hz:=zO z;have fl:(yp (cpl z)).length<=z.length:=by
  unfold yp;split
  ·rw [xD];omega
  ·omega
 have fs:∀ c∈yp (cpl z),c<128:=fun c hc=>tx.ch c (by
  unfold yp at hc;split at hc
  ·exact AR hc
  ·exact hc)
 have ml:(mkS (yp (cpl z))).length=(yp (cpl z)).length:=by rw [<-zO,yv]
 have fz:=eL z;have h48:(yp (cpl z)).head?=some 48->((cpl z=[48])↔¬ (jr (cpl z)=true \/ 1<(yp (cpl z)).length)):=fun e=>by
  unfold yp at e ⊢;cases ng:jr (cpl z) with
  | true =>
   refine⟨fun q=>?_,fun q=>absurd (.inl rfl) q⟩;rw [q] at ng;cases ng
  | false =>
   rw [ng,CS uT] at e;rw [CS uT];cases q:cpl z with
   | nil=>rw [q] at e;cases e
   | cons a r =>
    rw [q] at e;have:a=48:=by simpa using e
    subst this;cases r <;> simp
 have lw:(PyData.str (mkS (yp (cpl z)))).canLay0=true:=Tx.ok (B:=z.length) (T:=z.length) ⟨by rw [yv];exact fs,by rw [ml];exact fl,by rw [yv];exact wu AF fl⟩;refine yQ (fun ρ=>ρ=[some (.dat (.str z)),some (.dat (.bool (jr (cpl z)))),none,none,none]) (ye (jW (jg (zf rfl ⟨z,rfl,by omega,y9 (yK (z8 ⟨1,rfl,zZ ⟨?_,by decide +kernel,wu (xW _ _) (by decide),zw ?_⟩⟩))⟩)))) ?_
 ·rw [bW];exact Tx.ok (B:=z.length) (T:=z.length) ⟨fun c hc=>by rw [yv] at hc;exact tx.ch c (AQ hc),by rw [<-zO,yv,xg,hz];omega,by rw [yv];refine wu AF ?_;rw [xg,hz];omega⟩
 ·rw [CS uT,v5];have:decide (wg z none (some 1)=("-":Str))=jr (cpl z):=by
   rw [AD,decide_eq_true_eq];exact gv z
  rw [this];rfl
 rintro _ rfl;refine yQ (fun ρ=>ρ=[some (.dat (.str z)),some (.dat (.bool (jr (cpl z)))),some (.dat (.str (mkS (yp (cpl z))))),none,none]) (ye (jg (zf rfl ⟨z,rfl,by omega,yK (fM (zj (zf rfl (zE (.inr ⟨_,rfl,_,rfl,y9 (zw ?_)⟩)))))⟩))) ?_
 ·rw [fz];rfl
 rintro _ rfl;have nb:qd (cpl z)=(decide (1<=(yp (cpl z)).length/\(yp (cpl z)).length<=11) && ((yp (cpl z)).all dig && (decide ((yp (cpl z)).head?≠some 48) || decide (cpl z=[48])))):=rfl;have nv:dq (cpl z)=if jr (cpl z) then -((digitsVal (yp (cpl z)):Nat):Int) else ((digitsVal (yp (cpl z)):Nat):Int):=rfl
 generalize yp (cpl z)=L at *;refine zX (bQ (¬ ((1<=L.length/\L.length<=11)/\L.all dig=true)) ?_ ?_ ?_)
 ·refine fC (yB (jW (zf rfl (zZ ⟨lw,by decide +kernel,wu (xW _ _) (by decide),_,rfl,?_⟩))));rw [CS uT,v5];have en:(mkS L=("":Str))↔L=[]:=by
   rw [qc,yv];exact Iff.rfl
  by_cases e:L=[]
  ·rw [decide_eq_true (en.mpr e),CT rfl];symm;rw [decide_eq_true_eq];rintro⟨⟨q,_⟩,_⟩;rw [e] at q;simp at q
  rw [decide_eq_false (fun q=>e (en.mp q)),CS uT];have e1:1<=L.length:=Bx.mpr e;refine fC (yB (cz (aG (zf rfl ⟨_,rfl,by rw [ml];omega,_,rfl,z8 ⟨_,rfl,_,rfl,?_⟩⟩))));rw [ml];by_cases e2:(11:Int)<(L.length:Int)
  ·rw [decide_eq_true e2,CT rfl];symm;rw [decide_eq_true_eq];rintro⟨⟨_,q⟩,_⟩;omega
  rw [decide_eq_false e2,CS uT];refine yB (jW (PEdO.ped (sg (A:=fun c:Nat=>PyData.str ⟨#[c]⟩) (B:=fun c:Nat=>PyData.str ⟨#[c]⟩) (fun c=>!dig c) L (l4 (zf rfl ⟨_,rfl,?_,by omega,?_,qJ (zE ⟨_,rfl,xA _,?_,rfl,wu (xW _ _) (by decide),_,rfl,?_⟩)⟩)))))
  ·show (cpl (mkS L)).map _=_;rw [yv]
  ·intro D c ρ' es hc ho hes;obtain⟨u,rfl⟩:=ho.one;refine zw (yB (lZ (zf rfl ⟨_,rfl,zZ ⟨_,rfl,_,rfl,?_⟩⟩)));rw [cJ];refine⟨rfl,?_⟩;cases dig c with
   | true =>
    rw [xh,CS uT];exact .mk1
   | false =>
    rw [xt,CT rfl];exact qb hes (zf rfl ⟨.mk1,rfl⟩)
  ·exact cL _ fun c hc=>fs c (B3.mp hc).1
  ·rw [CT rfl,oJ,List.isEmpty_map];rw [AD,AI,decide_eq_true_eq];constructor
   ·intro q r;have:L.filter (fun c=>!dig c)=[]:=B2.mpr fun c hc=>by
     rw [w4.mp r.2 c hc];exact uT
    rw [this] at q;cases q
   ·intro q;cases h:(L.filter fun c=>!dig c).isEmpty with
    | false=>rfl
    | true =>
     exfalso;refine q ⟨⟨e1,by omega⟩,w4.mpr fun c hc=>?_⟩;have:=B2.mp (List.isEmpty_iff.mp h) c hc;cases dc:dig c with
     | true=>rfl
     | false=>rw [dc] at this;exact absurd rfl this
 ·intro h;refine zW (dR ?_);unfold cb;have:qd (cpl z)=false:=by
   rw [nb];by_cases q:1<=L.length/\L.length<=11
   ·cases r:L.all dig with
    | true=>exact absurd ⟨q,r⟩ h
    | false=>rw [AL,BG]
   ·rw [decide_eq_false q,AL]
  rw [this];rfl
 intro h;obtain⟨⟨h1,h2⟩,h3⟩:=xJ.mp h;cases L with
 | nil=>exact absurd h1 (by decide)
 | cons a r =>
  have da:48<=a/\a<=57:=of_decide_eq_true (w4.mp h3 a (u3 ..));have hh:(a :: r).head?=some a:=rfl;have e48:((⟨#[a]⟩:Str)=("0":Str))↔a=48:=by
   rw [qc];show [a]=[48]↔_;simp
  refine ym (zX (bQ (a=48/\(jr (cpl z)=true \/ 1<(a :: r).length)) ?_ ?_ ?_))
  ·refine qT (yB (jW (lY (zf rfl ⟨_,rfl,z8 ⟨0,a,rfl,by rw [ml];omega,?_,zZ ⟨gy (by omega),by decide +kernel,wu (xW _ _) (by decide),_,rfl,?_⟩⟩⟩))))
   ·show atI (cpl (mkS (a :: r))) 0=some a;rw [yv];exact z6 (j:=0) rfl
   rw [CS uT,v5];by_cases ea:a=48
   ·rw [decide_eq_true (e48.mpr ea),CT rfl];refine fC (yY (zf rfl ⟨_,rfl,?_⟩));cases ng:jr (cpl z) with
    | true =>
     rw [CT rfl];symm;rw [decide_eq_true_eq];exact⟨ea,.inl rfl⟩
    | false =>
     rw [CS uT];refine yB (cz (aG (zf rfl ⟨_,rfl,by rw [ml];omega,_,rfl,z8 ⟨_,rfl,_,rfl,?_⟩⟩)));rw [ml,decide_eq_decide];constructor
     ·intro q;exact⟨ea,.inr (by omega)⟩
     ·rintro⟨_,q | q⟩
      ·cases q
      ·omega
   ·rw [decide_eq_false (fun q=>ea (e48.mp q)),CS uT];symm;rw [decide_eq_false_iff_not];exact fun q=>ea q.1
  ·rintro⟨ea,q⟩;subst ea;refine zW (dR ?_);unfold cb;have:qd (cpl z)=false:=by
    rw [nb,hh,decide_eq_false (fun k=>(h48 rfl).mp k q)];simp
   rw [this];rfl
  intro q;have nt:qd (cpl z)=true:=by
   rw [nb,h3,decide_eq_true ⟨h1,h2⟩,Ak,Ak,hh];by_cases ea:a=48
   ·subst ea;rw [decide_eq_true ((h48 rfl).mpr fun k=>q ⟨rfl,k⟩),CJ]
   ·have ne:some a≠some 48:=fun k=>ea (Option.some.inj k);rw [decide_eq_true ne,CN]
  refine ym (zX (ye (z8 (zw (zX (gO (l4 (zf rfl ⟨_,rfl,?_⟩))))))));refine⟨fun i ρ=>∃ u,ρ=[some (.dat (.str z)),some (.dat (.bool (jr (cpl z)))),some (.dat (.str (mkS (a :: r)))),some (.dat (.int ((digitsVal ((a :: r).take i):Nat):Int))),u],⟨_,rfl⟩,?_,?_⟩
  ·rintro i d _ hd ⟨u,rfl⟩;unfold vJ at hd;rw [show (mkS (a :: r)).cps.toList=a :: r from yv _,wj] at hd;cases ec:(a :: r)[i]? with
   | none=>rw [ec] at hd;cases hd
   | some c =>
    rw [ec] at hd;cases hd;have dc:dig c=true:=w4.mp h3 c (wM ec);obtain⟨rest,ho⟩:=kn dc;have st:((digitsVal ((a :: r).take (i+1)):Nat):Int)=10 * ((digitsVal ((a :: r).take i):Nat):Int)+((c - 48:Nat):Int):=by
     rw [AH,ec];show ((digitsVal ((a :: r).take i++[c]):Nat):Int)=_;rw [eM];omega
    refine zw (ye (qI (fA (z8 ⟨10,rfl,zf rfl ⟨_,rfl,.inl ⟨by decide,by decide⟩,_,rfl,sH (zf rfl ⟨_,_,rest,rfl,ho,_,rfl,zw ⟨some (.dat (.str ⟨#[c]⟩)),?_⟩⟩)⟩⟩))));rw [<-st];rfl
  ·rintro _ ⟨u,rfl⟩;have le:(vJ (mkS (a :: r))).length=(a :: r).length:=by
    unfold vJ;rw [uV,show (mkS (a :: r)).cps.toList=a :: r from yv _]
   rw [le,AW];refine zW (vx (qJ (zj (zf rfl (zj (qI (z8 ⟨_,rfl,zf rfl ⟨_,rfl,zE ⟨_,rfl,show 2<=1000 by decide,_,rfl,fM (zj (zf rfl (zE (.inr ⟨_,rfl,_,rfl,?_⟩))))⟩⟩⟩)))))));unfold cb;rw [nt,CT rfl,nv];cases jr (cpl z) with
   | true =>
    refine⟨_,z6 (j:=1) rfl,?_⟩;rw [CT rfl];show PyData.int (0 - _)=_;rw [Int.zero_sub]
   | false =>
    refine⟨_,z6 (j:=0) rfl,?_⟩;rw [CS uT]
abbrev mP (K:uQ):Sp:=spD K 1 (fun (c:List (List Int)) xs=>xs=[.dat (tab c)]) fun c r=>r=match qk c with | none=>.tuple [.str "told",tab c] | some i=>.tuple [.str "table",.int i]
theorem oK (F:Def K mg "_law_table_due" yV pH) (uac:mg "len"=none) (uaj:mg "range"=none) (ual:mg "max"=none) (uak:mg "min"=none):FnIn P w K mg base (k+1) "_law_table_due" pH (mP K):=by
 refine F.ok qj rfl fun fa cdv A outer s H E hr=>⟨_,(ze (z7 (PW.pt (vT (zN kI (zm (zV (K:=K) rfl) rfl uac wJ (zc (pv 0) zd)) zg (zM _)) (qO (zN cj (zm (zV (K:=K) rfl) rfl uac wJ (zc (pv 0) zd)) zg (zM _))))) (zi (zI (jb (zc zu (zc (o6 kG zg) zd))))) zJ) (ze (j9 xN rfl (qe rfl uaj (zc (zm (zV (K:=K) rfl) rfl uac wJ (zc (pv 0) zd)) zd)) (zL (i:=1) qj.nd rfl (Or.inl rfl) (Or.inr rfl)) (ze (z7 (PW.pt (vT (zN (aA (K:=K) rfl hr.units) (zm (zV (K:=K) rfl) rfl uac wJ (zc (yw (zR (K:=K) rfl) (pv 0) (pv 1) (fun _ _=>rfl)) zd)) (zm (zV (K:=K) rfl) rfl uac wJ (zc (yw (zR (K:=K) rfl) (pv 0) zg (fun _ _=>rfl)) zd)) (zM _)) (qO (ja (dI aN aN zg (zm (zV (K:=K) rfl) rfl uac wJ (zc (yw (zR (K:=K) rfl) (pv 0) (pv 1) (fun _ _=>rfl)) zd)) zg))))) (zi (zI (jb (zc zu (zc (pv 1) zd))))) zJ) (zi (z7 (PW.pt (vT (zN cj (zm (cC (K:=K) rfl rfl) rfl ual boot_max (zc (yw (zR (K:=K) rfl) (pv 0) (pv 1) (fun _ _=>rfl)) zd)) (zz bD zg zg) (zM _)) (qO (zN kI (zm (cB (K:=K) rfl rfl) rfl uak boot_min (zc (yw (zR (K:=K) rfl) (pv 0) (pv 1) (fun _ _=>rfl)) zd)) (zz bB zg (zz bD zg zg)) (zM _))))) (zi (zI (jb (zc zu (zc (pv 1) zd))))) zJ)))) (zi (zI (jb (zc zu (zc (pv 0) zd))))))),?_⟩;rintro f xs rows hl rfl
 try dsimp only [zS,zt]
 have ml:(rows.map fun r=>PyData.list (r.map .int)).length=rows.length:=uV _;have told:∀ i:Int,qk rows=some i->PyData.tuple [.str "table",.int i]=match qk rows with | none=>PyData.tuple [.str "told",tab rows] | some i=>.tuple [.str "table",.int i]:=fun i e=>by rw [e]
 refine zX (bQ (¬ (2<=rows.length/\rows.length<=7)) ?_ ?_ ?_)
 ·walk_at "w";rw [ml];split <;> rename_i z <;> simp at z
  ·symm;simp;omega
  ·walk_at "w";rw [ml];rw [decide_eq_decide];omega
 ·intro h;refine zW (jX (zj (zZ (zj (pK ?_)))));walk_at "w";exact told (-1) (by unfold qk;rw [CS h])
 intro h;have h:2<=rows.length/\rows.length<=7:=xJ.mp h;obtain⟨r0,e0⟩:∃ r0,rows[0]?=some r0:=⟨_,uZ (by omega)⟩;have g0:(rows.getD 0 []).length=r0.length:=by rw [w5,e0];rfl
 have at0:atI (rows.map fun q=>PyData.list (q.map .int)) 0=some (.list (r0.map .int)):=z6 (j:=0) (by rw [wj,e0];rfl);refine ym (zX (gO (vX (sD [.dat (.int rows.length)] ?_ ?_))))
 ·walk_at "w";rw [ml]
 refine⟨_,rfl,by omega,by omega,fun i ρ=>(∃ a,ρ=[some (.dat (tab rows)),a])/\∀ j:Nat,j<i->∀ q,rows[j]?=some q->yS (rows.getD 0 []).length q=false,⟨⟨_,rfl⟩,fun j hj=>absurd hj (A8 _)⟩,?_,?_⟩
 ·rintro i d _ hd ⟨⟨a,rfl⟩,pre⟩;obtain⟨hi,rfl⟩:=vf hd;rw [xy] at hi;obtain⟨r,er⟩:∃ r,rows[i]?=some r:=⟨_,uZ hi⟩;have ati:atI (rows.map fun q=>PyData.list (q.map .int)) (i:Int)=some (.list (r.map .int)):=z6 (by rw [wj,er];rfl);have bad:yS r0.length r=true->PyData.tuple [.str "table",.int (i:Int)]=match qk rows with | none=>PyData.tuple [.str "told",tab rows] | some i=>.tuple [.str "table",.int i]:=fun z=>told _ (mE h er (by rw [g0];exact z) pre)
  have lr:(r.map PyData.int).length=r.length:=uV _;have lr0:(r0.map PyData.int).length=r0.length:=uV _;refine zw (zX (bQ (¬ (r.length=r0.length/\2<=r.length/\r.length<=7)) ?_ ?_ ?_))
  ·walk_at "w";refine⟨_,ati,?_⟩;walk_at "w";refine⟨_,at0,?_⟩;walk_at "w";rw [lr,lr0,CT rfl];show (if (!(((r.length:Nat):Int) == ((r0.length:Nat):Int)))=true then _ else _);split <;> rename_i z
   ·symm;rw [decide_eq_true_eq];simp at z;omega
   ·have z:(r.length:Int)=r0.length:=by simpa using z
    refine qf (yB (bh (z8 ⟨_,rfl,dS (zj (vx (zf rfl ⟨_,rfl,zf rfl ⟨_,rfl,_,ati,zE (.inl ⟨_,rfl,_,rfl,?_⟩)⟩⟩)))⟩)));rw [lr];split
    ·rename_i z1;have z1:=of_decide_eq_true z1;refine z8 ⟨_,rfl,_,rfl,?_⟩;rw [<-decide_not,decide_eq_decide];omega
    ·rename_i z1;refine⟨_,rfl,?_⟩;symm;rw [xt,decide_eq_true_eq];intro q;exact z1 (decide_eq_true (by omega))
  ·intro hb;refine zW (jX (zj (zZ (zj (zf rfl (zE ⟨_,rfl,show 2<=1000 by decide,bad ?_⟩))))));unfold yS bV;by_cases hw:r.length=r0.length
   ·rw [A9];refine .inr ?_;rw [AI,decide_eq_false_iff_not];exact fun z=>hb ⟨hw,z.1,z.2.1⟩
   ·simp [hw]
  ·intro hb;have hb:r.length=r0.length/\2<=r.length/\r.length<=7:=xJ.mp hb;have rn:r≠[]:=by rintro rfl;simp at hb
   have p9:(10:Int) ^ Int.toNat 9=1000000000:=by decide
   refine ym (bQ (¬ ∀ n∈r,-1000000000<=n/\n<=1000000000) ?_ ?_ ?_)
   ·refine fC (yB (cz (fF (zj (vx (zf rfl ⟨_,rfl,zf rfl ⟨_,rfl,_,ati,zE ⟨r,rfl,rn,fun M hM hM'=>⟨_,rfl,?_⟩⟩⟩⟩))))));walk_at "w";rw [p9];by_cases z:(1000000000:Int)<M
    ·rw [decide_eq_true z,CT rfl];symm;rw [decide_eq_true_eq];exact fun q=>by have:=(q M hM).2;omega
    rw [decide_eq_false z,CS uT];refine yB (cz (fE (zj (vx (zf rfl ⟨_,rfl,zf rfl ⟨_,rfl,_,ati,zE ⟨r,rfl,rn,fun N hN hN'=>⟨_,rfl,?_⟩⟩⟩⟩)))));walk_at "w";rw [p9,decide_eq_decide];constructor
    ·intro q u;have:=(u N hN).1;omega
    ·intro q;rcases Int.lt_or_le N (0 - 1000000000) with z1 | z1
     ·exact z1
     ·exfalso;refine q fun n hn=>?_;have:=hM' n hn;have:=hN' n hn;omega
   ·intro hn;refine zW (jX (zj (zZ (zj (zf rfl (zE ⟨_,rfl,show 2<=1000 by decide,bad ?_⟩))))));unfold yS bV;rw [A9];refine .inr ?_;rw [AI,decide_eq_false_iff_not];exact fun z=>hn z.2.2
   ·intro hn;have hn:∀ n∈r,-1000000000<=n/\n<=1000000000:=xJ.mp hn;refine ym ⟨⟨_,rfl⟩,fun j hj q hq=>?_⟩;by_cases ej:j=i
    ·subst ej;rw [er] at hq;cases hq;unfold yS bV;rw [g0,decide_eq_true (⟨hb.2.1,hb.2.2,hn⟩:2<=r.length/\r.length<=7/\∀ n∈r,-1000000000<=n/\n<=1000000000)];simp [hb.1]
    ·exact pre j (by omega) q hq
 ·rintro _ ⟨⟨a,rfl⟩,pre⟩;rw [aJ,xy] at pre;refine zW (jX (zj (zZ (zj (zf rfl (zE ⟨_,rfl,show 2<=1000 by decide,?_⟩))))));rw [eK h pre]
noncomputable def qM (z:Str):PyData:=match ai z with
 | some i=>.tuple [.str "text",.int (i:Nat)]
 | none=>match qk (ju z) with
  | none=>.tuple [.str "told",tab (ju z)]
  | some i=>.tuple [.str "table",.int i]
abbrev rg (K:uQ):Sp:=spD K 1 (fun (c:Str) xs=>xs=[.dat (.str c)]/\Tx 700 29000 c) fun c r=>r=qM c
theorem any_none (l:List Str):((l.map fun v=>cb (cpl v)).any fun e=>xu e .none)=!(l.all fun v=>qd (cpl v)):=by
 induction l with
 | nil=>rfl
 | cons v l ih =>
  rw [xr,CC,List.all_cons,ih];unfold cb;cases qd (cpl v) <;> rfl
theorem tG (F:Def K mg "_law_due" vo ph) (uai:mg "enumerate"=none) (ubJ:FnIn P w K mg base k "_law_number" pq (eP K)) (ubK:FnIn P w K mg base k "_law_table_due" pH (mP K)):FnIn P w K mg base (k+1) "_law_due" ph (rg K):=by
 refine F.ok jQ rfl fun fa cdv A outer s H E hr=>⟨_,(ze (zK (i:=1) jQ.nd rfl (Or.inl rfl) (yk zd)) (ze (j9 xN rfl (vW (K:=K) rfl rfl uai (zc (jL wK xa xb jP (pv 0) (zc zu zd)) zd)) (vm (K:=K) (n:=2) rfl rfl (yi (zL (i:=2) jQ.nd rfl (Or.inl rfl) (Or.inr rfl)) (yi (zL (i:=3) jQ.nd rfl (Or.inl rfl) (Or.inr rfl)) qp))) (ze (aR (i:=4) (N:=pq) (own:=1) (fr:=[]) (by walk_at "c") rfl jQ.nd rfl (Or.inl rfl) (jo (K:=K) rfl (jL wK xa xb jP (pv 3) (zc zu zd))) (fun _ _ _ _=>(zL (i:=0) (show (pq:List Str).Nodup by decide +kernel) rfl (Or.inl rfl) (Or.inr rfl))) (fun _ _ _ _=>y3) (fun _ _ _ _=>(zv ubJ hr rfl (zc (pv 0) zd))) rfl rfl (fun _=>rfl) (Or.inl rfl) rfl) (ze (z7 (zN (nK (K:=K) rfl hr.units) eW (pv 4) rfl) (zi (zI (jb (zc zu (zc (pv 2) zd))))) zJ) (zi (jV (jL Au Al Am vj (pv 1) (zc (pv 4) zd))))))) (zi (zI (zv ubK hr rfl (zc (pv 1) zd)))))),?_⟩;rintro f xs z hl ⟨rfl,tx⟩
 try dsimp only [zS,zt]
 have ll:=ag;have tl:=tx.len;have nl:(zk z).length<=701:=vd (.inr rfl) tx;refine lH (w:=w) (lL (bj (gP ⟨show 1<5 by decide,fun D=>?_⟩)));refine cE (lK (fK (zj (PEdO.ped (qx (c:=10) (zf rfl ⟨z,rfl,by omega,zE ⟨_,rfl,?_⟩⟩))))));refine⟨fun i ρ cs=>(∃ a b c,ρ=[some (.dat (.str z)),some (.own (f.M.length+0)),a,b,c])/\cs=[.lst (((zk z).take i).map fun l=>PyData.list ((ve l).map .int))]/\∀ j:Nat,j<i->∀ l,(zk z)[j]?=some l->vN l=true,⟨⟨_,_,_,rfl⟩,rfl,fun j hj=>absurd hj (A8 _)⟩,?_,?_⟩
 ·rintro i d _ _ hd ⟨⟨a,b,c,rfl⟩,rfl,pre⟩;unfold qK at hd;rw [AN,wj] at hd;obtain⟨l,el,rfl⟩:∃ l:Str,(zk z)[i]?=some l/\d=.tuple [.int (i:Int),.str l]:=by
   cases el:(zk z)[i]? with
   | none =>
    have el2:(wD z ⟨#[10]⟩)[i]?=none:=el;rw [el2] at hd;cases hd
   | some l =>
    have el2:(wD z ⟨#[10]⟩)[i]?=some l:=el;rw [el2] at hd;cases hd;exact⟨l,rfl,rfl⟩
  have hi:i<(zk z).length:=(uY.mp el).1;have txl:Tx 700 29000 l:=vq (.inr rfl) tx (wM el);have tll:=txl.len;have nw:(jy l).length<=701:=vd (.inl rfl) txl;refine cA rfl (yU (zw (yU (zw (vG ?_)))));refine cE (pR (lJ (PEdO.ped (qX (A:=fun v:Str=>PyData.str v) (B:=fun v=>cb (cpl v)) (jy l) (qW (PEdO.ped (qx (c:=32) (zf rfl ⟨l,rfl,by omega,_,rfl,rfl,by omega,?_,?_⟩))))))))
  ·intro D' v ρ' es hv ho hes;obtain⟨u,rfl⟩:=ho.one;refine zw (vy ?_);rw [CT rfl];refine qb hes (zG v (zj (zf rfl (zE ⟨rfl,⟨rfl,vq (.inl rfl) txl hv⟩,?_⟩))));rintro _ rfl;exact⟨.mk1,rfl⟩
  refine cE (uN (ub (yB (t7 (dR (zf rfl ⟨_,rfl,rfl,?_,by decide,_,rfl,?_⟩))))))
  ·intro e he;obtain⟨v,_,rfl⟩:=wY.mp he;unfold cb;split <;> rfl
  rw [any_none];show if (!vN l)=true then _ else _
  cases ol:vN l with
  | false =>
   rw [xt,CT rfl];refine fO (zW (jX (zj (zZ (zj (zf rfl (zE ⟨_,rfl,show 2<=1000 by decide,?_⟩)))))));have:ai z=some i:=by
    unfold ai;rw [Aa];refine⟨hi,?_,fun j hj=>?_⟩
    ·rw [(uY.mp el).2,ol];rfl
    ·rw [pre j hj _ (uZ (by omega))];exact uT
   unfold qM;rw [this]
  | true =>
   rw [xh,CS uT];have ow:∀ v∈jy l,qd (cpl v)=true:=fun v hv=>w4.mp ol v hv;have en:(jy l).map (fun v=>cb (cpl v))=(ve l).map .int:=by
    unfold ve;rw [xF];refine Bz fun v hv=>?_;unfold cb;rw [ow v hv];rfl
   refine lI ?_;have lm:(((zk z).take i).map fun l=>PyData.list ((ve l).map .int)).length<1000:=by
    rw [uV,xg];omega
   refine gS (j:=0) rfl rfl lm (lJ (zf rfl ⟨⟨_,_,_,rfl⟩,?_,fun j hj q hq=>?_⟩))
   ·show [OC.lst _]=_;rw [AH,el,wO,en];rfl
   ·by_cases ej:j=i
    ·subst ej;rw [el] at hq;cases hq;exact ol
    ·exact pre j (by omega) q hq
 ·rintro _ _ ⟨⟨a,b,c,rfl⟩,rfl,pre⟩;have le:(qK ((wD z ⟨#[10]⟩).map .str)).length=(zk z).length:=by
   unfold qK;rw [Bd,uV];rfl
  rw [le] at pre ⊢;rw [AW];have bn:ai z=none:=by
   unfold ai;rw [Ab];intro q hq;obtain⟨j,hj⟩:=Ah hq;rw [pre j (uY.mp hj).1 q hj];rfl
  refine lM ?_;have ee:List.map (freed f.M.length [OC.lst ((zk z).map fun l=>PyData.list ((ve l).map .int))]) [some (.dat (.str z)),some (.own (f.M.length+0)),a,b,c]=[some (.dat (.str z)),some (.dat (tab (ju z))),freed f.M.length [OC.lst ((zk z).map fun l=>PyData.list ((ve l).map .int))] a,freed f.M.length [OC.lst ((zk z).map fun l=>PyData.list ((ve l).map .int))] b,freed f.M.length [OC.lst ((zk z).map fun l=>PyData.list ((ve l).map .int))] c]:=by
   simp [freed,tab,ju]
  rw [ee];refine zW (zG (ju z) (zj (zf rfl (zE ⟨rfl,rfl,?_⟩))));rintro r rfl;show _=qM z;unfold qM;rw [bn]
open PySem PySem.NumText PySem.Spec PyProof.Rows L2
noncomputable def yG (c:Nat):List Nat->List (List Nat)
 | []=>[[]]
 | a :: l=>if a=c then [] :: yG c l else match yG c l with
  | []=>[[a]]
  | h :: t=>(a :: h) :: t
theorem j8 (c a:Nat) (l:List Nat):yG c (a :: l)=if a=c then [] :: yG c l else match yG c l with
  | []=>[[a]]
  | h :: t=>(a :: h) :: t:=rfl
theorem vg {c:Nat}:∀ {x:List Nat},c∉x->yG c x=[x]
 | [],_=>rfl
 | a :: x,h=>by
  have ha:a≠c:=fun z=>h (z▸u3 ..);rw [j8,CS ha,vg fun z=>h (uW _ z)]
theorem vO {c:Nat} {r:List Nat}:∀ {x:List Nat},c∉x->yG c (x++c :: r)=x :: yG c r
 | [],_=>by
  show yG c (c :: r)=_;rw [j8,CT rfl]
 | a :: x,h=>by
  have ha:a≠c:=fun z=>h (z▸u3 ..);show yG c (a :: (x++c :: r))=_;rw [j8,CS ha,vO fun z=>h (uW _ z)]
theorem vh {c:Nat}:∀ {L:List (List Nat)},L≠[]->(∀ x∈L,c∉x)->yG c (jR c L)=L
 | [],h,_=>absurd rfl h
 | [x],_,h=>vg (h x (u3 ..))
 | x :: y :: r,_,h=>by
  show yG c (x++c :: jR c (y :: r))=_;rw [vO (h x (u3 ..)),vh (by simp) fun z hz=>h z (uW _ hz)]
theorem dC:∀ {l m:List Str},l.map cpl=m.map cpl->l=m
 | [],[],_=>rfl
 | [],_ :: _,h=>by cases h
 | _ :: _,[],h=>by cases h
 | x :: l,y :: m,h=>by
  have h1:cpl x=cpl y/\l.map cpl=m.map cpl:=by
   rw [xr,xr] at h;exact List.cons.inj h
  rw [qc.mpr h1.1,dC h1.2]
theorem bY {c:Nat} {ts:List Str} (hn:ts≠[]) (h:∀ t∈ts,c∉cpl t):wD (xY ⟨#[c]⟩ ts) ⟨#[c]⟩=ts:=by
 have ej:xY ⟨#[c]⟩ ts=xQ ⟨#[c]⟩ ts:=xp _ _;have e1:=vM (xY ⟨#[c]⟩ ts) c;rw [ej,jS] at e1;have f1:∀ x∈ts.map cpl,c∉x:=fun x hx=>by
  obtain⟨t,ht,rfl⟩:=wY.mp hx;exact h t ht
 have e2:=congrArg (yG c) e1;rw [vh (by simpa using hn) f1,vh (by simpa using eN (xQ ⟨#[c]⟩ ts) c) fun x hx=>by
  obtain⟨t,ht,rfl⟩:=wY.mp hx;exact StrLaws.split_free _ c t ht] at e2
 rw [ej];exact (dC e2).symm
noncomputable def ql (i:Int):Str:=w6 (toString i)
theorem eQ (m:Nat) (h:((w9 10 m).map xk).head?=some 48):(w9 10 m).map xk=[48]:=by
 have ad:AllDigits ((w9 10 m).map xk):=fun c hc=>jT hc;have e:=toDigits_all _ ad;rw [Aj] at e;cases q:(w9 10 m).map xk with
 | nil=>rw [q] at h;cases h
 | cons a r =>
  rw [q] at h e;have:a=48:=by simpa using h
  subst this;have ed:(48 :: r).dropWhile (· == 48)=r.dropWhile (· == 48):=rfl;rw [ed] at e;have le:(r.dropWhile (· == 48)).length<=r.length:=(List.dropWhile_sublist _).length_le;have ll:=congrArg Bq q;rw [uV,wy] at ll;cases w:r.dropWhile (· == 48) with
  | nil =>
   rw [w] at e;have e1:=congrArg Bq e;have:r.length=0:=by
    simp at e1;omega
   rw [BU.mp this]
  | cons b s =>
   exfalso;rw [w] at e le;have e1:=congrArg Bq e;simp at e1 le;omega
theorem mQ {i:Int} (h:i.natAbs<10 ^ 10):qd (cpl (ql i))=true/\dq (cpl (ql i))=i:=by
 have ad:∀ m:Nat,((w9 10 m).map xk).all dig=true:=fun m=>w4.mpr fun c hc=>decide_eq_true (jT hc);have ne:∀ m:Nat,m<10 ^ 10->1<=((w9 10 m).map xk).length/\((w9 10 m).map xk).length<=10:=fun m hm=>by
  have l:=BJ (n:=((m:Nat):Int)) (by omega) (by omega);rw [<-zO,aj] at l;refine⟨?_,l⟩;cases q:(w9 10 m).map xk with
  | cons a r=>simp
  | nil =>
   have:=Aj m;rw [q] at this;have z:m=0:=this.symm;subst z;cases q
 cases i with
 | ofNat m =>
  have hm:m<10 ^ 10:=h;have e:cpl (ql (Int.ofNat m))=(w9 10 m).map xk:=aj m;obtain⟨l1,l2⟩:=ne m hm;have ng:jr (cpl (ql (Int.ofNat m)))=false:=by
   rw [e];unfold jr;cases q:(w9 10 m).map xk with
   | nil=>rfl
   | cons a r =>
    have:=jT (m:=m) (c:=a) (by rw [q];exact u3 ..);have:a≠45:=by omega
    simpa using this
  have fg:yp (cpl (ql (Int.ofNat m)))=(w9 10 m).map xk:=by
   unfold yp;rw [ng,CS uT,e]
  constructor
  ·unfold qd;rw [fg,ad m,decide_eq_true ⟨l1,by omega⟩,Ak,Ak,e];by_cases z:((w9 10 m).map xk).head?=some 48
   ·rw [decide_eq_true (eQ m z),CJ]
   ·rw [decide_eq_true z,CN]
  ·unfold dq;rw [ng,CS uT,fg,Aj];rfl
 | negSucc m =>
  have hm:m+1<10 ^ 10:=h;have e:cpl (ql (Int.negSucc m))=45 :: (w9 10 (m+1)).map xk:=by
   show (w6 ("-"++toString (m+1))).cps.toList=_;rw [signs_ofString,Cp,wO];show 45 :: (toString (m+1)).toList.map xk=_;rw [<-aj (m+1)];show _=45 :: (w6 (toString (m+1))).cps.toList;rw [signs_ofString]
  obtain⟨l1,l2⟩:=ne (m+1) hm;have ng:jr (cpl (ql (Int.negSucc m)))=true:=by rw [e];rfl
  have fg:yp (cpl (ql (Int.negSucc m)))=(w9 10 (m+1)).map xk:=by
   unfold yp;rw [ng,CT rfl,e];rfl
  constructor
  ·unfold qd;rw [fg,ad (m+1),decide_eq_true ⟨l1,by omega⟩,Ak,Ak];have z:((w9 10 (m+1)).map xk).head?≠some 48:=fun z=>by
    have q:=eQ (m+1) z;have:=Aj (m+1);rw [q] at this;have:(0:Nat)=m+1:=this;omega
   rw [decide_eq_true z,CN]
  ·unfold dq;rw [ng,CT rfl,fg,Aj];omega
noncomputable def vP (r:List Int):Str:=xY " " (r.map ql)
noncomputable def tabS (rows:List (List Int)):Str:=xY "\n" (rows.map vP)
section
variable {wd:Nat} {rows:List (List Int)}
theorem qm {i:Int} (h:-1000000000<=i/\i<=1000000000):i.natAbs<10 ^ 10:=by omega
theorem dD (g:Good wd rows) {r:List Int} (hr:r∈rows):JoinOk " " (r.map ql)=true/\Tx 8 107 (vP r):=by
 have w2:=g.w2;refine ak (c:=32) (.inl rfl) (fun v hv=>?_) (by rw [uV,g.row r hr];omega) (b:=0) (t:=11) (by decide) (by decide) (by decide);obtain⟨i,hi,rfl⟩:=wY.mp hv;exact bX (qm (g.hgt r hr i hi))
theorem mR (g:Good wd rows):JoinOk "\n" (rows.map vP)=true/\Tx 80 971 (tabS rows):=by
 have h2:=g.h2;refine ak (c:=10) (.inr rfl) (fun v hv=>?_) (by rw [uV];omega) (b:=8) (t:=107) (by decide) (by decide) (by decide);obtain⟨r,hr,rfl⟩:=wY.mp hv;exact (dD g hr).2
theorem mS {i:Int} (h:i.natAbs<10 ^ 10):(32:Nat)∉cpl (ql i)/\(10:Nat)∉cpl (ql i):=by
 have:=(aK i h).1;refine⟨fun z=>?_,fun z=>?_⟩ <;> have:=this _ z <;> omega
theorem words_of (g:Good wd rows) {r:List Int} (hr:r∈rows):wD (vP r) ⟨#[32]⟩=r.map ql:=by
 have w1:=g.w1;have rl:=g.row r hr;refine bY (fun z=>?_) fun t ht=>?_
 ·have:=congrArg Bq z;rw [uV] at this;simp at this;rw [this] at rl;simp at rl;omega
 ·obtain⟨i,hi,rfl⟩:=wY.mp ht;exact (mS (qm (g.hgt r hr i hi))).1
theorem mT (g:Good wd rows):wD (tabS rows) ⟨#[10]⟩=rows.map vP:=by
 have h1:=g.h1;refine bY (fun z=>?_) fun t ht=>?_
 ·have:=congrArg Bq z;rw [uV] at this;simp at this;rw [this] at h1;simp at h1
 ·obtain⟨r,hr,rfl⟩:=wY.mp ht;intro z;have ej:vP r=xQ ⟨#[32]⟩ (r.map ql):=xp _ _;rw [ej,jS] at z;rcases ah z with z | ⟨x,hx,z⟩
  ·cases z
  ·obtain⟨v,hv,rfl⟩:=wY.mp hx;obtain⟨i,hi,rfl⟩:=wY.mp hv;exact (mS (qm (g.hgt r hr i hi))).2 z
end
open PySem PySem.NumText PySem.Spec PyProof.Rows L2
noncomputable abbrev semi:Str:=⟨#[59,32]⟩
theorem tH {x:Str} {j:Nat} (h1:x.cps.toList[j]?=some 59) (h2:x.cps.toList[j+1]?=some 32):StrLaws.At x semi x.length j:=by
 obtain⟨l2,e2⟩:=uY.mp h2;obtain⟨l1,e1⟩:=uY.mp h1;refine⟨?_,?_⟩
 ·show j+2<=x.cps.size;rw [xi] at l2;omega
 ·rw [StrLaws.subAt_eq,beq_iff_eq];show (x.cps.toList.drop j).take 2=[59,32];rw [A2 l1,A2 l2,e1,e2];rfl
def dE (x:Str):Prop:=∀ j:Nat,(cpl x)[j]?=some 59->(cpl x)[j+1]?=some 32
theorem vQ {x:Str} (hx:dE x) (a b:Nat) (hb:b<=x.length) (hn:∀ k,a<=k->k<b->¬ StrLaws.At x semi x.length k):59∉cpl (Builtin.Str.strSub x a b):=by
 intro hm;have hm:59∈(Builtin.Str.strSub x a b).cps.toList:=hm;rw [StrLaws.strSub_toList] at hm;obtain⟨j,hj⟩:=Ah hm;have hlt:j<b - a:=by
  have h1:j<((x.cps.toList.drop a).take (b - a)).length:=(uY.mp hj).1;simp at h1;omega
 rw [A4 hlt,List.getElem?_drop] at hj;exact hn (a+j) (by omega) (by omega) (tH hj (hx _ hj))
theorem aX {x:Str} (hx:dE x):∀ (cuts:List Nat) (a f:Nat),StrLaws.ChainG x semi x.length a cuts f->(∀ k,f<=k->¬ StrLaws.At x semi x.length k)->∀ p∈StrLaws.partsFrom x semi.length a cuts,59∉cpl p
 | [],a,f,h,hn,p,hp=>by
  have e:f=a:=h;subst e;rw [u7.mp hp];exact vQ hx f x.length (wc _) fun k h1 _=>hn k h1
 | d :: r,a,f,h,hn,p,hp=>by
  rcases u6.mp hp with rfl | hp'
  ·exact vQ hx a d (by have:=h.2.1.1;omega) h.2.2.1
  ·exact aX hx r _ f h.2.2.2 hn p hp'
theorem eR {x:Str} (hx:dE x):∀ p∈wD x semi,59∉cpl p:=by
 obtain⟨f,hG,hn⟩:=StrLaws.occ_tight x semi (show 1<=2 by decide);unfold wD;split
 ·rename_i hc;intro p hp;rw [u7.mp hp];intro hm;rw [A9,decide_eq_true_eq,decide_eq_true_eq] at hc;rcases hc with h | h
  ·obtain⟨j,hj⟩:=Ah hm;have h2:=(uY.mp (hx j hj)).1;have h:x.length<2:=h;rw [zO] at h2;omega
  ·exact absurd hm (StrLaws.kind_free x 59 (show _<_ from (show xP semi=xP ⟨#[59]⟩ by decide +kernel)▸h))
 ·split
  ·rename_i he;intro p hp;rw [u7.mp hp];have e0:wG x semi 0 x.length (x.length+1)=[]:=List.isEmpty_iff.mp he;rw [e0] at hG;have ef:f=0:=hG;subst ef;rw [<-StrLaws.sub_whole x];exact vQ hx 0 x.length (wc _) fun k h1 _=>hn k h1
  ·rw [StrLaws.partsBetween_eq];exact aX hx _ 0 f hG hn
noncomputable def joinM:List (List Nat)->List Nat
 | []=>[]
 | [x]=>x
 | x :: y :: r=>x++59 :: 32 :: joinM (y :: r)
theorem qo:∀ ts:List Str,cpl (xQ semi ts)=joinM (ts.map cpl)
 | []=>rfl
 | [x]=>rfl
 | x :: y :: r=>by
  show cpl (x++semi++xQ semi (y :: r))=cpl x++59 :: 32 :: joinM ((y :: r).map cpl);rw [vp,vp,qo (y :: r),List.append_assoc];rfl
theorem eS:∀ L:List (List Nat),(∀ x∈L,59∉x)->∀ j:Nat,(joinM L)[j]?=some 59->(joinM L)[j+1]?=some 32
 | [],_,j,h=>by
  have h:([]:List Nat)[j]?=some 59:=h;simp at h
 | [x],f,j,h=>absurd (wM h) (f x (u3 ..))
 | x :: y :: r,f,j,h=>by
  have h:(x++59 :: 32 :: joinM (y :: r))[j]?=some 59:=h;show (x++59 :: 32 :: joinM (y :: r))[j+1]?=some 32;by_cases h1:j<x.length
  ·rw [wA h1] at h;exact absurd (wM h) (f x (u3 ..))
  ·rw [wH (by omega)] at h;rw [wH (by omega),show j+1 - x.length=(j - x.length)+1 by omega];generalize j - x.length=i at *
   match i with
   | 0=>rfl
   | 1=>cases h
   | i+2=>exact eS (y :: r) (fun z hz=>f z (uW _ hz)) i h
theorem ao:∀ (x:List Nat) (L:List (List Nat)),59∉x->(∀ z∈L,59∉z)->yG 59 (joinM (x :: L))=x :: L.map fun z=>32 :: z
 | x,[],h,_=>vg h
 | x,y :: r,h,f=>by
  show yG 59 (x++59 :: (32 :: joinM (y :: r)))=_;rw [vO h,j8,CS (by decide),ao y r (f y (u3 ..)) fun z hz=>f z (uW _ hz)];rfl
theorem uz (l:List (List Nat)):(l.map fun z=>32 :: z).map List.tail=l:=by
 rw [xF];exact List.map_id l
theorem eT {ts:List Str} (hn:ts≠[]) (h:∀ t∈ts,59∉cpl t):wD (xY semi ts) semi=ts:=by
 have ej:xY semi ts=xQ semi ts:=xp _ _;have f1:∀ x∈ts.map cpl,59∉x:=fun x hx=>by
  obtain⟨t,ht,rfl⟩:=wY.mp hx;exact h t ht
 have ok:dE (xQ semi ts):=fun j hj=>by
  rw [qo] at hj ⊢;exact eS _ f1 j hj
 have f2:=eR ok;have e1:cpl (xQ semi ts)=joinM ((wD (xQ semi ts) semi).map cpl):=by
  rw [<-qo,StrLaws.join_split]
 have sp:=split_pos (xQ semi ts) semi;rw [ej];generalize wD (xQ semi ts) semi=us at *;rw [qo] at e1
 match ts,us,hn,sp with
 | t :: ts,u :: us,_,_ =>
  have g:∀ (a:Str) (l:List Str),(∀ p∈a :: l,59∉cpl p)->yG 59 (joinM ((a :: l).map cpl))=cpl a :: (l.map cpl).map fun z=>32 :: z:=fun a l fl =>
   ao (cpl a) (l.map cpl) (fl a (u3 ..)) fun z hz=>by
    obtain⟨p,hp,rfl⟩:=wY.mp hz;exact fl p (uW _ hp)
  have e2:=congrArg (yG 59) e1;rw [g t ts h,g u us f2] at e2;obtain⟨a,b⟩:=List.cons.inj e2;have b2:ts.map cpl=us.map cpl:=by
   have:=congrArg (List.map List.tail) b;rw [uz,uz] at this;exact this
  rw [qc.mpr a,dC b2]
open PySem PySem.NumText PySem.Spec PyProof.Rows L2
abbrev ic (K:uQ):Sp:=spD K 2 (fun (_:Unit) xs=>xs=[.dat (.str ""),.dat (.list [])]) fun _ r=>r=.bool true
theorem eU (F:Def K mg "has_form" qz pB) (uac:mg "len"=none) (uam:mg "all"=none) (uaP:mg "zip"=none):FnIn P w K mg base (k+1) "has_form" pB (ic K):=by
 refine F.ok eF rfl fun fa cdv A outer s H E hr=>⟨_,(zi (zI (bz (yT (yn (K:=K) rfl hr.units) (zm yH rfl uac wJ (zc (pv 0) zd)) (zm (zV (K:=K) rfl) rfl uac wJ (zc (pv 1) zd)) (zM _)) (bw (zm (aB (K:=K) rfl rfl) rfl uam Bl (zc (yO (N:=["kind","text"]) (own:=2) (fr:=[]) (by walk_at "c") rfl (oj (K:=K) rfl rfl uaP (zc (pv 0) (zc (pv 1) zd))) (fun _ _ _ _=>(vm (K:=K) (n:=2) rfl rfl (yi (zL (i:=0) (show (["kind","text"]:List Str).Nodup by decide +kernel) rfl (Or.inl rfl) (Or.inr rfl)) (yi (zL (i:=1) (show (["kind","text"]:List Str).Nodup by decide +kernel) rfl (Or.inl rfl) (Or.inr rfl)) qp)))) (fun _ _ _ _=>y3) (fun _ _ _ _=>tj) rfl rfl (fun _=>rfl)) zd)))))),?_⟩;rintro f xs _ hl rfl
 try dsimp only [zS,zt]
 refine zW (bI (jW (aG (zf rfl ⟨_,rfl,by decide,dS (zj (zf rfl (zE (.inl ⟨_,rfl,?_⟩))))⟩))));refine⟨rfl,rfl,by decide,?_⟩;refine⟨true,by rfl,?_⟩;rw [CT rfl];refine lC (PEdO.ped (qX (A:=fun c:Nat=>PyData.int c) (B:=fun c=>PyData.bool true) [] (sW (zj (zf rfl (zj (zf rfl (zE ⟨_,_,rfl,rfl,?_⟩))))))));refine⟨rfl,by decide,?_,[],rfl,rfl⟩;rintro D c ρ' es hc;cases hc
abbrev mU (K:uQ):Sp:=spD K 1 (fun (_:Unit) xs=>xs=[.dat (.str "table")]) fun _ r=>r=.tuple [.str "table",.list []]
theorem eV {uaK:uR} (F:Def K mg "read_row" qy ["line"]) (uae:mg "isinstance"=none) (uah:mg "str"=none) (uaA:mg "any"=none) (uag:mg "int"=none) (uac:mg "len"=none) (uaQ:mg "FORMS"=some (.ref uaK)) (kSS:uU K (.type "str") (.type "str")=some true) (q_form:g8 K uaK "table" [""]=true)
  (ubL:FnIn P w K mg base k "has_form" pB (ic K)):FnIn P w K mg base (k+1) "read_row" ["line"] (mU K):=by
 obtain⟨dn_FORMS,tF,hF,rF⟩:=oy q_form;refine F.ok j3 rfl fun fa cdv A outer s H E hr=>⟨_,(ze (z7 (ja (yf (K:=K) rfl (zm (cD (K:=K) rfl) rfl uae boot_isinstance (zc (pv 0) (zc (cP (v:=.ty "str") rfl uah x9 rfl) zd))) (fun _=>rfl))) (zi qP) zJ) (ze (cQ (jL wK xa xb jP (pv 0) (zc zu zd)) (mz (K:=K) rfl rfl (yi (zL (i:=1) j3.nd rfl (Or.inl rfl) (Or.inr rfl)) (yi (zL (i:=2) j3.nd rfl (Or.inr rfl) (Or.inl rfl)) qp)) rfl rfl rfl)) (ze (z7 (ja (yf (K:=K) rfl (zm (iO (K:=K) rfl rfl) rfl uaA Cb (zc (yO (N:=pB) (own:=1) (fr:=[2]) (by walk_at "c") rfl (nH (K:=K) rfl (kf (K:=K) rfl rfl uaQ dn_FORMS (zc (pv 1) (zc (jb zd) zd)) rfl rfl rfl rfl rfl)) (fun _ _ _ _=>(zL (i:=0) (show (pB:List Str).Nodup by decide +kernel) rfl (Or.inl rfl) (Or.inr rfl))) (fun _ _ _ _=>y3) (fun _ _ _ _=>(zv ubL hr rfl (zc (pv 0) (zc (pv 1) zd)))) rfl rfl (fun _=>rfl)) zd)) (fun _=>rfl))) (zi qP) zJ) (ze (aR (i:=3) (N:=["text"]) (own:=1) (fr:=[]) (by walk_at "c") rfl j3.nd rfl (Or.inl rfl) (jo (K:=K) rfl (pv 2)) (fun _ _ _ _=>(zL (i:=0) (show (["text"]:List Str).Nodup by decide +kernel) rfl (Or.inl rfl) (Or.inr rfl))) (fun _ _ _ _=>y3) (fun _ _ _ _=>(yl aF rfl uag xq (zc (pv 0) zd))) rfl rfl (fun _=>rfl) (Or.inl rfl) rfl) (ze (z7 (PW.pt (vz (zN (yn (K:=K) rfl hr.units) (pv 1) zu (zM _)) (vS tm))) (zi qP) zJ) (zi (zI (jb (zc (pv 1) (zc (pv 3) zd)))))))))),?_⟩;rintro f xs _ hl rfl
 try dsimp only [zS,zt]
 have hsp:wD ("table":Str) ⟨#[32]⟩=[("table":Str)]:=by decide +kernel
 refine zX (az (qf (yY (uv kSS (zf rfl ⟨_,rfl,true,rfl,?_⟩)))));rw [xh,CS uT];refine ym (zX (ye (PEdO.ped (qx (c:=32) (zf rfl ⟨_,rfl,by decide,?_⟩)))));rw [hsp];refine sQ (ds:=[]) (by decide) (yU (zw (yU (zw (vG ?_)))));refine zX (az (qf (yY (t6 (PEdO.ped (qX (A:=PyData.str) (B:=fun _=>PyData.bool true) [("":Str)] (tY (sY (y:=.ref tF) (dd:=.tuple []) hF rfl rF (zj (zf rfl (zj (jX (zE ⟨_,rfl,show 0<=1000 by decide,?_⟩)))))))))))));refine zE ⟨rfl,_,rfl,rfl,by decide,?_,[true],rfl,true,rfl,?_⟩
 ·rintro D c ρ' es hc ho hes;cases u7.mp hc;obtain⟨u,rfl⟩:=ho.one;refine zw (vy ?_);rw [CT rfl];refine qb hes (zG () (zj (zf rfl (zj (zf rfl (zE ⟨rfl,rfl,?_⟩))))));rintro _ rfl;exact⟨.mk1,rfl⟩
 rw [xh,CS uT];refine ym (zX (ye (PEdO.ped (qX (A:=PyData.str) (B:=fun _=>PyData.int 0) [] (qW (zf rfl ⟨_,rfl,rfl,by decide,?_,zw ?_⟩))))))
 ·rintro D c ρ' es hc;cases hc
 refine zX (az (qT (yB (jW (zf rfl (zZ ?_))))));refine⟨by decide +kernel,by decide +kernel,by decide,false,?_,?_⟩
 ·rfl
 rw [CS uT,CS uT];exact ym (zW (jX (zj (zf rfl (zj (zf rfl (zE ⟨_,rfl,show 2<=1000 by decide,rfl⟩)))))))
noncomputable def bZ (rows:List (List Int)):Str:=xY semi (rows.map vP)
abbrev mV (K:uQ):Sp:=spD K 1 (fun (c:List (List Int)×Nat) xs=>xs=[.dat (tab c.1)]/\Good c.2 c.1) fun c r=>r=.str (tabS c.1)
theorem oM (F:Def K mg "show_table" jC pd) (uah:mg "str"=none) (uaO:FnIn P w K mg base k "ask_table" pd (rf K)):FnInP P w K mg base (k+1) "show_table" pd (mV K):=by
 refine F.okP b8 rfl fun fa cdv A outer s H E hr=>⟨_,(i8 (jV (zv uaO hr rfl (zc (pv 0) zd))) (ma (n6 (mj (K:=K) rfl n5 (zc (yO (N:=pj) (own:=1) (fr:=[]) (by walk_at "c") rfl (jo (K:=K) rfl (pv 0)) (fun _ _ _ _=>(zL (i:=0) (show (pj:List Str).Nodup by decide +kernel) rfl (Or.inl rfl) (Or.inr rfl))) (fun _ _ _ _=>y3) (fun _ _ _ _=>(qi (K:=K) rfl zu (zc (yO (N:=["height"]) (own:=1) (fr:=[]) (by walk_at "c") rfl (jo (K:=K) rfl (pv 0)) (fun _ _ _ _=>(zL (i:=0) (show (["height"]:List Str).Nodup by decide +kernel) rfl (Or.inl rfl) (Or.inr rfl))) (fun _ _ _ _=>y3) (fun _ _ _ _=>(yl jB rfl uah x9 (zc (pv 0) zd))) rfl rfl (fun _=>rfl)) zd) rfl rfl rfl rfl rfl)) rfl rfl (fun _=>rfl)) zd) rfl rfl rfl rfl rfl)))),?_⟩;rintro f xs ⟨rows,wd⟩ hl ⟨rfl,g⟩
 try dsimp only [zS,zt]
 dsimp only at *;have g2:=g.h2;have w2:=g.w2;refine sU (fG (zG (rows,wd) (uP rfl ⟨rfl,⟨rfl,g⟩,?_⟩)));rintro _ rfl;refine zW (vI (PEdO.ped (qX (A:=fun r=>.list (r.map .int)) (B:=fun r=>.str (vP r)) rows (qW (zf rfl ⟨_,rfl,rfl,by omega,?_,rows.map vP,?_,(mR g).1,rfl⟩)))))
 ·rintro D r ρ' es hr' ho hes;obtain⟨u,rfl⟩:=ho.one;have rl:=g.row r hr';refine zw (vy ?_);rw [CT rfl];refine qb hes (vI (PEdO.ped (qX (A:=.int) (B:=fun i=>.str (ql i)) r (qW (zf rfl ⟨_,rfl,rfl,by omega,?_,r.map ql,?_,(dD g hr').1,.mk1,rfl⟩)))))
  ·rintro D' i ρ2 es2 hi2 ho2 hes2;obtain⟨u2,rfl⟩:=ho2.one;refine zw (vy ?_);rw [CT rfl];exact qb hes2 (c9 (zf rfl ⟨i,rfl,Nat.lt_trans (qm (g.hgt r hr' i hi2)) (by decide),.mk1,rfl⟩))
  ·rw [xF];rfl
 ·rw [xF];rfl
theorem mW {wd:Nat} {rows:List (List Int)} (g:Good wd rows):BQ (tabS rows) "\n" "; "=bZ rows:=by
 have e1:BQ (tabS rows) "\n" "; "=xQ semi (wD (tabS rows) ⟨#[10]⟩):=StrLaws.replace_one _ _ _;rw [e1,mT g];exact (xp _ _).symm
abbrev mX (K:uQ):Sp:=spD K 2 (fun (c:List (List Int)×Nat) xs=>xs=[.dat (tab c.1),.dat (.list [])]/\Good c.2 c.1) fun c r=>r=.str (bZ c.1)
theorem oN (F:Def K mg "tell_table" jE pD) (ubM:FnInP P w K mg base k "show_table" pd (mV K)):FnIn P w K mg base (k+1) "tell_table" pD (mX K):=by
 refine F.ok b9 rfl fun fa cdv A outer s H E hr=>⟨_,(zi (zI (n8 (by decide) (i9 ubM hr rfl (zc (pv 0) zd)) rfl rfl rfl rfl))),?_⟩;rintro f xs ⟨rows,wd⟩ hl ⟨rfl,g⟩
 try dsimp only [zS,zt]
 refine zW (sP (zG (rows,wd) (zj (zf rfl (zE ⟨rfl,⟨rfl,g⟩,?_⟩)))));rintro _ rfl;have tl:(tabS rows).length<=971:=(mR g).2.len;refine⟨_,rfl,?_,congrArg PyData.str (mW g)⟩;show (tabS rows).length+((tabS rows).length+1) * 2<=_;omega
abbrev rh (K:uQ) (uad:uR):Sp:=spD K 2 (fun (c:List (List Int)×Nat) xs=>xs=[.mon (DeskIs K uad (tab c.1)),.dat (.str "table")]/\Good c.2 c.1) fun c r=>r=.str (bZ c.1)
theorem tI {uad uaB uaC:uR} (D_say:DefM K uad "say" "Desk.say" jh pw) (q_desk:vn K uad=true) (uaM:mg "ANSWERS"=some (.ref uaB)) (uaR:mg "tell_table"=some (.ref uaC)) (q_ans:og K uaB "table" (.ref uaC)=true)
  (ubN:FnIn P w K mg base k "read_row" ["line"] (mU K)) (ubO:FnIn P w K mg base k "tell_table" pD (mX K)):FnInO P w K mg base (k+1) "say" pw (uad,rh K uad):=by
 have T:=DeskC.of q_desk;have hA:=sR q_ans;refine D_say.ok j6 rfl fun fa cdv A outer s H E hr=>⟨_,(ze (cQ (zv ubN hr rfl (zc (pv 1) zd)) (vm (K:=K) (n:=2) rfl rfl (yi (zL (i:=2) j6.nd rfl (Or.inl rfl) (Or.inr rfl)) (yi (zL (i:=3) j6.nd rfl (Or.inl rfl) (Or.inr rfl)) qp)))) (ze (z7 (zN (ou (K:=K) rfl) (pv 2) (yr (v:=.ref uaB) rfl uaM rfl) rfl) (ze (zK (i:=4) j6.nd rfl (Or.inl rfl) (oh (K:=K) rfl rfl uaM (pv 2) (fun _ _=>rfl))) (zi (zI (mw (i:=4) (g:=uaC) ubO uaR hr rfl (Or.inl rfl) (zc (rL (pv 0) rfl) (zc (pv 3) zd)))))) zJ) il)),?_⟩;rintro f xs ⟨rows,wd⟩ hl ⟨rfl,g⟩
 try dsimp only [zS,zt]
 refine zX (ye (zG () (zj (zf rfl (zE ⟨rfl,rfl,?_⟩)))));rintro _ rfl;refine cA rfl (yU (zw (yU (zw (vG ?_)))));refine zX (az (yB (uu hA (zf rfl ⟨rfl,true,rfl,?_⟩))));rw [CT rfl];refine zX (sZ rfl hA (zW (om rfl (rows,wd) (zj (uq rfl (DeskIs.fld T) (zj (zf rfl (zE ⟨rfl,⟨rfl,g⟩,?_⟩))))))));rintro _ rfl;rfl
open PySem PySem.NumText PySem.Spec PyProof.Rows L2
theorem aq:bootBuiltins "ValueError"=some (.type "ValueError"):=by kernel_rfl
theorem b3 {P:Program} {w:World} {K:uQ} {mg:Str->Option Value} {base:Heap} {C f D:uR} {fd:FuncData} (hfc:qh K C f D "line"=true) (hD:mg "HeightError"=some (.ref D)) (F:Fun K "__init__" "NoText.__init__" jK f fd):InitOk P w K mg base 1 C "line":=by
 have T:=FldC.of hfc;refine⟨f,D,fd,pw,T,F.ok bU (fun vs H Q E h=>?_) (fun cdv A outer s H vs Q E hr hs=>⟨_,ze (jV (aU T rfl hD (zc (pv 0) (zc zu zd)))) (zi (gX T (pv 0) (pv 1))),?_⟩),F.binds (ps:=pw) fun _ _ _ _ _ _ us hl=>match us,hl with | [_,_],_=>rfl⟩
 ·obtain⟨a,y,rfl,_⟩:=h;rfl
 ·obtain⟨a,y,rfl,hH,q⟩:=hs;exact⟨.ref a,rfl,a,_,rfl,by decide,hH,y,rfl,.ref a,rfl,a,rfl,hH,fun dx h1 h2=>q dx h1 h2⟩
abbrev ie (K:uQ) (uab uaa:uR):uR->Sp:=spM K 1 (fun a (c:XD×Bool) xs=>xs=[.mon (y4 K a (.ref (if c.2 then uab else uaa)) c.1)]) fun _ r=>r=.bool true
theorem mY {uaa uan uao uap uaq uar uas uab uat uau:uR} (F:Def K mg "_law_alone" j5 pI) (uae:mg "isinstance"=none) (uaA:mg "any"=none) (uaS:mg "ValueError"=none)
  (uaT:mg "NoPoint"=some (.ref uan)) (uaU:mg "NoGate"=some (.ref uao)) (uaV:mg "NoRing"=some (.ref uap)) (uaW:mg "TooSteep"=some (.ref uaq)) (uaX:mg "NoWeb"=some (.ref uar)) (uaY:mg "NoBack"=some (.ref uas)) (uaZ:mg "NoRow"=some (.ref uat)) (ua0:mg "NoDeed"=some (.ref uau))
  (uax:jY K uaa=true) (ktv:uU K (.ref uaa) (.type "ValueError")=some true) (kt1:uU K (.ref uaa) (.ref uan)=some false) (kt2:uU K (.ref uaa) (.ref uao)=some false) (kt3:uU K (.ref uaa) (.ref uap)=some false) (kt4:uU K (.ref uaa) (.ref uaq)=some false) (kt5:uU K (.ref uaa) (.ref uar)=some false) (kt6:uU K (.ref uaa) (.ref uas)=some false) (kt8:uU K (.ref uaa) (.ref uat)=some false) (kt9:uU K (.ref uaa) (.ref uau)=some false)
  (uay:jY K uab=true) (kxv:uU K (.ref uab) (.type "ValueError")=some true) (kx1:uU K (.ref uab) (.ref uan)=some false) (kx2:uU K (.ref uab) (.ref uao)=some false) (kx3:uU K (.ref uab) (.ref uap)=some false) (kx4:uU K (.ref uab) (.ref uaq)=some false) (kx5:uU K (.ref uab) (.ref uar)=some false) (kx6:uU K (.ref uab) (.ref uas)=some false) (kx8:uU K (.ref uab) (.ref uat)=some false) (kx9:uU K (.ref uab) (.ref uau)=some false) :
  FnInM P w K mg base (k+1) "_law_alone" pI (ie K uab uaa):=by
 have W1:=bq uax;have W2:=bq uay;refine F.okM jH rfl fun fa cdv A outer s H ea hM hr=>⟨_,(ze (zK (i:=1) jH.nd rfl (Or.inl rfl) (yk (zc (zm (yo (K:=K) rfl) rfl uae boot_isinstance (zc (pv 0) (zc (yr (v:=.ref uan) rfl uaT rfl) zd))) (zc (zm (yo (K:=K) rfl) rfl uae boot_isinstance (zc (pv 0) (zc (yr (v:=.ref uao) rfl uaU rfl) zd))) (zc (zm (yo (K:=K) rfl) rfl uae boot_isinstance (zc (pv 0) (zc (yr (v:=.ref uap) rfl uaV rfl) zd))) zd))))) (ze (zK (i:=1) jH.nd rfl (Or.inl rfl) (zz (jO (K:=K) rfl) (pv 1) (yk (zc (zm (yo (K:=K) rfl) rfl uae boot_isinstance (zc (pv 0) (zc (yr (v:=.ref uaq) rfl uaW rfl) zd))) (zc (zm (yo (K:=K) rfl) rfl uae boot_isinstance (zc (pv 0) (zc (yr (v:=.ref uar) rfl uaX rfl) zd))) (zc (zm (yo (K:=K) rfl) rfl uae boot_isinstance (zc (pv 0) (zc (yr (v:=.ref uas) rfl uaY rfl) zd))) zd)))))) (ze (zK (i:=1) jH.nd rfl (Or.inl rfl) (zz (jO (K:=K) rfl) (pv 1) (yk (zc (zm (yo (K:=K) rfl) rfl uae boot_isinstance (zc (pv 0) (zc (yr (v:=.ref uat) rfl uaZ rfl) zd))) (zc (zm (yo (K:=K) rfl) rfl uae boot_isinstance (zc (pv 0) (zc (yr (v:=.ref uau) rfl ua0 rfl) zd))) zd))))) (zi (zI (bz (zm (yo (K:=K) rfl) rfl uae boot_isinstance (zc (pv 0) (zc (cP (v:=.ty "ValueError") rfl uaS aq rfl) zd))) (bw (rq (zm (iZ (K:=K) rfl hM) rfl uaA Cb (zc (pv 1) zd)))))))))),?_⟩;rintro f xs ⟨x,b⟩ hl rfl
 try dsimp only [cxM,zS,zt]
 try dsimp only
 obtain⟨C,hC,W,hv,h1,h2,h3,h4,h5,h6,h8,h9⟩:∃ C,(if b=true then uab else uaa)=C/\ExcWays K C/\uU K (.ref C) (.type "ValueError")=some true/\uU K (.ref C) (.ref uan)=some false/\uU K (.ref C) (.ref uao)=some false/\uU K (.ref C) (.ref uap)=some false/\uU K (.ref C) (.ref uaq)=some false/\uU K (.ref C) (.ref uar)=some false/\uU K (.ref C) (.ref uas)=some false/\uU K (.ref C) (.ref uat)=some false/\uU K (.ref C) (.ref uau)=some false:=by
  cases b
  ·exact⟨_,rfl,W1,ktv,kt1,kt2,kt3,kt4,kt5,kt6,kt8,kt9⟩
  ·exact⟨_,rfl,W2,kxv,kx1,kx2,kx3,kx4,kx5,kx6,kx8,kx9⟩
 rw [hC];refine yQ (fun ρ=>ρ=[some (.mon (y4 K ea (.ref C) x)),some (.dat (.list [.bool false,.bool false,.bool false]))]) ?_ ?_
 ·repeat (first | walk_at "dl" | refine qw rfl W (by assumption) ?_)
  rfl
 rintro _ rfl;refine yQ (fun ρ=>ρ=[some (.mon (y4 K ea (.ref C) x)),some (.dat (.list [.bool false,.bool false,.bool false,.bool false,.bool false,.bool false]))]) (ye (vH (zf rfl ⟨_,rfl,?_⟩))) ?_
 ·repeat (first | walk_at "dl" | refine qw rfl W (by assumption) ?_)
  rfl
 rintro _ rfl;refine yQ (fun ρ=>ρ=[some (.mon (y4 K ea (.ref C) x)),some (.dat (.list [.bool false,.bool false,.bool false,.bool false,.bool false,.bool false,.bool false,.bool false]))]) (ye (vH (zf rfl ⟨_,rfl,?_⟩))) ?_
 ·repeat (first | walk_at "dl" | refine qw rfl W (by assumption) ?_)
  rfl
 rintro _ rfl;refine zW (bI (pQ rfl W (.inl ⟨_,rfl,hv⟩) ⟨true,rfl,?_⟩));rw [CT rfl];refine fD (sF (j:=0) rfl (zf rfl ⟨[false,false,false,false,false,false,false,false],rfl,?_⟩));exact⟨_,rfl,rfl⟩
theorem oO {rows:List (List Int)} (h:qk rows=none):∃ wd,Good wd rows:=by
 unfold qk at h;by_cases hl:2<=rows.length/\rows.length<=7
 ·rw [CT hl] at h;have hf:rows.findIdx? (yS (rows.getD 0 []).length)=none:=by
   cases hf:rows.findIdx? (yS (rows.getD 0 []).length) with
   | none=>rfl
   | some i=>rw [hf] at h;cases h
  have h1:=Ab.mp hf;have h2:∀ r∈rows,r.length=(rows.getD 0 []).length/\2<=r.length/\r.length<=7/\∀ n∈r,-1000000000<=n/\n<=1000000000:=fun r hr=>by
   have:=h1 r hr;unfold yS bV at this;simp only [Bool.or_eq_false_iff,decide_eq_false_iff_not,Bool.not_eq_false',decide_eq_true_eq] at this;exact⟨xJ.mp this.1,this.2⟩
  have m0:rows.getD 0 []∈rows:=by
   rw [w5,uZ (show 0<rows.length by omega)];exact xV _
  obtain⟨_,a,b,_⟩:=h2 _ m0;exact⟨_,hl.1,hl.2,a,b,fun r hr=>(h2 r hr).1,fun r hr=>(h2 r hr).2.2.2⟩
 ·rw [CS hl] at h;cases h
theorem mZ {i:Int} (h:i.natAbs<10 ^ 10):(59:Nat)∉cpl (ql i):=fun z=>by
 rcases (aK i h).1 59 z with e | e <;> omega
theorem m4 {wd:Nat} {rows:List (List Int)} (g:Good wd rows) {r:List Int} (hr:r∈rows):(59:Nat)∉cpl (vP r):=fun z=>by
 have e:vP r=xQ ⟨#[32]⟩ (r.map ql):=xp _ _;rw [e,jS] at z;rcases ah z with h | ⟨x,hx,h⟩
 ·exact absurd h (by decide)
 ·obtain⟨t,ht,rfl⟩:=wY.mp hx;obtain⟨i,hi,rfl⟩:=wY.mp ht;exact mZ (qm (g.hgt r hr i hi)) h
theorem oP {wd:Nat} {rows:List (List Int)} (g:Good wd rows):wD (bZ rows) semi=rows.map vP:=by
 refine eT ?_ fun t ht=>?_
 ·obtain⟨r,rs,rfl⟩:=g.ne;exact List.cons_ne_nil _ _
 ·obtain⟨r,hr,rfl⟩:=wY.mp ht;exact m4 g hr
theorem cM {b:Nat}:∀ L:List (List Nat),(∀ x∈L,x.length<=b)->(joinM L).length<=(b+2) * L.length
 | [],_=>xA _
 | [x],h=>by
  have:=h x (u3 ..);show x.length<=(b+2) * 1;omega
 | x :: y :: r,h=>by
  have h1:=h x (u3 ..);have h2:=cM (y :: r) fun z hz=>h z (uW _ hz);show (x++59 :: 32 :: joinM (y :: r)).length<=_;rw [wL,wy,wy,wy,Nat.mul_add];omega
theorem m5 {wd:Nat} {rows:List (List Int)} (g:Good wd rows):(bZ rows).length<=1000:=by
 have w2:=g.h2;have e:bZ rows=xQ semi (rows.map vP):=xp _ _;have b:=cM (b:=107) ((rows.map vP).map cpl) fun x hx=>by
  obtain⟨t,ht,rfl⟩:=wY.mp hx;obtain⟨r,hr,rfl⟩:=wY.mp ht;rw [zO];exact (dD g hr).2.len
 rw [<-qo,<- e,zO,uV,uV] at b;omega
abbrev m6 (K:uQ) (uad uab uaa:uR):Sp:=my K uad 1 (fun (c:Str) xs=>∃ z,xs=[.dat (.str z)]/\z=c/\Tx 700 29000 c) (fun c=>DeskIs K uad (tab (ju c))) (fun c=>ai c=none/\qk (ju c)=none)
 fun c Cv x=>(Cv=.ref uab/\∃ i,ai c=some i/\x=some (("line":Str),PyData.int (i:Nat))) \/ (Cv=.ref uaa/\ai c=none/\∃ i,qk (ju c)=some i/\x=some (("at":Str),PyData.int i))
theorem m7 {uad uab uaa:uR} (D_init:DefM K uad "__init__" "Desk.__init__" yZ pE) (q_desk:vn K uad=true) (ubP:FnInF P w K mg base k "read_table" ["text"] (hZ K uab uaa)):FnInN P w K mg base (k+1) "Desk" pE (uad,m6 K uad uab uaa):=by
 have T:=DeskC.of q_desk;obtain⟨f,fd,F,hb,hm⟩:=D_init.ex;refine⟨f,fd,F.okF dn (fun vs H Q E h=>?_) (fun cdv A outer s H vs Q E hr hs=>⟨_,ze (kQ (pv 0) (et ubP hr rfl (zc (pv 1) zd)) rfl) (zi (kQ (pv 0) (yk zd) rfl)),?_⟩),⟨T.mks,hm.at_,hm.fn,T.kp⟩,hb⟩
 ·obtain⟨f,x,dx,us,xs,c,H1,rfl,_,_,_,_,r,hl,_⟩:=h;show us.length+1=2;rw [r.length,hl]
 ·have hv:∃ a b,vs=[a,b]:=by
   obtain⟨f,x,dx,us,xs,c,H1,e,_,_,_,_,r,hl,_⟩:=hs;have:=r.length;rw [hl] at this
   match us,this,e with
   | [b],_,e=>exact⟨_,b,e⟩
  obtain⟨a,b,rfl⟩:=hv;exact kg T (pz:=fun c z=>z=c/\Tx 700 29000 c) (fun c z h=>⟨by rw [h.1],h.2⟩) (fun c r h=>h) hs rfl rfl
abbrev m8 (K:uQ):Sp:=spD K 1 (fun (c:Str) xs=>xs=[.dat (.str c)]/\Tx 700 29000 c) fun c r=>r=qM c
theorem oQ {uab uaa uav uad:uR} (F:Def K mg "_law_told" qE ph) (uae:mg "isinstance"=none) (uaL:mg "HeightError"=some (.ref uav)) (uaz:mg "NoText"=some (.ref uab)) (uaw:mg "NoTable"=some (.ref uaa)) (I_NoTable:InitOk P w K mg base 1 uaa "at") (I_NoText:InitOk P w K mg base 1 uab "line") (uax:jY K uaa=true) (uay:jY K uab=true) (eh:Aq K (.ref uaa) (.ref uav)=some true) (ex:Aq K (.ref uab) (.ref uav)=some true)
  (ktt:uU K (.ref uaa) (.ref uaa)=some true) (ktx:uU K (.ref uaa) (.ref uab)=some false) (kxx:uU K (.ref uab) (.ref uab)=some true) (kxt:uU K (.ref uab) (.ref uaa)=some false)
  (uag:mg "int"=none) (ua1:mg "Desk"=some (.ref uad)) (q_desk:vn K uad=true) (ubQ:FnInN P w K mg base k "Desk" pE (uad,m6 K uad uab uaa)) (ubR:FnInO P w K mg base (k+1) "say" pw (uad,rh K uad)) (ubE:FnInM P w K mg base (k+1) "_law_alone" pI (ie K uab uaa)):FnIn P w K mg base (k+2) "_law_told" ph (m8 K):=by
 obtain⟨fT,dT,T⟩:=I_NoTable.fld;obtain⟨fX,dX,X⟩:=I_NoText.fld;have W:=bq uax;have W2:=bq uay;obtain⟨fI,fdI,N1_Desk,N2_Desk,N3_Desk⟩:=ubQ.ex;have TD:=DeskC.of q_desk;have CL_Desk:=TD.cls;refine F.ok yE rfl fun fa cdv A outer s H E hr=>⟨_,(ze (nU (j:=3) (oq (i:=1) N2_Desk N1_Desk N3_Desk hr rfl ua1 (zc (pv 0) zd) yE.nd rfl (Or.inl rfl) (Or.inl rfl) (zi (zK (i:=2) yE.nd rfl (Or.inl rfl) (jb (zc zu (zc (yO (N:=["_law_row"]) (own:=1) (fr:=[]) (by walk_at "c") rfl (jo (K:=K) rfl (jL wK xa xb i7 (mx (pl:=_) ubR CL_Desk hr (pv 1) (zc zu zd)) (zc zu zd))) (fun _ _ _ _=>(zL (i:=0) (show (["_law_row"]:List Str).Nodup by decide +kernel) rfl (Or.inl rfl) (Or.inr rfl))) (fun _ _ _ _=>y3) (fun _ _ _ _=>(yO (N:=pq) (own:=1) (fr:=[]) (by walk_at "c") rfl (jo (K:=K) rfl (kh (K:=K) rfl (pv 0) (zc zu zd) rfl rfl rfl rfl rfl)) (fun _ _ _ _=>(zL (i:=0) (show (pq:List Str).Nodup by decide +kernel) rfl (Or.inl rfl) (Or.inr rfl))) (fun _ _ _ _=>y3) (fun _ _ _ _=>(yl aF rfl uag xq (zc (pv 0) zd))) rfl rfl (fun _=>rfl))) rfl rfl (fun _=>rfl)) zd)))))) yE.nd rfl rfl rfl rfl rfl uaL (fun _=>(ze (zK (i:=2) yE.nd rfl (Or.inl rfl) (jb (zc zu (zc zg zd)))) (ze (z7 (PW.pt (vz (yf (K:=K) rfl (zm (yo (K:=K) rfl) rfl uae boot_isinstance (zc (pv 3) (zc (yr (v:=.ref uab) rfl uaz rfl) zd))) (fun _=>rfl)) (vz (ja (yf (K:=K) rfl (zm (yo (K:=K) rfl) rfl uae boot_isinstance (zc (pv 3) (zc (yr (v:=.ref uaa) rfl uaw rfl) zd))) (fun _=>rfl))) (vS (yf (K:=K) rfl (eA ubE hr rfl (zc (pv 3) zd)) (fun _=>rfl)))))) (zi (zK (i:=2) yE.nd rfl (Or.inl rfl) (jb (zc zu (zc (cF (K:=K) rfl (pv 3)) zd))))) zJ) (zi (z7 (PW.pt (vz (yf (K:=K) rfl (zm (yo (K:=K) rfl) rfl uae boot_isinstance (zc (pv 3) (zc (yr (v:=.ref uaa) rfl uaw rfl) zd))) (fun _=>rfl)) (vz (ja (yf (K:=K) rfl (zm (yo (K:=K) rfl) rfl uae boot_isinstance (zc (pv 3) (zc (yr (v:=.ref uab) rfl uaz rfl) zd))) (fun _=>rfl))) (vS (yf (K:=K) rfl (eA ubE hr rfl (zc (pv 3) zd)) (fun _=>rfl)))))) (zi (zK (i:=2) yE.nd rfl (Or.inl rfl) (jb (zc zu (zc (cF (K:=K) rfl (pv 3)) zd))))) zJ)))))) (zi (zI (pv 2)))),?_⟩;rintro f xs z hl ⟨rfl,tx⟩
 try dsimp only [zS,zt]
 refine zX (sC (tf z (zj (zf rfl (zE ⟨rfl,⟨z,rfl,rfl,tx⟩,?_,?_⟩)))))
 ·rintro⟨e1,e2⟩;obtain⟨wd,g⟩:=oO e2;have td:qM z=.tuple [.str "told",tab (ju z)]:=by unfold qM;rw [e1,e2]
  generalize ju z=rows at *;refine ye (jX (zj (zZ (zj (PEdO.ped (qX (A:=fun r:List Int=>PyData.str (vP r)) (B:=fun r=>PyData.list (r.map .int)) rows (qW (PEdO.ped (mf (by decide) (sV rfl DeskIs.say (rows,wd) (zj (zZ (zE ⟨rfl,⟨rfl,g⟩,?_⟩)))))))))))));rintro _ rfl;have ln:=m5 g;have ll:=ag;refine⟨_,rfl,by dsimp only;omega,_,rfl,?_,?_,?_,zE ⟨_,rfl,show 2<=1000 by decide,zw (zW (zf rfl ?_))⟩⟩
  ·show (wD (bZ rows) semi).map PyData.str=_;rw [oP g,xF];rfl
  ·have:=g.h2;omega
  ·rintro D r ρ' es hr' ho hes;obtain⟨u,rfl⟩:=ho.one;refine zw (vy ?_);rw [CT rfl];have tr:=(dD g hr').2.len;have rl:=g.row r hr';have w2:=g.w2;refine qb hes (PEdO.ped (qX (A:=fun i:Int=>PyData.str (ql i)) (B:=fun i=>PyData.int i) r (qW (PEdO.ped (qx (c:=32) (zf rfl ⟨_,rfl,by omega,_,rfl,?_,by omega,?_,.mk1,rfl⟩))))))
   ·rw [words_of g hr',xF];rfl
   ·rintro D' i ρ2 es2 hi2 ho2 hes2;obtain⟨u2,rfl⟩:=ho2.one;refine zw (vy ?_);rw [CT rfl];have sm:=qm (g.hgt r hr' i hi2);obtain⟨n1,n2⟩:=mQ sm;have t1:=(int_text n1).1;rw [n2] at t1;have tn:=(bX sm).len;exact qb hes2 (l3 (zf rfl ⟨ql i,i,rfl,t1,wu tn (by omega),.mk1,rfl⟩))
  ·exact td.symm
 ·rintro _ _ (⟨rfl,i,e,rfl⟩ | ⟨rfl,e1,i,e,rfl⟩)
  ·refine⟨ex,fun a=>?_⟩;have td:qM z=.tuple [.str "text",.int (i:Nat)]:=by unfold qM;rw [e]
   refine yQ (fun ρ=>∃ u,ρ=[some (.dat (.str z)),none,u,some (.mon (y4 K a (.ref uab) (some (("line":Str),PyData.int (i:Nat)))))]) ?_ ?_
   ·walk_at "w";exact⟨_,rfl⟩
   rintro _ ⟨u,rfl⟩;refine yQ (fun ρ=>ρ=[some (.dat (.str z)),none,some (.dat (.tuple [.str "text",.int (i:Nat)])),some (.mon (y4 K a (.ref uab) (some (("line":Str),PyData.int (i:Nat)))))]) ?_ ?_
   ·refine az (qT (yY (qw rfl W2 kxx ⟨true,rfl,?_⟩)));rw [CT rfl];refine qT (qf (yY (qw rfl W2 kxt ⟨false,rfl,?_⟩)));rw [xt,CT rfl];refine yY (zG (some (("line":Str),PyData.int (i:Nat)),true) (pN (v_var rfl (zE ⟨rfl,rfl,?_⟩))));rintro _ rfl;refine⟨true,rfl,?_⟩;rw [CT rfl];exact ye (jX (zj (zZ (zj (ek rfl X W2 (zE ⟨_,rfl,Cc rfl,zw rfl⟩))))))
   rintro _ rfl;refine az (qT (yY (qw rfl W2 kxt ⟨false,rfl,?_⟩)));rw [CS uT,CS uT];exact ym (zW (zf rfl td.symm))
  ·refine⟨eh,fun a=>?_⟩;have td:qM z=.tuple [.str "table",.int i]:=by unfold qM;rw [e1,e]
   refine yQ (fun ρ=>∃ u,ρ=[some (.dat (.str z)),none,u,some (.mon (y4 K a (.ref uaa) (some (("at":Str),PyData.int i))))]) ?_ ?_
   ·walk_at "w";exact⟨_,rfl⟩
   rintro _ ⟨u,rfl⟩;refine yQ (fun ρ=>∃ u,ρ=[some (.dat (.str z)),none,u,some (.mon (y4 K a (.ref uaa) (some (("at":Str),PyData.int i))))]) ?_ ?_
   ·refine az (qT (yY (qw rfl W ktx ⟨false,rfl,?_⟩)));rw [CS uT,CS uT];exact ym ⟨_,rfl⟩
   rintro _ ⟨u,rfl⟩;refine az (qT (yY (qw rfl W ktt ⟨true,rfl,?_⟩)));rw [CT rfl];refine qT (qf (yY (qw rfl W ktx ⟨false,rfl,?_⟩)));rw [xt,CT rfl];refine yY (zG (some (("at":Str),PyData.int i),false) (pN (v_var rfl (zE ⟨rfl,rfl,?_⟩))));rintro _ rfl;refine⟨true,rfl,?_⟩;rw [CT rfl];refine ye (jX (zj (zZ (zj (ek rfl T W (zE ⟨_,rfl,Cc rfl,zw ?_⟩))))));exact zW (zf rfl td.symm)
noncomputable abbrev scr (ns:List Int):PyData:=.list (ns.map .int)
theorem ig {K:uQ} {H:Hp} {a:uR} {ns:List Int} (h:SqL K H a (ns.map V.int)):Rep K (hide H L2.f0) (scr ns) (.ref a):=by
 rw [yX];exact zH.mpr ⟨a,_,rfl,h,Reps.ints' ns⟩
theorem oR {K:uQ} {H:Hp} {v:V} {ns:List Int} (h:Rep K (hide H L2.f0) (scr ns) v):∃ a,v=.ref a/\SqL K H a (ns.map V.int):=by
 rw [yX] at h;obtain⟨a,xs,rfl,h1,h2⟩:=zH.mp h;rw [h2.ints] at h1;exact⟨a,rfl,h1⟩
def gz (K:uQ):Sp:=fun vs H Q _=>∃ (a:uR) (ns:List Int) (i:Int),vs=[.ref a,.int i]/\SqL K H a (ns.map V.int)/\ns.length<=63/\0<=i/\i<=63 /\
 ∀ (p:uR) (x y:Int) (H':Hp),Same H H'->H p=none->H' p=some (.lst [.int x,.int y])->0<=x->0<=y->y<2147483647->Q (.ref p) H'
def ij (K:uQ):Sp:=fun vs H Q _=>∃ (a:uR) (ns:List Int),vs=[.ref a]/\SqL K H a (ns.map V.int)/\ns.length<=63/\∀ H',Q (.bl true) H'
theorem oS {K:uQ} {f:Fx} {t:TA} {ρ:zq} {R R':List DV->Prop} (h:PAd K f t ρ R) (i:∀ xs,R xs->R' xs):PAd K f t ρ R':=fun σ H Q e q=>h σ H Q e fun xs vs H' g r p=>q xs vs H' g r (i xs p)
theorem tJ {K:uQ} {ρ:zq} {ns:List Int} {i:Int} {E2:XK} (h0:ρ[0]?=some (some (.dat (scr ns)))) (h1:ρ[1]?=some (some (.dat (.int i)))) (hl:ns.length<=63) (i0:0<=i) (i1:i<=63) :
  ∀ (σ:L2.St) (H:Hp) (Q:VK),EnvOk K L2.f0 ρ σ H->(∀ (p:uR) (x y:Int) (H':Hp),Same H H'->H p=none->H' p=some (.lst [.int x,.int y])->0<=x->0<=y->y<2147483647->Q (.ref p) H')->qG (gz K) [] E2 (z9 (yN 0) (z9 (yN 1) jl)) σ H Q:=by
 intro σ H Q e q;obtain⟨v0,hv0,r0⟩:=e.get 0 _ h0;obtain⟨v1,hv1,r1⟩:=e.get 1 _ h1;obtain⟨a,rfl,hS⟩:=oR r0;have e1:v1=.int i:=zp.mp (show Rep K (hide H L2.f0) (.int i) v1 from r1);subst e1;exact⟨_,hv0,_,hv1,a,ns,i,rfl,hS,hl,i0,i1,q⟩
theorem oT (F:Def K mg "_law_feed" qA pF) (uac:mg "len"=none) (ua2:mg "abs"=none):FnIn P w K mg base (k+1) "_law_feed" pF (gz K):=by
 refine F.raw vb (fun vs H Q E h=>?_) fun fa cdv A outer s H vs Q E hr hs=>⟨_,(ze (zK (i:=2) vb.nd rfl (Or.inl rfl) zg) (ze (z7 (zN cj (zm (zV (K:=K) rfl) rfl uac wJ (zc (pv 0) zd)) zg (zM _)) (zi (zK (i:=2) vb.nd rfl (Or.inl rfl) (yw (zR (K:=K) rfl) (pv 0) (zz av (pv 1) (zm (zV (K:=K) rfl) rfl uac wJ (zc (pv 0) zd))) (fun _ _=>rfl)))) zJ) (zi (zI (yk (zc (zm (kN) rfl ua2 PyProof.Rows.boot_abs (zc (pv 2) zd)) (zc (zz yL (zz bC zg (pv 1)) zg) zd))))))),?_⟩
 ·obtain⟨a,ns,i,rfl,_⟩:=h;rfl
 obtain⟨a,ns,i,rfl,hS,h63,i0,i1,q⟩:=hs;have e0:EnvOk K L2.f0 (jN vK [.dat (scr ns),.dat (.int i)]) (start vK [.ref a,.int i]) H:=je (.cons (ig hS) (.cons (show RepV K L2.f0 H (.dat (.int i)) (.int i) from (zp (K:=K) (H:=hide H L2.f0)).mpr rfl) .nil)) (L2.fok0 H);refine lh (D:={ nx:=fun ρ=>ρ=[some (.dat (scr ns)),some (.dat (.int i)),some (.dat (.int 0))],rt:=fun _=>False }) ?_ e0 ?_ (fun _ _ _ _ _ z=>z.elim) (fun _ z=>z) (fun _ z=>z)
 ·walk_at "w";rfl
 rintro _ σ1 H1 g1 e1 rfl;refine lh (D:={ nx:=fun ρ=>∃ c:Int,ρ=[some (.dat (scr ns)),some (.dat (.int i)),some (.dat (.int c))],rt:=fun _=>False }) ?_ e1 ?_ (fun _ _ _ _ _ z=>z.elim) (fun _ z=>z) (fun _ z=>z)
 ·walk_at "w";rw [uV];by_cases h:0<ns.length
  ·rw [CT (by simpa using h)];walk_at "w";rw [uV];have z0:=B6 i (b:=(ns.length:Int)) (by omega);have z1:=AA i (b:=(ns.length:Int)) (by omega);refine⟨by omega,_,rfl,_,hU (j:=(i % (ns.length:Int)).toNat) (by omega) (by omega),?_⟩;walk_at "w";exact⟨_,rfl⟩
  ·rw [CS (by simpa using h)];walk_at "w";exact⟨_,rfl⟩
 rintro _ σ2 H2 g2 e2 ⟨c,rfl⟩;unfold kA;have ss:Same H H2:=(L2.same0 g1).trans (L2.same0 g2);refine lj (R:=fun ds=>∃ x y:Int,ds=[.int x,.int y]/\0<=x/\0<=y/\y<2147483647) ?_ e2 ?_
 ·walk_at "w";omega
 ·rintro p ds vs H3 g3 hn rs ⟨x,y,rfl,hx,hy,hy'⟩;have sf:Same H H3:=ss.trans (L2.same0 g3);have ev:vs=[.int x,.int y]:=Reps.ints (ns:=[x,y]) rs;subst ev;exact q p x y _ (sf.trans (yd hn _)) (sf.free hn) zr hx hy hy'
open PySem PySem.NumText PySem.Spec PyProof.Rows L2
theorem lay_ints:∀ r:List Int,Ai (r.map .int)=true/\Ac (r.map PyData.int)=0
 | []=>⟨rfl,rfl⟩
 | n :: r=>⟨(lay_ints r).1,by
  show max 0 (Ac (r.map PyData.int))=0;rw [(lay_ints r).2]
  rfl⟩
theorem ar:∀ rows:List (List Int),Ai (rows.map fun r=>PyData.list (r.map .int))=true/\Ac (rows.map fun r=>PyData.list (r.map .int))<=1
 | []=>⟨rfl,by decide⟩
 | r :: rows=>⟨by
  show ((PyData.list (r.map .int)).canLay0 && Ai (rows.map fun r=>PyData.list (r.map .int)))=true;rw [(ar rows).1,Bool.and_true];exact (lay_ints r).1,by
  show max (Ac (r.map PyData.int)+1) (Ac (rows.map fun r=>PyData.list (r.map .int)))<=1;rw [(lay_ints r).2];exact Nat.max_le.mpr ⟨by decide,(ar rows).2⟩⟩
theorem oU (z:Str):∃ s d,qM z=.tuple [.str s,d]/\((∃ i,d=.int i) \/ ∃ ds,d=.list ds)/\(qM z).canLay0=true/\(qM z).depth<=60:=by
 have s1:(PyData.str "text").canLay0=true:=by decide +kernel
 have s2:(PyData.str "told").canLay0=true:=by decide +kernel
 have s3:(PyData.str "table").canLay0=true:=by decide +kernel
 unfold qM;split
 ·rename_i i _;refine⟨_,_,rfl,.inl ⟨_,rfl⟩,?_,by show max 0 (max 0 0)+1<=60;decide⟩;show ((PyData.str "text").canLay0 && (true && true))=true;rw [s1];rfl
 ·split
  ·refine⟨_,_,rfl,.inr ⟨_,rfl⟩,?_,?_⟩
   ·show ((PyData.str "told").canLay0 && (Ai _ && true))=true;rw [s2,(ar _).1];rfl
   ·have:=(ar (ju z)).2;show max 0 (max (Ac _+1) 0)+1<=60;omega
  ·rename_i i _;refine⟨_,_,rfl,.inl ⟨_,rfl⟩,?_,by show max 0 (max 0 0)+1<=60;decide⟩;show ((PyData.str "table").canLay0 && (true && true))=true;rw [s3];rfl
noncomputable def fB:Nat->Nat
 | 0=>80
 | n+1=>2 * fB n+2
noncomputable def fT:Nat->Nat
 | 0=>2700
 | n+1=>2 * fT n+2
theorem uA {n:Nat} (h:n<4):fB n<=700/\fT n<=29000:=by
 have:n=0 \/ n=1 \/ n=2 \/ n=3:=by omega
 rcases this with rfl | rfl | rfl | rfl <;> decide
theorem uB:qM ""=.tuple [.str "text",.int 0]:=by kernel_rfl
theorem uC:qM "0 0\n0 0"=.tuple [.str "told",.list [.list [.int 0,.int 0],.list [.int 0,.int 0]]]:=by kernel_rfl
theorem tK {f:uR} {fd:FuncData} (F:Fun K "law" "law" aW f fd) (uac:mg "len"=none) (uaj:mg "range"=none) (ual:mg "max"=none) (uak:mg "min"=none) (uae:mg "isinstance"=none) (ua3:mg "bool"=none) (kB:uU K (.type "int") (.type "bool")=some false) (kL:uU K (.type "list") (.type "bool")=some false)
  (ubS:FnIn P w K mg base k "_law_feed" pF (gz K)) (ubT:FnIn P w K mg base k "_law_text" pf (mM K)) (ua4:FnIn P w K mg base k "_law_told" ph (m8 K)) (ubU:FnIn P w K mg base k "_law_due" ph (rg K)) (ubV:FnIn P w K mg base k "_law_spoilt" pG (eO K)) :
  FnOk P w K mg base CX0 (k+1) f fd pJ (ij K):=by
 refine F.ok vL (fun vs H Q E h=>?_) fun cdv A outer s H vs Q E hr hs=>⟨_,(ze (j9 xN rfl (qe rfl uaj (zc (zm (iw rfl) rfl ual boot_max (zc zg (zc (zm (iy rfl) rfl uak boot_min (zc zg (zc (zm (zV (K:=K) rfl) rfl uac wJ (zc (pv 0) zd)) zd))) zd))) zd)) (zL (i:=1) vL.nd rfl (Or.inl rfl) (Or.inr rfl)) (ze (zK (i:=2) vL.nd rfl (Or.inl rfl) (zv ubS hr rfl (zc (pv 0) (zc (pv 1) zd)))) (ze (zK (i:=3) vL.nd rfl (Or.inl rfl) (zv ubT hr rfl (zc (pv 2) zd))) (zi (j9 xN rfl (qe rfl uaj (zc zg zd)) (zL (i:=4) vL.nd rfl (Or.inl rfl) (Or.inr rfl)) (ze (zK (i:=5) vL.nd rfl (Or.inl rfl) (zv ua4 hr rfl (zc (pv 3) zd))) (ze (z7 (PW.pt (vT (zN (aA (K:=K) rfl hr.units) (pv 5) (zv ubU hr rfl (zc (pv 3) zd)) (zM _)) (qO (yf (K:=K) rfl (zm (cD (K:=K) rfl) rfl uae boot_isinstance (zc (yw (nG (K:=K) rfl) (pv 5) zg (fun _ _=>rfl)) (zc (cP (v:=.ty "bool") rfl ua3 PyProof.Rows.boot_bool rfl) zd))) (fun _=>rfl))))) (zi (zI dG)) zJ) (zi (zK (i:=3) vL.nd rfl (Or.inl rfl) (zv ubV hr rfl (zc (pv 2) (zc (pv 3) zd)))))))))))) (zi (zI (bz (yT (yn (K:=K) rfl hr.units) (zv ua4 hr rfl (zc zu zd)) (jb (zc zu (zc zg zd))) (zM _)) (bw (yT (yn (K:=K) rfl hr.units) (zv ua4 hr rfl (zc zu zd)) (jb (zc zu (zc (yk (zc (yk (zc zg (zc zg zd))) (zc (yk (zc zg (zc zg zd))) zd))) zd))) (zM _))))))),?_⟩
 ·obtain⟨a,ns,rfl,_⟩:=h;rfl
 obtain⟨a,ns,rfl,hS,h63,q⟩:=hs;have e0:EnvOk K L2.f0 (jN hJ [.dat (scr ns)]) (start hJ [.ref a]) H:=je (.cons (ig hS) .nil) (L2.fok0 H);suffices h:PSd K L2.f0 _ (jN hJ [.dat (scr ns)]) { nx:=fun _=>False,rt:=fun d=>d=.bool true } from
  h _ H _ e0 (fun _ _ _ _ _ z=>z.elim) (fun d v H' _ r z=>by
   subst z;rw [zF.mp r];exact q H') (fun _ _ _ _ _ z=>z) (fun _ _ _ _ _ z=>z)
 refine zX (gO (vX (oS (R:=fun xs=>∃ j:Int,xs=[.dat (.int j)]/\0<=j/\j<=63) ?_ ?_)))
 ·walk_at "w";rw [uV];split <;> split <;> omega
 rintro _ ⟨j,rfl,j0,j1⟩;refine⟨j,rfl,by omega,by omega,fun i ρ=>∃ x1 x2 x3 x4 x5,ρ=[some (.dat (scr ns)),x1,x2,x3,x4,x5],⟨_,_,_,_,_,rfl⟩,?_,?_⟩
 ·rintro i d _ hi ⟨x1,x2,x3,x4,x5,rfl⟩;obtain⟨hi,rfl⟩:=vf hi;refine zw (rW (tJ rfl rfl h63 (by omega) (by omega)) fun p=>?_);refine zX (ye (zG () ?_));walk_at "w";rintro _ ⟨z0,rfl,tx0⟩;refine zw (gO (vX (zj (z8 (zE ⟨4,rfl,by decide,by decide,?_⟩)))));refine⟨fun n ρ=>∃ z x4 x5,Tx (fB n) (fT n) z/\ρ=[some (.dat (scr ns)),some (.dat (.int i)),some .feed,some (.dat (.str z)),x4,x5],⟨z0,_,_,tx0,rfl⟩,?_,?_⟩
  ·rintro n d _ hd ⟨z,x4,x5,tx,rfl⟩;obtain⟨hn,rfl⟩:=vf hd;obtain⟨b1,b2⟩:=uA (show n<4 from hn);have tz:=tx.imp b1 b2;obtain⟨s0,d0,e0,k0,ly,dp⟩:=oU z;refine zw (zX (ye (zG z (zj (zf rfl (zE ⟨rfl,⟨rfl,tz⟩,?_⟩))))));rintro _ rfl;refine zw (zX (az (fC (yB (jW (zf rfl (zG z (zj (zf rfl (zE ⟨rfl,⟨rfl,tz⟩,?_⟩))))))))));rintro _ rfl;refine⟨ly,ly,wu (Ba _ _) dp,_,rfl,?_⟩;rw [CT rfl,Cq _ ly,xh,CS uT];have ix:PEd K ⟨some p,[]⟩ (tOp (nr K) (yN 5) (tC (V.int 1))) [some (.dat (scr ns)),some (.dat (.int i)),some .feed,some (.dat (.str z)),some (.dat (.int (n:Int))),some (.dat (qM z))] fun d=>d=d0:=by
    rw [e0];exact k4 (zf rfl ⟨_,rfl,z8 ⟨_,rfl,d0,z6 (j:=1) rfl,rfl⟩⟩)
   refine yY ?_;rcases k0 with⟨i0,rfl⟩ | ⟨ds,rfl⟩
   ·refine t8 kB (ix.imp fun d ed=>⟨i0,ed,false,rfl,?_⟩);rw [CS uT];refine ym (ye (zG (fB n,fT n,z) (vF rfl (zj (zf rfl (zE ⟨rfl,⟨rfl,tx,b1,b2⟩,?_⟩))))));rintro _ ⟨z1,rfl,tx1⟩;exact zw ⟨z1,_,_,tx1,rfl⟩
   ·refine tX kL (ix.imp fun d ed=>⟨ds,ed,false,rfl,?_⟩);rw [CS uT];refine ym (ye (zG (fB n,fT n,z) (vF rfl (zj (zf rfl (zE ⟨rfl,⟨rfl,tx,b1,b2⟩,?_⟩))))));rintro _ ⟨z1,rfl,tx1⟩;exact zw ⟨z1,_,_,tx1,rfl⟩
  ·rintro _ ⟨z,x4,x5,tx,rfl⟩;exact⟨_,_,_,_,_,rfl⟩
 ·rintro _ ⟨x1,x2,x3,x4,x5,rfl⟩;refine zW (bI (jW (zG "" (zj (zZ (zE ⟨rfl,⟨rfl,yF _ _ _ (by decide +kernel)⟩,?_⟩))))));rintro _ rfl;rw [uB];have l1:(PyData.tuple [.str "text",.int 0]).canLay0=true:=by decide +kernel
  have l2:(PyData.tuple [.str "told",.list [.list [.int 0,.int 0],.list [.int 0,.int 0]]]).canLay0=true:=by decide +kernel
  refine jX (zj (zZ (zj (z8 (zE ⟨_,rfl,show 2<=1000 by decide,l1,l1,by decide,_,rfl,?_⟩)))));rw [CS uT,Cq _ l1,CT rfl];refine jW (zG "0 0\n0 0" (zj (zZ (zE ⟨rfl,⟨rfl,yF _ _ _ (by decide +kernel)⟩,?_⟩))));rintro _ rfl;rw [uC];refine jX (zj (zZ (zj (qJ (zj (qJ (zj (z8 (zj (z8 (zE ⟨_,rfl,show 2<=1000 by decide,zj (qJ (zj (z8 (zj (z8 (zE ⟨_,rfl,show 2<=1000 by decide,zE ⟨_,rfl,show 2<=1000 by decide,zE ⟨_,rfl,show 2<=1000 by decide,l2,l2,by decide,?_⟩⟩⟩))))))⟩)))))))))));exact congrArg PyData.bool (Cq _ l2)
open PySem PySem.NumText PySem.Spec PyProof.Rows L2
theorem oV (F:Def K mg "_law_word" qC pf) (uah:mg "str"=none) (uaf:FnIn P w K mg base k "_law_draw" pC (gr K)):FnIn P w K mg base (k+1) "_law_word" pf (mL K):=by
 refine F.ok vc rfl fun fa cdv A outer s H E hr=>⟨_,(@ze _ _ _ _ _ (zK (i:=1) vc.nd rfl (Or.inl rfl) (zv uaf hr rfl (zc (pv 0) (zc zg zd)))) (@ze _ _ _ _ _ (z7 (zN (yn (K:=K) rfl hr.units) (pv 1) zg (zM _)) (@ze _ _ _ _ _ (zK (i:=2) vc.nd rfl (Or.inl rfl) (zz yL zg (zv uaf hr rfl (zc (pv 0) (zc zg zd))))) (@zi _ _ _ (@zI _ _ _ _ (@yw _ _ _ _ _ _ _ (zR (K:=K) rfl) (yk (zc (zz zQ zu (zz de zu (pv 2))) (zc (zz de zu (pv 2)) zd))) (zv uaf hr rfl (zc (pv 0) (zc zg zd))) (fun _ _=>rfl))))) zJ) (@ze _ _ _ _ _ (z7 (zN (yn (K:=K) rfl hr.units) (pv 1) zg (zM _)) (@zi _ _ _ (@zI _ _ _ _ (@yw _ _ _ _ _ _ _ (zR (K:=K) rfl) (yk (zc zu (zc zu (zc zu (zc zu (zc zu (zc zu (zc zu (zc zu (zc zu (zc zu zd))))))))))) (zv uaf hr rfl (zc (pv 0) (zc zg zd))) (fun _ _=>rfl)))) zJ) (@ze _ _ _ _ _ (z7 (zN kI (pv 1) zg (zM _)) (@zi _ _ _ (@zI _ _ _ _ (yl jB rfl uah x9 (zc (zz bB (zv uaf hr rfl (zc (pv 0) (zc (zz yL (zz bC zg (zz bD zg zg)) zg) zd))) (zz bD zg zg)) zd)))) zJ) (@zi _ _ _ (@zI _ _ _ _ (yl jB rfl uah x9 (zc (zz bB (zv uaf hr rfl (zc (pv 0) (zc zg zd))) zg) zd)))))))),?_⟩;rintro f xs ⟨⟩ hl rfl
 try dsimp only [zS,zt]
 refine yQ (fun ρ=>∃ i:Int,ρ=[some .feed,some (.dat (.int i)),none]) (ye (zG 12 ?_)) ?_
 ·walk_at "w";rintro _ ⟨i,rfl,_⟩;exact zw ⟨i,rfl⟩
 rintro _ ⟨i,rfl⟩;refine zX (va ?_ ?_ (ym ?_))
 ·walk_at "w";trivial
 ·refine yQ (fun ρ=>∃ m:Int,0<=m/\m<=30/\ρ=[some .feed,some (.dat (.int i)),some (.dat (.int m))]) (ye ?_) ?_
  ·walk_at "w";refine zG 23 ?_;walk_at "w";rintro _ ⟨m,rfl,_⟩;exact⟨_,rfl,zw ⟨_,by omega,by omega,rfl⟩⟩
  rintro _ ⟨m,m0,m1,rfl⟩;have r0:Tx 0 30 (ba "0" m):=(mJ m0 (yF _ _ _ (by decide +kernel))).imp (wc _) (by omega);have r9:Tx 0 30 (ba "9" m):=(mJ m0 (yF _ _ _ (by decide +kernel))).imp (wc _) (by omega);have l0:=r0.len;have o1:Tx 0 1 "1":=yF _ _ _ (by decide +kernel);refine zW (vx (qJ (zj (yM (zZ ⟨_,rfl,fY (zZ ⟨_,rfl,zf rfl ⟨m,rfl,m0,by omega,by decide +kernel,_,rfl,?_,zj (fY (zZ ⟨_,rfl,zf rfl ⟨m,rfl,m0,by omega,by decide +kernel,zE ⟨_,rfl,show 2<=1000 by decide,_,rfl,zG 2 ?_⟩⟩⟩))⟩⟩)⟩)))))
  ·have:("1":Str).length=1:=rfl;rw [this,sizeLine_eq];omega
  ·walk_at "w";rintro _ ⟨q,rfl,q0,q1⟩;have:q=0 \/ q=1:=by omega
   rcases this with rfl | rfl
   ·exact⟨_,rfl,_,z6 (j:=0) rfl,_,rfl,(yW o1 r0).imp (by decide) (by decide)⟩
   ·exact⟨_,rfl,_,z6 (j:=1) rfl,_,rfl,r9.imp (by decide) (by decide)⟩
 refine zX (va ?_ ?_ (ym ?_))
 ·walk_at "w";trivial
 ·refine zW (vx (qJ ?_));walk_at "w";refine zG 10 ?_;walk_at "w";rintro _ ⟨q,rfl,q0,q1⟩;obtain⟨d,hd,md⟩:=menu q0 q1 (show (10:Int)=(([.str "-0",.str "00",.str "01",.str "-",.str "",.str "+1",.str "1.0",.str "-01",.str "1_0",.str "--1"]:List PyData).length:Int) by decide);refine⟨_,rfl,d,hd,?_⟩;simp only [u6,AY,or_false] at md;rcases md with rfl | rfl | rfl | rfl | rfl | rfl | rfl | rfl | rfl | rfl <;> exact⟨_,rfl,yF _ _ _ (by decide +kernel)⟩
 refine zX (va ?_ ?_ (ym ?_))
 ·walk_at "w";trivial
 ·refine zW (c9 ?_);walk_at "w";refine zG 2000000001 ?_;walk_at "w";rintro _ ⟨q,rfl,q0,q1⟩;walk_at "w";refine⟨?_,_,rfl,(bX ?_).imp (by decide) (by decide)⟩ <;> (show Int.natAbs (q - 10 ^ 9)<_;omega)
 ·refine zW (c9 ?_);walk_at "w";refine zG 25 ?_;walk_at "w";rintro _ ⟨q,rfl,q0,q1⟩;refine⟨_,rfl,z8 ⟨_,rfl,_,rfl,?_,_,rfl,(bX ?_).imp (by decide) (by decide)⟩⟩ <;> (show Int.natAbs (q - 12)<_;omega)
end
theorem _root_.L2.FnIn.m {P w K mg base j k x ps sp} (h:FnIn P w K mg base j x ps sp) (hk:j<=k:=by decide):FnIn P w K mg base k x ps sp:=h.mono hk
theorem _root_.L2.FnInF.m {P w K mg base j k x ps sp} (h:FnInF P w K mg base j x ps sp) (hk:j<=k:=by decide):FnInF P w K mg base k x ps sp:=h.mono hk
theorem _root_.L2.FnInM.m {P w K mg base j k x ps sp} (h:FnInM P w K mg base j x ps sp) (hk:j<=k:=by decide):FnInM P w K mg base k x ps sp:=h.mono hk
theorem _root_.L2.FnInP.m {P w K mg base j k x ps sp} (h:FnInP P w K mg base j x ps sp) (hk:j<=k:=by decide):FnInP P w K mg base k x ps sp:=h.mono hk
theorem _root_.L2.FnInO.m {P w K mg base j k x ps sp} (h:FnInO P w K mg base j x ps sp) (hk:j<=k:=by decide):FnInO P w K mg base k x ps sp:=h.mono hk
theorem _root_.L2.FnInN.m {P w K mg base j k x ps sp} (h:FnInN P w K mg base j x ps sp) (hk:j<=k:=by decide):FnInN P w K mg base k x ps sp:=h.mono hk
theorem xf1 {K:PySem.W.Frag} {h:Heap} {mg:Str->Option Value} {x:Str} {st:Stmt} {f:uR} {od an:Option uR} {sl:Array (Option Value)} {oc kV dc pm cd ct:Value} (X:K.In h) (G:h.Ns u9 mg) (a:FD K x st f od an sl oc kV dc pm cd ct) {p0:Str} (hb:∀ (kV doc pm:Value) (an:Option uR) (cdv ct:Value) (u0:Value),bindArgs (wV x x (yt st) (zU st) (zh st) .none kV doc pm an cdv ct) ⟨[u0],[]⟩=pure ([p0].zip [u0])):Def K mg x st [p0]:=sG X G a (fun _ _ _ _ _ _ us hl=>by
  rcases us with _ | ⟨u0,_ | ⟨z,zs⟩⟩ <;> first | exact hb _ _ _ _ _ _ _ | (simp at hl))
theorem xf2 {K:PySem.W.Frag} {h:Heap} {mg:Str->Option Value} {x:Str} {st:Stmt} {f:uR} {od an:Option uR} {sl:Array (Option Value)} {oc kV dc pm cd ct:Value} (X:K.In h) (G:h.Ns u9 mg) (a:FD K x st f od an sl oc kV dc pm cd ct) {p0 p1:Str} (hb:∀ (kV doc pm:Value) (an:Option uR) (cdv ct:Value) (u0 u1:Value),bindArgs (wV x x (yt st) (zU st) (zh st) .none kV doc pm an cdv ct) ⟨[u0,u1],[]⟩=pure ([p0,p1].zip [u0,u1])):Def K mg x st [p0,p1]:=sG X G a (fun _ _ _ _ _ _ us hl=>by
  rcases us with _ | ⟨u0,_ | ⟨u1,_ | ⟨z,zs⟩⟩⟩ <;> first | exact hb _ _ _ _ _ _ _ _ | (simp at hl))
set_option autoImplicit true in
set_option relaxedAutoImplicit true in
theorem all_mk {l:PySem.W.OpenLaw} {w:World} {K:uQ} {h:Heap} {mg:Str->Option Value} {fa:uR} (X:K.In h) (G:h.Ns u9 mg) (hfa:mg "law"=some (.ref fa))
  (a12:FD K "ask_table" jq f12 od12 an12 sl12 oc12 kV12 dc12 pm12 cd12 ct12)
  (a13:FD K "fits" dg f13 od13 an13 sl13 oc13 kV13 dc13 pm13 cd13 ct13)
  (a14:FD K "is_row" aa f14 od14 an14 sl14 oc14 kV14 dc14 pm14 cd14 ct14)
  (a64:FD K "show_table" jC f64 od64 an64 sl64 oc64 kV64 dc64 pm64 cd64 ct64)
  (a68:FD K "read_table" jD f68 od68 an68 sl68 oc68 kV68 dc68 pm68 cd68 ct68)
  (a69:FD K "is_number" jZ f69 od69 an69 sl69 oc69 kV69 dc69 pm69 cd69 ct69)
  (a93:FD K "read_row" qy f93 od93 an93 sl93 oc93 kV93 dc93 pm93 cd93 ct93)
  (a94:FD K "has_form" qz f94 od94 an94 sl94 oc94 kV94 dc94 pm94 cd94 ct94)
  (a100:FD K "tell_table" jE f100 od100 an100 sl100 oc100 kV100 dc100 pm100 cd100 ct100)
  (a113:FD K "_law_feed" qA f113 od113 an113 sl113 oc113 kV113 dc113 pm113 cd113 ct113)
  (a114:FD K "_law_draw" qB f114 od114 an114 sl114 oc114 kV114 dc114 pm114 cd114 ct114)
  (a115:FD K "_law_signs" j4 f115 od115 an115 sl115 oc115 kV115 dc115 pm115 cd115 ct115)
  (a116:FD K "_law_word" qC f116 od116 an116 sl116 oc116 kV116 dc116 pm116 cd116 ct116)
  (a117:FD K "_law_text" qD f117 od117 an117 sl117 oc117 kV117 dc117 pm117 cd117 ct117)
  (a118:FD K "_law_spoilt" jF f118 od118 an118 sl118 oc118 kV118 dc118 pm118 cd118 ct118)
  (a119:FD K "_law_number" jG f119 od119 an119 sl119 oc119 kV119 dc119 pm119 cd119 ct119)
  (a120:FD K "_law_table_due" yV f120 od120 an120 sl120 oc120 kV120 dc120 pm120 cd120 ct120)
  (a121:FD K "_law_due" vo f121 od121 an121 sl121 oc121 kV121 dc121 pm121 cd121 ct121)
  (a122:FD K "_law_alone" j5 f122 od122 an122 sl122 oc122 kV122 dc122 pm122 cd122 ct122)
  (a123:FD K "_law_told" qE f123 od123 an123 sl123 oc123 kV123 dc123 pm123 cd123 ct123)
  (a124:FD K "law" aW f124 od124 an124 sl124 oc124 kV124 dc124 pm124 cd124 ct124)
  {ubW:Tok} (ua5:we K u9 "FEWEST"=some (some (.int (2) ubW)))
  {ubX:Tok} (ua6:we K u9 "MOST"=some (some (.int (7) ubX)))
  {ubY:Tok} (ua7:we K u9 "LEAST"=some (some (.int (-1000000000) ubY)))
  {ubZ:Tok} (ua8:we K u9 "GREATEST"=some (some (.int (1000000000) ubZ)))
  {ub0:Tok} (ua9:we K u9 "MOST_FIGURES"=some (some (.int (11) ub0)))
  {ub1:Tok} (uba:we K u9 "FIGURES"=some (some (.str ("0123456789") ub1)))
  (ubb:we K u9 "len"=some none)
  (ubc:we K u9 "min"=some none)
  (ubd:we K u9 "max"=some none)
  (ube:we K u9 "enumerate"=some none)
  (ubf:we K u9 "all"=some none)
  (ubg:we K u9 "int"=some none)
  (ubh:we K u9 "str"=some none)
  (ubi:we K u9 "range"=some none)
  (ubj:we K u9 "zip"=some none)
  (ubk:we K u9 "isinstance"=some none)
  (ubl:we K u9 "any"=some none)
  (ubm:we K u9 "ValueError"=some none)
  (ubn:we K u9 "abs"=some none)
  (ubo:we K u9 "bool"=some none)
  {uaa:uR} (ubp:we K u9 "NoTable"=some (some (.ref uaa)))
  {uab:uR} (ubq:we K u9 "NoText"=some (some (.ref uab)))
  {uaK:uR} (ubr:we K u9 "FORMS"=some (some (.ref uaK)))
  {uaB:uR} (ubs:we K u9 "ANSWERS"=some (some (.ref uaB)))
  {uaC:uR} (ubt:we K u9 "tell_table"=some (some (.ref uaC)))
  {uan:uR} (ubu:we K u9 "NoPoint"=some (some (.ref uan)))
  {uao:uR} (ubv:we K u9 "NoGate"=some (some (.ref uao)))
  {uap:uR} (ubw:we K u9 "NoRing"=some (some (.ref uap)))
  {uaq:uR} (ubx:we K u9 "TooSteep"=some (some (.ref uaq)))
  {uar:uR} (uby:we K u9 "NoWeb"=some (some (.ref uar)))
  {uas:uR} (ubz:we K u9 "NoBack"=some (some (.ref uas)))
  {uat:uR} (ubA:we K u9 "NoRow"=some (some (.ref uat)))
  {uau:uR} (ubB:we K u9 "NoDeed"=some (some (.ref uau)))
  {uav:uR} (ubC:we K u9 "HeightError"=some (some (.ref uav)))
  {uad:uR} (ubD:we K u9 "Desk"=some (some (.ref uad)))
  {fI_NoTable:uR} {odI_NoTable anI_NoTable:Option uR} {slI_NoTable:Array (Option Value)} {ocI_NoTable kVI_NoTable dcI_NoTable pmI_NoTable cdI_NoTable ctI_NoTable:Value} (ii_NoTable:wx K (.ref uaa) "__init__"=some (some (.ref fI_NoTable)))
  (li_NoTable:K.lookup fI_NoTable=some ⟨ocI_NoTable,odI_NoTable,.func (wV "__init__" "NoTable.__init__" (yt ji) (zU ji) (zh ji) .none kVI_NoTable dcI_NoTable pmI_NoTable anI_NoTable cdI_NoTable ctI_NoTable),slI_NoTable⟩) (ci_NoTable:xc K cdI_NoTable "NoTable.__init__"=true) (ki_NoTable:wF K (.ref fI_NoTable)=true) (fi_NoTable:qh K uaa fI_NoTable uav "at"=true)
  {fI_NoText:uR} {odI_NoText anI_NoText:Option uR} {slI_NoText:Array (Option Value)} {ocI_NoText kVI_NoText dcI_NoText pmI_NoText cdI_NoText ctI_NoText:Value} (ii_NoText:wx K (.ref uab) "__init__"=some (some (.ref fI_NoText)))
  (li_NoText:K.lookup fI_NoText=some ⟨ocI_NoText,odI_NoText,.func (wV "__init__" "NoText.__init__" (yt jK) (zU jK) (zh jK) .none kVI_NoText dcI_NoText pmI_NoText anI_NoText cdI_NoText ctI_NoText),slI_NoText⟩) (ci_NoText:xc K cdI_NoText "NoText.__init__"=true) (ki_NoText:wF K (.ref fI_NoText)=true) (fi_NoText:qh K uab fI_NoText uav "line"=true)
  {fM_say:uR} {odM_say anM_say:Option uR} {slM_say:Array (Option Value)} {ocM_say kVM_say dcM_say pmM_say cdM_say ctM_say:Value} (iM_say:wx K (.ref uad) "say"=some (some (.ref fM_say))) (lM_say:K.lookup fM_say=some ⟨ocM_say,odM_say,.func (wV "say" "Desk.say" (yt jh) (zU jh) (zh jh) .none kVM_say dcM_say pmM_say anM_say cdM_say ctM_say),slM_say⟩) (cM_say:xc K cdM_say "Desk.say"=true) (kM_say:wF K (.ref fM_say)=true) (nM_say:Ax K (.ref fM_say)=true)
  {fM_init:uR} {odM_init anM_init:Option uR} {slM_init:Array (Option Value)} {ocM_init kVM_init dcM_init pmM_init cdM_init ctM_init:Value} (iM_init:wx K (.ref uad) "__init__"=some (some (.ref fM_init))) (lM_init:K.lookup fM_init=some ⟨ocM_init,odM_init,.func (wV "__init__" "Desk.__init__" (yt yZ) (zU yZ) (zh yZ) .none kVM_init dcM_init pmM_init anM_init cdM_init ctM_init),slM_init⟩) (cM_init:xc K cdM_init "Desk.__init__"=true) (kM_init:wF K (.ref fM_init)=true) (nM_init:Ax K (.ref fM_init)=true)
  (kSS:uU K (.type "str") (.type "str")=some true)
  (q_form:g8 K uaK "table" [""]=true)
  (q_desk:vn K uad=true)
  (q_ans:og K uaB "table" (.ref uaC)=true)
  (uax:jY K uaa=true)
  (ktv:uU K (.ref uaa) (.type "ValueError")=some true)
  (kt1:uU K (.ref uaa) (.ref uan)=some false)
  (kt2:uU K (.ref uaa) (.ref uao)=some false)
  (kt3:uU K (.ref uaa) (.ref uap)=some false)
  (kt4:uU K (.ref uaa) (.ref uaq)=some false)
  (kt5:uU K (.ref uaa) (.ref uar)=some false)
  (kt6:uU K (.ref uaa) (.ref uas)=some false)
  (kt8:uU K (.ref uaa) (.ref uat)=some false)
  (kt9:uU K (.ref uaa) (.ref uau)=some false)
  (uay:jY K uab=true)
  (kxv:uU K (.ref uab) (.type "ValueError")=some true)
  (kx1:uU K (.ref uab) (.ref uan)=some false)
  (kx2:uU K (.ref uab) (.ref uao)=some false)
  (kx3:uU K (.ref uab) (.ref uap)=some false)
  (kx4:uU K (.ref uab) (.ref uaq)=some false)
  (kx5:uU K (.ref uab) (.ref uar)=some false)
  (kx6:uU K (.ref uab) (.ref uas)=some false)
  (kx8:uU K (.ref uab) (.ref uat)=some false)
  (kx9:uU K (.ref uab) (.ref uau)=some false)
  (eh:Aq K (.ref uaa) (.ref uav)=some true)
  (ex:Aq K (.ref uab) (.ref uav)=some true)
  (ktt:uU K (.ref uaa) (.ref uaa)=some true)
  (ktx:uU K (.ref uaa) (.ref uab)=some false)
  (kxx:uU K (.ref uab) (.ref uab)=some true)
  (kxt:uU K (.ref uab) (.ref uaa)=some false)
  (kB:uU K (.type "int") (.type "bool")=some false)
  (kL:uU K (.type "list") (.type "bool")=some false) :
  ∃ fd:FuncData,(∀ (s:Shared) (v:Value),BindsTo s fd ⟨[v],[]⟩ [("_law_script",v)])/\∀ base:Heap,K.In base->base.Ns u9 mg->FnOk l.prog w K mg base CX0 12 fa fd pJ (ij K):=by
 have ubF:Def K mg "ask_table" jq pd:=xf1 X G a12 (fun _ _ _ _ _ _ _=>rfl);have ub2:Def K mg "fits" dg pA:=xf1 X G a13 (fun _ _ _ _ _ _ _=>rfl);have ub3:Def K mg "is_row" aa pj:=xf1 X G a14 (fun _ _ _ _ _ _ _=>rfl);have ub4:Def K mg "show_table" jC pd:=xf1 X G a64 (fun _ _ _ _ _ _ _=>rfl);have ub5:Def K mg "read_table" jD ["text"]:=xf1 X G a68 (fun _ _ _ _ _ _ _=>rfl);have ub6:Def K mg "is_number" jZ pk:=xf1 X G a69 (fun _ _ _ _ _ _ _=>rfl);have ub7:Def K mg "read_row" qy ["line"]:=xf1 X G a93 (fun _ _ _ _ _ _ _=>rfl);have ub8:Def K mg "has_form" qz pB:=xf2 X G a94 (fun _ _ _ _ _ _ _ _=>rfl);have ub9:Def K mg "tell_table" jE pD:=xf2 X G a100 (fun _ _ _ _ _ _ _ _=>rfl);have uca:Def K mg "_law_feed" qA pF:=xf2 X G a113 (fun _ _ _ _ _ _ _ _=>rfl);have ucb:Def K mg "_law_draw" qB pC:=xf2 X G a114 (fun _ _ _ _ _ _ _ _=>rfl);have ucc:Def K mg "_law_signs" j4 []:=sG X G a115 (fun _ _ _ _ _ _ us hl=>match us,hl with | [],_=>rfl);have ucd:Def K mg "_law_word" qC pf:=xf1 X G a116 (fun _ _ _ _ _ _ _=>rfl);have uce:Def K mg "_law_text" qD pf:=xf1 X G a117 (fun _ _ _ _ _ _ _=>rfl);have ucf:Def K mg "_law_spoilt" jF pG:=xf2 X G a118 (fun _ _ _ _ _ _ _ _=>rfl);have ucg:Def K mg "_law_number" jG pq:=xf1 X G a119 (fun _ _ _ _ _ _ _=>rfl);have uch:Def K mg "_law_table_due" yV pH:=xf1 X G a120 (fun _ _ _ _ _ _ _=>rfl);have uci:Def K mg "_law_due" vo ph:=xf1 X G a121 (fun _ _ _ _ _ _ _=>rfl);have ucj:Def K mg "_law_alone" j5 pI:=xf1 X G a122 (fun _ _ _ _ _ _ _=>rfl);have uck:Def K mg "_law_told" qE ph:=xf1 X G a123 (fun _ _ _ _ _ _ _=>rfl);have ucl:Def K mg "law" aW pJ:=xf1 X G a124 (fun _ _ _ _ _ _ _=>rfl);have uaD:=wI X G ua5;have uaE:=wI X G ua6;have uaF:=wI X G ua7;have uaG:=wI X G ua8;have uaI:=wI X G ua9;have uaJ:=wI X G uba;have uac:=wU X G ubb;have uak:=wU X G ubc;have ual:=wU X G ubd;have uai:=wU X G ube;have uam:=wU X G ubf;have uag:=wU X G ubg;have uah:=wU X G ubh;have uaj:=wU X G ubi;have uaP:=wU X G ubj;have uae:=wU X G ubk;have uaA:=wU X G ubl;have uaS:=wU X G ubm;have ua2:=wU X G ubn;have ua3:=wU X G ubo;have uaw:=wI X G ubp;have uaz:=wI X G ubq;have uaQ:=wI X G ubr;have uaM:=wI X G ubs;have uaR:=wI X G ubt;have uaT:=wI X G ubu;have uaU:=wI X G ubv;have uaV:=wI X G ubw;have uaW:=wI X G ubx;have uaX:=wI X G uby;have uaY:=wI X G ubz;have uaZ:=wI X G ubA;have ua0:=wI X G ubB;have uaL:=wI X G ubC;have ua1:=wI X G ubD;have e:=hfa.symm.trans (wI X G a124.1);cases e;have F0:=vD (st:=aW) a124.2.1 a124.2.2.1 a124.2.2.2;refine⟨wV "law" "law" (yt aW) (zU aW) (zh aW) .none kV124 dc124 pm124 an124 cd124 ct124,fun s v=>.of_eq rfl,fun base _ _=>?_⟩;have I_NoTable:=bf (P:=l.prog) (w:=w) (base:=base) fi_NoTable uaL (vD (st:=ji) li_NoTable ci_NoTable ki_NoTable);have I_NoText:=b3 (P:=l.prog) (w:=w) (base:=base) fi_NoText uaL (vD (st:=jK) li_NoText ci_NoText ki_NoText);have D_say:DefM K uad "say" "Desk.say" jh pw:=g9 iM_say lM_say cM_say kM_say nM_say (fun _ _ _ _ _ _ us hl=>match us,hl with | [_,_],_=>rfl);have D_init:DefM K uad "__init__" "Desk.__init__" yZ pE:=g9 iM_init lM_init cM_init kM_init nM_init (fun _ _ _ _ _ _ us hl=>match us,hl with | [_,_],_=>rfl);have H0:=oT (P:=l.prog) (w:=w) (base:=base) (k:=0) uca uac ua2;have H1:=oE (P:=l.prog) (w:=w) (base:=base) (k:=0) ucb;have H2:=mH (P:=l.prog) (w:=w) (base:=base) (k:=0) ub6 uac uam ⟨_,uaI⟩ ⟨_,uaJ⟩;have H3:=oC (P:=l.prog) (w:=w) (base:=base) (k:=0) ub2 uac ⟨_,uaD⟩ ⟨_,uaE⟩;have H4:=eU (P:=l.prog) (w:=w) (base:=base) (k:=0) ub8 uac uam uaP;have H5:=mY (P:=l.prog) (w:=w) (base:=base) (k:=0) ucj uae uaA uaS uaT uaU uaV uaW uaX uaY uaZ ua0 uax ktv kt1 kt2 kt3 kt4 kt5 kt6 kt8 kt9 uay kxv kx1 kx2 kx3 kx4 kx5 kx6 kx8 kx9;have H6:=kr (P:=l.prog) (w:=w) (base:=base) (k:=0) ucg uac uag;have H7:=oK (P:=l.prog) (w:=w) (base:=base) (k:=0) uch uac uaj ual uak;have H8:=mK (P:=l.prog) (w:=w) (base:=base) (k:=0) ucc;have H9:=oV (k:=1) ucd uah H1.m;have H10:=kl (k:=1) ub3 uak ual ⟨_,uaF⟩ ⟨_,uaG⟩ H3.m;have H11:=eV (k:=1) ub7 uae uah uaA uag uac uaQ kSS q_form H4.m;have H12:=tG (k:=1) uci uai H6.m H7.m;have H13:=kq (k:=1) ucf uac H1.m H8.m;have H14:=oH (k:=2) uce uah uag uaj H1.m H9.m;have H15:=tB (k:=2) ubF uac uai H3.m H10.m;have H16:=oM (k:=3) ub4 uah H15.m;have H17:=oG (k:=2) ubF uac uai uaw I_NoTable H3.m H10.m;have H18:=oN (k:=4) ub9 H16.m;have H19:=tI (k:=5) D_say q_desk uaM uaR q_ans H11.m H18.m;have H20:=mI (k:=5) ub5 uai uam uag uaz I_NoText H2.m H17.m;have H21:=m7 (k:=8) D_init q_desk H20.m;have H22:=oQ (k:=9) uck uae uaL uaz uaw I_NoTable I_NoText uax uay eh ex ktt ktx kxx kxt uag ua1 q_desk H21.m H19.m H5.m;exact tK (k:=11) F0 uac uaj ual uak uae ua3 kB kL H0.m H14.m H22.m H12.m H13.m
theorem walk {l:PySem.W.OpenLaw} {q:Program} {loose:List Str} {XP:(Str->Option Value)->Heap->Prop} {YP:World->Heap->Prop} {d:DefRec} {K:Params->uQ} (ts:List (uR×Str)) (hn:l.most=some 63) (hdf:d.params.defaults=[])
  (hY:∀ (w:World) (h:Heap),YP w h->(K w.params).In h/\∀ p∈ts,h.get? p.1=some (Bf #[])) (hB:∀ w:World,v8 (K w.params) ts=true)
  (F:∀ (w:World) (mg:Str->Option Value) (fa:uR) (h:Heap),(K w.params).In h->h.Ns u9 mg->mg d.name=some (.ref fa) ->
   ∃ fd:FuncData,(∀ (s:Shared) (u:Value),BindsTo s fd ⟨[u],[]⟩ [("_law_script",u)])/\∀ base:Heap,(K w.params).In base->base.Ns u9 mg->FnOk l.prog w (K w.params) mg base CX0 12 fa fd pJ (ij (K w.params))) :
  PySem.W.WalkO q loose XP YP l.row.toRowW d [] (fun f vs=>PySem.call f vs) :=
 L2.walk_T (n:=63) (k:=12) (x:="_law_script") (CX:=fun _=>CX0) (sp:=fun w=>ij (K w.params)) ts hn (by decide) hdf ⟨rfl,by decide,by decide⟩ hY hB F (fun _ _ a ns hl hS=>⟨a,ns,rfl,hS,hl,fun _=>rfl⟩) fun _ _ _ _ _ z=>z
end My
namespace PySem.W.Fast
def tw10010032366041919436:Nat:=0
def tw10011845552950747462:Nat:=0
def tw10175847459344970668:Nat:=0
def tw1021488900277280532:Nat:=0
def tw10261285458743602877:Nat:=0
def tw10286048315120583235:Nat:=0
def tw10322107522416265222:Nat:=0
def tw10360184898100034496:Nat:=0
def tw10434962721229759451:Nat:=0
def tw10549262524237313756:Nat:=0
def tw10566109645651944387:Nat:=0
def tw10568232971724987453:Nat:=0
def tw10646139202549178502:Nat:=0
def tw10726403732728102858:Nat:=0
def tw10728341824770336028:Nat:=0
def tw10786403925608391192:Nat:=0
def tw10920918006388294525:Nat:=0
def tw10950740614786211315:Nat:=0
def tw11001484981492570681:Nat:=0
def tw11011270215787877097:Nat:=0
def tw11019142771899677081:Nat:=0
def tw11031537690404524630:Nat:=0
def tw11033704857029258682:Nat:=0
def tw11053786881661069612:Nat:=0
def tw11140432723764882747:Nat:=0
def tw11324231923905483356:Nat:=0
def tw11328902503526658752:Nat:=0
def tw11387485090427543576:Nat:=0
def tw11459428130425715368:Nat:=0
def tw11529985943302502735:Nat:=0
def tw11597688545916859090:Nat:=0
def tw11632626951895619347:Nat:=0
def tw11665199984650536624:Nat:=0
def tw11752201017127020802:Nat:=0
def tw11763653589024300989:Nat:=0
def tw11860471742627962089:Nat:=0
def tw11877914204967922808:Nat:=0
def tw11938555018873124242:Nat:=0
def tw11992308130281002981:Nat:=0
def tw12005610298726411841:Nat:=0
def tw12029217528683590287:Nat:=0
def tw12108283984020057773:Nat:=0
def tw12117424294907923421:Nat:=0
def tw12159057296669047460:Nat:=0
def tw12196400780335331697:Nat:=0
def tw12216286896423023407:Nat:=0
def tw12245772309701937135:Nat:=0
def tw12246694614016524940:Nat:=0
def tw12259924431251231838:Nat:=0
def tw1237931031020579105:Nat:=0
def tw12486296558781686690:Nat:=0
def tw12497473622036524155:Nat:=0
def tw12557594264253679677:Nat:=0
def tw12622463352598051396:Nat:=0
def tw12652054905139943698:Nat:=0
def tw12701898220246775214:Nat:=0
def tw12755188291387156971:Nat:=0
def tw1279692450395310110:Nat:=0
def tw12801486436002131195:Nat:=0
def tw12851045674196606283:Nat:=0
def tw12855825744711394386:Nat:=0
def tw12894960746263978506:Nat:=0
def tw12917447025546131921:Nat:=0
def tw13045932838727305017:Nat:=0
def tw13195732150484729093:Nat:=0
def tw13199922735156988836:Nat:=0
def tw13206810133077408763:Nat:=0
def tw13232296076553302068:Nat:=0
def tw13233259193192856165:Nat:=0
def tw13261905045401781587:Nat:=0
def tw13269279216726831005:Nat:=0
def tw13299653329319754872:Nat:=0
def tw13335788439317540728:Nat:=0
def tw13357526433445970399:Nat:=0
def tw13364144302159849912:Nat:=0
def tw13441295078919443874:Nat:=0
def tw13461354260048983430:Nat:=0
def tw13461874597970414227:Nat:=0
def tw13483468893039699043:Nat:=0
def tw13487561035520949721:Nat:=0
def tw13649183337407685970:Nat:=0
def tw13697896219182223451:Nat:=0
def tw13742119184085367254:Nat:=0
def tw13814731910570673465:Nat:=0
def tw13825118821675970137:Nat:=0
def tw13878075046820972508:Nat:=0
def tw13902346020470082774:Nat:=0
def tw1400873073994578175:Nat:=0
def tw14017790613163712990:Nat:=0
def tw14044594918848572707:Nat:=0
def tw14049970703218361026:Nat:=0
def tw14082973424425232756:Nat:=0
def tw14104698986651861738:Nat:=0
def tw14121357606481467676:Nat:=0
def tw14140902306735884377:Nat:=0
def tw14185448890664044469:Nat:=0
def tw1420759138872603109:Nat:=0
def tw14232136666219961265:Nat:=0
def tw14316319666214951488:Nat:=0
def tw14330947950554135496:Nat:=0
def tw14448882078218308269:Nat:=0
def tw14472627030640685401:Nat:=0
def tw14496312968085072578:Nat:=0
def tw14504813715320922994:Nat:=0
def tw14526596515439449568:Nat:=0
def tw14539788665634844303:Nat:=0
def tw14614886386987834456:Nat:=0
def tw14622545219058253343:Nat:=0
def tw14721687315355238274:Nat:=0
def tw14722349430895026200:Nat:=0
def tw14851859326641105800:Nat:=0
def tw14854302014205401460:Nat:=0
def tw14938847763222845002:Nat:=0
def tw14977946962336634912:Nat:=0
def tw14986599075422466079:Nat:=0
def tw14995770577748995130:Nat:=0
def tw15038693813174337247:Nat:=0
def tw15040130161467837270:Nat:=0
def tw15088056300458685155:Nat:=0
def tw15113312797923283341:Nat:=0
def tw15124219262510165309:Nat:=0
def tw15160234851134614548:Nat:=0
def tw1523286587740665804:Nat:=0
def tw1523328236259300582:Nat:=0
def tw15243543928690412084:Nat:=0
def tw15303760818142343051:Nat:=0
def tw15315561886527352062:Nat:=0
def tw15331320759388898946:Nat:=0
def tw15350691602175500551:Nat:=0
def tw1535241747972855361:Nat:=0
def tw15439038208033755187:Nat:=0
def tw1544062999369927063:Nat:=0
def tw15598001556490468010:Nat:=0
def tw15716963123945318004:Nat:=0
def tw15732130040300882753:Nat:=0
def tw15754338626060711585:Nat:=0
def tw15832340828634483681:Nat:=0
def tw15861044407086229763:Nat:=0
def tw15866037139760904035:Nat:=0
def tw15904942686734440578:Nat:=0
def tw15948884638869642107:Nat:=0
def tw15992770415692440442:Nat:=0
def tw16040194141441938122:Nat:=0
def tw16174351960228353252:Nat:=0
def tw16271435427656595321:Nat:=0
def tw16310272263541219393:Nat:=0
def tw16323580346886213695:Nat:=0
def tw16344764310226678679:Nat:=0
def tw16365053530971918910:Nat:=0
def tw16393643029709080264:Nat:=0
def tw16420866251760569863:Nat:=0
def tw16421748790727094657:Nat:=0
def tw16435276462236145102:Nat:=0
def tw16437675508423380879:Nat:=0
def tw16450665483236665453:Nat:=0
def tw16475694777748588093:Nat:=0
def tw16501058876557026103:Nat:=0
def tw16518736184154603969:Nat:=0
def tw16663667504186247694:Nat:=0
def tw16677847392939255860:Nat:=0
def tw16683188457752217807:Nat:=0
def tw16725817089833613076:Nat:=0
def tw1672817441739090554:Nat:=0
def tw16769438844954344743:Nat:=0
def tw16775650510920281657:Nat:=0
def tw16803551562394962013:Nat:=0
def tw16827513412476651065:Nat:=0
def tw16842438147083463779:Nat:=0
def tw16846223876799847294:Nat:=0
def tw16850482347734108852:Nat:=0
def tw16940637747991488642:Nat:=0
def tw17018233990293570984:Nat:=0
def tw17108880849053901233:Nat:=0
def tw17157888195705951741:Nat:=0
def tw17181409371109210612:Nat:=0
def tw17191191019883115094:Nat:=0
def tw17221848120347606617:Nat:=0
def tw17289745352505645964:Nat:=0
def tw1733172838151597165:Nat:=0
def tw17350683872561240225:Nat:=0
def tw17365548184338369257:Nat:=0
def tw17372505332312103001:Nat:=0
def tw17478033092452400659:Nat:=0
def tw17501642618028428842:Nat:=0
def tw17544009323568451354:Nat:=0
def tw17560237875221096703:Nat:=0
def tw1759488995172842142:Nat:=0
def tw17601734679084230918:Nat:=0
def tw17652290203615751952:Nat:=0
def tw17756715549348417595:Nat:=0
def tw17776706175082691198:Nat:=0
def tw17832074013127373018:Nat:=0
def tw17879459004349697170:Nat:=0
def tw17932200522640877249:Nat:=0
def tw17981105104939191199:Nat:=0
def tw18101279623949122838:Nat:=0
def tw18221266150513929537:Nat:=0
def tw18287221872228275456:Nat:=0
def tw18352388965268931755:Nat:=0
def tw18417723308372844864:Nat:=0
def tw1899105480891916784:Nat:=0
def tw1949986988583269638:Nat:=0
def tw1988247557846367893:Nat:=0
def tw1992498502793175332:Nat:=0
def tw2028677460782095603:Nat:=0
def tw2097499470092777860:Nat:=0
def tw2105034338165124343:Nat:=0
def tw2114087705082353524:Nat:=0
def tw2150823591332796394:Nat:=0
def tw2155190843510351138:Nat:=0
def tw2230568976016758359:Nat:=0
def tw2283489413011525639:Nat:=0
def tw2305534925782727497:Nat:=0
def tw2330716159740932974:Nat:=0
def tw2568269122530675260:Nat:=0
def tw2579269519388005018:Nat:=0
def tw258180925218314154:Nat:=0
def tw259124454099473738:Nat:=0
def tw2641870103078966011:Nat:=0
def tw2758970881864206911:Nat:=0
def tw2835042641052098330:Nat:=0
def tw2858803314565374136:Nat:=0
def tw2913290021239377516:Nat:=0
def tw3013096563057367862:Nat:=0
def tw3044374946686117111:Nat:=0
def tw3195402765510684730:Nat:=0
def tw3267492497615257435:Nat:=0
def tw3294888999792579132:Nat:=0
def tw3322223801857858946:Nat:=0
def tw3324952681914227987:Nat:=0
def tw3334557623565106156:Nat:=0
def tw3336886918335017990:Nat:=0
def tw3344177050298543601:Nat:=0
def tw3386501173142015478:Nat:=0
def tw3416395255196172770:Nat:=0
def tw3482403563960112011:Nat:=0
def tw3566874704427749372:Nat:=0
def tw3647890781077619548:Nat:=0
def tw3675045544466202998:Nat:=0
def tw3710545701542078349:Nat:=0
def tw3762143464874839755:Nat:=0
def tw3828235502235155797:Nat:=0
def tw3875933012230400201:Nat:=0
def tw402819980966200611:Nat:=0
def tw4111139214546462349:Nat:=0
def tw4214243518893466661:Nat:=0
def tw4252151515689070078:Nat:=0
def tw4261024230665535515:Nat:=0
def tw4309341286931044683:Nat:=0
def tw4369753650671809962:Nat:=0
def tw4373215419637262841:Nat:=0
def tw4458811244744945397:Nat:=0
def tw4480329499798932089:Nat:=0
def tw453415176398099342:Nat:=0
def tw4557620786950100246:Nat:=0
def tw4595687765628510210:Nat:=0
def tw4607100142068372155:Nat:=0
def tw4687263079489716331:Nat:=0
def tw4744524937149855242:Nat:=0
def tw492042335079866140:Nat:=0
def tw4938977517997091919:Nat:=0
def tw4940280154823055603:Nat:=0
def tw4976189994933578991:Nat:=0
def tw497703721464118922:Nat:=0
def tw5032579710631670415:Nat:=0
def tw5074750704500003741:Nat:=0
def tw5136670074152668760:Nat:=0
def tw5140628690649315409:Nat:=0
def tw5333045178314277402:Nat:=0
def tw5422502246348451019:Nat:=0
def tw5476026504616960236:Nat:=0
def tw5524775319806304737:Nat:=0
def tw5572846129085488353:Nat:=0
def tw5579192446854003185:Nat:=0
def tw5616018953495013907:Nat:=0
def tw5680805408324146102:Nat:=0
def tw5731306206040300107:Nat:=0
def tw5761439393304393733:Nat:=0
def tw585425961373353651:Nat:=0
def tw5876390525272461490:Nat:=0
def tw5910835827871852479:Nat:=0
def tw5914746050615787462:Nat:=0
def tw5957827011238795716:Nat:=0
def tw5986291267644066127:Nat:=0
def tw5992010244308455056:Nat:=0
def tw6102900965851012234:Nat:=0
def tw6159085106650812214:Nat:=0
def tw6194305394449609724:Nat:=0
def tw6355958662029973573:Nat:=0
def tw6409605719164966795:Nat:=0
def tw6424281707394618616:Nat:=0
def tw6436413417330281750:Nat:=0
def tw6449325892394513798:Nat:=0
def tw6506317708601782675:Nat:=0
def tw6515735878824810635:Nat:=0
def tw6519580036457047797:Nat:=0
def tw6584164905217009332:Nat:=0
def tw6621359477405063262:Nat:=0
def tw6688423256414414944:Nat:=0
def tw6756391164404929910:Nat:=0
def tw6835044079994044058:Nat:=0
def tw6925588668746811651:Nat:=0
def tw6941995437339946378:Nat:=0
def tw6982986711715223571:Nat:=0
def tw6986803861030294003:Nat:=0
def tw7011641876258680415:Nat:=0
def tw7055018985309365274:Nat:=0
def tw7057246075840862632:Nat:=0
def tw7097186348765860813:Nat:=0
def tw7176889144099594771:Nat:=0
def tw7198200654960140774:Nat:=0
def tw7199293224742482639:Nat:=0
def tw726163901335534206:Nat:=0
def tw729712159444511033:Nat:=0
def tw7300893538764661522:Nat:=0
def tw7321697763167520347:Nat:=0
def tw7326327206266029806:Nat:=0
def tw7366941076584156190:Nat:=0
def tw7510037369507055157:Nat:=0
def tw7537817399326993630:Nat:=0
def tw7540602513415174620:Nat:=0
def tw7542176647853897381:Nat:=0
def tw7714828303215194273:Nat:=0
def tw7715573946264424559:Nat:=0
def tw7770959274033312335:Nat:=0
def tw7783550794163075635:Nat:=0
def tw7790922709340326668:Nat:=0
def tw7825735410102139565:Nat:=0
def tw7845028495299994633:Nat:=0
def tw7856044188163901485:Nat:=0
def tw7907091182721964159:Nat:=0
def tw7932332456881348397:Nat:=0
def tw7965688876770164993:Nat:=0
def tw8094509871217593142:Nat:=0
def tw8106511529362000415:Nat:=0
def tw8230291488175420396:Nat:=0
def tw8282107352309348919:Nat:=0
def tw8295524051350001926:Nat:=0
def tw8299708915550866905:Nat:=0
def tw8435035484073334288:Nat:=0
def tw843633533605483778:Nat:=0
def tw8443547523688675829:Nat:=0
def tw84885561599520317:Nat:=0
def tw8497425373440915612:Nat:=0
def tw8539524596345134674:Nat:=0
def tw8616232230923983040:Nat:=0
def tw8640352900128705804:Nat:=0
def tw8695176298018504381:Nat:=0
def tw8708535861637657731:Nat:=0
def tw8753752568749901344:Nat:=0
def tw8775914511524440629:Nat:=0
def tw8845484784893747880:Nat:=0
def tw8856211397262341534:Nat:=0
def tw8888953495572964561:Nat:=0
def tw8924943077125728057:Nat:=0
def tw8962723609117204416:Nat:=0
def tw9011058205334903469:Nat:=0
def tw9032417803368320335:Nat:=0
def tw9047528860019527323:Nat:=0
def tw9054795316327178875:Nat:=0
def tw9066808993989819408:Nat:=0
def tw9085457846605020566:Nat:=0
def tw9099240330458189633:Nat:=0
def tw9134641769516145229:Nat:=0
def tw914472954516245261:Nat:=0
def tw9159845587661873636:Nat:=0
def tw9255488917477663354:Nat:=0
def tw9327106862451141361:Nat:=0
def tw9413946892170654659:Nat:=0
def tw9460487440225690585:Nat:=0
def tw9476794875843219605:Nat:=0
def tw953755874419988965:Nat:=0
def tw9578932881299685610:Nat:=0
def tw9617198100778340413:Nat:=0
def tw9665541495352022280:Nat:=0
def tw9696456114270766232:Nat:=0
def tw9837497377877139576:Nat:=0
def tw9933707811595282046:Nat:=0
def tw9967494513934020461:Nat:=0
end PySem.W.Fast
open PySem PySem.W PyProof.Rows
set_option maxRecDepth 100000 in
set_option maxHeartbeats 0 in
theorem PySem.Challenge.cw_heightrings_k82_desks_of_texts_holds : PySem.Challenge.rw_heightrings_k82_desks_of_texts.Holds := by
 w_on;o_law;k_head;(case hw=>w_witness2)
 k_fill
 refine My.walk (l:=PySem.Challenge.rw_heightrings_k82_desks_of_texts) [(549,L2.lamQ "peaks"),(493,L2.lamQ "pair_beside")] rfl rfl (fun w h Y=>⟨by first | exact PySem.W.kIn_of Y | exact PySem.W.km_in_of Y,fun p hp=>PySem.W.km_tabs_of Y p.1 (A3 (f:=Prod.fst) hp)⟩) (fun w=>by kernel_rfl) ?F
 case F =>
  intro w mg fa h KX G hmg
  refine' My.all_mk KX G hmg ?a12 ?a13 ?a14 ?a64 ?a68 ?a69 ?a93 ?a94 ?a100 ?a113 ?a114 ?a115 ?a116 ?a117 ?a118 ?a119 ?a120 ?a121 ?a122 ?a123 ?a124 ?ua5 ?ua6 ?ua7 ?ua8 ?ua9 ?uba ?ubb ?ubc ?ubd ?ube ?ubf ?ubg ?ubh ?ubi ?ubj ?ubk ?ubl ?ubm ?ubn ?ubo ?ubp ?ubq ?ubr ?ubs ?ubt ?ubu ?ubv ?ubw ?ubx ?uby ?ubz ?ubA ?ubB ?ubC ?ubD ?ii_NoTable ?li_NoTable ?ci_NoTable ?ki_NoTable ?fi_NoTable ?ii_NoText ?li_NoText ?ci_NoText ?ki_NoText ?fi_NoText ?iM_say ?lM_say ?cM_say ?kM_say ?nM_say ?iM_init ?lM_init ?cM_init ?kM_init ?nM_init ?kSS ?q_form ?q_desk ?q_ans ?uax ?ktv ?kt1 ?kt2 ?kt3 ?kt4 ?kt5 ?kt6 ?kt8 ?kt9 ?uay ?kxv ?kx1 ?kx2 ?kx3 ?kx4 ?kx5 ?kx6 ?kx8 ?kx9 ?eh ?ex ?ktt ?ktx ?kxx ?kxt ?kB ?kL
  (case a12=>refine⟨?_,?_,?_,?_⟩ <;> k_is)
  (case a13=>refine⟨?_,?_,?_,?_⟩ <;> k_is)
  (case a14=>refine⟨?_,?_,?_,?_⟩ <;> k_is)
  (case a64=>refine⟨?_,?_,?_,?_⟩ <;> k_is)
  (case a68=>refine⟨?_,?_,?_,?_⟩ <;> k_is)
  (case a69=>refine⟨?_,?_,?_,?_⟩ <;> k_is)
  (case a93=>refine⟨?_,?_,?_,?_⟩ <;> k_is)
  (case a94=>refine⟨?_,?_,?_,?_⟩ <;> k_is)
  (case a100=>refine⟨?_,?_,?_,?_⟩ <;> k_is)
  (case a113=>refine⟨?_,?_,?_,?_⟩ <;> k_is)
  (case a114=>refine⟨?_,?_,?_,?_⟩ <;> k_is)
  (case a115=>refine⟨?_,?_,?_,?_⟩ <;> k_is)
  (case a116=>refine⟨?_,?_,?_,?_⟩ <;> k_is)
  (case a117=>refine⟨?_,?_,?_,?_⟩ <;> k_is)
  (case a118=>refine⟨?_,?_,?_,?_⟩ <;> k_is)
  (case a119=>refine⟨?_,?_,?_,?_⟩ <;> k_is)
  (case a120=>refine⟨?_,?_,?_,?_⟩ <;> k_is)
  (case a121=>refine⟨?_,?_,?_,?_⟩ <;> k_is)
  (case a122=>refine⟨?_,?_,?_,?_⟩ <;> k_is)
  (case a123=>refine⟨?_,?_,?_,?_⟩ <;> k_is)
  (case a124=>refine⟨?_,?_,?_,?_⟩ <;> k_is)
  (case ua5=>k_is)
  (case ua6=>k_is)
  (case ua7=>k_is)
  (case ua8=>k_is)
  (case ua9=>k_is)
  (case uba=>k_is)
  (case ubb=>k_is)
  (case ubc=>k_is)
  (case ubd=>k_is)
  (case ube=>k_is)
  (case ubf=>k_is)
  (case ubg=>k_is)
  (case ubh=>k_is)
  (case ubi=>k_is)
  (case ubj=>k_is)
  (case ubk=>k_is)
  (case ubl=>k_is)
  (case ubm=>k_is)
  (case ubn=>k_is)
  (case ubo=>k_is)
  (case ubp=>k_is)
  (case ubq=>k_is)
  (case ubr=>k_is)
  (case ubs=>k_is)
  (case ubt=>k_is)
  (case ubu=>k_is)
  (case ubv=>k_is)
  (case ubw=>k_is)
  (case ubx=>k_is)
  (case uby=>k_is)
  (case ubz=>k_is)
  (case ubA=>k_is)
  (case ubB=>k_is)
  (case ubC=>k_is)
  (case ubD=>k_is)
  (case ii_NoTable=>k_is)
  (case li_NoTable=>k_is)
  (case ci_NoTable=>k_is)
  (case ki_NoTable=>k_is)
  (case fi_NoTable=>kernel_rfl)
  (case ii_NoText=>k_is)
  (case li_NoText=>k_is)
  (case ci_NoText=>k_is)
  (case ki_NoText=>k_is)
  (case fi_NoText=>kernel_rfl)
  (case iM_say=>k_is)
  (case lM_say=>k_is)
  (case cM_say=>k_is)
  (case kM_say=>k_is)
  (case nM_say=>k_is)
  (case iM_init=>k_is)
  (case lM_init=>k_is)
  (case cM_init=>k_is)
  (case kM_init=>k_is)
  (case nM_init=>k_is)
  (case kSS=>kernel_rfl)
  (case q_form=>kernel_rfl)
  (case q_desk=>kernel_rfl)
  (case q_ans=>kernel_rfl)
  (case uax=>kernel_rfl)
  (case ktv=>kernel_rfl)
  (case kt1=>kernel_rfl)
  (case kt2=>kernel_rfl)
  (case kt3=>kernel_rfl)
  (case kt4=>kernel_rfl)
  (case kt5=>kernel_rfl)
  (case kt6=>kernel_rfl)
  (case kt8=>kernel_rfl)
  (case kt9=>kernel_rfl)
  (case uay=>kernel_rfl)
  (case kxv=>kernel_rfl)
  (case kx1=>kernel_rfl)
  (case kx2=>kernel_rfl)
  (case kx3=>kernel_rfl)
  (case kx4=>kernel_rfl)
  (case kx5=>kernel_rfl)
  (case kx6=>kernel_rfl)
  (case kx8=>kernel_rfl)
  (case kx9=>kernel_rfl)
  (case eh=>kernel_rfl)
  (case ex=>kernel_rfl)
  (case ktt=>kernel_rfl)
  (case ktx=>kernel_rfl)
  (case kxx=>kernel_rfl)
  (case kxt=>kernel_rfl)
  (case kB=>kernel_rfl)
  (case kL=>kernel_rfl)
end
